import PyProof.Rows.All
import Wide.All
import OpenK.AllK
import Wide.FinOn
import PyProof.EqAt
import PyProof.EqKinds
import PyProof.TupleCall
import PyProof.ReprRoads
import HandS.Base
import HandS.Call
import HandS.List
import HandS.Comp
import HandS.Iter
import HandS.Ends
import HandS.Words
import HandS.WordsList
import PyProof.TypeEq
import PyProof.InstEq
import HandS.IsInst
import HandS.Zip
import HandS.Wide
import HandS.Evl
import HandS.Conv
import HandS.RevRange
import PyProof.ReprLen
import PyProof.Rows.RegStrFacts
import HandS.SetFor
import HandS.Strs
import HandS.SortInts
import PyProof.Rows.SortShellAny
import HandS.Dict
import HandS.Finally
import HandS.Exc
import HandS.TryOnly
import HandS.TryMany
import HandS.ExcOwn
import HandS.CallSlots
import HandS.WordsExc
import HandS.SortKw
import HandS.SortRule
import KE.DataMinMax
import HandS.ExcInit
import HandS.ExcIs
import HandS.ExcField
import HandS.HotCalls
import HandS.ExcValue
import KE.KExcSuper
import KE.KSuper
import PyProof.ReprReads
import HandS.DictTup
import HandS.ListItems
import KE.GoesMore
import KE.GoesEnum
import KE.LtSeq
import HandS.WordsDict
import HandS.WideBits
import HandS.Style
import PySem.Challenge.RW_stickyheads_k56_errors_of_shortest_readi
set_option Elab.async false
set_option linter.all false
set_option maxRecDepth 100000
/-! SH0: calls where no repr is running: the promise of a def under an empty list of guards. -/
namespace SH
open PySem PySem.Spec PyProof.Rows L2

/-- nothing that guards itself (repr and its like) runs around -/
abbrev Quiet (A : Around) : Prop := A.guards = some []

structure FnG (P : Program) (w : World) (K : PySem.W.Frag) (mg : Str → Option Value) (base : Heap)
    (CX : CXT) (k : Nat) (f : Addr) (fd : FuncData) (ps : List Str) (sp : Sp) : Prop where
  arity : ∀ vs H Q E, sp vs H Q E → vs.length = ps.length
  go : ∀ (A : Around) (outer : List Env) (s : Shared) (H : Hp) (args : Args) (us : List Value) (vs : List V)
    (Q : VK) (E : XK), Room k A → Quiet A → Env0 P w K mg base A outer s H →
    BindsTo s fd args (ps.zip us) → Vals vs us → sp vs H Q E →
    codeAny (model P w) A (.call (.ref f) args) (CR CX outer P w H s Q E) s

section
variable {X : Cx} {CX : CXT} {k : Nat} {f : Addr} {fd : FuncData} {ps ks : List Str} {sp : Sp}
  {dvs : List V} {ds : List Value} {E : XK} {x : Str} {p pos : Pos} {e : Expr} {es : List Expr} {t tk : TA}
  {kws : List Keyword} {g : List Value → List Value → List Value} {gV : List V → List V → List V}

theorem endG {pins : List (Addr × Obj)} {σ : L2.St} {H : Hp} {s : Shared} {Q : VK} (I : Inv X pins σ H s)
    (hx : Passes CX X E) : ∀ (r : Result) (s' : Shared), CR CX X.stack X.prog X.w H s Q E r s' →
    (match r with
      | .ok (.ret u) => EP X pins σ Q u s'
      | .ok _ => False
      | .error e => X.xe e s')
  | .error e, s', q => hx pins σ H s e s' I q
  | .ok (.ret _), _, q => I.after q
  | .ok .next, _, q => False.elim q
  | .ok .brk, _, q => False.elim q
  | .ok .cont, _, q => False.elim q

theorem goG {pins : List (Addr × Obj)} {σ : L2.St} {H : Hp} {s : Shared} {Q : VK} {us : List Value} {vs : List V}
    (F : FnG X.prog X.w X.K X.mg X.base CX k f fd ps sp) (room : Room k X.A) (qt : Quiet X.A)
    (hb : Binds X.K fd ps ds) (hd : Vals dvs ds) (hx : Passes CX X E)
    (I : Inv X pins σ H s) (r : Vals vs us) (h : sp (vs ++ dvs) H Q E) :
    wpAny (model X.prog X.w) X.A (call (.ref f) us) (EP X pins σ Q) X.xe s := by
  have rr : Vals (vs ++ dvs) (us ++ ds) := r.append hd
  have hlen : (us ++ ds).length = ps.length := by rw [← rr.length]; exact F.arity _ _ _ _ h
  refine wpAny_call (codeAny_mono (F.go X.A X.stack s H ⟨us, []⟩ (us ++ ds) (vs ++ dvs) Q E room qt
    I.env0 (hb s us I.kIn hlen) rr h) fun r s' hq => ?_)
  have := endG I hx r s' hq
  cases r with
  | error e => exact this
  | ok fl => cases fl with
    | ret u => exact this
    | _ => exact False.elim this

theorem pe_callG (F : FnG X.prog X.w X.K X.mg X.base CX k f fd ps sp) (room : Room k X.A) (qt : Quiet X.A)
    (hg : Gl X x) (hm : X.mg x = some (.ref f)) (hk : PySem.W.keepIn X.K (.ref f) = true)
    (hb : Binds X.K fd ps ds) (hd : Vals dvs ds) (hx : Passes CX X E) (ha : PA X (e :: es) t)
    (hdb : (x == ("__debug__" : Str)) = false := by decide)
    (he : starEach (e :: es) X.env = (false, eval e X.env) :: starEach es X.env := by rfl)
    (hpl : (backTo pos (starEach es X.env)).any (·.1) = false := by rfl) :
    PE X (.Call (.Name x p) (e :: es) [] pos) (tCall sp dvs E t) :=
  ⟨fun pins s σ H Q I h => wpAny_Call_Name_kw (ld_glob I hg hm
    (PySem.W.callWith_K (h₀ := X.base) I.ok.mod.kin hk
      (thn (ha.run pos pins s σ H _ I h) fun us s1 ⟨vs, H1, I1, r, q⟩ =>
        ⟨I1.kIn, goG F room qt hb hd hx I1 r q⟩) he hpl) hdb)⟩

theorem pe_callG0 (F : FnG X.prog X.w X.K X.mg X.base CX k f fd ps sp) (room : Room k X.A) (qt : Quiet X.A)
    (hg : Gl X x) (hm : X.mg x = some (.ref f)) (hk : PySem.W.keepIn X.K (.ref f) = true)
    (hb : Binds X.K fd ps ds) (hd : Vals dvs ds) (hx : Passes CX X E)
    (hdb : (x == ("__debug__" : Str)) = false := by decide) :
    PE X (.Call (.Name x p) [] [] pos) (tCall sp dvs E tNil) :=
  ⟨fun pins s σ H Q I h => wpAny_Call_Name_kw (ld_glob I hg hm
    (PySem.W.callWith_K0 I.kIn hk (goG (us := []) F room qt hb hd hx I .nil h)) hdb)⟩

theorem goGK {pins : List (Addr × Obj)} {σ : L2.St} {H : Hp} {s : Shared} {Q : VK} {us ws : List Value}
    {vs zs : List V} (F : FnG X.prog X.w X.K X.mg X.base CX k f fd ps sp) (room : Room k X.A) (qt : Quiet X.A)
    (hb : KBinds X.K fd ps ks g gV) (hx : Passes CX X E)
    (I : Inv X pins σ H s) (r : Vals vs us) (rz : Vals zs ws) (h : sp (gV vs zs) H Q E) :
    wpAny (model X.prog X.w) X.A (call (.ref f) us (ks.zip ws)) (EP X pins σ Q) X.xe s := by
  have rr := hb.rel r rz
  have hlen : (g us ws).length = ps.length := by rw [← rr.length]; exact F.arity _ _ _ _ h
  refine wpAny_call (codeAny_mono (F.go X.A X.stack s H ⟨us, ks.zip ws⟩ (g us ws) (gV vs zs) Q E room qt
    I.env0 (hb.to s us ws I.kIn hlen) rr h) fun r s' hq => ?_)
  have := endG I hx r s' hq
  cases r with
  | error e => exact this
  | ok fl => cases fl with
    | ret u => exact this
    | _ => exact False.elim this

/-- f(k = v, ..): no argument by position -/
theorem pe_callGK0 (F : FnG X.prog X.w X.K X.mg X.base CX k f fd ps sp) (room : Room k X.A)
    (qt : Quiet X.A) (hg : Gl X x) (hm : X.mg x = some (.ref f)) (hk : PySem.W.keepIn X.K (.ref f) = true)
    (hb : KBinds X.K fd ps ks g gV) (hx : Passes CX X E) (hkw : PK X kws tk)
    (hall : (backToKw pos (keywordEach kws X.env)).all (·.1.isSome) = true := by rfl)
    (hks : (backToKw pos (keywordEach kws X.env)).filterMap (·.1) = ks := by rfl)
    (hdb : (x == ("__debug__" : Str)) = false := by decide)
    (hpl : ((backTo pos (starEach [] X.env)).any (·.1) ||
      (backToKw pos (keywordEach kws X.env)).any (·.1.isNone)) = false := by rfl) :
    PE X (.Call (.Name x p) [] kws pos) (tCallK sp gV E tNil tk) :=
  ⟨fun pins s σ H Q I h => wpAny_Call_Name_kw (ld_glob I hg hm
    (PySem.W.callWith_KW0 (h₀ := X.base) I.ok.mod.kin hk hall
      (thn (hkw.run pos pins s σ H _ I h) fun ws s2 ⟨zs, H2, I2, rz, q2⟩ => ⟨I2.kIn, by
        rw [hks]
        exact goGK (us := []) (vs := []) F room qt hb hx I2 .nil rz q2⟩) hpl) hdb)⟩
end

/-! ### a def of the text, walked where all is quiet -/
section
variable {P : Program} {w : World} {K : PySem.W.Frag} {mg : Str → Option Value} {base : Heap}

theorem FnG.of {CX : CXT} {x qual : Str} {st : Stmt} {f : Addr} {fd : FuncData} {N ps : List Str} {k : Nat} {sp : Sp}
    (F : Fun K x qual st f fd) (S : FnScope N ps (defScope st)) (len : ∀ vs H Q E, sp vs H Q E → vs.length = ps.length)
    (walk : ∀ (cdv : Value) (A : Around) (outer : List Env) (s : Shared) (H : Hp) (vs : List V) (Q : VK) (E : XK),
      Room k (A.deeper (envOfC qual (defScope st) s.heap.objs.size f cdv)) →
      Quiet (A.deeper (envOfC qual (defScope st) s.heap.objs.size f cdv)) → sp vs H Q E →
      ∃ t, PSs (cxOf CX P w K mg base N qual (defScope st) f cdv A outer s H E) (defBody st) t ∧
        t { nx := fun _ H' => Q .non H', rt := Q } (start N vs) H) :
    FnG P w K mg base CX (k + 1) f fd ps sp := by
  obtain ⟨oc, od, kV, doc, pm, an, cdv, ct, osl, rfl, lk, hcd⟩ := F.ex
  refine ⟨len, fun A outer s H args us vs Q E room qt e0 hb r hsp => ?_⟩
  have hl := len _ _ _ _ hsp
  have inK : K.In s.heap := e0.mod.kin.keeps fun b o e => (e0.bs b o e).1
  have lim : s.heap.NoLimit := e0.mod.nolimit.keeps fun b o e => (e0.bs b o e).1
  have kinds : ∀ y ∈ ps.zip us, (defScope st).names.lookup y.1 = some .local ∨
      ((defScope st).names.lookup y.1 = some .cell ∧
        ((cellsFrom (s.heap.objs.size + 1) (defScope st).names []).lookup y.1).isSome = true) := by
    rintro ⟨n, v⟩ hy
    rcases S.par n (List.of_mem_zip hy).1 with z | z
    · exact .inl z
    · exact .inr ⟨z, PySem.W.cellsFrom_some _ _ _ (.inl z)⟩
  refine codeAny_call_function room.depth (inK _ _ lk) rfl S.co S.gen rfl (PySem.W.codeRec_of inK hcd) (hb _ _ _ _ ?_)
  refine wpAny_newFunctionEnv_cells S.kind kinds fun env he s1 ic => ?_
  subst he
  refine ⟨lim.keeps ic.toInCall.keep, codeAny_func ?_⟩
  obtain ⟨t, ht, hq⟩ := walk cdv A outer s H vs Q E (room.deeper _) (by exact qt) hsp
  have I := inv_start (CX := CX) (E := E) (P := P) (w := w) S room.hd e0 hl r ic
  refine wpAny_mono (ht.run [] s1 (start N vs) H _ I hq) (fun fl s' hs => ?_) fun e s' hs => hs
  cases fl with
  | ret u =>
    obtain ⟨v, σ', H', J, rv, q⟩ := hs
    exact ⟨v, H', J.os, J.bare, J.base, J.hok, rv, q⟩
  | next =>
    obtain ⟨σ', H', J, q⟩ := hs
    exact ⟨V.non, H', J.os, J.bare, J.base, J.hok, rfl, q⟩
  | brk => obtain ⟨_, _, _, q⟩ := hs; exact q.elim
  | cont => obtain ⟨_, _, _, q⟩ := hs; exact q.elim

/-- for a def that lets no error out -/
theorem FnG.ok {x qual : Str} {st : Stmt} {f : Addr} {fd : FuncData} {N ps : List Str} {k : Nat} {sp : Sp}
    (F : Fun K x qual st f fd) (S : FnScope N ps (defScope st)) (len : ∀ vs H Q E, sp vs H Q E → vs.length = ps.length)
    (walk : ∀ (cdv : Value) (A : Around) (outer : List Env) (s : Shared) (H : Hp) (vs : List V) (Q : VK) (E : XK),
      Room k (A.deeper (envOfC qual (defScope st) s.heap.objs.size f cdv)) →
      Quiet (A.deeper (envOfC qual (defScope st) s.heap.objs.size f cdv)) → sp vs H Q E →
      ∃ t, PSs (cxOf CX0 P w K mg base N qual (defScope st) f cdv A outer s H E).nox (defBody st) t ∧
        t { nx := fun _ H' => Q .non H', rt := Q } (start N vs) H) :
    FnG P w K mg base CX0 (k + 1) f fd ps sp :=
  FnG.of F S len fun cdv A outer s H vs Q E room qt hsp =>
    let ⟨t, h, q⟩ := walk cdv A outer s H vs Q E room qt hsp
    ⟨t, h.nox, q⟩
theorem FnG.mono {CX : CXT} {j k : Nat} {f : Addr} {fd : FuncData} {ps : List Str} {sp : Sp}
    (F : FnG P w K mg base CX j f fd ps sp) (h : j ≤ k) : FnG P w K mg base CX k f fd ps sp :=
  ⟨F.arity, fun A outer s H args us vs Q E room => F.go A outer s H args us vs Q E (room.mono h)⟩
end

/-! ### the law's own call: nothing runs around it -/
theorem frz_or {H : Hp} (hO : Only H) {b : Addr} {u : HO} (e : H b = some u) : ∃ o xs, u = .frz o (.lst xs) := by
  rcases hO b with z | ⟨o, xs, z⟩
  · rw [z] at e; cases e
  · rw [z] at e; exact ⟨o, xs, (Option.some.inj e).symm⟩

theorem lawG {P : Program} {w : World} {K : PySem.W.Frag} {mg mb : Str → Option Value} {CX : CXT} {k : Nat}
    {fa a : Addr} {fd : FuncData} {x : Str} {sp : Sp} {s₁ : Shared} {vs : List Value} {ns : List Int}
    (inK : K.In s₁.heap) (hns : s₁.heap.Ns mainGlobals mg) (hb : s₁.heap.Ns builtinsNs mb)
    (hbb : ∀ x : Str, x ≠ "__name__" → mb x = bootBuiltins x) (hlim : s₁.heap.NoLimit) (hg : s₁.gens = #[])
    (ha : s₁.heap.get? a = some { cls := .type "list", data := .seq vs.toArray }) (hi : IntsAre vs ns)
    (hl : ns.length ≤ sizeLine) (room : Room k callerA)
    (F : ∀ base : Heap, K.In base → base.Ns mainGlobals mg → FnG P w K mg base CX k fa fd [x] sp)
    (hbind : ∀ (s : Shared) (u : Value), BindsTo s fd ⟨[u], []⟩ [(x, u)])
    (hsp : ∀ H : Hp, Only H → SqL K H a (ns.map V.int) → sp [.ref a] H (fun v _ => v = .bl true) fun _ _ _ => False)
    (hCX : ∀ H e s', CX [] H s₁ (fun _ _ _ => False) e s' → False) :
    codeAny (model P w) callerA (.call (.ref fa) ⟨[.ref a], []⟩)
      (fun r s' => r = .ok (.ret (.bool true)) ∧ OldK s₁.heap s'.heap ∧ s'.os = s₁.os ∧ AllBare s'.gens) s₁ := by
  have rv := vals_ints hi
  have lenV := hi.length
  suffices core : ∀ H : Hp, Only H → SqL K H a (ns.map V.int) → HOk P w H s₁.heap →
      (∀ b o, s₁.heap.get? b = some o → (b ≠ a ∨ (K.lookup b).isSome = true) → H b = none) →
      codeAny (model P w) callerA (.call (.ref fa) ⟨[.ref a], []⟩)
        (fun r s' => r = .ok (.ret (.bool true)) ∧ OldK s₁.heap s'.heap ∧ s'.os = s₁.os ∧ AllBare s'.gens) s₁ by
    cases hk : K.lookup a with
    | some o =>
      have e := inK a o hk
      rw [ha] at e
      cases e
      exact core (fun _ => none) (fun _ => .inl rfl)
        (.inr ⟨_, vs.toArray, _, hk, rfl, rfl, rfl, by rw [List.size_toArray, lenV]; exact hl, by simpa using rv⟩)
        (fun b u z => by have z' : (none : Option HO) = some u := z; cases z') (fun _ _ _ _ => rfl)
    | none =>
      let H1 : Hp := fun b => if b = a then some (.frz { cls := .type "list", data := .seq vs.toArray } (.lst (ns.map V.int))) else none
      have h1a : H1 a = some (.frz { cls := .type "list", data := .seq vs.toArray } (.lst (ns.map V.int))) := if_pos rfl
      have h1n : ∀ b, b ≠ a → H1 b = none := fun b h => if_neg h
      refine core H1 (fun b => ?_) (.inl (.inr ⟨_, h1a⟩)) (fun b u z => ?_) (fun b o _ h => ?_)
      · by_cases hb : b = a
        · subst hb; exact .inr ⟨_, _, h1a⟩
        · exact .inl (h1n b hb)
      · by_cases hb : b = a
        · subst hb
          rw [h1a] at z
          cases z
          exact ⟨ha, by rw [List.length_map]; exact hl, vs, _, rv, ha⟩
        · rw [h1n b hb] at z; cases z
      · rcases h with h | h
        · exact h1n b h
        · by_cases hb : b = a
          · subst hb; rw [hk] at h; cases h
          · exact h1n b hb
  intro H hO hS hok hN
  have down : ∀ {b : Addr} {o : Obj}, s₁.heap.get? b = some o → (b ≠ a ∨ (K.lookup b).isSome = true) →
      (hidT s₁.heap H).get? b = some o := fun e c => hidT_get e (hN _ _ e c)
  have nsK : ∀ {b : Addr} {m : Str → Option Value}, s₁.heap.Ns b m → (hidT s₁.heap H).Ns b m := by
    rintro b m ⟨o, es, ep, e, d, r⟩
    refine ⟨o, es, ep, down e (.inl ?_), d, r⟩
    rintro rfl
    rw [ha] at e
    cases e
    cases d
  have hKb : K.In (hidT s₁.heap H) := fun b o e => down (inK b o e) (.inr (by rw [e]; rfl))
  have hM : Mod K mg (hidT s₁.heap H) := ⟨hKb, nsK hns, ⟨mb, nsK hb, hbb⟩, let ⟨mc, h1, h2⟩ := hlim; ⟨mc, nsK h1, h2⟩⟩
  have e0 : Env0 P w K mg (hidT s₁.heap H) callerA [] s₁ H := ⟨rfl, hM, fun b o e => of_hidT e,
    Nat.le_of_eq (hidT_size _ _), trivial, fun b hb => (List.not_mem_nil hb).elim, hok, AllBare.of_eq hg⟩
  refine codeAny_mono ((F _ hKb (nsK hns)).go callerA [] s₁ H ⟨[.ref a], []⟩ [.ref a] [.ref a] _ _ room rfl e0
    (hbind s₁ (.ref a)) (.cons rfl .nil) (hsp H hO hS)) fun r s' h => ?_
  match r, h with
  | .error e, h => exact (hCX H e s' h).elim
  | .ok .next, h => exact False.elim h
  | .ok .brk, h => exact False.elim h
  | .ok .cont, h => exact False.elim h
  | .ok (.ret u), h =>
    obtain ⟨v, H', os, bare, un, hok', r', q⟩ := h
    obtain rfl : v = .bl true := q
    obtain rfl : u = Value.bool true := r'
    refine ⟨rfl, OldK.of_keep fun b o e => ?_, os, bare⟩
    cases q : H b with
    | none => exact un.keep b o e q (List.not_mem_nil) (by simp)
    | some u =>
      obtain ⟨ob, xs, rfl⟩ := frz_or hO q
      obtain ⟨e1, _⟩ := hok b _ q
      obtain ⟨e2, _⟩ := hok' b _ (un.frzs b ob _ q)
      rw [e] at e1
      cases e1
      exact e2

theorem walkG {l : PySem.W.OpenLaw} {n k : Nat} {q : Program} {loose : List Str} {XP : (Str → Option Value) → Heap → Prop}
    {YP : World → Heap → Prop} {d : DefRec} {K : Params → PySem.W.Frag} {CX : World → CXT} {sp : World → Sp} {x : Str}
    (hn : l.most = some n) (hn2 : n ≤ sizeLine) (hdf : d.params.defaults = []) (room : Room k callerA)
    (hY : ∀ (w : World) (h : Heap), YP w h → (K w.params).In h)
    (F : ∀ (w : World) (mg : Str → Option Value) (fa : Addr) (h : Heap), (K w.params).In h → h.Ns mainGlobals mg →
      mg d.name = some (.ref fa) → ∃ fd : FuncData, (∀ (s : Shared) (u : Value), BindsTo s fd ⟨[u], []⟩ [(x, u)]) ∧
        ∀ base : Heap, (K w.params).In base → base.Ns mainGlobals mg →
          FnG l.prog w (K w.params) mg base (CX w) k fa fd [x] (sp w))
    (hsp : ∀ (w : World) (H : Hp) (a : Addr) (ns : List Int), ns.length ≤ n → Only H →
      SqL (K w.params) H a (ns.map V.int) → sp w [.ref a] H (fun v _ => v = .bl true) fun _ _ _ => False)
    (hCX : ∀ (w : World) (H : Hp) (s : Shared) (e : Value) (s' : Shared),
      CX w [] H s (fun _ _ _ => False) e s' → False) :
    PySem.W.WalkO q loose XP YP l.row.toRowW d [] (fun f vs => PySem.call f vs) := by
  refine Att.attach_call hn hdf fun w s₀ s₁ mg mb fa o pm cd doc a vs ns G Y ho hd hcd hmg hobj hints hlen hg => ?_
  obtain ⟨fd, hb, hF⟩ := F w mg fa _ (hY w _ Y) G.T.g hmg
  exact lawG (hY w _ Y) G.T.g G.T.b G.T.builtins G.T.nolimit hg hobj hints (Nat.le_trans hlen hn2) room hF hb
    (fun H hO hS => hsp w H a ns hlen hO hS) fun H e s' => hCX w H s₁ e s'

end SH

/-! SH1: operations that the layer does not have yet: great powers, repr of data, types compared, enumerate. -/
namespace SH
open PySem PySem.Spec PyProof.Rows L2

section
variable {X : Cx}
/-! ### powers of great numbers -/
def PowC (i j : Int) : Prop := 0 ≤ j ∧ (Builtin.Int.intBits i : Int) * j ≤ 2 ^ 27
theorem op_powG : OpR X (binaryOp .Pow) (rI PowC fun i j => .int (i ^ j.toNat)) :=
  opI fun _ _ _ _ _ _ _ c q => pow_int c.1 c.2 q
theorem cube_ok {i : Int} (h : i.natAbs < 2 ^ 4000) : PowC i 3 := by
  refine ⟨by decide, ?_⟩
  have := intBits_le (k := 4000) h
  have e : (2 : Int) ^ 27 = 134217728 := by decide
  omega
theorem ten_ok {j : Int} (h0 : 0 ≤ j) (h : j ≤ 1000) : PowC 10 j := by
  refine ⟨h0, ?_⟩
  have e1 : Builtin.Int.intBits 10 = 4 := by decide
  have e : (2 : Int) ^ 27 = 134217728 := by decide
  rw [e1]
  omega

/-! ### repr -/
/-- data as it is shown -/
def Shows (K : PySem.W.Frag) (H : Hp) (x : V) (d : PyData) : Prop :=
  Dp K H x d ∧ d.showable = true ∧ d.hasDict = false ∧ d.depth ≤ 60 ∧ d.shown.length ≤ sizeLine
def rRepr (K : PySem.W.Frag) : List V → Hp → VK → Prop := fun xs H Q =>
  ∃ (a : Addr) (d : PyData), xs = [.ref a] ∧ Shows K H (.ref a) d ∧ Q (.str d.shown) H
theorem call_reprR (qt : Quiet X.A) (hu : X.A.units + 64 < cLine) : CallR X (.builtin "repr") (rRepr X.K) := by
  intro pins s σ H xs us Q I r h
  obtain ⟨a, d, rfl, ⟨hd, h1, h2, h3, h4⟩, q⟩ := h
  cases r with
  | cons ra rr =>
    cases rr
    cases ra
    obtain ⟨as, rd⟩ := Dp.reads I d _ (.ref a) hd rfl
    exact repr_of_reads' rd h1 (noDict_hsm' h2) qt (by omega) (fun _ _ e => e)
      (fun h' u tk hk => ⟨.str d.shown, H, I.kept hk, ⟨u, rfl⟩, q⟩) h4
where
  noDict_hsm' {d : PyData} {as : List Addr} (h : d.hasDict = false) : d.hasDict = true → sysModules ∉ as :=
    fun e => by rw [h] at e; cases e

end

/-! ### built-in types compared -/
open Sem (wp)
theorem slot_ty_ne : Slot "type" (cmpInfo .NotEq).2.1 "object.__ne__" :=
  .of (owner := "object") (n := "__ne__") (by rw [typeLookup_type, builtinLookup_eq_fast]; kernel_rfl)
    (by decide +kernel) (by decide +kernel) (by decide +kernel)
    (by first | exact .inl (by decide +kernel) | exact .inr (by decide +kernel)) (by rw [isSubtype_type]; kernel_rfl)
theorem slot_ty_ne_refl : Slot "type" (cmpInfo .NotEq).2.2 "object.__ne__" :=
  .of (owner := "object") (n := "__ne__") (by rw [typeLookup_type, builtinLookup_eq_fast]; kernel_rfl)
    (by decide +kernel) (by decide +kernel) (by decide +kernel)
    (by first | exact .inl (by decide +kernel) | exact .inr (by decide +kernel)) (by rw [isSubtype_type]; kernel_rfl)

section
variable {prog : Program} {w : World} {A : Around} {E : Value → Shared → Prop} {s : Shared} {Q : Value → Shared → Prop}
/-- X.__eq__(Y) of two built-in types -/
theorem sp_eq_ty {a b : String} {R : Option Value → Shared → Prop} (ha : ∀ s' : Shared, s'.TypeIs (.type a) "type")
    (h : (if a = b then R (some (.bool true)) s else R (some .notImplemented) s)) :
    wpAny (model prog w) A (callSpecialIfBound? (.type a) "__eq__" [.type b]) R E s := by
  have slot : Slot "type" ("__eq__" : Str) "object.__eq__" := TypeEq.slot_type_eq
  refine wpAny_callSpecialIfBound?_slot (name := Str.ofString "__eq__") (ha s) slot ?_
  by_cases e : a = b
  · subst e
    rw [if_pos rfl] at h
    exact call_gives slot (ha s) F.entry_object_eq (F.args_object_eq_2 _ _) (TypeEq.object_eq_same rfl (by simp)) h
  · rw [if_neg e] at h
    exact call_gives slot (ha s) F.entry_object_eq (F.args_object_eq_2 _ _)
      (TypeEq.object_eq_other rfl (by simpa using e)) h

theorem call_ne_ty {a b : String} {R : Value → Shared → Prop} (ha : ∀ s' : Shared, s'.TypeIs (.type a) "type")
    (h : (if a = b then R (.bool false) s else R .notImplemented s)) :
    wpAny (model prog w) A (call (.builtin "object.__ne__") [.type a, .type b]) R E s := by
  refine wpAny_call_entry slot_ty_ne (ha s) F.cmpEntry_ne ?_ (F.args_object_ne_2 _ _)
  unfold Builtin.«object.__ne__»
  by_cases e : a = b
  · subst e
    rw [if_pos rfl] at h
    repeat (first | with_reducible refine wpAny_cRoomFor_or (.inl rfl) ?_ | with_reducible refine sp_eq_ty ha ?_ | rw [if_pos rfl] | wp_step)
    exact ⟨_, rfl, h⟩
  · rw [if_neg e] at h
    repeat (first | with_reducible refine wpAny_cRoomFor_or (.inl rfl) ?_ | with_reducible refine sp_eq_ty ha ?_ | rw [if_neg e] | wp_step)
    exact ⟨_, rfl, h⟩

theorem ne_ty_same {a : String} (ha : ∀ s' : Shared, s'.TypeIs (.type a) "type") (h : Q (.bool false) s) :
    wpAny (model prog w) A (compareOp .NotEq (.type a) (.type a)) Q E s := by
  show wpAny _ A (richCompare .NotEq _ _) Q E s
  exact wpAny_richCompare_same (op := .NotEq) (T := "type") (ha s) (ha s) slot_ty_ne
    (call_ne_ty ha (by rw [if_pos rfl]; exact ⟨(by intro e; cases e), h⟩))
end

theorem rc_ne_same_decline {M : Model} {A : Around} {E : Value → Shared → Prop} {s : Shared} {a b : Value} {T id : String}
    {k : Bool} {Q : Value → Shared → Prop} (ha : ∀ s' : Shared, s'.TypeIs a T) (hb : ∀ s' : Shared, s'.TypeIs b T)
    (h1 : Slot T (cmpInfo .NotEq).2.1 id) (h2 : Slot T (cmpInfo .NotEq).2.2 id) (hv : [a, b].any Value.onHeap = false)
    (hk : isSame a b = pure k)
    (hc : wpAny M A (call (.builtin id) [a, b]) (fun v s₁ => v = .notImplemented ∧
      wpAny M A (call (.builtin id) [b, a]) (fun v s₂ => v = .notImplemented ∧ Q (.bool (!k)) s₂) E s₁) E s) :
    wpAny M A (richCompare .NotEq a b) Q E s := by
  rcases hi : cmpInfo CmpOp.NotEq with ⟨sym, f, r⟩
  rw [hi] at h1 h2
  simp only [richCompare, hi, (ha s).oneThing_none]
  try with_reducible refine wpAny_holding ?_
  refine wpAny_bind (wpAny_cRoomFor_or (.inl hv) (wpAny_bind (wpAny_typeOf (ha s) (wpAny_bind (wpAny_typeOf (hb s) ?_)))))
  simp only [bne_self_eq_false, Bool.false_eq_true, if_false, pure_bind, Bool.not_false, if_true]
  refine wpAny_bind (m := tryCompare a _ b) (wpAny_tryCompare_declines (ha s) h1
    (wpAny_mono hc (fun v s₁ q1 => ⟨q1.1, ?_⟩) fun _ _ x => x))
  refine wpAny_bind (m := tryCompare b _ a) (wpAny_tryCompare_declines (hb s₁) h2
    (wpAny_mono q1.2 (fun v s₂ q2 => ⟨q2.1, ?_⟩) fun _ _ x => x))
  exact wpAny_bind (wpAny_rule (wpAny_bind (wpAny_of_eq hk (wpAny_pure q2.2))))

section
variable {prog : Program} {w : World} {A : Around} {E : Value → Shared → Prop} {s : Shared} {Q : Value → Shared → Prop}
theorem ne_ty_other {a b : String} (ha : ∀ s' : Shared, s'.TypeIs (.type a) "type")
    (hb : ∀ s' : Shared, s'.TypeIs (.type b) "type") (ne : a ≠ b) (h : Q (.bool true) s) :
    wpAny (model prog w) A (compareOp .NotEq (.type a) (.type b)) Q E s := by
  show wpAny _ A (richCompare .NotEq _ _) Q E s
  refine rc_ne_same_decline (T := "type") (k := false) ha hb slot_ty_ne slot_ty_ne_refl rfl
    (by rw [isSame_plain rfl]; have : (Value.type a == Value.type b) = false := by simpa using ne
        rw [this]) ?_
  refine call_ne_ty ha ?_
  rw [if_neg ne]
  refine ⟨rfl, call_ne_ty hb ?_⟩
  rw [if_neg (Ne.symm ne)]
  exact ⟨rfl, h⟩
end

/-- the built-in types that a value may have here -/
def tyNames : List String := ["int", "str", "bool", "NoneType", "list", "tuple", "dict", "set", "float"]
theorem ty_meta {n : String} (h : n ∈ tyNames) (s' : Shared) : s'.TypeIs (.type n) "type" := by
  simp only [tyNames, List.mem_cons, List.not_mem_nil, or_false] at h
  rcases h with rfl | rfl | rfl | rfl | rfl | rfl | rfl | rfl | rfl
  · exact TypeEq.meta_int s'
  · exact TypeEq.meta_str s'
  · exact TypeEq.meta_bool s'
  · exact TypeEq.meta_NoneType s'
  · exact TypeEq.meta_list s'
  · exact TypeEq.meta_tuple s'
  · exact TypeEq.meta_dict s'
  · exact TypeEq.meta_set s'
  · exact TypeEq.meta_float s'
def rNeTy : R2 := fun x y H Q => ∃ a b, x = .ty a ∧ y = .ty b ∧ a ∈ tyNames ∧ b ∈ tyNames ∧ Q (.bl (decide (a ≠ b))) H
theorem op_neTy {X : Cx} : OpR X (compareOp .NotEq) rNeTy := by
  intro pins s σ H x y v u Q I rx ry h
  obtain ⟨a, b, rfl, rfl, ha, hb, q⟩ := h
  cases rx
  cases ry
  by_cases e : a = b
  · subst e
    exact ne_ty_same (ty_meta ha) ⟨.bl false, H, I, rfl, by simpa using q⟩
  · exact ne_ty_other (ty_meta ha) (ty_meta hb) e ⟨.bl true, H, I, rfl, by simpa [e] using q⟩

/-! ### for i, x in enumerate(xs) -/
theorem for_enum {K : PySem.W.Frag} {a : Addr} {xs : List V} {g : TG} {tb : TS} {D : Ends} {σ : L2.St} {H : Hp}
    (Pv : Nat → L2.St → Hp → Prop) (h0 : Pv 0 σ H) (hl : ∀ i σ H, i ≤ xs.length → Pv i σ H → SqL K H a xs)
    (hs : ∀ (i : Nat) (x : V) (T : Addr) σ H, xs[i]? = some x → Pv i σ H → H T = none →
      g (.ref T) σ (upd H T (.tup [.int i, x])) fun σ2 H2 => tb { D with nx := Pv (i + 1), ct := Pv (i + 1), bk := D.nx } σ2 H2)
    (hd : ∀ σ H, Pv xs.length σ H → D.nx σ H) :
    ∃ W : Nat → Nat → L2.St → Hp → Prop, (∃ m, W 0 m σ H) ∧ ∀ i m σ H, W i m σ H →
      ((Ite K a).stop i H ∧ D.nx σ H) ∨ ((Ite K a).go i H ∧ ∃ N : L2.St → Hp → Prop,
        (∀ σ' H', N σ' H' → ∃ m', m' < m ∧ W (i + 1) m' σ' H') ∧
        ∀ x H', (Ite K a).yld i H x H' → g x σ H' fun σ2 H2 => tb { D with nx := N, ct := N, bk := D.nx } σ2 H2) := by
  refine ⟨fun i m σ H => m = xs.length - i ∧ i ≤ xs.length ∧ Pv i σ H, ⟨_, rfl, Nat.zero_le _, h0⟩, ?_⟩
  rintro i m σ H ⟨rfl, hi, p⟩
  have hq := hl i σ H hi p
  rcases Nat.lt_or_ge i xs.length with lt | ge
  · refine .inr ⟨⟨xs, xs[i], hq, List.getElem?_eq_getElem lt⟩, Pv (i + 1), fun σ' H' p' => ⟨_, ?_, rfl, lt, p'⟩, ?_⟩
    · omega
    · rintro v H' ⟨T, x, rfl, hT, rfl, f⟩
      exact hs i x T σ H (f xs hq) p hT
  · obtain rfl : i = xs.length := Nat.le_antisymm hi ge
    exact .inl ⟨⟨xs, hq, Nat.le_refl _⟩, hd σ H p⟩
end SH

/-! SH2: defs by name: what stands at a name of the module, calls of it by place and by keyword. -/
namespace SH
open PySem PySem.Spec PyProof.Rows L2

/-- the def `st` stands at the name `x` of the module and keeps the promise `sp` -/
def Has (P : Program) (w : World) (K : PySem.W.Frag) (mg : Str → Option Value) (base : Heap) (CX : CXT) (k : Nat)
    (x : Str) (st : Stmt) (ps : List Str) (sp : Sp) : Prop :=
  ∃ f fd, Fun K x x st f fd ∧ mg x = some (.ref f) ∧ FnG P w K mg base CX k f fd ps sp ∧ L2.Binds K fd ps []
/-- the def `st` stands at the name `x` -/
def At (K : PySem.W.Frag) (mg : Str → Option Value) (x : Str) (st : Stmt) : Prop :=
  ∃ f fd, Fun K x x st f fd ∧ mg x = some (.ref f)

section
variable {X : Cx} {CX : CXT} {k : Nat} {st : Stmt} {ps ks : List Str} {sp : Sp} {E : XK} {x : Str} {p pos : Pos}
  {e : Expr} {es : List Expr} {t tk : TA} {kws : List Keyword}

theorem pe_has (h : Has X.prog X.w X.K X.mg X.base CX k x st ps sp) (room : Room k X.A) (qt : Quiet X.A) (hg : Gl X x)
    (hx : Passes CX X E) (ha : PA X (e :: es) t) (hdb : (x == ("__debug__" : Str)) = false := by decide)
    (he : starEach (e :: es) X.env = (false, eval e X.env) :: starEach es X.env := by rfl)
    (hpl : (backTo pos (starEach es X.env)).any (·.1) = false := by rfl) :
    PE X (.Call (.Name x p) (e :: es) [] pos) (tCall sp [] E t) := by
  obtain ⟨f, fd, F, m, G, b⟩ := h
  exact pe_callG G room qt hg m F.kp b .nil hx ha hdb he hpl

/-- how the keywords' values come to the parameters: by a permutation of places -/
structure KwOk (x : Str) (st : Stmt) (ps ks : List Str) (g : {α : Type} → List α → List α) : Prop where
  to : ∀ (kV doc pm : Value) (an : Option Addr) (cdv ct : Value) (ws : List Value), ws.length = ks.length →
    bindArgs (PySem.W.fnOf x x (defArgs st) (defBody st) (defScope st) .none kV doc pm an cdv ct) ⟨[], ks.zip ws⟩ =
      pure (ps.zip (g ws))
  rel : ∀ {zs : List V} {ws : List Value}, Vals zs ws → Vals (g zs) (g ws)
  len : ∀ (ws : List Value), (g ws).length = ps.length → ws.length = ks.length
  ne : ps.length ≠ 0

def onlyKw (g : {α : Type} → List α → List α) : {α : Type} → List α → List α → List α := fun us ws =>
  match us with
  | [] => g ws
  | _ => []

theorem pe_hasK0 {g : {α : Type} → List α → List α} (h : Has X.prog X.w X.K X.mg X.base CX k x st ps sp)
    (room : Room k X.A) (qt : Quiet X.A) (hg : Gl X x) (kb : KwOk x st ps ks g) (hx : Passes CX X E)
    (hkw : PK X kws tk) (hall : (backToKw pos (keywordEach kws X.env)).all (·.1.isSome) = true := by rfl)
    (hks : (backToKw pos (keywordEach kws X.env)).filterMap (·.1) = ks := by rfl)
    (hdb : (x == ("__debug__" : Str)) = false := by decide)
    (hpl : ((backTo pos (starEach [] X.env)).any (·.1) ||
      (backToKw pos (keywordEach kws X.env)).any (·.1.isNone)) = false := by rfl) :
    PE X (.Call (.Name x p) [] kws pos) (tCallK sp (onlyKw g) E tNil tk) := by
  obtain ⟨f, fd, F, m, G, _⟩ := h
  refine pe_callGK0 G room qt hg m F.kp (g := onlyKw g) ⟨fun s us ws _ hl => ?_, fun {vs us zs ws} r rz => ?_⟩ hx hkw hall hks hdb hpl
  · obtain ⟨oc, od, kV, doc, pm, an, cdv, ct, osl, rfl, lk, hcd⟩ := F.ex
    cases us with
    | nil => exact .of_eq (kb.to kV doc pm an cdv ct ws (kb.len ws hl))
    | cons u us => exact absurd hl.symm kb.ne
  · cases r with
    | nil => exact kb.rel rz
    | cons _ _ => exact .nil
end

section
variable {P : Program} {w : World} {K : PySem.W.Frag} {mg : Str → Option Value} {base : Heap}
/-- THE RULE for a def at a name of the module that lets no error out -/
theorem Has.of {x : Str} {st : Stmt} {N ps : List Str} {k : Nat} {sp : Sp} (at_ : At K mg x st)
    (S : FnScope N ps (defScope st)) (len : ∀ vs H Q E, sp vs H Q E → vs.length = ps.length)
    (bd : ∀ (kV doc pm : Value) (an : Option Addr) (cdv ct : Value) (us : List Value), us.length = ps.length →
      bindArgs (PySem.W.fnOf x x (defArgs st) (defBody st) (defScope st) .none kV doc pm an cdv ct) ⟨us, []⟩ = pure (ps.zip us))
    (walk : ∀ (f : Addr) (cdv : Value) (A : Around) (outer : List Env) (s : Shared) (H : Hp) (vs : List V) (Q : VK) (E : XK),
      Room k (A.deeper (envOfC x (defScope st) s.heap.objs.size f cdv)) →
      Quiet (A.deeper (envOfC x (defScope st) s.heap.objs.size f cdv)) → sp vs H Q E →
      ∃ t, PSs (cxOf CX0 P w K mg base N x (defScope st) f cdv A outer s H E).nox (defBody st) t ∧
        t { nx := fun _ H' => Q .non H', rt := Q } (start N vs) H) :
    Has P w K mg base CX0 (k + 1) x st ps sp := by
  obtain ⟨f, fd, F, m⟩ := at_
  exact ⟨f, fd, F, m, FnG.ok F S len (walk f), F.binds bd⟩
theorem Has.mono {CX : CXT} {j k : Nat} {x : Str} {st : Stmt} {ps : List Str} {sp : Sp}
    (h : Has P w K mg base CX j x st ps sp) (hk : j ≤ k) : Has P w K mg base CX k x st ps sp := by
  obtain ⟨f, fd, F, m, G, b⟩ := h
  exact ⟨f, fd, F, m, G.mono hk, b⟩
end

/-- the built-in names that the module does not shadow -/
structure Txt (mg : Str → Option Value) : Prop where
  len : mg "len" = none
  range : mg "range" = none
  repr : mg "repr" = none
  min : mg "min" = none
  max : mg "max" = none
  tint : mg "int" = none
  tlist : mg "list" = none
  ttype : mg "type" = none
  bool : mg "bool" = none
  tuple : mg "tuple" = none
  isinstance : mg "isinstance" = none
  enumerate : mg "enumerate" = none
  tstr : mg "str" = none
  zip : mg "zip" = none
  all : mg "all" = none
  any : mg "any" = none
  sum : mg "sum" = none
  abs : mg "abs" = none
  sorted : mg "sorted" = none
  set : mg "set" = none
  dict : mg "dict" = none
  reversed : mg "reversed" = none
  divmod : mg "divmod" = none

theorem bnot_t {b : Bool} (h : (!b) = true) : b = false := by cases b <;> first | rfl | cases h
theorem bnot_f {b : Bool} (h : ¬ (!b) = true) : b = true := by cases b <;> first | rfl | exact (h rfl).elim
/-! ### what a caller wants -/
/-- a value comes back, nothing that was tracked has changed -/
def RetV (Q : VK) (H : Hp) (v : V) : Prop := ∀ H', Same H H' → Q v H'
/-- a new list comes back -/
def RetL (Q : VK) (H : Hp) (xs : List V) : Prop := ∀ p H', H p = none → Same H H' → H' p = some (.lst xs) → Q (.ref p) H'
/-- ints as values -/
abbrev iv (ns : List Int) : List V := ns.map V.int
theorem iv_at {ns : List Int} {i : Nat} (h : i < ns.length) : (iv ns)[i]? = some (.int (ns.getD i 0)) := by
  rw [List.getElem?_map, List.getElem?_eq_getElem h, List.getD_eq_getElem?_getD, List.getElem?_eq_getElem h]
  rfl
theorem atI_iv {ns : List Int} {z : Int} (h0 : 0 ≤ z) (h : z < ns.length) : atI (iv ns) z = some (.int (ns.getD z.toNat 0)) := by
  have e : z = ((z.toNat : Nat) : Int) := by omega
  rw [e]
  exact atI_nat (iv_at (by omega))
theorem atI_iv_last {ns : List Int} (h : ns ≠ []) : atI (iv ns) (-1) = some (.int (ns.getD (ns.length - 1) 0)) := by
  have hl : 0 < ns.length := List.length_pos_iff.mpr h
  have e : ixN (iv ns).length (-1) = some (ns.length - 1) := by
    unfold ixN
    rw [if_neg (by omega), if_pos (by rw [List.length_map]; omega), List.length_map]
    congr 1
    omega
  unfold atI
  rw [e]
  exact iv_at (by omega)
theorem Same.new {H : Hp} {p : Addr} {o : HO} (h : H p = none) : Same H (upd H p o) := fun b u e => by
  rw [upd_ne (ne_of_none e h)]; exact e
theorem Same.upd_free {H H' : Hp} {p : Addr} {o : HO} (s : Same H H') (h : H p = none) : Same H (upd H' p o) := fun b u e => by
  rw [upd_ne (ne_of_none e h)]; exact s b u e
/-- all that was tracked but what stands at `a` is as it was -/
def SameBut (a : Addr) (H H' : Hp) : Prop := ∀ b o, H b = some o → b ≠ a → H' b = some o
theorem SameBut.refl {a : Addr} {H : Hp} : SameBut a H H := fun _ _ e _ => e
theorem SameBut.trans {a : Addr} {H H1 H2 : Hp} (p : SameBut a H H1) (q : SameBut a H1 H2) : SameBut a H H2 :=
  fun b o e n => q b o (p b o e n) n
theorem SameBut.of {a : Addr} {H H' : Hp} (p : Same H H') : SameBut a H H' := fun b o e _ => p b o e
theorem SameBut.upd {a : Addr} {H H' : Hp} {o : HO} (p : SameBut a H H') : SameBut a H (upd H' a o) := fun b u e n => by
  rw [upd_ne n]; exact p b u e n
theorem SameBut.new {a p : Addr} {H H' : Hp} {o : HO} (s : SameBut a H H') (h : H' p = none) : SameBut a H (L2.upd H' p o) :=
  fun b u e n => by
    have := s b u e n
    rw [upd_ne (ne_of_none this h)]; exact this
end SH

/-! SH3: comprehensions whose turns make nothing, in words of a function of the turn. -/
namespace SH
open PySem PySem.Spec PyProof.Rows L2

/-- len of a list or a tuple, by the written part K -/
def rLenK (K : PySem.W.Frag) : List V → Hp → VK → Prop := fun xs H Q => ∃ p ys, xs = [.ref p] ∧ (SqL K H p ys ∨ SqT K H p ys) ∧ Q (.int ys.length) H
theorem tYes_go {σ : L2.St} {H : Hp} {f g : Hp → Prop} (h : f H) : tYes σ H fun b H3 => if b = true then f H3 else g H3 := by
  show (if true = true then f H else g H)
  rw [if_pos rfl]
  exact h
/-- a if t else b of two ints, the test's answer known as b -/
theorem if_int {b : Bool} {x y : Int} {H : Hp} {A B : TE} {σ : L2.St} {Q : VK} (ha : ∀ Q' : VK, Q' (.int x) H → A σ H Q')
    (hb : ∀ Q' : VK, Q' (.int y) H → B σ H Q') (h : Q (.int (if b = true then x else y)) H) : if b = true then A σ H Q else B σ H Q := by
  cases b with
  | true => rw [if_pos rfl]; exact ha _ (by simpa using h)
  | false => rw [if_neg Bool.false_ne_true]; exact hb _ (by simpa using h)
/-- which turns give, and what -/
def gives (n : Nat) (keep : Nat → Bool) (val : Nat → V) : List V := ((List.range n).filter keep).map val
theorem gives_succ {n : Nat} {keep : Nat → Bool} {val : Nat → V} : gives (n + 1) keep val =
    if keep n = true then gives n keep val ++ [val n] else gives n keep val := by
  unfold gives
  rw [List.range_succ, List.filter_append, List.map_append]
  by_cases h : keep n = true
  · rw [if_pos h, List.filter_cons, if_pos h]
    rfl
  · rw [if_neg h, List.filter_cons, if_neg h]
    exact List.append_nil _
theorem gives_len (n : Nat) (keep : Nat → Bool) (val : Nat → V) : (gives n keep val).length ≤ n := by
  unfold gives
  rw [List.length_map]
  exact Nat.le_trans (List.length_filter_le _ _) (Nat.le_of_eq List.length_range)
theorem gives_all (n : Nat) (val : Nat → V) : gives n (fun _ => true) val = (List.range n).map val := by
  unfold gives
  rw [List.filter_eq_self.mpr (fun _ _ => rfl)]
/-- a new list comes back, nothing else changes -/
def NewL (Q : VK) (H : Hp) (xs : List V) : Prop := ∀ p, H p = none → Q (.ref p) (upd H p (.lst xs))
theorem small_line {n : Nat} (h : n < 100000) : n < sizeLine := Nat.lt_of_lt_of_le h (by decide)

section
variable {tt : TT} {te : TE} {vs : List Nat} {σ : L2.St} {H : Hp} {D : Addr} {Qd : Hp → Prop}
/-- one turn's end -/
theorem lc_turn {n : Nat} {keep : Nat → Bool} {val : Nat → V} {i : Nat} {σ2 : L2.St} (hi : i < n) (hn : n < 100000)
    (ht : ∀ acc Q, Q (keep i) (upd H D (.lst acc)) → tt σ2 (upd H D (.lst acc)) Q)
    (he : ∀ acc Q, keep i = true → Q (val i) (upd H D (.lst acc)) → te σ2 (upd H D (.lst acc)) Q) :
    tt σ2 (upd H D (.lst (gives i keep val))) fun b H3 => if b = true then te σ2 H3 fun y H4 => ∃ acc, H4 D = some (.lst acc) ∧
      acc.length < sizeLine ∧ upd H4 D (.lst (acc ++ [y])) = upd H D (.lst (gives (i + 1) keep val))
      else H3 = upd H D (.lst (gives (i + 1) keep val)) := by
  refine ht _ _ ?_
  by_cases h : keep i = true
  · rw [h]
    refine iteT (he _ _ h ⟨_, upd_same, small_line (by have := gives_len i keep val; omega), ?_⟩)
    rw [upd_upd, gives_succ, if_pos h]
  · have h' : keep i = false := by cases e : keep i <;> simp_all
    rw [h']
    refine iteF ?_
    rw [gives_succ, if_neg h]

theorem lcR {lo : Int} {n j : Nat} (keep : Nat → Bool) (val : Nat → V) (hn : n < 100000)
    (hw : ∀ x, wipe ((wipe σ vs).set j (some x)) vs = wipe σ vs)
    (ht : ∀ i acc Q, i < n → Q (keep i) (upd H D (.lst acc)) → tt ((wipe σ vs).set j (some (.int (lo + (i : Nat))))) (upd H D (.lst acc)) Q)
    (he : ∀ i acc Q, i < n → keep i = true → Q (val i) (upd H D (.lst acc)) → te ((wipe σ vs).set j (some (.int (lo + (i : Nat))))) (upd H D (.lst acc)) Q)
    (hd : Qd (upd H D (.lst (gives n keep val)))) :
    ∃ W : Nat → Nat → Hp → Prop, (∃ m, W 0 m (upd H D (.lst []))) ∧ ∀ i m H, W i m H →
      ((Itr lo n).stop i H ∧ Qd H) ∨ ((Itr lo n).go i H ∧ ∃ Nx : Hp → Prop, (∀ H', Nx H' → ∃ m', m' < m ∧ W (i + 1) m' H') ∧
        ∀ x H', (Itr lo n).yld i H x H' → gName j x (wipe σ vs) H' fun σ2 H2 => wipe σ2 vs = wipe σ vs ∧ tt σ2 H2 fun b H3 =>
          if b = true then te σ2 H3 fun y H4 => ∃ acc, H4 D = some (.lst acc) ∧ acc.length < sizeLine ∧ Nx (upd H4 D (.lst (acc ++ [y]))) else Nx H3) :=
  lc_range (fun i H2 => H2 = upd H D (.lst (gives i keep val))) rfl
    (fun i H2 hi e => by
      subst e
      exact ⟨hw _, lc_turn hi hn (fun acc Q q => ht i acc Q hi q) (fun acc Q k q => he i acc Q hi k q)⟩)
    (fun H2 e => by subst e; exact hd)

theorem lcL {K : PySem.W.Frag} {a : Addr} {xs : List V} {j : Nat} (keep : Nat → Bool) (val : Nat → V) (hx : SqL K H a xs)
    (hD : H D = none) (hn : xs.length < 100000) (hw : ∀ x, wipe ((wipe σ vs).set j (some x)) vs = wipe σ vs)
    (ht : ∀ i x acc Q, xs[i]? = some x → Q (keep i) (upd H D (.lst acc)) → tt ((wipe σ vs).set j (some x)) (upd H D (.lst acc)) Q)
    (he : ∀ i x acc Q, xs[i]? = some x → keep i = true → Q (val i) (upd H D (.lst acc)) → te ((wipe σ vs).set j (some x)) (upd H D (.lst acc)) Q)
    (hd : Qd (upd H D (.lst (gives xs.length keep val)))) :
    ∃ W : Nat → Nat → Hp → Prop, (∃ m, W 0 m (upd H D (.lst []))) ∧ ∀ i m H, W i m H →
      ((Itl K a).stop i H ∧ Qd H) ∨ ((Itl K a).go i H ∧ ∃ Nx : Hp → Prop, (∀ H', Nx H' → ∃ m', m' < m ∧ W (i + 1) m' H') ∧
        ∀ x H', (Itl K a).yld i H x H' → gName j x (wipe σ vs) H' fun σ2 H2 => wipe σ2 vs = wipe σ vs ∧ tt σ2 H2 fun b H3 =>
          if b = true then te σ2 H3 fun y H4 => ∃ acc, H4 D = some (.lst acc) ∧ acc.length < sizeLine ∧ Nx (upd H4 D (.lst (acc ++ [y]))) else Nx H3) :=
  lc_list (xs := xs) (fun i H2 => H2 = upd H D (.lst (gives i keep val))) rfl
    (fun i H2 hi e => by subst e; exact (Same.new hD).seq hx)
    (fun i x H2 hi e => by
      subst e
      exact ⟨hw _, lc_turn (List.getElem?_eq_some_iff.mp hi).1 hn (fun acc Q q => ht i x acc Q hi q) (fun acc Q k q => he i x acc Q hi k q)⟩)
    (fun H2 e => by subst e; exact hd)

/-- [.. for a, b in zip(xs, ys)], the lists of one length: each turn makes one pair, so the heap is told by an invariant -/
theorem lcZ {K : PySem.W.Frag} {a b : Addr} {xs ys : List V} {g : TG} (hl : xs.length = ys.length) (Pv : Nat → Hp → Prop)
    (h0 : Pv 0 (upd H D (.lst []))) (hq : ∀ i H, Pv i H → SqL K H a xs ∧ SqL K H b ys)
    (hs : ∀ i x y T H, xs[i]? = some x → ys[i]? = some y → Pv i H → H T = none → g (.ref T) (wipe σ vs) (upd H T (.tup [x, y])) fun σ2 H2 =>
      wipe σ2 vs = wipe σ vs ∧ tt σ2 H2 fun b H3 => if b = true then te σ2 H3 fun y H4 => ∃ acc, H4 D = some (.lst acc) ∧
        acc.length < sizeLine ∧ Pv (i + 1) (upd H4 D (.lst (acc ++ [y]))) else Pv (i + 1) H3)
    (hd : ∀ H, Pv xs.length H → Qd H) :
    ∃ W : Nat → Nat → Hp → Prop, (∃ m, W 0 m (upd H D (.lst []))) ∧ ∀ i m H, W i m H →
      ((Itz K a b).stop i H ∧ Qd H) ∨ ((Itz K a b).go i H ∧ ∃ Nx : Hp → Prop, (∀ H', Nx H' → ∃ m', m' < m ∧ W (i + 1) m' H') ∧
        ∀ x H', (Itz K a b).yld i H x H' → g x (wipe σ vs) H' fun σ2 H2 => wipe σ2 vs = wipe σ vs ∧ tt σ2 H2 fun b H3 =>
          if b = true then te σ2 H3 fun y H4 => ∃ acc, H4 D = some (.lst acc) ∧ acc.length < sizeLine ∧ Nx (upd H4 D (.lst (acc ++ [y]))) else Nx H3) := by
  refine ⟨fun i m H => m = xs.length - i ∧ i ≤ xs.length ∧ Pv i H, ⟨_, rfl, Nat.zero_le _, h0⟩, ?_⟩
  rintro i m H ⟨rfl, hi, p⟩
  obtain ⟨qx, qy⟩ := hq i H p
  rcases Nat.lt_or_ge i xs.length with lt | ge
  · have ly : i < ys.length := by omega
    refine .inr ⟨⟨xs, ys, xs[i], ys[i], qx, qy, List.getElem?_eq_getElem lt, List.getElem?_eq_getElem ly⟩, Pv (i + 1),
      fun H' p' => ⟨xs.length - (i + 1), by omega, rfl, lt, p'⟩, ?_⟩
    rintro v H' ⟨T, x, y, rfl, hT, rfl, fx, fy⟩
    exact hs i x y T H (fx xs qx) (fy ys qy) p hT
  · obtain rfl : i = xs.length := Nat.le_antisymm hi ge
    exact .inl ⟨⟨xs, ys, qx, qy, .inl (Nat.le_refl _)⟩, hd H p⟩
end
end SH

/-! SH4: how lists of ints are shown, and compared. -/
namespace SH
open PySem PySem.Spec PyProof.Rows L2

/-- a list of ints as data -/
def dI (ns : List Int) : PyData := .list (ns.map PyData.int)
theorem dp_ints {K : PySem.W.Frag} {H : Hp} : ∀ ns : List Int, DpAll K H (iv ns) (ns.map PyData.int)
  | [] => .nil
  | n :: r => .cons (.int n) (dp_ints r)
theorem dp_dI {K : PySem.W.Frag} {H : Hp} {a : Addr} {ns : List Int} (h : SqL K H a (iv ns)) : Dp K H (.ref a) (dI ns) := .lst h (dp_ints ns)
theorem small_log {v : Int} (h : v.natAbs < 2 ^ 64) : v.natAbs.log2 < 1920 := by
  by_cases e : v.natAbs = 0
  · rw [e]; decide
  · have := (Nat.log2_lt e).mpr h
    omega
theorem show_ints : ∀ {ns : List Int}, (∀ v ∈ ns, v.natAbs < 2 ^ 64) → PyData.showableAll (ns.map PyData.int) = true
  | [], _ => rfl
  | n :: r, h => by
    show (decide (n.natAbs.log2 < 1920) && PyData.showableAll (r.map PyData.int)) = true
    rw [decide_eq_true (small_log (h n List.mem_cons_self)), show_ints fun v hv => h v (List.mem_cons_of_mem _ hv)]
    rfl
theorem dict_ints : ∀ ns : List Int, PyData.hasDictAll (ns.map PyData.int) = false
  | [] => rfl
  | n :: r => by
    show (false || PyData.hasDictAll (r.map PyData.int)) = false
    rw [dict_ints r]
    rfl
theorem depth_ints : ∀ ns : List Int, PyData.depthAll (ns.map PyData.int) = 0
  | [] => rfl
  | n :: r => by
    show max 0 (PyData.depthAll (r.map PyData.int)) = 0
    rw [depth_ints r]
    rfl
theorem shownAll_len : ∀ {ns : List Int}, (∀ v ∈ ns, v.natAbs < 2 ^ 64) → ((PyData.shownAll (ns.map PyData.int)).map (·.length)).sum ≤ 1921 * ns.length ∧
    (PyData.shownAll (ns.map PyData.int)).length = ns.length
  | [], _ => ⟨Nat.le_refl _, rfl⟩
  | n :: r, h => by
    obtain ⟨a, b⟩ := shownAll_len (ns := r) fun v hv => h v (List.mem_cons_of_mem _ hv)
    have := int_text_len_1921 (small_log (h n List.mem_cons_self))
    constructor
    · show (PySem.Str.ofString (toString n)).length + ((PyData.shownAll (r.map PyData.int)).map (·.length)).sum ≤ 1921 * (r.length + 1)
      omega
    · show (PyData.shownAll (r.map PyData.int)).length + 1 = r.length + 1
      omega
theorem shows_ints {K : PySem.W.Frag} {H : Hp} {a : Addr} {ns : List Int} (h : SqL K H a (iv ns)) (hl : ns.length ≤ 1000) (hv : ∀ v ∈ ns, v.natAbs < 2 ^ 64) :
    Shows K H (.ref a) (dI ns) := by
  refine ⟨dp_dI h, show_ints hv, dict_ints ns, ?_, ?_⟩
  · show PyData.depthAll (ns.map PyData.int) + 1 ≤ 60
    rw [depth_ints]
    decide
  · show (listText (PyData.shownAll (ns.map PyData.int))).length ≤ sizeLine
    obtain ⟨a, b⟩ := shownAll_len hv
    have := listText_len_le (PyData.shownAll (ns.map PyData.int))
    have e : sizeLine = 16777216 := by decide
    omega
theorem shaped_dI (ns : List Int) : SeqAt.shaped (dI ns) = true := by
  have c : ∀ ms : List Int, PyData.canLayAll0 (ms.map PyData.int) = true := fun ms => by
    induction ms with
    | nil => rfl
    | cons n r ih => show (true && PyData.canLayAll0 (r.map PyData.int)) = true; rw [ih]; rfl
  unfold SeqAt.shaped
  have d : (dI ns).depth = 1 := by show PyData.depthAll (ns.map PyData.int) + 1 = 1; rw [depth_ints]
  rw [d]
  show (PyData.canLayAll0 (ns.map PyData.int) && decide (1 ≤ 64)) = true
  rw [c]
  rfl
theorem eqv_ints : ∀ ns ms : List Int, PyData.eqvAll (ns.map PyData.int) (ms.map PyData.int) = decide (ns = ms)
  | [], [] => rfl
  | [], _ :: _ => rfl
  | _ :: _, [] => rfl
  | n :: r, m :: q => by
    show ((n == m) && PyData.eqvAll (r.map PyData.int) (q.map PyData.int)) = _
    rw [eqv_ints r q, Bool.eq_iff_iff]
    simp
theorem eqv_dI (ns ms : List Int) : PyData.eqv (dI ns) (dI ms) = decide (ns = ms) := eqv_ints ns ms
/-- two lists of ints compared -/
theorem eqD_ints {K : PySem.W.Frag} {H : Hp} {a b : Addr} {ns ms : List Int} {Q : VK} (ha : SqL K H a (iv ns)) (hb : SqL K H b (iv ms))
    (q : Q (.bl (decide (ns = ms))) H) : rEqD K (.ref a) (.ref b) H Q :=
  ⟨dI ns, dI ms, dp_dI ha, dp_dI hb, shaped_dI ns, shaped_dI ms, by rw [eqv_dI]; exact q⟩
theorem neD_ints {K : PySem.W.Frag} {H : Hp} {a b : Addr} {ns ms : List Int} {Q : VK} (ha : SqL K H a (iv ns)) (hb : SqL K H b (iv ms))
    (q : Q (.bl (!decide (ns = ms))) H) : rNeD K (.ref a) (.ref b) H Q :=
  ⟨dI ns, dI ms, dp_dI ha, dp_dI hb, shaped_dI ns, shaped_dI ms, by rw [eqv_dI]; exact q⟩

theorem iv_snoc (ns : List Int) (d : Int) : iv ns ++ [V.int d] = iv (ns ++ [d]) := by
  unfold iv
  rw [List.map_append]
  rfl
theorem getD_all {xs : List Int} {p : Int → Prop} (h : ∀ v ∈ xs, p v) {z : Int} (h0 : 0 ≤ z) (h1 : z < xs.length) : p (xs.getD z.toNat 0) := by
  have hz : z.toNat < xs.length := by omega
  rw [List.getD_eq_getElem?_getD, List.getElem?_eq_getElem hz]
  exact h _ (List.getElem_mem hz)
/-- range as a list of ints -/
def rg (n : Nat) : List Int := (List.range n).map fun (i : Nat) => (i : Int)
theorem rgV_rg (n : Nat) : rgV 0 (n : Int) = iv (rg n) := by
  unfold rgV rg iv
  rw [List.map_map]
  have e : ((n : Int) - 0).toNat = n := by omega
  rw [e]
  refine List.map_congr_left fun i _ => ?_
  show V.int (0 + (i : Int)) = V.int (i : Int)
  rw [Int.zero_add]
theorem iv_rep (n : Nat) (d : Int) : (List.replicate n [V.int d]).flatten = iv (List.replicate n d) := by
  induction n with
  | zero => rfl
  | succ n ih => rw [List.replicate_succ, List.flatten_cons, ih, List.replicate_succ]; rfl
/-- list + list, each read as it stands -/
def rCatS (K : PySem.W.Frag) : R2 := fun x y H Q => ∃ l b xs zs, x = .ref l ∧ y = .ref b ∧ SqL K H l xs ∧ SqL K H b zs ∧ xs.length + zs.length ≤ sizeLine ∧ NewL Q H (xs ++ zs)
theorem op_catS {X : Cx} : OpR X (binaryOp .Add) (rCatS X.K) := by
  intro pins s σ H x y v u Q I rx ry h
  obtain ⟨l, b, xs, zs, rfl, rfl, hx, hy, hz, q⟩ := h
  cases rx
  cases ry
  obtain ⟨its, r, ⟨o, n, ho, hc, hd, ht⟩, _⟩ := I.list hx
  obtain ⟨its2, r2, ⟨o2, n2, ho2, hc2, hd2, ht2⟩, _⟩ := I.list hy
  have e1 := r.length
  have e2 := r2.length
  obtain ⟨oc, od, dt, sl⟩ := o
  obtain ⟨oc2, od2, dt2, sl2⟩ := o2
  simp only at hc hd ht hc2 hd2 ht2
  subst hc hd ht hc2 hd2 ht2
  have ea : its.toArray ++ its2.toArray = (its ++ its2).toArray := by simp
  refine concat_meets ⟨_, ho, rfl⟩ ⟨_, ho2, rfl⟩ noFill_list_add seq_list_add PySem.F.slot_list_add PySem.F.entry_list_add
    (PySem.F.args_list_add_2 _ _) (list_addW l b its.toArray its2.toArray n n2 none none sl sl2 (by simp only [List.size_toArray]; omega)) ⟨ho, ho2, ?_⟩
  rw [ea]
  exact ⟨.ref _, _, I.lnew (t' := s.toks) (r.append r2) (by rw [List.length_append]; omega), rfl, q _ I.fresh⟩
theorem Same.but {a : Addr} {H0 H H' : Hp} (s : Same H0 H) (n : H0 a = none) (b : SameBut a H H') : Same H0 H' := fun c o e =>
  b c o (s c o e) (ne_of_none e n)
end SH

/-! SH5: a list stored into a slice with open bounds (xs[:] = ys, xs[a:] = ys). -/
namespace SH
open PySem PySem.Spec PyProof.Rows L2
section
variable {prog : Program} {w : World} {A : Around} {E : Value → Shared → Prop} {s : Shared}
theorem store_open {tgt src sl : Addr} {old new : Array Value} {n n2 : Nat} {vl vu : Value} {lo hi : Option Int} {Q : Unit → Shared → Prop}
    (eo : s.heap.get? tgt = some { cls := .type "list", data := .seq old n }) (en : s.heap.get? src = some { cls := .type "list", data := .seq new n2 })
    (ne : tgt ≠ src) (isl : s.heap.IsSliceOf sl vl vu .none) (pl : IsPart vl lo) (pu : IsPart vu hi) (small : old.size + new.size ≤ sizeLine)
    (h : Q () { s with heap := s.heap.update tgt (Obj.mapSeq fun xs => xs.extract 0 (HT.sIx old.size 0 lo) ++ new ++ xs.extract (max (HT.sIx old.size 0 lo) (HT.sIx old.size old.size hi)) xs.size) }) :
    wpAny (model prog w) A (setItem (.ref tgt) (.ref sl) (.ref src)) Q E s := by
  obtain ⟨b1, b2, b3⟩ := slice_bounds lo hi old.size
  have isT := PySem.IsL.isList eo
  have isS := PySem.IsL.isList en
  obtain ⟨os, go, co, fo⟩ := id isl
  have tyS : s.TypeIs (.ref sl) "slice" := ⟨os, go, co⟩
  have li := HT.sIx_le old.size 0 (Nat.zero_le _) lo
  have lj := HT.sIx_le old.size old.size (Nat.le_refl _) hi
  have diff : Builtin.List.listSameRef (.ref tgt) (.ref src) = false := by
    unfold Builtin.List.listSameRef; exact beq_eq_false_iff_ne.mpr ne
  generalize HT.sIx old.size 0 lo = i at *
  generalize HT.sIx old.size old.size hi = j at *
  have mx : (max (i : Int) (j : Int)).toNat = max i j := by omega
  have room : ((fun xs : Array Value => xs.extract 0 i ++ new ++ xs.extract (max i j) xs.size) old).size ≤ sizeLine + 1 := by
    simp only [Array.size_append, Array.size_extract]; omega
  unfold setItem
  try with_reducible refine wpAny_holding ?_
  first | refine wpAny_bind (wpAny_pure ?_) | skip
  refine wpAny_bind (wpAny_sequenceKey isT.typeIs (by decide) ?_)
  refine wpAny_bind (wpAny_callSpecial?_slot (name := Str.ofString "__setitem__") isT.typeIs slot_list_setitem (wpAny_call_entry slot_list_setitem isT.typeIs entry_list_setitem ?_ (args_list_setitem _ _ _)))
  show wpAny _ _ (Builtin.List.listSubscript? (.ref sl) >>= _) _ _ s
  refine wpAny_bind ?_
  unfold Builtin.List.listSubscript?
  refine wpAny_bind (wpAny_specialOf tyS slice_no_index ?_)
  simp only [Option.isNone_none, if_true]
  refine wpAny_pure ?_
  show wpAny _ _ (typeOf (.ref sl) >>= _) _ _ s
  refine wpAny_bind (wpAny_typeOf tyS ?_)
  first | rw [if_neg (by decide)] | refine PySem.W.KFB.if_not (by decide) ?_
  rw [listSliceParts_eq]
  refine wpAny_bind (wpAny_bind (wpAny_field go fo (x := .none) rfl (wpAny_bind (wpAny_listPart .none ?_))))
  rw [if_neg (show ¬ ((rawPart none == rawInt 0) = true) from Bool.false_ne_true)]
  refine wpAny_bind (wpAny_field go fo (x := vl) rfl (wpAny_bind (wpAny_listPart pl ?_)))
  refine wpAny_bind (wpAny_field go fo (x := vu) rfl (wpAny_bind (wpAny_listPart pu (wpAny_pure ?_))))
  first
    | simp only [diff, Bool.false_eq_true, if_false]
    | refine PySem.W.KFB.if_not diff ?_
    | (dsimp only; rw [if_neg (by rw [diff]; exact Bool.false_ne_true)])
  refine wpAny_bind (m := Builtin.List.listAllItems (.ref src) "must assign iterable to extended slice") ?_
  unfold Builtin.List.listAllItems
  refine wpAny_bind (wpAny_typeOf isS.typeIs ?_)
  first | refine PySem.W.KFB.if_so (by decide) ?_ | rw [if_pos (by decide)] | simp only [beq_self_eq_true, Bool.true_or, if_true]
  unfold Builtin.List.listItems
  refine wpAny_bind (wpAny_seqItems en rfl (wpAny_pure ?_))
  refine wpAny_bind (wpAny_bind (wpAny_seqItems eo rfl (wpAny_pure ?_)))
  have bb : sliceBounds lo hi none old.size = ((i : Int), (j : Int), 1) := Prod.ext b1 (Prod.ext b2 b3)
  refine wpAny_bind (wpAny_of_eq ((sliceIndices_raw lo hi none old.size (by simp)).trans (congrArg (pure : Int × Int × Int → Sem (Int × Int × Int)) bb)) ?_)
  show wpAny _ _ (if ((1 : Int) == 1) = true then _ else _) _ _ s
  rw [if_pos (by decide)]
  refine wpAny_bind (wpAny_rule ?_)
  first | simp only [notLongL small, Bool.false_eq_true, if_false] | refine PySem.W.KFB.if_not (notLongL small) ?_
  first | refine wpAny_bind (wpAny_pure ?_) | skip
  show wpAny _ _ (updateSeq tgt (fun xs => xs.extract 0 ((i : Int)).toNat ++ new ++ xs.extract (max (i : Int) (j : Int)).toNat xs.size) >>= _) _ _ s
  rw [mx, Int.toNat_natCast]
  refine wpAny_bind (wpAny_updateSeq (hz := Nat.le_trans (Nat.le_add_right _ _) small) (_hz' := room) eo rfl ?_)
  refine wpAny_bind (wpAny_letGo ?_)
  first
    | exact wpAny_bind (wpAny_pure (wpAny_pure ⟨.none, rfl, wpAny_pure h⟩))
    | exact wpAny_pure ⟨.none, rfl, wpAny_pure h⟩
end
/-- ys stored into xs[lo:hi] -/
def rStore : V → Option Int → Option Int → V → Hp → (Hp → Prop) → Prop := fun o lo hi v H Q => ∃ (l b : Addr) (xs ys : List V), o = .ref l ∧ v = .ref b ∧ l ≠ b ∧ H l = some (.lst xs) ∧ H b = some (.lst ys) ∧
  xs.length + ys.length ≤ sizeLine ∧ Q (upd H l (.lst (xs.take (HT.sIx xs.length 0 lo) ++ ys ++ xs.drop (max (HT.sIx xs.length 0 lo) (HT.sIx xs.length xs.length hi)))))
def gStore (to : TE) (tl th : TO) : TG := fun v σ H Q => to σ H fun o H1 => tl σ H1 fun lo H2 => th σ H2 fun hi H3 => rStore o lo hi v H3 fun H4 => Q σ H4
section
variable {X : Cx} {o : Expr} {to : TE} {lo hi : Option Expr} {tl th : TO} {p2 pos : Pos}
theorem pg_store (ho : PE X o to) (hl : PO X lo tl) (hu : PO X hi th)
    (ha : ∀ v, assign (.Subscript o (.Slice lo hi none p2) pos) X.env v = (do
      let ov ← holding [v] (eval o X.env)
      let iv ← holding [v, ov] (eval (.Slice lo hi none p2) X.env)
      standAt pos
      holding [v, ov, iv] (setItem ov iv v)
      release [iv, v, ov] []) := by intro _; rfl) : PG X (.Subscript o (.Slice lo hi none p2) pos) (gStore to tl th) := by
  refine ⟨fun pins s σ H v u Q I r h => ?_⟩
  rw [ha]
  refine wpAny_bind (wpAny_holding (thn (ho.run pins s σ H _ I h) fun ov s1 ⟨x, H1, I1, r1, q1⟩ => ?_))
  refine wpAny_bind (wpAny_holding (wpAny_Slice (thn (hl.run pins s1 σ H1 _ I1 q1) fun vl s2 ⟨l, H2, I2, pl, q2⟩ => thn (hu.run pins s2 σ H2 _ I2 q2) fun vu s3 ⟨u', H3, I3, pu, q3⟩ => ?_)))
  rw [evalPart_none]
  refine wpAny_pure ?_
  have I4 : Inv X pins σ H3 { s3 with heap := s3.heap.push { cls := .type "slice", data := .fields #[vl, vu, .none] } } := I3.kept (t' := s3.toks) fun b ob q => Heap.get?_push_of_some _ q
  refine wpAny_bind (wpAny_standAt (wpAny_bind (wpAny_holding ?_)))
  obtain ⟨a, b, xs, ys, rfl, rfl, ne, ea, eb, sm, q⟩ := q3
  cases r1
  cases r
  obtain ⟨z, its, n, rr, hl1, e⟩ := I4.lstM ea
  obtain ⟨z2, its2, n2, rr2, hl2, e2⟩ := I4.lstM eb
  have k1 := rr.length
  have k2 := rr2.length
  refine store_open e e2 ne (Heap.IsSliceOf.new ..) pl pu (by rw [List.size_toArray, List.size_toArray]; omega) ?_
  refine wpAny_release ⟨σ, _, ?_, q⟩
  rw [List.size_toArray, ← k1]
  refine I4.lset (its' := its.take (HT.sIx xs.length 0 l) ++ its2 ++ its.drop (max (HT.sIx xs.length 0 l) (HT.sIx xs.length xs.length u'))) (t' := _) ea e ?_ (Vals.append (Vals.append (rr.take _) rr2) (rr.drop _)) ?_
  · exact splice_eq its its2 _ _
  · rw [List.length_append, List.length_append, List.length_take, List.length_drop]
    omega
end
end SH

/-! SH6: comprehensions over enumerate and lists whose turns change nothing that is tracked. -/
namespace SH
open PySem PySem.Spec PyProof.Rows L2
theorem if_any {b : Bool} {A B : TE} {σ : L2.St} {H : Hp} {Q : VK} (Inv : V → Hp → Prop) (ha : b = true → ∀ Q' : VK, (∀ v H', Inv v H' → Q' v H') → A σ H Q')
    (hb : b = false → ∀ Q' : VK, (∀ v H', Inv v H' → Q' v H') → B σ H Q') (h : ∀ v H', Inv v H' → Q v H') : if b = true then A σ H Q else B σ H Q := by
  cases b with
  | true => rw [if_pos rfl]; exact ha rfl Q h
  | false => rw [if_neg Bool.false_ne_true]; exact hb rfl Q h
theorem Same.at {H H' : Hp} {a : Addr} {o : HO} (s : Same H H') (n : H a = none) : Same H (upd H' a o) := fun b u e => by
  rw [upd_ne (ne_of_none e n)]; exact s b u e
theorem while_cut {tc : TT} {tb : TS} {D : Ends} {σ : L2.St} {H : Hp} (Exit : L2.St → Hp → Prop) (main : ∀ σ' H', Exit σ' H' → D.nx σ' H')
    (h : (∀ σ' H', Exit σ' H' → D.nx σ' H') → tWhile tc tb D σ H) : tWhile tc tb D σ H := h main
section
variable {K : PySem.W.Frag} {tt : TT} {te : TE} {vs : List Nat} {σ : L2.St} {H : Hp} {D : Addr} {Qd : Hp → Prop}
/-- a turn's end, the heap told by Same -/
theorem lc_turnS {n : Nat} {keep : Nat → Bool} {val : Nat → V} {i : Nat} {σ2 : L2.St} {H2 : Hp} (hD : H D = none) (hi : i < n) (hn : n < 100000) (s2 : Same H H2)
    (h2 : H2 D = some (.lst (gives i keep val)))
    (ht : ∀ Q : Bool → Hp → Prop, (∀ H3, Same H2 H3 → Q (keep i) H3) → tt σ2 H2 Q)
    (he : ∀ H3, Same H2 H3 → ∀ Q : VK, keep i = true → (∀ H4, Same H3 H4 → Q (val i) H4) → te σ2 H3 Q) :
    tt σ2 H2 fun b H3 => if b = true then te σ2 H3 fun y H4 => ∃ acc, H4 D = some (.lst acc) ∧ acc.length < sizeLine ∧
      (Same H (upd H4 D (.lst (acc ++ [y]))) ∧ (upd H4 D (.lst (acc ++ [y]))) D = some (.lst (gives (i + 1) keep val)))
      else (Same H H3 ∧ H3 D = some (.lst (gives (i + 1) keep val))) := by
  refine ht _ fun H3 s3 => ?_
  by_cases h : keep i = true
  · rw [h]
    refine iteT (he H3 s3 _ h fun H4 s4 => ⟨_, s4 _ _ (s3 _ _ h2), small_line (by have := gives_len i keep val; omega), Same.at ((s2.trans s3).trans s4) hD, ?_⟩)
    rw [upd_same, gives_succ, if_pos h]
  · have h' : keep i = false := by cases e : keep i <;> simp_all
    rw [h']
    refine iteF ⟨s2.trans s3, ?_⟩
    rw [gives_succ, if_neg h]
    exact s3 _ _ h2
/-- [.. for i, x in enumerate(xs) ..] -/
theorem lcEn {a : Addr} {xs : List V} {j1 j2 : Nat} (keep : Nat → Bool) (val : Nat → V) (hx : SqL K H a xs) (hD : H D = none) (hn : xs.length < 100000)
    (hw : ∀ x y, wipe (((wipe σ vs).set j1 (some x)).set j2 (some y)) vs = wipe σ vs)
    (ht : ∀ i x H2 (Q : Bool → Hp → Prop), xs[i]? = some x → Same H H2 → (∀ H3, Same H2 H3 → Q (keep i) H3) → tt (((wipe σ vs).set j1 (some (.int (i : Nat)))).set j2 (some x)) H2 Q)
    (he : ∀ i x H2 (Q : VK), xs[i]? = some x → keep i = true → Same H H2 → (∀ H3, Same H2 H3 → Q (val i) H3) → te (((wipe σ vs).set j1 (some (.int (i : Nat)))).set j2 (some x)) H2 Q)
    (hd : ∀ H', Same H H' → H' D = some (.lst (gives xs.length keep val)) → Qd H') :
    ∃ W : Nat → Nat → Hp → Prop, (∃ m, W 0 m (upd H D (.lst []))) ∧ ∀ i m H, W i m H →
      ((Ite K a).stop i H ∧ Qd H) ∨ ((Ite K a).go i H ∧ ∃ Nx : Hp → Prop, (∀ H', Nx H' → ∃ m', m' < m ∧ W (i + 1) m' H') ∧
        ∀ x H', (Ite K a).yld i H x H' → gTup K 2 (gCons (gName j1) (gCons (gName j2) gNil)) x (wipe σ vs) H' fun σ2 H2 => wipe σ2 vs = wipe σ vs ∧ tt σ2 H2 fun b H3 =>
          if b = true then te σ2 H3 fun y H4 => ∃ acc, H4 D = some (.lst acc) ∧ acc.length < sizeLine ∧ Nx (upd H4 D (.lst (acc ++ [y]))) else Nx H3) := by
  refine ⟨fun i m H' => m = xs.length - i ∧ i ≤ xs.length ∧ Same H H' ∧ H' D = some (.lst (gives i keep val)), ⟨_, rfl, Nat.zero_le _, Same.new hD, upd_same⟩, ?_⟩
  rintro i m H2 ⟨rfl, hi, s2, h2⟩
  have hq := s2.seq hx
  rcases Nat.lt_or_ge i xs.length with lt | ge
  · refine .inr ⟨⟨xs, xs[i], hq, List.getElem?_eq_getElem lt⟩, fun H' => Same H H' ∧ H' D = some (.lst (gives (i + 1) keep val)), fun H' p' => ⟨xs.length - (i + 1), by omega, rfl, lt, p'.1, p'.2⟩, ?_⟩
    rintro v H' ⟨T, x, rfl, hT, rfl, f⟩
    have sT : Same H (upd H2 T (.tup [.int (i : Nat), x])) := s2.trans (Same.new hT)
    have hTD := Same.new (o := .tup [.int (i : Nat), x]) hT _ _ h2
    refine ⟨T, _, rfl, SqT.of upd_same, rfl, _, _, rfl, _, _, rfl, rfl, hw _ _, ?_⟩
    exact lc_turnS hD lt hn sT hTD (fun Q q => ht i x _ Q (f xs hq) sT q) (fun H3 s3 Q k q => he i x H3 Q (f xs hq) k (sT.trans s3) q)
  · obtain rfl : i = xs.length := Nat.le_antisymm hi ge
    exact .inl ⟨⟨xs, hq, Nat.le_refl _⟩, hd H2 s2 h2⟩
/-- [.. for x in xs ..] whose turns may make things -/
theorem lcLn {a : Addr} {xs : List V} {j : Nat} (keep : Nat → Bool) (val : Nat → V) (hx : SqL K H a xs) (hD : H D = none) (hn : xs.length < 100000)
    (hw : ∀ x, wipe ((wipe σ vs).set j (some x)) vs = wipe σ vs)
    (ht : ∀ i x H2 (Q : Bool → Hp → Prop), xs[i]? = some x → Same H H2 → (∀ H3, Same H2 H3 → Q (keep i) H3) → tt ((wipe σ vs).set j (some x)) H2 Q)
    (he : ∀ i x H2 (Q : VK), xs[i]? = some x → keep i = true → Same H H2 → (∀ H3, Same H2 H3 → Q (val i) H3) → te ((wipe σ vs).set j (some x)) H2 Q)
    (hd : ∀ H', Same H H' → H' D = some (.lst (gives xs.length keep val)) → Qd H') :
    ∃ W : Nat → Nat → Hp → Prop, (∃ m, W 0 m (upd H D (.lst []))) ∧ ∀ i m H, W i m H →
      ((Itl K a).stop i H ∧ Qd H) ∨ ((Itl K a).go i H ∧ ∃ Nx : Hp → Prop, (∀ H', Nx H' → ∃ m', m' < m ∧ W (i + 1) m' H') ∧
        ∀ x H', (Itl K a).yld i H x H' → gName j x (wipe σ vs) H' fun σ2 H2 => wipe σ2 vs = wipe σ vs ∧ tt σ2 H2 fun b H3 =>
          if b = true then te σ2 H3 fun y H4 => ∃ acc, H4 D = some (.lst acc) ∧ acc.length < sizeLine ∧ Nx (upd H4 D (.lst (acc ++ [y]))) else Nx H3) :=
  lc_list (xs := xs) (fun i H2 => Same H H2 ∧ H2 D = some (.lst (gives i keep val))) ⟨Same.new hD, upd_same⟩
    (fun i H2 hi e => e.1.seq hx)
    (fun i x H2 hi e => ⟨hw _, lc_turnS hD (List.getElem?_eq_some_iff.mp hi).1 hn e.1 e.2 (fun Q q => ht i x H2 Q hi e.1 q) (fun H3 s3 Q k q => he i x H3 Q hi k (e.1.trans s3) q)⟩)
    (fun H2 e => hd H2 e.1 e.2)
/-- [.. for i in range(lo, lo + n) ..] whose turns may make things -/
theorem lcRn {lo : Int} {n j : Nat} (keep : Nat → Bool) (val : Nat → V) (hD : H D = none) (hn : n < 100000)
    (hw : ∀ x, wipe ((wipe σ vs).set j (some x)) vs = wipe σ vs)
    (ht : ∀ i H2 (Q : Bool → Hp → Prop), i < n → Same H H2 → (∀ H3, Same H2 H3 → Q (keep i) H3) → tt ((wipe σ vs).set j (some (.int (lo + (i : Nat))))) H2 Q)
    (he : ∀ i H2 (Q : VK), i < n → keep i = true → Same H H2 → (∀ H3, Same H2 H3 → Q (val i) H3) → te ((wipe σ vs).set j (some (.int (lo + (i : Nat))))) H2 Q)
    (hd : ∀ H', Same H H' → H' D = some (.lst (gives n keep val)) → Qd H') :
    ∃ W : Nat → Nat → Hp → Prop, (∃ m, W 0 m (upd H D (.lst []))) ∧ ∀ i m H, W i m H →
      ((Itr lo n).stop i H ∧ Qd H) ∨ ((Itr lo n).go i H ∧ ∃ Nx : Hp → Prop, (∀ H', Nx H' → ∃ m', m' < m ∧ W (i + 1) m' H') ∧
        ∀ x H', (Itr lo n).yld i H x H' → gName j x (wipe σ vs) H' fun σ2 H2 => wipe σ2 vs = wipe σ vs ∧ tt σ2 H2 fun b H3 =>
          if b = true then te σ2 H3 fun y H4 => ∃ acc, H4 D = some (.lst acc) ∧ acc.length < sizeLine ∧ Nx (upd H4 D (.lst (acc ++ [y]))) else Nx H3) :=
  lc_range (fun i H2 => Same H H2 ∧ H2 D = some (.lst (gives i keep val))) ⟨Same.new hD, upd_same⟩
    (fun i H2 hi e => ⟨hw _, lc_turnS hD hi hn e.1 e.2 (fun Q q => ht i H2 Q hi e.1 q) (fun H3 s3 Q k q => he i H3 Q hi k (e.1.trans s3) q)⟩)
    (fun H2 e => hd H2 e.1 e.2)
/-- [.. for a, b in zip(xs, ys) ..], lists of any lengths, whose turns may make things -/
theorem lcZn {a b : Addr} {xs ys : List V} {j1 j2 : Nat} (keep : Nat → Bool) (val : Nat → V) (hx : SqL K H a xs) (hy : SqL K H b ys) (hD : H D = none) (hn : xs.length < 100000)
    (hw : ∀ x y, wipe (((wipe σ vs).set j1 (some x)).set j2 (some y)) vs = wipe σ vs)
    (ht : ∀ i x y H2 (Q : Bool → Hp → Prop), xs[i]? = some x → ys[i]? = some y → Same H H2 → (∀ H3, Same H2 H3 → Q (keep i) H3) → tt (((wipe σ vs).set j1 (some x)).set j2 (some y)) H2 Q)
    (he : ∀ i x y H2 (Q : VK), xs[i]? = some x → ys[i]? = some y → keep i = true → Same H H2 → (∀ H3, Same H2 H3 → Q (val i) H3) → te (((wipe σ vs).set j1 (some x)).set j2 (some y)) H2 Q)
    (hd : ∀ H', Same H H' → H' D = some (.lst (gives (min xs.length ys.length) keep val)) → Qd H') :
    ∃ W : Nat → Nat → Hp → Prop, (∃ m, W 0 m (upd H D (.lst []))) ∧ ∀ i m H, W i m H →
      ((Itz K a b).stop i H ∧ Qd H) ∨ ((Itz K a b).go i H ∧ ∃ Nx : Hp → Prop, (∀ H', Nx H' → ∃ m', m' < m ∧ W (i + 1) m' H') ∧
        ∀ x H', (Itz K a b).yld i H x H' → gTup K 2 (gCons (gName j1) (gCons (gName j2) gNil)) x (wipe σ vs) H' fun σ2 H2 => wipe σ2 vs = wipe σ vs ∧ tt σ2 H2 fun b H3 =>
          if b = true then te σ2 H3 fun y H4 => ∃ acc, H4 D = some (.lst acc) ∧ acc.length < sizeLine ∧ Nx (upd H4 D (.lst (acc ++ [y]))) else Nx H3) := by
  refine ⟨fun i m H' => m = min xs.length ys.length - i ∧ i ≤ min xs.length ys.length ∧ Same H H' ∧ H' D = some (.lst (gives i keep val)), ⟨_, rfl, Nat.zero_le _, Same.new hD, upd_same⟩, ?_⟩
  rintro i m H2 ⟨rfl, hi, s2, h2⟩
  have qx := s2.seq hx
  have qy := s2.seq hy
  rcases Nat.lt_or_ge i (min xs.length ys.length) with lt | ge
  · have lx : i < xs.length := by omega
    have ly : i < ys.length := by omega
    refine .inr ⟨⟨xs, ys, xs[i], ys[i], qx, qy, List.getElem?_eq_getElem lx, List.getElem?_eq_getElem ly⟩, fun H' => Same H H' ∧ H' D = some (.lst (gives (i + 1) keep val)),
      fun H' p' => ⟨min xs.length ys.length - (i + 1), by omega, rfl, lt, p'.1, p'.2⟩, ?_⟩
    rintro v H' ⟨T, x, y, rfl, hT, rfl, fx, fy⟩
    have sT : Same H (upd H2 T (.tup [x, y])) := s2.trans (Same.new hT)
    have hTD := Same.new (o := .tup [x, y]) hT _ _ h2
    refine ⟨T, _, rfl, SqT.of upd_same, rfl, _, _, rfl, _, _, rfl, rfl, hw _ _, ?_⟩
    exact lc_turnS hD lx hn sT hTD (fun Q q => ht i x y _ Q (fx xs qx) (fy ys qy) sT q) (fun H3 s3 Q k q => he i x y H3 Q (fx xs qx) (fy ys qy) k (sT.trans s3) q)
  · obtain rfl : i = min xs.length ys.length := Nat.le_antisymm hi ge
    refine .inl ⟨⟨xs, ys, qx, qy, ?_⟩, hd H2 s2 h2⟩
    rcases Nat.le_total xs.length ys.length with c | c
    · exact .inl (by omega)
    · exact .inr (by omega)
end
end SH

/-! SH7: set(xs) of a list of hin, and sorted of such a set, any number of members below the table's bound. -/
namespace SH
open PySem PySem.Spec PyProof.Rows L2
/-- the object that set() makes -/
abbrev setO0 (w : World) : Obj :=
  { cls := .type "set", dict := none, data := .set #[] 0 (.fresh 0 0 (!w.params.followText "set-order")) }
section
variable {P : Program} {w : World} {A : Around} {E : Value → Shared → Prop} {s : Shared}
set_option maxHeartbeats 3200000 in
theorem set_of_list {l : Addr} {xs : Array Value} (ns : List Int) {Q : Value → Shared → Prop} (calm : A.handled = none)
    (isl : s.heap.IsList l xs) (hin : IntsAre xs.toList ns) (few : ns.length + 1 < scanBound)
    (h : ∀ (g : Heap) (tk c : Nat), SetR w g s.heap.objs.size (fun j => decide (j ∈ ns)) c → c ≤ ns.length →
      (∀ b o, s.heap.get? b = some o → g.get? b = some o) →
      Q (.ref s.heap.objs.size) { s with heap := g, toks := tk }) :
    wpAny (model P w) A (call (.type "set") [.ref l]) Q E s := by
  have size : xs.size = ns.length := by rw [← Array.length_toList]; exact IntsAre.length hin
  obtain ⟨_, _, m1⟩ := F.called_set.mro
  have m2 := F.called_set.made
  have m3 := F.called_set.sub
  refine wpAny_call (codeAny_of_tree (show wpAny _ _ (callAny (.type "set") _) _ _ _ from ?_))
  refine wpAny_pure ⟨Code.quiet_builtin _ (by decide +kernel),
    codeAny_builtin F.entry_type_call ?_⟩
  rw [Around.under_plain (weight_type_call_type "set"
    [.ref l] []) rfl]
  have m4 := F.called_set.notType
  have m5 := F.called_set.canCreate
  have m6 := F.typeCall_set_1 (.ref l)
  repeat (any_goals (first | wp_step | assumption))
  refine codeAny_mono (code_set_led1 (.ref l) (E := E)
    (Q₁ := fun ob t => ob = .ref s.heap.objs.size ∧ t = { s with heap := s.heap.push (setO0 w) }) ⟨rfl, rfl⟩)
    fun res t made => ?_
  cases res with
  | error e => exact made
  | ok fl =>
  cases fl with
  | ret ob =>
    obtain ⟨rfl, rfl⟩ := made
    have at0 : (s.heap.push (setO0 w)).get? s.heap.objs.size = some (setO0 w) := Heap.get?_push_size _ rfl
    have ty0 : Shared.TypeIs { s with heap := s.heap.push (setO0 w) } (.ref s.heap.objs.size) "set" := ⟨_, at0, rfl⟩
    have m7 := F.called_set.init.lookup
    have m8 := F.called_set.init.bind (.ref s.heap.objs.size)
    repeat (any_goals (first | wp_step | assumption))
    refine codeAny_mono (codeAny_call_builtin (R := wants (fun r t => r = .none ∧ ∃ g tk c, t = { s with heap := g, toks := tk } ∧
        SetR w g s.heap.objs.size (fun j => decide (j ∈ ns)) c ∧ c ≤ ns.length ∧ ∀ b o, s.heap.get? b = some o → g.get? b = some o) E)
      F.called_set.init.plain F.entry_set_init (check_set_init_1 ty0 ?_)) fun res2 t2 done => ?_
    · obtain ⟨ol, lk, cl, en, dl⟩ := isl
      obtain ⟨c1, d1, x1, sl1⟩ := ol
      simp only at cl dl
      subst cl dl
      have lk' : (s.heap.push (setO0 w)).get? l = some { cls := .type "list", dict := d1, data := .seq xs en, slots := sl1 } :=
        Heap.get?_push_of_some _ lk
      have u1 := F.sub_list_set
      have u2 := F.sub_list_frozenset
      have u3 : (Value.type "list" == Value.type "dict") = false := by decide
      have isl1 : (s.heap.push (setO0 w)).IsList l xs := ⟨_, lk', rfl, en, rfl⟩
      unfold Builtin.«set.__init__» noKeywords
      unfold Builtin.Frozenset.updateFrom
      generalize iterE : pyIter = itf
      wp_walk
      subst iterE
      refine wpAny_pyIter_list isl1 (wpAny_bind (wpAny_runValue ?_))
      have lt : l < s.heap.objs.size := Heap.lt_size lk
      have calm3 : A.in1.in1.in1.handled = none := by simp [calm]
      have sz : (s.heap.push (setO0 w)).objs.size = s.heap.objs.size + 1 := Heap.size_push ..
      have ne1 : l ≠ (s.heap.push (setO0 w)).objs.size := by rw [sz]; exact Nat.ne_of_lt (Nat.lt_succ_of_lt lt)
      have ne2 : s.heap.objs.size ∉ [(s.heap.push (setO0 w)).objs.size, l] := by
        rw [sz]
        simp only [List.mem_cons, List.not_mem_nil, or_false, not_or]
        exact ⟨Nat.ne_of_lt (Nat.lt_succ_self _), Ne.symm (Nat.ne_of_lt lt)⟩
      have vals : ∀ (i : Nat) (v : Value), xs[i]? = some v → ∃ k t, ns[i]? = some k ∧ v = .int k t := fun i v e => by
        have il : i < ns.length := by rw [← size]; exact (Array.getElem?_eq_some_iff.mp e).1
        obtain ⟨t, et⟩ := IntsAre.int_at hin i v (by rw [Array.getElem?_toList]; exact e)
        refine ⟨ns.getD i 0, t, ?_, et⟩
        rw [List.getD_eq_getElem?_getD, List.getElem?_eq_getElem il]
        rfl
      refine set_update_ints ((Walks.list calm3 _ l ne1 xs).toS) s.heap.objs.size ne2 ns size few vals (xs.size - 0) 0 _ (by omega)
        (Nat.zero_le _) ⟨⟨_, Heap.get?_push_size _ rfl, rfl, rfl⟩, isl1.push _⟩ ⟨0, Nat.le_refl 0, ?_⟩ ?_
      · exact setR_new_at (Heap.get?_push_of_some _ at0)
      · intro t c mv cl1 R
        obtain ⟨g, gens, drawn, tk, os⟩ := t
        obtain rfl : gens = s.gens := mv.gens
        obtain rfl : drawn = s.drawn := mv.drawn
        obtain rfl : os = s.os := mv.os
        refine wpAny_pure (show wpAny _ _ (ret Value.none) _ _ _ from ?_)
        rw [size] at cl1
        refine wpAny_pure ⟨rfl, g, tk, c, rfl, R, cl1, fun b o e => mv.heap b o ?_ ?_⟩
        · have lb : b < s.heap.objs.size := Heap.lt_size e
          rw [sz]
          simp only [List.mem_cons, List.not_mem_nil, or_false, not_or]
          exact ⟨Nat.ne_of_lt lb, Nat.ne_of_lt (Nat.lt_succ_of_lt lb)⟩
        · exact Heap.get?_push_of_some _ (Heap.get?_push_of_some _ e)
    · cases res2 with
      | error e => exact done
      | ok fl2 =>
      cases fl2 with
      | ret r =>
        obtain ⟨rfl, g, tk, c, rfl, R, cl1, kp⟩ := done
        repeat (any_goals (first | wp_step | assumption))
        exact h _ _ _ R cl1 kp
      | _ => exact done.elim
  | _ => exact made.elim
theorem set_sorted {a : Addr} {S : Int → Bool} {n : Nat} {Q : Value → Shared → Prop} (R : SetR w s.heap a S n) (calm : A.handled = none)
    (h : ∀ t p (out : Array Value) (c : Nat) (ns : List Int), (∀ b o, s.heap.get? b = some o → t.heap.get? b = some o) → t.gens = s.gens → t.os = s.os →
      s.heap.objs.size ≤ p → t.heap.get? p = some (seqObj "list" out c) → IntsAre out.toList ns → ns.Pairwise (· < ·) →
      (∀ k, k ∈ ns ↔ S k = true) → ns.length = n → Q (.ref p) t) :
    wpAny (model P w) A (call (.builtin "sorted") [.ref a]) Q E s := by
  obtain ⟨ob, es, ep, tb, look, exact', dat, good, dis, mem, bnd, fits, cnt, ris, led⟩ := R
  refine Calls.call_function_entry kind_sorted plain_sorted entry_sorted (args_sorted1 _) ?_
  unfold Builtin.«sorted»
  refine wpAny_bind (m := checkCount "sorted" 1 1 _) (wpAny_pure (wpAny_bind (collect_set (A := A.in1) calm ⟨ob, look, exact'.1, dat⟩ fits bnd ris led
    fun t1 vs kp grow gn osn perm => ?_)))
  have lenV : vs.length = n := by rw [perm.length_eq, List.length_map, Array.length_toList]; exact cnt
  have intsV : IntsAre vs (vs.map Builtin.Re.reRawOf) := ints_of vs fun v hv => by
    obtain ⟨e, he, rfl⟩ := List.mem_map.mp (perm.mem_iff.mp hv)
    obtain ⟨k, tk, x, _⟩ := good e he
    exact ⟨k, tk, x⟩
  have permK : (vs.map Builtin.Re.reRawOf).Perm (es.toList.map keyOf) := by
    have := perm.map Builtin.Re.reRawOf
    rwa [List.map_map] at this
  have small : vs.length ≤ sizeLine := by
    have : scanBound = 4096 := rfl
    rw [lenV, sizeLine_eq]
    omega
  refine wpAny_bind (wpAny_newList ?_ small)
  have look2 : (t1.heap.push (seqObj "list" vs.toArray 0)).get? t1.heap.objs.size = some (seqObj "list" vs.toArray 0) :=
    Heap.get?_push_size _ rfl
  refine wpAny_bind (wpAny_holding (wpAny_call_entry slot_list_sort ⟨_, look2, rfl⟩ entry_list_sort
    (SrtO.list_sort_ord SrtO.swo_int look2 small (fun two => SrtO.ints_sortable intsV two) fun out o1 o2 => ⟨_, rfl, ?_⟩) (args_list_sort _)))
  obtain ⟨k1, k2, k3⟩ := SrtO.ints_out intsV o1 o2
  obtain ⟨c, ec⟩ := sortedHeap_at (vs := vs) (out := out.toArray) look2
  have pn : (out.map SrtO.iv).Perm (es.toList.map keyOf) := k2.trans permK
  refine wpAny_pure ⟨_, rfl, h _ t1.heap.objs.size out.toArray c (out.map SrtO.iv) (fun b u e => ?_) gn osn grow ec k1
    (lt_of_le_nodup _ k3 (pn.nodup_iff.mpr dis)) (fun k => by rw [pn.mem_iff, ← mem k]) ?_⟩
  · have e1 := kp b u e
    have lb : b < t1.heap.objs.size := Heap.lt_size e1
    have lb2 : b ≠ t1.heap.objs.size := Nat.ne_of_lt lb
    show (sortedHeap (t1.heap.push (seqObj "list" vs.toArray 0)) t1.heap.objs.size vs out.toArray).get? b = some u
    rw [sortedHeap_old lb2 (by rw [size_push']; exact Nat.lt_succ_of_lt lb)]
    exact Heap.get?_push_of_some _ e1
  · rw [pn.length_eq, List.length_map, Array.length_toList]
    exact cnt
end
/-- set(xs) -/
def rSetOfI (K : PySem.W.Frag) (w : World) : List V → Hp → VK → Prop := fun xs H Q => ∃ (l : Addr) (ns : List Int), xs = [.ref l] ∧ SqL K H l (iv ns) ∧ ns.length < 4000 ∧
  ∀ a n, H a = none → n ≤ ns.length → Q (.ref a) (upd H a (SetO w a (fun j => decide (j ∈ ns)) n))
theorem cr_setOfI {X : Cx} (hc : X.calm = true) : CallR X (.type "set") (rSetOfI X.K X.w) := by
  intro pins s σ H xs us Q I r h
  obtain ⟨l, ns, rfl, hl, hf, q⟩ := h
  rw [Vals.ref1 r]
  obtain ⟨its, rv, pl, hz⟩ := I.list hl
  have hn : H s.heap.objs.size = none := I.hok.fresh (Nat.le_refl _)
  refine set_of_list (P := X.prog) (w := X.w) ns (I.ok.hd hc) pl.isList (by simpa using ints_of_vals rv) (by have : scanBound = 4096 := rfl; omega) fun g tk c R cl kp => ?_
  exact ⟨.ref s.heap.objs.size, upd H s.heap.objs.size (SetO X.w s.heap.objs.size (fun j => decide (j ∈ ns)) c), I.laid (t' := tk) kp (Nat.le_refl _) (setO_new R), rfl, q _ c hn cl⟩
/-- sorted(found), any number of members -/
def rSortedN (w : World) : List V → Hp → VK → Prop := fun vs H Q => ∃ (a : Addr) (S : Int → Bool) (n : Nat), vs = [V.ref a] ∧ H a = some (SetO w a S n) ∧
  ∀ (ns : List Int) (p : Addr), ns.Pairwise (· < ·) → (∀ k : Int, k ∈ ns ↔ S k = true) → ns.length = n → H p = none → Q (.ref p) (upd H p (.lst (iv ns)))
theorem cr_sortedN {X : Cx} (hc : X.calm = true) : CallR X (.builtin "sorted") (rSortedN X.w) := by
  intro pins s σ H vs us Q I r h
  obtain ⟨a, S, n, rfl, ha, q⟩ := h
  have R := setO_get I ha
  rw [Vals.ref1 r]
  have nb : n < scanBound := by obtain ⟨_, es, _, _, _, _, _, _, _, _, b, _, e, _⟩ := R; omega
  refine set_sorted R (I.ok.hd hc) fun t p out c ns kp gn osn hp look hin asc mem len => ?_
  have small : (iv ns).length ≤ sizeLine := by
    have : scanBound = 4096 := rfl
    rw [List.length_map, len, sizeLine_eq]
    omega
  have hn : H p = none := I.hok.fresh hp
  have J : Inv X pins σ (upd H p (.lst (iv ns))) { s with heap := t.heap, gens := t.gens, drawn := t.drawn, toks := t.toks } :=
    I.call (ch := []) (Un.laid kp hp hn) (I.hok.laid kp hp ⟨small, out.toList, c, vals_of_ints hin, look⟩)
      (by rw [gn]; exact I.bare) (fun _ z => nomatch z)
  have e : t = { s with heap := t.heap, gens := t.gens, drawn := t.drawn, toks := t.toks } := by
    cases t; cases s; cases osn; rfl
  rw [e]
  exact ⟨.ref p, _, J, rfl, q ns p asc mem len hn⟩
end SH

/-! SH8: sorted(xs) of a list of ints, any length below 4000. -/
namespace SH
open PySem PySem.Spec PyProof.Rows L2
def rSortedAny (K : PySem.W.Frag) : List V → Hp → VK → Prop := fun vs H Q => ∃ (a : Addr) (ns : List Int), vs = [V.ref a] ∧ SqL K H a (ns.map V.int) ∧ ns.length < 4000 ∧
  ∀ (ns' : List Int) (p : Addr), ns'.Perm ns → ns'.Pairwise (· ≤ ·) → H p = none → Q (.ref p) (upd H p (.lst (ns'.map V.int)))
section
variable {X : Cx}
theorem cr_sortedAny : CallR X (.builtin "sorted") (rSortedAny X.K) := by
  intro pins s σ H vs us Q I r h
  obtain ⟨a, ns, rfl, hs, h64, q⟩ := h
  obtain ⟨its, rv, hl, _⟩ := I.list hs
  rw [Vals.ref1 r]
  have hi := rv.ints
  have hb : its.length ≤ sizeLine := by rw [hi.length, sizeLine_eq]; omega
  refine PyProof.Rows.sorted_intsAny hl.isList hi hb fun out ns' h1 h2 h3 => ?_
  obtain ⟨ep, he'⟩ := PyProof.Rows.sortedAll_at s.heap its out
  have hlen : (ns'.map V.int).length ≤ sizeLine := by rw [List.length_map, h2.length_eq, sizeLine_eq]; omega
  exact ⟨.ref _, upd H (s.heap.objs.size + 1) (.lst (ns'.map V.int)), I.laid (t' := s.toks) (fun _ _ => PyProof.Rows.sortedAll_old) (Nat.le_succ _) ⟨hlen, out.toList, ep, vals_of_ints h1, he'⟩, rfl, q ns' _ h2 h3 (I.hok.fresh (Nat.le_succ _))⟩
end
end SH

/-! SH9: values of any kind: data that stands in the heap, its repr, its type. -/
namespace SH
open PySem PySem.Spec PyProof.Rows L2

mutual
inductive Dx (H : Hp) : V → PyData → List Addr → Prop
  | non : Dx H .non .none []
  | bl (b : Bool) : Dx H (.bl b) (.bool b) []
  | int (i : Int) : Dx H (.int i) (.int i) []
  | str (x : Str) : Dx H (.str x) (.str x) []
  | lst {a : Addr} {xs : List V} {ds : List PyData} {as : List Addr} : H a = some (.lst xs) → DxAll H xs ds as → Dx H (.ref a) (.list ds) (a :: as)
  | tup {a : Addr} {xs : List V} {ds : List PyData} {as : List Addr} : H a = some (.tup xs) → DxAll H xs ds as → Dx H (.ref a) (.tuple ds) (a :: as)
  | emp {a : Addr} : H a = some (.dK []) → Dx H (.ref a) (.dict []) [a]
inductive DxAll (H : Hp) : List V → List PyData → List Addr → Prop
  | nil : DxAll H [] [] []
  | cons {v : V} {vs : List V} {d : PyData} {ds : List PyData} {as bs : List Addr} : Dx H v d as → DxAll H vs ds bs → DxAll H (v :: vs) (d :: ds) (as ++ bs)
end
mutual
theorem Dx.imp {H H' : Hp} : ∀ {d : PyData} {v : V} {as : List Addr}, Dx H v d as → (∀ a ∈ as, ∀ o, H a = some o → H' a = some o) → Dx H' v d as
  | .none, _, _, h, k => by cases h; exact .non
  | .bool b, _, _, h, k => by cases h; exact .bl b
  | .int i, _, _, h, k => by cases h; exact .int i
  | .str x, _, _, h, k => by cases h; exact .str x
  | .list ds, _, _, h, k => by
    cases h with
    | lst e r => exact .lst (k _ List.mem_cons_self _ e) (DxAll.imp r fun a m => k a (List.mem_cons_of_mem _ m))
  | .tuple ds, _, _, h, k => by
    cases h with
    | tup e r => exact .tup (k _ List.mem_cons_self _ e) (DxAll.imp r fun a m => k a (List.mem_cons_of_mem _ m))
  | .dict _, _, _, h, k => by
    cases h with
    | emp e => exact .emp (k _ List.mem_cons_self _ e)
theorem DxAll.imp {H H' : Hp} : ∀ {ds : List PyData} {vs : List V} {as : List Addr}, DxAll H vs ds as → (∀ a ∈ as, ∀ o, H a = some o → H' a = some o) → DxAll H' vs ds as
  | [], _, _, h, k => by cases h; exact .nil
  | d :: ds, _, _, h, k => by
    cases h with
    | cons h1 h2 => exact .cons (Dx.imp h1 fun a m => k a (List.mem_append_left _ m)) (DxAll.imp h2 fun a m => k a (List.mem_append_right _ m))
end
theorem Dx.same {H H' : Hp} {v : V} {d : PyData} {as : List Addr} (h : Dx H v d as) (s : Same H H') : Dx H' v d as := h.imp fun a _ o e => s a o e
theorem Dx.but {H H' : Hp} {g : Addr} {v : V} {d : PyData} {as : List Addr} (h : Dx H v d as) (s : SameBut g H H') (n : g ∉ as) : Dx H' v d as :=
  h.imp fun a m o e => s a o e fun z => n (z ▸ m)
theorem DxAll.append {H : Hp} : ∀ {xs ys : List V} {ds es : List PyData} {as bs : List Addr}, DxAll H xs ds as → DxAll H ys es bs → DxAll H (xs ++ ys) (ds ++ es) (as ++ bs)
  | _, _, _, _, _, _, .nil, h => h
  | _, _, _, _, _, _, .cons h1 h2, h => by
    rw [List.append_assoc]
    exact .cons h1 (DxAll.append h2 h)
theorem dx_ints {H : Hp} : ∀ ns : List Int, DxAll H (iv ns) (ns.map PyData.int) []
  | [] => .nil
  | n :: r => .cons (as := []) (.int n) (dx_ints r)
theorem dx_one {H : Hp} {v : V} {d : PyData} {as : List Addr} (h : Dx H v d as) : DxAll H [v] [d] as := by
  have := DxAll.cons h .nil
  rwa [List.append_nil] at this
theorem dx_dI {H : Hp} {a : Addr} {ns : List Int} (h : H a = some (.lst (iv ns))) : Dx H (.ref a) (dI ns) [a] := .lst h (dx_ints ns)
theorem DxAll.len {H : Hp} : ∀ {xs : List V} {ds : List PyData} {as : List Addr}, DxAll H xs ds as → xs.length = ds.length
  | _, _, _, .nil => rfl
  | _, _, _, .cons _ h => congrArg (· + 1) h.len
theorem DxAll.at {H : Hp} : ∀ {xs : List V} {ds : List PyData} {as : List Addr} {i : Nat} {x : V}, DxAll H xs ds as → xs[i]? = some x → ∃ d bs, ds[i]? = some d ∧ Dx H x d bs
  | _, _, _, _, _, .nil, e => by simp at e
  | _, _, _, 0, _, .cons h _, e => by simp at e; subst e; exact ⟨_, _, rfl, h⟩
  | _, _, _, i + 1, x, .cons _ t, e => by
    obtain ⟨d, bs, h1, h2⟩ := DxAll.at (i := i) (x := x) t (by simpa using e)
    exact ⟨d, bs, by simpa using h1, h2⟩
section
variable {X : Cx} {pins : List (Addr × Obj)} {σ : L2.St} {H : Hp} {s : Shared}
theorem Dx.fresh (I : Inv X pins σ H s) {a : Addr} {o : HO} (e : H a = some o) : a < s.heap.objs.size := I.hok.lt e
mutual
theorem Dx.reads (I : Inv X pins σ H s) : ∀ (d : PyData) (v : V) (u : Value) (as : List Addr), Dx H v d as → RelV v u → ∃ bs, Reads s.heap u d bs ∧ ∀ b ∈ bs, b ∈ as
  | .none, _, _, _, h, r => by
    cases h
    cases r
    exact ⟨_, Reads.none, fun _ z => z⟩
  | .bool b, _, _, _, h, r => by
    cases h
    cases r
    exact ⟨_, Reads.bool b, fun _ z => z⟩
  | .int i, _, _, _, h, r => by
    cases h
    obtain ⟨t, rfl⟩ := r
    exact ⟨_, Reads.int i t, fun _ z => z⟩
  | .str x, _, _, _, h, r => by
    cases h
    obtain ⟨t, rfl⟩ := r
    exact ⟨_, Reads.str x t, fun _ z => z⟩
  | .list ds, _, _, _, h, r => by
    cases h with
    | lst hs ha =>
      cases r
      obtain ⟨its, rv, ⟨o, n, ho, hc, _, hd⟩, _⟩ := I.list (SqL.of hs)
      obtain ⟨bs, hr, hb⟩ := Dx.readsAll I ds _ its _ ha rv
      refine ⟨_, Reads.list ho hc hd hr, fun b m => ?_⟩
      rcases List.mem_cons.mp m with rfl | m
      · exact List.mem_cons_self
      · exact List.mem_cons_of_mem _ (hb b m)
  | .tuple ds, _, _, _, h, r => by
    cases h with
    | tup hs ha =>
      cases r
      obtain ⟨its, rv, ⟨o, ho, hc, n, hd⟩, _⟩ := I.tuple (SqT.of hs)
      obtain ⟨bs, hr, hb⟩ := Dx.readsAll I ds _ its _ ha rv
      exact ⟨_, Reads.tuple ho hc hd hr, fun b m => List.mem_cons_of_mem _ (hb b m)⟩
  | .dict _, _, _, _, h, r => by
    cases h with
    | emp e =>
      cases r
      obtain ⟨_, _, vs, rel, o, es, ep, ho, ex, hd, _, pr, _⟩ := dk_of I.hok e
      cases rel
      have e0 : es.toList = [] := by
        cases q : es.toList with
        | nil => rfl
        | cons x y => rw [q] at pr; cases pr
      exact ⟨_, Reads.dict (as := []) (bs := []) ho ex.1 hd (by rw [e0]; exact .nil) (by rw [e0]; exact .nil), fun b m => m⟩
theorem Dx.readsAll (I : Inv X pins σ H s) : ∀ (ds : List PyData) (vs : List V) (us : List Value) (as : List Addr), DxAll H vs ds as → Vals vs us → ∃ bs, ReadsAll s.heap us ds bs ∧ ∀ b ∈ bs, b ∈ as
  | [], _, _, _, h, r => by
    cases h
    cases r
    exact ⟨_, ReadsAll.nil, fun _ z => z⟩
  | d :: ds, _, _, _, h, r => by
    cases h with
    | cons h1 h2 =>
      cases r with
      | cons r1 r2 =>
        obtain ⟨as, q1, m1⟩ := Dx.reads I d _ _ _ h1 r1
        obtain ⟨bs, q2, m2⟩ := Dx.readsAll I ds _ _ _ h2 r2
        refine ⟨_, ReadsAll.cons q1 q2, fun b m => ?_⟩
        rcases List.mem_append.mp m with m | m
        · exact List.mem_append_left _ (m1 b m)
        · exact List.mem_append_right _ (m2 b m)
end
end
/-! ### repr of such -/
/-- a value that can be shown, in at most L signs -/
def Fits (n L : Nat) (d : PyData) : Prop := d.showable = true ∧ d.depth ≤ n ∧ d.shown.length ≤ L
def rReprX : List V → Hp → VK → Prop := fun xs H Q =>
  ∃ (x : V) (d : PyData) (as : List Addr), xs = [x] ∧ Dx H x d as ∧ (d.hasDict = true → sysModules ∉ as) ∧ Fits 50 16000000 d ∧ Q (.str d.shown) H
section
variable {X : Cx}
theorem call_reprX (qt : Quiet X.A) (hu : X.A.units + 64 < cLine) : CallR X (.builtin "repr") rReprX := by
  intro pins s σ H xs us Q I r h
  obtain ⟨x, d, as, rfl, hd, hn, ⟨h1, h3, h4⟩, q⟩ := h
  obtain ⟨u, rfl, rx⟩ := vals1 r
  have hz : d.shown.length ≤ sizeLine := Nat.le_trans h4 (by decide)
  obtain ⟨bs, rd, hb⟩ := Dx.reads I d _ _ _ hd rx
  have atom : ∀ (a : Addr), u = .ref a → wpAny (model X.prog X.w) X.A (call (.builtin "repr") [u]) (EP X pins σ Q) X.xe s := fun a e => by
    subst e
    exact repr_of_reads' rd h1 (fun e m => hn e (hb _ m)) qt (by omega) (fun _ _ e => e)
      (fun h' u tk hk => ⟨.str d.shown, H, I.kept hk, ⟨u, rfl⟩, q⟩) hz
  cases hd with
  | non => cases rx; exact PySem.P.repr_of_none ⟨.str _, H, I.tok _, ⟨_, rfl⟩, q⟩
  | bl b => cases rx; exact PySem.P.repr_of_bool ⟨.str _, H, I.tok _, ⟨_, rfl⟩, by cases b <;> exact q⟩
  | int i =>
    obtain ⟨t, rfl⟩ := rx
    exact PySem.P.repr_of_int (of_decide_eq_true h1) ⟨.str _, H, I.tok _, ⟨_, rfl⟩, q⟩
  | str y =>
    obtain ⟨t, rfl⟩ := rx
    exact PySem.P.repr_of_str ⟨.str _, H, I.tok _, ⟨_, rfl⟩, q⟩ hz
  | lst _ _ => exact atom _ rx
  | tup _ _ => exact atom _ rx
  | emp _ => exact atom _ rx
end
/-! ### type(x), isinstance(x, T) -/
/-- the name of the type -/
def tyD : PyData → String
  | .none => "NoneType"
  | .bool _ => "bool"
  | .int _ => "int"
  | .str _ => "str"
  | .list _ => "list"
  | .tuple _ => "tuple"
  | .dict _ => "dict"
theorem Dx.tyX {K : PySem.W.Frag} {H : Hp} {v : V} {d : PyData} {as : List Addr} (h : Dx H v d as) : TyX K H v (.type (tyD d)) := by
  cases h with
  | non => exact .base .non
  | bl b => exact .base (.bl b)
  | int i => exact .base (.int i)
  | str x => exact .base (.str x)
  | lst e _ => exact .base (.lst e)
  | tup e _ => exact .base (.tup e)
  | emp e => exact .base (.dK e)
def rTyX : List V → Hp → VK → Prop := fun xs H Q => ∃ (x : V) (d : PyData) (as : List Addr), xs = [x] ∧ Dx H x d as ∧ Q (.ty (tyD d)) H
section
variable {X : Cx}
theorem call_typeX : CallR X (.type "type") rTyX := by
  intro pins s σ H xs us Q I r h
  obtain ⟨x, d, as, rfl, hd, q⟩ := h
  obtain ⟨u, rfl, rx⟩ := vals1 r
  have nb : ∀ d : PyData, (Value.type (tyD d) == Value.type "builtin_function_or_method") = false := fun d => by cases d <;> (simp only [tyD]; decide +kernel)
  have fin : s.TypeIs u (tyD d) → wpAny (model X.prog X.w) X.A (call (.type "type") [u]) (EP X pins σ Q) X.xe s :=
    fun h1 => call_type_of h1 (nb d) ⟨.ty _, H, I, rfl, q⟩
  cases hd with
  | non => cases rx; exact fin rfl
  | bl b => cases rx; exact fin rfl
  | int i => obtain ⟨t, rfl⟩ := rx; exact fin rfl
  | str y => obtain ⟨t, rfl⟩ := rx; exact fin rfl
  | lst e _ =>
    cases rx
    obtain ⟨its, rv, p, _⟩ := I.list (SqL.of e)
    exact fin p.isList.typeIs
  | tup e _ =>
    cases rx
    obtain ⟨its, rv, p, _⟩ := I.tuple (SqT.of e)
    exact fin p.typeIs
  | emp e =>
    cases rx
    obtain ⟨_, _, vs, rel, o, es, ep, ho, ex, _⟩ := dk_of I.hok e
    exact fin ⟨o, ho, ex.1⟩
/-- isinstance(x, T), T a built-in type -/
def rIsX : List V → Hp → VK → Prop := fun xs H Q => ∃ (x : V) (T : String) (d : PyData) (as : List Addr) (b : Bool), xs = [x, .ty T] ∧ Dx H x d as ∧ kitB (tyD d) T = some b ∧ Q (.bl b) H
theorem call_isX : CallR X (.builtin "isinstance") rIsX := by
  intro pins s σ H xs us Q I r h
  obtain ⟨x, T, d, as, b, rfl, hd, e, q⟩ := h
  exact call_isi pins s σ H _ us Q I r ⟨x, .ty T, _, _, b, rfl, .ty T, hd.tyX, kit_ty e, q⟩
theorem kit_int (d : PyData) : kitB (tyD d) "int" = some (match d with | .int _ => true | .bool _ => true | _ => false) := by
  cases d <;> (simp only [tyD]; decide +kernel)
theorem kit_bool (d : PyData) : kitB (tyD d) "bool" = some (match d with | .bool _ => true | _ => false) := by
  cases d <;> (simp only [tyD]; decide +kernel)
theorem kit_list (d : PyData) : kitB (tyD d) "list" = some (match d with | .list _ => true | _ => false) := by
  cases d <;> (simp only [tyD]; decide +kernel)
/-! ### new lists, known to stand apart from the module table -/
def tLstB (t : TA) : TE := fun σ H Q => t σ H fun xs H1 => xs.length ≤ sizeLine ∧ ∀ p, H1 p = none → p ≠ sysModules → Q (.ref p) (upd H1 p (.lst xs))
theorem pe_lstB {es : List Expr} {pos : Pos} {t : TA} (h : PA X es t) : PE X (.List es pos) (tLstB t) := by
  refine ⟨fun pins s σ H Q I hq => ?_⟩
  refine wpAny_List_spliced (thn (h.run pos pins s σ H _ I hq) fun us s1 ⟨xs, H1, I1, r, z, q⟩ => ⟨by rw [← r.length]; exact z, ?_⟩)
  have hf : H1 s1.heap.objs.size = none := I1.hok.fresh (Nat.le_refl _)
  refine ⟨.ref s1.heap.objs.size, upd H1 s1.heap.objs.size (.lst xs), I1.laid (t' := s1.toks) (fun b u e => Heap.get?_push_of_some _ e) (Nat.le_refl _) ?_, rfl, q _ hf (Nat.ne_of_gt I1.big)⟩
  exact ⟨z, us, 0, r, Heap.get?_push_size _ rfl⟩
def rCatB (K : PySem.W.Frag) : R2 := fun x y H Q => ∃ l b xs zs, x = .ref l ∧ y = .ref b ∧ SqL K H l xs ∧ SqL K H b zs ∧ xs.length + zs.length ≤ sizeLine ∧ ∀ p, H p = none → p ≠ sysModules → Q (.ref p) (upd H p (.lst (xs ++ zs)))
theorem op_catB : OpR X (binaryOp .Add) (rCatB X.K) := by
  intro pins s σ H x y v u Q I rx ry h
  obtain ⟨l, b, xs, zs, rfl, rfl, hx, hy, hz, q⟩ := h
  cases rx
  cases ry
  obtain ⟨its, r, ⟨o, n, ho, hc, hd, ht⟩, _⟩ := I.list hx
  obtain ⟨its2, r2, ⟨o2, n2, ho2, hc2, hd2, ht2⟩, _⟩ := I.list hy
  have e1 := r.length
  have e2 := r2.length
  obtain ⟨oc, od, dt, sl⟩ := o
  obtain ⟨oc2, od2, dt2, sl2⟩ := o2
  simp only at hc hd ht hc2 hd2 ht2
  subst hc hd ht hc2 hd2 ht2
  have ea : its.toArray ++ its2.toArray = (its ++ its2).toArray := by simp
  refine concat_meets ⟨_, ho, rfl⟩ ⟨_, ho2, rfl⟩ noFill_list_add seq_list_add PySem.F.slot_list_add PySem.F.entry_list_add
    (PySem.F.args_list_add_2 _ _) (list_addW l b its.toArray its2.toArray n n2 none none sl sl2 (by simp only [List.size_toArray]; omega)) ⟨ho, ho2, ?_⟩
  rw [ea]
  exact ⟨.ref _, _, I.lnew (t' := s.toks) (r.append r2) (by rw [List.length_append]; omega), rfl, q _ I.fresh (Nat.ne_of_gt I.big)⟩
end

def tDNewB : TE := fun _ H Q => ∀ p, H p = none → p ≠ sysModules → Q (.ref p) (upd H p (.dK []))
theorem pe_dnewB {X : Cx} {pos : Pos} : PE X (.Dict [] [] pos) tDNewB := ⟨fun pins s σ H Q I h =>
  wpAny_Dict_empty ⟨.ref s.heap.objs.size, _, I.laid (a := s.heap.objs.size) (o := .dK []) (t' := s.toks) (fun _ _ q => Heap.get?_push_of_some _ q) (Nat.le_refl _) (dk_empty s.heap I.big), rfl, h _ (I.hok.fresh (Nat.le_refl _)) (Nat.ne_of_gt I.big)⟩⟩
theorem atI_all {xs : List V} {p : V → Prop} (h : ∀ v ∈ xs, p v) {z : Int} (h0 : 0 ≤ z) (h1 : z < xs.length) : ∃ v, atI xs z = some v ∧ p v := by
  have e : z = ((z.toNat : Nat) : Int) := by omega
  have hl : z.toNat < xs.length := by omega
  refine ⟨xs[z.toNat], ?_, h _ (List.getElem_mem hl)⟩
  exact (congrArg (atI xs) e).trans (atI_nat (List.getElem?_eq_getElem hl))
theorem Fits.mono {n m L M : Nat} {d : PyData} (h : Fits n L d) (h1 : n ≤ m) (h2 : L ≤ M) : Fits m M d := ⟨h.1, Nat.le_trans h.2.1 h1, Nat.le_trans h.2.2 h2⟩
theorem small_log' {v : Int} (h : v.natAbs < 2 ^ 1900) : v.natAbs.log2 < 1920 := by
  by_cases e : v.natAbs = 0
  · rw [e]; decide
  · have := (Nat.log2_lt e).mpr h
    omega
theorem fit_int {v : Int} (h : v.natAbs < 2 ^ 1900) : Fits 0 1921 (.int v) := ⟨decide_eq_true (small_log' h), Nat.le_refl _, int_text_len_1921 (small_log' h)⟩
theorem fit_bool (b : Bool) : Fits 0 1921 (.bool b) := ⟨rfl, Nat.le_refl _, by cases b <;> decide⟩
theorem fit_none : Fits 0 1921 .none := ⟨rfl, Nat.le_refl _, by decide⟩
theorem fit_emp : Fits 1 1921 (.dict []) := ⟨rfl, by decide, by decide⟩
theorem fitAll {n L : Nat} : ∀ {ds : List PyData}, (∀ d ∈ ds, Fits n L d) → PyData.showableAll ds = true ∧ PyData.depthAll ds ≤ n ∧ ((PyData.shownAll ds).map (·.length)).sum ≤ L * ds.length ∧ (PyData.shownAll ds).length = ds.length
  | [], _ => ⟨rfl, Nat.zero_le _, Nat.le_refl _, rfl⟩
  | d :: r, h => by
    obtain ⟨a, b, c, e⟩ := fitAll (ds := r) fun v hv => h v (List.mem_cons_of_mem _ hv)
    obtain ⟨f1, f2, f3⟩ := h d List.mem_cons_self
    refine ⟨?_, ?_, ?_, ?_⟩
    · show (d.showable && PyData.showableAll r) = true
      rw [f1, a]; rfl
    · show max d.depth (PyData.depthAll r) ≤ n
      omega
    · show d.shown.length + ((PyData.shownAll r).map (·.length)).sum ≤ L * (r.length + 1)
      rw [Nat.mul_add]
      omega
    · show (PyData.shownAll r).length + 1 = r.length + 1
      omega
theorem fit_list {n L m : Nat} {ds : List PyData} (h : ∀ d ∈ ds, Fits n L d) (hl : ds.length ≤ m) : Fits (n + 1) (m * (L + 2) + 3) (.list ds) := by
  obtain ⟨a, b, c, e⟩ := fitAll h
  refine ⟨a, Nat.succ_le_succ b, ?_⟩
  show (listText (PyData.shownAll ds)).length ≤ _
  have := listText_len_le (PyData.shownAll ds)
  have h1 : L * ds.length + 2 * ds.length ≤ m * (L + 2) := by
    rw [← Nat.add_mul, Nat.mul_comm]
    exact Nat.mul_le_mul_right _ hl
  omega
theorem fit_tup {n L m : Nat} {ds : List PyData} (h : ∀ d ∈ ds, Fits n L d) (hl : ds.length ≤ m) : Fits (n + 1) (m * (L + 2) + 3) (.tuple ds) := by
  obtain ⟨a, b, c, e⟩ := fitAll h
  refine ⟨a, Nat.succ_le_succ b, ?_⟩
  show (tupleText (PyData.shownAll ds)).length ≤ _
  have := tupleText_len_le (PyData.shownAll ds)
  have h1 : L * ds.length + 2 * ds.length ≤ m * (L + 2) := by
    rw [← Nat.add_mul, Nat.mul_comm]
    exact Nat.mul_le_mul_right _ hl
  omega
theorem fit_ints {ns : List Int} (h : ∀ v ∈ ns, v.natAbs < 2 ^ 1900) : ∀ d ∈ ns.map PyData.int, Fits 0 1921 d := fun d hd => by
  obtain ⟨v, hv, rfl⟩ := List.mem_map.mp hd
  exact fit_int (h v hv)
theorem hasDict_app : ∀ xs ys : List PyData, PyData.hasDictAll (xs ++ ys) = (PyData.hasDictAll xs || PyData.hasDictAll ys)
  | [], _ => rfl
  | d :: r, ys => by
    show (d.hasDict || PyData.hasDictAll (r ++ ys)) = (d.hasDict || PyData.hasDictAll r || PyData.hasDictAll ys)
    rw [hasDict_app r ys, Bool.or_assoc]
end SH

/-! SH10: lists of pairs of ints (tuples), and comprehensions over them. -/
namespace SH
open PySem PySem.Spec PyProof.Rows L2

theorem lt1900 {n : Nat} (h : n < 2 ^ 128) : n < 2 ^ 1900 := Nat.lt_of_lt_of_le h (Nat.pow_le_pow_right (by decide) (by decide))
theorem noD {d : PyData} {as : List Addr} (h : d.hasDict = false) : d.hasDict = true → sysModules ∉ as := fun h' => by rw [h] at h'; cases h'
inductive Prs (H : Hp) : List V → List (Int × Int) → Prop
  | nil : Prs H [] []
  | cons {r : Addr} {s l : Int} {vs : List V} {os : List (Int × Int)} : H r = some (.tup [.int s, .int l]) → Prs H vs os → Prs H (.ref r :: vs) ((s, l) :: os)
theorem Prs.len {H : Hp} : ∀ {vs : List V} {os : List (Int × Int)}, Prs H vs os → vs.length = os.length
  | _, _, .nil => rfl
  | _, _, .cons _ h => congrArg (· + 1) h.len
theorem Prs.at {H : Hp} : ∀ {vs : List V} {os : List (Int × Int)} {i : Nat} {x : V}, Prs H vs os → vs[i]? = some x → ∃ r s l, x = .ref r ∧ os[i]? = some (s, l) ∧ H r = some (.tup [.int s, .int l])
  | _, _, _, _, .nil, e => by simp at e
  | _, _, 0, _, .cons h _, e => by simp at e; subst e; exact ⟨_, _, _, rfl, rfl, h⟩
  | _, _, i + 1, x, .cons _ t, e => by
    obtain ⟨r, s, l, h1, h2, h3⟩ := Prs.at (i := i) (x := x) t (by simpa using e)
    exact ⟨r, s, l, h1, by simpa using h2, h3⟩
theorem Prs.imp {H H' : Hp} : ∀ {vs : List V} {os : List (Int × Int)}, Prs H vs os → (∀ r o, H r = some (.tup o) → H' r = some (.tup o)) → Prs H' vs os
  | _, _, .nil, _ => .nil
  | _, _, .cons h t, k => .cons (k _ _ h) (t.imp k)
theorem Prs.same {H H' : Hp} {vs : List V} {os : List (Int × Int)} (h : Prs H vs os) (s : Same H H') : Prs H' vs os := h.imp fun r o e => s _ _ e
theorem Prs.but {H H' : Hp} {g : Addr} {xs : List V} {vs : List V} {os : List (Int × Int)} (h : Prs H vs os) (s : SameBut g H H') (hg : H g = some (.lst xs)) : Prs H' vs os :=
  h.imp fun r o e => s _ _ e (ne_of e hg (by intro z; cases z))
theorem Prs.upd {H : Hp} {g : Addr} {xs : List V} {o : HO} {vs : List V} {os : List (Int × Int)} (h : Prs H vs os) (hg : H g = some (.lst xs)) : Prs (L2.upd H g o) vs os :=
  h.imp fun r q e => by rw [upd_ne (ne_of e hg (by intro z; cases z))]; exact e
theorem Prs.append {H : Hp} : ∀ {vs ws : List V} {os qs : List (Int × Int)}, Prs H vs os → Prs H ws qs → Prs H (vs ++ ws) (os ++ qs)
  | _, _, _, _, .nil, h => h
  | _, _, _, _, .cons h1 h2, h => .cons h1 (h2.append h)
theorem Prs.set {H : Hp} {r : Addr} {s l : Int} (hr : H r = some (.tup [.int s, .int l])) : ∀ {vs : List V} {os : List (Int × Int)} (i : Nat), Prs H vs os → Prs H (vs.set i (.ref r)) (os.set i (s, l))
  | _, _, _, .nil => .nil
  | _, _, 0, .cons _ t => .cons hr t
  | _, _, i + 1, .cons h t => .cons h (Prs.set hr i t)
theorem Prs.take {H : Hp} : ∀ {vs : List V} {os : List (Int × Int)} (i : Nat), Prs H vs os → Prs H (vs.take i) (os.take i)
  | _, _, 0, _ => .nil
  | _, _, i + 1, .nil => .nil
  | _, _, i + 1, .cons h t => .cons h (Prs.take i t)
/-- as data -/
def pD (o : Int × Int) : PyData := .tuple [.int o.1, .int o.2]
theorem Prs.dx {H : Hp} : ∀ {vs : List V} {os : List (Int × Int)}, Prs H vs os → ∃ as, DxAll H vs (os.map pD) as
  | _, _, .nil => ⟨_, .nil⟩
  | _, _, .cons (s := s) (l := l) h t => by
    obtain ⟨as, d⟩ := t.dx
    exact ⟨_, .cons (.tup h (dx_ints [s, l])) d⟩
theorem Prs.dp {K : PySem.W.Frag} {H : Hp} : ∀ {vs : List V} {os : List (Int × Int)}, Prs H vs os → DpAll K H vs (os.map pD)
  | _, _, .nil => .nil
  | _, _, .cons (s := s) (l := l) h t => .cons (.tup (SqT.of h) (dp_ints [s, l])) t.dp
theorem fit_pD {o : Int × Int} (h1 : o.1.natAbs < 2 ^ 1900) (h2 : o.2.natAbs < 2 ^ 1900) : Fits 1 3849 (pD o) :=
  fit_tup (m := 2) (L := 1921) (fun d hd => by
    simp only [List.mem_cons, List.not_mem_nil, or_false] at hd
    rcases hd with rfl | rfl
    · exact fit_int h1
    · exact fit_int h2) (Nat.le_refl _)
theorem noDict_pD : ∀ os : List (Int × Int), PyData.hasDictAll (os.map pD) = false
  | [] => rfl
  | o :: r => by
    show ((pD o).hasDict || PyData.hasDictAll (r.map pD)) = false
    rw [noDict_pD r]
    rfl
theorem lay_pD : ∀ os : List (Int × Int), PyData.canLayAll0 (os.map pD) = true
  | [] => rfl
  | o :: r => by
    show ((pD o).canLay0 && PyData.canLayAll0 (r.map pD)) = true
    rw [lay_pD r]
    rfl
theorem depth_pD : ∀ os : List (Int × Int), PyData.depthAll (os.map pD) ≤ 1
  | [] => by decide
  | o :: r => by
    show max (pD o).depth (PyData.depthAll (r.map pD)) ≤ 1
    have h1 : (pD o).depth = 1 := rfl
    have := depth_pD r
    omega
theorem shaped_pD (os : List (Int × Int)) : SeqAt.shaped (.list (os.map pD)) = true := by
  unfold SeqAt.shaped
  have d : (PyData.list (os.map pD)).depth ≤ 2 := Nat.succ_le_succ (depth_pD os)
  show (PyData.canLayAll0 (os.map pD) && decide ((PyData.list (os.map pD)).depth ≤ 64)) = true
  rw [lay_pD, decide_eq_true (by omega)]
  rfl
section
variable {K : PySem.W.Frag} {tt : TT} {te : TE} {vs : List Nat} {σ : L2.St} {H : Hp} {D : Addr} {Qd : Hp → Prop}
/-- [.. for a, b in pairs ..] -/
theorem lcPn {a : Addr} {xs : List V} {os : List (Int × Int)} {j1 j2 : Nat} (keep : Nat → Bool) (val : Nat → V) (ha : H a = some (.lst xs)) (hp : Prs H xs os) (hD : H D = none) (hn : os.length < 100000)
    (hw : ∀ x y, wipe (((wipe σ vs).set j1 (some x)).set j2 (some y)) vs = wipe σ vs)
    (ht : ∀ i s l H2 (Q : Bool → Hp → Prop), os[i]? = some (s, l) → Same H H2 → (∀ H3, Same H2 H3 → Q (keep i) H3) → tt (((wipe σ vs).set j1 (some (.int s))).set j2 (some (.int l))) H2 Q)
    (he : ∀ i s l H2 (Q : VK), os[i]? = some (s, l) → keep i = true → Same H H2 → (∀ H3, Same H2 H3 → Q (val i) H3) → te (((wipe σ vs).set j1 (some (.int s))).set j2 (some (.int l))) H2 Q)
    (hd : ∀ H', Same H H' → H' D = some (.lst (gives os.length keep val)) → Qd H') :
    ∃ W : Nat → Nat → Hp → Prop, (∃ m, W 0 m (upd H D (.lst []))) ∧ ∀ i m H, W i m H →
      ((Itl K a).stop i H ∧ Qd H) ∨ ((Itl K a).go i H ∧ ∃ Nx : Hp → Prop, (∀ H', Nx H' → ∃ m', m' < m ∧ W (i + 1) m' H') ∧
        ∀ x H', (Itl K a).yld i H x H' → gTup K 2 (gCons (gName j1) (gCons (gName j2) gNil)) x (wipe σ vs) H' fun σ2 H2 => wipe σ2 vs = wipe σ vs ∧ tt σ2 H2 fun b H3 =>
          if b = true then te σ2 H3 fun y H4 => ∃ acc, H4 D = some (.lst acc) ∧ acc.length < sizeLine ∧ Nx (upd H4 D (.lst (acc ++ [y]))) else Nx H3) := by
  have hl := hp.len
  refine lc_list (xs := xs) (fun i H2 => Same H H2 ∧ H2 D = some (.lst (gives i keep val))) ⟨Same.new hD, upd_same⟩
    (fun i H2 hi e => SqL.of (e.1 _ _ ha)) (fun i x H2 hi e => ?_) (fun H2 e => hd H2 e.1 (by rw [← hl]; exact e.2))
  obtain ⟨r, s, l, rfl, ho, hr⟩ := hp.at hi
  refine ⟨r, _, rfl, SqT.of (e.1 _ _ hr), rfl, _, _, rfl, _, _, rfl, rfl, hw _ _, ?_⟩
  have il : i < xs.length := (List.getElem?_eq_some_iff.mp hi).1
  exact lc_turnS hD (by omega) hn e.1 e.2 (fun Q q => ht i s l H2 Q ho e.1 q) (fun H3 s3 Q k q => he i s l H3 Q ho k (e.1.trans s3) q)
end
end SH

/-! SH11: len(set(xs)) with repeats; lists of lists of ints. -/
namespace SH
open PySem PySem.Spec PyProof.Rows L2

theorem met_ok (val : Nat → Int) : ∀ n, (PyProof.Rows.firstMet val n).Nodup ∧ ∀ k, k ∈ PyProof.Rows.firstMet val n ↔ k ∈ (List.range n).map val
  | 0 => ⟨List.nodup_nil, fun k => Iff.rfl⟩
  | n + 1 => by
    obtain ⟨a, b⟩ := met_ok val n
    rw [PyProof.Rows.firstMet_succ]
    have e : ∀ (d : List Int) (v : Int), step_dedup d v = if (d.any (· == v)) = true then d else d ++ [v] := fun d v => rfl
    rw [e]
    by_cases c : (PyProof.Rows.firstMet val n).any (· == val n) = true
    · rw [if_pos c]
      obtain ⟨y, hy, ey⟩ := List.any_eq_true.mp c
      have ey2 : y = val n := eq_of_beq ey
      refine ⟨a, fun k => ?_⟩
      rw [b, List.range_succ, List.map_append, List.mem_append]
      constructor
      · exact .inl
      · rintro (h | h)
        · exact h
        · have : k = val n := by simpa using h
          rw [this, ← ey2]
          exact (b y).mp hy
    · rw [if_neg c]
      have no : val n ∉ PyProof.Rows.firstMet val n := fun h => c (List.any_eq_true.mpr ⟨_, h, by simp⟩)
      refine ⟨?_, fun k => ?_⟩
      · rw [List.nodup_append]
        refine ⟨a, by simp, fun x hx y hy => ?_⟩
        rw [List.mem_singleton.mp hy]
        intro z
        exact no (z ▸ hx)
      · rw [List.mem_append, b, List.range_succ, List.map_append, List.mem_append]
        simp
theorem met_all (ns : List Int) : ∀ k, k ∈ (List.range ns.length).map (fun i => ns.getD i 0) ↔ k ∈ ns := fun k => by
  rw [List.mem_map]
  constructor
  · rintro ⟨i, hi, rfl⟩
    have := List.mem_range.mp hi
    rw [List.getD_eq_getElem?_getD, List.getElem?_eq_getElem this]
    exact List.getElem_mem this
  · intro h
    obtain ⟨i, hi, rfl⟩ := List.getElem_of_mem h
    exact ⟨i, List.mem_range.mpr hi, by rw [List.getD_eq_getElem?_getD, List.getElem?_eq_getElem hi]; rfl⟩
def tLenSetG (K : PySem.W.Frag) (ta : TE) : TE := fun σ H Q => ta σ H fun x H1 => ∃ (l : Addr) (ns : List Int), x = .ref l ∧ SqL K H1 l (iv ns) ∧ ns.length ≤ 4000 ∧
  ∀ d : List Int, d.Nodup → (∀ k, k ∈ d ↔ k ∈ ns) → Q (.int (d.length : Nat)) H1
theorem pe_lenSetG {X : Cx} {a : Expr} {ta : TE} {p p2 q pos : Pos} (hg : Gl X "len") (hm : X.mg "len" = none) (hg2 : Gl X "set") (hm2 : X.mg "set" = none) (ha : PE X a ta) (hc : X.calm = true := by rfl)
    (na : starEach [a] X.env = (false, eval a X.env) :: starEach [] X.env := by rfl) : PE X (.Call (.Name "len" p) [.Call (.Name "set" p2) [a] [] q] [] pos) (tLenSetG X.K ta) := by
  refine ⟨fun pins s σ H Q I h => ?_⟩
  refine Call_ (ld_blt I hg hm boot_len ?_)
  refine PyProof.Rows.callWith_builtin1 (PyProof.Rows.args_cons ?_ rfl) rfl rfl
  refine Call_ (ld_blt I hg2 hm2 boot_set ?_)
  refine PyProof.Rows.callWith_type1 (PyProof.Rows.args_cons (thn (ha.run pins s σ H _ I h) fun v s1 ⟨x, H1, I1, r1, q1⟩ => PyProof.Rows.args_nil ?_) na) na rfl
  obtain ⟨l, ns, rfl, hq, hl, q1⟩ := q1
  cases r1
  obtain ⟨its, r, pl, hz⟩ := I1.list hq
  have hlen : its.toArray.size = ns.length := by rw [List.size_toArray, ← r.length, List.length_map]
  refine call_set_list (I1.ok.hd hc) pl.isList (by simpa using RZ.intsAre_vals r) (by rw [hlen]; unfold scanBound; omega) fun h' tk hS hk => ?_
  refine PyProof.Rows.args_nil ?_
  rw [hlen] at hS
  obtain ⟨m1, m2⟩ := met_ok (fun i => ns.getD i 0) ns.length
  have ml := PyProof.Rows.firstMet_length_le (fun i => ns.getD i 0) ns.length
  generalize PyProof.Rows.firstMet (fun i => ns.getD i 0) ns.length = d at *
  obtain ⟨o, es, ep, t, ho, hex, hd, _, _, _, hf, hn⟩ := hS
  have I2 : Inv X pins σ H1 { s1 with heap := h', toks := tk } := I1.kept fun b o e => hk b o (Heap.lt_size e) e
  exact call_len_set ho hex hd hf (by rw [hn] <;> omega) ⟨.int d.length, H1, I2.tok _, ⟨_, by rw [hn]⟩, q1 d m1 fun k => (m2 k).trans (met_all ns k)⟩

inductive Lsts (H : Hp) : List V → List (List Int) → Prop
  | nil : Lsts H [] []
  | cons {r : Addr} {L : List Int} {vs : List V} {Ls : List (List Int)} : H r = some (.lst (iv L)) → Lsts H vs Ls → Lsts H (.ref r :: vs) (L :: Ls)
theorem Lsts.len {H : Hp} : ∀ {vs : List V} {os : List (List Int)}, Lsts H vs os → vs.length = os.length
  | _, _, .nil => rfl
  | _, _, .cons _ h => congrArg (· + 1) h.len
theorem Lsts.at {H : Hp} : ∀ {vs : List V} {os : List (List Int)} {i : Nat} {x : V}, Lsts H vs os → vs[i]? = some x → ∃ r L, x = .ref r ∧ os[i]? = some L ∧ H r = some (.lst (iv L))
  | _, _, _, _, .nil, e => by simp at e
  | _, _, 0, _, .cons h _, e => by simp at e; subst e; exact ⟨_, _, rfl, rfl, h⟩
  | _, _, i + 1, x, .cons _ t, e => by
    obtain ⟨r, L, h1, h2, h3⟩ := Lsts.at (i := i) (x := x) t (by simpa using e)
    exact ⟨r, L, h1, by simpa using h2, h3⟩
theorem Lsts.same {H H' : Hp} : ∀ {vs : List V} {os : List (List Int)}, Lsts H vs os → Same H H' → Lsts H' vs os
  | _, _, .nil, _ => .nil
  | _, _, .cons h t, k => .cons (k _ _ h) (t.same k)
theorem Lsts.upd {H : Hp} {D : Addr} {o : HO} : ∀ {vs : List V} {os : List (List Int)}, Lsts H vs os → V.ref D ∉ vs → Lsts (L2.upd H D o) vs os
  | _, _, .nil, _ => .nil
  | _, _, .cons (r := r) h t, n => .cons (by rw [upd_ne (fun e => n (by rw [e]; exact List.mem_cons_self))]; exact h) (t.upd fun m => n (List.mem_cons_of_mem _ m))
theorem Lsts.append {H : Hp} : ∀ {vs ws : List V} {os qs : List (List Int)}, Lsts H vs os → Lsts H ws qs → Lsts H (vs ++ ws) (os ++ qs)
  | _, _, _, _, .nil, h => h
  | _, _, _, _, .cons h1 h2, h => .cons h1 (h2.append h)
end SH

/-! SH12: set(xs) of a list of any length, few different members. -/
namespace SH
open PySem PySem.Spec PyProof.Rows L2
theorem nodup_small : ∀ (D : Nat) {ks : List Int}, ks.Nodup → (∀ k ∈ ks, 0 ≤ k ∧ k < D) → ks.length ≤ D
  | 0, ks, _, b => by
    cases ks with
    | nil => exact Nat.le_refl _
    | cons x r => have := b x List.mem_cons_self; omega
  | D + 1, ks, nd, b => by
    have e := nodup_small D (ks := ks.erase (D : Int)) (nd.erase _) fun k hk => by
      have h1 := b k (List.mem_of_mem_erase hk)
      have h2 : k ≠ (D : Int) := fun e => by
        rw [e] at hk
        exact (List.Nodup.not_mem_erase nd) hk
      omega
    have := List.length_erase_le (a := (D : Int)) (l := ks)
    by_cases c : (D : Int) ∈ ks
    · rw [List.length_erase_of_mem c] at e
      omega
    · rw [List.erase_of_not_mem c] at e
      omega
theorem setR_few {w : World} {h : Heap} {a : Addr} {S : Int → Bool} {n D : Nat} (R : SetR w h a S n) (b : ∀ k, S k = true → 0 ≤ k ∧ k < D) : n ≤ D := by
  obtain ⟨o, es, ep, t, _, _, _, _, nd, mem, _, _, e, _⟩ := R
  have := nodup_small D nd fun k hk => b k ((mem k).mpr hk)
  rw [List.length_map, Array.length_toList] at this
  omega
section
variable {P : Program} {w : World} {A : Around} {E : Value → Shared → Prop} {s : Shared}
theorem set_update_few {I : Addr} {fp wr : List Addr} {G : Array GenState → Array GenState → Prop} {n : Nat} {Pv : Nat → Value → Prop} {St : Nat → Shared → Prop} {R : Result → Shared → Prop}
    (W : WalksS P w A.in1 I fp wr G n Pv St) (S : Addr) (nf : S ∉ fp) (ns : List Int) (hn : n = ns.length) (few : ∀ v ∈ ns, 0 ≤ v ∧ v < (1000 : Nat)) (hval : ∀ i v, Pv i v → ∃ k t, ns[i]? = some k ∧ v = .int k t) :
    ∀ (left i : Nat) (s : Shared), n - i = left → i ≤ n → St i s → (∃ c, SetR w s.heap S (fun j => decide (j ∈ ns.take i)) c) →
      (∀ s' c, Moved (S :: wr) G s s' → c ≤ 1000 → SetR w s'.heap S (fun j => decide (j ∈ ns)) c → R (.ok (.ret .none)) s') →
      codeAny (model P w) A (.builtin "set.update.loop" ⟨[.ref S, .ref I], []⟩) R s := by
  have nw : S ∉ wr := fun h => nf (W.sub _ h)
  have up : ∀ b ∈ wr, b ∈ S :: wr := fun b hb => List.mem_cons_of_mem _ hb
  intro left
  induction left with
  | zero =>
    intro i s hk hi st ⟨c, hS⟩ hR
    obtain rfl : i = n := by omega
    refine codeAny_builtin F.entry_set_update_loop ?_
    rw [Around.under_plainId F.plain_set_update_loop _]
    show wpAny _ A.in1 (pyNext (.ref I) >>= _) _ _ s
    refine wpAny_bind (W.done s _ _ st fun s' m => ?_)
    show wpAny _ A.in1 (ret Value.none) _ _ s'
    rw [List.take_of_length_le (by omega)] at hS
    exact wpAny_pure (hR s' c (m.mono up) (setR_few hS fun k hk => few k (of_decide_eq_true hk)) (hS.at fun o e => m.heap S o nw e))
  | succ left ih =>
    intro i s hk hi st ⟨c, hS⟩ hR
    have lt : i < n := by omega
    refine codeAny_builtin F.entry_set_update_loop ?_
    rw [Around.under_plainId F.plain_set_update_loop _]
    show wpAny _ A.in1 (pyNext (.ref I) >>= _) _ _ s
    refine wpAny_bind (W.item i s _ _ lt st fun v s' pv st' m => ?_)
    obtain ⟨z, t, hz, rfl⟩ := hval i v pv
    have S1 : SetR w s'.heap S (fun j => decide (j ∈ ns.take i)) c := hS.at fun o e => m.heap S o nw e
    have cb : c ≤ 1000 := setR_few S1 fun k hk => few k (List.mem_of_mem_take (of_decide_eq_true hk))
    show wpAny _ A.in1 (holding [Value.int z t] (setAdd S (.int z t)) >>= _) _ _ s'
    refine wpAny_bind (wpAny_holding ?_)
    unfold setAdd
    refine wpAny_holding ?_
    refine wpAny_bind ((intKind P w).pyHash (k := z) (intKind_is _ _ _ _) ?_)
    refine setR_add_hashed (s := { s' with toks := s'.toks + 1 }) S1 (by have : scanBound = 4096 := rfl; omega) fun h' oth S2 => ?_
    have S3 : SetR w h' S (fun j => decide (j ∈ ns.take (i + 1))) (if decide (z ∈ ns.take i) = true then c else c + 1) := S2.congr fun j => by
      rw [List.take_add_one, hz]
      simp [List.mem_append]
    refine wpAny_pure ⟨plainId_quiet F.plain_set_update_loop _, ih (i + 1) _ (by omega) lt (W.frame _ s' _ _ st' (Nat.le_succ _) fun b hb o e => ?_) ⟨_, S3⟩ fun s'' c2 m2 c2b SS => ?_⟩
    · rw [oth.2 b (fun h : b = S => nf (by rw [← h]; exact hb))]; exact e
    · refine hR s'' c2 (Moved.trans W.gtrans ((m.mono up).then_heap (Nat.le_succ _) fun b o hb e => ?_) m2) c2b SS
      rw [oth.2 b (fun h : b = S => hb (by rw [h]; exact List.mem_cons_self))]; exact e
set_option maxHeartbeats 3200000 in
theorem set_of_few {l : Addr} {xs : Array Value} (ns : List Int) {Q : Value → Shared → Prop} (calm : A.handled = none)
    (isl : s.heap.IsList l xs) (hin : IntsAre xs.toList ns) (few : ∀ v ∈ ns, 0 ≤ v ∧ v < (1000 : Nat))
    (h : ∀ (g : Heap) (tk c : Nat), SetR w g s.heap.objs.size (fun j => decide (j ∈ ns)) c → c ≤ 1000 →
      (∀ b o, s.heap.get? b = some o → g.get? b = some o) →
      Q (.ref s.heap.objs.size) { s with heap := g, toks := tk }) :
    wpAny (model P w) A (call (.type "set") [.ref l]) Q E s := by
  have size : xs.size = ns.length := by rw [← Array.length_toList]; exact IntsAre.length hin
  obtain ⟨_, _, m1⟩ := F.called_set.mro
  have m2 := F.called_set.made
  have m3 := F.called_set.sub
  refine wpAny_call (codeAny_of_tree (show wpAny _ _ (callAny (.type "set") _) _ _ _ from ?_))
  refine wpAny_pure ⟨Code.quiet_builtin _ (by decide +kernel),
    codeAny_builtin F.entry_type_call ?_⟩
  rw [Around.under_plain (weight_type_call_type "set"
    [.ref l] []) rfl]
  have m4 := F.called_set.notType
  have m5 := F.called_set.canCreate
  have m6 := F.typeCall_set_1 (.ref l)
  repeat (any_goals (first | wp_step | assumption))
  refine codeAny_mono (code_set_led1 (.ref l) (E := E)
    (Q₁ := fun ob t => ob = .ref s.heap.objs.size ∧ t = { s with heap := s.heap.push (setO0 w) }) ⟨rfl, rfl⟩)
    fun res t made => ?_
  cases res with
  | error e => exact made
  | ok fl =>
  cases fl with
  | ret ob =>
    obtain ⟨rfl, rfl⟩ := made
    have at0 : (s.heap.push (setO0 w)).get? s.heap.objs.size = some (setO0 w) := Heap.get?_push_size _ rfl
    have ty0 : Shared.TypeIs { s with heap := s.heap.push (setO0 w) } (.ref s.heap.objs.size) "set" := ⟨_, at0, rfl⟩
    have m7 := F.called_set.init.lookup
    have m8 := F.called_set.init.bind (.ref s.heap.objs.size)
    repeat (any_goals (first | wp_step | assumption))
    refine codeAny_mono (codeAny_call_builtin (R := wants (fun r t => r = .none ∧ ∃ g tk c, t = { s with heap := g, toks := tk } ∧
        SetR w g s.heap.objs.size (fun j => decide (j ∈ ns)) c ∧ c ≤ 1000 ∧ ∀ b o, s.heap.get? b = some o → g.get? b = some o) E)
      F.called_set.init.plain F.entry_set_init (check_set_init_1 ty0 ?_)) fun res2 t2 done => ?_
    · obtain ⟨ol, lk, cl, en, dl⟩ := isl
      obtain ⟨c1, d1, x1, sl1⟩ := ol
      simp only at cl dl
      subst cl dl
      have lk' : (s.heap.push (setO0 w)).get? l = some { cls := .type "list", dict := d1, data := .seq xs en, slots := sl1 } :=
        Heap.get?_push_of_some _ lk
      have u1 := F.sub_list_set
      have u2 := F.sub_list_frozenset
      have u3 : (Value.type "list" == Value.type "dict") = false := by decide
      have isl1 : (s.heap.push (setO0 w)).IsList l xs := ⟨_, lk', rfl, en, rfl⟩
      unfold Builtin.«set.__init__» noKeywords
      unfold Builtin.Frozenset.updateFrom
      generalize iterE : pyIter = itf
      wp_walk
      subst iterE
      refine wpAny_pyIter_list isl1 (wpAny_bind (wpAny_runValue ?_))
      have lt : l < s.heap.objs.size := Heap.lt_size lk
      have calm3 : A.in1.in1.in1.handled = none := by simp [calm]
      have sz : (s.heap.push (setO0 w)).objs.size = s.heap.objs.size + 1 := Heap.size_push ..
      have ne1 : l ≠ (s.heap.push (setO0 w)).objs.size := by rw [sz]; exact Nat.ne_of_lt (Nat.lt_succ_of_lt lt)
      have ne2 : s.heap.objs.size ∉ [(s.heap.push (setO0 w)).objs.size, l] := by
        rw [sz]
        simp only [List.mem_cons, List.not_mem_nil, or_false, not_or]
        exact ⟨Nat.ne_of_lt (Nat.lt_succ_self _), Ne.symm (Nat.ne_of_lt lt)⟩
      have vals : ∀ (i : Nat) (v : Value), xs[i]? = some v → ∃ k t, ns[i]? = some k ∧ v = .int k t := fun i v e => by
        have il : i < ns.length := by rw [← size]; exact (Array.getElem?_eq_some_iff.mp e).1
        obtain ⟨t, et⟩ := IntsAre.int_at hin i v (by rw [Array.getElem?_toList]; exact e)
        refine ⟨ns.getD i 0, t, ?_, et⟩
        rw [List.getD_eq_getElem?_getD, List.getElem?_eq_getElem il]
        rfl
      refine set_update_few ((Walks.list calm3 _ l ne1 xs).toS) s.heap.objs.size ne2 ns size few vals (xs.size - 0) 0 _ (by omega)
        (Nat.zero_le _) ⟨⟨_, Heap.get?_push_size _ rfl, rfl, rfl⟩, isl1.push _⟩ ⟨0, ?_⟩ ?_
      · exact setR_new_at (Heap.get?_push_of_some _ at0)
      · intro t c mv cl1 R
        obtain ⟨g, gens, drawn, tk, os⟩ := t
        obtain rfl : gens = s.gens := mv.gens
        obtain rfl : drawn = s.drawn := mv.drawn
        obtain rfl : os = s.os := mv.os
        refine wpAny_pure (show wpAny _ _ (ret Value.none) _ _ _ from ?_)
        refine wpAny_pure ⟨rfl, g, tk, c, rfl, R, cl1, fun b o e => mv.heap b o ?_ ?_⟩
        · have lb : b < s.heap.objs.size := Heap.lt_size e
          rw [sz]
          simp only [List.mem_cons, List.not_mem_nil, or_false, not_or]
          exact ⟨Nat.ne_of_lt lb, Nat.ne_of_lt (Nat.lt_succ_of_lt lb)⟩
        · exact Heap.get?_push_of_some _ (Heap.get?_push_of_some _ e)
    · cases res2 with
      | error e => exact done
      | ok fl2 =>
      cases fl2 with
      | ret r =>
        obtain ⟨rfl, g, tk, c, rfl, R, cl1, kp⟩ := done
        repeat (any_goals (first | wp_step | assumption))
        exact h _ _ _ R cl1 kp
      | _ => exact done.elim
  | _ => exact made.elim
end
/-- set(xs), few different members -/
def rSetFew (K : PySem.W.Frag) (w : World) : List V → Hp → VK → Prop := fun xs H Q => ∃ (l : Addr) (ns : List Int), xs = [.ref l] ∧ SqL K H l (iv ns) ∧ (∀ v ∈ ns, 0 ≤ v ∧ v < (1000 : Nat)) ∧
  ∀ a n, H a = none → n ≤ 1000 → Q (.ref a) (upd H a (SetO w a (fun j => decide (j ∈ ns)) n))
theorem cr_setFew {X : Cx} (hc : X.calm = true) : CallR X (.type "set") (rSetFew X.K X.w) := by
  intro pins s σ H xs us Q I r h
  obtain ⟨l, ns, rfl, hl, hf, q⟩ := h
  rw [Vals.ref1 r]
  obtain ⟨its, rv, pl, hz⟩ := I.list hl
  have hn : H s.heap.objs.size = none := I.hok.fresh (Nat.le_refl _)
  refine set_of_few (P := X.prog) (w := X.w) ns (I.ok.hd hc) pl.isList (by simpa using ints_of_vals rv) hf fun g tk c R cl kp => ?_
  exact ⟨.ref s.heap.objs.size, upd H s.heap.objs.size (SetO X.w s.heap.objs.size (fun j => decide (j ∈ ns)) c), I.laid (t' := tk) kp (Nat.le_refl _) (setO_new R), rfl, q _ c hn cl⟩
end SH

/-! SH13: d.update(d2) of dicts with keys that are ints or strings. -/
namespace SH
open PySem PySem.Spec PyProof.Rows L2
def rDUpdate : V → List V → Hp → VK → Prop := fun x vs H Q => ∃ (a b : Addr) (kvs more : List (Key × V)), x = .ref a ∧ vs = [.ref b] ∧ H a = some (.dK kvs) ∧ H b = some (.dK more) ∧ a ≠ b ∧ kvs.length + more.length ≤ sizeLine ∧ Q .non (upd H a (.dK (mergeK kvs more)))
theorem mtd_update {X : Cx} : MtR X "dict.update" rDUpdate := by
  intro pins s σ H x vs v us Q I rx rv h
  obtain ⟨a, b, kvs, more, rfl, rfl, ea, eb, ab, hl, q⟩ := h
  obtain rfl : v = Value.ref a := rx
  rw [Vals.ref1 rv]
  obtain ⟨z1, hd1, vs1, rel1, dd1⟩ := dk_of I.hok ea
  obtain ⟨z2, hd2, vs2, rel2, dd2⟩ := dk_of I.hok eb
  refine call_meetsIn PySem.F.slot_dict_update dd1.typeIs PySem.F.entry_dict_update (PySem.F.args_dict_update_2 _ _) (meets_dict_update (mixKind X.prog X.w) a b ab hd2)
    ⟨vs1, vs2, dd1, dd2, by rw [← rel1.length, ← rel2.length]; exact hl, fun h' dd' _ hs => ?_⟩
  have he : ∃ q, h'.get? a = some q := let ⟨q, _, _, hq, _⟩ := dd'; ⟨q, hq⟩
  have hlen : (mergeK kvs more).length ≤ sizeLine := Nat.le_trans (length_mergeK more kvs) (by omega)
  exact ⟨.non, _, d_write (t' := s.toks) I (by rw [ea]; exact True.intro) hs he (dk_new hlen hd1 (KV.merge rel2 rel1) dd'), rfl, q⟩
section
variable {X : Cx} {o : Expr} {to : TE} {e : Expr} {t : TA} {apos cpos : Pos}
theorem pe_dupdate (ho : PE X o to) (ha : PA X [e] t) (hbase : attributeBase o "update" X.env (eval o X.env) = eval o X.env := by rfl) (hline : (apos.endLine == cpos.line) = true := by rfl)
    (hfew : ((backTo cpos (starEach [e] X.env)).all (fun x => !x.1) && (backToKw cpos (keywordEach [] X.env)).all (fun x => x.1.isSome)
      && decide (([e] : List Expr).length + ([] : List Keyword).length + (if ([] : List Keyword).isEmpty then 0 else 1) < 30)) = true := by rfl)
    (hs : starEach [e] X.env = (false, eval e X.env) :: starEach [] X.env := by rfl) (hplain : (backTo cpos (starEach [] X.env)).any (·.1) = false := by rfl) :
    PE X (.Call (.Attribute o "update" apos) [e] [] cpos) (tBM X.K "dict" rDUpdate to t) :=
  pe_bm PySem.F.plainAttrs_dict PySem.F.slot_dict_update PySem.F.type_dict_update mtd_update ho ha hbase hfew hline hs hplain
end
end SH

/-! SH14: defs that raise, under empty guards; raise X('..'); except X. -/
namespace SH
open PySem PySem.Spec PyProof.Rows L2
section
variable {X : Cx} {CX : CXT} {k : Nat} {f : Addr} {fd : FuncData} {st : Stmt} {ps ks : List Str} {sp : Sp} {E : L2.St → XK} {x : Str} {p pos : Pos}
  {e : Expr} {es : List Expr} {t tk : TA} {kws : List Keyword}
theorem goS {pins : List (Addr × Obj)} {σ : L2.St} {H : Hp} {s : Shared} {Q : VK} {us : List Value} {vs : List V}
    (F : FnG X.prog X.w X.K X.mg X.base CX k f fd ps sp) (room : Room k X.A) (qt : Quiet X.A) (hb : Binds X.K fd ps []) (hx : PassesAt CX X σ (E σ))
    (I : Inv X pins σ H s) (r : Vals vs us) (h : sp vs H Q (E σ)) : wpAny (model X.prog X.w) X.A (call (.ref f) us) (EP X pins σ Q) X.xe s := by
  have hl : us.length = ps.length := by rw [← r.length]; exact F.arity _ _ _ _ h
  have b := hb s us I.kIn (by rw [List.append_nil]; exact hl)
  rw [List.append_nil] at b
  refine wpAny_call (codeAny_mono (F.go X.A X.stack s H ⟨us, []⟩ us vs Q (E σ) room qt I.env0 b r h) fun r s' hq => ?_)
  cases r with
  | error e => exact hx pins H s e s' I hq
  | ok fl =>
    cases fl with
    | ret u => exact I.after hq
    | next => exact False.elim hq
    | brk => exact False.elim hq
    | cont => exact False.elim hq
/-- f(e, ..), f a def that may raise: what is raised is wished for at the caller's slots -/
theorem pe_hasS (h : Has X.prog X.w X.K X.mg X.base CX k x st ps sp) (room : Room k X.A) (qt : Quiet X.A) (hg : Gl X x)
    (hx : ∀ σ, PassesAt CX X σ (E σ)) (ha : PA X (e :: es) t) (hdb : (x == ("__debug__" : Str)) = false := by decide)
    (he : starEach (e :: es) X.env = (false, eval e X.env) :: starEach es X.env := by rfl)
    (hpl : (backTo pos (starEach es X.env)).any (·.1) = false := by rfl) :
    PE X (.Call (.Name x p) (e :: es) [] pos) (tCallS sp E t) := by
  obtain ⟨f, fd, F, m, G, b⟩ := h
  refine ⟨fun pins s σ H Q I h => ?_⟩
  refine wpAny_Call_Name_kw (ld_glob I hg m ?_ hdb)
  refine PySem.W.callWith_K (h₀ := X.base) I.ok.mod.kin F.kp (thn (ha.run pos pins s σ H _ I h) fun us s1 ⟨vs, H1, I1, r, q⟩ => ⟨I1.kIn, ?_⟩) he hpl
  exact goS G room qt b (hx σ) I1 r q
end
section
variable {P : Program} {w : World} {K : PySem.W.Frag} {mg : Str → Option Value} {base : Heap}
/-- THE RULE for a def that may raise -/
theorem Has.ofX {x : Str} {st : Stmt} {N ps : List Str} {k : Nat} {sp : Sp} (at_ : At K mg x st)
    (S : FnScope N ps (defScope st)) (len : ∀ vs H Q E, sp vs H Q E → vs.length = ps.length)
    (bd : ∀ (kV doc pm : Value) (an : Option Addr) (cdv ct : Value) (us : List Value), us.length = ps.length →
      bindArgs (PySem.W.fnOf x x (defArgs st) (defBody st) (defScope st) .none kV doc pm an cdv ct) ⟨us, []⟩ = pure (ps.zip us))
    (walk : ∀ (f : Addr) (cdv : Value) (A : Around) (outer : List Env) (s : Shared) (H : Hp) (vs : List V) (Q : VK) (E : XK),
      Room k (A.deeper (envOfC x (defScope st) s.heap.objs.size f cdv)) →
      Quiet (A.deeper (envOfC x (defScope st) s.heap.objs.size f cdv)) → sp vs H Q E →
      ∃ t, PSs (cxOf (L2.CX P w) P w K mg base N x (defScope st) f cdv A outer s H E) (defBody st) t ∧
        t { nx := fun _ H' => Q .non H', rt := Q } (start N vs) H) :
    Has P w K mg base (L2.CX P w) (k + 1) x st ps sp := by
  obtain ⟨f, fd, F, m⟩ := at_
  exact ⟨f, fd, F, m, FnG.of F S len (walk f), F.binds bd⟩
end
/-- an own error class over ValueError, without own __init__, stands at the name x -/
structure Err (K : PySem.W.Frag) (mg : Str → Option Value) (x : Str) (C : Addr) : Prop where
  g : mg x = some (.ref C)
  q : PySem.W.excIn K C HandSPX.veTail "ValueError.__new__" = true
  k : PySem.W.keepIn K (.ref C) = true
  e : PySem.W.subIn K (.ref C) (.type "BaseException") = some true
  t : PySem.W.typeIn K (.ref C) = some (.type "type")
theorem ps_raiseE {X : Cx} {W : WX} {x m : Str} {C : Addr} {j : Nat} {p p2 pos pos' : Pos} (E : Err X.K X.mg x C) (hc : X.calm = true) (tk : Takes X W) (hg : Gl X x)
    (hdb : (x == ("__debug__" : Str)) = false := by decide) :
    PS X (.Raise (some (.Call (.Name x p) [.Constant (.str m) j p2] [] pos)) none pos') (fun _ σ H => W (.ref C) none σ H) :=
  ps_raise hc tk (pmk_own PySem.F.excBase_ValueError E.q E.g E.k (raises_own E.e E.t) hg hdb)
/-- an error of the class at C is what «except S» names, or not -/
structure Catch (K : PySem.W.Frag) (C S : Addr) (b : Bool) : Prop where
  is : PySem.W.exmOne K (.ref C) (.ref S) = some b
theorem Catch.of {K : PySem.W.Frag} {C S : Addr} {b : Bool} (h1 : PySem.W.subIn K (.ref S) (.type "BaseException") = some true) (h2 : PySem.W.isClsIn K S = true) (h3 : PySem.W.typeIn K (.ref S) = some (.type "type")) (h4 : PySem.W.subIn K (.ref C) (.ref S) = some b) : Catch K C S b := by
  refine ⟨?_⟩
  have e1 : (PySem.W.subIn K (.ref S) (.type "BaseException") == some true) = true := by rw [h1] <;> rfl
  have e2 : ((PySem.W.clsIn K S).isSome && PySem.W.typeIn K (.ref S) == some (.type "type")) = true := by
    have h2' : (PySem.W.clsIn K S).isSome = true := h2
    rw [h2', h3] <;> rfl
  show (if (PySem.W.subIn K (.ref S) (.type "BaseException") == some true) = true then (if ((PySem.W.clsIn K S).isSome && PySem.W.typeIn K (.ref S) == some (.type "type")) = true then PySem.W.subIn K (.ref C) (.ref S) else none) else none) = some b
  rw [if_pos e1, if_pos e2]
  exact h4
end SH

/-! SH15: sorted(pairs of ints, reverse=True). -/
namespace SH
open PySem PySem.Spec PyProof.Rows L2
section
variable {X : Cx}
def rSortedPOR (K : PySem.W.Frag) : List V → List V → Hp → VK → Prop := fun vs zs H Q => ∃ (a : Addr) (xs : List V) (k : V → Int × Int), vs = [V.ref a] ∧ zs = [.bl true] ∧ SqL K H a xs ∧ (∀ x ∈ xs, ∃ t, x = V.ref t ∧ H t = some (.tup [.int (k x).1, .int (k x).2])) ∧
  ∀ ys p, SrtO.Srtd (ltP k) ys → ys.Perm xs → H p = none → Q (.ref p) (upd H p (.lst ys.reverse))
theorem cr_sortedPOR : CallRK X (.builtin "sorted") [Str.ofString "reverse"] (rSortedPOR X.K) := by
  intro pins s σ H vs zs us ws Q I r rz h
  obtain ⟨a, xs, k, rfl, rfl, hs, hx, q⟩ := h
  obtain rfl := Vals.ref1 r
  obtain ⟨w1, rfl, e0⟩ := vals1 rz
  obtain rfl : w1 = Value.bool true := e0
  obtain ⟨its, rv, hl, hz⟩ := I.list hs
  obtain ⟨e1, e2⟩ := refs_back rv fun x m => by
    obtain ⟨t, e, _⟩ := hx x m
    exact ⟨t, e⟩
  have hp : ∀ v ∈ its, Srt.IsPair s.heap v (k (backV v)).1 (k (backV v)).2 := fun v hv => by
    obtain ⟨t, rfl⟩ := e2 v hv
    have hm : V.ref t ∈ xs := by rw [e1]; exact List.mem_map.mpr ⟨_, hv, rfl⟩
    obtain ⟨t', e, ht⟩ := hx _ hm
    cases e
    obtain ⟨_, its2, r2, o, ho, hc, n, hd⟩ := I.hok _ _ ht
    obtain ⟨u1, u2, rfl, ri, rj⟩ := vals2 r2
    obtain ⟨t1, rfl⟩ := ri
    obtain ⟨t2, rfl⟩ := rj
    exact ⟨t, o, t1, t2, n, rfl, ho, hc, hd⟩
  have zl : its.length ≤ sizeLine := by rw [← rv.length]; exact hz
  refine SrtR.sorted_ordK (b := true) (fun _ => rfl) (PyProof.Rows.args_sorted_rev _ _) (fun _ => PyProof.Rows.args_list_sort_rev _ _) (SrtO.swo_lex fun u => k (backV u)) hl.isList zl (fun h2 h₁ a' ho keep => SrtO.pairs_sortableO (by omega) (fun v hv => ?_) fun o e => ?_) fun out h1 h2 => ?_
  · obtain ⟨t, o, t1, t2, n, e3, ho', hc, hd⟩ := hp v hv
    exact ⟨t, o, t1, t2, n, e3, (keep _ _ ho').2, hc, hd⟩
  · have e' : some o = some (seqObj "list" its.toArray 0) := e.symm.trans ho
    cases e'
    exact fun z => by
      injection z with z3
      exact absurd z3 (by decide)
  have h2p : out.Perm its := h2.perm.trans (List.reverse_perm _)
  have h3 : ∀ u ∈ out, ∃ a, u = Value.ref a := fun u hu => e2 u (h2p.mem_iff.mp hu)
  have hb : (out.map backV).Perm xs := by
    rw [e1]
    exact h2p.map backV
  obtain ⟨ep, he'⟩ := PyProof.Rows.sortedAll_at s.heap its out.toArray.reverse
  have hlen : (out.map backV).reverse.length ≤ sizeLine := by
    rw [List.length_reverse, hb.length_eq]
    exact hz
  have er : (out.map backV).reverse = out.reverse.map backV := by rw [List.map_reverse]
  have h4 : ∀ u ∈ out.reverse, ∃ a, u = Value.ref a := fun u hu => h3 u (List.mem_reverse.mp hu)
  refine ⟨.ref _, upd H (s.heap.objs.size + 1) (.lst (out.map backV).reverse), I.laid (t' := s.toks) (fun _ _ => PyProof.Rows.sortedAll_old) (Nat.le_succ _) ⟨hlen, out.reverse, ep, ?_, ?_⟩, rfl, q _ _ (SrtO.srtd_map h1) hb (I.hok.fresh (Nat.le_succ _))⟩
  · rw [er]; exact vals_back h4
  · have e0 : out.reverse.toArray = out.toArray.reverse := by simp
    rw [e0]; exact he'
end
end SH

/-! SH16: comprehensions over ranges with a step. -/
namespace SH
open PySem PySem.Spec PyProof.Rows L2
theorem lc_rangeC {lo c : Int} {n : Nat} {g : TG} {tt : TT} {te : TE} {vs : List Nat} {σ : L2.St} {H1 : Hp} {D : Addr} {Qd : Hp → Prop} (Pv : Nat → Hp → Prop) (h0 : Pv 0 (upd H1 D (.lst [])))
    (hs : ∀ i H, i < n → Pv i H → g (.int (lo + (i : Nat) * c)) (wipe σ vs) H fun σ2 H2 => wipe σ2 vs = wipe σ vs ∧ tt σ2 H2 fun b H3 =>
      if b = true then te σ2 H3 fun y H4 => ∃ acc, H4 D = some (.lst acc) ∧ acc.length < sizeLine ∧ Pv (i + 1) (upd H4 D (.lst (acc ++ [y]))) else Pv (i + 1) H3) (hd : ∀ H, Pv n H → Qd H) :
    ∃ W : Nat → Nat → Hp → Prop, (∃ m, W 0 m (upd H1 D (.lst []))) ∧ ∀ i m H, W i m H →
      ((Itc lo c n).stop i H ∧ Qd H) ∨ ((Itc lo c n).go i H ∧ ∃ Nx : Hp → Prop, (∀ H', Nx H' → ∃ m', m' < m ∧ W (i + 1) m' H') ∧ ∀ x H', (Itc lo c n).yld i H x H' → g x (wipe σ vs) H' fun σ2 H2 => wipe σ2 vs = wipe σ vs ∧ tt σ2 H2 fun b H3 =>
        if b = true then te σ2 H3 fun y H4 => ∃ acc, H4 D = some (.lst acc) ∧ acc.length < sizeLine ∧ Nx (upd H4 D (.lst (acc ++ [y]))) else Nx H3) := by
  refine ⟨fun i m H => m = n - i ∧ i ≤ n ∧ Pv i H, ⟨n, by simp, Nat.zero_le _, h0⟩, ?_⟩
  rintro i m H ⟨rfl, hi, p⟩
  by_cases hlt : i < n
  · refine .inr ⟨hlt, Pv (i + 1), fun H' p' => ⟨n - (i + 1), by omega, rfl, hlt, p'⟩, fun x H' y => ?_⟩
    obtain ⟨e, y⟩ := y
    subst e y
    exact hs i _ hlt p
  · have e : i = n := by omega
    subst e
    exact .inl ⟨Nat.le_refl _, hd H p⟩
section
variable {tt : TT} {te : TE} {vs : List Nat} {σ : L2.St} {H : Hp} {D : Addr} {Qd : Hp → Prop}
theorem lcCn {lo c : Int} {n j : Nat} (keep : Nat → Bool) (val : Nat → V) (hD : H D = none) (hn : n < 100000)
    (hw : ∀ x, wipe ((wipe σ vs).set j (some x)) vs = wipe σ vs)
    (ht : ∀ i H2 (Q : Bool → Hp → Prop), i < n → Same H H2 → (∀ H3, Same H2 H3 → Q (keep i) H3) → tt ((wipe σ vs).set j (some (.int (lo + (i : Nat) * c)))) H2 Q)
    (he : ∀ i H2 (Q : VK), i < n → keep i = true → Same H H2 → (∀ H3, Same H2 H3 → Q (val i) H3) → te ((wipe σ vs).set j (some (.int (lo + (i : Nat) * c)))) H2 Q)
    (hd : ∀ H', Same H H' → H' D = some (.lst (gives n keep val)) → Qd H') :
    ∃ W : Nat → Nat → Hp → Prop, (∃ m, W 0 m (upd H D (.lst []))) ∧ ∀ i m H, W i m H →
      ((Itc lo c n).stop i H ∧ Qd H) ∨ ((Itc lo c n).go i H ∧ ∃ Nx : Hp → Prop, (∀ H', Nx H' → ∃ m', m' < m ∧ W (i + 1) m' H') ∧
        ∀ x H', (Itc lo c n).yld i H x H' → gName j x (wipe σ vs) H' fun σ2 H2 => wipe σ2 vs = wipe σ vs ∧ tt σ2 H2 fun b H3 =>
          if b = true then te σ2 H3 fun y H4 => ∃ acc, H4 D = some (.lst acc) ∧ acc.length < sizeLine ∧ Nx (upd H4 D (.lst (acc ++ [y]))) else Nx H3) :=
  lc_rangeC (fun i H2 => Same H H2 ∧ H2 D = some (.lst (gives i keep val))) ⟨Same.new hD, upd_same⟩
    (fun i H2 hi e => ⟨hw _, lc_turnS hD hi hn e.1 e.2 (fun Q q => ht i H2 Q hi e.1 q) (fun H3 s3 Q k q => he i H3 Q hi k (e.1.trans s3) q)⟩)
    (fun H2 e => hd H2 e.1 e.2)
end
theorem rgC_400 {c : Int} (h1 : 1 ≤ c) (h2 : c ≤ 11) : RgC 0 400 c ((399 / c).toNat + 1) := by
  have : c = 1 ∨ c = 2 ∨ c = 3 ∨ c = 4 ∨ c = 5 ∨ c = 6 ∨ c = 7 ∨ c = 8 ∨ c = 9 ∨ c = 10 ∨ c = 11 := by omega
  rcases this with rfl | rfl | rfl | rfl | rfl | rfl | rfl | rfl | rfl | rfl | rfl <;> exact ⟨by decide, by decide, by decide +kernel, by decide +kernel⟩
end SH

/-! SH17: max and min of a tuple of two ints. -/
namespace SH
open PySem PySem.Spec PyProof.Rows L2
section
variable {X : Cx}
def rMaxT (K : PySem.W.Frag) : List V → Hp → VK → Prop := fun vs H Q => ∃ (a : Addr) (x y : Int), vs = [V.ref a] ∧ SqT K H a [.int x, .int y] ∧ Q (.int (if x < y then y else x)) H
theorem cr_maxT (hc : X.calm = true) (hu : X.A.units + 64 < cLine) : CallR X (.builtin "max") (rMaxT X.K) := by
  intro pins s σ H vs us Q I r h
  obtain ⟨a, x, y, rfl, hs, q⟩ := h
  obtain ⟨its, rv, hl, _⟩ := I.tuple hs
  rw [Vals.ref1 r]
  obtain ⟨as, rd⟩ := Dp.readsAll I [.int x, .int y] _ _ (dp_ints [x, y]) rv
  refine PySem.W.max_tuple_data (I.ok.hd hc) hl (by simpa using rd) ⟨fun a ha b hb => ?_, fun a ha => ?_⟩ (by show X.A.units + 1 + 0 < cLine; omega) fun i v h' tk bs hi r hk => ?_
  · simp only [List.mem_cons, List.not_mem_nil, or_false] at ha hb
    rcases ha with rfl | rfl <;> rcases hb with rfl | rfl <;> rfl
  · simp only [List.mem_cons, List.not_mem_nil, or_false] at ha
    rcases ha with rfl | rfl <;> exact fun z => nomatch z
  · have e : PySem.W.maxD (PyData.int x) [PyData.int y] = .int (max x y) := PySem.W.maxD_ints x [y]
    rw [e] at r
    cases r with
    | int _ t =>
      refine ⟨.int _, H, I.kept hk, ⟨_, rfl⟩, ?_⟩
      have e2 : max x y = if x < y then y else x := by split <;> omega
      rw [e2]
      exact q
def rMinT (K : PySem.W.Frag) : List V → Hp → VK → Prop := fun vs H Q => ∃ (a : Addr) (x y : Int), vs = [V.ref a] ∧ SqT K H a [.int x, .int y] ∧ Q (.int (if y < x then y else x)) H
theorem cr_minT (hc : X.calm = true) (hu : X.A.units + 64 < cLine) : CallR X (.builtin "min") (rMinT X.K) := by
  intro pins s σ H vs us Q I r h
  obtain ⟨a, x, y, rfl, hs, q⟩ := h
  obtain ⟨its, rv, hl, _⟩ := I.tuple hs
  rw [Vals.ref1 r]
  obtain ⟨as, rd⟩ := Dp.readsAll I [.int x, .int y] _ _ (dp_ints [x, y]) rv
  refine PySem.W.min_tuple_data (I.ok.hd hc) hl (by simpa using rd) ⟨fun a ha b hb => ?_, fun a ha => ?_⟩ (by show X.A.units + 1 + 0 < cLine; omega) fun i v h' tk bs hi r hk => ?_
  · simp only [List.mem_cons, List.not_mem_nil, or_false] at ha hb
    rcases ha with rfl | rfl <;> rcases hb with rfl | rfl <;> rfl
  · simp only [List.mem_cons, List.not_mem_nil, or_false] at ha
    rcases ha with rfl | rfl <;> exact fun z => nomatch z
  · have e : PySem.W.minD (PyData.int x) [PyData.int y] = .int (min x y) := PySem.W.minD_ints x [y]
    rw [e] at r
    cases r with
    | int _ t =>
      refine ⟨.int _, H, I.kept hk, ⟨_, rfl⟩, ?_⟩
      have e2 : min x y = if y < x then y else x := by split <;> omega
      rw [e2]
      exact q
end
end SH

/-! SH18: errors that are caught and looked at: their context None, kept behind the suite, isinstance of them. -/
namespace SH
open PySem PySem.Spec PyProof.Rows L2
/-- at a: an error of the class cls, its dict at d -/
def ErO (cls : Value) (d : Option Addr) (a : Addr) : HO := .ext fun h => ∃ (oe : Obj) (vs : Array Value), h.get? a = some oe ∧ L2.Zc cls d oe ∧ oe.data = .fields vs
theorem erO_mk {P : Program} {w : World} {H : Hp} {h : Heap} {a : Addr} {cls : Value} {d : Option Addr} {oe : Obj} {vs : Array Value} (e : h.get? a = some oe) (z : L2.Zc cls d oe) (dv : oe.data = .fields vs) : ObjOk P w H h a (ErO cls d a) :=
  ⟨⟨oe, vs, e, z, dv⟩, ⟨oe, e⟩, fun _ _ ⟨o, v, q, r⟩ k => ⟨o, v, k o q, r⟩⟩
section
variable {X : Cx} {pins : List (Addr × Obj)} {σ : L2.St} {H : Hp} {s : Shared}
/-- an error that the suite held is tracked behind it -/
theorem adopt {a : Addr} {oe : Obj} {cls : Value} {d : Option Addr} {vs : Array Value} (ok : X.Ok) (I : Inv (X.suite a ((a, oe) :: (X.pn ++ pins))) [] σ H s) (z : L2.Zc cls d oe) (dv : oe.data = .fields vs)
    (new : X.s_0.heap.get? a = none) (np : ∀ p ∈ X.pn ++ pins, p.1 ≠ a) : Inv X pins σ (upd H a (ErO cls d a)) s := by
  obtain ⟨ha, hn, hl, hf, hc⟩ := I.pin (a, oe) (List.mem_append_left _ List.mem_cons_self)
  have old : ∀ {b : Addr} {o : Obj}, X.s_0.heap.get? b = some o → b ≠ a := fun {b o} q e => by
    rw [e, new] at q; cases q
  have B := I.base
  refine ⟨ok, I.os, I.bare, ⟨B.keep, B.slot, fun b o q n x => ?_, B.there, fun b xs q => ?_, fun b o u q => ?_, fun b ps q => ?_⟩, I.loc, I.cell, ?_, fun x c e => ?_, fun p hp => ?_, ?_, I.len⟩
  · rw [upd_ne (old q)]; exact B.free b o q n x
  · have := B.tups b xs q
    rw [upd_ne (ne_of_none this hn)]; exact this
  · have := B.frzs b o u q
    rw [upd_ne (ne_of_none this hn)]; exact this
  · obtain ⟨m, q2⟩ := B.tbls b ps q
    exact ⟨m, by rw [upd_ne (ne_of_none q2 hn)]; exact q2⟩
  · rw [upd_ne (Ne.symm hl)]; exact I.free
  · have e' : c ≠ a := fun y => by
      obtain ⟨v, o, ho, hd⟩ := I.cell x c e
      rw [y, ha] at ho
      cases ho
      exact hc v hd
    rw [upd_ne e']
    exact I.freeC x c e
  · obtain ⟨e1, e2, e3⟩ := I.pin p (by rw [List.append_nil]; exact List.mem_cons_of_mem _ hp)
    exact ⟨e1, by rw [upd_ne (np p hp)]; exact e2, e3⟩
  · exact HOk.laidN I.hok (fun _ _ q => q) hn (erO_mk ha z dv)
end
/-- what a clause that takes all that the body may raise wishes: slot i is the clause's name, and behind the suite the error is tracked -/
def wE (K : PySem.W.Frag) (c : Value) (i : Nat) (ts : Addr → Value → Option Addr → TS) (D : Ends) : WX := fun cls d σ H => PySem.W.exmOne K cls c = some true ∧ ∀ a, H a = none →
  ts a cls d { nx := fun τ G => D.nx (τ.set i none) (upd G a (ErO cls d a)), bk := fun τ G => D.bk (τ.set i none) (upd G a (ErO cls d a)), ct := fun τ G => D.ct (τ.set i none) (upd G a (ErO cls d a)), rt := fun v G => D.rt v (upd G a (ErO cls d a)) } (σ.set i (some (.ref a))) H
section
variable {X : Cx} {x n : Str} {c : Value} {i : Nat} {body suite : List Stmt} {b₀ : Stmt} {np pos pos' : Pos} {tb : WX → TS} {ts : Addr → Value → Option Addr → TS}
/-- try: body / except x as n: suite, where the clause takes all that the body may raise -/
theorem ps_tryE (hs : X.stack = X.env :: X.outer) (hf : X.env.frame = some X.env.locals) (hex : X.ex = []) (hN : X.N.Nodup) (hi : X.N[i]? = some n) (hln : X.env.kindOf n = some .local) (hc : Names X x c)
    (hb : ∀ (W : WX) (pn : List (Addr × Obj)) (xe : Value → Shared → Prop), L2N.Takes (X.tr pn xe) W → PassesOwn (model X.prog X.w) X.A X.env xe → PSs (X.tr pn xe) body (tb W))
    (hsu : ∀ (a : Addr) (oe : Obj) (cls : Value) (d : Option Addr) (pn : List (Addr × Obj)), L2N.Zn cls d oe → (∃ vs, oe.data = .fields vs) → PSs (X.suite a ((a, oe) :: pn)) (b₀ :: suite) (ts a cls d)) :
    PS X (.Try body [.ExceptHandler (some (.Name x np)) (some n) (b₀ :: suite) pos'] [] [] pos) (fun D σ H => tb (wE X.K c i ts D) D σ H) := by
  refine ⟨fun pins s σ H D I h => wpAny_Try_except ?_⟩
  have ok := I.ok
  have hfr : X.A.frames = some (X.env :: X.outer) := ok.frames.trans (congrArg some hs)
  refine wpAny_mono ((hb (wE X.K c i ts D) (X.pn ++ pins) _ (fun u s' xx => ?_) PassesOwn.looking).run [] s σ H D (I.toTry _) h) (fun f s1 q => ?_) fun e s1 q => q
  · obtain ⟨a, B, sI, _, τ, G, cls, d, rfl, J0, nb, up, sky, na, os, ag, em, go⟩ := xx
    have J : Inv X pins τ G sI := J0.ofTry ok
    refine L2N.Sky.land L2N.Zn.steady hfr hf (by rw [← hs]; exact sky) fun h3 fl3 up3 => ?_
    obtain ⟨o3, v3, at3, z3, d3⟩ := fl3.there
    -- a stands apart from the frames, and was not there before
    have nfr : a ∉ frs X.stack := fun hm => by
      rw [hs] at hm
      obtain ⟨_, o', e', hnf⟩ := fl3.2.2.1.mem hm
      rw [at3] at e'
      cases e'
      exact hnf _ d3
    have nI : sI.heap.get? a = none := by
      cases q : sI.heap.get? a with
      | none => rfl
      | some o =>
        have := nb a o q nfr
        rw [fl3.2.1] at this
        cases this
    have n0 : X.s_0.heap.get? a = none := by
      cases q : X.s_0.heap.get? a with
      | none => rfl
      | some o =>
        obtain ⟨o', q'⟩ := J.base.there a o q (by rw [hex]; exact List.not_mem_nil)
        rw [nI] at q'
        cases q'
    have nL : a ≠ X.env.locals := fun z => nfr (by rw [hs]; exact List.mem_filterMap.mpr ⟨X.env, List.mem_cons_self, by rw [hf, z]⟩)
    have nF : a ∉ X.fs := fun hm => nfr (by
      rw [hs]
      obtain ⟨e, he, q⟩ := List.mem_filterMap.mp hm
      exact List.mem_filterMap.mpr ⟨e, List.mem_cons_of_mem _ he, q⟩)
    have np' : ∀ p ∈ X.pn ++ pins, p.1 ≠ a := fun p hp z => by
      have := (J.pin p hp).1
      rw [z, nI] at this
      cases this
    have L3 : Inv X pins τ G { s' with heap := h3 } := J.landed nb fl3.1 (up.trans up3) os ag
    have S3 := L3.suite at3 d3 na nL nF
    have ty : PySem.W.Looks (model X.prog X.w) h3 (typeOf (.ref a)) cls := fun A Q E s k q => wpAny_typeOf_ref (k _ _ at3) (by rw [z3.1]; exact q)
    have named : ∀ {Q E : Value → Shared → Prop}, Q c { s' with heap := h3 } → wpAny (model X.prog X.w) (X.A.mark (some (.ref a))) (eval (.Name x np) X.env) Q E { s' with heap := h3 } := fun {Q E} q => by
      rcases hc with ⟨g, db, m | ⟨m, bv, nn⟩⟩
      · exact ld_glob (X := X.suite a ((a, o3) :: (X.pn ++ pins))) S3 g m q db
      · exact ld_blt (X := X.suite a ((a, o3) :: (X.pn ++ pins))) S3 g m bv q nn db
    refine wpAny_handleBy_cons (codeAny_handlers_test (named ((PySem.W.exm_one (M := model X.prog X.w) L3.kIn ty em).here ?_))) (fun q => by cases q)
    refine codeAny_handlers_suite_as (HandSPX.lands_againZ fl3 fun h4 fl4 up4 => ?_)
    obtain ⟨o4, v4, at4, z4, d4⟩ := fl4.there
    have L4 : Inv X pins τ G { s' with heap := h4 } := J.landed nb fl4.1 ((up.trans up3).trans up4) os ag
    have S4 := L4.suite at4 d4 na nL nF
    refine store_ok (X := X.suite a ((a, o4) :: (X.pn ++ pins))) (v := .ref a) S4 hN hi (.inl hln) rfl (fun s5 S5 => ?_) (.inr hln)
    refine wpAny_mono ((hsu a o4 cls d (X.pn ++ pins) z4 ⟨_, d4⟩).run [] s5 _ G _ S5 (go a na)) (fun f s6 q => ?_) fun _ _ z => False.elim z
    have out : ∀ {τ6 : L2.St} {G6 : Hp} {Q : Shared → Prop}, Inv (X.suite a ((a, o4) :: (X.pn ++ pins))) [] τ6 G6 s6 → (∀ s7, Inv X pins (τ6.set i none) (upd G6 a (ErO cls d a)) s7 → Q s7) →
        wpAny (model X.prog X.w) X.A (do bindName X.env n .none; unbindBehindTheSuite X.env n pos') (fun _ s7 => Q s7) X.xe s6 := fun S6 hq => gone_ok (adopt ok S6 z4.zc d4 n0 np') hN hi hln hq
    cases f with
    | ret u => obtain ⟨v6, τ6, G6, S6, r6, q6⟩ := q; exact out S6 fun s7 J7 => ⟨_, _, _, J7, r6, q6⟩
    | next => obtain ⟨τ6, G6, S6, q6⟩ := q; exact out S6 fun s7 J7 => ⟨_, _, J7, q6⟩
    | brk => obtain ⟨τ6, G6, S6, q6⟩ := q; exact out S6 fun s7 J7 => ⟨_, _, J7, q6⟩
    | cont => obtain ⟨τ6, G6, S6, q6⟩ := q; exact out S6 fun s7 J7 => ⟨_, _, J7, q6⟩
  · cases f with
    | ret u => obtain ⟨v, τ, G, J, r, q⟩ := q; exact ⟨v, τ, G, J.ofTry ok, r, q⟩
    | next => obtain ⟨τ, G, J, q⟩ := q; exact wpAny_execs_nil ⟨τ, G, J.ofTry ok, q⟩
    | brk => obtain ⟨τ, G, J, q⟩ := q; exact ⟨τ, G, J.ofTry ok, q⟩
    | cont => obtain ⟨τ, G, J, q⟩ := q; exact ⟨τ, G, J.ofTry ok, q⟩
end
section
variable {K : PySem.W.Frag} {tt : TT} {te : TE} {vs : List Nat} {σ : L2.St} {H : Hp} {D : Addr} {Qd : Hp → Prop}
theorem Same.sqT {H H' : Hp} {a : Addr} {xs : List V} (e : Same H H') (h : SqT K H a xs) : SqT K H' a xs :=
  h.imp (fun q => q.imp (fun z => e _ _ z) (fun ⟨o, z⟩ => ⟨o, e _ _ z⟩)) id
/-- [.. for x in t ..], t a tuple -/
theorem lcTn {a : Addr} {xs : List V} {j : Nat} (keep : Nat → Bool) (val : Nat → V) (hx : SqT K H a xs) (hD : H D = none) (hn : xs.length < 100000)
    (hw : ∀ x, wipe ((wipe σ vs).set j (some x)) vs = wipe σ vs)
    (ht : ∀ i x H2 (Q : Bool → Hp → Prop), xs[i]? = some x → Same H H2 → (∀ H3, Same H2 H3 → Q (keep i) H3) → tt ((wipe σ vs).set j (some x)) H2 Q)
    (he : ∀ i x H2 (Q : VK), xs[i]? = some x → keep i = true → Same H H2 → (∀ H3, Same H2 H3 → Q (val i) H3) → te ((wipe σ vs).set j (some x)) H2 Q)
    (hd : ∀ H', Same H H' → H' D = some (.lst (gives xs.length keep val)) → Qd H') :
    ∃ W : Nat → Nat → Hp → Prop, (∃ m, W 0 m (upd H D (.lst []))) ∧ ∀ i m H, W i m H →
      ((Itt K a).stop i H ∧ Qd H) ∨ ((Itt K a).go i H ∧ ∃ Nx : Hp → Prop, (∀ H', Nx H' → ∃ m', m' < m ∧ W (i + 1) m' H') ∧
        ∀ x H', (Itt K a).yld i H x H' → gName j x (wipe σ vs) H' fun σ2 H2 => wipe σ2 vs = wipe σ vs ∧ tt σ2 H2 fun b H3 =>
          if b = true then te σ2 H3 fun y H4 => ∃ acc, H4 D = some (.lst acc) ∧ acc.length < sizeLine ∧ Nx (upd H4 D (.lst (acc ++ [y]))) else Nx H3) :=
  lc_tup (xs := xs) (fun i H2 => Same H H2 ∧ H2 D = some (.lst (gives i keep val))) ⟨Same.new hD, upd_same⟩
    (fun i H2 hi e => Same.sqT e.1 hx)
    (fun i x H2 hi e => ⟨hw _, lc_turnS hD (List.getElem?_eq_some_iff.mp hi).1 hn e.1 e.2 (fun Q q => ht i x H2 Q hi e.1 q) (fun H3 s3 Q k q => he i x H3 Q hi k (e.1.trans s3) q)⟩)
    (fun H2 e => hd H2 e.1 e.2)
end
section
open PySem.W
variable {prog : Program} {w : World} {A : Around} {E : Value → Shared → Prop} {s : Shared} {K : Frag} {x D : Addr} {ox : Obj} {od : Option Obj}
theorem find_class (hd : hasDictIn K D = true) (ha : findIn K (.ref D) "__class__" = some (some (.builtin "object.__class__"))) (hn : specialIn K (.builtin "object.__class__") "__get__" = some (some (.builtin "getset_descriptor.__get__")))
    (ht : takesIn K (.builtin "object.__class__") = some true) : findObj K D od "__class__" = some (.bind (.builtin "getset_descriptor.__get__") (.builtin "object.__class__")) := by
  obtain ⟨cd, hc, _⟩ := any_some hd
  unfold findObj
  rw [hc, Option.bind_some, ha, Option.bind_some]
  simp [hn, ht]
/-- e.__class__ of an error of an own class, whatever its dict holds -/
theorem class_of_error {Q : Option Value → Shared → Prop} (T : ExcC K D) (X : K.In s.heap) (I : PySem.W.InstAt s.heap x ox D od) (h : Q (some (.ref D)) { s with toks := s.toks + 1 }) : wpAny (model prog w) A (getAttr? (.ref x) "__class__") Q E s := by
  obtain ⟨hp, g, d, t, os⟩ := s
  have ty := I.type (M := model prog w)
  have fnd := looks_find (M := model prog w) X I (find_class T.hd T.ha T.hn T.ht)
  have below : Looks (model prog w) hp (isInstance (.ref x) (.type "BaseException")) true := ty.andThen (looks_subIn X T.hs)
  have e2 : (Value.builtin "BaseException.__getattribute__" == Value.builtin "object.__getattribute__") = false := by decide +kernel
  have e1 : (onTheHeap (Value.ref D) && Value.builtin "BaseException.__getattribute__" == Value.builtin "object.__getattribute__") = false := by rw [e2]; rfl
  unfold getAttr? getAttrBy? getAttrBy
  refine wpAny_bind (wpAny_mkText (wpAny_bind (wpAny_attempt (wpAny_holding (wpAny_bind (ty.at (wpAny_bind ((looks_findIn (M := model prog w) X T.hg).at ?_))))))))
  show wpAny _ _ (if (onTheHeap (Value.ref D) && Value.builtin "BaseException.__getattribute__" == Value.builtin "object.__getattribute__") = true then _ else _) _ _ _
  rw [e1, if_neg Bool.false_ne_true]
  unfold getAttrByItsOwn hookBefore
  refine wpAny_bind ?_
  rw [if_pos (show onTheHeap (Value.ref D) = true from rfl)]
  refine (looks_findIn (M := model prog w) X T.hk).at (wpAny_bind (wpAny_attempt (wpAny_holding ?_)))
  unfold callGetattribute
  rw [show (false && onTheHeap (Value.builtin "BaseException.__getattribute__")) = false from rfl, if_neg Bool.false_ne_true]
  unfold boundAndCalled
  rw [PySem.F.excAttr_ValueError.ga.bind (.ref x)]
  refine wpAny_bind (wpAny_pure ?_)
  show wpAny _ _ (call (.builtin "BaseException.__getattribute__") [.ref x, .str "__class__" t]) _ _ _
  refine wpAny_call (codeAny_call_builtin PySem.F.excAttr_ValueError.ga.plain PySem.F.entry_bexc_ga ?_)
  refine @check_slot (model prog w) _ _ ⟨hp, g, d, t + 1, os⟩ "BaseException.__getattribute__" "BaseException" "__getattribute__" (.ref x) [.str "__class__" t] [] _ (by decide +kernel) (by decide +kernel) below (PySem.F.args_bexc_ga (.ref x) (.str "__class__" t)) ?_
  unfold Builtin.«object.__getattribute__»
  refine wpAny_bind (wpAny_of_eq (a := ((Value.ref x : Value), [Value.str "__class__" t])) (by first | rfl | (simp only [slotArgs]; rfl)) ?_)
  refine wpAny_bind (wpAny_pure (wpAny_bind (ty.at (wpAny_bind (fnd.at ?_)))))
  show wpAny _ _ (holding [Value.builtin "object.__class__"] (call (.builtin "getset_descriptor.__get__") [.builtin "object.__class__", .ref x, .ref D]) >>= ret) _ _ _
  refine wpAny_bind (wpAny_holding (wpAny_call (class_get (s := ⟨hp, g, d, t + 1, os⟩) (ox := ox) (od := od) X I T.hm ?_)))
  refine wpAny_pure ?_
  show wpAny _ _ (handedOut (.ref D)) _ _ _
  rw [handedOut_of (v := .ref D) rfl]
  first
    | exact wpAny_pure (wpAny_pure h)
    | exact wpAny_pure h
    | exact wpAny_pure (wpAny_bind (wpAny_pure (wpAny_pure h)))
theorem cls_there (hd : hasDictIn K D = true) : ∃ c d cd sl, K.lookup D = some ⟨c, d, .cls cd, sl⟩ := by
  obtain ⟨cd, hc, _⟩ := any_some hd
  unfold clsIn at hc
  split at hc
  · rename_i c d cd' sl ho
    exact ⟨c, d, cd', sl, ho⟩
  · cases hc
theorem kit_error (T : ExcC K D) : KitX K (.ref x) (.ref D) (fun h => PySem.W.InstAt h x ox D od) where
  ty := fun _ _ _ I => I.type
  it := fun _ _ X _ => by
    obtain ⟨c, d, cd, sl, ho⟩ := cls_there T.hd
    intro A' Q' E' s' k q
    unfold isType loadHead
    exact wpAny_bind (wpAny_loadPart (k _ _ (X _ _ ho)) (wpAny_pure q))
  ne := fun h tp dd its n sl X htp => by
    obtain ⟨c, d, cd, sl', ho⟩ := cls_there T.hd
    refine Bool.eq_false_iff.mpr fun q => ?_
    obtain rfl : D = tp := Value.ref.inj (beq_iff_eq.mp q)
    cases (X _ _ ho).symm.trans htp
  ca := fun X I k => class_of_error T X I k
end
/-- at a an error of the class at D, its dict at d: one that the suite holds, or one that is tracked -/
def Known (X : Cx) (H : Hp) (a D : Addr) (d : Option Addr) : Prop := ((∃ oe, (a, oe) ∈ X.pn ∧ L2.Zc (.ref D) d oe ∧ ∃ vs, oe.data = .fields vs) ∨ H a = some (ErO (.ref D) d a)) ∧ (d = none ∨ ∃ dx fs, d = some dx ∧ H dx = some (.xd fs))
section
variable {X : Cx} {pins : List (Addr × Obj)} {σ : L2.St} {H : Hp} {s : Shared} {a D : Addr} {d : Option Addr}
theorem known_at (I : Inv X pins σ H s) (k : Known X H a D d) : ∃ oe od, PySem.W.InstAt s.heap a oe D od ∧ oe.dict = d ∧ (∀ dx, d = some dx → ∃ o, od = some o ∧ s.heap.get? dx = some o) := by
  obtain ⟨k1, k2⟩ := k
  obtain ⟨oe, vs, ha, hz, hv⟩ : ∃ oe vs, s.heap.get? a = some oe ∧ L2.Zc (.ref D) d oe ∧ oe.data = .fields vs := by
    rcases k1 with ⟨oe, hp, hz, vs, hv⟩ | e
    · exact ⟨oe, vs, (I.pin (a, oe) (List.mem_append_left _ hp)).1, hz, hv⟩
    · obtain ⟨oe, vs, r⟩ := (I.hok a _ e).1
      exact ⟨oe, vs, r⟩
  have nc : PySem.W.notCls oe = true := by unfold PySem.W.notCls; rw [hv] <;> rfl
  rcases k2 with rfl | ⟨dx, fs, rfl, hx⟩
  · exact ⟨oe, none, ⟨ha, hz.1, nc, by rw [hz.2]; trivial⟩, hz.2, fun _ z => nomatch z⟩
  · obtain ⟨mA, ⟨o, _, _, ho, _⟩, _⟩ := (show ObjOk X.prog X.w H s.heap dx (.xd fs) from I.hok dx _ hx)
    exact ⟨oe, some o, ⟨ha, hz.1, nc, by rw [hz.2]; exact ho⟩, hz.2, fun y e => by cases e; exact ⟨o, rfl, ho⟩⟩
/-- isinstance(e, c), e a known error -/
def rIsEr (X : Cx) : List V → Hp → VK → Prop := fun xs H Q => ∃ (a D : Addr) (d : Option Addr) (c : V) (u : Value) (b : Bool), xs = [.ref a, c] ∧ Known X H a D d ∧ ExcC X.K D ∧ ClsV c u ∧ PySem.W.kitOne X.K (.ref D) u = some b ∧ Q (.bl b) H
theorem call_isEr : CallR X (.builtin "isinstance") (rIsEr X) := by
  intro pins s σ H xs us Q I r h
  obtain ⟨a, D, d, c, u, b, rfl, kn, T, k, e, q⟩ := h
  obtain ⟨u1, u2, rfl, r1, r2⟩ := vals2 r
  obtain rfl := k.eq r2
  obtain rfl : u1 = Value.ref a := r1
  obtain ⟨oe, od, J, _⟩ := known_at I kn
  exact PySem.W.kia_one (kit_error T) I.kIn J e (fun z => nomatch z) fun tk => ⟨.bl b, H, I.tok tk, rfl, q⟩
/-- isinstance(e, (c1, c2, ..)) -/
def rIsErT (X : Cx) : List V → Hp → VK → Prop := fun xs H Q => ∃ (a D tp : Addr) (d : Option Addr) (cs : List V) (us : List Value) (b : Bool), xs = [.ref a, .ref tp] ∧ H tp = some (.tup cs) ∧ Paired ClsV cs us ∧ Known X H a D d ∧ ExcC X.K D ∧ PySem.W.kitAny X.K (.ref D) us = some b ∧ Q (.bl b) H
theorem call_isErT : CallR X (.builtin "isinstance") (rIsErT X) := by
  intro pins s σ H xs us Q I r h
  obtain ⟨a, D, tp, d, cs, ws, b, rfl, hT, k, kn, T, e, q⟩ := h
  obtain ⟨u1, u2, rfl, r1, r2⟩ := vals2 r
  obtain rfl : u2 = Value.ref tp := r2
  obtain rfl : u1 = Value.ref a := r1
  obtain ⟨oe, od, J, _⟩ := known_at I kn
  obtain ⟨_, its, rv, o, h1, h2, n, h3⟩ := (show ObjOk X.prog X.w H s.heap tp (.tup cs) from I.hok tp _ hT)
  obtain rfl := ClsV.all k rv
  obtain ⟨oc, od', dt, sl⟩ := o
  simp only at h2 h3
  subst h2 h3
  exact PySem.W.kia_tup (kit_error T) I.kIn J h1 e (fun z => nomatch z) fun tk => ⟨.bl b, H, I.tok tk, rfl, q⟩
/-- e.f, e a known error -/
def tErF (X : Cx) (n : Str) (te : TE) : TE := fun σ H Q => te σ H fun x H1 => ∃ (a D dx : Addr) (fs : List (Str × V)) (v : V), x = .ref a ∧ Known X H1 a D (some dx) ∧ H1 dx = some (.xd fs) ∧ XfC X.K D ∧ PySem.W.findIn X.K (.ref D) n = some none ∧ fs.lookup n = some v ∧ Q v H1
theorem er_get {n : Str} {s1 : Shared} {H1 : Hp} {dx : Addr} {fs : List (Str × V)} {v : V} {Q : VK} {Ex : Value → Shared → Prop} (I1 : Inv X pins σ H1 s1) (kn : Known X H1 a D (some dx)) (hx : H1 dx = some (.xd fs)) (T : XfC X.K D) (hno : PySem.W.findIn X.K (.ref D) n = some none) (l : fs.lookup n = some v) (q : Q v H1) :
    wpAny (model X.prog X.w) X.A (getAttr (.ref a) n true) (EP X pins σ Q) Ex s1 := by
  obtain ⟨oe, od, J, ed, hd⟩ := known_at I1 kn
  obtain ⟨o, rfl, ho⟩ := hd dx rfl
  obtain ⟨mA, hns, hr⟩ := (show ObjOk X.prog X.w H1 s1.heap dx (.xd fs) from I1.hok dx _ hx)
  obtain ⟨o2, ho2, hl⟩ := lookIn_ns hns
  rw [ho] at ho2
  cases ho2
  obtain ⟨u, hu, ru⟩ := RelO.some_of (v := v) (o := mA n) (by rw [← l]; exact hr n)
  exact HandSPX.exc_get I1.kIn J T.ga T.gg T.exC (PySem.W.findObj_own T.hdC hno rfl (by rw [hl, hu])) (handed_of ru) ⟨v, H1, I1.tok _, ru, q⟩
theorem pe_erF {e : Expr} {te : TE} {pos : Pos} {n : Str} (he : PE X e te) (hb : attributeBase e n X.env (eval e X.env) = eval e X.env := by rfl) : PE X (.Attribute e n pos) (tErF X n te) := by
  refine ⟨fun pins s σ H Q I h => attr_of hb (thn (he.run pins s σ H _ I h) fun u s1 hh => ?_)⟩
  obtain ⟨x, H1, I1, rx, a, D, dx, fs, v, rfl, kn, hx, T, hno, l, q⟩ := hh
  obtain rfl : u = Value.ref a := rx
  exact er_get I1 kn hx T hno l q
end
/-! ### a def that is called in a suite, with the error that the suite holds -/
/-- the context of such a def's body: the error is pinned -/
abbrev cxE (P : Program) (w : World) (K : PySem.W.Frag) (mg : Str → Option Value) (base : Heap) (N : List Str) (q : Str) (sc : Scope) (f : Addr) (cd : Value) (A : Around) (outer : List Env) (s : Shared) (H : Hp) (p : Addr × Obj) : Cx := L2H.cxH CX0 P w K mg base N q sc f cd A outer s H (fun _ _ _ => False) p
/-- the error at a in words of the context -/
structure Held (X : Cx) (a : Addr) (cls : Value) (d : Option Addr) (oe : Obj) : Prop where
  mem : (a, oe) ∈ X.pn
  z : L2N.Zn cls d oe
  fv : ∃ vs, oe.data = .fields vs
  hot : X.A.handled = some (.ref a)
theorem Held.hotC {X : Cx} {a : Addr} {cls : Value} {d : Option Addr} {oe : Obj} (h : Held X a cls d oe) : L2H.HotC X := by
  obtain ⟨vs, e⟩ := h.fv
  exact ⟨(a, oe), ⟨h.hot, vs, e, h.z.2.2 vs e⟩, h.mem⟩
theorem Held.known {X : Cx} {H : Hp} {a D : Addr} {d : Option Addr} {oe : Obj} (h : Held X a (.ref D) d oe) (k : d = none ∨ ∃ dx fs, d = some dx ∧ H dx = some (.xd fs)) : Known X H a D d := ⟨.inl ⟨oe, h.mem, h.z.zc, h.fv⟩, k⟩
/-- the def st at the name x, called with the error a suite holds: sp speaks of the error's address, its class, its dict -/
def HasE (P : Program) (w : World) (K : PySem.W.Frag) (mg : Str → Option Value) (base : Heap) (k : Nat) (x : Str) (st : Stmt) (ps : List Str) (sp : Addr → Value → Option Addr → List V → Hp → VK → Prop) : Prop :=
  ∃ f fd, Fun K x x st f fd ∧ mg x = some (.ref f) ∧ L2.Binds K fd ps [] ∧ (∀ a cls d vs H Q, sp a cls d vs H Q → vs.length = ps.length) ∧
    ∀ (A : Around) (outer : List Env) (s : Shared) (H : Hp) (args : Args) (us : List Value) (vs : List V) (Q : VK) (a : Addr) (cls : Value) (d : Option Addr) (oe : Obj), L2H.RoomH k A → Quiet A → A.handled = some (.ref a) → L2N.Zn cls d oe → (∃ vs, oe.data = .fields vs) →
      L2H.PinOk outer H s (a, oe) → Env0 P w K mg base A outer s H → BindsTo s fd args (ps.zip us) → Vals vs us → sp a cls d vs H Q → codeAny (model P w) A (.call (.ref f) args) (CR CX0 outer P w H s Q (fun _ _ _ => False)) s
section
variable {P : Program} {w : World} {K : PySem.W.Frag} {mg : Str → Option Value} {base : Heap}
theorem HasE.of {x : Str} {st : Stmt} {N ps : List Str} {k : Nat} {sp : Addr → Value → Option Addr → List V → Hp → VK → Prop} (at_ : At K mg x st) (S : FnScope N ps (defScope st)) (len : ∀ a cls d vs H Q, sp a cls d vs H Q → vs.length = ps.length)
    (bd : ∀ (kV doc pm : Value) (an : Option Addr) (cdv ct : Value) (us : List Value), us.length = ps.length →
      bindArgs (PySem.W.fnOf x x (defArgs st) (defBody st) (defScope st) .none kV doc pm an cdv ct) ⟨us, []⟩ = pure (ps.zip us))
    (walk : ∀ (f : Addr) (cdv : Value) (A : Around) (outer : List Env) (s : Shared) (H : Hp) (vs : List V) (Q : VK) (a : Addr) (cls : Value) (d : Option Addr) (oe : Obj),
      L2H.RoomH k (A.deeper (envOfC x (defScope st) s.heap.objs.size f cdv)) → Quiet (A.deeper (envOfC x (defScope st) s.heap.objs.size f cdv)) → Held (cxE P w K mg base N x (defScope st) f cdv A outer s H (a, oe)).nox a cls d oe → sp a cls d vs H Q →
      ∃ t, PSs (cxE P w K mg base N x (defScope st) f cdv A outer s H (a, oe)).nox (defBody st) t ∧ t { nx := fun _ H' => Q .non H', rt := Q } (start N vs) H) :
    HasE P w K mg base (k + 1) x st ps sp := by
  obtain ⟨f, fd, F, m⟩ := at_
  refine ⟨f, fd, F, m, F.binds bd, len, fun A outer s H args us vs Q a cls d oe room qt hot hz hf pin e0 hb r hsp => ?_⟩
  obtain ⟨oc, od, kV, doc, pm, an, cdv, ct, osl, rfl, lk, hcd⟩ := F.ex
  have inK : K.In s.heap := e0.mod.kin.keeps fun b o e => (e0.bs b o e).1
  have hl := len _ _ _ _ _ _ hsp
  have kinds : ∀ y ∈ ps.zip us, (defScope st).names.lookup y.1 = some .local ∨ ((defScope st).names.lookup y.1 = some .cell ∧ ((cellsFrom (s.heap.objs.size + 1) (defScope st).names []).lookup y.1).isSome = true) := by
    rintro ⟨n, v⟩ hy
    rcases S.par n (List.of_mem_zip hy).1 with z | z
    · exact .inl z
    · exact .inr ⟨z, PySem.W.cellsFrom_some _ _ _ (.inl z)⟩
  refine codeAny_call_function room.depth (inK _ _ lk) rfl S.co S.gen rfl (PySem.W.codeRec_of inK hcd) (hb _ _ _ _ (wpAny_newFunctionEnv_cells S.kind kinds fun env he s1 ic => ?_))
  subst he
  refine ⟨Heap.NoLimit.keeps (e0.mod.nolimit.keeps fun b o e => (e0.bs b o e).1) ic.toInCall.keep, codeAny_func ?_⟩
  have I : Inv (cxE P w K mg base N x (defScope st) f cdv A outer s H (a, oe)) [] (start N vs) H s1 := L2H.inv_startH S pin e0 hl r ic
  obtain ⟨t, ht, hq⟩ := walk f cdv A outer s H vs Q a cls d oe (room.deeper _) (by exact qt) ⟨List.mem_singleton.mpr rfl, hz, hf, hot⟩ hsp
  refine wpAny_mono (ht.nox.run [] s1 (start N vs) H _ I hq) (fun fl s' hs => ?_) fun e s' hs => hs
  cases fl with
  | ret u => obtain ⟨v, σ', H', J, rv, q⟩ := hs; exact ⟨v, H', J.os, J.bare, J.base, J.hok, rv, q⟩
  | next => obtain ⟨σ', H', J, q⟩ := hs; exact ⟨V.non, H', J.os, J.bare, J.base, J.hok, rfl, q⟩
  | brk => obtain ⟨_, _, _, q⟩ := hs; exact q.elim
  | cont => obtain ⟨_, _, _, q⟩ := hs; exact q.elim
end
section
variable {X : Cx} {k : Nat} {st : Stmt} {ps : List Str} {sp : Addr → Value → Option Addr → List V → Hp → VK → Prop} {x : Str} {p pos : Pos} {e : Expr} {es : List Expr} {t : TA} {a : Addr} {cls : Value} {d : Option Addr} {oe : Obj}
theorem pe_hasE (h : HasE X.prog X.w X.K X.mg X.base k x st ps sp) (room : L2H.RoomH k X.A) (qt : Quiet X.A) (he : Held X a cls d oe) (hg : Gl X x) (ha : PA X (e :: es) t)
    (hdb : (x == ("__debug__" : Str)) = false := by decide) (hst : starEach (e :: es) X.env = (false, eval e X.env) :: starEach es X.env := by rfl) (hpl : (backTo pos (starEach es X.env)).any (·.1) = false := by rfl) :
    PE X (.Call (.Name x p) (e :: es) [] pos) (fun σ H Q => t σ H fun vs H1 => sp a cls d vs H1 Q) := by
  obtain ⟨f, fd, F, m, b, len, go⟩ := h
  refine ⟨fun pins s σ H Q I h => wpAny_Call_Name_kw (ld_glob I hg m (PySem.W.callWith_K (h₀ := X.base) I.ok.mod.kin F.kp (thn (ha.run pos pins s σ H _ I h) fun us s1 ⟨vs, H1, I1, r, q⟩ => ⟨I1.kIn, ?_⟩) hst hpl) hdb)⟩
  have hl : us.length = ps.length := by rw [← r.length]; exact len _ _ _ _ _ _ q
  have hb := b s1 us I1.kIn (by rw [List.append_nil]; exact hl)
  rw [List.append_nil] at hb
  obtain ⟨p1, p2, p3, p4, p5⟩ := I1.pin (a, oe) (List.mem_append_left _ he.mem)
  have pin : L2H.PinOk X.stack H1 s1 (a, oe) := ⟨p1, p2, fun hm => (List.mem_cons.mp (I1.stkSub a hm)).elim p3 p4, p5⟩
  refine wpAny_call (codeAny_mono (go X.A X.stack s1 H1 ⟨us, []⟩ us vs Q a cls d oe room qt he.hot he.z he.fv pin I1.env0 hb r q) fun r s' hq => ?_)
  cases r with
  | error e => exact False.elim hq
  | ok fl => cases fl with
    | ret u => exact I1.after hq
    | _ => exact False.elim hq
end
section
variable {X : Cx} {a : Addr} {cls : Value} {d : Option Addr} {oe : Obj}
/-- isinstance(e, c) in the suite itself: the reading speaks of no object -/
def rIsH (K : PySem.W.Frag) (a : Addr) (cls : Value) (d : Option Addr) : List V → Hp → VK → Prop := fun xs H Q => ∃ (D : Addr) (c : V) (u : Value) (b : Bool), xs = [.ref a, c] ∧ cls = .ref D ∧ (d = none ∨ ∃ dx fs, d = some dx ∧ H dx = some (.xd fs)) ∧ ExcC K D ∧ ClsV c u ∧ PySem.W.kitOne K (.ref D) u = some b ∧ Q (.bl b) H
theorem call_isH (h : Held X a cls d oe) : CallR X (.builtin "isinstance") (rIsH X.K a cls d) := by
  intro pins s σ H xs us Q I r z
  obtain ⟨D, c, u, b, rfl, rfl, k, T, cv, e, q⟩ := z
  exact call_isEr pins s σ H _ us Q I r ⟨a, D, d, c, u, b, rfl, h.known k, T, cv, e, q⟩
def rIsHT (K : PySem.W.Frag) (a : Addr) (cls : Value) (d : Option Addr) : List V → Hp → VK → Prop := fun xs H Q => ∃ (D tp : Addr) (cs : List V) (us : List Value) (b : Bool), xs = [.ref a, .ref tp] ∧ cls = .ref D ∧ H tp = some (.tup cs) ∧ Paired ClsV cs us ∧ (d = none ∨ ∃ dx fs, d = some dx ∧ H dx = some (.xd fs)) ∧ ExcC K D ∧ PySem.W.kitAny K (.ref D) us = some b ∧ Q (.bl b) H
theorem call_isHT (h : Held X a cls d oe) : CallR X (.builtin "isinstance") (rIsHT X.K a cls d) := by
  intro pins s σ H xs us Q I r z
  obtain ⟨D, tp, cs, ws, b, rfl, rfl, ht, k, kd, T, e, q⟩ := z
  exact call_isErT pins s σ H _ us Q I r ⟨a, D, tp, d, cs, ws, b, rfl, ht, k, h.known kd, T, e, q⟩
/-- e.f in the suite itself -/
def tHF (K : PySem.W.Frag) (a : Addr) (cls : Value) (d : Option Addr) (n : Str) (te : TE) : TE := fun σ H Q => te σ H fun x H1 => ∃ (D dx : Addr) (fs : List (Str × V)) (v : V), x = .ref a ∧ cls = .ref D ∧ d = some dx ∧ H1 dx = some (.xd fs) ∧ XfC K D ∧ PySem.W.findIn K (.ref D) n = some none ∧ fs.lookup n = some v ∧ Q v H1
theorem pe_hF {e : Expr} {te : TE} {pos : Pos} {n : Str} (h : Held X a cls d oe) (he : PE X e te) (hb : attributeBase e n X.env (eval e X.env) = eval e X.env := by rfl) : PE X (.Attribute e n pos) (tHF X.K a cls d n te) := by
  refine ⟨fun pins s σ H Q I z => attr_of hb (thn (he.run pins s σ H _ I z) fun u s1 hh => ?_)⟩
  obtain ⟨x, H1, I1, rx, D, dx, fs, v, rfl, rfl, rfl, hx, T, hn, l, q⟩ := hh
  obtain rfl : u = Value.ref a := rx
  exact er_get I1 (h.known (.inr ⟨dx, fs, rfl, hx⟩)) hx T hn l q
end
end SH

/-! SH19: an own error class whose __init__ says super().__init__('..') and self.f = v. -/
namespace SH
open PySem PySem.Spec PyProof.Rows L2
/-- what the written part says of such a class: its __init__ at fI (its code at cda, its __class__ cell at cc), with the text st -/
structure IniC (P : Program) (K : PySem.W.Frag) (C : Addr) (q : Str) (st : Stmt) (f : Str) : Prop where
  o : OexC K C
  fx : ∃ (fI cda cc : Addr) (oc cl ccl : Value) (od cld cdd : Option Addr) (osl csl ccs : Array (Option Value)) (vs : Array Value) (file : Str) (tf : Tok) (kV doc pm ct : Value) (an : Option Addr),
    K.lookup fI = some ⟨oc, od, .func (PySem.W.ksFn "__init__" q (defArgs st) (defBody st) (defScope st) .none kV doc pm an (.ref cda) ct cc), osl⟩ ∧
    PySem.W.codeIn K (.ref cda) q = true ∧ K.lookup cda = some ⟨ccl, cdd, .fields vs, ccs⟩ ∧ vs[2]? = some (.str file tf) ∧ ((P.main.file : Str) == file) = true ∧
    K.lookup cc = some ⟨cl, cld, .cell (some (.ref C)), csl⟩ ∧ PySem.W.findIn K (.ref C) "__init__" = some (some (.ref fI)) ∧ PySem.W.typeIn K (.ref fI) = some (.type "function")
  su : PySem.W.ks_superIn K C C "__init__" = some (some (.builtin "ValueError.__init__"))
  sb : PySem.W.subIn K (.ref C) (.type "ValueError") = some true
  me : PySem.W.mroIn K C (.ref C) = some true
  op : PySem.W.nsIn K cStatics "thirdparty.any" = some none
  no : PySem.W.findIn K (.ref C) f = some none
  top : (P.main.scope.names.lookup ("super" : Str)).isSome = false
/-- the text of such an __init__ -/
structure IniT (st : Stmt) (f v m : Str) : Prop where
  body : ∃ p0 p1 p2 p3 p4 p5 p6 p7 p8 p9 j, defBody st = [.Expr (.Call (.Attribute (.Call (.Name "super" p0) [] [] p1) "__init__" p2) [.Constant (.str m) j p3] [] p4) p5, .Assign [.Attribute (.Name "self" p6) f p7] (.Name v p8) p9] ∧
    ∀ (q : Str) (kV doc pm : Value) (an : Option Addr) (cd ct : Value) (cc L fI : Addr) (env : Env), env = callEnv (PySem.W.ksFn "__init__" q (defArgs st) (defBody st) (defScope st) .none kV doc pm an cd ct cc) L fI →
      (∃ pl : Sem Bool, eval (.Call (.Attribute (.Call (.Name "super" p0) [] [] p1) "__init__" p2) [.Constant (.str m) j p3] [] p4) env = (do
        let ov ← attributeBase (.Call (.Name "super" p0) [] [] p1) "__init__" env (eval (.Call (.Name "super" p0) [] [] p1) env)
        standAt p2.atName
        let (g, first) ← holding [ov] (getMethod ov "__init__" pl)
        callWith p4 g first (backTo p4 (starEach [.Constant (.str m) j p3] env)) [])) ∧
      swapsWith (.Call (.Attribute (.Call (.Name "super" p0) [] [] p1) "__init__" p2) [.Constant (.str m) j p3] [] p4) none p5.line env = pure false ∧
      swapsWith (.Name v p8) (some (.Attribute (.Name "self" p6) f p7)) p9.line env = pure false ∧ interactive env = false ∧
      starEach [.Constant (.str m) j p3] env = (false, eval (.Constant (.str m) j p3) env) :: starEach [] env
  ar : ∃ a0 a1, (defArgs st).posonlyargs = [] ∧ (defArgs st).args = [a0, a1] ∧ a0.arg = "self" ∧ a1.arg = v
  bd : ∀ (kV doc pm : Value) (an : Option Addr) (cd ct : Value) (q : Str) (cc : Addr) (x u : Value), bindArgs (PySem.W.ksFn "__init__" q (defArgs st) (defBody st) (defScope st) .none kV doc pm an cd ct cc) ⟨[x, u], []⟩ = pure ([(("self" : Str), x), (v, u)] : List (Str × Value))
  ks : (defScope st).names.lookup ("super" : Str) = some .globalImplicit
  kc : (defScope st).names.lookup ("__class__" : Str) = some .free
  k0 : (defScope st).names.lookup ("self" : Str) = some .local
  k1 : (defScope st).names.lookup v = some .local
  co : (defScope st).isCoroutine = false
  ge : (defScope st).isGenerator = false
  kd : (defScope st).kind = .function
  nc : ∀ x ∈ (defScope st).names, x.2 ≠ .cell
  nv : v ≠ "self"
  nd : (v == ("__debug__" : Str)) = false
section
open PySem.W
variable {P : Program} {w : World} {K : PySem.W.Frag} {mg : Str → Option Value} {base : Heap} {A : Around} {R : Result → Shared → Prop} {s : Shared} {C x t0 : Addr} {q f v m : Str} {st : Stmt} {u : Value}
theorem ini_rawA {ar : Args} (T : IniC P K C q st f) (Z : IniT st f v m) (md : Mod K mg base) (hb : ∀ b o, base.get? b = some o → s.heap.get? b = some o) (ms : mg "super" = none) (room : A.depth < recursionLimit) (hx : s.heap.get? x = some (HandSPX.excO C t0)) (bx : base.get? x = none)
    (fI : Addr) (hI : PySem.W.findIn K (.ref C) "__init__" = some (some (.ref fI)))
    (hbd : ∀ (kV doc pm : Value) (an : Option Addr) (cd ct : Value) (q : Str) (cc : Addr), bindArgs (PySem.W.ksFn "__init__" q (defArgs st) (defBody st) (defScope st) .none kV doc pm an cd ct cc) ar = pure ([(("self" : Str), .ref x), (v, u)] : List (Str × Value)))
    (hR : ∀ h' dx t1 tk, (∀ b o, b ≠ x → s.heap.get? b = some o → h'.get? b = some o) → s.heap.objs.size ≤ dx → dx ≠ x → h'.get? x = some ({ cls := .ref C, dict := some dx, data := .fields #[.ref t1, .none, .none, .none, .bool false, .none] } : Obj) →
      h'.Ns1 dx (fun y => if y = f then some u else none) → R (.ok (.ret .none)) ⟨h', s.gens, s.drawn, tk, s.os⟩) :
    codeAny (model P w) A (.call (.ref fI) ar) R s := by
  obtain ⟨fI', cda, cc, oc, cl, ccl, od, cld, cdd, osl, csl, ccs, vs, file, tf, kV, doc, pm, ct, an, lf, hcd, lc, hvs, hfile, lcc, hi, ti⟩ := T.fx
  obtain rfl : fI = fI' := by rw [hI] at hi; injection hi with z; injection z with z; injection z
  have KX : K.In s.heap := md.kin.keeps hb
  obtain ⟨a0, a1, e0, e1, ea0, ea1⟩ := Z.ar
  obtain ⟨p0, p1, p2, p3, p4, p5, p6, p7, p8, p9, j, eb, ev⟩ := Z.body
  obtain ⟨hp, g, d, tk, os⟩ := s
  refine ks_codeAny_call_defAt (body := defBody st) room (KX _ _ lf) rfl (md.nolimit.keeps hb) (codeRec_of KX hcd) rfl (.of_eq (hbd _ _ _ _ _ _ _ _)) Z.nc (fun y hy => ?_) (fun h1 hns hk => ?_) Z.co Z.ge Z.kd
  · rcases List.mem_cons.mp hy with rfl | hy
    · exact Z.k0
    · rcases List.mem_cons.mp hy with rfl | hy
      · exact Z.k1
      · cases hy
  generalize ee : callEnv (ksFn "__init__" q (defArgs st) (defBody st) (defScope st) .none kV doc pm an (.ref cda) ct cc) hp.objs.size fI = env
  have n1 : env.kindOf ("super" : Str) = some .globalImplicit := by rw [← ee]; exact Z.ks
  have n2 : env.kindOf ("__class__" : Str) = some .free := by rw [← ee]; exact Z.kc
  have n3 : env.kindOf ("self" : Str) = some .local := by rw [← ee]; exact Z.k0
  have n4 : env.kindOf v = some .local := by rw [← ee]; exact Z.k1
  have n5 : env.scope.kind = .function := by rw [← ee]; exact Z.kd
  have n6 : env.func = some fI := by rw [← ee]; rfl
  have n7 : env.code = .ref cda := by rw [← ee]; rfl
  have n8 : env.cells.lookup ("__class__" : Str) = some cc := by rw [← ee]; rfl
  have n9 : env.globals = mainGlobals := by rw [← ee]; rfl
  have n10 : env.builtins = builtinsNs := by rw [← ee]; rfl
  have n11 : env.locals = hp.objs.size := by rw [← ee]; rfl
  obtain ⟨⟨pl, e1'⟩, e2', e3', e4', e5'⟩ := ev q kV doc pm an (.ref cda) ct cc hp.objs.size fI env ee.symm
  rw [eb]
  have K1 : K.In h1 := KX.keeps hk
  obtain ⟨nm, qq, N, bs, bm, sn, sub, ab, col, dd, k0, k1, k2, k3, k5, lC, hbm⟩ := T.o.cls
  have hC1 := K1 _ _ lC
  have hcl : clsIn K C = some { name := nm, bases := bs, mro := .ref C :: bm, ns := N, qualname := qq, hasDict := true, slotNames := sn, subclasses := sub, abstract := ab, collection := col, hasDel := false } := by unfold clsIn; rw [lC] <;> rfl
  have hx1 : h1.get? x = some (HandSPX.excO C t0) := hk _ _ hx
  have I1 : PySem.W.InstAt h1 x (HandSPX.excO C t0) C none := ⟨hx1, rfl, rfl, trivial⟩
  have nsb : ∀ {b : Addr} {n : Str → Option Value}, base.Ns b n → h1.Ns b n := fun q => q.keeps fun b o e => hk b o (hb b o e)
  obtain ⟨mb, hmb, hbb⟩ := md.blt
  have hns' : h1.Ns env.locals (fun y => List.lookup y [(v, u), (("self" : Str), Value.ref x)]) := by rw [n11]; exact hns
  have lself : List.lookup (("self" : Str)) [(v, u), (("self" : Str), Value.ref x)] = some (.ref x) := by
    rw [List.lookup_cons, show (("self" : Str) == v) = false by simpa using Ne.symm Z.nv]
    rfl
  refine ks_wpAt_execs_cons (ks_wpAt_Expr_any (ks_wpAt_MethodCall (pl := pl) (ks_wpAt_super_base (ar := a0) n1 n2 rfl n6 (hk _ _ (KX _ _ lf)) rfl ?_ n7 (hk _ _ (KX _ _ lc)) rfl hvs hfile T.top ?_) e1') e4' e2')
  · show ((defArgs st).posonlyargs ++ (defArgs st).args).head? = some a0
    rw [e0, e1]
    rfl
  refine ks_loadName_global n5 n1 (Calls.loadGlobal_builtin (by rw [n9]; exact nsb md.glob) ms (by rw [n10]; exact nsb hmb) ((hbb _ (by decide)).trans PyProof.Rows.Boot.«super») ⟨rfl, ?_⟩)
  refine wpAny_loadName_free n5 n2 n8 ⟨_, K1 _ _ lcc, rfl⟩ ?_
  rw [ea0]
  refine wpAny_loadName_local n5 n3 hns' lself ?_
  refine ks_wpAny_isType_cls hC1 rfl ⟨rfl, ?_⟩
  refine ks_wpAny_call_super hC1 rfl hx1 rfl (fun c z => by cases z) (looks_mroIn K1 T.me) fun h2 e2 k2 => ?_
  have K2 := K1.keeps k2
  have I2 : PySem.W.InstAt h2 x (HandSPX.excO C t0) C none := ⟨k2 _ _ hx1, rfl, rfl, trivial⟩
  have su := T.su
  unfold ks_superIn at su
  rw [hcl] at su
  refine kxs_getMethod kxs_ValueError e2 (looks_opaque K2 T.op) (l₀ := .ref C :: bm) (fun A Q E s k q => wpAny_bind ((looks_clsIn K2 hcl) A _ E s k (wpAny_pure q))) rfl K2 su (I2.type.andThen (looks_subIn K2 T.sb)) (ks_ne K2 I2 hcl) rfl ?_
  have k3 : ∀ b o, h2.get? b = some o → (h2.push (kxs_mw "ValueError.__init__" x)).get? b = some o := fun b o e => Heap.get?_push_of_some _ e
  have hw3 : (h2.push (kxs_mw "ValueError.__init__" x)).get? h2.objs.size = some (kxs_mw "ValueError.__init__" x) := Heap.get?_push_size _ rfl
  generalize h2.push (kxs_mw "ValueError.__init__" x) = h3 at k3 hw3 ⊢
  rw [e5']
  refine kxs_callWith (i := "ValueError.__init__") (x := x) rfl (Calls.evalArgs_plain (Calls.spliced_cons ?_))
  rw [if_neg Bool.false_ne_true]
  refine Calls.Constant_str ?_
  refine Calls.spliced_nil ⟨hw3, ?_⟩
  have hx3 := k3 _ _ (k2 _ _ hx1)
  have hC3 := k3 _ _ (k2 _ _ hC1)
  have xC : x ≠ C := ks_ne K2 I2 hcl
  refine wpAny_call (codeAny_of_tree ?_)
  show wpAny _ (A.deeper env).in1 (callAny (.ref h2.objs.size) ⟨[.str m _], []⟩) _ _ _
  simp only [callAny]
  refine wpAny_bind (wpAny_load hw3 ?_)
  show wpAny _ _ (if ((Value.type "method-wrapper") == Value.type "method" || (Value.type "method-wrapper") == Value.type "builtin_function_or_method" || (Value.type "method-wrapper") == Value.type "method-wrapper") = true then _ else _) _ _ _
  rw [if_pos (by decide)]
  show wpAny _ _ (if ((Value.type "method-wrapper") != Value.type "method") = true then _ else _) _ _ _
  rw [if_pos (by decide)]
  refine wpAny_bind (check_bound_init F.excBase_ValueError.toExcCallFacts hC3 hx3 rfl ?_)
  refine wpAny_bind (wpAny_pure (wpAny_pure ⟨plainId_quiet F.excBase_ValueError.init.plain _, codeAny_builtin F.excBase_ValueError.initEntry ?_⟩))
  refine exc_init_tree (cls := .ref C) (t0 := t0) (dv := none) (c2 := .none) (c3 := .none) (b4 := .bool false) hx3 (by rw [sizeLine_eq]; show 1 ≤ _; omega) fun h4 k4 e4 _ => ?_
  have xl : x < hp.objs.size := Heap.lt_size hx
  have k14 : ∀ b o, b ≠ x → h1.get? b = some o → h4.get? b = some o := fun b o n e => k4 b o n (k3 b o (k2 b o e))
  have hns4 : h4.Ns env.locals (fun y => List.lookup y [(v, u), (("self" : Str), Value.ref x)]) := by
    obtain ⟨o, es, ep, ho, r⟩ := hns'
    exact ⟨o, es, ep, k14 _ _ (by rw [n11]; exact (Nat.ne_of_lt xl).symm) ho, r⟩
  have lv : List.lookup v [(v, u), (("self" : Str), Value.ref x)] = some u := by
    rw [List.lookup_cons, show (v == v) = true by simp]
  have nx0 : ∀ b o, base.get? b = some o → b ≠ x := fun b o e z => by rw [z, bx] at e; cases e
  have K4 : K.In h4 := md.kin.keeps fun b o e => k14 b o (nx0 b o e) (hk b o (hb b o e))
  refine ks_wpAt_execs_cons (ks_wpAt_Assign_Attr ?_ e3')
  refine wpAt_of_wpAny (wpAny_Name ?_ Z.nd)
  refine wpAny_loadName_local n5 n4 hns4 lv ?_
  refine wpAny_Name ?_ (by decide)
  refine wpAny_loadName_local n5 n3 hns4 lself ?_
  refine set_plain K4 (ox := { cls := .ref C, dict := none, data := .fields #[.ref h3.objs.size, .none, .none, .none, .bool false, .none] }) (od := none) ⟨e4, rfl, rfl, trivial⟩ T.o.sa ?_
  refine HandSPX.exc_osa K4 e4 hcl (show HandSPX.refsVE (.ref C :: bm) = true from hbm) rfl T.no (fun h5 tk5 dx k5' dn dne hx5 hn5 => ?_)
  refine wpAt_of_wpAny (wpAny_execs_nil ?_)
  refine hR h5 dx _ tk5 (fun b o n e => k5' b o n (k14 b o n (hk b o e))) ?_ dne hx5 hn5
  have l4 : hp.objs.size < h4.objs.size := by
    obtain ⟨o, _, _, ho, _⟩ := hns4
    rw [← n11]
    exact Heap.lt_size ho
  exact Nat.le_trans (Nat.le_of_lt l4) dn
theorem ini_raw (T : IniC P K C q st f) (Z : IniT st f v m) (md : Mod K mg base) (hb : ∀ b o, base.get? b = some o → s.heap.get? b = some o) (ms : mg "super" = none) (room : A.depth < recursionLimit) (hx : s.heap.get? x = some (HandSPX.excO C t0)) (bx : base.get? x = none)
    (fI : Addr) (hI : PySem.W.findIn K (.ref C) "__init__" = some (some (.ref fI)))
    (hR : ∀ h' dx t1 tk, (∀ b o, b ≠ x → s.heap.get? b = some o → h'.get? b = some o) → s.heap.objs.size ≤ dx → dx ≠ x → h'.get? x = some ({ cls := .ref C, dict := some dx, data := .fields #[.ref t1, .none, .none, .none, .bool false, .none] } : Obj) →
      h'.Ns1 dx (fun y => if y = f then some u else none) → R (.ok (.ret .none)) ⟨h', s.gens, s.drawn, tk, s.os⟩) :
    codeAny (model P w) A (.call (.ref fI) ⟨[.ref x, u], []⟩) R s := ini_rawA T Z md hb ms room hx bx fI hI (fun _ _ _ _ _ _ _ _ => Z.bd _ _ _ _ _ _ _ _ _ _) hR
end
section
open PySem.W
variable {X : Cx} {pins : List (Addr × Obj)} {σ : L2.St} {H1 : Hp} {C : Addr} {q f v m x : Str} {st : Stmt} {u : Value} {y : V} {p pos : Pos} {e : Expr} {te : TE}
/-- C(u) made: the error at a, its dict at dx, all else as it was -/
theorem make_ini {R : Result → Shared → Prop} {hp : Heap} {g : Array GenState} {d : Drawn} {tk : Nat} {os : OsState} (I : Inv X pins σ H1 ⟨hp, g, d, tk, os⟩) (T : IniC X.prog X.K C q st f) (Z : IniT st f v m) (ms : X.mg "super" = none) (room : Room 1 X.A)
    (h : ∀ h' a dx t1 tk', (∀ b o, hp.get? b = some o → h'.get? b = some o) → hp.objs.size ≤ a → hp.objs.size ≤ dx → dx ≠ a → h'.get? a = some ({ cls := .ref C, dict := some dx, data := .fields #[.ref t1, .none, .none, .none, .bool false, .none] } : Obj) →
      h'.Ns1 dx (fun z => if z = f then some u else none) → R (.ok (.ret (.ref a))) ⟨h', g, d, tk', os⟩) : codeAny (model X.prog X.w) X.A (.call (.ref C) ⟨[u], []⟩) R ⟨hp, g, d, tk, os⟩ := by
  obtain ⟨nm, qq, N, bs, bm, sn, sub, ab, col, dd, k0, k1, k2, k3, k5, lC, hbm⟩ := T.o.cls
  obtain ⟨fI, cda, cc, oc, cl, ccl, od, cld, cdd, osl, csl, ccs, vs, file, tf, kV, doc, pm, ct, an, lf, hcd, lc, hvs, hfile, lcc, hi, ti⟩ := T.fx
  have up : ∀ b o, hp.get? b = some o → ((hp.push (kdv_tup [u])).push (HandSPX.excO C hp.objs.size)).get? b = some o := fun b o z => Heap.get?_push_of_some _ (Heap.get?_push_of_some _ z)
  have at_ : ((hp.push (kdv_tup [u])).push (HandSPX.excO C hp.objs.size)).get? (hp.objs.size + 1) = some (HandSPX.excO C hp.objs.size) := by heap_get
  have KX := I.kIn
  refine HandSPX.call_own F.excBase_ValueError (fun Y => HandSPX.refsVE_contains Y bm hbm) (KX _ _ lC) (looks_findIn KX hi) (fun self => bind_fn KX self ti) (by rw [sizeLine_eq]; show 1 ≤ _; omega) ?_
  refine ini_raw (base := X.base) (mg := X.mg) T Z I.ok.mod (fun b o z => up b o (I.bk b o z)) ms ?_ at_ ?_ fI hi (fun h' dx t1 tk' k dn dne ha hn => ?_)
  · have := (room.make C [u] []).dp
    omega
  · cases z : X.base.get? (hp.objs.size + 1) with
    | none => rfl
    | some o => exact absurd (Heap.lt_size (I.bk _ _ z)) (by show ¬ (hp.objs.size + 1 < hp.objs.size); omega)
  · have sz : hp.objs.size ≤ ((hp.push (kdv_tup [u])).push (HandSPX.excO C hp.objs.size)).objs.size := by rw [Heap.size_push, Heap.size_push]; omega
    exact ⟨rfl, h h' _ dx t1 tk' (fun b o z => k b o (Nat.ne_of_lt (Nat.lt_succ_of_lt (Heap.lt_size z))) (up b o z)) (Nat.le_succ _) (Nat.le_trans sz dn) dne ha hn⟩
end
section
open PySem.W
variable {X : Cx} {C : Addr} {q f v m x : Str} {st : Stmt} {p pos : Pos} {e : Expr} {ta : TA}
theorem relO_one {f : Str} {y : V} {u : Value} (ry : RelV y u) (g : Str) : RelO ([(f, y)].lookup g) (if g = f then some u else none) := relO_put (fs := []) (mA := fun _ => none) ry (fun _ => True.intro) g
/-- what making an error leaves: it and its dict are new -/
theorem make_end {pins : List (Addr × Obj)} {σ : L2.St} {H1 : Hp} {hp h' : Heap} {g : Array GenState} {d : Drawn} {tk tk' : Nat} {os : OsState} {a dx : Addr} {y : V} {u : Value} (I : Inv X pins σ H1 ⟨hp, g, d, tk, os⟩) (k : ∀ b o, hp.get? b = some o → h'.get? b = some o)
    (an : hp.objs.size ≤ a) (dn : hp.objs.size ≤ dx) (dne : dx ≠ a) (hn : h'.Ns1 dx (fun z => if z = f then some u else none)) (ry : RelV y u) :
    ∃ G : Heap, (∀ b o, G.get? b = some o → h'.get? b = some o) ∧ G.get? a = none ∧ (∀ b, b ≠ a → G.get? b = h'.get? b) ∧ Inv X pins σ (upd H1 dx (.xd [(f, y)])) ⟨G, g, d, tk', os⟩ := by
  obtain ⟨G, g1, g2⟩ := restrict h' fun b => decide (b ≠ a)
  have gk : ∀ b, b ≠ a → G.get? b = h'.get? b := fun b hb => g1 b (decide_eq_true hb)
  have ga : G.get? a = none := g2 a (by simp)
  refine ⟨G, fun b o z => ?_, ga, gk, ?_⟩
  · by_cases hb : b = a
    · rw [hb, ga] at z; cases z
    · exact (gk b hb).symm.trans z
  · refine I.laidN (t' := tk') (fun b o z => ?_) ?_ (I.hok.fresh dn) ⟨_, hn.at fun o z => (gk dx dne).trans z, relO_one ry⟩
    · rw [gk b (Nat.ne_of_lt (Nat.lt_of_lt_of_le (Heap.lt_size z) an))]
      exact k b o z
    · exact PyProof.Rows.new_of_ge dn
/-- C(e), for raise -/
theorem pmk_ini (T : IniC X.prog X.K C q st f) (Z : IniT st f v m) (ms : X.mg "super" = none) (room : Room 1 X.A) (gC : X.mg x = some (.ref C)) (hg : Gl X x) (ha : PA X [e] ta)
    (hdb : (x == ("__debug__" : Str)) = false := by decide) (hst : starEach [e] X.env = (false, eval e X.env) :: starEach [] X.env := by rfl) (hpl : (backTo pos (starEach [] X.env)).any (·.1) = false := by rfl) :
    L2N.PMk X (.Call (.Name x p) [e] [] pos) (fun σ H Q => ta σ H fun vs H1 => ∃ y, vs = [y] ∧ ∀ dx, H1 dx = none → Q (.ref C) (some dx) (upd H1 dx (.xd [(f, y)]))) := by
  intro pins s σ H Q I h
  refine wpAny_Call_Name_kw (ld_glob I hg gC ?_ hdb)
  refine callWith_K (h₀ := X.base) I.ok.mod.kin T.o.kC (thn (ha.run pos pins s σ H _ I h) fun us s1 hh => ?_) hst hpl
  obtain ⟨vs, H1, I1, r1, y, rfl, hq⟩ := hh
  obtain ⟨u, rfl, ry⟩ : ∃ u, us = [u] ∧ RelV y u := by
    cases r1 with
    | cons r rr => cases rr; exact ⟨_, rfl, r⟩
  refine ⟨I1.kIn, ?_⟩
  show wpAny _ _ (call (.ref C) [u]) _ _ _
  obtain ⟨hp, g, d, tk, os⟩ := s1
  refine wpAny_call (make_ini I1 T Z ms room fun h' a dx t1 tk' k an dn dne he hn => ?_)
  obtain ⟨G, gs, ga, gk, J⟩ := make_end (tk' := tk') I1 k an dn dne hn ry
  have na : upd H1 dx (.xd [(f, y)]) a = none := by rw [upd_ne (Ne.symm dne)]; exact I1.hok.fresh an
  exact ⟨a, _, _, ⟨G, g, d, tk', os⟩, _, .ref C, some dx, rfl, J, gs, ga, he, ⟨rfl, rfl, fun vs z => by cases z; rfl⟩, rfl, rfl, na, rfl, I1.bare, raises_own T.o.exC T.o.tyC, hq dx (I1.hok.fresh dn)⟩
/-- C(e), as a value -/
theorem pe_ini (T : IniC X.prog X.K C q st f) (Z : IniT st f v m) (ms : X.mg "super" = none) (room : Room 1 X.A) (gC : X.mg x = some (.ref C)) (hg : Gl X x) (ha : PA X [e] ta)
    (hdb : (x == ("__debug__" : Str)) = false := by decide) (hst : starEach [e] X.env = (false, eval e X.env) :: starEach [] X.env := by rfl) (hpl : (backTo pos (starEach [] X.env)).any (·.1) = false := by rfl) :
    PE X (.Call (.Name x p) [e] [] pos) (fun σ H Q => ta σ H fun vs H1 => ∃ y, vs = [y] ∧ ∀ a dx, H1 dx = none → H1 a = none → dx ≠ a → Q (.ref a) (upd (upd H1 dx (.xd [(f, y)])) a (ErO (.ref C) (some dx) a))) := by
  refine ⟨fun pins s σ H Q I h => wpAny_Call_Name_kw (ld_glob I hg gC (callWith_K (h₀ := X.base) I.ok.mod.kin T.o.kC (thn (ha.run pos pins s σ H _ I h) fun us s1 hh => ?_) hst hpl) hdb)⟩
  obtain ⟨vs, H1, I1, r1, y, rfl, hq⟩ := hh
  obtain ⟨u, rfl, ry⟩ : ∃ u, us = [u] ∧ RelV y u := by
    cases r1 with
    | cons r rr => cases rr; exact ⟨_, rfl, r⟩
  refine ⟨I1.kIn, ?_⟩
  show wpAny _ _ (call (.ref C) [u]) _ _ _
  obtain ⟨hp, g, d, tk, os⟩ := s1
  refine wpAny_call (make_ini I1 T Z ms room fun h' a dx t1 tk' k an dn dne he hn => ?_)
  obtain ⟨G, gs, ga, gk, J⟩ := make_end (tk' := tk') I1 k an dn dne hn ry
  have na : upd H1 dx (.xd [(f, y)]) a = none := by rw [upd_ne (Ne.symm dne)]; exact I1.hok.fresh an
  have J2 := J.laidN (t' := tk') (a := a) (o := ErO (.ref C) (some dx) a) gs ga na (erO_mk he ⟨rfl, rfl⟩ rfl)
  exact ⟨.ref a, _, J2, rfl, hq a dx (I1.hok.fresh dn) (I1.hok.fresh an) dne⟩
/-- raise C(e) -/
theorem ps_raiseI {W : WX} {p' : Pos} (T : IniC X.prog X.K C q st f) (Z : IniT st f v m) (ms : X.mg "super" = none) (room : Room 1 X.A) (gC : X.mg x = some (.ref C)) (hc : X.calm = true) (tk : L2N.Takes X W) (hg : Gl X x) (ha : PA X [e] ta)
    (hdb : (x == ("__debug__" : Str)) = false := by decide) (hst : starEach [e] X.env = (false, eval e X.env) :: starEach [] X.env := by rfl) (hpl : (backTo pos (starEach [] X.env)).any (·.1) = false := by rfl) :
    PS X (.Raise (some (.Call (.Name x p) [e] [] pos)) none p') (fun _ σ H => ta σ H fun vs H1 => ∃ y, vs = [y] ∧ ∀ dx, H1 dx = none → W (.ref C) (some dx) σ (upd H1 dx (.xd [(f, y)]))) :=
  L2N.ps_raise hc tk (pmk_ini T Z ms room gC hg ha hdb hst hpl)
/-- raise C('..'), C without own __init__ -/
theorem ps_raiseN {W : WX} {j : Nat} {p2 p' : Pos} {msg : Str} (E : Err X.K X.mg x C) (hc : X.calm = true) (tk : L2N.Takes X W) (hg : Gl X x) (hdb : (x == ("__debug__" : Str)) = false := by decide) :
    PS X (.Raise (some (.Call (.Name x p) [.Constant (.str msg) j p2] [] pos)) none p') (fun _ σ H => W (.ref C) none σ H) :=
  L2N.ps_raise hc tk (L2N.pmk_own PySem.F.excBase_ValueError E.q E.g E.k (raises_own E.e E.t) hg hdb)
end
section
variable {P : Program} {w : World} {K : PySem.W.Frag} {mg : Str → Option Value} {base : Heap}
/-- THE RULE for a def that may raise errors whose context is None -/
theorem Has.ofN {x : Str} {st : Stmt} {N ps : List Str} {k : Nat} {sp : Sp} (at_ : At K mg x st) (S : FnScope N ps (defScope st)) (len : ∀ vs H Q E, sp vs H Q E → vs.length = ps.length)
    (bd : ∀ (kV doc pm : Value) (an : Option Addr) (cdv ct : Value) (us : List Value), us.length = ps.length → bindArgs (PySem.W.fnOf x x (defArgs st) (defBody st) (defScope st) .none kV doc pm an cdv ct) ⟨us, []⟩ = pure (ps.zip us))
    (walk : ∀ (f : Addr) (cdv : Value) (A : Around) (outer : List Env) (s : Shared) (H : Hp) (vs : List V) (Q : VK) (E : XK), Room k (A.deeper (envOfC x (defScope st) s.heap.objs.size f cdv)) → Quiet (A.deeper (envOfC x (defScope st) s.heap.objs.size f cdv)) → sp vs H Q E →
      ∃ t, PSs (cxOf (L2N.CX P w) P w K mg base N x (defScope st) f cdv A outer s H E) (defBody st) t ∧ t { nx := fun _ H' => Q .non H', rt := Q } (start N vs) H) :
    Has P w K mg base (L2N.CX P w) (k + 1) x st ps sp := by
  obtain ⟨f, fd, F, m⟩ := at_
  exact ⟨f, fd, F, m, FnG.of F S len (walk f), F.binds bd⟩
/-- the function at the address f keeps the promise sp -/
def FnV (P : Program) (w : World) (K : PySem.W.Frag) (mg : Str → Option Value) (base : Heap) (CX : CXT) (k : Nat) (f : Addr) (n : Nat) (sp : Sp) : Prop :=
  ∃ x st fd ps, Fun K x x st f fd ∧ FnG P w K mg base CX k f fd ps sp ∧ L2.Binds K fd ps [] ∧ ps.length = n
theorem Has.v {CX : CXT} {k n : Nat} {x : Str} {st : Stmt} {ps : List Str} {sp : Sp} (h : Has P w K mg base CX k x st ps sp) (hn : ps.length = n := by rfl) : ∃ f, mg x = some (.ref f) ∧ FnV P w K mg base CX k f n sp := by
  obtain ⟨f, fd, F, m, G, b⟩ := h
  exact ⟨f, m, x, st, fd, ps, F, G, b, hn⟩
end
section
variable {X : Cx} {CX : CXT} {E : L2.St → XK} {k : Nat} {fe e : Expr} {es : List Expr} {tf : TE} {t : TA} {pos : Pos}
def tCallV (P : Program) (w : World) (K : PySem.W.Frag) (mg : Str → Option Value) (base : Heap) (CX : CXT) (k : Nat) (E : L2.St → XK) (tf : TE) (t : TA) : TE := fun σ H Q => tf σ H fun z H1 => ∃ f n sp, z = .ref f ∧ FnV P w K mg base CX k f n sp ∧ t σ H1 fun vs H2 => sp vs H2 Q (E σ)
/-- fe(e, ..), fe any expression that gives a function -/
theorem pe_callV (room : Room k X.A) (qt : Quiet X.A) (hf : PE X fe tf) (hx : ∀ σ, PassesAt CX X σ (E σ)) (ha : PA X (e :: es) t)
    (ht : eval (.Call fe (e :: es) [] pos) X.env = (do callWith pos (← eval fe X.env) [] (backTo pos (starEach (e :: es) X.env)) (backToKw pos (keywordEach [] X.env))) := by rfl)
    (hst : starEach (e :: es) X.env = (false, eval e X.env) :: starEach es X.env := by rfl) (hpl : (backTo pos (starEach es X.env)).any (·.1) = false := by rfl) :
    PE X (.Call fe (e :: es) [] pos) (tCallV X.prog X.w X.K X.mg X.base CX k E tf t) := by
  refine ⟨fun pins s σ H Q I h => Call_ (thn (hf.run pins s σ H _ I h) fun u s1 ⟨z, H1, I1, rz, f, n, sp, ez, ⟨x, st, fd, ps, F, G, b, hn⟩, q⟩ => ?_) ht⟩
  subst ez
  obtain rfl : u = Value.ref f := rz
  refine PySem.W.callWith_K (h₀ := X.base) I1.ok.mod.kin F.kp (thn (ha.run pos pins s1 σ H1 _ I1 q) fun us s2 ⟨vs, H2, I2, r, q2⟩ => ⟨I2.kIn, ?_⟩) hst hpl
  exact goS G room qt b (hx σ) I2 r q2
end
end SH

/-! SH20: what is known of the classes of errors. -/
namespace SH
open PySem PySem.Spec PyProof.Rows L2
/-- is an error of the class at C an instance of each of these -/
def Kits (K : PySem.W.Frag) (C : Addr) : List (Value × Bool) → Prop
  | [] => True
  | (c, b) :: r => PySem.W.kitOne K (.ref C) c = some b ∧ Kits K C r
structure ErK (K : PySem.W.Frag) (C : Addr) (l : List (Value × Bool)) : Prop where
  ex : ExcC K C
  kit : Kits K C l
theorem kitAny_no {K : PySem.W.Frag} {t : Value} : ∀ {cs : List Value}, (∀ c ∈ cs, PySem.W.kitOne K t c = some false) → PySem.W.kitAny K t cs = some false
  | [], _ => rfl
  | c :: cs, h => kitAny_cons (h c List.mem_cons_self) (fun _ => kitAny_no fun d hd => h d (List.mem_cons_of_mem _ hd)) (fun z => nomatch z)
/-- a value that is any, at a heap that keeps what was -/
def RetAny (Q : VK) (H : Hp) : Prop := ∀ v H', Same H H' → Q v H'
/-- an error of the class at C without a dict -/
def Rai (E : XK) (H : Hp) (C : Addr) : Prop := ∀ H', Same H H' → E (.ref C) none H'
/-! ### xs.count(y), flat items -/
def rCountF (K : PySem.W.Frag) : V → List V → Hp → VK → Prop := fun x xs H Q => ∃ (a : Addr) (ys : List V) (y : V), x = V.ref a ∧ xs = [y] ∧ SqL K H a ys ∧ flatV y = true ∧ ys.all flatV = true ∧ Q (.int (ys.countP (fun z => eqV z y) : Nat)) H
theorem count_vals {y : V} {ys : List V} {us : List Value} (r : Vals ys us) : ys.all flatV = true → us.countP (eqU y) = ys.countP (fun z => eqV z y) := by
  induction r with
  | nil => intro _; rfl
  | cons ra rt ih =>
    intro f
    rw [List.all_cons, Bool.and_eq_true] at f
    rw [List.countP_cons, List.countP_cons, ih f.2, eqU_of ra f.1]
theorem mt_countF {X : Cx} : MtR X "list.count" (rCountF X.K) := by
  intro pins s σ H x xs v us Q I rx rxs h
  obtain ⟨a, ys, y, rfl, rfl, hs, fy, fys, q⟩ := h
  cases rx
  obtain ⟨u, rfl, ru⟩ := rxs.one
  obtain ⟨its, rv, ⟨⟨cls, dd, data, sl⟩, n, ho, hc, hdn, hd⟩, hlen⟩ := I.list hs
  simp only at hc hd
  subst hc hd
  refine call_meets PySem.F.slot_list_count ⟨_, ho, rfl⟩ PySem.F.entry_list_count (PySem.F.args_list_count_2 _ _) (SeqAt.list_countAt a its.toArray n dd sl u (eqU y)) ⟨ho, fun w hw => mem_eqAt ru fy rv fys w (by simpa using hw), ?_⟩
  refine ⟨.int (ys.countP (fun z => eqV z y) : Nat), H, I.tok _, ⟨s.toks, ?_⟩, q⟩
  have e : its.toArray.toList.countP (eqU y) = ys.countP (fun z => eqV z y) := count_vals rv fys
  rw [e]
theorem hot_room {j k : Nat} {A : Around} {e : Option Value} (r : Room k A) (h : j ≤ k) : L2H.RoomH j (A.mark e) := ⟨(r.mono h).dp, (r.mono h).un⟩
/-- a statement whose ends are told once -/
theorem seq_cut {t u : TS} {D : Ends} {σ : L2.St} {H : Hp} (Inv : L2.St → Hp → Prop) (hu : ∀ τ G, Inv τ G → u D τ G) (ht : (∀ τ G, Inv τ G → u D τ G) → t { D with nx := u D } σ H) : tSeq t u D σ H := ht hu
/-! ### lists of texts -/
def okT (x : Str) : Bool := PyData.canLay0 (.str x)
abbrev tv (ss : List Str) : List V := ss.map V.str
def dT (ss : List Str) : PyData := .list (ss.map PyData.str)
theorem eqv_strs : ∀ ss ts : List Str, PyData.eqvAll (ss.map PyData.str) (ts.map PyData.str) = decide (ss = ts)
  | [], [] => rfl
  | [], _ :: _ => rfl
  | _ :: _, [] => rfl
  | n :: r, m :: q => by
    show ((n == m) && PyData.eqvAll (r.map PyData.str) (q.map PyData.str)) = _
    rw [eqv_strs r q, Bool.eq_iff_iff]
    simp
theorem depth_strs : ∀ ss : List Str, PyData.depthAll (ss.map PyData.str) = 0
  | [] => rfl
  | n :: r => by show max 0 (PyData.depthAll (r.map PyData.str)) = 0; rw [depth_strs r]; rfl
theorem shaped_dT (ss : List Str) (ok : ss.all okT = true) : SeqAt.shaped (dT ss) = true := by
  have c : ∀ ms : List Str, ms.all okT = true → PyData.canLayAll0 (ms.map PyData.str) = true := fun ms => by
    induction ms with
    | nil => intro _; rfl
    | cons n r ih =>
      intro h
      rw [List.all_cons, Bool.and_eq_true] at h
      show (okT n && PyData.canLayAll0 (r.map PyData.str)) = true
      rw [h.1, ih h.2]; rfl
  unfold SeqAt.shaped
  have d : (dT ss).depth = 1 := by show PyData.depthAll (ss.map PyData.str) + 1 = 1; rw [depth_strs]
  rw [d]
  show (PyData.canLayAll0 (ss.map PyData.str) && decide (1 ≤ 64)) = true
  rw [c ss ok]
  rfl
theorem dp_strs {K : PySem.W.Frag} {H : Hp} : ∀ ss : List Str, DpAll K H (tv ss) (ss.map PyData.str)
  | [] => .nil
  | n :: r => .cons (.str n) (dp_strs r)
theorem neD_strs {K : PySem.W.Frag} {H : Hp} {a b : Addr} {ss ts : List Str} {Q : VK} (ha : SqL K H a (tv ss)) (hb : SqL K H b (tv ts)) (o1 : ss.all okT = true) (o2 : ts.all okT = true) (q : Q (.bl (!decide (ss = ts))) H) : rNeD K (.ref a) (.ref b) H Q :=
  ⟨dT ss, dT ts, .lst ha (dp_strs ss), .lst hb (dp_strs ts), shaped_dT ss o1, shaped_dT ts o2, by rw [show PyData.eqv (dT ss) (dT ts) = decide (ss = ts) from eqv_strs ss ts]; exact q⟩
theorem eqD_strs {K : PySem.W.Frag} {H : Hp} {a b : Addr} {ss ts : List Str} {Q : VK} (ha : SqL K H a (tv ss)) (hb : SqL K H b (tv ts)) (o1 : ss.all okT = true) (o2 : ts.all okT = true) (q : Q (.bl (decide (ss = ts))) H) : rEqD K (.ref a) (.ref b) H Q :=
  ⟨dT ss, dT ts, .lst ha (dp_strs ss), .lst hb (dp_strs ts), shaped_dT ss o1, shaped_dT ts o2, by rw [show PyData.eqv (dT ss) (dT ts) = decide (ss = ts) from eqv_strs ss ts]; exact q⟩
/-! ### a class's __init__ -/
def clsBody (s : Stmt) : List Stmt := match s with
  | .ClassDef _ _ _ b _ _ _ _ _ _ _ => b
  | _ => []
def iniOf (s : Stmt) (i : Nat) : Stmt := (clsBody s).getD i (.Pass ⟨0, 0, 0, 0⟩)
/-- an error of the class at C with a dict that holds v at f -/
def RaiF (E : XK) (H : Hp) (C : Addr) (f : Str) (v : V) : Prop := ∀ dx H', Same H H' → H' dx = some (.xd [(f, v)]) → H dx = none → E (.ref C) (some dx) H'
section
variable {K : PySem.W.Frag} {t c1 c2 c3 c4 c5 : Value}
theorem kitAny_no2 (h1 : PySem.W.kitOne K t c1 = some false) (h2 : PySem.W.kitOne K t c2 = some false) : PySem.W.kitAny K t [c1, c2] = some false :=
  kitAny_cons h1 (fun _ => kitAny_cons h2 (fun _ => rfl) (fun z => nomatch z)) (fun z => nomatch z)
theorem kitAny_no3 (h1 : PySem.W.kitOne K t c1 = some false) (h2 : PySem.W.kitOne K t c2 = some false) (h3 : PySem.W.kitOne K t c3 = some false) : PySem.W.kitAny K t [c1, c2, c3] = some false :=
  kitAny_cons h1 (fun _ => kitAny_no2 h2 h3) (fun z => nomatch z)
theorem kitAny_no4 (h1 : PySem.W.kitOne K t c1 = some false) (h2 : PySem.W.kitOne K t c2 = some false) (h3 : PySem.W.kitOne K t c3 = some false) (h4 : PySem.W.kitOne K t c4 = some false) : PySem.W.kitAny K t [c1, c2, c3, c4] = some false :=
  kitAny_cons h1 (fun _ => kitAny_no3 h2 h3 h4) (fun z => nomatch z)
theorem kitAny_no5 (h1 : PySem.W.kitOne K t c1 = some false) (h2 : PySem.W.kitOne K t c2 = some false) (h3 : PySem.W.kitOne K t c3 = some false) (h4 : PySem.W.kitOne K t c4 = some false) (h5 : PySem.W.kitOne K t c5 = some false) : PySem.W.kitAny K t [c1, c2, c3, c4, c5] = some false :=
  kitAny_cons h1 (fun _ => kitAny_no4 h2 h3 h4 h5) (fun z => nomatch z)
end
theorem own2 (a b : Addr) : Paired ClsV [.ref a, .ref b] [.ref a, .ref b] := .cons (.own _) (.cons (.own _) .nil)
theorem own3 (a b c : Addr) : Paired ClsV [.ref a, .ref b, .ref c] [.ref a, .ref b, .ref c] := .cons (.own _) (own2 _ _)
theorem own4 (a b c d : Addr) : Paired ClsV [.ref a, .ref b, .ref c, .ref d] [.ref a, .ref b, .ref c, .ref d] := .cons (.own _) (own3 _ _ _)
theorem own5 (a b c d e : Addr) : Paired ClsV [.ref a, .ref b, .ref c, .ref d, .ref e] [.ref a, .ref b, .ref c, .ref d, .ref e] := .cons (.own _) (own4 _ _ _ _)
end SH

/-! SH21: repr of values of any kind; only the dicts in them need stand apart from the module table, and they do. -/
namespace SH
open PySem PySem.Spec PyProof.Rows L2
section
variable {X : Cx} {pins : List (Addr × Obj)} {σ : L2.St} {H : Hp} {s : Shared}
abbrev Rk (X : Cx) (s : Shared) (u : Value) (d : PyData) : Prop := ∃ bs, ReadAtMost s.heap d.depth bs ∧ ReprK X.prog X.w bs s.heap d.depth u d.shown
abbrev RkA (X : Cx) (s : Shared) (us : List Value) (ds : List PyData) : Prop := ∃ bs, ReadAtMost s.heap (PyData.depthAll ds) bs ∧ ReprAllK X.prog X.w bs s.heap (PyData.depthAll ds) us (PyData.shownAll ds)
theorem list_rk {a : Addr} {o : Obj} {its : List Value} {n : Nat} {ds : List PyData} {as : List Addr} (e : s.heap.get? a = some o) (c : o.cls = .type "list") (dt : o.data = .seq its.toArray n) (hr : ReadsAll s.heap its ds as) (k : RkA X s its ds) : Rk X s (.ref a) (.list ds) := by
  obtain ⟨bs, hb, hk⟩ := k
  have r : Reads s.heap (.ref a) (.list ds) (a :: as) := .list e c dt hr
  have ap : a ∉ bs := not_mem_of_deeper r (by simp only [PyData.depth]; omega) hb
  refine ⟨a :: bs, ReadAtMost.cons r (by simp only [PyData.depth]; omega) hb, ?_⟩
  simp only [PyData.depth, PyData.shown]
  cases its with
  | nil =>
    cases hr
    simp only [PyData.shownAll, listText_nil]
    exact ReprK.listEmpty e c dt
  | cons x l => exact ReprK.list e c dt ap (by simpa using hk.length_eq) fun i y q => hk.item i y (by simpa using q)
theorem tup_rk {a : Addr} {o : Obj} {its : List Value} {n : Nat} {ds : List PyData} {as : List Addr} (e : s.heap.get? a = some o) (c : o.cls = .type "tuple") (dt : o.data = .seq its.toArray n) (hr : ReadsAll s.heap its ds as) (k : RkA X s its ds) : Rk X s (.ref a) (.tuple ds) := by
  obtain ⟨bs, hb, hk⟩ := k
  have r : Reads s.heap (.ref a) (.tuple ds) as := .tuple e c dt hr
  have ap : a ∉ bs := not_mem_of_deeper r (by simp only [PyData.depth]; omega) hb
  refine ⟨a :: bs, ReadAtMost.cons r (by simp only [PyData.depth]; omega) hb, ?_⟩
  simp only [PyData.depth, PyData.shown]
  exact ReprK.tuple e c dt ap hk
theorem cons_rk {u : Value} {us : List Value} {d : PyData} {ds : List PyData} (h1 : Rk X s u d) (h2 : RkA X s us ds) : RkA X s (u :: us) (d :: ds) := by
  obtain ⟨b1, m1, k1⟩ := h1
  obtain ⟨b2, m2, k2⟩ := h2
  refine ⟨b1 ++ b2, fun b hm => ?_, ?_⟩
  · show ∃ d' as', Reads s.heap (.ref b) d' as' ∧ d'.depth ≤ max d.depth (PyData.depthAll ds)
    rcases List.mem_append.mp hm with z | z
    · obtain ⟨d', as', r, q⟩ := m1 b z
      exact ⟨d', as', r, by omega⟩
    · obtain ⟨d', as', r, q⟩ := m2 b z
      exact ⟨d', as', r, by omega⟩
  · simp only [PyData.depthAll, PyData.shownAll]
    exact .cons ((k1.more fun b hb => List.mem_append_left _ hb).level_le (Nat.le_max_left _ _)) (k2.more_le (fun b hb => List.mem_append_right _ hb) (Nat.le_max_right _ _))
theorem of_rk {u : Value} {d : PyData} {as : List Addr} (r : Reads s.heap u d as) (hs : d.showable = true) (hz : d.shown.length ≤ sizeLine) (hd : d.hasDict = true → sysModules ∉ as) : Rk X s u d := ReprK.of_reads r hs hd hz
mutual
theorem Dx.rk (I : Inv X pins σ H s) : ∀ (d : PyData) (v : V) (u : Value) (as : List Addr), Dx H v d as → RelV v u → d.showable = true → d.shown.length ≤ sizeLine → Rk X s u d
  | .none, _, _, _, h, r, hs, hz => by obtain ⟨bs, q, _⟩ := Dx.reads I _ _ _ _ h r; exact of_rk q hs hz fun z => nomatch z
  | .bool b, _, _, _, h, r, hs, hz => by obtain ⟨bs, q, _⟩ := Dx.reads I _ _ _ _ h r; exact of_rk q hs hz fun z => nomatch z
  | .int i, _, _, _, h, r, hs, hz => by obtain ⟨bs, q, _⟩ := Dx.reads I _ _ _ _ h r; exact of_rk q hs hz fun z => nomatch z
  | .str x, _, _, _, h, r, hs, hz => by obtain ⟨bs, q, _⟩ := Dx.reads I _ _ _ _ h r; exact of_rk q hs hz fun z => nomatch z
  | .dict _, _, _, _, h, r, hs, hz => by
    obtain ⟨bs, q, sub⟩ := Dx.reads I _ _ _ _ h r
    cases h with
    | emp e =>
      obtain ⟨_, nm, _⟩ := dk_of I.hok e
      refine of_rk q hs hz fun _ z => ?_
      have := List.mem_singleton.mp (sub _ z)
      rw [← this] at nm
      simp at nm
  | .list ds, _, _, _, h, r, hs, hz => by
    cases h with
    | lst e ha =>
      cases r
      obtain ⟨its, rv, ⟨o, n, ho, hc, _, hd⟩, _⟩ := I.list (SqL.of e)
      obtain ⟨bs, hr, _⟩ := Dx.readsAll I ds _ its _ ha rv
      exact list_rk ho hc hd hr (Dx.rkAll I ds _ its _ ha rv (by simpa [PyData.showable] using hs) fun t ht => Nat.le_trans (listText_mem_le ht) (by simpa only [PyData.shown] using hz))
  | .tuple ds, _, _, _, h, r, hs, hz => by
    cases h with
    | tup e ha =>
      cases r
      obtain ⟨its, rv, ⟨o, ho, hc, n, hd⟩, _⟩ := I.tuple (SqT.of e)
      obtain ⟨bs, hr, _⟩ := Dx.readsAll I ds _ its _ ha rv
      exact tup_rk ho hc hd hr (Dx.rkAll I ds _ its _ ha rv (by simpa [PyData.showable] using hs) fun t ht => Nat.le_trans (tupleText_mem_le ht) (by simpa only [PyData.shown] using hz))
theorem Dx.rkAll (I : Inv X pins σ H s) : ∀ (ds : List PyData) (vs : List V) (us : List Value) (as : List Addr), DxAll H vs ds as → Vals vs us → PyData.showableAll ds = true → (∀ t ∈ PyData.shownAll ds, t.length ≤ sizeLine) → RkA X s us ds
  | [], _, _, _, h, r, _, _ => by
    cases h
    cases r
    exact ⟨[], (fun b z => absurd z List.not_mem_nil), .nil⟩
  | d :: ds, _, _, _, h, r, hs, hz => by
    cases h with
    | cons h1 h2 =>
      cases r with
      | cons r1 r2 =>
        have hs' : d.showable = true ∧ PyData.showableAll ds = true := by simpa [PyData.showableAll] using hs
        exact cons_rk (Dx.rk I d _ _ _ h1 r1 hs'.1 (hz _ (by simp only [PyData.shownAll]; exact List.mem_cons_self))) (Dx.rkAll I ds _ _ _ h2 r2 hs'.2 fun t ht => hz t (by simp only [PyData.shownAll]; exact List.mem_cons_of_mem _ ht))
end
end
/-- repr(x), x of any kind -/
def rReprY : List V → Hp → VK → Prop := fun xs H Q => ∃ (x : V) (d : PyData) (as : List Addr), xs = [x] ∧ Dx H x d as ∧ Fits 50 16000000 d ∧ Q (.str d.shown) H
theorem call_reprY {X : Cx} (qt : Quiet X.A) (hu : X.A.units + 64 < cLine) : CallR X (.builtin "repr") rReprY := by
  intro pins s σ H xs us Q I r h
  obtain ⟨x, d, as, rfl, hd, fd, q⟩ := h
  have hz : d.shown.length ≤ sizeLine := Nat.le_trans fd.2.2 (by decide)
  obtain ⟨u, eu, rx⟩ := vals1 r
  have fin : ∀ h' (v : Tok) tk, (∀ b o, s.heap.get? b = some o → h'.get? b = some o) → EP X pins σ Q (.str d.shown v) { s with heap := h', toks := tk } := fun h' v tk k => ⟨.str d.shown, H, I.kept k, ⟨v, rfl⟩, q⟩
  have depth := fd.2.1
  cases d with
  | list ds =>
    cases hd with
    | lst e ha =>
      cases rx
      subst eu
      obtain ⟨its, rv, ⟨o, n, ho, hc, _, hdt⟩, _⟩ := I.list (SqL.of e)
      obtain ⟨bs, hr, _⟩ := Dx.readsAll I ds _ its _ ha rv
      have hz' : (listText (PyData.shownAll ds)).length ≤ sizeLine := by simpa only [PyData.shown] using hz
      obtain ⟨cs, hb, hk⟩ := Dx.rkAll I ds _ its _ ha rv (by simpa [PyData.showable] using fd.1) fun t ht => Nat.le_trans (listText_mem_le ht) hz'
      have rd : Reads s.heap (.ref _) (.list ds) _ := .list ho hc hdt hr
      have ap : _ ∉ cs := not_mem_of_deeper rd (by simp only [PyData.depth]; omega) hb
      simp only [PyData.depth] at depth
      refine call_repr_slot (by omega) ⟨o, ho, hc⟩ F.slot_list_repr.toG ?_
      cases its with
      | nil =>
        cases hr
        refine call_list_repr_empty ⟨o, ho, hc⟩ ho hdt ⟨_, _, rfl, ?_⟩
        have := fin s.heap s.toks (s.toks + 1) fun _ _ z => z
        simp only [PyData.shown, PyData.shownAll, listText_nil] at this
        exact this
      | cons x l =>
        refine call_list_reprK ho hc hdt ap (by simpa using hk.length_eq) (fun i y z => hk.item i y (by simpa using z)) qt (fun b _ => Clear.nil b) (by show X.A.units + 1 + (PyData.depthAll ds + 1) < cLine; omega) (fun _ _ z => z) (fun h' v tk k => ⟨_, _, rfl, ?_⟩) hz'
        have := fin h' v tk k
        simp only [PyData.shown] at this
        exact this
  | tuple ds =>
    cases hd with
    | tup e ha =>
      cases rx
      subst eu
      obtain ⟨its, rv, ⟨o, ho, hc, n, hdt⟩, _⟩ := I.tuple (SqT.of e)
      obtain ⟨bs, hr, _⟩ := Dx.readsAll I ds _ its _ ha rv
      have hz' : (tupleText (PyData.shownAll ds)).length ≤ sizeLine := by simpa only [PyData.shown] using hz
      obtain ⟨cs, hb, hk⟩ := Dx.rkAll I ds _ its _ ha rv (by simpa [PyData.showable] using fd.1) fun t ht => Nat.le_trans (tupleText_mem_le ht) hz'
      have rd : Reads s.heap (.ref _) (.tuple ds) _ := .tuple ho hc hdt hr
      have ap : _ ∉ cs := not_mem_of_deeper rd (by simp only [PyData.depth]; omega) hb
      simp only [PyData.depth] at depth
      refine call_repr_slot (by omega) ⟨o, ho, hc⟩ F.slot_tuple_repr ?_
      refine call_tuple_reprK ho hc hdt ap hk qt (fun b _ => Clear.nil b) (by show X.A.units + 1 + (PyData.depthAll ds + 1) < cLine; omega) (fun _ _ z => z) (fun h' v tk k => ⟨_, _, rfl, ?_⟩) hz'
      have := fin h' v tk k
      simp only [PyData.shown] at this
      exact this
  | dict kvs =>
    refine call_reprX qt hu pins s σ H [x] us Q I r ⟨x, _, as, rfl, hd, fun _ z => ?_, fd, q⟩
    cases hd with
    | emp e =>
      obtain ⟨_, nm, _⟩ := dk_of I.hok e
      have := List.mem_singleton.mp z
      rw [← this] at nm
      simp at nm
  | _ => exact call_reprX qt hu pins s σ H [x] us Q I r ⟨x, _, as, rfl, hd, (fun z => nomatch z), fd, q⟩
end SH

set_option maxHeartbeats 2000000
/-! SH22: errors that are made as values: C(e) of a class without own __init__; C(f=e) of one whose __init__ is super().__init__('..'); self.f = f. -/
namespace SH
open PySem PySem.HandSPX
section
variable {prog : Program} {w : World} {A : Around} {E : Value → Shared → Prop} {R : Result → Shared → Prop} {h : Heap} {g : Array GenState} {d : Drawn} {t : Nat} {os : OsState}
variable {nm q : Str} {C N : Addr} {bs bm bmB : List Value} {hdct : Bool} {sn : List Str} {sub : List Value} {ab : Bool} {col : Option Bool} {dd : Option Addr} {k0 k1 k2 k3 k5 : Option Value} {B newId initId : String} {kw : List (Str × Value)}
theorem chk_newK {M : Model} (F : ExcBaseFacts B newId initId bmB) (hT : ∀ X : String, bm.contains (.type X) = bmB.contains (.type X)) {rest : List Value} {Q : Unit → Shared → Prop}
    (hC : h.get? C = some (excClassObj nm q C N bs bm hdct sn sub ab col dd k0 k1 k2 k3 k5 newId)) (hq : Q () ⟨h, g, d, t, os⟩) : wpAny M A (checkBuiltinCall newId ⟨.ref C :: rest, kw⟩) Q E ⟨h, g, d, t, os⟩ := by
  have hcont : (Value.ref C :: bm).contains (.type B) = true := by rw [List.contains_cons, hT, F.hasB, Bool.or_true]
  have hstar := F.noStar
  simp only [checkBuiltinCall, F.newKind, F.newSplit, F.newRow]
  repeat (first | refine wpAny_loadPart_at hC ?_ | (refine wpAny_isSubtype_exc hC ?_; rw [hcont]) | refine wpAny_staticBase_exc hC ?_ | refine wpAny_madeBy_exc hC ?_ | simp only [bne_self_eq_false, Bool.false_eq_true, if_false] | wp_step)
  exact hq
theorem newK (F : ExcBaseFacts B newId initId bmB) (hT : ∀ X : String, bm.contains (.type X) = bmB.contains (.type X)) {rest : List Value}
    (hC : h.get? C = some (excClassObj nm q C N bs bm hdct sn sub ab col dd k0 k1 k2 k3 k5 newId))
    (hq : R (.ok (.ret (.ref (h.objs.size + 1)))) ⟨(h.push { cls := .type "tuple", data := .seq rest.toArray }).push
      { cls := .ref C, data := .fields #[.ref h.objs.size, .none, .none, .none, .bool false, .none] }, g, d, t, os⟩) (hrest : rest.length ≤ sizeLine) :
    codeAny (model prog w) A (.builtin newId ⟨.ref C :: rest, kw⟩) R ⟨h, g, d, t, os⟩ := by
  have hends := F.ends
  have hcB : (Value.ref C :: bm).contains (.type B) = true := by rw [List.contains_cons, hT, F.hasB, Bool.or_true]
  have hcA : (Value.ref C :: bm).contains (.type "AttributeError") = false := by rw [List.contains_cons, hT, F.noAttr]; rfl
  have hcN : (Value.ref C :: bm).contains (.type "NameError") = false := by rw [List.contains_cons, hT, F.noName]; rfl
  refine codeAny_builtinAt F.entry ?_
  unfold Builtin.«BaseException.__new__»
  refine wpAt_bind ?_
  show wpAt _ _ _ (stack >>= _) _ _ _
  refine wpAt_bind (wpAt_stack fun p below => wpAt_of_wpAny ?_)
  wp_walk
  refine wpAt_of_wpAny ?_
  rw [F.owner]
  repeat (first | with_reducible refine wpAny_madeHere_exc F.canon hC ?_ | with_reducible refine wpAny_loadPart_at hC ?_ | (with_reducible refine wpAny_isSubtype_exc hC ?_; first | rw [hcB] | rw [hcA] | rw [hcN]) | wp_step)
  show R _ _
  rw [Heap.size_push]
  exact hq
theorem tcallK (F : ExcBaseFacts B newId initId bmB) (hT : ∀ X : String, bm.contains (.type X) = bmB.contains (.type X)) {rest : List Value} {fI : Addr} {Q : Fin → Shared → Prop}
    (hC : h.get? C = some (excClassObj nm q C N bs bm hdct sn sub ab col dd k0 k1 k2 k3 k5 newId))
    (hi : W.Looks (model prog w) h (typeLookup (.ref C) "__init__") (some (.ref fI))) (hb : ∀ self, W.Looks (model prog w) h (bindSpecial (.ref fI) self) (.ref fI, [self])) (hrest : rest.length ≤ sizeLine)
    (hq : codeAny (model prog w) A (.call (.ref fI) ⟨.ref (h.objs.size + 1) :: rest, kw⟩)
      (fun r s' => match r with | .ok (.ret v) => v = .none ∧ Q (.done (.ret (.ref (h.objs.size + 1)))) s' | .ok _ => False | .error e => E e s')
      ⟨(h.push (W.kdv_tup rest)).push (excO C h.objs.size), g, d, t, os⟩) :
    wpAny (model prog w) A (Builtin.«type.__call__» ⟨.ref C :: rest, kw⟩) Q E ⟨h, g, d, t, os⟩ := by
  repeat (first | with_reducible refine wpAny_loadPart_at hC ?_ | with_reducible refine wpAny_madeBy_exc hC ?_ | wp_step)
  refine codeAny_call_builtin_code (Code.quiet_builtin _ F.quiet) (chk_newK F hT hC ?_)
  refine newK F hT hC ?_ hrest
  show wpAny _ _ _ _ _ _
  have k : ∀ b o, h.get? b = some o → ((h.push (W.kdv_tup rest)).push (excO C h.objs.size)).get? b = some o := fun b o e => Heap.get?_push_of_some _ (Heap.get?_push_of_some _ e)
  have hC₁ := k _ _ hC
  have hget : ((h.push (W.kdv_tup rest)).push (excO C h.objs.size)).get? (h.objs.size + 1) = some (excO C h.objs.size) := by heap_get
  have hcC : (Value.ref C :: bm).contains (.ref C) = true := by simp
  have i1 := hi.keeps k
  have b1 := (hb (.ref (h.objs.size + 1))).keeps k
  unfold isInstance
  repeat (first | with_reducible refine wpAny_loadPart_at hget ?_ | (with_reducible refine wpAny_isSubtype_exc hC₁ ?_; rw [hcC]) | wp_step)
  show wpAny _ _ (typeLookup (.ref C) _) _ _ _
  refine i1.at ?_
  refine wpAny_holding (wpAny_bind (b1.at ?_))
  refine wpAny_bind (wpAny_call (codeAny_mono hq fun r s' z => ?_))
  rcases r with e | (v | _ | _ | _) <;> first | exact z | exact z.elim | skip
  obtain ⟨rfl, z⟩ := z
  first
    | exact wpAny_pure (wpAny_pure z)
    | (wp_walk; exact z)
theorem chk_tcallK {M : Model} {rest : List Value} {Q : Unit → Shared → Prop} (hC : h.get? C = some (excClassObj nm q C N bs bm hdct sn sub ab col dd k0 k1 k2 k3 k5 newId))
    (hq : Q () ⟨h, g, d, t, os⟩) : wpAny M A (checkBuiltinCall "type.__call__" ⟨.ref C :: rest, kw⟩) Q E ⟨h, g, d, t, os⟩ := by
  have f3 := tc_sub
  have hT : (⟨h, g, d, t, os⟩ : Shared).TypeIs (.ref C) "type" := ⟨_, hC, rfl⟩
  simp only [checkBuiltinCall, tc_kind, tc_split]
  repeat (any_goals (first | assumption | with_reducible refine wpAny_loadPart_at hC ?_ | with_reducible refine wpAny_onRaise ?_ | with_reducible refine wpAny_map ?_ | wp_step))
theorem call_ownK (F : ExcBaseFacts B newId initId bmB) (hT : ∀ X : String, bm.contains (.type X) = bmB.contains (.type X)) {rest : List Value} {fI : Addr}
    (hC : h.get? C = some (excClassObj nm q C N bs bm hdct sn sub ab col dd k0 k1 k2 k3 k5 newId))
    (hi : W.Looks (model prog w) h (typeLookup (.ref C) "__init__") (some (.ref fI))) (hb : ∀ self, W.Looks (model prog w) h (bindSpecial (.ref fI) self) (.ref fI, [self])) (hrest : rest.length ≤ sizeLine)
    (hq : codeAny (model prog w) (A.under (.builtin "type.__call__" ⟨.ref C :: rest, kw⟩)) (.call (.ref fI) ⟨.ref (h.objs.size + 1) :: rest, kw⟩) (W.InitBack (h.objs.size + 1) R)
      ⟨(h.push (W.kdv_tup rest)).push (excO C h.objs.size), g, d, t, os⟩) :
    codeAny (model prog w) A (.call (.ref C) ⟨rest, kw⟩) R ⟨h, g, d, t, os⟩ := by
  have f1 := tc_lookup
  have f2 := tc_bind (.ref C)
  have hTy : (⟨h, g, d, t, os⟩ : Shared).TypeIs (.ref C) "type" := ⟨_, hC, rfl⟩
  refine codeAny_of_tree ?_
  show wpAny _ _ (callAny (.ref C) _) _ _ _
  repeat (any_goals (first | assumption | with_reducible refine wpAny_loadPart_at hC ?_ | wp_step))
  refine ⟨rfl, ?_⟩
  refine codeAny_call_builtin_at (Code.quiet_builtin _ (by decide +kernel)) entry_typeCall (chk_tcallK hC (tcallK F hT hC hi hb hrest ?_))
  refine codeAny_mono hq fun r s' z => ?_
  rcases r with e | (v | _ | _ | _) <;> exact z
end
end SH
namespace SH
open PySem PySem.Spec PyProof.Rows L2
/-- the text of such an __init__, called by keyword -/
structure IniK (st : Stmt) (v : Str) : Prop where
  bd : ∀ (kV doc pm : Value) (an : Option Addr) (cd ct : Value) (q : Str) (cc : Addr) (x u : Value), bindArgs (PySem.W.ksFn "__init__" q (defArgs st) (defBody st) (defScope st) .none kV doc pm an cd ct cc) ⟨[x], [(v, u)]⟩ = pure ([(("self" : Str), x), (v, u)] : List (Str × Value))
section
open PySem.W
variable {X : Cx} {pins : List (Addr × Obj)} {σ : L2.St} {H1 : Hp} {C : Addr} {q f v m x : Str} {st : Stmt} {u : Value} {y : V} {p pos : Pos} {e : Expr} {ta : TA}
theorem make_iniK {R : Result → Shared → Prop} {hp : Heap} {g : Array GenState} {d : Drawn} {tk : Nat} {os : OsState} (I : Inv X pins σ H1 ⟨hp, g, d, tk, os⟩) (T : IniC X.prog X.K C q st f) (Z : IniT st f v m) (Zk : IniK st v) (ms : X.mg "super" = none) (room : Room 1 X.A)
    (h : ∀ h' a dx t1 tk', (∀ b o, hp.get? b = some o → h'.get? b = some o) → hp.objs.size ≤ a → hp.objs.size ≤ dx → dx ≠ a → h'.get? a = some ({ cls := .ref C, dict := some dx, data := .fields #[.ref t1, .none, .none, .none, .bool false, .none] } : Obj) →
      h'.Ns1 dx (fun z => if z = f then some u else none) → R (.ok (.ret (.ref a))) ⟨h', g, d, tk', os⟩) : codeAny (model X.prog X.w) X.A (.call (.ref C) ⟨[], [(v, u)]⟩) R ⟨hp, g, d, tk, os⟩ := by
  obtain ⟨nm, qq, N, bs, bm, sn, sub, ab, col, dd, k0, k1, k2, k3, k5, lC, hbm⟩ := T.o.cls
  obtain ⟨fI, cda, cc, oc, cl, ccl, od, cld, cdd, osl, csl, ccs, vs, file, tf, kV, doc, pm, ct, an, lf, hcd, lc, hvs, hfile, lcc, hi, ti⟩ := T.fx
  have up : ∀ b o, hp.get? b = some o → ((hp.push (kdv_tup [])).push (HandSPX.excO C hp.objs.size)).get? b = some o := fun b o z => Heap.get?_push_of_some _ (Heap.get?_push_of_some _ z)
  have at_ : ((hp.push (kdv_tup [])).push (HandSPX.excO C hp.objs.size)).get? (hp.objs.size + 1) = some (HandSPX.excO C hp.objs.size) := by heap_get
  have KX := I.kIn
  refine call_ownK F.excBase_ValueError (fun Y => HandSPX.refsVE_contains Y bm hbm) (KX _ _ lC) (looks_findIn KX hi) (fun self => bind_fn KX self ti) (by rw [sizeLine_eq]; show 0 ≤ _; omega) ?_
  refine ini_rawA (base := X.base) (mg := X.mg) T Z I.ok.mod (fun b o z => up b o (I.bk b o z)) ms ?_ at_ ?_ fI hi (fun _ _ _ _ _ _ _ _ => Zk.bd _ _ _ _ _ _ _ _ _ _) (fun h' dx t1 tk' k dn dne ha hn => ?_)
  · have := (room.make C [] [(v, u)]).dp
    omega
  · cases z : X.base.get? (hp.objs.size + 1) with
    | none => rfl
    | some o => exact absurd (Heap.lt_size (I.bk _ _ z)) (by show ¬ (hp.objs.size + 1 < hp.objs.size); omega)
  · have sz : hp.objs.size ≤ ((hp.push (kdv_tup [])).push (HandSPX.excO C hp.objs.size)).objs.size := by rw [Heap.size_push, Heap.size_push]; omega
    exact ⟨rfl, h h' _ dx t1 tk' (fun b o z => k b o (Nat.ne_of_lt (Nat.lt_succ_of_lt (Heap.lt_size z))) (up b o z)) (Nat.le_succ _) (Nat.le_trans sz dn) dne ha hn⟩
/-- C(f=e), as a value -/
theorem pe_iniK {kw : Keyword} (T : IniC X.prog X.K C q st f) (Z : IniT st f v m) (Zk : IniK st v) (ms : X.mg "super" = none) (room : Room 1 X.A) (gC : X.mg x = some (.ref C)) (hg : Gl X x) (hk : PK X [kw] ta)
    (hall : (backToKw pos (keywordEach [kw] X.env)).all (·.1.isSome) = true := by rfl) (hks : (backToKw pos (keywordEach [kw] X.env)).filterMap (·.1) = [v] := by rfl)
    (hdb : (x == ("__debug__" : Str)) = false := by decide) (hpl : ((backTo pos (starEach [] X.env)).any (·.1) || (backToKw pos (keywordEach [kw] X.env)).any (·.1.isNone)) = false := by rfl) :
    PE X (.Call (.Name x p) [] [kw] pos) (fun σ H Q => ta σ H fun vs H1 => ∃ y, vs = [y] ∧ ∀ a dx, H1 dx = none → H1 a = none → dx ≠ a → Q (.ref a) (upd (upd H1 dx (.xd [(f, y)])) a (ErO (.ref C) (some dx) a))) := by
  refine ⟨fun pins s σ H Q I h => wpAny_Call_Name_kw (ld_glob I hg gC (callWith_KW0 (h₀ := X.base) I.ok.mod.kin T.o.kC hall (thn (hk.run pos pins s σ H _ I h) fun us s1 hh => ?_) hpl) hdb)⟩
  obtain ⟨vs, H1, I1, r1, y, rfl, hq⟩ := hh
  obtain ⟨u, rfl, ry⟩ : ∃ u, us = [u] ∧ RelV y u := by
    cases r1 with
    | cons r rr => cases rr; exact ⟨_, rfl, r⟩
  refine ⟨I1.kIn, ?_⟩
  rw [hks]
  show wpAny _ _ (call (.ref C) [] [(v, u)]) _ _ _
  obtain ⟨hp, g, d, tk, os⟩ := s1
  refine wpAny_call (make_iniK I1 T Z Zk ms room fun h' a dx t1 tk' k an dn dne he hn => ?_)
  obtain ⟨G, gs, ga, gk, J⟩ := make_end (tk' := tk') I1 k an dn dne hn ry
  have na : upd H1 dx (.xd [(f, y)]) a = none := by rw [upd_ne (Ne.symm dne)]; exact I1.hok.fresh an
  have J2 := J.laidN (t' := tk') (a := a) (o := ErO (.ref C) (some dx) a) gs ga na (erO_mk he ⟨rfl, rfl⟩ rfl)
  exact ⟨.ref a, _, J2, rfl, hq a dx (I1.hok.fresh dn) (I1.hok.fresh an) dne⟩
/-- C(e) of a class without own __init__, as a value -/
theorem pe_own (Er : Err X.K X.mg x C) (hg : Gl X x) (ha : PA X [e] ta)
    (hdb : (x == ("__debug__" : Str)) = false := by decide) (hst : starEach [e] X.env = (false, eval e X.env) :: starEach [] X.env := by rfl) (hpl : (backTo pos (starEach [] X.env)).any (·.1) = false := by rfl) :
    PE X (.Call (.Name x p) [e] [] pos) (fun σ H Q => ta σ H fun vs H1 => ∃ y, vs = [y] ∧ ∀ a, H1 a = none → Q (.ref a) (upd H1 a (ErO (.ref C) none a))) := by
  refine ⟨fun pins s σ H Q I h => wpAny_Call_Name_kw (ld_glob I hg Er.g (callWith_K (h₀ := X.base) I.ok.mod.kin Er.k (thn (ha.run pos pins s σ H _ I h) fun us s1 hh => ?_) hst hpl) hdb)⟩
  obtain ⟨vs, H1, I1, r1, y, rfl, hq⟩ := hh
  obtain ⟨u, rfl, ry⟩ : ∃ u, us = [u] ∧ RelV y u := by
    cases r1 with
    | cons r rr => cases rr; exact ⟨_, rfl, r⟩
  refine ⟨I1.kIn, ?_⟩
  show wpAny _ _ (call (.ref C) [u]) _ _ _
  obtain ⟨hp, g, d, tk, os⟩ := s1
  obtain ⟨bm, N, nm, qn, bs, hdct, sn, sub, ab, col, dd, k0, k1, k2, k3, k5, mN, hC, hN, hni, T⟩ := exc_obj I1.kIn Er.q
  refine wpAny_call_exc_subT F.excBase_ValueError T hC hN hni (fun h' a hm => ?_) (by show 1 ≤ sizeLine; rw [sizeLine_eq]; omega)
  obtain ⟨t, he, _, _⟩ := hm.there
  have J := I1.laidN (t' := tk) (o := ErO (.ref C) none a) hm.keeps hm.new (I1.hok.gone hm.new) (erO_mk he ⟨rfl, rfl⟩ rfl)
  exact ⟨.ref a, _, J, rfl, hq a (I1.hok.gone hm.new)⟩
end
theorem foldl_size {α : Type} (x : Array α) : ∀ (m : Nat) (acc : Array α), (List.foldl (fun x1 x2 => x1 ++ x2) acc (List.replicate m x)).size = acc.size + m * x.size
  | 0, acc => by rw [Nat.zero_mul]; rfl
  | m + 1, acc => by
    rw [List.replicate_succ, List.foldl_cons, foldl_size x m, Array.size_append, Nat.succ_mul]
    omega
/-- xs[i] as it is read for xs[i] += .. -/
theorem get_list {X : Cx} : PGet X (rIxL X.K) := by
  intro pins s σ H x y v u Q I rx ry h
  obtain ⟨p, xs, i, z, rfl, rfl, hq, he, q⟩ := h
  cases rx
  obtain ⟨t, rfl⟩ := ry
  obtain ⟨its, r, pl, hz⟩ := I.list hq
  obtain ⟨j, h1, h2, h3, h4, h5⟩ := atI_get he
  obtain ⟨w, ew, rw'⟩ := r.get h2
  have hl := r.length
  have hn := line63
  have fin : EP X pins σ Q w s := ⟨z, H, I, rw', q⟩
  by_cases h0 : 0 ≤ i
  · have hj : i.toNat = j := by
      rw [seqIndex_of h0 h5] at h1
      exact Option.some.inj h1
    exact wpAny_getItem_list pl.isList h0 (by omega) (by rw [hj]; simpa using ew) fin
  · have hj : (i + (its.toArray.size : Int)).toNat = j := by
      rw [seqIndex_neg (by omega) h4] at h1
      rw [List.size_toArray, ← hl]
      exact Option.some.inj h1
    exact wpAny_getItem_list_neg pl.isList (by omega) (by rw [List.size_toArray] <;> omega) (by omega) (by rw [hj]; simpa using ew) fin
/-- s * n: a text, whichever -/
theorem op_repStr {X : Cx} : OpR X (binaryOp .Mult) (fun x y H Q => ∃ (z : Str) (n : Int), x = .str z ∧ y = .int n ∧ 0 ≤ n ∧ n ≤ 1000 ∧ z.length ≤ 1000 ∧ ∀ r : Str, Q (.str r) H) := by
  intro pins s σ H x y v u Q I rx ry h
  obtain ⟨z, n, rfl, rfl, n0, n1, zl, q⟩ := h
  obtain ⟨t, rfl⟩ := rx
  obtain ⟨t', rfl⟩ := ry
  have hm : z.length * n.toNat ≤ 1000 * 1000 := Nat.mul_le_mul zl (by omega)
  have hs : (1000 * 1000 : Nat) ≤ sizeLine := by decide
  have hc : Builtin.Str.tooLong (z.length * n.toNat) = false := by
    unfold Builtin.Str.tooLong
    exact decide_eq_false (by omega)
  refine PySem.P.mul_str (by rw [decide_eq_false (by omega), decide_eq_false (by omega)]; rfl) (fun h1 _ => ?_) (fun h1 _ => hc) ?_
  · have : (1000 : Int) ≤ (2 ^ 63 - 1) / n := by
      refine Int.le_ediv_of_mul_le (by omega) ?_
      omega
    omega
  · by_cases c : n < 1
    · rw [if_pos c]
      exact ⟨by decide, ⟨.str _, H, I.tok _, ⟨_, rfl⟩, q _⟩⟩
    · rw [if_neg c]
      by_cases c2 : (n == 1 || z.length == 0) = true
      · rw [if_pos c2]
        exact ⟨.str _, H, I.tok _, ⟨_, rfl⟩, q _⟩
      · rw [if_neg c2]
        refine ⟨?_, ⟨.str _, H, I.tok _, ⟨_, rfl⟩, q _⟩⟩
        show (List.foldl (fun x1 x2 => x1 ++ x2) #[] (List.replicate n.toNat z.cps)).size ≤ sizeLine
        rw [foldl_size, Array.size_empty, Nat.zero_add, Nat.mul_comm]
        exact Nat.le_trans hm hs
end SH

set_option maxHeartbeats 2000000
/-! SH23: list(zip(a, b)): a new list of fresh pairs. -/
namespace SH
open PySem PySem.W
/-- a zip whose tuple is out at T -/
abbrev ZipO (h : Heap) (z TI TO T : Addr) (f : Bool) : Prop :=
  h.get? z = some { cls := .type "zip", dict := none, data := .fields #[rawInt T, .bool f, .bool false, .ref TI, .ref TO], slots := #[] }
section
variable {prog : Program} {w : World} {A : Around} {E : Value → Shared → Prop} {s : Shared}
theorem zo_busy {z TI TO T : Addr} {f : Bool} {oT : Obj} {Q : Bool → Shared → Prop} (hz : ZipO s.heap z TI TO T f) (hT : s.heap.get? T = some oT)
    (hQ : ∀ h', ZipO h' z TI TO T true → Heap.SameBut z s.heap h' → Q false { s with heap := h' }) : wpAny (model prog w) A (Builtin.SmallTypes.ownedTupleIsFree (.ref z)) Q E s := by
  unfold Builtin.SmallTypes.ownedTupleIsFree
  refine wpAny_bind (wpAny_field hz rfl (x := rawInt T) rfl ?_)
  show wpAny _ _ (loadIfAlive ((T : Int).toNat) >>= _) _ _ _
  rw [Int.toNat_natCast]
  refine wpAny_bind (kdx_alive hT ?_)
  simp only [Option.isNone_some, Bool.false_eq_true, if_false]
  refine wpAny_bind (wpAny_field hz rfl (x := .bool f) rfl ?_)
  cases f with
  | true =>
    rw [if_neg (show ¬ ((Value.bool true != Value.bool true) = true) from Bool.false_ne_true)]
    exact wpAny_pure (hQ _ hz (Heap.SameBut.refl _ _))
  | false =>
    rw [if_pos (show (Value.bool false != Value.bool true) = true from rfl)]
    exact wpAny_bind (wpAny_setField_rec hz (by simp) fun h₃ hz₃ hs₃ => wpAny_pure (hQ h₃ hz₃ hs₃))
theorem zo_item {z TI TO i1 i2 l1 l2 T : Addr} {f : Bool} {oT : Obj} {k1 k2 : Nat} {xs ys : Array Value} {x y : Value} {Q : Option Value → Shared → Prop} (D : ZipApart z TI TO i1 i2 l1 l2)
    (hz : ZipO s.heap z TI TO T f) (hT : s.heap.get? T = some oT) (hTI : IsPair s.heap TI (.ref i1) (.ref i2))
    (h1 : s.heap.IsListIter i1 l1 k1) (h2 : s.heap.IsListIter i2 l2 k2) (hl1 : s.heap.IsList l1 xs) (hl2 : s.heap.IsList l2 ys) (hx : xs[k1]? = some x) (hy : ys[k2]? = some y)
    (hQ : ∀ h', ZipO h' z TI TO T true → h'.IsListIter i1 l1 (k1 + 1) → h'.IsListIter i2 l2 (k2 + 1) → IsPair h' s.heap.objs.size x y → h'.objs.size = s.heap.objs.size + 1 →
      (∀ c o, c ≠ z → c ≠ i1 → c ≠ i2 → s.heap.get? c = some o → h'.get? c = some o) → Q (some (.ref s.heap.objs.size)) { s with heap := h' }) :
    wpAny (model prog w) A (pyNext (.ref z)) Q E s := by
  have hTy : s.TypeIs (.ref z) "zip" := ⟨_, hz, rfl⟩
  unfold pyNext
  refine wpAny_bind (wpAny_attempt (wpAny_callSpecial?_slot (name := Str.ofString "__next__") hTy F.slot_zip_next (wpAny_call_entry F.slot_zip_next hTy F.entry_zip_next ?_ (F.args_zip_next_1 _))))
  show wpAny _ _ (field (.ref z) 2 >>= _) _ _ _
  refine wpAny_bind (wpAny_field hz rfl (x := .bool false) rfl ?_)
  show wpAny _ _ (field (.ref z) 3 >>= _) _ _ _
  refine wpAny_bind (wpAny_field hz rfl (x := .ref TI) rfl ?_)
  refine wpAny_bind (wpAny_seqItems hTI rfl ?_)
  show wpAny _ _ (Builtin.SmallTypes.ownedTupleIsFree (.ref z) >>= _) _ _ _
  refine wpAny_bind (zo_busy hz hT fun h₁ hz₁ hs₁ => ?_)
  simp only [Bool.false_eq_true, if_false]
  refine wpAny_bind ?_
  simp only [List.forIn_toArray, List.forIn_cons, List.forIn_nil]
  refine wpAny_bind (wpAny_bind (wpAny_holding ?_))
  show wpAny _ _ (Builtin.SmallTypes.nextOf (.ref i1) >>= _) _ _ _
  refine wpAny_bind (wpAny_nextOf_list_item (h1.extBut hs₁.extBut D.i1z) (hl1.extBut hs₁.extBut D.l1z) hx fun h₂ h1₂ hs₂ => wpAny_pure ?_)
  refine wpAny_pure ?_
  refine wpAny_bind (wpAny_bind (wpAny_holding ?_))
  show wpAny _ _ (Builtin.SmallTypes.nextOf (.ref i2) >>= _) _ _ _
  refine wpAny_bind (wpAny_nextOf_list_item ((h2.extBut hs₁.extBut D.i2z).extBut hs₂.extBut D.i12.symm)
    ((hl2.extBut hs₁.extBut D.l2z).extBut hs₂.extBut D.l2i1) hy fun h₄ h2₄ hs₄ => wpAny_pure ?_)
  refine wpAny_pure (wpAny_pure ?_)
  refine wpAny_bind (wpAny_newTuple (hsz := (by show (2 : Nat) ≤ sizeLine; decide)) ?_)
  have hsz : h₄.objs.size = s.heap.objs.size := by rw [hs₄.1, hs₂.1, hs₁.1]
  have hz₄ : ZipO h₄ z TI TO T true := hs₄.extBut _ _ D.i2z.symm (hs₂.extBut _ _ D.i1z.symm hz₁)
  have hk₄ : ∀ c o, c ≠ z → c ≠ i1 → c ≠ i2 → s.heap.get? c = some o → h₄.get? c = some o := fun c o c1 c3 c4 e => hs₄.extBut _ _ c4 (hs₂.extBut _ _ c3 (hs₁.extBut _ _ c1 e))
  have h1₄ : h₄.IsListIter i1 l1 (k1 + 1) := h1₂.extBut hs₄.extBut D.i12
  refine wpAny_pure ⟨_, rfl, wpAny_pure ?_⟩
  rw [hsz]
  exact hQ _ (Heap.get?_push_of_some _ hz₄) (h1₄.at fun o e => Heap.get?_push_of_some _ e) (h2₄.at fun o e => Heap.get?_push_of_some _ e) (by rw [← hsz]; exact Heap.get?_push_size _ rfl) (by rw [Heap.size_push, hsz]) fun c o c1 c3 c4 e => Heap.get?_push_of_some _ (hk₄ c o c1 c3 c4 e)
theorem zo_end {z TI TO i1 i2 l1 l2 T : Addr} {f : Bool} {oT : Obj} {k1 k2 : Nat} {xs ys : Array Value} {Q : Option Value → Shared → Prop} (hh : A.handled = none) (D : ZipApart z TI TO i1 i2 l1 l2)
    (hz : ZipO s.heap z TI TO T f) (hT : s.heap.get? T = some oT) (hTI : IsPair s.heap TI (.ref i1) (.ref i2))
    (h1 : s.heap.IsListIter i1 l1 k1) (h2 : s.heap.IsListIter i2 l2 k2) (hl1 : s.heap.IsList l1 xs) (hl2 : s.heap.IsList l2 ys) (hend : xs[k1]? = none ∨ ys[k2]? = none)
    (hQ : ∀ h', (∀ c o, c ≠ z → c ≠ i1 → c ≠ i2 → s.heap.get? c = some o → h'.get? c = some o) → Q none { s with heap := h' }) :
    wpAny (model prog w) A (pyNext (.ref z)) Q E s := by
  have hTy : s.TypeIs (.ref z) "zip" := ⟨_, hz, rfl⟩
  unfold pyNext
  refine wpAny_bind (wpAny_attempt (wpAny_callSpecial?_slot (name := Str.ofString "__next__") hTy F.slot_zip_next (wpAny_call_entry F.slot_zip_next hTy F.entry_zip_next ?_ (F.args_zip_next_1 _))))
  have fin : ∀ h' e, (∀ c o, c ≠ z → c ≠ i1 → c ≠ i2 → s.heap.get? c = some o → h'.get? c = some o) → (∃ o, h'.get? e = some o ∧ o.cls = .type "StopIteration") →
      wpAny (model prog w) A (isInstance (.ref e) (.type "StopIteration") >>= fun b => if b = true then pure none else throw (.ref e)) Q E { s with heap := h' } := fun h' e hk he => by
    obtain ⟨o, ho, hc⟩ := he
    refine wpAny_bind (wpAny_isInstance (T := "StopIteration") (b := true) ⟨o, ho, hc⟩ isSubtype_stop ?_)
    exact wpAny_pure (hQ _ hk)
  show wpAny _ _ (field (.ref z) 2 >>= _) _ _ _
  refine wpAny_bind (wpAny_field hz rfl (x := .bool false) rfl ?_)
  show wpAny _ _ (field (.ref z) 3 >>= _) _ _ _
  refine wpAny_bind (wpAny_field hz rfl (x := .ref TI) rfl ?_)
  refine wpAny_bind (wpAny_seqItems hTI rfl ?_)
  show wpAny _ _ (Builtin.SmallTypes.ownedTupleIsFree (.ref z) >>= _) _ _ _
  refine wpAny_bind (zo_busy hz hT fun h₁ hz₁ hs₁ => ?_)
  simp only [Bool.false_eq_true, if_false]
  refine wpAny_bind ?_
  simp only [List.forIn_toArray, List.forIn_cons, List.forIn_nil]
  refine wpAny_bind (wpAny_bind (wpAny_holding ?_))
  show wpAny _ _ (Builtin.SmallTypes.nextOf (.ref i1) >>= _) _ _ _
  cases hx : xs[k1]? with
  | none =>
    refine wpAny_bind (wpAny_nextOf_list_end hh (h1.extBut hs₁.extBut D.i1z) (hl1.extBut hs₁.extBut D.l1z) hx fun h₂ e hs₂ he => ?_)
    exact fin h₂ e (fun c o c1 c3 _ x => hs₂ _ _ c3 (hs₁.extBut _ _ c1 x)) he
  | some x =>
    have hy : ys[k2]? = none := by rcases hend with h | h; rw [hx] at h; cases h; exact h
    refine wpAny_bind (wpAny_nextOf_list_item (h1.extBut hs₁.extBut D.i1z) (hl1.extBut hs₁.extBut D.l1z) hx fun h₂ h1₂ hs₂ => wpAny_pure ?_)
    refine wpAny_pure ?_
    refine wpAny_bind (wpAny_bind (wpAny_holding ?_))
    show wpAny _ _ (Builtin.SmallTypes.nextOf (.ref i2) >>= _) _ _ _
    refine wpAny_bind (wpAny_nextOf_list_end hh ((h2.extBut hs₁.extBut D.i2z).extBut hs₂.extBut D.i12.symm) ((hl2.extBut hs₁.extBut D.l2z).extBut hs₂.extBut D.l2i1) hy fun h₄ e hs₄ he => ?_)
    exact fin h₄ e (fun c o c1 c3 c4 x => hs₄ _ _ c4 (hs₂.extBut _ _ c3 (hs₁.extBut _ _ c1 x))) he
/-- a zip in the course of a list's making: i turns are done, the list is at S -/
structure Zst (h : Heap) (z TI TO i1 i2 l1 l2 : Addr) (xs ys : Array Value) (i : Nat) (S : Addr) : Prop where
  ti : IsPair h TI (.ref i1) (.ref i2)
  to : ∃ a b, IsPair h TO a b
  h1 : h.IsListIter i1 l1 i
  h2 : h.IsListIter i2 l2 i
  hl1 : h.IsList l1 xs
  hl2 : h.IsList l2 ys
  z0 : IsZip h z TI TO .none ∨ ∃ T f oT, ZipO h z TI TO T f ∧ h.get? T = some oT ∧ S < T
/-- where these stand: below the list -/
structure Zlt (z TI TO i1 i2 l1 l2 S : Addr) : Prop where
  z : z < S
  ti : TI < S
  to : TO < S
  i1 : i1 < S
  i2 : i2 < S
  l1 : l1 < S
  l2 : l2 < S
theorem Zst.keep {h h' : Heap} {z TI TO i1 i2 l1 l2 S : Addr} {xs ys : Array Value} {i : Nat} (x : Zst h z TI TO i1 i2 l1 l2 xs ys i S) (L : Zlt z TI TO i1 i2 l1 l2 S) (k : ∀ b o, b ≠ S → h.get? b = some o → h'.get? b = some o) : Zst h' z TI TO i1 i2 l1 l2 xs ys i S where
  ti := k _ _ (Nat.ne_of_lt L.ti) x.ti
  to := by obtain ⟨a, b, e⟩ := x.to; exact ⟨a, b, k _ _ (Nat.ne_of_lt L.to) e⟩
  h1 := x.h1.at fun o e => k _ o (Nat.ne_of_lt L.i1) e
  h2 := x.h2.at fun o e => k _ o (Nat.ne_of_lt L.i2) e
  hl1 := x.hl1.at fun o e => k _ o (Nat.ne_of_lt L.l1) e
  hl2 := x.hl2.at fun o e => k _ o (Nat.ne_of_lt L.l2) e
  z0 := by
    rcases x.z0 with e | ⟨T, f, oT, e, eT, l⟩
    · exact .inl (k _ _ (Nat.ne_of_lt L.z) e)
    · exact .inr ⟨T, f, oT, k _ _ (Nat.ne_of_lt L.z) e, k _ _ (Nat.ne_of_gt l) eT, l⟩
theorem zst_item {z TI TO i1 i2 l1 l2 S : Addr} {xs ys : Array Value} {i : Nat} {x y : Value} {Q : Option Value → Shared → Prop} (D : ZipApart z TI TO i1 i2 l1 l2) (L : Zlt z TI TO i1 i2 l1 l2 S) (st : Zst s.heap z TI TO i1 i2 l1 l2 xs ys i S)
    (hS : S < s.heap.objs.size) (hx : xs[i]? = some x) (hy : ys[i]? = some y)
    (hQ : ∀ h', Zst h' z TI TO i1 i2 l1 l2 xs ys (i + 1) S → IsPair h' s.heap.objs.size x y → h'.objs.size = s.heap.objs.size + 1 → (∀ c o, c ≠ z → c ≠ TO → c ≠ i1 → c ≠ i2 → s.heap.get? c = some o → h'.get? c = some o) → Q (some (.ref s.heap.objs.size)) { s with heap := h' }) :
    wpAny (model prog w) A (pyNext (.ref z)) Q E s := by
  obtain ⟨ti, ⟨a, b, to⟩, h1, h2, hl1, hl2, z0⟩ := st
  rcases z0 with hz | ⟨T, f, oT, hz, hT, lT⟩
  · refine wpAny_pyNext_zip_item D hz ti to h1 h2 hl1 hl2 hx hy fun h' a1 a2 a3 a4 a5 a6 k => ?_
    exact hQ h' ⟨k _ _ D.TIz D.TITO D.TIi1 D.TIi2 ti, ⟨_, _, a2⟩, a3, a4, hl1.at fun o e => k _ o D.l1z D.l1TO D.l1i1 D.l1i2 e, hl2.at fun o e => k _ o D.l2z D.l2TO D.l2i1 D.l2i2 e, .inr ⟨_, false, _, a1, a5, hS⟩⟩ a5 a6 k
  · refine zo_item D hz hT ti h1 h2 hl1 hl2 hx hy fun h' a1 a3 a4 a5 a6 k => ?_
    have nT : ∀ {c}, c < S → T ≠ c := fun l => Nat.ne_of_gt (Nat.lt_trans l lT)
    exact hQ h' ⟨k _ _ D.TIz D.TIi1 D.TIi2 ti, ⟨_, _, k _ _ D.TOz D.TOi1 D.TOi2 to⟩, a3, a4, hl1.at fun o e => k _ o D.l1z D.l1i1 D.l1i2 e, hl2.at fun o e => k _ o D.l2z D.l2i1 D.l2i2 e,
      .inr ⟨T, true, oT, a1, k _ _ (nT L.z) (nT L.i1) (nT L.i2) hT, lT⟩⟩ a5 a6 fun c o c1 _ c3 c4 e => k c o c1 c3 c4 e
theorem zst_done {z TI TO i1 i2 l1 l2 S : Addr} {xs ys : Array Value} {i : Nat} {Q : Option Value → Shared → Prop} (hh : A.handled = none) (D : ZipApart z TI TO i1 i2 l1 l2) (st : Zst s.heap z TI TO i1 i2 l1 l2 xs ys i S) (hend : xs[i]? = none ∨ ys[i]? = none)
    (hQ : ∀ h', (∀ c o, c ≠ z → c ≠ TO → c ≠ i1 → c ≠ i2 → s.heap.get? c = some o → h'.get? c = some o) → Q none { s with heap := h' }) : wpAny (model prog w) A (pyNext (.ref z)) Q E s := by
  obtain ⟨ti, ⟨a, b, to⟩, h1, h2, hl1, hl2, z0⟩ := st
  rcases z0 with hz | ⟨T, f, oT, hz, hT, lT⟩
  · exact wpAny_pyNext_zip_end hh D hz ti to h1 h2 hl1 hl2 hend hQ
  · exact zo_end hh D hz hT ti h1 h2 hl1 hl2 hend fun h' k => hQ h' fun c o c1 _ c3 c4 e => k c o c1 c3 c4 e
/-- the pairs that were made -/
structure MadeZ (xs ys : Array Value) (lo : Addr) (h : Heap) (as : List Addr) : Prop where
  rise : as.Pairwise (· < ·)
  above : ∀ a ∈ as, lo < a
  pairs : ∀ (j : Nat) (a : Addr), as[j]? = some a → ∃ x y, xs[j]? = some x ∧ ys[j]? = some y ∧ IsPair h a x y
theorem MadeZ.there {xs ys : Array Value} {lo : Addr} {h : Heap} {as : List Addr} (g : MadeZ xs ys lo h as) {a : Addr} (ha : a ∈ as) : a < h.objs.size := by
  obtain ⟨j, hj⟩ := List.mem_iff_getElem?.mp ha
  obtain ⟨_, _, _, _, e⟩ := g.pairs j a hj
  exact Heap.lt_size e
end
section
variable {prog : Program} {w : World} {A : Around} {s : Shared} {R : Result → Shared → Prop} {xs ys : Array Value}
theorem zst_loop {z TI TO i1 i2 l1 l2 S : Addr} (hh : A.handled = none) (D : ZipApart z TI TO i1 i2 l1 l2) (L : Zlt z TI TO i1 i2 l1 l2 S) (hn : min xs.size ys.size ≤ sizeLine) (res : Value) {h₁ : Heap}
    (hR : ∀ h' tk acc c as, (∀ b o, b ≠ S → b ≠ z → b ≠ TO → b ≠ i1 → b ≠ i2 → h₁.get? b = some o → h'.get? b = some o) → h'.get? S = some { cls := .type "list", dict := none, data := .seq acc c, slots := #[] } → as.length = min xs.size ys.size → MadeZ xs ys S h' as →
      acc.toList = as.map Value.ref → R (.ok (.ret res)) { s with heap := h', toks := tk }) :
    ∀ (k i : Nat) (h : Heap) (tk c : Nat) (acc : Array Value) (as : List Addr), min xs.size ys.size - i = k → i ≤ min xs.size ys.size → Zst h z TI TO i1 i2 l1 l2 xs ys i S → (∀ b o, b ≠ S → b ≠ z → b ≠ TO → b ≠ i1 → b ≠ i2 → h₁.get? b = some o → h.get? b = some o) →
      h.get? S = some { cls := .type "list", dict := none, data := .seq acc c, slots := #[] } → acc.toList = as.map Value.ref → as.length = i → MadeZ xs ys S h as →
      codeAny (model prog w) A (.builtin "list.extend.loop" ⟨[.ref S, .ref z, res], []⟩) R { s with heap := h, toks := tk } := by
  have nS : ∀ {c : Addr}, c < S → S ≠ c := fun l => Nat.ne_of_gt l
  intro k
  induction k with
  | zero =>
    intro i h tk c acc as hk hi hst hkeep hS hacc hal hG
    refine codeAny_builtin PySem.F.entry_extend_loop ?_
    rw [Around.under_plainId PySem.F.plain_extend_loop _]
    show wpAny _ A.in1 (pyNext (.ref z) >>= _) _ _ _
    have hend : xs[i]? = none ∨ ys[i]? = none := by
      rcases Nat.le_total xs.size ys.size with h | h
      · exact .inl (Array.getElem?_eq_none (by omega))
      · exact .inr (Array.getElem?_eq_none (by omega))
    refine wpAny_bind (zst_done (s := { s with heap := h, toks := tk }) (A := A.in1) hh D hst hend fun h' he => ?_)
    refine wpAny_pure (hR h' tk acc c as (fun b o h1 h2 h3 h4 h5 e => he b o h2 h3 h4 h5 (hkeep b o h1 h2 h3 h4 h5 e)) (he S _ (nS L.z) (nS L.to) (nS L.i1) (nS L.i2) hS) (by omega) ⟨hG.rise, hG.above, fun j a hj => ?_⟩ hacc)
    obtain ⟨x, y, e1, e2, e3⟩ := hG.pairs j a hj
    have la := hG.above a (List.mem_of_getElem? hj)
    have na : ∀ {c : Addr}, c < S → a ≠ c := fun l => Nat.ne_of_gt (Nat.lt_trans l la)
    exact ⟨x, y, e1, e2, he a _ (na L.z) (na L.to) (na L.i1) (na L.i2) e3⟩
  | succ k ih =>
    intro i h tk c acc as hk hi hst hkeep hS hacc hal hG
    have hlt : i < min xs.size ys.size := by omega
    have hsz : acc.size = i := by rw [← Array.length_toList, hacc, List.length_map, hal]
    have hix : i < xs.size := by omega
    have hiy : i < ys.size := by omega
    have hSl : S < h.objs.size := Heap.lt_size hS
    refine codeAny_builtin PySem.F.entry_extend_loop ?_
    rw [Around.under_plainId PySem.F.plain_extend_loop _]
    show wpAny _ A.in1 (pyNext (.ref z) >>= _) _ _ _
    refine wpAny_bind (zst_item (s := { s with heap := h, toks := tk }) (S := S) D L hst hSl (Array.getElem?_eq_getElem hix) (Array.getElem?_eq_getElem hiy) fun h' hst' ht hz hkp => ?_)
    dsimp only at ht hz hkp ⊢
    have hS' := hkp S _ (nS L.z) (nS L.to) (nS L.i1) (nS L.i2) hS
    have up : ∀ b o, b ≠ S → h'.get? b = some o → (h'.update S (Obj.mapSeq (·.push (Value.ref h.objs.size)))).get? b = some o := fun b o hb e => (Heap.get?_update_other _ _ (Ne.symm hb)).trans e
    show wpAny _ A.in1 (updateSeq S (·.push (Value.ref h.objs.size)) >>= _) _ _ _
    refine wpAny_bind ?_
    refine wpAny_updateSeq hS' rfl (wpAny_pure ⟨plainId_quiet PySem.F.plain_extend_loop _, ih (i + 1) _ tk _ (acc.push (Value.ref h.objs.size)) (as ++ [h.objs.size]) (by omega) hlt (hst'.keep L up)
      (fun b o h1 h2 h3 h4 h5 e => up b o h1 (hkp b o h2 h3 h4 h5 (hkeep b o h1 h2 h3 h4 h5 e))) (Heap.get?_update_self _ hS' rfl) (by rw [Array.toList_push, hacc, List.map_append]; rfl) (by rw [List.length_append, hal]; rfl) ⟨?_, ?_, ?_⟩⟩) (by rw [hsz]; omega) (by show (acc.push (Value.ref h.objs.size)).size ≤ sizeLine + 1; rw [Array.size_push, hsz]; omega)
    · refine List.pairwise_append.mpr ⟨hG.rise, List.pairwise_singleton _ _, fun a ha b hb => ?_⟩
      rw [List.mem_singleton.mp hb]
      exact hG.there ha
    · intro a ha
      rcases List.mem_append.mp ha with ha | ha
      · exact hG.above a ha
      · rw [List.mem_singleton.mp ha]; exact hSl
    · intro j b hj
      rcases Nat.lt_trichotomy j as.length with h1 | h1 | h1
      · rw [List.getElem?_append_left h1] at hj
        obtain ⟨x, y, e1, e2, e3⟩ := hG.pairs j b hj
        have hb := hG.above b (List.mem_of_getElem? hj)
        have nb : ∀ {c : Addr}, c < S → b ≠ c := fun l => Nat.ne_of_gt (Nat.lt_trans l hb)
        exact ⟨x, y, e1, e2, up b _ (Nat.ne_of_gt hb) (hkp b _ (nb L.z) (nb L.to) (nb L.i1) (nb L.i2) e3)⟩
      · subst h1
        have hb : h.objs.size = b := by simpa using hj
        subst hb
        exact ⟨_, _, Array.getElem?_eq_getElem (by omega), Array.getElem?_eq_getElem (by omega), up _ _ (Nat.ne_of_gt hSl) (by subst hal; exact ht)⟩
      · have hnone : (as ++ [h.objs.size])[j]? = none := List.getElem?_eq_none (by rw [List.length_append, List.length_singleton]; omega)
        rw [hnone] at hj; cases hj
theorem zip_no_len : typeLookup (.type "zip") "__len__" = pure none := by rw [typeLookup_type, builtinLookup_eq_fast]; kernel_rfl
theorem zip_no_hint : typeLookup (.type "zip") "__length_hint__" = pure none := by rw [typeLookup_type, builtinLookup_eq_fast]; kernel_rfl
theorem Zst.typeIs {z TI TO i1 i2 l1 l2 S : Addr} {i : Nat} (x : Zst s.heap z TI TO i1 i2 l1 l2 xs ys i S) : s.TypeIs (.ref z) "zip" := by
  rcases x.z0 with e | ⟨T, f, oT, e, _⟩ <;> exact ⟨_, e, rfl⟩
theorem zst_self {z TI TO i1 i2 l1 l2 S : Addr} {i : Nat} {E : Value → Shared → Prop} {Q : Value → Shared → Prop} (x : Zst s.heap z TI TO i1 i2 l1 l2 xs ys i S) (h : Q (.ref z) s) : wpAny (model prog w) A (pyIter (.ref z)) Q E s := by
  have hT := x.typeIs
  refine wpAny_pyIter_slot hT F.slot_zip_iter (wpAny_call_entry F.slot_zip_iter hT F.entry_zip_iter ?_ (F.args_zip_iter_1 _))
  show wpAny _ _ (ret (.ref z)) _ _ s
  exact wpAny_pure ⟨_, rfl, "zip", _, hT, F.slot_zip_next.lookup, h⟩
theorem zst_extend {z TI TO i1 i2 l1 l2 S : Addr} (hh : A.handled = none) (D : ZipApart z TI TO i1 i2 l1 l2) (L : Zlt z TI TO i1 i2 l1 l2 S) (hn : min xs.size ys.size ≤ sizeLine) (res : Value) (c₀ : Nat) (st : Zst s.heap z TI TO i1 i2 l1 l2 xs ys 0 S) (hS : s.heap.get? S = some { cls := .type "list", data := .seq #[] c₀ })
    (hR : ∀ h' tk acc c as, (∀ b o, b ≠ S → b ≠ z → b ≠ TO → b ≠ i1 → b ≠ i2 → s.heap.get? b = some o → h'.get? b = some o) → h'.get? S = some { cls := .type "list", dict := none, data := .seq acc c, slots := #[] } → as.length = min xs.size ys.size → MadeZ xs ys S h' as →
      acc.toList = as.map Value.ref → R (.ok (.ret res)) { s with heap := h', toks := tk }) :
    wpAny (model prog w) A.in1 (Builtin.List.listExtendWith (.ref S) (.ref z) res)
      (fun fin s' => match fin with | .done f => R (.ok f) s' | .again c' => c'.quiet = true ∧ codeAny (model prog w) A c' R s') (fun e s' => R (.error e) s') s := by
  have hT := st.typeIs
  unfold Builtin.List.listExtendWith
  refine wpAny_bind (wpAny_typeOf (T := "zip") hT ?_)
  have h1 : Builtin.List.listSameRef (.ref S) (.ref z) = false := by
    have : S ≠ z := Nat.ne_of_gt L.z
    simp [Builtin.List.listSameRef, this]
  have h2 : (Value.type "zip" == Value.type "list") = false := by decide
  have h3 : (Value.type "zip" == Value.type "tuple") = false := by decide
  simp only [h1, h2, h3, Bool.or_false, Bool.false_eq_true, if_false]
  refine wpAny_bind (zst_self st ?_)
  refine wpAny_bind (wpAny_holding ?_)
  unfold Builtin.List.listLengthHint
  refine wpAny_bind (wpAny_specialOf hT zip_no_len ?_)
  show wpAny _ A.in1 (specialOf (Value.ref z) (Str.ofString "__length_hint__") >>= _) _ _ _
  refine wpAny_bind (wpAny_specialOf hT zip_no_hint ?_)
  refine wpAny_pure ?_
  show wpAny _ A.in1 (rule "list.extend.makes-room" >>= fun _ => Builtin.List.listTouch (.ref S) >>= fun _ =>
    again (.builtin "list.extend.loop" ⟨[.ref S, .ref z, res], []⟩)) _ _ _
  refine wpAny_bind (wpAny_rule ?_)
  refine wpAny_bind ?_
  show wpAny _ A.in1 (updateSeq S (·.push .none) >>= fun _ => updateSeq S (·.pop)) _ _ _
  refine wpAny_bind (wpAny_updateSeq hS rfl ?_)
  have hS₂ := Heap.get?_update_self (Obj.mapSeq (·.push Value.none)) hS rfl
  refine wpAny_updateSeq (hz := by seq_fits) hS₂ rfl ?_
  have hS₃ := Heap.get?_update_self (Obj.mapSeq (·.pop)) hS₂ rfl
  have oth : ∀ b o, b ≠ S → s.heap.get? b = some o → ((s.heap.update S (Obj.mapSeq (·.push Value.none))).update S (Obj.mapSeq (·.pop))).get? b = some o :=
    fun b o hb e => (Heap.get?_update_other _ _ (Ne.symm hb)).trans ((Heap.get?_update_other _ _ (Ne.symm hb)).trans e)
  exact wpAny_pure ⟨plainId_quiet F.plain_extend_loop _, zst_loop (h₁ := s.heap) hh D L hn res hR _ 0 _ s.toks _ #[] [] rfl (Nat.zero_le _) (st.keep L oth) (fun b o h1 _ _ _ _ e => oth b o h1 e) hS₃ rfl rfl
    ⟨List.Pairwise.nil, (fun _ ha => nomatch ha), (fun j a hj => by simp at hj)⟩⟩
theorem zst_init {z TI TO i1 i2 l1 l2 S : Addr} (hh : A.handled = none) (D : ZipApart z TI TO i1 i2 l1 l2) (L : Zlt z TI TO i1 i2 l1 l2 S) (hn : min xs.size ys.size ≤ sizeLine) (st : Zst s.heap z TI TO i1 i2 l1 l2 xs ys 0 S) (hS : s.heap.get? S = some { cls := .type "list", data := .seq #[] })
    (hR : ∀ h' tk acc c as, (∀ b o, b ≠ S → b ≠ z → b ≠ TO → b ≠ i1 → b ≠ i2 → s.heap.get? b = some o → h'.get? b = some o) → h'.get? S = some { cls := .type "list", dict := none, data := .seq acc c, slots := #[] } → as.length = min xs.size ys.size → MadeZ xs ys S h' as →
      acc.toList = as.map Value.ref → R (.ok (.ret .none)) { s with heap := h', toks := tk }) :
    wpAny (model prog w) A.in1 (Builtin.«list.__init__» ⟨[.ref S, .ref z], []⟩)
      (fun fin s' => match fin with | .done f => R (.ok f) s' | .again c' => c'.quiet = true ∧ codeAny (model prog w) A c' R s') (fun e s' => R (.error e) s') s := by
  show wpAny _ _ (do let old ← Builtin.List.listItems (.ref S); Builtin.List.listUpdate (.ref S) (fun _ => #[]); letGo old.toList.reverse; Builtin.List.listExtendWith (.ref S) (.ref z) .none) _ _ s
  refine wpAny_bind ?_
  unfold Builtin.List.listItems
  refine wpAny_bind (wpAny_seqItems hS rfl (wpAny_pure ?_))
  show wpAny _ _ (updateSeq S (fun _ => #[]) >>= fun _ => letGo (#[] : Array Value).toList.reverse >>= fun _ => Builtin.List.listExtendWith (.ref S) (.ref z) .none) _ _ s
  refine wpAny_bind (wpAny_updateSeq hS rfl ?_)
  have hS₂ := Heap.get?_update_self (Obj.mapSeq (fun _ => (#[] : Array Value))) hS rfl
  have oth : ∀ b o, b ≠ S → s.heap.get? b = some o → (s.heap.update S (Obj.mapSeq (fun _ => (#[] : Array Value)))).get? b = some o :=
    fun b o hb e => (Heap.get?_update_other _ _ (Ne.symm hb)).trans e
  refine wpAny_bind (wpAny_letGo ?_)
  exact zst_extend hh D L hn .none _ (st.keep L oth) hS₂ (fun h' tk acc c as hk hS' hl hG hacc => hR h' tk acc c as (fun b o h1 h2 h3 h4 h5 e => hk b o h1 h2 h3 h4 h5 (oth b o h1 e)) hS' hl hG hacc)
/-- list(z), z a zip that was just made -/
theorem zst_call {z TI TO i1 i2 l1 l2 : Addr} {E : Value → Shared → Prop} {Q : Value → Shared → Prop} (hh : A.handled = none) (D : ZipApart z TI TO i1 i2 l1 l2) (L : Zlt z TI TO i1 i2 l1 l2 s.heap.objs.size) (hn : min xs.size ys.size ≤ sizeLine) (st : Zst s.heap z TI TO i1 i2 l1 l2 xs ys 0 s.heap.objs.size)
    (hQ : ∀ h' tk acc c as, (∀ b o, b ≠ z → b ≠ TO → b ≠ i1 → b ≠ i2 → s.heap.get? b = some o → h'.get? b = some o) → h'.get? s.heap.objs.size = some { cls := .type "list", dict := none, data := .seq acc c, slots := #[] } → as.length = min xs.size ys.size → MadeZ xs ys s.heap.objs.size h' as →
      acc.toList = as.map Value.ref → Q (.ref s.heap.objs.size) { s with heap := h', toks := tk }) :
    wpAny (model prog w) A (call (.type "list") [.ref z]) Q E s := by
  refine callType_codes (Q₁ := fun obj s₁ => obj = .ref s.heap.objs.size ∧ s₁ = { s with heap := s.heap.push { cls := .type "list", data := .seq #[] } }) PySem.F.called_list (PySem.F.typeCall_list_1 _) PySem.F.entry_list_init
    (code_list_new _ ⟨rfl, rfl⟩) fun obj s₁ h₁ => ?_
  obtain ⟨rfl, rfl⟩ := h₁
  have hS : (s.heap.push { cls := .type "list", data := .seq #[] }).get? s.heap.objs.size = some { cls := .type "list", data := .seq #[] } := Heap.get?_push_size _ rfl
  refine ⟨⟨_, hS, rfl⟩, PySem.F.args_list_init_2 _ _, zst_init (A := A.in1) hh D L hn (st.keep L fun b o _ e => Heap.get?_push_of_some _ e) hS (fun h' tk acc c as hk hS' hl hG hacc => ?_)⟩
  exact ⟨rfl, hQ h' tk acc c as (fun b o h2 h3 h4 h5 e => hk b o (Nat.ne_of_lt (Heap.lt_size e)) h2 h3 h4 h5 (Heap.get?_push_of_some _ e)) hS' hl hG hacc⟩
end
end SH
namespace SH
open PySem PySem.Spec PyProof.Rows L2
/-- the pairs tracked at their addresses -/
def putP : Hp → List Addr → List (V × V) → Hp
  | H, a :: as, p :: ps => putP (upd H a (.tup [p.1, p.2])) as ps
  | H, _, _ => H
theorem putP_off {b : Addr} : ∀ (as : List Addr) (ps : List (V × V)) (H : Hp), b ∉ as → putP H as ps b = H b
  | [], _, _, _ => rfl
  | _ :: _, [], _, _ => rfl
  | a :: as, p :: ps, H, h => by
    show putP (upd H a (.tup [p.1, p.2])) as ps b = H b
    rw [putP_off as ps _ (fun z => h (List.mem_cons_of_mem _ z)), upd_ne (fun z => h (by rw [z]; exact List.mem_cons_self))]
theorem putP_at : ∀ (as : List Addr) (ps : List (V × V)) (H : Hp), as.length = ps.length → as.Nodup → Paired (fun (t : Addr) (p : V × V) => putP H as ps t = some (.tup [p.1, p.2])) as ps
  | [], [], _, _, _ => .nil
  | [], _ :: _, _, h, _ => by cases h
  | _ :: _, [], _, h, _ => by cases h
  | a :: as, p :: ps, H, h, hn => by
    have hn' := List.nodup_cons.mp hn
    have ih := putP_at as ps (upd H a (.tup [p.1, p.2])) (Nat.succ.inj h) hn'.2
    refine .cons ?_ ih
    show putP (upd H a (.tup [p.1, p.2])) as ps a = some (.tup [p.1, p.2])
    rw [putP_off as ps _ hn'.1, upd_same]
theorem zip_laid {X : Cx} {pins : List (Addr × Obj)} {σ : L2.St} {H : Hp} {s : Shared} {h' : Heap} {tk S : Nat} {xs ys : List V} {us vs : List Value} {acc : Array Value} {c : Nat} {as : List Addr} (I : Inv X pins σ H s) (hz : xs.length ≤ sizeLine) (rx : Vals xs us) (ry : Vals ys vs) (hle : s.heap.objs.size ≤ S)
    (hk : ∀ b o, s.heap.get? b = some o → h'.get? b = some o) (hS : h'.get? S = some { cls := .type "list", dict := none, data := .seq acc c, slots := #[] }) (hl : as.length = min us.length vs.length) (hG : MadeZ us.toArray vs.toArray S h' as) (hacc : acc.toList = as.map Value.ref) :
    ∃ H' : Hp, Same H H' ∧ H S = none ∧ (∀ t ∈ as, H t = none) ∧ S ∉ as ∧ as.Nodup ∧ H' S = some (.lst (as.map V.ref)) ∧ Paired (fun (t : Addr) (q : V × V) => H' t = some (.tup [q.1, q.2])) as (xs.zip ys) ∧ Inv X pins σ H' { s with heap := h', toks := tk } := by
  have lx : xs.length = us.length := Paired.length rx
  have ly : ys.length = vs.length := Paired.length ry
  have hSn : S ∉ as := fun z => Nat.lt_irrefl _ (hG.above _ z)
  have nd : as.Nodup := List.Pairwise.imp (fun {a b} (h : a < b) => Nat.ne_of_lt h) hG.rise
  have new : ∀ t ∈ as, H t = none := fun t ht => I.hok.fresh (Nat.le_trans hle (Nat.le_of_lt (hG.above t ht)))
  have newS : H S = none := I.hok.fresh hle
  have atP := putP_at as (xs.zip ys) (upd H S (.lst (as.map V.ref))) (by rw [List.length_zip]; omega) nd
  have off : ∀ b, b ∉ as → b ≠ S → putP (upd H S (.lst (as.map V.ref))) as (xs.zip ys) b = H b := fun b h1 h2 => by rw [putP_off as _ _ h1, upd_ne h2]
  have low : ∀ b o, s.heap.get? b = some o → b ∉ as ∧ b ≠ S := fun b o e =>
    ⟨fun z => absurd (Nat.lt_of_lt_of_le (Heap.lt_size e) hle) (Nat.not_lt.mpr (Nat.le_of_lt (hG.above b z))), Nat.ne_of_lt (Nat.lt_of_lt_of_le (Heap.lt_size e) hle)⟩
  have kp : ∀ b u, H b = some u → (putP (upd H S (.lst (as.map V.ref))) as (xs.zip ys)) b = some u := fun b u e => by
    rw [off b (fun z => by rw [new b z] at e; cases e) (fun z => by rw [z, newS] at e; cases e)]
    exact e
  have eS : putP (upd H S (.lst (as.map V.ref))) as (xs.zip ys) S = some (.lst (as.map V.ref)) := by rw [putP_off as _ _ hSn, upd_same]
  refine ⟨putP (upd H S (.lst (as.map V.ref))) as (xs.zip ys), kp, newS, new, hSn, nd, eS, atP, ?_⟩
  refine I.call' (ch := []) rfl ⟨fun b o q _ _ _ => hk b o q, fun b o q _ _ _ => ⟨o.slots, hk b o q⟩, fun b o q n _ => ?_, fun b o q _ => ⟨o, hk b o q⟩, fun b xs q => kp b _ q, fun b o u q => kp b _ q, fun b ps q => ⟨#[], by rw [kp b _ q]; simp⟩⟩ (fun b u q => ?_) I.bare fun b z => by simp at z
  · obtain ⟨z1, z2⟩ := low b o q
    rw [off b z1 z2]
    exact n
  · by_cases hb : b ∈ as
    · obtain ⟨j, pk, e1, e2, e3⟩ := LiI.paired_ix atP hb
      rw [e3] at q
      cases q
      obtain ⟨x, y, f1, f2, f3⟩ := hG.pairs j b e1
      obtain ⟨g1, g2⟩ := List.getElem?_zip_eq_some.mp e2
      obtain ⟨x', g3, g4⟩ := LiI.paired_get rx g1
      obtain ⟨y', g5, g6⟩ := LiI.paired_get ry g2
      have ex : x = x' := by simpa [g3] using f1.symm
      have ey : y = y' := by simpa [g5] using f2.symm
      subst ex ey
      exact ⟨by show 2 ≤ sizeLine; decide, [x, y], .cons g4 (.cons g6 .nil), ⟨_, f3, rfl, _, rfl⟩⟩
    · by_cases hb2 : b = S
      · rw [hb2] at q ⊢
        rw [eS] at q
        cases q
        refine ⟨by rw [List.length_map]; omega, acc.toList, c, by rw [hacc]; exact LiI.vals_refs as, ?_⟩
        rw [Array.toArray_toList]
        exact hS
      · rw [off b hb hb2] at q
        exact (I.hok b u q).stay (fun d v _ y => hk d v y) (fun d y => kp d _ y) fun d xs y => kp d _ y
/-- list(zip(e1, e2)), two lists -/
def tListZip (K : PySem.W.Frag) (ta : TA) : TE := fun σ H Q => ta σ H fun vs H1 => ∃ (a b : Addr) (xs ys : List V), vs = [.ref a, .ref b] ∧ SqL K H1 a xs ∧ SqL K H1 b ys ∧
  ∀ (H' : Hp) (p : Addr) (ts : List Addr), Same H1 H' → H1 p = none → (∀ t ∈ ts, H1 t = none) → p ∉ ts → ts.Nodup → H' p = some (.lst (ts.map V.ref)) → Paired (fun (t : Addr) (q : V × V) => H' t = some (.tup [q.1, q.2])) ts (xs.zip ys) → Q (.ref p) H'
theorem pe_listZip {X : Cx} {e e2 : Expr} {ta : TA} {p q zpos pos : Pos} (hg : Gl X "list") (hm : X.mg "list" = none) (hg2 : Gl X "zip") (hm2 : X.mg "zip" = none) (ha : PA X [e, e2] ta) (hc : X.calm = true := by rfl)
    (hs : starEach [.Call (.Name "zip" q) [e, e2] [] zpos] X.env = (false, eval (.Call (.Name "zip" q) [e, e2] [] zpos) X.env) :: starEach [] X.env := by rfl)
    (hs2 : starEach [e, e2] X.env = (false, eval e X.env) :: starEach [e2] X.env := by rfl) (hpl2 : (backTo zpos (starEach [e2] X.env)).any (·.1) = false := by rfl) :
    PE X (.Call (.Name "list" p) [.Call (.Name "zip" q) [e, e2] [] zpos] [] pos) (tListZip X.K ta) := by
  refine ⟨fun pins s σ H Q I hq => ?_⟩
  have hv : bootBuiltins "list" = some (.type "list") := by decide +kernel
  refine wpAny_Call_Name_kw (ld_blt I hg hm hv ?_)
  refine PyProof.Rows.callWith_type1 ?_ hs rfl
  rw [hs]
  show wpAny _ _ (spliced ((false, eval (.Call (.Name "zip" q) [e, e2] [] zpos) X.env) :: backTo pos (starEach [] X.env))) _ _ s
  refine Calls.spliced_cons ?_
  refine Call_ (ld_blt I hg2 hm2 PyProof.Rows.boot_zip (PyProof.Rows.callWith_type1 (thn (ha.run zpos pins s σ H _ I hq) fun us s1 ⟨vs, H1, I1, r1, q1⟩ => ?_) hs2 hpl2))
  obtain ⟨a, b, xs, ys, rfl, hqx, hqy, q1⟩ := q1
  obtain ⟨u1, u2, rfl, ra, rb⟩ := vals2 r1
  obtain rfl : u1 = Value.ref a := ra
  obtain rfl : u2 = Value.ref b := rb
  obtain ⟨its, rv, p1, z1⟩ := I1.list hqx
  obtain ⟨its2, rv2, p2, z2⟩ := I1.list hqy
  have lx : xs.length = its.length := Paired.length rv
  refine call_zip_2 p1.isList p2.isList fun h0 hz hTI hTO h1 h2 hsz hk0 => Calls.spliced_nil ?_
  have la : a < s1.heap.objs.size := p1.lt
  have lb : b < s1.heap.objs.size := p2.lt
  have L : Zlt (s1.heap.objs.size + 4) (s1.heap.objs.size + 2) (s1.heap.objs.size + 3) s1.heap.objs.size (s1.heap.objs.size + 1) a b h0.objs.size := by
    rw [hsz]
    exact ⟨Nat.add_lt_add_left (by decide : 4 < 5) _, Nat.add_lt_add_left (by decide : 2 < 5) _, Nat.add_lt_add_left (by decide : 3 < 5) _, Nat.lt_add_of_pos_right (by decide), Nat.add_lt_add_left (by decide : 1 < 5) _, Nat.lt_of_lt_of_le la (Nat.le_add_right _ _), Nat.lt_of_lt_of_le lb (Nat.le_add_right _ _)⟩
  refine zst_call (s := { s1 with heap := h0 }) (xs := its.toArray) (ys := its2.toArray) (I1.ok.hd hc) (PySem.W.ktu_apart s1.heap.objs.size a b la lb) L ?_ ⟨hTI, ⟨_, _, hTO⟩, h1, h2, p1.isList.at fun o e => hk0 _ o e, p2.isList.at fun o e => hk0 _ o e, .inl hz⟩ fun h' tk acc c as hk hS hl hG hacc => ?_
  · rw [List.size_toArray, List.size_toArray]
    omega
  have kk : ∀ b o, s1.heap.get? b = some o → h'.get? b = some o := fun b o e => by
    have := Heap.lt_size e
    have up : ∀ m, b ≠ s1.heap.objs.size + m := fun m => Nat.ne_of_lt (Nat.lt_of_lt_of_le this (Nat.le_add_right _ _))
    exact hk b o (up 4) (up 3) (up 0) (up 1) (hk0 b o e)
  obtain ⟨H', k1, k2, k3, k4, k5, k6, k7, J⟩ := zip_laid (tk := tk) I1 (by omega) rv rv2 (S := h0.objs.size) (by rw [hsz]; omega) kk hS (by rw [hl, List.size_toArray, List.size_toArray]) hG hacc
  exact ⟨.ref _, H', J, rfl, q1 H' _ as k1 k2 k3 k4 k5 k6 k7⟩
end SH

/-! SH24: zip of three lists. -/
namespace SH
open PySem PySem.Spec PyProof.Rows L2
/-- three lists of one length as they stand at each turn, the items in new triples -/
def ItzC (K : PySem.W.Frag) (a b c : Addr) : It where
  go := fun i H => ∃ (xs ys zs : List V) (x y u : V), SqL K H a xs ∧ SqL K H b ys ∧ SqL K H c zs ∧ xs[i]? = some x ∧ ys[i]? = some y ∧ zs[i]? = some u
  yld := fun i H v H' => ∃ T x y u, v = .ref T ∧ H T = none ∧ H' = upd H T (.tup [x, y, u]) ∧ (∀ xs, SqL K H a xs → xs[i]? = some x) ∧ (∀ ys, SqL K H b ys → ys[i]? = some y) ∧ ∀ zs, SqL K H c zs → zs[i]? = some u
  stop := fun i H => ∃ (xs ys zs : List V), SqL K H a xs ∧ SqL K H b ys ∧ SqL K H c zs ∧ xs.length = i ∧ ys.length = i ∧ zs.length = i
theorem sub6 {q z TI TO i1 i2 i3 : Addr} (m : q ∈ [z, TO, i1, i2, i3]) : q ∈ [z, TI, TO, i1, i2, i3] := by
  simp only [List.mem_cons, List.not_mem_nil, or_false] at m ⊢
  rcases m with e | e | e | e | e
  · exact .inl e
  · exact .inr (.inr (.inl e))
  · exact .inr (.inr (.inr (.inl e)))
  · exact .inr (.inr (.inr (.inr (.inl e))))
  · exact .inr (.inr (.inr (.inr (.inr e))))
theorem turn_zipC {P : Program} {w : World} {K : PySem.W.Frag} {elts : List Expr} {kk : Nat} {tpos : Pos} {a b c z TI TO i1 i2 i3 : Addr} (S : ZipSep3 z TI TO i1 i2 i3 [i1, a] [i2, b] [i3, c]) (n1 : a ≠ i1) (n2 : b ≠ i2) (n3 : c ≠ i3) :
    Turn P w K (.Tuple elts kk tpos) (ItzC K a b c) [z, TI, TO, i1, i2, i3] z (fun i h => IsZip h z TI TO .none ∧ IsTupOf3 h TI (.ref i1) (.ref i2) (.ref i3) ∧ (∃ a1 a2 a3, IsTupOf3 h TO a1 a2 a3) ∧ h.IsListIter i1 a i ∧ h.IsListIter i2 b i ∧ h.IsListIter i3 c i) where
  mem := by simp
  obj := fun i h st q hq => by
    obtain ⟨hz, hTI, ⟨_, _, _, hTO⟩, ⟨o1, e1, _, d1⟩, ⟨o2, e2, _, d2⟩, ⟨o3, e3, _, d3⟩⟩ := st
    rcases (show q = z ∨ q = TI ∨ q = TO ∨ q = i1 ∨ q = i2 ∨ q = i3 by simpa using hq) with rfl | rfl | rfl | rfl | rfl | rfl
    · exact ⟨_, hz, fun v e => nomatch e⟩
    · exact ⟨_, hTI, fun v e => nomatch e⟩
    · exact ⟨_, hTO, fun v e => nomatch e⟩
    · exact ⟨o1, e1, fun v e => by rw [d1] at e; cases e⟩
    · exact ⟨o2, e2, fun v e => by rw [d2] at e; cases e⟩
    · exact ⟨o3, e3, fun v e => by rw [d3] at e; cases e⟩
  keep := fun i h h' st k => by
    obtain ⟨hz, hTI, ⟨a1, a2, a3, hTO⟩, h1, h2, h3⟩ := st
    exact ⟨k z (by simp) _ hz, k TI (by simp) _ hTI, ⟨a1, a2, a3, k TO (by simp) _ hTO⟩, h1.at fun o e => k i1 (by simp) o e, h2.at fun o e => k i2 (by simp) o e, h3.at fun o e => k i3 (by simp) o e⟩
  item := by
    intro X hP hw hK hc i pins s σ H E I hf st hg
    subst hP hw hK
    obtain ⟨hz, hTI, ⟨a1, a2, a3, hTO⟩, h1, h2, h3⟩ := st
    obtain ⟨xs, ys, zs, x, y, u, qx, qy, qz, hx, hy, hu⟩ := hg
    obtain ⟨t1, r1, p1, _⟩ := I.list qx
    obtain ⟨t2, r2, p2, _⟩ := I.list qy
    obtain ⟨t3, r3, p3, _⟩ := I.list qz
    obtain ⟨x', hx', rx⟩ := r1.get hx
    obtain ⟨y', hy', ry⟩ := r2.get hy
    obtain ⟨u', hu', ru⟩ := r3.get hu
    have hh : X.A.in1.handled = none := I.ok.hd hc
    have W := WalksT.zipD3 (A := X.A) S (Draws.list (prog := X.prog) (w := X.w) hh i1 a n1 t1.toArray) (Draws.list (prog := X.prog) (w := X.w) hh i2 b n2 t2.toArray) (Draws.list (prog := X.prog) (w := X.w) hh i3 c n3 t3.toArray)
    have l1 := (List.getElem?_eq_some_iff.mp hx').1
    have l2 := (List.getElem?_eq_some_iff.mp hy').1
    have l3 := (List.getElem?_eq_some_iff.mp hu').1
    refine W.item i s _ E (by simp; omega) ⟨hz, hTI, ⟨a1, a2, a3, hTO⟩, ⟨h1, p1.isList⟩, ⟨h2, p2.isList⟩, ⟨h3, p3.isList⟩⟩ fun T vals h' tk pt hsz hT mid hk => ?_
    obtain ⟨v1, v2, v3, e1, e2, e3, rfl⟩ := pt
    have w1 : v1 = x' := by have : t1[i]? = some v1 := by simpa using e1
                            rw [hx'] at this; exact (Option.some.inj this).symm
    have w2 : v2 = y' := by have : t2[i]? = some v2 := by simpa using e2
                            rw [hy'] at this; exact (Option.some.inj this).symm
    have w3 : v3 = u' := by have : t3[i]? = some v3 := by simpa using e3
                            rw [hu'] at this; exact (Option.some.inj this).symm
    subst w1 w2 w3
    have ap := W.apart i T _ mid
    refine ⟨_, rfl, W.go elts kk tpos i T { s with heap := h', toks := tk } _ E mid fun h'' st2 hk2 => ?_⟩
    obtain ⟨ob, go, gc, nb, gd⟩ := hT
    have new : ObjOk X.prog X.w (upd H T (.tup [x, y, u])) h'' T (.tup [x, y, u]) := ⟨(by decide : 3 ≤ sizeLine), [v1, v2, v3], .cons rx (.cons ry (.cons ru .nil)), ob, hk2 T ob ap go, gc, nb, gd⟩
    have J := I.turnedNew (t' := tk) (ch := [z, TI, TO, i1, i2, i3]) (fun q o hq e => hk2 q o (fun m => hq (sub6 m)) (hk q o (fun m => hq (sub6 m)) e)) hf hsz new
    obtain ⟨f1, f2, f3, ⟨f4, _⟩, ⟨f5, _⟩, ⟨f6, _⟩⟩ := st2
    refine ⟨.ref T, _, J, rfl, ⟨T, x, y, u, rfl, I.hok.fresh hsz, rfl, fun l hl => by rw [I.list_inj hl qx]; exact hx, fun l hl => by rw [I.list_inj hl qy]; exact hy, fun l hl => by rw [I.list_inj hl qz]; exact hu⟩, ⟨f1, f2, f3, f4, f5, f6⟩, fun q hq => ?_⟩
    have below : q < s.heap.objs.size := by
      obtain ⟨_, g1, _⟩ := h1
      obtain ⟨_, g2, _⟩ := h2
      obtain ⟨_, g3, _⟩ := h3
      rcases (show q = z ∨ q = TI ∨ q = TO ∨ q = i1 ∨ q = i2 ∨ q = i3 by simpa using hq) with rfl | rfl | rfl | rfl | rfl | rfl
      · exact Heap.lt_size hz
      · exact Heap.lt_size hTI
      · exact Heap.lt_size hTO
      · exact Heap.lt_size g1
      · exact Heap.lt_size g2
      · exact Heap.lt_size g3
    rw [upd_ne (Nat.ne_of_lt (Nat.lt_of_lt_of_le below hsz))]
    exact (hf q hq).1
  done := by
    intro X hP hw hK hc i pins s σ H E I hf st hg
    subst hP hw hK
    obtain ⟨hz, hTI, ⟨a1, a2, a3, hTO⟩, h1, h2, h3⟩ := st
    obtain ⟨xs, ys, zs, qx, qy, qz, k1, k2, k3⟩ := hg
    obtain ⟨t1, r1, p1, _⟩ := I.list qx
    obtain ⟨t2, r2, p2, _⟩ := I.list qy
    obtain ⟨t3, r3, p3, _⟩ := I.list qz
    have l1 := r1.length
    have l2 := r2.length
    have l3 := r3.length
    have hh : X.A.in1.handled = none := I.ok.hd hc
    have W := WalksT.zipD3 (A := X.A) S (Draws.list (prog := X.prog) (w := X.w) hh i1 a n1 t1.toArray) (Draws.list (prog := X.prog) (w := X.w) hh i2 b n2 t2.toArray) (Draws.list (prog := X.prog) (w := X.w) hh i3 c n3 t3.toArray)
    have en : min (min t1.toArray.size t2.toArray.size) t3.toArray.size = i := by simp; omega
    rw [en] at W
    exact W.done s _ E ⟨hz, hTI, ⟨a1, a2, a3, hTO⟩, ⟨h1, p1.isList⟩, ⟨h2, p2.isList⟩, ⟨h3, p3.isList⟩⟩ fun h' tk hk => ⟨rfl, I.turnedL (t' := tk) (ch := [z, TI, TO, i1, i2, i3]) (fun q o hq e => hk q o (fun m => hq (sub6 m)) e) hf⟩
  self := fun A i s Q E st h => wpAny_pyIter_zip st.1 h
def iZipC (K : PySem.W.Frag) (ta : TA) : TI := fun σ H R => ta σ H fun vs H1 => ∃ (a b c : Addr) (xs ys zs : List V), vs = [.ref a, .ref b, .ref c] ∧ SqL K H1 a xs ∧ SqL K H1 b ys ∧ SqL K H1 c zs ∧ R (ItzC K a b c) H1
theorem pi_zipC {X : Cx} {e1 e2 e3 : Expr} {ta : TA} {p pos tpos : Pos} {elts : List Expr} {kk : Nat} (hg : Gl X "zip") (hm : X.mg "zip" = none) (ha : PA X [e1, e2, e3] ta)
    (hs : starEach [e1, e2, e3] X.env = (false, eval e1 X.env) :: starEach [e2, e3] X.env := by rfl) (hpl : (backTo pos (starEach [e2, e3] X.env)).any (·.1) = false := by rfl) :
    PI X (.Tuple elts kk tpos) (.Call (.Name "zip" p) [e1, e2, e3] [] pos) (iZipC X.K ta) := by
  refine ⟨fun pins s σ H R I h => ?_⟩
  refine Call_ (ld_blt I hg hm PyProof.Rows.boot_zip (PyProof.Rows.callWith_type1 (thn (ha.run pos pins s σ H _ I h) fun us s1 ⟨vs, H1, J, r, q⟩ => ?_) hs hpl))
  obtain ⟨a, b, c, xs, ys, zs, rfl, qx, qy, qz, q⟩ := q
  cases r with
  | cons ra r =>
    cases r with
    | cons rb r =>
      cases r with
      | cons rc r =>
        cases r
        cases ra
        cases rb
        cases rc
        obtain ⟨t1, _, p1, _⟩ := J.list qx
        obtain ⟨t2, _, p2, _⟩ := J.list qy
        obtain ⟨t3, _, p3, _⟩ := J.list qz
        have young : ∀ q, q ∈ [s1.heap.objs.size + 5, s1.heap.objs.size + 3, s1.heap.objs.size + 4, s1.heap.objs.size, s1.heap.objs.size + 1, s1.heap.objs.size + 2] → FpOk X pins H1 q := fun q hq => by
          have le : s1.heap.objs.size ≤ q := by
            simp only [List.mem_cons, List.not_mem_nil, or_false] at hq
            rcases hq with rfl | rfl | rfl | rfl | rfl | rfl
            · exact Nat.le_add_right _ _
            · exact Nat.le_add_right _ _
            · exact Nat.le_add_right _ _
            · exact Nat.le_refl _
            · exact Nat.le_add_right _ _
            · exact Nat.le_add_right _ _
          exact J.fpOk le (J.hok.fresh le)
        refine zip_begins3 (begins_list a t1.toArray) (begins_list b t2.toArray) (begins_list c t3.toArray) p1.isList p2.isList p3.isList fun h' hz hTI hTO g1 g2 g3 _ hk => wpAny_pyIter_zip hz ?_
        have low : ∀ {v : Addr}, v < s1.heap.objs.size → ∀ q ∈ [v], q < s1.heap.objs.size := fun hv q hq => by rw [List.mem_singleton.mp hq]; exact hv
        have ne0 : ∀ {v : Addr} (k : Nat), v < s1.heap.objs.size → v ≠ s1.heap.objs.size + k := fun {v} k hv => Nat.ne_of_lt (Nat.lt_of_lt_of_le hv (Nat.le_add_right _ _))
        exact ⟨s1.heap.objs.size + 5, _, _, _, H1, rfl, J.kept (t' := s1.toks) hk, turn_zipC (zip_sep3 (N := s1.heap.objs.size) (low p1.lt) (low p2.lt) (low p3.lt)) (ne0 0 p1.lt) (ne0 1 p2.lt) (ne0 2 p3.lt), ⟨hz, hTI, ⟨_, _, _, hTO⟩, ⟨_, g1, rfl, rfl⟩, ⟨_, g2, rfl, rfl⟩, ⟨_, g3, rfl, rfl⟩⟩, young, q⟩
section
variable {K : PySem.W.Frag} {D : Addr} {σ : L2.St} {H : Hp} {vs : List Nat} {tt : TT} {te : TE} {Qd : Hp → Prop}
/-- [.. for a, b, c in zip(xs, ys, zs) ..], lists of one length, in words of the index -/
theorem lcZ3n {a b c : Addr} {xs ys zs : List V} {j1 j2 j3 : Nat} (keep : Nat → Bool) (val : Nat → V) (hx : SqL K H a xs) (hy : SqL K H b ys) (hz : SqL K H c zs) (e1 : xs.length = ys.length) (e2 : xs.length = zs.length) (hD : H D = none) (hn : xs.length < 100000)
    (hw : ∀ x y u, wipe ((((wipe σ vs).set j1 (some x)).set j2 (some y)).set j3 (some u)) vs = wipe σ vs)
    (ht : ∀ i x y u H2 (Q : Bool → Hp → Prop), xs[i]? = some x → ys[i]? = some y → zs[i]? = some u → Same H H2 → (∀ H3, Same H2 H3 → Q (keep i) H3) → tt ((((wipe σ vs).set j1 (some x)).set j2 (some y)).set j3 (some u)) H2 Q)
    (he : ∀ i x y u H2 (Q : VK), xs[i]? = some x → ys[i]? = some y → zs[i]? = some u → keep i = true → Same H H2 → (∀ H3, Same H2 H3 → Q (val i) H3) → te ((((wipe σ vs).set j1 (some x)).set j2 (some y)).set j3 (some u)) H2 Q)
    (hd : ∀ H', Same H H' → H' D = some (.lst (gives xs.length keep val)) → Qd H') :
    ∃ W : Nat → Nat → Hp → Prop, (∃ m, W 0 m (upd H D (.lst []))) ∧ ∀ i m H, W i m H →
      ((ItzC K a b c).stop i H ∧ Qd H) ∨ ((ItzC K a b c).go i H ∧ ∃ Nx : Hp → Prop, (∀ H', Nx H' → ∃ m', m' < m ∧ W (i + 1) m' H') ∧
        ∀ x H', (ItzC K a b c).yld i H x H' → gTup K 3 (gCons (gName j1) (gCons (gName j2) (gCons (gName j3) gNil))) x (wipe σ vs) H' fun σ2 H2 => wipe σ2 vs = wipe σ vs ∧ tt σ2 H2 fun b H3 =>
          if b = true then te σ2 H3 fun y H4 => ∃ acc, H4 D = some (.lst acc) ∧ acc.length < sizeLine ∧ Nx (upd H4 D (.lst (acc ++ [y]))) else Nx H3) := by
  refine ⟨fun i m G => m = xs.length - i ∧ i ≤ xs.length ∧ Same H G ∧ G D = some (.lst (gives i keep val)), ⟨_, rfl, Nat.zero_le _, Same.new hD, upd_same⟩, ?_⟩
  rintro i m G ⟨rfl, hi, sG, hG⟩
  rcases Nat.lt_or_ge i xs.length with lt | ge
  · have k1 := List.getElem?_eq_getElem lt
    have k2 : ys[i]? = some ys[i] := List.getElem?_eq_getElem (by omega)
    have k3 : zs[i]? = some zs[i] := List.getElem?_eq_getElem (by omega)
    refine .inr ⟨⟨xs, ys, zs, _, _, _, sG.seq hx, sG.seq hy, sG.seq hz, k1, k2, k3⟩, fun G' => Same H G' ∧ G' D = some (.lst (gives (i + 1) keep val)), fun G' p => ⟨xs.length - (i + 1), by omega, rfl, lt, p.1, p.2⟩, ?_⟩
    rintro v G' ⟨T, x, y, u, rfl, fT, rfl, fx, fy, fu⟩
    have sT := sG.trans (Same.new (o := .tup [x, y, u]) fT)
    have gT := Same.new (o := .tup [x, y, u]) fT _ _ hG
    refine ⟨T, _, rfl, SqT.of upd_same, rfl, _, _, rfl, _, _, rfl, _, _, rfl, rfl, hw _ _ _, ?_⟩
    exact lc_turnS hD lt hn sT gT (fun Q q => ht i x y u _ Q (fx xs (sG.seq hx)) (fy ys (sG.seq hy)) (fu zs (sG.seq hz)) sT q) (fun H3 s3 Q k q => he i x y u H3 Q (fx xs (sG.seq hx)) (fy ys (sG.seq hy)) (fu zs (sG.seq hz)) k (sT.trans s3) q)
  · obtain rfl : i = xs.length := Nat.le_antisymm hi ge
    exact .inl ⟨⟨xs, ys, zs, sG.seq hx, sG.seq hy, sG.seq hz, rfl, e1.symm, e2.symm⟩, hd G sG hG⟩
end
end SH

set_option maxHeartbeats 2000000
/-! SH25: list(accumulate(xs)): a new list of the running sums. -/
namespace PySem.F
theorem owner_accum : Manifest.owners.lookup (String.ofList ['e', 't', 'a', 'l', 'u', 'm', 'u', 'c', 'c', 'a', '.', 's', 'l', 'o', 'o', 't', 'r', 'e', 't', 'i'].reverse) = some Manifest.sig_itertools_accumulate := by kernel_rfl
theorem slot_accum_next : Slot "itertools.accumulate" "__next__" "itertools.accumulate.__next__" :=
  .of (owner := "itertools.accumulate") (n := "__next__") (by rw [typeLookup_type, builtinLookup_eq_fast]; kernel_rfl) (by decide +kernel) (by decide +kernel) (by decide +kernel)
    (by first | exact .inl (by decide +kernel) | exact .inr (by decide +kernel)) (by rw [isSubtype_type]; kernel_rfl)
theorem entry_accum_next : entryFor table "itertools.accumulate.__next__" = some Builtin.«itertools.accumulate.__next__» := entryFor_of_tree (by kernel_rfl)
theorem args_accum_next (a : Value) : argsOk "itertools.accumulate.__next__" ⟨[a], []⟩ := by
  unfold argsOk; rw [signature?_of (id := "itertools.accumulate.__next__") (n := ['_', '_', 't', 'x', 'e', 'n', '_', '_']) (o := ['e', 't', 'a', 'l', 'u', 'm', 'u', 'c', 'c', 'a', '.', 's', 'l', 'o', 'o', 't', 'r', 'e', 't', 'i']) (by kernel_rfl) owner_accum]; kernel_rfl
theorem slot_accum_iter : Slot "itertools.accumulate" "__iter__" "itertools.accumulate.__iter__" :=
  .of (owner := "itertools.accumulate") (n := "__iter__") (by rw [typeLookup_type, builtinLookup_eq_fast]; kernel_rfl) (by decide +kernel) (by decide +kernel) (by decide +kernel)
    (by first | exact .inl (by decide +kernel) | exact .inr (by decide +kernel)) (by rw [isSubtype_type]; kernel_rfl)
theorem args_accum_iter (a : Value) : argsOk "itertools.accumulate.__iter__" ⟨[a], []⟩ := by
  unfold argsOk; rw [signature?_of (id := "itertools.accumulate.__iter__") (n := ['_', '_', 'r', 'e', 't', 'i', '_', '_']) (o := ['e', 't', 'a', 'l', 'u', 'm', 'u', 'c', 'c', 'a', '.', 's', 'l', 'o', 'o', 't', 'r', 'e', 't', 'i']) (by kernel_rfl) owner_accum]; kernel_rfl
theorem entry_accum_iter : entryFor table "itertools.accumulate.__iter__" = some Builtin.«dict_keyiterator.__iter__» :=
  entryFor_alias (id' := "dict_keyiterator.__iter__") (by kernel_rfl) (by first | rfl | decide +kernel | (unfold String.splitOn; simp +decide [String.splitOnAux])) (by decide +kernel) (by kernel_rfl)
theorem slot_accum_init : Slot "itertools.accumulate" "__init__" "object.__init__" :=
  .of (owner := "object") (n := "__init__") (by rw [typeLookup_type, builtinLookup_eq_fast]; kernel_rfl) (by decide +kernel) (by decide +kernel) (by decide +kernel)
    (by first | exact .inl (by decide +kernel) | exact .inr (by decide +kernel)) (by rw [isSubtype_type]; kernel_rfl)
theorem mro_accum : mroOf (.type "itertools.accumulate") = pure [.type "itertools.accumulate", .type "object"] := by rw [mroOf_type]; kernel_rfl
theorem lookup_accum_new : typeLookup (.type "itertools.accumulate") "__new__" = pure (some (.builtin "itertools.accumulate.__new__")) := by rw [typeLookup_type, builtinLookup_eq_fast]; kernel_rfl
theorem called_accum : TypeCalled "itertools.accumulate" "itertools.accumulate.__new__" "object.__init__" :=
  ⟨by decide +kernel, by decide +kernel, ⟨_, _, mro_accum⟩, madeBy_type mro_accum lookup_accum_new (by decide +kernel), by decide +kernel, by rw [isSubtype_type]; kernel_rfl, slot_accum_init⟩
theorem typeCall_accum (a : Value) : checkTypeCall "itertools.accumulate" ⟨[a], []⟩ = pure () := by kernel_rfl
theorem newCall_accum (a : Value) : checkBuiltinCall "itertools.accumulate.__new__" ⟨[.type "itertools.accumulate", a], []⟩ = pure () := by kernel_rfl
theorem entry_accum_new : entryFor table "itertools.accumulate.__new__" = some Builtin.«itertools.accumulate.__new__» := entryFor_of_tree (by kernel_rfl)
theorem sub_accum : isSubtype (.type "itertools.accumulate") (.type "itertools.accumulate") = pure true := by rw [isSubtype_type]; kernel_rfl
end PySem.F
namespace SH
open PySem PySem.W
theorem accum_no_len : typeLookup (.type "itertools.accumulate") "__len__" = pure none := by rw [typeLookup_type, builtinLookup_eq_fast]; kernel_rfl
theorem accum_no_hint : typeLookup (.type "itertools.accumulate") "__length_hint__" = pure none := by rw [typeLookup_type, builtinLookup_eq_fast]; kernel_rfl
abbrev IsAcc (h : Heap) (z it : Addr) (tot : Value) : Prop :=
  h.get? z = some { cls := .type "itertools.accumulate", dict := none, data := .fields #[.ref it, .none, tot, .none], slots := #[] }
section
variable {prog : Program} {w : World} {A : Around} {E : Value → Shared → Prop} {s : Shared}
theorem raw_item {it l : Addr} {i : Nat} {items} {x : Value} {Q : Value → Shared → Prop} (hit : s.heap.IsListIter it l i)
    (hl : s.heap.IsList l items) (hx : items[i]? = some x)
    (hQ : ∀ h', h'.IsListIter it l (i + 1) → Heap.SameBut it s.heap h' → Q x { s with heap := h' }) :
    wpAny (model prog w) A (Builtin.Itertools.itRawNext (.ref it)) Q E s := by
  obtain ⟨o, ho, hc, hd⟩ := id hit
  obtain ⟨ol, hol, _, nl, hdl⟩ := hl
  unfold Builtin.Itertools.itRawNext
  refine wpAny_bind (wpAny_callSpecial?_slot (name := Str.ofString "__next__") hit.typeIs slot_listiter_next
    (wpAny_call_entry slot_listiter_next hit.typeIs entry_listiter_next ?_ (args_listiter_next _)))
  show wpAny _ _ (field (.ref it) 0 >>= _) _ _ s
  refine wpAny_bind (wpAny_field ho hd (x := .ref l) rfl ?_)
  show wpAny _ _ (if (Value.ref l == Value.none) = true then _ else _) _ _ s
  rw [if_neg (show ¬ ((Value.ref l == Value.none) = true) from Bool.false_ne_true)]
  show wpAny _ _ (field (.ref it) 1 >>= _) _ _ s
  refine wpAny_bind (wpAny_field ho hd (x := .int i 0) rfl ?_)
  show wpAny _ _ (seqItems? (.ref l) >>= _) _ _ s
  refine wpAny_bind (wpAny_seqItems hol hdl ?_)
  simp only [Int.toNat_natCast, hx]
  refine wpAny_bind (wpAny_setField ho hd (by simp) (wpAny_pure ⟨x, rfl, wpAny_pure (hQ _ ?_ (Heap.SameBut.update ..))⟩))
  exact ⟨_, Heap.get?_update_self _ ho (Obj.isFreed_of_fields (Obj.data_mapFields hd _)), (Obj.cls_mapFields ..).trans hc, by
    rw [Obj.data_mapFields hd]; simp [rawInt]⟩
theorem raw_end {it l : Addr} {i : Nat} {items} {Q : Value → Shared → Prop} (hh : A.handled = none)
    (hit : s.heap.IsListIter it l i) (hl : s.heap.IsList l items) (hx : items[i]? = none)
    (hE : ∀ h' e, Heap.ExtBut it s.heap h' → (∃ o, h'.get? e = some o ∧ o.cls = .type "StopIteration") → E (.ref e) { s with heap := h' }) :
    wpAny (model prog w) A (Builtin.Itertools.itRawNext (.ref it)) Q E s := by
  obtain ⟨o, ho, hc, hd⟩ := id hit
  obtain ⟨ol, hol, _, nl, hdl⟩ := hl
  unfold Builtin.Itertools.itRawNext
  refine wpAny_bind (wpAny_callSpecial?_slot (name := Str.ofString "__next__") hit.typeIs slot_listiter_next
    (wpAny_call_entry slot_listiter_next hit.typeIs entry_listiter_next ?_ (args_listiter_next _)))
  show wpAny _ _ (field (.ref it) 0 >>= _) _ _ s
  refine wpAny_bind (wpAny_field ho hd (x := .ref l) rfl ?_)
  show wpAny _ _ (if (Value.ref l == Value.none) = true then _ else _) _ _ s
  rw [if_neg (show ¬ ((Value.ref l == Value.none) = true) from Bool.false_ne_true)]
  show wpAny _ _ (field (.ref it) 1 >>= _) _ _ s
  refine wpAny_bind (wpAny_field ho hd (x := .int i 0) rfl ?_)
  show wpAny _ _ (seqItems? (.ref l) >>= _) _ _ s
  refine wpAny_bind (wpAny_seqItems hol hdl ?_)
  simp only [Int.toNat_natCast, hx]
  refine wpAny_bind (wpAny_rule (wpAny_bind (wpAny_setField ho hd (by simp) ?_)))
  show wpAny _ _ (newExc (.type "StopIteration") [] >>= _) _ _ _
  refine wpAny_bind ?_
  simp only [newExc, newTuple]
  refine wpAny_bind (wpAny_newObj_type ?_ (by size_fits))
  refine wpAny_bind (m := firstArgMember _ _) (wpAny_of_eq (a := Value.none) (by first | rfl | (simp only [firstArgMember]; rfl)) ?_)
  refine wpAny_newObj_type ?_ (by size_fits)
  simp only [raiseNew]
  refine wpAny_bind (wpAny_handled ?_)
  first | rw [show A.in1.handled = none from hh] | rw [hh]
  refine wpAny_bind (wpAny_pure (wpAny_throw ?_))
  exact hE _ _ (((Heap.SameBut.update ..).extBut.push _).push _) ⟨_, Heap.get?_push_size _ rfl, rfl⟩
theorem acc_item {z it l : Addr} {k : Nat} {xs : Array Value} {S x : Int} {t u : Tok} {Q : Option Value → Shared → Prop} (hn : it ≠ z) (hlz : l ≠ z)
    (hz : IsAcc s.heap z it (.int S t)) (h1 : s.heap.IsListIter it l k) (hl : s.heap.IsList l xs) (hx : xs[k]? = some (.int x u))
    (hQ : ∀ h' tk v, IsAcc h' z it (.int (S + x) v) → h'.IsListIter it l (k + 1) → h'.objs.size = s.heap.objs.size → (∀ c o, c ≠ z → c ≠ it → s.heap.get? c = some o → h'.get? c = some o) → Q (some (.int (S + x) v)) { s with heap := h', toks := tk }) :
    wpAny (model prog w) A (pyNext (.ref z)) Q E s := by
  have hTy : s.TypeIs (.ref z) "itertools.accumulate" := ⟨_, hz, rfl⟩
  unfold pyNext
  refine wpAny_bind (wpAny_attempt (wpAny_callSpecial?_slot (name := Str.ofString "__next__") hTy F.slot_accum_next (wpAny_call_entry F.slot_accum_next hTy F.entry_accum_next ?_ (F.args_accum_next _))))
  show wpAny _ _ (field (.ref z) 3 >>= _) _ _ _
  refine wpAny_bind (wpAny_field hz rfl (x := .none) rfl ?_)
  simp only [bne_self_eq_false, Bool.false_eq_true, if_false]
  refine wpAny_bind (wpAny_field hz rfl (x := .ref it) rfl ?_)
  refine wpAny_bind (raw_item h1 hl hx fun h₁ h1₁ hs₁ => ?_)
  have hz₁ : IsAcc h₁ z it (.int S t) := hs₁.extBut _ _ hn.symm hz
  refine wpAny_bind (wpAny_field hz₁ rfl (x := .int S t) rfl ?_)
  by_cases c : (Value.int S t == Builtin.Itertools.itNothing) = true
  · have e := eq_of_beq c
    have eS : S = 0 := by injection e
    subst eS
    rw [if_pos c]
    refine wpAny_bind (wpAny_rule ?_)
    refine wpAny_bind (wpAny_setField_rec hz₁ (by simp) fun h₂ hz₂ hs₂ => ?_)
    have e0 : (0 : Int) + x = x := Int.zero_add x
    rw [e0] at hQ
    refine wpAny_pure ⟨_, rfl, wpAny_pure ?_⟩
    exact hQ h₂ _ u hz₂ (h1₁.extBut hs₂.extBut hn) (by rw [hs₂.1, hs₁.1]) (fun c o c1 c2 e => hs₂.extBut _ _ c1 (hs₁.extBut _ _ c2 e))
  · rw [if_neg c]
    refine wpAny_bind (wpAny_field hz₁ rfl (x := .none) rfl ?_)
    refine wpAny_bind (wpAny_holding ?_)
    rw [if_pos (show (Value.none == Value.none) = true from rfl)]
    refine wpAny_add_int ?_
    refine wpAny_bind (wpAny_setField_rec hz₁ (by simp) fun h₂ hz₂ hs₂ => ?_)
    refine wpAny_bind (wpAny_letGo ?_)
    refine wpAny_pure ⟨_, rfl, wpAny_pure ?_⟩
    exact hQ h₂ _ _ hz₂ (h1₁.extBut hs₂.extBut hn) (by rw [hs₂.1, hs₁.1]) (fun c o c1 c2 e => hs₂.extBut _ _ c1 (hs₁.extBut _ _ c2 e))
theorem acc_end {z it l : Addr} {k : Nat} {xs : Array Value} {tot : Value} {Q : Option Value → Shared → Prop} (hh : A.handled = none)
    (hz : IsAcc s.heap z it tot) (h1 : s.heap.IsListIter it l k) (hl : s.heap.IsList l xs) (hx : xs[k]? = none)
    (hQ : ∀ h', (∀ c o, c ≠ z → c ≠ it → s.heap.get? c = some o → h'.get? c = some o) → Q none { s with heap := h' }) :
    wpAny (model prog w) A (pyNext (.ref z)) Q E s := by
  have hTy : s.TypeIs (.ref z) "itertools.accumulate" := ⟨_, hz, rfl⟩
  unfold pyNext
  refine wpAny_bind (wpAny_attempt (wpAny_callSpecial?_slot (name := Str.ofString "__next__") hTy F.slot_accum_next (wpAny_call_entry F.slot_accum_next hTy F.entry_accum_next ?_ (F.args_accum_next _))))
  show wpAny _ _ (field (.ref z) 3 >>= _) _ _ _
  refine wpAny_bind (wpAny_field hz rfl (x := .none) rfl ?_)
  simp only [bne_self_eq_false, Bool.false_eq_true, if_false]
  refine wpAny_bind (wpAny_field hz rfl (x := .ref it) rfl ?_)
  refine wpAny_bind (raw_end hh h1 hl hx fun h₁ e hs₁ he => ?_)
  obtain ⟨o, ho, hc⟩ := he
  refine wpAny_bind (wpAny_isInstance (T := "StopIteration") (b := true) ⟨o, ho, hc⟩ isSubtype_stop ?_)
  exact wpAny_pure (hQ _ fun c o _ c2 e => hs₁ _ _ c2 e)
theorem acc_self {z it : Addr} {tot : Value} {Q : Value → Shared → Prop} (hz : IsAcc s.heap z it tot) (h : Q (.ref z) s) : wpAny (model prog w) A (pyIter (.ref z)) Q E s := by
  have hT : s.TypeIs (.ref z) "itertools.accumulate" := ⟨_, hz, rfl⟩
  refine wpAny_pyIter_slot hT F.slot_accum_iter (wpAny_call_entry F.slot_accum_iter hT F.entry_accum_iter ?_ (F.args_accum_iter _))
  show wpAny _ _ (ret (.ref z)) _ _ s
  exact wpAny_pure ⟨_, rfl, "itertools.accumulate", _, hT, F.slot_accum_next.lookup, h⟩
theorem accum_bind (l : Addr) : Builtin.Itertools.itBindNamed "accumulate" ["iterable", "func", "initial"] 1 2 [.ref l] [] = pure [some (.ref l), none, none] := by kernel_rfl
theorem accum_class {l : Addr} {prog : Program} {w : World} {A : Around} {E : Value → Shared → Prop} {s : Shared} {Q : Value × List Value → Shared → Prop} (q : Q (.type "itertools.accumulate", [.ref l]) s) :
    wpAny (model prog w) A (Builtin.Itertools.itClassAndRest "accumulate" ⟨[.type "itertools.accumulate", .ref l], []⟩) Q E s := by
  obtain ⟨hp, g, d, tk, os⟩ := s
  have hsub : isSubtype (.type "itertools.accumulate") (.type ("itertools." ++ "accumulate")) = pure true := by
    rw [show ("itertools." ++ "accumulate" : String) = "itertools.accumulate" from by decide]; exact F.sub_accum
  wp_walk
  exact q
theorem accum_record {l : Addr} {prog : Program} {w : World} {A : Around} {E : Value → Shared → Prop} {s : Shared} {x : Value} {Q : Value → Shared → Prop} (q : Q (.ref s.heap.objs.size) { s with heap := s.heap.push { cls := .type "itertools.accumulate", data := .fields #[x, .none, .int 0 0, .none] } }) :
    wpAny (model prog w) A (Builtin.Itertools.itNewRecord (.type "itertools.accumulate") [x, .none, .int 0 0, .none]) Q E s := by
  unfold Builtin.Itertools.itNewRecord
  rw [if_pos (show (!typeHasDict (.type "itertools.accumulate")) = true from by decide +kernel)]
  exact wpAny_newObj_type q (by size_fits)
theorem meets_accum_new (l : Addr) (xs : Array Value) :
    Meets (Builtin.«itertools.accumulate.__new__» ⟨[.type "itertools.accumulate", .ref l], []⟩) (fun _ R s => s.heap.IsList l xs ∧
      R (.ok (.ret (.ref (s.heap.objs.size + 1)))) { s with heap := (s.heap.push { cls := .type "list_iterator", data := .fields #[.ref l, .int 0 0] }).push { cls := .type "itertools.accumulate", data := .fields #[.ref s.heap.objs.size, .none, .int 0 0, .none] } }) :=
  .of_wp fun prog w A R s h => by
    obtain ⟨hp, g, d, tk, os⟩ := s; obtain ⟨hl, h⟩ := h
    have hL : Heap.IsList (Shared.heap ⟨hp, g, d, tk, os⟩) l xs := hl
    show wpAny _ _ (Builtin.Itertools.itClassAndRest "accumulate" _ >>= _) _ _ _
    refine wpAny_bind (accum_class ?_)
    show wpAny _ _ (Builtin.Itertools.itBindNamed "accumulate" ["iterable", "func", "initial"] 1 2 [.ref l] [] >>= _) _ _ _
    rw [accum_bind]
    refine wpAny_bind (wpAny_pure ?_)
    show wpAny _ _ (pyIter (.ref l) >>= _) _ _ _
    refine wpAny_bind (wpAny_pyIter_list hL ?_)
    refine wpAny_bind (accum_record (l := l) ?_)
    rw [Heap.size_push]
    exact wpAny_pure ⟨_, rfl, h⟩
/-- accumulate(xs) -/
theorem call_accum {l : Addr} {xs : Array Value} {Q : Value → Shared → Prop} (hl : s.heap.IsList l xs)
    (h : ∀ h', IsAcc h' (s.heap.objs.size + 1) s.heap.objs.size (.int 0 0) → h'.IsListIter s.heap.objs.size l 0 → h'.objs.size = s.heap.objs.size + 2 → (∀ c o, s.heap.get? c = some o → h'.get? c = some o) → Q (.ref (s.heap.objs.size + 1)) { s with heap := h' }) :
    wpAny (model prog w) A (call (.type "itertools.accumulate") [.ref l]) Q E s := by
  refine callType_new F.called_accum (by decide) (F.typeCall_accum _) (F.newCall_accum _) (fun obj => F.args_object_init_2 obj _) F.entry_accum_new
    (meets_accum_new l xs) ⟨hl, ?_⟩
  have z1 : (s.heap.push { cls := .type "list_iterator", data := .fields #[.ref l, .int 0 0] }).objs.size = s.heap.objs.size + 1 := Heap.size_push ..
  have g2 : ((s.heap.push { cls := .type "list_iterator", data := .fields #[.ref l, .int 0 0] }).push { cls := .type "itertools.accumulate", data := .fields #[.ref s.heap.objs.size, .none, .int 0 0, .none] }).get? (s.heap.push { cls := .type "list_iterator", data := .fields #[.ref l, .int 0 0] }).objs.size = some _ := Heap.get?_push_size _ rfl
  rw [z1] at g2
  have g1 : ((s.heap.push { cls := .type "list_iterator", data := .fields #[.ref l, .int 0 0] }).push { cls := .type "itertools.accumulate", data := .fields #[.ref s.heap.objs.size, .none, .int 0 0, .none] }).get? s.heap.objs.size = some _ := Heap.get?_push_of_some _ (Heap.get?_push_size _ rfl)
  exact ⟨⟨_, g2, rfl⟩, h _ g2 ⟨_, g1, rfl, rfl⟩ (by rw [Heap.size_push, z1]) fun c o x => Heap.get?_push_of_some _ (Heap.get?_push_of_some _ x)⟩
end
/-- the sum of the first i -/
def psum (ns : List Int) : Nat → Int
  | 0 => 0
  | i + 1 => psum ns i + ns.getD i 0
/-- an array of these ints -/
def IntsA (ns : List Int) (xs : Array Value) : Prop := xs.size = ns.length ∧ ∀ j, j < ns.length → ∃ t, xs[j]? = some (.int (ns.getD j 0) t)
section
variable {prog : Program} {w : World} {A : Around} {s : Shared} {R : Result → Shared → Prop} {ns : List Int} {xs : Array Value}
structure Alt (z it l S : Addr) : Prop where
  pz : z < S
  pit : it < S
  pl : l < S
  iz : it ≠ z
  lz : l ≠ z
  li : l ≠ it
theorem acc_loop {z it l S : Addr} (hh : A.handled = none) (L : Alt z it l S) (hn : ns.length ≤ sizeLine) (hx : IntsA ns xs) (res : Value) {h₁ : Heap}
    (hR : ∀ h' tk acc c, (∀ b o, b ≠ S → b ≠ z → b ≠ it → h₁.get? b = some o → h'.get? b = some o) → h'.get? S = some { cls := .type "list", dict := none, data := .seq acc c, slots := #[] } → acc.size = ns.length →
      (∀ j, j < ns.length → ∃ t, acc[j]? = some (.int (psum ns (j + 1)) t)) → R (.ok (.ret res)) { s with heap := h', toks := tk }) :
    ∀ (k i : Nat) (h : Heap) (tk c : Nat) (acc : Array Value) (v : Tok), ns.length - i = k → i ≤ ns.length → IsAcc h z it (.int (psum ns i) v) → h.IsListIter it l i → h.IsList l xs → (∀ b o, b ≠ S → b ≠ z → b ≠ it → h₁.get? b = some o → h.get? b = some o) →
      h.get? S = some { cls := .type "list", dict := none, data := .seq acc c, slots := #[] } → acc.size = i → (∀ j, j < i → ∃ t, acc[j]? = some (.int (psum ns (j + 1)) t)) →
      codeAny (model prog w) A (.builtin "list.extend.loop" ⟨[.ref S, .ref z, res], []⟩) R { s with heap := h, toks := tk } := by
  have nS : ∀ {c : Addr}, c < S → S ≠ c := fun l => Nat.ne_of_gt l
  intro k
  induction k with
  | zero =>
    intro i h tk c acc v hk hi hz h1 hl hkeep hS hsz hacc
    obtain rfl : i = ns.length := by omega
    refine codeAny_builtin PySem.F.entry_extend_loop ?_
    rw [Around.under_plainId PySem.F.plain_extend_loop _]
    show wpAny _ A.in1 (pyNext (.ref z) >>= _) _ _ _
    refine wpAny_bind (acc_end (s := { s with heap := h, toks := tk }) (A := A.in1) hh hz h1 hl (Array.getElem?_eq_none (by rw [hx.1]; exact Nat.le_refl _)) fun h' he => ?_)
    exact wpAny_pure (hR h' tk acc c (fun b o h1 h2 h3 e => he b o h2 h3 (hkeep b o h1 h2 h3 e)) (he S _ (nS L.pz) (nS L.pit) hS) hsz hacc)
  | succ k ih =>
    intro i h tk c acc v hk hi hz h1 hl hkeep hS hsz hacc
    have hlt : i < ns.length := by omega
    obtain ⟨u, hu⟩ := hx.2 i hlt
    refine codeAny_builtin PySem.F.entry_extend_loop ?_
    rw [Around.under_plainId PySem.F.plain_extend_loop _]
    show wpAny _ A.in1 (pyNext (.ref z) >>= _) _ _ _
    refine wpAny_bind (acc_item (s := { s with heap := h, toks := tk }) L.iz L.lz hz h1 hl hu fun h' tk' v' hz' h1' hsz' hkp => ?_)
    dsimp only at hsz' hkp ⊢
    have hS' := hkp S _ (nS L.pz) (nS L.pit) hS
    have up : ∀ b o, b ≠ S → h'.get? b = some o → (h'.update S (Obj.mapSeq (·.push (Value.int (psum ns i + ns.getD i 0) v')))).get? b = some o := fun b o hb e => (Heap.get?_update_other _ _ (Ne.symm hb)).trans e
    show wpAny _ A.in1 (updateSeq S (·.push (Value.int (psum ns i + ns.getD i 0) v')) >>= _) _ _ _
    refine wpAny_bind ?_
    refine wpAny_updateSeq hS' rfl (wpAny_pure ⟨plainId_quiet PySem.F.plain_extend_loop _, ih (i + 1) _ tk' _ (acc.push (Value.int (psum ns i + ns.getD i 0) v')) v' (by omega) hlt
      (up z _ (Nat.ne_of_lt L.pz) hz') (h1'.at fun o e => up _ o (Nat.ne_of_lt L.pit) e) (hl.at fun o e => up _ o (Nat.ne_of_lt L.pl) (hkp _ _ L.lz L.li e))
      (fun b o h1 h2 h3 e => up b o h1 (hkp b o h2 h3 (hkeep b o h1 h2 h3 e))) (Heap.get?_update_self _ hS' rfl) (by rw [Array.size_push, hsz]) (fun j hj => ?_)⟩) (by rw [hsz]; omega) (by show (acc.push (Value.int (psum ns i + ns.getD i 0) v')).size ≤ sizeLine + 1; rw [Array.size_push, hsz]; omega)
    rcases Nat.lt_or_ge j i with h | h
    · obtain ⟨t, e⟩ := hacc j h
      exact ⟨t, by rw [Array.getElem?_push, if_neg (by omega)]; exact e⟩
    · obtain rfl : j = i := by omega
      exact ⟨v', by rw [Array.getElem?_push, if_pos hsz.symm]; rfl⟩
theorem acc_extend {z it l S : Addr} {v : Tok} (hh : A.handled = none) (L : Alt z it l S) (hn : ns.length ≤ sizeLine) (hx : IntsA ns xs) (res : Value) (c₀ : Nat) (hz : IsAcc s.heap z it (.int 0 v)) (h1 : s.heap.IsListIter it l 0) (hl : s.heap.IsList l xs)
    (hS : s.heap.get? S = some { cls := .type "list", data := .seq #[] c₀ })
    (hR : ∀ h' tk acc c, (∀ b o, b ≠ S → b ≠ z → b ≠ it → s.heap.get? b = some o → h'.get? b = some o) → h'.get? S = some { cls := .type "list", dict := none, data := .seq acc c, slots := #[] } → acc.size = ns.length →
      (∀ j, j < ns.length → ∃ t, acc[j]? = some (.int (psum ns (j + 1)) t)) → R (.ok (.ret res)) { s with heap := h', toks := tk }) :
    wpAny (model prog w) A.in1 (Builtin.List.listExtendWith (.ref S) (.ref z) res)
      (fun fin s' => match fin with | .done f => R (.ok f) s' | .again c' => c'.quiet = true ∧ codeAny (model prog w) A c' R s') (fun e s' => R (.error e) s') s := by
  have hT : s.TypeIs (.ref z) "itertools.accumulate" := ⟨_, hz, rfl⟩
  unfold Builtin.List.listExtendWith
  refine wpAny_bind (wpAny_typeOf (T := "itertools.accumulate") hT ?_)
  have h1' : Builtin.List.listSameRef (.ref S) (.ref z) = false := by
    have : S ≠ z := Nat.ne_of_gt L.pz
    simp [Builtin.List.listSameRef, this]
  have h2 : (Value.type "itertools.accumulate" == Value.type "list") = false := by decide
  have h3 : (Value.type "itertools.accumulate" == Value.type "tuple") = false := by decide
  simp only [h1', h2, h3, Bool.or_false, Bool.false_eq_true, if_false]
  refine wpAny_bind (acc_self hz ?_)
  refine wpAny_bind (wpAny_holding ?_)
  unfold Builtin.List.listLengthHint
  refine wpAny_bind (wpAny_specialOf hT accum_no_len ?_)
  show wpAny _ A.in1 (specialOf (Value.ref z) (Str.ofString "__length_hint__") >>= _) _ _ _
  refine wpAny_bind (wpAny_specialOf hT accum_no_hint ?_)
  refine wpAny_pure ?_
  show wpAny _ A.in1 (rule "list.extend.makes-room" >>= fun _ => Builtin.List.listTouch (.ref S) >>= fun _ =>
    again (.builtin "list.extend.loop" ⟨[.ref S, .ref z, res], []⟩)) _ _ _
  refine wpAny_bind (wpAny_rule ?_)
  refine wpAny_bind ?_
  show wpAny _ A.in1 (updateSeq S (·.push .none) >>= fun _ => updateSeq S (·.pop)) _ _ _
  refine wpAny_bind (wpAny_updateSeq hS rfl ?_)
  have hS₂ := Heap.get?_update_self (Obj.mapSeq (·.push Value.none)) hS rfl
  refine wpAny_updateSeq (hz := by seq_fits) hS₂ rfl ?_
  have hS₃ := Heap.get?_update_self (Obj.mapSeq (·.pop)) hS₂ rfl
  have oth : ∀ b o, b ≠ S → s.heap.get? b = some o → ((s.heap.update S (Obj.mapSeq (·.push Value.none))).update S (Obj.mapSeq (·.pop))).get? b = some o :=
    fun b o hb e => (Heap.get?_update_other _ _ (Ne.symm hb)).trans ((Heap.get?_update_other _ _ (Ne.symm hb)).trans e)
  exact wpAny_pure ⟨plainId_quiet F.plain_extend_loop _, acc_loop (h₁ := s.heap) hh L hn hx res hR _ 0 _ s.toks _ #[] v rfl (Nat.zero_le _) (oth _ _ (Nat.ne_of_lt L.pz) hz) (h1.at fun o e => oth _ o (Nat.ne_of_lt L.pit) e) (hl.at fun o e => oth _ o (Nat.ne_of_lt L.pl) e) (fun b o h1 _ _ e => oth b o h1 e) hS₃ rfl
    (fun j hj => absurd hj (Nat.not_lt_zero _))⟩
theorem acc_init {z it l S : Addr} {v : Tok} (hh : A.handled = none) (L : Alt z it l S) (hn : ns.length ≤ sizeLine) (hx : IntsA ns xs) (hz : IsAcc s.heap z it (.int 0 v)) (h1 : s.heap.IsListIter it l 0) (hl : s.heap.IsList l xs)
    (hS : s.heap.get? S = some { cls := .type "list", data := .seq #[] })
    (hR : ∀ h' tk acc c, (∀ b o, b ≠ S → b ≠ z → b ≠ it → s.heap.get? b = some o → h'.get? b = some o) → h'.get? S = some { cls := .type "list", dict := none, data := .seq acc c, slots := #[] } → acc.size = ns.length →
      (∀ j, j < ns.length → ∃ t, acc[j]? = some (.int (psum ns (j + 1)) t)) → R (.ok (.ret .none)) { s with heap := h', toks := tk }) :
    wpAny (model prog w) A.in1 (Builtin.«list.__init__» ⟨[.ref S, .ref z], []⟩)
      (fun fin s' => match fin with | .done f => R (.ok f) s' | .again c' => c'.quiet = true ∧ codeAny (model prog w) A c' R s') (fun e s' => R (.error e) s') s := by
  show wpAny _ _ (do let old ← Builtin.List.listItems (.ref S); Builtin.List.listUpdate (.ref S) (fun _ => #[]); letGo old.toList.reverse; Builtin.List.listExtendWith (.ref S) (.ref z) .none) _ _ s
  refine wpAny_bind ?_
  unfold Builtin.List.listItems
  refine wpAny_bind (wpAny_seqItems hS rfl (wpAny_pure ?_))
  show wpAny _ _ (updateSeq S (fun _ => #[]) >>= fun _ => letGo (#[] : Array Value).toList.reverse >>= fun _ => Builtin.List.listExtendWith (.ref S) (.ref z) .none) _ _ s
  refine wpAny_bind (wpAny_updateSeq hS rfl ?_)
  have hS₂ := Heap.get?_update_self (Obj.mapSeq (fun _ => (#[] : Array Value))) hS rfl
  have oth : ∀ b o, b ≠ S → s.heap.get? b = some o → (s.heap.update S (Obj.mapSeq (fun _ => (#[] : Array Value)))).get? b = some o :=
    fun b o hb e => (Heap.get?_update_other _ _ (Ne.symm hb)).trans e
  refine wpAny_bind (wpAny_letGo ?_)
  exact acc_extend hh L hn hx .none _ (oth _ _ (Nat.ne_of_lt L.pz) hz) (h1.at fun o e => oth _ o (Nat.ne_of_lt L.pit) e) (hl.at fun o e => oth _ o (Nat.ne_of_lt L.pl) e) hS₂ (fun h' tk acc c hk hS' hl hacc => hR h' tk acc c (fun b o h1 h2 h3 e => hk b o h1 h2 h3 (oth b o h1 e)) hS' hl hacc)
/-- list(z), z an accumulate that was just made -/
theorem acc_call {z it l : Addr} {v : Tok} {E : Value → Shared → Prop} {Q : Value → Shared → Prop} (hh : A.handled = none) (L : Alt z it l s.heap.objs.size) (hn : ns.length ≤ sizeLine) (hx : IntsA ns xs) (hz : IsAcc s.heap z it (.int 0 v)) (h1 : s.heap.IsListIter it l 0) (hl : s.heap.IsList l xs)
    (hQ : ∀ h' tk acc c, (∀ b o, b ≠ z → b ≠ it → s.heap.get? b = some o → h'.get? b = some o) → h'.get? s.heap.objs.size = some { cls := .type "list", dict := none, data := .seq acc c, slots := #[] } → acc.size = ns.length →
      (∀ j, j < ns.length → ∃ t, acc[j]? = some (.int (psum ns (j + 1)) t)) → Q (.ref s.heap.objs.size) { s with heap := h', toks := tk }) :
    wpAny (model prog w) A (call (.type "list") [.ref z]) Q E s := by
  refine callType_codes (Q₁ := fun obj s₁ => obj = .ref s.heap.objs.size ∧ s₁ = { s with heap := s.heap.push { cls := .type "list", data := .seq #[] } }) PySem.F.called_list (PySem.F.typeCall_list_1 _) PySem.F.entry_list_init
    (code_list_new _ ⟨rfl, rfl⟩) fun obj s₁ h₁ => ?_
  obtain ⟨rfl, rfl⟩ := h₁
  have hS : (s.heap.push { cls := .type "list", data := .seq #[] }).get? s.heap.objs.size = some { cls := .type "list", data := .seq #[] } := Heap.get?_push_size _ rfl
  refine ⟨⟨_, hS, rfl⟩, PySem.F.args_list_init_2 _ _, acc_init (A := A.in1) hh L hn hx (Heap.get?_push_of_some _ hz) (h1.at fun o e => Heap.get?_push_of_some _ e) (hl.at fun o e => Heap.get?_push_of_some _ e) hS (fun h' tk acc c hk hS' hl hacc => ?_)⟩
  exact ⟨rfl, hQ h' tk acc c (fun b o h2 h3 e => hk b o (Nat.ne_of_lt (Heap.lt_size e)) h2 h3 (Heap.get?_push_of_some _ e)) hS' hl hacc⟩
end
end SH
namespace SH
open PySem PySem.Spec PyProof.Rows L2
/-- list(accumulate(e)), a list of ints -/
def tListAcc (K : PySem.W.Frag) (ta : TA) : TE := fun σ H Q => ta σ H fun vs H1 => ∃ (a : Addr) (ns : List Int), vs = [.ref a] ∧ SqL K H1 a (ns.map V.int) ∧
  ∀ p : Addr, H1 p = none → Q (.ref p) (upd H1 p (.lst ((List.range ns.length).map fun j => V.int (psum ns (j + 1)))))
theorem intsA_of {ns : List Int} {us : List Value} (r : Vals (ns.map V.int) us) : IntsA ns us.toArray := by
  have l := r.length
  rw [List.length_map] at l
  refine ⟨by rw [List.size_toArray]; exact l.symm, fun j hj => ?_⟩
  obtain ⟨u, e, t, hu⟩ := r.get (i := j) (x := V.int (ns.getD j 0)) (by rw [List.getElem?_map, List.getD_eq_getElem?_getD, List.getElem?_eq_getElem hj]; rfl)
  subst hu
  exact ⟨t, by rw [List.getElem?_toArray]; exact e⟩
theorem pe_listAcc {X : Cx} {e : Expr} {ta : TA} {p q zpos pos : Pos} (hg : Gl X "list") (hm : X.mg "list" = none) (hg2 : Gl X "accumulate") (hm2 : X.mg "accumulate" = some (.type "itertools.accumulate")) (ha : PA X [e] ta) (hc : X.calm = true := by rfl)
    (hs : starEach [.Call (.Name "accumulate" q) [e] [] zpos] X.env = (false, eval (.Call (.Name "accumulate" q) [e] [] zpos) X.env) :: starEach [] X.env := by rfl)
    (hs2 : starEach [e] X.env = (false, eval e X.env) :: starEach [] X.env := by rfl) (hpl2 : (backTo zpos (starEach [] X.env)).any (·.1) = false := by rfl) :
    PE X (.Call (.Name "list" p) [.Call (.Name "accumulate" q) [e] [] zpos] [] pos) (tListAcc X.K ta) := by
  refine ⟨fun pins s σ H Q I hq => ?_⟩
  have hv : bootBuiltins "list" = some (.type "list") := by decide +kernel
  refine wpAny_Call_Name_kw (ld_blt I hg hm hv ?_)
  refine PyProof.Rows.callWith_type1 ?_ hs rfl
  rw [hs]
  show wpAny _ _ (spliced ((false, eval (.Call (.Name "accumulate" q) [e] [] zpos) X.env) :: backTo pos (starEach [] X.env))) _ _ s
  refine Calls.spliced_cons ?_
  refine Call_ (ld_glob I hg2 hm2 (PyProof.Rows.callWith_type1 (thn (ha.run zpos pins s σ H _ I hq) fun us s1 ⟨vs, H1, I1, r1, q1⟩ => ?_) hs2 hpl2))
  obtain ⟨a, ns, rfl, hqx, q1⟩ := q1
  rw [Vals.ref1 r1]
  obtain ⟨its, rv, p1, z1⟩ := I1.list hqx
  rw [List.length_map] at z1
  have lx : (ns.map V.int).length = its.length := Paired.length rv
  rw [List.length_map] at lx
  refine call_accum p1.isList fun h0 hz h1 hsz hk0 => Calls.spliced_nil ?_
  have la : a < s1.heap.objs.size := p1.lt
  have L : Alt (s1.heap.objs.size + 1) s1.heap.objs.size a h0.objs.size := by
    rw [hsz]
    exact ⟨Nat.add_lt_add_left (by decide : 1 < 2) _, Nat.lt_add_of_pos_right (by decide), Nat.lt_of_lt_of_le la (Nat.le_add_right _ _), Nat.ne_of_lt (Nat.lt_succ_self _), Nat.ne_of_lt (Nat.lt_succ_of_lt la), Nat.ne_of_lt la⟩
  refine acc_call (s := { s1 with heap := h0 }) (ns := ns) (xs := its.toArray) (I1.ok.hd hc) L (by omega) (intsA_of rv) hz h1 (p1.isList.at fun o e => hk0 _ o e) fun h' tk acc c hk hS hsz' hacc => ?_
  have kk : ∀ b o, s1.heap.get? b = some o → h'.get? b = some o := fun b o e => by
    have := Heap.lt_size e
    exact hk b o (Nat.ne_of_lt (Nat.lt_succ_of_lt this)) (Nat.ne_of_lt this) (hk0 b o e)
  have le : s1.heap.objs.size ≤ h0.objs.size := by rw [hsz]; exact Nat.le_add_right _ _
  have va : Vals ((List.range ns.length).map fun j => V.int (psum ns (j + 1))) acc.toList := by
    have := vals_of_get acc.toList (fun j => V.int (psum ns (j + 1))) fun j u e => by
      rw [Array.getElem?_toList] at e
      have jl : j < ns.length := by rw [← hsz']; exact (Array.getElem?_eq_some_iff.mp e).1
      obtain ⟨t, e2⟩ := hacc j jl
      rw [e] at e2
      exact ⟨t, Option.some.inj e2⟩
    rw [Array.length_toList, hsz'] at this
    exact this
  exact ⟨.ref _, upd H1 h0.objs.size (.lst ((List.range ns.length).map fun j => V.int (psum ns (j + 1)))), I1.laid (t' := tk) kk le ⟨by rw [List.length_map, List.length_range]; omega, acc.toList, c, va, by rw [Array.toArray_toList]; exact hS⟩, rfl, q1 _ (I1.hok.fresh le)⟩
end SH

/-! SH26: xs < ys of two lists of ints. -/
namespace SH
open PySem PySem.Spec PyProof.Rows L2
def rLtL (K : PySem.W.Frag) : R2 := fun x y H Q => ∃ a b ns ms, x = .ref a ∧ y = .ref b ∧ SqL K H a (iv ns) ∧ SqL K H b (iv ms) ∧ Q (.bl (HT.lexLt ns ms)) H
theorem firstLt_lex {e r : Nat → Bool} : ∀ (ns ms : List Int) (k : Nat), (∀ j, e (k + j) = (ns.getD j 0 == ms.getD j 0)) → (∀ j, r (k + j) = decide (ns.getD j 0 < ms.getD j 0)) →
    SeqAt.firstLt e r (decide (ns.length < ms.length)) (List.range' k (min ns.length ms.length)) = HT.lexLt ns ms
  | [], [], _, _, _ => rfl
  | [], _ :: _, k, _, _ => by
    rw [List.length_nil, Nat.zero_min]
    exact decide_eq_true (Nat.succ_pos _)
  | _ :: _, [], k, _, _ => rfl
  | n :: ns, m :: ms, k, he, hr => by
    rw [List.length_cons, List.length_cons, show min (ns.length + 1) (ms.length + 1) = min ns.length ms.length + 1 by omega, List.range'_succ, HT.lexLt_cons]
    have e0 : e k = (n == m) := he 0
    have r0 : r k = decide (n < m) := hr 0
    by_cases c : n = m
    · rw [if_pos c, SeqAt.firstLt_yes (by rw [e0, c]; exact beq_self_eq_true m), show decide (ns.length + 1 < ms.length + 1) = decide (ns.length < ms.length) by rw [Bool.eq_iff_iff]; simp]
      exact firstLt_lex ns ms (k + 1) (fun j => by rw [show k + 1 + j = k + (j + 1) by omega, he]; rfl) (fun j => by rw [show k + 1 + j = k + (j + 1) by omega, hr]; rfl)
    · rw [if_neg c, SeqAt.firstLt_no (by rw [e0]; simpa using c), r0]
theorem op_ltL {X : Cx} (hu : X.A.units < cLine) : OpR X (compareOp .Lt) (rLtL X.K) := by
  intro pins s σ H x y v u Q I rx ry h
  obtain ⟨a, b, ns, ms, rfl, rfl, ha, hb, q⟩ := h
  cases rx
  cases ry
  obtain ⟨its, r1, p1, _⟩ := I.list ha
  obtain ⟨its2, r2, p2, _⟩ := I.list hb
  have l1 : its.length = ns.length := by rw [← r1.length, List.length_map]
  have l2 : its2.length = ms.length := by rw [← r2.length, List.length_map]
  have at1 : ∀ {xs : List Int} {us : List Value}, Vals (iv xs) us → ∀ j (h : j < us.length), ∃ t, us[j] = .int (xs.getD j 0) t := by
    intro xs
    induction xs with
    | nil => intro us r j h; cases r; cases h
    | cons x xs ih =>
      intro us r j h
      cases r with
      | cons r0 rs =>
        cases j with
        | zero => obtain ⟨t, e⟩ := r0; exact ⟨t, e⟩
        | succ j => exact ih rs j (Nat.lt_of_succ_lt_succ h)
  have key := SeqAt.RcLt.lists (A := X.A) (s := s) (e := fun j => ns.getD j 0 == ms.getD j 0) (r := fun j => decide (ns.getD j 0 < ms.getD j 0)) p1.isList p2.isList hu (fun j h1 h2 => ?_) (fun j h1 h2 _ => ?_)
  · refine key _ _ _ _ ?_
    have e := firstLt_lex (e := fun j => ns.getD j 0 == ms.getD j 0) (r := fun j => decide (ns.getD j 0 < ms.getD j 0)) ns ms 0 (fun j => by rw [Nat.zero_add]) (fun j => by rw [Nat.zero_add])
    rw [← List.range_eq_range'] at e
    rw [List.size_toArray, List.size_toArray, l1, l2, e]
    exact ⟨.bl _, H, I, rfl, q⟩
  · obtain ⟨t, e1⟩ := at1 r1 j (by simpa using h1)
    obtain ⟨t2, e2⟩ := at1 r2 j (by simpa using h2)
    have e1' : its.toArray[j] = .int (ns.getD j 0) t := by simpa using e1
    have e2' : its2.toArray[j] = .int (ms.getD j 0) t2 := by simpa using e2
    rw [e1', e2']
    exact SeqAt.EqAt.int_int _ _ _ _
  · obtain ⟨t, e1⟩ := at1 r1 j (by simpa using h1)
    obtain ⟨t2, e2⟩ := at1 r2 j (by simpa using h2)
    have e1' : its.toArray[j] = .int (ns.getD j 0) t := by simpa using e1
    have e2' : its2.toArray[j] = .int (ms.getD j 0) t2 := by simpa using e2
    rw [e1', e2']
    exact fun prog w E Q h => lt_int h
end SH

namespace SH
open PySem PySem.Spec PyProof.Rows L2
def topS (i : Nat) : Stmt := PySem.Challenge.pw_stickyheads_k56_errors_of_shortest_readi.main.body.getD i (.Pass ⟨0, 0, 0, 0⟩)

/-! ### outlines as lists of ints -/
def okFrom : Int → List Int → Bool
  | _, [] => true
  | g, d :: r => decide (0 ≤ d) && decide (d ≤ g) && okFrom (d + 1) r
def isO (ns : List Int) : Bool := decide (1 ≤ ns.length) && decide (ns.length ≤ 200) && okFrom 0 ns
/-- the greatest depth that may stand at place i -/
def gAt (ns : List Int) : Nat → Int
  | 0 => 0
  | i + 1 => ns.getD i 0 + 1
theorem okFrom_drop {ns : List Int} {i : Nat} (h : i < ns.length) (g : Int) : okFrom g (ns.drop i) =
    (decide (0 ≤ ns.getD i 0) && decide (ns.getD i 0 ≤ g) && okFrom (ns.getD i 0 + 1) (ns.drop (i + 1))) := by
  rw [List.drop_eq_getElem_cons h, List.getD_eq_getElem?_getD, List.getElem?_eq_getElem h]
  rfl
theorem okFrom_at {ns : List Int} : ∀ {g : Int} {i : Nat}, okFrom g ns = true → i < ns.length →
    0 ≤ ns.getD i 0 ∧ (∀ j, i = j + 1 → ns.getD i 0 ≤ ns.getD j 0 + 1) ∧ (i = 0 → ns.getD i 0 ≤ g) := by
  induction ns with
  | nil => intro g i _ h; exact absurd h (Nat.not_lt_zero _)
  | cons d r ih =>
    intro g i h hi
    simp only [okFrom, Bool.and_eq_true, decide_eq_true_eq] at h
    cases i with
    | zero => exact ⟨h.1.1, fun j e => by omega, fun _ => h.1.2⟩
    | succ i =>
      have hi' : i < r.length := Nat.lt_of_succ_lt_succ hi
      obtain ⟨a, b, c⟩ := ih (i := i) h.2 hi'
      refine ⟨a, fun j e => ?_, fun e => by omega⟩
      obtain rfl : i = j := by omega
      cases i with
      | zero => exact c rfl
      | succ i => exact b i rfl
theorem okFrom_of {ns : List Int} : ∀ {g : Int}, (∀ i, i < ns.length → 0 ≤ ns.getD i 0 ∧ (∀ j, i = j + 1 → ns.getD i 0 ≤ ns.getD j 0 + 1) ∧ (i = 0 → ns.getD i 0 ≤ g)) → okFrom g ns = true := by
  induction ns with
  | nil => intro g _; rfl
  | cons d r ih =>
    intro g h
    simp only [okFrom, Bool.and_eq_true, decide_eq_true_eq]
    obtain ⟨a, _, c⟩ := h 0 (Nat.zero_lt_succ _)
    refine ⟨⟨a, c rfl⟩, ih fun i hi => ?_⟩
    obtain ⟨a', b', _⟩ := h (i + 1) (Nat.succ_lt_succ hi)
    refine ⟨a', fun j e => ?_, fun e => ?_⟩
    · subst e
      exact b' (j + 1) rfl
    · subst e
      exact b' 0 rfl
theorem isO_iff {ns : List Int} : isO ns = true ↔ 1 ≤ ns.length ∧ ns.length ≤ 200 ∧ okFrom 0 ns = true := by
  unfold isO
  rw [Bool.and_eq_true, Bool.and_eq_true, decide_eq_true_eq, decide_eq_true_eq, and_assoc]

abbrev s_is_integer_from : Stmt := topS 21
abbrev N_is_integer_from : List Str := ["value", "least"]
abbrev P_is_integer_from : List Str := ["value", "least"]
theorem sc_is_integer_from : FnScope N_is_integer_from P_is_integer_from (defScope s_is_integer_from) := ⟨rfl, rfl, rfl, by decide +kernel, rfl, by decide +kernel, by decide +kernel⟩
abbrev s_is_integer_within : Stmt := topS 22
abbrev N_is_integer_within : List Str := ["value", "least", "greatest"]
abbrev P_is_integer_within : List Str := ["value", "least", "greatest"]
theorem sc_is_integer_within : FnScope N_is_integer_within P_is_integer_within (defScope s_is_integer_within) := ⟨rfl, rfl, rfl, by decide +kernel, rfl, by decide +kernel, by decide +kernel⟩
abbrev s_is_outline : Stmt := topS 27
abbrev N_is_outline : List Str := ["value", "greatest", "depth"]
abbrev P_is_outline : List Str := ["value"]
theorem sc_is_outline : FnScope N_is_outline P_is_outline (defScope s_is_outline) := ⟨rfl, rfl, rfl, by decide +kernel, rfl, by decide +kernel, by decide +kernel⟩
/-! ### values of any kind: is it an int within bounds, is it an outline -/
def geD (d : PyData) (a : Int) : Bool := match d with | .int v => decide (a ≤ v) | _ => false
def inD (d : PyData) (a b : Int) : Bool := match d with | .int v => decide (a ≤ v) && decide (v ≤ b) | _ => false
def nextD (d : PyData) : Int := match d with | .int v => v + 1 | _ => 0
def okFromD : Int → List PyData → Bool
  | _, [] => true
  | g, d :: r => inD d 0 g && okFromD (nextD d) r
def isOD (d : PyData) : Bool := match d with | .list ds => decide (1 ≤ ds.length) && decide (ds.length ≤ 200) && okFromD 0 ds | _ => false
theorem okFromD_ints : ∀ (ns : List Int) (g : Int), okFromD g (ns.map PyData.int) = okFrom g ns
  | [], _ => rfl
  | n :: r, g => by
    show (inD (.int n) 0 g && okFromD (nextD (.int n)) (r.map PyData.int)) = _
    rw [okFromD_ints r]
    rfl
theorem isOD_dI (ns : List Int) : isOD (dI ns) = isO ns := by
  show (decide (1 ≤ (ns.map PyData.int).length) && decide ((ns.map PyData.int).length ≤ 200) && okFromD 0 (ns.map PyData.int)) = _
  rw [okFromD_ints, List.length_map]
  rfl
theorem inD_int {d : PyData} {a b : Int} (h : inD d a b = true) : ∃ v, d = .int v ∧ a ≤ v ∧ v ≤ b := by
  cases d with
  | int v =>
    have h' : (decide (a ≤ v) && decide (v ≤ b)) = true := h
    rw [Bool.and_eq_true, decide_eq_true_eq, decide_eq_true_eq] at h'
    exact ⟨v, rfl, h'.1, h'.2⟩
  | _ => exact absurd h Bool.false_ne_true
/-- the greatest depth that may stand at place i -/
def gD (ds : List PyData) : Nat → Int
  | 0 => 0
  | i + 1 => nextD (ds.getD i .none)
theorem okFromD_drop {ds : List PyData} {i : Nat} {d : PyData} (h : ds[i]? = some d) (g : Int) : okFromD g (ds.drop i) = (inD d 0 g && okFromD (nextD d) (ds.drop (i + 1))) := by
  obtain ⟨hl, e⟩ := List.getElem?_eq_some_iff.mp h
  rw [List.drop_eq_getElem_cons hl, e]
  rfl
theorem getD_of {ds : List PyData} {i : Nat} {d : PyData} (h : ds[i]? = some d) : ds.getD i .none = d := by
  rw [List.getD_eq_getElem?_getD, h]
  rfl
section
variable {P : Program} {w : World} {K : PySem.W.Frag} {mg : Str → Option Value} {base : Heap}
def sp_fromX : Sp := fun vs H Q _ => ∃ (x : V) (d : PyData) (as : List Addr) (a : Int), vs = [x, .int a] ∧ Dx H x d as ∧ Q (.bl (geD d a)) H
theorem ok_is_integer_from (T : Txt mg) (h : At K mg "is_integer_from" s_is_integer_from) :
    Has P w K mg base CX0 1 "is_integer_from" s_is_integer_from P_is_integer_from sp_fromX := by
  refine Has.of h sc_is_integer_from (fun vs H Q E h => ?_) (fun _ _ _ _ _ _ us hl => match us, hl with | [_, _], _ => rfl) (fun f cdv A outer s H vs Q E room qt h => ?_)
  · obtain ⟨v, d, as, a, rfl, _⟩ := h; rfl
  obtain ⟨x, d, as, a, rfl, hd, k⟩ := h
  refine ⟨_, (pss_one (ps_ret (pe_and (pe_callB call_isX (by rfl) T.isinstance (by decide +kernel) (pa_cons (pv 0) (pa_cons (pe_bltn (v := .ty "int") (u := .type "int") (by rfl) T.tint (by decide +kernel) rfl) pa_nil))) (pe_and (pe_not (pe_callB call_isX (by rfl) T.isinstance (by decide +kernel) (pa_cons (pv 0) (pa_cons (pe_bltn (v := .ty "bool") (u := .type "bool") (by rfl) T.bool (by decide +kernel) rfl) pa_nil)))) (pe_one (pe_cmpR op_ge (pv 0) (pv 1) (nomark _))))))), ?_⟩
  refine ⟨_, rfl, x, "int", d, as, _, rfl, hd, kit_int d, _, rfl, ?_⟩
  cases hd with
  | int v => exact iteT ⟨_, rfl, .int v, "bool", _, _, _, rfl, .int v, kit_bool _, _, rfl, _, rfl, iteT ⟨_, rfl, _, rfl, _, _, rfl, rfl, k⟩⟩
  | bl b => exact iteT ⟨_, rfl, .bl b, "bool", _, _, _, rfl, .bl b, kit_bool _, _, rfl, _, rfl, iteF k⟩
  | non => exact iteF k
  | str _ => exact iteF k
  | lst _ _ => exact iteF k
  | tup _ _ => exact iteF k
  | emp _ => exact iteF k
def sp_withinX : Sp := fun vs H Q _ => ∃ (x : V) (d : PyData) (as : List Addr) (a b : Int), vs = [x, .int a, .int b] ∧ Dx H x d as ∧ Q (.bl (inD d a b)) H
theorem ok_is_integer_within (T : Txt mg) (h : At K mg "is_integer_within" s_is_integer_within)
    (g_is_integer_from : Has P w K mg base CX0 1 "is_integer_from" s_is_integer_from P_is_integer_from sp_fromX) :
    Has P w K mg base CX0 2 "is_integer_within" s_is_integer_within P_is_integer_within sp_withinX := by
  refine Has.of h sc_is_integer_within (fun vs H Q E h => ?_) (fun _ _ _ _ _ _ us hl => match us, hl with | [_, _, _], _ => rfl) (fun f cdv A outer s H vs Q E room qt h => ?_)
  · obtain ⟨v, d, as, a, b, rfl, _⟩ := h; rfl
  obtain ⟨x, d, as, a, b, rfl, hd, k⟩ := h
  refine ⟨_, (pss_one (ps_ret (pe_and (pe_has g_is_integer_from (room.mono (by decide)) qt (by rfl) pass0 (pa_cons (pv 0) (pa_cons (pv 1) pa_nil))) (pe_one (pe_cmpR op_le (pv 0) (pv 2) (nomark _)))))), ?_⟩
  refine ⟨_, rfl, _, rfl, x, d, as, a, rfl, hd, _, rfl, ?_⟩
  cases hd with
  | int v =>
    show if decide (a ≤ v) = true then _ else _
    have k' : Q (.bl (decide (a ≤ v) && decide (v ≤ b))) H := k
    by_cases c : a ≤ v
    · rw [decide_eq_true c] at k' ⊢
      rw [Bool.true_and] at k'
      exact iteT ⟨_, rfl, _, rfl, _, _, rfl, rfl, k'⟩
    · rw [decide_eq_false c] at k' ⊢
      rw [Bool.false_and] at k'
      exact iteF k'
  | _ => exact iteF k
def sp_is_outlineX : Sp := fun vs H Q _ => ∃ (x : V) (d : PyData) (as : List Addr), vs = [x] ∧ Dx H x d as ∧ Q (.bl (isOD d)) H
theorem ok_is_outline {t : Tok} (T : Txt mg) (c_MOST_LINES : mg "MOST_LINES" = some (.int 200 t)) (h : At K mg "is_outline" s_is_outline)
    (g_is_integer_within : Has P w K mg base CX0 2 "is_integer_within" s_is_integer_within P_is_integer_within sp_withinX) :
    Has P w K mg base CX0 3 "is_outline" s_is_outline P_is_outline sp_is_outlineX := by
  refine Has.of h sc_is_outline (fun vs H Q E h => ?_) (fun _ _ _ _ _ _ us hl => match us, hl with | [_], _ => rfl) (fun f cdv A outer s H vs Q E room qt h => ?_)
  · obtain ⟨v, a, as, rfl, _⟩ := h; rfl
  obtain ⟨x, d, as, rfl, hd, k⟩ := h
  refine ⟨_, (pss_cons (ps_if (PW.pt (pw_or (pt_cmpR op_neTy (pe_callTy call_typeX (by rfl) T.ttype (by decide +kernel) (pa_cons (pv 0) pa_nil)) (pe_bltn (v := .ty "list") (u := .type "list") (by rfl) T.tlist (by decide +kernel) rfl) (nomark _)) (pw_or1 (pt_not (pt_chain op_le op_le pe_int (pe_callB call_len_seq (by rfl) T.len (by decide +kernel) (pa_cons (pv 0) pa_nil)) (pe_glob (v := .int 200) rfl c_MOST_LINES ⟨_, rfl⟩))))))
        (pss_one (ps_ret pe_bl))
        pss_nil)
      (pss_cons (ps_set (i := 1) sc_is_outline.nd rfl (Or.inl rfl) pe_int)
      (pss_cons (ps_for PassesOwn.never rfl (pi_list (pv 0)) (pg_name (i := 2) sc_is_outline.nd rfl (Or.inl rfl) (hf := Or.inl rfl))
        (pss_cons (ps_if (pt_not (pt_val (pe_has g_is_integer_within (room.mono (by decide)) qt (by rfl) pass0 (pa_cons (pv 2) (pa_cons pe_int (pa_cons (pv 1) pa_nil))))))
          (pss_one (ps_ret pe_bl))
          pss_nil)
        (pss_one (ps_set (i := 1) sc_is_outline.nd rfl (Or.inl rfl) (pe_op op_add (pv 2) pe_int)))))
      (pss_one (ps_ret pe_bl))))), ?_⟩
  refine ⟨_, rfl, x, d, as, rfl, hd, _, _, rfl, rfl, ?_⟩
  have other : tyD d ≠ "list" → isOD d = false := fun e => by
    cases d with
    | list ds => exact absurd rfl e
    | _ => rfl
  refine ⟨by cases d <;> (simp only [tyD]; decide), by decide, _, rfl, ite2 (fun c => ?_) (fun c => ?_)⟩
  · rw [other (of_decide_eq_true c)] at k
    exact k
  cases hd with
  | @lst a xs ds as ha hx =>
    have el := hx.len
    refine ⟨_, rfl, _, _, rfl, .inl (SqL.of ha), _, _, rfl, rfl, _, rfl, ?_⟩
    have no : isOD (.list ds) = false → Q (.bl false) H := fun e => by rw [← e]; exact k
    refine ite2 (fun c => ?_) (fun c => ?_)
    · have c1 := of_decide_eq_true c
      refine ⟨_, _, rfl, rfl, _, rfl, ite2 (fun d => ?_) (fun d => ?_)⟩
      · refine no ?_
        have d1 : ¬ ds.length ≤ 200 := fun z => by rw [decide_eq_true (by omega)] at d; cases d
        show (decide (1 ≤ ds.length) && decide (ds.length ≤ 200) && okFromD 0 ds) = false
        rw [decide_eq_false d1, Bool.and_false, Bool.false_and]
      · have d1 : ds.length ≤ 200 := by
          by_cases z : ds.length ≤ 200
          · exact z
          · exact (d (by rw [decide_eq_false (by omega)]; rfl)).elim
        have e0 : isOD (.list ds) = okFromD 0 ds := by
          show (decide (1 ≤ ds.length) && decide (ds.length ≤ 200) && okFromD 0 ds) = _
          rw [decide_eq_true (by omega), decide_eq_true d1, Bool.true_and, Bool.true_and]
        rw [e0] at k
        refine ⟨_, rfl, a, rfl, ⟨_, SqL.of ha⟩, for_list (K := K) (a := a) (xs := xs)
          (fun i σ H2 => H2 = H ∧ (∃ v, σ = [some (.ref a), some (.int (gD ds i)), v]) ∧ okFromD (gD ds i) (ds.drop i) = okFromD 0 ds)
          ⟨rfl, ⟨_, rfl⟩, rfl⟩ (fun i σ H2 _ q => by rw [q.1]; exact SqL.of ha) ?_ ?_⟩
        · rintro i x σ H2 hi ⟨rfl, ⟨v, rfl⟩, q⟩
          obtain ⟨e, bs, he, hxe⟩ := hx.at hi
          rw [okFromD_drop he] at q
          refine ⟨_, rfl, _, rfl, x, e, bs, _, _, rfl, hxe, _, rfl, ite2 (fun d => ?_) (fun d => ?_)⟩
          · rw [bnot_t d, Bool.false_and] at q
            rw [← q] at k
            exact k
          · have d' := bnot_f d
            rw [d', Bool.true_and] at q
            obtain ⟨v, rfl, _, _⟩ := inD_int d'
            cases hxe
            have eg : gD ds (i + 1) = v + 1 := by show nextD (ds.getD i .none) = _; rw [getD_of he]; rfl
            rw [eg]
            exact ⟨_, rfl, _, _, rfl, rfl, rfl, ⟨_, rfl⟩, q⟩
        · rintro σ H2 ⟨rfl, ⟨v, rfl⟩, q⟩
          rw [el, List.drop_length] at q
          rw [← q] at k
          exact k
    · refine ⟨_, rfl, iteT (no ?_)⟩
      have c1 : ¬ 1 ≤ ds.length := fun z => c (decide_eq_true (by omega))
      show (decide (1 ≤ ds.length) && decide (ds.length ≤ 200) && okFromD 0 ds) = false
      rw [decide_eq_false c1, Bool.false_and, Bool.false_and]
  | _ => exact absurd rfl c
end
abbrev s_check_outline : Stmt := topS 28
abbrev N_check_outline : List Str := ["outline"]
abbrev P_check_outline : List Str := ["outline"]
theorem sc_check_outline : FnScope N_check_outline P_check_outline (defScope s_check_outline) := ⟨rfl, rfl, rfl, by decide +kernel, rfl, by decide +kernel, by decide +kernel⟩
abbrev s_check_number : Stmt := topS 23
abbrev N_check_number : List Str := ["value", "least", "greatest"]
abbrev P_check_number : List Str := ["value", "least", "greatest"]
theorem sc_check_number : FnScope N_check_number P_check_number (defScope s_check_number) := ⟨rfl, rfl, rfl, by decide +kernel, rfl, by decide +kernel, by decide +kernel⟩
theorem okFromD_int : ∀ {ds : List PyData} {g : Int}, okFromD g ds = true → ∃ ns : List Int, ds = ns.map PyData.int
  | [], _, _ => ⟨[], rfl⟩
  | d :: r, g, h => by
    have h' : (inD d 0 g && okFromD (nextD d) r) = true := h
    rw [Bool.and_eq_true] at h'
    obtain ⟨v, rfl, _, _⟩ := inD_int h'.1
    obtain ⟨ns, rfl⟩ := okFromD_int h'.2
    exact ⟨v :: ns, rfl⟩
theorem isOD_ints {d : PyData} (h : isOD d = true) : ∃ ns : List Int, d = dI ns ∧ isO ns = true := by
  cases d with
  | list ds =>
    have h' : (decide (1 ≤ ds.length) && decide (ds.length ≤ 200) && okFromD 0 ds) = true := h
    rw [Bool.and_eq_true] at h'
    obtain ⟨ns, rfl⟩ := okFromD_int h'.2
    exact ⟨ns, rfl, by rw [← isOD_dI]; exact h⟩
  | _ => exact absurd h Bool.false_ne_true
theorem DxAll.ints {H : Hp} : ∀ {ns : List Int} {xs : List V} {as : List Addr}, DxAll H xs (ns.map PyData.int) as → xs = iv ns
  | [], _, _, h => by cases h; rfl
  | n :: r, _, _, h => by
    cases h with
    | cons a b =>
      cases a
      rw [b.ints]
      rfl
theorem Dx.ints {H : Hp} {x : V} {ns : List Int} {as : List Addr} (h : Dx H x (dI ns) as) : ∃ a, x = .ref a ∧ H a = some (.lst (iv ns)) := by
  cases h with
  | lst e r => exact ⟨_, rfl, by rw [e, r.ints]⟩
section
variable {P : Program} {w : World} {K : PySem.W.Frag} {mg : Str → Option Value} {base : Heap}
def sp_chkO (C : Addr) : Sp := fun vs H Q E => ∃ (x : V) (d : PyData) (as : List Addr), vs = [x] ∧ Dx H x d as ∧ (isOD d = true → Q .non H) ∧ (isOD d = false → E (.ref C) none H)
theorem ok_check_outline {C_InvalidOutlineError : Addr} (T : Txt mg) (e_InvalidOutlineError : Err K mg "InvalidOutlineError" C_InvalidOutlineError) (h : At K mg "check_outline" s_check_outline)
    (g_is_outline : Has P w K mg base CX0 3 "is_outline" s_is_outline P_is_outline sp_is_outlineX) :
    Has P w K mg base (L2N.CX P w) 4 "check_outline" s_check_outline P_check_outline (sp_chkO C_InvalidOutlineError) := by
  refine Has.ofN h sc_check_outline (fun vs H Q E h => ?_) (fun _ _ _ _ _ _ us hl => match us, hl with | [_], _ => rfl) (fun f cdv A outer s H vs Q E room qt h => ?_)
  · obtain ⟨v, d, as, rfl, _⟩ := h; rfl
  obtain ⟨x, d, as, rfl, hd, k1, k2⟩ := h
  refine ⟨_, (pss_one (ps_if (pt_not (pt_val (pe_has g_is_outline (room.mono (by decide)) qt (by rfl) pass0 (pa_cons (pv 0) pa_nil))))
        (pss_one (ps_raiseN e_InvalidOutlineError rfl (L2N.takes_of rfl rfl rfl rfl) (by rfl)))
        pss_nil)), ?_⟩
  refine ⟨_, rfl, x, d, as, rfl, hd, _, rfl, ?_⟩
  cases c : isOD d with
  | true => exact iteF (k1 c)
  | false => exact iteT (k2 c)
def sp_chkN (C : Addr) : Sp := fun vs H Q E => ∃ (x : V) (d : PyData) (as : List Addr) (l g : Int), vs = [x, .int l, .int g] ∧ Dx H x d as ∧ (inD d l g = true → Q .non H) ∧ (inD d l g = false → E (.ref C) none H)
theorem ok_check_number {C_InvalidNumberError : Addr} (T : Txt mg) (e_InvalidNumberError : Err K mg "InvalidNumberError" C_InvalidNumberError) (h : At K mg "check_number" s_check_number)
    (g_is_integer_within : Has P w K mg base CX0 2 "is_integer_within" s_is_integer_within P_is_integer_within sp_withinX) :
    Has P w K mg base (L2N.CX P w) 3 "check_number" s_check_number P_check_number (sp_chkN C_InvalidNumberError) := by
  refine Has.ofN h sc_check_number (fun vs H Q E h => ?_) (fun _ _ _ _ _ _ us hl => match us, hl with | [_, _, _], _ => rfl) (fun f cdv A outer s H vs Q E room qt h => ?_)
  · obtain ⟨v, d, as, l, g, rfl, _⟩ := h; rfl
  obtain ⟨x, d, as, l, g, rfl, hd, k1, k2⟩ := h
  refine ⟨_, (pss_one (ps_if (pt_not (pt_val (pe_has g_is_integer_within (room.mono (by decide)) qt (by rfl) pass0 (pa_cons (pv 0) (pa_cons (pv 1) (pa_cons (pv 2) pa_nil))))))
        (pss_one (ps_raiseN e_InvalidNumberError rfl (L2N.takes_of rfl rfl rfl rfl) (by rfl)))
        pss_nil)), ?_⟩
  refine ⟨_, rfl, _, rfl, _, rfl, x, d, as, l, g, rfl, hd, _, rfl, ?_⟩
  cases c : inD d l g with
  | true => exact iteF (k1 c)
  | false => exact iteT (k2 c)
end
abbrev s_stop_of : Stmt := topS 29
abbrev N_stop_of : List Str := ["outline", "line"]
abbrev P_stop_of : List Str := ["outline", "line"]
theorem sc_stop_of : FnScope N_stop_of P_stop_of (defScope s_stop_of) := ⟨rfl, rfl, rfl, by decide +kernel, rfl, by decide +kernel, by decide +kernel⟩
section
variable {P : Program} {w : World} {K : PySem.W.Frag} {mg : Str → Option Value} {base : Heap}
theorem Has.impX {CX : CXT} {k : Nat} {x : Str} {st : Stmt} {ps : List Str} {sp sp' : Sp} (h : Has P w K mg base CX k x st ps sp) (i : ∀ vs H Q E, sp' vs H Q E → sp vs H Q E) :
    Has P w K mg base CX k x st ps sp' := by
  obtain ⟨f, fd, F, m, G, b⟩ := h
  exact ⟨f, fd, F, m, ⟨fun vs H Q E h => G.arity vs H Q E (i vs H Q E h), fun A outer s H args us vs Q E r q e bt v h => G.go A outer s H args us vs Q E r q e bt v (i vs H Q E h)⟩, b⟩
/-- an int is within: least <= value <= greatest -/
def sp_within : Sp := fun vs H Q _ => ∃ v a b : Int, vs = [.int v, .int a, .int b] ∧ Q (.bl (decide (a ≤ v) && decide (v ≤ b))) H
/-- a list of ints: is it an outline -/
def sp_is_outline : Sp := fun vs H Q _ => ∃ (a : Addr) (ns : List Int), vs = [.ref a] ∧ H a = some (.lst (iv ns)) ∧ Q (.bl (isO ns)) H
theorem within_imp : ∀ vs H Q E, sp_within vs H Q E → sp_withinX vs H Q E := by
  rintro vs H Q E ⟨v, a, b, rfl, k⟩
  exact ⟨.int v, .int v, [], a, b, rfl, .int v, k⟩
theorem outline_imp : ∀ vs H Q E, sp_is_outline vs H Q E → sp_is_outlineX vs H Q E := by
  rintro vs H Q E ⟨a, ns, rfl, ha, k⟩
  exact ⟨.ref a, dI ns, [a], rfl, dx_dI ha, by rw [isOD_dI]; exact k⟩
/-- an outline: nothing is raised -/
def sp_check_outline : Sp := fun vs H Q _ => ∃ (a : Addr) (ns : List Int), vs = [.ref a] ∧ H a = some (.lst (iv ns)) ∧ isO ns = true ∧ Q .non H
/-- the stop of a line -/
def sp_stop_of (K : PySem.W.Frag) : Sp := fun vs H Q _ => ∃ (a : Addr) (ns : List Int) (i : Int), vs = [.ref a, .int i] ∧ SqL K H a (iv ns) ∧ 0 ≤ i ∧ i < ns.length ∧ Q (.int (i - ns.getD i.toNat 0)) H
theorem ok_stop_of (T : Txt mg) (h : At K mg "stop_of" s_stop_of) :
    Has P w K mg base CX0 1 "stop_of" s_stop_of P_stop_of (sp_stop_of K) := by
  refine Has.of h sc_stop_of (fun vs H Q E h => ?_) (fun _ _ _ _ _ _ us hl => match us, hl with | [_, _], _ => rfl) (fun f cdv A outer s H vs Q E room qt h => ?_)
  · obtain ⟨v, a, i, rfl, _⟩ := h; rfl
  obtain ⟨a, ns, i, rfl, ha, h0, h1, k⟩ := h
  refine ⟨_, (pss_one (ps_ret (pe_op op_sub (pv 1) (pe_ix ix_list (pv 0) (pv 1) (fun _ _ => rfl))))), ?_⟩
  exact ⟨_, rfl, _, rfl, _, rfl, _, _, _, _, rfl, rfl, ha, atI_iv h0 h1, _, _, rfl, rfl, k⟩
end
abbrev s_check_height : Stmt := topS 32
abbrev N_check_height : List Str := ["height"]
abbrev P_check_height : List Str := ["height"]
theorem sc_check_height : FnScope N_check_height P_check_height (defScope s_check_height) := ⟨rfl, rfl, rfl, by decide +kernel, rfl, by decide +kernel, by decide +kernel⟩
section
variable {P : Program} {w : World} {K : PySem.W.Frag} {mg : Str → Option Value} {base : Heap}
def sp_chkH (C : Addr) : Sp := fun vs H Q E => ∃ (x : V) (d : PyData) (as : List Addr), vs = [x] ∧ Dx H x d as ∧ (inD d 1 400 = true → Q .non H) ∧ (inD d 1 400 = false → E (.ref C) none H)
theorem ok_check_height {t : Tok} {C_InvalidHeightError : Addr} (T : Txt mg) (e_InvalidHeightError : Err K mg "InvalidHeightError" C_InvalidHeightError) (c_MOST_ROWS : mg "MOST_ROWS" = some (.int 400 t)) (h : At K mg "check_height" s_check_height)
    (g_is_integer_within : Has P w K mg base CX0 2 "is_integer_within" s_is_integer_within P_is_integer_within sp_withinX) :
    Has P w K mg base (L2N.CX P w) 3 "check_height" s_check_height P_check_height (sp_chkH C_InvalidHeightError) := by
  refine Has.ofN h sc_check_height (fun vs H Q E h => ?_) (fun _ _ _ _ _ _ us hl => match us, hl with | [_], _ => rfl) (fun f cdv A outer s H vs Q E room qt h => ?_)
  · obtain ⟨x, d, as, rfl, _⟩ := h; rfl
  obtain ⟨x, d, as, rfl, hd, k1, k2⟩ := h
  refine ⟨_, (pss_one (ps_if (pt_not (pt_val (pe_has g_is_integer_within (room.mono (by decide)) qt (by rfl) pass0 (pa_cons (pv 0) (pa_cons pe_int (pa_cons (pe_glob (v := .int 400) rfl c_MOST_ROWS ⟨_, rfl⟩) pa_nil))))))
        (pss_one (ps_raiseN e_InvalidHeightError rfl (L2N.takes_of rfl rfl rfl rfl) (by rfl)))
        pss_nil)), ?_⟩
  refine ⟨_, rfl, x, d, as, 1, 400, rfl, hd, _, rfl, ?_⟩
  cases c : inD d 1 400 with
  | true => exact iteF (k1 c)
  | false => exact iteT (k2 c)
end
section
variable {P : Program} {w : World} {K : PySem.W.Frag} {mg : Str → Option Value} {base : Heap}
theorem Has.calmN {k : Nat} {x : Str} {st : Stmt} {ps : List Str} {sp sp' : Sp} (h : Has P w K mg base (L2N.CX P w) k x st ps sp) (i : ∀ vs H Q E, sp' vs H Q E → sp vs H Q E0) :
    Has P w K mg base CX0 k x st ps sp' := by
  obtain ⟨f, fd, F, m, G, b⟩ := h
  refine ⟨f, fd, F, m, ⟨fun vs H Q E h => G.arity vs H Q E0 (i vs H Q E h), fun A outer s H args us vs Q E r q e bt v h => codeAny_mono (G.go A outer s H args us vs Q E0 r q e bt v (i vs H Q E h)) fun res s' c => ?_⟩, b⟩
  cases res with
  | error u =>
    obtain ⟨_, _, _, _, _, _, _, _, _, _, _, _, z⟩ := c
    exact z.elim
  | ok fl => cases fl with
    | ret u => exact c
    | next => exact c
    | brk => exact c
    | cont => exact c
def sp_check_height : Sp := fun vs H Q _ => ∃ n : Int, vs = [.int n] ∧ 1 ≤ n ∧ n ≤ 400 ∧ Q .non H
theorem chkO_imp {C : Addr} : ∀ vs H Q E, sp_check_outline vs H Q E → sp_chkO C vs H Q E0 := by
  rintro vs H Q E ⟨a, ns, rfl, ha, ho, k⟩
  exact ⟨.ref a, dI ns, [a], rfl, dx_dI ha, fun _ => k, fun z => by rw [isOD_dI, ho] at z; cases z⟩
theorem chkH_imp {C : Addr} : ∀ vs H Q E, sp_check_height vs H Q E → sp_chkH C vs H Q E0 := by
  rintro vs H Q E ⟨n, rfl, n0, n1, k⟩
  refine ⟨.int n, .int n, [], rfl, .int n, fun _ => k, fun z => ?_⟩
  have z' : (decide (1 ≤ n) && decide (n ≤ 400)) = false := z
  rw [decide_eq_true n0, decide_eq_true n1] at z'
  cases z'
end
theorem okFrom_snoc {ns : List Int} {d : Int} : ∀ {g : Int}, okFrom g ns = true → 0 ≤ d → (ns = [] → d ≤ g) → (ns ≠ [] → d ≤ ns.getD (ns.length - 1) 0 + 1) → okFrom g (ns ++ [d]) = true := by
  induction ns with
  | nil => intro g _ h0 h1 _; simp only [List.nil_append, okFrom, Bool.and_eq_true, decide_eq_true_eq, and_true]; exact ⟨h0, h1 rfl⟩
  | cons e r ih =>
    intro g h h0 _ h2
    simp only [okFrom, Bool.and_eq_true, decide_eq_true_eq, List.cons_append] at h ⊢
    refine ⟨h.1, ih h.2 h0 (fun er => ?_) fun er => ?_⟩
    · subst er
      exact h2 (by simp)
    · have := h2 (by simp)
      cases r with
      | nil => exact absurd rfl er
      | cons f r => exact this
theorem okFrom_le {ns : List Int} : ∀ {g : Int} {i : Nat}, okFrom g ns = true → i < ns.length → ns.getD i 0 ≤ g + i := by
  induction ns with
  | nil => intro g i _ h; exact absurd h (Nat.not_lt_zero _)
  | cons d r ih =>
    intro g i h hi
    simp only [okFrom, Bool.and_eq_true, decide_eq_true_eq] at h
    cases i with
    | zero => show d ≤ g + ((0 : Nat) : Int); omega
    | succ i =>
      have := ih (i := i) h.2 (Nat.lt_of_succ_lt_succ hi)
      show r.getD i 0 ≤ g + ((i + 1 : Nat) : Int)
      omega
/-! ### headings, top lines, views as lists of ints -/
/-- the headings found from line k on upwards, the next wanted depth being w -/
def headsL (ns : List Int) : Nat → Int → List Int
  | 0, _ => []
  | k + 1, w => if ns.getD k 0 = w then headsL ns k (w - 1) ++ [(k : Int)] else headsL ns k w
def headsOf (ns : List Int) (i : Nat) : List Int := headsL ns i (ns.getD i 0 - 1)
theorem headsL_len (ns : List Int) : ∀ (k : Nat) (w : Int), (headsL ns k w).length ≤ k
  | 0, _ => Nat.le_refl _
  | k + 1, w => by
    unfold headsL
    split
    · rw [List.length_append]
      exact Nat.succ_le_succ (headsL_len ns k _)
    · exact Nat.le_succ_of_le (headsL_len ns k _)
theorem headsL_mem {ns : List Int} : ∀ {k : Nat} {w v : Int}, v ∈ headsL ns k w → 0 ≤ v ∧ v < k
  | k + 1, w, v, h => by
    unfold headsL at h
    split at h
    · rcases List.mem_append.mp h with h | h
      · have := headsL_mem h; omega
      · have := List.mem_singleton.mp h; omega
    · have := headsL_mem h; omega
def stopAt (ns : List Int) (i : Nat) : Int := (i : Int) - ns.getD i 0
def lastStop (ns : List Int) : Int := stopAt ns (ns.length - 1)
/-- t is the top line at s -/
def IsTop (ns : List Int) (s : Int) (t : Nat) : Prop := t < ns.length ∧ s ≤ stopAt ns t ∧ ∀ j, j < t → stopAt ns j < s
theorem IsTop.uniq {ns : List Int} {s : Int} {t u : Nat} (a : IsTop ns s t) (b : IsTop ns s u) : t = u := by
  rcases Nat.lt_trichotomy t u with h | h | h
  · have := b.2.2 t h; have := a.2.1; omega
  · exact h
  · have := a.2.2 u h; have := b.2.1; omega
theorem top_ex {ns : List Int} {s : Int} : ∀ n, n < ns.length → s ≤ stopAt ns n → ∃ t, t ≤ n ∧ IsTop ns s t
  | 0, h, q => ⟨0, Nat.le_refl _, h, q, fun j hj => absurd hj (Nat.not_lt_zero _)⟩
  | n + 1, h, q => by
    by_cases e : ∃ j, j ≤ n ∧ s ≤ stopAt ns j
    · obtain ⟨j, hj, ej⟩ := e
      obtain ⟨t, ht, it⟩ := top_ex j (by omega) ej
      exact ⟨t, by omega, it⟩
    · refine ⟨n + 1, Nat.le_refl _, h, q, fun j hj => ?_⟩
      by_cases z : s ≤ stopAt ns j
      · exact (e ⟨j, by omega, z⟩).elim
      · omega
/-- slices of lists of ints -/
def cutI (l : List Int) (lo hi : Option Int) : List Int := (l.drop (HT.sIx l.length 0 lo)).take (HT.sIx l.length l.length hi - HT.sIx l.length 0 lo)
theorem cutV_iv (l : List Int) (lo hi : Option Int) : cutV (iv l) lo hi = iv (cutI l lo hi) := by
  unfold cutV cutI iv
  rw [List.map_take, List.map_drop, List.length_map]
theorem cutI_len (l : List Int) (lo hi : Option Int) : (cutI l lo hi).length ≤ l.length := by
  unfold cutI
  rw [List.length_take, List.length_drop]
  omega
theorem cutI_to (l : List Int) {n : Int} (h : 0 ≤ n) : cutI l none (some n) = l.take n.toNat := by
  unfold cutI
  have e : n = (n.toNat : Int) := by omega
  rw [e, HT.sIx_none, HT.sIx_nat, List.drop_zero, Nat.sub_zero, Int.toNat_natCast]
  rcases Nat.le_total n.toNat l.length with a | a
  · rw [Nat.min_eq_left a]
  · rw [Nat.min_eq_right a, List.take_length, List.take_of_length_le a]
/-- lo, lo + 1, .. below hi -/
def rg2 (lo hi : Int) : List Int := (List.range (hi - lo).toNat).map fun (i : Nat) => lo + (i : Int)
theorem rgV_rg2 (a b : Int) : rgV a b = iv (rg2 a b) := by
  unfold rgV rg2 iv
  rw [List.map_map]
  rfl
theorem rg2_len (a b : Int) : (rg2 a b).length = (b - a).toNat := by unfold rg2; rw [List.length_map, List.length_range]
def pushedL (ns : List Int) (t : Nat) (s : Int) : List Int := if stopAt ns t - s = 0 then [] else cutI (headsOf ns (t - 1)) (some (-(stopAt ns t - s))) none
def rowsL (ns : List Int) (s : Int) (t : Nat) : List Int := headsOf ns t ++ pushedL ns t s ++ rg2 t ns.length
def viewL (ns : List Int) (h s : Int) (t : Nat) : List Int := (rowsL ns s t).take h.toNat
theorem pushedL_len (ns : List Int) (t : Nat) (s : Int) : (pushedL ns t s).length ≤ t := by
  unfold pushedL
  split
  · exact Nat.zero_le _
  · exact Nat.le_trans (cutI_len _ _ _) (Nat.le_trans (headsL_len _ _ _) (Nat.sub_le _ _))
theorem stopAt_nn {ns : List Int} (h : okFrom 0 ns = true) {i : Nat} (hi : i < ns.length) : 0 ≤ stopAt ns i ∧ stopAt ns i ≤ i := by
  have a := okFrom_le h hi
  have b := (okFrom_at h hi).1
  unfold stopAt
  omega
/-! ### the first lines of pages -/
def nxt (ns : List Int) (h : Int) (i : Nat) : Nat := i + max 1 (h - ns.getD i 0).toNat
def pagesL (ns : List Int) (h : Int) (i : Nat) : List Int := if i < ns.length then (i : Int) :: pagesL ns h (nxt ns h i) else []
termination_by ns.length - i
decreasing_by unfold nxt; omega
/-- all lines from i on are less deep than h -/
def Fit (ns : List Int) (h : Int) (i : Nat) : Prop := ∀ j, i ≤ j → j < ns.length → ns.getD j 0 < h
theorem pagesL_go {ns : List Int} {h : Int} {i : Nat} (hi : i < ns.length) : pagesL ns h i = (i : Int) :: pagesL ns h (nxt ns h i) := by
  rw [pagesL, if_pos hi]
theorem pagesL_end {ns : List Int} {h : Int} {i : Nat} (hi : ns.length ≤ i) : pagesL ns h i = [] := by
  rw [pagesL, if_neg (by omega)]
theorem nxt_gt (ns : List Int) (h : Int) (i : Nat) : i < nxt ns h i := by unfold nxt; omega
theorem nxt_int {ns : List Int} {h : Int} {i : Nat} (f : ns.getD i 0 < h) : ((nxt ns h i : Nat) : Int) = i + (h - ns.getD i 0) := by unfold nxt; omega
theorem pagesL_len (ns : List Int) (h : Int) (i : Nat) : (pagesL ns h i).length ≤ ns.length - i := by
  induction hm : ns.length - i using Nat.strongRecOn generalizing i with
  | _ m ih =>
    rcases Nat.lt_or_ge i ns.length with c | c
    · rw [pagesL_go c, List.length_cons]
      have := nxt_gt ns h i
      have := ih (ns.length - nxt ns h i) (by omega) _ rfl
      omega
    · rw [pagesL_end c]
      exact Nat.zero_le _
theorem pagesL_mem {ns : List Int} {h : Int} {v : Int} {i : Nat} (hv : v ∈ pagesL ns h i) : (i : Int) ≤ v ∧ v < ns.length := by
  induction hm : ns.length - i using Nat.strongRecOn generalizing i with
  | _ m ih =>
    rcases Nat.lt_or_ge i ns.length with c | c
    · rw [pagesL_go c] at hv
      have := nxt_gt ns h i
      rcases List.mem_cons.mp hv with e | e
      · subst e
        omega
      · have := ih (ns.length - nxt ns h i) (by omega) e rfl
        omega
    · rw [pagesL_end c] at hv
      cases hv
/-! ### TooDeepError -/
def ini_TooDeepError : Stmt := iniOf (topS 18) 0
theorem t_TooDeepError : IniT ini_TooDeepError "line" "line" "a line is too deep for the height" where
  body := ⟨_, _, _, _, _, _, _, _, _, _, _, rfl, fun q kV doc pm an cd ct cc L fI env e => by
    subst e
    exact ⟨⟨_, rfl⟩, rfl, rfl, rfl, rfl⟩⟩
  ar := ⟨_, _, rfl, rfl, rfl, rfl⟩
  bd := fun _ _ _ _ _ _ _ _ _ _ => rfl
  ks := rfl
  kc := rfl
  k0 := rfl
  k1 := rfl
  co := rfl
  ge := rfl
  kd := rfl
  nc := by decide +kernel
  nv := by decide
  nd := by decide
abbrev s_check_depths : Stmt := topS 36
abbrev N_check_depths : List Str := ["outline", "height", "line", "below"]
abbrev P_check_depths : List Str := ["outline", "height", "line"]
theorem sc_check_depths : FnScope N_check_depths P_check_depths (defScope s_check_depths) := ⟨rfl, rfl, rfl, by decide +kernel, rfl, by decide +kernel, by decide +kernel⟩
abbrev s_check_all_shown : Stmt := topS 37
abbrev N_check_all_shown : List Str := ["outline", "height"]
abbrev P_check_all_shown : List Str := ["outline", "height"]
theorem sc_check_all_shown : FnScope N_check_all_shown P_check_all_shown (defScope s_check_all_shown) := ⟨rfl, rfl, rfl, by decide +kernel, rfl, by decide +kernel, by decide +kernel⟩
/-- j is the first line from i on that is too deep -/
def DeepAt (ns : List Int) (h : Int) (i j : Nat) : Prop := i ≤ j ∧ j < ns.length ∧ h ≤ ns.getD j 0 ∧ ∀ k, i ≤ k → k < j → ns.getD k 0 < h
theorem deep_or (ns : List Int) (h : Int) : ∀ (m i : Nat), ns.length - i ≤ m → Fit ns h i ∨ ∃ j, DeepAt ns h i j
  | 0, i, hm => .inl fun j a b => by omega
  | m + 1, i, hm => by
    rcases Nat.lt_or_ge i ns.length with c | c
    · rcases (show ns.getD i 0 < h ∨ h ≤ ns.getD i 0 by omega) with d | d
      · rcases deep_or ns h m (i + 1) (by omega) with f | ⟨j, a, b, e, g⟩
        · refine .inl fun j ij jl => ?_
          rcases Nat.eq_or_lt_of_le ij with z | z
          · rw [← z]; exact d
          · exact f j z jl
        · refine .inr ⟨j, by omega, b, e, fun k ik kj => ?_⟩
          rcases Nat.eq_or_lt_of_le ik with z | z
          · rw [← z]; exact d
          · exact g k z kj
      · exact .inr ⟨i, Nat.le_refl _, c, d, fun k a b => by omega⟩
    · exact .inl fun j a b => by omega
section
variable {P : Program} {w : World} {K : PySem.W.Frag} {mg : Str → Option Value} {base : Heap} {C_TooDeepError : Addr}
def sp_chkD (K : PySem.W.Frag) (C : Addr) : Sp := fun vs H Q E => ∃ (a : Addr) (ns : List Int) (h : Int) (i : Nat), vs = [.ref a, .int h, .int i] ∧ SqL K H a (iv ns) ∧ ns.length ≤ 1000 ∧ i ≤ 1000 ∧ (Fit ns h i → Q .non H) ∧ ∀ j : Nat, DeepAt ns h i j → RaiF E H C "line" (.int j)
theorem ok_check_depths (T : Txt mg) (n_super : mg "super" = none) (k_TooDeepError : mg "TooDeepError" = some (.ref C_TooDeepError)) (i_TooDeepError : IniC P K C_TooDeepError "TooDeepError.__init__" ini_TooDeepError "line") (h : At K mg "check_depths" s_check_depths) :
    Has P w K mg base (L2N.CX P w) 2 "check_depths" s_check_depths P_check_depths (sp_chkD K C_TooDeepError) := by
  refine Has.ofN h sc_check_depths (fun vs H Q E h => ?_) (fun _ _ _ _ _ _ us hl => match us, hl with | [_, _, _], _ => rfl) (fun f cdv A outer s H vs Q E room qt h => ?_)
  · obtain ⟨a, n, z, t, rfl, _⟩ := h; rfl
  obtain ⟨a, ns, hh, i, rfl, ha, hl, il, k1, k2⟩ := h
  refine ⟨_, (pss_one (ps_for (passes_of rfl) rfl (pi_range2 (by rfl) T.range (pa_cons (pv 2) (pa_cons (pe_callB call_len_seq (by rfl) T.len (by decide +kernel) (pa_cons (pv 0) pa_nil)) pa_nil))) (pg_name (i := 3) sc_check_depths.nd rfl (Or.inl rfl) (hf := Or.inl rfl))
        (pss_one (ps_if (pt_cmpR op_ge (pe_ix ix_list (pv 0) (pv 3) (fun _ _ => rfl)) (pv 1) (nomark _))
          (pss_one (ps_raiseI i_TooDeepError t_TooDeepError n_super (room.mono (by decide)) k_TooDeepError rfl (L2N.takes_of rfl rfl rfl rfl) (by rfl) (pa_cons (pv 3) pa_nil)))
          pss_nil)))), ?_⟩
  have el : (iv ns).length = ns.length := List.length_map _
  refine ⟨_, rfl, _, rfl, a, _, rfl, .inl ha, _, _, rfl, ⟨by omega, by omega, by omega, by omega⟩, for_range (lo := i) (n := (((iv ns).length : Int) - i).toNat) (fun j σ H2 => H2 = H ∧ (∃ v, σ = [some (.ref a), some (.int hh), some (.int i), v]) ∧ ∀ k, i ≤ k → k < i + j → ns.getD k 0 < hh)
    ⟨rfl, ⟨_, rfl⟩, fun k a b => by omega⟩ ?_ ?_⟩
  · rintro j σ H2 hj ⟨rfl, ⟨v, rfl⟩, lo⟩
    have e : ((i : Int) + (j : Nat)).toNat = i + j := by omega
    refine ⟨_, rfl, _, rfl, a, iv ns, _, _, rfl, rfl, ha, atI_iv (by omega) (by omega), _, rfl, _, _, rfl, rfl, _, rfl, ite2 (fun c => ?_) (fun c => ⟨rfl, ⟨_, rfl⟩, fun k a b => ?_⟩)⟩
    · have c1 : hh ≤ ns.getD ((i : Int) + (j : Nat)).toNat 0 := of_decide_eq_true c
      rw [e] at c1
      refine ⟨_, rfl, _, rfl, fun dx hdx => k2 (i + j) ⟨by omega, by omega, c1, lo⟩ dx _ (Same.new hdx) ?_ hdx⟩
      rw [upd_same]
      rfl
    · have c1 : ¬ hh ≤ ns.getD ((i : Int) + (j : Nat)).toNat 0 := fun z => c (decide_eq_true z)
      rw [e] at c1
      rcases Nat.lt_or_ge k (i + j) with z | z
      · exact lo k a z
      · have : k = i + j := by omega
        subst this
        omega
  · rintro σ H2 ⟨rfl, ⟨v, rfl⟩, lo⟩
    exact k1 fun j a b => lo j a (by omega)
/-- what the three checks of an outline and a height tell -/
def ChkA (CO CH CT : Addr) (d e : PyData) (H : Hp) (E : XK) (good : List Int → Int → Prop) : Prop :=
  (isOD d = false → E (.ref CO) none H) ∧ (isOD d = true → inD e 1 400 = false → E (.ref CH) none H) ∧
  (∀ (ns : List Int) (h : Int), d = dI ns → isO ns = true → e = .int h → 1 ≤ h → h ≤ 400 → (Fit ns h 0 → good ns h) ∧ ∀ j : Nat, DeepAt ns h 0 j → RaiF E H CT "line" (.int j))
def sp_allN (CO CH CT : Addr) : Sp := fun vs H Q E => ∃ (x y : V) (d e : PyData) (as bs : List Addr), vs = [x, y] ∧ Dx H x d as ∧ Dx H y e bs ∧ ChkA CO CH CT d e H E (fun _ _ => Q .non H)
theorem ok_check_all_shown {C_InvalidOutlineError C_InvalidHeightError : Addr} (T : Txt mg) (h : At K mg "check_all_shown" s_check_all_shown)
    (g_check_outline : Has P w K mg base (L2N.CX P w) 4 "check_outline" s_check_outline P_check_outline (sp_chkO C_InvalidOutlineError))
    (g_check_height : Has P w K mg base (L2N.CX P w) 3 "check_height" s_check_height P_check_height (sp_chkH C_InvalidHeightError))
    (g_check_depths : Has P w K mg base (L2N.CX P w) 2 "check_depths" s_check_depths P_check_depths (sp_chkD K C_TooDeepError)) :
    Has P w K mg base (L2N.CX P w) 5 "check_all_shown" s_check_all_shown P_check_all_shown (sp_allN C_InvalidOutlineError C_InvalidHeightError C_TooDeepError) := by
  refine Has.ofN h sc_check_all_shown (fun vs H Q E h => ?_) (fun _ _ _ _ _ _ us hl => match us, hl with | [_, _], _ => rfl) (fun f cdv A outer s H vs Q E room qt h => ?_)
  · obtain ⟨x, y, d, e, as, bs, rfl, _⟩ := h; rfl
  obtain ⟨x, y, d, e, as, bs, rfl, hx, hy, kO, kH, kk⟩ := h
  refine ⟨_, (pss_cons (ps_expr (pe_hasS g_check_outline (room.mono (by decide)) qt (by rfl) (fun σ => L2N.passAt (L2N.takes_of rfl rfl rfl rfl) σ) (pa_cons (pv 0) pa_nil)))
      (pss_cons (ps_expr (pe_hasS g_check_height (room.mono (by decide)) qt (by rfl) (fun σ => L2N.passAt (L2N.takes_of rfl rfl rfl rfl) σ) (pa_cons (pv 1) pa_nil)))
      (pss_one (ps_expr (pe_hasS g_check_depths (room.mono (by decide)) qt (by rfl) (fun σ => L2N.passAt (L2N.takes_of rfl rfl rfl rfl) σ) (pa_cons (pv 0) (pa_cons (pv 1) (pa_cons pe_int pa_nil)))))))), ?_⟩
  refine ⟨_, rfl, x, d, as, rfl, hx, fun c1 => ?_, kO⟩
  refine ⟨_, rfl, y, e, bs, rfl, hy, fun c2 => ?_, kH c1⟩
  obtain ⟨ns, rfl, ho⟩ := isOD_ints c1
  obtain ⟨a, rfl, ha⟩ := hx.ints
  obtain ⟨hh, rfl, h0, h1⟩ := inD_int c2
  obtain rfl : y = .int hh := by cases hy; rfl
  obtain ⟨l1, l2, hk⟩ := isO_iff.mp ho
  obtain ⟨k1, k2⟩ := kk ns hh rfl ho rfl h0 h1
  exact ⟨_, rfl, _, rfl, a, ns, hh, 0, rfl, SqL.of ha, by omega, by omega, fun ft => k1 ft, fun j d => k2 j d⟩
end
def IsMax (ns : List Int) (m : Int) : Prop := m ∈ ns ∧ ∀ y, y ∈ ns → y ≤ m
theorem IsMax.uniq {ns : List Int} {m n : Int} (a : IsMax ns m) (b : IsMax ns n) : m = n := Int.le_antisymm (b.2 _ a.1) (a.2 _ b.1)
theorem IsMax.fit {ns : List Int} {m h : Int} (a : IsMax ns m) (q : m < h) (i : Nat) : Fit ns h i := fun j _ hj => by
  have := a.2 (ns.getD j 0) (by rw [List.getD_eq_getElem?_getD, List.getElem?_eq_getElem hj]; exact List.getElem_mem hj)
  omega
theorem max_ex : ∀ {ns : List Int}, 1 ≤ ns.length → ∃ m, IsMax ns m
  | [x], _ => ⟨x, List.mem_cons_self, fun y hy => by rw [List.mem_singleton.mp hy]; exact Int.le_refl _⟩
  | x :: y :: r, _ => by
    obtain ⟨m, h1, h2⟩ := max_ex (ns := y :: r) (by simp)
    rcases Int.le_total m x with c | c
    · exact ⟨x, List.mem_cons_self, fun z hz => by
        rcases List.mem_cons.mp hz with e | e
        · omega
        · exact Int.le_trans (h2 z e) c⟩
    · exact ⟨m, List.mem_cons_of_mem _ h1, fun z hz => by
        rcases List.mem_cons.mp hz with e | e
        · omega
        · exact h2 z e⟩
theorem IsMax.lt {ns : List Int} {m : Int} (h : isO ns = true) (a : IsMax ns m) : 0 ≤ m ∧ m < ns.length := by
  obtain ⟨l1, l2, hk⟩ := isO_iff.mp h
  obtain ⟨i, hi, e⟩ := List.getElem_of_mem a.1
  have q1 := (okFrom_at hk hi).1
  have q2 := okFrom_le hk hi
  rw [List.getD_eq_getElem?_getD, List.getElem?_eq_getElem hi, Option.getD_some, e] at q1 q2
  omega
abbrev s_scrolls_for_span : Stmt := topS 34
abbrev N_scrolls_for_span : List Str := ["outline", "height", "first", "last", "greatest", "least"]
abbrev P_scrolls_for_span : List Str := ["outline", "height", "first", "last"]
theorem sc_scrolls_for_span : FnScope N_scrolls_for_span P_scrolls_for_span (defScope s_scrolls_for_span) := ⟨rfl, rfl, rfl, by decide +kernel, rfl, by decide +kernel, by decide +kernel⟩
section
variable {P : Program} {w : World} {K : PySem.W.Frag} {mg : Str → Option Value} {base : Heap}
/-- the scroll positions of lines: a tuple, or None -/
def RetS (Q : VK) (H : Hp) (lo hi : Int) : Prop := (lo > hi → ∀ H', Same H H' → Q .non H') ∧
  (lo ≤ hi → ∀ p H', H p = none → Same H H' → H' p = some (.tup [.int lo, .int hi]) → Q (.ref p) H')
def sp_span (K : PySem.W.Frag) : Sp := fun vs H Q _ => ∃ (a : Addr) (ns : List Int) (n : Int) (i j : Nat), vs = [.ref a, .int n, .int i, .int j] ∧ SqL K H a (iv ns) ∧ i < ns.length ∧
  RetS Q H (if (j : Int) - n + 1 > 0 then (j : Int) - n + 1 else 0) (stopAt ns i)
theorem ok_scrolls_for_span (T : Txt mg) (h : At K mg "scrolls_for_span" s_scrolls_for_span)
    (g_stop_of : Has P w K mg base CX0 1 "stop_of" s_stop_of P_stop_of (sp_stop_of K)) :
    Has P w K mg base CX0 3 "scrolls_for_span" s_scrolls_for_span P_scrolls_for_span (sp_span K) := by
  refine Has.of h sc_scrolls_for_span (fun vs H Q E h => ?_) (fun _ _ _ _ _ _ us hl => match us, hl with | [_, _, _, _], _ => rfl) (fun f cdv A outer s H vs Q E room qt h => ?_)
  · obtain ⟨a, n, z, i, j, rfl, _⟩ := h; rfl
  obtain ⟨a, ns, n, i, j, rfl, ha, hi, k1, k2⟩ := h
  refine ⟨_, (pss_cons (ps_set (i := 4) sc_scrolls_for_span.nd rfl (Or.inl rfl) (pe_has g_stop_of (room.mono (by decide)) qt (by rfl) pass0 (pa_cons (pv 0) (pa_cons (pv 2) pa_nil))))
      (pss_cons (ps_set (i := 5) sc_scrolls_for_span.nd rfl (Or.inl rfl) (pe_callB (call_max2 rfl) (by rfl) T.max (by decide +kernel) (pa_cons pe_int (pa_cons (pe_op op_add (pe_op op_sub (pv 3) (pv 1)) pe_int) pa_nil))))
      (pss_cons (ps_if (pt_cmpR op_gt (pv 5) (pv 4) (nomark _))
        (pss_one (ps_ret pe_non))
        pss_nil)
      (pss_one (ps_ret (pe_tup (pa_cons (pv 5) (pa_cons (pv 4) pa_nil)))))))), ?_⟩
  refine ⟨_, rfl, _, rfl, a, ns, i, rfl, ha, by omega, by omega, ?_⟩
  rw [Int.toNat_natCast]
  refine ⟨_, rfl, _, rfl, _, _, rfl, rfl, _, _, rfl, rfl, _, _, rfl, _, rfl, _, rfl, _, _, rfl, rfl, _, rfl, ite2 (fun c => ?_) (fun c => ?_)⟩
  · exact k1 (of_decide_eq_true c) H (Same.refl H)
  · have c1 := fun q => c (decide_eq_true q)
    exact ⟨_, rfl, _, rfl, (by decide : 2 ≤ sizeLine), fun p hp => k2 (Int.not_lt.mp c1) p _ hp (Same.new hp) upd_same⟩
end
abbrev s_greatest_scroll : Stmt := topS 33
abbrev N_greatest_scroll : List Str := ["outline"]
abbrev P_greatest_scroll : List Str := ["outline"]
theorem sc_greatest_scroll : FnScope N_greatest_scroll P_greatest_scroll (defScope s_greatest_scroll) := ⟨rfl, rfl, rfl, by decide +kernel, rfl, by decide +kernel, by decide +kernel⟩
section
variable {P : Program} {w : World} {K : PySem.W.Frag} {mg : Str → Option Value} {base : Heap}
def sp_greatest_scroll (K : PySem.W.Frag) : Sp := fun vs H Q _ => ∃ (a : Addr) (ns : List Int), vs = [.ref a] ∧ SqL K H a (iv ns) ∧ 1 ≤ ns.length ∧ Q (.int (lastStop ns)) H
theorem ok_greatest_scroll (T : Txt mg) (h : At K mg "greatest_scroll" s_greatest_scroll)
    (g_stop_of : Has P w K mg base CX0 1 "stop_of" s_stop_of P_stop_of (sp_stop_of K)) :
    Has P w K mg base CX0 2 "greatest_scroll" s_greatest_scroll P_greatest_scroll (sp_greatest_scroll K) := by
  refine Has.of h sc_greatest_scroll (fun vs H Q E h => ?_) (fun _ _ _ _ _ _ us hl => match us, hl with | [_], _ => rfl) (fun f cdv A outer s H vs Q E room qt h => ?_)
  · obtain ⟨a, n, rfl, _⟩ := h; rfl
  obtain ⟨a, ns, rfl, ha, hl, k⟩ := h
  refine ⟨_, (pss_one (ps_ret (pe_has g_stop_of (room.mono (by decide)) qt (by rfl) pass0 (pa_cons (pv 0) (pa_cons (pe_op op_sub (pe_callB call_len_seq (by rfl) T.len (by decide +kernel) (pa_cons (pv 0) pa_nil)) pe_int) pa_nil))))), ?_⟩
  have el : (iv ns).length = ns.length := List.length_map _
  refine ⟨_, rfl, _, rfl, a, _, rfl, .inl ha, _, _, rfl, rfl, a, ns, _, rfl, ha, by omega, by omega, ?_⟩
  have e : ((iv ns).length : Int) - 1 - ns.getD (((iv ns).length : Int) - 1).toNat 0 = lastStop ns := by
    rw [el]
    have e1 : ((ns.length : Int) - 1).toNat = ns.length - 1 := by omega
    unfold lastStop stopAt
    rw [e1]
    omega
  rw [e]
  exact k
end
end SH

namespace SH
open PySem PySem.Spec PyProof.Rows L2
abbrev s_is_ascending_list : Stmt := topS 24
abbrev N_is_ascending_list : List Str := ["value", "greatest", "least", "item"]
abbrev P_is_ascending_list : List Str := ["value", "greatest"]
theorem sc_is_ascending_list : FnScope N_is_ascending_list P_is_ascending_list (defScope s_is_ascending_list) := ⟨rfl, rfl, rfl, by decide +kernel, rfl, by decide +kernel, by decide +kernel⟩
def ascD (g : Int) : Int → List PyData → Bool
  | _, [] => true
  | lo, d :: r => inD d lo g && ascD g (nextD d) r
def ascXD (g : Int) (d : PyData) : Bool := match d with | .list ds => ascD g 0 ds | _ => false
/-- strictly ascending from lo to g -/
def ascB (g : Int) : Int → List Int → Bool
  | _, [] => true
  | lo, x :: r => decide (lo ≤ x) && decide (x ≤ g) && ascB g (x + 1) r
theorem ascD_ints (g : Int) : ∀ (L : List Int) (lo : Int), ascD g lo (L.map PyData.int) = ascB g lo L
  | [], _ => rfl
  | x :: r, lo => by
    show (inD (.int x) lo g && ascD g (x + 1) (r.map PyData.int)) = _
    rw [ascD_ints g r]
    rfl
theorem ascD_iv {g : Int} : ∀ {ds : List PyData} {lo : Int}, ascD g lo ds = true → ∃ L : List Int, ds = L.map PyData.int
  | [], _, _ => ⟨[], rfl⟩
  | d :: r, lo, h => by
    have h' : (inD d lo g && ascD g (nextD d) r) = true := h
    rw [Bool.and_eq_true] at h'
    obtain ⟨v, rfl, _⟩ := inD_int h'.1
    obtain ⟨L, rfl⟩ := ascD_iv h'.2
    exact ⟨v :: L, rfl⟩
theorem dx_iv {H : Hp} : ∀ {L : List Int} {xs : List V} {as : List Addr}, DxAll H xs (L.map PyData.int) as → xs = iv L
  | [], _, _, h => by cases h; rfl
  | x :: r, _, _, h => by
    cases h with
    | cons h1 h2 =>
      cases h1
      rw [dx_iv h2]; rfl
theorem ascB_iff {g : Int} : ∀ {L : List Int} {lo : Int}, ascB g lo L = true ↔ L.Pairwise (· < ·) ∧ ∀ v ∈ L, lo ≤ v ∧ v ≤ g
  | [], _ => ⟨fun _ => ⟨List.Pairwise.nil, fun v hv => (List.not_mem_nil hv).elim⟩, fun _ => rfl⟩
  | x :: r, lo => by
    show (decide (lo ≤ x) && decide (x ≤ g) && ascB g (x + 1) r) = true ↔ _
    rw [Bool.and_eq_true, Bool.and_eq_true, decide_eq_true_eq, decide_eq_true_eq, ascB_iff, List.pairwise_cons]
    constructor
    · rintro ⟨⟨a, b⟩, c, d⟩
      refine ⟨⟨fun y hy => by have := d y hy; omega, c⟩, fun v hv => ?_⟩
      rcases List.mem_cons.mp hv with rfl | hv
      · exact ⟨a, b⟩
      · have := d v hv; omega
    · rintro ⟨⟨a, b⟩, c⟩
      exact ⟨c x List.mem_cons_self, b, fun v hv => ⟨by have := a v hv; omega, (c v (List.mem_cons_of_mem _ hv)).2⟩⟩
def aD (ds : List PyData) : Nat → Int
  | 0 => 0
  | i + 1 => nextD (ds.getD i .none)
theorem ascD_drop {g : Int} {ds : List PyData} {i : Nat} {d : PyData} (h : ds[i]? = some d) (lo : Int) : ascD g lo (ds.drop i) = (inD d lo g && ascD g (nextD d) (ds.drop (i + 1))) := by
  obtain ⟨hl, e⟩ := List.getElem?_eq_some_iff.mp h
  rw [List.drop_eq_getElem_cons hl, e]
  rfl
section
variable {P : Program} {w : World} {K : PySem.W.Frag} {mg : Str → Option Value} {base : Heap}
def sp_ascX : Sp := fun vs H Q _ => ∃ (x : V) (d : PyData) (as : List Addr) (g : Int), vs = [x, .int g] ∧ Dx H x d as ∧ Q (.bl (ascXD g d)) H
def sp_ascI : Sp := fun vs H Q _ => ∃ (b : Addr) (fs : List Int) (g : Int), vs = [.ref b, .int g] ∧ H b = some (.lst (iv fs)) ∧ Q (.bl (ascB g 0 fs)) H
theorem asc_imp : ∀ vs H Q E, sp_ascI vs H Q E → sp_ascX vs H Q E := by
  rintro vs H Q E ⟨b, fs, g, rfl, hb, k⟩
  refine ⟨.ref b, dI fs, [b], g, rfl, dx_dI hb, ?_⟩
  have e : ascXD g (dI fs) = ascB g 0 fs := ascD_ints g fs 0
  rw [e]
  exact k
theorem ok_is_ascending_list (T : Txt mg) (h : At K mg "is_ascending_list" s_is_ascending_list)
    (g_is_integer_within : Has P w K mg base CX0 2 "is_integer_within" s_is_integer_within P_is_integer_within sp_withinX) :
    Has P w K mg base CX0 3 "is_ascending_list" s_is_ascending_list P_is_ascending_list sp_ascX := by
  refine Has.of h sc_is_ascending_list (fun vs H Q E h => ?_) (fun _ _ _ _ _ _ us hl => match us, hl with | [_, _], _ => rfl) (fun f cdv A outer s H vs Q E room qt h => ?_)
  · obtain ⟨v, a, as, z, rfl, _⟩ := h; rfl
  obtain ⟨x, d, as, g, rfl, hd, k⟩ := h
  refine ⟨_, (pss_cons (ps_if (pt_cmpR op_neTy (pe_callTy call_typeX (by rfl) T.ttype (by decide +kernel) (pa_cons (pv 0) pa_nil)) (pe_bltn (v := .ty "list") (u := .type "list") (by rfl) T.tlist (by decide +kernel) rfl) (nomark _))
        (pss_one (ps_ret pe_bl))
        pss_nil)
      (pss_cons (ps_set (i := 2) sc_is_ascending_list.nd rfl (Or.inl rfl) pe_int)
      (pss_cons (ps_for PassesOwn.never rfl (pi_list (pv 0)) (pg_name (i := 3) sc_is_ascending_list.nd rfl (Or.inl rfl) (hf := Or.inl rfl))
        (pss_cons (ps_if (pt_not (pt_val (pe_has g_is_integer_within (room.mono (by decide)) qt (by rfl) pass0 (pa_cons (pv 3) (pa_cons (pv 2) (pa_cons (pv 1) pa_nil))))))
          (pss_one (ps_ret pe_bl))
          pss_nil)
        (pss_one (ps_set (i := 2) sc_is_ascending_list.nd rfl (Or.inl rfl) (pe_op op_add (pv 3) pe_int)))))
      (pss_one (ps_ret pe_bl))))), ?_⟩
  have other : tyD d ≠ "list" → ascXD g d = false := fun e => by
    cases d with
    | list ds => exact absurd rfl e
    | _ => rfl
  refine ⟨_, rfl, x, d, as, rfl, hd, _, _, rfl, rfl, by cases d <;> (simp only [tyD]; decide), by decide, _, rfl, ite2 (fun c => ?_) (fun c => ?_)⟩
  · rw [other (by simpa using c)] at k
    exact k
  cases hd with
  | @lst a xs ds as ha hx =>
    have el := hx.len
    refine ⟨_, rfl, a, rfl, ⟨_, SqL.of ha⟩, for_list (K := K) (a := a) (xs := xs)
      (fun i σ H2 => H2 = H ∧ (∃ v, σ = [some (.ref a), some (.int g), some (.int (aD ds i)), v]) ∧ ascD g (aD ds i) (ds.drop i) = ascD g 0 ds)
      ⟨rfl, ⟨_, rfl⟩, rfl⟩ (fun i σ H2 _ q => by rw [q.1]; exact SqL.of ha) ?_ ?_⟩
    · rintro i x σ H2 hi ⟨rfl, ⟨v, rfl⟩, q⟩
      obtain ⟨e, bs, he, hxe⟩ := hx.at hi
      rw [ascD_drop he] at q
      have k' : Q (.bl (ascD g 0 ds)) H2 := k
      refine ⟨_, rfl, _, rfl, _, rfl, x, e, bs, _, _, rfl, hxe, _, rfl, ite2 (fun d => ?_) (fun d => ?_)⟩
      · rw [bnot_t d, Bool.false_and] at q
        rw [← q] at k'
        exact k'
      · have d' := bnot_f d
        rw [d', Bool.true_and] at q
        obtain ⟨v, rfl, _, _⟩ := inD_int d'
        cases hxe
        have eg : aD ds (i + 1) = v + 1 := by show nextD (ds.getD i .none) = _; rw [getD_of he]; rfl
        rw [eg]
        exact ⟨_, rfl, _, _, rfl, rfl, rfl, ⟨_, rfl⟩, q⟩
    · rintro σ H2 ⟨rfl, ⟨v, rfl⟩, q⟩
      rw [el, List.drop_length] at q
      have k' : Q (.bl (ascD g 0 ds)) H2 := k
      rw [← q] at k'
      exact k'
  | _ => exact absurd (show _ from by first | rfl | decide) c
end
end SH

namespace SH
open PySem PySem.Spec PyProof.Rows L2
abbrev s_is_shown_by : Stmt := topS 38
abbrev N_is_shown_by : List Str := ["outline", "height", "scrolls", "line", "span", "least", "greatest", "scroll"]
abbrev P_is_shown_by : List Str := ["outline", "height", "scrolls", "line"]
theorem sc_is_shown_by : FnScope N_is_shown_by P_is_shown_by (defScope s_is_shown_by) := ⟨rfl, rfl, rfl, by decide +kernel, rfl, by decide +kernel, by decide +kernel⟩
/-- the least scroll position that shows line j -/
def loS (h : Int) (j : Int) : Int := if j - h + 1 > 0 then j - h + 1 else 0
def shB (ns : List Int) (h : Int) (L : List Int) (j : Nat) : Bool := L.any fun s => decide (loS h j ≤ s) && decide (s ≤ stopAt ns j)
theorem gives_ints (L : List Int) (f : Int → V) : gives L.length (fun _ => true) (fun i => f (L.getD i 0)) = L.map f := by
  rw [gives_all]
  refine List.ext_getElem (by rw [List.length_map, List.length_map, List.length_range]) fun i h1 h2 => ?_
  rw [List.length_map, List.length_range] at h1
  rw [List.getElem_map, List.getElem_map, List.getElem_range, List.getD_eq_getElem?_getD, List.getElem?_eq_getElem h1]
  rfl
section
variable {P : Program} {w : World} {K : PySem.W.Frag} {mg : Str → Option Value} {base : Heap}
def sp_is_shown_by : Sp := fun vs H Q _ => ∃ (a b : Addr) (ns L : List Int) (h : Int) (j : Nat), vs = [.ref a, .int h, .ref b, .int j] ∧ H a = some (.lst (iv ns)) ∧ j < ns.length ∧ H b = some (.lst (iv L)) ∧ L.length ≤ 1000 ∧ RetV Q H (.bl (shB ns h L j))
theorem ok_is_shown_by (T : Txt mg) (h : At K mg "is_shown_by" s_is_shown_by)
    (g_scrolls_for_span : Has P w K mg base CX0 3 "scrolls_for_span" s_scrolls_for_span P_scrolls_for_span (sp_span K)) :
    Has P w K mg base CX0 4 "is_shown_by" s_is_shown_by P_is_shown_by sp_is_shown_by := by
  refine Has.of h sc_is_shown_by (fun vs H Q E h => ?_) (fun _ _ _ _ _ _ us hl => match us, hl with | [_, _, _, _], _ => rfl) (fun f cdv A outer s H vs Q E room qt h => ?_)
  · obtain ⟨v, a, as, z, t, u, rfl, _⟩ := h; rfl
  obtain ⟨a, b, ns, L, hh, j, rfl, ha, hj, hb, hl, k⟩ := h
  have el : (iv L).length = L.length := List.length_map _
  refine ⟨_, (pss_cons (ps_set (i := 4) sc_is_shown_by.nd rfl (Or.inl rfl) (pe_has g_scrolls_for_span (room.mono (by decide)) qt (by rfl) pass0 (pa_cons (pv 0) (pa_cons (pv 1) (pa_cons (pv 3) (pa_cons (pv 3) pa_nil))))))
      (pss_cons (ps_if (pt_cmpR op_isN (pv 4) pe_non (nomark _))
        (pss_one (ps_ret pe_bl))
        pss_nil)
      (pss_cons (ps_asg (pv 4) (pg_tup rfl (pgs_cons (pg_name (i := 5) sc_is_shown_by.nd rfl (Or.inr rfl) (hf := Or.inl rfl)) (pgs_cons (pg_name (i := 6) sc_is_shown_by.nd rfl (Or.inr rfl) (hf := Or.inl rfl)) pgs_nil))))
      (pss_one (ps_ret (pe_callB (cr_any rfl) (by rfl) T.any (by decide +kernel) (pa_cons (pe_lc (own := [("scroll", 7)]) (by rfl) sc_is_shown_by.nd (pi_list (pv 2)) (blkOk_by (own := [("scroll", 7)]) (N := N_is_shown_by) (sc := defScope s_is_shown_by) (by decide +kernel)) (fun _ _ _ _ _ => (pg_name (i := 7) sc_is_shown_by.nd rfl (Or.inl rfl) (hf := Or.inr rfl))) (fun _ _ _ _ _ => pts_nil) (fun _ _ _ _ _ => (pe_chain op_le op_le (pv 5) (pv 7) (pv 6)))) pa_nil))))))), ?_⟩
  refine ⟨_, rfl, _, rfl, _, rfl, _, rfl, a, ns, hh, j, j, rfl, SqL.of ha, hj, fun c H2 s2 => ?_, fun c p H2 hp s2 h2 => ?_⟩
  · refine ⟨_, rfl, rfl, _, rfl, ?_⟩
    rw [decide_eq_true rfl]
    refine iteT ?_
    have e : shB ns hh L j = false := by
      unfold shB
      rw [List.any_eq_false]
      intro s _ q
      rw [Bool.and_eq_true, decide_eq_true_eq, decide_eq_true_eq] at q
      unfold loS at q
      omega
    rw [← e]
    exact k H2 s2
  · refine ⟨_, rfl, rfl, _, rfl, iteF ?_⟩
    refine ⟨_, rfl, p, _, rfl, SqT.of h2, rfl, _, _, rfl, _, _, rfl, rfl, ?_⟩
    refine ⟨_, rfl, b, rfl, ⟨_, SqL.of (s2 _ _ hb)⟩, fun D hD => lcLn (K := K) (a := b) (xs := iv L) (fun _ => true) (fun i => V.bl (decide (loS hh j ≤ L.getD i 0) && decide (L.getD i 0 ≤ stopAt ns j))) (SqL.of (s2 _ _ hb)) hD (by omega) (fun x => rfl) (fun i x H3 Q' _ _ qq => qq H3 (Same.refl _)) ?_ ?_⟩
    · intro i x H3 Q' hx _ s3 qq
      have il : i < L.length := by have := (List.getElem?_eq_some_iff.mp hx).1; omega
      rw [iv_at il] at hx
      cases hx
      refine ⟨_, rfl, _, rfl, _, _, rfl, rfl, _, rfl, ?_⟩
      show if decide (loS hh j ≤ L.getD i 0) = true then _ else _
      by_cases c2 : loS hh j ≤ L.getD i 0
      · rw [decide_eq_true c2, Bool.true_and] at qq
        rw [decide_eq_true c2]
        exact iteT ⟨_, rfl, _, _, rfl, rfl, qq H3 (Same.refl _)⟩
      · rw [decide_eq_false c2, Bool.false_and] at qq
        rw [decide_eq_false c2]
        exact iteF (qq H3 (Same.refl _))
    · intro H3 s3 h3
      rw [el, gives_ints L (fun s => V.bl (decide (loS hh j ≤ s) && decide (s ≤ stopAt ns j)))] at h3
      refine ⟨D, L.map (fun s => decide (loS hh j ≤ s) && decide (s ≤ stopAt ns j)), rfl, SqL.of (by rw [List.map_map]; exact h3), ?_⟩
      rw [List.any_map]
      exact k _ (s2.trans s3)
end
end SH

namespace SH
open PySem PySem.Spec PyProof.Rows L2
abbrev s_is_reading : Stmt := topS 39
abbrev N_is_reading : List Str := ["outline", "height", "value", "line"]
abbrev P_is_reading : List Str := ["outline", "height", "value"]
theorem sc_is_reading : FnScope N_is_reading P_is_reading (defScope s_is_reading) := ⟨rfl, rfl, rfl, by decide +kernel, rfl, by decide +kernel, by decide +kernel⟩
def intsD (d : PyData) : List Int := match d with | .list ds => ds.map (fun e => match e with | .int v => v | _ => 0) | _ => []
theorem intsD_dI (L : List Int) : intsD (dI L) = L := by
  show (L.map PyData.int).map _ = L
  rw [List.map_map]
  exact List.map_id L
def readD (ns : List Int) (h : Int) (d : PyData) : Bool := ascXD (lastStop ns) d && (List.range ns.length).all (fun j => shB ns h (intsD d) j)
def apartB (ns : List Int) (h : Int) : List Int → Bool
  | x :: y :: r => decide (stopAt ns x.toNat < loS h y) && apartB ns h (y :: r)
  | _ => true
def witD (ns : List Int) (h : Int) (d : PyData) : Bool := ascXD (ns.length - 1) d && apartB ns h (intsD d)
theorem ascXD_iv {H : Hp} {x : V} {d : PyData} {as : List Addr} {g : Int} (hd : Dx H x d as) (h : ascXD g d = true) : ∃ (b : Addr) (L : List Int), x = .ref b ∧ d = dI L ∧ H b = some (.lst (iv L)) ∧ ascB g 0 L = true := by
  cases hd with
  | @lst a xs ds as ha hx =>
    have h' : ascD g 0 ds = true := h
    obtain ⟨L, rfl⟩ := ascD_iv h'
    rw [dx_iv hx] at ha
    rw [ascD_ints] at h'
    exact ⟨a, L, rfl, rfl, ha, h'⟩
  | _ => exact absurd h Bool.false_ne_true
theorem ascB_len {g : Int} {L : List Int} (h : ascB g 0 L = true) : (L.length : Int) ≤ g + 1 ∨ L = [] := by
  have key : ∀ {L : List Int} {lo : Int}, ascB g lo L = true → L ≠ [] → (L.length : Int) ≤ g + 1 - lo := by
    intro L
    induction L with
    | nil => intro lo _ n; exact (n rfl).elim
    | cons x r ih =>
      intro lo h _
      have h' : (decide (lo ≤ x) && decide (x ≤ g) && ascB g (x + 1) r) = true := h
      rw [Bool.and_eq_true, Bool.and_eq_true, decide_eq_true_eq, decide_eq_true_eq] at h'
      by_cases e : r = []
      · subst e; show ((1 : Nat) : Int) ≤ _; omega
      · have := ih h'.2 e
        show ((r.length + 1 : Nat) : Int) ≤ _
        omega
  by_cases e : L = []
  · exact .inr e
  · have := key h e; exact .inl (by omega)
section
variable {P : Program} {w : World} {K : PySem.W.Frag} {mg : Str → Option Value} {base : Heap}
def sp_is_reading : Sp := fun vs H Q _ => ∃ (a : Addr) (ns : List Int) (h : Int) (x : V) (d : PyData) (as : List Addr), vs = [.ref a, .int h, x] ∧ H a = some (.lst (iv ns)) ∧ isO ns = true ∧ 1 ≤ h ∧ h ≤ 400 ∧ Dx H x d as ∧ RetV Q H (.bl (readD ns h d))
theorem ok_is_reading (T : Txt mg) (h : At K mg "is_reading" s_is_reading)
    (g_check_outline : Has P w K mg base CX0 4 "check_outline" s_check_outline P_check_outline sp_check_outline)
    (g_check_height : Has P w K mg base CX0 3 "check_height" s_check_height P_check_height sp_check_height)
    (g_is_ascending_list : Has P w K mg base CX0 3 "is_ascending_list" s_is_ascending_list P_is_ascending_list sp_ascX)
    (g_greatest_scroll : Has P w K mg base CX0 2 "greatest_scroll" s_greatest_scroll P_greatest_scroll (sp_greatest_scroll K))
    (g_is_shown_by : Has P w K mg base CX0 4 "is_shown_by" s_is_shown_by P_is_shown_by sp_is_shown_by) :
    Has P w K mg base CX0 5 "is_reading" s_is_reading P_is_reading sp_is_reading := by
  refine Has.of h sc_is_reading (fun vs H Q E h => ?_) (fun _ _ _ _ _ _ us hl => match us, hl with | [_, _, _], _ => rfl) (fun f cdv A outer s H vs Q E room qt h => ?_)
  · obtain ⟨v, a, as, z, t, u, rfl, _⟩ := h; rfl
  obtain ⟨a, ns, hh, x, d, as, rfl, ha, ho, h0, h1, hd, k⟩ := h
  obtain ⟨l1, l2, hk⟩ := isO_iff.mp ho
  have elo : (iv ns).length = ns.length := List.length_map _
  refine ⟨_, (pss_cons (ps_expr (pe_has g_check_outline (room.mono (by decide)) qt (by rfl) pass0 (pa_cons (pv 0) pa_nil)))
      (pss_cons (ps_expr (pe_has g_check_height (room.mono (by decide)) qt (by rfl) pass0 (pa_cons (pv 1) pa_nil)))
      (pss_cons (ps_if (pt_not (pt_val (pe_has g_is_ascending_list (room.mono (by decide)) qt (by rfl) pass0 (pa_cons (pv 2) (pa_cons (pe_has g_greatest_scroll (room.mono (by decide)) qt (by rfl) pass0 (pa_cons (pv 0) pa_nil)) pa_nil)))))
        (pss_one (ps_ret pe_bl))
        pss_nil)
      (pss_one (ps_ret (pe_callB (cr_all rfl) (by rfl) T.all (by decide +kernel) (pa_cons (pe_lc (own := [("line", 3)]) (by rfl) sc_is_reading.nd (pi_range1 (by rfl) T.range (pa_cons (pe_callB call_len_seq (by rfl) T.len (by decide +kernel) (pa_cons (pv 0) pa_nil)) pa_nil)) (blkOk_by (own := [("line", 3)]) (N := N_is_reading) (sc := defScope s_is_reading) (by decide +kernel)) (fun _ _ _ _ _ => (pg_name (i := 3) sc_is_reading.nd rfl (Or.inl rfl) (hf := Or.inr rfl))) (fun _ _ _ _ _ => pts_nil) (fun _ _ _ _ _ => (pe_has g_is_shown_by (room.mono (by decide)) qt (by rfl) pass0 (pa_cons (pv 0) (pa_cons (pv 1) (pa_cons (pv 2) (pa_cons (pv 3) pa_nil))))))) pa_nil))))))), ?_⟩
  refine ⟨_, rfl, a, ns, rfl, ha, ho, _, rfl, hh, rfl, h0, h1, ?_⟩
  refine ⟨_, rfl, _, rfl, a, ns, rfl, SqL.of ha, l1, x, d, as, _, rfl, hd, _, rfl, ite2 (fun c => ?_) (fun c => ?_)⟩
  · have e : readD ns hh d = false := by unfold readD; rw [bnot_t c, Bool.false_and]
    rw [e] at k
    exact k H (Same.refl _)
  obtain ⟨b, L, rfl, rfl, hb, asc⟩ := ascXD_iv hd (bnot_f c)
  have e : readD ns hh (dI L) = (List.range ns.length).all (fun j => shB ns hh L j) := by unfold readD; rw [bnot_f c, Bool.true_and, intsD_dI]
  rw [e] at k
  have ls := stopAt_nn hk (i := ns.length - 1) (by omega)
  have lL : L.length ≤ 1000 := by
    rcases ascB_len asc with q | q
    · unfold lastStop at q; omega
    · subst q; exact Nat.zero_le _
  refine ⟨_, rfl, a, _, rfl, .inl (SqL.of ha), _, rfl, by omega, by omega, fun D hD => lcRn (lo := 0) (n := ((iv ns).length : Int).toNat) (fun _ => true) (fun j => V.bl (shB ns hh L j)) hD (by omega) (fun x => rfl) (fun i H3 Q' _ _ qq => qq H3 (Same.refl _)) ?_ ?_⟩
  · intro i H3 Q' hi _ s3 qq
    refine ⟨_, rfl, _, rfl, _, rfl, _, rfl, a, b, ns, L, hh, i, by rw [Int.zero_add]; rfl, s3 _ _ ha, by omega, s3 _ _ hb, lL, qq⟩
  · intro H3 s3 h3
    rw [gives_all, show ((iv ns).length : Int).toNat = ns.length by omega] at h3
    refine ⟨D, (List.range ns.length).map (fun j => shB ns hh L j), rfl, SqL.of (by rw [List.map_map]; exact h3), ?_⟩
    have e2 : ((List.range ns.length).map (fun j => shB ns hh L j)).all id = (List.range ns.length).all (fun j => shB ns hh L j) := by rw [List.all_map]; rfl
    rw [e2]
    exact k _ s3
end
end SH

namespace SH
open PySem PySem.Spec PyProof.Rows L2
theorem stop_step {o : List Int} (h : okFrom 0 o = true) {i : Nat} (hi : i + 1 < o.length) : stopAt o i ≤ stopAt o (i + 1) := by
  obtain ⟨a, b, c⟩ := okFrom_at h hi
  have := b i rfl
  unfold stopAt
  omega
theorem stop_mono {o : List Int} (h : okFrom 0 o = true) {i : Nat} : ∀ {j : Nat}, i ≤ j → j < o.length → stopAt o i ≤ stopAt o j
  | 0, ij, _ => by obtain rfl : i = 0 := by omega
                   exact Int.le_refl _
  | j + 1, ij, hj => by
    rcases Nat.lt_or_ge i (j + 1) with q | q
    · exact Int.le_trans (stop_mono h (by omega) (by omega)) (stop_step h hj)
    · obtain rfl : i = j + 1 := by omega
      exact Int.le_refl _
def eI (o : List Int) (n s : Int) : Int := if s + n < o.length then s + n else o.length
theorem top_le_iff {o : List Int} (h : okFrom 0 o = true) {s : Int} {t k : Nat} (it : IsTop o s t) (hk : k < o.length) : t ≤ k ↔ s ≤ stopAt o k := by
  constructor
  · intro q
    exact Int.le_trans it.2.1 (stop_mono h q hk)
  · intro q
    rcases Nat.lt_or_ge k t with z | z
    · have := it.2.2 k z; omega
    · exact z
/-! ### all sublists; readings by covers -/
def subsL (ns : List Int) : List (List Int) := ns.foldl (fun F x => F ++ F.map (fun L => L ++ [x])) [[]]
theorem subsL_snoc (ns : List Int) (x : Int) : subsL (ns ++ [x]) = subsL ns ++ (subsL ns).map (fun L => L ++ [x]) := by
  unfold subsL
  rw [List.foldl_append]
  rfl
theorem rg_succ (m : Nat) : rg (m + 1) = rg m ++ [(m : Int)] := by
  unfold rg
  rw [List.range_succ, List.map_append]
  rfl
theorem rg_mem {m : Nat} {v : Int} : v ∈ rg m ↔ 0 ≤ v ∧ v < m := by
  unfold rg
  rw [List.mem_map]
  constructor
  · rintro ⟨i, hi, rfl⟩
    have := List.mem_range.mp hi
    show 0 ≤ (i : Int) ∧ (i : Int) < m
    omega
  · rintro ⟨a, b⟩
    exact ⟨v.toNat, List.mem_range.mpr (by omega), by show ((v.toNat : Nat) : Int) = v; omega⟩
theorem subs_len : ∀ m : Nat, (subsL (rg m)).length = 2 ^ m
  | 0 => rfl
  | m + 1 => by
    rw [rg_succ, subsL_snoc, List.length_append, List.length_map, subs_len m, Nat.pow_succ]
    omega
theorem subs_sub : ∀ (m : Nat) {L : List Int}, L ∈ subsL (rg m) → L.length ≤ m ∧ ∀ v ∈ L, 0 ≤ v ∧ v < m
  | 0, L, h => by
    rw [show subsL (rg 0) = [[]] from rfl] at h
    rw [List.mem_singleton.mp h]
    exact ⟨Nat.le_refl _, fun v hv => (List.not_mem_nil hv).elim⟩
  | m + 1, L, h => by
    rw [rg_succ, subsL_snoc] at h
    rcases List.mem_append.mp h with h | h
    · obtain ⟨a, b⟩ := subs_sub m h
      exact ⟨by omega, fun v hv => by have := b v hv; omega⟩
    · obtain ⟨L', hL, rfl⟩ := List.mem_map.mp h
      obtain ⟨a, b⟩ := subs_sub m hL
      refine ⟨by rw [List.length_append]; show _ + 1 ≤ _; omega, fun v hv => ?_⟩
      rcases List.mem_append.mp hv with hv | hv
      · have := b v hv; omega
      · rw [List.mem_singleton.mp hv]; omega
theorem asc_snoc : ∀ {L : List Int} {m : Int}, L.Pairwise (· < ·) → (∀ v ∈ L, v ≤ m) → m ∈ L → ∃ L', L = L' ++ [m] ∧ L'.Pairwise (· < ·) ∧ ∀ v ∈ L', v < m
  | [], _, _, _, h => (List.not_mem_nil h).elim
  | x :: r, m, p, b, h => by
    obtain ⟨p1, p2⟩ := List.pairwise_cons.mp p
    by_cases e : m ∈ r
    · obtain ⟨L', e1, e2, e3⟩ := asc_snoc p2 (fun v hv => b v (List.mem_cons_of_mem _ hv)) e
      refine ⟨x :: L', by rw [e1]; rfl, List.pairwise_cons.mpr ⟨fun y hy => p1 y (by rw [e1]; exact List.mem_append_left _ hy), e2⟩, fun v hv => ?_⟩
      rcases List.mem_cons.mp hv with rfl | hv
      · exact p1 m e
      · exact e3 v hv
    · have ex : m = x := by
        rcases List.mem_cons.mp h with q | q
        · exact q
        · exact (e q).elim
      subst ex
      have er : r = [] := by
        cases r with
        | nil => rfl
        | cons y t =>
          have := p1 y List.mem_cons_self
          have := b y (List.mem_cons_of_mem _ List.mem_cons_self)
          omega
      subst er
      exact ⟨[], rfl, List.Pairwise.nil, fun v hv => (List.not_mem_nil hv).elim⟩
theorem subs_mem : ∀ (m : Nat) {L : List Int}, L.Pairwise (· < ·) → (∀ v ∈ L, 0 ≤ v ∧ v < m) → L ∈ subsL (rg m)
  | 0, L, _, b => by
    cases L with
    | nil => exact List.mem_singleton.mpr rfl
    | cons x r => have := b x List.mem_cons_self; omega
  | m + 1, L, p, b => by
    rw [rg_succ, subsL_snoc, List.mem_append]
    by_cases h : (m : Int) ∈ L
    · obtain ⟨L', rfl, p', b'⟩ := asc_snoc p (fun v hv => by have := b v hv; omega) h
      exact .inr (List.mem_map.mpr ⟨L', subs_mem m p' fun v hv => ⟨(b v (List.mem_append_left _ hv)).1, b' v hv⟩, rfl⟩)
    · exact .inl (subs_mem m p fun v hv => by
        have := b v hv
        have ne : v ≠ m := fun e => h (e ▸ hv)
        omega)
theorem pigeon {α β : Type} [DecidableEq β] {R : α → β → Prop} : ∀ {U : List α} {L : List β}, (∀ u ∈ U, ∃ s ∈ L, R u s) → U.Pairwise (fun u v => ∀ s, R u s → ¬ R v s) → U.length ≤ L.length
  | [], _, _, _ => Nat.zero_le _
  | u :: U, L, h, p => by
    obtain ⟨s, hs, r⟩ := h u List.mem_cons_self
    obtain ⟨p1, p2⟩ := List.pairwise_cons.mp p
    have := pigeon (U := U) (L := L.erase s) (fun v hv => by
      obtain ⟨s', hs', r'⟩ := h v (List.mem_cons_of_mem _ hv)
      have ne : s' ≠ s := fun e => p1 v hv s r (e ▸ r')
      exact ⟨s', (List.mem_erase_of_ne ne).mpr hs', r'⟩) p2
    have e := List.length_erase_of_mem hs
    have : 0 < L.length := List.length_pos_of_mem hs
    show U.length + 1 ≤ L.length
    omega
noncomputable def topF (ns : List Int) (s : Int) : Nat := @dite _ (∃ t, IsTop ns s t) (Classical.propDecidable _) (fun h => Classical.choose h) (fun _ => 0)
theorem topF_is {ns : List Int} {s : Int} {t : Nat} (h : IsTop ns s t) : topF ns s = t := by
  unfold topF
  have e : ∃ t, IsTop ns s t := ⟨t, h⟩
  rw [dif_pos e]
  exact (Classical.choose_spec e).uniq h
theorem top_of {ns : List Int} {s : Int} (l : 1 ≤ ns.length) (h : s ≤ lastStop ns) : IsTop ns s (topF ns s) := by
  obtain ⟨t, _, ht⟩ := top_ex (ns := ns) (s := s) (ns.length - 1) (by omega) h
  rw [topF_is ht]
  exact ht
/-- the line u is shown at the scroll position s -/
def Shows1 (ns : List Int) (h : Int) (u s : Int) : Prop := (topF ns s : Int) ≤ u ∧ u < eI ns h s
/-- all lines are shown -/
def Cov (ns : List Int) (h : Int) (L : List Int) : Prop := ∀ j : Int, 0 ≤ j → j < ns.length → ∃ s ∈ L, Shows1 ns h j s
theorem pages_apart {ns : List Int} {h : Int} : ∀ (m i : Nat), ns.length - i ≤ m → (pagesL ns h i).Pairwise (fun u v => (nxt ns h u.toNat : Int) ≤ v)
  | 0, i, hm => by rw [pagesL_end (by omega)]; exact List.Pairwise.nil
  | m + 1, i, hm => by
    rcases Nat.lt_or_ge i ns.length with c | c
    · rw [pagesL_go c, List.pairwise_cons]
      have := nxt_gt ns h i
      exact ⟨fun v hv => (pagesL_mem hv).1, pages_apart m _ (by omega)⟩
    · rw [pagesL_end c]; exact List.Pairwise.nil
theorem pages_cover {ns : List Int} {h : Int} : ∀ (m i j : Nat), ns.length - i ≤ m → i ≤ j → j < ns.length → ∃ u : Nat, (u : Int) ∈ pagesL ns h i ∧ u ≤ j ∧ j < nxt ns h u
  | 0, i, j, hm, h1, h2 => by omega
  | m + 1, i, j, hm, h1, h2 => by
    have c : i < ns.length := by omega
    rw [pagesL_go c]
    have := nxt_gt ns h i
    rcases Nat.lt_or_ge j (nxt ns h i) with q | q
    · exact ⟨i, List.mem_cons_self, h1, q⟩
    · obtain ⟨u, a, b, d⟩ := pages_cover m (nxt ns h i) j (by omega) q h2
      exact ⟨u, List.mem_cons_of_mem _ a, b, d⟩
theorem shows_stop {ns : List Int} {h : Int} (hk : okFrom 0 ns = true) (l1 : 1 ≤ ns.length) {u : Nat} {s : Int} (hu : u < ns.length) (hs : s ≤ lastStop ns) : (topF ns s : Int) ≤ u ↔ s ≤ stopAt ns u := by
  have := top_le_iff hk (top_of l1 hs) hu
  omega
theorem eI_lt {ns : List Int} {h s u : Int} : u < eI ns h s ↔ u < s + h ∧ u < ns.length := by
  unfold eI
  split <;> omega
/-- a reading has as many views as there are pages, or more -/
theorem cov_low {ns : List Int} {h : Int} (ho : isO ns = true) (ft : Fit ns h 0) {L : List Int} (hL : ∀ s ∈ L, s ≤ lastStop ns) (hc : Cov ns h L) : (pagesL ns h 0).length ≤ L.length := by
  obtain ⟨l1, l2, hk⟩ := isO_iff.mp ho
  refine pigeon (R := fun u s => Shows1 ns h u s ∧ s ≤ lastStop ns ∧ ∃ k : Nat, u = k ∧ k < ns.length) (fun u hu => ?_) ?_
  · have b := pagesL_mem hu
    obtain ⟨s, hs, q⟩ := hc u (by omega) (by omega)
    exact ⟨s, hs, q, hL s hs, u.toNat, by omega, by omega⟩
  · refine (pages_apart _ 0 (Nat.le_refl _)).imp fun {u v} huv s => ?_
    rintro ⟨⟨a1, a2⟩, hs, k, rfl, kl⟩ ⟨⟨b1, b2⟩, _⟩
    rw [Int.toNat_natCast, nxt_int (ft k (Nat.zero_le _) kl)] at huv
    have e1 := (shows_stop (h := h) hk l1 kl hs).mp a1
    have e2 := eI_lt.mp b2
    unfold stopAt at e1
    omega
/-- the stops of the first lines of the pages are a reading -/
theorem cov_pages {ns : List Int} {h : Int} (ho : isO ns = true) (ft : Fit ns h 0) : Cov ns h ((pagesL ns h 0).map fun u => stopAt ns u.toNat) ∧
    ((pagesL ns h 0).map fun u => stopAt ns u.toNat).Pairwise (· < ·) ∧ ∀ s ∈ (pagesL ns h 0).map fun u => stopAt ns u.toNat, 0 ≤ s ∧ s ≤ lastStop ns := by
  obtain ⟨l1, l2, hk⟩ := isO_iff.mp ho
  have stb : ∀ u : Nat, u < ns.length → 0 ≤ stopAt ns u ∧ stopAt ns u ≤ lastStop ns := fun u hu => ⟨(stopAt_nn hk hu).1, stop_mono hk (i := u) (j := ns.length - 1) (by omega) (by omega)⟩
  refine ⟨fun j j0 j1 => ?_, ?_, fun s hs => ?_⟩
  · have jl : j.toNat < ns.length := by omega
    obtain ⟨u, a, b, d⟩ := pages_cover (ns := ns) (h := h) _ 0 j.toNat (Nat.le_refl _) (Nat.zero_le _) jl
    have ul : u < ns.length := by have := pagesL_mem a; omega
    refine ⟨stopAt ns u, List.mem_map.mpr ⟨u, a, by rw [Int.toNat_natCast]⟩, ?_, eI_lt.mpr ⟨?_, j1⟩⟩
    · have := (shows_stop (h := h) hk l1 ul (stb u ul).2).mpr (Int.le_refl _)
      omega
    · have := nxt_int (ft u (Nat.zero_le _) ul)
      unfold stopAt
      omega
  · rw [List.pairwise_map]
    refine List.Pairwise.imp_of_mem (fun {u v} hu hv huv => ?_) (pages_apart (ns := ns) (h := h) _ 0 (Nat.le_refl _))
    have bu := pagesL_mem hu
    have bv := pagesL_mem hv
    obtain ⟨k, rfl⟩ : ∃ k : Nat, u = k := ⟨u.toNat, by omega⟩
    obtain ⟨l, rfl⟩ : ∃ l : Nat, v = l := ⟨v.toNat, by omega⟩
    rw [Int.toNat_natCast, nxt_int (ft k (Nat.zero_le _) (by omega))] at huv
    rw [Int.toNat_natCast, Int.toNat_natCast]
    have := ft l (Nat.zero_le _) (by omega)
    unfold stopAt
    omega
  · obtain ⟨u, hu, rfl⟩ := List.mem_map.mp hs
    have b := pagesL_mem hu
    exact stb _ (by omega)
theorem shB_iff {ns : List Int} {h : Int} {L : List Int} {j : Nat} (hk : okFrom 0 ns = true) (l1 : 1 ≤ ns.length) (hj : j < ns.length) (hL : ∀ s ∈ L, 0 ≤ s ∧ s ≤ lastStop ns) : shB ns h L j = true ↔ ∃ s ∈ L, Shows1 ns h j s := by
  unfold shB
  rw [List.any_eq_true]
  have one : ∀ s, 0 ≤ s → s ≤ lastStop ns → ((decide (loS h j ≤ s) && decide (s ≤ stopAt ns j)) = true ↔ Shows1 ns h j s) := fun s s0 s1 => by
    rw [Bool.and_eq_true, decide_eq_true_eq, decide_eq_true_eq]
    unfold Shows1
    rw [eI_lt, shows_stop (h := h) hk l1 hj s1]
    unfold loS
    constructor
    · rintro ⟨a, b⟩
      refine ⟨b, ?_, by omega⟩
      split at a <;> omega
    · rintro ⟨a, b, _⟩
      refine ⟨?_, a⟩
      split <;> omega
  constructor
  · rintro ⟨s, hs, q⟩
    have := hL s hs
    exact ⟨s, hs, (one s this.1 this.2).mp q⟩
  · rintro ⟨s, hs, q⟩
    have := hL s hs
    exact ⟨s, hs, (one s this.1 this.2).mpr q⟩
theorem read_iff {ns : List Int} {h : Int} {L : List Int} (ho : isO ns = true) : readD ns h (dI L) = true ↔ ascB (lastStop ns) 0 L = true ∧ Cov ns h L := by
  obtain ⟨l1, l2, hk⟩ := isO_iff.mp ho
  unfold readD
  rw [Bool.and_eq_true, show ascXD (lastStop ns) (dI L) = ascB (lastStop ns) 0 L from ascD_ints _ _ _, intsD_dI, List.all_eq_true]
  constructor
  · rintro ⟨a, b⟩
    refine ⟨a, fun j j0 j1 => ?_⟩
    have hL := (ascB_iff.mp a).2
    have := (shB_iff hk l1 (j := j.toNat) (by omega) hL).mp (b _ (List.mem_range.mpr (by omega)))
    rwa [Int.toNat_of_nonneg j0] at this
  · rintro ⟨a, b⟩
    refine ⟨a, fun j hj => ?_⟩
    have hj' := List.mem_range.mp hj
    exact (shB_iff hk l1 hj' (ascB_iff.mp a).2).mpr (b j (by omega) (by omega))
/-! ### shortest readings -/
/-- the furthest scroll position that may come after s -/
def fur (ns : List Int) (h : Int) (s : Nat) : Nat := max (s + 1) (stopAt ns (s + h.toNat)).toNat
/-- how many more views a reading needs after s -/
def leftF (ns : List Int) (h : Int) (s : Nat) : Nat := if s + h.toNat < ns.length then leftF ns h (fur ns h s) + 1 else 0
termination_by ns.length - s
decreasing_by unfold fur; omega
theorem leftF_go {ns : List Int} {h : Int} {s : Nat} (c : s + h.toNat < ns.length) : leftF ns h s = leftF ns h (fur ns h s) + 1 := by
  rw [leftF, if_pos c]
theorem leftF_end {ns : List Int} {h : Int} {s : Nat} (c : ns.length ≤ s + h.toNat) : leftF ns h s = 0 := by
  rw [leftF, if_neg (by omega)]
theorem fur_gt (ns : List Int) (h : Int) (s : Nat) : s < fur ns h s := by unfold fur; omega
theorem fur_int {ns : List Int} {h : Int} {s : Nat} (ft : Fit ns h 0) (h1 : 1 ≤ h) (c : s + h.toNat < ns.length) : ((fur ns h s : Nat) : Int) = stopAt ns (s + h.toNat) := by
  have := ft (s + h.toNat) (Nat.zero_le _) c
  unfold fur stopAt
  omega
theorem fur_mono {ns : List Int} {h : Int} (hk : okFrom 0 ns = true) (ft : Fit ns h 0) (h1 : 1 ≤ h) {a b : Nat} (ab : a ≤ b) (c : b + h.toNat < ns.length) : fur ns h a ≤ fur ns h b := by
  have e1 := fur_int (s := a) ft h1 (by omega)
  have e2 := fur_int (s := b) ft h1 c
  have := stop_mono hk (i := a + h.toNat) (j := b + h.toNat) (by omega) c
  omega
theorem fur_last {ns : List Int} {h : Int} (hk : okFrom 0 ns = true) (ft : Fit ns h 0) (h1 : 1 ≤ h) {s : Nat} (c : s + h.toNat < ns.length) : ((fur ns h s : Nat) : Int) ≤ lastStop ns := by
  rw [fur_int ft h1 c]
  exact stop_mono hk (by omega) (by omega)
theorem left_mono {ns : List Int} {h : Int} (hk : okFrom 0 ns = true) (ft : Fit ns h 0) (h1 : 1 ≤ h) : ∀ (m a b : Nat), ns.length - a ≤ m → a ≤ b → leftF ns h b ≤ leftF ns h a
  | 0, a, b, hm, ab => by
    rw [leftF_end (s := b) (by omega)]
    exact Nat.zero_le _
  | m + 1, a, b, hm, ab => by
    rcases Nat.lt_or_ge (b + h.toNat) ns.length with c | c
    · rw [leftF_go (s := b) c, leftF_go (s := a) (by omega)]
      have := fur_gt ns h a
      exact Nat.succ_le_succ (left_mono hk ft h1 m _ _ (by omega) (fur_mono hk ft h1 ab c))
    · rw [leftF_end (s := b) c]
      exact Nat.zero_le _
/-- the scroll positions that may come next in a shortest reading -/
def folL (ns : List Int) (h : Int) (s : Nat) : List Nat := if s + h.toNat < ns.length then ((List.range (fur ns h s - s)).map fun i => s + 1 + i).filter (fun a => leftF ns h a == leftF ns h (fur ns h s)) else []
theorem fol_mem {ns : List Int} {h : Int} {s a : Nat} : a ∈ folL ns h s ↔ s + h.toNat < ns.length ∧ s < a ∧ a ≤ fur ns h s ∧ leftF ns h a = leftF ns h (fur ns h s) := by
  unfold folL
  by_cases c : s + h.toNat < ns.length
  · rw [if_pos c, List.mem_filter, List.mem_map, beq_iff_eq]
    constructor
    · rintro ⟨⟨i, hi, rfl⟩, e⟩
      have := List.mem_range.mp hi
      exact ⟨c, by omega, by omega, e⟩
    · rintro ⟨_, h1, h2, e⟩
      exact ⟨⟨a - s - 1, List.mem_range.mpr (by omega), by omega⟩, e⟩
  · rw [if_neg c]
    constructor
    · intro h; cases h
    · rintro ⟨q, _⟩; exact (c q).elim
theorem fur_fol {ns : List Int} {h : Int} {s : Nat} (c : s + h.toNat < ns.length) : fur ns h s ∈ folL ns h s := fol_mem.mpr ⟨c, fur_gt _ _ _, Nat.le_refl _, rfl⟩
theorem fol_left {ns : List Int} {h : Int} {s a : Nat} (m : a ∈ folL ns h s) : leftF ns h s = leftF ns h a + 1 := by
  obtain ⟨c, _, _, e⟩ := fol_mem.mp m
  rw [leftF_go c, e]
/-- the followers end with the furthest -/
theorem fol_snoc {ns : List Int} {h : Int} {s : Nat} (c : s + h.toNat < ns.length) : ∃ r, folL ns h s = r ++ [fur ns h s] ∧ ∀ a ∈ r, a < fur ns h s := by
  have g := fur_gt ns h s
  unfold folL
  rw [if_pos c]
  obtain ⟨m, e⟩ : ∃ m, fur ns h s - s = m + 1 := ⟨fur ns h s - s - 1, by omega⟩
  rw [e, List.range_succ, List.map_append, List.filter_append]
  have el : s + 1 + m = fur ns h s := by omega
  refine ⟨_, by rw [List.map_cons, List.map_nil, el, List.filter_cons, if_pos (by rw [beq_iff_eq])]; rfl, fun a ha => ?_⟩
  obtain ⟨ha, _⟩ := List.mem_filter.mp ha
  obtain ⟨i, hi, rfl⟩ := List.mem_map.mp ha
  have := List.mem_range.mp hi
  omega
/-- in how many ways k more views finish a reading after s -/
def wN (ns : List Int) (h : Int) : Nat → Nat → Int
  | 0, _ => 1
  | k + 1, s => ((folL ns h s).map (wN ns h k)).sum
def waysF (ns : List Int) (h : Int) (s : Nat) : Int := wN ns h (leftF ns h s) s
theorem ways_go {ns : List Int} {h : Int} {s : Nat} (c : s + h.toNat < ns.length) : waysF ns h s = ((folL ns h s).map (waysF ns h)).sum := by
  unfold waysF
  rw [leftF_go c]
  show ((folL ns h s).map (wN ns h (leftF ns h (fur ns h s)))).sum = _
  congr 1
  refine List.map_congr_left fun a ha => ?_
  rw [(fol_mem.mp ha).2.2.2]
theorem ways_end {ns : List Int} {h : Int} {s : Nat} (c : ns.length ≤ s + h.toNat) : waysF ns h s = 1 := by
  unfold waysF
  rw [leftF_end c]
  rfl
theorem sum_pos : ∀ {l : List Int}, (∀ v ∈ l, 0 < v) → l ≠ [] → 0 < l.sum
  | [], _, n => (n rfl).elim
  | [v], h, _ => by have := h v List.mem_cons_self; rw [List.sum_cons, List.sum_nil]; omega
  | v :: u :: r, h, _ => by
    have a := h v List.mem_cons_self
    have b := sum_pos (l := u :: r) (fun x hx => h x (List.mem_cons_of_mem _ hx)) (by simp)
    rw [List.sum_cons]; omega
theorem sum_nn : ∀ {l : List Int}, (∀ v ∈ l, 0 ≤ v) → 0 ≤ l.sum
  | [], _ => by decide
  | v :: r, h => by
    have a := h v List.mem_cons_self
    have b := sum_nn (l := r) fun x hx => h x (List.mem_cons_of_mem _ hx)
    rw [List.sum_cons]; omega
theorem ways_pos (ns : List Int) (h : Int) : ∀ (m s : Nat), ns.length - s ≤ m → 0 < waysF ns h s
  | 0, s, hm => by rw [ways_end (by omega)]; decide
  | m + 1, s, hm => by
    rcases Nat.lt_or_ge (s + h.toNat) ns.length with c | c
    · rw [ways_go c]
      refine sum_pos (fun v hv => ?_) fun e => ?_
      · obtain ⟨a, ha, rfl⟩ := List.mem_map.mp hv
        have := (fol_mem.mp ha).2.1
        exact ways_pos ns h m a (by omega)
      · have := fur_fol c
        rw [List.map_eq_nil_iff.mp e] at this
        cases this
    · rw [ways_end c]; decide
theorem ways_gt (ns : List Int) (h : Int) (s : Nat) : 0 < waysF ns h s := ways_pos ns h _ s (Nat.le_refl _)
/-! ### the reading of an index -/
def pick (w : Nat → Int) : List Nat → Int → Nat × Int
  | [], i => (0, i)
  | a :: r, i => if i < w a then (a, i) else pick w r (i - w a)
theorem pick_ok {w : Nat → Int} : ∀ {l : List Nat} {i : Int}, 0 ≤ i → i < (l.map w).sum → (pick w l i).1 ∈ l ∧ 0 ≤ (pick w l i).2 ∧ (pick w l i).2 < w (pick w l i).1
  | [], i, h0, h1 => by rw [List.map_nil, List.sum_nil] at h1; omega
  | a :: r, i, h0, h1 => by
    rw [List.map_cons, List.sum_cons] at h1
    unfold pick
    by_cases c : i < w a
    · rw [if_pos c]; exact ⟨List.mem_cons_self, h0, c⟩
    · rw [if_neg c]
      obtain ⟨m, x⟩ := pick_ok (w := w) (l := r) (i := i - w a) (by omega) (by omega)
      exact ⟨List.mem_cons_of_mem _ m, x⟩
theorem pick_last {w : Nat → Int} {b : Nat} (hb : 0 < w b) : ∀ {l : List Nat}, (∀ a ∈ l, 0 < w a) → pick w (l ++ [b]) (((l ++ [b]).map w).sum - 1) = (b, w b - 1)
  | [], _ => by
    rw [List.nil_append, List.map_cons, List.map_nil, List.sum_cons, List.sum_nil]
    unfold pick
    rw [if_pos (by omega)]
    rw [show w b + 0 - 1 = w b - 1 by omega]
  | a :: r, h => by
    have ih := pick_last hb (l := r) fun x hx => h x (List.mem_cons_of_mem _ hx)
    have nn : 0 < ((r ++ [b]).map w).sum := sum_pos (fun v hv => by
      obtain ⟨x, hx, rfl⟩ := List.mem_map.mp hv
      rcases List.mem_append.mp hx with q | q
      · exact h x (List.mem_cons_of_mem _ q)
      · rw [List.mem_singleton.mp q]; exact hb) (by simp)
    rw [List.cons_append, List.map_cons, List.sum_cons]
    unfold pick
    rw [if_neg (by omega), show w a + ((r ++ [b]).map w).sum - 1 - w a = ((r ++ [b]).map w).sum - 1 by omega]
    exact ih
def nthL (ns : List Int) (h : Int) : Nat → Nat → Int → List Nat
  | 0, _, _ => []
  | k + 1, s, i => (pick (waysF ns h) (folL ns h s) i).1 :: nthL ns h k (pick (waysF ns h) (folL ns h s) i).1 (pick (waysF ns h) (folL ns h s) i).2
def Path (ns : List Int) (h : Int) : Nat → List Nat → Prop
  | s, [] => leftF ns h s = 0
  | s, a :: r => a ∈ folL ns h s ∧ Path ns h a r
theorem left_pos {ns : List Int} {h : Int} {s k : Nat} (e : leftF ns h s = k + 1) : s + h.toNat < ns.length := by
  rcases Nat.lt_or_ge (s + h.toNat) ns.length with c | c
  · exact c
  · rw [leftF_end c] at e; omega
theorem left_zero {ns : List Int} {h : Int} {s : Nat} (e : leftF ns h s = 0) : ns.length ≤ s + h.toNat := by
  rcases Nat.lt_or_ge (s + h.toNat) ns.length with c | c
  · rw [leftF_go c] at e; omega
  · exact c
theorem nth_path {ns : List Int} {h : Int} : ∀ {k s : Nat} {i : Int}, leftF ns h s = k → 0 ≤ i → i < waysF ns h s → Path ns h s (nthL ns h k s i)
  | 0, s, i, e, _, _ => e
  | k + 1, s, i, e, h0, h1 => by
    have c := left_pos e
    rw [ways_go c] at h1
    obtain ⟨m, p0, p1⟩ := pick_ok h0 h1
    have := fol_left m
    exact ⟨m, nth_path (by omega) p0 p1⟩
theorem path_len {ns : List Int} {h : Int} : ∀ {L : List Nat} {s : Nat}, Path ns h s L → L.length = leftF ns h s
  | [], s, p => p.symm
  | a :: r, s, p => by
    rw [List.length_cons, path_len p.2, fol_left p.1]
theorem path_asc {ns : List Int} {h : Int} : ∀ {L : List Nat} {s : Nat}, Path ns h s L → (s :: L).Pairwise (· < ·)
  | [], s, _ => List.pairwise_singleton _ _
  | a :: r, s, p => by
    have ih := path_asc p.2
    have sa := (fol_mem.mp p.1).2.1
    refine List.pairwise_cons.mpr ⟨fun x hx => ?_, ih⟩
    rcases List.mem_cons.mp hx with e | e
    · omega
    · have := (List.pairwise_cons.mp ih).1 x e
      omega
theorem path_last {ns : List Int} {h : Int} (hk : okFrom 0 ns = true) (ft : Fit ns h 0) (h1 : 1 ≤ h) : ∀ {L : List Nat} {s : Nat}, Path ns h s L → ∀ a ∈ L, (a : Int) ≤ lastStop ns
  | [], s, _, a, m => by cases m
  | b :: r, s, p, a, m => by
    rcases List.mem_cons.mp m with e | e
    · subst e
      obtain ⟨c, _, q, _⟩ := fol_mem.mp p.1
      have := fur_last hk ft h1 c
      omega
    · exact path_last hk ft h1 p.2 a e
/-- each line is shown at a position of the path -/
theorem path_cov {ns : List Int} {h : Int} (hk : okFrom 0 ns = true) (ft : Fit ns h 0) (h1 : 1 ≤ h) : ∀ {L : List Nat} {s : Nat}, Path ns h s L → ∀ j, j < ns.length → (s : Int) ≤ stopAt ns j → ∃ a ∈ s :: L, (a : Int) ≤ stopAt ns j ∧ j < a + h.toNat
  | [], s, p, j, hj, q => ⟨s, List.mem_cons_self, q, by have := left_zero p; omega⟩
  | b :: r, s, p, j, hj, q => by
    rcases Nat.lt_or_ge j (s + h.toNat) with c | c
    · exact ⟨s, List.mem_cons_self, q, c⟩
    · obtain ⟨c1, _, b1, _⟩ := fol_mem.mp p.1
      have e := fur_int ft h1 c1
      have := stop_mono hk (i := s + h.toNat) (j := j) c hj
      obtain ⟨a, ha, x⟩ := path_cov hk ft h1 p.2 j hj (by omega)
      exact ⟨a, List.mem_cons_of_mem _ ha, x⟩
/-! ### ranks -/
def rankL (ns : List Int) (h : Int) : Nat → List Nat → Int
  | _, [] => 0
  | s, a :: r => (((folL ns h s).filter (fun x => decide (x < a))).map (waysF ns h)).sum + rankL ns h a r
/-- the last shortest reading after s -/
def furL (ns : List Int) (h : Int) : Nat → Nat → List Nat
  | 0, _ => []
  | k + 1, s => fur ns h s :: furL ns h k (fur ns h s)
theorem furL_path {ns : List Int} {h : Int} : ∀ {k s : Nat}, leftF ns h s = k → Path ns h s (furL ns h k s)
  | 0, s, e => e
  | k + 1, s, e => by
    have c := left_pos e
    have := leftF_go c
    exact ⟨fur_fol c, furL_path (by omega)⟩
theorem furL_rank {ns : List Int} {h : Int} : ∀ {k s : Nat}, leftF ns h s = k → rankL ns h s (furL ns h k s) = waysF ns h s - 1
  | 0, s, e => by rw [ways_end (left_zero e)]; rfl
  | k + 1, s, e => by
    have c := left_pos e
    have lg := leftF_go c
    have ih := furL_rank (ns := ns) (h := h) (k := k) (s := fur ns h s) (by omega)
    show _ + rankL ns h (fur ns h s) (furL ns h k (fur ns h s)) = _
    rw [ih]
    obtain ⟨r, er, lr⟩ := fol_snoc c
    have ws : waysF ns h s = (r.map (waysF ns h)).sum + waysF ns h (fur ns h s) := by
      rw [ways_go c, er, List.map_append, List.sum_append, List.map_cons, List.map_nil, List.sum_cons, List.sum_nil, Int.add_zero]
    have fl : (folL ns h s).filter (fun x => decide (x < fur ns h s)) = r := by
      rw [er, List.filter_append, List.filter_cons, if_neg (by simp), List.filter_nil, List.append_nil]
      exact List.filter_eq_self.mpr fun a ha => decide_eq_true (lr a ha)
    rw [fl]
    omega
theorem nth_last {ns : List Int} {h : Int} : ∀ {k s : Nat}, leftF ns h s = k → nthL ns h k s (waysF ns h s - 1) = furL ns h k s
  | 0, s, e => rfl
  | k + 1, s, e => by
    have c := left_pos e
    have lg := leftF_go c
    obtain ⟨r, er, lr⟩ := fol_snoc c
    have pl := pick_last (w := waysF ns h) (b := fur ns h s) (ways_gt ns h _) (l := r) fun a _ => ways_gt ns h a
    have e1 : pick (waysF ns h) (folL ns h s) (waysF ns h s - 1) = (fur ns h s, waysF ns h (fur ns h s) - 1) := by
      rw [ways_go c, er]; exact pl
    show (pick (waysF ns h) (folL ns h s) (waysF ns h s - 1)).1 :: nthL ns h k _ _ = _
    rw [e1]
    show fur ns h s :: nthL ns h k (fur ns h s) (waysF ns h (fur ns h s) - 1) = _
    rw [nth_last (by omega)]
    rfl
/-- the stops of the pages are the last shortest reading -/
theorem pages_furL {ns : List Int} {h : Int} (hk : okFrom 0 ns = true) (ft : Fit ns h 0) (h1 : 1 ≤ h) : ∀ (m i s : Nat), ns.length - i ≤ m → i < ns.length → stopAt ns i = s →
    (pagesL ns h i).map (fun u => stopAt ns u.toNat) = (s :: furL ns h (leftF ns h s) s).map fun (u : Nat) => (u : Int)
  | 0, i, s, hm, hi, _ => by omega
  | m + 1, i, s, hm, hi, e => by
    have n1 := nxt_int (ft i (Nat.zero_le _) hi)
    have gi := nxt_gt ns h i
    have en : nxt ns h i = s + h.toNat := by unfold stopAt at e; omega
    rw [pagesL_go hi, List.map_cons, List.map_cons, Int.toNat_natCast, e]
    congr 1
    rcases Nat.lt_or_ge (s + h.toNat) ns.length with c | c
    · rw [leftF_go c]
      have := pages_furL hk ft h1 m (nxt ns h i) (fur ns h s) (by omega) (by omega) (by rw [en]; exact (fur_int ft h1 c).symm)
      rw [this]
      rfl
    · rw [leftF_end c, pagesL_end (by omega)]
      rfl
/-! ### readings of exactly j more views -/
def NN (ns : List Int) (h : Int) : Nat → Nat → Int
  | 0, p => if ns.length ≤ p + h.toNat then 1 else 0
  | j + 1, p => if p + h.toNat < ns.length then ((List.range (fur ns h p - p)).map (fun i => NN ns h j (p + 1 + i))).sum else 0
theorem sum_zero {l : List Int} (h : ∀ v ∈ l, v = 0) : l.sum = 0 := by
  induction l with
  | nil => rfl
  | cons a r ih => rw [List.sum_cons, h a List.mem_cons_self, ih fun v hv => h v (List.mem_cons_of_mem _ hv)]; rfl
theorem sum_filter {l : List Nat} {p : Nat → Bool} {f g : Nat → Int} (h1 : ∀ a ∈ l, p a = true → f a = g a) (h0 : ∀ a ∈ l, p a = false → f a = 0) : (l.map f).sum = ((l.filter p).map g).sum := by
  induction l with
  | nil => rfl
  | cons a r ih =>
    have ih := ih (fun b hb => h1 b (List.mem_cons_of_mem _ hb)) (fun b hb => h0 b (List.mem_cons_of_mem _ hb))
    rw [List.map_cons, List.sum_cons, List.filter_cons, ih]
    cases c : p a with
    | true => rw [if_pos rfl, List.map_cons, List.sum_cons, h1 a List.mem_cons_self c]
    | false => rw [if_neg Bool.false_ne_true, h0 a List.mem_cons_self c, Int.zero_add]
/-- no step leaves out more than one view -/
theorem left_step {ns : List Int} {h : Int} (hk : okFrom 0 ns = true) (ft : Fit ns h 0) (h1 : 1 ≤ h) {s a : Nat} (c : s + h.toNat < ns.length) (_ : s < a) (b : a ≤ fur ns h s) : leftF ns h s ≤ leftF ns h a + 1 := by
  rw [leftF_go c]
  have := left_mono hk ft h1 ns.length a (fur ns h s) (by omega) b
  omega
theorem NN_few {ns : List Int} {h : Int} (hk : okFrom 0 ns = true) (ft : Fit ns h 0) (h1 : 1 ≤ h) : ∀ (j s : Nat), j < leftF ns h s → NN ns h j s = 0
  | 0, s, q => by
    unfold NN
    rcases Nat.lt_or_ge (s + h.toNat) ns.length with c | c
    · rw [if_neg (by omega)]
    · rw [leftF_end c] at q; omega
  | j + 1, s, q => by
    unfold NN
    rcases Nat.lt_or_ge (s + h.toNat) ns.length with c | c
    · rw [if_pos c]
      refine sum_zero fun v hv => ?_
      obtain ⟨i, hi, rfl⟩ := List.mem_map.mp hv
      have := List.mem_range.mp hi
      have := left_step hk ft h1 (s := s) (a := s + 1 + i) c (by omega) (by omega)
      exact NN_few hk ft h1 j _ (by omega)
    · rw [if_neg (by omega)]
theorem NN_ways {ns : List Int} {h : Int} (hk : okFrom 0 ns = true) (ft : Fit ns h 0) (h1 : 1 ≤ h) : ∀ (j s : Nat), leftF ns h s = j → NN ns h j s = waysF ns h s
  | 0, s, e => by
    have := left_zero e
    unfold NN
    rw [if_pos this, ways_end this]
  | j + 1, s, e => by
    have c := left_pos e
    have lg := leftF_go c
    rw [ways_go c]
    unfold NN folL
    rw [if_pos c, if_pos c]
    have e1 : ((List.range (fur ns h s - s)).map fun i => NN ns h j (s + 1 + i)) = ((List.range (fur ns h s - s)).map fun i => s + 1 + i).map (NN ns h j) := by rw [List.map_map]; rfl
    rw [e1]
    refine sum_filter (fun a ha q => ?_) fun a ha q => ?_
    · have q := beq_iff_eq.mp q
      exact NN_ways hk ft h1 j a (by omega)
    · obtain ⟨i, hi, rfl⟩ := List.mem_map.mp ha
      have := List.mem_range.mp hi
      have := left_step hk ft h1 (s := s) (a := s + 1 + i) c (by omega) (by omega)
      have q : leftF ns h (s + 1 + i) ≠ leftF ns h (fur ns h s) := fun z => by rw [z, beq_self_eq_true] at q; cases q
      exact NN_few hk ft h1 j _ (by omega)
end SH

namespace SH
open PySem PySem.Spec PyProof.Rows L2
abbrev s_count_views_left : Stmt := topS 41
abbrev N_count_views_left : List Str := ["outline", "height", "left", "scroll"]
abbrev P_count_views_left : List Str := ["outline", "height"]
theorem sc_count_views_left : FnScope N_count_views_left P_count_views_left (defScope s_count_views_left) := ⟨rfl, rfl, rfl, by decide +kernel, rfl, by decide +kernel, by decide +kernel⟩
abbrev s_followers : Stmt := topS 42
abbrev N_followers : List Str := ["outline", "height", "left", "scroll", "furthest", "after"]
abbrev P_followers : List Str := ["outline", "height", "left", "scroll"]
theorem sc_followers : FnScope N_followers P_followers (defScope s_followers) := ⟨rfl, rfl, rfl, by decide +kernel, rfl, by decide +kernel, by decide +kernel⟩
abbrev s_count_ways : Stmt := topS 43
abbrev N_count_ways : List Str := ["outline", "height", "left", "ways", "scroll", "after"]
abbrev P_count_ways : List Str := ["outline", "height", "left"]
theorem sc_count_ways : FnScope N_count_ways P_count_ways (defScope s_count_ways) := ⟨rfl, rfl, rfl, by decide +kernel, rfl, by decide +kernel, by decide +kernel⟩

/-- what is counted for each scroll position -/
def scL (ns : List Int) (f : Nat → Int) : List Int := (List.range ((lastStop ns).toNat + 1)).map f
theorem scL_len (ns : List Int) (f : Nat → Int) : (scL ns f).length = (lastStop ns).toNat + 1 := by unfold scL; rw [List.length_map, List.length_range]
theorem scL_getD {ns : List Int} {f : Nat → Int} {i : Nat} (h : (i : Int) ≤ lastStop ns) : (scL ns f).getD i 0 = f i := by
  rw [List.getD_eq_getElem?_getD]
  unfold scL
  rw [List.getElem?_map, List.getElem?_range (by omega)]
  rfl
theorem ixN_u {n j : Nat} (hj : j < n) : ixN n (j : Int) = some j := by
  unfold ixN
  rw [if_pos (by omega), if_pos (by omega)]
  simp
theorem scL_ext {ns : List Int} {f g : Nat → Int} (h : ∀ i : Nat, f i = g i) : scL ns f = scL ns g := by
  unfold scL
  exact List.map_congr_left fun i _ => h i
theorem scL_set {ns : List Int} {f g : Nat → Int} {u : Nat} {v : Int} (h : ∀ i : Nat, f i = if i = u then v else g i) : (iv (scL ns g)).set u (.int v) = iv (scL ns f) := by
  unfold scL iv
  rw [List.map_map, List.map_map]
  refine List.ext_getElem (by rw [List.length_set, List.length_map, List.length_map]) fun i h1 h2 => ?_
  rw [List.getElem_set, List.getElem_map, List.getElem_map, List.getElem_range]
  show (if u = i then V.int v else V.int (g i)) = V.int (f i)
  rw [h i]
  by_cases c : u = i
  · rw [if_pos c, if_pos c.symm]
  · rw [if_neg c, if_neg (Ne.symm c)]
def leftL (ns : List Int) (h : Int) : List Int := scL ns fun s => ((leftF ns h s : Nat) : Int)
def waysL (ns : List Int) (h : Int) : List Int := scL ns (waysF ns h)
theorem last_bd {ns : List Int} (ho : isO ns = true) : 0 ≤ lastStop ns ∧ lastStop ns < ns.length := by
  obtain ⟨l1, l2, hk⟩ := isO_iff.mp ho
  have := (stopAt_nn hk (i := ns.length - 1) (by omega))
  have := (okFrom_at hk (i := ns.length - 1) (by omega)).1
  unfold lastStop
  unfold stopAt at *
  omega
theorem fit_last {ns : List Int} {h : Int} (ho : isO ns = true) (ft : Fit ns h 0) : (ns.length : Int) - h ≤ lastStop ns := by
  obtain ⟨l1, l2, hk⟩ := isO_iff.mp ho
  have := ft (ns.length - 1) (by omega) (by omega)
  unfold lastStop stopAt
  omega
section
variable {P : Program} {w : World} {K : PySem.W.Frag} {mg : Str → Option Value} {base : Heap}
def sp_count_views_left (K : PySem.W.Frag) : Sp := fun vs H Q _ => ∃ (a : Addr) (ns : List Int) (h : Int), vs = [.ref a, .int h] ∧ SqL K H a (iv ns) ∧ isO ns = true ∧ 1 ≤ h ∧ h ≤ 400 ∧ Fit ns h 0 ∧ RetL Q H (iv (leftL ns h))
theorem ok_count_views_left (T : Txt mg) (h : At K mg "count_views_left" s_count_views_left)
    (g_greatest_scroll : Has P w K mg base CX0 2 "greatest_scroll" s_greatest_scroll P_greatest_scroll (sp_greatest_scroll K))
    (g_stop_of : Has P w K mg base CX0 1 "stop_of" s_stop_of P_stop_of (sp_stop_of K)) :
    Has P w K mg base CX0 3 "count_views_left" s_count_views_left P_count_views_left (sp_count_views_left K) := by
  refine Has.of h sc_count_views_left (fun vs H Q E h => ?_) (fun _ _ _ _ _ _ us hl => match us, hl with | [_, _], _ => rfl) (fun f cdv A outer s H vs Q E room qt h => ?_)
  · obtain ⟨a, n, z, rfl, _⟩ := h; rfl
  obtain ⟨a, ns, hh, rfl, ha, ho, h0, h1, ft, k⟩ := h
  obtain ⟨l1, l2, hk⟩ := isO_iff.mp ho
  have el : (iv ns).length = ns.length := List.length_map _
  have lb := last_bd ho
  have lf := fit_last ho ft
  refine ⟨_, (pss_cons (ps_set (i := 2) sc_count_views_left.nd rfl (Or.inl rfl) (pe_op op_rep (pe_lst (pa_cons pe_int pa_nil)) (pe_op op_add (pe_has g_greatest_scroll (room.mono (by decide)) qt (by rfl) pass0 (pa_cons (pv 0) pa_nil)) pe_int)))
      (pss_cons (ps_for PassesOwn.never rfl (pi_revR (by rfl) T.reversed (prg_1 (by rfl) T.range (pe_op op_sub (pe_callB call_len_seq (by rfl) T.len (by decide +kernel) (pa_cons (pv 0) pa_nil)) (pv 1)))) (pg_name (i := 3) sc_count_views_left.nd rfl (Or.inl rfl) (hf := Or.inl rfl))
        (pss_one (ps_asg (pe_op op_add (pe_ix ix_list (pv 2) (pe_has g_stop_of (room.mono (by decide)) qt (by rfl) pass0 (pa_cons (pv 0) (pa_cons (pe_op op_add (pv 3) (pv 1)) pa_nil))) (fun _ _ => rfl)) pe_int) (pg_sub (pv 2) (pv 3) set_list))))
      (pss_one (ps_ret (pv 2))))), ?_⟩
  refine ⟨(by decide : 1 ≤ sizeLine), fun q nq => ?_⟩
  refine ⟨_, rfl, a, ns, rfl, (Same.new nq).seq ha, l1, _, _, rfl, rfl, q, _, _, rfl, rfl, upd_same, by omega, by omega, Nat.le_of_lt (small_line (by rw [List.length_singleton]; omega)), fun p hp => ?_⟩
  have s2 : Same H (upd (upd H q (.lst [.int 0])) p (.lst (List.replicate (lastStop ns + 1).toNat [V.int 0]).flatten)) := (Same.new nq).trans (Same.new hp)
  have hpH : H p = none := (Same.new nq).free hp
  have h2 : (upd (upd H q (.lst [.int 0])) p (.lst (List.replicate (lastStop ns + 1).toNat [V.int 0]).flatten)) p = some (.lst (iv (scL ns fun _ => 0))) := by
    rw [upd_same, iv_rep]
    unfold scL
    rw [List.map_const', List.length_range]
    congr 4
    omega
  generalize upd (upd H q (.lst [.int 0])) p (.lst (List.replicate (lastStop ns + 1).toNat [V.int 0]).flatten) = H2 at s2 h2 ⊢
  refine ⟨_, rfl, a, _, rfl, .inl (s2.seq ha), _, rfl, _, _, rfl, rfl, _, rfl, by decide, by decide, by omega, by omega, ?_⟩
  generalize eM : (((iv ns).length : Int) - hh - 0).toNat = M
  refine for_rangeC (n := M) (fun j σ H3 => (∃ v, σ = [some (.ref a), some (.int hh), some (.ref p), v]) ∧ Same H H3 ∧ H3 p = some (.lst (iv (scL ns fun s => if M ≤ s + j then ((leftF ns hh s : Nat) : Int) else 0))))
    ⟨⟨_, rfl⟩, s2, ?_⟩ ?_ ?_
  · rw [h2]
    congr 3
    refine scL_ext fun s => ?_
    by_cases c : M ≤ s + 0
    · rw [if_pos c, leftF_end (by omega)]; rfl
    · rw [if_neg c]
  · rintro j σ H3 hj ⟨⟨v, rfl⟩, s3, h3⟩
    obtain ⟨u, eu⟩ : ∃ u, M - (j + 1) = u := ⟨_, rfl⟩
    have ev : (0 : Int) + ((M : Nat) : Int) - 1 + ((j : Nat) : Int) * (-1) = (u : Nat) := by omega
    show (tAsg _ _) _ (List.set _ 3 (some (.int (0 + ((M : Nat) : Int) - 1 + ((j : Nat) : Int) * (-1))))) _
    rw [ev]
    have c : u + hh.toNat < ns.length := by omega
    have ef := fur_int ft h0 c
    have fl := fur_last hk ft h0 c
    refine ⟨_, rfl, _, rfl, _, rfl, _, rfl, _, _, rfl, rfl, a, ns, _, rfl, s3.seq ha, by omega, by omega, ?_⟩
    have e1 : (u : Int) + hh - ns.getD ((u : Int) + hh).toNat 0 = ((fur ns hh u : Nat) : Int) := by
      rw [ef]; unfold stopAt
      have : ((u : Int) + hh).toNat = u + hh.toNat := by omega
      rw [this]; omega
    rw [e1]
    have gu := fur_gt ns hh u
    refine ⟨p, _, _, _, rfl, rfl, SqL.of h3, atI_iv (by omega) (by rw [scL_len]; omega), _, _, rfl, rfl, ?_⟩
    rw [Int.toNat_natCast, scL_getD fl, if_pos (show M ≤ fur ns hh u + j by omega)]
    refine ⟨_, rfl, _, rfl, p, _, u, u, rfl, rfl, h3, ixN_u (by rw [List.length_map, scL_len]; omega), ⟨_, rfl⟩, Same.at s3 hpH, ?_⟩
    rw [upd_same]
    congr 2
    refine scL_set fun s => ?_
    by_cases c2 : s = u
    · subst c2
      rw [if_pos rfl, if_pos (by omega), leftF_go c]
      omega
    · rw [if_neg c2]
      by_cases c3 : M ≤ s + j
      · rw [if_pos c3, if_pos (by omega)]
      · rw [if_neg c3, if_neg (by omega)]
  · rintro σ H3 ⟨⟨v, rfl⟩, s3, h3⟩
    refine ⟨_, rfl, k p _ hpH s3 ?_⟩
    rw [h3]
    congr 3
    exact scL_ext fun s => if_pos (by omega)
/-- ints that are line numbers -/
abbrev nv (L : List Nat) : List Int := L.map fun (i : Nat) => (i : Int)
def sp_followers (K : PySem.W.Frag) : Sp := fun vs H Q _ => ∃ (a b : Addr) (ns : List Int) (h : Int) (s : Nat), vs = [.ref a, .int h, .ref b, .int s] ∧ SqL K H a (iv ns) ∧ H b = some (.lst (iv (leftL ns h))) ∧ isO ns = true ∧ 1 ≤ h ∧ h ≤ 400 ∧ Fit ns h 0 ∧ (s : Int) ≤ lastStop ns ∧ RetL Q H (iv (nv (folL ns h s)))
theorem ok_followers (T : Txt mg) (h : At K mg "followers" s_followers)
    (g_stop_of : Has P w K mg base CX0 1 "stop_of" s_stop_of P_stop_of (sp_stop_of K)) :
    Has P w K mg base CX0 2 "followers" s_followers P_followers (sp_followers K) := by
  refine Has.of h sc_followers (fun vs H Q E h => ?_) (fun _ _ _ _ _ _ us hl => match us, hl with | [_, _, _, _], _ => rfl) (fun f cdv A outer s H vs Q E room qt h => ?_)
  · obtain ⟨a, b, n, z, t, rfl, _⟩ := h; rfl
  obtain ⟨a, b, ns, hh, s, rfl, ha, hb, ho, h0, h1, ft, hs, k⟩ := h
  obtain ⟨l1, l2, hk⟩ := isO_iff.mp ho
  have lb := last_bd ho
  refine ⟨_, (pss_cons (ps_if (pt_cmpR op_eq (pe_ix ix_list (pv 2) (pv 3) (fun _ _ => rfl)) pe_int (nomark _))
        (pss_one (ps_ret (pe_lst pa_nil)))
        pss_nil)
      (pss_cons (ps_set (i := 4) sc_followers.nd rfl (Or.inr rfl) (pe_has g_stop_of (room.mono (by decide)) qt (by rfl) pass0 (pa_cons (pv 0) (pa_cons (pe_op op_add (pv 3) (pv 1)) pa_nil))))
      (pss_one (ps_ret (pe_lc (own := [("after", 5)]) (by rfl) sc_followers.nd (pi_range2 (by rfl) T.range (pa_cons (pe_op op_add (pv 3) pe_int) (pa_cons (pe_op op_add (pv 4) pe_int) pa_nil))) (blkOk_by (own := [("after", 5)]) (N := N_followers) (sc := defScope s_followers) (by decide +kernel)) (fun _ _ _ _ _ => (pg_name (i := 5) sc_followers.nd rfl (Or.inl rfl) (hf := Or.inr rfl))) (fun _ _ _ _ _ => (pts_one (pt_cmpR op_eq (pe_ix (show IxR _ (rIxL K) from by exact ix_list) (pv 2) (pv 5) (fun _ _ => rfl)) (pe_ix (show IxR _ (rIxL K) from by exact ix_list) (pv 2) (pv 4) (fun _ _ => rfl)) (nomark _)))) (fun _ _ _ _ _ => (pv 5))))))), ?_⟩
  refine ⟨_, rfl, _, rfl, b, _, s, _, rfl, rfl, SqL.of hb, atI_iv (by omega) (by unfold leftL; rw [scL_len]; omega), rfl, ?_⟩
  rw [Int.toNat_natCast, show (leftL ns hh).getD s 0 = ((leftF ns hh s : Nat) : Int) from scL_getD hs]
  refine ⟨_, rfl, ite2 (fun c => ?_) (fun c => ?_)⟩
  · have c1 : leftF ns hh s = 0 := by
      have := V.int.inj (of_decide_eq_true c)
      omega
    refine ⟨(by decide : 0 ≤ sizeLine), fun p hp => k p _ hp (Same.new hp) ?_⟩
    rw [upd_same]
    unfold folL
    rw [if_neg (by have := left_zero c1; omega)]
    rfl
  · have c1 : s + hh.toNat < ns.length := by
      rcases Nat.lt_or_ge (s + hh.toNat) ns.length with q | q
      · exact q
      · exact (c (by rw [leftF_end q]; rfl)).elim
    have ef := fur_int ft h0 c1
    have fl := fur_last hk ft h0 c1
    have gu := fur_gt ns hh s
    refine ⟨_, rfl, _, rfl, _, rfl, _, _, rfl, rfl, a, ns, _, rfl, ha, by omega, by omega, ?_⟩
    have e1 : (s : Int) + hh - ns.getD ((s : Int) + hh).toNat 0 = ((fur ns hh s : Nat) : Int) := by
      rw [ef]; unfold stopAt
      have : ((s : Int) + hh).toNat = s + hh.toNat := by omega
      rw [this]; omega
    rw [e1]
    refine ⟨_, rfl, _, _, rfl, rfl, _, rfl, _, _, rfl, rfl, _, _, rfl, ⟨by omega, by omega, by omega, by omega⟩, fun D hD => lcRn (lo := (s : Int) + 1) (n := (((fur ns hh s : Nat) : Int) + 1 - ((s : Int) + 1)).toNat) (fun i => leftF ns hh (s + 1 + i) == leftF ns hh (fur ns hh s)) (fun i => V.int ((s + 1 + i : Nat) : Int)) hD (by omega) (fun x => rfl) ?_ ?_ ?_⟩
    · intro i H2 Q' hi s2 qq
      refine ⟨_, rfl, _, rfl, b, _, _, _, rfl, rfl, SqL.of (s2 _ _ hb), atI_iv (by omega) (by unfold leftL; rw [scL_len]; omega), _, rfl, _, rfl, b, _, _, _, rfl, rfl, SqL.of (s2 _ _ hb), atI_iv (by omega) (by unfold leftL; rw [scL_len]; omega), rfl, ?_⟩
      have ei : ((s : Int) + 1 + (i : Nat)).toNat = s + 1 + i := by omega
      rw [ei, Int.toNat_natCast, show (leftL ns hh).getD (s + 1 + i) 0 = ((leftF ns hh (s + 1 + i) : Nat) : Int) from scL_getD (by omega), show (leftL ns hh).getD (fur ns hh s) 0 = ((leftF ns hh (fur ns hh s) : Nat) : Int) from scL_getD fl]
      have ed : decide (V.int ((leftF ns hh (s + 1 + i) : Nat) : Int) = V.int ((leftF ns hh (fur ns hh s) : Nat) : Int)) = (leftF ns hh (s + 1 + i) == leftF ns hh (fur ns hh s)) := by
        by_cases c2 : leftF ns hh (s + 1 + i) = leftF ns hh (fur ns hh s)
        · rw [c2, decide_eq_true rfl, beq_self_eq_true]
        · rw [decide_eq_false (fun q => c2 (by have := V.int.inj q; omega)), beq_false_of_ne c2]
      refine ⟨_, rfl, ?_⟩
      rw [ed]
      exact qq H2 (Same.refl _)
    · intro i H2 Q' hi hk2 s2 qq
      refine ⟨_, rfl, ?_⟩
      rw [show (s : Int) + 1 + (i : Nat) = ((s + 1 + i : Nat) : Int) by omega]
      exact qq H2 (Same.refl _)
    · intro H2 s2 h2
      refine k D H2 hD s2 ?_
      rw [show (((fur ns hh s : Nat) : Int) + 1 - ((s : Int) + 1)).toNat = fur ns hh s - s by omega] at h2
      rw [h2]
      unfold folL gives
      rw [if_pos c1, List.filter_map]
      simp only [iv, nv, List.map_map]
      rfl
end
end SH

namespace SH
open PySem PySem.Spec PyProof.Rows L2
theorem nv_getD {L : List Nat} {i : Nat} : (nv L).getD i 0 = ((L.getD i 0 : Nat) : Int) := by
  rw [List.getD_eq_getElem?_getD, List.getD_eq_getElem?_getD, List.getElem?_map]
  cases L[i]? with
  | none => rfl
  | some x => rfl
theorem getD_mem {L : List Nat} {i : Nat} (h : i < L.length) : L.getD i 0 ∈ L := by
  rw [List.getD_eq_getElem?_getD, List.getElem?_eq_getElem h]
  exact List.getElem_mem h
theorem nvF (L : List Nat) (f : Nat → Int) : (nv L).map (fun z => V.int (f z.toNat)) = iv (L.map f) := by
  unfold iv
  rw [List.map_map, List.map_map]
  refine List.map_congr_left fun i _ => ?_
  show V.int (f ((i : Nat) : Int).toNat) = V.int (f i)
  rw [Int.toNat_natCast]
theorem fol_len {ns : List Int} {h : Int} (hk : okFrom 0 ns = true) (ft : Fit ns h 0) (h1 : 1 ≤ h) (s : Nat) : (folL ns h s).length ≤ ns.length := by
  unfold folL
  by_cases c : s + h.toNat < ns.length
  · rw [if_pos c]
    refine Nat.le_trans (List.length_filter_le _ _) ?_
    rw [List.length_map, List.length_range]
    have := fur_int ft h1 c
    have := (okFrom_at hk c).1
    unfold stopAt at *
    omega
  · rw [if_neg c]; exact Nat.zero_le _
theorem fol_last {ns : List Int} {h : Int} (hk : okFrom 0 ns = true) (ft : Fit ns h 0) (h1 : 1 ≤ h) {s a : Nat} (m : a ∈ folL ns h s) : (a : Int) ≤ lastStop ns := by
  obtain ⟨c, _, q, _⟩ := fol_mem.mp m
  have := fur_last hk ft h1 c
  omega
section
variable {P : Program} {w : World} {K : PySem.W.Frag} {mg : Str → Option Value} {base : Heap}
def sp_count_ways (K : PySem.W.Frag) : Sp := fun vs H Q _ => ∃ (a b : Addr) (ns : List Int) (h : Int), vs = [.ref a, .int h, .ref b] ∧ SqL K H a (iv ns) ∧ H b = some (.lst (iv (leftL ns h))) ∧ isO ns = true ∧ 1 ≤ h ∧ h ≤ 400 ∧ Fit ns h 0 ∧ RetL Q H (iv (waysL ns h))
theorem ok_count_ways (T : Txt mg) (h : At K mg "count_ways" s_count_ways)
    (g_followers : Has P w K mg base CX0 2 "followers" s_followers P_followers (sp_followers K)) :
    Has P w K mg base CX0 3 "count_ways" s_count_ways P_count_ways (sp_count_ways K) := by
  refine Has.of h sc_count_ways (fun vs H Q E h => ?_) (fun _ _ _ _ _ _ us hl => match us, hl with | [_, _, _], _ => rfl) (fun f cdv A outer s H vs Q E room qt h => ?_)
  · obtain ⟨a, b, n, z, rfl, _⟩ := h; rfl
  obtain ⟨a, b, ns, hh, rfl, ha, hb, ho, h0, h1, ft, k⟩ := h
  obtain ⟨l1, l2, hk⟩ := isO_iff.mp ho
  have el : (iv ns).length = ns.length := List.length_map _
  have ell : (iv (leftL ns hh)).length = (lastStop ns).toNat + 1 := by rw [List.length_map]; exact scL_len _ _
  have lb := last_bd ho
  have lf := fit_last ho ft
  refine ⟨_, (pss_cons (ps_set (i := 3) sc_count_ways.nd rfl (Or.inr rfl) (pe_op op_rep (pe_lst (pa_cons pe_int pa_nil)) (pe_callB call_len_seq (by rfl) T.len (by decide +kernel) (pa_cons (pv 2) pa_nil))))
      (pss_cons (ps_for PassesOwn.never rfl (pi_revR (by rfl) T.reversed (prg_1 (by rfl) T.range (pe_op op_sub (pe_callB call_len_seq (by rfl) T.len (by decide +kernel) (pa_cons (pv 0) pa_nil)) (pv 1)))) (pg_name (i := 4) sc_count_ways.nd rfl (Or.inl rfl) (hf := Or.inl rfl))
        (pss_one (ps_asg (pe_callB (cr_sum rfl) (by rfl) T.sum (by decide +kernel) (pa_cons (pe_lc (own := [("after", 5)]) (by rfl) sc_count_ways.nd (pi_list (pe_has g_followers (room.mono (by decide)) qt (by rfl) pass0 (pa_cons (pv 0) (pa_cons (pv 1) (pa_cons (pv 2) (pa_cons (pv 4) pa_nil)))))) (blkOk_by (own := [("after", 5)]) (N := N_count_ways) (sc := defScope s_count_ways) (by decide +kernel)) (fun _ _ _ _ _ => (pg_name (i := 5) sc_count_ways.nd rfl (Or.inl rfl) (hf := Or.inr rfl))) (fun _ _ _ _ _ => pts_nil) (fun _ _ _ _ _ => (pe_ix (show IxR _ (rIxL K) from by exact ix_list) (pv 3) (pv 5) (fun _ _ => rfl)))) pa_nil)) (pg_sub (pv 3) (pv 4) set_list))))
      (pss_one (ps_ret (pv 3))))), ?_⟩
  refine ⟨(by decide : 1 ≤ sizeLine), fun q nq => ?_⟩
  refine ⟨_, rfl, b, _, rfl, .inl (SqL.of (Same.new nq _ _ hb)), q, _, _, rfl, rfl, upd_same, by omega, by omega, Nat.le_of_lt (small_line (by rw [List.length_singleton]; omega)), fun p hp => ?_⟩
  have s2 : Same H (upd (upd H q (.lst [.int 1])) p (.lst (List.replicate ((iv (leftL ns hh)).length : Int).toNat [V.int 1]).flatten)) := (Same.new nq).trans (Same.new hp)
  have hpH : H p = none := (Same.new nq).free hp
  have h2 : (upd (upd H q (.lst [.int 1])) p (.lst (List.replicate ((iv (leftL ns hh)).length : Int).toNat [V.int 1]).flatten)) p = some (.lst (iv (scL ns fun _ => 1))) := by
    rw [upd_same, iv_rep]
    unfold scL
    rw [List.map_const', List.length_range, ell, Int.toNat_natCast]
  generalize upd (upd H q (.lst [.int 1])) p (.lst (List.replicate ((iv (leftL ns hh)).length : Int).toNat [V.int 1]).flatten) = H2 at s2 h2 ⊢
  refine ⟨_, rfl, a, _, rfl, .inl (s2.seq ha), _, rfl, _, _, rfl, rfl, _, rfl, by decide, by decide, by omega, by omega, ?_⟩
  generalize eM : (((iv ns).length : Int) - hh - 0).toNat = M
  refine for_rangeC (n := M) (fun j σ H3 => (∃ v, σ = [some (.ref a), some (.int hh), some (.ref b), some (.ref p), v, none]) ∧ Same H H3 ∧ H3 p = some (.lst (iv (scL ns fun s => if M ≤ s + j then waysF ns hh s else 1))))
    ⟨⟨_, rfl⟩, s2, ?_⟩ ?_ ?_
  · rw [h2]
    congr 3
    refine scL_ext fun s => ?_
    by_cases c : M ≤ s + 0
    · rw [if_pos c, ways_end (by omega)]
    · rw [if_neg c]
  · rintro j σ H3 hj ⟨⟨v, rfl⟩, s3, h3⟩
    obtain ⟨u, eu⟩ : ∃ u, M - (j + 1) = u := ⟨_, rfl⟩
    have ev : (0 : Int) + ((M : Nat) : Int) - 1 + ((j : Nat) : Int) * (-1) = (u : Nat) := by omega
    show (tAsg _ _) _ (List.set _ 4 (some (.int (0 + ((M : Nat) : Int) - 1 + ((j : Nat) : Int) * (-1))))) _
    rw [ev]
    have c : u + hh.toNat < ns.length := by omega
    have flen := fol_len hk ft h0 u
    refine ⟨_, rfl, _, rfl, _, rfl, _, rfl, a, b, ns, hh, u, rfl, s3.seq ha, s3 _ _ hb, ho, h0, h1, ft, by omega, fun r H4 hr s4 h4 => ?_⟩
    have h4p := s4 _ _ h3
    have hpr : p ≠ r := ne_of_none h3 hr
    refine ⟨r, rfl, ⟨_, SqL.of h4⟩, fun D hD => lcLn (K := K) (a := r) (xs := iv (nv (folL ns hh u))) (fun _ => true) (fun i => V.int (waysF ns hh ((nv (folL ns hh u)).getD i 0).toNat)) (SqL.of h4) hD (by rw [List.length_map, List.length_map]; omega) (fun x => rfl) (fun i x H5 Q' _ _ qq => qq H5 (Same.refl _)) ?_ ?_⟩
    · intro i x H5 Q' hx _ s5 qq
      have il : i < (nv (folL ns hh u)).length := by have := (List.getElem?_eq_some_iff.mp hx).1; rwa [List.length_map] at this
      rw [iv_at il] at hx
      cases hx
      rw [List.length_map] at il
      rw [nv_getD] at qq ⊢
      have mem := getD_mem il
      obtain ⟨_, m1, m2, _⟩ := fol_mem.mp mem
      have m3 := fol_last hk ft h0 mem
      generalize (folL ns hh u).getD i 0 = x at *
      refine ⟨_, rfl, _, rfl, p, _, _, _, rfl, rfl, SqL.of (s5 _ _ h4p), atI_iv (by omega) (by rw [scL_len]; omega), ?_⟩
      rw [Int.toNat_natCast] at qq ⊢
      rw [scL_getD m3, if_pos (show M ≤ x + j by omega)]
      exact qq H5 (Same.refl _)
    · intro H5 s5 h5
      rw [List.length_map, gives_ints (nv (folL ns hh u)) (fun z => V.int (waysF ns hh z.toNat)), nvF] at h5
      refine ⟨D, (folL ns hh u).map (waysF ns hh), rfl, SqL.of h5, ?_⟩
      rw [← ways_go c]
      have h5p := s5 _ _ h4p
      refine ⟨_, rfl, _, rfl, p, _, u, u, rfl, rfl, h5p, ixN_u (by rw [List.length_map, scL_len]; omega), ⟨_, rfl⟩, Same.at ((s3.trans s4).trans s5) hpH, ?_⟩
      rw [upd_same]
      congr 2
      refine scL_set fun s => ?_
      by_cases c2 : s = u
      · subst c2
        rw [if_pos rfl, if_pos (by omega)]
      · rw [if_neg c2]
        by_cases c3 : M ≤ s + j
        · rw [if_pos c3, if_pos (by omega)]
        · rw [if_neg c3, if_neg (by omega)]
  · rintro σ H3 ⟨⟨v, rfl⟩, s3, h3⟩
    refine ⟨_, rfl, k p _ hpH s3 ?_⟩
    rw [h3]
    congr 3
    exact scL_ext fun s => if_pos (by omega)
end
abbrev s_count_shortest : Stmt := topS 44
abbrev N_count_shortest : List Str := ["outline", "height"]
abbrev P_count_shortest : List Str := ["outline", "height"]
theorem sc_count_shortest : FnScope N_count_shortest P_count_shortest (defScope s_count_shortest) := ⟨rfl, rfl, rfl, by decide +kernel, rfl, by decide +kernel, by decide +kernel⟩
section
variable {P : Program} {w : World} {K : PySem.W.Frag} {mg : Str → Option Value} {base : Heap}
def sp_count_shortest : Sp := fun vs H Q _ => ∃ (a : Addr) (ns : List Int) (h : Int), vs = [.ref a, .int h] ∧ H a = some (.lst (iv ns)) ∧ isO ns = true ∧ 1 ≤ h ∧ h ≤ 400 ∧ Fit ns h 0 ∧ RetV Q H (.int (waysF ns h 0))
def sp_csN (CO CH CT : Addr) : Sp := fun vs H Q E => ∃ (x y : V) (d e : PyData) (as bs : List Addr), vs = [x, y] ∧ Dx H x d as ∧ Dx H y e bs ∧ ChkA CO CH CT d e H E (fun ns h => RetV Q H (.int (waysF ns h 0)))
theorem cs_imp {CO CH CT : Addr} : ∀ vs H Q E, sp_count_shortest vs H Q E → sp_csN CO CH CT vs H Q E0 := by
  rintro vs H Q E ⟨a, ns, h, rfl, ha, ho, h0, h1, ft, k⟩
  refine ⟨.ref a, .int h, dI ns, .int h, [a], [], rfl, dx_dI ha, .int h, fun z => ?_, fun _ z => ?_, fun ms h' e1 _ e2 _ _ => ⟨fun _ => ?_, fun j dj => ?_⟩⟩
  · rw [isOD_dI, ho] at z; cases z
  · have z' : (decide (1 ≤ h) && decide (h ≤ 400)) = false := z
    rw [decide_eq_true h0, decide_eq_true h1] at z'
    cases z'
  · obtain rfl : ns = ms := by rw [← intsD_dI ns, e1, intsD_dI]
    cases e2
    exact k
  · obtain rfl : ns = ms := by rw [← intsD_dI ns, e1, intsD_dI]
    cases e2
    have := ft j (Nat.zero_le _) dj.2.1
    have := dj.2.2.1
    omega
theorem ok_count_shortest {C_InvalidOutlineError C_InvalidHeightError C_TooDeepError : Addr} (T : Txt mg) (h : At K mg "count_shortest" s_count_shortest)
    (g_check_all_shown : Has P w K mg base (L2N.CX P w) 5 "check_all_shown" s_check_all_shown P_check_all_shown (sp_allN C_InvalidOutlineError C_InvalidHeightError C_TooDeepError))
    (g_count_ways : Has P w K mg base CX0 3 "count_ways" s_count_ways P_count_ways (sp_count_ways K))
    (g_count_views_left : Has P w K mg base CX0 3 "count_views_left" s_count_views_left P_count_views_left (sp_count_views_left K)) :
    Has P w K mg base (L2N.CX P w) 6 "count_shortest" s_count_shortest P_count_shortest (sp_csN C_InvalidOutlineError C_InvalidHeightError C_TooDeepError) := by
  refine Has.ofN h sc_count_shortest (fun vs H Q E h => ?_) (fun _ _ _ _ _ _ us hl => match us, hl with | [_, _], _ => rfl) (fun f cdv A outer s H vs Q E room qt h => ?_)
  · obtain ⟨x, y, d, e, as, bs, rfl, _⟩ := h; rfl
  obtain ⟨x, y, d, e, as, bs, rfl, hx, hy, kO, kH, kk⟩ := h
  refine ⟨_, (pss_cons (ps_expr (pe_hasS g_check_all_shown (room.mono (by decide)) qt (by rfl) (fun σ => L2N.passAt (L2N.takes_of rfl rfl rfl rfl) σ) (pa_cons (pv 0) (pa_cons (pv 1) pa_nil))))
      (pss_one (ps_ret (pe_ix ix_list (pe_has g_count_ways (room.mono (by decide)) qt (by rfl) pass0 (pa_cons (pv 0) (pa_cons (pv 1) (pa_cons (pe_has g_count_views_left (room.mono (by decide)) qt (by rfl) pass0 (pa_cons (pv 0) (pa_cons (pv 1) pa_nil))) pa_nil)))) pe_int (fun _ _ => rfl))))), ?_⟩
  refine ⟨_, rfl, _, rfl, x, y, d, e, as, bs, rfl, hx, hy, kO, kH, fun ns hh ed ho ee h0 h1 => ⟨fun ft => ?_, (kk ns hh ed ho ee h0 h1).2⟩⟩
  have k := (kk ns hh ed ho ee h0 h1).1 ft
  subst ed ee
  obtain ⟨a, rfl, ha⟩ := hx.ints
  obtain rfl : y = .int hh := by cases hy; rfl
  have lb := last_bd ho
  refine ⟨_, rfl, _, rfl, _, rfl, _, rfl, a, ns, hh, rfl, SqL.of ha, ho, h0, h1, ft, fun l H2 hl s2 h2 => ?_⟩
  refine ⟨a, l, ns, hh, rfl, SqL.of (s2 _ _ ha), h2, ho, h0, h1, ft, fun p H3 hp s3 h3 => ?_⟩
  refine ⟨p, _, 0, _, rfl, rfl, SqL.of h3, atI_iv (by decide) (by unfold waysL; rw [scL_len]; omega), ?_⟩
  rw [show (waysL ns hh).getD (0 : Int).toNat 0 = waysF ns hh 0 from scL_getD (by omega)]
  exact k _ (s2.trans s3)
end
end SH

namespace SH
open PySem PySem.Spec PyProof.Rows L2
abbrev s_nth_shortest : Stmt := topS 45
abbrev N_nth_shortest : List Str := ["outline", "height", "index", "left", "ways", "reading", "smaller", "choices", "at"]
abbrev P_nth_shortest : List Str := ["outline", "height", "index"]
theorem sc_nth_shortest : FnScope N_nth_shortest P_nth_shortest (defScope s_nth_shortest) := ⟨rfl, rfl, rfl, by decide +kernel, rfl, by decide +kernel, by decide +kernel⟩
abbrev s_rank_shortest : Stmt := topS 46
abbrev N_rank_shortest : List Str := ["outline", "height", "scrolls", "left", "ways", "smaller", "scroll", "chosen", "choices", "after"]
abbrev P_rank_shortest : List Str := ["outline", "height", "scrolls"]
theorem sc_rank_shortest : FnScope N_rank_shortest P_rank_shortest (defScope s_rank_shortest) := ⟨rfl, rfl, rfl, by decide +kernel, rfl, by decide +kernel, by decide +kernel⟩
theorem left_le {ns : List Int} {h : Int} : ∀ (m s : Nat), ns.length - s ≤ m → leftF ns h s ≤ m
  | 0, s, hm => by rw [leftF_end (by omega)]; exact Nat.le_refl _
  | m + 1, s, hm => by
    rcases Nat.lt_or_ge (s + h.toNat) ns.length with c | c
    · rw [leftF_go c]
      have := fur_gt ns h s
      exact Nat.succ_le_succ (left_le m _ (by omega))
    · rw [leftF_end c]; exact Nat.zero_le _
def nthR (ns : List Int) (h : Int) (i : Int) : List Nat := 0 :: nthL ns h (leftF ns h 0) 0 i
theorem nv_snoc (F : List Nat) (x : Nat) : nv (F ++ [x]) = nv F ++ [(x : Int)] := by unfold nv; rw [List.map_append]; rfl
theorem atI_snoc (F : List Nat) (x : Nat) : atI (iv (nv (F ++ [x]))) (-1) = some (.int (x : Nat)) := by
  rw [nv_snoc]
  have e := atI_iv_last (ns := nv F ++ [(x : Int)]) (by simp)
  rw [e, List.getD_eq_getElem?_getD]
  congr 2
  rw [List.length_append, List.length_singleton, Nat.add_sub_cancel, List.getElem?_append_right (Nat.le_refl _), Nat.sub_self]
  rfl
theorem sum_drop {w : Nat → Int} {l : List Nat} {t : Nat} (ht : t < l.length) : ((l.drop t).map w).sum = w (l.getD t 0) + ((l.drop (t + 1)).map w).sum := by
  rw [List.drop_eq_getElem_cons ht, List.map_cons, List.sum_cons, List.getD_eq_getElem?_getD, List.getElem?_eq_getElem ht]
  rfl
theorem pick_drop {w : Nat → Int} {l : List Nat} {t : Nat} {r : Int} (ht : t < l.length) : pick w (l.drop t) r = if r < w (l.getD t 0) then (l.getD t 0, r) else pick w (l.drop (t + 1)) (r - w (l.getD t 0)) := by
  rw [List.drop_eq_getElem_cons ht, List.getD_eq_getElem?_getD, List.getElem?_eq_getElem ht]
  rfl
theorem for_zipM {K : PySem.W.Frag} {a b : Addr} {xs ys : List V} {g : TG} {tb : TS} {D : Ends} {σ : L2.St} {H : Hp} (hl : ys.length ≤ xs.length) (Pv : Nat → L2.St → Hp → Prop) (h0 : Pv 0 σ H) (hq : ∀ i σ H, Pv i σ H → SqL K H a xs ∧ SqL K H b ys)
    (hs : ∀ (i : Nat) (x y : V) (T : Addr) (σ : L2.St) (H : Hp), xs[i]? = some x → ys[i]? = some y → Pv i σ H → H T = none → g (.ref T) σ (upd H T (.tup [x, y])) fun σ2 H2 => tb { D with nx := Pv (i + 1), ct := Pv (i + 1), bk := D.nx } σ2 H2) (hd : ∀ σ H, Pv ys.length σ H → D.nx σ H) :
    ∃ W : Nat → Nat → L2.St → Hp → Prop, (∃ m, W 0 m σ H) ∧ ∀ i m σ H, W i m σ H →
      ((Itz K a b).stop i H ∧ D.nx σ H) ∨ ((Itz K a b).go i H ∧ ∃ N : L2.St → Hp → Prop, (∀ σ' H', N σ' H' → ∃ m', m' < m ∧ W (i + 1) m' σ' H') ∧ ∀ v H', (Itz K a b).yld i H v H' → g v σ H' fun σ2 H2 => tb { D with nx := N, ct := N, bk := D.nx } σ2 H2) := by
  refine ⟨fun i m σ H => m = ys.length - i ∧ i ≤ ys.length ∧ Pv i σ H, ⟨ys.length, rfl, Nat.zero_le _, h0⟩, ?_⟩
  rintro i m σ H ⟨rfl, hi, p⟩
  obtain ⟨qx, qy⟩ := hq i σ H p
  by_cases hlt : i < ys.length
  · have hx : xs[i]? = some xs[i] := List.getElem?_eq_getElem (by omega)
    have hy : ys[i]? = some ys[i] := List.getElem?_eq_getElem hlt
    refine .inr ⟨⟨xs, ys, _, _, qx, qy, hx, hy⟩, Pv (i + 1), fun σ' H' p' => ⟨ys.length - (i + 1), by omega, rfl, hlt, p'⟩, fun v H' y => ?_⟩
    obtain ⟨T, x', y', rfl, hT, rfl, f1, f2⟩ := y
    exact hs i x' y' T σ H (f1 xs qx) (f2 ys qy) p hT
  · have e : i = ys.length := by omega
    subst e
    exact .inl ⟨⟨xs, ys, qx, qy, Or.inr (Nat.le_refl _)⟩, hd σ H p⟩
section
variable {P : Program} {w : World} {K : PySem.W.Frag} {mg : Str → Option Value} {base : Heap}
def sp_nth_shortest : Sp := fun vs H Q _ => ∃ (a : Addr) (ns : List Int) (h i : Int), vs = [.ref a, .int h, .int i] ∧ H a = some (.lst (iv ns)) ∧ isO ns = true ∧ 1 ≤ h ∧ h ≤ 400 ∧ Fit ns h 0 ∧ 0 ≤ i ∧ i < waysF ns h 0 ∧ RetL Q H (iv (nv (nthR ns h i)))
def sp_nsN (CO CH CT CN : Addr) : Sp := fun vs H Q E => ∃ (x y z : V) (d e dz : PyData) (as bs cs : List Addr), vs = [x, y, z] ∧ Dx H x d as ∧ Dx H y e bs ∧ Dx H z dz cs ∧
  ChkA CO CH CT d e H E (fun ns h => (∀ i : Int, dz = .int i → 0 ≤ i → i < waysF ns h 0 → RetL Q H (iv (nv (nthR ns h i)))) ∧ (inD dz 0 (waysF ns h 0 - 1) = false → ∀ H', Same H H' → E (.ref CN) none H'))
theorem ok_nth_shortest {C_InvalidOutlineError C_InvalidHeightError C_TooDeepError C_InvalidNumberError : Addr} (T : Txt mg) (h : At K mg "nth_shortest" s_nth_shortest)
    (g_check_all_shown : Has P w K mg base (L2N.CX P w) 5 "check_all_shown" s_check_all_shown P_check_all_shown (sp_allN C_InvalidOutlineError C_InvalidHeightError C_TooDeepError))
    (g_count_views_left : Has P w K mg base CX0 3 "count_views_left" s_count_views_left P_count_views_left (sp_count_views_left K))
    (g_count_ways : Has P w K mg base CX0 3 "count_ways" s_count_ways P_count_ways (sp_count_ways K))
    (g_check_number : Has P w K mg base (L2N.CX P w) 3 "check_number" s_check_number P_check_number (sp_chkN C_InvalidNumberError))
    (g_followers : Has P w K mg base CX0 2 "followers" s_followers P_followers (sp_followers K)) :
    Has P w K mg base (L2N.CX P w) 6 "nth_shortest" s_nth_shortest P_nth_shortest (sp_nsN C_InvalidOutlineError C_InvalidHeightError C_TooDeepError C_InvalidNumberError) := by
  refine Has.ofN h sc_nth_shortest (fun vs H Q E h => ?_) (fun _ _ _ _ _ _ us hl => match us, hl with | [_, _, _], _ => rfl) (fun f cdv A outer s H vs Q E room qt h => ?_)
  · obtain ⟨x, y, z, d, e, dz, as, bs, cs, rfl, _⟩ := h; rfl
  obtain ⟨x, y, vx, d, e, dz, as, bs, cs, rfl, hx, hy, hz, kO, kH, kk⟩ := h
  refine ⟨_, (pss_cons (ps_expr (pe_hasS g_check_all_shown (room.mono (by decide)) qt (by rfl) (fun σ => L2N.passAt (L2N.takes_of rfl rfl rfl rfl) σ) (pa_cons (pv 0) (pa_cons (pv 1) pa_nil))))
      (pss_cons (ps_set (i := 3) sc_nth_shortest.nd rfl (Or.inl rfl) (pe_has g_count_views_left (room.mono (by decide)) qt (by rfl) pass0 (pa_cons (pv 0) (pa_cons (pv 1) pa_nil))))
      (pss_cons (ps_set (i := 4) sc_nth_shortest.nd rfl (Or.inl rfl) (pe_has g_count_ways (room.mono (by decide)) qt (by rfl) pass0 (pa_cons (pv 0) (pa_cons (pv 1) (pa_cons (pv 3) pa_nil)))))
      (pss_cons (ps_expr (pe_hasS g_check_number (room.mono (by decide)) qt (by rfl) (fun σ => L2N.passAt (L2N.takes_of rfl rfl rfl rfl) σ) (pa_cons (pv 2) (pa_cons pe_int (pa_cons (pe_op op_sub (pe_ix ix_list (pv 4) pe_int (fun _ _ => rfl)) pe_int) pa_nil)))))
      (pss_cons (ps_set (i := 5) sc_nth_shortest.nd rfl (Or.inl rfl) (pe_lst (pa_cons pe_int pa_nil)))
      (pss_cons (ps_set (i := 6) sc_nth_shortest.nd rfl (Or.inl rfl) (pv 2))
      (pss_cons (ps_while (passes_of rfl) (pt_cmpR op_gt (pe_ix ix_list (pv 3) (pe_ix ix_list (pv 5) (pe_un un_neg pe_int) (fun _ _ => rfl)) (fun _ _ => rfl)) pe_int (nomark _))
        (pss_cons (ps_set (i := 7) sc_nth_shortest.nd rfl (Or.inl rfl) (pe_has g_followers (room.mono (by decide)) qt (by rfl) pass0 (pa_cons (pv 0) (pa_cons (pv 1) (pa_cons (pv 3) (pa_cons (pe_ix ix_list (pv 5) (pe_un un_neg pe_int) (fun _ _ => rfl)) pa_nil))))))
        (pss_cons (ps_set (i := 8) sc_nth_shortest.nd rfl (Or.inl rfl) pe_int)
        (pss_cons (ps_while (passes_of rfl) (pt_cmpR op_ge (pv 6) (pe_ix ix_list (pv 4) (pe_ix ix_list (pv 7) (pv 8) (fun _ _ => rfl)) (fun _ _ => rfl)) (nomark _))
          (pss_cons (ps_aug (i := 6) sc_nth_shortest.nd rfl (Or.inl rfl) (pe_ix ix_list (pv 4) (pe_ix ix_list (pv 7) (pv 8) (fun _ _ => rfl)) (fun _ _ => rfl)) ip_sub)
          (pss_one (ps_aug (i := 8) sc_nth_shortest.nd rfl (Or.inl rfl) pe_int ip_add))))
        (pss_one (ps_expr (pe_bm PySem.F.plainAttrs_list PySem.F.slot_list_append PySem.F.type_list_append mt_append (pv 5) (pa_cons (pe_ix ix_list (pv 7) (pv 8) (fun _ _ => rfl)) pa_nil))))))))
      (pss_one (ps_ret (pv 5)))))))))), ?_⟩
  refine ⟨_, rfl, _, rfl, x, y, d, e, as, bs, rfl, hx, hy, kO, kH, fun ns hh ed ho ee h0 h1 => ⟨fun ft => ?_, (kk ns hh ed ho ee h0 h1).2⟩⟩
  obtain ⟨kgood, kbad⟩ := (kk ns hh ed ho ee h0 h1).1 ft
  subst ed ee
  obtain ⟨a, rfl, ha⟩ := hx.ints
  obtain rfl : y = .int hh := by cases hy; rfl
  clear kO kH kk
  obtain ⟨l1, l2, hk⟩ := isO_iff.mp ho
  have lb := last_bd ho
  have lf := fit_last ho ft
  refine ⟨_, rfl, _, rfl, a, ns, hh, rfl, SqL.of ha, ho, h0, h1, ft, fun l H2 hl s2 h2 => ?_⟩
  refine ⟨_, rfl, _, rfl, _, rfl, a, l, ns, hh, rfl, SqL.of (s2 _ _ ha), h2, ho, h0, h1, ft, fun w H3 hw s3 h3 => ?_⟩
  have s03 := s2.trans s3
  have h3l := s3 _ _ h2
  refine ⟨_, rfl, _, rfl, w, _, 0, _, rfl, rfl, SqL.of h3, atI_iv (by decide) (by unfold waysL; rw [scL_len]; omega), _, _, rfl, rfl, ?_⟩
  rw [show (waysL ns hh).getD (0 : Int).toNat 0 = waysF ns hh 0 from scL_getD (by omega)]
  refine ⟨vx, dz, cs, 0, _, rfl, hz.same s03, fun good => ?_, fun bad => kbad bad _ s03⟩
  obtain ⟨i, rfl, i0, i1'⟩ := inD_int good
  have i1 : i < waysF ns hh 0 := by omega
  obtain rfl : vx = .int i := by cases hz; rfl
  have k := kgood i rfl i0 i1
  refine ⟨(by decide : 1 ≤ sizeLine), fun p hp => ⟨_, rfl, ?_⟩⟩
  have hpH := s03.free hp
  have s04 : Same H (upd H3 p (.lst (iv (nv ([] ++ [0]))))) := Same.at s03 hpH
  have h4l := Same.new (o := .lst (iv (nv ([] ++ [0])))) hp _ _ h3l
  have h4w := Same.new (o := .lst (iv (nv ([] ++ [0])))) hp _ _ h3
  have npl : l ≠ p := ne_of_none h3l hp
  have npw : w ≠ p := ne_of_none h3 hp
  refine ⟨fun m σ H' => ∃ (F : List Nat) (z : Nat) (r : Int) (v7 v8 : Option V), σ = [some (.ref a), some (.int hh), some (.int i), some (.ref l), some (.ref w), some (.ref p), some (.int r), v7, v8] ∧
      leftF ns hh z = m ∧ nthR ns hh i = F ++ z :: nthL ns hh m z r ∧ 0 ≤ r ∧ r < waysF ns hh z ∧ (z : Int) ≤ lastStop ns ∧ F.length + m ≤ 200 ∧ Same H H' ∧ H' l = some (.lst (iv (leftL ns hh))) ∧ H' w = some (.lst (iv (waysL ns hh))) ∧ H' p = some (.lst (iv (nv (F ++ [z])))),
    ⟨_, [], 0, i, _, _, rfl, rfl, rfl, i0, i1, lb.1, ?_, s04, h4l, h4w, upd_same⟩, ?_⟩
  · have := left_le (ns := ns) (h := hh) ns.length 0 (by omega)
    show 0 + _ ≤ 200
    omega
  rintro m σ H5 ⟨F, z, r, v7, v8, rfl, em, en, r0, r1, zl, fl, s5, h5l, h5w, h5p⟩
  refine ⟨_, rfl, _, rfl, _, rfl, p, _, -1, _, rfl, rfl, SqL.of h5p, atI_snoc F z, l, _, _, _, rfl, rfl, SqL.of h5l, atI_iv (by omega) (by unfold leftL; rw [scL_len]; omega), _, _, rfl, rfl, ?_⟩
  rw [Int.toNat_natCast, show (leftL ns hh).getD z 0 = ((leftF ns hh z : Nat) : Int) from scL_getD zl, em]
  refine ⟨_, rfl, ite2 (fun c => ?_) (fun c => ?_)⟩
  · obtain ⟨m', rfl⟩ : ∃ m', m = m' + 1 := ⟨m - 1, by have := of_decide_eq_true c; omega⟩
    have cz := left_pos em
    have wz := ways_go cz
    have flen := fol_len hk ft h0 z
    refine ⟨fun σ' H' => ∃ (z' : Nat) (r' : Int) (v7 v8 : Option V), σ' = [some (.ref a), some (.int hh), some (.int i), some (.ref l), some (.ref w), some (.ref p), some (.int r'), v7, v8] ∧
      pick (waysF ns hh) (folL ns hh z) r = (z', r') ∧ Same H H' ∧ H' l = some (.lst (iv (leftL ns hh))) ∧ H' w = some (.lst (iv (waysL ns hh))) ∧ H' p = some (.lst (iv (nv (F ++ [z] ++ [z'])))), ?_, ?_⟩
    · rintro σ' H' ⟨z', r', v7', v8', rfl, pk, s6, h6l, h6w, h6p⟩
      obtain ⟨p1, p2, p3⟩ := pick_ok r0 (by rw [← wz]; exact r1)
      rw [pk] at p1 p2 p3
      have e1 : leftF ns hh z = leftF ns hh z' + 1 := fol_left p1
      refine ⟨m', Nat.lt_succ_self _, F ++ [z], z', r', v7', v8', rfl, by omega, ?_, p2, p3, fol_last hk ft h0 p1, by rw [List.length_append, List.length_singleton]; omega, s6, h6l, h6w, h6p⟩
      rw [en, List.append_assoc]
      show F ++ z :: (pick (waysF ns hh) (folL ns hh z) r).1 :: nthL ns hh m' (pick (waysF ns hh) (folL ns hh z) r).1 (pick (waysF ns hh) (folL ns hh z) r).2 = _
      rw [pk]
      rfl
    refine ⟨_, rfl, _, rfl, _, rfl, _, rfl, _, rfl, p, _, -1, _, rfl, rfl, SqL.of h5p, atI_snoc F z, a, l, ns, hh, z, rfl, SqL.of (s5 _ _ ha), h5l, ho, h0, h1, ft, zl, fun c6 H6 hc6 s6 h6 => ?_⟩
    have h6l := s6 _ _ h5l
    have h6w := s6 _ _ h5w
    have h6p := s6 _ _ h5p
    have s06 := s5.trans s6
    have efl : (iv (nv (folL ns hh z))).length = (folL ns hh z).length := by rw [List.length_map, List.length_map]
    refine ⟨fun mm σ H' => ∃ (t : Nat) (r' : Int), mm = (folL ns hh z).length - t ∧ H' = H6 ∧ σ = [some (.ref a), some (.int hh), some (.int i), some (.ref l), some (.ref w), some (.ref p), some (.int r'), some (.ref c6), some (.int (t : Nat))] ∧
      pick (waysF ns hh) (folL ns hh z) r = pick (waysF ns hh) ((folL ns hh z).drop t) r' ∧ 0 ≤ r' ∧ r' < (((folL ns hh z).drop t).map (waysF ns hh)).sum,
      ⟨_, 0, r, rfl, rfl, rfl, rfl, r0, by rw [List.drop_zero, ← wz]; exact r1⟩, ?_⟩
    rintro mm σ H' ⟨t, r', rfl, rfl, rfl, pk, q0, q1⟩
    have tl : t < (folL ns hh z).length := by
      rcases Nat.lt_or_ge t (folL ns hh z).length with q | q
      · exact q
      · rw [List.drop_eq_nil_of_le q, List.map_nil, List.sum_nil] at q1; omega
    have mem := getD_mem tl
    have ml := fol_last hk ft h0 mem
    have atc : atI (iv (nv (folL ns hh z))) ((t : Nat) : Int) = some (.int (((folL ns hh z).getD t 0 : Nat) : Int)) := by
      rw [atI_iv (by omega) (by rw [List.length_map]; omega), Int.toNat_natCast, nv_getD]
    have atw : atI (iv (waysL ns hh)) (((folL ns hh z).getD t 0 : Nat) : Int) = some (.int (waysF ns hh ((folL ns hh z).getD t 0))) := by
      rw [atI_iv (by omega) (by unfold waysL; rw [scL_len]; omega), Int.toNat_natCast, show (waysL ns hh).getD _ 0 = waysF ns hh ((folL ns hh z).getD t 0) from scL_getD ml]
    have pd := pick_drop (w := waysF ns hh) (r := r') tl
    refine ⟨_, rfl, _, rfl, _, rfl, _, rfl, c6, _, _, _, rfl, rfl, SqL.of h6, atc, w, _, _, _, rfl, rfl, SqL.of h6w, atw, _, _, rfl, rfl, _, rfl, ite2 (fun d => ?_) (fun d => ?_)⟩
    · have d1 : ¬ r' < waysF ns hh ((folL ns hh z).getD t 0) := by have := of_decide_eq_true d; omega
      rw [if_neg d1] at pd
      refine ⟨fun σ' H'' => H'' = H' ∧ σ' = [some (.ref a), some (.int hh), some (.int i), some (.ref l), some (.ref w), some (.ref p), some (.int (r' - waysF ns hh ((folL ns hh z).getD t 0))), some (.ref c6), some (.int ((t + 1 : Nat) : Int))], ?_, ?_⟩
      · rintro σ' H'' ⟨rfl, rfl⟩
        refine ⟨_, Nat.sub_lt_sub_left tl (Nat.lt_succ_self t), t + 1, _, rfl, rfl, rfl, by rw [pk, pd], by omega, ?_⟩
        rw [sum_drop tl] at q1
        omega
      · exact ⟨_, rfl, _, rfl, _, rfl, _, rfl, c6, _, _, _, rfl, rfl, SqL.of h6, atc, w, _, _, _, rfl, rfl, SqL.of h6w, atw, _, _, rfl, rfl, _, rfl, _, _, rfl, rfl, rfl, rfl⟩
    · have d1 : r' < waysF ns hh ((folL ns hh z).getD t 0) := by
        rcases Int.lt_or_le r' (waysF ns hh ((folL ns hh z).getD t 0)) with q | q
        · exact q
        · exact (d (decide_eq_true (by omega))).elim
      rw [if_pos d1] at pd
      refine ⟨_, rfl, .inl ⟨rfl, _, SqL.of h6p⟩, _, rfl, _, rfl, c6, _, _, _, rfl, rfl, SqL.of h6, atc, p, _, _, rfl, rfl, h6p, small_line (by rw [List.length_map, List.length_map, List.length_append, List.length_singleton]; omega), ?_⟩
      refine ⟨_, r', _, _, rfl, by rw [pk, pd], Same.at s06 hpH, ?_, ?_, ?_⟩
      · rw [upd_ne npl]; exact h6l
      · rw [upd_ne npw]; exact h6w
      · rw [upd_same, nv_snoc (F ++ [z]), iv_snoc]
  · have em0 : m = 0 := by
      rcases Nat.eq_zero_or_pos m with q | q
      · exact q
      · exact (c (decide_eq_true (by omega))).elim
    subst em0
    refine ⟨_, rfl, k p _ hpH s5 ?_⟩
    rw [h5p, en]
    rfl
end
end SH

namespace SH
open PySem PySem.Spec PyProof.Rows L2
theorem cutI_from (l : List Int) {n : Int} (h : 0 ≤ n) : cutI l (some n) none = l.drop n.toNat := by
  unfold cutI
  have e : n = (n.toNat : Int) := by omega
  rw [e, HT.sIx_none, HT.sIx_nat, Int.toNat_natCast]
  rcases Nat.le_total n.toNat l.length with a | a
  · rw [Nat.min_eq_left a, List.take_of_length_le (by rw [List.length_drop]; omega)]
  · rw [Nat.min_eq_right a, List.drop_eq_nil_of_le (Nat.le_refl _), List.drop_eq_nil_of_le a, List.take_nil]
theorem gives_filter (L : List Int) (p : Int → Bool) : gives L.length (fun i => p (L.getD i 0)) (fun i => V.int (L.getD i 0)) = iv (L.filter p) := by
  have key : ∀ n, n ≤ L.length → gives n (fun i => p (L.getD i 0)) (fun i => V.int (L.getD i 0)) = iv ((L.take n).filter p) := by
    intro n
    induction n with
    | zero => intro _; rfl
    | succ n ih =>
      intro hn
      have e : L[n]? = some (L.getD n 0) := by rw [List.getD_eq_getElem?_getD, List.getElem?_eq_getElem (by omega)]; rfl
      rw [gives_succ, ih (by omega), List.take_succ, e]
      generalize L.getD n 0 = x
      show (if p x = true then iv ((L.take n).filter p) ++ [V.int x] else iv ((L.take n).filter p)) = iv ((L.take n ++ [x]).filter p)
      rw [List.filter_append, List.filter_cons]
      by_cases c : p x = true
      · rw [if_pos c, if_pos c, iv_snoc]; rfl
      · rw [if_neg c, if_neg c]; simp
  have := key L.length (Nat.le_refl _)
  rwa [List.take_length] at this
theorem path_read {ns : List Int} {h : Int} (ho : isO ns = true) (ft : Fit ns h 0) (h1 : 1 ≤ h) {L : List Nat} (p : Path ns h 0 L) : readD ns h (dI (nv (0 :: L))) = true := by
  obtain ⟨l1, l2, hk⟩ := isO_iff.mp ho
  have lb := last_bd ho
  have asc := path_asc p
  have last := path_last hk ft h1 p
  unfold readD
  rw [Bool.and_eq_true, show ascXD (lastStop ns) (dI (nv (0 :: L))) = ascB (lastStop ns) 0 (nv (0 :: L)) from ascD_ints _ _ _, intsD_dI, List.all_eq_true]
  refine ⟨ascB_iff.mpr ⟨?_, fun v hv => ?_⟩, fun j hj => ?_⟩
  · unfold nv
    rw [List.pairwise_map]
    exact asc.imp fun {a b} q => by omega
  · obtain ⟨x, hx, rfl⟩ := List.mem_map.mp hv
    rcases List.mem_cons.mp hx with e | e
    · subst e; omega
    · have := last x e; omega
  · have jl := List.mem_range.mp hj
    have s0 := (stopAt_nn hk jl).1
    obtain ⟨a, ha, q1, q2⟩ := path_cov hk ft h1 p j jl (by omega)
    unfold shB
    rw [List.any_eq_true]
    refine ⟨(a : Int), List.mem_map.mpr ⟨a, ha, rfl⟩, ?_⟩
    rw [Bool.and_eq_true, decide_eq_true_eq, decide_eq_true_eq]
    refine ⟨?_, q1⟩
    unfold loS
    split <;> omega
theorem iteFb {b : Bool} {A B : Prop} (e : b = false) (h : B) : if b = true then A else B := by rw [e, if_neg Bool.false_ne_true]; exact h
theorem gives_keep (L : List Int) (p : Int → Bool) (f : Int → Int) : gives L.length (fun i => p (L.getD i 0)) (fun i => V.int (f (L.getD i 0))) = iv ((L.filter p).map f) := by
  have key : ∀ n, n ≤ L.length → gives n (fun i => p (L.getD i 0)) (fun i => V.int (f (L.getD i 0))) = iv (((L.take n).filter p).map f) := by
    intro n
    induction n with
    | zero => intro _; rfl
    | succ n ih =>
      intro hn
      have e : L[n]? = some (L.getD n 0) := by rw [List.getD_eq_getElem?_getD, List.getElem?_eq_getElem (by omega)]; rfl
      rw [gives_succ, ih (by omega), List.take_succ, e]
      generalize L.getD n 0 = x
      show (if p x = true then iv (((L.take n).filter p).map f) ++ [V.int (f x)] else iv (((L.take n).filter p).map f)) = iv (((L.take n ++ [x]).filter p).map f)
      rw [List.filter_append, List.filter_cons, List.map_append]
      by_cases c : p x = true
      · rw [if_pos c, if_pos c, iv_snoc]; rfl
      · rw [if_neg c, if_neg c]; simp
  have := key L.length (Nat.le_refl _)
  rwa [List.take_length] at this
/-- the rank so far, behind i pairs -/
theorem rank_step {ns : List Int} {h : Int} : ∀ (L : List Nat) (s i : Nat), i < L.length → rankL ns h ((s :: L).getD i 0) (L.drop i) =
    (((folL ns h ((s :: L).getD i 0)).filter (fun x => decide (x < L.getD i 0))).map (waysF ns h)).sum + rankL ns h ((s :: L).getD (i + 1) 0) (L.drop (i + 1)) := by
  intro L s i hi
  rw [List.drop_eq_getElem_cons hi]
  have e : L.getD i 0 = L[i] := by rw [List.getD_eq_getElem?_getD, List.getElem?_eq_getElem hi]; rfl
  have e2 : (s :: L).getD (i + 1) 0 = L[i] := e
  rw [e, e2]
  rfl
theorem path_at {ns : List Int} {h : Int} (hk : okFrom 0 ns = true) (ft : Fit ns h 0) (h1 : 1 ≤ h) {L : List Nat} (p : Path ns h 0 L) (l0 : 0 ≤ lastStop ns) (i : Nat) : (((0 :: L).getD i 0 : Nat) : Int) ≤ lastStop ns := by
  rcases Nat.lt_or_ge i (0 :: L).length with c | c
  · have := getD_mem c
    rcases List.mem_cons.mp this with e | e
    · rw [e]; exact l0
    · exact path_last hk ft h1 p _ e
  · rw [List.getD_eq_getElem?_getD, List.getElem?_eq_none c]; exact l0
theorem iteT' {b : Bool} {A B : Prop} (e : b = true) (h : A) : if b = true then A else B := by rw [if_pos e]; exact h
/-- a reading with as many positions as there must be is a shortest reading -/
theorem path_of {ns : List Int} {h : Int} (hk : okFrom 0 ns = true) (ft : Fit ns h 0) (h1 : 1 ≤ h) : ∀ {Y : List Nat} {s : Nat}, (s :: Y).Pairwise (· < ·) →
    (∀ j, j < ns.length → (s : Int) ≤ stopAt ns j → ∃ a ∈ s :: Y, (a : Int) ≤ stopAt ns j ∧ j < a + h.toNat) → Y.length ≤ leftF ns h s → Path ns h s Y
  | [], s, _, cov, _ => by
    rcases Nat.lt_or_ge (s + h.toNat) ns.length with c | c
    · exfalso
      have gs := fur_gt ns h s
      have e := fur_int ft h1 c
      obtain ⟨a, ha, q1, q2⟩ := cov (s + h.toNat) c (by omega)
      rw [List.mem_singleton.mp ha] at q2
      omega
    · exact leftF_end c
  | b :: r, s, asc, cov, hl => by
    rw [List.length_cons] at hl
    have c : s + h.toNat < ns.length := by
      rcases Nat.lt_or_ge (s + h.toNat) ns.length with c | c
      · exact c
      · rw [leftF_end c] at hl; omega
    obtain ⟨p1, p2⟩ := List.pairwise_cons.mp asc
    have sb := p1 b List.mem_cons_self
    have gs := fur_gt ns h s
    have e := fur_int ft h1 c
    have bf : b ≤ fur ns h s := by
      obtain ⟨a, ha, q1, q2⟩ := cov (s + h.toNat) c (by omega)
      rcases List.mem_cons.mp ha with z | z
      · subst z; omega
      · rcases List.mem_cons.mp z with z | z
        · subst z; omega
        · have := (List.pairwise_cons.mp p2).1 a z
          omega
    have st := left_step hk ft h1 c sb bf
    have ih := path_of hk ft h1 (Y := r) (s := b) p2 (fun j hj q => by
      obtain ⟨a, ha, q1, q2⟩ := cov j hj (by omega)
      rcases List.mem_cons.mp ha with z | z
      · subst z; exact ⟨b, List.mem_cons_self, q, by omega⟩
      · exact ⟨a, z, q1, q2⟩) (by omega)
    have pl := path_len ih
    have lg := leftF_go c
    have lm := left_mono hk ft h1 ns.length b (fur ns h s) (by omega) bf
    exact ⟨fol_mem.mpr ⟨c, sb, bf, by omega⟩, ih⟩
theorem read_list {ns : List Int} {h : Int} {d : PyData} (r : readD ns h d = true) : ∃ X : List Int, d = dI X ∧ ascB (lastStop ns) 0 X = true ∧ ∀ j, j < ns.length → shB ns h X j = true := by
  unfold readD at r
  rw [Bool.and_eq_true, List.all_eq_true] at r
  obtain ⟨r1, r2⟩ := r
  cases d with
  | list ds =>
    have r1' : ascD (lastStop ns) 0 ds = true := r1
    obtain ⟨X, rfl⟩ := ascD_iv r1'
    rw [ascD_ints] at r1'
    refine ⟨X, rfl, r1', fun j hj => ?_⟩
    have := r2 j (List.mem_range.mpr hj)
    rwa [show intsD (PyData.list (X.map PyData.int)) = X from intsD_dI X] at this
  | _ => exact absurd r1 Bool.false_ne_true
theorem short_path {ns : List Int} {h : Int} (ho : isO ns = true) (ft : Fit ns h 0) (h1 : 1 ≤ h) {X : List Int} (a : ascB (lastStop ns) 0 X = true) (cv : ∀ j, j < ns.length → shB ns h X j = true) (hl : X.length = leftF ns h 0 + 1) :
    ∃ L, X = nv (0 :: L) ∧ Path ns h 0 L := by
  obtain ⟨l1, l2, hk⟩ := isO_iff.mp ho
  obtain ⟨asc, bd⟩ := ascB_iff.mp a
  have eX : X = nv (X.map Int.toNat) := by
    unfold nv
    rw [List.map_map]
    conv => lhs; rw [← List.map_id X]
    refine List.map_congr_left fun v hv => ?_
    have := bd v hv
    show v = ((v.toNat : Nat) : Int)
    omega
  generalize X.map Int.toNat = Y at eX
  subst eX
  have ascY : Y.Pairwise (· < ·) := by
    unfold nv at asc
    rw [List.pairwise_map] at asc
    exact asc.imp fun {a b} q => by omega
  have cvY : ∀ j, j < ns.length → ∃ a ∈ Y, (a : Int) ≤ stopAt ns j ∧ j < a + h.toNat := fun j hj => by
    have := cv j hj
    unfold shB at this
    rw [List.any_eq_true] at this
    obtain ⟨v, hv, q⟩ := this
    obtain ⟨z, hz, rfl⟩ := List.mem_map.mp hv
    rw [Bool.and_eq_true, decide_eq_true_eq, decide_eq_true_eq] at q
    refine ⟨z, hz, q.2, ?_⟩
    have q1 := q.1
    unfold loS at q1
    split at q1 <;> omega
  rw [List.length_map] at hl
  cases Y with
  | nil => rw [List.length_nil] at hl; omega
  | cons s L =>
    have d0 := (okFrom_at hk (i := 0) (by omega)).2.2 rfl
    have d1 := (okFrom_at hk (i := 0) (by omega)).1
    obtain ⟨z, hz, q1, q2⟩ := cvY 0 (by omega)
    have s0 : s = 0 := by
      unfold stopAt at q1
      rcases List.mem_cons.mp hz with e | e
      · omega
      · have := (List.pairwise_cons.mp ascY).1 z e; omega
    subst s0
    rw [List.length_cons] at hl
    exact ⟨L, rfl, path_of hk ft h1 ascY (fun j hj _ => cvY j hj) (by omega)⟩
section
variable {P : Program} {w : World} {K : PySem.W.Frag} {mg : Str → Option Value} {base : Heap}
/-- any value: the rank of a shortest reading, or an InvalidReadingError -/
def sp_rsN (CO CH CT CR : Addr) : Sp := fun vs H Q E => ∃ (x y z : V) (d e dz : PyData) (as bs cs : List Addr), vs = [x, y, z] ∧ Dx H x d as ∧ Dx H y e bs ∧ Dx H z dz cs ∧
  ChkA CO CH CT d e H E (fun ns h => (∀ L, dz = dI (nv (0 :: L)) → Path ns h 0 L → RetV Q H (.int (rankL ns h 0 L))) ∧ ((¬ ∃ L, dz = dI (nv (0 :: L)) ∧ Path ns h 0 L) → ∀ H', Same H H' → E (.ref CR) none H'))
theorem ok_rank_shortest {C_InvalidOutlineError C_InvalidHeightError C_TooDeepError C_InvalidReadingError : Addr} (T : Txt mg) (e_InvalidReadingError : Err K mg "InvalidReadingError" C_InvalidReadingError) (h : At K mg "rank_shortest" s_rank_shortest)
    (g_check_all_shown : Has P w K mg base (L2N.CX P w) 5 "check_all_shown" s_check_all_shown P_check_all_shown (sp_allN C_InvalidOutlineError C_InvalidHeightError C_TooDeepError))
    (g_count_views_left : Has P w K mg base CX0 3 "count_views_left" s_count_views_left P_count_views_left (sp_count_views_left K))
    (g_is_reading : Has P w K mg base CX0 5 "is_reading" s_is_reading P_is_reading sp_is_reading)
    (g_count_ways : Has P w K mg base CX0 3 "count_ways" s_count_ways P_count_ways (sp_count_ways K))
    (g_followers : Has P w K mg base CX0 2 "followers" s_followers P_followers (sp_followers K)) :
    Has P w K mg base (L2N.CX P w) 6 "rank_shortest" s_rank_shortest P_rank_shortest (sp_rsN C_InvalidOutlineError C_InvalidHeightError C_TooDeepError C_InvalidReadingError) := by
  refine Has.ofN h sc_rank_shortest (fun vs H Q E h => ?_) (fun _ _ _ _ _ _ us hl => match us, hl with | [_, _, _], _ => rfl) (fun f cdv A outer s H vs Q E room qt h => ?_)
  · obtain ⟨x, y, z, d, e, dz, as, bs, cs, rfl, _⟩ := h; rfl
  obtain ⟨x0, y0, x, d0, e0, d, as0, bs0, as, rfl, hx0, hy0, hd, kO, kH, kk⟩ := h
  refine ⟨_, (pss_cons (ps_expr (pe_hasS g_check_all_shown (room.mono (by decide)) qt (by rfl) (fun σ => L2N.passAt (L2N.takes_of rfl rfl rfl rfl) σ) (pa_cons (pv 0) (pa_cons (pv 1) pa_nil))))
      (pss_cons (ps_set (i := 3) sc_rank_shortest.nd rfl (Or.inl rfl) (pe_has g_count_views_left (room.mono (by decide)) qt (by rfl) pass0 (pa_cons (pv 0) (pa_cons (pv 1) pa_nil))))
      (pss_cons (ps_if (PW.pt (pw_or (pt_not (pt_val (pe_has g_is_reading (room.mono (by decide)) qt (by rfl) pass0 (pa_cons (pv 0) (pa_cons (pv 1) (pa_cons (pv 2) pa_nil)))))) (pw_or1 (pt_cmpR op_ne (pe_callB call_len_seq (by rfl) T.len (by decide +kernel) (pa_cons (pv 2) pa_nil)) (pe_op op_add (pe_ix ix_list (pv 3) pe_int (fun _ _ => rfl)) pe_int) (nomark _)))))
        (pss_one (ps_raiseN e_InvalidReadingError rfl (L2N.takes_of rfl rfl rfl rfl) (by rfl)))
        pss_nil)
      (pss_cons (ps_set (i := 4) sc_rank_shortest.nd rfl (Or.inr rfl) (pe_has g_count_ways (room.mono (by decide)) qt (by rfl) pass0 (pa_cons (pv 0) (pa_cons (pv 1) (pa_cons (pv 3) pa_nil)))))
      (pss_cons (ps_set (i := 5) sc_rank_shortest.nd rfl (Or.inl rfl) pe_int)
      (pss_cons (ps_for (passes_of rfl) rfl (RZ.pi_zipA (by rfl) T.zip (pa_cons (pv 2) (pa_cons (pe_slice sl_list (pv 2) (po_some pe_int) po_none) pa_nil))) (pg_tup rfl (pgs_cons (pg_name (i := 6) sc_rank_shortest.nd rfl (Or.inl rfl) (hf := Or.inl rfl)) (pgs_cons (pg_name (i := 7) sc_rank_shortest.nd rfl (Or.inr rfl) (hf := Or.inl rfl)) pgs_nil)))
        (pss_cons (ps_set (i := 8) sc_rank_shortest.nd rfl (Or.inl rfl) (pe_has g_followers (room.mono (by decide)) qt (by rfl) pass0 (pa_cons (pv 0) (pa_cons (pv 1) (pa_cons (pv 3) (pa_cons (pv 6) pa_nil))))))
        (pss_one (ps_aug (i := 5) sc_rank_shortest.nd rfl (Or.inl rfl) (pe_callB (cr_sum rfl) (by rfl) T.sum (by decide +kernel) (pa_cons (pe_lc (own := [("after", 9)]) (by rfl) sc_rank_shortest.nd (pi_list (pv 8)) (blkOk_by (own := [("after", 9)]) (N := N_rank_shortest) (sc := defScope s_rank_shortest) (by decide +kernel)) (fun _ _ _ _ _ => (pg_name (i := 9) sc_rank_shortest.nd rfl (Or.inl rfl) (hf := Or.inr rfl))) (fun _ _ _ _ _ => (pts_one (pt_cmpR op_lt (pv 9) (pv 7) (nomark _)))) (fun _ _ _ _ _ => (pe_ix (show IxR _ (rIxL K) from by exact ix_list) (pv 4) (pv 9) (fun _ _ => rfl)))) pa_nil)) ip_add))))
      (pss_one (ps_ret (pv 5))))))))), ?_⟩
  refine ⟨_, rfl, _, rfl, x0, y0, d0, e0, as0, bs0, rfl, hx0, hy0, kO, kH, fun ns hh ed ho ee h0 h1 => ⟨fun ft => ?_, (kk ns hh ed ho ee h0 h1).2⟩⟩
  obtain ⟨k, ke⟩ := (kk ns hh ed ho ee h0 h1).1 ft
  subst ed ee
  obtain ⟨a, rfl, ha⟩ := hx0.ints
  obtain rfl : y0 = .int hh := by cases hy0; rfl
  clear kO kH kk
  obtain ⟨l1, l2, hk⟩ := isO_iff.mp ho
  have lb := last_bd ho
  have ll := left_le (ns := ns) (h := hh) ns.length 0 (by omega)
  refine ⟨_, rfl, _, rfl, a, ns, hh, rfl, SqL.of ha, ho, h0, h1, ft, fun l H2 hl s2 h2 => ?_⟩
  refine ⟨_, rfl, _, rfl, _, rfl, a, ns, hh, x, d, as, rfl, s2 _ _ ha, ho, h0, h1, hd.same s2, fun H3 s3 => ?_⟩
  have s03 := s2.trans s3
  refine ⟨_, rfl, ?_⟩
  by_cases r : readD ns hh d = true
  · rw [r]
    obtain ⟨X, rfl, a1, cv⟩ := read_list r
    cases hd with
    | @lst b xs _ bs hb hx =>
    have exs : xs = iv X := dx_iv hx
    subst exs
    have h3b := s03 _ _ hb
    have h3l := s3 _ _ h2
    have eX : (iv X).length = X.length := List.length_map _
    refine iteF ?_
    refine ⟨_, rfl, b, _, rfl, .inl (SqL.of h3b), _, rfl, l, _, 0, _, rfl, rfl, SqL.of h3l, atI_iv (by decide) (by unfold leftL; rw [scL_len]; omega), _, _, rfl, rfl, ?_⟩
    rw [show (leftL ns hh).getD (0 : Int).toNat 0 = ((leftF ns hh 0 : Nat) : Int) from scL_getD (by omega), eX]
    refine ⟨rfl, _, rfl, ?_⟩
    by_cases c : X.length = leftF ns hh 0 + 1
    · obtain ⟨L, rfl, pth⟩ := short_path ho ft h0 a1 cv c
      have pl := path_len pth
      have eL : (iv (nv (0 :: L))).length = L.length + 1 := by rw [List.length_map, List.length_map]; rfl
      refine iteFb (by simp; omega) ?_
      refine ⟨_, rfl, _, rfl, _, rfl, a, l, ns, hh, rfl, SqL.of (s03 _ _ ha), h3l, ho, h0, h1, ft, fun w H4 hw s4 h4 => ?_⟩
      have s04 := s03.trans s4
      have h4b := s04 _ _ hb
      have h4l := s4 _ _ h3l
      refine ⟨_, rfl, _, rfl, _, rfl, b, _, rfl, SqL.of h4b, fun u hu => ?_⟩
      have h5u : (upd H4 u (.lst (cutV (iv (nv (0 :: L))) (some 1) none))) u = some (.lst (iv (nv L))) := by
        rw [upd_same, cutV_iv, cutI_from _ (by decide)]
        rfl
      have s05 := s04.trans (Same.new (o := .lst (cutV (iv (nv (0 :: L))) (some 1) none)) hu)
      have h5l := Same.new (o := .lst (cutV (iv (nv (0 :: L))) (some 1) none)) hu _ _ h4l
      have h5w := Same.new (o := .lst (cutV (iv (nv (0 :: L))) (some 1) none)) hu _ _ h4
      generalize upd H4 u (.lst (cutV (iv (nv (0 :: L))) (some 1) none)) = H5 at h5u s05 h5l h5w ⊢
      have h5b := s05 _ _ hb
      refine ⟨b, u, _, _, rfl, .inl ⟨SqL.of h5b, SqL.of h5u, for_zipM (K := K) (a := b) (b := u) (xs := iv (nv (0 :: L))) (ys := iv (nv L)) (by rw [eL, List.length_map, List.length_map]; omega)
        (fun i σ H6 => (∃ (sm : Int) (v6 v7 v8 : Option V), σ = [some (.ref a), some (.int hh), some (.ref b), some (.ref l), some (.ref w), some (.int sm), v6, v7, v8, none] ∧ sm + rankL ns hh ((0 :: L).getD i 0) (L.drop i) = rankL ns hh 0 L) ∧ Same H5 H6)
        ⟨⟨0, none, none, none, rfl, by rw [Int.zero_add]; rfl⟩, Same.refl _⟩ (fun i σ H6 e => ⟨SqL.of (e.2 _ _ h5b), SqL.of (e.2 _ _ h5u)⟩) ?_ ?_⟩⟩
      · rintro i x y Tt σ H6 hx hy ⟨⟨sm, v6, v7, v8, rfl, er⟩, s6⟩ hT
        have il : i < L.length := by have := (List.getElem?_eq_some_iff.mp hy).1; rwa [List.length_map, List.length_map] at this
        rw [iv_at (by rw [List.length_map]; show i < L.length + 1; omega), nv_getD] at hx
        rw [iv_at (by rw [List.length_map]; exact il), nv_getD] at hy
        cases hx
        cases hy
        have rs := rank_step (ns := ns) (h := hh) L 0 i il
        rw [rs] at er
        have zl := path_at hk ft h0 pth lb.1 i
        generalize (0 :: L).getD i 0 = z at zl er ⊢
        have s7 := s6.trans (Same.new (o := .tup [.int (z : Nat), .int ((L.getD i 0 : Nat) : Int)]) hT)
        refine ⟨Tt, _, rfl, SqT.of upd_same, rfl, _, _, rfl, _, _, rfl, rfl, ?_⟩
        generalize upd H6 Tt (.tup [.int (z : Nat), .int ((L.getD i 0 : Nat) : Int)]) = H7 at s7 ⊢
        refine ⟨_, rfl, _, rfl, _, rfl, _, rfl, a, l, ns, hh, z, rfl, SqL.of (s7 _ _ (s05 _ _ ha)), s7 _ _ h5l, ho, h0, h1, ft, zl, fun c8 H8 hc8 s8 h8 => ?_⟩
        have h8w := s8 _ _ (s7 _ _ h5w)
        have flen := fol_len hk ft h0 z
        generalize L.getD i 0 = ch at *
        refine ⟨_, rfl, _, rfl, c8, rfl, ⟨_, SqL.of h8⟩, fun D hD => lcLn (K := K) (a := c8) (xs := iv (nv (folL ns hh z))) (fun j => decide ((nv (folL ns hh z)).getD j 0 < (ch : Nat))) (fun j => V.int (waysF ns hh ((nv (folL ns hh z)).getD j 0).toNat)) (SqL.of h8) hD (by rw [List.length_map, List.length_map]; omega) (fun x => rfl) ?_ ?_ ?_⟩
        · intro j x H9 Q' hx s9 qq
          have jl : j < (nv (folL ns hh z)).length := by have := (List.getElem?_eq_some_iff.mp hx).1; rwa [List.length_map] at this
          rw [iv_at jl] at hx
          cases hx
          exact ⟨_, rfl, _, rfl, _, _, rfl, rfl, _, rfl, qq H9 (Same.refl _)⟩
        · intro j x H9 Q' hx _ s9 qq
          have jl : j < (nv (folL ns hh z)).length := by have := (List.getElem?_eq_some_iff.mp hx).1; rwa [List.length_map] at this
          rw [iv_at jl] at hx
          cases hx
          rw [List.length_map] at jl
          rw [nv_getD] at qq ⊢
          have mem := getD_mem jl
          have m3 := fol_last hk ft h0 mem
          generalize (folL ns hh z).getD j 0 = x at *
          refine ⟨_, rfl, _, rfl, w, _, _, _, rfl, rfl, SqL.of (s9 _ _ h8w), atI_iv (by omega) (by unfold waysL; rw [scL_len]; omega), ?_⟩
          rw [Int.toNat_natCast] at qq ⊢
          rw [show (waysL ns hh).getD x 0 = waysF ns hh x from scL_getD m3]
          exact qq H9 (Same.refl _)
        · intro H9 s9 h9
          rw [List.length_map, gives_keep (nv (folL ns hh z)) (fun v => decide (v < (ch : Nat))) (fun v => waysF ns hh v.toNat)] at h9
          refine ⟨D, _, rfl, SqL.of h9, _, _, rfl, rfl, ⟨_, _, _, _, rfl, ?_⟩, (s7.trans s8).trans s9⟩
          rw [← er]
          have e1 : ((nv (folL ns hh z)).filter (fun (v : Int) => decide (v < ((ch : Nat) : Int)))).map (fun (v : Int) => waysF ns hh v.toNat) = ((folL ns hh z).filter (fun x => decide (x < ch))).map (waysF ns hh) := by
            unfold nv
            rw [List.filter_map, List.map_map]
            have : ((fun v : Int => decide (v < (ch : Nat))) ∘ fun (i : Nat) => (i : Int)) = fun x => decide (x < ch) := by
              funext x
              show decide ((x : Int) < (ch : Nat)) = decide (x < ch)
              by_cases q : x < ch
              · rw [decide_eq_true q, decide_eq_true (by omega)]
              · rw [decide_eq_false q, decide_eq_false (by omega)]
            rw [this]
            refine List.map_congr_left fun x _ => ?_
            show waysF ns hh ((x : Nat) : Int).toNat = _
            rw [Int.toNat_natCast]
          rw [e1]
          show sm + _ + _ = _
          omega
      · rintro σ H6 ⟨⟨sm, v6, v7, v8, rfl, er⟩, s6⟩
        rw [List.length_map, List.length_map, List.drop_length] at er
        have er' : sm + 0 = rankL ns hh 0 L := er
        rw [Int.add_zero] at er'
        subst er'
        exact ⟨_, rfl, k L rfl pth _ (s05.trans s6)⟩
    · refine iteT' (by simp; omega) (ke ?_ H3 s03)
      rintro ⟨L, e, pth⟩
      have e2 : X = nv (0 :: L) := by rw [← intsD_dI X, e, intsD_dI]
      refine c ?_
      rw [e2, List.length_map, List.length_cons, path_len pth]
  · have r' : readD ns hh d = false := by cases q : readD ns hh d with
      | true => exact (r q).elim
      | false => rfl
    rw [r']
    refine iteT (ke ?_ H3 s03)
    rintro ⟨L, rfl, pth⟩
    exact r (path_read ho ft h0 pth)
end
end SH

namespace SH
open PySem PySem.Spec PyProof.Rows L2
theorem ite_cut {b : Prop} [Decidable b] {A : Prop} {NX : L2.St → Hp → Prop} {σ : L2.St} {H : Hp} (Inv : L2.St → Hp → Prop)
    (main : ∀ σ' H', Inv σ' H' → NX σ' H') (hA : b → (∀ σ' H', Inv σ' H' → NX σ' H') → A) (hB : ¬b → Inv σ H) : if b then A else NX σ H := by
  by_cases h : b
  · rw [if_pos h]; exact hA h main
  · rw [if_neg h]; exact main _ _ (hB h)
abbrev s_law_open_source : Stmt := topS 48
abbrev N_law_open_source : List Str := ["script", "k", "cell"]
abbrev P_law_open_source : List Str := ["script", "k"]
theorem sc_law_open_source : FnScope N_law_open_source P_law_open_source (defScope s_law_open_source) := ⟨rfl, rfl, rfl, by decide +kernel, rfl, by decide +kernel, by decide +kernel⟩
abbrev s_law_draw : Stmt := topS 49
abbrev N_law_draw : List Str := ["source", "limit", "digit", "mixed"]
abbrev P_law_draw : List Str := ["source", "limit"]
theorem sc_law_draw : FnScope N_law_draw P_law_draw (defScope s_law_draw) := ⟨rfl, rfl, rfl, by decide +kernel, rfl, by decide +kernel, by decide +kernel⟩
abbrev s_law_made : Stmt := topS 50
abbrev N_law_made : List Str := ["source", "script", "most", "deepest", "size", "style", "made", "top", "some"]
abbrev P_law_made : List Str := ["source", "script", "most", "deepest"]
theorem sc_law_made : FnScope N_law_made P_law_made (defScope s_law_made) := ⟨rfl, rfl, rfl, by decide +kernel, rfl, by decide +kernel, by decide +kernel⟩
abbrev s_law_height : Stmt := topS 51
abbrev N_law_height : List Str := ["source", "made", "least", "more"]
abbrev P_law_height : List Str := ["source", "made"]
theorem sc_law_height : FnScope N_law_height P_law_height (defScope s_law_height) := ⟨rfl, rfl, rfl, by decide +kernel, rfl, by decide +kernel, by decide +kernel⟩
/-- the bag stands at a: [digits, state, number of draws], at most n draws so far -/
def SrcV (n : Int) (H : Hp) (a : Addr) : Prop := ∃ x y z : Int, H a = some (.lst [.int x, .int y, .int z]) ∧ 0 ≤ y ∧ y < 2 ^ 400 ∧ 0 ≤ z ∧ z ≤ n
/-- what stays whatever the pool does -/
def Still (a : Addr) (H : Hp) (p : Hp → Prop) : Prop := ∀ H', SameBut a H H' → p H'
theorem SrcV.mono {n m : Int} {H : Hp} {a : Addr} (s : SrcV n H a) (h : n ≤ m) : SrcV m H a := by
  obtain ⟨x, y, z, e, y0, y1, z0, z1⟩ := s
  exact ⟨x, y, z, e, y0, y1, z0, by omega⟩
theorem SrcV.new {n : Int} {H : Hp} {a p : Addr} {o : HO} (s : SrcV n H a) (h : H p = none) : SrcV n (upd H p o) a := by
  obtain ⟨x, y, z, e, r⟩ := s
  exact ⟨x, y, z, by rw [upd_ne (ne_of_none e h)]; exact e, r⟩
theorem SrcV.upd {n : Int} {H : Hp} {a p : Addr} {o : HO} (s : SrcV n H a) (h : a ≠ p) : SrcV n (upd H p o) a := by
  obtain ⟨x, y, z, e, r⟩ := s
  exact ⟨x, y, z, by rw [upd_ne h]; exact e, r⟩
theorem SrcV.same {n : Int} {H H' : Hp} {a : Addr} (s : SrcV n H a) (h : Same H H') : SrcV n H' a := by
  obtain ⟨x, y, z, e, r⟩ := s
  exact ⟨x, y, z, h _ _ e, r⟩
theorem SrcV.ne {n : Int} {H : Hp} {a p : Addr} (s : SrcV n H a) (h : H p = none) : a ≠ p := by
  obtain ⟨x, y, z, e, r⟩ := s
  exact ne_of_none e h
theorem SrcV.but {n : Int} {g d : Addr} {H H' : Hp} (s : SrcV n H g) (b : SameBut d H H') (h : g ≠ d) : SrcV n H' g := by
  obtain ⟨x, y, z, e, r⟩ := s
  exact ⟨x, y, z, b _ _ e h, r⟩
theorem SameBut.own {a p : Addr} {H H' : Hp} {o : HO} (s : SameBut a H H') (h : H p = none) : SameBut a H (L2.upd H' p o) :=
  fun b u e n => by rw [upd_ne (ne_of_none e h)]; exact s b u e n
theorem SameBut.free {a p : Addr} {H H' : Hp} (s : SameBut a H H') (n : p ≠ a) (h : H' p = none) : H p = none := by
  cases e : H p with
  | none => rfl
  | some o => rw [s p o e n] at h; cases h
section
variable {P : Program} {w : World} {K : PySem.W.Frag} {mg : Str → Option Value} {base : Heap}
theorem pwR18 : (10 : Int) ^ (18 : Int).toNat = 1000000000000000000 := by decide
theorem pwR60 : (10 : Int) ^ (60 : Int).toNat = 1000000000000000000000000000000000000000000000000000000000000 := by decide
def sp_law_open_source (K : PySem.W.Frag) : Sp := fun vs H Q _ => ∃ (a : Addr) (i : Int) (ns : List Int), vs = [.ref a, .int i] ∧ SqL K H a (iv ns) ∧ 0 ≤ i ∧ ∀ p H', H p = none → Same H H' → SrcV 0 H' p → Q (.ref p) H'
theorem ok_law_open_source (T : Txt mg) (h : At K mg "_law_open_source" s_law_open_source) :
    Has P w K mg base CX0 1 "_law_open_source" s_law_open_source P_law_open_source (sp_law_open_source K) := by
  refine Has.of h sc_law_open_source (fun vs H Q E h => ?_) (fun _ _ _ _ _ _ us hl => match us, hl with | [_, _], _ => rfl) (fun f cdv A outer s H vs Q E room qt h => ?_)
  · obtain ⟨v, a, i, rfl, _⟩ := h; rfl
  obtain ⟨a, i, ns, rfl, ha, i0, k⟩ := h
  refine ⟨_, (pss_cons (ps_set (i := 2) sc_law_open_source.nd rfl (Or.inl rfl) pe_int)
      (pss_cons (ps_if (pt_cmpR op_lt (pv 1) (pe_callB call_len_seq (by rfl) T.len (by decide +kernel) (pa_cons (pv 0) pa_nil)) (nomark _))
        (pss_one (ps_set (i := 2) sc_law_open_source.nd rfl (Or.inl rfl) (pe_ix ix_list (pv 0) (pv 1) (fun _ _ => rfl))))
        pss_nil)
      (pss_one (ps_ret (pe_lst (pa_cons (pe_callB (call_max2 rfl) (by rfl) T.max (by decide +kernel) (pa_cons pe_int (pa_cons (pe_op op_sub (pv 2) (pe_op op_powG pe_int pe_int)) pa_nil))) (pa_cons (pe_op op_add (pe_op op_mul (pe_op op_mod (pv 2) (pe_op op_add (pe_op op_powG pe_int pe_int) pe_int)) pe_int) (pe_op op_mod (pv 1) pe_int)) (pa_cons pe_int pa_nil)))))))), ?_⟩
  refine ⟨_, rfl, _, rfl, a, _, rfl, .inl ha, _, _, rfl, rfl, _, rfl, ite_cut (fun σ H2 => ∃ c : Int, σ = [some (.ref a), some (.int i), some (.int c)] ∧ H2 = H) ?_ ?_ ?_⟩
  · rintro σ H2 ⟨c, rfl, rfl⟩
    refine ⟨_, rfl, _, _, rfl, rfl, ten_ok (by decide) (by decide), _, _, rfl, rfl, _, _, rfl, ?_⟩
    refine ⟨_, rfl, _, _, rfl, rfl, ten_ok (by decide) (by decide), _, _, rfl, rfl, _, _, rfl, rfl, ?_, ?_⟩
    · show (0 : Int) < _
      rw [pwR60]; decide
    refine ⟨_, _, rfl, rfl, .inr ⟨by decide, by decide⟩, _, rfl, _, _, rfl, rfl, (by show (0 : Int) < _; decide), _, _, rfl, rfl, ?_⟩
    refine ⟨(by decide : 3 ≤ sizeLine), fun p hp => k p _ hp (Same.new hp) ⟨_, _, _, upd_same, ?_, ?_, by decide, by decide⟩⟩
    · rw [pwR60]; omega
    · rw [pwR60]; omega
  · intro c hN
    have c1 := of_decide_eq_true c
    rw [List.length_map] at c1
    exact ⟨_, rfl, _, rfl, a, iv ns, i, _, rfl, rfl, ha, atI_iv i0 c1, hN _ _ ⟨_, rfl, rfl⟩⟩
  · intro _
    exact ⟨_, rfl, rfl⟩
theorem mixR_lt {z : Int} (z0 : 0 ≤ z) (z1 : z ≤ 1000000000) : 0 ≤ 40503 * (z + 1) * (z + 1) ∧ 40503 * (z + 1) * (z + 1) ≤ 40503000040503 * 1000000001 :=
  ⟨Int.mul_nonneg (by omega) (by omega), Int.mul_le_mul (by omega) (by omega) (by omega) (by decide)⟩
def mixR1 (y z : Int) : Int := (y + 40503 * (z + 1) * (z + 1) + 11) ^ (3 : Int).toNat % 2305843009213693951
theorem mixR1_lt (y z : Int) : 0 ≤ mixR1 y z ∧ mixR1 y z < 2305843009213693951 := by unfold mixR1; omega
def sp_law_draw : Sp := fun vs H Q _ => ∃ (a : Addr) (n m : Int), vs = [.ref a, .int n] ∧ SrcV m H a ∧ m ≤ 1000000000 ∧ 0 < n ∧ n < 2 ^ 200 ∧
  ∀ r H', 0 ≤ r → r < n → SameBut a H H' → SrcV (m + 1) H' a → Q (.int r) H'
theorem ok_law_draw (T : Txt mg) (h : At K mg "_law_draw" s_law_draw) :
    Has P w K mg base CX0 1 "_law_draw" s_law_draw P_law_draw sp_law_draw := by
  refine Has.of h sc_law_draw (fun vs H Q E h => ?_) (fun _ _ _ _ _ _ us hl => match us, hl with | [_, _], _ => rfl) (fun f cdv A outer s H vs Q E room qt h => ?_)
  · obtain ⟨v, a, m, rfl, _⟩ := h; rfl
  obtain ⟨a, n, m, rfl, ⟨x, y, z, ha, y0, y1, z0, z1⟩, m1, n0, n1, k⟩ := h
  refine ⟨_, (pss_cons (ps_if (pt_cmpR op_gt (pe_ix ix_list (pv 0) pe_int (fun _ _ => rfl)) pe_int (nomark _))
        (pss_cons (ps_set (i := 2) sc_law_draw.nd rfl (Or.inl rfl) (pe_op op_mod (pe_ix ix_list (pv 0) pe_int (fun _ _ => rfl)) (pv 1)))
        (pss_cons (ps_asg (pe_op op_fdivW (pe_ix ix_list (pv 0) pe_int (fun _ _ => rfl)) (pv 1)) (pg_sub (pv 0) pe_int set_list))
        (pss_one (ps_ret (pv 2)))))
        pss_nil)
      (pss_cons (ps_asg (pe_op op_add (pe_ix ix_list (pv 0) pe_int (fun _ _ => rfl)) pe_int) (pg_sub (pv 0) pe_int set_list))
      (pss_cons (ps_set (i := 3) sc_law_draw.nd rfl (Or.inl rfl) (pe_op op_mod (pe_op op_powG (pe_op op_add (pe_op op_add (pe_ix ix_list (pv 0) pe_int (fun _ _ => rfl)) (pe_op op_mul (pe_op op_mul pe_int (pe_ix ix_list (pv 0) pe_int (fun _ _ => rfl))) (pe_ix ix_list (pv 0) pe_int (fun _ _ => rfl)))) pe_int) pe_int) pe_int))
      (pss_cons (ps_set (i := 3) sc_law_draw.nd rfl (Or.inl rfl) (pe_op op_mod (pe_op op_powG (pe_op op_add (pv 3) (pe_op op_mul pe_int (pe_ix ix_list (pv 0) pe_int (fun _ _ => rfl)))) pe_int) pe_int))
      (pss_one (ps_ret (pe_op op_mod (pe_op op_fdivW (pv 3) pe_int) (pv 1)))))))), ?_⟩
  refine ⟨_, rfl, a, _, 0, _, rfl, rfl, SqL.of ha, rfl, _, _, rfl, rfl, _, rfl, ite2 (fun c => ?_) (fun c => ?_)⟩
  · refine ⟨_, rfl, a, _, 0, _, rfl, rfl, SqL.of ha, rfl, _, rfl, _, _, rfl, rfl, n0, ?_⟩
    refine ⟨_, rfl, a, _, 0, _, rfl, rfl, SqL.of ha, rfl, _, rfl, _, _, rfl, rfl, wide_div n0 (b := 200) (by omega) (by decide) (by decide), _, rfl, a, _, 0, 0, rfl, rfl, ha, rfl, ?_⟩
    exact ⟨_, rfl, k _ _ (Int.emod_nonneg _ (by omega)) (Int.emod_lt_of_pos _ n0) (SameBut.upd .refl) ⟨_, _, _, upd_same, y0, y1, z0, by omega⟩⟩
  · refine ⟨_, rfl, a, _, 2, _, rfl, rfl, SqL.of ha, rfl, _, _, rfl, rfl, _, rfl, a, _, 2, 2, rfl, rfl, ha, rfl, ?_⟩
    have h2 : (upd H a (.lst [.int x, .int y, .int (z + 1)])) a = some (.lst [.int x, .int y, .int (z + 1)]) := upd_same
    refine ⟨_, rfl, a, _, 1, _, rfl, rfl, SqL.of h2, rfl, _, rfl, a, _, 2, _, rfl, rfl, SqL.of h2, rfl, _, _, rfl, rfl, .inl ⟨by decide, by decide⟩, _, rfl, a, _, 2, _, rfl, rfl, SqL.of h2, rfl, _, _, rfl, rfl, .inr ⟨by omega, by omega⟩, _, _, rfl, rfl, _, _, rfl, rfl, ?_⟩
    have t0 := mixR_lt (z := z) z0 (by omega)
    refine ⟨_, _, rfl, rfl, cube_ok (i := y + 40503 * (z + 1) * (z + 1) + 11) (by omega), _, _, rfl, rfl, (by show (0 : Int) < _; decide), ?_⟩
    have t1 := mixR1_lt y z
    refine ⟨_, rfl, _, rfl, a, _, 2, _, rfl, rfl, SqL.of h2, rfl, _, _, rfl, rfl, .inl ⟨by decide, by decide⟩, _, _, rfl, rfl, ?_⟩
    refine ⟨_, _, rfl, rfl, cube_ok (i := mixR1 y z + 69621 * (z + 1)) (by omega), _, _, rfl, rfl, (by show (0 : Int) < _; decide), ?_⟩
    refine ⟨_, rfl, _, _, rfl, rfl, wide_div (by decide) (b := 200) (by decide) (by decide) (by decide), _, rfl, _, _, rfl, rfl, n0, ?_⟩
    exact k _ _ (Int.emod_nonneg _ (by omega)) (Int.emod_lt_of_pos _ n0) (SameBut.upd .refl) ⟨_, _, _, h2, y0, y1, by omega, by omega⟩
/-- an outline of at most `most` lines comes back -/
def sp_law_made (K : PySem.W.Frag) : Sp := fun vs H Q _ => ∃ (a sc : Addr) (cs : List Int) (m dp n : Int), vs = [.ref a, .ref sc, .int m, .int dp] ∧ SrcV n H a ∧ n ≤ 900000000 ∧ SqL K H sc (iv cs) ∧ (∀ H', SameBut a H H' → SqL K H' sc (iv cs)) ∧ 1 ≤ m ∧ m ≤ 200 ∧ 0 ≤ dp ∧
  ∀ (ns : List Int) (p : Addr) (H' : Hp), isO ns = true → (ns.length : Int) ≤ m → (∀ v ∈ ns, v ≤ dp) → H p = none → SameBut a H H' → SrcV (n + 1000) H' a → H' p = some (.lst (iv ns)) → Q (.ref p) H'
theorem ok_law_made (T : Txt mg) (h : At K mg "_law_made" s_law_made)
    (g_law_draw : Has P w K mg base CX0 1 "_law_draw" s_law_draw P_law_draw sp_law_draw) :
    Has P w K mg base CX0 2 "_law_made" s_law_made P_law_made (sp_law_made K) := by
  refine Has.of h sc_law_made (fun vs H Q E h => ?_) (fun _ _ _ _ _ _ us hl => match us, hl with | [_, _, _, _], _ => rfl) (fun f cdv A outer s H vs Q E room qt h => ?_)
  · obtain ⟨v, a, cs, m, dp, n, rfl, _⟩ := h; rfl
  obtain ⟨a, sc, cs, m, dp, n, rfl, ha, nb, hsc, hsc', m0, m1, dp0, k⟩ := h
  refine ⟨_, (pss_cons (ps_set (i := 4) sc_law_made.nd rfl (Or.inl rfl) (pe_ix ix_list (pe_lst (pa_cons (pe_op op_add pe_int (pe_has g_law_draw (room.mono (by decide)) qt (by rfl) pass0 (pa_cons (pv 0) (pa_cons (pe_callB (call_min2 rfl) (by rfl) T.min (by decide +kernel) (pa_cons (pv 2) (pa_cons pe_int pa_nil))) pa_nil)))) (pa_cons (pe_op op_add pe_int (pe_has g_law_draw (room.mono (by decide)) qt (by rfl) pass0 (pa_cons (pv 0) (pa_cons (pv 2) pa_nil)))) (pa_cons (pv 2) pa_nil)))) (pe_has g_law_draw (room.mono (by decide)) qt (by rfl) pass0 (pa_cons (pv 0) (pa_cons pe_int pa_nil))) (fun _ _ => rfl)))
      (pss_cons (ps_set (i := 5) sc_law_made.nd rfl (Or.inl rfl) (pe_has g_law_draw (room.mono (by decide)) qt (by rfl) pass0 (pa_cons (pv 0) (pa_cons pe_int pa_nil))))
      (pss_cons (ps_set (i := 6) sc_law_made.nd rfl (Or.inl rfl) (pe_lst (pa_cons pe_int pa_nil)))
      (pss_cons (ps_while PassesOwn.never (pt_cmpR op_lt (pe_callB call_len_seq (by rfl) T.len (by decide +kernel) (pa_cons (pv 6) pa_nil)) (pe_ifExp (pt_cmpR (op_eqD room.units) (pv 1) (pe_lst pa_nil) (nomark _)) (pe_callB (call_min2 rfl) (by rfl) T.min (by decide +kernel) (pa_cons (pv 4) (pa_cons pe_int pa_nil))) (pv 4)) (nomark _))
        (pss_cons (ps_set (i := 7) sc_law_made.nd rfl (Or.inl rfl) (pe_callB (call_min2 rfl) (by rfl) T.min (by decide +kernel) (pa_cons (pe_op op_add (pe_ix ix_list (pv 6) (pe_un un_neg pe_int) (fun _ _ => rfl)) pe_int) (pa_cons (pv 3) pa_nil))))
        (pss_cons (ps_set (i := 8) sc_law_made.nd rfl (Or.inl rfl) (pe_lst (pa_cons (pe_has g_law_draw (room.mono (by decide)) qt (by rfl) pass0 (pa_cons (pv 0) (pa_cons (pe_op op_add (pv 7) pe_int) pa_nil))) (pa_cons (pv 7) (pa_cons (pe_callB (call_max2 rfl) (by rfl) T.max (by decide +kernel) (pa_cons pe_int (pa_cons (pe_op op_sub (pv 7) (pe_has g_law_draw (room.mono (by decide)) qt (by rfl) pass0 (pa_cons (pv 0) (pa_cons pe_int pa_nil)))) pa_nil))) (pa_cons (pe_ix ix_list (pe_lst (pa_cons pe_int (pa_cons (pv 7) pa_nil))) (pe_has g_law_draw (room.mono (by decide)) qt (by rfl) pass0 (pa_cons (pv 0) (pa_cons pe_int pa_nil))) (fun _ _ => rfl)) pa_nil))))))
        (pss_one (ps_expr (pe_bm PySem.F.plainAttrs_list PySem.F.slot_list_append PySem.F.type_list_append mt_append (pv 6) (pa_cons (pe_ix ix_list (pe_op op_catS (pv 8) (pe_lst (pa_cons pe_int pa_nil))) (pv 5) (fun _ _ => rfl)) pa_nil)))))))
      (pss_one (ps_ret (pv 6))))))), ?_⟩
  -- size
  refine ⟨_, rfl, _, rfl, _, _, rfl, a, _, n, rfl, ha, by omega, by split <;> omega, by split <;> omega, fun e1 H1 x0 x1 b1 s1 => ⟨_, _, rfl, rfl, ?_⟩⟩
  refine ⟨_, rfl, _, rfl, a, _, _, rfl, s1, by omega, by omega, by omega, fun e2 H2 y0 y1 b2 s2 => ⟨_, _, rfl, rfl, _, rfl, (by decide : 3 ≤ sizeLine), fun q nq => ?_⟩⟩
  have h2q : (upd H2 q (.lst (iv [1 + e1, 1 + e2, m]))) q = some (.lst (iv [1 + e1, 1 + e2, m])) := upd_same
  refine ⟨_, rfl, a, 3, _, rfl, s2.new nq, by omega, by decide, by decide, fun j H3 j0 j1 b3 s3 => ?_⟩
  have nqa : q ≠ a := (s2.ne nq).symm
  have b03 : SameBut a H H3 := ((b1.trans b2).new nq).trans b3
  refine ⟨q, iv [1 + e1, 1 + e2, m], j, _, rfl, rfl, SqL.of (b3 _ _ h2q nqa), atI_iv j0 (by exact j1), ?_⟩
  have hsz : 1 ≤ [1 + e1, 1 + e2, m].getD j.toNat 0 ∧ [1 + e1, 1 + e2, m].getD j.toNat 0 ≤ m := by
    refine getD_all (p := fun v => 1 ≤ v ∧ v ≤ m) (fun v hv => ?_) j0 (by exact j1)
    simp only [List.mem_cons, List.not_mem_nil, or_false] at hv
    rcases hv with rfl | rfl | rfl
    · split at x1 <;> omega
    · omega
    · omega
  generalize [1 + e1, 1 + e2, m].getD j.toNat 0 = size at hsz ⊢
  -- style
  refine ⟨_, rfl, a, 5, _, rfl, s3, by omega, by decide, by decide, fun st H4 p1 q1 b4 s4 => ?_⟩
  have b04 := b03.trans b4
  refine ⟨(by decide : 1 ≤ sizeLine), fun p hp1 => ?_⟩
  have nap : p ≠ a := (s4.ne hp1).symm
  have hp : H p = none := b04.free nap hp1
  refine ⟨fun mm σ H7 => ∃ ns : List Int, 1 ≤ ns.length ∧ (ns.length : Int) ≤ size ∧ mm = size.toNat - ns.length ∧ okFrom 0 ns = true ∧ (∀ v ∈ ns, v ≤ dp) ∧ SameBut a H H7 ∧ SrcV (n + 4 + 3 * (ns.length : Int)) H7 a ∧ H7 p = some (.lst (iv ns)) ∧
    ∃ v7 v8, σ = [some (.ref a), some (.ref sc), some (.int m), some (.int dp), some (.int size), some (.int st), some (.ref p), v7, v8],
    ⟨_, [0], Nat.le_refl _, hsz.1, rfl, rfl, fun v hv => by rw [List.mem_singleton.mp hv]; exact dp0, b04.own hp, (s4.new hp1).mono (by omega), upd_same, _, _, rfl⟩, ?_⟩
  rintro mm σ H7 ⟨ns, l1, l2, rfl, hk, hdp, b7, s7, h7p, v7, v8, rfl⟩
  have nn : ns ≠ [] := fun e => by subst e; cases l1
  have l0 := (okFrom_at hk (i := ns.length - 1) (by omega)).1
  have el : (iv ns).length = ns.length := List.length_map _
  refine ⟨_, rfl, p, _, rfl, .inl (SqL.of h7p), _, rfl, (by decide : 0 ≤ sizeLine), fun u1 m1' => eqD_ints (ns := cs) (ms := []) ((Same.new m1').seq (hsc' _ b7)) (SqL.of upd_same) ⟨_, rfl, ?_⟩⟩
  have b8 := b7.new (o := .lst []) m1'
  have s8 := s7.new (o := .lst []) m1'
  have h8p := Same.new (o := .lst []) m1' _ _ h7p
  generalize upd H7 u1 (.lst []) = H8 at b8 s8 h8p ⊢
  refine if_any (fun v H9 => ∃ z : Int, v = .int z ∧ z ≤ size ∧ H9 = H8) (fun _ Q' q => ⟨_, rfl, _, _, rfl, q _ _ ⟨_, rfl, by split <;> omega, rfl⟩⟩) (fun _ Q' q => ⟨_, rfl, q _ _ ⟨_, rfl, Int.le_refl _, rfl⟩⟩) ?_
  rintro v H9 ⟨z, rfl, zs, rfl⟩
  refine ⟨_, _, rfl, rfl, _, rfl, ite2 (fun c => ?_) (fun c => ?_)⟩
  · have c1 : (ns.length : Int) < size := by have := of_decide_eq_true c; rw [el] at this; omega
    refine ⟨fun σ' H10 => ∃ dd : Int, okFrom 0 (ns ++ [dd]) = true ∧ dd ≤ dp ∧ SameBut a H H10 ∧ SrcV (n + 4 + 3 * ((ns.length : Int) + 1)) H10 a ∧ H10 p = some (.lst (iv (ns ++ [dd]))) ∧ ∃ v7 v8, σ' = [some (.ref a), some (.ref sc), some (.int m), some (.int dp), some (.int size), some (.int st), some (.ref p), v7, v8], ?_, ?_⟩
    · rintro σ' H10 ⟨dd, x1, x2, x3, x4, x5, v7', v8', x6⟩
      refine ⟨size.toNat - (ns.length + 1), by omega, ns ++ [dd], by rw [List.length_append]; exact Nat.le_add_left _ _, by rw [List.length_append]; show ((ns.length + 1 : Nat) : Int) ≤ _; omega, by rw [List.length_append]; rfl, x1, fun v hv => ?_, x3, ?_, x5, v7', v8', x6⟩
      · rcases List.mem_append.mp hv with e | e
        · exact hdp v e
        · rw [List.mem_singleton.mp e]; exact x2
      · rw [List.length_append]; show SrcV (n + 4 + 3 * ((ns.length + 1 : Nat) : Int)) H10 a; exact x4.mono (by omega)
    -- top
    refine ⟨_, rfl, _, rfl, p, iv ns, -1, _, rfl, rfl, SqL.of h8p, atI_iv_last nn, _, _, rfl, rfl, _, rfl, _, _, rfl, ?_⟩
    generalize hla : ns.getD (ns.length - 1) 0 = la at l0 ⊢
    obtain ⟨t, et, t0, t1, t2⟩ : ∃ r : Int, (if dp < la + 1 then dp else la + 1) = r ∧ 0 ≤ r ∧ r ≤ la + 1 ∧ r ≤ dp := ⟨_, rfl, by split <;> omega, by split <;> omega, by split <;> omega⟩
    have lal : la ≤ 200 := by rw [← hla]; have := okFrom_le hk (i := ns.length - 1) (by omega); omega
    rw [et]
    -- some
    refine ⟨_, rfl, _, rfl, _, _, rfl, rfl, a, _, _, rfl, s8, by omega, by omega, by omega, fun f1 H10 x0 x1 b10 s10 => ?_⟩
    refine ⟨_, rfl, _, rfl, _, rfl, a, 3, _, rfl, s10, by omega, by decide, by decide, fun f2 H11 y0 y1 b11 s11 => ⟨_, _, rfl, rfl, _, _, rfl, ?_⟩⟩
    obtain ⟨mxv, emx, mx0, mx1⟩ : ∃ r : Int, (if t - f2 > 0 then t - f2 else 0) = r ∧ 0 ≤ r ∧ r ≤ t := ⟨_, rfl, by split <;> omega, by split <;> omega⟩
    rw [emx]
    refine ⟨_, rfl, (by decide : 2 ≤ sizeLine), fun q2 n2 => ?_⟩
    have s12 := s11.new (o := .lst (iv [0, t])) n2
    refine ⟨_, rfl, a, 2, _, rfl, s12, by omega, by decide, by decide, fun jj H13 j0 j1 b13 s13 => ?_⟩
    have nq2 : q2 ≠ a := (s11.ne n2).symm
    refine ⟨q2, iv [0, t], jj, _, rfl, rfl, SqL.of (b13 _ _ upd_same nq2), atI_iv j0 (by exact j1), (by decide : 4 ≤ sizeLine), fun q3 n3 => ?_⟩
    have ht : 0 ≤ [0, t].getD jj.toNat 0 ∧ [0, t].getD jj.toNat 0 ≤ t := by
      refine getD_all (p := fun v => 0 ≤ v ∧ v ≤ t) (fun v hv => ?_) j0 (by exact j1)
      simp only [List.mem_cons, List.not_mem_nil, or_false] at hv
      rcases hv with rfl | rfl <;> omega
    generalize [0, t].getD jj.toNat 0 = f4 at ht ⊢
    have b013 : SameBut a H H13 := (((b8.trans b10).trans b11).new n2).trans b13
    have h13p : H13 p = some (.lst (iv ns)) := b13 _ _ (Same.new n2 _ _ (b11 _ _ (b10 _ _ h8p nap) nap)) nap
    have h14q : (upd H13 q3 (.lst (iv [f1, t, mxv, f4]))) q3 = some (.lst (iv [f1, t, mxv, f4])) := upd_same
    have h14p := Same.new (o := .lst (iv [f1, t, mxv, f4])) n3 _ _ h13p
    have s14 := s13.new (o := .lst (iv [f1, t, mxv, f4])) n3
    have b14 := b013.new (o := .lst (iv [f1, t, mxv, f4])) n3
    refine ⟨_, rfl, .inl ⟨rfl, _, SqL.of h14p⟩, _, rfl, (by decide : 1 ≤ sizeLine), fun q4 n4 => ?_⟩
    have h15q := Same.new (o := .lst (iv [0])) n4 _ _ h14q
    have h15p := Same.new (o := .lst (iv [0])) n4 _ _ h14p
    have s15 := s14.new (o := .lst (iv [0])) n4
    have b15 := b14.new (o := .lst (iv [0])) n4
    refine ⟨q3, q4, iv [f1, t, mxv, f4], iv [0], rfl, rfl, SqL.of h15q, SqL.of upd_same, (by decide : 4 + 1 ≤ sizeLine), fun q5 n5 => ?_⟩
    have h16p := Same.new (o := .lst (iv [f1, t, mxv, f4, 0])) n5 _ _ h15p
    have s16 := s15.new (o := .lst (iv [f1, t, mxv, f4, 0])) n5
    have b16 := b15.new (o := .lst (iv [f1, t, mxv, f4, 0])) n5
    refine ⟨_, rfl, q5, iv [f1, t, mxv, f4, 0], st, _, rfl, rfl, SqL.of upd_same, atI_iv p1 (by assumption), p, iv ns, _, rfl, rfl, h16p, small_line (by rw [List.length_map]; omega), ?_⟩
    have hd : 0 ≤ [f1, t, mxv, f4, 0].getD st.toNat 0 ∧ [f1, t, mxv, f4, 0].getD st.toNat 0 ≤ t := by
      refine getD_all (p := fun v => 0 ≤ v ∧ v ≤ t) (fun v hv => ?_) p1 (by assumption)
      simp only [List.mem_cons, List.not_mem_nil, or_false] at hv
      rcases hv with rfl | rfl | rfl | rfl | rfl <;> omega
    generalize [f1, t, mxv, f4, 0].getD st.toNat 0 = dd at hd ⊢
    refine ⟨dd, okFrom_snoc hk hd.1 (fun e => (nn e).elim) (fun _ => by rw [hla]; omega), by omega, b16.own hp, (s16.upd nap.symm).mono (by omega), by rw [iv_snoc]; exact upd_same, _, _, rfl⟩
  · exact ⟨_, rfl, k ns p _ (isO_iff.mpr ⟨l1, by omega, hk⟩) (by omega) hdp hp b8 (s8.mono (by omega)) h8p⟩
/-- a height that is greater than all depths -/
def sp_law_height (K : PySem.W.Frag) : Sp := fun vs H Q _ => ∃ (a b : Addr) (ns : List Int) (n mx : Int), vs = [.ref a, .ref b] ∧ SrcV n H a ∧ n ≤ 900000000 ∧ H b = some (.lst (iv ns)) ∧ b ≠ a ∧ isO ns = true ∧ IsMax ns mx ∧
  ∀ (r : Int) (H' : Hp), mx < r → r ≤ 400 → SameBut a H H' → SrcV (n + 10) H' a → Q (.int r) H'
theorem ok_law_height (T : Txt mg) (h : At K mg "_law_height" s_law_height)
    (g_law_draw : Has P w K mg base CX0 1 "_law_draw" s_law_draw P_law_draw sp_law_draw) :
    Has P w K mg base CX0 2 "_law_height" s_law_height P_law_height (sp_law_height K) := by
  refine Has.of h sc_law_height (fun vs H Q E h => ?_) (fun _ _ _ _ _ _ us hl => match us, hl with | [_, _], _ => rfl) (fun f cdv A outer s H vs Q E room qt h => ?_)
  · obtain ⟨v, a, m, n, mx, rfl, _⟩ := h; rfl
  obtain ⟨a, b, ns, n, mx, rfl, ha, nb, hb, nba, ho, hmx, k⟩ := h
  obtain ⟨l1, l2, hk⟩ := isO_iff.mp ho
  have mb := hmx.lt ho
  refine ⟨_, (pss_cons (ps_set (i := 2) sc_law_height.nd rfl (Or.inl rfl) (pe_op op_add (pe_callB (cr_max rfl) (by rfl) T.max (by decide +kernel) (pa_cons (pv 1) pa_nil)) pe_int))
      (pss_cons (ps_set (i := 3) sc_law_height.nd rfl (Or.inl rfl) (pe_lst (pa_cons pe_int (pa_cons (pe_has g_law_draw (room.mono (by decide)) qt (by rfl) pass0 (pa_cons (pv 0) (pa_cons pe_int pa_nil))) (pa_cons (pe_has g_law_draw (room.mono (by decide)) qt (by rfl) pass0 (pa_cons (pv 0) (pa_cons pe_int pa_nil))) (pa_cons (pe_has g_law_draw (room.mono (by decide)) qt (by rfl) pass0 (pa_cons (pv 0) (pa_cons (pe_op op_sub pe_int (pv 2)) pa_nil))) pa_nil))))))
      (pss_one (ps_ret (pe_op op_add (pv 2) (pe_ix ix_list (pv 3) (pe_has g_law_draw (room.mono (by decide)) qt (by rfl) pass0 (pa_cons (pv 0) (pa_cons pe_int pa_nil))) (fun _ _ => rfl))))))), ?_⟩
  refine ⟨_, rfl, b, ns, rfl, SqL.of hb, l1, fun m hm hall => ?_⟩
  obtain rfl : m = mx := hmx.uniq ⟨hm, hall⟩ |>.symm
  refine ⟨_, _, rfl, rfl, ?_⟩
  refine ⟨_, rfl, a, 3, n, rfl, ha, by omega, by decide, by decide, fun e1 H1 x0 x1 b1 s1 => ?_⟩
  refine ⟨_, rfl, a, 12, _, rfl, s1, by omega, by decide, by decide, fun e2 H2 y0 y1 b2 s2 => ?_⟩
  refine ⟨_, rfl, _, rfl, _, _, rfl, rfl, a, _, _, rfl, s2, by omega, by omega, by omega, fun e3 H3 z0 z1 b3 s3 => ⟨(by decide : 4 ≤ sizeLine), fun q nq => ?_⟩⟩
  have s4 := s3.new (o := .lst (iv [0, e1, e2, e3])) nq
  have nqa : q ≠ a := (s3.ne nq).symm
  have b04 : SameBut a H (upd H3 q (.lst (iv [0, e1, e2, e3]))) := ((b1.trans b2).trans b3).new nq
  refine ⟨_, rfl, _, rfl, _, rfl, a, 4, _, rfl, s4, by omega, by decide, by decide, fun j H5 j0 j1 b5 s5 => ?_⟩
  refine ⟨q, iv [0, e1, e2, e3], j, _, rfl, rfl, SqL.of (b5 _ _ upd_same nqa), atI_iv j0 (by exact j1), ?_⟩
  have hh : 0 ≤ [0, e1, e2, e3].getD j.toNat 0 ∧ m + 1 + [0, e1, e2, e3].getD j.toNat 0 ≤ 400 := by
    refine getD_all (p := fun v => 0 ≤ v ∧ m + 1 + v ≤ 400) (fun v hv => ?_) j0 (by exact j1)
    simp only [List.mem_cons, List.not_mem_nil, or_false] at hv
    rcases hv with rfl | rfl | rfl | rfl <;> omega
  generalize [0, e1, e2, e3].getD j.toNat 0 = g at hh ⊢
  exact ⟨_, _, rfl, rfl, k _ _ (by omega) hh.2 (b04.trans b5) (s5.mono (by omega))⟩
end
end SH

namespace SH
open PySem PySem.Spec PyProof.Rows L2
abbrev s_law_pages : Stmt := topS 52
abbrev N_law_pages : List Str := ["made", "tall", "found", "line"]
abbrev P_law_pages : List Str := ["made", "tall"]
theorem sc_law_pages : FnScope N_law_pages P_law_pages (defScope s_law_pages) := ⟨rfl, rfl, rfl, by decide +kernel, rfl, by decide +kernel, by decide +kernel⟩
abbrev s_law_drawn : Stmt := topS 53
abbrev N_law_drawn : List Str := ["source", "made", "tall", "pages", "found", "line", "some", "other"]
abbrev P_law_drawn : List Str := ["source", "made", "tall"]
theorem sc_law_drawn : FnScope N_law_drawn P_law_drawn (defScope s_law_drawn) := ⟨rfl, rfl, rfl, by decide +kernel, rfl, by decide +kernel, by decide +kernel⟩
def pgN (ns : List Int) (h : Int) (l : Nat) : Int := ((pagesL ns h l).length : Nat)
/-- f of each place below n -/
def tabL (n : Nat) (f : Nat → Int) : List Int := (List.range n).map f
theorem tabL_len (n : Nat) (f : Nat → Int) : (tabL n f).length = n := by unfold tabL; rw [List.length_map, List.length_range]
theorem tabL_getD {n : Nat} {f : Nat → Int} {i : Nat} (h : i < n) : (tabL n f).getD i 0 = f i := by
  rw [List.getD_eq_getElem?_getD]
  unfold tabL
  rw [List.getElem?_map, List.getElem?_range h]
  rfl
theorem tabL_ext {n : Nat} {f g : Nat → Int} (h : ∀ i : Nat, i < n → f i = g i) : tabL n f = tabL n g := by
  unfold tabL
  exact List.map_congr_left fun i hi => h i (List.mem_range.mp hi)
theorem tabL_set {n : Nat} {f g : Nat → Int} {u : Nat} {v : Int} (h : ∀ i : Nat, f i = if i = u then v else g i) : (iv (tabL n g)).set u (.int v) = iv (tabL n f) := by
  unfold tabL iv
  rw [List.map_map, List.map_map]
  refine List.ext_getElem (by rw [List.length_set, List.length_map, List.length_map]) fun i h1 h2 => ?_
  rw [List.getElem_set, List.getElem_map, List.getElem_map, List.getElem_range]
  show (if u = i then V.int v else V.int (g i)) = V.int (f i)
  rw [h i]
  by_cases c : u = i
  · rw [if_pos c, if_pos c.symm]
  · rw [if_neg c, if_neg (Ne.symm c)]
theorem pg_go {ns : List Int} {h : Int} {l : Nat} (c : l < ns.length) : pgN ns h l = 1 + pgN ns h (nxt ns h l) := by
  unfold pgN
  rw [pagesL_go c, List.length_cons]
  omega
theorem pg_end {ns : List Int} {h : Int} {l : Nat} (c : ns.length ≤ l) : pgN ns h l = 0 := by
  unfold pgN
  rw [pagesL_end c]
  rfl
/-- the pages from the line below a view -/
theorem pg_left {ns : List Int} {h : Int} (hk : okFrom 0 ns = true) (ft : Fit ns h 0) (h1 : 1 ≤ h) (s : Nat) : pgN ns h (s + h.toNat) = (leftF ns h s : Nat) := by
  rcases Nat.lt_or_ge (s + h.toNat) ns.length with c | c
  · have e := pages_furL hk ft h1 ns.length (s + h.toNat) (fur ns h s) (by omega) c (fur_int ft h1 c).symm
    have := congrArg List.length e
    rw [List.length_map, List.length_map, List.length_cons, path_len (furL_path (ns := ns) (h := h) rfl)] at this
    unfold pgN
    rw [this, leftF_go c]
  · rw [pg_end c, leftF_end c]; rfl
section
variable {P : Program} {w : World} {K : PySem.W.Frag} {mg : Str → Option Value} {base : Heap}
def sp_law_pages (K : PySem.W.Frag) : Sp := fun vs H Q _ => ∃ (a : Addr) (ns : List Int) (h : Int), vs = [.ref a, .int h] ∧ SqL K H a (iv ns) ∧ isO ns = true ∧ 1 ≤ h ∧ h ≤ 400 ∧ Fit ns h 0 ∧ RetL Q H (iv (tabL (ns.length + h.toNat + 1) (pgN ns h)))
theorem ok_law_pages (T : Txt mg) (h : At K mg "_law_pages" s_law_pages) :
    Has P w K mg base CX0 1 "_law_pages" s_law_pages P_law_pages (sp_law_pages K) := by
  refine Has.of h sc_law_pages (fun vs H Q E h => ?_) (fun _ _ _ _ _ _ us hl => match us, hl with | [_, _], _ => rfl) (fun f cdv A outer s H vs Q E room qt h => ?_)
  · obtain ⟨a, n, z, rfl, _⟩ := h; rfl
  obtain ⟨a, ns, hh, rfl, ha, ho, h0, h1, ft, k⟩ := h
  obtain ⟨l1, l2, hk⟩ := isO_iff.mp ho
  have el : (iv ns).length = ns.length := List.length_map _
  refine ⟨_, (pss_cons (ps_set (i := 2) sc_law_pages.nd rfl (Or.inl rfl) (pe_op op_rep (pe_lst (pa_cons pe_int pa_nil)) (pe_op op_add (pe_op op_add (pe_callB call_len_seq (by rfl) T.len (by decide +kernel) (pa_cons (pv 0) pa_nil)) (pv 1)) pe_int)))
      (pss_cons (ps_for PassesOwn.never rfl (pi_range3 (by rfl) T.range (pa_cons (pe_op op_sub (pe_callB call_len_seq (by rfl) T.len (by decide +kernel) (pa_cons (pv 0) pa_nil)) pe_int) (pa_cons (pe_un un_neg pe_int) (pa_cons (pe_un un_neg pe_int) pa_nil)))) (pg_name (i := 3) sc_law_pages.nd rfl (Or.inl rfl) (hf := Or.inl rfl))
        (pss_one (ps_asg (pe_op op_add pe_int (pe_ix ix_list (pv 2) (pe_op op_sub (pe_op op_add (pv 3) (pv 1)) (pe_ix ix_list (pv 0) (pv 3) (fun _ _ => rfl))) (fun _ _ => rfl))) (pg_sub (pv 2) (pv 3) set_list))))
      (pss_one (ps_ret (pv 2))))), ?_⟩
  refine ⟨(by decide : 1 ≤ sizeLine), fun q nq => ?_⟩
  refine ⟨_, rfl, a, _, rfl, .inl ((Same.new nq).seq ha), _, rfl, _, _, rfl, rfl, _, _, rfl, rfl, q, _, _, rfl, rfl, upd_same, by omega, by omega, Nat.le_of_lt (small_line (by rw [List.length_singleton]; omega)), fun p hp => ?_⟩
  have eN : (((iv ns).length : Int) + hh + 1).toNat = ns.length + hh.toNat + 1 := by omega
  rw [eN]
  have s2 : Same H (upd (upd H q (.lst [.int 0])) p (.lst (List.replicate (ns.length + hh.toNat + 1) [V.int 0]).flatten)) := (Same.new nq).trans (Same.new hp)
  have hpH : H p = none := (Same.new nq).free hp
  have h2 : (upd (upd H q (.lst [.int 0])) p (.lst (List.replicate (ns.length + hh.toNat + 1) [V.int 0]).flatten)) p = some (.lst (iv (tabL (ns.length + hh.toNat + 1) fun _ => 0))) := by
    rw [upd_same, iv_rep]
    unfold tabL
    rw [List.map_const', List.length_range]
  generalize upd (upd H q (.lst [.int 0])) p (.lst (List.replicate (ns.length + hh.toNat + 1) [V.int 0]).flatten) = H2 at s2 h2 ⊢
  refine ⟨_, rfl, a, _, rfl, .inl (s2.seq ha), _, _, rfl, rfl, _, rfl, _, rfl, ((iv ns).length : Int) - 1, -1, -1, ns.length, rfl, ?_, ?_⟩
  · have e := RgC.neg (i := ((iv ns).length : Int) - 1) (j := -1) (by omega) (by omega) (by omega) (by omega)
    have ei : (((iv ns).length : Int) - 1 - -1).toNat = ns.length := by omega
    rw [ei] at e
    exact e
  refine for_rangeC (n := ns.length) (fun j σ H3 => (∃ v, σ = [some (.ref a), some (.int hh), some (.ref p), v]) ∧ Same H H3 ∧ H3 p = some (.lst (iv (tabL (ns.length + hh.toNat + 1) fun l => if ns.length ≤ l + j then pgN ns hh l else 0))))
    ⟨⟨_, rfl⟩, s2, ?_⟩ ?_ ?_
  · rw [h2]
    congr 3
    refine tabL_ext fun l _ => ?_
    by_cases c : ns.length ≤ l + 0
    · rw [if_pos c, pg_end (by omega)]
    · rw [if_neg c]
  · rintro j σ H3 hj ⟨⟨v, rfl⟩, s3, h3⟩
    obtain ⟨u, eu⟩ : ∃ u, ns.length - (j + 1) = u := ⟨_, rfl⟩
    have ev : ((iv ns).length : Int) - 1 + ((j : Nat) : Int) * (-1) = (u : Nat) := by omega
    show (tAsg _ _) _ (List.set _ 3 (some (.int (((iv ns).length : Int) - 1 + ((j : Nat) : Int) * (-1))))) _
    rw [ev]
    have c : u < ns.length := by omega
    have fu := ft u (Nat.zero_le _) c
    have d0 := (okFrom_at hk c).1
    have ei := nxt_int fu
    have gi := nxt_gt ns hh u
    refine ⟨_, rfl, _, rfl, _, rfl, _, _, rfl, rfl, _, rfl, _, rfl, a, _, u, _, rfl, rfl, s3.seq ha, atI_iv (by omega) (by omega), _, _, rfl, rfl, ?_⟩
    rw [Int.toNat_natCast]
    have e2 : (u : Int) + hh - ns.getD u 0 = ((nxt ns hh u : Nat) : Int) := by omega
    have nl : nxt ns hh u < ns.length + hh.toNat + 1 := by omega
    refine ⟨p, _, ((nxt ns hh u : Nat) : Int), _, rfl, congrArg V.int e2, SqL.of h3, atI_iv (by omega) (by rw [tabL_len]; omega), _, _, rfl, rfl, ?_⟩
    rw [Int.toNat_natCast, tabL_getD nl, if_pos (show ns.length ≤ nxt ns hh u + j by omega)]
    refine ⟨_, rfl, _, rfl, p, _, u, u, rfl, rfl, h3, ixN_u (by rw [List.length_map, tabL_len]; omega), ⟨_, rfl⟩, Same.at s3 hpH, ?_⟩
    rw [upd_same]
    congr 2
    refine tabL_set fun l => ?_
    by_cases c2 : l = u
    · subst c2
      rw [if_pos rfl, if_pos (by omega), pg_go c]
    · rw [if_neg c2]
      by_cases c3 : ns.length ≤ l + j
      · rw [if_pos c3, if_pos (by omega)]
      · rw [if_neg c3, if_neg (by omega)]
  · rintro σ H3 ⟨⟨v, rfl⟩, s3, h3⟩
    refine ⟨_, rfl, k p _ hpH s3 ?_⟩
    rw [h3]
    congr 3
    exact tabL_ext fun l _ => if_pos (by omega)
/-- a shortest reading, drawn -/
def sp_law_drawn : Sp := fun vs H Q _ => ∃ (g a : Addr) (ns : List Int) (h n : Int), vs = [.ref g, .ref a, .int h] ∧ SrcV n H g ∧ n ≤ 900000000 ∧ H a = some (.lst (iv ns)) ∧ a ≠ g ∧ isO ns = true ∧ 1 ≤ h ∧ h ≤ 400 ∧ Fit ns h 0 ∧
  ∀ (L : List Nat) (p : Addr) (H' : Hp), Path ns h 0 L → H p = none → SameBut g H H' → SrcV (n + 1000) H' g → H' p = some (.lst (iv (nv (0 :: L)))) → Q (.ref p) H'
theorem ok_law_drawn (T : Txt mg) (h : At K mg "_law_drawn" s_law_drawn)
    (g_law_pages : Has P w K mg base CX0 1 "_law_pages" s_law_pages P_law_pages (sp_law_pages K))
    (g_law_draw : Has P w K mg base CX0 1 "_law_draw" s_law_draw P_law_draw sp_law_draw) :
    Has P w K mg base CX0 2 "_law_drawn" s_law_drawn P_law_drawn sp_law_drawn := by
  refine Has.of h sc_law_drawn (fun vs H Q E h => ?_) (fun _ _ _ _ _ _ us hl => match us, hl with | [_, _, _], _ => rfl) (fun f cdv A outer s H vs Q E room qt h => ?_)
  · obtain ⟨g, a, n, z, t, rfl, _⟩ := h; rfl
  obtain ⟨g, a, ns, hh, n, rfl, hg, nb, ha, nag, ho, h0, h1, ft, k⟩ := h
  obtain ⟨l1, l2, hk⟩ := isO_iff.mp ho
  have lb := last_bd ho
  have el : (iv ns).length = ns.length := List.length_map _
  have ll := left_le (ns := ns) (h := hh) ns.length 0 (by omega)
  refine ⟨_, (pss_cons (ps_set (i := 3) sc_law_drawn.nd rfl (Or.inr rfl) (pe_has g_law_pages (room.mono (by decide)) qt (by rfl) pass0 (pa_cons (pv 1) (pa_cons (pv 2) pa_nil))))
      (pss_cons (ps_set (i := 4) sc_law_drawn.nd rfl (Or.inl rfl) (pe_lst (pa_cons pe_int pa_nil)))
      (pss_cons (ps_while PassesOwn.never (pt_cmpR op_lt (pe_op op_add (pe_ix ix_list (pv 4) (pe_un un_neg pe_int) (fun _ _ => rfl)) (pv 2)) (pe_callB call_len_seq (by rfl) T.len (by decide +kernel) (pa_cons (pv 1) pa_nil)) (nomark _))
        (pss_cons (ps_set (i := 5) sc_law_drawn.nd rfl (Or.inr rfl) (pe_op op_add (pe_ix ix_list (pv 4) (pe_un un_neg pe_int) (fun _ _ => rfl)) (pv 2)))
        (pss_cons (ps_setLc (i := 6) (own := [("other", 7)]) (by rfl) sc_law_drawn.nd rfl rfl (sw_true rfl rfl rfl (by decide +kernel)) (pi_range2 (by rfl) T.range (pa_cons (pe_op op_add (pe_ix ix_list (pv 4) (pe_un un_neg pe_int) (fun _ _ => rfl)) pe_int) (pa_cons (pe_op op_add (pe_op op_sub (pv 5) (pe_ix ix_list (pv 1) (pv 5) (fun _ _ => rfl))) pe_int) pa_nil))) (blkOk_by (own := [("other", 7)]) (N := N_law_drawn) (sc := defScope s_law_drawn) (by decide +kernel)) (fun _ _ _ _ _ => (pg_name (i := 7) sc_law_drawn.nd rfl (Or.inl rfl) (hf := Or.inr rfl))) (fun _ _ _ _ _ => (pts_one (pt_cmpR op_lt (pe_ix (show IxR _ (rIxL K) from by exact ix_list) (pv 3) (pe_op op_add (pv 7) (pv 2)) (fun _ _ => rfl)) (pe_ix (show IxR _ (rIxL K) from by exact ix_list) (pv 3) (pv 5) (fun _ _ => rfl)) (nomark _)))) (fun _ _ _ _ _ => (pv 7)))
        (pss_one (ps_expr (pe_bm PySem.F.plainAttrs_list PySem.F.slot_list_append PySem.F.type_list_append mt_append (pv 4) (pa_cons (pe_ix ix_list (pv 6) (pe_has g_law_draw (room.mono (by decide)) qt (by rfl) pass0 (pa_cons (pv 0) (pa_cons (pe_callB call_len_seq (by rfl) T.len (by decide +kernel) (pa_cons (pv 6) pa_nil)) pa_nil))) (fun _ _ => rfl)) pa_nil)))))))
      (pss_one (ps_ret (pv 4)))))), ?_⟩
  refine ⟨_, rfl, _, rfl, a, ns, hh, rfl, SqL.of ha, ho, h0, h1, ft, fun b H2 hb s2 h2 => ?_⟩
  refine ⟨(by decide : 1 ≤ sizeLine), fun p hp => ?_⟩
  have g2 := hg.same s2
  have npg : p ≠ g := (g2.ne hp).symm
  have nbp : b ≠ p := ne_of_none h2 hp
  have nbg : b ≠ g := fun e => (hg.ne hb) e.symm
  have hpH : H p = none := s2.free hp
  refine ⟨fun m σ H' => ∃ (F : List Nat) (z : Nat) (v5 v6 : Option V), σ = [some (.ref g), some (.ref a), some (.int hh), some (.ref b), some (.ref p), v5, v6, none] ∧ leftF ns hh z = m ∧ F.length + m ≤ 200 ∧ (z : Int) ≤ lastStop ns ∧
      (∀ R, Path ns hh z R → ∃ L, F ++ z :: R = 0 :: L ∧ Path ns hh 0 L) ∧ SameBut g H H' ∧ SrcV (n + (F.length : Int)) H' g ∧ H' b = some (.lst (iv (tabL (ns.length + hh.toNat + 1) (pgN ns hh)))) ∧ H' p = some (.lst (iv (nv (F ++ [z])))),
    ⟨_, [], 0, _, _, rfl, rfl, by show 0 + _ ≤ 200; omega, lb.1, fun R hR => ⟨R, rfl, hR⟩, (SameBut.of s2).own hpH, (g2.new hp).mono (by show n ≤ n + ((0 : Nat) : Int); omega), by rw [upd_ne nbp]; exact h2, upd_same⟩, ?_⟩
  rintro m σ H3 ⟨F, z, v5, v6, rfl, em, fl, zl, pth, b3, g3, h3b, h3p⟩
  have h3a := b3 _ _ ha nag
  refine ⟨_, rfl, _, rfl, p, _, -1, _, rfl, rfl, SqL.of h3p, atI_snoc F z, _, rfl, _, _, rfl, rfl, _, rfl, a, _, rfl, .inl (SqL.of h3a), _, _, rfl, rfl, _, rfl, ite2 (fun c => ?_) (fun c => ?_)⟩
  · have c1 : z + hh.toNat < ns.length := by have := of_decide_eq_true c; omega
    obtain ⟨m', rfl⟩ : ∃ m', m = m' + 1 := ⟨m - 1, by have := leftF_go c1; omega⟩
    have gz := fur_gt ns hh z
    have fi := fur_int ft h0 c1
    have fll := fur_last hk ft h0 c1
    have dl := ft (z + hh.toNat) (Nat.zero_le _) c1
    have d0 := (okFrom_at hk c1).1
    have ix : ((z : Int) + hh).toNat = z + hh.toNat := by omega
    have ix2 : ns.getD ((z : Int) + hh).toNat 0 = ns.getD (z + hh.toNat) 0 := by rw [ix]
    have flen := fol_len hk ft h0 z
    refine ⟨fun σ' H' => ∃ (z' : Nat) (v5 v6 : Option V), σ' = [some (.ref g), some (.ref a), some (.int hh), some (.ref b), some (.ref p), v5, v6, none] ∧ z' ∈ folL ns hh z ∧ SameBut g H H' ∧ SrcV (n + (F.length : Int) + 1) H' g ∧ H' b = some (.lst (iv (tabL (ns.length + hh.toNat + 1) (pgN ns hh)))) ∧ H' p = some (.lst (iv (nv (F ++ [z] ++ [z'])))), ?_, ?_⟩
    · rintro σ' H' ⟨z', w5, w6, rfl, zm, b4, g4, h4b, h4p⟩
      have e1 := fol_left zm
      refine ⟨m', Nat.lt_succ_self _, F ++ [z], z', w5, w6, rfl, by omega, by rw [List.length_append, List.length_singleton]; omega, fol_last hk ft h0 zm, fun R hR => ?_, b4, g4.mono (by rw [List.length_append, List.length_singleton]; omega), h4b, h4p⟩
      obtain ⟨L, eL, pL⟩ := pth (z' :: R) ⟨zm, hR⟩
      exact ⟨L, by rw [← eL, List.append_assoc]; rfl, pL⟩
    refine ⟨_, rfl, _, rfl, p, _, -1, _, rfl, rfl, SqL.of h3p, atI_snoc F z, _, rfl, _, _, rfl, rfl, ?_⟩
    refine ⟨_, rfl, _, rfl, p, _, -1, _, rfl, rfl, SqL.of h3p, atI_snoc F z, _, _, rfl, rfl, _, rfl, _, rfl, _, rfl, a, _, _, _, rfl, rfl, SqL.of h3a, atI_iv (by omega) (by omega), _, _, rfl, rfl, _, _, rfl, rfl, _, _, rfl, ⟨by omega, by omega, by omega, by omega⟩, fun D hD => ?_⟩
    have en : ((z : Int) + hh - ns.getD ((z : Int) + hh).toNat 0 + 1 - ((z : Int) + 1)).toNat = fur ns hh z - z := by
      rw [ix2]; unfold stopAt at fi; omega
    have pz : pgN ns hh (z + hh.toNat) = ((leftF ns hh z : Nat) : Int) := pg_left hk ft h0 z
    refine lcRn (lo := (z : Int) + 1) (n := ((z : Int) + hh - ns.getD ((z : Int) + hh).toNat 0 + 1 - ((z : Int) + 1)).toNat) (fun i => leftF ns hh (z + 1 + i) == leftF ns hh (fur ns hh z)) (fun i => V.int ((z + 1 + i : Nat) : Int)) hD (by omega) (fun x => rfl) ?_ ?_ ?_
    · intro i H4 Q' hi s4 qq
      rw [en] at hi
      have h4b := s4 _ _ h3b
      have stp := left_step hk ft h0 (s := z) (a := z + 1 + i) c1 (by omega) (by omega)
      have lmn := left_mono hk ft h0 ns.length (z + 1 + i) (fur ns hh z) (by omega) (by omega)
      have lg := leftF_go c1
      have ei : ((z : Int) + 1 + (i : Nat) + hh).toNat = z + 1 + i + hh.toNat := by omega
      refine ⟨_, rfl, _, rfl, _, rfl, _, _, rfl, rfl, b, _, _, _, rfl, rfl, SqL.of h4b, atI_iv (by omega) (by rw [tabL_len]; omega), _, rfl, _, rfl, b, _, _, _, rfl, rfl, SqL.of h4b, atI_iv (by omega) (by rw [tabL_len]; omega), _, _, rfl, rfl, ?_⟩
      rw [ei, ix, tabL_getD (by omega), tabL_getD (by omega), pz, pg_left hk ft h0 (z + 1 + i)]
      have ed : decide (((leftF ns hh (z + 1 + i) : Nat) : Int) < ((leftF ns hh z : Nat) : Int)) = (leftF ns hh (z + 1 + i) == leftF ns hh (fur ns hh z)) := by
        by_cases c2 : leftF ns hh (z + 1 + i) = leftF ns hh (fur ns hh z)
        · rw [c2, beq_self_eq_true, decide_eq_true (by omega)]
        · rw [beq_false_of_ne c2, decide_eq_false (by omega)]
      refine ⟨_, rfl, ?_⟩
      rw [ed]
      exact qq H4 (Same.refl _)
    · intro i H4 Q' hi _ s4 qq
      refine ⟨_, rfl, ?_⟩
      rw [show (z : Int) + 1 + (i : Nat) = ((z + 1 + i : Nat) : Int) by omega]
      exact qq H4 (Same.refl _)
    · intro H4 s4 h4
      rw [en] at h4
      have h4D : H4 D = some (.lst (iv (nv (folL ns hh z)))) := by
        rw [h4]
        unfold folL gives
        rw [if_pos c1, List.filter_map]
        simp only [iv, nv, List.map_map]
        rfl
      have h4p := s4 _ _ h3p
      have g4 := g3.same s4
      have nDg : D ≠ g := (g3.ne hD).symm
      have lpos : 0 < (folL ns hh z).length := List.length_pos_of_mem (fur_fol c1)
      have efl : (iv (nv (folL ns hh z))).length = (folL ns hh z).length := by rw [List.length_map, List.length_map]
      refine ⟨_, rfl, .inl ⟨rfl, _, SqL.of h4p⟩, _, rfl, _, rfl, _, rfl, D, _, rfl, .inl (SqL.of h4D), g, _, _, rfl, g4, by omega, by omega, by omega, fun d H5 d0 d1 b5 g5 => ?_⟩
      have h5D := b5 _ _ h4D nDg
      have h5p := b5 _ _ h4p npg
      have dl2 : d.toNat < (folL ns hh z).length := by omega
      refine ⟨D, _, d, _, rfl, rfl, SqL.of h5D, atI_iv d0 (by rw [List.length_map]; omega), p, _, _, rfl, rfl, h5p, small_line (by rw [List.length_map, List.length_map, List.length_append, List.length_singleton]; omega), ?_⟩
      rw [nv_getD]
      have mem := getD_mem dl2
      generalize (folL ns hh z).getD d.toNat 0 = z' at mem ⊢
      refine ⟨z', _, _, rfl, mem, ((b3.trans (SameBut.of s4)).trans b5).own hpH, (g5.upd npg.symm).mono (by omega), ?_, ?_⟩
      · rw [upd_ne nbp]; exact b5 _ _ (s4 _ _ h3b) nbg
      · rw [upd_same, nv_snoc (F ++ [z]), iv_snoc]
  · have c1 : ns.length ≤ z + hh.toNat := by
      rcases Nat.lt_or_ge (z + hh.toNat) ns.length with q | q
      · exact (c (decide_eq_true (by omega))).elim
      · exact q
    obtain ⟨L, eL, pL⟩ := pth [] (leftF_end c1)
    refine ⟨_, rfl, k L p _ pL hpH b3 (g3.mono (by omega)) ?_⟩
    rw [h3p, eL]
end
end SH

namespace SH
open PySem PySem.Spec PyProof.Rows L2
abbrev s_law_kind : Stmt := topS 54
abbrev N_law_kind : List Str := ["error", "kinds"]
abbrev P_law_kind : List Str := ["error"]
theorem sc_law_kind : FnScope N_law_kind P_law_kind (defScope s_law_kind) := ⟨rfl, rfl, rfl, by decide +kernel, rfl, by decide +kernel, by decide +kernel⟩
/-- at a is an error of the class at D -/
def ErAt (H : Hp) (a D : Addr) : Prop := ∃ d, H a = some (ErO (.ref D) d a) ∧ (d = none ∨ ∃ dx fs, d = some dx ∧ H dx = some (.xd fs))
/-- .. with a line -/
def ErLn (H : Hp) (a D : Addr) (j : Nat) : Prop := ∃ dx, H a = some (ErO (.ref D) (some dx) a) ∧ H dx = some (.xd [("line", .int (j : Nat))])
def deepT (j : Nat) : Str := Str.ofString "deep " ++ Str.ofString (toString ((j : Nat) : Int))
theorem deep_fit : ∀ j : Fin 200, (Str.ofString "deep ").length + (Str.ofString (toString ((j.val : Nat) : Int))).length ≤ sizeLine := by decide +kernel
def wordN : Nat → Str
  | 0 => "outline"
  | 1 => "height"
  | 2 => "number"
  | _ => "reading"
section
variable {P : Program} {w : World} {K : PySem.W.Frag} {mg : Str → Option Value} {base : Heap}
variable {C_InvalidLineError C_InvalidScrollError C_InvalidFoldsError C_InvalidDocumentError C_InvalidTitleError C_InvalidDepthError C_InvalidTextError C_HiddenLineError C_EndError C_TooManyLinesError C_EmptyOutlineError C_EmptyHistoryError C_InvalidObservationsError C_InvalidOutlineError C_InvalidHeightError C_InvalidNumberError C_InvalidReadingError C_TooDeepError : Addr}
def kk (c1 c2 c3 c4 c5 c6 c7 c8 c9 c10 c11 c12 c13 cO cH cN cR cT : Addr) (k : Nat) : List (Value × Bool) := [(.ref c1, false), (.ref c2, false), (.ref c3, false), (.ref c4, false), (.ref c5, false), (.ref c6, false), (.ref c7, false), (.ref c8, false), (.ref c9, false), (.ref c10, false), (.ref c11, false), (.ref c12, false), (.ref c13, false), (.type "ValueError", true), (.ref cO, decide (k = 0)), (.ref cH, decide (k = 1)), (.ref cN, decide (k = 2)), (.ref cR, decide (k = 3)), (.ref cT, decide (k = 4))]
def sp_kind (K : PySem.W.Frag) (c1 c2 c3 c4 c5 c6 c7 c8 c9 c10 c11 c12 c13 cO cH cN cR cT : Addr) : Sp := fun vs H Q _ => ∃ (a D : Addr) (k : Nat), vs = [.ref a] ∧ ErK K D (kk c1 c2 c3 c4 c5 c6 c7 c8 c9 c10 c11 c12 c13 cO cH cN cR cT k) ∧ ((k < 4 ∧ ErAt H a D ∧ RetV Q H (.str (wordN k))) ∨ (k = 4 ∧ PySem.W.findIn K (.ref D) "line" = some none ∧ ∃ j, j < 200 ∧ ErLn H a D j ∧ RetV Q H (.str (deepT j))))
theorem ok_law_kind (T : Txt mg) (n_ValueError : mg "ValueError" = none)
    (k_InvalidLineError : mg "InvalidLineError" = some (.ref C_InvalidLineError)) (k_InvalidScrollError : mg "InvalidScrollError" = some (.ref C_InvalidScrollError)) (k_InvalidFoldsError : mg "InvalidFoldsError" = some (.ref C_InvalidFoldsError)) (k_InvalidDocumentError : mg "InvalidDocumentError" = some (.ref C_InvalidDocumentError)) (k_InvalidTitleError : mg "InvalidTitleError" = some (.ref C_InvalidTitleError)) (k_InvalidDepthError : mg "InvalidDepthError" = some (.ref C_InvalidDepthError)) (k_InvalidTextError : mg "InvalidTextError" = some (.ref C_InvalidTextError)) (k_HiddenLineError : mg "HiddenLineError" = some (.ref C_HiddenLineError)) (k_EndError : mg "EndError" = some (.ref C_EndError)) (k_TooManyLinesError : mg "TooManyLinesError" = some (.ref C_TooManyLinesError)) (k_EmptyOutlineError : mg "EmptyOutlineError" = some (.ref C_EmptyOutlineError)) (k_EmptyHistoryError : mg "EmptyHistoryError" = some (.ref C_EmptyHistoryError)) (k_InvalidObservationsError : mg "InvalidObservationsError" = some (.ref C_InvalidObservationsError)) (k_InvalidOutlineError : mg "InvalidOutlineError" = some (.ref C_InvalidOutlineError)) (k_InvalidHeightError : mg "InvalidHeightError" = some (.ref C_InvalidHeightError)) (k_InvalidNumberError : mg "InvalidNumberError" = some (.ref C_InvalidNumberError)) (k_InvalidReadingError : mg "InvalidReadingError" = some (.ref C_InvalidReadingError)) (k_TooDeepError : mg "TooDeepError" = some (.ref C_TooDeepError))
    (h : At K mg "_law_kind" s_law_kind) : Has P w K mg base CX0 1 "_law_kind" s_law_kind P_law_kind (sp_kind K C_InvalidLineError C_InvalidScrollError C_InvalidFoldsError C_InvalidDocumentError C_InvalidTitleError C_InvalidDepthError C_InvalidTextError C_HiddenLineError C_EndError C_TooManyLinesError C_EmptyOutlineError C_EmptyHistoryError C_InvalidObservationsError C_InvalidOutlineError C_InvalidHeightError C_InvalidNumberError C_InvalidReadingError C_TooDeepError) := by
  refine Has.of h sc_law_kind (fun vs H Q E h => ?_) (fun _ _ _ _ _ _ us hl => match us, hl with | [_], _ => rfl) (fun f cdv A outer s H vs Q E room qt h => ?_)
  · obtain ⟨a, D, k, rfl, _⟩ := h; rfl
  obtain ⟨a, D, kz, rfl, ek, due⟩ := h
  have k5 : kz ≤ 4 := by rcases due with ⟨h, _⟩ | ⟨h, _⟩ <;> omega
  obtain ⟨d, ha, hd, due⟩ : ∃ d, H a = some (ErO (.ref D) d a) ∧ (d = none ∨ ∃ dx fs, d = some dx ∧ H dx = some (.xd fs)) ∧ ((kz < 4 ∧ RetV Q H (.str (wordN kz))) ∨ (kz = 4 ∧ PySem.W.findIn K (.ref D) "line" = some none ∧ ∃ j dx, j < 200 ∧ d = some dx ∧ H dx = some (.xd [("line", .int (j : Nat))]) ∧ RetV Q H (.str (deepT j)))) := by
    rcases due with ⟨z, ⟨d, e, e'⟩, k⟩ | ⟨z, hno, j, jl, ⟨dx, e1, e2⟩, k⟩
    · exact ⟨d, e, e', .inl ⟨z, k⟩⟩
    · exact ⟨_, e1, .inr ⟨dx, _, rfl, e2⟩, .inr ⟨z, hno, j, dx, jl, rfl, e2, k⟩⟩
  obtain ⟨ex, q1, q2, q3, q4, q5, q6, q7, q8, q9, q10, q11, q12, q13, qV, qO, qH, qN, qR, qT, _⟩ := ek
  refine ⟨_, (pss_cons (ps_if (pt_val (pe_callB call_isErT (by rfl) T.isinstance (by decide +kernel) (pa_cons (pv 0) (pa_cons (pe_tup (pa_cons (pe_glob (v := .ref C_InvalidLineError) (by rfl) k_InvalidLineError rfl) (pa_cons (pe_glob (v := .ref C_InvalidScrollError) (by rfl) k_InvalidScrollError rfl) (pa_cons (pe_glob (v := .ref C_InvalidFoldsError) (by rfl) k_InvalidFoldsError rfl) (pa_cons (pe_glob (v := .ref C_InvalidDocumentError) (by rfl) k_InvalidDocumentError rfl) pa_nil))))) pa_nil))))
        (pss_one (ps_ret pe_str))
        pss_nil)
      (pss_cons (ps_if (pt_val (pe_callB call_isErT (by rfl) T.isinstance (by decide +kernel) (pa_cons (pv 0) (pa_cons (pe_tup (pa_cons (pe_glob (v := .ref C_InvalidTitleError) (by rfl) k_InvalidTitleError rfl) (pa_cons (pe_glob (v := .ref C_InvalidDepthError) (by rfl) k_InvalidDepthError rfl) (pa_cons (pe_glob (v := .ref C_InvalidTextError) (by rfl) k_InvalidTextError rfl) (pa_cons (pe_glob (v := .ref C_HiddenLineError) (by rfl) k_HiddenLineError rfl) (pa_cons (pe_glob (v := .ref C_EndError) (by rfl) k_EndError rfl) pa_nil)))))) pa_nil))))
        (pss_one (ps_ret pe_str))
        pss_nil)
      (pss_cons (ps_if (pt_val (pe_callB call_isErT (by rfl) T.isinstance (by decide +kernel) (pa_cons (pv 0) (pa_cons (pe_tup (pa_cons (pe_glob (v := .ref C_TooManyLinesError) (by rfl) k_TooManyLinesError rfl) (pa_cons (pe_glob (v := .ref C_EmptyOutlineError) (by rfl) k_EmptyOutlineError rfl) (pa_cons (pe_glob (v := .ref C_EmptyHistoryError) (by rfl) k_EmptyHistoryError rfl) (pa_cons (pe_glob (v := .ref C_InvalidObservationsError) (by rfl) k_InvalidObservationsError rfl) pa_nil))))) pa_nil))))
        (pss_one (ps_ret pe_str))
        pss_nil)
      (pss_cons (ps_set (i := 1) sc_law_kind.nd rfl (Or.inl rfl) (pe_lst (pa_cons (pe_callB call_isEr (by rfl) T.isinstance (by decide +kernel) (pa_cons (pv 0) (pa_cons (pe_glob (v := .ref C_InvalidOutlineError) (by rfl) k_InvalidOutlineError rfl) pa_nil))) (pa_cons (pe_callB call_isEr (by rfl) T.isinstance (by decide +kernel) (pa_cons (pv 0) (pa_cons (pe_glob (v := .ref C_InvalidHeightError) (by rfl) k_InvalidHeightError rfl) pa_nil))) pa_nil))))
      (pss_cons (ps_set (i := 1) sc_law_kind.nd rfl (Or.inl rfl) (pe_op op_catS (pv 1) (pe_lst (pa_cons (pe_callB call_isEr (by rfl) T.isinstance (by decide +kernel) (pa_cons (pv 0) (pa_cons (pe_glob (v := .ref C_InvalidNumberError) (by rfl) k_InvalidNumberError rfl) pa_nil))) (pa_cons (pe_callB call_isEr (by rfl) T.isinstance (by decide +kernel) (pa_cons (pv 0) (pa_cons (pe_glob (v := .ref C_InvalidReadingError) (by rfl) k_InvalidReadingError rfl) pa_nil))) pa_nil)))))
      (pss_cons (ps_expr (pe_bm PySem.F.plainAttrs_list PySem.F.slot_list_append PySem.F.type_list_append mt_append (pv 1) (pa_cons (pe_callB call_isEr (by rfl) T.isinstance (by decide +kernel) (pa_cons (pv 0) (pa_cons (pe_glob (v := .ref C_TooDeepError) (by rfl) k_TooDeepError rfl) pa_nil))) pa_nil)))
      (pss_cons (ps_if (PW.pt (pw_or (pt_cmpR op_ne (pe_bm PySem.F.plainAttrs_list PySem.F.slot_list_count PySem.F.type_list_count mt_countF (pv 1) (pa_cons pe_bl pa_nil)) pe_int (nomark _)) (pw_or1 (pt_not (pt_val (pe_callB call_isEr (by rfl) T.isinstance (by decide +kernel) (pa_cons (pv 0) (pa_cons (pe_bltn (v := .ty "ValueError") (u := .type "ValueError") (by rfl) n_ValueError (by decide +kernel) rfl) pa_nil))))))))
        (pss_one (ps_ret pe_str))
        pss_nil)
      (pss_cons (ps_if (pt_val (pe_callB call_isEr (by rfl) T.isinstance (by decide +kernel) (pa_cons (pv 0) (pa_cons (pe_glob (v := .ref C_TooDeepError) (by rfl) k_TooDeepError rfl) pa_nil))))
        (pss_one (ps_ret (pe_op op_add_str pe_str (pe_callTy call_str_int (by rfl) T.tstr (by decide +kernel) (pa_cons (pe_erF (pv 0)) pa_nil)))))
        pss_nil)
      (pss_one (ps_ret (pe_ix ix_list (pe_lst (pa_cons pe_str (pa_cons pe_str (pa_cons pe_str (pa_cons pe_str pa_nil))))) (pe_bm PySem.F.plainAttrs_list PySem.F.slot_list_index PySem.F.type_list_index mt_index (pv 1) (pa_cons pe_bl pa_nil)) (fun _ _ => rfl)))))))))))), ?_⟩
  have kn : ∀ {H' : Hp}, Same H H' → H' a = some (ErO (.ref D) d a) ∧ (d = none ∨ ∃ dx fs, d = some dx ∧ H' dx = some (.xd fs)) := fun s' => ⟨s' _ _ ha, hd.imp id fun ⟨dx, fs, e, g⟩ => ⟨dx, fs, e, s' _ _ g⟩⟩
  have known : ∀ {H' : Hp}, Same H H' → Known (cxOf CX0 P w K mg base N_law_kind (Str.ofString "_law_kind") (defScope s_law_kind) f cdv A outer s H E).nox H' a D d := fun s' => ⟨.inr (kn s').1, (kn s').2⟩

  refine ⟨_, rfl, (by decide : 4 ≤ sizeLine), fun t0 h0 => ⟨a, D, t0, d, _, _, false, rfl, upd_same, own4 _ _ _ _, known ((Same.refl H).trans (Same.new h0)), ex, kitAny_no4 q1 q2 q3 q4, _, rfl, iteF ?_⟩⟩
  have s0 := (Same.refl H).trans (Same.new (o := .tup [.ref C_InvalidLineError, .ref C_InvalidScrollError, .ref C_InvalidFoldsError, .ref C_InvalidDocumentError]) h0)
  generalize upd H t0 (.tup [.ref C_InvalidLineError, .ref C_InvalidScrollError, .ref C_InvalidFoldsError, .ref C_InvalidDocumentError]) = H0 at s0 ⊢
  refine ⟨_, rfl, (by decide : 5 ≤ sizeLine), fun t1 h1 => ⟨a, D, t1, d, _, _, false, rfl, upd_same, own5 _ _ _ _ _, known (s0.trans (Same.new h1)), ex, kitAny_no5 q5 q6 q7 q8 q9, _, rfl, iteF ?_⟩⟩
  have s1 := s0.trans (Same.new (o := .tup [.ref C_InvalidTitleError, .ref C_InvalidDepthError, .ref C_InvalidTextError, .ref C_HiddenLineError, .ref C_EndError]) h1)
  generalize upd H0 t1 (.tup [.ref C_InvalidTitleError, .ref C_InvalidDepthError, .ref C_InvalidTextError, .ref C_HiddenLineError, .ref C_EndError]) = H1 at s1 ⊢
  refine ⟨_, rfl, (by decide : 4 ≤ sizeLine), fun t2 h2 => ⟨a, D, t2, d, _, _, false, rfl, upd_same, own4 _ _ _ _, known (s1.trans (Same.new h2)), ex, kitAny_no4 q10 q11 q12 q13, _, rfl, iteF ?_⟩⟩
  have s2 := s1.trans (Same.new (o := .tup [.ref C_TooManyLinesError, .ref C_EmptyOutlineError, .ref C_EmptyHistoryError, .ref C_InvalidObservationsError]) h2)
  generalize upd H1 t2 (.tup [.ref C_TooManyLinesError, .ref C_EmptyOutlineError, .ref C_EmptyHistoryError, .ref C_InvalidObservationsError]) = H2 at s2 ⊢
  refine ⟨_, rfl, a, D, d, _, _, _, rfl, known s2, ex, .own _, qO, _, rfl, a, D, d, _, _, _, rfl, known s2, ex, .own _, qH, (by decide : 2 ≤ sizeLine), fun p hp => ?_⟩
  have s5 := s2.trans (Same.new (o := .lst [.bl (decide (kz = 0)), .bl (decide (kz = 1))]) hp)
  have hp5 := upd_same (H := H2) (a := p) (o := .lst [.bl (decide (kz = 0)), .bl (decide (kz = 1))])
  generalize upd H2 p (.lst [.bl (decide (kz = 0)), .bl (decide (kz = 1))]) = H5 at s5 hp5 ⊢
  refine ⟨_, rfl, _, rfl, a, D, d, _, _, _, rfl, known s5, ex, .own _, qN, _, rfl, a, D, d, _, _, _, rfl, known s5, ex, .own _, qR, (by decide : 2 ≤ sizeLine), fun q hq => ?_⟩
  have y6 := Same.new (o := .lst [.bl (decide (kz = 2)), .bl (decide (kz = 3))]) hq
  refine ⟨p, q, _, _, rfl, rfl, SqL.of (y6 _ _ hp5), SqL.of upd_same, (by decide : 4 ≤ sizeLine), fun r hr => ?_⟩
  have z6 := s5.trans y6
  have hrH : H r = none := z6.free hr
  have s6 := z6.trans (Same.new (o := .lst ([.bl (decide (kz = 0)), .bl (decide (kz = 1))] ++ [.bl (decide (kz = 2)), .bl (decide (kz = 3))])) hr)
  have hr6 := upd_same (H := upd H5 q (.lst [.bl (decide (kz = 2)), .bl (decide (kz = 3))])) (a := r) (o := .lst ([.bl (decide (kz = 0)), .bl (decide (kz = 1))] ++ [.bl (decide (kz = 2)), .bl (decide (kz = 3))]))
  generalize upd (upd H5 q (.lst [.bl (decide (kz = 2)), .bl (decide (kz = 3))])) r (.lst ([.bl (decide (kz = 0)), .bl (decide (kz = 1))] ++ [.bl (decide (kz = 2)), .bl (decide (kz = 3))])) = H6 at s6 hr6 ⊢
  refine ⟨_, rfl, .inl ⟨rfl, _, SqL.of hr6⟩, _, rfl, a, D, d, _, _, _, rfl, known s6, ex, .own _, qT, r, _, _, rfl, rfl, hr6, (by show 4 < sizeLine; decide), ?_⟩
  have s7 := Same.at (o := .lst ([.bl (decide (kz = 0)), .bl (decide (kz = 1))] ++ [.bl (decide (kz = 2)), .bl (decide (kz = 3))] ++ [V.bl (decide (kz = 4))])) s6 hrH
  have hr7 := upd_same (H := H6) (a := r) (o := .lst ([.bl (decide (kz = 0)), .bl (decide (kz = 1))] ++ [.bl (decide (kz = 2)), .bl (decide (kz = 3))] ++ [V.bl (decide (kz = 4))]))
  generalize upd H6 r (.lst ([.bl (decide (kz = 0)), .bl (decide (kz = 1))] ++ [.bl (decide (kz = 2)), .bl (decide (kz = 3))] ++ [V.bl (decide (kz = 4))])) = H7 at s7 hr7 ⊢
  refine ⟨_, rfl, .inl ⟨rfl, _, SqL.of hr7⟩, r, _, _, rfl, rfl, SqL.of hr7, rfl, ?_⟩
  rcases due with ⟨k4, k⟩ | ⟨rfl, hno, j, dx, jl, rfl, e2, k⟩
  · rcases (show kz = 0 ∨ kz = 1 ∨ kz = 2 ∨ kz = 3 by omega) with rfl | rfl | rfl | rfl
    all_goals
      refine ⟨rfl, rfl, _, rfl, iteF ?_⟩
      refine ⟨_, rfl, a, D, d, _, _, true, rfl, known s7, ex, .ty _, qV, _, rfl, iteF ?_⟩
      refine ⟨_, rfl, a, D, d, _, _, _, rfl, known s7, ex, .own _, qT, _, rfl, iteF ?_⟩
      refine ⟨(by decide : 4 ≤ sizeLine), fun u hu => ?_⟩
      have hr8 := Same.new (o := .lst [.str "outline", .str "height", .str "number", .str "reading"]) hu _ _ hr7
      have sl := s7.trans (Same.new (o := .lst [.str "outline", .str "height", .str "number", .str "reading"]) hu)
    · exact ⟨_, rfl, .inl ⟨rfl, _, SqL.of hr8⟩, r, _, _, 0, _, rfl, rfl, SqL.of hr8, rfl, rfl, rfl, rfl, fun m z hm => absurd hm (Nat.not_lt_zero _), u, _, 0, _, rfl, rfl, SqL.of upd_same, rfl, k _ sl⟩
    · refine ⟨_, rfl, .inl ⟨rfl, _, SqL.of hr8⟩, r, _, _, 1, _, rfl, rfl, SqL.of hr8, rfl, rfl, rfl, rfl, fun m z hm e => ?_, u, _, 1, _, rfl, rfl, SqL.of upd_same, rfl, k _ sl⟩
      have : m = 0 := by omega
      subst this
      cases e
      rfl
    · refine ⟨_, rfl, .inl ⟨rfl, _, SqL.of hr8⟩, r, _, _, 2, _, rfl, rfl, SqL.of hr8, rfl, rfl, rfl, rfl, fun m z hm e => ?_, u, _, 2, _, rfl, rfl, SqL.of upd_same, rfl, k _ sl⟩
      rcases (show m = 0 ∨ m = 1 by omega) with rfl | rfl <;> (cases e; rfl)
    · refine ⟨_, rfl, .inl ⟨rfl, _, SqL.of hr8⟩, r, _, _, 3, _, rfl, rfl, SqL.of hr8, rfl, rfl, rfl, rfl, fun m z hm e => ?_, u, _, 3, _, rfl, rfl, SqL.of upd_same, rfl, k _ sl⟩
      rcases (show m = 0 ∨ m = 1 ∨ m = 2 by omega) with rfl | rfl | rfl <;> (cases e; rfl)
  · have xf : XfC K D := ⟨ex.hg, ex.hk, ex.hs, ex.hd⟩
    refine ⟨rfl, rfl, _, rfl, iteF ?_⟩
    refine ⟨_, rfl, a, D, some dx, _, _, true, rfl, known s7, ex, .ty _, qV, _, rfl, iteF ?_⟩
    refine ⟨_, rfl, a, D, some dx, _, _, _, rfl, known s7, ex, .own _, qT, _, rfl, iteT ?_⟩
    refine ⟨_, rfl, a, D, dx, _, _, rfl, known s7, s7 _ _ e2, xf, hno, rfl, _, rfl, Nat.lt_of_le_of_lt (Nat.log2_le_self _) (show j < 1920 by omega), _, _, rfl, rfl, deep_fit ⟨j, jl⟩, k _ s7⟩
end
end SH

namespace SH
open PySem PySem.Spec PyProof.Rows L2
abbrev s_law_error : Stmt := topS 56
abbrev N_law_error : List Str := ["door", "one", "two", "three", "caught", "error"]
abbrev P_law_error : List Str := ["door", "one", "two", "three"]
theorem sc_law_error : FnScope N_law_error P_law_error (defScope s_law_error) := ⟨rfl, rfl, rfl, by decide +kernel, rfl, by decide +kernel, by decide +kernel⟩
def Due3 (door : Int) (ns : List Int) (h : Int) (d3 : PyData) (wd : Str) : Prop :=
  (door = 0 ∧ wd = "none") ∨ (door = 1 ∧ ((∃ i : Int, d3 = .int i ∧ 0 ≤ i ∧ i < waysF ns h 0 ∧ wd = "none") ∨ (inD d3 0 (waysF ns h 0 - 1) = false ∧ wd = "number"))) ∨
  (door = 2 ∧ ((∃ L, d3 = dI (nv (0 :: L)) ∧ Path ns h 0 L ∧ wd = "none") ∨ ((¬ ∃ L, d3 = dI (nv (0 :: L)) ∧ Path ns h 0 L) ∧ wd = "reading")))
/-- what is told of a call with these values -/
def Due (door : Int) (d1 d2 d3 : PyData) (wd : Str) : Prop :=
  (isOD d1 = false ∧ wd = "outline") ∨ (isOD d1 = true ∧ inD d2 1 400 = false ∧ wd = "height") ∨ ∃ (ns : List Int) (h : Int), d1 = dI ns ∧ isO ns = true ∧ d2 = .int h ∧ 1 ≤ h ∧ h ≤ 400 ∧ ((∃ j, DeepAt ns h 0 j ∧ wd = deepT j) ∨ (Fit ns h 0 ∧ Due3 door ns h d3 wd))
structure DueF (door : Int) (d1 d2 d3 : PyData) (wd : Str) : Prop where
  o : isOD d1 = false → wd = "outline"
  h : isOD d1 = true → inD d2 1 400 = false → wd = "height"
  t : ∀ (ns : List Int) (h : Int), d1 = dI ns → isO ns = true → d2 = .int h → 1 ≤ h → h ≤ 400 → ∀ j, DeepAt ns h 0 j → wd = deepT j
  g : ∀ (ns : List Int) (h : Int), d1 = dI ns → isO ns = true → d2 = .int h → 1 ≤ h → h ≤ 400 → Fit ns h 0 → Due3 door ns h d3 wd
theorem dI_inj {a b : List Int} (e : dI a = dI b) : a = b := by rw [← intsD_dI a, e, intsD_dI]
theorem in_hgt {h : Int} (h0 : 1 ≤ h) (h1 : h ≤ 400) : inD (.int h) 1 400 = true := by
  show (decide (1 ≤ h) && decide (h ≤ 400)) = true
  rw [decide_eq_true h0, decide_eq_true h1]; rfl
theorem deep_same {ns : List Int} {h : Int} {i j : Nat} (a : DeepAt ns h 0 i) (b : DeepAt ns h 0 j) : i = j := by
  rcases Nat.lt_trichotomy i j with c | c | c
  · have := b.2.2.2 i (Nat.zero_le _) c
    have := a.2.2.1
    omega
  · exact c
  · have := a.2.2.2 j (Nat.zero_le _) c
    have := b.2.2.1
    omega
theorem Due.facts {door : Int} {d1 d2 d3 : PyData} {wd : Str} : Due door d1 d2 d3 wd → DueF door d1 d2 d3 wd
  | .inl ⟨a, e⟩ => ⟨fun _ => e, fun b => (by rw [a] at b; cases b), fun ns h e1 ho => (by rw [e1, isOD_dI, ho] at a; cases a), fun ns h e1 ho => (by rw [e1, isOD_dI, ho] at a; cases a)⟩
  | .inr (.inl ⟨a, b, e⟩) => ⟨fun c => (by rw [a] at c; cases c), fun _ _ => e, fun ns h e1 ho e2 h0 h1 => (by rw [e2, in_hgt h0 h1] at b; cases b), fun ns h e1 ho e2 h0 h1 => (by rw [e2, in_hgt h0 h1] at b; cases b)⟩
  | .inr (.inr ⟨ms, h', e1, ho, e2, h0, h1, z⟩) => by
    subst e1 e2
    refine ⟨fun c => ?_, fun _ c => ?_, fun ns h e1 _ e2 _ _ j dj => ?_, fun ns h e1 _ e2 _ _ ft => ?_⟩
    · rw [isOD_dI, ho] at c; cases c
    · rw [in_hgt h0 h1] at c; cases c
    · obtain rfl := dI_inj e1
      cases e2
      rcases z with ⟨i, di, e⟩ | ⟨ft, _⟩
      · rw [← deep_same di dj]; exact e
      · have := ft j (Nat.zero_le _) dj.2.1
        have := dj.2.2.1
        omega
    · obtain rfl := dI_inj e1
      cases e2
      rcases z with ⟨i, di, e⟩ | ⟨_, z⟩
      · have := ft i (Nat.zero_le _) di.2.1
        have := di.2.2.1
        omega
      · exact z
section
variable {P : Program} {w : World} {K : PySem.W.Frag} {mg : Str → Option Value} {base : Heap}
variable {C_InvalidLineError C_InvalidScrollError C_InvalidFoldsError C_InvalidDocumentError C_InvalidTitleError C_InvalidDepthError C_InvalidTextError C_HiddenLineError C_EndError C_TooManyLinesError C_EmptyOutlineError C_EmptyHistoryError C_InvalidObservationsError C_InvalidOutlineError C_InvalidHeightError C_InvalidNumberError C_InvalidReadingError C_TooDeepError C_StickyHeadsError : Addr}
def sp_error : Sp := fun vs H Q _ => ∃ (n : Int) (x y z : V) (d1 d2 d3 : PyData) (a1 a2 a3 : List Addr) (wd : Str), vs = [.int n, x, y, z] ∧ 0 ≤ n ∧ n ≤ 2 ∧ Dx H x d1 a1 ∧ Dx H y d2 a2 ∧ Dx H z d3 a3 ∧ Due n d1 d2 d3 wd ∧ RetV Q H (.str wd)
theorem ok_law_error (T : Txt mg) (e_StickyHeadsError : Err K mg "StickyHeadsError" C_StickyHeadsError) (i_TooDeepError : IniC P K C_TooDeepError "TooDeepError.__init__" ini_TooDeepError "line")
    (x_O : Catch K C_InvalidOutlineError C_StickyHeadsError true) (x_H : Catch K C_InvalidHeightError C_StickyHeadsError true) (x_N : Catch K C_InvalidNumberError C_StickyHeadsError true) (x_R : Catch K C_InvalidReadingError C_StickyHeadsError true) (x_T : Catch K C_TooDeepError C_StickyHeadsError true)
    (y_O : ErK K C_InvalidOutlineError (kk C_InvalidLineError C_InvalidScrollError C_InvalidFoldsError C_InvalidDocumentError C_InvalidTitleError C_InvalidDepthError C_InvalidTextError C_HiddenLineError C_EndError C_TooManyLinesError C_EmptyOutlineError C_EmptyHistoryError C_InvalidObservationsError C_InvalidOutlineError C_InvalidHeightError C_InvalidNumberError C_InvalidReadingError C_TooDeepError 0)) (y_H : ErK K C_InvalidHeightError (kk C_InvalidLineError C_InvalidScrollError C_InvalidFoldsError C_InvalidDocumentError C_InvalidTitleError C_InvalidDepthError C_InvalidTextError C_HiddenLineError C_EndError C_TooManyLinesError C_EmptyOutlineError C_EmptyHistoryError C_InvalidObservationsError C_InvalidOutlineError C_InvalidHeightError C_InvalidNumberError C_InvalidReadingError C_TooDeepError 1)) (y_N : ErK K C_InvalidNumberError (kk C_InvalidLineError C_InvalidScrollError C_InvalidFoldsError C_InvalidDocumentError C_InvalidTitleError C_InvalidDepthError C_InvalidTextError C_HiddenLineError C_EndError C_TooManyLinesError C_EmptyOutlineError C_EmptyHistoryError C_InvalidObservationsError C_InvalidOutlineError C_InvalidHeightError C_InvalidNumberError C_InvalidReadingError C_TooDeepError 2)) (y_R : ErK K C_InvalidReadingError (kk C_InvalidLineError C_InvalidScrollError C_InvalidFoldsError C_InvalidDocumentError C_InvalidTitleError C_InvalidDepthError C_InvalidTextError C_HiddenLineError C_EndError C_TooManyLinesError C_EmptyOutlineError C_EmptyHistoryError C_InvalidObservationsError C_InvalidOutlineError C_InvalidHeightError C_InvalidNumberError C_InvalidReadingError C_TooDeepError 3)) (y_T : ErK K C_TooDeepError (kk C_InvalidLineError C_InvalidScrollError C_InvalidFoldsError C_InvalidDocumentError C_InvalidTitleError C_InvalidDepthError C_InvalidTextError C_HiddenLineError C_EndError C_TooManyLinesError C_EmptyOutlineError C_EmptyHistoryError C_InvalidObservationsError C_InvalidOutlineError C_InvalidHeightError C_InvalidNumberError C_InvalidReadingError C_TooDeepError 4))
    (h : At K mg "_law_error" s_law_error)
    (g_count_shortest : Has P w K mg base (L2N.CX P w) 6 "count_shortest" s_count_shortest P_count_shortest (sp_csN C_InvalidOutlineError C_InvalidHeightError C_TooDeepError))
    (g_nth_shortest : Has P w K mg base (L2N.CX P w) 6 "nth_shortest" s_nth_shortest P_nth_shortest (sp_nsN C_InvalidOutlineError C_InvalidHeightError C_TooDeepError C_InvalidNumberError))
    (g_rank_shortest : Has P w K mg base (L2N.CX P w) 6 "rank_shortest" s_rank_shortest P_rank_shortest (sp_rsN C_InvalidOutlineError C_InvalidHeightError C_TooDeepError C_InvalidReadingError))
    (g_law_kind : Has P w K mg base CX0 1 "_law_kind" s_law_kind P_law_kind (sp_kind K C_InvalidLineError C_InvalidScrollError C_InvalidFoldsError C_InvalidDocumentError C_InvalidTitleError C_InvalidDepthError C_InvalidTextError C_HiddenLineError C_EndError C_TooManyLinesError C_EmptyOutlineError C_EmptyHistoryError C_InvalidObservationsError C_InvalidOutlineError C_InvalidHeightError C_InvalidNumberError C_InvalidReadingError C_TooDeepError)) :
    Has P w K mg base CX0 7 "_law_error" s_law_error P_law_error sp_error := by
  obtain ⟨f_nth_shortest, m_nth_shortest, V_nth_shortest⟩ := g_nth_shortest.v
  obtain ⟨f_rank_shortest, m_rank_shortest, V_rank_shortest⟩ := g_rank_shortest.v
  refine Has.of h sc_law_error (fun vs H Q E h => ?_) (fun _ _ _ _ _ _ us hl => match us, hl with | [_, _, _, _], _ => rfl) (fun f cdv A outer s H vs Q E room qt h => ?_)
  · obtain ⟨n, x, y, z, d1, d2, d3, a1, a2, a3, wd, rfl, _⟩ := h; rfl
  obtain ⟨n, x, y, z, d1, d2, d3, a1, a2, a3, wd, rfl, n0, n2, h1, h2, h3, due, k⟩ := h
  have du := due.facts
  refine ⟨_, (pss_cons (ps_set (i := 4) sc_law_error.nd rfl (Or.inl rfl) pe_non)
      (pss_cons (ps_tryE (i := 5) rfl rfl rfl sc_law_error.nd rfl rfl ⟨by rfl, by decide, Or.inl e_StickyHeadsError.g⟩ (fun W pn xe tk po =>
        (pss_one (ps_if (pt_cmpR op_eq (pv 0) pe_int (nomark _))
          (pss_one (ps_expr (pe_hasS g_count_shortest (room.mono (by decide)) qt (by rfl) (fun σ => L2N.passAt tk σ) (pa_cons (pv 1) (pa_cons (pv 2) pa_nil)))))
          (pss_one (ps_expr (show PE _ _ (tCallV P w K mg base (L2N.CX P w) _ (WE W) _ _) from by exact (pe_callV (k := 6) (room.mono (by decide)) qt (pe_ix (show IxR _ (rIxL K) from by exact ix_list) (pe_lst (pa_cons (pe_glob (v := .ref f_nth_shortest) (by rfl) m_nth_shortest rfl) (pa_cons (pe_glob (v := .ref f_rank_shortest) (by rfl) m_rank_shortest rfl) pa_nil))) (pe_op op_sub (pv 0) pe_int) (fun _ _ => rfl)) (fun σ => L2N.passAt tk σ) (pa_cons (pv 1) (pa_cons (pv 2) (pa_cons (pv 3) pa_nil)))))))))) (fun a oe cls d pn hz hf =>
        (pss_one (ps_set (i := 4) sc_law_error.nd rfl (Or.inl rfl) (pv 5)))))
      (pss_one (ps_ret (pe_ifExp (pt_cmpR op_isN (pv 4) pe_non (nomark _)) pe_str (pe_has g_law_kind (room.mono (by decide)) qt (by rfl) pass0 (pa_cons (pv 4) pa_nil))))))), ?_⟩
  refine seq_cut (fun τ G => τ = [some (.int n), some x, some y, some z, some .non, none] ∧ H = G) ?_ (fun main => main _ _ ⟨rfl, rfl⟩)
  rintro τ G ⟨rfl, rfl⟩
  refine seq_cut (fun τ G => ∃ cv, τ = [some (.int n), some x, some y, some z, some cv, none] ∧ Same H G ∧ ((cv = .non ∧ RetV Q G (.str "none")) ∨ ∃ (a D : Addr) (kz : Nat), cv = .ref a ∧ ErK K D (kk C_InvalidLineError C_InvalidScrollError C_InvalidFoldsError C_InvalidDocumentError C_InvalidTitleError C_InvalidDepthError C_InvalidTextError C_HiddenLineError C_EndError C_TooManyLinesError C_EmptyOutlineError C_EmptyHistoryError C_InvalidObservationsError C_InvalidOutlineError C_InvalidHeightError C_InvalidNumberError C_InvalidReadingError C_TooDeepError kz) ∧ ((kz < 4 ∧ ErAt G a D ∧ RetV Q G (.str (wordN kz))) ∨ (kz = 4 ∧ PySem.W.findIn K (.ref D) "line" = some none ∧ ∃ j, j < 200 ∧ ErLn G a D j ∧ RetV Q G (.str (deepT j)))))) ?_ ?_
  · rintro τ G ⟨cv, rfl, s1, ⟨rfl, k⟩ | ⟨a, D, kz, rfl, ek, kd⟩⟩
    · exact ⟨_, rfl, rfl, _, rfl, iteT (k _ (Same.refl _))⟩
    · exact ⟨_, rfl, rfl, _, rfl, iteF ⟨_, rfl, a, D, kz, rfl, ek, kd⟩⟩
  intro main
  have none_ : ∀ {H3}, Same H H3 → wd = "none" → _ := fun {H3} s3 e => main [some (.int n), some x, some y, some z, some .non, none] H3 ⟨_, rfl, s3, .inl ⟨rfl, fun H4 s4 => by have := k H4 (s3.trans s4); rw [e] at this; exact this⟩⟩
  have some_ : ∀ {H3 a D kx}, Same H H3 → H3 a = none → kx < 4 → ErK K D (kk C_InvalidLineError C_InvalidScrollError C_InvalidFoldsError C_InvalidDocumentError C_InvalidTitleError C_InvalidDepthError C_InvalidTextError C_HiddenLineError C_EndError C_TooManyLinesError C_EmptyOutlineError C_EmptyHistoryError C_InvalidObservationsError C_InvalidOutlineError C_InvalidHeightError C_InvalidNumberError C_InvalidReadingError C_TooDeepError kx) → wd = wordN kx → _ := fun {H3 a D kx} s3 na k4 ek e => main [some (.int n), some x, some y, some z, some (.ref a), none] (upd H3 a (ErO (.ref D) none a)) ⟨_, rfl, s3.trans (Same.new na), .inr ⟨a, D, kx, rfl, ek, .inl ⟨k4, ⟨none, upd_same, .inl rfl⟩, fun H4 s4 => by have := k H4 ((s3.trans (Same.new na)).trans s4); rw [e] at this; exact this⟩⟩⟩
  have deep_ : ∀ {H3 a dx j}, Same H H3 → H3 a = none → H3 dx = some (.xd [("line", .int (j : Nat))]) → j < 200 → wd = deepT j → _ := fun {H3 a dx j} s3 na hdx jl e => main [some (.int n), some x, some y, some z, some (.ref a), none] (upd H3 a (ErO (.ref C_TooDeepError) (some dx) a)) ⟨_, rfl, s3.trans (Same.new na), .inr ⟨a, C_TooDeepError, 4, rfl, y_T, .inr ⟨rfl, i_TooDeepError.no, j, jl, ⟨dx, upd_same, Same.new na _ _ hdx⟩, fun H4 s4 => by have := k H4 ((s3.trans (Same.new na)).trans s4); rw [e] at this; exact this⟩⟩⟩
  rcases (show n = 0 ∨ n = 1 ∨ n = 2 by omega) with rfl | rfl | rfl
  · refine ⟨_, rfl, rfl, _, rfl, iteT' (by decide) ⟨_, rfl, _, rfl, x, y, d1, d2, a1, a2, rfl, h1, h2, fun c => ?_, fun c1 c2 => ?_, fun ns hh e1 ho e2 h0 h1 => ⟨fun ft H3 s3 => ?_, fun j dj dx H3 s3 hdx nd => ?_⟩⟩⟩
    · exact ⟨x_O.is, fun a ha => ⟨_, rfl, some_ (Same.refl _) ha (by decide) y_O (du.o c)⟩⟩
    · exact ⟨x_H.is, fun a ha => ⟨_, rfl, some_ (Same.refl _) ha (by decide) y_H (du.h c1 c2)⟩⟩
    · refine none_ s3 ?_
      rcases du.g ns hh e1 ho e2 h0 h1 ft with ⟨_, e⟩ | ⟨e, _⟩ | ⟨e, _⟩
      · exact e
      · cases e
      · cases e
    · exact ⟨x_T.is, fun a ha => ⟨_, rfl, deep_ s3 ha hdx (by have := dj.2.1; have := (isO_iff.mp ho).2.1; omega) (du.t ns hh e1 ho e2 h0 h1 j dj)⟩⟩
  all_goals
    refine ⟨_, rfl, rfl, _, rfl, iteFb (by decide) ⟨(by decide : 2 ≤ sizeLine), fun q hq => ?_⟩⟩
    have sq := Same.new (o := .lst [.ref f_nth_shortest, .ref f_rank_shortest]) hq
    have hqq := upd_same (H := H) (a := q) (o := .lst [.ref f_nth_shortest, .ref f_rank_shortest])
    generalize upd H q (.lst [.ref f_nth_shortest, .ref f_rank_shortest]) = H2 at sq hqq ⊢
  · refine ⟨_, rfl, _, _, rfl, rfl, q, _, (1 : Int) - 1, _, rfl, rfl, SqL.of hqq, rfl, f_nth_shortest, 3, _, rfl, V_nth_shortest, _, rfl, _, rfl, _, rfl, x, y, z, d1, d2, d3, a1, a2, a3, rfl, h1.same sq, h2.same sq, h3.same sq, fun c => ?_, fun c1 c2 => ?_, fun ns hh e1 ho e2 h0 h1 => ⟨fun ft => ⟨fun i ei i0 i1 p H3 _ s3 _ => ?_, fun bad H3 s3 => ?_⟩, fun j dj dx H3 s3 hdx nd => ?_⟩⟩
    · exact ⟨x_O.is, fun a ha => ⟨_, rfl, some_ sq ha (by decide) y_O (du.o c)⟩⟩
    · exact ⟨x_H.is, fun a ha => ⟨_, rfl, some_ sq ha (by decide) y_H (du.h c1 c2)⟩⟩
    · refine none_ (sq.trans s3) ?_
      rcases du.g ns hh e1 ho e2 h0 h1 ft with ⟨e, _⟩ | ⟨_, ⟨_, _, _, _, e⟩ | ⟨bad, e⟩⟩ | ⟨e, _⟩
      · cases e
      · exact e
      · rw [ei] at bad
        have z' : (decide (0 ≤ i) && decide (i ≤ waysF ns hh 0 - 1)) = false := bad
        rw [decide_eq_true i0, decide_eq_true (by omega)] at z'
        cases z'
      · cases e
    · refine ⟨x_N.is, fun a ha => ⟨_, rfl, some_ (sq.trans s3) ha (by decide) y_N ?_⟩⟩
      rcases du.g ns hh e1 ho e2 h0 h1 ft with ⟨e, _⟩ | ⟨_, ⟨i, ei, i0, i1, e⟩ | ⟨bad, e⟩⟩ | ⟨e, _⟩
      · cases e
      · rw [ei] at bad
        have z' : (decide (0 ≤ i) && decide (i ≤ waysF ns hh 0 - 1)) = false := bad
        rw [decide_eq_true i0, decide_eq_true (by omega)] at z'
        cases z'
      · exact e
      · cases e
    · exact ⟨x_T.is, fun a ha => ⟨_, rfl, deep_ (sq.trans s3) ha hdx (by have := dj.2.1; have := (isO_iff.mp ho).2.1; omega) (du.t ns hh e1 ho e2 h0 h1 j dj)⟩⟩
  · refine ⟨_, rfl, _, _, rfl, rfl, q, _, (2 : Int) - 1, _, rfl, rfl, SqL.of hqq, rfl, f_rank_shortest, 3, _, rfl, V_rank_shortest, _, rfl, _, rfl, _, rfl, x, y, z, d1, d2, d3, a1, a2, a3, rfl, h1.same sq, h2.same sq, h3.same sq, fun c => ?_, fun c1 c2 => ?_, fun ns hh e1 ho e2 h0 h1 => ⟨fun ft => ⟨fun L eL pth H3 s3 => ?_, fun bad H3 s3 => ?_⟩, fun j dj dx H3 s3 hdx nd => ?_⟩⟩
    · exact ⟨x_O.is, fun a ha => ⟨_, rfl, some_ sq ha (by decide) y_O (du.o c)⟩⟩
    · exact ⟨x_H.is, fun a ha => ⟨_, rfl, some_ sq ha (by decide) y_H (du.h c1 c2)⟩⟩
    · refine none_ (sq.trans s3) ?_
      rcases du.g ns hh e1 ho e2 h0 h1 ft with ⟨e, _⟩ | ⟨e, _⟩ | ⟨_, ⟨_, _, _, e⟩ | ⟨bad, e⟩⟩
      · cases e
      · cases e
      · exact e
      · exact (bad ⟨L, eL, pth⟩).elim
    · refine ⟨x_R.is, fun a ha => ⟨_, rfl, some_ (sq.trans s3) ha (by decide) y_R ?_⟩⟩
      rcases du.g ns hh e1 ho e2 h0 h1 ft with ⟨e, _⟩ | ⟨e, _⟩ | ⟨_, ⟨L, e1, e2, e⟩ | ⟨_, e⟩⟩
      · cases e
      · cases e
      · exact (bad ⟨L, e1, e2⟩).elim
      · exact e
    · exact ⟨x_T.is, fun a ha => ⟨_, rfl, deep_ (sq.trans s3) ha hdx (by have := dj.2.1; have := (isO_iff.mp ho).2.1; omega) (du.t ns hh e1 ho e2 h0 h1 j dj)⟩⟩
end
end SH

namespace SH
open PySem PySem.Spec PyProof.Rows L2
/-- the state while values are made: the pool at g, and what stands where -/
structure Kn (g : Addr) (H0 H : Hp) (n : Int) (F : List (Addr × HO)) : Prop where
  sb : SameBut g H0 H
  sv : SrcV n H g
  fs : ∀ x ∈ F, H x.1 = some x.2 ∧ x.1 ≠ g
theorem Kn.start {g : Addr} {H : Hp} {n : Int} (h : SrcV n H g) : Kn g H H n [] := ⟨SameBut.refl, h, fun x hx => by cases hx⟩
theorem Kn.at {g p : Addr} {H0 H : Hp} {n : Int} {F : List (Addr × HO)} {o : HO} (K : Kn g H0 H n F) (m : (p, o) ∈ F) : H p = some o := (K.fs _ m).1
theorem Kn.ne {g p : Addr} {H0 H : Hp} {n : Int} {F : List (Addr × HO)} {o : HO} (K : Kn g H0 H n F) (m : (p, o) ∈ F) : p ≠ g := (K.fs _ m).2
theorem Kn.hold {g p : Addr} {H0 H : Hp} {n : Int} {F : List (Addr × HO)} {o : HO} (K : Kn g H0 H n F) (h : H p = some o) (ne : p ≠ g) : Kn g H0 H n ((p, o) :: F) :=
  ⟨K.sb, K.sv, fun x hx => by
    rcases List.mem_cons.mp hx with rfl | hx
    · exact ⟨h, ne⟩
    · exact K.fs x hx⟩
theorem Kn.same {g : Addr} {H0 H H' : Hp} {n : Int} {F : List (Addr × HO)} (K : Kn g H0 H n F) (s : Same H H') : Kn g H0 H' n F :=
  ⟨K.sb.trans (.of s), K.sv.same s, fun x hx => ⟨s _ _ (K.fs x hx).1, (K.fs x hx).2⟩⟩
theorem Kn.new {g p : Addr} {H0 H : Hp} {n : Int} {F : List (Addr × HO)} {o : HO} (K : Kn g H0 H n F) (h : H p = none) : Kn g H0 (upd H p o) n ((p, o) :: F) :=
  (K.same (Same.new h)).hold upd_same (K.sv.ne h).symm
theorem Kn.draw {g : Addr} {H0 H H' : Hp} {n m : Int} {F : List (Addr × HO)} (K : Kn g H0 H n F) (b : SameBut g H H') (h : SrcV m H' g) : Kn g H0 H' m F :=
  ⟨K.sb.trans b, h, fun x hx => ⟨b _ _ (K.fs x hx).1 (K.fs x hx).2, (K.fs x hx).2⟩⟩
theorem Kn.mono {g : Addr} {H0 H : Hp} {n m : Int} {F : List (Addr × HO)} (K : Kn g H0 H n F) (h : n ≤ m) : Kn g H0 H m F := ⟨K.sb, K.sv.mono h, K.fs⟩
theorem getD_snoc (ns : List Int) (x : Int) : (ns ++ [x]).getD ns.length 0 = x := by
  rw [List.getD_eq_getElem?_getD, List.getElem?_append_right (Nat.le_refl _), Nat.sub_self]
  rfl
theorem getD_app {ns ms : List Int} {i : Nat} (h : i < ns.length) : (ns ++ ms).getD i 0 = ns.getD i 0 := by
  rw [List.getD_eq_getElem?_getD, List.getElem?_append_left h, List.getD_eq_getElem?_getD]
theorem iv_app (xs ys : List Int) : iv xs ++ iv ys = iv (xs ++ ys) := (List.map_append).symm
theorem okFromD_all {ds : List PyData} (h : okFromD 0 ds = true) : ∀ i, i ≤ ds.length → okFromD (gD ds i) (ds.drop i) = true
  | 0, _ => h
  | i + 1, hi => by
    have e : ds[i]? = some (ds.getD i .none) := by rw [List.getD_eq_getElem?_getD, List.getElem?_eq_getElem (by omega)]; rfl
    have := okFromD_all h i (by omega)
    rw [okFromD_drop e, Bool.and_eq_true] at this
    exact this.2
theorem okFromD_at {ds : List PyData} (h : okFromD 0 ds = true) {i : Nat} {d : PyData} (e : ds[i]? = some d) : inD d 0 (gD ds i) = true := by
  have hl := (List.getElem?_eq_some_iff.mp e).1
  have := okFromD_all h i (by omega)
  rw [okFromD_drop e, Bool.and_eq_true] at this
  exact this.1
/-- an outline with one place that does not fit -/
theorem wrong_at {ns : List Int} {t : Nat} {d : PyData} {be : Int} (tl : t < ns.length) (hbe : be + 1 = gAt ns t) (hd : ∀ v, d = .int v → v < 0 ∨ be + 1 < v) :
    isOD (.list ((ns.take t).map PyData.int ++ [d] ++ (ns.drop (t + 1)).map PyData.int)) = false := by
  have lt : ((ns.take t).map PyData.int).length = t := by rw [List.length_map, List.length_take]; omega
  have e : ((ns.take t).map PyData.int ++ [d] ++ (ns.drop (t + 1)).map PyData.int)[t]? = some d := by
    rw [List.append_assoc, List.getElem?_append_right (by omega), lt, Nat.sub_self]
    rfl
  have eg : gD ((ns.take t).map PyData.int ++ [d] ++ (ns.drop (t + 1)).map PyData.int) t = be + 1 := by
    rw [hbe]
    cases t with
    | zero => rfl
    | succ j =>
      show nextD (List.getD _ j .none) = ns.getD j 0 + 1
      have : ((ns.take (j + 1)).map PyData.int ++ [d] ++ (ns.drop (j + 1 + 1)).map PyData.int)[j]? = some (.int (ns.getD j 0)) := by
        rw [List.append_assoc, List.getElem?_append_left (by omega), List.getElem?_map, List.getElem?_take_of_lt (by omega), List.getElem?_eq_getElem (by omega), List.getD_eq_getElem?_getD, List.getElem?_eq_getElem (by omega)]
        rfl
      rw [getD_of this]
      rfl
  cases c : isOD (.list ((ns.take t).map PyData.int ++ [d] ++ (ns.drop (t + 1)).map PyData.int)) with
  | false => rfl
  | true =>
    have c1 : (decide (1 ≤ _) && decide (_ ≤ 200) && okFromD 0 ((ns.take t).map PyData.int ++ [d] ++ (ns.drop (t + 1)).map PyData.int)) = true := c
    rw [Bool.and_eq_true] at c1
    have c2 := okFromD_at c1.2 e
    rw [eg] at c2
    obtain ⟨v, rfl, v0, v1⟩ := inD_int c2
    rcases hd v rfl with z | z <;> omega
abbrev s_law_bad_made : Stmt := topS 55
abbrev N_law_bad_made : List Str := ["source", "made", "at", "odd", "some"]
abbrev P_law_bad_made : List Str := ["source", "made"]
theorem sc_law_bad_made : FnScope N_law_bad_made P_law_bad_made (defScope s_law_bad_made) := ⟨rfl, rfl, rfl, by decide +kernel, rfl, by decide +kernel, by decide +kernel⟩
theorem str_fit : ∀ i : Fin 201, (PyData.str (toString (i.val : Int))).shown.length ≤ 50 := by decide +kernel
theorem fit40 {v : Int} (h : v.natAbs < 10 ^ 40) : Fits 0 50 (.int v) := ⟨decide_eq_true (small_log' (Nat.lt_trans h (by decide))), Nat.le_refl _, by
  show (PySem.Str.ofString (toString v)).length ≤ 50
  rw [PySem.ofString_length]
  exact Nat.le_trans (PySem.int_text_length_le10 (k := 40) (by decide) h) (by decide)⟩
theorem fitN : Fits 0 50 .none := ⟨rfl, Nat.le_refl _, by decide⟩
theorem fitB (b : Bool) : Fits 0 50 (.bool b) := ⟨rfl, Nat.le_refl _, by cases b <;> decide⟩
theorem fitE : Fits 1 50 (.dict []) := ⟨rfl, by decide, by decide⟩
theorem fit40s {ns : List Int} (h : ∀ v ∈ ns, v.natAbs < 10 ^ 40) : ∀ d ∈ ns.map PyData.int, Fits 0 50 d := fun d hd => by
  obtain ⟨v, hv, rfl⟩ := List.mem_map.mp hd
  exact fit40 (h v hv)
theorem pwR30 : (10 : Int) ^ (30 : Int).toNat = 1000000000000000000000000000000 := by decide
theorem not_snoc {ns : List Int} (ho : isO ns = true) : isO (ns ++ [ns.getD (ns.length - 1) 0 + 2]) = false := by
  obtain ⟨l1, l2, hk⟩ := isO_iff.mp ho
  cases c : isO (ns ++ [ns.getD (ns.length - 1) 0 + 2]) with
  | false => rfl
  | true =>
    have := (okFrom_at (isO_iff.mp c).2.2 (i := ns.length) (by rw [List.length_append]; exact Nat.lt_succ_self _)).2.1 (ns.length - 1) (by omega)
    rw [getD_snoc, getD_app (by omega)] at this
    omega
section
variable {P : Program} {w : World} {K : PySem.W.Frag} {mg : Str → Option Value} {base : Heap}
/-- a value that is no depth after `be` -/
def OddV (H : Hp) (g : Addr) (be : Int) (x : V) : Prop := ∃ d as, Dx H x d as ∧ (∀ v, d = .int v → v < 0 ∨ be + 1 < v) ∧ Fits 1 60 d ∧ g ∉ as
def WrongG (H : Hp) (g : Addr) (x : V) : Prop := ∃ d as, Dx H x d as ∧ isOD d = false ∧ Fits 3 30000 d ∧ g ∉ as
theorem WrongG.same {H H' : Hp} {g : Addr} {x : V} (h : WrongG H g x) (s : Same H H') : WrongG H' g x := by
  obtain ⟨d, as, a, b⟩ := h
  exact ⟨d, as, a.same s, b⟩
theorem WrongG.but {H H' : Hp} {g : Addr} {x : V} (h : WrongG H g x) (s : SameBut g H H') : WrongG H' g x := by
  obtain ⟨d, as, a, b, c, f⟩ := h
  exact ⟨d, as, a.but s f, b, c, f⟩
theorem WrongG.ints {H : Hp} {g p : Addr} {ms : List Int} (e : H p = some (.lst (iv ms))) (n : p ≠ g) (h : isO ms = false) (l : ms.length ≤ 202) (b : ∀ v ∈ ms, v.natAbs < 10 ^ 40) : WrongG H g (.ref p) :=
  ⟨_, _, dx_dI e, by rw [isOD_dI]; exact h, (fit_list (fit40s fun v hv => (b v hv)) (by rw [List.length_map]; exact l)).mono (by decide) (by decide), fun z => n (List.mem_singleton.mp z).symm⟩
def sp_law_bad_made : Sp := fun vs H Q _ => ∃ (g a : Addr) (ns : List Int) (B : Int), vs = [.ref g, .ref a] ∧ SrcV B H g ∧ B ≤ 200000000 ∧ a ≠ g ∧ H a = some (.lst (iv ns)) ∧ isO ns = true ∧
  ∀ (x : V) (H' : Hp), SameBut g H H' → SrcV (B + 4) H' g → WrongG H' g x → Q x H'
theorem ok_law_bad_made (T : Txt mg) (h : At K mg "_law_bad_made" s_law_bad_made)
    (g_law_draw : Has P w K mg base CX0 1 "_law_draw" s_law_draw P_law_draw sp_law_draw) :
    Has P w K mg base CX0 2 "_law_bad_made" s_law_bad_made P_law_bad_made sp_law_bad_made := by
  refine Has.of h sc_law_bad_made (fun vs H Q E h => ?_) (fun _ _ _ _ _ _ us hl => match us, hl with | [_, _], _ => rfl) (fun f cdv A outer s H vs Q E room qt h => ?_)
  · obtain ⟨v, a, n, B, rfl, _⟩ := h; rfl
  obtain ⟨g, a, ns, B, rfl, hg, hB, nag, ha, ho, k⟩ := h
  obtain ⟨l1, l2, hk⟩ := isO_iff.mp ho
  have el : (iv ns).length = ns.length := List.length_map _
  have nn : ns ≠ [] := fun e => by subst e; cases l1
  refine ⟨_, (pss_cons (ps_set (i := 2) sc_law_bad_made.nd rfl (Or.inl rfl) (pe_has g_law_draw (room.mono (by decide)) qt (by rfl) pass0 (pa_cons (pv 0) (pa_cons (pe_callB call_len_seq (by rfl) T.len (by decide +kernel) (pa_cons (pv 1) pa_nil)) pa_nil))))
      (pss_cons (ps_set (i := 3) sc_law_bad_made.nd rfl (Or.inl rfl) (pe_lst (pa_cons (pe_op op_add (pe_ifExp (pt_cmpR op_gt (pv 2) pe_int (nomark _)) (pe_ix ix_list (pv 1) (pe_op op_sub (pv 2) pe_int) (fun _ _ => rfl)) (pe_un un_neg pe_int)) pe_int) (pa_cons (pe_un un_neg pe_int) (pa_cons pe_bl (pa_cons pe_non (pa_cons (pe_callTy call_str_int (by rfl) T.tstr (by decide +kernel) (pa_cons (pe_ix ix_list (pv 1) (pv 2) (fun _ _ => rfl)) pa_nil)) (pa_cons (pe_tup (pa_cons (pe_ix ix_list (pv 1) (pv 2) (fun _ _ => rfl)) pa_nil)) (pa_cons (pe_op op_powG pe_int pe_int) pa_nil)))))))))
      (pss_cons (ps_set (i := 4) sc_law_bad_made.nd rfl (Or.inl rfl) (pe_lst (pa_cons (pe_op op_catS (pe_op op_catS (pe_slice sl_list (pv 1) po_none (po_some (pv 2))) (pe_lst (pa_cons (pe_ix ix_list (pv 3) (pe_has g_law_draw (room.mono (by decide)) qt (by rfl) pass0 (pa_cons (pv 0) (pa_cons pe_int pa_nil))) (fun _ _ => rfl)) pa_nil))) (pe_slice sl_list (pv 1) (po_some (pe_op op_add (pv 2) pe_int)) po_none)) (pa_cons (pe_tupleOf (by rfl) T.tuple (pv 1)) (pa_cons (pe_lst pa_nil) (pa_cons pe_non (pa_cons pe_int (pa_cons pe_str (pa_cons pe_dnewK (pa_cons (pe_lst (pa_cons (pv 1) pa_nil)) pa_nil))))))))))
      (pss_cons (ps_set (i := 4) sc_law_bad_made.nd rfl (Or.inl rfl) (pe_op op_catS (pv 4) (pe_lst (pa_cons (pe_op op_rep (pe_lst (pa_cons pe_int pa_nil)) pe_int) (pa_cons (pe_op op_catS (pv 1) (pe_lst (pa_cons (pe_op op_add (pe_ix ix_list (pv 1) (pe_un un_neg pe_int) (fun _ _ => rfl)) pe_int) pa_nil))) pa_nil)))))
      (pss_one (ps_ret (pe_ix ix_list (pv 4) (pe_ix ix_list (pe_lst (pa_cons (pe_has g_law_draw (room.mono (by decide)) qt (by rfl) pass0 (pa_cons (pv 0) (pa_cons pe_int pa_nil))) (pa_cons pe_int pa_nil))) (pe_has g_law_draw (room.mono (by decide)) qt (by rfl) pass0 (pa_cons (pv 0) (pa_cons pe_int pa_nil))) (fun _ _ => rfl)) (fun _ _ => rfl)))))))), ?_⟩
  have K0 := (Kn.start hg).hold ha nag
  refine ⟨_, rfl, _, rfl, a, _, rfl, .inl (SqL.of ha), g, _, _, rfl, hg, by omega, by omega, by omega, fun at_ H1 a0 a1 b1 g1 => ?_⟩
  have K1 := K0.draw b1 g1
  clear K0
  rw [el] at a1
  obtain ⟨t, rfl⟩ : ∃ t : Nat, at_ = t := ⟨at_.toNat, by omega⟩
  have tl : t < ns.length := by omega
  obtain ⟨be, hbe⟩ : ∃ be : Int, be + 1 = gAt ns t := ⟨gAt ns t - 1, by omega⟩
  have db := (okFrom_at hk tl).1
  have dc := okFrom_le hk (i := t) tl
  have ha1 : H1 a = some (.lst (iv ns)) := K1.at (by repeat first | exact .head _ | apply List.Mem.tail)
  -- odd
  refine ⟨_, rfl, _, _, rfl, rfl, _, rfl, ?_⟩
  refine if_any (fun v H2 => v = .int be ∧ H2 = H1) (fun c Q' qq => ?_) (fun c Q' qq => ?_) ?_
  · have c1 : 0 < t := by have := of_decide_eq_true c; omega
    refine ⟨_, rfl, _, rfl, _, _, rfl, rfl, a, iv ns, _, _, rfl, rfl, SqL.of ha1, atI_iv (show (0 : Int) ≤ (t : Int) - 1 by omega) (by omega), qq _ _ ⟨?_, rfl⟩⟩
    congr 1
    obtain ⟨j, rfl⟩ : ∃ j, t = j + 1 := ⟨t - 1, by omega⟩
    have : be + 1 = ns.getD j 0 + 1 := hbe
    rw [show (((j + 1 : Nat) : Int) - 1).toNat = j by omega]
    omega
  · have c1 : ¬ 0 < t := fun z => by rw [decide_eq_true (by omega)] at c; cases c
    obtain rfl : t = 0 := by omega
    have : be + 1 = 0 := hbe
    refine ⟨_, rfl, qq _ _ ⟨?_, rfl⟩⟩
    show V.int (-1) = V.int be
    rw [show be = -1 by omega]
  rintro v H2 ⟨rfl, rfl⟩
  have a1' : (t : Int) < ns.length := by omega
  refine ⟨_, _, rfl, rfl, _, rfl, _, rfl, _, rfl, a, iv ns, _, _, rfl, rfl, SqL.of ha1, atI_iv a0 a1', ?_⟩
  obtain ⟨dv, hdv, dv1⟩ : ∃ dv : Nat, ns.getD (t : Int).toNat 0 = (dv : Int) ∧ dv ≤ 200 := by
    obtain ⟨x, hx⟩ := Int.eq_ofNat_of_zero_le db
    exact ⟨x, by rw [Int.toNat_natCast, hx], by omega⟩
  rw [hdv]
  refine ⟨(dv : Nat), rfl, small_log (by omega), _, rfl, _, rfl, a, iv ns, _, _, rfl, rfl, SqL.of ha1, atI_iv a0 a1', ?_⟩
  rw [hdv]
  refine ⟨(by decide : 1 ≤ sizeLine), fun t1 m1 => ?_⟩
  have K2 := K1.new (o := .tup [.int (dv : Nat)]) m1
  generalize upd H2 t1 (.tup [.int (dv : Nat)]) = H3 at K2 ⊢
  refine ⟨_, _, rfl, rfl, ten_ok (by decide) (by decide), (by decide : 7 ≤ sizeLine), fun p1 m2 => ?_⟩
  have K3 := K2.new (o := .lst [.int (be + 2), .int (-1), .bl true, .non, .str (toString ((dv : Nat) : Int)), .ref t1, .int ((10 : Int) ^ (30 : Int).toNat)]) m2
  generalize upd H3 p1 (.lst [.int (be + 2), .int (-1), .bl true, .non, .str (toString ((dv : Nat) : Int)), .ref t1, .int ((10 : Int) ^ (30 : Int).toNat)]) = H4 at K3 ⊢
  -- made[:at] + [odd[..]] + made[at + 1:]
  refine ⟨_, rfl, _, rfl, _, rfl, a, _, rfl, SqL.of (K3.at (by repeat first | exact .head _ | apply List.Mem.tail)), fun p2 m3 => ?_⟩
  rw [cutV_iv, cutI_to _ (by omega), Int.toNat_natCast]
  have K4 := K3.new (o := .lst (iv (ns.take t))) m3
  generalize upd H4 p2 (.lst (iv (ns.take t))) = H5 at K4 ⊢
  refine ⟨_, rfl, _, rfl, g, 7, _, rfl, K4.sv, by omega, by decide, by decide, fun j H6 j0 j1 b6 g6 => ?_⟩
  have K5 := K4.draw b6 g6
  obtain ⟨odd, hat, hodd⟩ := atI_all (xs := [.int (be + 2), .int (-1), .bl true, .non, .str (toString ((dv : Nat) : Int)), .ref t1, .int ((10 : Int) ^ (30 : Int).toNat)]) (p := fun x => x ∈ [V.int (be + 2), .int (-1), .bl true, .non, .str (toString ((dv : Nat) : Int)), .ref t1, .int ((10 : Int) ^ (30 : Int).toNat)]) (fun x hx => hx) j0 (by exact j1)
  refine ⟨p1, _, j, odd, rfl, rfl, SqL.of (K5.at (by repeat first | exact .head _ | apply List.Mem.tail)), hat, (by decide : 1 ≤ sizeLine), fun p3 m4 => ?_⟩
  have K6 := K5.new (o := .lst [odd]) m4
  generalize upd H6 p3 (.lst [odd]) = H7 at K6 ⊢
  have lt1 : (iv (ns.take t)).length ≤ 200 := by rw [List.length_map, List.length_take]; omega
  refine ⟨p2, p3, _, _, rfl, rfl, SqL.of (K6.at (by repeat first | exact .head _ | apply List.Mem.tail)), SqL.of (K6.at (by repeat first | exact .head _ | apply List.Mem.tail)), Nat.le_of_lt (small_line (by show (iv (ns.take t)).length + 1 < 100000; omega)), fun p4 m5 => ?_⟩
  have K7 := K6.new (o := .lst (iv (ns.take t) ++ [odd])) m5
  generalize upd H7 p4 (.lst (iv (ns.take t) ++ [odd])) = H8 at K7 ⊢
  refine ⟨_, rfl, _, rfl, _, _, rfl, rfl, _, rfl, a, _, rfl, SqL.of (K7.at (by repeat first | exact .head _ | apply List.Mem.tail)), fun p5 m6 => ?_⟩
  rw [cutV_iv, cutI_from _ (by omega), show ((t : Int) + 1).toNat = t + 1 by omega]
  have K8 := K7.new (o := .lst (iv (ns.drop (t + 1)))) m6
  generalize upd H8 p5 (.lst (iv (ns.drop (t + 1)))) = H9 at K8 ⊢
  have lt2 : (iv (ns.drop (t + 1))).length ≤ 200 := by rw [List.length_map, List.length_drop]; omega
  refine ⟨p4, p5, _, _, rfl, rfl, SqL.of (K8.at (by repeat first | exact .head _ | apply List.Mem.tail)), SqL.of (K8.at (by repeat first | exact .head _ | apply List.Mem.tail)), Nat.le_of_lt (small_line (by rw [List.length_append]; show (iv (ns.take t)).length + 1 + _ < 100000; omega)), fun p6 m7 => ?_⟩
  have K9 := K8.new (o := .lst (iv (ns.take t) ++ [odd] ++ iv (ns.drop (t + 1)))) m7
  generalize upd H9 p6 (.lst (iv (ns.take t) ++ [odd] ++ iv (ns.drop (t + 1)))) = H10 at K9 ⊢
  -- tuple(made), [], None, 5, "0", {}, [made]
  refine ⟨_, rfl, .inl ⟨a, _, rfl, SqL.of (K9.at (by repeat first | exact .head _ | apply List.Mem.tail)), fun p7 m8 => ?_⟩⟩
  have K10 := K9.new (o := .tup (iv ns)) m8
  generalize upd H10 p7 (.tup (iv ns)) = H11 at K10 ⊢
  refine ⟨(by decide : 0 ≤ sizeLine), fun p8 m9 => ?_⟩
  have K11 := K10.new (o := .lst []) m9
  generalize upd H11 p8 (.lst []) = H12 at K11 ⊢
  refine fun p9 m10 => ?_
  have K12 := K11.new (o := .dK []) m10
  generalize upd H12 p9 (.dK []) = H13 at K12 ⊢
  refine ⟨_, rfl, (by decide : 1 ≤ sizeLine), fun p10 m11 => ?_⟩
  have K13 := K12.new (o := .lst [.ref a]) m11
  generalize upd H13 p10 (.lst [.ref a]) = H14 at K13 ⊢
  refine ⟨(by decide : 8 ≤ sizeLine), fun p11 m12 => ?_⟩
  have K14 := K13.new (o := .lst [.ref p6, .ref p7, .ref p8, .non, .int 5, .str "0", .ref p9, .ref p10]) m12
  generalize upd H14 p11 (.lst [.ref p6, .ref p7, .ref p8, .non, .int 5, .str "0", .ref p9, .ref p10]) = H15 at K14 ⊢
  -- [0] * 201, made + [made[-1] + 2]
  refine ⟨_, rfl, (by decide : 1 ≤ sizeLine), fun p12 m13 => ⟨p12, 201, [.int 0], rfl, rfl, upd_same, by decide, by decide, by decide, fun p13 m14 => ?_⟩⟩
  rw [iv_rep]
  have K15 := (K14.new (o := .lst [.int 0]) m13).new (o := .lst (iv (List.replicate (201 : Int).toNat 0))) m14
  generalize upd (upd H15 p12 (.lst [.int 0])) p13 (.lst (iv (List.replicate (201 : Int).toNat 0))) = H16 at K15 ⊢
  have ha16 : H16 a = some (.lst (iv ns)) := K15.at (by repeat first | exact .head _ | apply List.Mem.tail)
  refine ⟨_, rfl, _, rfl, _, rfl, a, _, _, _, rfl, rfl, SqL.of ha16, atI_iv_last nn, _, _, rfl, rfl, (by decide : 1 ≤ sizeLine), fun p14 m15 => ?_⟩
  have K16 := K15.new (o := .lst [(fun i j => V.int (i + j)) (ns.getD (ns.length - 1) 0) 2]) m15
  generalize upd H16 p14 _ = H17 at K16 ⊢
  refine ⟨a, p14, _, _, rfl, rfl, SqL.of (K16.at (by repeat first | exact .head _ | apply List.Mem.tail)), SqL.of (K16.at (by repeat first | exact .head _ | apply List.Mem.tail)), Nat.le_of_lt (small_line (by show (iv ns).length + 1 < 100000; omega)), fun p15 m16 => ?_⟩
  have K17 := K16.new (o := .lst (iv ns ++ [(fun i j => V.int (i + j)) (ns.getD (ns.length - 1) 0) 2])) m16
  generalize upd H17 p15 _ = H18 at K17 ⊢
  refine ⟨(by decide : 2 ≤ sizeLine), fun p16 m17 => ?_⟩
  have K18 := K17.new (o := .lst [.ref p13, .ref p15]) m17
  generalize upd H18 p16 _ = H19 at K18 ⊢
  refine ⟨p11, p16, _, _, rfl, rfl, SqL.of (K18.at (by repeat first | exact .head _ | apply List.Mem.tail)), SqL.of (K18.at (by repeat first | exact .head _ | apply List.Mem.tail)), (by show 8 + 2 ≤ sizeLine; decide), fun p17 m18 => ?_⟩
  have K19 := K18.new (o := .lst ([.ref p6, .ref p7, .ref p8, .non, .int 5, .str "0", .ref p9, .ref p10] ++ [.ref p13, .ref p15])) m18
  generalize upd H19 p17 _ = H20 at K19 ⊢
  -- the choice
  refine ⟨_, rfl, _, rfl, g, 10, _, rfl, K19.sv, by omega, by decide, by decide, fun x1 H21 x10 x11 b21 g21 => ⟨(by decide : 2 ≤ sizeLine), fun p18 m19 => ?_⟩⟩
  have K20 := (K19.draw b21 g21).new (o := .lst [.int x1, .int 0]) m19
  generalize upd H21 p18 _ = H22 at K20 ⊢
  refine ⟨_, rfl, g, 2, _, rfl, K20.sv, by omega, by decide, by decide, fun x2 H23 x20 x21 b23 g23 => ?_⟩
  have K21 := K20.draw b23 g23
  refine ⟨p18, iv [x1, 0], x2, _, rfl, rfl, SqL.of (K21.at (by repeat first | exact .head _ | apply List.Mem.tail)), atI_iv x20 (by exact x21), ?_⟩
  have hz : 0 ≤ [x1, 0].getD x2.toNat 0 ∧ [x1, 0].getD x2.toNat 0 < 10 := by
    refine getD_all (p := fun v => 0 ≤ v ∧ v < 10) (fun v hv => ?_) x20 (by exact x21)
    simp only [List.mem_cons, List.not_mem_nil, or_false] at hv
    rcases hv with rfl | rfl <;> omega
  generalize [x1, 0].getD x2.toNat 0 = z at hz ⊢
  have iO : ∀ v ∈ ns, v.natAbs < 10 ^ 40 := fun v hv => by
    obtain ⟨i, hi, e⟩ := List.getElem_of_mem hv
    have q1 := (okFrom_at hk hi).1
    have q2 := okFrom_le hk hi
    rw [List.getD_eq_getElem?_getD, List.getElem?_eq_getElem hi, e] at q1 q2
    have e2 : (some v).getD 0 = v := rfl
    rw [e2] at q1 q2
    omega
  have wl : ∀ x ∈ [V.ref p6, .ref p7, .ref p8, .non, .int 5, .str "0", .ref p9, .ref p10] ++ [V.ref p13, .ref p15], WrongG H23 g x := fun x hx => by
    have f1 : ∀ {d : PyData}, Fits 0 50 d → Fits 3 30000 d := fun h => h.mono (by decide) (by decide)
    have f2 : ∀ {d : PyData}, Fits 0 50 d → Fits 1 60 d := fun h => h.mono (by decide) (by decide)
    simp only [List.cons_append, List.nil_append, List.mem_cons, List.not_mem_nil, or_false] at hx
    rcases hx with rfl | rfl | rfl | rfl | rfl | rfl | rfl | rfl | rfl | rfl
    · obtain ⟨d, as, h1, h2, h3, h5⟩ : OddV H23 g be odd := by
        simp only [List.mem_cons, List.not_mem_nil, or_false] at hodd
        rcases hodd with rfl | rfl | rfl | rfl | rfl | rfl | rfl
        · exact ⟨_, _, .int _, fun v e => by cases e; exact .inr (by omega), f2 (fit40 ((by cases t with
            | zero => have : be + 1 = 0 := hbe
                      omega
            | succ j =>
              have := okFrom_le hk (i := j) (by omega)
              have q : be + 1 = ns.getD j 0 + 1 := hbe
              have := (okFrom_at hk (i := j) (by omega)).1
              omega))), List.not_mem_nil⟩
        · exact ⟨_, _, .int _, fun v e => by cases e; exact .inl (by decide), f2 (fit40 ((by decide))), List.not_mem_nil⟩
        · exact ⟨_, _, .bl _, (fun v e => nomatch e), f2 (fitB _), List.not_mem_nil⟩
        · exact ⟨_, _, .non, (fun v e => nomatch e), f2 fitN, List.not_mem_nil⟩
        · exact ⟨_, _, .str _, (fun v e => nomatch e), ⟨rfl, Nat.zero_le _, Nat.le_trans (str_fit ⟨dv, by omega⟩) (by decide)⟩, List.not_mem_nil⟩
        · exact ⟨_, _, .tup (K21.at (by repeat first | exact .head _ | apply List.Mem.tail)) (dx_ints [(dv : Int)]), (fun v e => nomatch e), (fit_tup (n := 0) (L := 50) (m := 1) (fit40s (ns := [(dv : Int)]) fun v hv => (by rw [List.mem_singleton.mp hv]; omega)) (Nat.le_refl _)).mono (by decide) (by decide), fun z => K21.ne (p := t1) (o := .tup [.int (dv : Nat)]) (by repeat first | exact .head _ | apply List.Mem.tail) (List.mem_singleton.mp z).symm⟩
        · refine ⟨_, _, .int _, fun v e => ?_, f2 (fit40 ((by rw [pwR30]; decide))), List.not_mem_nil⟩
          cases e
          rw [pwR30]
          have : be ≤ 198 := by
            cases t with
            | zero => have : be + 1 = 0 := hbe
                      omega
            | succ j =>
              have := okFrom_le hk (i := j) (by omega)
              have q : be + 1 = ns.getD j 0 + 1 := hbe
              omega
          exact .inr (by omega)
      have hp6 := K21.at (p := p6) (o := .lst (iv (ns.take t) ++ [odd] ++ iv (ns.drop (t + 1)))) (by repeat first | exact .head _ | apply List.Mem.tail)
      have np6 := K21.ne (p := p6) (o := .lst (iv (ns.take t) ++ [odd] ++ iv (ns.drop (t + 1)))) (by repeat first | exact .head _ | apply List.Mem.tail)
      have hx := ((dx_ints (H := H23) (ns.take t)).append (dx_one h1)).append (dx_ints (ns.drop (t + 1)))
      refine ⟨_, _, .lst hp6 hx, wrong_at tl hbe h2, (fit_list (n := 1) (L := 60) (m := 401) (fun e he => ?_) ?_).mono (by decide) (by decide), fun z => ?_⟩
      · rcases List.mem_append.mp he with he | he
        · rcases List.mem_append.mp he with he | he
          · exact (fit40s (fun v hv => (iO v (List.mem_of_mem_take hv))) e he).mono (by decide) (by decide)
          · rw [List.mem_singleton.mp he]; exact h3
        · exact (fit40s (fun v hv => (iO v (List.mem_of_mem_drop hv))) e he).mono (by decide) (by decide)
      · rw [List.length_append, List.length_append, List.length_map, List.length_map]
        rw [List.length_map] at lt1 lt2
        show _ + 1 + _ ≤ 401
        omega
      · rw [List.append_nil, List.nil_append] at z
        rcases List.mem_cons.mp z with m | m
        · exact np6 m.symm
        · exact h5 m
    · exact ⟨_, _, .tup (K21.at (by repeat first | exact .head _ | apply List.Mem.tail)) (dx_ints ns), rfl, (fit_tup (fit40s fun v hv => (iO v hv)) (by rw [List.length_map]; exact l2)).mono (by decide) (by decide), fun z => K21.ne (p := p7) (o := .tup (iv ns)) (by repeat first | exact .head _ | apply List.Mem.tail) (List.mem_singleton.mp z).symm⟩
    · exact WrongG.ints (ms := []) (K21.at (by repeat first | exact .head _ | apply List.Mem.tail)) (K21.ne (p := p8) (o := .lst []) (by repeat first | exact .head _ | apply List.Mem.tail)) rfl (by decide) (fun v hv => (List.not_mem_nil hv).elim)
    · exact ⟨_, _, .non, rfl, f1 fitN, List.not_mem_nil⟩
    · exact ⟨_, _, .int 5, rfl, f1 (fit40 ((by decide))), List.not_mem_nil⟩
    · exact ⟨_, _, .str "0", rfl, ⟨rfl, by decide, by decide +kernel⟩, List.not_mem_nil⟩
    · exact ⟨_, _, .emp (K21.at (by repeat first | exact .head _ | apply List.Mem.tail)), rfl, fitE.mono (by decide) (by decide), fun z => K21.ne (p := p9) (o := .dK []) (by repeat first | exact .head _ | apply List.Mem.tail) (List.mem_singleton.mp z).symm⟩
    · refine ⟨_, _, .lst (K21.at (p := p10) (o := .lst [.ref a]) (by repeat first | exact .head _ | apply List.Mem.tail)) (dx_one (dx_dI (K21.at (p := a) (o := .lst (iv ns)) (by repeat first | exact .head _ | apply List.Mem.tail)))), rfl, (fit_list (n := 1) (L := 10600) (m := 1) (fun d hd => ?_) (Nat.le_refl _)).mono (by decide) (by decide), fun z => ?_⟩
      · rw [List.mem_singleton.mp hd]
        exact (fit_list (fit40s fun v hv => (iO v hv)) (by rw [List.length_map]; exact l2)).mono (by decide) (by decide)
      · rcases List.mem_cons.mp z with m | m
        · exact K21.ne (p := p10) (o := .lst [.ref a]) (by repeat first | exact .head _ | apply List.Mem.tail) m.symm
        · exact nag (List.mem_singleton.mp m).symm
    · exact WrongG.ints (ms := List.replicate (201 : Int).toNat 0) (K21.at (by repeat first | exact .head _ | apply List.Mem.tail)) (K21.ne (p := p13) (o := .lst (iv (List.replicate (201 : Int).toNat 0))) (by repeat first | exact .head _ | apply List.Mem.tail)) (by decide) (by decide) (fun v hv => by rw [List.eq_of_mem_replicate hv]; decide)
    · have h15 := K21.at (p := p15) (o := .lst (iv ns ++ [(fun i j => V.int (i + j)) (ns.getD (ns.length - 1) 0) 2])) (by repeat first | exact .head _ | apply List.Mem.tail)
      replace h15 : H23 p15 = some (.lst (iv (ns ++ [ns.getD (ns.length - 1) 0 + 2]))) := by rw [h15, ← iv_snoc]
      refine WrongG.ints h15 (K21.ne (p := p15) (o := .lst (iv ns ++ [(fun i j => V.int (i + j)) (ns.getD (ns.length - 1) 0) 2])) (by repeat first | exact .head _ | apply List.Mem.tail)) (not_snoc ho) (by rw [List.length_append, List.length_singleton]; omega) (fun v hv => ?_)
      rcases List.mem_append.mp hv with hv | hv
      · exact iO v hv
      · rw [List.mem_singleton.mp hv]
        have q1 := (okFrom_at hk (i := ns.length - 1) (by omega)).1
        have q2 := okFrom_le hk (i := ns.length - 1) (by omega)
        omega
  obtain ⟨x, hat2, hx⟩ := atI_all (xs := [V.ref p6, .ref p7, .ref p8, .non, .int 5, .str "0", .ref p9, .ref p10] ++ [V.ref p13, .ref p15]) wl hz.1 (by exact hz.2)
  exact ⟨p17, _, z, x, rfl, rfl, SqL.of (K21.at (by repeat first | exact .head _ | apply List.Mem.tail)), hat2, k x H23 K21.sb (K21.sv.mono (by omega)) hx⟩
end
end SH

namespace SH
open PySem PySem.Spec PyProof.Rows L2
mutual
theorem Dx.tr {H : Hp} : ∀ {d : PyData} {v : V} {as : List Addr}, Dx H v d as → ∀ a ∈ as, ∃ o, H a = some o
  | .none, _, _, h, a, m => by cases h; cases m
  | .bool b, _, _, h, a, m => by cases h; cases m
  | .int i, _, _, h, a, m => by cases h; cases m
  | .str x, _, _, h, a, m => by cases h; cases m
  | .list ds, _, _, h, a, m => by
    cases h with
    | lst e r =>
      rcases List.mem_cons.mp m with rfl | m
      · exact ⟨_, e⟩
      · exact DxAll.tr r a m
  | .tuple ds, _, _, h, a, m => by
    cases h with
    | tup e r =>
      rcases List.mem_cons.mp m with rfl | m
      · exact ⟨_, e⟩
      · exact DxAll.tr r a m
  | .dict _, _, _, h, a, m => by
    cases h with
    | emp e => rw [List.mem_singleton.mp m]; exact ⟨_, e⟩
theorem DxAll.tr {H : Hp} : ∀ {ds : List PyData} {vs : List V} {as : List Addr}, DxAll H vs ds as → ∀ a ∈ as, ∃ o, H a = some o
  | [], _, _, h, a, m => by cases h; cases m
  | d :: ds, _, _, h, a, m => by
    cases h with
    | cons h1 h2 =>
      rcases List.mem_append.mp m with m | m
      · exact Dx.tr h1 a m
      · exact DxAll.tr h2 a m
end
/-- all stays but what stands at g and at cs -/
def Apart2 (g cs : Addr) (H H' : Hp) : Prop := ∀ b o, H b = some o → b ≠ g → b ≠ cs → H' b = some o
theorem Apart2.trans {g cs : Addr} {H H1 H2 : Hp} (a : Apart2 g cs H H1) (b : Apart2 g cs H1 H2) : Apart2 g cs H H2 := fun x o e n m => b x o (a x o e n m) n m
theorem Apart2.of {g cs : Addr} {H H' : Hp} (s : Same H H') : Apart2 g cs H H' := fun x o e _ _ => s x o e
theorem Apart2.but {g cs : Addr} {H H' : Hp} (s : SameBut g H H') : Apart2 g cs H H' := fun x o e n _ => s x o e n
theorem Apart2.at {g cs : Addr} {H : Hp} {o : HO} : Apart2 g cs H (upd H cs o) := fun x u e _ m => by rw [upd_ne m]; exact e
/-- a value with its data, apart from g and cs -/
def Vc (H : Hp) (g cs : Addr) (x : V) (d : PyData) : Prop := ∃ as, Dx H x d as ∧ g ∉ as ∧ cs ∉ as ∧ Fits 3 30000 d
theorem Vc.ap {H H' : Hp} {g cs : Addr} {x : V} {d : PyData} (a : Apart2 g cs H H') : Vc H g cs x d → Vc H' g cs x d
  | ⟨as, h, n, m, f⟩ => ⟨as, h.imp fun b hb o e => a b o e (fun z => n (z ▸ hb)) (fun z => m (z ▸ hb)), n, m, f⟩
theorem Vc.fresh {H : Hp} {g cs : Addr} {x : V} {d : PyData} (hn : H cs = none) : Vc H g g x d → Vc H g cs x d
  | ⟨as, h, n, _, f⟩ => ⟨as, h, n, fun m => (by obtain ⟨o, e⟩ := h.tr cs m; rw [hn] at e; cases e), f⟩
theorem Vc.forget {H : Hp} {g cs : Addr} {x : V} {d : PyData} : Vc H g cs x d → Vc H g g x d
  | ⟨as, h, n, _, f⟩ => ⟨as, h, n, n, f⟩
theorem Vc.int {H : Hp} {g cs : Addr} {i : Int} (h : i.natAbs < 10 ^ 40) : Vc H g cs (.int i) (.int i) := ⟨[], .int i, List.not_mem_nil, List.not_mem_nil, (fit40 h).mono (by decide) (by decide)⟩
/-- a case that holds -/
def CaseC (H : Hp) (g cs : Addr) (x : V) : Prop := ∃ (t : Addr) (n : Int) (x1 x2 x3 : V) (d1 d2 d3 : PyData) (wd : Str), x = .ref t ∧ H t = some (.tup [.int n, x1, x2, x3, .str wd]) ∧ t ≠ g ∧ t ≠ cs ∧ 0 ≤ n ∧ n ≤ 2 ∧ Vc H g cs x1 d1 ∧ Vc H g cs x2 d2 ∧ Vc H g cs x3 d3 ∧ Fits 0 50 (.str wd) ∧ Due n d1 d2 d3 wd
theorem CaseC.ap {H H' : Hp} {g cs : Addr} {x : V} (a : Apart2 g cs H H') : CaseC H g cs x → CaseC H' g cs x
  | ⟨t, n, x1, x2, x3, d1, d2, d3, wd, e, h, m1, m2, n0, n2, h1, h2, h3, f, d⟩ => ⟨t, n, x1, x2, x3, d1, d2, d3, wd, e, a _ _ h m1 m2, m1, m2, n0, n2, h1.ap a, h2.ap a, h3.ap a, f, d⟩
theorem CaseC.fresh {H : Hp} {g cs : Addr} {x : V} (hn : H cs = none) : CaseC H g g x → CaseC H g cs x
  | ⟨t, n, x1, x2, x3, d1, d2, d3, wd, e, h, m1, _, n0, n2, h1, h2, h3, f, d⟩ => ⟨t, n, x1, x2, x3, d1, d2, d3, wd, e, h, m1, (fun z => by rw [z, hn] at h; cases h), n0, n2, h1.fresh hn, h2.fresh hn, h3.fresh hn, f, d⟩
theorem CaseC.forget {H : Hp} {g cs : Addr} {x : V} : CaseC H g cs x → CaseC H g g x
  | ⟨t, n, x1, x2, x3, d1, d2, d3, wd, e, h, m1, _, n0, n2, h1, h2, h3, f, d⟩ => ⟨t, n, x1, x2, x3, d1, d2, d3, wd, e, h, m1, m1, n0, n2, h1.forget, h2.forget, h3.forget, f, d⟩
theorem CaseC.new {H : Hp} {g cs t : Addr} {n : Int} {x1 x2 x3 : V} {d1 d2 d3 : PyData} {wd : Str} (h : H t = some (.tup [.int n, x1, x2, x3, .str wd])) (m1 : t ≠ g) (m2 : t ≠ cs) (n0 : 0 ≤ n) (n2 : n ≤ 2) (h1 : Vc H g cs x1 d1) (h2 : Vc H g cs x2 d2) (h3 : Vc H g cs x3 d3) (f : Fits 0 50 (.str wd)) (d : Due n d1 d2 d3 wd) : CaseC H g cs (.ref t) :=
  ⟨t, n, x1, x2, x3, d1, d2, d3, wd, rfl, h, m1, m2, n0, n2, h1, h2, h3, f, d⟩
def CL (H : Hp) (g cs : Addr) (xs : List V) : Prop := ∀ x ∈ xs, CaseC H g cs x
theorem CL.ap {H H' : Hp} {g cs : Addr} {xs : List V} (h : CL H g cs xs) (a : Apart2 g cs H H') : CL H' g cs xs := fun x hx => (h x hx).ap a
theorem CL.fresh {H : Hp} {g cs : Addr} {xs : List V} (h : CL H g g xs) (hn : H cs = none) : CL H g cs xs := fun x hx => (h x hx).fresh hn
theorem CL.forget {H : Hp} {g cs : Addr} {xs : List V} (h : CL H g cs xs) : CL H g g xs := fun x hx => (h x hx).forget
theorem CL.app {H : Hp} {g cs : Addr} {xs ys : List V} (h : CL H g cs xs) (k : CL H g cs ys) : CL H g cs (xs ++ ys) := fun x hx => by
  rcases List.mem_append.mp hx with hx | hx
  · exact h x hx
  · exact k x hx
theorem CL.one {H : Hp} {g cs : Addr} {x : V} (h : CaseC H g cs x) : CL H g cs [x] := fun y hy => by rw [List.mem_singleton.mp hy]; exact h
end SH

namespace SH
open PySem PySem.Spec PyProof.Rows L2
abbrev s_law_cases : Stmt := topS 57
abbrev N_law_cases : List Str := ["source", "made", "tall", "reading", "wrong", "odd", "at", "some", "bad", "cases", "door", "good", "third", "word", "low", "deep", "line"]
abbrev P_law_cases : List Str := ["source", "made", "tall"]
theorem sc_law_cases : FnScope N_law_cases P_law_cases (defScope s_law_cases) := ⟨rfl, rfl, rfl, by decide +kernel, rfl, by decide +kernel, by decide +kernel⟩
theorem filt_head {ns : List Int} {lo : Int} {j : Nat} (d : DeepAt ns lo 0 j) : ((List.range ns.length).filter fun i => decide (lo ≤ ns.getD i 0))[0]? = some j := by
  obtain ⟨_, jl, dj, before⟩ := d
  obtain ⟨m, hm⟩ : ∃ m, ns.length = j + (m + 1) := ⟨ns.length - j - 1, by omega⟩
  rw [hm, List.range_add, List.filter_append]
  have e1 : (List.range j).filter (fun i => decide (lo ≤ ns.getD i 0)) = [] := List.filter_eq_nil_iff.mpr fun i hi => by
    have := before i (Nat.zero_le _) (List.mem_range.mp hi)
    simp only [decide_eq_true_eq]
    omega
  rw [e1, List.nil_append, List.range_succ_eq_map, List.map_cons, List.filter_cons, Nat.add_zero, if_pos (decide_eq_true dj)]
  rfl
theorem not_short {ns : List Int} {h : Int} {L : List Nat} (p : Path ns h 0 L) {X : List Int} (hl : X.length ≠ L.length + 1) : ¬ ∃ L', dI X = dI (nv (0 :: L')) ∧ Path ns h 0 L' := by
  rintro ⟨L', e, q⟩
  have e2 := congrArg List.length (dI_inj e)
  rw [nv, List.length_map, List.length_cons, path_len q, ← path_len p] at e2
  exact hl e2
theorem sum_le_mul {B : Int} : ∀ {l : List Int}, (∀ v ∈ l, v ≤ B) → l.sum ≤ (l.length : Int) * B
  | [], _ => by rw [List.sum_nil, List.length_nil]; omega
  | v :: r, h => by
    have a := h v List.mem_cons_self
    have b := sum_le_mul (l := r) fun x hx => h x (List.mem_cons_of_mem _ hx)
    rw [List.sum_cons, List.length_cons]
    have e : ((r.length + 1 : Nat) : Int) * B = (r.length : Int) * B + B := by rw [Int.natCast_add, Int.add_mul, Int.natCast_one, Int.one_mul]
    omega
theorem ways_le {ns : List Int} {h : Int} (ho : isO ns = true) (ft : Fit ns h 0) (h1 : 1 ≤ h) : ∀ (k s : Nat), leftF ns h s = k → waysF ns h s ≤ 256 ^ k
  | 0, s, e => by
    rcases Nat.lt_or_ge (s + h.toNat) ns.length with c | c
    · rw [leftF_go c] at e; cases e
    · rw [ways_end c]; decide
  | k + 1, s, e => by
    rcases Nat.lt_or_ge (s + h.toNat) ns.length with c | c
    · rw [ways_go c]
      have q := sum_le_mul (B := (256 : Int) ^ k) (l := (folL ns h s).map (waysF ns h)) fun v hv => by
        obtain ⟨a, ha, rfl⟩ := List.mem_map.mp hv
        have m := (fol_mem.mp ha).2.2.2
        rw [leftF_go c] at e
        exact ways_le ho ft h1 k a (by omega)
      have ll : ((folL ns h s).map (waysF ns h)).length ≤ 256 := by
        rw [List.length_map]
        unfold folL
        rw [if_pos c]
        refine Nat.le_trans (List.length_filter_le _ _) ?_
        rw [List.length_map, List.length_range]
        have fi := fur_int ft h1 c
        have := (isO_iff.mp ho).2.1
        have d0 := (okFrom_at (isO_iff.mp ho).2.2 c).1
        unfold stopAt at fi
        omega
      have p : (0 : Int) ≤ 256 ^ k := Int.pow_nonneg (by decide)
      have m := Int.mul_le_mul_of_nonneg_right (show ((((folL ns h s).map (waysF ns h)).length : Nat) : Int) ≤ 256 by omega) p
      rw [Int.pow_succ, Int.mul_comm]
      exact Int.le_trans q m
    · rw [leftF_end c] at e; cases e
theorem ways_fit {ns : List Int} {h : Int} (ho : isO ns = true) (ft : Fit ns h 0) (h1 : 1 ≤ h) : Fits 0 1921 (.int (waysF ns h 0)) := by
  refine fit_int ?_
  have a := ways_le ho ft h1 _ 0 rfl
  have b := ways_gt ns h 0
  have l := left_le (ns := ns) (h := h) ns.length 0 (by omega)
  have := (isO_iff.mp ho).2.1
  have c : (256 : Nat) ^ leftF ns h 0 ≤ 256 ^ 200 := Nat.pow_le_pow_right (by decide) (by omega)
  have e : ((256 : Int) ^ leftF ns h 0) = (((256 : Nat) ^ leftF ns h 0 : Nat) : Int) := by rw [Int.natCast_pow]; rfl
  rw [e] at a
  have d : (256 : Nat) ^ 200 < 2 ^ 1900 := by decide +kernel
  omega
theorem deep_fits : ∀ j : Fin 200, (PyData.str (deepT j.val)).shown.length ≤ 50 := by decide +kernel
/-- a row of the loop: door, good, third, word -/
def RowG (H : Hp) (g : Addr) (ns : List Int) (h : Int) (x : V) : Prop := ∃ (t : Addr) (n : Int) (x1 x2 : V) (d1 d2 : PyData) (wd : Str), x = .ref t ∧ H t = some (.tup [.int n, x1, x2, .str wd]) ∧ t ≠ g ∧ 0 ≤ n ∧ n ≤ 2 ∧ Vc H g g x1 d1 ∧ Vc H g g x2 d2 ∧ Fits 0 50 (.str wd) ∧ Due n (dI ns) (.int h) d1 "none" ∧ (0 < n → Due n (dI ns) (.int h) d2 wd)
theorem RowG.but {H H' : Hp} {g : Addr} {ns : List Int} {h : Int} {x : V} (b : SameBut g H H') : RowG H g ns h x → RowG H' g ns h x
  | ⟨t, n, x1, x2, d1, d2, wd, e, ht, m, n0, n2, h1, h2, f, u, v⟩ => ⟨t, n, x1, x2, d1, d2, wd, e, b _ _ ht m, m, n0, n2, h1.ap (.but b), h2.ap (.but b), f, u, v⟩
section
variable {P : Program} {w : World} {K : PySem.W.Frag} {mg : Str → Option Value} {base : Heap}
def sp_law_cases : Sp := fun vs H Q _ => ∃ (g a : Addr) (ns : List Int) (h B : Int), vs = [.ref g, .ref a, .int h] ∧ SrcV B H g ∧ B ≤ 100000000 ∧ a ≠ g ∧ H a = some (.lst (iv ns)) ∧ isO ns = true ∧ 1 ≤ h ∧ h ≤ 400 ∧ Fit ns h 0 ∧
  ∀ (r : Addr) (xs : List V) (H' : Hp), H r = none → SameBut g H H' → SrcV (B + 2000) H' g → H' r = some (.lst xs) → xs.length ≤ 30 → CL H' g g xs → Q (.ref r) H'
set_option maxHeartbeats 0 in
theorem ok_law_cases (T : Txt mg) (h : At K mg "_law_cases" s_law_cases)
    (g_law_draw : Has P w K mg base CX0 1 "_law_draw" s_law_draw P_law_draw sp_law_draw)
    (g_law_drawn : Has P w K mg base CX0 2 "_law_drawn" s_law_drawn P_law_drawn sp_law_drawn)
    (g_law_bad_made : Has P w K mg base CX0 2 "_law_bad_made" s_law_bad_made P_law_bad_made sp_law_bad_made)
    (g_count_shortest : Has P w K mg base CX0 6 "count_shortest" s_count_shortest P_count_shortest sp_count_shortest) :
    Has P w K mg base CX0 7 "_law_cases" s_law_cases P_law_cases sp_law_cases := by
  refine Has.of h sc_law_cases (fun vs H Q E h => ?_) (fun _ _ _ _ _ _ us hl => match us, hl with | [_, _, _], _ => rfl) (fun f cdv A outer s H vs Q E room qt h => ?_)
  · obtain ⟨g, a, ns, h, B, rfl, _⟩ := h; rfl
  obtain ⟨g, a, ns, hh, B, rfl, hg, hB, nag, ha, ho, h1, h2, ft, k⟩ := h
  obtain ⟨l1, l2, hk⟩ := isO_iff.mp ho
  have eln : (iv ns).length = ns.length := List.length_map _
  refine ⟨_, (pss_cons (ps_par (i := 3) (j := 4) rfl sc_law_cases.nd rfl rfl (by decide) rfl rfl (pa_cons (pe_has g_law_drawn (room.mono (by decide)) qt (by rfl) pass0 (pa_cons (pv 0) (pa_cons (pv 1) (pa_cons (pv 2) pa_nil)))) (pa_cons (pe_has g_law_bad_made (room.mono (by decide)) qt (by rfl) pass0 (pa_cons (pv 0) (pa_cons (pv 1) pa_nil))) pa_nil)) (by rfl))
      (pss_cons (ps_set (i := 5) sc_law_cases.nd rfl (Or.inl rfl) (pe_ix ix_list (pe_lst (pa_cons pe_int (pa_cons (pe_un un_neg pe_int) (pa_cons pe_int (pa_cons pe_non (pa_cons pe_bl (pa_cons pe_str (pa_cons (pe_lst (pa_cons pe_int pa_nil)) (pa_cons (pe_op op_powG pe_int pe_int) (pa_cons (pe_tup (pa_cons pe_int pa_nil)) pa_nil)))))))))) (pe_has g_law_draw (room.mono (by decide)) qt (by rfl) pass0 (pa_cons (pv 0) (pa_cons pe_int pa_nil))) (fun _ _ => rfl)))
      (pss_cons (ps_set (i := 6) sc_law_cases.nd rfl (Or.inl rfl) (pe_ix ix_list (pe_lst (pa_cons (pe_un un_neg pe_int) (pa_cons pe_non (pa_cons pe_bl (pa_cons pe_str (pa_cons (pe_lst pa_nil) (pa_cons (pe_has g_count_shortest (room.mono (by decide)) qt (by rfl) pass0 (pa_cons (pv 1) (pa_cons (pv 2) pa_nil))) pa_nil))))))) (pe_has g_law_draw (room.mono (by decide)) qt (by rfl) pass0 (pa_cons (pv 0) (pa_cons pe_int pa_nil))) (fun _ _ => rfl)))
      (pss_cons (ps_set (i := 7) sc_law_cases.nd rfl (Or.inl rfl) (pe_lst (pa_cons pe_non (pa_cons (pe_tupleOf (by rfl) T.tuple (pv 3)) (pa_cons (pe_op op_catS (pv 3) (pe_lst (pa_cons (pe_callB call_len_seq (by rfl) T.len (by decide +kernel) (pa_cons (pv 1) pa_nil)) pa_nil))) (pa_cons (pe_slice sl_list (pv 3) (po_some pe_int) po_none) (pa_cons pe_str (pa_cons (pe_lst (pa_cons pe_bl pa_nil)) (pa_cons (pe_lst (pa_cons (pe_callTy call_str_int (by rfl) T.tstr (by decide +kernel) (pa_cons (pe_ix ix_list (pv 3) pe_int (fun _ _ => rfl)) pa_nil)) pa_nil)) pa_nil)))))))))
      (pss_cons (ps_set (i := 8) sc_law_cases.nd rfl (Or.inl rfl) (pe_ix ix_list (pv 7) (pe_has g_law_draw (room.mono (by decide)) qt (by rfl) pass0 (pa_cons (pv 0) (pa_cons pe_int pa_nil))) (fun _ _ => rfl)))
      (pss_cons (ps_set (i := 9) sc_law_cases.nd rfl (Or.inl rfl) (pe_lst pa_nil))
      (pss_cons (ps_for PassesOwn.never rfl (pi_list (pe_lst (pa_cons (pe_tup (pa_cons pe_int (pa_cons pe_int (pa_cons pe_int (pa_cons pe_str pa_nil))))) (pa_cons (pe_tup (pa_cons pe_int (pa_cons pe_int (pa_cons (pv 6) (pa_cons pe_str pa_nil))))) (pa_cons (pe_tup (pa_cons pe_int (pa_cons (pv 3) (pa_cons (pv 8) (pa_cons pe_str pa_nil))))) pa_nil))))) (pg_tup rfl (pgs_cons (pg_name (i := 10) sc_law_cases.nd rfl (Or.inl rfl) (hf := Or.inl rfl)) (pgs_cons (pg_name (i := 11) sc_law_cases.nd rfl (Or.inl rfl) (hf := Or.inl rfl)) (pgs_cons (pg_name (i := 12) sc_law_cases.nd rfl (Or.inl rfl) (hf := Or.inl rfl)) (pgs_cons (pg_name (i := 13) sc_law_cases.nd rfl (Or.inl rfl) (hf := Or.inl rfl)) pgs_nil)))))
        (pss_cons (ps_set (i := 9) sc_law_cases.nd rfl (Or.inl rfl) (pe_op op_catS (pv 9) (pe_lst (pa_cons (pe_tup (pa_cons (pv 10) (pa_cons (pv 1) (pa_cons (pv 2) (pa_cons (pv 11) (pa_cons pe_str pa_nil)))))) (pa_cons (pe_tup (pa_cons (pv 10) (pa_cons (pv 1) (pa_cons (pv 5) (pa_cons (pv 12) (pa_cons pe_str pa_nil)))))) pa_nil)))))
        (pss_cons (ps_set (i := 9) sc_law_cases.nd rfl (Or.inl rfl) (pe_op op_catS (pv 9) (pe_lst (pa_cons (pe_tup (pa_cons (pv 10) (pa_cons (pv 4) (pa_cons (pe_ix ix_list (pe_lst (pa_cons (pv 2) (pa_cons (pv 5) pa_nil))) (pe_has g_law_draw (room.mono (by decide)) qt (by rfl) pass0 (pa_cons (pv 0) (pa_cons pe_int pa_nil))) (fun _ _ => rfl)) (pa_cons (pv 12) (pa_cons pe_str pa_nil)))))) pa_nil))))
        (pss_cons (ps_if (pt_cmpR op_gt (pv 10) pe_int (nomark _))
          (pss_one (ps_expr (pe_bm PySem.F.plainAttrs_list PySem.F.slot_list_append PySem.F.type_list_append mt_append (pv 9) (pa_cons (pe_tup (pa_cons (pv 10) (pa_cons (pv 1) (pa_cons (pv 2) (pa_cons (pv 12) (pa_cons (pv 13) pa_nil)))))) pa_nil))))
          pss_nil)
        (pss_one (ps_if (pt_cmpR op_gt (pe_callB (cr_max rfl) (by rfl) T.max (by decide +kernel) (pa_cons (pv 1) pa_nil)) pe_int (nomark _))
          (pss_cons (ps_set (i := 14) sc_law_cases.nd rfl (Or.inr rfl) (pe_op op_add pe_int (pe_has g_law_draw (room.mono (by decide)) qt (by rfl) pass0 (pa_cons (pv 0) (pa_cons (pe_callB (cr_max rfl) (by rfl) T.max (by decide +kernel) (pa_cons (pv 1) pa_nil)) pa_nil)))))
          (pss_cons (ps_set (i := 15) sc_law_cases.nd rfl (Or.inl rfl) (pe_ix ix_list (pe_lc (own := [("line", 16)]) (by rfl) sc_law_cases.nd (pi_range1 (by rfl) T.range (pa_cons (pe_callB call_len_seq (by rfl) T.len (by decide +kernel) (pa_cons (pv 1) pa_nil)) pa_nil)) (blkOk_by (own := [("line", 16)]) (N := N_law_cases) (sc := defScope s_law_cases) (by decide +kernel)) (fun _ _ _ _ _ => (pg_name (i := 16) sc_law_cases.nd rfl (Or.inl rfl) (hf := Or.inr rfl))) (fun _ _ _ _ _ => (pts_one (pt_cmpR op_ge (pe_ix (show IxR _ (rIxL K) from by exact ix_list) (pv 1) (pv 16) (fun _ _ => rfl)) (pv 14) (nomark _)))) (fun _ _ _ _ _ => (pv 16))) pe_int (fun _ _ => rfl)))
          (pss_one (ps_expr (pe_bm PySem.F.plainAttrs_list PySem.F.slot_list_append PySem.F.type_list_append mt_append (pv 9) (pa_cons (pe_tup (pa_cons (pv 10) (pa_cons (pv 1) (pa_cons (pv 14) (pa_cons (pv 12) (pa_cons (pe_op op_add_str pe_str (pe_callTy call_str_int (by rfl) T.tstr (by decide +kernel) (pa_cons (pv 15) pa_nil))) pa_nil)))))) pa_nil))))))
          pss_nil))))))
      (pss_one (ps_ret (pv 9)))))))))), ?_⟩
  refine ⟨_, rfl, _, rfl, _, rfl, g, a, ns, hh, B, rfl, hg, by omega, ha, nag, ho, h1, h2, ft, fun L p1 H1 pth np1 b1 g1 e1 => ?_⟩
  have np1g : p1 ≠ g := (hg.ne np1).symm
  refine ⟨_, rfl, _, rfl, g, a, ns, _, rfl, g1, by omega, nag, b1 _ _ ha nag, ho, fun wr H2 b2 g2 ww => ⟨_, _, rfl, ?_⟩⟩
  have b02 := b1.trans b2
  have K0 := ((Kn.start g2).hold (b02 _ _ ha nag) nag).hold (b2 _ _ e1 np1g) np1g
  have lL : L.length + 1 ≤ 201 := by
    have := path_len pth
    have := left_le (ns := ns) (h := hh) ns.length 0 (by omega)
    omega
  have elR : (iv (nv (0 :: L))).length = L.length + 1 := by rw [List.length_map, nv, List.length_map, List.length_cons]
  -- odd
  refine ⟨_, rfl, (by decide : 1 ≤ sizeLine), fun q1 m1 => ?_⟩
  have K1 := K0.new (o := .lst [V.int 3]) m1
  generalize upd H2 q1 _ = H3 at K1 ⊢
  refine ⟨_, _, rfl, rfl, ten_ok (by decide) (by decide), (by decide : 1 ≤ sizeLine), fun q2 m2 => ?_⟩
  have K2 := K1.new (o := .tup [V.int 1]) m2
  generalize upd H3 q2 _ = H4 at K2 ⊢
  refine ⟨(by decide : 9 ≤ sizeLine), fun q3 m3 => ?_⟩
  have K3 := K2.new (o := .lst [V.int 0, .int (-1), .int 401, .non, .bl true, .str "3", .ref q1, .int ((10 : Int) ^ (30 : Int).toNat), .ref q2]) m3
  generalize upd H4 q3 _ = H5 at K3 ⊢
  refine ⟨_, rfl, g, 9, _, rfl, K3.sv, by omega, by decide, by decide, fun j1 H6 j10 j11 b6 g6 => ?_⟩
  have K4 := K3.draw b6 g6
  obtain ⟨od, hat1, hod⟩ := atI_all (xs := [V.int 0, .int (-1), .int 401, .non, .bl true, .str "3", .ref q1, .int ((10 : Int) ^ (30 : Int).toNat), .ref q2]) (p := fun x => x ∈ [V.int 0, .int (-1), .int 401, .non, .bl true, .str "3", .ref q1, .int ((10 : Int) ^ (30 : Int).toNat), .ref q2]) (fun x hx => hx) j10 (by exact j11)
  refine ⟨q3, _, j1, od, rfl, rfl, SqL.of (K4.at (by repeat first | exact .head _ | apply List.Mem.tail)), hat1, ?_⟩
  -- at
  refine ⟨_, rfl, (by decide : 0 ≤ sizeLine), fun q4 m4 => ?_⟩
  have K5 := K4.new (o := .lst []) m4
  generalize upd H6 q4 _ = H7 at K5 ⊢
  refine ⟨_, rfl, _, rfl, a, ns, hh, rfl, K5.at (by repeat first | exact .head _ | apply List.Mem.tail), ho, h1, h2, ft, fun H8 s8 => ⟨(by decide : 6 ≤ sizeLine), fun q5 m5 => ?_⟩⟩
  have K6 := (K5.same s8).new (o := .lst [V.int (-1), .non, .bl true, .str "0", .ref q4, .int (waysF ns hh 0)]) m5
  generalize upd H8 q5 _ = H9 at K6 ⊢
  refine ⟨_, rfl, g, 6, _, rfl, K6.sv, by omega, by decide, by decide, fun j2 H10 j20 j21 b10 g10 => ?_⟩
  have K7 := K6.draw b10 g10
  obtain ⟨wa, hat2, hwa⟩ := atI_all (xs := [V.int (-1), .non, .bl true, .str "0", .ref q4, .int (waysF ns hh 0)]) (p := fun x => x ∈ [V.int (-1), .non, .bl true, .str "0", .ref q4, .int (waysF ns hh 0)]) (fun x hx => hx) j20 (by exact j21)
  refine ⟨q5, _, j2, wa, rfl, rfl, SqL.of (K7.at (by repeat first | exact .head _ | apply List.Mem.tail)), hat2, ?_⟩
  -- some
  have hp7 : H10 p1 = some (.lst (iv (nv (0 :: L)))) := K7.at (by repeat first | exact .head _ | apply List.Mem.tail)
  refine ⟨_, rfl, .inl ⟨p1, _, rfl, SqL.of hp7, fun q6 m6 => ?_⟩⟩
  have K8 := K7.new (o := .tup (iv (nv (0 :: L)))) m6
  generalize upd H10 q6 _ = H11 at K8 ⊢
  refine ⟨_, rfl, _, rfl, a, _, rfl, .inl (SqL.of (K8.at (by repeat first | exact .head _ | apply List.Mem.tail))), (by decide : 1 ≤ sizeLine), fun q7 m7 => ?_⟩
  have K9 := K8.new (o := .lst [V.int ((iv ns).length : Nat)]) m7
  generalize upd H11 q7 _ = H12 at K9 ⊢
  refine ⟨p1, q7, iv (nv (0 :: L)), _, rfl, rfl, SqL.of (K9.at (by repeat first | exact .head _ | apply List.Mem.tail)), SqL.of (K9.at (by repeat first | exact .head _ | apply List.Mem.tail)), Nat.le_of_lt (small_line (by rw [elR]; show L.length + 1 + 1 < 100000; omega)), fun q8 m8 => ?_⟩
  have K10 := K9.new (o := .lst (iv (nv (0 :: L)) ++ [V.int ((iv ns).length : Nat)])) m8
  generalize upd H12 q8 _ = H13 at K10 ⊢
  refine ⟨_, rfl, _, rfl, p1, _, rfl, SqL.of (K10.at (by repeat first | exact .head _ | apply List.Mem.tail)), fun q9 m9 => ?_⟩
  have ecut : cutV (iv (nv (0 :: L))) (some 1) none = iv (nv L) := by
    rw [cutV_iv, cutI_from _ (by decide)]
    rfl
  rw [ecut]
  have K11 := K10.new (o := .lst (iv (nv L))) m9
  generalize upd H13 q9 _ = H14 at K11 ⊢
  refine ⟨(by decide : 1 ≤ sizeLine), fun q10 m10 => ?_⟩
  have K12 := K11.new (o := .lst [V.bl true]) m10
  generalize upd H14 q10 _ = H15 at K12 ⊢
  refine ⟨_, rfl, p1, iv (nv (0 :: L)), 0, .int 0, rfl, rfl, SqL.of (K12.at (by repeat first | exact .head _ | apply List.Mem.tail)), (by rw [atI_iv (Int.le_refl 0) (by rw [nv, List.length_map, List.length_cons]; omega)]; rfl), 0, rfl, by decide, (by decide : 1 ≤ sizeLine), fun q11 m11 => ?_⟩
  have K13 := K12.new (o := .lst [V.str (Str.ofString (toString (0 : Int)))]) m11
  generalize upd H15 q11 _ = H16 at K13 ⊢
  refine ⟨(by decide : 7 ≤ sizeLine), fun q12 m12 => ?_⟩
  have K14 := K13.new (o := .lst [V.non, .ref q6, .ref q8, .ref q9, .str "0", .ref q10, .ref q11]) m12
  generalize upd H16 q12 _ = H17 at K14 ⊢
  refine ⟨_, rfl, _, rfl, g, 7, _, rfl, K14.sv, by omega, by decide, by decide, fun j3 H18 j30 j31 b18 g18 => ?_⟩
  have K15 := K14.draw b18 g18
  obtain ⟨ba, hat3, hba⟩ := atI_all (xs := [V.non, .ref q6, .ref q8, .ref q9, .str "0", .ref q10, .ref q11]) (p := fun x => x ∈ [V.non, .ref q6, .ref q8, .ref q9, .str "0", .ref q10, .ref q11]) (fun x hx => hx) j30 (by exact j31)
  refine ⟨q12, _, j3, ba, rfl, rfl, SqL.of (K15.at (by repeat first | exact .head _ | apply List.Mem.tail)), hat3, ?_⟩
  clear K0 K1 K2 K3 K4 K5 K6 K7 K8 K9 K10 K11 K12 K13 K14
  -- cases, rows
  refine ⟨(by decide : 0 ≤ sizeLine), fun q13 m13 => ?_⟩
  have hq13H : H q13 = none := b02.free (K15.sv.ne m13).symm (K15.sb.free (K15.sv.ne m13).symm m13)
  have K16 := K15.new (o := .lst []) m13
  generalize upd H18 q13 _ = H19 at K16 ⊢
  refine ⟨(by decide : 4 ≤ sizeLine), fun t1 n1 => ?_⟩
  have K17 := K16.new (o := .tup [V.int 0, .int 0, .int 0, .str ""]) n1
  generalize upd H19 t1 _ = H20 at K17 ⊢
  refine ⟨_, rfl, (by decide : 4 ≤ sizeLine), fun t2 n2 => ?_⟩
  have K18 := K17.new (o := .tup [V.int 1, .int 0, wa, .str "number"]) n2
  generalize upd H20 t2 _ = H21 at K18 ⊢
  refine ⟨_, rfl, _, rfl, (by decide : 4 ≤ sizeLine), fun t3 n3 => ?_⟩
  have K19 := K18.new (o := .tup [V.int 2, .ref p1, ba, .str "reading"]) n3
  generalize upd H21 t3 _ = H22 at K19 ⊢
  refine ⟨(by decide : 3 ≤ sizeLine), fun q14 m14 => ?_⟩
  have K20 := K19.new (o := .lst [V.ref t1, .ref t2, .ref t3]) m14
  generalize upd H22 q14 _ = H23 at K20 ⊢
  clear K15 K16 K17 K18 K19
  -- the facts
  have iO : ∀ v ∈ ns, v.natAbs < 10 ^ 40 := fun v hv => by
    obtain ⟨i, hi, e⟩ := List.getElem_of_mem hv
    have q1 := (okFrom_at hk hi).1
    have q2 := okFrom_le hk hi
    rw [List.getD_eq_getElem?_getD, List.getElem?_eq_getElem hi, e] at q1 q2
    have e2 : (some v).getD 0 = v := rfl
    rw [e2] at q1 q2
    omega
  have iR : ∀ v ∈ nv (0 :: L), v.natAbs < 10 ^ 40 := fun v hv => by
    obtain ⟨x, hx, rfl⟩ := List.mem_map.mp hv
    have lb := last_bd ho
    have : x ≤ 400 := by
      rcases List.mem_cons.mp hx with e | e
      · omega
      · have := path_last hk ft h1 pth x e
        omega
    omega
  have vI : ∀ {p : Addr} {ms : List Int}, H23 p = some (.lst (iv ms)) → p ≠ g → ms.length ≤ 300 → (∀ v ∈ ms, v.natAbs < 10 ^ 40) → Vc H23 g g (.ref p) (dI ms) := fun hp np l b => ⟨_, dx_dI hp, fun z => np (List.mem_singleton.mp z).symm, fun z => np (List.mem_singleton.mp z).symm, (fit_list (fit40s b) (by rw [List.length_map]; exact l)).mono (by decide) (by decide)⟩
  have fz : ∀ {d : PyData}, Fits 0 50 d → Fits 3 30000 d := fun h => h.mono (by decide) (by decide)
  have Vm : Vc H23 g g (.ref a) (dI ns) := vI (K20.at (by repeat first | exact .head _ | apply List.Mem.tail)) nag (by omega) iO
  have Vr : Vc H23 g g (.ref p1) (dI (nv (0 :: L))) := vI (K20.at (by repeat first | exact .head _ | apply List.Mem.tail)) np1g (by rw [nv, List.length_map, List.length_cons]; omega) iR
  obtain ⟨dw, Vw, wO⟩ : ∃ d, Vc H23 g g wr d ∧ isOD d = false := by
    obtain ⟨d, as, x1, x2, x3, x4⟩ := ww.but K20.sb
    exact ⟨d, ⟨as, x1, x4, x4, x3⟩, x2⟩
  obtain ⟨dod, Vo, oH⟩ : ∃ d, Vc H23 g g od d ∧ inD d 1 400 = false := by
    simp only [List.mem_cons, List.not_mem_nil, or_false] at hod
    rcases hod with rfl | rfl | rfl | rfl | rfl | rfl | rfl | rfl | rfl
    · exact ⟨_, Vc.int (by decide), rfl⟩
    · exact ⟨_, Vc.int (by decide), rfl⟩
    · exact ⟨_, Vc.int (by decide), rfl⟩
    · exact ⟨_, ⟨_, .non, List.not_mem_nil, List.not_mem_nil, fz fitN⟩, rfl⟩
    · exact ⟨_, ⟨_, .bl _, List.not_mem_nil, List.not_mem_nil, fz (fitB _)⟩, rfl⟩
    · exact ⟨_, ⟨_, .str _, List.not_mem_nil, List.not_mem_nil, ⟨rfl, by decide, by decide +kernel⟩⟩, rfl⟩
    · exact ⟨_, vI (ms := [3]) (K20.at (by repeat first | exact .head _ | apply List.Mem.tail)) (K20.ne (p := q1) (o := .lst [.int 3]) (by repeat first | exact .head _ | apply List.Mem.tail)) (by decide) (fun v hv => by rw [List.mem_singleton.mp hv]; decide), rfl⟩
    · exact ⟨_, Vc.int (by rw [pwR30]; decide), by rw [pwR30]; rfl⟩
    · refine ⟨_, ⟨_, .tup (K20.at (p := q2) (o := .tup (iv [1])) (by repeat first | exact .head _ | apply List.Mem.tail)) (dx_ints [1]), fun z => ?_, fun z => ?_, ⟨rfl, by decide, by decide +kernel⟩⟩, rfl⟩
      · exact K20.ne (p := q2) (o := .tup [.int 1]) (by repeat first | exact .head _ | apply List.Mem.tail) (List.mem_singleton.mp z).symm
      · exact K20.ne (p := q2) (o := .tup [.int 1]) (by repeat first | exact .head _ | apply List.Mem.tail) (List.mem_singleton.mp z).symm
  obtain ⟨dat, Va, aN⟩ : ∃ d, Vc H23 g g wa d ∧ inD d 0 (waysF ns hh 0 - 1) = false := by
    simp only [List.mem_cons, List.not_mem_nil, or_false] at hwa
    have wp := ways_gt ns hh 0
    rcases hwa with rfl | rfl | rfl | rfl | rfl | rfl
    · exact ⟨_, Vc.int (by decide), rfl⟩
    · exact ⟨_, ⟨_, .non, List.not_mem_nil, List.not_mem_nil, fz fitN⟩, rfl⟩
    · exact ⟨_, ⟨_, .bl _, List.not_mem_nil, List.not_mem_nil, fz (fitB _)⟩, rfl⟩
    · exact ⟨_, ⟨_, .str _, List.not_mem_nil, List.not_mem_nil, ⟨rfl, by decide, by decide +kernel⟩⟩, rfl⟩
    · exact ⟨_, vI (ms := []) (K20.at (by repeat first | exact .head _ | apply List.Mem.tail)) (K20.ne (p := q4) (o := .lst []) (by repeat first | exact .head _ | apply List.Mem.tail)) (by decide) (fun v hv => (List.not_mem_nil hv).elim), rfl⟩
    · refine ⟨_, ⟨_, .int _, List.not_mem_nil, List.not_mem_nil, (ways_fit ho ft h1).mono (by decide) (by decide)⟩, ?_⟩
      show (decide (0 ≤ waysF ns hh 0) && decide (waysF ns hh 0 ≤ waysF ns hh 0 - 1)) = false
      rw [decide_eq_false (p := waysF ns hh 0 ≤ waysF ns hh 0 - 1) (by omega), Bool.and_false]
  obtain ⟨dba, Vb, bR⟩ : ∃ d, Vc H23 g g ba d ∧ ¬ ∃ L', d = dI (nv (0 :: L')) ∧ Path ns hh 0 L' := by
    simp only [List.mem_cons, List.not_mem_nil, or_false] at hba
    rcases hba with rfl | rfl | rfl | rfl | rfl | rfl | rfl
    · exact ⟨_, ⟨_, .non, List.not_mem_nil, List.not_mem_nil, fz fitN⟩, fun ⟨_, e, _⟩ => nomatch e⟩
    · refine ⟨_, ⟨_, .tup (K20.at (p := q6) (o := .tup (iv (nv (0 :: L)))) (by repeat first | exact .head _ | apply List.Mem.tail)) (dx_ints _), fun z => ?_, fun z => ?_, (fit_tup (n := 0) (L := 50) (m := 300) (fit40s iR) (by rw [List.length_map, nv, List.length_map, List.length_cons]; omega)).mono (by decide) (by decide)⟩, fun ⟨_, e, _⟩ => nomatch e⟩
      · exact K20.ne (p := q6) (o := .tup (iv (nv (0 :: L)))) (by repeat first | exact .head _ | apply List.Mem.tail) (List.mem_singleton.mp z).symm
      · exact K20.ne (p := q6) (o := .tup (iv (nv (0 :: L)))) (by repeat first | exact .head _ | apply List.Mem.tail) (List.mem_singleton.mp z).symm
    · have h8 := K20.at (p := q8) (o := .lst (iv (nv (0 :: L)) ++ [V.int ((iv ns).length : Nat)])) (by repeat first | exact .head _ | apply List.Mem.tail)
      replace h8 : H23 q8 = some (.lst (iv (nv (0 :: L) ++ [(ns.length : Int)]))) := by rw [h8, eln, iv_snoc]
      have ll : (nv (0 :: L) ++ [(ns.length : Int)]).length = L.length + 2 := by rw [List.length_append, nv, List.length_map, List.length_cons]; rfl
      refine ⟨_, vI h8 (K20.ne (p := q8) (o := .lst (iv (nv (0 :: L)) ++ [V.int ((iv ns).length : Nat)])) (by repeat first | exact .head _ | apply List.Mem.tail)) (by omega) (fun v hv => ?_), not_short pth (by omega)⟩
      rcases List.mem_append.mp hv with hv | hv
      · exact iR v hv
      · rw [List.mem_singleton.mp hv]; omega
    · exact ⟨_, vI (ms := nv L) (K20.at (by repeat first | exact .head _ | apply List.Mem.tail)) (K20.ne (p := q9) (o := .lst (iv (nv L))) (by repeat first | exact .head _ | apply List.Mem.tail)) (by rw [nv, List.length_map]; omega) (fun v hv => iR v (by obtain ⟨x, hx, e⟩ := List.mem_map.mp hv; exact List.mem_map.mpr ⟨x, List.mem_cons_of_mem _ hx, e⟩)), not_short pth (by rw [nv, List.length_map]; omega)⟩
    · exact ⟨_, ⟨_, .str _, List.not_mem_nil, List.not_mem_nil, ⟨rfl, by decide, by decide +kernel⟩⟩, fun ⟨_, e, _⟩ => nomatch e⟩
    · refine ⟨_, ⟨_, .lst (K20.at (p := q10) (o := .lst [V.bl true]) (by repeat first | exact .head _ | apply List.Mem.tail)) (.cons (.bl true) .nil), fun z => ?_, fun z => ?_, ⟨rfl, by decide, by decide +kernel⟩⟩, fun ⟨_, e, _⟩ => ?_⟩
      · exact K20.ne (p := q10) (o := .lst [V.bl true]) (by repeat first | exact .head _ | apply List.Mem.tail) (List.mem_singleton.mp z).symm
      · exact K20.ne (p := q10) (o := .lst [V.bl true]) (by repeat first | exact .head _ | apply List.Mem.tail) (List.mem_singleton.mp z).symm
      · injection e with e
        cases e
    · refine ⟨_, ⟨_, .lst (K20.at (p := q11) (o := .lst [V.str (Str.ofString (toString (0 : Int)))]) (by repeat first | exact .head _ | apply List.Mem.tail)) (.cons (.str _) .nil), fun z => ?_, fun z => ?_, ⟨rfl, by decide, by decide +kernel⟩⟩, fun ⟨_, e, _⟩ => ?_⟩
      · exact K20.ne (p := q11) (o := .lst [V.str (Str.ofString (toString (0 : Int)))]) (by repeat first | exact .head _ | apply List.Mem.tail) (List.mem_singleton.mp z).symm
      · exact K20.ne (p := q11) (o := .lst [V.str (Str.ofString (toString (0 : Int)))]) (by repeat first | exact .head _ | apply List.Mem.tail) (List.mem_singleton.mp z).symm
      · injection e with e
        cases e
  have base3 : ∀ {n : Int} {d3 : PyData} {wd : Str}, Due3 n ns hh d3 wd → Due n (dI ns) (.int hh) d3 wd := fun d => .inr (.inr ⟨ns, hh, rfl, ho, rfl, h1, h2, .inr ⟨ft, d⟩⟩)
  have rows : ∀ x ∈ [V.ref t1, .ref t2, .ref t3], RowG H23 g ns hh x := fun x hx => by
    simp only [List.mem_cons, List.not_mem_nil, or_false] at hx
    have wp := ways_gt ns hh 0
    rcases hx with rfl | rfl | rfl
    · exact ⟨t1, 0, .int 0, .int 0, _, _, _, rfl, K20.at (by repeat first | exact .head _ | apply List.Mem.tail), K20.ne (p := t1) (o := .tup [V.int 0, .int 0, .int 0, .str ""]) (by repeat first | exact .head _ | apply List.Mem.tail), by decide, by decide, Vc.int (by decide), Vc.int (by decide), ⟨rfl, by decide, by decide +kernel⟩, base3 (.inl ⟨rfl, rfl⟩), fun z => absurd z (by decide)⟩
    · exact ⟨t2, 1, .int 0, wa, _, _, _, rfl, K20.at (by repeat first | exact .head _ | apply List.Mem.tail), K20.ne (p := t2) (o := .tup [V.int 1, .int 0, wa, .str "number"]) (by repeat first | exact .head _ | apply List.Mem.tail), by decide, by decide, Vc.int (by decide), Va, ⟨rfl, by decide, by decide +kernel⟩, base3 (.inr (.inl ⟨rfl, .inl ⟨0, rfl, Int.le_refl _, wp, rfl⟩⟩)), fun _ => base3 (.inr (.inl ⟨rfl, .inr ⟨aN, rfl⟩⟩))⟩
    · exact ⟨t3, 2, .ref p1, ba, _, _, _, rfl, K20.at (by repeat first | exact .head _ | apply List.Mem.tail), K20.ne (p := t3) (o := .tup [V.int 2, .ref p1, ba, .str "reading"]) (by repeat first | exact .head _ | apply List.Mem.tail), by decide, by decide, Vr, Vb, ⟨rfl, by decide, by decide +kernel⟩, base3 (.inr (.inr ⟨rfl, .inl ⟨L, rfl, pth, rfl⟩⟩)), fun _ => base3 (.inr (.inr ⟨rfl, .inr ⟨bR, rfl⟩⟩))⟩
  have hq14 : H23 q14 = some (.lst [V.ref t1, .ref t2, .ref t3]) := K20.at (by repeat first | exact .head _ | apply List.Mem.tail)
  have nq14 : q14 ≠ g := K20.ne (p := q14) (o := .lst [V.ref t1, .ref t2, .ref t3]) (by repeat first | exact .head _ | apply List.Mem.tail)
  have hq13 : H23 q13 = some (.lst []) := K20.at (by repeat first | exact .head _ | apply List.Mem.tail)
  have nq13 : q13 ≠ g := K20.ne (p := q13) (o := .lst []) (by repeat first | exact .head _ | apply List.Mem.tail)
  have sv23 := K20.sv
  have b23 := b02.trans K20.sb
  have ha23 : H23 a = some (.lst (iv ns)) := b23 _ _ ha nag
  have gH : ∀ {x : Addr}, H x = none → x ≠ g := fun hx z => by obtain ⟨_, _, _, e, _⟩ := hg; rw [← z, hx] at e; cases e
  have rlen : [V.ref t1, .ref t2, .ref t3].length ≤ 3 := Nat.le_refl _
  generalize [V.ref t1, .ref t2, .ref t3] = RL at rows hq14 rlen ⊢
  clear K20 hod hwa hba hat1 hat2 hat3 vI
  -- the loop
  refine ⟨q14, rfl, ⟨_, SqL.of hq14⟩, for_list (K := K) (a := q14) (xs := RL) (fun i σ H24 => ∃ (cs : Addr) (xs : List V) (v10 v11 v12 v13 v14 v15 : Option V), σ = [some (.ref g), some (.ref a), some (.int hh), some (.ref p1), some wr, some od, some wa, some (.ref q12), some ba, some (.ref cs), v10, v11, v12, v13, v14, v15, none] ∧ SameBut g H23 H24 ∧ SrcV (B + 1500 + 10 * (i : Nat)) H24 g ∧ H cs = none ∧ H24 cs = some (.lst xs) ∧ xs.length ≤ 5 * i ∧ CL H24 g g xs)
    ⟨q13, [], _, _, _, _, _, _, rfl, SameBut.refl, sv23.mono (by omega), hq13H, hq13, Nat.zero_le _, fun x hx => by cases hx⟩ (fun _ σ H24 _ e => by obtain ⟨_, _, _, _, _, _, _, _, _, b, _⟩ := e; exact SqL.of (b _ _ hq14 nq14)) ?_ ?_⟩
  rotate_left
  · rintro σ H24 ⟨cs, xs, v10, v11, v12, v13, v14, v15, rfl, b24, sv24, hcsH, hcs, lx, cl⟩
    refine ⟨_, rfl, k cs xs H24 hcsH (b23.trans b24) (sv24.mono ?_) hcs ?_ cl⟩
    · have : RL.length ≤ 3 := rlen
      omega
    · have : RL.length ≤ 3 := rlen
      omega
  rintro i x σ Hs hx ⟨cs, xs, v10, v11, v12, v13, v14, v15, rfl, b24, sv24, hcsH, hcs, lx, cl⟩
  have il : i < 3 := by have := (List.getElem?_eq_some_iff.mp hx).1; have : RL.length ≤ 3 := rlen; omega
  obtain ⟨t, n, y1, y2, d1, d2, wd, rfl, ht, ntg, n0, n2, V1, V2, fw, due1, due2⟩ := (rows x (List.mem_of_getElem? hx)).but b24
  have ncs : cs ≠ g := gH hcsH
  have Vm := Vm.ap (.but b24)
  have Vw := Vw.ap (.but b24)
  have Vo := Vo.ap (.but b24)
  have haS : Hs a = some (.lst (iv ns)) := b24 _ _ ha23 nag
  refine ⟨t, _, rfl, SqT.of ht, rfl, _, _, rfl, _, _, rfl, _, _, rfl, _, _, rfl, rfl, ?_⟩
  -- two cases
  have K0 := (Kn.start sv24).hold hcs ncs
  refine ⟨_, rfl, _, rfl, _, rfl, _, rfl, _, rfl, (by decide : 5 ≤ sizeLine), fun c1 n1 => ?_⟩
  have K1 := K0.new (o := .tup [V.int n, .ref a, .int hh, y1, .str "none"]) n1
  generalize upd Hs c1 _ = H25 at K1 ⊢
  refine ⟨_, rfl, _, rfl, _, rfl, _, rfl, (by decide : 5 ≤ sizeLine), fun c2 n2' => ?_⟩
  have K2 := K1.new (o := .tup [V.int n, .ref a, od, y2, .str "height"]) n2'
  generalize upd H25 c2 _ = H26 at K2 ⊢
  refine ⟨(by decide : 2 ≤ sizeLine), fun u1 m1 => ?_⟩
  have K3 := K2.new (o := .lst [V.ref c1, .ref c2]) m1
  generalize upd H26 u1 _ = H27 at K3 ⊢
  refine ⟨cs, u1, xs, _, rfl, rfl, SqL.of (K3.at (by repeat first | exact .head _ | apply List.Mem.tail)), SqL.of (K3.at (by repeat first | exact .head _ | apply List.Mem.tail)), Nat.le_of_lt (small_line (by show xs.length + 2 < 100000; omega)), fun u2 m2 => ?_⟩
  have K4 := K3.new (o := .lst (xs ++ [V.ref c1, .ref c2])) m2
  generalize upd H27 u2 _ = H28 at K4 ⊢
  -- one more
  refine ⟨_, rfl, _, rfl, _, rfl, _, rfl, _, rfl, (by decide : 2 ≤ sizeLine), fun u3 m3 => ?_⟩
  have K5 := K4.new (o := .lst [V.int hh, od]) m3
  generalize upd H28 u3 _ = H29 at K5 ⊢
  refine ⟨_, rfl, g, 2, _, rfl, K5.sv, by omega, by decide, by decide, fun j H30 j0 j1 b30 g30 => ?_⟩
  have K6 := K5.draw b30 g30
  obtain ⟨yo, hat, hyo⟩ := atI_all (xs := [V.int hh, od]) (p := fun x => x ∈ [V.int hh, od]) (fun x hx => hx) j0 (by exact j1)
  refine ⟨u3, _, j, yo, rfl, rfl, SqL.of (K6.at (by repeat first | exact .head _ | apply List.Mem.tail)), hat, _, rfl, (by decide : 5 ≤ sizeLine), fun c3 n3 => ?_⟩
  have K7 := K6.new (o := .tup [V.int n, wr, yo, y2, .str "outline"]) n3
  generalize upd H30 c3 _ = H31 at K7 ⊢
  refine ⟨(by decide : 1 ≤ sizeLine), fun u4 m4 => ?_⟩
  have K8 := K7.new (o := .lst [V.ref c3]) m4
  generalize upd H31 u4 _ = H32 at K8 ⊢
  refine ⟨u2, u4, xs ++ [V.ref c1, .ref c2], _, rfl, rfl, SqL.of (K8.at (by repeat first | exact .head _ | apply List.Mem.tail)), SqL.of (K8.at (by repeat first | exact .head _ | apply List.Mem.tail)), Nat.le_of_lt (small_line (by rw [List.length_append]; show xs.length + 2 + 1 < 100000; omega)), fun u5 m5 => ?_⟩
  have bS := K8.sb
  have hu5H : H u5 = none := (b23.trans (b24.trans bS)).free (K8.sv.ne m5).symm m5
  have nu5 : u5 ≠ g := (K8.sv.ne m5).symm
  have Vm8 := Vm.ap (.but bS)
  have V28 := V2.ap (.but bS)
  have V18 := V1.ap (.but bS)
  have Vo8 := Vo.ap (.but bS)
  have Vw8 := Vw.ap (.but bS)
  have fin400 : hh.natAbs < 10 ^ 40 := by omega
  obtain ⟨dyo, Vy8⟩ : ∃ d, Vc H32 g g yo d := by
    rcases List.mem_cons.mp hyo with rfl | h
    · exact ⟨_, Vc.int fin400⟩
    · rw [List.mem_singleton.mp h]; exact ⟨_, Vo8⟩
  have cl8 : CL H32 g g (xs ++ [V.ref c1, .ref c2] ++ [V.ref c3]) := by
    refine CL.app (CL.app (cl.ap (.but bS)) fun x hx => ?_) (CL.one ?_)
    · rcases List.mem_cons.mp hx with rfl | hx
      · exact CaseC.new (K8.at (by repeat first | exact .head _ | apply List.Mem.tail)) (K8.ne (p := c1) (o := .tup [V.int n, .ref a, .int hh, y1, .str "none"]) (by repeat first | exact .head _ | apply List.Mem.tail)) (K8.ne (p := c1) (o := .tup [V.int n, .ref a, .int hh, y1, .str "none"]) (by repeat first | exact .head _ | apply List.Mem.tail)) n0 n2 Vm8 (Vc.int fin400) V18 ⟨rfl, by decide, by decide +kernel⟩ due1
      · rw [List.mem_singleton.mp hx]
        exact CaseC.new (K8.at (by repeat first | exact .head _ | apply List.Mem.tail)) (K8.ne (p := c2) (o := .tup [V.int n, .ref a, od, y2, .str "height"]) (by repeat first | exact .head _ | apply List.Mem.tail)) (K8.ne (p := c2) (o := .tup [V.int n, .ref a, od, y2, .str "height"]) (by repeat first | exact .head _ | apply List.Mem.tail)) n0 n2 Vm8 Vo8 V28 ⟨rfl, by decide, by decide +kernel⟩ (.inr (.inl ⟨by rw [isOD_dI]; exact ho, oH, rfl⟩))
    · exact CaseC.new (K8.at (by repeat first | exact .head _ | apply List.Mem.tail)) (K8.ne (p := c3) (o := .tup [V.int n, wr, yo, y2, .str "outline"]) (by repeat first | exact .head _ | apply List.Mem.tail)) (K8.ne (p := c3) (o := .tup [V.int n, wr, yo, y2, .str "outline"]) (by repeat first | exact .head _ | apply List.Mem.tail)) n0 n2 Vw8 Vy8 V28 ⟨rfl, by decide, by decide +kernel⟩ (.inl ⟨wO, rfl⟩)
  have clF := (cl8.fresh m5).ap (Apart2.of (Same.new (o := .lst (xs ++ [V.ref c1, .ref c2] ++ [V.ref c3])) m5))
  have VmF := (Vm8.fresh m5).ap (Apart2.of (Same.new (o := .lst (xs ++ [V.ref c1, .ref c2] ++ [V.ref c3])) m5))
  have V2F := (V28.fresh m5).ap (Apart2.of (Same.new (o := .lst (xs ++ [V.ref c1, .ref c2] ++ [V.ref c3])) m5))
  have svF := K8.sv.new (o := .lst (xs ++ [V.ref c1, .ref c2] ++ [V.ref c3])) m5
  have haF := Same.new (o := .lst (xs ++ [V.ref c1, .ref c2] ++ [V.ref c3])) m5 _ _ (bS _ _ haS nag)
  have hu5 := upd_same (H := H32) (a := u5) (o := .lst (xs ++ [V.ref c1, .ref c2] ++ [V.ref c3]))
  have nau : a ≠ u5 := ne_of_none (bS _ _ haS nag) m5
  have back : ∀ {H' : Hp}, Apart2 g u5 (upd H32 u5 (.lst (xs ++ [V.ref c1, .ref c2] ++ [V.ref c3]))) H' → SameBut g H23 H' := fun ap b o e nb => by
    have e1 := bS _ _ (b24 _ _ e nb) nb
    have nbu : b ≠ u5 := ne_of_none e1 m5
    exact ap _ _ (by rw [upd_ne nbu]; exact e1) nb nbu
  have ly : (xs ++ [V.ref c1, .ref c2] ++ [V.ref c3]).length = xs.length + 3 := by rw [List.length_append, List.length_append]; rfl
  generalize xs ++ [V.ref c1, .ref c2] ++ [V.ref c3] = ys at clF VmF V2F svF haF hu5 back ly ⊢
  generalize upd H32 u5 (.lst ys) = H33 at clF VmF V2F svF haF hu5 back ⊢
  clear K0 K1 K2 K3 K4 K5 K6 K7 K8 cl8 Vm8 V28 V18 Vo8 Vw8 Vy8 bS g30 b30
  refine ⟨_, rfl, _, _, rfl, rfl, _, rfl, ite_cut (fun σ H34 => ∃ zs : List V, σ = [some (.ref g), some (.ref a), some (.int hh), some (.ref p1), some wr, some od, some wa, some (.ref q12), some ba, some (.ref u5), some (.int n), some y1, some y2, some (.str wd), v14, v15, none] ∧ H34 u5 = some (.lst zs) ∧ zs.length ≤ xs.length + 4 ∧ CL H34 g u5 zs ∧ Apart2 g u5 H33 H34 ∧ SrcV (B + 1500 + 10 * (i : Nat) + 1) H34 g) ?_ ?_ ?_⟩
  rotate_left
  · intro c fin
    have c1 : 0 < n := by have := of_decide_eq_true c; omega
    refine ⟨_, rfl, .inl ⟨rfl, _, SqL.of hu5⟩, _, rfl, _, rfl, _, rfl, _, rfl, _, rfl, (by decide : 5 ≤ sizeLine), fun c4 n4 => ?_⟩
    have y4 := Same.new (o := .tup [V.int n, .ref a, .int hh, y2, .str wd]) n4
    have h4 := upd_same (H := H33) (a := c4) (o := .tup [V.int n, .ref a, .int hh, y2, .str wd])
    have n4u : c4 ≠ u5 := (ne_of_none hu5 n4).symm
    have n4g : c4 ≠ g := (svF.ne n4).symm
    have sv4 := svF.new (o := .tup [V.int n, .ref a, .int hh, y2, .str wd]) n4
    generalize upd H33 c4 _ = H34 at y4 h4 sv4 ⊢
    have ap : Apart2 g u5 H33 (upd H34 u5 (.lst (ys ++ [V.ref c4]))) := (Apart2.of y4).trans Apart2.at
    refine ⟨u5, _, _, rfl, rfl, y4 _ _ hu5, small_line (by omega), fin _ _ ⟨ys ++ [V.ref c4], rfl, upd_same, by rw [List.length_append]; show ys.length + 1 ≤ _; omega, (clF.ap ap).app (CL.one ?_), ap, sv4.upd nu5.symm⟩⟩
    exact CaseC.new (by rw [upd_ne n4u]; exact h4) n4g n4u n0 n2 (VmF.ap ap) (Vc.int fin400) (V2F.ap ap) fw (due2 c1)
  · exact fun _ => ⟨ys, rfl, hu5, by omega, clF, fun _ _ e _ _ => e, svF⟩
  rintro σ H34 ⟨zs, rfl, hz, lz, clz, ap, svz⟩
  have haz := ap _ _ haF nag nau
  refine ⟨_, rfl, a, ns, rfl, SqL.of haz, l1, fun mx mm mb => ⟨_, _, rfl, rfl, _, rfl, ite2 (fun c => ?_) (fun c => ?_)⟩⟩
  · have c1 : 0 < mx := by have := of_decide_eq_true c; omega
    have mxl : mx ≤ 200 := by
      obtain ⟨z, hzz, e⟩ := List.getElem_of_mem mm
      have q := okFrom_le hk hzz
      rw [List.getD_eq_getElem?_getD, List.getElem?_eq_getElem hzz, e] at q
      have e2 : (some mx).getD 0 = mx := rfl
      rw [e2] at q
      omega
    refine ⟨_, rfl, _, rfl, a, ns, rfl, SqL.of haz, l1, fun mx' mm' mb' => ?_⟩
    obtain rfl : mx = mx' := Int.le_antisymm (mb' _ mm) (mb _ mm')
    refine ⟨g, mx, _, rfl, svz, by omega, c1, by omega, fun lo H35 lo0 lo1 b35 g35 => ⟨_, _, rfl, rfl, ?_⟩⟩
    have haz5 := b35 _ _ haz nag
    have hz5 := b35 _ _ hz nu5
    obtain ⟨dj, hdj⟩ : ∃ j, DeepAt ns (1 + lo) 0 j := by
      rcases deep_or ns (1 + lo) ns.length 0 (by omega) with f | d
      · obtain ⟨z, hzz, e⟩ := List.getElem_of_mem mm
        have := f z (Nat.zero_le _) hzz
        rw [List.getD_eq_getElem?_getD, List.getElem?_eq_getElem hzz, e] at this
        have e2 : (some mx).getD 0 = mx := rfl
        rw [e2] at this
        omega
      · exact d
    refine ⟨_, rfl, a, _, rfl, .inl (SqL.of haz5), _, rfl, by omega, by omega, fun D hD => lcRn (lo := 0) (n := (((iv ns).length : Nat) : Int).toNat) (fun z => decide (1 + lo ≤ ns.getD z 0)) (fun z => V.int (z : Nat)) hD (by omega) (fun x => rfl) (fun z H Q' hz' s qq => ?_) (fun z H Q' hz' _ s qq => ⟨_, rfl, by rw [Int.zero_add]; exact qq _ (Same.refl _)⟩) (fun H36 s36 h36 => ?_)⟩
    · refine ⟨_, rfl, _, rfl, a, iv ns, _, _, rfl, rfl, SqL.of (s _ _ haz5), atI_iv (by omega) (by omega), _, rfl, _, _, rfl, rfl, _, rfl, ?_⟩
      rw [show ((0 : Int) + (z : Nat)).toNat = z by omega]
      exact qq _ (Same.refl _)
    have hd0 : (gives (((iv ns).length : Nat) : Int).toNat (fun z => decide (1 + lo ≤ ns.getD z 0)) fun z => V.int (z : Nat))[0]? = some (.int (dj : Nat)) := by
      unfold gives
      rw [Int.toNat_natCast, eln, List.getElem?_map, filt_head hdj]
      rfl
    generalize gives (((iv ns).length : Nat) : Int).toNat (fun z => decide (1 + lo ≤ ns.getD z 0)) (fun z => V.int (z : Nat)) = GL at h36 hd0
    refine ⟨D, GL, 0, _, rfl, rfl, SqL.of h36, atI_nat hd0, ?_⟩
    have hz6 := s36 _ _ hz5
    have djl : dj < 200 := by have := hdj.2.1; omega
    refine ⟨_, rfl, .inl ⟨rfl, _, SqL.of hz6⟩, _, rfl, _, rfl, _, rfl, _, rfl, _, rfl, (dj : Nat), rfl, Nat.lt_of_le_of_lt (Nat.log2_le_self _) (show dj < 1920 by omega), _, _, rfl, rfl, deep_fit ⟨dj, djl⟩, (by decide : 5 ≤ sizeLine), fun c5 n5 => ?_⟩
    have n5u : c5 ≠ u5 := (ne_of_none hz6 n5).symm
    have n5g : c5 ≠ g := ((g35.same s36).ne n5).symm
    have sv5 := (g35.same s36).new (o := .tup [V.int n, .ref a, .int (1 + lo), y2, .str (deepT dj)]) n5
    have y5 := Same.new (o := .tup [V.int n, .ref a, .int (1 + lo), y2, .str (deepT dj)]) n5
    have h5 := upd_same (H := H36) (a := c5) (o := .tup [V.int n, .ref a, .int (1 + lo), y2, .str (deepT dj)])
    have ap2 : Apart2 g u5 H33 (upd (upd H36 c5 (.tup [V.int n, .ref a, .int (1 + lo), y2, .str (deepT dj)])) u5 (.lst (zs ++ [V.ref c5]))) := (((ap.trans (Apart2.but b35)).trans (Apart2.of s36)).trans (Apart2.of y5)).trans Apart2.at
    have ap3 : Apart2 g u5 H34 (upd (upd H36 c5 (.tup [V.int n, .ref a, .int (1 + lo), y2, .str (deepT dj)])) u5 (.lst (zs ++ [V.ref c5]))) := (((Apart2.but b35).trans (Apart2.of s36)).trans (Apart2.of y5)).trans Apart2.at
    refine ⟨u5, _, _, rfl, rfl, y5 _ _ hz6, small_line (by omega), u5, zs ++ [V.ref c5], _, _, _, _, _, _, rfl, back ap2, (sv5.upd nu5.symm).mono (by omega), hu5H, upd_same, by rw [List.length_append]; show zs.length + 1 ≤ _; omega, CL.forget ((clz.ap ap3).app (CL.one ?_))⟩
    exact CaseC.new (by rw [upd_ne n5u]; exact h5) n5g n5u n0 n2 (VmF.ap ap2) (Vc.int (by omega)) (V2F.ap ap2) ⟨rfl, Nat.zero_le _, deep_fits ⟨dj, djl⟩⟩ (.inr (.inr ⟨ns, 1 + lo, rfl, ho, rfl, by omega, by omega, .inl ⟨dj, hdj, rfl⟩⟩))
  · exact ⟨u5, zs, _, _, _, _, _, _, rfl, back ap, svz.mono (by omega), hu5H, hz, by omega, clz.forget⟩
end
end SH

namespace SH
open PySem PySem.Spec PyProof.Rows L2
abbrev s_law : Stmt := topS 58
abbrev N_law : List Str := ["script", "k", "source", "turn", "made", "tall", "cases", "kept", "door", "one", "two", "three", "word"]
abbrev P_law : List Str := ["script"]
theorem sc_law : FnScope N_law P_law (defScope s_law) := ⟨rfl, rfl, rfl, by decide +kernel, rfl, by decide +kernel, by decide +kernel⟩
theorem CaseC.dx {H : Hp} {g cs : Addr} {x : V} : CaseC H g cs x → ∃ d as, Dx H x d as ∧ Fits 4 150100 d
  | ⟨t, n, x1, x2, x3, d1, d2, d3, wd, e, h, _, _, n0, n2, ⟨a1, h1, _, _, f1⟩, ⟨a2, h2, _, _, f2⟩, ⟨a3, h3, _, _, f3⟩, f, _⟩ => by
    subst e
    refine ⟨_, _, .tup h (.cons (.int n) (.cons h1 (.cons h2 (.cons h3 (.cons (.str wd) .nil))))), (fit_tup (n := 3) (L := 30000) (m := 5) (fun d hd => ?_) (Nat.le_refl _)).mono (by decide) (by decide)⟩
    simp only [List.mem_cons, List.not_mem_nil, or_false] at hd
    rcases hd with rfl | rfl | rfl | rfl | rfl
    · exact (fit40 (by omega)).mono (by decide) (by decide)
    · exact f1
    · exact f2
    · exact f3
    · exact f.mono (by decide) (by decide)
theorem CL.dx {H : Hp} {g cs : Addr} : ∀ {xs : List V}, CL H g cs xs → ∃ ds as, DxAll H xs ds as ∧ ∀ d ∈ ds, Fits 4 150100 d
  | [], _ => ⟨[], _, .nil, fun d hd => by cases hd⟩
  | x :: r, h => by
    obtain ⟨d, as, h1, f1⟩ := (h x List.mem_cons_self).dx
    obtain ⟨ds, bs, h2, f2⟩ := CL.dx (xs := r) fun y hy => h y (List.mem_cons_of_mem _ hy)
    refine ⟨d :: ds, _, .cons h1 h2, fun z hz => ?_⟩
    rcases List.mem_cons.mp hz with rfl | hz
    · exact f1
    · exact f2 z hz
section
variable {P : Program} {w : World} {K : PySem.W.Frag} {mg : Str → Option Value} {base : Heap}
def sp_law (K : PySem.W.Frag) : Sp := fun vs H Q _ => ∃ (a : Addr) (ns : List Int), vs = [.ref a] ∧ SqL K H a (iv ns) ∧ ns.length ≤ 63 ∧ ∀ H', Q (.bl true) H'
theorem ok_law (T : Txt mg) (h : At K mg "law" s_law)
    (g_law_open_source : Has P w K mg base CX0 1 "_law_open_source" s_law_open_source P_law_open_source (sp_law_open_source K))
    (g_law_draw : Has P w K mg base CX0 1 "_law_draw" s_law_draw P_law_draw sp_law_draw)
    (g_law_made : Has P w K mg base CX0 2 "_law_made" s_law_made P_law_made (sp_law_made K))
    (g_law_height : Has P w K mg base CX0 2 "_law_height" s_law_height P_law_height (sp_law_height K))
    (g_law_cases : Has P w K mg base CX0 7 "_law_cases" s_law_cases P_law_cases sp_law_cases)
    (g_law_error : Has P w K mg base CX0 7 "_law_error" s_law_error P_law_error sp_error) :
    Has P w K mg base CX0 8 "law" s_law P_law (sp_law K) := by
  refine Has.of h sc_law (fun vs H Q E h => ?_) (fun _ _ _ _ _ _ us hl => match us, hl with | [_], _ => rfl) (fun f cdv A outer s H vs Q E room qt h => ?_)
  · obtain ⟨a, ns, rfl, _⟩ := h; rfl
  obtain ⟨a, cs, rfl, ha, hl, k⟩ := h
  refine ⟨_, (pss_cons (ps_for PassesOwn.never rfl (pi_range1 (by rfl) T.range (pa_cons (pe_callB (call_max2 rfl) (by rfl) T.max (by decide +kernel) (pa_cons pe_int (pa_cons (pe_callB (call_min2 rfl) (by rfl) T.min (by decide +kernel) (pa_cons pe_int (pa_cons (pe_callB call_len_seq (by rfl) T.len (by decide +kernel) (pa_cons (pv 0) pa_nil)) pa_nil))) pa_nil))) pa_nil)) (pg_name (i := 1) sc_law.nd rfl (Or.inl rfl) (hf := Or.inl rfl))
        (pss_cons (ps_set (i := 2) sc_law.nd rfl (Or.inl rfl) (pe_has g_law_open_source (room.mono (by decide)) qt (by rfl) pass0 (pa_cons (pv 0) (pa_cons (pv 1) pa_nil))))
        (pss_one (ps_for PassesOwn.never rfl (pi_range1 (by rfl) T.range (pa_cons pe_int pa_nil)) (pg_name (i := 3) sc_law.nd rfl (Or.inl rfl) (hf := Or.inl rfl))
          (pss_cons (ps_set (i := 4) sc_law.nd rfl (Or.inl rfl) (pe_has g_law_made (room.mono (by decide)) qt (by rfl) pass0 (pa_cons (pv 2) (pa_cons (pv 0) (pa_cons (pe_ix ix_list (pe_lst (pa_cons pe_int (pa_cons pe_int pa_nil))) (pe_callTy call_int1 (by rfl) T.tint (by decide +kernel) (pa_cons (pe_cmpR op_eq (pv 3) pe_int (nomark _)) pa_nil)) (fun _ _ => rfl)) (pa_cons (pe_ix ix_list (pe_lst (pa_cons pe_int (pa_cons pe_int (pa_cons pe_int pa_nil)))) (pe_has g_law_draw (room.mono (by decide)) qt (by rfl) pass0 (pa_cons (pv 2) (pa_cons pe_int pa_nil))) (fun _ _ => rfl)) pa_nil))))))
          (pss_cons (ps_set (i := 5) sc_law.nd rfl (Or.inl rfl) (pe_has g_law_height (room.mono (by decide)) qt (by rfl) pass0 (pa_cons (pv 2) (pa_cons (pv 4) pa_nil))))
          (pss_cons (ps_set (i := 6) sc_law.nd rfl (Or.inl rfl) (pe_has g_law_cases (room.mono (by decide)) qt (by rfl) pass0 (pa_cons (pv 2) (pa_cons (pv 4) (pa_cons (pv 5) pa_nil)))))
          (pss_cons (ps_set (i := 7) sc_law.nd rfl (Or.inl rfl) (pe_callB (call_reprY qt room.units) (by rfl) T.repr (by decide +kernel) (pa_cons (pv 6) pa_nil)))
          (pss_cons (ps_for PassesOwn.never rfl (pi_list (pv 6)) (pg_tup rfl (pgs_cons (pg_name (i := 8) sc_law.nd rfl (Or.inl rfl) (hf := Or.inl rfl)) (pgs_cons (pg_name (i := 9) sc_law.nd rfl (Or.inl rfl) (hf := Or.inl rfl)) (pgs_cons (pg_name (i := 10) sc_law.nd rfl (Or.inl rfl) (hf := Or.inl rfl)) (pgs_cons (pg_name (i := 11) sc_law.nd rfl (Or.inl rfl) (hf := Or.inl rfl)) (pgs_cons (pg_name (i := 12) sc_law.nd rfl (Or.inl rfl) (hf := Or.inl rfl)) pgs_nil))))))
            (pss_one (ps_if (pt_cmpR op_ne (pe_has g_law_error (room.mono (by decide)) qt (by rfl) pass0 (pa_cons (pv 8) (pa_cons (pv 9) (pa_cons (pv 10) (pa_cons (pv 11) pa_nil))))) (pv 12) (nomark _))
              (pss_one (ps_ret pe_bl))
              pss_nil)))
          (pss_one (ps_if (pt_cmpR op_ne (pe_callB (call_reprY qt room.units) (by rfl) T.repr (by decide +kernel) (pa_cons (pv 6) pa_nil)) (pv 7) (nomark _))
            (pss_one (ps_ret pe_bl))
            pss_nil)))))))))))
      (pss_one (ps_ret pe_bl))), ?_⟩
  have el : (iv cs).length = cs.length := List.length_map _
  refine ⟨_, rfl, a, _, rfl, .inl ha, _, _, rfl, _, _, rfl, ?_⟩
  generalize eN : (if (if ((iv cs).length : Int) < 5 then ((iv cs).length : Int) else 5) > 1 then (if ((iv cs).length : Int) < 5 then ((iv cs).length : Int) else 5) else 1) = N
  have N1 : 0 ≤ N ∧ N ≤ 5 := by rw [← eN]; split <;> split <;> omega
  refine ⟨_, rfl, by omega, by omega, for_range (lo := 0) (n := N.toNat) (fun i σ H1 => (∃ v1 v2 v3 v4 v5 v6 v7 v8 v9 v10 v11 v12, σ = [some (.ref a), v1, v2, v3, v4, v5, v6, v7, v8, v9, v10, v11, v12]) ∧ Same H H1)
    ⟨⟨_, _, _, _, _, _, _, _, _, _, _, _, rfl⟩, Same.refl H⟩ ?_ (fun σ H1 _ => k H1)⟩
  rintro i σ H1 hi ⟨⟨v1, v2, v3, v4, v5, v6, v7, v8, v9, v10, v11, v12, rfl⟩, s1⟩
  refine ⟨_, rfl, _, rfl, a, _, cs, rfl, s1.seq ha, by omega, fun g H2 hg s2 g2 => ?_⟩
  have s02 := s1.trans s2
  have hgH : H g = none := s1.free hg
  refine ⟨5, rfl, by decide, by decide, for_range (lo := 0) (n := 5) (fun t σ H3 => (∃ v3 v4 v5 v6 v7 v8 v9 v10 v11 v12, σ = [some (.ref a), some (.int (0 + (i : Nat))), some (.ref g), v3, v4, v5, v6, v7, v8, v9, v10, v11, v12]) ∧ SameBut g H2 H3 ∧ SrcV (5000 * (t : Nat)) H3 g)
    ⟨⟨_, _, _, _, _, _, _, _, _, _, rfl⟩, SameBut.refl, g2.mono (by omega)⟩ ?_ (fun σ H3 e => by obtain ⟨⟨_, _, _, _, _, _, _, _, _, _, rfl⟩, b, _⟩ := e; exact ⟨⟨_, _, _, _, _, _, _, _, _, _, _, _, rfl⟩, Same.but s02 hgH b⟩)⟩
  rintro t σ H3 ht ⟨⟨v3, v4, v5, v6, v7, v8, v9, v10, v11, v12, rfl⟩, b3, g3⟩
  -- made
  refine ⟨_, rfl, _, rfl, (by decide : 2 ≤ sizeLine), fun q1 nq1 => ⟨_, rfl, rfl, .inr ⟨_, rfl, ?_⟩⟩⟩
  have K1 := (Kn.start g3).new (o := .lst [V.int 60, .int 200]) nq1
  generalize upd H3 q1 _ = H4 at K1 ⊢
  obtain ⟨y, ey, y0, y1⟩ : ∃ y : Nat, (if decide (V.int (0 + (t : Int)) = V.int 0) = true then (1 : Int) else 0) = (y : Int) ∧ 0 ≤ y ∧ y ≤ 1 := by
    split
    · exact ⟨1, rfl, by decide, by decide⟩
    · exact ⟨0, rfl, by decide, by decide⟩
  rw [ey]
  obtain ⟨mo, hmo, mo0, mo1⟩ : ∃ mo : Int, atI [V.int 60, .int 200] (y : Int) = some (.int mo) ∧ 1 ≤ mo ∧ mo ≤ 200 := by
    rcases (show y = 0 ∨ y = 1 by omega) with rfl | rfl
    · exact ⟨60, rfl, by decide, by decide⟩
    · exact ⟨200, rfl, by decide, by decide⟩
  refine ⟨q1, _, _, _, rfl, rfl, SqL.of (K1.at (by repeat first | exact .head _ | apply List.Mem.tail)), hmo, (by decide : 3 ≤ sizeLine), fun q2 nq2 => ?_⟩
  have K2 := K1.new (o := .lst [V.int 3, .int 12, .int 199]) nq2
  generalize upd H4 q2 _ = H5 at K2 ⊢
  refine ⟨_, rfl, g, 3, _, rfl, K2.sv, by omega, by decide, by decide, fun j H6 j0 j1 b6 g6 => ?_⟩
  have K3 := K2.draw b6 g6
  obtain ⟨dp, hdp, dp0⟩ : ∃ dp : Int, atI [V.int 3, .int 12, .int 199] j = some (.int dp) ∧ 0 ≤ dp := by
    rcases (show j = 0 ∨ j = 1 ∨ j = 2 by omega) with rfl | rfl | rfl
    · exact ⟨3, rfl, by decide⟩
    · exact ⟨12, rfl, by decide⟩
    · exact ⟨199, rfl, by decide⟩
  have sa : ∀ {H' : Hp}, SameBut g H3 H' → SqL K H' a (iv cs) := fun b => (Same.but s02 hgH (b3.trans b)).seq ha
  refine ⟨q2, _, _, _, rfl, rfl, SqL.of (K3.at (by repeat first | exact .head _ | apply List.Mem.tail)), hdp, g, a, cs, mo, dp, _, rfl, K3.sv, by omega, sa K3.sb, fun H' b => sa (K3.sb.trans b), mo0, mo1, dp0, fun ns p H7 ho nl nd np b7 g7 h7 => ?_⟩
  have npg := (K3.sv.ne np).symm
  have b37 := K3.sb.trans b7
  obtain ⟨l1, l2, hk⟩ := isO_iff.mp ho
  obtain ⟨mx, hmx⟩ := max_ex l1
  have mb := hmx.lt ho
  -- tall
  refine ⟨_, rfl, _, rfl, g, p, ns, _, mx, rfl, g7, by omega, h7, npg, ho, hmx, fun hh H8 r0 r1 b8 g8 => ?_⟩
  have h8 := b8 _ _ h7 npg
  have ft := hmx.fit (show mx < hh by omega) 0
  have hh1 : 1 ≤ hh := by omega
  refine ⟨_, rfl, _, rfl, _, rfl, g, p, ns, hh, _, rfl, g8, by omega, npg, h8, ho, hh1, r1, ft, fun r xs H9 nr b9 g9 h9 lx cl => ?_⟩
  -- kept
  obtain ⟨ds, as, dx, fd⟩ := cl.dx
  have dl : Dx H9 (.ref r) (.list ds) (r :: as) := .lst h9 dx
  have fl : Fits 50 16000000 (.list ds) := (fit_list (m := 30) fd (by have := dx.len; omega)).mono (by decide) (by decide)
  refine ⟨_, rfl, .ref r, .list ds, _, rfl, dl, fl, ?_⟩
  refine ⟨_, rfl, r, rfl, ⟨_, SqL.of h9⟩, for_list (K := K) (a := r) (xs := xs) (fun _ σ H10 => (∃ v8 v9 v10 v11 v12, σ = [some (.ref a), some (.int (0 + (i : Nat))), some (.ref g), some (.int (0 + (t : Nat))), some (.ref p), some (.int hh), some (.ref r), some (.str (PyData.list ds).shown), v8, v9, v10, v11, v12]) ∧ Same H9 H10)
    ⟨⟨_, _, _, _, _, rfl⟩, Same.refl _⟩ (fun _ σ H10 _ e => SqL.of (e.2 _ _ h9)) ?_ ?_⟩
  · rintro u x σ H10 hx ⟨⟨v8, v9, v10, v11, v12, rfl⟩, s10⟩
    obtain ⟨tt, n, x1, x2, x3, d1, d2, d3, wd, rfl, h, _, _, n0, n2, ⟨a1, f1, _⟩, ⟨a2, f2, _⟩, ⟨a3, f3, _⟩, _, due⟩ := (cl x (List.mem_of_getElem? hx)).ap (Apart2.of s10)
    refine ⟨tt, _, rfl, SqT.of h, rfl, _, _, rfl, _, _, rfl, _, _, rfl, _, _, rfl, _, _, rfl, rfl, ?_⟩
    refine ⟨_, rfl, _, rfl, _, rfl, _, rfl, n, x1, x2, x3, d1, d2, d3, a1, a2, a3, wd, rfl, n0, n2, f1, f2, f3, due, fun H11 s11 => ⟨_, rfl, rfl, _, rfl, iteFb (by rw [decide_eq_true rfl]; rfl) ⟨⟨_, _, _, _, _, rfl⟩, s10.trans s11⟩⟩⟩
  · rintro σ H10 ⟨⟨v8, v9, v10, v11, v12, rfl⟩, s10⟩
    refine ⟨_, rfl, .ref r, .list ds, _, rfl, dl.same s10, fl, _, rfl, rfl, _, rfl, iteFb (by rw [decide_eq_true rfl]; rfl) ⟨⟨_, _, _, _, _, _, _, _, _, _, rfl⟩, b3.trans (((b37.trans b8).trans b9).trans (.of s10)), (g9.same s10).mono (by omega)⟩⟩
end
end SH

namespace SH
open PySem PySem.Spec PyProof.Rows L2
/-! ### the end -/
theorem all_mk {l : PySem.W.OpenLaw} {w : World} {K : PySem.W.Frag} {h : Heap} {mg : Str → Option Value} {fa : Addr} (X : K.In h) (G : h.Ns mainGlobals mg) (hfa : mg "law" = some (.ref fa))
    {f0 f1 f2 f3 f4 f5 f6 f7 f8 f9 f10 f11 f12 f13 f14 f15 f16 f17 f18 f19 f20 f21 f22 f23 f24 f25 f26 f27 f28 f29 f30 : Addr} {od0 an0 od1 an1 od2 an2 od3 an3 od4 an4 od5 an5 od6 an6 od7 an7 od8 an8 od9 an9 od10 an10 od11 an11 od12 an12 od13 an13 od14 an14 od15 an15 od16 an16 od17 an17 od18 an18 od19 an19 od20 an20 od21 an21 od22 an22 od23 an23 od24 an24 od25 an25 od26 an26 od27 an27 od28 an28 od29 an29 od30 an30 : Option Addr} {sl0 sl1 sl2 sl3 sl4 sl5 sl6 sl7 sl8 sl9 sl10 sl11 sl12 sl13 sl14 sl15 sl16 sl17 sl18 sl19 sl20 sl21 sl22 sl23 sl24 sl25 sl26 sl27 sl28 sl29 sl30 : Array (Option Value)}
    {oc0 kV0 dc0 pm0 cd0 ct0 oc1 kV1 dc1 pm1 cd1 ct1 oc2 kV2 dc2 pm2 cd2 ct2 oc3 kV3 dc3 pm3 cd3 ct3 oc4 kV4 dc4 pm4 cd4 ct4 oc5 kV5 dc5 pm5 cd5 ct5 oc6 kV6 dc6 pm6 cd6 ct6 oc7 kV7 dc7 pm7 cd7 ct7 oc8 kV8 dc8 pm8 cd8 ct8 oc9 kV9 dc9 pm9 cd9 ct9 oc10 kV10 dc10 pm10 cd10 ct10 oc11 kV11 dc11 pm11 cd11 ct11 oc12 kV12 dc12 pm12 cd12 ct12 oc13 kV13 dc13 pm13 cd13 ct13 oc14 kV14 dc14 pm14 cd14 ct14 oc15 kV15 dc15 pm15 cd15 ct15 oc16 kV16 dc16 pm16 cd16 ct16 oc17 kV17 dc17 pm17 cd17 ct17 oc18 kV18 dc18 pm18 cd18 ct18 oc19 kV19 dc19 pm19 cd19 ct19 oc20 kV20 dc20 pm20 cd20 ct20 oc21 kV21 dc21 pm21 cd21 ct21 oc22 kV22 dc22 pm22 cd22 ct22 oc23 kV23 dc23 pm23 cd23 ct23 oc24 kV24 dc24 pm24 cd24 ct24 oc25 kV25 dc25 pm25 cd25 ct25 oc26 kV26 dc26 pm26 cd26 ct26 oc27 kV27 dc27 pm27 cd27 ct27 oc28 kV28 dc28 pm28 cd28 ct28 oc29 kV29 dc29 pm29 cd29 ct29 oc30 kV30 dc30 pm30 cd30 ct30 : Value} {t_MOST_LINES t_MOST_ROWS : Tok}
    (a0 : PySem.W.nsIn K mainGlobals "is_integer_from" = some (some (.ref f0)))
    (l0 : K.lookup f0 = some ⟨oc0, od0, .func (PySem.W.fnOf "is_integer_from" "is_integer_from" (defArgs s_is_integer_from) (defBody s_is_integer_from) (defScope s_is_integer_from) .none kV0 dc0 pm0 an0 cd0 ct0), sl0⟩)
    (c0 : PySem.W.codeIn K cd0 "is_integer_from" = true) (k0 : PySem.W.keepIn K (.ref f0) = true)
    (a1 : PySem.W.nsIn K mainGlobals "is_integer_within" = some (some (.ref f1)))
    (l1 : K.lookup f1 = some ⟨oc1, od1, .func (PySem.W.fnOf "is_integer_within" "is_integer_within" (defArgs s_is_integer_within) (defBody s_is_integer_within) (defScope s_is_integer_within) .none kV1 dc1 pm1 an1 cd1 ct1), sl1⟩)
    (c1 : PySem.W.codeIn K cd1 "is_integer_within" = true) (k1 : PySem.W.keepIn K (.ref f1) = true)
    (a2 : PySem.W.nsIn K mainGlobals "is_outline" = some (some (.ref f2)))
    (l2 : K.lookup f2 = some ⟨oc2, od2, .func (PySem.W.fnOf "is_outline" "is_outline" (defArgs s_is_outline) (defBody s_is_outline) (defScope s_is_outline) .none kV2 dc2 pm2 an2 cd2 ct2), sl2⟩)
    (c2 : PySem.W.codeIn K cd2 "is_outline" = true) (k2 : PySem.W.keepIn K (.ref f2) = true)
    (a3 : PySem.W.nsIn K mainGlobals "check_outline" = some (some (.ref f3)))
    (l3 : K.lookup f3 = some ⟨oc3, od3, .func (PySem.W.fnOf "check_outline" "check_outline" (defArgs s_check_outline) (defBody s_check_outline) (defScope s_check_outline) .none kV3 dc3 pm3 an3 cd3 ct3), sl3⟩)
    (c3 : PySem.W.codeIn K cd3 "check_outline" = true) (k3 : PySem.W.keepIn K (.ref f3) = true)
    (a4 : PySem.W.nsIn K mainGlobals "check_number" = some (some (.ref f4)))
    (l4 : K.lookup f4 = some ⟨oc4, od4, .func (PySem.W.fnOf "check_number" "check_number" (defArgs s_check_number) (defBody s_check_number) (defScope s_check_number) .none kV4 dc4 pm4 an4 cd4 ct4), sl4⟩)
    (c4 : PySem.W.codeIn K cd4 "check_number" = true) (k4 : PySem.W.keepIn K (.ref f4) = true)
    (a5 : PySem.W.nsIn K mainGlobals "stop_of" = some (some (.ref f5)))
    (l5 : K.lookup f5 = some ⟨oc5, od5, .func (PySem.W.fnOf "stop_of" "stop_of" (defArgs s_stop_of) (defBody s_stop_of) (defScope s_stop_of) .none kV5 dc5 pm5 an5 cd5 ct5), sl5⟩)
    (c5 : PySem.W.codeIn K cd5 "stop_of" = true) (k5 : PySem.W.keepIn K (.ref f5) = true)
    (a6 : PySem.W.nsIn K mainGlobals "check_height" = some (some (.ref f6)))
    (l6 : K.lookup f6 = some ⟨oc6, od6, .func (PySem.W.fnOf "check_height" "check_height" (defArgs s_check_height) (defBody s_check_height) (defScope s_check_height) .none kV6 dc6 pm6 an6 cd6 ct6), sl6⟩)
    (c6 : PySem.W.codeIn K cd6 "check_height" = true) (k6 : PySem.W.keepIn K (.ref f6) = true)
    (a7 : PySem.W.nsIn K mainGlobals "check_depths" = some (some (.ref f7)))
    (l7 : K.lookup f7 = some ⟨oc7, od7, .func (PySem.W.fnOf "check_depths" "check_depths" (defArgs s_check_depths) (defBody s_check_depths) (defScope s_check_depths) .none kV7 dc7 pm7 an7 cd7 ct7), sl7⟩)
    (c7 : PySem.W.codeIn K cd7 "check_depths" = true) (k7 : PySem.W.keepIn K (.ref f7) = true)
    (a8 : PySem.W.nsIn K mainGlobals "check_all_shown" = some (some (.ref f8)))
    (l8 : K.lookup f8 = some ⟨oc8, od8, .func (PySem.W.fnOf "check_all_shown" "check_all_shown" (defArgs s_check_all_shown) (defBody s_check_all_shown) (defScope s_check_all_shown) .none kV8 dc8 pm8 an8 cd8 ct8), sl8⟩)
    (c8 : PySem.W.codeIn K cd8 "check_all_shown" = true) (k8 : PySem.W.keepIn K (.ref f8) = true)
    (a9 : PySem.W.nsIn K mainGlobals "scrolls_for_span" = some (some (.ref f9)))
    (l9 : K.lookup f9 = some ⟨oc9, od9, .func (PySem.W.fnOf "scrolls_for_span" "scrolls_for_span" (defArgs s_scrolls_for_span) (defBody s_scrolls_for_span) (defScope s_scrolls_for_span) .none kV9 dc9 pm9 an9 cd9 ct9), sl9⟩)
    (c9 : PySem.W.codeIn K cd9 "scrolls_for_span" = true) (k9 : PySem.W.keepIn K (.ref f9) = true)
    (a10 : PySem.W.nsIn K mainGlobals "greatest_scroll" = some (some (.ref f10)))
    (l10 : K.lookup f10 = some ⟨oc10, od10, .func (PySem.W.fnOf "greatest_scroll" "greatest_scroll" (defArgs s_greatest_scroll) (defBody s_greatest_scroll) (defScope s_greatest_scroll) .none kV10 dc10 pm10 an10 cd10 ct10), sl10⟩)
    (c10 : PySem.W.codeIn K cd10 "greatest_scroll" = true) (k10 : PySem.W.keepIn K (.ref f10) = true)
    (a11 : PySem.W.nsIn K mainGlobals "is_ascending_list" = some (some (.ref f11)))
    (l11 : K.lookup f11 = some ⟨oc11, od11, .func (PySem.W.fnOf "is_ascending_list" "is_ascending_list" (defArgs s_is_ascending_list) (defBody s_is_ascending_list) (defScope s_is_ascending_list) .none kV11 dc11 pm11 an11 cd11 ct11), sl11⟩)
    (c11 : PySem.W.codeIn K cd11 "is_ascending_list" = true) (k11 : PySem.W.keepIn K (.ref f11) = true)
    (a12 : PySem.W.nsIn K mainGlobals "is_shown_by" = some (some (.ref f12)))
    (l12 : K.lookup f12 = some ⟨oc12, od12, .func (PySem.W.fnOf "is_shown_by" "is_shown_by" (defArgs s_is_shown_by) (defBody s_is_shown_by) (defScope s_is_shown_by) .none kV12 dc12 pm12 an12 cd12 ct12), sl12⟩)
    (c12 : PySem.W.codeIn K cd12 "is_shown_by" = true) (k12 : PySem.W.keepIn K (.ref f12) = true)
    (a13 : PySem.W.nsIn K mainGlobals "is_reading" = some (some (.ref f13)))
    (l13 : K.lookup f13 = some ⟨oc13, od13, .func (PySem.W.fnOf "is_reading" "is_reading" (defArgs s_is_reading) (defBody s_is_reading) (defScope s_is_reading) .none kV13 dc13 pm13 an13 cd13 ct13), sl13⟩)
    (c13 : PySem.W.codeIn K cd13 "is_reading" = true) (k13 : PySem.W.keepIn K (.ref f13) = true)
    (a14 : PySem.W.nsIn K mainGlobals "count_views_left" = some (some (.ref f14)))
    (l14 : K.lookup f14 = some ⟨oc14, od14, .func (PySem.W.fnOf "count_views_left" "count_views_left" (defArgs s_count_views_left) (defBody s_count_views_left) (defScope s_count_views_left) .none kV14 dc14 pm14 an14 cd14 ct14), sl14⟩)
    (c14 : PySem.W.codeIn K cd14 "count_views_left" = true) (k14 : PySem.W.keepIn K (.ref f14) = true)
    (a15 : PySem.W.nsIn K mainGlobals "followers" = some (some (.ref f15)))
    (l15 : K.lookup f15 = some ⟨oc15, od15, .func (PySem.W.fnOf "followers" "followers" (defArgs s_followers) (defBody s_followers) (defScope s_followers) .none kV15 dc15 pm15 an15 cd15 ct15), sl15⟩)
    (c15 : PySem.W.codeIn K cd15 "followers" = true) (k15 : PySem.W.keepIn K (.ref f15) = true)
    (a16 : PySem.W.nsIn K mainGlobals "count_ways" = some (some (.ref f16)))
    (l16 : K.lookup f16 = some ⟨oc16, od16, .func (PySem.W.fnOf "count_ways" "count_ways" (defArgs s_count_ways) (defBody s_count_ways) (defScope s_count_ways) .none kV16 dc16 pm16 an16 cd16 ct16), sl16⟩)
    (c16 : PySem.W.codeIn K cd16 "count_ways" = true) (k16 : PySem.W.keepIn K (.ref f16) = true)
    (a17 : PySem.W.nsIn K mainGlobals "count_shortest" = some (some (.ref f17)))
    (l17 : K.lookup f17 = some ⟨oc17, od17, .func (PySem.W.fnOf "count_shortest" "count_shortest" (defArgs s_count_shortest) (defBody s_count_shortest) (defScope s_count_shortest) .none kV17 dc17 pm17 an17 cd17 ct17), sl17⟩)
    (c17 : PySem.W.codeIn K cd17 "count_shortest" = true) (k17 : PySem.W.keepIn K (.ref f17) = true)
    (a18 : PySem.W.nsIn K mainGlobals "nth_shortest" = some (some (.ref f18)))
    (l18 : K.lookup f18 = some ⟨oc18, od18, .func (PySem.W.fnOf "nth_shortest" "nth_shortest" (defArgs s_nth_shortest) (defBody s_nth_shortest) (defScope s_nth_shortest) .none kV18 dc18 pm18 an18 cd18 ct18), sl18⟩)
    (c18 : PySem.W.codeIn K cd18 "nth_shortest" = true) (k18 : PySem.W.keepIn K (.ref f18) = true)
    (a19 : PySem.W.nsIn K mainGlobals "rank_shortest" = some (some (.ref f19)))
    (l19 : K.lookup f19 = some ⟨oc19, od19, .func (PySem.W.fnOf "rank_shortest" "rank_shortest" (defArgs s_rank_shortest) (defBody s_rank_shortest) (defScope s_rank_shortest) .none kV19 dc19 pm19 an19 cd19 ct19), sl19⟩)
    (c19 : PySem.W.codeIn K cd19 "rank_shortest" = true) (k19 : PySem.W.keepIn K (.ref f19) = true)
    (a20 : PySem.W.nsIn K mainGlobals "_law_open_source" = some (some (.ref f20)))
    (l20 : K.lookup f20 = some ⟨oc20, od20, .func (PySem.W.fnOf "_law_open_source" "_law_open_source" (defArgs s_law_open_source) (defBody s_law_open_source) (defScope s_law_open_source) .none kV20 dc20 pm20 an20 cd20 ct20), sl20⟩)
    (c20 : PySem.W.codeIn K cd20 "_law_open_source" = true) (k20 : PySem.W.keepIn K (.ref f20) = true)
    (a21 : PySem.W.nsIn K mainGlobals "_law_draw" = some (some (.ref f21)))
    (l21 : K.lookup f21 = some ⟨oc21, od21, .func (PySem.W.fnOf "_law_draw" "_law_draw" (defArgs s_law_draw) (defBody s_law_draw) (defScope s_law_draw) .none kV21 dc21 pm21 an21 cd21 ct21), sl21⟩)
    (c21 : PySem.W.codeIn K cd21 "_law_draw" = true) (k21 : PySem.W.keepIn K (.ref f21) = true)
    (a22 : PySem.W.nsIn K mainGlobals "_law_made" = some (some (.ref f22)))
    (l22 : K.lookup f22 = some ⟨oc22, od22, .func (PySem.W.fnOf "_law_made" "_law_made" (defArgs s_law_made) (defBody s_law_made) (defScope s_law_made) .none kV22 dc22 pm22 an22 cd22 ct22), sl22⟩)
    (c22 : PySem.W.codeIn K cd22 "_law_made" = true) (k22 : PySem.W.keepIn K (.ref f22) = true)
    (a23 : PySem.W.nsIn K mainGlobals "_law_height" = some (some (.ref f23)))
    (l23 : K.lookup f23 = some ⟨oc23, od23, .func (PySem.W.fnOf "_law_height" "_law_height" (defArgs s_law_height) (defBody s_law_height) (defScope s_law_height) .none kV23 dc23 pm23 an23 cd23 ct23), sl23⟩)
    (c23 : PySem.W.codeIn K cd23 "_law_height" = true) (k23 : PySem.W.keepIn K (.ref f23) = true)
    (a24 : PySem.W.nsIn K mainGlobals "_law_pages" = some (some (.ref f24)))
    (l24 : K.lookup f24 = some ⟨oc24, od24, .func (PySem.W.fnOf "_law_pages" "_law_pages" (defArgs s_law_pages) (defBody s_law_pages) (defScope s_law_pages) .none kV24 dc24 pm24 an24 cd24 ct24), sl24⟩)
    (c24 : PySem.W.codeIn K cd24 "_law_pages" = true) (k24 : PySem.W.keepIn K (.ref f24) = true)
    (a25 : PySem.W.nsIn K mainGlobals "_law_drawn" = some (some (.ref f25)))
    (l25 : K.lookup f25 = some ⟨oc25, od25, .func (PySem.W.fnOf "_law_drawn" "_law_drawn" (defArgs s_law_drawn) (defBody s_law_drawn) (defScope s_law_drawn) .none kV25 dc25 pm25 an25 cd25 ct25), sl25⟩)
    (c25 : PySem.W.codeIn K cd25 "_law_drawn" = true) (k25 : PySem.W.keepIn K (.ref f25) = true)
    (a26 : PySem.W.nsIn K mainGlobals "_law_kind" = some (some (.ref f26)))
    (l26 : K.lookup f26 = some ⟨oc26, od26, .func (PySem.W.fnOf "_law_kind" "_law_kind" (defArgs s_law_kind) (defBody s_law_kind) (defScope s_law_kind) .none kV26 dc26 pm26 an26 cd26 ct26), sl26⟩)
    (c26 : PySem.W.codeIn K cd26 "_law_kind" = true) (k26 : PySem.W.keepIn K (.ref f26) = true)
    (a27 : PySem.W.nsIn K mainGlobals "_law_error" = some (some (.ref f27)))
    (l27 : K.lookup f27 = some ⟨oc27, od27, .func (PySem.W.fnOf "_law_error" "_law_error" (defArgs s_law_error) (defBody s_law_error) (defScope s_law_error) .none kV27 dc27 pm27 an27 cd27 ct27), sl27⟩)
    (c27 : PySem.W.codeIn K cd27 "_law_error" = true) (k27 : PySem.W.keepIn K (.ref f27) = true)
    (a28 : PySem.W.nsIn K mainGlobals "_law_bad_made" = some (some (.ref f28)))
    (l28 : K.lookup f28 = some ⟨oc28, od28, .func (PySem.W.fnOf "_law_bad_made" "_law_bad_made" (defArgs s_law_bad_made) (defBody s_law_bad_made) (defScope s_law_bad_made) .none kV28 dc28 pm28 an28 cd28 ct28), sl28⟩)
    (c28 : PySem.W.codeIn K cd28 "_law_bad_made" = true) (k28 : PySem.W.keepIn K (.ref f28) = true)
    (a29 : PySem.W.nsIn K mainGlobals "_law_cases" = some (some (.ref f29)))
    (l29 : K.lookup f29 = some ⟨oc29, od29, .func (PySem.W.fnOf "_law_cases" "_law_cases" (defArgs s_law_cases) (defBody s_law_cases) (defScope s_law_cases) .none kV29 dc29 pm29 an29 cd29 ct29), sl29⟩)
    (c29 : PySem.W.codeIn K cd29 "_law_cases" = true) (k29 : PySem.W.keepIn K (.ref f29) = true)
    (a30 : PySem.W.nsIn K mainGlobals "law" = some (some (.ref f30)))
    (l30 : K.lookup f30 = some ⟨oc30, od30, .func (PySem.W.fnOf "law" "law" (defArgs s_law) (defBody s_law) (defScope s_law) .none kV30 dc30 pm30 an30 cd30 ct30), sl30⟩)
    (c30 : PySem.W.codeIn K cd30 "law" = true) (k30 : PySem.W.keepIn K (.ref f30) = true)
    (z_len : PySem.W.nsIn K mainGlobals "len" = some none)
    (z_range : PySem.W.nsIn K mainGlobals "range" = some none)
    (z_repr : PySem.W.nsIn K mainGlobals "repr" = some none)
    (z_min : PySem.W.nsIn K mainGlobals "min" = some none)
    (z_max : PySem.W.nsIn K mainGlobals "max" = some none)
    (z_int : PySem.W.nsIn K mainGlobals "int" = some none)
    (z_list : PySem.W.nsIn K mainGlobals "list" = some none)
    (z_type : PySem.W.nsIn K mainGlobals "type" = some none)
    (z_bool : PySem.W.nsIn K mainGlobals "bool" = some none)
    (z_tuple : PySem.W.nsIn K mainGlobals "tuple" = some none)
    (z_isinstance : PySem.W.nsIn K mainGlobals "isinstance" = some none)
    (z_enumerate : PySem.W.nsIn K mainGlobals "enumerate" = some none)
    (z_str : PySem.W.nsIn K mainGlobals "str" = some none)
    (z_zip : PySem.W.nsIn K mainGlobals "zip" = some none)
    (z_all : PySem.W.nsIn K mainGlobals "all" = some none)
    (z_any : PySem.W.nsIn K mainGlobals "any" = some none)
    (z_sum : PySem.W.nsIn K mainGlobals "sum" = some none)
    (z_abs : PySem.W.nsIn K mainGlobals "abs" = some none)
    (z_sorted : PySem.W.nsIn K mainGlobals "sorted" = some none)
    (z_set : PySem.W.nsIn K mainGlobals "set" = some none)
    (z_dict : PySem.W.nsIn K mainGlobals "dict" = some none)
    (z_reversed : PySem.W.nsIn K mainGlobals "reversed" = some none)
    (z_divmod : PySem.W.nsIn K mainGlobals "divmod" = some none)
    (m_MOST_LINES : PySem.W.nsIn K mainGlobals "MOST_LINES" = some (some (.int 200 t_MOST_LINES)))
    (m_MOST_ROWS : PySem.W.nsIn K mainGlobals "MOST_ROWS" = some (some (.int 400 t_MOST_ROWS)))
    {C_TooDeepError : Addr} (ea_TooDeepError : PySem.W.nsIn K mainGlobals "TooDeepError" = some (some (.ref C_TooDeepError)))
    {C_InvalidLineError : Addr} (ea_InvalidLineError : PySem.W.nsIn K mainGlobals "InvalidLineError" = some (some (.ref C_InvalidLineError)))
    {C_InvalidScrollError : Addr} (ea_InvalidScrollError : PySem.W.nsIn K mainGlobals "InvalidScrollError" = some (some (.ref C_InvalidScrollError)))
    {C_InvalidFoldsError : Addr} (ea_InvalidFoldsError : PySem.W.nsIn K mainGlobals "InvalidFoldsError" = some (some (.ref C_InvalidFoldsError)))
    {C_InvalidDocumentError : Addr} (ea_InvalidDocumentError : PySem.W.nsIn K mainGlobals "InvalidDocumentError" = some (some (.ref C_InvalidDocumentError)))
    {C_InvalidTitleError : Addr} (ea_InvalidTitleError : PySem.W.nsIn K mainGlobals "InvalidTitleError" = some (some (.ref C_InvalidTitleError)))
    {C_InvalidDepthError : Addr} (ea_InvalidDepthError : PySem.W.nsIn K mainGlobals "InvalidDepthError" = some (some (.ref C_InvalidDepthError)))
    {C_InvalidTextError : Addr} (ea_InvalidTextError : PySem.W.nsIn K mainGlobals "InvalidTextError" = some (some (.ref C_InvalidTextError)))
    {C_HiddenLineError : Addr} (ea_HiddenLineError : PySem.W.nsIn K mainGlobals "HiddenLineError" = some (some (.ref C_HiddenLineError)))
    {C_EndError : Addr} (ea_EndError : PySem.W.nsIn K mainGlobals "EndError" = some (some (.ref C_EndError)))
    {C_TooManyLinesError : Addr} (ea_TooManyLinesError : PySem.W.nsIn K mainGlobals "TooManyLinesError" = some (some (.ref C_TooManyLinesError)))
    {C_EmptyOutlineError : Addr} (ea_EmptyOutlineError : PySem.W.nsIn K mainGlobals "EmptyOutlineError" = some (some (.ref C_EmptyOutlineError)))
    {C_EmptyHistoryError : Addr} (ea_EmptyHistoryError : PySem.W.nsIn K mainGlobals "EmptyHistoryError" = some (some (.ref C_EmptyHistoryError)))
    {C_InvalidObservationsError : Addr} (ea_InvalidObservationsError : PySem.W.nsIn K mainGlobals "InvalidObservationsError" = some (some (.ref C_InvalidObservationsError)))
    (zn_super : PySem.W.nsIn K mainGlobals "super" = some none)
    (zn_ValueError : PySem.W.nsIn K mainGlobals "ValueError" = some none)
    {C_InvalidOutlineError : Addr} (ea_InvalidOutlineError : PySem.W.nsIn K mainGlobals "InvalidOutlineError" = some (some (.ref C_InvalidOutlineError))) (eq_InvalidOutlineError : PySem.W.excIn K C_InvalidOutlineError HandSPX.veTail "ValueError.__new__" = true) (ek_InvalidOutlineError : PySem.W.keepIn K (.ref C_InvalidOutlineError) = true)
    (ee_InvalidOutlineError : PySem.W.subIn K (.ref C_InvalidOutlineError) (.type "BaseException") = some true) (et_InvalidOutlineError : PySem.W.typeIn K (.ref C_InvalidOutlineError) = some (.type "type"))
    {C_InvalidNumberError : Addr} (ea_InvalidNumberError : PySem.W.nsIn K mainGlobals "InvalidNumberError" = some (some (.ref C_InvalidNumberError))) (eq_InvalidNumberError : PySem.W.excIn K C_InvalidNumberError HandSPX.veTail "ValueError.__new__" = true) (ek_InvalidNumberError : PySem.W.keepIn K (.ref C_InvalidNumberError) = true)
    (ee_InvalidNumberError : PySem.W.subIn K (.ref C_InvalidNumberError) (.type "BaseException") = some true) (et_InvalidNumberError : PySem.W.typeIn K (.ref C_InvalidNumberError) = some (.type "type"))
    {C_InvalidHeightError : Addr} (ea_InvalidHeightError : PySem.W.nsIn K mainGlobals "InvalidHeightError" = some (some (.ref C_InvalidHeightError))) (eq_InvalidHeightError : PySem.W.excIn K C_InvalidHeightError HandSPX.veTail "ValueError.__new__" = true) (ek_InvalidHeightError : PySem.W.keepIn K (.ref C_InvalidHeightError) = true)
    (ee_InvalidHeightError : PySem.W.subIn K (.ref C_InvalidHeightError) (.type "BaseException") = some true) (et_InvalidHeightError : PySem.W.typeIn K (.ref C_InvalidHeightError) = some (.type "type"))
    {C_InvalidReadingError : Addr} (ea_InvalidReadingError : PySem.W.nsIn K mainGlobals "InvalidReadingError" = some (some (.ref C_InvalidReadingError))) (eq_InvalidReadingError : PySem.W.excIn K C_InvalidReadingError HandSPX.veTail "ValueError.__new__" = true) (ek_InvalidReadingError : PySem.W.keepIn K (.ref C_InvalidReadingError) = true)
    (ee_InvalidReadingError : PySem.W.subIn K (.ref C_InvalidReadingError) (.type "BaseException") = some true) (et_InvalidReadingError : PySem.W.typeIn K (.ref C_InvalidReadingError) = some (.type "type"))
    {C_StickyHeadsError : Addr} (ea_StickyHeadsError : PySem.W.nsIn K mainGlobals "StickyHeadsError" = some (some (.ref C_StickyHeadsError))) (eq_StickyHeadsError : PySem.W.excIn K C_StickyHeadsError HandSPX.veTail "ValueError.__new__" = true) (ek_StickyHeadsError : PySem.W.keepIn K (.ref C_StickyHeadsError) = true)
    (ee_StickyHeadsError : PySem.W.subIn K (.ref C_StickyHeadsError) (.type "BaseException") = some true) (et_StickyHeadsError : PySem.W.typeIn K (.ref C_StickyHeadsError) = some (.type "type"))
    (ei_StickyHeadsError : PySem.W.isClsIn K C_StickyHeadsError = true)
    (es_InvalidOutlineError_StickyHeadsError : PySem.W.subIn K (.ref C_InvalidOutlineError) (.ref C_StickyHeadsError) = some true)
    (es_InvalidHeightError_StickyHeadsError : PySem.W.subIn K (.ref C_InvalidHeightError) (.ref C_StickyHeadsError) = some true)
    (es_InvalidNumberError_StickyHeadsError : PySem.W.subIn K (.ref C_InvalidNumberError) (.ref C_StickyHeadsError) = some true)
    (es_InvalidReadingError_StickyHeadsError : PySem.W.subIn K (.ref C_InvalidReadingError) (.ref C_StickyHeadsError) = some true)
    (es_TooDeepError_StickyHeadsError : PySem.W.subIn K (.ref C_TooDeepError) (.ref C_StickyHeadsError) = some true)
    (yg_O : PySem.W.findIn K (.ref C_InvalidOutlineError) "__getattribute__" = some (some (.builtin "BaseException.__getattribute__"))) (yh_O : PySem.W.findIn K (.ref C_InvalidOutlineError) "__getattr__" = some none) (yd_O : PySem.W.hasDictIn K C_InvalidOutlineError = true) (ys_O : PySem.W.subIn K (.ref C_InvalidOutlineError) (.type "BaseException") = some true)
    (ya_O : PySem.W.findIn K (.ref C_InvalidOutlineError) "__class__" = some (some (.builtin "object.__class__"))) (ym_O : PySem.W.mroIn K C_InvalidOutlineError (.type "object") = some true) (yk_O : Kits K C_InvalidOutlineError (kk C_InvalidLineError C_InvalidScrollError C_InvalidFoldsError C_InvalidDocumentError C_InvalidTitleError C_InvalidDepthError C_InvalidTextError C_HiddenLineError C_EndError C_TooManyLinesError C_EmptyOutlineError C_EmptyHistoryError C_InvalidObservationsError C_InvalidOutlineError C_InvalidHeightError C_InvalidNumberError C_InvalidReadingError C_TooDeepError 0))
    (yg_H : PySem.W.findIn K (.ref C_InvalidHeightError) "__getattribute__" = some (some (.builtin "BaseException.__getattribute__"))) (yh_H : PySem.W.findIn K (.ref C_InvalidHeightError) "__getattr__" = some none) (yd_H : PySem.W.hasDictIn K C_InvalidHeightError = true) (ys_H : PySem.W.subIn K (.ref C_InvalidHeightError) (.type "BaseException") = some true)
    (ya_H : PySem.W.findIn K (.ref C_InvalidHeightError) "__class__" = some (some (.builtin "object.__class__"))) (ym_H : PySem.W.mroIn K C_InvalidHeightError (.type "object") = some true) (yk_H : Kits K C_InvalidHeightError (kk C_InvalidLineError C_InvalidScrollError C_InvalidFoldsError C_InvalidDocumentError C_InvalidTitleError C_InvalidDepthError C_InvalidTextError C_HiddenLineError C_EndError C_TooManyLinesError C_EmptyOutlineError C_EmptyHistoryError C_InvalidObservationsError C_InvalidOutlineError C_InvalidHeightError C_InvalidNumberError C_InvalidReadingError C_TooDeepError 1))
    (yg_N : PySem.W.findIn K (.ref C_InvalidNumberError) "__getattribute__" = some (some (.builtin "BaseException.__getattribute__"))) (yh_N : PySem.W.findIn K (.ref C_InvalidNumberError) "__getattr__" = some none) (yd_N : PySem.W.hasDictIn K C_InvalidNumberError = true) (ys_N : PySem.W.subIn K (.ref C_InvalidNumberError) (.type "BaseException") = some true)
    (ya_N : PySem.W.findIn K (.ref C_InvalidNumberError) "__class__" = some (some (.builtin "object.__class__"))) (ym_N : PySem.W.mroIn K C_InvalidNumberError (.type "object") = some true) (yk_N : Kits K C_InvalidNumberError (kk C_InvalidLineError C_InvalidScrollError C_InvalidFoldsError C_InvalidDocumentError C_InvalidTitleError C_InvalidDepthError C_InvalidTextError C_HiddenLineError C_EndError C_TooManyLinesError C_EmptyOutlineError C_EmptyHistoryError C_InvalidObservationsError C_InvalidOutlineError C_InvalidHeightError C_InvalidNumberError C_InvalidReadingError C_TooDeepError 2))
    (yg_R : PySem.W.findIn K (.ref C_InvalidReadingError) "__getattribute__" = some (some (.builtin "BaseException.__getattribute__"))) (yh_R : PySem.W.findIn K (.ref C_InvalidReadingError) "__getattr__" = some none) (yd_R : PySem.W.hasDictIn K C_InvalidReadingError = true) (ys_R : PySem.W.subIn K (.ref C_InvalidReadingError) (.type "BaseException") = some true)
    (ya_R : PySem.W.findIn K (.ref C_InvalidReadingError) "__class__" = some (some (.builtin "object.__class__"))) (ym_R : PySem.W.mroIn K C_InvalidReadingError (.type "object") = some true) (yk_R : Kits K C_InvalidReadingError (kk C_InvalidLineError C_InvalidScrollError C_InvalidFoldsError C_InvalidDocumentError C_InvalidTitleError C_InvalidDepthError C_InvalidTextError C_HiddenLineError C_EndError C_TooManyLinesError C_EmptyOutlineError C_EmptyHistoryError C_InvalidObservationsError C_InvalidOutlineError C_InvalidHeightError C_InvalidNumberError C_InvalidReadingError C_TooDeepError 3))
    (yg_T : PySem.W.findIn K (.ref C_TooDeepError) "__getattribute__" = some (some (.builtin "BaseException.__getattribute__"))) (yh_T : PySem.W.findIn K (.ref C_TooDeepError) "__getattr__" = some none) (yd_T : PySem.W.hasDictIn K C_TooDeepError = true) (ys_T : PySem.W.subIn K (.ref C_TooDeepError) (.type "BaseException") = some true)
    (ya_T : PySem.W.findIn K (.ref C_TooDeepError) "__class__" = some (some (.builtin "object.__class__"))) (ym_T : PySem.W.mroIn K C_TooDeepError (.type "object") = some true) (yk_T : Kits K C_TooDeepError (kk C_InvalidLineError C_InvalidScrollError C_InvalidFoldsError C_InvalidDocumentError C_InvalidTitleError C_InvalidDepthError C_InvalidTextError C_HiddenLineError C_EndError C_TooManyLinesError C_EmptyOutlineError C_EmptyHistoryError C_InvalidObservationsError C_InvalidOutlineError C_InvalidHeightError C_InvalidNumberError C_InvalidReadingError C_TooDeepError 4))
    (y0n : PySem.W.specialIn K (.builtin "object.__class__") "__get__" = some (some (.builtin "getset_descriptor.__get__"))) (y0t : PySem.W.takesIn K (.builtin "object.__class__") = some true)
    {nm_iTooDeepError q_iTooDeepError fl_iTooDeepError : Str} {N_iTooDeepError fI_iTooDeepError cda_iTooDeepError cc_iTooDeepError : Addr} {bs_iTooDeepError bm_iTooDeepError : List Value} {sn_iTooDeepError : List Str} {sub_iTooDeepError : List Value} {ab_iTooDeepError : Bool} {col_iTooDeepError : Option Bool} {dd_iTooDeepError : Option Addr} {m0_iTooDeepError m1_iTooDeepError m2_iTooDeepError m3_iTooDeepError m5_iTooDeepError : Option Value} {oc_iTooDeepError cl_iTooDeepError ccl_iTooDeepError kV_iTooDeepError doc_iTooDeepError pm_iTooDeepError ct_iTooDeepError : Value} {od_iTooDeepError cld_iTooDeepError cdd_iTooDeepError an_iTooDeepError : Option Addr} {osl_iTooDeepError csl_iTooDeepError ccs_iTooDeepError : Array (Option Value)} {vs_iTooDeepError : Array Value} {tf_iTooDeepError : Tok}
    (ixL_iTooDeepError : K.lookup C_TooDeepError = some (excClassObj nm_iTooDeepError q_iTooDeepError C_TooDeepError N_iTooDeepError bs_iTooDeepError bm_iTooDeepError true sn_iTooDeepError sub_iTooDeepError ab_iTooDeepError col_iTooDeepError dd_iTooDeepError m0_iTooDeepError m1_iTooDeepError m2_iTooDeepError m3_iTooDeepError m5_iTooDeepError "ValueError.__new__")) (ixr_iTooDeepError : PySem.HandSPX.refsVE bm_iTooDeepError = true) (ixs_iTooDeepError : PySem.W.findIn K (.ref C_TooDeepError) "__setattr__" = some (some (.builtin "object.__setattr__"))) (ixe_iTooDeepError : PySem.W.subIn K (.ref C_TooDeepError) (.type "BaseException") = some true) (ixt_iTooDeepError : PySem.W.typeIn K (.ref C_TooDeepError) = some (.type "type")) (ixk_iTooDeepError : PySem.W.keepIn K (.ref C_TooDeepError) = true)
    (ix7_iTooDeepError : PySem.W.findIn K (.ref C_TooDeepError) "__init__" = some (some (.ref fI_iTooDeepError))) (ix1_iTooDeepError : K.lookup fI_iTooDeepError = some ⟨oc_iTooDeepError, od_iTooDeepError, .func (PySem.W.ksFn "__init__" "TooDeepError.__init__" (defArgs ini_TooDeepError) (defBody ini_TooDeepError) (defScope ini_TooDeepError) .none kV_iTooDeepError doc_iTooDeepError pm_iTooDeepError an_iTooDeepError (.ref cda_iTooDeepError) ct_iTooDeepError cc_iTooDeepError), osl_iTooDeepError⟩) (ix2_iTooDeepError : PySem.W.codeIn K (.ref cda_iTooDeepError) "TooDeepError.__init__" = true) (ix3_iTooDeepError : K.lookup cda_iTooDeepError = some ⟨ccl_iTooDeepError, cdd_iTooDeepError, .fields vs_iTooDeepError, ccs_iTooDeepError⟩) (ix4_iTooDeepError : vs_iTooDeepError[2]? = some (.str fl_iTooDeepError tf_iTooDeepError)) (ix5_iTooDeepError : ((l.prog.main.file : Str) == fl_iTooDeepError) = true) (ix6_iTooDeepError : K.lookup cc_iTooDeepError = some ⟨cl_iTooDeepError, cld_iTooDeepError, .cell (some (.ref C_TooDeepError)), csl_iTooDeepError⟩) (ix8_iTooDeepError : PySem.W.typeIn K (.ref fI_iTooDeepError) = some (.type "function"))
    (ix9_iTooDeepError : PySem.W.ks_superIn K C_TooDeepError C_TooDeepError "__init__" = some (some (.builtin "ValueError.__init__"))) (ixb_iTooDeepError : PySem.W.subIn K (.ref C_TooDeepError) (.type "ValueError") = some true) (ixm_iTooDeepError : PySem.W.mroIn K C_TooDeepError (.ref C_TooDeepError) = some true) (ixo_iTooDeepError : PySem.W.nsIn K cStatics "thirdparty.any" = some none) (ixn_iTooDeepError : PySem.W.findIn K (.ref C_TooDeepError) "line" = some none) (ixp_iTooDeepError : (l.prog.main.scope.names.lookup ("super" : Str)).isSome = false)
    : ∃ fd : FuncData, (∀ (s : Shared) (v : Value), BindsTo s fd ⟨[v], []⟩ [("script", v)]) ∧
      ∀ base : Heap, K.In base → base.Ns mainGlobals mg → FnG l.prog w K mg base CX0 8 fa fd ["script"] (sp_law K) := by
  have T : Txt mg := ⟨PySem.W.mg_none_of X G z_len, PySem.W.mg_none_of X G z_range, PySem.W.mg_none_of X G z_repr, PySem.W.mg_none_of X G z_min, PySem.W.mg_none_of X G z_max, PySem.W.mg_none_of X G z_int, PySem.W.mg_none_of X G z_list, PySem.W.mg_none_of X G z_type, PySem.W.mg_none_of X G z_bool, PySem.W.mg_none_of X G z_tuple, PySem.W.mg_none_of X G z_isinstance, PySem.W.mg_none_of X G z_enumerate, PySem.W.mg_none_of X G z_str, PySem.W.mg_none_of X G z_zip, PySem.W.mg_none_of X G z_all, PySem.W.mg_none_of X G z_any, PySem.W.mg_none_of X G z_sum, PySem.W.mg_none_of X G z_abs, PySem.W.mg_none_of X G z_sorted, PySem.W.mg_none_of X G z_set, PySem.W.mg_none_of X G z_dict, PySem.W.mg_none_of X G z_reversed, PySem.W.mg_none_of X G z_divmod⟩
  have c_MOST_LINES := PySem.W.mg_of X G m_MOST_LINES
  have c_MOST_ROWS := PySem.W.mg_of X G m_MOST_ROWS
  have e_InvalidOutlineError : Err K mg "InvalidOutlineError" C_InvalidOutlineError := ⟨PySem.W.mg_of X G ea_InvalidOutlineError, eq_InvalidOutlineError, ek_InvalidOutlineError, ee_InvalidOutlineError, et_InvalidOutlineError⟩
  have e_InvalidNumberError : Err K mg "InvalidNumberError" C_InvalidNumberError := ⟨PySem.W.mg_of X G ea_InvalidNumberError, eq_InvalidNumberError, ek_InvalidNumberError, ee_InvalidNumberError, et_InvalidNumberError⟩
  have e_InvalidHeightError : Err K mg "InvalidHeightError" C_InvalidHeightError := ⟨PySem.W.mg_of X G ea_InvalidHeightError, eq_InvalidHeightError, ek_InvalidHeightError, ee_InvalidHeightError, et_InvalidHeightError⟩
  have e_InvalidReadingError : Err K mg "InvalidReadingError" C_InvalidReadingError := ⟨PySem.W.mg_of X G ea_InvalidReadingError, eq_InvalidReadingError, ek_InvalidReadingError, ee_InvalidReadingError, et_InvalidReadingError⟩
  have e_StickyHeadsError : Err K mg "StickyHeadsError" C_StickyHeadsError := ⟨PySem.W.mg_of X G ea_StickyHeadsError, eq_StickyHeadsError, ek_StickyHeadsError, ee_StickyHeadsError, et_StickyHeadsError⟩
  have n_super := PySem.W.mg_none_of X G zn_super
  have n_ValueError := PySem.W.mg_none_of X G zn_ValueError
  have k_TooDeepError : mg "TooDeepError" = some (.ref C_TooDeepError) := PySem.W.mg_of X G ea_TooDeepError
  have k_InvalidLineError : mg "InvalidLineError" = some (.ref C_InvalidLineError) := PySem.W.mg_of X G ea_InvalidLineError
  have k_InvalidScrollError : mg "InvalidScrollError" = some (.ref C_InvalidScrollError) := PySem.W.mg_of X G ea_InvalidScrollError
  have k_InvalidFoldsError : mg "InvalidFoldsError" = some (.ref C_InvalidFoldsError) := PySem.W.mg_of X G ea_InvalidFoldsError
  have k_InvalidDocumentError : mg "InvalidDocumentError" = some (.ref C_InvalidDocumentError) := PySem.W.mg_of X G ea_InvalidDocumentError
  have k_InvalidTitleError : mg "InvalidTitleError" = some (.ref C_InvalidTitleError) := PySem.W.mg_of X G ea_InvalidTitleError
  have k_InvalidDepthError : mg "InvalidDepthError" = some (.ref C_InvalidDepthError) := PySem.W.mg_of X G ea_InvalidDepthError
  have k_InvalidTextError : mg "InvalidTextError" = some (.ref C_InvalidTextError) := PySem.W.mg_of X G ea_InvalidTextError
  have k_HiddenLineError : mg "HiddenLineError" = some (.ref C_HiddenLineError) := PySem.W.mg_of X G ea_HiddenLineError
  have k_EndError : mg "EndError" = some (.ref C_EndError) := PySem.W.mg_of X G ea_EndError
  have k_TooManyLinesError : mg "TooManyLinesError" = some (.ref C_TooManyLinesError) := PySem.W.mg_of X G ea_TooManyLinesError
  have k_EmptyOutlineError : mg "EmptyOutlineError" = some (.ref C_EmptyOutlineError) := PySem.W.mg_of X G ea_EmptyOutlineError
  have k_EmptyHistoryError : mg "EmptyHistoryError" = some (.ref C_EmptyHistoryError) := PySem.W.mg_of X G ea_EmptyHistoryError
  have k_InvalidObservationsError : mg "InvalidObservationsError" = some (.ref C_InvalidObservationsError) := PySem.W.mg_of X G ea_InvalidObservationsError
  have k_InvalidOutlineError : mg "InvalidOutlineError" = some (.ref C_InvalidOutlineError) := PySem.W.mg_of X G ea_InvalidOutlineError
  have k_InvalidHeightError : mg "InvalidHeightError" = some (.ref C_InvalidHeightError) := PySem.W.mg_of X G ea_InvalidHeightError
  have k_InvalidNumberError : mg "InvalidNumberError" = some (.ref C_InvalidNumberError) := PySem.W.mg_of X G ea_InvalidNumberError
  have k_InvalidReadingError : mg "InvalidReadingError" = some (.ref C_InvalidReadingError) := PySem.W.mg_of X G ea_InvalidReadingError
  have i_TooDeepError : IniC l.prog K C_TooDeepError "TooDeepError.__init__" ini_TooDeepError "line" := ⟨⟨⟨_, _, _, _, _, _, _, _, _, _, _, _, _, _, _, ixL_iTooDeepError, ixr_iTooDeepError⟩, ixs_iTooDeepError, ixe_iTooDeepError, ixt_iTooDeepError, ixk_iTooDeepError⟩, ⟨_, _, _, _, _, _, _, _, _, _, _, _, _, _, _, _, _, _, _, _, ix1_iTooDeepError, ix2_iTooDeepError, ix3_iTooDeepError, ix4_iTooDeepError, ix5_iTooDeepError, ix6_iTooDeepError, ix7_iTooDeepError, ix8_iTooDeepError⟩, ix9_iTooDeepError, ixb_iTooDeepError, ixm_iTooDeepError, ixo_iTooDeepError, ixn_iTooDeepError, ixp_iTooDeepError⟩
  have y_O : ErK K C_InvalidOutlineError (kk C_InvalidLineError C_InvalidScrollError C_InvalidFoldsError C_InvalidDocumentError C_InvalidTitleError C_InvalidDepthError C_InvalidTextError C_HiddenLineError C_EndError C_TooManyLinesError C_EmptyOutlineError C_EmptyHistoryError C_InvalidObservationsError C_InvalidOutlineError C_InvalidHeightError C_InvalidNumberError C_InvalidReadingError C_TooDeepError 0) := ⟨⟨yg_O, yh_O, ys_O, yd_O, ya_O, y0n, y0t, ym_O⟩, yk_O⟩
  have y_H : ErK K C_InvalidHeightError (kk C_InvalidLineError C_InvalidScrollError C_InvalidFoldsError C_InvalidDocumentError C_InvalidTitleError C_InvalidDepthError C_InvalidTextError C_HiddenLineError C_EndError C_TooManyLinesError C_EmptyOutlineError C_EmptyHistoryError C_InvalidObservationsError C_InvalidOutlineError C_InvalidHeightError C_InvalidNumberError C_InvalidReadingError C_TooDeepError 1) := ⟨⟨yg_H, yh_H, ys_H, yd_H, ya_H, y0n, y0t, ym_H⟩, yk_H⟩
  have y_N : ErK K C_InvalidNumberError (kk C_InvalidLineError C_InvalidScrollError C_InvalidFoldsError C_InvalidDocumentError C_InvalidTitleError C_InvalidDepthError C_InvalidTextError C_HiddenLineError C_EndError C_TooManyLinesError C_EmptyOutlineError C_EmptyHistoryError C_InvalidObservationsError C_InvalidOutlineError C_InvalidHeightError C_InvalidNumberError C_InvalidReadingError C_TooDeepError 2) := ⟨⟨yg_N, yh_N, ys_N, yd_N, ya_N, y0n, y0t, ym_N⟩, yk_N⟩
  have y_R : ErK K C_InvalidReadingError (kk C_InvalidLineError C_InvalidScrollError C_InvalidFoldsError C_InvalidDocumentError C_InvalidTitleError C_InvalidDepthError C_InvalidTextError C_HiddenLineError C_EndError C_TooManyLinesError C_EmptyOutlineError C_EmptyHistoryError C_InvalidObservationsError C_InvalidOutlineError C_InvalidHeightError C_InvalidNumberError C_InvalidReadingError C_TooDeepError 3) := ⟨⟨yg_R, yh_R, ys_R, yd_R, ya_R, y0n, y0t, ym_R⟩, yk_R⟩
  have y_T : ErK K C_TooDeepError (kk C_InvalidLineError C_InvalidScrollError C_InvalidFoldsError C_InvalidDocumentError C_InvalidTitleError C_InvalidDepthError C_InvalidTextError C_HiddenLineError C_EndError C_TooManyLinesError C_EmptyOutlineError C_EmptyHistoryError C_InvalidObservationsError C_InvalidOutlineError C_InvalidHeightError C_InvalidNumberError C_InvalidReadingError C_TooDeepError 4) := ⟨⟨yg_T, yh_T, ys_T, yd_T, ya_T, y0n, y0t, ym_T⟩, yk_T⟩
  have x_O : Catch K C_InvalidOutlineError C_StickyHeadsError true := Catch.of ee_StickyHeadsError ei_StickyHeadsError et_StickyHeadsError es_InvalidOutlineError_StickyHeadsError
  have x_H : Catch K C_InvalidHeightError C_StickyHeadsError true := Catch.of ee_StickyHeadsError ei_StickyHeadsError et_StickyHeadsError es_InvalidHeightError_StickyHeadsError
  have x_N : Catch K C_InvalidNumberError C_StickyHeadsError true := Catch.of ee_StickyHeadsError ei_StickyHeadsError et_StickyHeadsError es_InvalidNumberError_StickyHeadsError
  have x_R : Catch K C_InvalidReadingError C_StickyHeadsError true := Catch.of ee_StickyHeadsError ei_StickyHeadsError et_StickyHeadsError es_InvalidReadingError_StickyHeadsError
  have x_T : Catch K C_TooDeepError C_StickyHeadsError true := Catch.of ee_StickyHeadsError ei_StickyHeadsError et_StickyHeadsError es_TooDeepError_StickyHeadsError
  have at_is_integer_from : At K mg "is_integer_from" s_is_integer_from := ⟨f0, _, fun_mk l0 c0 k0, PySem.W.mg_of X G a0⟩
  have at_is_integer_within : At K mg "is_integer_within" s_is_integer_within := ⟨f1, _, fun_mk l1 c1 k1, PySem.W.mg_of X G a1⟩
  have at_is_outline : At K mg "is_outline" s_is_outline := ⟨f2, _, fun_mk l2 c2 k2, PySem.W.mg_of X G a2⟩
  have at_check_outline : At K mg "check_outline" s_check_outline := ⟨f3, _, fun_mk l3 c3 k3, PySem.W.mg_of X G a3⟩
  have at_check_number : At K mg "check_number" s_check_number := ⟨f4, _, fun_mk l4 c4 k4, PySem.W.mg_of X G a4⟩
  have at_stop_of : At K mg "stop_of" s_stop_of := ⟨f5, _, fun_mk l5 c5 k5, PySem.W.mg_of X G a5⟩
  have at_check_height : At K mg "check_height" s_check_height := ⟨f6, _, fun_mk l6 c6 k6, PySem.W.mg_of X G a6⟩
  have at_check_depths : At K mg "check_depths" s_check_depths := ⟨f7, _, fun_mk l7 c7 k7, PySem.W.mg_of X G a7⟩
  have at_check_all_shown : At K mg "check_all_shown" s_check_all_shown := ⟨f8, _, fun_mk l8 c8 k8, PySem.W.mg_of X G a8⟩
  have at_scrolls_for_span : At K mg "scrolls_for_span" s_scrolls_for_span := ⟨f9, _, fun_mk l9 c9 k9, PySem.W.mg_of X G a9⟩
  have at_greatest_scroll : At K mg "greatest_scroll" s_greatest_scroll := ⟨f10, _, fun_mk l10 c10 k10, PySem.W.mg_of X G a10⟩
  have at_is_ascending_list : At K mg "is_ascending_list" s_is_ascending_list := ⟨f11, _, fun_mk l11 c11 k11, PySem.W.mg_of X G a11⟩
  have at_is_shown_by : At K mg "is_shown_by" s_is_shown_by := ⟨f12, _, fun_mk l12 c12 k12, PySem.W.mg_of X G a12⟩
  have at_is_reading : At K mg "is_reading" s_is_reading := ⟨f13, _, fun_mk l13 c13 k13, PySem.W.mg_of X G a13⟩
  have at_count_views_left : At K mg "count_views_left" s_count_views_left := ⟨f14, _, fun_mk l14 c14 k14, PySem.W.mg_of X G a14⟩
  have at_followers : At K mg "followers" s_followers := ⟨f15, _, fun_mk l15 c15 k15, PySem.W.mg_of X G a15⟩
  have at_count_ways : At K mg "count_ways" s_count_ways := ⟨f16, _, fun_mk l16 c16 k16, PySem.W.mg_of X G a16⟩
  have at_count_shortest : At K mg "count_shortest" s_count_shortest := ⟨f17, _, fun_mk l17 c17 k17, PySem.W.mg_of X G a17⟩
  have at_nth_shortest : At K mg "nth_shortest" s_nth_shortest := ⟨f18, _, fun_mk l18 c18 k18, PySem.W.mg_of X G a18⟩
  have at_rank_shortest : At K mg "rank_shortest" s_rank_shortest := ⟨f19, _, fun_mk l19 c19 k19, PySem.W.mg_of X G a19⟩
  have at_law_open_source : At K mg "_law_open_source" s_law_open_source := ⟨f20, _, fun_mk l20 c20 k20, PySem.W.mg_of X G a20⟩
  have at_law_draw : At K mg "_law_draw" s_law_draw := ⟨f21, _, fun_mk l21 c21 k21, PySem.W.mg_of X G a21⟩
  have at_law_made : At K mg "_law_made" s_law_made := ⟨f22, _, fun_mk l22 c22 k22, PySem.W.mg_of X G a22⟩
  have at_law_height : At K mg "_law_height" s_law_height := ⟨f23, _, fun_mk l23 c23 k23, PySem.W.mg_of X G a23⟩
  have at_law_pages : At K mg "_law_pages" s_law_pages := ⟨f24, _, fun_mk l24 c24 k24, PySem.W.mg_of X G a24⟩
  have at_law_drawn : At K mg "_law_drawn" s_law_drawn := ⟨f25, _, fun_mk l25 c25 k25, PySem.W.mg_of X G a25⟩
  have at_law_kind : At K mg "_law_kind" s_law_kind := ⟨f26, _, fun_mk l26 c26 k26, PySem.W.mg_of X G a26⟩
  have at_law_error : At K mg "_law_error" s_law_error := ⟨f27, _, fun_mk l27 c27 k27, PySem.W.mg_of X G a27⟩
  have at_law_bad_made : At K mg "_law_bad_made" s_law_bad_made := ⟨f28, _, fun_mk l28 c28 k28, PySem.W.mg_of X G a28⟩
  have at_law_cases : At K mg "_law_cases" s_law_cases := ⟨f29, _, fun_mk l29 c29 k29, PySem.W.mg_of X G a29⟩
  have at_law : At K mg "law" s_law := ⟨f30, _, fun_mk l30 c30 k30, PySem.W.mg_of X G a30⟩
  refine ⟨PySem.W.fnOf "law" "law" (defArgs s_law) (defBody s_law) (defScope s_law) .none kV30 dc30 pm30 an30 cd30 ct30, fun s v => .of_eq rfl, fun base _ _ => ?_⟩
  have G_is_integer_from := ok_is_integer_from (P := l.prog) (w := w) (base := base) T at_is_integer_from
  have G_is_integer_within := ok_is_integer_within (P := l.prog) (w := w) (base := base) T at_is_integer_within G_is_integer_from
  have G_is_outline := ok_is_outline (P := l.prog) (w := w) (base := base) T c_MOST_LINES at_is_outline G_is_integer_within
  have G_check_outline := ok_check_outline (P := l.prog) (w := w) (base := base) T e_InvalidOutlineError at_check_outline G_is_outline
  have G_check_number := ok_check_number (P := l.prog) (w := w) (base := base) T e_InvalidNumberError at_check_number G_is_integer_within
  have G_stop_of := ok_stop_of (P := l.prog) (w := w) (base := base) T at_stop_of
  have G_check_height := ok_check_height (P := l.prog) (w := w) (base := base) T e_InvalidHeightError c_MOST_ROWS at_check_height G_is_integer_within
  have G_check_depths := ok_check_depths (P := l.prog) (w := w) (base := base) T n_super k_TooDeepError i_TooDeepError at_check_depths
  have G_check_all_shown := ok_check_all_shown (P := l.prog) (w := w) (base := base) T at_check_all_shown G_check_outline G_check_height G_check_depths
  have G_scrolls_for_span := ok_scrolls_for_span (P := l.prog) (w := w) (base := base) T at_scrolls_for_span G_stop_of
  have G_greatest_scroll := ok_greatest_scroll (P := l.prog) (w := w) (base := base) T at_greatest_scroll G_stop_of
  have G_is_ascending_list := ok_is_ascending_list (P := l.prog) (w := w) (base := base) T at_is_ascending_list G_is_integer_within
  have G_is_shown_by := ok_is_shown_by (P := l.prog) (w := w) (base := base) T at_is_shown_by G_scrolls_for_span
  have G_is_reading := ok_is_reading (P := l.prog) (w := w) (base := base) T at_is_reading (G_check_outline.calmN chkO_imp) (G_check_height.calmN chkH_imp) G_is_ascending_list G_greatest_scroll G_is_shown_by
  have G_count_views_left := ok_count_views_left (P := l.prog) (w := w) (base := base) T at_count_views_left G_greatest_scroll G_stop_of
  have G_followers := ok_followers (P := l.prog) (w := w) (base := base) T at_followers G_stop_of
  have G_count_ways := ok_count_ways (P := l.prog) (w := w) (base := base) T at_count_ways G_followers
  have G_count_shortest := ok_count_shortest (P := l.prog) (w := w) (base := base) T at_count_shortest G_check_all_shown G_count_ways G_count_views_left
  have G_nth_shortest := ok_nth_shortest (P := l.prog) (w := w) (base := base) T at_nth_shortest G_check_all_shown G_count_views_left G_count_ways G_check_number G_followers
  have G_rank_shortest := ok_rank_shortest (P := l.prog) (w := w) (base := base) T e_InvalidReadingError at_rank_shortest G_check_all_shown G_count_views_left G_is_reading G_count_ways G_followers
  have G_law_open_source := ok_law_open_source (P := l.prog) (w := w) (base := base) T at_law_open_source
  have G_law_draw := ok_law_draw (P := l.prog) (w := w) (base := base) T at_law_draw
  have G_law_made := ok_law_made (P := l.prog) (w := w) (base := base) T at_law_made G_law_draw
  have G_law_height := ok_law_height (P := l.prog) (w := w) (base := base) T at_law_height G_law_draw
  have G_law_pages := ok_law_pages (P := l.prog) (w := w) (base := base) T at_law_pages
  have G_law_drawn := ok_law_drawn (P := l.prog) (w := w) (base := base) T at_law_drawn G_law_pages G_law_draw
  have G_law_kind := ok_law_kind (P := l.prog) (w := w) (base := base) T n_ValueError k_InvalidLineError k_InvalidScrollError k_InvalidFoldsError k_InvalidDocumentError k_InvalidTitleError k_InvalidDepthError k_InvalidTextError k_HiddenLineError k_EndError k_TooManyLinesError k_EmptyOutlineError k_EmptyHistoryError k_InvalidObservationsError k_InvalidOutlineError k_InvalidHeightError k_InvalidNumberError k_InvalidReadingError k_TooDeepError at_law_kind
  have G_law_error := ok_law_error (P := l.prog) (w := w) (base := base) T e_StickyHeadsError i_TooDeepError x_O x_H x_N x_R x_T y_O y_H y_N y_R y_T at_law_error G_count_shortest G_nth_shortest G_rank_shortest G_law_kind
  have G_law_bad_made := ok_law_bad_made (P := l.prog) (w := w) (base := base) T at_law_bad_made G_law_draw
  have G_law_cases := ok_law_cases (P := l.prog) (w := w) (base := base) T at_law_cases G_law_draw G_law_drawn G_law_bad_made (G_count_shortest.calmN cs_imp)
  obtain ⟨f, fd, F, m, R, _⟩ := ok_law (P := l.prog) (w := w) (base := base) T at_law G_law_open_source G_law_draw G_law_made G_law_height G_law_cases G_law_error
  have e1 := m.symm.trans hfa
  cases e1
  have e2 := (PySem.W.mg_of X G a30).symm.trans hfa
  cases e2
  obtain ⟨_, _, _, _, _, _, _, _, _, _, lk, _⟩ := F.ex
  rw [l30] at lk
  cases lk
  exact R
theorem walk {l : PySem.W.OpenLaw} {q : Program} {loose : List Str} {XP : (Str → Option Value) → Heap → Prop} {YP : World → Heap → Prop} {d : DefRec} {K : Params → PySem.W.Frag}
    (hn : l.most = some 63) (hdf : d.params.defaults = []) (hY : ∀ (w : World) (h : Heap), YP w h → (K w.params).In h)
    (F : ∀ (w : World) (mg : Str → Option Value) (fa : Addr) (h : Heap), (K w.params).In h → h.Ns mainGlobals mg → mg d.name = some (.ref fa) →
      ∃ fd : FuncData, (∀ (s : Shared) (u : Value), BindsTo s fd ⟨[u], []⟩ [("script", u)]) ∧ ∀ base : Heap, (K w.params).In base → base.Ns mainGlobals mg →
        FnG l.prog w (K w.params) mg base CX0 8 fa fd ["script"] (sp_law (K w.params))) :
    PySem.W.WalkO q loose XP YP l.row.toRowW d [] (fun f vs => PySem.call f vs) :=
  walkG (n := 63) (k := 8) (x := "script") (CX := fun _ => CX0) (sp := fun w => sp_law (K w.params)) hn (by decide) hdf ⟨rfl, by decide, by decide⟩ hY F
    (fun _ _ a ns hl _ hS => ⟨a, ns, rfl, hS, hl, fun _ => rfl⟩) fun _ _ _ _ _ z => z
end SH
open PySem PySem.W PyProof.Rows
set_option maxRecDepth 100000 in
set_option maxHeartbeats 0 in
theorem PySem.Challenge.cw_stickyheads_k56_errors_of_shortest_readi_holds : PySem.Challenge.rw_stickyheads_k56_errors_of_shortest_readi.Holds := by
  w_on; o_law; k_head; (case hw => w_witness2)
  k_fill
  refine SH.walk (l := PySem.Challenge.rw_stickyheads_k56_errors_of_shortest_readi) rfl rfl (fun w h Y => PySem.W.kIn_of Y) ?F
  case F =>
    intro w mg fa h KX G hmg
    refine' SH.all_mk KX G hmg ?a0 ?l0 ?c0 ?k0 ?a1 ?l1 ?c1 ?k1 ?a2 ?l2 ?c2 ?k2 ?a3 ?l3 ?c3 ?k3 ?a4 ?l4 ?c4 ?k4 ?a5 ?l5 ?c5 ?k5 ?a6 ?l6 ?c6 ?k6 ?a7 ?l7 ?c7 ?k7 ?a8 ?l8 ?c8 ?k8 ?a9 ?l9 ?c9 ?k9 ?a10 ?l10 ?c10 ?k10 ?a11 ?l11 ?c11 ?k11 ?a12 ?l12 ?c12 ?k12 ?a13 ?l13 ?c13 ?k13 ?a14 ?l14 ?c14 ?k14 ?a15 ?l15 ?c15 ?k15 ?a16 ?l16 ?c16 ?k16 ?a17 ?l17 ?c17 ?k17 ?a18 ?l18 ?c18 ?k18 ?a19 ?l19 ?c19 ?k19 ?a20 ?l20 ?c20 ?k20 ?a21 ?l21 ?c21 ?k21 ?a22 ?l22 ?c22 ?k22 ?a23 ?l23 ?c23 ?k23 ?a24 ?l24 ?c24 ?k24 ?a25 ?l25 ?c25 ?k25 ?a26 ?l26 ?c26 ?k26 ?a27 ?l27 ?c27 ?k27 ?a28 ?l28 ?c28 ?k28 ?a29 ?l29 ?c29 ?k29 ?a30 ?l30 ?c30 ?k30 ?z_len ?z_range ?z_repr ?z_min ?z_max ?z_int ?z_list ?z_type ?z_bool ?z_tuple ?z_isinstance ?z_enumerate ?z_str ?z_zip ?z_all ?z_any ?z_sum ?z_abs ?z_sorted ?z_set ?z_dict ?z_reversed ?z_divmod ?m_MOST_LINES ?m_MOST_ROWS ?ea_TooDeepError ?ea_InvalidLineError ?ea_InvalidScrollError ?ea_InvalidFoldsError ?ea_InvalidDocumentError ?ea_InvalidTitleError ?ea_InvalidDepthError ?ea_InvalidTextError ?ea_HiddenLineError ?ea_EndError ?ea_TooManyLinesError ?ea_EmptyOutlineError ?ea_EmptyHistoryError ?ea_InvalidObservationsError ?zn_super ?zn_ValueError ?ea_InvalidOutlineError ?eq_InvalidOutlineError ?ek_InvalidOutlineError ?ee_InvalidOutlineError ?et_InvalidOutlineError ?ea_InvalidNumberError ?eq_InvalidNumberError ?ek_InvalidNumberError ?ee_InvalidNumberError ?et_InvalidNumberError ?ea_InvalidHeightError ?eq_InvalidHeightError ?ek_InvalidHeightError ?ee_InvalidHeightError ?et_InvalidHeightError ?ea_InvalidReadingError ?eq_InvalidReadingError ?ek_InvalidReadingError ?ee_InvalidReadingError ?et_InvalidReadingError ?ea_StickyHeadsError ?eq_StickyHeadsError ?ek_StickyHeadsError ?ee_StickyHeadsError ?et_StickyHeadsError ?ei_StickyHeadsError ?es_InvalidOutlineError_StickyHeadsError ?es_InvalidHeightError_StickyHeadsError ?es_InvalidNumberError_StickyHeadsError ?es_InvalidReadingError_StickyHeadsError ?es_TooDeepError_StickyHeadsError ?yg_O ?yh_O ?yd_O ?ys_O ?ya_O ?ym_O ?yk_O ?yg_H ?yh_H ?yd_H ?ys_H ?ya_H ?ym_H ?yk_H ?yg_N ?yh_N ?yd_N ?ys_N ?ya_N ?ym_N ?yk_N ?yg_R ?yh_R ?yd_R ?ys_R ?ya_R ?ym_R ?yk_R ?yg_T ?yh_T ?yd_T ?ys_T ?ya_T ?ym_T ?yk_T ?y0n ?y0t ?ixL_iTooDeepError ?ixr_iTooDeepError ?ixs_iTooDeepError ?ixe_iTooDeepError ?ixt_iTooDeepError ?ixk_iTooDeepError ?ix7_iTooDeepError ?ix1_iTooDeepError ?ix2_iTooDeepError ?ix3_iTooDeepError ?ix4_iTooDeepError ?ix5_iTooDeepError ?ix6_iTooDeepError ?ix8_iTooDeepError ?ix9_iTooDeepError ?ixb_iTooDeepError ?ixm_iTooDeepError ?ixo_iTooDeepError ?ixn_iTooDeepError ?ixp_iTooDeepError
    (case a0 => k_is); (case l0 => k_is); (case c0 => k_is); (case k0 => k_is); (case a1 => k_is); (case l1 => k_is); (case c1 => k_is); (case k1 => k_is)
    (case a2 => k_is); (case l2 => k_is); (case c2 => k_is); (case k2 => k_is); (case a3 => k_is); (case l3 => k_is); (case c3 => k_is); (case k3 => k_is)
    (case a4 => k_is); (case l4 => k_is); (case c4 => k_is); (case k4 => k_is); (case a5 => k_is); (case l5 => k_is); (case c5 => k_is); (case k5 => k_is)
    (case a6 => k_is); (case l6 => k_is); (case c6 => k_is); (case k6 => k_is); (case a7 => k_is); (case l7 => k_is); (case c7 => k_is); (case k7 => k_is)
    (case a8 => k_is); (case l8 => k_is); (case c8 => k_is); (case k8 => k_is); (case a9 => k_is); (case l9 => k_is); (case c9 => k_is); (case k9 => k_is)
    (case a10 => k_is); (case l10 => k_is); (case c10 => k_is); (case k10 => k_is); (case a11 => k_is); (case l11 => k_is); (case c11 => k_is); (case k11 => k_is)
    (case a12 => k_is); (case l12 => k_is); (case c12 => k_is); (case k12 => k_is); (case a13 => k_is); (case l13 => k_is); (case c13 => k_is); (case k13 => k_is)
    (case a14 => k_is); (case l14 => k_is); (case c14 => k_is); (case k14 => k_is); (case a15 => k_is); (case l15 => k_is); (case c15 => k_is); (case k15 => k_is)
    (case a16 => k_is); (case l16 => k_is); (case c16 => k_is); (case k16 => k_is); (case a17 => k_is); (case l17 => k_is); (case c17 => k_is); (case k17 => k_is)
    (case a18 => k_is); (case l18 => k_is); (case c18 => k_is); (case k18 => k_is); (case a19 => k_is); (case l19 => k_is); (case c19 => k_is); (case k19 => k_is)
    (case a20 => k_is); (case l20 => k_is); (case c20 => k_is); (case k20 => k_is); (case a21 => k_is); (case l21 => k_is); (case c21 => k_is); (case k21 => k_is)
    (case a22 => k_is); (case l22 => k_is); (case c22 => k_is); (case k22 => k_is); (case a23 => k_is); (case l23 => k_is); (case c23 => k_is); (case k23 => k_is)
    (case a24 => k_is); (case l24 => k_is); (case c24 => k_is); (case k24 => k_is); (case a25 => k_is); (case l25 => k_is); (case c25 => k_is); (case k25 => k_is)
    (case a26 => k_is); (case l26 => k_is); (case c26 => k_is); (case k26 => k_is); (case a27 => k_is); (case l27 => k_is); (case c27 => k_is); (case k27 => k_is)
    (case a28 => k_is); (case l28 => k_is); (case c28 => k_is); (case k28 => k_is); (case a29 => k_is); (case l29 => k_is); (case c29 => k_is); (case k29 => k_is)
    (case a30 => k_is); (case l30 => k_is); (case c30 => k_is); (case k30 => k_is); (case z_len => k_is); (case z_range => k_is); (case z_repr => k_is); (case z_min => k_is)
    (case z_max => k_is); (case z_int => k_is); (case z_list => k_is); (case z_type => k_is); (case z_bool => k_is); (case z_tuple => k_is); (case z_isinstance => k_is); (case z_enumerate => k_is)
    (case z_str => k_is); (case z_zip => k_is); (case z_all => k_is); (case z_any => k_is); (case z_sum => k_is); (case z_abs => k_is); (case z_sorted => k_is); (case z_set => k_is)
    (case z_dict => k_is); (case z_reversed => k_is); (case z_divmod => k_is); (case m_MOST_LINES => k_is); (case m_MOST_ROWS => k_is); (case ea_TooDeepError => k_is); (case ea_InvalidLineError => k_is); (case ea_InvalidScrollError => k_is)
    (case ea_InvalidFoldsError => k_is); (case ea_InvalidDocumentError => k_is); (case ea_InvalidTitleError => k_is); (case ea_InvalidDepthError => k_is); (case ea_InvalidTextError => k_is); (case ea_HiddenLineError => k_is); (case ea_EndError => k_is); (case ea_TooManyLinesError => k_is)
    (case ea_EmptyOutlineError => k_is); (case ea_EmptyHistoryError => k_is); (case ea_InvalidObservationsError => k_is); (case zn_super => k_is); (case zn_ValueError => k_is); (case ea_InvalidOutlineError => k_is); (case eq_InvalidOutlineError => kernel_rfl); (case ek_InvalidOutlineError => k_is)
    (case ee_InvalidOutlineError => k_is); (case et_InvalidOutlineError => k_is); (case ea_InvalidNumberError => k_is); (case eq_InvalidNumberError => kernel_rfl); (case ek_InvalidNumberError => k_is); (case ee_InvalidNumberError => k_is); (case et_InvalidNumberError => k_is); (case ea_InvalidHeightError => k_is)
    (case eq_InvalidHeightError => kernel_rfl); (case ek_InvalidHeightError => k_is); (case ee_InvalidHeightError => k_is); (case et_InvalidHeightError => k_is); (case ea_InvalidReadingError => k_is); (case eq_InvalidReadingError => kernel_rfl); (case ek_InvalidReadingError => k_is); (case ee_InvalidReadingError => k_is)
    (case et_InvalidReadingError => k_is); (case ea_StickyHeadsError => k_is); (case eq_StickyHeadsError => kernel_rfl); (case ek_StickyHeadsError => k_is); (case ee_StickyHeadsError => k_is); (case et_StickyHeadsError => k_is); (case ei_StickyHeadsError => first | rfl | k_is); (case es_InvalidOutlineError_StickyHeadsError => first | rfl | k_is)
    (case es_InvalidHeightError_StickyHeadsError => first | rfl | k_is); (case es_InvalidNumberError_StickyHeadsError => first | rfl | k_is); (case es_InvalidReadingError_StickyHeadsError => first | rfl | k_is); (case es_TooDeepError_StickyHeadsError => first | rfl | k_is); (case yg_O => first | rfl | k_is | kernel_rfl); (case yh_O => first | rfl | k_is | kernel_rfl); (case yd_O => first | rfl | k_is | kernel_rfl); (case ys_O => first | rfl | k_is | kernel_rfl)
    (case ya_O => first | rfl | k_is | kernel_rfl); (case ym_O => first | rfl | k_is | kernel_rfl); (case yk_O => (repeat' (first | exact True.intro | refine And.intro ?_ ?_ | kernel_rfl))); (case yg_H => first | rfl | k_is | kernel_rfl); (case yh_H => first | rfl | k_is | kernel_rfl); (case yd_H => first | rfl | k_is | kernel_rfl); (case ys_H => first | rfl | k_is | kernel_rfl); (case ya_H => first | rfl | k_is | kernel_rfl)
    (case ym_H => first | rfl | k_is | kernel_rfl); (case yk_H => (repeat' (first | exact True.intro | refine And.intro ?_ ?_ | kernel_rfl))); (case yg_N => first | rfl | k_is | kernel_rfl); (case yh_N => first | rfl | k_is | kernel_rfl); (case yd_N => first | rfl | k_is | kernel_rfl); (case ys_N => first | rfl | k_is | kernel_rfl); (case ya_N => first | rfl | k_is | kernel_rfl); (case ym_N => first | rfl | k_is | kernel_rfl)
    (case yk_N => (repeat' (first | exact True.intro | refine And.intro ?_ ?_ | kernel_rfl))); (case yg_R => first | rfl | k_is | kernel_rfl); (case yh_R => first | rfl | k_is | kernel_rfl); (case yd_R => first | rfl | k_is | kernel_rfl); (case ys_R => first | rfl | k_is | kernel_rfl); (case ya_R => first | rfl | k_is | kernel_rfl); (case ym_R => first | rfl | k_is | kernel_rfl); (case yk_R => (repeat' (first | exact True.intro | refine And.intro ?_ ?_ | kernel_rfl)))
    (case yg_T => first | rfl | k_is | kernel_rfl); (case yh_T => first | rfl | k_is | kernel_rfl); (case yd_T => first | rfl | k_is | kernel_rfl); (case ys_T => first | rfl | k_is | kernel_rfl); (case ya_T => first | rfl | k_is | kernel_rfl); (case ym_T => first | rfl | k_is | kernel_rfl); (case yk_T => (repeat' (first | exact True.intro | refine And.intro ?_ ?_ | kernel_rfl))); (case y0n => first | rfl | k_is | kernel_rfl)
    (case y0t => first | rfl | k_is | kernel_rfl); (case ixL_iTooDeepError => (first | rfl | k_is | kernel_rfl | decide +kernel)); (case ixr_iTooDeepError => (first | rfl | k_is | kernel_rfl | decide +kernel)); (case ixs_iTooDeepError => (first | rfl | k_is | kernel_rfl | decide +kernel)); (case ixe_iTooDeepError => (first | rfl | k_is | kernel_rfl | decide +kernel)); (case ixt_iTooDeepError => (first | rfl | k_is | kernel_rfl | decide +kernel)); (case ixk_iTooDeepError => (first | rfl | k_is | kernel_rfl | decide +kernel)); (case ix7_iTooDeepError => (first | rfl | k_is | kernel_rfl | decide +kernel))
    (case ix1_iTooDeepError => (first | rfl | k_is | kernel_rfl | decide +kernel)); (case ix2_iTooDeepError => (first | rfl | k_is | kernel_rfl | decide +kernel)); (case ix3_iTooDeepError => (first | rfl | k_is | kernel_rfl | decide +kernel)); (case ix4_iTooDeepError => (first | rfl | k_is | kernel_rfl | decide +kernel)); (case ix5_iTooDeepError => (first | rfl | k_is | kernel_rfl | decide +kernel)); (case ix6_iTooDeepError => (first | rfl | k_is | kernel_rfl | decide +kernel)); (case ix8_iTooDeepError => (first | rfl | k_is | kernel_rfl | decide +kernel)); (case ix9_iTooDeepError => (first | rfl | k_is | kernel_rfl | decide +kernel))
    (case ixb_iTooDeepError => (first | rfl | k_is | kernel_rfl | decide +kernel)); (case ixm_iTooDeepError => (first | rfl | k_is | kernel_rfl | decide +kernel)); (case ixo_iTooDeepError => (first | rfl | k_is | kernel_rfl | decide +kernel)); (case ixn_iTooDeepError => (first | rfl | k_is | kernel_rfl | decide +kernel)); (case ixp_iTooDeepError => (first | rfl | k_is | kernel_rfl | decide +kernel))

