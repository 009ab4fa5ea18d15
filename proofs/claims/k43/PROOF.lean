import PyProof.Rows.All
import Wide.All
import OpenK.AllK
import Wide.FinOn
import PyProof.EqAt
import PyProof.EqKinds
import PyProof.TupleCall
import PyProof.ReprRoads
import HandS.Base
import HandS.Call
import HandS.List
import HandS.Comp
import HandS.Iter
import HandS.Ends
import HandS.Words
import HandS.WordsList
import PyProof.TypeEq
import PyProof.InstEq
import HandS.IsInst
import HandS.Zip
import HandS.Wide
import HandS.Evl
import HandS.Conv
import HandS.RevRange
import PyProof.ReprLen
import PyProof.Rows.RegStrFacts
import HandS.SetFor
import HandS.Strs
import HandS.SortInts
import PyProof.Rows.SortShellAny
import HandS.Dict
import HandS.Finally
import HandS.Exc
import HandS.TryOnly
import HandS.TryMany
import HandS.ExcOwn
import HandS.CallSlots
import HandS.WordsExc
import HandS.SortKw
import HandS.SortRule
import KE.DataMinMax
import HandS.ExcInit
import HandS.ExcIs
import HandS.ExcField
import HandS.HotCalls
import HandS.ExcValue
import KE.KExcSuper
import KE.KSuper
import PyProof.ReprReads
import HandS.DictTup
import HandS.ListItems
import KE.GoesMore
import KE.GoesEnum
import HandS.Style
import PySem.Challenge.RW_stickyheads_k43_errors_of_folds
set_option Elab.async false
set_option linter.all false
set_option maxRecDepth 100000
/-! SH0: calls where no repr is running: the promise of a def under an empty list of guards. -/
namespace SH
open PySem PySem.Spec PyProof.Rows L2

/-- nothing that guards itself (repr and its like) runs around -/
abbrev Quiet (A : Around) : Prop := A.guards = some []

structure FnG (P : Program) (w : World) (K : PySem.W.Frag) (mg : Str → Option Value) (base : Heap)
    (CX : CXT) (k : Nat) (f : Addr) (fd : FuncData) (ps : List Str) (sp : Sp) : Prop where
  arity : ∀ vs H Q E, sp vs H Q E → vs.length = ps.length
  go : ∀ (A : Around) (outer : List Env) (s : Shared) (H : Hp) (args : Args) (us : List Value) (vs : List V)
    (Q : VK) (E : XK), Room k A → Quiet A → Env0 P w K mg base A outer s H →
    BindsTo s fd args (ps.zip us) → Vals vs us → sp vs H Q E →
    codeAny (model P w) A (.call (.ref f) args) (CR CX outer P w H s Q E) s

section
variable {X : Cx} {CX : CXT} {k : Nat} {f : Addr} {fd : FuncData} {ps ks : List Str} {sp : Sp}
  {dvs : List V} {ds : List Value} {E : XK} {x : Str} {p pos : Pos} {e : Expr} {es : List Expr} {t tk : TA}
  {kws : List Keyword} {g : List Value → List Value → List Value} {gV : List V → List V → List V}

theorem endG {pins : List (Addr × Obj)} {σ : L2.St} {H : Hp} {s : Shared} {Q : VK} (I : Inv X pins σ H s)
    (hx : Passes CX X E) : ∀ (r : Result) (s' : Shared), CR CX X.stack X.prog X.w H s Q E r s' →
    (match r with
      | .ok (.ret u) => EP X pins σ Q u s'
      | .ok _ => False
      | .error e => X.xe e s')
  | .error e, s', q => hx pins σ H s e s' I q
  | .ok (.ret _), _, q => I.after q
  | .ok .next, _, q => False.elim q
  | .ok .brk, _, q => False.elim q
  | .ok .cont, _, q => False.elim q

theorem goG {pins : List (Addr × Obj)} {σ : L2.St} {H : Hp} {s : Shared} {Q : VK} {us : List Value} {vs : List V}
    (F : FnG X.prog X.w X.K X.mg X.base CX k f fd ps sp) (room : Room k X.A) (qt : Quiet X.A)
    (hb : Binds X.K fd ps ds) (hd : Vals dvs ds) (hx : Passes CX X E)
    (I : Inv X pins σ H s) (r : Vals vs us) (h : sp (vs ++ dvs) H Q E) :
    wpAny (model X.prog X.w) X.A (call (.ref f) us) (EP X pins σ Q) X.xe s := by
  have rr : Vals (vs ++ dvs) (us ++ ds) := r.append hd
  have hlen : (us ++ ds).length = ps.length := by rw [← rr.length]; exact F.arity _ _ _ _ h
  refine wpAny_call (codeAny_mono (F.go X.A X.stack s H ⟨us, []⟩ (us ++ ds) (vs ++ dvs) Q E room qt
    I.env0 (hb s us I.kIn hlen) rr h) fun r s' hq => ?_)
  have := endG I hx r s' hq
  cases r with
  | error e => exact this
  | ok fl => cases fl with
    | ret u => exact this
    | _ => exact False.elim this

theorem pe_callG (F : FnG X.prog X.w X.K X.mg X.base CX k f fd ps sp) (room : Room k X.A) (qt : Quiet X.A)
    (hg : Gl X x) (hm : X.mg x = some (.ref f)) (hk : PySem.W.keepIn X.K (.ref f) = true)
    (hb : Binds X.K fd ps ds) (hd : Vals dvs ds) (hx : Passes CX X E) (ha : PA X (e :: es) t)
    (hdb : (x == ("__debug__" : Str)) = false := by decide)
    (he : starEach (e :: es) X.env = (false, eval e X.env) :: starEach es X.env := by rfl)
    (hpl : (backTo pos (starEach es X.env)).any (·.1) = false := by rfl) :
    PE X (.Call (.Name x p) (e :: es) [] pos) (tCall sp dvs E t) :=
  ⟨fun pins s σ H Q I h => wpAny_Call_Name_kw (ld_glob I hg hm
    (PySem.W.callWith_K (h₀ := X.base) I.ok.mod.kin hk
      (thn (ha.run pos pins s σ H _ I h) fun us s1 ⟨vs, H1, I1, r, q⟩ =>
        ⟨I1.kIn, goG F room qt hb hd hx I1 r q⟩) he hpl) hdb)⟩

theorem pe_callG0 (F : FnG X.prog X.w X.K X.mg X.base CX k f fd ps sp) (room : Room k X.A) (qt : Quiet X.A)
    (hg : Gl X x) (hm : X.mg x = some (.ref f)) (hk : PySem.W.keepIn X.K (.ref f) = true)
    (hb : Binds X.K fd ps ds) (hd : Vals dvs ds) (hx : Passes CX X E)
    (hdb : (x == ("__debug__" : Str)) = false := by decide) :
    PE X (.Call (.Name x p) [] [] pos) (tCall sp dvs E tNil) :=
  ⟨fun pins s σ H Q I h => wpAny_Call_Name_kw (ld_glob I hg hm
    (PySem.W.callWith_K0 I.kIn hk (goG (us := []) F room qt hb hd hx I .nil h)) hdb)⟩

theorem goGK {pins : List (Addr × Obj)} {σ : L2.St} {H : Hp} {s : Shared} {Q : VK} {us ws : List Value}
    {vs zs : List V} (F : FnG X.prog X.w X.K X.mg X.base CX k f fd ps sp) (room : Room k X.A) (qt : Quiet X.A)
    (hb : KBinds X.K fd ps ks g gV) (hx : Passes CX X E)
    (I : Inv X pins σ H s) (r : Vals vs us) (rz : Vals zs ws) (h : sp (gV vs zs) H Q E) :
    wpAny (model X.prog X.w) X.A (call (.ref f) us (ks.zip ws)) (EP X pins σ Q) X.xe s := by
  have rr := hb.rel r rz
  have hlen : (g us ws).length = ps.length := by rw [← rr.length]; exact F.arity _ _ _ _ h
  refine wpAny_call (codeAny_mono (F.go X.A X.stack s H ⟨us, ks.zip ws⟩ (g us ws) (gV vs zs) Q E room qt
    I.env0 (hb.to s us ws I.kIn hlen) rr h) fun r s' hq => ?_)
  have := endG I hx r s' hq
  cases r with
  | error e => exact this
  | ok fl => cases fl with
    | ret u => exact this
    | _ => exact False.elim this

/-- f(k = v, ..): no argument by position -/
theorem pe_callGK0 (F : FnG X.prog X.w X.K X.mg X.base CX k f fd ps sp) (room : Room k X.A)
    (qt : Quiet X.A) (hg : Gl X x) (hm : X.mg x = some (.ref f)) (hk : PySem.W.keepIn X.K (.ref f) = true)
    (hb : KBinds X.K fd ps ks g gV) (hx : Passes CX X E) (hkw : PK X kws tk)
    (hall : (backToKw pos (keywordEach kws X.env)).all (·.1.isSome) = true := by rfl)
    (hks : (backToKw pos (keywordEach kws X.env)).filterMap (·.1) = ks := by rfl)
    (hdb : (x == ("__debug__" : Str)) = false := by decide)
    (hpl : ((backTo pos (starEach [] X.env)).any (·.1) ||
      (backToKw pos (keywordEach kws X.env)).any (·.1.isNone)) = false := by rfl) :
    PE X (.Call (.Name x p) [] kws pos) (tCallK sp gV E tNil tk) :=
  ⟨fun pins s σ H Q I h => wpAny_Call_Name_kw (ld_glob I hg hm
    (PySem.W.callWith_KW0 (h₀ := X.base) I.ok.mod.kin hk hall
      (thn (hkw.run pos pins s σ H _ I h) fun ws s2 ⟨zs, H2, I2, rz, q2⟩ => ⟨I2.kIn, by
        rw [hks]
        exact goGK (us := []) (vs := []) F room qt hb hx I2 .nil rz q2⟩) hpl) hdb)⟩
end

/-! ### a def of the text, walked where all is quiet -/
section
variable {P : Program} {w : World} {K : PySem.W.Frag} {mg : Str → Option Value} {base : Heap}

theorem FnG.of {CX : CXT} {x qual : Str} {st : Stmt} {f : Addr} {fd : FuncData} {N ps : List Str} {k : Nat} {sp : Sp}
    (F : Fun K x qual st f fd) (S : FnScope N ps (defScope st)) (len : ∀ vs H Q E, sp vs H Q E → vs.length = ps.length)
    (walk : ∀ (cdv : Value) (A : Around) (outer : List Env) (s : Shared) (H : Hp) (vs : List V) (Q : VK) (E : XK),
      Room k (A.deeper (envOfC qual (defScope st) s.heap.objs.size f cdv)) →
      Quiet (A.deeper (envOfC qual (defScope st) s.heap.objs.size f cdv)) → sp vs H Q E →
      ∃ t, PSs (cxOf CX P w K mg base N qual (defScope st) f cdv A outer s H E) (defBody st) t ∧
        t { nx := fun _ H' => Q .non H', rt := Q } (start N vs) H) :
    FnG P w K mg base CX (k + 1) f fd ps sp := by
  obtain ⟨oc, od, kV, doc, pm, an, cdv, ct, osl, rfl, lk, hcd⟩ := F.ex
  refine ⟨len, fun A outer s H args us vs Q E room qt e0 hb r hsp => ?_⟩
  have hl := len _ _ _ _ hsp
  have inK : K.In s.heap := e0.mod.kin.keeps fun b o e => (e0.bs b o e).1
  have lim : s.heap.NoLimit := e0.mod.nolimit.keeps fun b o e => (e0.bs b o e).1
  have kinds : ∀ y ∈ ps.zip us, (defScope st).names.lookup y.1 = some .local ∨
      ((defScope st).names.lookup y.1 = some .cell ∧
        ((cellsFrom (s.heap.objs.size + 1) (defScope st).names []).lookup y.1).isSome = true) := by
    rintro ⟨n, v⟩ hy
    rcases S.par n (List.of_mem_zip hy).1 with z | z
    · exact .inl z
    · exact .inr ⟨z, PySem.W.cellsFrom_some _ _ _ (.inl z)⟩
  refine codeAny_call_function room.depth (inK _ _ lk) rfl S.co S.gen rfl (PySem.W.codeRec_of inK hcd) (hb _ _ _ _ ?_)
  refine wpAny_newFunctionEnv_cells S.kind kinds fun env he s1 ic => ?_
  subst he
  refine ⟨lim.keeps ic.toInCall.keep, codeAny_func ?_⟩
  obtain ⟨t, ht, hq⟩ := walk cdv A outer s H vs Q E (room.deeper _) (by exact qt) hsp
  have I := inv_start (CX := CX) (E := E) (P := P) (w := w) S room.hd e0 hl r ic
  refine wpAny_mono (ht.run [] s1 (start N vs) H _ I hq) (fun fl s' hs => ?_) fun e s' hs => hs
  cases fl with
  | ret u =>
    obtain ⟨v, σ', H', J, rv, q⟩ := hs
    exact ⟨v, H', J.os, J.bare, J.base, J.hok, rv, q⟩
  | next =>
    obtain ⟨σ', H', J, q⟩ := hs
    exact ⟨V.non, H', J.os, J.bare, J.base, J.hok, rfl, q⟩
  | brk => obtain ⟨_, _, _, q⟩ := hs; exact q.elim
  | cont => obtain ⟨_, _, _, q⟩ := hs; exact q.elim

/-- for a def that lets no error out -/
theorem FnG.ok {x qual : Str} {st : Stmt} {f : Addr} {fd : FuncData} {N ps : List Str} {k : Nat} {sp : Sp}
    (F : Fun K x qual st f fd) (S : FnScope N ps (defScope st)) (len : ∀ vs H Q E, sp vs H Q E → vs.length = ps.length)
    (walk : ∀ (cdv : Value) (A : Around) (outer : List Env) (s : Shared) (H : Hp) (vs : List V) (Q : VK) (E : XK),
      Room k (A.deeper (envOfC qual (defScope st) s.heap.objs.size f cdv)) →
      Quiet (A.deeper (envOfC qual (defScope st) s.heap.objs.size f cdv)) → sp vs H Q E →
      ∃ t, PSs (cxOf CX0 P w K mg base N qual (defScope st) f cdv A outer s H E).nox (defBody st) t ∧
        t { nx := fun _ H' => Q .non H', rt := Q } (start N vs) H) :
    FnG P w K mg base CX0 (k + 1) f fd ps sp :=
  FnG.of F S len fun cdv A outer s H vs Q E room qt hsp =>
    let ⟨t, h, q⟩ := walk cdv A outer s H vs Q E room qt hsp
    ⟨t, h.nox, q⟩
theorem FnG.mono {CX : CXT} {j k : Nat} {f : Addr} {fd : FuncData} {ps : List Str} {sp : Sp}
    (F : FnG P w K mg base CX j f fd ps sp) (h : j ≤ k) : FnG P w K mg base CX k f fd ps sp :=
  ⟨F.arity, fun A outer s H args us vs Q E room => F.go A outer s H args us vs Q E (room.mono h)⟩
end

/-! ### the law's own call: nothing runs around it -/
theorem frz_or {H : Hp} (hO : Only H) {b : Addr} {u : HO} (e : H b = some u) : ∃ o xs, u = .frz o (.lst xs) := by
  rcases hO b with z | ⟨o, xs, z⟩
  · rw [z] at e; cases e
  · rw [z] at e; exact ⟨o, xs, (Option.some.inj e).symm⟩

theorem lawG {P : Program} {w : World} {K : PySem.W.Frag} {mg mb : Str → Option Value} {CX : CXT} {k : Nat}
    {fa a : Addr} {fd : FuncData} {x : Str} {sp : Sp} {s₁ : Shared} {vs : List Value} {ns : List Int}
    (inK : K.In s₁.heap) (hns : s₁.heap.Ns mainGlobals mg) (hb : s₁.heap.Ns builtinsNs mb)
    (hbb : ∀ x : Str, x ≠ "__name__" → mb x = bootBuiltins x) (hlim : s₁.heap.NoLimit) (hg : s₁.gens = #[])
    (ha : s₁.heap.get? a = some { cls := .type "list", data := .seq vs.toArray }) (hi : IntsAre vs ns)
    (hl : ns.length ≤ sizeLine) (room : Room k callerA)
    (F : ∀ base : Heap, K.In base → base.Ns mainGlobals mg → FnG P w K mg base CX k fa fd [x] sp)
    (hbind : ∀ (s : Shared) (u : Value), BindsTo s fd ⟨[u], []⟩ [(x, u)])
    (hsp : ∀ H : Hp, Only H → SqL K H a (ns.map V.int) → sp [.ref a] H (fun v _ => v = .bl true) fun _ _ _ => False)
    (hCX : ∀ H e s', CX [] H s₁ (fun _ _ _ => False) e s' → False) :
    codeAny (model P w) callerA (.call (.ref fa) ⟨[.ref a], []⟩)
      (fun r s' => r = .ok (.ret (.bool true)) ∧ OldK s₁.heap s'.heap ∧ s'.os = s₁.os ∧ AllBare s'.gens) s₁ := by
  have rv := vals_ints hi
  have lenV := hi.length
  suffices core : ∀ H : Hp, Only H → SqL K H a (ns.map V.int) → HOk P w H s₁.heap →
      (∀ b o, s₁.heap.get? b = some o → (b ≠ a ∨ (K.lookup b).isSome = true) → H b = none) →
      codeAny (model P w) callerA (.call (.ref fa) ⟨[.ref a], []⟩)
        (fun r s' => r = .ok (.ret (.bool true)) ∧ OldK s₁.heap s'.heap ∧ s'.os = s₁.os ∧ AllBare s'.gens) s₁ by
    cases hk : K.lookup a with
    | some o =>
      have e := inK a o hk
      rw [ha] at e
      cases e
      exact core (fun _ => none) (fun _ => .inl rfl)
        (.inr ⟨_, vs.toArray, _, hk, rfl, rfl, rfl, by rw [List.size_toArray, lenV]; exact hl, by simpa using rv⟩)
        (fun b u z => by have z' : (none : Option HO) = some u := z; cases z') (fun _ _ _ _ => rfl)
    | none =>
      let H1 : Hp := fun b => if b = a then some (.frz { cls := .type "list", data := .seq vs.toArray } (.lst (ns.map V.int))) else none
      have h1a : H1 a = some (.frz { cls := .type "list", data := .seq vs.toArray } (.lst (ns.map V.int))) := if_pos rfl
      have h1n : ∀ b, b ≠ a → H1 b = none := fun b h => if_neg h
      refine core H1 (fun b => ?_) (.inl (.inr ⟨_, h1a⟩)) (fun b u z => ?_) (fun b o _ h => ?_)
      · by_cases hb : b = a
        · subst hb; exact .inr ⟨_, _, h1a⟩
        · exact .inl (h1n b hb)
      · by_cases hb : b = a
        · subst hb
          rw [h1a] at z
          cases z
          exact ⟨ha, by rw [List.length_map]; exact hl, vs, _, rv, ha⟩
        · rw [h1n b hb] at z; cases z
      · rcases h with h | h
        · exact h1n b h
        · by_cases hb : b = a
          · subst hb; rw [hk] at h; cases h
          · exact h1n b hb
  intro H hO hS hok hN
  have down : ∀ {b : Addr} {o : Obj}, s₁.heap.get? b = some o → (b ≠ a ∨ (K.lookup b).isSome = true) →
      (hidT s₁.heap H).get? b = some o := fun e c => hidT_get e (hN _ _ e c)
  have nsK : ∀ {b : Addr} {m : Str → Option Value}, s₁.heap.Ns b m → (hidT s₁.heap H).Ns b m := by
    rintro b m ⟨o, es, ep, e, d, r⟩
    refine ⟨o, es, ep, down e (.inl ?_), d, r⟩
    rintro rfl
    rw [ha] at e
    cases e
    cases d
  have hKb : K.In (hidT s₁.heap H) := fun b o e => down (inK b o e) (.inr (by rw [e]; rfl))
  have hM : Mod K mg (hidT s₁.heap H) := ⟨hKb, nsK hns, ⟨mb, nsK hb, hbb⟩, let ⟨mc, h1, h2⟩ := hlim; ⟨mc, nsK h1, h2⟩⟩
  have e0 : Env0 P w K mg (hidT s₁.heap H) callerA [] s₁ H := ⟨rfl, hM, fun b o e => of_hidT e,
    Nat.le_of_eq (hidT_size _ _), trivial, fun b hb => (List.not_mem_nil hb).elim, hok, AllBare.of_eq hg⟩
  refine codeAny_mono ((F _ hKb (nsK hns)).go callerA [] s₁ H ⟨[.ref a], []⟩ [.ref a] [.ref a] _ _ room rfl e0
    (hbind s₁ (.ref a)) (.cons rfl .nil) (hsp H hO hS)) fun r s' h => ?_
  match r, h with
  | .error e, h => exact (hCX H e s' h).elim
  | .ok .next, h => exact False.elim h
  | .ok .brk, h => exact False.elim h
  | .ok .cont, h => exact False.elim h
  | .ok (.ret u), h =>
    obtain ⟨v, H', os, bare, un, hok', r', q⟩ := h
    obtain rfl : v = .bl true := q
    obtain rfl : u = Value.bool true := r'
    refine ⟨rfl, OldK.of_keep fun b o e => ?_, os, bare⟩
    cases q : H b with
    | none => exact un.keep b o e q (List.not_mem_nil) (by simp)
    | some u =>
      obtain ⟨ob, xs, rfl⟩ := frz_or hO q
      obtain ⟨e1, _⟩ := hok b _ q
      obtain ⟨e2, _⟩ := hok' b _ (un.frzs b ob _ q)
      rw [e] at e1
      cases e1
      exact e2

theorem walkG {l : PySem.W.OpenLaw} {n k : Nat} {q : Program} {loose : List Str} {XP : (Str → Option Value) → Heap → Prop}
    {YP : World → Heap → Prop} {d : DefRec} {K : Params → PySem.W.Frag} {CX : World → CXT} {sp : World → Sp} {x : Str}
    (hn : l.most = some n) (hn2 : n ≤ sizeLine) (hdf : d.params.defaults = []) (room : Room k callerA)
    (hY : ∀ (w : World) (h : Heap), YP w h → (K w.params).In h)
    (F : ∀ (w : World) (mg : Str → Option Value) (fa : Addr) (h : Heap), (K w.params).In h → h.Ns mainGlobals mg →
      mg d.name = some (.ref fa) → ∃ fd : FuncData, (∀ (s : Shared) (u : Value), BindsTo s fd ⟨[u], []⟩ [(x, u)]) ∧
        ∀ base : Heap, (K w.params).In base → base.Ns mainGlobals mg →
          FnG l.prog w (K w.params) mg base (CX w) k fa fd [x] (sp w))
    (hsp : ∀ (w : World) (H : Hp) (a : Addr) (ns : List Int), ns.length ≤ n → Only H →
      SqL (K w.params) H a (ns.map V.int) → sp w [.ref a] H (fun v _ => v = .bl true) fun _ _ _ => False)
    (hCX : ∀ (w : World) (H : Hp) (s : Shared) (e : Value) (s' : Shared),
      CX w [] H s (fun _ _ _ => False) e s' → False) :
    PySem.W.WalkO q loose XP YP l.row.toRowW d [] (fun f vs => PySem.call f vs) := by
  refine Att.attach_call hn hdf fun w s₀ s₁ mg mb fa o pm cd doc a vs ns G Y ho hd hcd hmg hobj hints hlen hg => ?_
  obtain ⟨fd, hb, hF⟩ := F w mg fa _ (hY w _ Y) G.T.g hmg
  exact lawG (hY w _ Y) G.T.g G.T.b G.T.builtins G.T.nolimit hg hobj hints (Nat.le_trans hlen hn2) room hF hb
    (fun H hO hS => hsp w H a ns hlen hO hS) fun H e s' => hCX w H s₁ e s'

end SH

/-! SH1: operations that the layer does not have yet: great powers, repr of data, types compared, enumerate. -/
namespace SH
open PySem PySem.Spec PyProof.Rows L2

section
variable {X : Cx}
/-! ### powers of great numbers -/
def PowC (i j : Int) : Prop := 0 ≤ j ∧ (Builtin.Int.intBits i : Int) * j ≤ 2 ^ 27
theorem op_powG : OpR X (binaryOp .Pow) (rI PowC fun i j => .int (i ^ j.toNat)) :=
  opI fun _ _ _ _ _ _ _ c q => pow_int c.1 c.2 q
theorem cube_ok {i : Int} (h : i.natAbs < 2 ^ 4000) : PowC i 3 := by
  refine ⟨by decide, ?_⟩
  have := intBits_le (k := 4000) h
  have e : (2 : Int) ^ 27 = 134217728 := by decide
  omega
theorem ten_ok {j : Int} (h0 : 0 ≤ j) (h : j ≤ 1000) : PowC 10 j := by
  refine ⟨h0, ?_⟩
  have e1 : Builtin.Int.intBits 10 = 4 := by decide
  have e : (2 : Int) ^ 27 = 134217728 := by decide
  rw [e1]
  omega

/-! ### repr -/
/-- data as it is shown -/
def Shows (K : PySem.W.Frag) (H : Hp) (x : V) (d : PyData) : Prop :=
  Dp K H x d ∧ d.showable = true ∧ d.hasDict = false ∧ d.depth ≤ 60 ∧ d.shown.length ≤ sizeLine
def rRepr (K : PySem.W.Frag) : List V → Hp → VK → Prop := fun xs H Q =>
  ∃ (a : Addr) (d : PyData), xs = [.ref a] ∧ Shows K H (.ref a) d ∧ Q (.str d.shown) H
theorem call_reprR (qt : Quiet X.A) (hu : X.A.units + 64 < cLine) : CallR X (.builtin "repr") (rRepr X.K) := by
  intro pins s σ H xs us Q I r h
  obtain ⟨a, d, rfl, ⟨hd, h1, h2, h3, h4⟩, q⟩ := h
  cases r with
  | cons ra rr =>
    cases rr
    cases ra
    obtain ⟨as, rd⟩ := Dp.reads I d _ (.ref a) hd rfl
    exact repr_of_reads' rd h1 (noDict_hsm' h2) qt (by omega) (fun _ _ e => e)
      (fun h' u tk hk => ⟨.str d.shown, H, I.kept hk, ⟨u, rfl⟩, q⟩) h4
where
  noDict_hsm' {d : PyData} {as : List Addr} (h : d.hasDict = false) : d.hasDict = true → sysModules ∉ as :=
    fun e => by rw [h] at e; cases e

end

/-! ### built-in types compared -/
open Sem (wp)
theorem slot_ty_ne : Slot "type" (cmpInfo .NotEq).2.1 "object.__ne__" :=
  .of (owner := "object") (n := "__ne__") (by rw [typeLookup_type, builtinLookup_eq_fast]; kernel_rfl)
    (by decide +kernel) (by decide +kernel) (by decide +kernel)
    (by first | exact .inl (by decide +kernel) | exact .inr (by decide +kernel)) (by rw [isSubtype_type]; kernel_rfl)
theorem slot_ty_ne_refl : Slot "type" (cmpInfo .NotEq).2.2 "object.__ne__" :=
  .of (owner := "object") (n := "__ne__") (by rw [typeLookup_type, builtinLookup_eq_fast]; kernel_rfl)
    (by decide +kernel) (by decide +kernel) (by decide +kernel)
    (by first | exact .inl (by decide +kernel) | exact .inr (by decide +kernel)) (by rw [isSubtype_type]; kernel_rfl)

section
variable {prog : Program} {w : World} {A : Around} {E : Value → Shared → Prop} {s : Shared} {Q : Value → Shared → Prop}
/-- X.__eq__(Y) of two built-in types -/
theorem sp_eq_ty {a b : String} {R : Option Value → Shared → Prop} (ha : ∀ s' : Shared, s'.TypeIs (.type a) "type")
    (h : (if a = b then R (some (.bool true)) s else R (some .notImplemented) s)) :
    wpAny (model prog w) A (callSpecialIfBound? (.type a) "__eq__" [.type b]) R E s := by
  have slot : Slot "type" ("__eq__" : Str) "object.__eq__" := TypeEq.slot_type_eq
  refine wpAny_callSpecialIfBound?_slot (name := Str.ofString "__eq__") (ha s) slot ?_
  by_cases e : a = b
  · subst e
    rw [if_pos rfl] at h
    exact call_gives slot (ha s) F.entry_object_eq (F.args_object_eq_2 _ _) (TypeEq.object_eq_same rfl (by simp)) h
  · rw [if_neg e] at h
    exact call_gives slot (ha s) F.entry_object_eq (F.args_object_eq_2 _ _)
      (TypeEq.object_eq_other rfl (by simpa using e)) h

theorem call_ne_ty {a b : String} {R : Value → Shared → Prop} (ha : ∀ s' : Shared, s'.TypeIs (.type a) "type")
    (h : (if a = b then R (.bool false) s else R .notImplemented s)) :
    wpAny (model prog w) A (call (.builtin "object.__ne__") [.type a, .type b]) R E s := by
  refine wpAny_call_entry slot_ty_ne (ha s) F.cmpEntry_ne ?_ (F.args_object_ne_2 _ _)
  unfold Builtin.«object.__ne__»
  by_cases e : a = b
  · subst e
    rw [if_pos rfl] at h
    repeat (first | with_reducible refine wpAny_cRoomFor_or (.inl rfl) ?_ | with_reducible refine sp_eq_ty ha ?_ | rw [if_pos rfl] | wp_step)
    exact ⟨_, rfl, h⟩
  · rw [if_neg e] at h
    repeat (first | with_reducible refine wpAny_cRoomFor_or (.inl rfl) ?_ | with_reducible refine sp_eq_ty ha ?_ | rw [if_neg e] | wp_step)
    exact ⟨_, rfl, h⟩

theorem ne_ty_same {a : String} (ha : ∀ s' : Shared, s'.TypeIs (.type a) "type") (h : Q (.bool false) s) :
    wpAny (model prog w) A (compareOp .NotEq (.type a) (.type a)) Q E s := by
  show wpAny _ A (richCompare .NotEq _ _) Q E s
  exact wpAny_richCompare_same (op := .NotEq) (T := "type") (ha s) (ha s) slot_ty_ne
    (call_ne_ty ha (by rw [if_pos rfl]; exact ⟨(by intro e; cases e), h⟩))
end

theorem rc_ne_same_decline {M : Model} {A : Around} {E : Value → Shared → Prop} {s : Shared} {a b : Value} {T id : String}
    {k : Bool} {Q : Value → Shared → Prop} (ha : ∀ s' : Shared, s'.TypeIs a T) (hb : ∀ s' : Shared, s'.TypeIs b T)
    (h1 : Slot T (cmpInfo .NotEq).2.1 id) (h2 : Slot T (cmpInfo .NotEq).2.2 id) (hv : [a, b].any Value.onHeap = false)
    (hk : isSame a b = pure k)
    (hc : wpAny M A (call (.builtin id) [a, b]) (fun v s₁ => v = .notImplemented ∧
      wpAny M A (call (.builtin id) [b, a]) (fun v s₂ => v = .notImplemented ∧ Q (.bool (!k)) s₂) E s₁) E s) :
    wpAny M A (richCompare .NotEq a b) Q E s := by
  rcases hi : cmpInfo CmpOp.NotEq with ⟨sym, f, r⟩
  rw [hi] at h1 h2
  simp only [richCompare, hi, (ha s).oneThing_none]
  try with_reducible refine wpAny_holding ?_
  refine wpAny_bind (wpAny_cRoomFor_or (.inl hv) (wpAny_bind (wpAny_typeOf (ha s) (wpAny_bind (wpAny_typeOf (hb s) ?_)))))
  simp only [bne_self_eq_false, Bool.false_eq_true, if_false, pure_bind, Bool.not_false, if_true]
  refine wpAny_bind (m := tryCompare a _ b) (wpAny_tryCompare_declines (ha s) h1
    (wpAny_mono hc (fun v s₁ q1 => ⟨q1.1, ?_⟩) fun _ _ x => x))
  refine wpAny_bind (m := tryCompare b _ a) (wpAny_tryCompare_declines (hb s₁) h2
    (wpAny_mono q1.2 (fun v s₂ q2 => ⟨q2.1, ?_⟩) fun _ _ x => x))
  exact wpAny_bind (wpAny_rule (wpAny_bind (wpAny_of_eq hk (wpAny_pure q2.2))))

section
variable {prog : Program} {w : World} {A : Around} {E : Value → Shared → Prop} {s : Shared} {Q : Value → Shared → Prop}
theorem ne_ty_other {a b : String} (ha : ∀ s' : Shared, s'.TypeIs (.type a) "type")
    (hb : ∀ s' : Shared, s'.TypeIs (.type b) "type") (ne : a ≠ b) (h : Q (.bool true) s) :
    wpAny (model prog w) A (compareOp .NotEq (.type a) (.type b)) Q E s := by
  show wpAny _ A (richCompare .NotEq _ _) Q E s
  refine rc_ne_same_decline (T := "type") (k := false) ha hb slot_ty_ne slot_ty_ne_refl rfl
    (by rw [isSame_plain rfl]; have : (Value.type a == Value.type b) = false := by simpa using ne
        rw [this]) ?_
  refine call_ne_ty ha ?_
  rw [if_neg ne]
  refine ⟨rfl, call_ne_ty hb ?_⟩
  rw [if_neg (Ne.symm ne)]
  exact ⟨rfl, h⟩
end

/-- the built-in types that a value may have here -/
def tyNames : List String := ["int", "str", "bool", "NoneType", "list", "tuple", "dict", "set", "float"]
theorem ty_meta {n : String} (h : n ∈ tyNames) (s' : Shared) : s'.TypeIs (.type n) "type" := by
  simp only [tyNames, List.mem_cons, List.not_mem_nil, or_false] at h
  rcases h with rfl | rfl | rfl | rfl | rfl | rfl | rfl | rfl | rfl
  · exact TypeEq.meta_int s'
  · exact TypeEq.meta_str s'
  · exact TypeEq.meta_bool s'
  · exact TypeEq.meta_NoneType s'
  · exact TypeEq.meta_list s'
  · exact TypeEq.meta_tuple s'
  · exact TypeEq.meta_dict s'
  · exact TypeEq.meta_set s'
  · exact TypeEq.meta_float s'
def rNeTy : R2 := fun x y H Q => ∃ a b, x = .ty a ∧ y = .ty b ∧ a ∈ tyNames ∧ b ∈ tyNames ∧ Q (.bl (decide (a ≠ b))) H
theorem op_neTy {X : Cx} : OpR X (compareOp .NotEq) rNeTy := by
  intro pins s σ H x y v u Q I rx ry h
  obtain ⟨a, b, rfl, rfl, ha, hb, q⟩ := h
  cases rx
  cases ry
  by_cases e : a = b
  · subst e
    exact ne_ty_same (ty_meta ha) ⟨.bl false, H, I, rfl, by simpa using q⟩
  · exact ne_ty_other (ty_meta ha) (ty_meta hb) e ⟨.bl true, H, I, rfl, by simpa [e] using q⟩

/-! ### for i, x in enumerate(xs) -/
theorem for_enum {K : PySem.W.Frag} {a : Addr} {xs : List V} {g : TG} {tb : TS} {D : Ends} {σ : L2.St} {H : Hp}
    (Pv : Nat → L2.St → Hp → Prop) (h0 : Pv 0 σ H) (hl : ∀ i σ H, i ≤ xs.length → Pv i σ H → SqL K H a xs)
    (hs : ∀ (i : Nat) (x : V) (T : Addr) σ H, xs[i]? = some x → Pv i σ H → H T = none →
      g (.ref T) σ (upd H T (.tup [.int i, x])) fun σ2 H2 => tb { D with nx := Pv (i + 1), ct := Pv (i + 1), bk := D.nx } σ2 H2)
    (hd : ∀ σ H, Pv xs.length σ H → D.nx σ H) :
    ∃ W : Nat → Nat → L2.St → Hp → Prop, (∃ m, W 0 m σ H) ∧ ∀ i m σ H, W i m σ H →
      ((Ite K a).stop i H ∧ D.nx σ H) ∨ ((Ite K a).go i H ∧ ∃ N : L2.St → Hp → Prop,
        (∀ σ' H', N σ' H' → ∃ m', m' < m ∧ W (i + 1) m' σ' H') ∧
        ∀ x H', (Ite K a).yld i H x H' → g x σ H' fun σ2 H2 => tb { D with nx := N, ct := N, bk := D.nx } σ2 H2) := by
  refine ⟨fun i m σ H => m = xs.length - i ∧ i ≤ xs.length ∧ Pv i σ H, ⟨_, rfl, Nat.zero_le _, h0⟩, ?_⟩
  rintro i m σ H ⟨rfl, hi, p⟩
  have hq := hl i σ H hi p
  rcases Nat.lt_or_ge i xs.length with lt | ge
  · refine .inr ⟨⟨xs, xs[i], hq, List.getElem?_eq_getElem lt⟩, Pv (i + 1), fun σ' H' p' => ⟨_, ?_, rfl, lt, p'⟩, ?_⟩
    · omega
    · rintro v H' ⟨T, x, rfl, hT, rfl, f⟩
      exact hs i x T σ H (f xs hq) p hT
  · obtain rfl : i = xs.length := Nat.le_antisymm hi ge
    exact .inl ⟨⟨xs, hq, Nat.le_refl _⟩, hd σ H p⟩
end SH

/-! SH2: defs by name: what stands at a name of the module, calls of it by place and by keyword. -/
namespace SH
open PySem PySem.Spec PyProof.Rows L2

/-- the def `st` stands at the name `x` of the module and keeps the promise `sp` -/
def Has (P : Program) (w : World) (K : PySem.W.Frag) (mg : Str → Option Value) (base : Heap) (CX : CXT) (k : Nat)
    (x : Str) (st : Stmt) (ps : List Str) (sp : Sp) : Prop :=
  ∃ f fd, Fun K x x st f fd ∧ mg x = some (.ref f) ∧ FnG P w K mg base CX k f fd ps sp ∧ L2.Binds K fd ps []
/-- the def `st` stands at the name `x` -/
def At (K : PySem.W.Frag) (mg : Str → Option Value) (x : Str) (st : Stmt) : Prop :=
  ∃ f fd, Fun K x x st f fd ∧ mg x = some (.ref f)

section
variable {X : Cx} {CX : CXT} {k : Nat} {st : Stmt} {ps ks : List Str} {sp : Sp} {E : XK} {x : Str} {p pos : Pos}
  {e : Expr} {es : List Expr} {t tk : TA} {kws : List Keyword}

theorem pe_has (h : Has X.prog X.w X.K X.mg X.base CX k x st ps sp) (room : Room k X.A) (qt : Quiet X.A) (hg : Gl X x)
    (hx : Passes CX X E) (ha : PA X (e :: es) t) (hdb : (x == ("__debug__" : Str)) = false := by decide)
    (he : starEach (e :: es) X.env = (false, eval e X.env) :: starEach es X.env := by rfl)
    (hpl : (backTo pos (starEach es X.env)).any (·.1) = false := by rfl) :
    PE X (.Call (.Name x p) (e :: es) [] pos) (tCall sp [] E t) := by
  obtain ⟨f, fd, F, m, G, b⟩ := h
  exact pe_callG G room qt hg m F.kp b .nil hx ha hdb he hpl

/-- how the keywords' values come to the parameters: by a permutation of places -/
structure KwOk (x : Str) (st : Stmt) (ps ks : List Str) (g : {α : Type} → List α → List α) : Prop where
  to : ∀ (kV doc pm : Value) (an : Option Addr) (cdv ct : Value) (ws : List Value), ws.length = ks.length →
    bindArgs (PySem.W.fnOf x x (defArgs st) (defBody st) (defScope st) .none kV doc pm an cdv ct) ⟨[], ks.zip ws⟩ =
      pure (ps.zip (g ws))
  rel : ∀ {zs : List V} {ws : List Value}, Vals zs ws → Vals (g zs) (g ws)
  len : ∀ (ws : List Value), (g ws).length = ps.length → ws.length = ks.length
  ne : ps.length ≠ 0

def onlyKw (g : {α : Type} → List α → List α) : {α : Type} → List α → List α → List α := fun us ws =>
  match us with
  | [] => g ws
  | _ => []

theorem pe_hasK0 {g : {α : Type} → List α → List α} (h : Has X.prog X.w X.K X.mg X.base CX k x st ps sp)
    (room : Room k X.A) (qt : Quiet X.A) (hg : Gl X x) (kb : KwOk x st ps ks g) (hx : Passes CX X E)
    (hkw : PK X kws tk) (hall : (backToKw pos (keywordEach kws X.env)).all (·.1.isSome) = true := by rfl)
    (hks : (backToKw pos (keywordEach kws X.env)).filterMap (·.1) = ks := by rfl)
    (hdb : (x == ("__debug__" : Str)) = false := by decide)
    (hpl : ((backTo pos (starEach [] X.env)).any (·.1) ||
      (backToKw pos (keywordEach kws X.env)).any (·.1.isNone)) = false := by rfl) :
    PE X (.Call (.Name x p) [] kws pos) (tCallK sp (onlyKw g) E tNil tk) := by
  obtain ⟨f, fd, F, m, G, _⟩ := h
  refine pe_callGK0 G room qt hg m F.kp (g := onlyKw g) ⟨fun s us ws _ hl => ?_, fun {vs us zs ws} r rz => ?_⟩ hx hkw hall hks hdb hpl
  · obtain ⟨oc, od, kV, doc, pm, an, cdv, ct, osl, rfl, lk, hcd⟩ := F.ex
    cases us with
    | nil => exact .of_eq (kb.to kV doc pm an cdv ct ws (kb.len ws hl))
    | cons u us => exact absurd hl.symm kb.ne
  · cases r with
    | nil => exact kb.rel rz
    | cons _ _ => exact .nil
end

section
variable {P : Program} {w : World} {K : PySem.W.Frag} {mg : Str → Option Value} {base : Heap}
/-- THE RULE for a def at a name of the module that lets no error out -/
theorem Has.of {x : Str} {st : Stmt} {N ps : List Str} {k : Nat} {sp : Sp} (at_ : At K mg x st)
    (S : FnScope N ps (defScope st)) (len : ∀ vs H Q E, sp vs H Q E → vs.length = ps.length)
    (bd : ∀ (kV doc pm : Value) (an : Option Addr) (cdv ct : Value) (us : List Value), us.length = ps.length →
      bindArgs (PySem.W.fnOf x x (defArgs st) (defBody st) (defScope st) .none kV doc pm an cdv ct) ⟨us, []⟩ = pure (ps.zip us))
    (walk : ∀ (f : Addr) (cdv : Value) (A : Around) (outer : List Env) (s : Shared) (H : Hp) (vs : List V) (Q : VK) (E : XK),
      Room k (A.deeper (envOfC x (defScope st) s.heap.objs.size f cdv)) →
      Quiet (A.deeper (envOfC x (defScope st) s.heap.objs.size f cdv)) → sp vs H Q E →
      ∃ t, PSs (cxOf CX0 P w K mg base N x (defScope st) f cdv A outer s H E).nox (defBody st) t ∧
        t { nx := fun _ H' => Q .non H', rt := Q } (start N vs) H) :
    Has P w K mg base CX0 (k + 1) x st ps sp := by
  obtain ⟨f, fd, F, m⟩ := at_
  exact ⟨f, fd, F, m, FnG.ok F S len (walk f), F.binds bd⟩
theorem Has.mono {CX : CXT} {j k : Nat} {x : Str} {st : Stmt} {ps : List Str} {sp : Sp}
    (h : Has P w K mg base CX j x st ps sp) (hk : j ≤ k) : Has P w K mg base CX k x st ps sp := by
  obtain ⟨f, fd, F, m, G, b⟩ := h
  exact ⟨f, fd, F, m, G.mono hk, b⟩
end

/-- the built-in names that the module does not shadow -/
structure Txt (mg : Str → Option Value) : Prop where
  len : mg "len" = none
  range : mg "range" = none
  repr : mg "repr" = none
  min : mg "min" = none
  max : mg "max" = none
  tint : mg "int" = none
  tlist : mg "list" = none
  ttype : mg "type" = none
  bool : mg "bool" = none
  tuple : mg "tuple" = none
  isinstance : mg "isinstance" = none
  enumerate : mg "enumerate" = none
  tstr : mg "str" = none
  zip : mg "zip" = none
  all : mg "all" = none
  any : mg "any" = none
  sum : mg "sum" = none
  abs : mg "abs" = none
  sorted : mg "sorted" = none
  set : mg "set" = none
  dict : mg "dict" = none
  reversed : mg "reversed" = none
  divmod : mg "divmod" = none

theorem bnot_t {b : Bool} (h : (!b) = true) : b = false := by cases b <;> first | rfl | cases h
theorem bnot_f {b : Bool} (h : ¬ (!b) = true) : b = true := by cases b <;> first | rfl | exact (h rfl).elim
/-! ### what a caller wants -/
/-- a value comes back, nothing that was tracked has changed -/
def RetV (Q : VK) (H : Hp) (v : V) : Prop := ∀ H', Same H H' → Q v H'
/-- a new list comes back -/
def RetL (Q : VK) (H : Hp) (xs : List V) : Prop := ∀ p H', H p = none → Same H H' → H' p = some (.lst xs) → Q (.ref p) H'
/-- ints as values -/
abbrev iv (ns : List Int) : List V := ns.map V.int
theorem iv_at {ns : List Int} {i : Nat} (h : i < ns.length) : (iv ns)[i]? = some (.int (ns.getD i 0)) := by
  rw [List.getElem?_map, List.getElem?_eq_getElem h, List.getD_eq_getElem?_getD, List.getElem?_eq_getElem h]
  rfl
theorem atI_iv {ns : List Int} {z : Int} (h0 : 0 ≤ z) (h : z < ns.length) : atI (iv ns) z = some (.int (ns.getD z.toNat 0)) := by
  have e : z = ((z.toNat : Nat) : Int) := by omega
  rw [e]
  exact atI_nat (iv_at (by omega))
theorem atI_iv_last {ns : List Int} (h : ns ≠ []) : atI (iv ns) (-1) = some (.int (ns.getD (ns.length - 1) 0)) := by
  have hl : 0 < ns.length := List.length_pos_iff.mpr h
  have e : ixN (iv ns).length (-1) = some (ns.length - 1) := by
    unfold ixN
    rw [if_neg (by omega), if_pos (by rw [List.length_map]; omega), List.length_map]
    congr 1
    omega
  unfold atI
  rw [e]
  exact iv_at (by omega)
theorem Same.new {H : Hp} {p : Addr} {o : HO} (h : H p = none) : Same H (upd H p o) := fun b u e => by
  rw [upd_ne (ne_of_none e h)]; exact e
theorem Same.upd_free {H H' : Hp} {p : Addr} {o : HO} (s : Same H H') (h : H p = none) : Same H (upd H' p o) := fun b u e => by
  rw [upd_ne (ne_of_none e h)]; exact s b u e
/-- all that was tracked but what stands at `a` is as it was -/
def SameBut (a : Addr) (H H' : Hp) : Prop := ∀ b o, H b = some o → b ≠ a → H' b = some o
theorem SameBut.refl {a : Addr} {H : Hp} : SameBut a H H := fun _ _ e _ => e
theorem SameBut.trans {a : Addr} {H H1 H2 : Hp} (p : SameBut a H H1) (q : SameBut a H1 H2) : SameBut a H H2 :=
  fun b o e n => q b o (p b o e n) n
theorem SameBut.of {a : Addr} {H H' : Hp} (p : Same H H') : SameBut a H H' := fun b o e _ => p b o e
theorem SameBut.upd {a : Addr} {H H' : Hp} {o : HO} (p : SameBut a H H') : SameBut a H (upd H' a o) := fun b u e n => by
  rw [upd_ne n]; exact p b u e n
theorem SameBut.new {a p : Addr} {H H' : Hp} {o : HO} (s : SameBut a H H') (h : H' p = none) : SameBut a H (L2.upd H' p o) :=
  fun b u e n => by
    have := s b u e n
    rw [upd_ne (ne_of_none this h)]; exact this
end SH

/-! SH3: comprehensions whose turns make nothing, in words of a function of the turn. -/
namespace SH
open PySem PySem.Spec PyProof.Rows L2

/-- len of a list or a tuple, by the written part K -/
def rLenK (K : PySem.W.Frag) : List V → Hp → VK → Prop := fun xs H Q => ∃ p ys, xs = [.ref p] ∧ (SqL K H p ys ∨ SqT K H p ys) ∧ Q (.int ys.length) H
theorem tYes_go {σ : L2.St} {H : Hp} {f g : Hp → Prop} (h : f H) : tYes σ H fun b H3 => if b = true then f H3 else g H3 := by
  show (if true = true then f H else g H)
  rw [if_pos rfl]
  exact h
/-- a if t else b of two ints, the test's answer known as b -/
theorem if_int {b : Bool} {x y : Int} {H : Hp} {A B : TE} {σ : L2.St} {Q : VK} (ha : ∀ Q' : VK, Q' (.int x) H → A σ H Q')
    (hb : ∀ Q' : VK, Q' (.int y) H → B σ H Q') (h : Q (.int (if b = true then x else y)) H) : if b = true then A σ H Q else B σ H Q := by
  cases b with
  | true => rw [if_pos rfl]; exact ha _ (by simpa using h)
  | false => rw [if_neg Bool.false_ne_true]; exact hb _ (by simpa using h)
/-- which turns give, and what -/
def gives (n : Nat) (keep : Nat → Bool) (val : Nat → V) : List V := ((List.range n).filter keep).map val
theorem gives_succ {n : Nat} {keep : Nat → Bool} {val : Nat → V} : gives (n + 1) keep val =
    if keep n = true then gives n keep val ++ [val n] else gives n keep val := by
  unfold gives
  rw [List.range_succ, List.filter_append, List.map_append]
  by_cases h : keep n = true
  · rw [if_pos h, List.filter_cons, if_pos h]
    rfl
  · rw [if_neg h, List.filter_cons, if_neg h]
    exact List.append_nil _
theorem gives_len (n : Nat) (keep : Nat → Bool) (val : Nat → V) : (gives n keep val).length ≤ n := by
  unfold gives
  rw [List.length_map]
  exact Nat.le_trans (List.length_filter_le _ _) (Nat.le_of_eq List.length_range)
theorem gives_all (n : Nat) (val : Nat → V) : gives n (fun _ => true) val = (List.range n).map val := by
  unfold gives
  rw [List.filter_eq_self.mpr (fun _ _ => rfl)]
/-- a new list comes back, nothing else changes -/
def NewL (Q : VK) (H : Hp) (xs : List V) : Prop := ∀ p, H p = none → Q (.ref p) (upd H p (.lst xs))
theorem small_line {n : Nat} (h : n < 100000) : n < sizeLine := Nat.lt_of_lt_of_le h (by decide)

section
variable {tt : TT} {te : TE} {vs : List Nat} {σ : L2.St} {H : Hp} {D : Addr} {Qd : Hp → Prop}
/-- one turn's end -/
theorem lc_turn {n : Nat} {keep : Nat → Bool} {val : Nat → V} {i : Nat} {σ2 : L2.St} (hi : i < n) (hn : n < 100000)
    (ht : ∀ acc Q, Q (keep i) (upd H D (.lst acc)) → tt σ2 (upd H D (.lst acc)) Q)
    (he : ∀ acc Q, keep i = true → Q (val i) (upd H D (.lst acc)) → te σ2 (upd H D (.lst acc)) Q) :
    tt σ2 (upd H D (.lst (gives i keep val))) fun b H3 => if b = true then te σ2 H3 fun y H4 => ∃ acc, H4 D = some (.lst acc) ∧
      acc.length < sizeLine ∧ upd H4 D (.lst (acc ++ [y])) = upd H D (.lst (gives (i + 1) keep val))
      else H3 = upd H D (.lst (gives (i + 1) keep val)) := by
  refine ht _ _ ?_
  by_cases h : keep i = true
  · rw [h]
    refine iteT (he _ _ h ⟨_, upd_same, small_line (by have := gives_len i keep val; omega), ?_⟩)
    rw [upd_upd, gives_succ, if_pos h]
  · have h' : keep i = false := by cases e : keep i <;> simp_all
    rw [h']
    refine iteF ?_
    rw [gives_succ, if_neg h]

theorem lcR {lo : Int} {n j : Nat} (keep : Nat → Bool) (val : Nat → V) (hn : n < 100000)
    (hw : ∀ x, wipe ((wipe σ vs).set j (some x)) vs = wipe σ vs)
    (ht : ∀ i acc Q, i < n → Q (keep i) (upd H D (.lst acc)) → tt ((wipe σ vs).set j (some (.int (lo + (i : Nat))))) (upd H D (.lst acc)) Q)
    (he : ∀ i acc Q, i < n → keep i = true → Q (val i) (upd H D (.lst acc)) → te ((wipe σ vs).set j (some (.int (lo + (i : Nat))))) (upd H D (.lst acc)) Q)
    (hd : Qd (upd H D (.lst (gives n keep val)))) :
    ∃ W : Nat → Nat → Hp → Prop, (∃ m, W 0 m (upd H D (.lst []))) ∧ ∀ i m H, W i m H →
      ((Itr lo n).stop i H ∧ Qd H) ∨ ((Itr lo n).go i H ∧ ∃ Nx : Hp → Prop, (∀ H', Nx H' → ∃ m', m' < m ∧ W (i + 1) m' H') ∧
        ∀ x H', (Itr lo n).yld i H x H' → gName j x (wipe σ vs) H' fun σ2 H2 => wipe σ2 vs = wipe σ vs ∧ tt σ2 H2 fun b H3 =>
          if b = true then te σ2 H3 fun y H4 => ∃ acc, H4 D = some (.lst acc) ∧ acc.length < sizeLine ∧ Nx (upd H4 D (.lst (acc ++ [y]))) else Nx H3) :=
  lc_range (fun i H2 => H2 = upd H D (.lst (gives i keep val))) rfl
    (fun i H2 hi e => by
      subst e
      exact ⟨hw _, lc_turn hi hn (fun acc Q q => ht i acc Q hi q) (fun acc Q k q => he i acc Q hi k q)⟩)
    (fun H2 e => by subst e; exact hd)

theorem lcL {K : PySem.W.Frag} {a : Addr} {xs : List V} {j : Nat} (keep : Nat → Bool) (val : Nat → V) (hx : SqL K H a xs)
    (hD : H D = none) (hn : xs.length < 100000) (hw : ∀ x, wipe ((wipe σ vs).set j (some x)) vs = wipe σ vs)
    (ht : ∀ i x acc Q, xs[i]? = some x → Q (keep i) (upd H D (.lst acc)) → tt ((wipe σ vs).set j (some x)) (upd H D (.lst acc)) Q)
    (he : ∀ i x acc Q, xs[i]? = some x → keep i = true → Q (val i) (upd H D (.lst acc)) → te ((wipe σ vs).set j (some x)) (upd H D (.lst acc)) Q)
    (hd : Qd (upd H D (.lst (gives xs.length keep val)))) :
    ∃ W : Nat → Nat → Hp → Prop, (∃ m, W 0 m (upd H D (.lst []))) ∧ ∀ i m H, W i m H →
      ((Itl K a).stop i H ∧ Qd H) ∨ ((Itl K a).go i H ∧ ∃ Nx : Hp → Prop, (∀ H', Nx H' → ∃ m', m' < m ∧ W (i + 1) m' H') ∧
        ∀ x H', (Itl K a).yld i H x H' → gName j x (wipe σ vs) H' fun σ2 H2 => wipe σ2 vs = wipe σ vs ∧ tt σ2 H2 fun b H3 =>
          if b = true then te σ2 H3 fun y H4 => ∃ acc, H4 D = some (.lst acc) ∧ acc.length < sizeLine ∧ Nx (upd H4 D (.lst (acc ++ [y]))) else Nx H3) :=
  lc_list (xs := xs) (fun i H2 => H2 = upd H D (.lst (gives i keep val))) rfl
    (fun i H2 hi e => by subst e; exact (Same.new hD).seq hx)
    (fun i x H2 hi e => by
      subst e
      exact ⟨hw _, lc_turn (List.getElem?_eq_some_iff.mp hi).1 hn (fun acc Q q => ht i x acc Q hi q) (fun acc Q k q => he i x acc Q hi k q)⟩)
    (fun H2 e => by subst e; exact hd)

/-- [.. for a, b in zip(xs, ys)], the lists of one length: each turn makes one pair, so the heap is told by an invariant -/
theorem lcZ {K : PySem.W.Frag} {a b : Addr} {xs ys : List V} {g : TG} (hl : xs.length = ys.length) (Pv : Nat → Hp → Prop)
    (h0 : Pv 0 (upd H D (.lst []))) (hq : ∀ i H, Pv i H → SqL K H a xs ∧ SqL K H b ys)
    (hs : ∀ i x y T H, xs[i]? = some x → ys[i]? = some y → Pv i H → H T = none → g (.ref T) (wipe σ vs) (upd H T (.tup [x, y])) fun σ2 H2 =>
      wipe σ2 vs = wipe σ vs ∧ tt σ2 H2 fun b H3 => if b = true then te σ2 H3 fun y H4 => ∃ acc, H4 D = some (.lst acc) ∧
        acc.length < sizeLine ∧ Pv (i + 1) (upd H4 D (.lst (acc ++ [y]))) else Pv (i + 1) H3)
    (hd : ∀ H, Pv xs.length H → Qd H) :
    ∃ W : Nat → Nat → Hp → Prop, (∃ m, W 0 m (upd H D (.lst []))) ∧ ∀ i m H, W i m H →
      ((Itz K a b).stop i H ∧ Qd H) ∨ ((Itz K a b).go i H ∧ ∃ Nx : Hp → Prop, (∀ H', Nx H' → ∃ m', m' < m ∧ W (i + 1) m' H') ∧
        ∀ x H', (Itz K a b).yld i H x H' → g x (wipe σ vs) H' fun σ2 H2 => wipe σ2 vs = wipe σ vs ∧ tt σ2 H2 fun b H3 =>
          if b = true then te σ2 H3 fun y H4 => ∃ acc, H4 D = some (.lst acc) ∧ acc.length < sizeLine ∧ Nx (upd H4 D (.lst (acc ++ [y]))) else Nx H3) := by
  refine ⟨fun i m H => m = xs.length - i ∧ i ≤ xs.length ∧ Pv i H, ⟨_, rfl, Nat.zero_le _, h0⟩, ?_⟩
  rintro i m H ⟨rfl, hi, p⟩
  obtain ⟨qx, qy⟩ := hq i H p
  rcases Nat.lt_or_ge i xs.length with lt | ge
  · have ly : i < ys.length := by omega
    refine .inr ⟨⟨xs, ys, xs[i], ys[i], qx, qy, List.getElem?_eq_getElem lt, List.getElem?_eq_getElem ly⟩, Pv (i + 1),
      fun H' p' => ⟨xs.length - (i + 1), by omega, rfl, lt, p'⟩, ?_⟩
    rintro v H' ⟨T, x, y, rfl, hT, rfl, fx, fy⟩
    exact hs i x y T H (fx xs qx) (fy ys qy) p hT
  · obtain rfl : i = xs.length := Nat.le_antisymm hi ge
    exact .inl ⟨⟨xs, ys, qx, qy, .inl (Nat.le_refl _)⟩, hd H p⟩
end
end SH

/-! SH4: how lists of ints are shown, and compared. -/
namespace SH
open PySem PySem.Spec PyProof.Rows L2

/-- a list of ints as data -/
def dI (ns : List Int) : PyData := .list (ns.map PyData.int)
theorem dp_ints {K : PySem.W.Frag} {H : Hp} : ∀ ns : List Int, DpAll K H (iv ns) (ns.map PyData.int)
  | [] => .nil
  | n :: r => .cons (.int n) (dp_ints r)
theorem dp_dI {K : PySem.W.Frag} {H : Hp} {a : Addr} {ns : List Int} (h : SqL K H a (iv ns)) : Dp K H (.ref a) (dI ns) := .lst h (dp_ints ns)
theorem small_log {v : Int} (h : v.natAbs < 2 ^ 64) : v.natAbs.log2 < 1920 := by
  by_cases e : v.natAbs = 0
  · rw [e]; decide
  · have := (Nat.log2_lt e).mpr h
    omega
theorem show_ints : ∀ {ns : List Int}, (∀ v ∈ ns, v.natAbs < 2 ^ 64) → PyData.showableAll (ns.map PyData.int) = true
  | [], _ => rfl
  | n :: r, h => by
    show (decide (n.natAbs.log2 < 1920) && PyData.showableAll (r.map PyData.int)) = true
    rw [decide_eq_true (small_log (h n List.mem_cons_self)), show_ints fun v hv => h v (List.mem_cons_of_mem _ hv)]
    rfl
theorem dict_ints : ∀ ns : List Int, PyData.hasDictAll (ns.map PyData.int) = false
  | [] => rfl
  | n :: r => by
    show (false || PyData.hasDictAll (r.map PyData.int)) = false
    rw [dict_ints r]
    rfl
theorem depth_ints : ∀ ns : List Int, PyData.depthAll (ns.map PyData.int) = 0
  | [] => rfl
  | n :: r => by
    show max 0 (PyData.depthAll (r.map PyData.int)) = 0
    rw [depth_ints r]
    rfl
theorem shownAll_len : ∀ {ns : List Int}, (∀ v ∈ ns, v.natAbs < 2 ^ 64) → ((PyData.shownAll (ns.map PyData.int)).map (·.length)).sum ≤ 1921 * ns.length ∧
    (PyData.shownAll (ns.map PyData.int)).length = ns.length
  | [], _ => ⟨Nat.le_refl _, rfl⟩
  | n :: r, h => by
    obtain ⟨a, b⟩ := shownAll_len (ns := r) fun v hv => h v (List.mem_cons_of_mem _ hv)
    have := int_text_len_1921 (small_log (h n List.mem_cons_self))
    constructor
    · show (PySem.Str.ofString (toString n)).length + ((PyData.shownAll (r.map PyData.int)).map (·.length)).sum ≤ 1921 * (r.length + 1)
      omega
    · show (PyData.shownAll (r.map PyData.int)).length + 1 = r.length + 1
      omega
theorem shows_ints {K : PySem.W.Frag} {H : Hp} {a : Addr} {ns : List Int} (h : SqL K H a (iv ns)) (hl : ns.length ≤ 1000) (hv : ∀ v ∈ ns, v.natAbs < 2 ^ 64) :
    Shows K H (.ref a) (dI ns) := by
  refine ⟨dp_dI h, show_ints hv, dict_ints ns, ?_, ?_⟩
  · show PyData.depthAll (ns.map PyData.int) + 1 ≤ 60
    rw [depth_ints]
    decide
  · show (listText (PyData.shownAll (ns.map PyData.int))).length ≤ sizeLine
    obtain ⟨a, b⟩ := shownAll_len hv
    have := listText_len_le (PyData.shownAll (ns.map PyData.int))
    have e : sizeLine = 16777216 := by decide
    omega
theorem shaped_dI (ns : List Int) : SeqAt.shaped (dI ns) = true := by
  have c : ∀ ms : List Int, PyData.canLayAll0 (ms.map PyData.int) = true := fun ms => by
    induction ms with
    | nil => rfl
    | cons n r ih => show (true && PyData.canLayAll0 (r.map PyData.int)) = true; rw [ih]; rfl
  unfold SeqAt.shaped
  have d : (dI ns).depth = 1 := by show PyData.depthAll (ns.map PyData.int) + 1 = 1; rw [depth_ints]
  rw [d]
  show (PyData.canLayAll0 (ns.map PyData.int) && decide (1 ≤ 64)) = true
  rw [c]
  rfl
theorem eqv_ints : ∀ ns ms : List Int, PyData.eqvAll (ns.map PyData.int) (ms.map PyData.int) = decide (ns = ms)
  | [], [] => rfl
  | [], _ :: _ => rfl
  | _ :: _, [] => rfl
  | n :: r, m :: q => by
    show ((n == m) && PyData.eqvAll (r.map PyData.int) (q.map PyData.int)) = _
    rw [eqv_ints r q, Bool.eq_iff_iff]
    simp
theorem eqv_dI (ns ms : List Int) : PyData.eqv (dI ns) (dI ms) = decide (ns = ms) := eqv_ints ns ms
/-- two lists of ints compared -/
theorem eqD_ints {K : PySem.W.Frag} {H : Hp} {a b : Addr} {ns ms : List Int} {Q : VK} (ha : SqL K H a (iv ns)) (hb : SqL K H b (iv ms))
    (q : Q (.bl (decide (ns = ms))) H) : rEqD K (.ref a) (.ref b) H Q :=
  ⟨dI ns, dI ms, dp_dI ha, dp_dI hb, shaped_dI ns, shaped_dI ms, by rw [eqv_dI]; exact q⟩
theorem neD_ints {K : PySem.W.Frag} {H : Hp} {a b : Addr} {ns ms : List Int} {Q : VK} (ha : SqL K H a (iv ns)) (hb : SqL K H b (iv ms))
    (q : Q (.bl (!decide (ns = ms))) H) : rNeD K (.ref a) (.ref b) H Q :=
  ⟨dI ns, dI ms, dp_dI ha, dp_dI hb, shaped_dI ns, shaped_dI ms, by rw [eqv_dI]; exact q⟩

theorem iv_snoc (ns : List Int) (d : Int) : iv ns ++ [V.int d] = iv (ns ++ [d]) := by
  unfold iv
  rw [List.map_append]
  rfl
theorem getD_all {xs : List Int} {p : Int → Prop} (h : ∀ v ∈ xs, p v) {z : Int} (h0 : 0 ≤ z) (h1 : z < xs.length) : p (xs.getD z.toNat 0) := by
  have hz : z.toNat < xs.length := by omega
  rw [List.getD_eq_getElem?_getD, List.getElem?_eq_getElem hz]
  exact h _ (List.getElem_mem hz)
/-- range as a list of ints -/
def rg (n : Nat) : List Int := (List.range n).map fun (i : Nat) => (i : Int)
theorem rgV_rg (n : Nat) : rgV 0 (n : Int) = iv (rg n) := by
  unfold rgV rg iv
  rw [List.map_map]
  have e : ((n : Int) - 0).toNat = n := by omega
  rw [e]
  refine List.map_congr_left fun i _ => ?_
  show V.int (0 + (i : Int)) = V.int (i : Int)
  rw [Int.zero_add]
theorem iv_rep (n : Nat) (d : Int) : (List.replicate n [V.int d]).flatten = iv (List.replicate n d) := by
  induction n with
  | zero => rfl
  | succ n ih => rw [List.replicate_succ, List.flatten_cons, ih, List.replicate_succ]; rfl
/-- list + list, each read as it stands -/
def rCatS (K : PySem.W.Frag) : R2 := fun x y H Q => ∃ l b xs zs, x = .ref l ∧ y = .ref b ∧ SqL K H l xs ∧ SqL K H b zs ∧ xs.length + zs.length ≤ sizeLine ∧ NewL Q H (xs ++ zs)
theorem op_catS {X : Cx} : OpR X (binaryOp .Add) (rCatS X.K) := by
  intro pins s σ H x y v u Q I rx ry h
  obtain ⟨l, b, xs, zs, rfl, rfl, hx, hy, hz, q⟩ := h
  cases rx
  cases ry
  obtain ⟨its, r, ⟨o, n, ho, hc, hd, ht⟩, _⟩ := I.list hx
  obtain ⟨its2, r2, ⟨o2, n2, ho2, hc2, hd2, ht2⟩, _⟩ := I.list hy
  have e1 := r.length
  have e2 := r2.length
  obtain ⟨oc, od, dt, sl⟩ := o
  obtain ⟨oc2, od2, dt2, sl2⟩ := o2
  simp only at hc hd ht hc2 hd2 ht2
  subst hc hd ht hc2 hd2 ht2
  have ea : its.toArray ++ its2.toArray = (its ++ its2).toArray := by simp
  refine concat_meets ⟨_, ho, rfl⟩ ⟨_, ho2, rfl⟩ noFill_list_add seq_list_add PySem.F.slot_list_add PySem.F.entry_list_add
    (PySem.F.args_list_add_2 _ _) (list_addW l b its.toArray its2.toArray n n2 none none sl sl2 (by simp only [List.size_toArray]; omega)) ⟨ho, ho2, ?_⟩
  rw [ea]
  exact ⟨.ref _, _, I.lnew (t' := s.toks) (r.append r2) (by rw [List.length_append]; omega), rfl, q _ I.fresh⟩
theorem Same.but {a : Addr} {H0 H H' : Hp} (s : Same H0 H) (n : H0 a = none) (b : SameBut a H H') : Same H0 H' := fun c o e =>
  b c o (s c o e) (ne_of_none e n)
end SH

/-! SH5: a list stored into a slice with open bounds (xs[:] = ys, xs[a:] = ys). -/
namespace SH
open PySem PySem.Spec PyProof.Rows L2
section
variable {prog : Program} {w : World} {A : Around} {E : Value → Shared → Prop} {s : Shared}
theorem store_open {tgt src sl : Addr} {old new : Array Value} {n n2 : Nat} {vl vu : Value} {lo hi : Option Int} {Q : Unit → Shared → Prop}
    (eo : s.heap.get? tgt = some { cls := .type "list", data := .seq old n }) (en : s.heap.get? src = some { cls := .type "list", data := .seq new n2 })
    (ne : tgt ≠ src) (isl : s.heap.IsSliceOf sl vl vu .none) (pl : IsPart vl lo) (pu : IsPart vu hi) (small : old.size + new.size ≤ sizeLine)
    (h : Q () { s with heap := s.heap.update tgt (Obj.mapSeq fun xs => xs.extract 0 (HT.sIx old.size 0 lo) ++ new ++ xs.extract (max (HT.sIx old.size 0 lo) (HT.sIx old.size old.size hi)) xs.size) }) :
    wpAny (model prog w) A (setItem (.ref tgt) (.ref sl) (.ref src)) Q E s := by
  obtain ⟨b1, b2, b3⟩ := slice_bounds lo hi old.size
  have isT := PySem.IsL.isList eo
  have isS := PySem.IsL.isList en
  obtain ⟨os, go, co, fo⟩ := id isl
  have tyS : s.TypeIs (.ref sl) "slice" := ⟨os, go, co⟩
  have li := HT.sIx_le old.size 0 (Nat.zero_le _) lo
  have lj := HT.sIx_le old.size old.size (Nat.le_refl _) hi
  have diff : Builtin.List.listSameRef (.ref tgt) (.ref src) = false := by
    unfold Builtin.List.listSameRef; exact beq_eq_false_iff_ne.mpr ne
  generalize HT.sIx old.size 0 lo = i at *
  generalize HT.sIx old.size old.size hi = j at *
  have mx : (max (i : Int) (j : Int)).toNat = max i j := by omega
  have room : ((fun xs : Array Value => xs.extract 0 i ++ new ++ xs.extract (max i j) xs.size) old).size ≤ sizeLine + 1 := by
    simp only [Array.size_append, Array.size_extract]; omega
  unfold setItem
  try with_reducible refine wpAny_holding ?_
  first | refine wpAny_bind (wpAny_pure ?_) | skip
  refine wpAny_bind (wpAny_sequenceKey isT.typeIs (by decide) ?_)
  refine wpAny_bind (wpAny_callSpecial?_slot (name := Str.ofString "__setitem__") isT.typeIs slot_list_setitem (wpAny_call_entry slot_list_setitem isT.typeIs entry_list_setitem ?_ (args_list_setitem _ _ _)))
  show wpAny _ _ (Builtin.List.listSubscript? (.ref sl) >>= _) _ _ s
  refine wpAny_bind ?_
  unfold Builtin.List.listSubscript?
  refine wpAny_bind (wpAny_specialOf tyS slice_no_index ?_)
  simp only [Option.isNone_none, if_true]
  refine wpAny_pure ?_
  show wpAny _ _ (typeOf (.ref sl) >>= _) _ _ s
  refine wpAny_bind (wpAny_typeOf tyS ?_)
  first | rw [if_neg (by decide)] | refine PySem.W.KFB.if_not (by decide) ?_
  rw [listSliceParts_eq]
  refine wpAny_bind (wpAny_bind (wpAny_field go fo (x := .none) rfl (wpAny_bind (wpAny_listPart .none ?_))))
  rw [if_neg (show ¬ ((rawPart none == rawInt 0) = true) from Bool.false_ne_true)]
  refine wpAny_bind (wpAny_field go fo (x := vl) rfl (wpAny_bind (wpAny_listPart pl ?_)))
  refine wpAny_bind (wpAny_field go fo (x := vu) rfl (wpAny_bind (wpAny_listPart pu (wpAny_pure ?_))))
  first
    | simp only [diff, Bool.false_eq_true, if_false]
    | refine PySem.W.KFB.if_not diff ?_
    | (dsimp only; rw [if_neg (by rw [diff]; exact Bool.false_ne_true)])
  refine wpAny_bind (m := Builtin.List.listAllItems (.ref src) "must assign iterable to extended slice") ?_
  unfold Builtin.List.listAllItems
  refine wpAny_bind (wpAny_typeOf isS.typeIs ?_)
  first | refine PySem.W.KFB.if_so (by decide) ?_ | rw [if_pos (by decide)] | simp only [beq_self_eq_true, Bool.true_or, if_true]
  unfold Builtin.List.listItems
  refine wpAny_bind (wpAny_seqItems en rfl (wpAny_pure ?_))
  refine wpAny_bind (wpAny_bind (wpAny_seqItems eo rfl (wpAny_pure ?_)))
  have bb : sliceBounds lo hi none old.size = ((i : Int), (j : Int), 1) := Prod.ext b1 (Prod.ext b2 b3)
  refine wpAny_bind (wpAny_of_eq ((sliceIndices_raw lo hi none old.size (by simp)).trans (congrArg (pure : Int × Int × Int → Sem (Int × Int × Int)) bb)) ?_)
  show wpAny _ _ (if ((1 : Int) == 1) = true then _ else _) _ _ s
  rw [if_pos (by decide)]
  refine wpAny_bind (wpAny_rule ?_)
  first | simp only [notLongL small, Bool.false_eq_true, if_false] | refine PySem.W.KFB.if_not (notLongL small) ?_
  first | refine wpAny_bind (wpAny_pure ?_) | skip
  show wpAny _ _ (updateSeq tgt (fun xs => xs.extract 0 ((i : Int)).toNat ++ new ++ xs.extract (max (i : Int) (j : Int)).toNat xs.size) >>= _) _ _ s
  rw [mx, Int.toNat_natCast]
  refine wpAny_bind (wpAny_updateSeq (hz := Nat.le_trans (Nat.le_add_right _ _) small) (_hz' := room) eo rfl ?_)
  refine wpAny_bind (wpAny_letGo ?_)
  first
    | exact wpAny_bind (wpAny_pure (wpAny_pure ⟨.none, rfl, wpAny_pure h⟩))
    | exact wpAny_pure ⟨.none, rfl, wpAny_pure h⟩
end
/-- ys stored into xs[lo:hi] -/
def rStore : V → Option Int → Option Int → V → Hp → (Hp → Prop) → Prop := fun o lo hi v H Q => ∃ (l b : Addr) (xs ys : List V), o = .ref l ∧ v = .ref b ∧ l ≠ b ∧ H l = some (.lst xs) ∧ H b = some (.lst ys) ∧
  xs.length + ys.length ≤ sizeLine ∧ Q (upd H l (.lst (xs.take (HT.sIx xs.length 0 lo) ++ ys ++ xs.drop (max (HT.sIx xs.length 0 lo) (HT.sIx xs.length xs.length hi)))))
def gStore (to : TE) (tl th : TO) : TG := fun v σ H Q => to σ H fun o H1 => tl σ H1 fun lo H2 => th σ H2 fun hi H3 => rStore o lo hi v H3 fun H4 => Q σ H4
section
variable {X : Cx} {o : Expr} {to : TE} {lo hi : Option Expr} {tl th : TO} {p2 pos : Pos}
theorem pg_store (ho : PE X o to) (hl : PO X lo tl) (hu : PO X hi th)
    (ha : ∀ v, assign (.Subscript o (.Slice lo hi none p2) pos) X.env v = (do
      let ov ← holding [v] (eval o X.env)
      let iv ← holding [v, ov] (eval (.Slice lo hi none p2) X.env)
      standAt pos
      holding [v, ov, iv] (setItem ov iv v)
      release [iv, v, ov] []) := by intro _; rfl) : PG X (.Subscript o (.Slice lo hi none p2) pos) (gStore to tl th) := by
  refine ⟨fun pins s σ H v u Q I r h => ?_⟩
  rw [ha]
  refine wpAny_bind (wpAny_holding (thn (ho.run pins s σ H _ I h) fun ov s1 ⟨x, H1, I1, r1, q1⟩ => ?_))
  refine wpAny_bind (wpAny_holding (wpAny_Slice (thn (hl.run pins s1 σ H1 _ I1 q1) fun vl s2 ⟨l, H2, I2, pl, q2⟩ => thn (hu.run pins s2 σ H2 _ I2 q2) fun vu s3 ⟨u', H3, I3, pu, q3⟩ => ?_)))
  rw [evalPart_none]
  refine wpAny_pure ?_
  have I4 : Inv X pins σ H3 { s3 with heap := s3.heap.push { cls := .type "slice", data := .fields #[vl, vu, .none] } } := I3.kept (t' := s3.toks) fun b ob q => Heap.get?_push_of_some _ q
  refine wpAny_bind (wpAny_standAt (wpAny_bind (wpAny_holding ?_)))
  obtain ⟨a, b, xs, ys, rfl, rfl, ne, ea, eb, sm, q⟩ := q3
  cases r1
  cases r
  obtain ⟨z, its, n, rr, hl1, e⟩ := I4.lstM ea
  obtain ⟨z2, its2, n2, rr2, hl2, e2⟩ := I4.lstM eb
  have k1 := rr.length
  have k2 := rr2.length
  refine store_open e e2 ne (Heap.IsSliceOf.new ..) pl pu (by rw [List.size_toArray, List.size_toArray]; omega) ?_
  refine wpAny_release ⟨σ, _, ?_, q⟩
  rw [List.size_toArray, ← k1]
  refine I4.lset (its' := its.take (HT.sIx xs.length 0 l) ++ its2 ++ its.drop (max (HT.sIx xs.length 0 l) (HT.sIx xs.length xs.length u'))) (t' := _) ea e ?_ (Vals.append (Vals.append (rr.take _) rr2) (rr.drop _)) ?_
  · exact splice_eq its its2 _ _
  · rw [List.length_append, List.length_append, List.length_take, List.length_drop]
    omega
end
end SH

/-! SH6: comprehensions over enumerate and lists whose turns change nothing that is tracked. -/
namespace SH
open PySem PySem.Spec PyProof.Rows L2
theorem if_any {b : Bool} {A B : TE} {σ : L2.St} {H : Hp} {Q : VK} (Inv : V → Hp → Prop) (ha : b = true → ∀ Q' : VK, (∀ v H', Inv v H' → Q' v H') → A σ H Q')
    (hb : b = false → ∀ Q' : VK, (∀ v H', Inv v H' → Q' v H') → B σ H Q') (h : ∀ v H', Inv v H' → Q v H') : if b = true then A σ H Q else B σ H Q := by
  cases b with
  | true => rw [if_pos rfl]; exact ha rfl Q h
  | false => rw [if_neg Bool.false_ne_true]; exact hb rfl Q h
theorem Same.at {H H' : Hp} {a : Addr} {o : HO} (s : Same H H') (n : H a = none) : Same H (upd H' a o) := fun b u e => by
  rw [upd_ne (ne_of_none e n)]; exact s b u e
theorem while_cut {tc : TT} {tb : TS} {D : Ends} {σ : L2.St} {H : Hp} (Exit : L2.St → Hp → Prop) (main : ∀ σ' H', Exit σ' H' → D.nx σ' H')
    (h : (∀ σ' H', Exit σ' H' → D.nx σ' H') → tWhile tc tb D σ H) : tWhile tc tb D σ H := h main
section
variable {K : PySem.W.Frag} {tt : TT} {te : TE} {vs : List Nat} {σ : L2.St} {H : Hp} {D : Addr} {Qd : Hp → Prop}
/-- a turn's end, the heap told by Same -/
theorem lc_turnS {n : Nat} {keep : Nat → Bool} {val : Nat → V} {i : Nat} {σ2 : L2.St} {H2 : Hp} (hD : H D = none) (hi : i < n) (hn : n < 100000) (s2 : Same H H2)
    (h2 : H2 D = some (.lst (gives i keep val)))
    (ht : ∀ Q : Bool → Hp → Prop, (∀ H3, Same H2 H3 → Q (keep i) H3) → tt σ2 H2 Q)
    (he : ∀ H3, Same H2 H3 → ∀ Q : VK, keep i = true → (∀ H4, Same H3 H4 → Q (val i) H4) → te σ2 H3 Q) :
    tt σ2 H2 fun b H3 => if b = true then te σ2 H3 fun y H4 => ∃ acc, H4 D = some (.lst acc) ∧ acc.length < sizeLine ∧
      (Same H (upd H4 D (.lst (acc ++ [y]))) ∧ (upd H4 D (.lst (acc ++ [y]))) D = some (.lst (gives (i + 1) keep val)))
      else (Same H H3 ∧ H3 D = some (.lst (gives (i + 1) keep val))) := by
  refine ht _ fun H3 s3 => ?_
  by_cases h : keep i = true
  · rw [h]
    refine iteT (he H3 s3 _ h fun H4 s4 => ⟨_, s4 _ _ (s3 _ _ h2), small_line (by have := gives_len i keep val; omega), Same.at ((s2.trans s3).trans s4) hD, ?_⟩)
    rw [upd_same, gives_succ, if_pos h]
  · have h' : keep i = false := by cases e : keep i <;> simp_all
    rw [h']
    refine iteF ⟨s2.trans s3, ?_⟩
    rw [gives_succ, if_neg h]
    exact s3 _ _ h2
/-- [.. for i, x in enumerate(xs) ..] -/
theorem lcEn {a : Addr} {xs : List V} {j1 j2 : Nat} (keep : Nat → Bool) (val : Nat → V) (hx : SqL K H a xs) (hD : H D = none) (hn : xs.length < 100000)
    (hw : ∀ x y, wipe (((wipe σ vs).set j1 (some x)).set j2 (some y)) vs = wipe σ vs)
    (ht : ∀ i x H2 (Q : Bool → Hp → Prop), xs[i]? = some x → Same H H2 → (∀ H3, Same H2 H3 → Q (keep i) H3) → tt (((wipe σ vs).set j1 (some (.int (i : Nat)))).set j2 (some x)) H2 Q)
    (he : ∀ i x H2 (Q : VK), xs[i]? = some x → keep i = true → Same H H2 → (∀ H3, Same H2 H3 → Q (val i) H3) → te (((wipe σ vs).set j1 (some (.int (i : Nat)))).set j2 (some x)) H2 Q)
    (hd : ∀ H', Same H H' → H' D = some (.lst (gives xs.length keep val)) → Qd H') :
    ∃ W : Nat → Nat → Hp → Prop, (∃ m, W 0 m (upd H D (.lst []))) ∧ ∀ i m H, W i m H →
      ((Ite K a).stop i H ∧ Qd H) ∨ ((Ite K a).go i H ∧ ∃ Nx : Hp → Prop, (∀ H', Nx H' → ∃ m', m' < m ∧ W (i + 1) m' H') ∧
        ∀ x H', (Ite K a).yld i H x H' → gTup K 2 (gCons (gName j1) (gCons (gName j2) gNil)) x (wipe σ vs) H' fun σ2 H2 => wipe σ2 vs = wipe σ vs ∧ tt σ2 H2 fun b H3 =>
          if b = true then te σ2 H3 fun y H4 => ∃ acc, H4 D = some (.lst acc) ∧ acc.length < sizeLine ∧ Nx (upd H4 D (.lst (acc ++ [y]))) else Nx H3) := by
  refine ⟨fun i m H' => m = xs.length - i ∧ i ≤ xs.length ∧ Same H H' ∧ H' D = some (.lst (gives i keep val)), ⟨_, rfl, Nat.zero_le _, Same.new hD, upd_same⟩, ?_⟩
  rintro i m H2 ⟨rfl, hi, s2, h2⟩
  have hq := s2.seq hx
  rcases Nat.lt_or_ge i xs.length with lt | ge
  · refine .inr ⟨⟨xs, xs[i], hq, List.getElem?_eq_getElem lt⟩, fun H' => Same H H' ∧ H' D = some (.lst (gives (i + 1) keep val)), fun H' p' => ⟨xs.length - (i + 1), by omega, rfl, lt, p'.1, p'.2⟩, ?_⟩
    rintro v H' ⟨T, x, rfl, hT, rfl, f⟩
    have sT : Same H (upd H2 T (.tup [.int (i : Nat), x])) := s2.trans (Same.new hT)
    have hTD := Same.new (o := .tup [.int (i : Nat), x]) hT _ _ h2
    refine ⟨T, _, rfl, SqT.of upd_same, rfl, _, _, rfl, _, _, rfl, rfl, hw _ _, ?_⟩
    exact lc_turnS hD lt hn sT hTD (fun Q q => ht i x _ Q (f xs hq) sT q) (fun H3 s3 Q k q => he i x H3 Q (f xs hq) k (sT.trans s3) q)
  · obtain rfl : i = xs.length := Nat.le_antisymm hi ge
    exact .inl ⟨⟨xs, hq, Nat.le_refl _⟩, hd H2 s2 h2⟩
/-- [.. for x in xs ..] whose turns may make things -/
theorem lcLn {a : Addr} {xs : List V} {j : Nat} (keep : Nat → Bool) (val : Nat → V) (hx : SqL K H a xs) (hD : H D = none) (hn : xs.length < 100000)
    (hw : ∀ x, wipe ((wipe σ vs).set j (some x)) vs = wipe σ vs)
    (ht : ∀ i x H2 (Q : Bool → Hp → Prop), xs[i]? = some x → Same H H2 → (∀ H3, Same H2 H3 → Q (keep i) H3) → tt ((wipe σ vs).set j (some x)) H2 Q)
    (he : ∀ i x H2 (Q : VK), xs[i]? = some x → keep i = true → Same H H2 → (∀ H3, Same H2 H3 → Q (val i) H3) → te ((wipe σ vs).set j (some x)) H2 Q)
    (hd : ∀ H', Same H H' → H' D = some (.lst (gives xs.length keep val)) → Qd H') :
    ∃ W : Nat → Nat → Hp → Prop, (∃ m, W 0 m (upd H D (.lst []))) ∧ ∀ i m H, W i m H →
      ((Itl K a).stop i H ∧ Qd H) ∨ ((Itl K a).go i H ∧ ∃ Nx : Hp → Prop, (∀ H', Nx H' → ∃ m', m' < m ∧ W (i + 1) m' H') ∧
        ∀ x H', (Itl K a).yld i H x H' → gName j x (wipe σ vs) H' fun σ2 H2 => wipe σ2 vs = wipe σ vs ∧ tt σ2 H2 fun b H3 =>
          if b = true then te σ2 H3 fun y H4 => ∃ acc, H4 D = some (.lst acc) ∧ acc.length < sizeLine ∧ Nx (upd H4 D (.lst (acc ++ [y]))) else Nx H3) :=
  lc_list (xs := xs) (fun i H2 => Same H H2 ∧ H2 D = some (.lst (gives i keep val))) ⟨Same.new hD, upd_same⟩
    (fun i H2 hi e => e.1.seq hx)
    (fun i x H2 hi e => ⟨hw _, lc_turnS hD (List.getElem?_eq_some_iff.mp hi).1 hn e.1 e.2 (fun Q q => ht i x H2 Q hi e.1 q) (fun H3 s3 Q k q => he i x H3 Q hi k (e.1.trans s3) q)⟩)
    (fun H2 e => hd H2 e.1 e.2)
/-- [.. for i in range(lo, lo + n) ..] whose turns may make things -/
theorem lcRn {lo : Int} {n j : Nat} (keep : Nat → Bool) (val : Nat → V) (hD : H D = none) (hn : n < 100000)
    (hw : ∀ x, wipe ((wipe σ vs).set j (some x)) vs = wipe σ vs)
    (ht : ∀ i H2 (Q : Bool → Hp → Prop), i < n → Same H H2 → (∀ H3, Same H2 H3 → Q (keep i) H3) → tt ((wipe σ vs).set j (some (.int (lo + (i : Nat))))) H2 Q)
    (he : ∀ i H2 (Q : VK), i < n → keep i = true → Same H H2 → (∀ H3, Same H2 H3 → Q (val i) H3) → te ((wipe σ vs).set j (some (.int (lo + (i : Nat))))) H2 Q)
    (hd : ∀ H', Same H H' → H' D = some (.lst (gives n keep val)) → Qd H') :
    ∃ W : Nat → Nat → Hp → Prop, (∃ m, W 0 m (upd H D (.lst []))) ∧ ∀ i m H, W i m H →
      ((Itr lo n).stop i H ∧ Qd H) ∨ ((Itr lo n).go i H ∧ ∃ Nx : Hp → Prop, (∀ H', Nx H' → ∃ m', m' < m ∧ W (i + 1) m' H') ∧
        ∀ x H', (Itr lo n).yld i H x H' → gName j x (wipe σ vs) H' fun σ2 H2 => wipe σ2 vs = wipe σ vs ∧ tt σ2 H2 fun b H3 =>
          if b = true then te σ2 H3 fun y H4 => ∃ acc, H4 D = some (.lst acc) ∧ acc.length < sizeLine ∧ Nx (upd H4 D (.lst (acc ++ [y]))) else Nx H3) :=
  lc_range (fun i H2 => Same H H2 ∧ H2 D = some (.lst (gives i keep val))) ⟨Same.new hD, upd_same⟩
    (fun i H2 hi e => ⟨hw _, lc_turnS hD hi hn e.1 e.2 (fun Q q => ht i H2 Q hi e.1 q) (fun H3 s3 Q k q => he i H3 Q hi k (e.1.trans s3) q)⟩)
    (fun H2 e => hd H2 e.1 e.2)
/-- [.. for a, b in zip(xs, ys) ..], lists of any lengths, whose turns may make things -/
theorem lcZn {a b : Addr} {xs ys : List V} {j1 j2 : Nat} (keep : Nat → Bool) (val : Nat → V) (hx : SqL K H a xs) (hy : SqL K H b ys) (hD : H D = none) (hn : xs.length < 100000)
    (hw : ∀ x y, wipe (((wipe σ vs).set j1 (some x)).set j2 (some y)) vs = wipe σ vs)
    (ht : ∀ i x y H2 (Q : Bool → Hp → Prop), xs[i]? = some x → ys[i]? = some y → Same H H2 → (∀ H3, Same H2 H3 → Q (keep i) H3) → tt (((wipe σ vs).set j1 (some x)).set j2 (some y)) H2 Q)
    (he : ∀ i x y H2 (Q : VK), xs[i]? = some x → ys[i]? = some y → keep i = true → Same H H2 → (∀ H3, Same H2 H3 → Q (val i) H3) → te (((wipe σ vs).set j1 (some x)).set j2 (some y)) H2 Q)
    (hd : ∀ H', Same H H' → H' D = some (.lst (gives (min xs.length ys.length) keep val)) → Qd H') :
    ∃ W : Nat → Nat → Hp → Prop, (∃ m, W 0 m (upd H D (.lst []))) ∧ ∀ i m H, W i m H →
      ((Itz K a b).stop i H ∧ Qd H) ∨ ((Itz K a b).go i H ∧ ∃ Nx : Hp → Prop, (∀ H', Nx H' → ∃ m', m' < m ∧ W (i + 1) m' H') ∧
        ∀ x H', (Itz K a b).yld i H x H' → gTup K 2 (gCons (gName j1) (gCons (gName j2) gNil)) x (wipe σ vs) H' fun σ2 H2 => wipe σ2 vs = wipe σ vs ∧ tt σ2 H2 fun b H3 =>
          if b = true then te σ2 H3 fun y H4 => ∃ acc, H4 D = some (.lst acc) ∧ acc.length < sizeLine ∧ Nx (upd H4 D (.lst (acc ++ [y]))) else Nx H3) := by
  refine ⟨fun i m H' => m = min xs.length ys.length - i ∧ i ≤ min xs.length ys.length ∧ Same H H' ∧ H' D = some (.lst (gives i keep val)), ⟨_, rfl, Nat.zero_le _, Same.new hD, upd_same⟩, ?_⟩
  rintro i m H2 ⟨rfl, hi, s2, h2⟩
  have qx := s2.seq hx
  have qy := s2.seq hy
  rcases Nat.lt_or_ge i (min xs.length ys.length) with lt | ge
  · have lx : i < xs.length := by omega
    have ly : i < ys.length := by omega
    refine .inr ⟨⟨xs, ys, xs[i], ys[i], qx, qy, List.getElem?_eq_getElem lx, List.getElem?_eq_getElem ly⟩, fun H' => Same H H' ∧ H' D = some (.lst (gives (i + 1) keep val)),
      fun H' p' => ⟨min xs.length ys.length - (i + 1), by omega, rfl, lt, p'.1, p'.2⟩, ?_⟩
    rintro v H' ⟨T, x, y, rfl, hT, rfl, fx, fy⟩
    have sT : Same H (upd H2 T (.tup [x, y])) := s2.trans (Same.new hT)
    have hTD := Same.new (o := .tup [x, y]) hT _ _ h2
    refine ⟨T, _, rfl, SqT.of upd_same, rfl, _, _, rfl, _, _, rfl, rfl, hw _ _, ?_⟩
    exact lc_turnS hD lx hn sT hTD (fun Q q => ht i x y _ Q (fx xs qx) (fy ys qy) sT q) (fun H3 s3 Q k q => he i x y H3 Q (fx xs qx) (fy ys qy) k (sT.trans s3) q)
  · obtain rfl : i = min xs.length ys.length := Nat.le_antisymm hi ge
    refine .inl ⟨⟨xs, ys, qx, qy, ?_⟩, hd H2 s2 h2⟩
    rcases Nat.le_total xs.length ys.length with c | c
    · exact .inl (by omega)
    · exact .inr (by omega)
end
end SH

/-! SH7: set(xs) of a list of hin, and sorted of such a set, any number of members below the table's bound. -/
namespace SH
open PySem PySem.Spec PyProof.Rows L2
/-- the object that set() makes -/
abbrev setO0 (w : World) : Obj :=
  { cls := .type "set", dict := none, data := .set #[] 0 (.fresh 0 0 (!w.params.followText "set-order")) }
section
variable {P : Program} {w : World} {A : Around} {E : Value → Shared → Prop} {s : Shared}
set_option maxHeartbeats 3200000 in
theorem set_of_list {l : Addr} {xs : Array Value} (ns : List Int) {Q : Value → Shared → Prop} (calm : A.handled = none)
    (isl : s.heap.IsList l xs) (hin : IntsAre xs.toList ns) (few : ns.length + 1 < scanBound)
    (h : ∀ (g : Heap) (tk c : Nat), SetR w g s.heap.objs.size (fun j => decide (j ∈ ns)) c → c ≤ ns.length →
      (∀ b o, s.heap.get? b = some o → g.get? b = some o) →
      Q (.ref s.heap.objs.size) { s with heap := g, toks := tk }) :
    wpAny (model P w) A (call (.type "set") [.ref l]) Q E s := by
  have size : xs.size = ns.length := by rw [← Array.length_toList]; exact IntsAre.length hin
  obtain ⟨_, _, m1⟩ := F.called_set.mro
  have m2 := F.called_set.made
  have m3 := F.called_set.sub
  refine wpAny_call (codeAny_of_tree (show wpAny _ _ (callAny (.type "set") _) _ _ _ from ?_))
  refine wpAny_pure ⟨Code.quiet_builtin _ (by decide +kernel),
    codeAny_builtin F.entry_type_call ?_⟩
  rw [Around.under_plain (weight_type_call_type "set"
    [.ref l] []) rfl]
  have m4 := F.called_set.notType
  have m5 := F.called_set.canCreate
  have m6 := F.typeCall_set_1 (.ref l)
  repeat (any_goals (first | wp_step | assumption))
  refine codeAny_mono (code_set_led1 (.ref l) (E := E)
    (Q₁ := fun ob t => ob = .ref s.heap.objs.size ∧ t = { s with heap := s.heap.push (setO0 w) }) ⟨rfl, rfl⟩)
    fun res t made => ?_
  cases res with
  | error e => exact made
  | ok fl =>
  cases fl with
  | ret ob =>
    obtain ⟨rfl, rfl⟩ := made
    have at0 : (s.heap.push (setO0 w)).get? s.heap.objs.size = some (setO0 w) := Heap.get?_push_size _ rfl
    have ty0 : Shared.TypeIs { s with heap := s.heap.push (setO0 w) } (.ref s.heap.objs.size) "set" := ⟨_, at0, rfl⟩
    have m7 := F.called_set.init.lookup
    have m8 := F.called_set.init.bind (.ref s.heap.objs.size)
    repeat (any_goals (first | wp_step | assumption))
    refine codeAny_mono (codeAny_call_builtin (R := wants (fun r t => r = .none ∧ ∃ g tk c, t = { s with heap := g, toks := tk } ∧
        SetR w g s.heap.objs.size (fun j => decide (j ∈ ns)) c ∧ c ≤ ns.length ∧ ∀ b o, s.heap.get? b = some o → g.get? b = some o) E)
      F.called_set.init.plain F.entry_set_init (check_set_init_1 ty0 ?_)) fun res2 t2 done => ?_
    · obtain ⟨ol, lk, cl, en, dl⟩ := isl
      obtain ⟨c1, d1, x1, sl1⟩ := ol
      simp only at cl dl
      subst cl dl
      have lk' : (s.heap.push (setO0 w)).get? l = some { cls := .type "list", dict := d1, data := .seq xs en, slots := sl1 } :=
        Heap.get?_push_of_some _ lk
      have u1 := F.sub_list_set
      have u2 := F.sub_list_frozenset
      have u3 : (Value.type "list" == Value.type "dict") = false := by decide
      have isl1 : (s.heap.push (setO0 w)).IsList l xs := ⟨_, lk', rfl, en, rfl⟩
      unfold Builtin.«set.__init__» noKeywords
      unfold Builtin.Frozenset.updateFrom
      generalize iterE : pyIter = itf
      wp_walk
      subst iterE
      refine wpAny_pyIter_list isl1 (wpAny_bind (wpAny_runValue ?_))
      have lt : l < s.heap.objs.size := Heap.lt_size lk
      have calm3 : A.in1.in1.in1.handled = none := by simp [calm]
      have sz : (s.heap.push (setO0 w)).objs.size = s.heap.objs.size + 1 := Heap.size_push ..
      have ne1 : l ≠ (s.heap.push (setO0 w)).objs.size := by rw [sz]; exact Nat.ne_of_lt (Nat.lt_succ_of_lt lt)
      have ne2 : s.heap.objs.size ∉ [(s.heap.push (setO0 w)).objs.size, l] := by
        rw [sz]
        simp only [List.mem_cons, List.not_mem_nil, or_false, not_or]
        exact ⟨Nat.ne_of_lt (Nat.lt_succ_self _), Ne.symm (Nat.ne_of_lt lt)⟩
      have vals : ∀ (i : Nat) (v : Value), xs[i]? = some v → ∃ k t, ns[i]? = some k ∧ v = .int k t := fun i v e => by
        have il : i < ns.length := by rw [← size]; exact (Array.getElem?_eq_some_iff.mp e).1
        obtain ⟨t, et⟩ := IntsAre.int_at hin i v (by rw [Array.getElem?_toList]; exact e)
        refine ⟨ns.getD i 0, t, ?_, et⟩
        rw [List.getD_eq_getElem?_getD, List.getElem?_eq_getElem il]
        rfl
      refine set_update_ints ((Walks.list calm3 _ l ne1 xs).toS) s.heap.objs.size ne2 ns size few vals (xs.size - 0) 0 _ (by omega)
        (Nat.zero_le _) ⟨⟨_, Heap.get?_push_size _ rfl, rfl, rfl⟩, isl1.push _⟩ ⟨0, Nat.le_refl 0, ?_⟩ ?_
      · exact setR_new_at (Heap.get?_push_of_some _ at0)
      · intro t c mv cl1 R
        obtain ⟨g, gens, drawn, tk, os⟩ := t
        obtain rfl : gens = s.gens := mv.gens
        obtain rfl : drawn = s.drawn := mv.drawn
        obtain rfl : os = s.os := mv.os
        refine wpAny_pure (show wpAny _ _ (ret Value.none) _ _ _ from ?_)
        rw [size] at cl1
        refine wpAny_pure ⟨rfl, g, tk, c, rfl, R, cl1, fun b o e => mv.heap b o ?_ ?_⟩
        · have lb : b < s.heap.objs.size := Heap.lt_size e
          rw [sz]
          simp only [List.mem_cons, List.not_mem_nil, or_false, not_or]
          exact ⟨Nat.ne_of_lt lb, Nat.ne_of_lt (Nat.lt_succ_of_lt lb)⟩
        · exact Heap.get?_push_of_some _ (Heap.get?_push_of_some _ e)
    · cases res2 with
      | error e => exact done
      | ok fl2 =>
      cases fl2 with
      | ret r =>
        obtain ⟨rfl, g, tk, c, rfl, R, cl1, kp⟩ := done
        repeat (any_goals (first | wp_step | assumption))
        exact h _ _ _ R cl1 kp
      | _ => exact done.elim
  | _ => exact made.elim
theorem set_sorted {a : Addr} {S : Int → Bool} {n : Nat} {Q : Value → Shared → Prop} (R : SetR w s.heap a S n) (calm : A.handled = none)
    (h : ∀ t p (out : Array Value) (c : Nat) (ns : List Int), (∀ b o, s.heap.get? b = some o → t.heap.get? b = some o) → t.gens = s.gens → t.os = s.os →
      s.heap.objs.size ≤ p → t.heap.get? p = some (seqObj "list" out c) → IntsAre out.toList ns → ns.Pairwise (· < ·) →
      (∀ k, k ∈ ns ↔ S k = true) → ns.length = n → Q (.ref p) t) :
    wpAny (model P w) A (call (.builtin "sorted") [.ref a]) Q E s := by
  obtain ⟨ob, es, ep, tb, look, exact', dat, good, dis, mem, bnd, fits, cnt, ris, led⟩ := R
  refine Calls.call_function_entry kind_sorted plain_sorted entry_sorted (args_sorted1 _) ?_
  unfold Builtin.«sorted»
  refine wpAny_bind (m := checkCount "sorted" 1 1 _) (wpAny_pure (wpAny_bind (collect_set (A := A.in1) calm ⟨ob, look, exact'.1, dat⟩ fits bnd ris led
    fun t1 vs kp grow gn osn perm => ?_)))
  have lenV : vs.length = n := by rw [perm.length_eq, List.length_map, Array.length_toList]; exact cnt
  have intsV : IntsAre vs (vs.map Builtin.Re.reRawOf) := ints_of vs fun v hv => by
    obtain ⟨e, he, rfl⟩ := List.mem_map.mp (perm.mem_iff.mp hv)
    obtain ⟨k, tk, x, _⟩ := good e he
    exact ⟨k, tk, x⟩
  have permK : (vs.map Builtin.Re.reRawOf).Perm (es.toList.map keyOf) := by
    have := perm.map Builtin.Re.reRawOf
    rwa [List.map_map] at this
  have small : vs.length ≤ sizeLine := by
    have : scanBound = 4096 := rfl
    rw [lenV, sizeLine_eq]
    omega
  refine wpAny_bind (wpAny_newList ?_ small)
  have look2 : (t1.heap.push (seqObj "list" vs.toArray 0)).get? t1.heap.objs.size = some (seqObj "list" vs.toArray 0) :=
    Heap.get?_push_size _ rfl
  refine wpAny_bind (wpAny_holding (wpAny_call_entry slot_list_sort ⟨_, look2, rfl⟩ entry_list_sort
    (SrtO.list_sort_ord SrtO.swo_int look2 small (fun two => SrtO.ints_sortable intsV two) fun out o1 o2 => ⟨_, rfl, ?_⟩) (args_list_sort _)))
  obtain ⟨k1, k2, k3⟩ := SrtO.ints_out intsV o1 o2
  obtain ⟨c, ec⟩ := sortedHeap_at (vs := vs) (out := out.toArray) look2
  have pn : (out.map SrtO.iv).Perm (es.toList.map keyOf) := k2.trans permK
  refine wpAny_pure ⟨_, rfl, h _ t1.heap.objs.size out.toArray c (out.map SrtO.iv) (fun b u e => ?_) gn osn grow ec k1
    (lt_of_le_nodup _ k3 (pn.nodup_iff.mpr dis)) (fun k => by rw [pn.mem_iff, ← mem k]) ?_⟩
  · have e1 := kp b u e
    have lb : b < t1.heap.objs.size := Heap.lt_size e1
    have lb2 : b ≠ t1.heap.objs.size := Nat.ne_of_lt lb
    show (sortedHeap (t1.heap.push (seqObj "list" vs.toArray 0)) t1.heap.objs.size vs out.toArray).get? b = some u
    rw [sortedHeap_old lb2 (by rw [size_push']; exact Nat.lt_succ_of_lt lb)]
    exact Heap.get?_push_of_some _ e1
  · rw [pn.length_eq, List.length_map, Array.length_toList]
    exact cnt
end
/-- set(xs) -/
def rSetOfI (K : PySem.W.Frag) (w : World) : List V → Hp → VK → Prop := fun xs H Q => ∃ (l : Addr) (ns : List Int), xs = [.ref l] ∧ SqL K H l (iv ns) ∧ ns.length < 4000 ∧
  ∀ a n, H a = none → n ≤ ns.length → Q (.ref a) (upd H a (SetO w a (fun j => decide (j ∈ ns)) n))
theorem cr_setOfI {X : Cx} (hc : X.calm = true) : CallR X (.type "set") (rSetOfI X.K X.w) := by
  intro pins s σ H xs us Q I r h
  obtain ⟨l, ns, rfl, hl, hf, q⟩ := h
  rw [Vals.ref1 r]
  obtain ⟨its, rv, pl, hz⟩ := I.list hl
  have hn : H s.heap.objs.size = none := I.hok.fresh (Nat.le_refl _)
  refine set_of_list (P := X.prog) (w := X.w) ns (I.ok.hd hc) pl.isList (by simpa using ints_of_vals rv) (by have : scanBound = 4096 := rfl; omega) fun g tk c R cl kp => ?_
  exact ⟨.ref s.heap.objs.size, upd H s.heap.objs.size (SetO X.w s.heap.objs.size (fun j => decide (j ∈ ns)) c), I.laid (t' := tk) kp (Nat.le_refl _) (setO_new R), rfl, q _ c hn cl⟩
/-- sorted(found), any number of members -/
def rSortedN (w : World) : List V → Hp → VK → Prop := fun vs H Q => ∃ (a : Addr) (S : Int → Bool) (n : Nat), vs = [V.ref a] ∧ H a = some (SetO w a S n) ∧
  ∀ (ns : List Int) (p : Addr), ns.Pairwise (· < ·) → (∀ k : Int, k ∈ ns ↔ S k = true) → ns.length = n → H p = none → Q (.ref p) (upd H p (.lst (iv ns)))
theorem cr_sortedN {X : Cx} (hc : X.calm = true) : CallR X (.builtin "sorted") (rSortedN X.w) := by
  intro pins s σ H vs us Q I r h
  obtain ⟨a, S, n, rfl, ha, q⟩ := h
  have R := setO_get I ha
  rw [Vals.ref1 r]
  have nb : n < scanBound := by obtain ⟨_, es, _, _, _, _, _, _, _, _, b, _, e, _⟩ := R; omega
  refine set_sorted R (I.ok.hd hc) fun t p out c ns kp gn osn hp look hin asc mem len => ?_
  have small : (iv ns).length ≤ sizeLine := by
    have : scanBound = 4096 := rfl
    rw [List.length_map, len, sizeLine_eq]
    omega
  have hn : H p = none := I.hok.fresh hp
  have J : Inv X pins σ (upd H p (.lst (iv ns))) { s with heap := t.heap, gens := t.gens, drawn := t.drawn, toks := t.toks } :=
    I.call (ch := []) (Un.laid kp hp hn) (I.hok.laid kp hp ⟨small, out.toList, c, vals_of_ints hin, look⟩)
      (by rw [gn]; exact I.bare) (fun _ z => nomatch z)
  have e : t = { s with heap := t.heap, gens := t.gens, drawn := t.drawn, toks := t.toks } := by
    cases t; cases s; cases osn; rfl
  rw [e]
  exact ⟨.ref p, _, J, rfl, q ns p asc mem len hn⟩
end SH

/-! SH8: sorted(xs) of a list of ints, any length below 4000. -/
namespace SH
open PySem PySem.Spec PyProof.Rows L2
def rSortedAny (K : PySem.W.Frag) : List V → Hp → VK → Prop := fun vs H Q => ∃ (a : Addr) (ns : List Int), vs = [V.ref a] ∧ SqL K H a (ns.map V.int) ∧ ns.length < 4000 ∧
  ∀ (ns' : List Int) (p : Addr), ns'.Perm ns → ns'.Pairwise (· ≤ ·) → H p = none → Q (.ref p) (upd H p (.lst (ns'.map V.int)))
section
variable {X : Cx}
theorem cr_sortedAny : CallR X (.builtin "sorted") (rSortedAny X.K) := by
  intro pins s σ H vs us Q I r h
  obtain ⟨a, ns, rfl, hs, h64, q⟩ := h
  obtain ⟨its, rv, hl, _⟩ := I.list hs
  rw [Vals.ref1 r]
  have hi := rv.ints
  have hb : its.length ≤ sizeLine := by rw [hi.length, sizeLine_eq]; omega
  refine PyProof.Rows.sorted_intsAny hl.isList hi hb fun out ns' h1 h2 h3 => ?_
  obtain ⟨ep, he'⟩ := PyProof.Rows.sortedAll_at s.heap its out
  have hlen : (ns'.map V.int).length ≤ sizeLine := by rw [List.length_map, h2.length_eq, sizeLine_eq]; omega
  exact ⟨.ref _, upd H (s.heap.objs.size + 1) (.lst (ns'.map V.int)), I.laid (t' := s.toks) (fun _ _ => PyProof.Rows.sortedAll_old) (Nat.le_succ _) ⟨hlen, out.toList, ep, vals_of_ints h1, he'⟩, rfl, q ns' _ h2 h3 (I.hok.fresh (Nat.le_succ _))⟩
end
end SH

/-! SH9: values of any kind: data that stands in the heap, its repr, its type. -/
namespace SH
open PySem PySem.Spec PyProof.Rows L2

mutual
inductive Dx (H : Hp) : V → PyData → List Addr → Prop
  | non : Dx H .non .none []
  | bl (b : Bool) : Dx H (.bl b) (.bool b) []
  | int (i : Int) : Dx H (.int i) (.int i) []
  | str (x : Str) : Dx H (.str x) (.str x) []
  | lst {a : Addr} {xs : List V} {ds : List PyData} {as : List Addr} : H a = some (.lst xs) → DxAll H xs ds as → Dx H (.ref a) (.list ds) (a :: as)
  | tup {a : Addr} {xs : List V} {ds : List PyData} {as : List Addr} : H a = some (.tup xs) → DxAll H xs ds as → Dx H (.ref a) (.tuple ds) (a :: as)
  | emp {a : Addr} : H a = some (.dK []) → Dx H (.ref a) (.dict []) [a]
inductive DxAll (H : Hp) : List V → List PyData → List Addr → Prop
  | nil : DxAll H [] [] []
  | cons {v : V} {vs : List V} {d : PyData} {ds : List PyData} {as bs : List Addr} : Dx H v d as → DxAll H vs ds bs → DxAll H (v :: vs) (d :: ds) (as ++ bs)
end
mutual
theorem Dx.imp {H H' : Hp} : ∀ {d : PyData} {v : V} {as : List Addr}, Dx H v d as → (∀ a ∈ as, ∀ o, H a = some o → H' a = some o) → Dx H' v d as
  | .none, _, _, h, k => by cases h; exact .non
  | .bool b, _, _, h, k => by cases h; exact .bl b
  | .int i, _, _, h, k => by cases h; exact .int i
  | .str x, _, _, h, k => by cases h; exact .str x
  | .list ds, _, _, h, k => by
    cases h with
    | lst e r => exact .lst (k _ List.mem_cons_self _ e) (DxAll.imp r fun a m => k a (List.mem_cons_of_mem _ m))
  | .tuple ds, _, _, h, k => by
    cases h with
    | tup e r => exact .tup (k _ List.mem_cons_self _ e) (DxAll.imp r fun a m => k a (List.mem_cons_of_mem _ m))
  | .dict _, _, _, h, k => by
    cases h with
    | emp e => exact .emp (k _ List.mem_cons_self _ e)
theorem DxAll.imp {H H' : Hp} : ∀ {ds : List PyData} {vs : List V} {as : List Addr}, DxAll H vs ds as → (∀ a ∈ as, ∀ o, H a = some o → H' a = some o) → DxAll H' vs ds as
  | [], _, _, h, k => by cases h; exact .nil
  | d :: ds, _, _, h, k => by
    cases h with
    | cons h1 h2 => exact .cons (Dx.imp h1 fun a m => k a (List.mem_append_left _ m)) (DxAll.imp h2 fun a m => k a (List.mem_append_right _ m))
end
theorem Dx.same {H H' : Hp} {v : V} {d : PyData} {as : List Addr} (h : Dx H v d as) (s : Same H H') : Dx H' v d as := h.imp fun a _ o e => s a o e
theorem Dx.but {H H' : Hp} {g : Addr} {v : V} {d : PyData} {as : List Addr} (h : Dx H v d as) (s : SameBut g H H') (n : g ∉ as) : Dx H' v d as :=
  h.imp fun a m o e => s a o e fun z => n (z ▸ m)
theorem DxAll.append {H : Hp} : ∀ {xs ys : List V} {ds es : List PyData} {as bs : List Addr}, DxAll H xs ds as → DxAll H ys es bs → DxAll H (xs ++ ys) (ds ++ es) (as ++ bs)
  | _, _, _, _, _, _, .nil, h => h
  | _, _, _, _, _, _, .cons h1 h2, h => by
    rw [List.append_assoc]
    exact .cons h1 (DxAll.append h2 h)
theorem dx_ints {H : Hp} : ∀ ns : List Int, DxAll H (iv ns) (ns.map PyData.int) []
  | [] => .nil
  | n :: r => .cons (as := []) (.int n) (dx_ints r)
theorem dx_one {H : Hp} {v : V} {d : PyData} {as : List Addr} (h : Dx H v d as) : DxAll H [v] [d] as := by
  have := DxAll.cons h .nil
  rwa [List.append_nil] at this
theorem dx_dI {H : Hp} {a : Addr} {ns : List Int} (h : H a = some (.lst (iv ns))) : Dx H (.ref a) (dI ns) [a] := .lst h (dx_ints ns)
theorem DxAll.len {H : Hp} : ∀ {xs : List V} {ds : List PyData} {as : List Addr}, DxAll H xs ds as → xs.length = ds.length
  | _, _, _, .nil => rfl
  | _, _, _, .cons _ h => congrArg (· + 1) h.len
theorem DxAll.at {H : Hp} : ∀ {xs : List V} {ds : List PyData} {as : List Addr} {i : Nat} {x : V}, DxAll H xs ds as → xs[i]? = some x → ∃ d bs, ds[i]? = some d ∧ Dx H x d bs
  | _, _, _, _, _, .nil, e => by simp at e
  | _, _, _, 0, _, .cons h _, e => by simp at e; subst e; exact ⟨_, _, rfl, h⟩
  | _, _, _, i + 1, x, .cons _ t, e => by
    obtain ⟨d, bs, h1, h2⟩ := DxAll.at (i := i) (x := x) t (by simpa using e)
    exact ⟨d, bs, by simpa using h1, h2⟩
section
variable {X : Cx} {pins : List (Addr × Obj)} {σ : L2.St} {H : Hp} {s : Shared}
theorem Dx.fresh (I : Inv X pins σ H s) {a : Addr} {o : HO} (e : H a = some o) : a < s.heap.objs.size := I.hok.lt e
mutual
theorem Dx.reads (I : Inv X pins σ H s) : ∀ (d : PyData) (v : V) (u : Value) (as : List Addr), Dx H v d as → RelV v u → ∃ bs, Reads s.heap u d bs ∧ ∀ b ∈ bs, b ∈ as
  | .none, _, _, _, h, r => by
    cases h
    cases r
    exact ⟨_, Reads.none, fun _ z => z⟩
  | .bool b, _, _, _, h, r => by
    cases h
    cases r
    exact ⟨_, Reads.bool b, fun _ z => z⟩
  | .int i, _, _, _, h, r => by
    cases h
    obtain ⟨t, rfl⟩ := r
    exact ⟨_, Reads.int i t, fun _ z => z⟩
  | .str x, _, _, _, h, r => by
    cases h
    obtain ⟨t, rfl⟩ := r
    exact ⟨_, Reads.str x t, fun _ z => z⟩
  | .list ds, _, _, _, h, r => by
    cases h with
    | lst hs ha =>
      cases r
      obtain ⟨its, rv, ⟨o, n, ho, hc, _, hd⟩, _⟩ := I.list (SqL.of hs)
      obtain ⟨bs, hr, hb⟩ := Dx.readsAll I ds _ its _ ha rv
      refine ⟨_, Reads.list ho hc hd hr, fun b m => ?_⟩
      rcases List.mem_cons.mp m with rfl | m
      · exact List.mem_cons_self
      · exact List.mem_cons_of_mem _ (hb b m)
  | .tuple ds, _, _, _, h, r => by
    cases h with
    | tup hs ha =>
      cases r
      obtain ⟨its, rv, ⟨o, ho, hc, n, hd⟩, _⟩ := I.tuple (SqT.of hs)
      obtain ⟨bs, hr, hb⟩ := Dx.readsAll I ds _ its _ ha rv
      exact ⟨_, Reads.tuple ho hc hd hr, fun b m => List.mem_cons_of_mem _ (hb b m)⟩
  | .dict _, _, _, _, h, r => by
    cases h with
    | emp e =>
      cases r
      obtain ⟨_, _, vs, rel, o, es, ep, ho, ex, hd, _, pr, _⟩ := dk_of I.hok e
      cases rel
      have e0 : es.toList = [] := by
        cases q : es.toList with
        | nil => rfl
        | cons x y => rw [q] at pr; cases pr
      exact ⟨_, Reads.dict (as := []) (bs := []) ho ex.1 hd (by rw [e0]; exact .nil) (by rw [e0]; exact .nil), fun b m => m⟩
theorem Dx.readsAll (I : Inv X pins σ H s) : ∀ (ds : List PyData) (vs : List V) (us : List Value) (as : List Addr), DxAll H vs ds as → Vals vs us → ∃ bs, ReadsAll s.heap us ds bs ∧ ∀ b ∈ bs, b ∈ as
  | [], _, _, _, h, r => by
    cases h
    cases r
    exact ⟨_, ReadsAll.nil, fun _ z => z⟩
  | d :: ds, _, _, _, h, r => by
    cases h with
    | cons h1 h2 =>
      cases r with
      | cons r1 r2 =>
        obtain ⟨as, q1, m1⟩ := Dx.reads I d _ _ _ h1 r1
        obtain ⟨bs, q2, m2⟩ := Dx.readsAll I ds _ _ _ h2 r2
        refine ⟨_, ReadsAll.cons q1 q2, fun b m => ?_⟩
        rcases List.mem_append.mp m with m | m
        · exact List.mem_append_left _ (m1 b m)
        · exact List.mem_append_right _ (m2 b m)
end
end
/-! ### repr of such -/
/-- a value that can be shown, in at most L signs -/
def Fits (n L : Nat) (d : PyData) : Prop := d.showable = true ∧ d.depth ≤ n ∧ d.shown.length ≤ L
def rReprX : List V → Hp → VK → Prop := fun xs H Q =>
  ∃ (x : V) (d : PyData) (as : List Addr), xs = [x] ∧ Dx H x d as ∧ (d.hasDict = true → sysModules ∉ as) ∧ Fits 50 16000000 d ∧ Q (.str d.shown) H
section
variable {X : Cx}
theorem call_reprX (qt : Quiet X.A) (hu : X.A.units + 64 < cLine) : CallR X (.builtin "repr") rReprX := by
  intro pins s σ H xs us Q I r h
  obtain ⟨x, d, as, rfl, hd, hn, ⟨h1, h3, h4⟩, q⟩ := h
  obtain ⟨u, rfl, rx⟩ := vals1 r
  have hz : d.shown.length ≤ sizeLine := Nat.le_trans h4 (by decide)
  obtain ⟨bs, rd, hb⟩ := Dx.reads I d _ _ _ hd rx
  have atom : ∀ (a : Addr), u = .ref a → wpAny (model X.prog X.w) X.A (call (.builtin "repr") [u]) (EP X pins σ Q) X.xe s := fun a e => by
    subst e
    exact repr_of_reads' rd h1 (fun e m => hn e (hb _ m)) qt (by omega) (fun _ _ e => e)
      (fun h' u tk hk => ⟨.str d.shown, H, I.kept hk, ⟨u, rfl⟩, q⟩) hz
  cases hd with
  | non => cases rx; exact PySem.P.repr_of_none ⟨.str _, H, I.tok _, ⟨_, rfl⟩, q⟩
  | bl b => cases rx; exact PySem.P.repr_of_bool ⟨.str _, H, I.tok _, ⟨_, rfl⟩, by cases b <;> exact q⟩
  | int i =>
    obtain ⟨t, rfl⟩ := rx
    exact PySem.P.repr_of_int (of_decide_eq_true h1) ⟨.str _, H, I.tok _, ⟨_, rfl⟩, q⟩
  | str y =>
    obtain ⟨t, rfl⟩ := rx
    exact PySem.P.repr_of_str ⟨.str _, H, I.tok _, ⟨_, rfl⟩, q⟩ hz
  | lst _ _ => exact atom _ rx
  | tup _ _ => exact atom _ rx
  | emp _ => exact atom _ rx
end
/-! ### type(x), isinstance(x, T) -/
/-- the name of the type -/
def tyD : PyData → String
  | .none => "NoneType"
  | .bool _ => "bool"
  | .int _ => "int"
  | .str _ => "str"
  | .list _ => "list"
  | .tuple _ => "tuple"
  | .dict _ => "dict"
theorem Dx.tyX {K : PySem.W.Frag} {H : Hp} {v : V} {d : PyData} {as : List Addr} (h : Dx H v d as) : TyX K H v (.type (tyD d)) := by
  cases h with
  | non => exact .base .non
  | bl b => exact .base (.bl b)
  | int i => exact .base (.int i)
  | str x => exact .base (.str x)
  | lst e _ => exact .base (.lst e)
  | tup e _ => exact .base (.tup e)
  | emp e => exact .base (.dK e)
def rTyX : List V → Hp → VK → Prop := fun xs H Q => ∃ (x : V) (d : PyData) (as : List Addr), xs = [x] ∧ Dx H x d as ∧ Q (.ty (tyD d)) H
section
variable {X : Cx}
theorem call_typeX : CallR X (.type "type") rTyX := by
  intro pins s σ H xs us Q I r h
  obtain ⟨x, d, as, rfl, hd, q⟩ := h
  obtain ⟨u, rfl, rx⟩ := vals1 r
  have nb : ∀ d : PyData, (Value.type (tyD d) == Value.type "builtin_function_or_method") = false := fun d => by cases d <;> (simp only [tyD]; decide +kernel)
  have fin : s.TypeIs u (tyD d) → wpAny (model X.prog X.w) X.A (call (.type "type") [u]) (EP X pins σ Q) X.xe s :=
    fun h1 => call_type_of h1 (nb d) ⟨.ty _, H, I, rfl, q⟩
  cases hd with
  | non => cases rx; exact fin rfl
  | bl b => cases rx; exact fin rfl
  | int i => obtain ⟨t, rfl⟩ := rx; exact fin rfl
  | str y => obtain ⟨t, rfl⟩ := rx; exact fin rfl
  | lst e _ =>
    cases rx
    obtain ⟨its, rv, p, _⟩ := I.list (SqL.of e)
    exact fin p.isList.typeIs
  | tup e _ =>
    cases rx
    obtain ⟨its, rv, p, _⟩ := I.tuple (SqT.of e)
    exact fin p.typeIs
  | emp e =>
    cases rx
    obtain ⟨_, _, vs, rel, o, es, ep, ho, ex, _⟩ := dk_of I.hok e
    exact fin ⟨o, ho, ex.1⟩
/-- isinstance(x, T), T a built-in type -/
def rIsX : List V → Hp → VK → Prop := fun xs H Q => ∃ (x : V) (T : String) (d : PyData) (as : List Addr) (b : Bool), xs = [x, .ty T] ∧ Dx H x d as ∧ kitB (tyD d) T = some b ∧ Q (.bl b) H
theorem call_isX : CallR X (.builtin "isinstance") rIsX := by
  intro pins s σ H xs us Q I r h
  obtain ⟨x, T, d, as, b, rfl, hd, e, q⟩ := h
  exact call_isi pins s σ H _ us Q I r ⟨x, .ty T, _, _, b, rfl, .ty T, hd.tyX, kit_ty e, q⟩
theorem kit_int (d : PyData) : kitB (tyD d) "int" = some (match d with | .int _ => true | .bool _ => true | _ => false) := by
  cases d <;> (simp only [tyD]; decide +kernel)
theorem kit_bool (d : PyData) : kitB (tyD d) "bool" = some (match d with | .bool _ => true | _ => false) := by
  cases d <;> (simp only [tyD]; decide +kernel)
theorem kit_list (d : PyData) : kitB (tyD d) "list" = some (match d with | .list _ => true | _ => false) := by
  cases d <;> (simp only [tyD]; decide +kernel)
/-! ### new lists, known to stand apart from the module table -/
def tLstB (t : TA) : TE := fun σ H Q => t σ H fun xs H1 => xs.length ≤ sizeLine ∧ ∀ p, H1 p = none → p ≠ sysModules → Q (.ref p) (upd H1 p (.lst xs))
theorem pe_lstB {es : List Expr} {pos : Pos} {t : TA} (h : PA X es t) : PE X (.List es pos) (tLstB t) := by
  refine ⟨fun pins s σ H Q I hq => ?_⟩
  refine wpAny_List_spliced (thn (h.run pos pins s σ H _ I hq) fun us s1 ⟨xs, H1, I1, r, z, q⟩ => ⟨by rw [← r.length]; exact z, ?_⟩)
  have hf : H1 s1.heap.objs.size = none := I1.hok.fresh (Nat.le_refl _)
  refine ⟨.ref s1.heap.objs.size, upd H1 s1.heap.objs.size (.lst xs), I1.laid (t' := s1.toks) (fun b u e => Heap.get?_push_of_some _ e) (Nat.le_refl _) ?_, rfl, q _ hf (Nat.ne_of_gt I1.big)⟩
  exact ⟨z, us, 0, r, Heap.get?_push_size _ rfl⟩
def rCatB (K : PySem.W.Frag) : R2 := fun x y H Q => ∃ l b xs zs, x = .ref l ∧ y = .ref b ∧ SqL K H l xs ∧ SqL K H b zs ∧ xs.length + zs.length ≤ sizeLine ∧ ∀ p, H p = none → p ≠ sysModules → Q (.ref p) (upd H p (.lst (xs ++ zs)))
theorem op_catB : OpR X (binaryOp .Add) (rCatB X.K) := by
  intro pins s σ H x y v u Q I rx ry h
  obtain ⟨l, b, xs, zs, rfl, rfl, hx, hy, hz, q⟩ := h
  cases rx
  cases ry
  obtain ⟨its, r, ⟨o, n, ho, hc, hd, ht⟩, _⟩ := I.list hx
  obtain ⟨its2, r2, ⟨o2, n2, ho2, hc2, hd2, ht2⟩, _⟩ := I.list hy
  have e1 := r.length
  have e2 := r2.length
  obtain ⟨oc, od, dt, sl⟩ := o
  obtain ⟨oc2, od2, dt2, sl2⟩ := o2
  simp only at hc hd ht hc2 hd2 ht2
  subst hc hd ht hc2 hd2 ht2
  have ea : its.toArray ++ its2.toArray = (its ++ its2).toArray := by simp
  refine concat_meets ⟨_, ho, rfl⟩ ⟨_, ho2, rfl⟩ noFill_list_add seq_list_add PySem.F.slot_list_add PySem.F.entry_list_add
    (PySem.F.args_list_add_2 _ _) (list_addW l b its.toArray its2.toArray n n2 none none sl sl2 (by simp only [List.size_toArray]; omega)) ⟨ho, ho2, ?_⟩
  rw [ea]
  exact ⟨.ref _, _, I.lnew (t' := s.toks) (r.append r2) (by rw [List.length_append]; omega), rfl, q _ I.fresh (Nat.ne_of_gt I.big)⟩
end

def tDNewB : TE := fun _ H Q => ∀ p, H p = none → p ≠ sysModules → Q (.ref p) (upd H p (.dK []))
theorem pe_dnewB {X : Cx} {pos : Pos} : PE X (.Dict [] [] pos) tDNewB := ⟨fun pins s σ H Q I h =>
  wpAny_Dict_empty ⟨.ref s.heap.objs.size, _, I.laid (a := s.heap.objs.size) (o := .dK []) (t' := s.toks) (fun _ _ q => Heap.get?_push_of_some _ q) (Nat.le_refl _) (dk_empty s.heap I.big), rfl, h _ (I.hok.fresh (Nat.le_refl _)) (Nat.ne_of_gt I.big)⟩⟩
theorem atI_all {xs : List V} {p : V → Prop} (h : ∀ v ∈ xs, p v) {z : Int} (h0 : 0 ≤ z) (h1 : z < xs.length) : ∃ v, atI xs z = some v ∧ p v := by
  have e : z = ((z.toNat : Nat) : Int) := by omega
  have hl : z.toNat < xs.length := by omega
  refine ⟨xs[z.toNat], ?_, h _ (List.getElem_mem hl)⟩
  exact (congrArg (atI xs) e).trans (atI_nat (List.getElem?_eq_getElem hl))
theorem Fits.mono {n m L M : Nat} {d : PyData} (h : Fits n L d) (h1 : n ≤ m) (h2 : L ≤ M) : Fits m M d := ⟨h.1, Nat.le_trans h.2.1 h1, Nat.le_trans h.2.2 h2⟩
theorem small_log' {v : Int} (h : v.natAbs < 2 ^ 1900) : v.natAbs.log2 < 1920 := by
  by_cases e : v.natAbs = 0
  · rw [e]; decide
  · have := (Nat.log2_lt e).mpr h
    omega
theorem fit_int {v : Int} (h : v.natAbs < 2 ^ 1900) : Fits 0 1921 (.int v) := ⟨decide_eq_true (small_log' h), Nat.le_refl _, int_text_len_1921 (small_log' h)⟩
theorem fit_bool (b : Bool) : Fits 0 1921 (.bool b) := ⟨rfl, Nat.le_refl _, by cases b <;> decide⟩
theorem fit_none : Fits 0 1921 .none := ⟨rfl, Nat.le_refl _, by decide⟩
theorem fit_emp : Fits 1 1921 (.dict []) := ⟨rfl, by decide, by decide⟩
theorem fitAll {n L : Nat} : ∀ {ds : List PyData}, (∀ d ∈ ds, Fits n L d) → PyData.showableAll ds = true ∧ PyData.depthAll ds ≤ n ∧ ((PyData.shownAll ds).map (·.length)).sum ≤ L * ds.length ∧ (PyData.shownAll ds).length = ds.length
  | [], _ => ⟨rfl, Nat.zero_le _, Nat.le_refl _, rfl⟩
  | d :: r, h => by
    obtain ⟨a, b, c, e⟩ := fitAll (ds := r) fun v hv => h v (List.mem_cons_of_mem _ hv)
    obtain ⟨f1, f2, f3⟩ := h d List.mem_cons_self
    refine ⟨?_, ?_, ?_, ?_⟩
    · show (d.showable && PyData.showableAll r) = true
      rw [f1, a]; rfl
    · show max d.depth (PyData.depthAll r) ≤ n
      omega
    · show d.shown.length + ((PyData.shownAll r).map (·.length)).sum ≤ L * (r.length + 1)
      rw [Nat.mul_add]
      omega
    · show (PyData.shownAll r).length + 1 = r.length + 1
      omega
theorem fit_list {n L m : Nat} {ds : List PyData} (h : ∀ d ∈ ds, Fits n L d) (hl : ds.length ≤ m) : Fits (n + 1) (m * (L + 2) + 3) (.list ds) := by
  obtain ⟨a, b, c, e⟩ := fitAll h
  refine ⟨a, Nat.succ_le_succ b, ?_⟩
  show (listText (PyData.shownAll ds)).length ≤ _
  have := listText_len_le (PyData.shownAll ds)
  have h1 : L * ds.length + 2 * ds.length ≤ m * (L + 2) := by
    rw [← Nat.add_mul, Nat.mul_comm]
    exact Nat.mul_le_mul_right _ hl
  omega
theorem fit_tup {n L m : Nat} {ds : List PyData} (h : ∀ d ∈ ds, Fits n L d) (hl : ds.length ≤ m) : Fits (n + 1) (m * (L + 2) + 3) (.tuple ds) := by
  obtain ⟨a, b, c, e⟩ := fitAll h
  refine ⟨a, Nat.succ_le_succ b, ?_⟩
  show (tupleText (PyData.shownAll ds)).length ≤ _
  have := tupleText_len_le (PyData.shownAll ds)
  have h1 : L * ds.length + 2 * ds.length ≤ m * (L + 2) := by
    rw [← Nat.add_mul, Nat.mul_comm]
    exact Nat.mul_le_mul_right _ hl
  omega
theorem fit_ints {ns : List Int} (h : ∀ v ∈ ns, v.natAbs < 2 ^ 1900) : ∀ d ∈ ns.map PyData.int, Fits 0 1921 d := fun d hd => by
  obtain ⟨v, hv, rfl⟩ := List.mem_map.mp hd
  exact fit_int (h v hv)
theorem hasDict_app : ∀ xs ys : List PyData, PyData.hasDictAll (xs ++ ys) = (PyData.hasDictAll xs || PyData.hasDictAll ys)
  | [], _ => rfl
  | d :: r, ys => by
    show (d.hasDict || PyData.hasDictAll (r ++ ys)) = (d.hasDict || PyData.hasDictAll r || PyData.hasDictAll ys)
    rw [hasDict_app r ys, Bool.or_assoc]
end SH

/-! SH10: lists of pairs of ints (tuples), and comprehensions over them. -/
namespace SH
open PySem PySem.Spec PyProof.Rows L2

theorem lt1900 {n : Nat} (h : n < 2 ^ 128) : n < 2 ^ 1900 := Nat.lt_of_lt_of_le h (Nat.pow_le_pow_right (by decide) (by decide))
theorem noD {d : PyData} {as : List Addr} (h : d.hasDict = false) : d.hasDict = true → sysModules ∉ as := fun h' => by rw [h] at h'; cases h'
inductive Prs (H : Hp) : List V → List (Int × Int) → Prop
  | nil : Prs H [] []
  | cons {r : Addr} {s l : Int} {vs : List V} {os : List (Int × Int)} : H r = some (.tup [.int s, .int l]) → Prs H vs os → Prs H (.ref r :: vs) ((s, l) :: os)
theorem Prs.len {H : Hp} : ∀ {vs : List V} {os : List (Int × Int)}, Prs H vs os → vs.length = os.length
  | _, _, .nil => rfl
  | _, _, .cons _ h => congrArg (· + 1) h.len
theorem Prs.at {H : Hp} : ∀ {vs : List V} {os : List (Int × Int)} {i : Nat} {x : V}, Prs H vs os → vs[i]? = some x → ∃ r s l, x = .ref r ∧ os[i]? = some (s, l) ∧ H r = some (.tup [.int s, .int l])
  | _, _, _, _, .nil, e => by simp at e
  | _, _, 0, _, .cons h _, e => by simp at e; subst e; exact ⟨_, _, _, rfl, rfl, h⟩
  | _, _, i + 1, x, .cons _ t, e => by
    obtain ⟨r, s, l, h1, h2, h3⟩ := Prs.at (i := i) (x := x) t (by simpa using e)
    exact ⟨r, s, l, h1, by simpa using h2, h3⟩
theorem Prs.imp {H H' : Hp} : ∀ {vs : List V} {os : List (Int × Int)}, Prs H vs os → (∀ r o, H r = some (.tup o) → H' r = some (.tup o)) → Prs H' vs os
  | _, _, .nil, _ => .nil
  | _, _, .cons h t, k => .cons (k _ _ h) (t.imp k)
theorem Prs.same {H H' : Hp} {vs : List V} {os : List (Int × Int)} (h : Prs H vs os) (s : Same H H') : Prs H' vs os := h.imp fun r o e => s _ _ e
theorem Prs.but {H H' : Hp} {g : Addr} {xs : List V} {vs : List V} {os : List (Int × Int)} (h : Prs H vs os) (s : SameBut g H H') (hg : H g = some (.lst xs)) : Prs H' vs os :=
  h.imp fun r o e => s _ _ e (ne_of e hg (by intro z; cases z))
theorem Prs.upd {H : Hp} {g : Addr} {xs : List V} {o : HO} {vs : List V} {os : List (Int × Int)} (h : Prs H vs os) (hg : H g = some (.lst xs)) : Prs (L2.upd H g o) vs os :=
  h.imp fun r q e => by rw [upd_ne (ne_of e hg (by intro z; cases z))]; exact e
theorem Prs.append {H : Hp} : ∀ {vs ws : List V} {os qs : List (Int × Int)}, Prs H vs os → Prs H ws qs → Prs H (vs ++ ws) (os ++ qs)
  | _, _, _, _, .nil, h => h
  | _, _, _, _, .cons h1 h2, h => .cons h1 (h2.append h)
theorem Prs.set {H : Hp} {r : Addr} {s l : Int} (hr : H r = some (.tup [.int s, .int l])) : ∀ {vs : List V} {os : List (Int × Int)} (i : Nat), Prs H vs os → Prs H (vs.set i (.ref r)) (os.set i (s, l))
  | _, _, _, .nil => .nil
  | _, _, 0, .cons _ t => .cons hr t
  | _, _, i + 1, .cons h t => .cons h (Prs.set hr i t)
theorem Prs.take {H : Hp} : ∀ {vs : List V} {os : List (Int × Int)} (i : Nat), Prs H vs os → Prs H (vs.take i) (os.take i)
  | _, _, 0, _ => .nil
  | _, _, i + 1, .nil => .nil
  | _, _, i + 1, .cons h t => .cons h (Prs.take i t)
/-- as data -/
def pD (o : Int × Int) : PyData := .tuple [.int o.1, .int o.2]
theorem Prs.dx {H : Hp} : ∀ {vs : List V} {os : List (Int × Int)}, Prs H vs os → ∃ as, DxAll H vs (os.map pD) as
  | _, _, .nil => ⟨_, .nil⟩
  | _, _, .cons (s := s) (l := l) h t => by
    obtain ⟨as, d⟩ := t.dx
    exact ⟨_, .cons (.tup h (dx_ints [s, l])) d⟩
theorem Prs.dp {K : PySem.W.Frag} {H : Hp} : ∀ {vs : List V} {os : List (Int × Int)}, Prs H vs os → DpAll K H vs (os.map pD)
  | _, _, .nil => .nil
  | _, _, .cons (s := s) (l := l) h t => .cons (.tup (SqT.of h) (dp_ints [s, l])) t.dp
theorem fit_pD {o : Int × Int} (h1 : o.1.natAbs < 2 ^ 1900) (h2 : o.2.natAbs < 2 ^ 1900) : Fits 1 3849 (pD o) :=
  fit_tup (m := 2) (L := 1921) (fun d hd => by
    simp only [List.mem_cons, List.not_mem_nil, or_false] at hd
    rcases hd with rfl | rfl
    · exact fit_int h1
    · exact fit_int h2) (Nat.le_refl _)
theorem noDict_pD : ∀ os : List (Int × Int), PyData.hasDictAll (os.map pD) = false
  | [] => rfl
  | o :: r => by
    show ((pD o).hasDict || PyData.hasDictAll (r.map pD)) = false
    rw [noDict_pD r]
    rfl
theorem lay_pD : ∀ os : List (Int × Int), PyData.canLayAll0 (os.map pD) = true
  | [] => rfl
  | o :: r => by
    show ((pD o).canLay0 && PyData.canLayAll0 (r.map pD)) = true
    rw [lay_pD r]
    rfl
theorem depth_pD : ∀ os : List (Int × Int), PyData.depthAll (os.map pD) ≤ 1
  | [] => by decide
  | o :: r => by
    show max (pD o).depth (PyData.depthAll (r.map pD)) ≤ 1
    have h1 : (pD o).depth = 1 := rfl
    have := depth_pD r
    omega
theorem shaped_pD (os : List (Int × Int)) : SeqAt.shaped (.list (os.map pD)) = true := by
  unfold SeqAt.shaped
  have d : (PyData.list (os.map pD)).depth ≤ 2 := Nat.succ_le_succ (depth_pD os)
  show (PyData.canLayAll0 (os.map pD) && decide ((PyData.list (os.map pD)).depth ≤ 64)) = true
  rw [lay_pD, decide_eq_true (by omega)]
  rfl
section
variable {K : PySem.W.Frag} {tt : TT} {te : TE} {vs : List Nat} {σ : L2.St} {H : Hp} {D : Addr} {Qd : Hp → Prop}
/-- [.. for a, b in pairs ..] -/
theorem lcPn {a : Addr} {xs : List V} {os : List (Int × Int)} {j1 j2 : Nat} (keep : Nat → Bool) (val : Nat → V) (ha : H a = some (.lst xs)) (hp : Prs H xs os) (hD : H D = none) (hn : os.length < 100000)
    (hw : ∀ x y, wipe (((wipe σ vs).set j1 (some x)).set j2 (some y)) vs = wipe σ vs)
    (ht : ∀ i s l H2 (Q : Bool → Hp → Prop), os[i]? = some (s, l) → Same H H2 → (∀ H3, Same H2 H3 → Q (keep i) H3) → tt (((wipe σ vs).set j1 (some (.int s))).set j2 (some (.int l))) H2 Q)
    (he : ∀ i s l H2 (Q : VK), os[i]? = some (s, l) → keep i = true → Same H H2 → (∀ H3, Same H2 H3 → Q (val i) H3) → te (((wipe σ vs).set j1 (some (.int s))).set j2 (some (.int l))) H2 Q)
    (hd : ∀ H', Same H H' → H' D = some (.lst (gives os.length keep val)) → Qd H') :
    ∃ W : Nat → Nat → Hp → Prop, (∃ m, W 0 m (upd H D (.lst []))) ∧ ∀ i m H, W i m H →
      ((Itl K a).stop i H ∧ Qd H) ∨ ((Itl K a).go i H ∧ ∃ Nx : Hp → Prop, (∀ H', Nx H' → ∃ m', m' < m ∧ W (i + 1) m' H') ∧
        ∀ x H', (Itl K a).yld i H x H' → gTup K 2 (gCons (gName j1) (gCons (gName j2) gNil)) x (wipe σ vs) H' fun σ2 H2 => wipe σ2 vs = wipe σ vs ∧ tt σ2 H2 fun b H3 =>
          if b = true then te σ2 H3 fun y H4 => ∃ acc, H4 D = some (.lst acc) ∧ acc.length < sizeLine ∧ Nx (upd H4 D (.lst (acc ++ [y]))) else Nx H3) := by
  have hl := hp.len
  refine lc_list (xs := xs) (fun i H2 => Same H H2 ∧ H2 D = some (.lst (gives i keep val))) ⟨Same.new hD, upd_same⟩
    (fun i H2 hi e => SqL.of (e.1 _ _ ha)) (fun i x H2 hi e => ?_) (fun H2 e => hd H2 e.1 (by rw [← hl]; exact e.2))
  obtain ⟨r, s, l, rfl, ho, hr⟩ := hp.at hi
  refine ⟨r, _, rfl, SqT.of (e.1 _ _ hr), rfl, _, _, rfl, _, _, rfl, rfl, hw _ _, ?_⟩
  have il : i < xs.length := (List.getElem?_eq_some_iff.mp hi).1
  exact lc_turnS hD (by omega) hn e.1 e.2 (fun Q q => ht i s l H2 Q ho e.1 q) (fun H3 s3 Q k q => he i s l H3 Q ho k (e.1.trans s3) q)
end
end SH

/-! SH11: len(set(xs)) with repeats; lists of lists of ints. -/
namespace SH
open PySem PySem.Spec PyProof.Rows L2

theorem met_ok (val : Nat → Int) : ∀ n, (PyProof.Rows.firstMet val n).Nodup ∧ ∀ k, k ∈ PyProof.Rows.firstMet val n ↔ k ∈ (List.range n).map val
  | 0 => ⟨List.nodup_nil, fun k => Iff.rfl⟩
  | n + 1 => by
    obtain ⟨a, b⟩ := met_ok val n
    rw [PyProof.Rows.firstMet_succ]
    have e : ∀ (d : List Int) (v : Int), step_dedup d v = if (d.any (· == v)) = true then d else d ++ [v] := fun d v => rfl
    rw [e]
    by_cases c : (PyProof.Rows.firstMet val n).any (· == val n) = true
    · rw [if_pos c]
      obtain ⟨y, hy, ey⟩ := List.any_eq_true.mp c
      have ey2 : y = val n := eq_of_beq ey
      refine ⟨a, fun k => ?_⟩
      rw [b, List.range_succ, List.map_append, List.mem_append]
      constructor
      · exact .inl
      · rintro (h | h)
        · exact h
        · have : k = val n := by simpa using h
          rw [this, ← ey2]
          exact (b y).mp hy
    · rw [if_neg c]
      have no : val n ∉ PyProof.Rows.firstMet val n := fun h => c (List.any_eq_true.mpr ⟨_, h, by simp⟩)
      refine ⟨?_, fun k => ?_⟩
      · rw [List.nodup_append]
        refine ⟨a, by simp, fun x hx y hy => ?_⟩
        rw [List.mem_singleton.mp hy]
        intro z
        exact no (z ▸ hx)
      · rw [List.mem_append, b, List.range_succ, List.map_append, List.mem_append]
        simp
theorem met_all (ns : List Int) : ∀ k, k ∈ (List.range ns.length).map (fun i => ns.getD i 0) ↔ k ∈ ns := fun k => by
  rw [List.mem_map]
  constructor
  · rintro ⟨i, hi, rfl⟩
    have := List.mem_range.mp hi
    rw [List.getD_eq_getElem?_getD, List.getElem?_eq_getElem this]
    exact List.getElem_mem this
  · intro h
    obtain ⟨i, hi, rfl⟩ := List.getElem_of_mem h
    exact ⟨i, List.mem_range.mpr hi, by rw [List.getD_eq_getElem?_getD, List.getElem?_eq_getElem hi]; rfl⟩
def tLenSetG (K : PySem.W.Frag) (ta : TE) : TE := fun σ H Q => ta σ H fun x H1 => ∃ (l : Addr) (ns : List Int), x = .ref l ∧ SqL K H1 l (iv ns) ∧ ns.length ≤ 4000 ∧
  ∀ d : List Int, d.Nodup → (∀ k, k ∈ d ↔ k ∈ ns) → Q (.int (d.length : Nat)) H1
theorem pe_lenSetG {X : Cx} {a : Expr} {ta : TE} {p p2 q pos : Pos} (hg : Gl X "len") (hm : X.mg "len" = none) (hg2 : Gl X "set") (hm2 : X.mg "set" = none) (ha : PE X a ta) (hc : X.calm = true := by rfl)
    (na : starEach [a] X.env = (false, eval a X.env) :: starEach [] X.env := by rfl) : PE X (.Call (.Name "len" p) [.Call (.Name "set" p2) [a] [] q] [] pos) (tLenSetG X.K ta) := by
  refine ⟨fun pins s σ H Q I h => ?_⟩
  refine Call_ (ld_blt I hg hm boot_len ?_)
  refine PyProof.Rows.callWith_builtin1 (PyProof.Rows.args_cons ?_ rfl) rfl rfl
  refine Call_ (ld_blt I hg2 hm2 boot_set ?_)
  refine PyProof.Rows.callWith_type1 (PyProof.Rows.args_cons (thn (ha.run pins s σ H _ I h) fun v s1 ⟨x, H1, I1, r1, q1⟩ => PyProof.Rows.args_nil ?_) na) na rfl
  obtain ⟨l, ns, rfl, hq, hl, q1⟩ := q1
  cases r1
  obtain ⟨its, r, pl, hz⟩ := I1.list hq
  have hlen : its.toArray.size = ns.length := by rw [List.size_toArray, ← r.length, List.length_map]
  refine call_set_list (I1.ok.hd hc) pl.isList (by simpa using RZ.intsAre_vals r) (by rw [hlen]; unfold scanBound; omega) fun h' tk hS hk => ?_
  refine PyProof.Rows.args_nil ?_
  rw [hlen] at hS
  obtain ⟨m1, m2⟩ := met_ok (fun i => ns.getD i 0) ns.length
  have ml := PyProof.Rows.firstMet_length_le (fun i => ns.getD i 0) ns.length
  generalize PyProof.Rows.firstMet (fun i => ns.getD i 0) ns.length = d at *
  obtain ⟨o, es, ep, t, ho, hex, hd, _, _, _, hf, hn⟩ := hS
  have I2 : Inv X pins σ H1 { s1 with heap := h', toks := tk } := I1.kept fun b o e => hk b o (Heap.lt_size e) e
  exact call_len_set ho hex hd hf (by rw [hn] <;> omega) ⟨.int d.length, H1, I2.tok _, ⟨_, by rw [hn]⟩, q1 d m1 fun k => (m2 k).trans (met_all ns k)⟩

inductive Lsts (H : Hp) : List V → List (List Int) → Prop
  | nil : Lsts H [] []
  | cons {r : Addr} {L : List Int} {vs : List V} {Ls : List (List Int)} : H r = some (.lst (iv L)) → Lsts H vs Ls → Lsts H (.ref r :: vs) (L :: Ls)
theorem Lsts.len {H : Hp} : ∀ {vs : List V} {os : List (List Int)}, Lsts H vs os → vs.length = os.length
  | _, _, .nil => rfl
  | _, _, .cons _ h => congrArg (· + 1) h.len
theorem Lsts.at {H : Hp} : ∀ {vs : List V} {os : List (List Int)} {i : Nat} {x : V}, Lsts H vs os → vs[i]? = some x → ∃ r L, x = .ref r ∧ os[i]? = some L ∧ H r = some (.lst (iv L))
  | _, _, _, _, .nil, e => by simp at e
  | _, _, 0, _, .cons h _, e => by simp at e; subst e; exact ⟨_, _, rfl, rfl, h⟩
  | _, _, i + 1, x, .cons _ t, e => by
    obtain ⟨r, L, h1, h2, h3⟩ := Lsts.at (i := i) (x := x) t (by simpa using e)
    exact ⟨r, L, h1, by simpa using h2, h3⟩
theorem Lsts.same {H H' : Hp} : ∀ {vs : List V} {os : List (List Int)}, Lsts H vs os → Same H H' → Lsts H' vs os
  | _, _, .nil, _ => .nil
  | _, _, .cons h t, k => .cons (k _ _ h) (t.same k)
theorem Lsts.upd {H : Hp} {D : Addr} {o : HO} : ∀ {vs : List V} {os : List (List Int)}, Lsts H vs os → V.ref D ∉ vs → Lsts (L2.upd H D o) vs os
  | _, _, .nil, _ => .nil
  | _, _, .cons (r := r) h t, n => .cons (by rw [upd_ne (fun e => n (by rw [e]; exact List.mem_cons_self))]; exact h) (t.upd fun m => n (List.mem_cons_of_mem _ m))
theorem Lsts.append {H : Hp} : ∀ {vs ws : List V} {os qs : List (List Int)}, Lsts H vs os → Lsts H ws qs → Lsts H (vs ++ ws) (os ++ qs)
  | _, _, _, _, .nil, h => h
  | _, _, _, _, .cons h1 h2, h => .cons h1 (h2.append h)
end SH

/-! SH12: set(xs) of a list of any length, few different members. -/
namespace SH
open PySem PySem.Spec PyProof.Rows L2
theorem nodup_small : ∀ (D : Nat) {ks : List Int}, ks.Nodup → (∀ k ∈ ks, 0 ≤ k ∧ k < D) → ks.length ≤ D
  | 0, ks, _, b => by
    cases ks with
    | nil => exact Nat.le_refl _
    | cons x r => have := b x List.mem_cons_self; omega
  | D + 1, ks, nd, b => by
    have e := nodup_small D (ks := ks.erase (D : Int)) (nd.erase _) fun k hk => by
      have h1 := b k (List.mem_of_mem_erase hk)
      have h2 : k ≠ (D : Int) := fun e => by
        rw [e] at hk
        exact (List.Nodup.not_mem_erase nd) hk
      omega
    have := List.length_erase_le (a := (D : Int)) (l := ks)
    by_cases c : (D : Int) ∈ ks
    · rw [List.length_erase_of_mem c] at e
      omega
    · rw [List.erase_of_not_mem c] at e
      omega
theorem setR_few {w : World} {h : Heap} {a : Addr} {S : Int → Bool} {n D : Nat} (R : SetR w h a S n) (b : ∀ k, S k = true → 0 ≤ k ∧ k < D) : n ≤ D := by
  obtain ⟨o, es, ep, t, _, _, _, _, nd, mem, _, _, e, _⟩ := R
  have := nodup_small D nd fun k hk => b k ((mem k).mpr hk)
  rw [List.length_map, Array.length_toList] at this
  omega
section
variable {P : Program} {w : World} {A : Around} {E : Value → Shared → Prop} {s : Shared}
theorem set_update_few {I : Addr} {fp wr : List Addr} {G : Array GenState → Array GenState → Prop} {n : Nat} {Pv : Nat → Value → Prop} {St : Nat → Shared → Prop} {R : Result → Shared → Prop}
    (W : WalksS P w A.in1 I fp wr G n Pv St) (S : Addr) (nf : S ∉ fp) (ns : List Int) (hn : n = ns.length) (few : ∀ v ∈ ns, 0 ≤ v ∧ v < (1000 : Nat)) (hval : ∀ i v, Pv i v → ∃ k t, ns[i]? = some k ∧ v = .int k t) :
    ∀ (left i : Nat) (s : Shared), n - i = left → i ≤ n → St i s → (∃ c, SetR w s.heap S (fun j => decide (j ∈ ns.take i)) c) →
      (∀ s' c, Moved (S :: wr) G s s' → c ≤ 1000 → SetR w s'.heap S (fun j => decide (j ∈ ns)) c → R (.ok (.ret .none)) s') →
      codeAny (model P w) A (.builtin "set.update.loop" ⟨[.ref S, .ref I], []⟩) R s := by
  have nw : S ∉ wr := fun h => nf (W.sub _ h)
  have up : ∀ b ∈ wr, b ∈ S :: wr := fun b hb => List.mem_cons_of_mem _ hb
  intro left
  induction left with
  | zero =>
    intro i s hk hi st ⟨c, hS⟩ hR
    obtain rfl : i = n := by omega
    refine codeAny_builtin F.entry_set_update_loop ?_
    rw [Around.under_plainId F.plain_set_update_loop _]
    show wpAny _ A.in1 (pyNext (.ref I) >>= _) _ _ s
    refine wpAny_bind (W.done s _ _ st fun s' m => ?_)
    show wpAny _ A.in1 (ret Value.none) _ _ s'
    rw [List.take_of_length_le (by omega)] at hS
    exact wpAny_pure (hR s' c (m.mono up) (setR_few hS fun k hk => few k (of_decide_eq_true hk)) (hS.at fun o e => m.heap S o nw e))
  | succ left ih =>
    intro i s hk hi st ⟨c, hS⟩ hR
    have lt : i < n := by omega
    refine codeAny_builtin F.entry_set_update_loop ?_
    rw [Around.under_plainId F.plain_set_update_loop _]
    show wpAny _ A.in1 (pyNext (.ref I) >>= _) _ _ s
    refine wpAny_bind (W.item i s _ _ lt st fun v s' pv st' m => ?_)
    obtain ⟨z, t, hz, rfl⟩ := hval i v pv
    have S1 : SetR w s'.heap S (fun j => decide (j ∈ ns.take i)) c := hS.at fun o e => m.heap S o nw e
    have cb : c ≤ 1000 := setR_few S1 fun k hk => few k (List.mem_of_mem_take (of_decide_eq_true hk))
    show wpAny _ A.in1 (holding [Value.int z t] (setAdd S (.int z t)) >>= _) _ _ s'
    refine wpAny_bind (wpAny_holding ?_)
    unfold setAdd
    refine wpAny_holding ?_
    refine wpAny_bind ((intKind P w).pyHash (k := z) (intKind_is _ _ _ _) ?_)
    refine setR_add_hashed (s := { s' with toks := s'.toks + 1 }) S1 (by have : scanBound = 4096 := rfl; omega) fun h' oth S2 => ?_
    have S3 : SetR w h' S (fun j => decide (j ∈ ns.take (i + 1))) (if decide (z ∈ ns.take i) = true then c else c + 1) := S2.congr fun j => by
      rw [List.take_add_one, hz]
      simp [List.mem_append]
    refine wpAny_pure ⟨plainId_quiet F.plain_set_update_loop _, ih (i + 1) _ (by omega) lt (W.frame _ s' _ _ st' (Nat.le_succ _) fun b hb o e => ?_) ⟨_, S3⟩ fun s'' c2 m2 c2b SS => ?_⟩
    · rw [oth.2 b (fun h : b = S => nf (by rw [← h]; exact hb))]; exact e
    · refine hR s'' c2 (Moved.trans W.gtrans ((m.mono up).then_heap (Nat.le_succ _) fun b o hb e => ?_) m2) c2b SS
      rw [oth.2 b (fun h : b = S => hb (by rw [h]; exact List.mem_cons_self))]; exact e
set_option maxHeartbeats 3200000 in
theorem set_of_few {l : Addr} {xs : Array Value} (ns : List Int) {Q : Value → Shared → Prop} (calm : A.handled = none)
    (isl : s.heap.IsList l xs) (hin : IntsAre xs.toList ns) (few : ∀ v ∈ ns, 0 ≤ v ∧ v < (1000 : Nat))
    (h : ∀ (g : Heap) (tk c : Nat), SetR w g s.heap.objs.size (fun j => decide (j ∈ ns)) c → c ≤ 1000 →
      (∀ b o, s.heap.get? b = some o → g.get? b = some o) →
      Q (.ref s.heap.objs.size) { s with heap := g, toks := tk }) :
    wpAny (model P w) A (call (.type "set") [.ref l]) Q E s := by
  have size : xs.size = ns.length := by rw [← Array.length_toList]; exact IntsAre.length hin
  obtain ⟨_, _, m1⟩ := F.called_set.mro
  have m2 := F.called_set.made
  have m3 := F.called_set.sub
  refine wpAny_call (codeAny_of_tree (show wpAny _ _ (callAny (.type "set") _) _ _ _ from ?_))
  refine wpAny_pure ⟨Code.quiet_builtin _ (by decide +kernel),
    codeAny_builtin F.entry_type_call ?_⟩
  rw [Around.under_plain (weight_type_call_type "set"
    [.ref l] []) rfl]
  have m4 := F.called_set.notType
  have m5 := F.called_set.canCreate
  have m6 := F.typeCall_set_1 (.ref l)
  repeat (any_goals (first | wp_step | assumption))
  refine codeAny_mono (code_set_led1 (.ref l) (E := E)
    (Q₁ := fun ob t => ob = .ref s.heap.objs.size ∧ t = { s with heap := s.heap.push (setO0 w) }) ⟨rfl, rfl⟩)
    fun res t made => ?_
  cases res with
  | error e => exact made
  | ok fl =>
  cases fl with
  | ret ob =>
    obtain ⟨rfl, rfl⟩ := made
    have at0 : (s.heap.push (setO0 w)).get? s.heap.objs.size = some (setO0 w) := Heap.get?_push_size _ rfl
    have ty0 : Shared.TypeIs { s with heap := s.heap.push (setO0 w) } (.ref s.heap.objs.size) "set" := ⟨_, at0, rfl⟩
    have m7 := F.called_set.init.lookup
    have m8 := F.called_set.init.bind (.ref s.heap.objs.size)
    repeat (any_goals (first | wp_step | assumption))
    refine codeAny_mono (codeAny_call_builtin (R := wants (fun r t => r = .none ∧ ∃ g tk c, t = { s with heap := g, toks := tk } ∧
        SetR w g s.heap.objs.size (fun j => decide (j ∈ ns)) c ∧ c ≤ 1000 ∧ ∀ b o, s.heap.get? b = some o → g.get? b = some o) E)
      F.called_set.init.plain F.entry_set_init (check_set_init_1 ty0 ?_)) fun res2 t2 done => ?_
    · obtain ⟨ol, lk, cl, en, dl⟩ := isl
      obtain ⟨c1, d1, x1, sl1⟩ := ol
      simp only at cl dl
      subst cl dl
      have lk' : (s.heap.push (setO0 w)).get? l = some { cls := .type "list", dict := d1, data := .seq xs en, slots := sl1 } :=
        Heap.get?_push_of_some _ lk
      have u1 := F.sub_list_set
      have u2 := F.sub_list_frozenset
      have u3 : (Value.type "list" == Value.type "dict") = false := by decide
      have isl1 : (s.heap.push (setO0 w)).IsList l xs := ⟨_, lk', rfl, en, rfl⟩
      unfold Builtin.«set.__init__» noKeywords
      unfold Builtin.Frozenset.updateFrom
      generalize iterE : pyIter = itf
      wp_walk
      subst iterE
      refine wpAny_pyIter_list isl1 (wpAny_bind (wpAny_runValue ?_))
      have lt : l < s.heap.objs.size := Heap.lt_size lk
      have calm3 : A.in1.in1.in1.handled = none := by simp [calm]
      have sz : (s.heap.push (setO0 w)).objs.size = s.heap.objs.size + 1 := Heap.size_push ..
      have ne1 : l ≠ (s.heap.push (setO0 w)).objs.size := by rw [sz]; exact Nat.ne_of_lt (Nat.lt_succ_of_lt lt)
      have ne2 : s.heap.objs.size ∉ [(s.heap.push (setO0 w)).objs.size, l] := by
        rw [sz]
        simp only [List.mem_cons, List.not_mem_nil, or_false, not_or]
        exact ⟨Nat.ne_of_lt (Nat.lt_succ_self _), Ne.symm (Nat.ne_of_lt lt)⟩
      have vals : ∀ (i : Nat) (v : Value), xs[i]? = some v → ∃ k t, ns[i]? = some k ∧ v = .int k t := fun i v e => by
        have il : i < ns.length := by rw [← size]; exact (Array.getElem?_eq_some_iff.mp e).1
        obtain ⟨t, et⟩ := IntsAre.int_at hin i v (by rw [Array.getElem?_toList]; exact e)
        refine ⟨ns.getD i 0, t, ?_, et⟩
        rw [List.getD_eq_getElem?_getD, List.getElem?_eq_getElem il]
        rfl
      refine set_update_few ((Walks.list calm3 _ l ne1 xs).toS) s.heap.objs.size ne2 ns size few vals (xs.size - 0) 0 _ (by omega)
        (Nat.zero_le _) ⟨⟨_, Heap.get?_push_size _ rfl, rfl, rfl⟩, isl1.push _⟩ ⟨0, ?_⟩ ?_
      · exact setR_new_at (Heap.get?_push_of_some _ at0)
      · intro t c mv cl1 R
        obtain ⟨g, gens, drawn, tk, os⟩ := t
        obtain rfl : gens = s.gens := mv.gens
        obtain rfl : drawn = s.drawn := mv.drawn
        obtain rfl : os = s.os := mv.os
        refine wpAny_pure (show wpAny _ _ (ret Value.none) _ _ _ from ?_)
        refine wpAny_pure ⟨rfl, g, tk, c, rfl, R, cl1, fun b o e => mv.heap b o ?_ ?_⟩
        · have lb : b < s.heap.objs.size := Heap.lt_size e
          rw [sz]
          simp only [List.mem_cons, List.not_mem_nil, or_false, not_or]
          exact ⟨Nat.ne_of_lt lb, Nat.ne_of_lt (Nat.lt_succ_of_lt lb)⟩
        · exact Heap.get?_push_of_some _ (Heap.get?_push_of_some _ e)
    · cases res2 with
      | error e => exact done
      | ok fl2 =>
      cases fl2 with
      | ret r =>
        obtain ⟨rfl, g, tk, c, rfl, R, cl1, kp⟩ := done
        repeat (any_goals (first | wp_step | assumption))
        exact h _ _ _ R cl1 kp
      | _ => exact done.elim
  | _ => exact made.elim
end
/-- set(xs), few different members -/
def rSetFew (K : PySem.W.Frag) (w : World) : List V → Hp → VK → Prop := fun xs H Q => ∃ (l : Addr) (ns : List Int), xs = [.ref l] ∧ SqL K H l (iv ns) ∧ (∀ v ∈ ns, 0 ≤ v ∧ v < (1000 : Nat)) ∧
  ∀ a n, H a = none → n ≤ 1000 → Q (.ref a) (upd H a (SetO w a (fun j => decide (j ∈ ns)) n))
theorem cr_setFew {X : Cx} (hc : X.calm = true) : CallR X (.type "set") (rSetFew X.K X.w) := by
  intro pins s σ H xs us Q I r h
  obtain ⟨l, ns, rfl, hl, hf, q⟩ := h
  rw [Vals.ref1 r]
  obtain ⟨its, rv, pl, hz⟩ := I.list hl
  have hn : H s.heap.objs.size = none := I.hok.fresh (Nat.le_refl _)
  refine set_of_few (P := X.prog) (w := X.w) ns (I.ok.hd hc) pl.isList (by simpa using ints_of_vals rv) hf fun g tk c R cl kp => ?_
  exact ⟨.ref s.heap.objs.size, upd H s.heap.objs.size (SetO X.w s.heap.objs.size (fun j => decide (j ∈ ns)) c), I.laid (t' := tk) kp (Nat.le_refl _) (setO_new R), rfl, q _ c hn cl⟩
end SH

/-! SH13: d.update(d2) of dicts with keys that are ints or strings. -/
namespace SH
open PySem PySem.Spec PyProof.Rows L2
def rDUpdate : V → List V → Hp → VK → Prop := fun x vs H Q => ∃ (a b : Addr) (kvs more : List (Key × V)), x = .ref a ∧ vs = [.ref b] ∧ H a = some (.dK kvs) ∧ H b = some (.dK more) ∧ a ≠ b ∧ kvs.length + more.length ≤ sizeLine ∧ Q .non (upd H a (.dK (mergeK kvs more)))
theorem mtd_update {X : Cx} : MtR X "dict.update" rDUpdate := by
  intro pins s σ H x vs v us Q I rx rv h
  obtain ⟨a, b, kvs, more, rfl, rfl, ea, eb, ab, hl, q⟩ := h
  obtain rfl : v = Value.ref a := rx
  rw [Vals.ref1 rv]
  obtain ⟨z1, hd1, vs1, rel1, dd1⟩ := dk_of I.hok ea
  obtain ⟨z2, hd2, vs2, rel2, dd2⟩ := dk_of I.hok eb
  refine call_meetsIn PySem.F.slot_dict_update dd1.typeIs PySem.F.entry_dict_update (PySem.F.args_dict_update_2 _ _) (meets_dict_update (mixKind X.prog X.w) a b ab hd2)
    ⟨vs1, vs2, dd1, dd2, by rw [← rel1.length, ← rel2.length]; exact hl, fun h' dd' _ hs => ?_⟩
  have he : ∃ q, h'.get? a = some q := let ⟨q, _, _, hq, _⟩ := dd'; ⟨q, hq⟩
  have hlen : (mergeK kvs more).length ≤ sizeLine := Nat.le_trans (length_mergeK more kvs) (by omega)
  exact ⟨.non, _, d_write (t' := s.toks) I (by rw [ea]; exact True.intro) hs he (dk_new hlen hd1 (KV.merge rel2 rel1) dd'), rfl, q⟩
section
variable {X : Cx} {o : Expr} {to : TE} {e : Expr} {t : TA} {apos cpos : Pos}
theorem pe_dupdate (ho : PE X o to) (ha : PA X [e] t) (hbase : attributeBase o "update" X.env (eval o X.env) = eval o X.env := by rfl) (hline : (apos.endLine == cpos.line) = true := by rfl)
    (hfew : ((backTo cpos (starEach [e] X.env)).all (fun x => !x.1) && (backToKw cpos (keywordEach [] X.env)).all (fun x => x.1.isSome)
      && decide (([e] : List Expr).length + ([] : List Keyword).length + (if ([] : List Keyword).isEmpty then 0 else 1) < 30)) = true := by rfl)
    (hs : starEach [e] X.env = (false, eval e X.env) :: starEach [] X.env := by rfl) (hplain : (backTo cpos (starEach [] X.env)).any (·.1) = false := by rfl) :
    PE X (.Call (.Attribute o "update" apos) [e] [] cpos) (tBM X.K "dict" rDUpdate to t) :=
  pe_bm PySem.F.plainAttrs_dict PySem.F.slot_dict_update PySem.F.type_dict_update mtd_update ho ha hbase hfew hline hs hplain
end
end SH

/-! SH14: defs that raise, under empty guards; raise X('..'); except X. -/
namespace SH
open PySem PySem.Spec PyProof.Rows L2
section
variable {X : Cx} {CX : CXT} {k : Nat} {f : Addr} {fd : FuncData} {st : Stmt} {ps ks : List Str} {sp : Sp} {E : L2.St → XK} {x : Str} {p pos : Pos}
  {e : Expr} {es : List Expr} {t tk : TA} {kws : List Keyword}
theorem goS {pins : List (Addr × Obj)} {σ : L2.St} {H : Hp} {s : Shared} {Q : VK} {us : List Value} {vs : List V}
    (F : FnG X.prog X.w X.K X.mg X.base CX k f fd ps sp) (room : Room k X.A) (qt : Quiet X.A) (hb : Binds X.K fd ps []) (hx : PassesAt CX X σ (E σ))
    (I : Inv X pins σ H s) (r : Vals vs us) (h : sp vs H Q (E σ)) : wpAny (model X.prog X.w) X.A (call (.ref f) us) (EP X pins σ Q) X.xe s := by
  have hl : us.length = ps.length := by rw [← r.length]; exact F.arity _ _ _ _ h
  have b := hb s us I.kIn (by rw [List.append_nil]; exact hl)
  rw [List.append_nil] at b
  refine wpAny_call (codeAny_mono (F.go X.A X.stack s H ⟨us, []⟩ us vs Q (E σ) room qt I.env0 b r h) fun r s' hq => ?_)
  cases r with
  | error e => exact hx pins H s e s' I hq
  | ok fl =>
    cases fl with
    | ret u => exact I.after hq
    | next => exact False.elim hq
    | brk => exact False.elim hq
    | cont => exact False.elim hq
/-- f(e, ..), f a def that may raise: what is raised is wished for at the caller's slots -/
theorem pe_hasS (h : Has X.prog X.w X.K X.mg X.base CX k x st ps sp) (room : Room k X.A) (qt : Quiet X.A) (hg : Gl X x)
    (hx : ∀ σ, PassesAt CX X σ (E σ)) (ha : PA X (e :: es) t) (hdb : (x == ("__debug__" : Str)) = false := by decide)
    (he : starEach (e :: es) X.env = (false, eval e X.env) :: starEach es X.env := by rfl)
    (hpl : (backTo pos (starEach es X.env)).any (·.1) = false := by rfl) :
    PE X (.Call (.Name x p) (e :: es) [] pos) (tCallS sp E t) := by
  obtain ⟨f, fd, F, m, G, b⟩ := h
  refine ⟨fun pins s σ H Q I h => ?_⟩
  refine wpAny_Call_Name_kw (ld_glob I hg m ?_ hdb)
  refine PySem.W.callWith_K (h₀ := X.base) I.ok.mod.kin F.kp (thn (ha.run pos pins s σ H _ I h) fun us s1 ⟨vs, H1, I1, r, q⟩ => ⟨I1.kIn, ?_⟩) he hpl
  exact goS G room qt b (hx σ) I1 r q
end
section
variable {P : Program} {w : World} {K : PySem.W.Frag} {mg : Str → Option Value} {base : Heap}
/-- THE RULE for a def that may raise -/
theorem Has.ofX {x : Str} {st : Stmt} {N ps : List Str} {k : Nat} {sp : Sp} (at_ : At K mg x st)
    (S : FnScope N ps (defScope st)) (len : ∀ vs H Q E, sp vs H Q E → vs.length = ps.length)
    (bd : ∀ (kV doc pm : Value) (an : Option Addr) (cdv ct : Value) (us : List Value), us.length = ps.length →
      bindArgs (PySem.W.fnOf x x (defArgs st) (defBody st) (defScope st) .none kV doc pm an cdv ct) ⟨us, []⟩ = pure (ps.zip us))
    (walk : ∀ (f : Addr) (cdv : Value) (A : Around) (outer : List Env) (s : Shared) (H : Hp) (vs : List V) (Q : VK) (E : XK),
      Room k (A.deeper (envOfC x (defScope st) s.heap.objs.size f cdv)) →
      Quiet (A.deeper (envOfC x (defScope st) s.heap.objs.size f cdv)) → sp vs H Q E →
      ∃ t, PSs (cxOf (L2.CX P w) P w K mg base N x (defScope st) f cdv A outer s H E) (defBody st) t ∧
        t { nx := fun _ H' => Q .non H', rt := Q } (start N vs) H) :
    Has P w K mg base (L2.CX P w) (k + 1) x st ps sp := by
  obtain ⟨f, fd, F, m⟩ := at_
  exact ⟨f, fd, F, m, FnG.of F S len (walk f), F.binds bd⟩
end
/-- an own error class over ValueError, without own __init__, stands at the name x -/
structure Err (K : PySem.W.Frag) (mg : Str → Option Value) (x : Str) (C : Addr) : Prop where
  g : mg x = some (.ref C)
  q : PySem.W.excIn K C HandSPX.veTail "ValueError.__new__" = true
  k : PySem.W.keepIn K (.ref C) = true
  e : PySem.W.subIn K (.ref C) (.type "BaseException") = some true
  t : PySem.W.typeIn K (.ref C) = some (.type "type")
theorem ps_raiseE {X : Cx} {W : WX} {x m : Str} {C : Addr} {j : Nat} {p p2 pos pos' : Pos} (E : Err X.K X.mg x C) (hc : X.calm = true) (tk : Takes X W) (hg : Gl X x)
    (hdb : (x == ("__debug__" : Str)) = false := by decide) :
    PS X (.Raise (some (.Call (.Name x p) [.Constant (.str m) j p2] [] pos)) none pos') (fun _ σ H => W (.ref C) none σ H) :=
  ps_raise hc tk (pmk_own PySem.F.excBase_ValueError E.q E.g E.k (raises_own E.e E.t) hg hdb)
/-- an error of the class at C is what «except S» names, or not -/
structure Catch (K : PySem.W.Frag) (C S : Addr) (b : Bool) : Prop where
  is : PySem.W.exmOne K (.ref C) (.ref S) = some b
theorem Catch.of {K : PySem.W.Frag} {C S : Addr} {b : Bool} (h1 : PySem.W.subIn K (.ref S) (.type "BaseException") = some true) (h2 : PySem.W.isClsIn K S = true) (h3 : PySem.W.typeIn K (.ref S) = some (.type "type")) (h4 : PySem.W.subIn K (.ref C) (.ref S) = some b) : Catch K C S b := by
  refine ⟨?_⟩
  have e1 : (PySem.W.subIn K (.ref S) (.type "BaseException") == some true) = true := by rw [h1] <;> rfl
  have e2 : ((PySem.W.clsIn K S).isSome && PySem.W.typeIn K (.ref S) == some (.type "type")) = true := by
    have h2' : (PySem.W.clsIn K S).isSome = true := h2
    rw [h2', h3] <;> rfl
  show (if (PySem.W.subIn K (.ref S) (.type "BaseException") == some true) = true then (if ((PySem.W.clsIn K S).isSome && PySem.W.typeIn K (.ref S) == some (.type "type")) = true then PySem.W.subIn K (.ref C) (.ref S) else none) else none) = some b
  rw [if_pos e1, if_pos e2]
  exact h4
end SH

/-! SH15: sorted(pairs of ints, reverse=True). -/
namespace SH
open PySem PySem.Spec PyProof.Rows L2
section
variable {X : Cx}
def rSortedPOR (K : PySem.W.Frag) : List V → List V → Hp → VK → Prop := fun vs zs H Q => ∃ (a : Addr) (xs : List V) (k : V → Int × Int), vs = [V.ref a] ∧ zs = [.bl true] ∧ SqL K H a xs ∧ (∀ x ∈ xs, ∃ t, x = V.ref t ∧ H t = some (.tup [.int (k x).1, .int (k x).2])) ∧
  ∀ ys p, SrtO.Srtd (ltP k) ys → ys.Perm xs → H p = none → Q (.ref p) (upd H p (.lst ys.reverse))
theorem cr_sortedPOR : CallRK X (.builtin "sorted") [Str.ofString "reverse"] (rSortedPOR X.K) := by
  intro pins s σ H vs zs us ws Q I r rz h
  obtain ⟨a, xs, k, rfl, rfl, hs, hx, q⟩ := h
  obtain rfl := Vals.ref1 r
  obtain ⟨w1, rfl, e0⟩ := vals1 rz
  obtain rfl : w1 = Value.bool true := e0
  obtain ⟨its, rv, hl, hz⟩ := I.list hs
  obtain ⟨e1, e2⟩ := refs_back rv fun x m => by
    obtain ⟨t, e, _⟩ := hx x m
    exact ⟨t, e⟩
  have hp : ∀ v ∈ its, Srt.IsPair s.heap v (k (backV v)).1 (k (backV v)).2 := fun v hv => by
    obtain ⟨t, rfl⟩ := e2 v hv
    have hm : V.ref t ∈ xs := by rw [e1]; exact List.mem_map.mpr ⟨_, hv, rfl⟩
    obtain ⟨t', e, ht⟩ := hx _ hm
    cases e
    obtain ⟨_, its2, r2, o, ho, hc, n, hd⟩ := I.hok _ _ ht
    obtain ⟨u1, u2, rfl, ri, rj⟩ := vals2 r2
    obtain ⟨t1, rfl⟩ := ri
    obtain ⟨t2, rfl⟩ := rj
    exact ⟨t, o, t1, t2, n, rfl, ho, hc, hd⟩
  have zl : its.length ≤ sizeLine := by rw [← rv.length]; exact hz
  refine SrtR.sorted_ordK (b := true) (fun _ => rfl) (PyProof.Rows.args_sorted_rev _ _) (fun _ => PyProof.Rows.args_list_sort_rev _ _) (SrtO.swo_lex fun u => k (backV u)) hl.isList zl (fun h2 h₁ a' ho keep => SrtO.pairs_sortableO (by omega) (fun v hv => ?_) fun o e => ?_) fun out h1 h2 => ?_
  · obtain ⟨t, o, t1, t2, n, e3, ho', hc, hd⟩ := hp v hv
    exact ⟨t, o, t1, t2, n, e3, (keep _ _ ho').2, hc, hd⟩
  · have e' : some o = some (seqObj "list" its.toArray 0) := e.symm.trans ho
    cases e'
    exact fun z => by
      injection z with z3
      exact absurd z3 (by decide)
  have h2p : out.Perm its := h2.perm.trans (List.reverse_perm _)
  have h3 : ∀ u ∈ out, ∃ a, u = Value.ref a := fun u hu => e2 u (h2p.mem_iff.mp hu)
  have hb : (out.map backV).Perm xs := by
    rw [e1]
    exact h2p.map backV
  obtain ⟨ep, he'⟩ := PyProof.Rows.sortedAll_at s.heap its out.toArray.reverse
  have hlen : (out.map backV).reverse.length ≤ sizeLine := by
    rw [List.length_reverse, hb.length_eq]
    exact hz
  have er : (out.map backV).reverse = out.reverse.map backV := by rw [List.map_reverse]
  have h4 : ∀ u ∈ out.reverse, ∃ a, u = Value.ref a := fun u hu => h3 u (List.mem_reverse.mp hu)
  refine ⟨.ref _, upd H (s.heap.objs.size + 1) (.lst (out.map backV).reverse), I.laid (t' := s.toks) (fun _ _ => PyProof.Rows.sortedAll_old) (Nat.le_succ _) ⟨hlen, out.reverse, ep, ?_, ?_⟩, rfl, q _ _ (SrtO.srtd_map h1) hb (I.hok.fresh (Nat.le_succ _))⟩
  · rw [er]; exact vals_back h4
  · have e0 : out.reverse.toArray = out.toArray.reverse := by simp
    rw [e0]; exact he'
end
end SH

/-! SH16: comprehensions over ranges with a step. -/
namespace SH
open PySem PySem.Spec PyProof.Rows L2
theorem lc_rangeC {lo c : Int} {n : Nat} {g : TG} {tt : TT} {te : TE} {vs : List Nat} {σ : L2.St} {H1 : Hp} {D : Addr} {Qd : Hp → Prop} (Pv : Nat → Hp → Prop) (h0 : Pv 0 (upd H1 D (.lst [])))
    (hs : ∀ i H, i < n → Pv i H → g (.int (lo + (i : Nat) * c)) (wipe σ vs) H fun σ2 H2 => wipe σ2 vs = wipe σ vs ∧ tt σ2 H2 fun b H3 =>
      if b = true then te σ2 H3 fun y H4 => ∃ acc, H4 D = some (.lst acc) ∧ acc.length < sizeLine ∧ Pv (i + 1) (upd H4 D (.lst (acc ++ [y]))) else Pv (i + 1) H3) (hd : ∀ H, Pv n H → Qd H) :
    ∃ W : Nat → Nat → Hp → Prop, (∃ m, W 0 m (upd H1 D (.lst []))) ∧ ∀ i m H, W i m H →
      ((Itc lo c n).stop i H ∧ Qd H) ∨ ((Itc lo c n).go i H ∧ ∃ Nx : Hp → Prop, (∀ H', Nx H' → ∃ m', m' < m ∧ W (i + 1) m' H') ∧ ∀ x H', (Itc lo c n).yld i H x H' → g x (wipe σ vs) H' fun σ2 H2 => wipe σ2 vs = wipe σ vs ∧ tt σ2 H2 fun b H3 =>
        if b = true then te σ2 H3 fun y H4 => ∃ acc, H4 D = some (.lst acc) ∧ acc.length < sizeLine ∧ Nx (upd H4 D (.lst (acc ++ [y]))) else Nx H3) := by
  refine ⟨fun i m H => m = n - i ∧ i ≤ n ∧ Pv i H, ⟨n, by simp, Nat.zero_le _, h0⟩, ?_⟩
  rintro i m H ⟨rfl, hi, p⟩
  by_cases hlt : i < n
  · refine .inr ⟨hlt, Pv (i + 1), fun H' p' => ⟨n - (i + 1), by omega, rfl, hlt, p'⟩, fun x H' y => ?_⟩
    obtain ⟨e, y⟩ := y
    subst e y
    exact hs i _ hlt p
  · have e : i = n := by omega
    subst e
    exact .inl ⟨Nat.le_refl _, hd H p⟩
section
variable {tt : TT} {te : TE} {vs : List Nat} {σ : L2.St} {H : Hp} {D : Addr} {Qd : Hp → Prop}
theorem lcCn {lo c : Int} {n j : Nat} (keep : Nat → Bool) (val : Nat → V) (hD : H D = none) (hn : n < 100000)
    (hw : ∀ x, wipe ((wipe σ vs).set j (some x)) vs = wipe σ vs)
    (ht : ∀ i H2 (Q : Bool → Hp → Prop), i < n → Same H H2 → (∀ H3, Same H2 H3 → Q (keep i) H3) → tt ((wipe σ vs).set j (some (.int (lo + (i : Nat) * c)))) H2 Q)
    (he : ∀ i H2 (Q : VK), i < n → keep i = true → Same H H2 → (∀ H3, Same H2 H3 → Q (val i) H3) → te ((wipe σ vs).set j (some (.int (lo + (i : Nat) * c)))) H2 Q)
    (hd : ∀ H', Same H H' → H' D = some (.lst (gives n keep val)) → Qd H') :
    ∃ W : Nat → Nat → Hp → Prop, (∃ m, W 0 m (upd H D (.lst []))) ∧ ∀ i m H, W i m H →
      ((Itc lo c n).stop i H ∧ Qd H) ∨ ((Itc lo c n).go i H ∧ ∃ Nx : Hp → Prop, (∀ H', Nx H' → ∃ m', m' < m ∧ W (i + 1) m' H') ∧
        ∀ x H', (Itc lo c n).yld i H x H' → gName j x (wipe σ vs) H' fun σ2 H2 => wipe σ2 vs = wipe σ vs ∧ tt σ2 H2 fun b H3 =>
          if b = true then te σ2 H3 fun y H4 => ∃ acc, H4 D = some (.lst acc) ∧ acc.length < sizeLine ∧ Nx (upd H4 D (.lst (acc ++ [y]))) else Nx H3) :=
  lc_rangeC (fun i H2 => Same H H2 ∧ H2 D = some (.lst (gives i keep val))) ⟨Same.new hD, upd_same⟩
    (fun i H2 hi e => ⟨hw _, lc_turnS hD hi hn e.1 e.2 (fun Q q => ht i H2 Q hi e.1 q) (fun H3 s3 Q k q => he i H3 Q hi k (e.1.trans s3) q)⟩)
    (fun H2 e => hd H2 e.1 e.2)
end
theorem rgC_400 {c : Int} (h1 : 1 ≤ c) (h2 : c ≤ 11) : RgC 0 400 c ((399 / c).toNat + 1) := by
  have : c = 1 ∨ c = 2 ∨ c = 3 ∨ c = 4 ∨ c = 5 ∨ c = 6 ∨ c = 7 ∨ c = 8 ∨ c = 9 ∨ c = 10 ∨ c = 11 := by omega
  rcases this with rfl | rfl | rfl | rfl | rfl | rfl | rfl | rfl | rfl | rfl | rfl <;> exact ⟨by decide, by decide, by decide +kernel, by decide +kernel⟩
end SH

/-! SH17: max and min of a tuple of two ints. -/
namespace SH
open PySem PySem.Spec PyProof.Rows L2
section
variable {X : Cx}
def rMaxT (K : PySem.W.Frag) : List V → Hp → VK → Prop := fun vs H Q => ∃ (a : Addr) (x y : Int), vs = [V.ref a] ∧ SqT K H a [.int x, .int y] ∧ Q (.int (if x < y then y else x)) H
theorem cr_maxT (hc : X.calm = true) (hu : X.A.units + 64 < cLine) : CallR X (.builtin "max") (rMaxT X.K) := by
  intro pins s σ H vs us Q I r h
  obtain ⟨a, x, y, rfl, hs, q⟩ := h
  obtain ⟨its, rv, hl, _⟩ := I.tuple hs
  rw [Vals.ref1 r]
  obtain ⟨as, rd⟩ := Dp.readsAll I [.int x, .int y] _ _ (dp_ints [x, y]) rv
  refine PySem.W.max_tuple_data (I.ok.hd hc) hl (by simpa using rd) ⟨fun a ha b hb => ?_, fun a ha => ?_⟩ (by show X.A.units + 1 + 0 < cLine; omega) fun i v h' tk bs hi r hk => ?_
  · simp only [List.mem_cons, List.not_mem_nil, or_false] at ha hb
    rcases ha with rfl | rfl <;> rcases hb with rfl | rfl <;> rfl
  · simp only [List.mem_cons, List.not_mem_nil, or_false] at ha
    rcases ha with rfl | rfl <;> exact fun z => nomatch z
  · have e : PySem.W.maxD (PyData.int x) [PyData.int y] = .int (max x y) := PySem.W.maxD_ints x [y]
    rw [e] at r
    cases r with
    | int _ t =>
      refine ⟨.int _, H, I.kept hk, ⟨_, rfl⟩, ?_⟩
      have e2 : max x y = if x < y then y else x := by split <;> omega
      rw [e2]
      exact q
def rMinT (K : PySem.W.Frag) : List V → Hp → VK → Prop := fun vs H Q => ∃ (a : Addr) (x y : Int), vs = [V.ref a] ∧ SqT K H a [.int x, .int y] ∧ Q (.int (if y < x then y else x)) H
theorem cr_minT (hc : X.calm = true) (hu : X.A.units + 64 < cLine) : CallR X (.builtin "min") (rMinT X.K) := by
  intro pins s σ H vs us Q I r h
  obtain ⟨a, x, y, rfl, hs, q⟩ := h
  obtain ⟨its, rv, hl, _⟩ := I.tuple hs
  rw [Vals.ref1 r]
  obtain ⟨as, rd⟩ := Dp.readsAll I [.int x, .int y] _ _ (dp_ints [x, y]) rv
  refine PySem.W.min_tuple_data (I.ok.hd hc) hl (by simpa using rd) ⟨fun a ha b hb => ?_, fun a ha => ?_⟩ (by show X.A.units + 1 + 0 < cLine; omega) fun i v h' tk bs hi r hk => ?_
  · simp only [List.mem_cons, List.not_mem_nil, or_false] at ha hb
    rcases ha with rfl | rfl <;> rcases hb with rfl | rfl <;> rfl
  · simp only [List.mem_cons, List.not_mem_nil, or_false] at ha
    rcases ha with rfl | rfl <;> exact fun z => nomatch z
  · have e : PySem.W.minD (PyData.int x) [PyData.int y] = .int (min x y) := PySem.W.minD_ints x [y]
    rw [e] at r
    cases r with
    | int _ t =>
      refine ⟨.int _, H, I.kept hk, ⟨_, rfl⟩, ?_⟩
      have e2 : min x y = if y < x then y else x := by split <;> omega
      rw [e2]
      exact q
end
end SH

/-! SH18: errors that are caught and looked at: their context None, kept behind the suite, isinstance of them. -/
namespace SH
open PySem PySem.Spec PyProof.Rows L2
/-- at a: an error of the class cls, its dict at d -/
def ErO (cls : Value) (d : Option Addr) (a : Addr) : HO := .ext fun h => ∃ (oe : Obj) (vs : Array Value), h.get? a = some oe ∧ L2.Zc cls d oe ∧ oe.data = .fields vs
theorem erO_mk {P : Program} {w : World} {H : Hp} {h : Heap} {a : Addr} {cls : Value} {d : Option Addr} {oe : Obj} {vs : Array Value} (e : h.get? a = some oe) (z : L2.Zc cls d oe) (dv : oe.data = .fields vs) : ObjOk P w H h a (ErO cls d a) :=
  ⟨⟨oe, vs, e, z, dv⟩, ⟨oe, e⟩, fun _ _ ⟨o, v, q, r⟩ k => ⟨o, v, k o q, r⟩⟩
section
variable {X : Cx} {pins : List (Addr × Obj)} {σ : L2.St} {H : Hp} {s : Shared}
/-- an error that the suite held is tracked behind it -/
theorem adopt {a : Addr} {oe : Obj} {cls : Value} {d : Option Addr} {vs : Array Value} (ok : X.Ok) (I : Inv (X.suite a ((a, oe) :: (X.pn ++ pins))) [] σ H s) (z : L2.Zc cls d oe) (dv : oe.data = .fields vs)
    (new : X.s_0.heap.get? a = none) (np : ∀ p ∈ X.pn ++ pins, p.1 ≠ a) : Inv X pins σ (upd H a (ErO cls d a)) s := by
  obtain ⟨ha, hn, hl, hf, hc⟩ := I.pin (a, oe) (List.mem_append_left _ List.mem_cons_self)
  have old : ∀ {b : Addr} {o : Obj}, X.s_0.heap.get? b = some o → b ≠ a := fun {b o} q e => by
    rw [e, new] at q; cases q
  have B := I.base
  refine ⟨ok, I.os, I.bare, ⟨B.keep, B.slot, fun b o q n x => ?_, B.there, fun b xs q => ?_, fun b o u q => ?_, fun b ps q => ?_⟩, I.loc, I.cell, ?_, fun x c e => ?_, fun p hp => ?_, ?_, I.len⟩
  · rw [upd_ne (old q)]; exact B.free b o q n x
  · have := B.tups b xs q
    rw [upd_ne (ne_of_none this hn)]; exact this
  · have := B.frzs b o u q
    rw [upd_ne (ne_of_none this hn)]; exact this
  · obtain ⟨m, q2⟩ := B.tbls b ps q
    exact ⟨m, by rw [upd_ne (ne_of_none q2 hn)]; exact q2⟩
  · rw [upd_ne (Ne.symm hl)]; exact I.free
  · have e' : c ≠ a := fun y => by
      obtain ⟨v, o, ho, hd⟩ := I.cell x c e
      rw [y, ha] at ho
      cases ho
      exact hc v hd
    rw [upd_ne e']
    exact I.freeC x c e
  · obtain ⟨e1, e2, e3⟩ := I.pin p (by rw [List.append_nil]; exact List.mem_cons_of_mem _ hp)
    exact ⟨e1, by rw [upd_ne (np p hp)]; exact e2, e3⟩
  · exact HOk.laidN I.hok (fun _ _ q => q) hn (erO_mk ha z dv)
end
/-- what a clause that takes all that the body may raise wishes: slot i is the clause's name, and behind the suite the error is tracked -/
def wE (K : PySem.W.Frag) (c : Value) (i : Nat) (ts : Addr → Value → Option Addr → TS) (D : Ends) : WX := fun cls d σ H => PySem.W.exmOne K cls c = some true ∧ ∀ a, H a = none →
  ts a cls d { nx := fun τ G => D.nx (τ.set i none) (upd G a (ErO cls d a)), bk := fun τ G => D.bk (τ.set i none) (upd G a (ErO cls d a)), ct := fun τ G => D.ct (τ.set i none) (upd G a (ErO cls d a)), rt := fun v G => D.rt v (upd G a (ErO cls d a)) } (σ.set i (some (.ref a))) H
section
variable {X : Cx} {x n : Str} {c : Value} {i : Nat} {body suite : List Stmt} {b₀ : Stmt} {np pos pos' : Pos} {tb : WX → TS} {ts : Addr → Value → Option Addr → TS}
/-- try: body / except x as n: suite, where the clause takes all that the body may raise -/
theorem ps_tryE (hs : X.stack = X.env :: X.outer) (hf : X.env.frame = some X.env.locals) (hex : X.ex = []) (hN : X.N.Nodup) (hi : X.N[i]? = some n) (hln : X.env.kindOf n = some .local) (hc : Names X x c)
    (hb : ∀ (W : WX) (pn : List (Addr × Obj)) (xe : Value → Shared → Prop), L2N.Takes (X.tr pn xe) W → PassesOwn (model X.prog X.w) X.A X.env xe → PSs (X.tr pn xe) body (tb W))
    (hsu : ∀ (a : Addr) (oe : Obj) (cls : Value) (d : Option Addr) (pn : List (Addr × Obj)), L2N.Zn cls d oe → (∃ vs, oe.data = .fields vs) → PSs (X.suite a ((a, oe) :: pn)) (b₀ :: suite) (ts a cls d)) :
    PS X (.Try body [.ExceptHandler (some (.Name x np)) (some n) (b₀ :: suite) pos'] [] [] pos) (fun D σ H => tb (wE X.K c i ts D) D σ H) := by
  refine ⟨fun pins s σ H D I h => wpAny_Try_except ?_⟩
  have ok := I.ok
  have hfr : X.A.frames = some (X.env :: X.outer) := ok.frames.trans (congrArg some hs)
  refine wpAny_mono ((hb (wE X.K c i ts D) (X.pn ++ pins) _ (fun u s' xx => ?_) PassesOwn.looking).run [] s σ H D (I.toTry _) h) (fun f s1 q => ?_) fun e s1 q => q
  · obtain ⟨a, B, sI, _, τ, G, cls, d, rfl, J0, nb, up, sky, na, os, ag, em, go⟩ := xx
    have J : Inv X pins τ G sI := J0.ofTry ok
    refine L2N.Sky.land L2N.Zn.steady hfr hf (by rw [← hs]; exact sky) fun h3 fl3 up3 => ?_
    obtain ⟨o3, v3, at3, z3, d3⟩ := fl3.there
    -- a stands apart from the frames, and was not there before
    have nfr : a ∉ frs X.stack := fun hm => by
      rw [hs] at hm
      obtain ⟨_, o', e', hnf⟩ := fl3.2.2.1.mem hm
      rw [at3] at e'
      cases e'
      exact hnf _ d3
    have nI : sI.heap.get? a = none := by
      cases q : sI.heap.get? a with
      | none => rfl
      | some o =>
        have := nb a o q nfr
        rw [fl3.2.1] at this
        cases this
    have n0 : X.s_0.heap.get? a = none := by
      cases q : X.s_0.heap.get? a with
      | none => rfl
      | some o =>
        obtain ⟨o', q'⟩ := J.base.there a o q (by rw [hex]; exact List.not_mem_nil)
        rw [nI] at q'
        cases q'
    have nL : a ≠ X.env.locals := fun z => nfr (by rw [hs]; exact List.mem_filterMap.mpr ⟨X.env, List.mem_cons_self, by rw [hf, z]⟩)
    have nF : a ∉ X.fs := fun hm => nfr (by
      rw [hs]
      obtain ⟨e, he, q⟩ := List.mem_filterMap.mp hm
      exact List.mem_filterMap.mpr ⟨e, List.mem_cons_of_mem _ he, q⟩)
    have np' : ∀ p ∈ X.pn ++ pins, p.1 ≠ a := fun p hp z => by
      have := (J.pin p hp).1
      rw [z, nI] at this
      cases this
    have L3 : Inv X pins τ G { s' with heap := h3 } := J.landed nb fl3.1 (up.trans up3) os ag
    have S3 := L3.suite at3 d3 na nL nF
    have ty : PySem.W.Looks (model X.prog X.w) h3 (typeOf (.ref a)) cls := fun A Q E s k q => wpAny_typeOf_ref (k _ _ at3) (by rw [z3.1]; exact q)
    have named : ∀ {Q E : Value → Shared → Prop}, Q c { s' with heap := h3 } → wpAny (model X.prog X.w) (X.A.mark (some (.ref a))) (eval (.Name x np) X.env) Q E { s' with heap := h3 } := fun {Q E} q => by
      rcases hc with ⟨g, db, m | ⟨m, bv, nn⟩⟩
      · exact ld_glob (X := X.suite a ((a, o3) :: (X.pn ++ pins))) S3 g m q db
      · exact ld_blt (X := X.suite a ((a, o3) :: (X.pn ++ pins))) S3 g m bv q nn db
    refine wpAny_handleBy_cons (codeAny_handlers_test (named ((PySem.W.exm_one (M := model X.prog X.w) L3.kIn ty em).here ?_))) (fun q => by cases q)
    refine codeAny_handlers_suite_as (HandSPX.lands_againZ fl3 fun h4 fl4 up4 => ?_)
    obtain ⟨o4, v4, at4, z4, d4⟩ := fl4.there
    have L4 : Inv X pins τ G { s' with heap := h4 } := J.landed nb fl4.1 ((up.trans up3).trans up4) os ag
    have S4 := L4.suite at4 d4 na nL nF
    refine store_ok (X := X.suite a ((a, o4) :: (X.pn ++ pins))) (v := .ref a) S4 hN hi (.inl hln) rfl (fun s5 S5 => ?_) (.inr hln)
    refine wpAny_mono ((hsu a o4 cls d (X.pn ++ pins) z4 ⟨_, d4⟩).run [] s5 _ G _ S5 (go a na)) (fun f s6 q => ?_) fun _ _ z => False.elim z
    have out : ∀ {τ6 : L2.St} {G6 : Hp} {Q : Shared → Prop}, Inv (X.suite a ((a, o4) :: (X.pn ++ pins))) [] τ6 G6 s6 → (∀ s7, Inv X pins (τ6.set i none) (upd G6 a (ErO cls d a)) s7 → Q s7) →
        wpAny (model X.prog X.w) X.A (do bindName X.env n .none; unbindBehindTheSuite X.env n pos') (fun _ s7 => Q s7) X.xe s6 := fun S6 hq => gone_ok (adopt ok S6 z4.zc d4 n0 np') hN hi hln hq
    cases f with
    | ret u => obtain ⟨v6, τ6, G6, S6, r6, q6⟩ := q; exact out S6 fun s7 J7 => ⟨_, _, _, J7, r6, q6⟩
    | next => obtain ⟨τ6, G6, S6, q6⟩ := q; exact out S6 fun s7 J7 => ⟨_, _, J7, q6⟩
    | brk => obtain ⟨τ6, G6, S6, q6⟩ := q; exact out S6 fun s7 J7 => ⟨_, _, J7, q6⟩
    | cont => obtain ⟨τ6, G6, S6, q6⟩ := q; exact out S6 fun s7 J7 => ⟨_, _, J7, q6⟩
  · cases f with
    | ret u => obtain ⟨v, τ, G, J, r, q⟩ := q; exact ⟨v, τ, G, J.ofTry ok, r, q⟩
    | next => obtain ⟨τ, G, J, q⟩ := q; exact wpAny_execs_nil ⟨τ, G, J.ofTry ok, q⟩
    | brk => obtain ⟨τ, G, J, q⟩ := q; exact ⟨τ, G, J.ofTry ok, q⟩
    | cont => obtain ⟨τ, G, J, q⟩ := q; exact ⟨τ, G, J.ofTry ok, q⟩
end
section
variable {K : PySem.W.Frag} {tt : TT} {te : TE} {vs : List Nat} {σ : L2.St} {H : Hp} {D : Addr} {Qd : Hp → Prop}
theorem Same.sqT {H H' : Hp} {a : Addr} {xs : List V} (e : Same H H') (h : SqT K H a xs) : SqT K H' a xs :=
  h.imp (fun q => q.imp (fun z => e _ _ z) (fun ⟨o, z⟩ => ⟨o, e _ _ z⟩)) id
/-- [.. for x in t ..], t a tuple -/
theorem lcTn {a : Addr} {xs : List V} {j : Nat} (keep : Nat → Bool) (val : Nat → V) (hx : SqT K H a xs) (hD : H D = none) (hn : xs.length < 100000)
    (hw : ∀ x, wipe ((wipe σ vs).set j (some x)) vs = wipe σ vs)
    (ht : ∀ i x H2 (Q : Bool → Hp → Prop), xs[i]? = some x → Same H H2 → (∀ H3, Same H2 H3 → Q (keep i) H3) → tt ((wipe σ vs).set j (some x)) H2 Q)
    (he : ∀ i x H2 (Q : VK), xs[i]? = some x → keep i = true → Same H H2 → (∀ H3, Same H2 H3 → Q (val i) H3) → te ((wipe σ vs).set j (some x)) H2 Q)
    (hd : ∀ H', Same H H' → H' D = some (.lst (gives xs.length keep val)) → Qd H') :
    ∃ W : Nat → Nat → Hp → Prop, (∃ m, W 0 m (upd H D (.lst []))) ∧ ∀ i m H, W i m H →
      ((Itt K a).stop i H ∧ Qd H) ∨ ((Itt K a).go i H ∧ ∃ Nx : Hp → Prop, (∀ H', Nx H' → ∃ m', m' < m ∧ W (i + 1) m' H') ∧
        ∀ x H', (Itt K a).yld i H x H' → gName j x (wipe σ vs) H' fun σ2 H2 => wipe σ2 vs = wipe σ vs ∧ tt σ2 H2 fun b H3 =>
          if b = true then te σ2 H3 fun y H4 => ∃ acc, H4 D = some (.lst acc) ∧ acc.length < sizeLine ∧ Nx (upd H4 D (.lst (acc ++ [y]))) else Nx H3) :=
  lc_tup (xs := xs) (fun i H2 => Same H H2 ∧ H2 D = some (.lst (gives i keep val))) ⟨Same.new hD, upd_same⟩
    (fun i H2 hi e => Same.sqT e.1 hx)
    (fun i x H2 hi e => ⟨hw _, lc_turnS hD (List.getElem?_eq_some_iff.mp hi).1 hn e.1 e.2 (fun Q q => ht i x H2 Q hi e.1 q) (fun H3 s3 Q k q => he i x H3 Q hi k (e.1.trans s3) q)⟩)
    (fun H2 e => hd H2 e.1 e.2)
end
section
open PySem.W
variable {prog : Program} {w : World} {A : Around} {E : Value → Shared → Prop} {s : Shared} {K : Frag} {x D : Addr} {ox : Obj} {od : Option Obj}
theorem find_class (hd : hasDictIn K D = true) (ha : findIn K (.ref D) "__class__" = some (some (.builtin "object.__class__"))) (hn : specialIn K (.builtin "object.__class__") "__get__" = some (some (.builtin "getset_descriptor.__get__")))
    (ht : takesIn K (.builtin "object.__class__") = some true) : findObj K D od "__class__" = some (.bind (.builtin "getset_descriptor.__get__") (.builtin "object.__class__")) := by
  obtain ⟨cd, hc, _⟩ := any_some hd
  unfold findObj
  rw [hc, Option.bind_some, ha, Option.bind_some]
  simp [hn, ht]
/-- e.__class__ of an error of an own class, whatever its dict holds -/
theorem class_of_error {Q : Option Value → Shared → Prop} (T : ExcC K D) (X : K.In s.heap) (I : PySem.W.InstAt s.heap x ox D od) (h : Q (some (.ref D)) { s with toks := s.toks + 1 }) : wpAny (model prog w) A (getAttr? (.ref x) "__class__") Q E s := by
  obtain ⟨hp, g, d, t, os⟩ := s
  have ty := I.type (M := model prog w)
  have fnd := looks_find (M := model prog w) X I (find_class T.hd T.ha T.hn T.ht)
  have below : Looks (model prog w) hp (isInstance (.ref x) (.type "BaseException")) true := ty.andThen (looks_subIn X T.hs)
  have e2 : (Value.builtin "BaseException.__getattribute__" == Value.builtin "object.__getattribute__") = false := by decide +kernel
  have e1 : (onTheHeap (Value.ref D) && Value.builtin "BaseException.__getattribute__" == Value.builtin "object.__getattribute__") = false := by rw [e2]; rfl
  unfold getAttr? getAttrBy? getAttrBy
  refine wpAny_bind (wpAny_mkText (wpAny_bind (wpAny_attempt (wpAny_holding (wpAny_bind (ty.at (wpAny_bind ((looks_findIn (M := model prog w) X T.hg).at ?_))))))))
  show wpAny _ _ (if (onTheHeap (Value.ref D) && Value.builtin "BaseException.__getattribute__" == Value.builtin "object.__getattribute__") = true then _ else _) _ _ _
  rw [e1, if_neg Bool.false_ne_true]
  unfold getAttrByItsOwn hookBefore
  refine wpAny_bind ?_
  rw [if_pos (show onTheHeap (Value.ref D) = true from rfl)]
  refine (looks_findIn (M := model prog w) X T.hk).at (wpAny_bind (wpAny_attempt (wpAny_holding ?_)))
  unfold callGetattribute
  rw [show (false && onTheHeap (Value.builtin "BaseException.__getattribute__")) = false from rfl, if_neg Bool.false_ne_true]
  unfold boundAndCalled
  rw [PySem.F.excAttr_ValueError.ga.bind (.ref x)]
  refine wpAny_bind (wpAny_pure ?_)
  show wpAny _ _ (call (.builtin "BaseException.__getattribute__") [.ref x, .str "__class__" t]) _ _ _
  refine wpAny_call (codeAny_call_builtin PySem.F.excAttr_ValueError.ga.plain PySem.F.entry_bexc_ga ?_)
  refine @check_slot (model prog w) _ _ ⟨hp, g, d, t + 1, os⟩ "BaseException.__getattribute__" "BaseException" "__getattribute__" (.ref x) [.str "__class__" t] [] _ (by decide +kernel) (by decide +kernel) below (PySem.F.args_bexc_ga (.ref x) (.str "__class__" t)) ?_
  unfold Builtin.«object.__getattribute__»
  refine wpAny_bind (wpAny_of_eq (a := ((Value.ref x : Value), [Value.str "__class__" t])) (by first | rfl | (simp only [slotArgs]; rfl)) ?_)
  refine wpAny_bind (wpAny_pure (wpAny_bind (ty.at (wpAny_bind (fnd.at ?_)))))
  show wpAny _ _ (holding [Value.builtin "object.__class__"] (call (.builtin "getset_descriptor.__get__") [.builtin "object.__class__", .ref x, .ref D]) >>= ret) _ _ _
  refine wpAny_bind (wpAny_holding (wpAny_call (class_get (s := ⟨hp, g, d, t + 1, os⟩) (ox := ox) (od := od) X I T.hm ?_)))
  refine wpAny_pure ?_
  show wpAny _ _ (handedOut (.ref D)) _ _ _
  rw [handedOut_of (v := .ref D) rfl]
  first
    | exact wpAny_pure (wpAny_pure h)
    | exact wpAny_pure h
    | exact wpAny_pure (wpAny_bind (wpAny_pure (wpAny_pure h)))
theorem cls_there (hd : hasDictIn K D = true) : ∃ c d cd sl, K.lookup D = some ⟨c, d, .cls cd, sl⟩ := by
  obtain ⟨cd, hc, _⟩ := any_some hd
  unfold clsIn at hc
  split at hc
  · rename_i c d cd' sl ho
    exact ⟨c, d, cd', sl, ho⟩
  · cases hc
theorem kit_error (T : ExcC K D) : KitX K (.ref x) (.ref D) (fun h => PySem.W.InstAt h x ox D od) where
  ty := fun _ _ _ I => I.type
  it := fun _ _ X _ => by
    obtain ⟨c, d, cd, sl, ho⟩ := cls_there T.hd
    intro A' Q' E' s' k q
    unfold isType loadHead
    exact wpAny_bind (wpAny_loadPart (k _ _ (X _ _ ho)) (wpAny_pure q))
  ne := fun h tp dd its n sl X htp => by
    obtain ⟨c, d, cd, sl', ho⟩ := cls_there T.hd
    refine Bool.eq_false_iff.mpr fun q => ?_
    obtain rfl : D = tp := Value.ref.inj (beq_iff_eq.mp q)
    cases (X _ _ ho).symm.trans htp
  ca := fun X I k => class_of_error T X I k
end
/-- at a an error of the class at D, its dict at d: one that the suite holds, or one that is tracked -/
def Known (X : Cx) (H : Hp) (a D : Addr) (d : Option Addr) : Prop := ((∃ oe, (a, oe) ∈ X.pn ∧ L2.Zc (.ref D) d oe ∧ ∃ vs, oe.data = .fields vs) ∨ H a = some (ErO (.ref D) d a)) ∧ (d = none ∨ ∃ dx fs, d = some dx ∧ H dx = some (.xd fs))
section
variable {X : Cx} {pins : List (Addr × Obj)} {σ : L2.St} {H : Hp} {s : Shared} {a D : Addr} {d : Option Addr}
theorem known_at (I : Inv X pins σ H s) (k : Known X H a D d) : ∃ oe od, PySem.W.InstAt s.heap a oe D od ∧ oe.dict = d ∧ (∀ dx, d = some dx → ∃ o, od = some o ∧ s.heap.get? dx = some o) := by
  obtain ⟨k1, k2⟩ := k
  obtain ⟨oe, vs, ha, hz, hv⟩ : ∃ oe vs, s.heap.get? a = some oe ∧ L2.Zc (.ref D) d oe ∧ oe.data = .fields vs := by
    rcases k1 with ⟨oe, hp, hz, vs, hv⟩ | e
    · exact ⟨oe, vs, (I.pin (a, oe) (List.mem_append_left _ hp)).1, hz, hv⟩
    · obtain ⟨oe, vs, r⟩ := (I.hok a _ e).1
      exact ⟨oe, vs, r⟩
  have nc : PySem.W.notCls oe = true := by unfold PySem.W.notCls; rw [hv] <;> rfl
  rcases k2 with rfl | ⟨dx, fs, rfl, hx⟩
  · exact ⟨oe, none, ⟨ha, hz.1, nc, by rw [hz.2]; trivial⟩, hz.2, fun _ z => nomatch z⟩
  · obtain ⟨mA, ⟨o, _, _, ho, _⟩, _⟩ := (show ObjOk X.prog X.w H s.heap dx (.xd fs) from I.hok dx _ hx)
    exact ⟨oe, some o, ⟨ha, hz.1, nc, by rw [hz.2]; exact ho⟩, hz.2, fun y e => by cases e; exact ⟨o, rfl, ho⟩⟩
/-- isinstance(e, c), e a known error -/
def rIsEr (X : Cx) : List V → Hp → VK → Prop := fun xs H Q => ∃ (a D : Addr) (d : Option Addr) (c : V) (u : Value) (b : Bool), xs = [.ref a, c] ∧ Known X H a D d ∧ ExcC X.K D ∧ ClsV c u ∧ PySem.W.kitOne X.K (.ref D) u = some b ∧ Q (.bl b) H
theorem call_isEr : CallR X (.builtin "isinstance") (rIsEr X) := by
  intro pins s σ H xs us Q I r h
  obtain ⟨a, D, d, c, u, b, rfl, kn, T, k, e, q⟩ := h
  obtain ⟨u1, u2, rfl, r1, r2⟩ := vals2 r
  obtain rfl := k.eq r2
  obtain rfl : u1 = Value.ref a := r1
  obtain ⟨oe, od, J, _⟩ := known_at I kn
  exact PySem.W.kia_one (kit_error T) I.kIn J e (fun z => nomatch z) fun tk => ⟨.bl b, H, I.tok tk, rfl, q⟩
/-- isinstance(e, (c1, c2, ..)) -/
def rIsErT (X : Cx) : List V → Hp → VK → Prop := fun xs H Q => ∃ (a D tp : Addr) (d : Option Addr) (cs : List V) (us : List Value) (b : Bool), xs = [.ref a, .ref tp] ∧ H tp = some (.tup cs) ∧ Paired ClsV cs us ∧ Known X H a D d ∧ ExcC X.K D ∧ PySem.W.kitAny X.K (.ref D) us = some b ∧ Q (.bl b) H
theorem call_isErT : CallR X (.builtin "isinstance") (rIsErT X) := by
  intro pins s σ H xs us Q I r h
  obtain ⟨a, D, tp, d, cs, ws, b, rfl, hT, k, kn, T, e, q⟩ := h
  obtain ⟨u1, u2, rfl, r1, r2⟩ := vals2 r
  obtain rfl : u2 = Value.ref tp := r2
  obtain rfl : u1 = Value.ref a := r1
  obtain ⟨oe, od, J, _⟩ := known_at I kn
  obtain ⟨_, its, rv, o, h1, h2, n, h3⟩ := (show ObjOk X.prog X.w H s.heap tp (.tup cs) from I.hok tp _ hT)
  obtain rfl := ClsV.all k rv
  obtain ⟨oc, od', dt, sl⟩ := o
  simp only at h2 h3
  subst h2 h3
  exact PySem.W.kia_tup (kit_error T) I.kIn J h1 e (fun z => nomatch z) fun tk => ⟨.bl b, H, I.tok tk, rfl, q⟩
/-- e.f, e a known error -/
def tErF (X : Cx) (n : Str) (te : TE) : TE := fun σ H Q => te σ H fun x H1 => ∃ (a D dx : Addr) (fs : List (Str × V)) (v : V), x = .ref a ∧ Known X H1 a D (some dx) ∧ H1 dx = some (.xd fs) ∧ XfC X.K D ∧ PySem.W.findIn X.K (.ref D) n = some none ∧ fs.lookup n = some v ∧ Q v H1
theorem er_get {n : Str} {s1 : Shared} {H1 : Hp} {dx : Addr} {fs : List (Str × V)} {v : V} {Q : VK} {Ex : Value → Shared → Prop} (I1 : Inv X pins σ H1 s1) (kn : Known X H1 a D (some dx)) (hx : H1 dx = some (.xd fs)) (T : XfC X.K D) (hno : PySem.W.findIn X.K (.ref D) n = some none) (l : fs.lookup n = some v) (q : Q v H1) :
    wpAny (model X.prog X.w) X.A (getAttr (.ref a) n true) (EP X pins σ Q) Ex s1 := by
  obtain ⟨oe, od, J, ed, hd⟩ := known_at I1 kn
  obtain ⟨o, rfl, ho⟩ := hd dx rfl
  obtain ⟨mA, hns, hr⟩ := (show ObjOk X.prog X.w H1 s1.heap dx (.xd fs) from I1.hok dx _ hx)
  obtain ⟨o2, ho2, hl⟩ := lookIn_ns hns
  rw [ho] at ho2
  cases ho2
  obtain ⟨u, hu, ru⟩ := RelO.some_of (v := v) (o := mA n) (by rw [← l]; exact hr n)
  exact HandSPX.exc_get I1.kIn J T.ga T.gg T.exC (PySem.W.findObj_own T.hdC hno rfl (by rw [hl, hu])) (handed_of ru) ⟨v, H1, I1.tok _, ru, q⟩
theorem pe_erF {e : Expr} {te : TE} {pos : Pos} {n : Str} (he : PE X e te) (hb : attributeBase e n X.env (eval e X.env) = eval e X.env := by rfl) : PE X (.Attribute e n pos) (tErF X n te) := by
  refine ⟨fun pins s σ H Q I h => attr_of hb (thn (he.run pins s σ H _ I h) fun u s1 hh => ?_)⟩
  obtain ⟨x, H1, I1, rx, a, D, dx, fs, v, rfl, kn, hx, T, hno, l, q⟩ := hh
  obtain rfl : u = Value.ref a := rx
  exact er_get I1 kn hx T hno l q
end
/-! ### a def that is called in a suite, with the error that the suite holds -/
/-- the context of such a def's body: the error is pinned -/
abbrev cxE (P : Program) (w : World) (K : PySem.W.Frag) (mg : Str → Option Value) (base : Heap) (N : List Str) (q : Str) (sc : Scope) (f : Addr) (cd : Value) (A : Around) (outer : List Env) (s : Shared) (H : Hp) (p : Addr × Obj) : Cx := L2H.cxH CX0 P w K mg base N q sc f cd A outer s H (fun _ _ _ => False) p
/-- the error at a in words of the context -/
structure Held (X : Cx) (a : Addr) (cls : Value) (d : Option Addr) (oe : Obj) : Prop where
  mem : (a, oe) ∈ X.pn
  z : L2N.Zn cls d oe
  fv : ∃ vs, oe.data = .fields vs
  hot : X.A.handled = some (.ref a)
theorem Held.hotC {X : Cx} {a : Addr} {cls : Value} {d : Option Addr} {oe : Obj} (h : Held X a cls d oe) : L2H.HotC X := by
  obtain ⟨vs, e⟩ := h.fv
  exact ⟨(a, oe), ⟨h.hot, vs, e, h.z.2.2 vs e⟩, h.mem⟩
theorem Held.known {X : Cx} {H : Hp} {a D : Addr} {d : Option Addr} {oe : Obj} (h : Held X a (.ref D) d oe) (k : d = none ∨ ∃ dx fs, d = some dx ∧ H dx = some (.xd fs)) : Known X H a D d := ⟨.inl ⟨oe, h.mem, h.z.zc, h.fv⟩, k⟩
/-- the def st at the name x, called with the error a suite holds: sp speaks of the error's address, its class, its dict -/
def HasE (P : Program) (w : World) (K : PySem.W.Frag) (mg : Str → Option Value) (base : Heap) (k : Nat) (x : Str) (st : Stmt) (ps : List Str) (sp : Addr → Value → Option Addr → List V → Hp → VK → Prop) : Prop :=
  ∃ f fd, Fun K x x st f fd ∧ mg x = some (.ref f) ∧ L2.Binds K fd ps [] ∧ (∀ a cls d vs H Q, sp a cls d vs H Q → vs.length = ps.length) ∧
    ∀ (A : Around) (outer : List Env) (s : Shared) (H : Hp) (args : Args) (us : List Value) (vs : List V) (Q : VK) (a : Addr) (cls : Value) (d : Option Addr) (oe : Obj), L2H.RoomH k A → Quiet A → A.handled = some (.ref a) → L2N.Zn cls d oe → (∃ vs, oe.data = .fields vs) →
      L2H.PinOk outer H s (a, oe) → Env0 P w K mg base A outer s H → BindsTo s fd args (ps.zip us) → Vals vs us → sp a cls d vs H Q → codeAny (model P w) A (.call (.ref f) args) (CR CX0 outer P w H s Q (fun _ _ _ => False)) s
section
variable {P : Program} {w : World} {K : PySem.W.Frag} {mg : Str → Option Value} {base : Heap}
theorem HasE.of {x : Str} {st : Stmt} {N ps : List Str} {k : Nat} {sp : Addr → Value → Option Addr → List V → Hp → VK → Prop} (at_ : At K mg x st) (S : FnScope N ps (defScope st)) (len : ∀ a cls d vs H Q, sp a cls d vs H Q → vs.length = ps.length)
    (bd : ∀ (kV doc pm : Value) (an : Option Addr) (cdv ct : Value) (us : List Value), us.length = ps.length →
      bindArgs (PySem.W.fnOf x x (defArgs st) (defBody st) (defScope st) .none kV doc pm an cdv ct) ⟨us, []⟩ = pure (ps.zip us))
    (walk : ∀ (f : Addr) (cdv : Value) (A : Around) (outer : List Env) (s : Shared) (H : Hp) (vs : List V) (Q : VK) (a : Addr) (cls : Value) (d : Option Addr) (oe : Obj),
      L2H.RoomH k (A.deeper (envOfC x (defScope st) s.heap.objs.size f cdv)) → Quiet (A.deeper (envOfC x (defScope st) s.heap.objs.size f cdv)) → Held (cxE P w K mg base N x (defScope st) f cdv A outer s H (a, oe)).nox a cls d oe → sp a cls d vs H Q →
      ∃ t, PSs (cxE P w K mg base N x (defScope st) f cdv A outer s H (a, oe)).nox (defBody st) t ∧ t { nx := fun _ H' => Q .non H', rt := Q } (start N vs) H) :
    HasE P w K mg base (k + 1) x st ps sp := by
  obtain ⟨f, fd, F, m⟩ := at_
  refine ⟨f, fd, F, m, F.binds bd, len, fun A outer s H args us vs Q a cls d oe room qt hot hz hf pin e0 hb r hsp => ?_⟩
  obtain ⟨oc, od, kV, doc, pm, an, cdv, ct, osl, rfl, lk, hcd⟩ := F.ex
  have inK : K.In s.heap := e0.mod.kin.keeps fun b o e => (e0.bs b o e).1
  have hl := len _ _ _ _ _ _ hsp
  have kinds : ∀ y ∈ ps.zip us, (defScope st).names.lookup y.1 = some .local ∨ ((defScope st).names.lookup y.1 = some .cell ∧ ((cellsFrom (s.heap.objs.size + 1) (defScope st).names []).lookup y.1).isSome = true) := by
    rintro ⟨n, v⟩ hy
    rcases S.par n (List.of_mem_zip hy).1 with z | z
    · exact .inl z
    · exact .inr ⟨z, PySem.W.cellsFrom_some _ _ _ (.inl z)⟩
  refine codeAny_call_function room.depth (inK _ _ lk) rfl S.co S.gen rfl (PySem.W.codeRec_of inK hcd) (hb _ _ _ _ (wpAny_newFunctionEnv_cells S.kind kinds fun env he s1 ic => ?_))
  subst he
  refine ⟨Heap.NoLimit.keeps (e0.mod.nolimit.keeps fun b o e => (e0.bs b o e).1) ic.toInCall.keep, codeAny_func ?_⟩
  have I : Inv (cxE P w K mg base N x (defScope st) f cdv A outer s H (a, oe)) [] (start N vs) H s1 := L2H.inv_startH S pin e0 hl r ic
  obtain ⟨t, ht, hq⟩ := walk f cdv A outer s H vs Q a cls d oe (room.deeper _) (by exact qt) ⟨List.mem_singleton.mpr rfl, hz, hf, hot⟩ hsp
  refine wpAny_mono (ht.nox.run [] s1 (start N vs) H _ I hq) (fun fl s' hs => ?_) fun e s' hs => hs
  cases fl with
  | ret u => obtain ⟨v, σ', H', J, rv, q⟩ := hs; exact ⟨v, H', J.os, J.bare, J.base, J.hok, rv, q⟩
  | next => obtain ⟨σ', H', J, q⟩ := hs; exact ⟨V.non, H', J.os, J.bare, J.base, J.hok, rfl, q⟩
  | brk => obtain ⟨_, _, _, q⟩ := hs; exact q.elim
  | cont => obtain ⟨_, _, _, q⟩ := hs; exact q.elim
end
section
variable {X : Cx} {k : Nat} {st : Stmt} {ps : List Str} {sp : Addr → Value → Option Addr → List V → Hp → VK → Prop} {x : Str} {p pos : Pos} {e : Expr} {es : List Expr} {t : TA} {a : Addr} {cls : Value} {d : Option Addr} {oe : Obj}
theorem pe_hasE (h : HasE X.prog X.w X.K X.mg X.base k x st ps sp) (room : L2H.RoomH k X.A) (qt : Quiet X.A) (he : Held X a cls d oe) (hg : Gl X x) (ha : PA X (e :: es) t)
    (hdb : (x == ("__debug__" : Str)) = false := by decide) (hst : starEach (e :: es) X.env = (false, eval e X.env) :: starEach es X.env := by rfl) (hpl : (backTo pos (starEach es X.env)).any (·.1) = false := by rfl) :
    PE X (.Call (.Name x p) (e :: es) [] pos) (fun σ H Q => t σ H fun vs H1 => sp a cls d vs H1 Q) := by
  obtain ⟨f, fd, F, m, b, len, go⟩ := h
  refine ⟨fun pins s σ H Q I h => wpAny_Call_Name_kw (ld_glob I hg m (PySem.W.callWith_K (h₀ := X.base) I.ok.mod.kin F.kp (thn (ha.run pos pins s σ H _ I h) fun us s1 ⟨vs, H1, I1, r, q⟩ => ⟨I1.kIn, ?_⟩) hst hpl) hdb)⟩
  have hl : us.length = ps.length := by rw [← r.length]; exact len _ _ _ _ _ _ q
  have hb := b s1 us I1.kIn (by rw [List.append_nil]; exact hl)
  rw [List.append_nil] at hb
  obtain ⟨p1, p2, p3, p4, p5⟩ := I1.pin (a, oe) (List.mem_append_left _ he.mem)
  have pin : L2H.PinOk X.stack H1 s1 (a, oe) := ⟨p1, p2, fun hm => (List.mem_cons.mp (I1.stkSub a hm)).elim p3 p4, p5⟩
  refine wpAny_call (codeAny_mono (go X.A X.stack s1 H1 ⟨us, []⟩ us vs Q a cls d oe room qt he.hot he.z he.fv pin I1.env0 hb r q) fun r s' hq => ?_)
  cases r with
  | error e => exact False.elim hq
  | ok fl => cases fl with
    | ret u => exact I1.after hq
    | _ => exact False.elim hq
end
section
variable {X : Cx} {a : Addr} {cls : Value} {d : Option Addr} {oe : Obj}
/-- isinstance(e, c) in the suite itself: the reading speaks of no object -/
def rIsH (K : PySem.W.Frag) (a : Addr) (cls : Value) (d : Option Addr) : List V → Hp → VK → Prop := fun xs H Q => ∃ (D : Addr) (c : V) (u : Value) (b : Bool), xs = [.ref a, c] ∧ cls = .ref D ∧ (d = none ∨ ∃ dx fs, d = some dx ∧ H dx = some (.xd fs)) ∧ ExcC K D ∧ ClsV c u ∧ PySem.W.kitOne K (.ref D) u = some b ∧ Q (.bl b) H
theorem call_isH (h : Held X a cls d oe) : CallR X (.builtin "isinstance") (rIsH X.K a cls d) := by
  intro pins s σ H xs us Q I r z
  obtain ⟨D, c, u, b, rfl, rfl, k, T, cv, e, q⟩ := z
  exact call_isEr pins s σ H _ us Q I r ⟨a, D, d, c, u, b, rfl, h.known k, T, cv, e, q⟩
def rIsHT (K : PySem.W.Frag) (a : Addr) (cls : Value) (d : Option Addr) : List V → Hp → VK → Prop := fun xs H Q => ∃ (D tp : Addr) (cs : List V) (us : List Value) (b : Bool), xs = [.ref a, .ref tp] ∧ cls = .ref D ∧ H tp = some (.tup cs) ∧ Paired ClsV cs us ∧ (d = none ∨ ∃ dx fs, d = some dx ∧ H dx = some (.xd fs)) ∧ ExcC K D ∧ PySem.W.kitAny K (.ref D) us = some b ∧ Q (.bl b) H
theorem call_isHT (h : Held X a cls d oe) : CallR X (.builtin "isinstance") (rIsHT X.K a cls d) := by
  intro pins s σ H xs us Q I r z
  obtain ⟨D, tp, cs, ws, b, rfl, rfl, ht, k, kd, T, e, q⟩ := z
  exact call_isErT pins s σ H _ us Q I r ⟨a, D, tp, d, cs, ws, b, rfl, ht, k, h.known kd, T, e, q⟩
/-- e.f in the suite itself -/
def tHF (K : PySem.W.Frag) (a : Addr) (cls : Value) (d : Option Addr) (n : Str) (te : TE) : TE := fun σ H Q => te σ H fun x H1 => ∃ (D dx : Addr) (fs : List (Str × V)) (v : V), x = .ref a ∧ cls = .ref D ∧ d = some dx ∧ H1 dx = some (.xd fs) ∧ XfC K D ∧ PySem.W.findIn K (.ref D) n = some none ∧ fs.lookup n = some v ∧ Q v H1
theorem pe_hF {e : Expr} {te : TE} {pos : Pos} {n : Str} (h : Held X a cls d oe) (he : PE X e te) (hb : attributeBase e n X.env (eval e X.env) = eval e X.env := by rfl) : PE X (.Attribute e n pos) (tHF X.K a cls d n te) := by
  refine ⟨fun pins s σ H Q I z => attr_of hb (thn (he.run pins s σ H _ I z) fun u s1 hh => ?_)⟩
  obtain ⟨x, H1, I1, rx, D, dx, fs, v, rfl, rfl, rfl, hx, T, hn, l, q⟩ := hh
  obtain rfl : u = Value.ref a := rx
  exact er_get I1 (h.known (.inr ⟨dx, fs, rfl, hx⟩)) hx T hn l q
end
end SH

/-! SH19: an own error class whose __init__ says super().__init__('..') and self.f = v. -/
namespace SH
open PySem PySem.Spec PyProof.Rows L2
/-- what the written part says of such a class: its __init__ at fI (its code at cda, its __class__ cell at cc), with the text st -/
structure IniC (P : Program) (K : PySem.W.Frag) (C : Addr) (q : Str) (st : Stmt) (f : Str) : Prop where
  o : OexC K C
  fx : ∃ (fI cda cc : Addr) (oc cl ccl : Value) (od cld cdd : Option Addr) (osl csl ccs : Array (Option Value)) (vs : Array Value) (file : Str) (tf : Tok) (kV doc pm ct : Value) (an : Option Addr),
    K.lookup fI = some ⟨oc, od, .func (PySem.W.ksFn "__init__" q (defArgs st) (defBody st) (defScope st) .none kV doc pm an (.ref cda) ct cc), osl⟩ ∧
    PySem.W.codeIn K (.ref cda) q = true ∧ K.lookup cda = some ⟨ccl, cdd, .fields vs, ccs⟩ ∧ vs[2]? = some (.str file tf) ∧ ((P.main.file : Str) == file) = true ∧
    K.lookup cc = some ⟨cl, cld, .cell (some (.ref C)), csl⟩ ∧ PySem.W.findIn K (.ref C) "__init__" = some (some (.ref fI)) ∧ PySem.W.typeIn K (.ref fI) = some (.type "function")
  su : PySem.W.ks_superIn K C C "__init__" = some (some (.builtin "ValueError.__init__"))
  sb : PySem.W.subIn K (.ref C) (.type "ValueError") = some true
  me : PySem.W.mroIn K C (.ref C) = some true
  op : PySem.W.nsIn K cStatics "thirdparty.any" = some none
  no : PySem.W.findIn K (.ref C) f = some none
  top : (P.main.scope.names.lookup ("super" : Str)).isSome = false
/-- the text of such an __init__ -/
structure IniT (st : Stmt) (f v m : Str) : Prop where
  body : ∃ p0 p1 p2 p3 p4 p5 p6 p7 p8 p9 j, defBody st = [.Expr (.Call (.Attribute (.Call (.Name "super" p0) [] [] p1) "__init__" p2) [.Constant (.str m) j p3] [] p4) p5, .Assign [.Attribute (.Name "self" p6) f p7] (.Name v p8) p9] ∧
    ∀ (q : Str) (kV doc pm : Value) (an : Option Addr) (cd ct : Value) (cc L fI : Addr) (env : Env), env = callEnv (PySem.W.ksFn "__init__" q (defArgs st) (defBody st) (defScope st) .none kV doc pm an cd ct cc) L fI →
      (∃ pl : Sem Bool, eval (.Call (.Attribute (.Call (.Name "super" p0) [] [] p1) "__init__" p2) [.Constant (.str m) j p3] [] p4) env = (do
        let ov ← attributeBase (.Call (.Name "super" p0) [] [] p1) "__init__" env (eval (.Call (.Name "super" p0) [] [] p1) env)
        standAt p2.atName
        let (g, first) ← holding [ov] (getMethod ov "__init__" pl)
        callWith p4 g first (backTo p4 (starEach [.Constant (.str m) j p3] env)) [])) ∧
      swapsWith (.Call (.Attribute (.Call (.Name "super" p0) [] [] p1) "__init__" p2) [.Constant (.str m) j p3] [] p4) none p5.line env = pure false ∧
      swapsWith (.Name v p8) (some (.Attribute (.Name "self" p6) f p7)) p9.line env = pure false ∧ interactive env = false ∧
      starEach [.Constant (.str m) j p3] env = (false, eval (.Constant (.str m) j p3) env) :: starEach [] env
  ar : ∃ a0 a1, (defArgs st).posonlyargs = [] ∧ (defArgs st).args = [a0, a1] ∧ a0.arg = "self" ∧ a1.arg = v
  bd : ∀ (kV doc pm : Value) (an : Option Addr) (cd ct : Value) (q : Str) (cc : Addr) (x u : Value), bindArgs (PySem.W.ksFn "__init__" q (defArgs st) (defBody st) (defScope st) .none kV doc pm an cd ct cc) ⟨[x, u], []⟩ = pure ([(("self" : Str), x), (v, u)] : List (Str × Value))
  ks : (defScope st).names.lookup ("super" : Str) = some .globalImplicit
  kc : (defScope st).names.lookup ("__class__" : Str) = some .free
  k0 : (defScope st).names.lookup ("self" : Str) = some .local
  k1 : (defScope st).names.lookup v = some .local
  co : (defScope st).isCoroutine = false
  ge : (defScope st).isGenerator = false
  kd : (defScope st).kind = .function
  nc : ∀ x ∈ (defScope st).names, x.2 ≠ .cell
  nv : v ≠ "self"
  nd : (v == ("__debug__" : Str)) = false
section
open PySem.W
variable {P : Program} {w : World} {K : PySem.W.Frag} {mg : Str → Option Value} {base : Heap} {A : Around} {R : Result → Shared → Prop} {s : Shared} {C x t0 : Addr} {q f v m : Str} {st : Stmt} {u : Value}
theorem ini_rawA {ar : Args} (T : IniC P K C q st f) (Z : IniT st f v m) (md : Mod K mg base) (hb : ∀ b o, base.get? b = some o → s.heap.get? b = some o) (ms : mg "super" = none) (room : A.depth < recursionLimit) (hx : s.heap.get? x = some (HandSPX.excO C t0)) (bx : base.get? x = none)
    (fI : Addr) (hI : PySem.W.findIn K (.ref C) "__init__" = some (some (.ref fI)))
    (hbd : ∀ (kV doc pm : Value) (an : Option Addr) (cd ct : Value) (q : Str) (cc : Addr), bindArgs (PySem.W.ksFn "__init__" q (defArgs st) (defBody st) (defScope st) .none kV doc pm an cd ct cc) ar = pure ([(("self" : Str), .ref x), (v, u)] : List (Str × Value)))
    (hR : ∀ h' dx t1 tk, (∀ b o, b ≠ x → s.heap.get? b = some o → h'.get? b = some o) → s.heap.objs.size ≤ dx → dx ≠ x → h'.get? x = some ({ cls := .ref C, dict := some dx, data := .fields #[.ref t1, .none, .none, .none, .bool false, .none] } : Obj) →
      h'.Ns1 dx (fun y => if y = f then some u else none) → R (.ok (.ret .none)) ⟨h', s.gens, s.drawn, tk, s.os⟩) :
    codeAny (model P w) A (.call (.ref fI) ar) R s := by
  obtain ⟨fI', cda, cc, oc, cl, ccl, od, cld, cdd, osl, csl, ccs, vs, file, tf, kV, doc, pm, ct, an, lf, hcd, lc, hvs, hfile, lcc, hi, ti⟩ := T.fx
  obtain rfl : fI = fI' := by rw [hI] at hi; injection hi with z; injection z with z; injection z
  have KX : K.In s.heap := md.kin.keeps hb
  obtain ⟨a0, a1, e0, e1, ea0, ea1⟩ := Z.ar
  obtain ⟨p0, p1, p2, p3, p4, p5, p6, p7, p8, p9, j, eb, ev⟩ := Z.body
  obtain ⟨hp, g, d, tk, os⟩ := s
  refine ks_codeAny_call_defAt (body := defBody st) room (KX _ _ lf) rfl (md.nolimit.keeps hb) (codeRec_of KX hcd) rfl (.of_eq (hbd _ _ _ _ _ _ _ _)) Z.nc (fun y hy => ?_) (fun h1 hns hk => ?_) Z.co Z.ge Z.kd
  · rcases List.mem_cons.mp hy with rfl | hy
    · exact Z.k0
    · rcases List.mem_cons.mp hy with rfl | hy
      · exact Z.k1
      · cases hy
  generalize ee : callEnv (ksFn "__init__" q (defArgs st) (defBody st) (defScope st) .none kV doc pm an (.ref cda) ct cc) hp.objs.size fI = env
  have n1 : env.kindOf ("super" : Str) = some .globalImplicit := by rw [← ee]; exact Z.ks
  have n2 : env.kindOf ("__class__" : Str) = some .free := by rw [← ee]; exact Z.kc
  have n3 : env.kindOf ("self" : Str) = some .local := by rw [← ee]; exact Z.k0
  have n4 : env.kindOf v = some .local := by rw [← ee]; exact Z.k1
  have n5 : env.scope.kind = .function := by rw [← ee]; exact Z.kd
  have n6 : env.func = some fI := by rw [← ee]; rfl
  have n7 : env.code = .ref cda := by rw [← ee]; rfl
  have n8 : env.cells.lookup ("__class__" : Str) = some cc := by rw [← ee]; rfl
  have n9 : env.globals = mainGlobals := by rw [← ee]; rfl
  have n10 : env.builtins = builtinsNs := by rw [← ee]; rfl
  have n11 : env.locals = hp.objs.size := by rw [← ee]; rfl
  obtain ⟨⟨pl, e1'⟩, e2', e3', e4', e5'⟩ := ev q kV doc pm an (.ref cda) ct cc hp.objs.size fI env ee.symm
  rw [eb]
  have K1 : K.In h1 := KX.keeps hk
  obtain ⟨nm, qq, N, bs, bm, sn, sub, ab, col, dd, k0, k1, k2, k3, k5, lC, hbm⟩ := T.o.cls
  have hC1 := K1 _ _ lC
  have hcl : clsIn K C = some { name := nm, bases := bs, mro := .ref C :: bm, ns := N, qualname := qq, hasDict := true, slotNames := sn, subclasses := sub, abstract := ab, collection := col, hasDel := false } := by unfold clsIn; rw [lC] <;> rfl
  have hx1 : h1.get? x = some (HandSPX.excO C t0) := hk _ _ hx
  have I1 : PySem.W.InstAt h1 x (HandSPX.excO C t0) C none := ⟨hx1, rfl, rfl, trivial⟩
  have nsb : ∀ {b : Addr} {n : Str → Option Value}, base.Ns b n → h1.Ns b n := fun q => q.keeps fun b o e => hk b o (hb b o e)
  obtain ⟨mb, hmb, hbb⟩ := md.blt
  have hns' : h1.Ns env.locals (fun y => List.lookup y [(v, u), (("self" : Str), Value.ref x)]) := by rw [n11]; exact hns
  have lself : List.lookup (("self" : Str)) [(v, u), (("self" : Str), Value.ref x)] = some (.ref x) := by
    rw [List.lookup_cons, show (("self" : Str) == v) = false by simpa using Ne.symm Z.nv]
    rfl
  refine ks_wpAt_execs_cons (ks_wpAt_Expr_any (ks_wpAt_MethodCall (pl := pl) (ks_wpAt_super_base (ar := a0) n1 n2 rfl n6 (hk _ _ (KX _ _ lf)) rfl ?_ n7 (hk _ _ (KX _ _ lc)) rfl hvs hfile T.top ?_) e1') e4' e2')
  · show ((defArgs st).posonlyargs ++ (defArgs st).args).head? = some a0
    rw [e0, e1]
    rfl
  refine ks_loadName_global n5 n1 (Calls.loadGlobal_builtin (by rw [n9]; exact nsb md.glob) ms (by rw [n10]; exact nsb hmb) ((hbb _ (by decide)).trans PyProof.Rows.Boot.«super») ⟨rfl, ?_⟩)
  refine wpAny_loadName_free n5 n2 n8 ⟨_, K1 _ _ lcc, rfl⟩ ?_
  rw [ea0]
  refine wpAny_loadName_local n5 n3 hns' lself ?_
  refine ks_wpAny_isType_cls hC1 rfl ⟨rfl, ?_⟩
  refine ks_wpAny_call_super hC1 rfl hx1 rfl (fun c z => by cases z) (looks_mroIn K1 T.me) fun h2 e2 k2 => ?_
  have K2 := K1.keeps k2
  have I2 : PySem.W.InstAt h2 x (HandSPX.excO C t0) C none := ⟨k2 _ _ hx1, rfl, rfl, trivial⟩
  have su := T.su
  unfold ks_superIn at su
  rw [hcl] at su
  refine kxs_getMethod kxs_ValueError e2 (looks_opaque K2 T.op) (l₀ := .ref C :: bm) (fun A Q E s k q => wpAny_bind ((looks_clsIn K2 hcl) A _ E s k (wpAny_pure q))) rfl K2 su (I2.type.andThen (looks_subIn K2 T.sb)) (ks_ne K2 I2 hcl) rfl ?_
  have k3 : ∀ b o, h2.get? b = some o → (h2.push (kxs_mw "ValueError.__init__" x)).get? b = some o := fun b o e => Heap.get?_push_of_some _ e
  have hw3 : (h2.push (kxs_mw "ValueError.__init__" x)).get? h2.objs.size = some (kxs_mw "ValueError.__init__" x) := Heap.get?_push_size _ rfl
  generalize h2.push (kxs_mw "ValueError.__init__" x) = h3 at k3 hw3 ⊢
  rw [e5']
  refine kxs_callWith (i := "ValueError.__init__") (x := x) rfl (Calls.evalArgs_plain (Calls.spliced_cons ?_))
  rw [if_neg Bool.false_ne_true]
  refine Calls.Constant_str ?_
  refine Calls.spliced_nil ⟨hw3, ?_⟩
  have hx3 := k3 _ _ (k2 _ _ hx1)
  have hC3 := k3 _ _ (k2 _ _ hC1)
  have xC : x ≠ C := ks_ne K2 I2 hcl
  refine wpAny_call (codeAny_of_tree ?_)
  show wpAny _ (A.deeper env).in1 (callAny (.ref h2.objs.size) ⟨[.str m _], []⟩) _ _ _
  simp only [callAny]
  refine wpAny_bind (wpAny_load hw3 ?_)
  show wpAny _ _ (if ((Value.type "method-wrapper") == Value.type "method" || (Value.type "method-wrapper") == Value.type "builtin_function_or_method" || (Value.type "method-wrapper") == Value.type "method-wrapper") = true then _ else _) _ _ _
  rw [if_pos (by decide)]
  show wpAny _ _ (if ((Value.type "method-wrapper") != Value.type "method") = true then _ else _) _ _ _
  rw [if_pos (by decide)]
  refine wpAny_bind (check_bound_init F.excBase_ValueError.toExcCallFacts hC3 hx3 rfl ?_)
  refine wpAny_bind (wpAny_pure (wpAny_pure ⟨plainId_quiet F.excBase_ValueError.init.plain _, codeAny_builtin F.excBase_ValueError.initEntry ?_⟩))
  refine exc_init_tree (cls := .ref C) (t0 := t0) (dv := none) (c2 := .none) (c3 := .none) (b4 := .bool false) hx3 (by rw [sizeLine_eq]; show 1 ≤ _; omega) fun h4 k4 e4 _ => ?_
  have xl : x < hp.objs.size := Heap.lt_size hx
  have k14 : ∀ b o, b ≠ x → h1.get? b = some o → h4.get? b = some o := fun b o n e => k4 b o n (k3 b o (k2 b o e))
  have hns4 : h4.Ns env.locals (fun y => List.lookup y [(v, u), (("self" : Str), Value.ref x)]) := by
    obtain ⟨o, es, ep, ho, r⟩ := hns'
    exact ⟨o, es, ep, k14 _ _ (by rw [n11]; exact (Nat.ne_of_lt xl).symm) ho, r⟩
  have lv : List.lookup v [(v, u), (("self" : Str), Value.ref x)] = some u := by
    rw [List.lookup_cons, show (v == v) = true by simp]
  have nx0 : ∀ b o, base.get? b = some o → b ≠ x := fun b o e z => by rw [z, bx] at e; cases e
  have K4 : K.In h4 := md.kin.keeps fun b o e => k14 b o (nx0 b o e) (hk b o (hb b o e))
  refine ks_wpAt_execs_cons (ks_wpAt_Assign_Attr ?_ e3')
  refine wpAt_of_wpAny (wpAny_Name ?_ Z.nd)
  refine wpAny_loadName_local n5 n4 hns4 lv ?_
  refine wpAny_Name ?_ (by decide)
  refine wpAny_loadName_local n5 n3 hns4 lself ?_
  refine set_plain K4 (ox := { cls := .ref C, dict := none, data := .fields #[.ref h3.objs.size, .none, .none, .none, .bool false, .none] }) (od := none) ⟨e4, rfl, rfl, trivial⟩ T.o.sa ?_
  refine HandSPX.exc_osa K4 e4 hcl (show HandSPX.refsVE (.ref C :: bm) = true from hbm) rfl T.no (fun h5 tk5 dx k5' dn dne hx5 hn5 => ?_)
  refine wpAt_of_wpAny (wpAny_execs_nil ?_)
  refine hR h5 dx _ tk5 (fun b o n e => k5' b o n (k14 b o n (hk b o e))) ?_ dne hx5 hn5
  have l4 : hp.objs.size < h4.objs.size := by
    obtain ⟨o, _, _, ho, _⟩ := hns4
    rw [← n11]
    exact Heap.lt_size ho
  exact Nat.le_trans (Nat.le_of_lt l4) dn
theorem ini_raw (T : IniC P K C q st f) (Z : IniT st f v m) (md : Mod K mg base) (hb : ∀ b o, base.get? b = some o → s.heap.get? b = some o) (ms : mg "super" = none) (room : A.depth < recursionLimit) (hx : s.heap.get? x = some (HandSPX.excO C t0)) (bx : base.get? x = none)
    (fI : Addr) (hI : PySem.W.findIn K (.ref C) "__init__" = some (some (.ref fI)))
    (hR : ∀ h' dx t1 tk, (∀ b o, b ≠ x → s.heap.get? b = some o → h'.get? b = some o) → s.heap.objs.size ≤ dx → dx ≠ x → h'.get? x = some ({ cls := .ref C, dict := some dx, data := .fields #[.ref t1, .none, .none, .none, .bool false, .none] } : Obj) →
      h'.Ns1 dx (fun y => if y = f then some u else none) → R (.ok (.ret .none)) ⟨h', s.gens, s.drawn, tk, s.os⟩) :
    codeAny (model P w) A (.call (.ref fI) ⟨[.ref x, u], []⟩) R s := ini_rawA T Z md hb ms room hx bx fI hI (fun _ _ _ _ _ _ _ _ => Z.bd _ _ _ _ _ _ _ _ _ _) hR
end
section
open PySem.W
variable {X : Cx} {pins : List (Addr × Obj)} {σ : L2.St} {H1 : Hp} {C : Addr} {q f v m x : Str} {st : Stmt} {u : Value} {y : V} {p pos : Pos} {e : Expr} {te : TE}
/-- C(u) made: the error at a, its dict at dx, all else as it was -/
theorem make_ini {R : Result → Shared → Prop} {hp : Heap} {g : Array GenState} {d : Drawn} {tk : Nat} {os : OsState} (I : Inv X pins σ H1 ⟨hp, g, d, tk, os⟩) (T : IniC X.prog X.K C q st f) (Z : IniT st f v m) (ms : X.mg "super" = none) (room : Room 1 X.A)
    (h : ∀ h' a dx t1 tk', (∀ b o, hp.get? b = some o → h'.get? b = some o) → hp.objs.size ≤ a → hp.objs.size ≤ dx → dx ≠ a → h'.get? a = some ({ cls := .ref C, dict := some dx, data := .fields #[.ref t1, .none, .none, .none, .bool false, .none] } : Obj) →
      h'.Ns1 dx (fun z => if z = f then some u else none) → R (.ok (.ret (.ref a))) ⟨h', g, d, tk', os⟩) : codeAny (model X.prog X.w) X.A (.call (.ref C) ⟨[u], []⟩) R ⟨hp, g, d, tk, os⟩ := by
  obtain ⟨nm, qq, N, bs, bm, sn, sub, ab, col, dd, k0, k1, k2, k3, k5, lC, hbm⟩ := T.o.cls
  obtain ⟨fI, cda, cc, oc, cl, ccl, od, cld, cdd, osl, csl, ccs, vs, file, tf, kV, doc, pm, ct, an, lf, hcd, lc, hvs, hfile, lcc, hi, ti⟩ := T.fx
  have up : ∀ b o, hp.get? b = some o → ((hp.push (kdv_tup [u])).push (HandSPX.excO C hp.objs.size)).get? b = some o := fun b o z => Heap.get?_push_of_some _ (Heap.get?_push_of_some _ z)
  have at_ : ((hp.push (kdv_tup [u])).push (HandSPX.excO C hp.objs.size)).get? (hp.objs.size + 1) = some (HandSPX.excO C hp.objs.size) := by heap_get
  have KX := I.kIn
  refine HandSPX.call_own F.excBase_ValueError (fun Y => HandSPX.refsVE_contains Y bm hbm) (KX _ _ lC) (looks_findIn KX hi) (fun self => bind_fn KX self ti) (by rw [sizeLine_eq]; show 1 ≤ _; omega) ?_
  refine ini_raw (base := X.base) (mg := X.mg) T Z I.ok.mod (fun b o z => up b o (I.bk b o z)) ms ?_ at_ ?_ fI hi (fun h' dx t1 tk' k dn dne ha hn => ?_)
  · have := (room.make C [u] []).dp
    omega
  · cases z : X.base.get? (hp.objs.size + 1) with
    | none => rfl
    | some o => exact absurd (Heap.lt_size (I.bk _ _ z)) (by show ¬ (hp.objs.size + 1 < hp.objs.size); omega)
  · have sz : hp.objs.size ≤ ((hp.push (kdv_tup [u])).push (HandSPX.excO C hp.objs.size)).objs.size := by rw [Heap.size_push, Heap.size_push]; omega
    exact ⟨rfl, h h' _ dx t1 tk' (fun b o z => k b o (Nat.ne_of_lt (Nat.lt_succ_of_lt (Heap.lt_size z))) (up b o z)) (Nat.le_succ _) (Nat.le_trans sz dn) dne ha hn⟩
end
section
open PySem.W
variable {X : Cx} {C : Addr} {q f v m x : Str} {st : Stmt} {p pos : Pos} {e : Expr} {ta : TA}
theorem relO_one {f : Str} {y : V} {u : Value} (ry : RelV y u) (g : Str) : RelO ([(f, y)].lookup g) (if g = f then some u else none) := relO_put (fs := []) (mA := fun _ => none) ry (fun _ => True.intro) g
/-- what making an error leaves: it and its dict are new -/
theorem make_end {pins : List (Addr × Obj)} {σ : L2.St} {H1 : Hp} {hp h' : Heap} {g : Array GenState} {d : Drawn} {tk tk' : Nat} {os : OsState} {a dx : Addr} {y : V} {u : Value} (I : Inv X pins σ H1 ⟨hp, g, d, tk, os⟩) (k : ∀ b o, hp.get? b = some o → h'.get? b = some o)
    (an : hp.objs.size ≤ a) (dn : hp.objs.size ≤ dx) (dne : dx ≠ a) (hn : h'.Ns1 dx (fun z => if z = f then some u else none)) (ry : RelV y u) :
    ∃ G : Heap, (∀ b o, G.get? b = some o → h'.get? b = some o) ∧ G.get? a = none ∧ (∀ b, b ≠ a → G.get? b = h'.get? b) ∧ Inv X pins σ (upd H1 dx (.xd [(f, y)])) ⟨G, g, d, tk', os⟩ := by
  obtain ⟨G, g1, g2⟩ := restrict h' fun b => decide (b ≠ a)
  have gk : ∀ b, b ≠ a → G.get? b = h'.get? b := fun b hb => g1 b (decide_eq_true hb)
  have ga : G.get? a = none := g2 a (by simp)
  refine ⟨G, fun b o z => ?_, ga, gk, ?_⟩
  · by_cases hb : b = a
    · rw [hb, ga] at z; cases z
    · exact (gk b hb).symm.trans z
  · refine I.laidN (t' := tk') (fun b o z => ?_) ?_ (I.hok.fresh dn) ⟨_, hn.at fun o z => (gk dx dne).trans z, relO_one ry⟩
    · rw [gk b (Nat.ne_of_lt (Nat.lt_of_lt_of_le (Heap.lt_size z) an))]
      exact k b o z
    · exact PyProof.Rows.new_of_ge dn
/-- C(e), for raise -/
theorem pmk_ini (T : IniC X.prog X.K C q st f) (Z : IniT st f v m) (ms : X.mg "super" = none) (room : Room 1 X.A) (gC : X.mg x = some (.ref C)) (hg : Gl X x) (ha : PA X [e] ta)
    (hdb : (x == ("__debug__" : Str)) = false := by decide) (hst : starEach [e] X.env = (false, eval e X.env) :: starEach [] X.env := by rfl) (hpl : (backTo pos (starEach [] X.env)).any (·.1) = false := by rfl) :
    L2N.PMk X (.Call (.Name x p) [e] [] pos) (fun σ H Q => ta σ H fun vs H1 => ∃ y, vs = [y] ∧ ∀ dx, H1 dx = none → Q (.ref C) (some dx) (upd H1 dx (.xd [(f, y)]))) := by
  intro pins s σ H Q I h
  refine wpAny_Call_Name_kw (ld_glob I hg gC ?_ hdb)
  refine callWith_K (h₀ := X.base) I.ok.mod.kin T.o.kC (thn (ha.run pos pins s σ H _ I h) fun us s1 hh => ?_) hst hpl
  obtain ⟨vs, H1, I1, r1, y, rfl, hq⟩ := hh
  obtain ⟨u, rfl, ry⟩ : ∃ u, us = [u] ∧ RelV y u := by
    cases r1 with
    | cons r rr => cases rr; exact ⟨_, rfl, r⟩
  refine ⟨I1.kIn, ?_⟩
  show wpAny _ _ (call (.ref C) [u]) _ _ _
  obtain ⟨hp, g, d, tk, os⟩ := s1
  refine wpAny_call (make_ini I1 T Z ms room fun h' a dx t1 tk' k an dn dne he hn => ?_)
  obtain ⟨G, gs, ga, gk, J⟩ := make_end (tk' := tk') I1 k an dn dne hn ry
  have na : upd H1 dx (.xd [(f, y)]) a = none := by rw [upd_ne (Ne.symm dne)]; exact I1.hok.fresh an
  exact ⟨a, _, _, ⟨G, g, d, tk', os⟩, _, .ref C, some dx, rfl, J, gs, ga, he, ⟨rfl, rfl, fun vs z => by cases z; rfl⟩, rfl, rfl, na, rfl, I1.bare, raises_own T.o.exC T.o.tyC, hq dx (I1.hok.fresh dn)⟩
/-- C(e), as a value -/
theorem pe_ini (T : IniC X.prog X.K C q st f) (Z : IniT st f v m) (ms : X.mg "super" = none) (room : Room 1 X.A) (gC : X.mg x = some (.ref C)) (hg : Gl X x) (ha : PA X [e] ta)
    (hdb : (x == ("__debug__" : Str)) = false := by decide) (hst : starEach [e] X.env = (false, eval e X.env) :: starEach [] X.env := by rfl) (hpl : (backTo pos (starEach [] X.env)).any (·.1) = false := by rfl) :
    PE X (.Call (.Name x p) [e] [] pos) (fun σ H Q => ta σ H fun vs H1 => ∃ y, vs = [y] ∧ ∀ a dx, H1 dx = none → H1 a = none → dx ≠ a → Q (.ref a) (upd (upd H1 dx (.xd [(f, y)])) a (ErO (.ref C) (some dx) a))) := by
  refine ⟨fun pins s σ H Q I h => wpAny_Call_Name_kw (ld_glob I hg gC (callWith_K (h₀ := X.base) I.ok.mod.kin T.o.kC (thn (ha.run pos pins s σ H _ I h) fun us s1 hh => ?_) hst hpl) hdb)⟩
  obtain ⟨vs, H1, I1, r1, y, rfl, hq⟩ := hh
  obtain ⟨u, rfl, ry⟩ : ∃ u, us = [u] ∧ RelV y u := by
    cases r1 with
    | cons r rr => cases rr; exact ⟨_, rfl, r⟩
  refine ⟨I1.kIn, ?_⟩
  show wpAny _ _ (call (.ref C) [u]) _ _ _
  obtain ⟨hp, g, d, tk, os⟩ := s1
  refine wpAny_call (make_ini I1 T Z ms room fun h' a dx t1 tk' k an dn dne he hn => ?_)
  obtain ⟨G, gs, ga, gk, J⟩ := make_end (tk' := tk') I1 k an dn dne hn ry
  have na : upd H1 dx (.xd [(f, y)]) a = none := by rw [upd_ne (Ne.symm dne)]; exact I1.hok.fresh an
  have J2 := J.laidN (t' := tk') (a := a) (o := ErO (.ref C) (some dx) a) gs ga na (erO_mk he ⟨rfl, rfl⟩ rfl)
  exact ⟨.ref a, _, J2, rfl, hq a dx (I1.hok.fresh dn) (I1.hok.fresh an) dne⟩
/-- raise C(e) -/
theorem ps_raiseI {W : WX} {p' : Pos} (T : IniC X.prog X.K C q st f) (Z : IniT st f v m) (ms : X.mg "super" = none) (room : Room 1 X.A) (gC : X.mg x = some (.ref C)) (hc : X.calm = true) (tk : L2N.Takes X W) (hg : Gl X x) (ha : PA X [e] ta)
    (hdb : (x == ("__debug__" : Str)) = false := by decide) (hst : starEach [e] X.env = (false, eval e X.env) :: starEach [] X.env := by rfl) (hpl : (backTo pos (starEach [] X.env)).any (·.1) = false := by rfl) :
    PS X (.Raise (some (.Call (.Name x p) [e] [] pos)) none p') (fun _ σ H => ta σ H fun vs H1 => ∃ y, vs = [y] ∧ ∀ dx, H1 dx = none → W (.ref C) (some dx) σ (upd H1 dx (.xd [(f, y)]))) :=
  L2N.ps_raise hc tk (pmk_ini T Z ms room gC hg ha hdb hst hpl)
/-- raise C('..'), C without own __init__ -/
theorem ps_raiseN {W : WX} {j : Nat} {p2 p' : Pos} {msg : Str} (E : Err X.K X.mg x C) (hc : X.calm = true) (tk : L2N.Takes X W) (hg : Gl X x) (hdb : (x == ("__debug__" : Str)) = false := by decide) :
    PS X (.Raise (some (.Call (.Name x p) [.Constant (.str msg) j p2] [] pos)) none p') (fun _ σ H => W (.ref C) none σ H) :=
  L2N.ps_raise hc tk (L2N.pmk_own PySem.F.excBase_ValueError E.q E.g E.k (raises_own E.e E.t) hg hdb)
end
section
variable {P : Program} {w : World} {K : PySem.W.Frag} {mg : Str → Option Value} {base : Heap}
/-- THE RULE for a def that may raise errors whose context is None -/
theorem Has.ofN {x : Str} {st : Stmt} {N ps : List Str} {k : Nat} {sp : Sp} (at_ : At K mg x st) (S : FnScope N ps (defScope st)) (len : ∀ vs H Q E, sp vs H Q E → vs.length = ps.length)
    (bd : ∀ (kV doc pm : Value) (an : Option Addr) (cdv ct : Value) (us : List Value), us.length = ps.length → bindArgs (PySem.W.fnOf x x (defArgs st) (defBody st) (defScope st) .none kV doc pm an cdv ct) ⟨us, []⟩ = pure (ps.zip us))
    (walk : ∀ (f : Addr) (cdv : Value) (A : Around) (outer : List Env) (s : Shared) (H : Hp) (vs : List V) (Q : VK) (E : XK), Room k (A.deeper (envOfC x (defScope st) s.heap.objs.size f cdv)) → Quiet (A.deeper (envOfC x (defScope st) s.heap.objs.size f cdv)) → sp vs H Q E →
      ∃ t, PSs (cxOf (L2N.CX P w) P w K mg base N x (defScope st) f cdv A outer s H E) (defBody st) t ∧ t { nx := fun _ H' => Q .non H', rt := Q } (start N vs) H) :
    Has P w K mg base (L2N.CX P w) (k + 1) x st ps sp := by
  obtain ⟨f, fd, F, m⟩ := at_
  exact ⟨f, fd, F, m, FnG.of F S len (walk f), F.binds bd⟩
/-- the function at the address f keeps the promise sp -/
def FnV (P : Program) (w : World) (K : PySem.W.Frag) (mg : Str → Option Value) (base : Heap) (CX : CXT) (k : Nat) (f : Addr) (n : Nat) (sp : Sp) : Prop :=
  ∃ x st fd ps, Fun K x x st f fd ∧ FnG P w K mg base CX k f fd ps sp ∧ L2.Binds K fd ps [] ∧ ps.length = n
theorem Has.v {CX : CXT} {k n : Nat} {x : Str} {st : Stmt} {ps : List Str} {sp : Sp} (h : Has P w K mg base CX k x st ps sp) (hn : ps.length = n := by rfl) : ∃ f, mg x = some (.ref f) ∧ FnV P w K mg base CX k f n sp := by
  obtain ⟨f, fd, F, m, G, b⟩ := h
  exact ⟨f, m, x, st, fd, ps, F, G, b, hn⟩
end
section
variable {X : Cx} {CX : CXT} {E : L2.St → XK} {k : Nat} {fe e : Expr} {es : List Expr} {tf : TE} {t : TA} {pos : Pos}
def tCallV (P : Program) (w : World) (K : PySem.W.Frag) (mg : Str → Option Value) (base : Heap) (CX : CXT) (k : Nat) (E : L2.St → XK) (tf : TE) (t : TA) : TE := fun σ H Q => tf σ H fun z H1 => ∃ f n sp, z = .ref f ∧ FnV P w K mg base CX k f n sp ∧ t σ H1 fun vs H2 => sp vs H2 Q (E σ)
/-- fe(e, ..), fe any expression that gives a function -/
theorem pe_callV (room : Room k X.A) (qt : Quiet X.A) (hf : PE X fe tf) (hx : ∀ σ, PassesAt CX X σ (E σ)) (ha : PA X (e :: es) t)
    (ht : eval (.Call fe (e :: es) [] pos) X.env = (do callWith pos (← eval fe X.env) [] (backTo pos (starEach (e :: es) X.env)) (backToKw pos (keywordEach [] X.env))) := by rfl)
    (hst : starEach (e :: es) X.env = (false, eval e X.env) :: starEach es X.env := by rfl) (hpl : (backTo pos (starEach es X.env)).any (·.1) = false := by rfl) :
    PE X (.Call fe (e :: es) [] pos) (tCallV X.prog X.w X.K X.mg X.base CX k E tf t) := by
  refine ⟨fun pins s σ H Q I h => Call_ (thn (hf.run pins s σ H _ I h) fun u s1 ⟨z, H1, I1, rz, f, n, sp, ez, ⟨x, st, fd, ps, F, G, b, hn⟩, q⟩ => ?_) ht⟩
  subst ez
  obtain rfl : u = Value.ref f := rz
  refine PySem.W.callWith_K (h₀ := X.base) I1.ok.mod.kin F.kp (thn (ha.run pos pins s1 σ H1 _ I1 q) fun us s2 ⟨vs, H2, I2, r, q2⟩ => ⟨I2.kIn, ?_⟩) hst hpl
  exact goS G room qt b (hx σ) I2 r q2
end
end SH

/-! SH20: what is known of the classes of errors. -/
namespace SH
open PySem PySem.Spec PyProof.Rows L2
/-- is an error of the class at C an instance of each of these -/
def Kits (K : PySem.W.Frag) (C : Addr) : List (Value × Bool) → Prop
  | [] => True
  | (c, b) :: r => PySem.W.kitOne K (.ref C) c = some b ∧ Kits K C r
structure ErK (K : PySem.W.Frag) (C : Addr) (l : List (Value × Bool)) : Prop where
  ex : ExcC K C
  kit : Kits K C l
theorem kitAny_no {K : PySem.W.Frag} {t : Value} : ∀ {cs : List Value}, (∀ c ∈ cs, PySem.W.kitOne K t c = some false) → PySem.W.kitAny K t cs = some false
  | [], _ => rfl
  | c :: cs, h => kitAny_cons (h c List.mem_cons_self) (fun _ => kitAny_no fun d hd => h d (List.mem_cons_of_mem _ hd)) (fun z => nomatch z)
/-- a value that is any, at a heap that keeps what was -/
def RetAny (Q : VK) (H : Hp) : Prop := ∀ v H', Same H H' → Q v H'
/-- an error of the class at C without a dict -/
def Rai (E : XK) (H : Hp) (C : Addr) : Prop := ∀ H', Same H H' → E (.ref C) none H'
/-! ### xs.count(y), flat items -/
def rCountF (K : PySem.W.Frag) : V → List V → Hp → VK → Prop := fun x xs H Q => ∃ (a : Addr) (ys : List V) (y : V), x = V.ref a ∧ xs = [y] ∧ SqL K H a ys ∧ flatV y = true ∧ ys.all flatV = true ∧ Q (.int (ys.countP (fun z => eqV z y) : Nat)) H
theorem count_vals {y : V} {ys : List V} {us : List Value} (r : Vals ys us) : ys.all flatV = true → us.countP (eqU y) = ys.countP (fun z => eqV z y) := by
  induction r with
  | nil => intro _; rfl
  | cons ra rt ih =>
    intro f
    rw [List.all_cons, Bool.and_eq_true] at f
    rw [List.countP_cons, List.countP_cons, ih f.2, eqU_of ra f.1]
theorem mt_countF {X : Cx} : MtR X "list.count" (rCountF X.K) := by
  intro pins s σ H x xs v us Q I rx rxs h
  obtain ⟨a, ys, y, rfl, rfl, hs, fy, fys, q⟩ := h
  cases rx
  obtain ⟨u, rfl, ru⟩ := rxs.one
  obtain ⟨its, rv, ⟨⟨cls, dd, data, sl⟩, n, ho, hc, hdn, hd⟩, hlen⟩ := I.list hs
  simp only at hc hd
  subst hc hd
  refine call_meets PySem.F.slot_list_count ⟨_, ho, rfl⟩ PySem.F.entry_list_count (PySem.F.args_list_count_2 _ _) (SeqAt.list_countAt a its.toArray n dd sl u (eqU y)) ⟨ho, fun w hw => mem_eqAt ru fy rv fys w (by simpa using hw), ?_⟩
  refine ⟨.int (ys.countP (fun z => eqV z y) : Nat), H, I.tok _, ⟨s.toks, ?_⟩, q⟩
  have e : its.toArray.toList.countP (eqU y) = ys.countP (fun z => eqV z y) := count_vals rv fys
  rw [e]
theorem hot_room {j k : Nat} {A : Around} {e : Option Value} (r : Room k A) (h : j ≤ k) : L2H.RoomH j (A.mark e) := ⟨(r.mono h).dp, (r.mono h).un⟩
/-- a statement whose ends are told once -/
theorem seq_cut {t u : TS} {D : Ends} {σ : L2.St} {H : Hp} (Inv : L2.St → Hp → Prop) (hu : ∀ τ G, Inv τ G → u D τ G) (ht : (∀ τ G, Inv τ G → u D τ G) → t { D with nx := u D } σ H) : tSeq t u D σ H := ht hu
/-! ### lists of texts -/
def okT (x : Str) : Bool := PyData.canLay0 (.str x)
abbrev tv (ss : List Str) : List V := ss.map V.str
def dT (ss : List Str) : PyData := .list (ss.map PyData.str)
theorem eqv_strs : ∀ ss ts : List Str, PyData.eqvAll (ss.map PyData.str) (ts.map PyData.str) = decide (ss = ts)
  | [], [] => rfl
  | [], _ :: _ => rfl
  | _ :: _, [] => rfl
  | n :: r, m :: q => by
    show ((n == m) && PyData.eqvAll (r.map PyData.str) (q.map PyData.str)) = _
    rw [eqv_strs r q, Bool.eq_iff_iff]
    simp
theorem depth_strs : ∀ ss : List Str, PyData.depthAll (ss.map PyData.str) = 0
  | [] => rfl
  | n :: r => by show max 0 (PyData.depthAll (r.map PyData.str)) = 0; rw [depth_strs r]; rfl
theorem shaped_dT (ss : List Str) (ok : ss.all okT = true) : SeqAt.shaped (dT ss) = true := by
  have c : ∀ ms : List Str, ms.all okT = true → PyData.canLayAll0 (ms.map PyData.str) = true := fun ms => by
    induction ms with
    | nil => intro _; rfl
    | cons n r ih =>
      intro h
      rw [List.all_cons, Bool.and_eq_true] at h
      show (okT n && PyData.canLayAll0 (r.map PyData.str)) = true
      rw [h.1, ih h.2]; rfl
  unfold SeqAt.shaped
  have d : (dT ss).depth = 1 := by show PyData.depthAll (ss.map PyData.str) + 1 = 1; rw [depth_strs]
  rw [d]
  show (PyData.canLayAll0 (ss.map PyData.str) && decide (1 ≤ 64)) = true
  rw [c ss ok]
  rfl
theorem dp_strs {K : PySem.W.Frag} {H : Hp} : ∀ ss : List Str, DpAll K H (tv ss) (ss.map PyData.str)
  | [] => .nil
  | n :: r => .cons (.str n) (dp_strs r)
theorem neD_strs {K : PySem.W.Frag} {H : Hp} {a b : Addr} {ss ts : List Str} {Q : VK} (ha : SqL K H a (tv ss)) (hb : SqL K H b (tv ts)) (o1 : ss.all okT = true) (o2 : ts.all okT = true) (q : Q (.bl (!decide (ss = ts))) H) : rNeD K (.ref a) (.ref b) H Q :=
  ⟨dT ss, dT ts, .lst ha (dp_strs ss), .lst hb (dp_strs ts), shaped_dT ss o1, shaped_dT ts o2, by rw [show PyData.eqv (dT ss) (dT ts) = decide (ss = ts) from eqv_strs ss ts]; exact q⟩
theorem eqD_strs {K : PySem.W.Frag} {H : Hp} {a b : Addr} {ss ts : List Str} {Q : VK} (ha : SqL K H a (tv ss)) (hb : SqL K H b (tv ts)) (o1 : ss.all okT = true) (o2 : ts.all okT = true) (q : Q (.bl (decide (ss = ts))) H) : rEqD K (.ref a) (.ref b) H Q :=
  ⟨dT ss, dT ts, .lst ha (dp_strs ss), .lst hb (dp_strs ts), shaped_dT ss o1, shaped_dT ts o2, by rw [show PyData.eqv (dT ss) (dT ts) = decide (ss = ts) from eqv_strs ss ts]; exact q⟩
/-! ### a class's __init__ -/
def clsBody (s : Stmt) : List Stmt := match s with
  | .ClassDef _ _ _ b _ _ _ _ _ _ _ => b
  | _ => []
def iniOf (s : Stmt) (i : Nat) : Stmt := (clsBody s).getD i (.Pass ⟨0, 0, 0, 0⟩)
/-- an error of the class at C with a dict that holds v at f -/
def RaiF (E : XK) (H : Hp) (C : Addr) (f : Str) (v : V) : Prop := ∀ dx H', Same H H' → H' dx = some (.xd [(f, v)]) → H dx = none → E (.ref C) (some dx) H'
section
variable {K : PySem.W.Frag} {t c1 c2 c3 c4 c5 : Value}
theorem kitAny_no2 (h1 : PySem.W.kitOne K t c1 = some false) (h2 : PySem.W.kitOne K t c2 = some false) : PySem.W.kitAny K t [c1, c2] = some false :=
  kitAny_cons h1 (fun _ => kitAny_cons h2 (fun _ => rfl) (fun z => nomatch z)) (fun z => nomatch z)
theorem kitAny_no3 (h1 : PySem.W.kitOne K t c1 = some false) (h2 : PySem.W.kitOne K t c2 = some false) (h3 : PySem.W.kitOne K t c3 = some false) : PySem.W.kitAny K t [c1, c2, c3] = some false :=
  kitAny_cons h1 (fun _ => kitAny_no2 h2 h3) (fun z => nomatch z)
theorem kitAny_no4 (h1 : PySem.W.kitOne K t c1 = some false) (h2 : PySem.W.kitOne K t c2 = some false) (h3 : PySem.W.kitOne K t c3 = some false) (h4 : PySem.W.kitOne K t c4 = some false) : PySem.W.kitAny K t [c1, c2, c3, c4] = some false :=
  kitAny_cons h1 (fun _ => kitAny_no3 h2 h3 h4) (fun z => nomatch z)
theorem kitAny_no5 (h1 : PySem.W.kitOne K t c1 = some false) (h2 : PySem.W.kitOne K t c2 = some false) (h3 : PySem.W.kitOne K t c3 = some false) (h4 : PySem.W.kitOne K t c4 = some false) (h5 : PySem.W.kitOne K t c5 = some false) : PySem.W.kitAny K t [c1, c2, c3, c4, c5] = some false :=
  kitAny_cons h1 (fun _ => kitAny_no4 h2 h3 h4 h5) (fun z => nomatch z)
end
theorem own2 (a b : Addr) : Paired ClsV [.ref a, .ref b] [.ref a, .ref b] := .cons (.own _) (.cons (.own _) .nil)
theorem own3 (a b c : Addr) : Paired ClsV [.ref a, .ref b, .ref c] [.ref a, .ref b, .ref c] := .cons (.own _) (own2 _ _)
theorem own4 (a b c d : Addr) : Paired ClsV [.ref a, .ref b, .ref c, .ref d] [.ref a, .ref b, .ref c, .ref d] := .cons (.own _) (own3 _ _ _)
theorem own5 (a b c d e : Addr) : Paired ClsV [.ref a, .ref b, .ref c, .ref d, .ref e] [.ref a, .ref b, .ref c, .ref d, .ref e] := .cons (.own _) (own4 _ _ _ _)
end SH

/-! SH21: repr of values of any kind; only the dicts in them need stand apart from the module table, and they do. -/
namespace SH
open PySem PySem.Spec PyProof.Rows L2
section
variable {X : Cx} {pins : List (Addr × Obj)} {σ : L2.St} {H : Hp} {s : Shared}
abbrev Rk (X : Cx) (s : Shared) (u : Value) (d : PyData) : Prop := ∃ bs, ReadAtMost s.heap d.depth bs ∧ ReprK X.prog X.w bs s.heap d.depth u d.shown
abbrev RkA (X : Cx) (s : Shared) (us : List Value) (ds : List PyData) : Prop := ∃ bs, ReadAtMost s.heap (PyData.depthAll ds) bs ∧ ReprAllK X.prog X.w bs s.heap (PyData.depthAll ds) us (PyData.shownAll ds)
theorem list_rk {a : Addr} {o : Obj} {its : List Value} {n : Nat} {ds : List PyData} {as : List Addr} (e : s.heap.get? a = some o) (c : o.cls = .type "list") (dt : o.data = .seq its.toArray n) (hr : ReadsAll s.heap its ds as) (k : RkA X s its ds) : Rk X s (.ref a) (.list ds) := by
  obtain ⟨bs, hb, hk⟩ := k
  have r : Reads s.heap (.ref a) (.list ds) (a :: as) := .list e c dt hr
  have ap : a ∉ bs := not_mem_of_deeper r (by simp only [PyData.depth]; omega) hb
  refine ⟨a :: bs, ReadAtMost.cons r (by simp only [PyData.depth]; omega) hb, ?_⟩
  simp only [PyData.depth, PyData.shown]
  cases its with
  | nil =>
    cases hr
    simp only [PyData.shownAll, listText_nil]
    exact ReprK.listEmpty e c dt
  | cons x l => exact ReprK.list e c dt ap (by simpa using hk.length_eq) fun i y q => hk.item i y (by simpa using q)
theorem tup_rk {a : Addr} {o : Obj} {its : List Value} {n : Nat} {ds : List PyData} {as : List Addr} (e : s.heap.get? a = some o) (c : o.cls = .type "tuple") (dt : o.data = .seq its.toArray n) (hr : ReadsAll s.heap its ds as) (k : RkA X s its ds) : Rk X s (.ref a) (.tuple ds) := by
  obtain ⟨bs, hb, hk⟩ := k
  have r : Reads s.heap (.ref a) (.tuple ds) as := .tuple e c dt hr
  have ap : a ∉ bs := not_mem_of_deeper r (by simp only [PyData.depth]; omega) hb
  refine ⟨a :: bs, ReadAtMost.cons r (by simp only [PyData.depth]; omega) hb, ?_⟩
  simp only [PyData.depth, PyData.shown]
  exact ReprK.tuple e c dt ap hk
theorem cons_rk {u : Value} {us : List Value} {d : PyData} {ds : List PyData} (h1 : Rk X s u d) (h2 : RkA X s us ds) : RkA X s (u :: us) (d :: ds) := by
  obtain ⟨b1, m1, k1⟩ := h1
  obtain ⟨b2, m2, k2⟩ := h2
  refine ⟨b1 ++ b2, fun b hm => ?_, ?_⟩
  · show ∃ d' as', Reads s.heap (.ref b) d' as' ∧ d'.depth ≤ max d.depth (PyData.depthAll ds)
    rcases List.mem_append.mp hm with z | z
    · obtain ⟨d', as', r, q⟩ := m1 b z
      exact ⟨d', as', r, by omega⟩
    · obtain ⟨d', as', r, q⟩ := m2 b z
      exact ⟨d', as', r, by omega⟩
  · simp only [PyData.depthAll, PyData.shownAll]
    exact .cons ((k1.more fun b hb => List.mem_append_left _ hb).level_le (Nat.le_max_left _ _)) (k2.more_le (fun b hb => List.mem_append_right _ hb) (Nat.le_max_right _ _))
theorem of_rk {u : Value} {d : PyData} {as : List Addr} (r : Reads s.heap u d as) (hs : d.showable = true) (hz : d.shown.length ≤ sizeLine) (hd : d.hasDict = true → sysModules ∉ as) : Rk X s u d := ReprK.of_reads r hs hd hz
mutual
theorem Dx.rk (I : Inv X pins σ H s) : ∀ (d : PyData) (v : V) (u : Value) (as : List Addr), Dx H v d as → RelV v u → d.showable = true → d.shown.length ≤ sizeLine → Rk X s u d
  | .none, _, _, _, h, r, hs, hz => by obtain ⟨bs, q, _⟩ := Dx.reads I _ _ _ _ h r; exact of_rk q hs hz fun z => nomatch z
  | .bool b, _, _, _, h, r, hs, hz => by obtain ⟨bs, q, _⟩ := Dx.reads I _ _ _ _ h r; exact of_rk q hs hz fun z => nomatch z
  | .int i, _, _, _, h, r, hs, hz => by obtain ⟨bs, q, _⟩ := Dx.reads I _ _ _ _ h r; exact of_rk q hs hz fun z => nomatch z
  | .str x, _, _, _, h, r, hs, hz => by obtain ⟨bs, q, _⟩ := Dx.reads I _ _ _ _ h r; exact of_rk q hs hz fun z => nomatch z
  | .dict _, _, _, _, h, r, hs, hz => by
    obtain ⟨bs, q, sub⟩ := Dx.reads I _ _ _ _ h r
    cases h with
    | emp e =>
      obtain ⟨_, nm, _⟩ := dk_of I.hok e
      refine of_rk q hs hz fun _ z => ?_
      have := List.mem_singleton.mp (sub _ z)
      rw [← this] at nm
      simp at nm
  | .list ds, _, _, _, h, r, hs, hz => by
    cases h with
    | lst e ha =>
      cases r
      obtain ⟨its, rv, ⟨o, n, ho, hc, _, hd⟩, _⟩ := I.list (SqL.of e)
      obtain ⟨bs, hr, _⟩ := Dx.readsAll I ds _ its _ ha rv
      exact list_rk ho hc hd hr (Dx.rkAll I ds _ its _ ha rv (by simpa [PyData.showable] using hs) fun t ht => Nat.le_trans (listText_mem_le ht) (by simpa only [PyData.shown] using hz))
  | .tuple ds, _, _, _, h, r, hs, hz => by
    cases h with
    | tup e ha =>
      cases r
      obtain ⟨its, rv, ⟨o, ho, hc, n, hd⟩, _⟩ := I.tuple (SqT.of e)
      obtain ⟨bs, hr, _⟩ := Dx.readsAll I ds _ its _ ha rv
      exact tup_rk ho hc hd hr (Dx.rkAll I ds _ its _ ha rv (by simpa [PyData.showable] using hs) fun t ht => Nat.le_trans (tupleText_mem_le ht) (by simpa only [PyData.shown] using hz))
theorem Dx.rkAll (I : Inv X pins σ H s) : ∀ (ds : List PyData) (vs : List V) (us : List Value) (as : List Addr), DxAll H vs ds as → Vals vs us → PyData.showableAll ds = true → (∀ t ∈ PyData.shownAll ds, t.length ≤ sizeLine) → RkA X s us ds
  | [], _, _, _, h, r, _, _ => by
    cases h
    cases r
    exact ⟨[], (fun b z => absurd z List.not_mem_nil), .nil⟩
  | d :: ds, _, _, _, h, r, hs, hz => by
    cases h with
    | cons h1 h2 =>
      cases r with
      | cons r1 r2 =>
        have hs' : d.showable = true ∧ PyData.showableAll ds = true := by simpa [PyData.showableAll] using hs
        exact cons_rk (Dx.rk I d _ _ _ h1 r1 hs'.1 (hz _ (by simp only [PyData.shownAll]; exact List.mem_cons_self))) (Dx.rkAll I ds _ _ _ h2 r2 hs'.2 fun t ht => hz t (by simp only [PyData.shownAll]; exact List.mem_cons_of_mem _ ht))
end
end
/-- repr(x), x of any kind -/
def rReprY : List V → Hp → VK → Prop := fun xs H Q => ∃ (x : V) (d : PyData) (as : List Addr), xs = [x] ∧ Dx H x d as ∧ Fits 50 16000000 d ∧ Q (.str d.shown) H
theorem call_reprY {X : Cx} (qt : Quiet X.A) (hu : X.A.units + 64 < cLine) : CallR X (.builtin "repr") rReprY := by
  intro pins s σ H xs us Q I r h
  obtain ⟨x, d, as, rfl, hd, fd, q⟩ := h
  have hz : d.shown.length ≤ sizeLine := Nat.le_trans fd.2.2 (by decide)
  obtain ⟨u, eu, rx⟩ := vals1 r
  have fin : ∀ h' (v : Tok) tk, (∀ b o, s.heap.get? b = some o → h'.get? b = some o) → EP X pins σ Q (.str d.shown v) { s with heap := h', toks := tk } := fun h' v tk k => ⟨.str d.shown, H, I.kept k, ⟨v, rfl⟩, q⟩
  have depth := fd.2.1
  cases d with
  | list ds =>
    cases hd with
    | lst e ha =>
      cases rx
      subst eu
      obtain ⟨its, rv, ⟨o, n, ho, hc, _, hdt⟩, _⟩ := I.list (SqL.of e)
      obtain ⟨bs, hr, _⟩ := Dx.readsAll I ds _ its _ ha rv
      have hz' : (listText (PyData.shownAll ds)).length ≤ sizeLine := by simpa only [PyData.shown] using hz
      obtain ⟨cs, hb, hk⟩ := Dx.rkAll I ds _ its _ ha rv (by simpa [PyData.showable] using fd.1) fun t ht => Nat.le_trans (listText_mem_le ht) hz'
      have rd : Reads s.heap (.ref _) (.list ds) _ := .list ho hc hdt hr
      have ap : _ ∉ cs := not_mem_of_deeper rd (by simp only [PyData.depth]; omega) hb
      simp only [PyData.depth] at depth
      refine call_repr_slot (by omega) ⟨o, ho, hc⟩ F.slot_list_repr.toG ?_
      cases its with
      | nil =>
        cases hr
        refine call_list_repr_empty ⟨o, ho, hc⟩ ho hdt ⟨_, _, rfl, ?_⟩
        have := fin s.heap s.toks (s.toks + 1) fun _ _ z => z
        simp only [PyData.shown, PyData.shownAll, listText_nil] at this
        exact this
      | cons x l =>
        refine call_list_reprK ho hc hdt ap (by simpa using hk.length_eq) (fun i y z => hk.item i y (by simpa using z)) qt (fun b _ => Clear.nil b) (by show X.A.units + 1 + (PyData.depthAll ds + 1) < cLine; omega) (fun _ _ z => z) (fun h' v tk k => ⟨_, _, rfl, ?_⟩) hz'
        have := fin h' v tk k
        simp only [PyData.shown] at this
        exact this
  | tuple ds =>
    cases hd with
    | tup e ha =>
      cases rx
      subst eu
      obtain ⟨its, rv, ⟨o, ho, hc, n, hdt⟩, _⟩ := I.tuple (SqT.of e)
      obtain ⟨bs, hr, _⟩ := Dx.readsAll I ds _ its _ ha rv
      have hz' : (tupleText (PyData.shownAll ds)).length ≤ sizeLine := by simpa only [PyData.shown] using hz
      obtain ⟨cs, hb, hk⟩ := Dx.rkAll I ds _ its _ ha rv (by simpa [PyData.showable] using fd.1) fun t ht => Nat.le_trans (tupleText_mem_le ht) hz'
      have rd : Reads s.heap (.ref _) (.tuple ds) _ := .tuple ho hc hdt hr
      have ap : _ ∉ cs := not_mem_of_deeper rd (by simp only [PyData.depth]; omega) hb
      simp only [PyData.depth] at depth
      refine call_repr_slot (by omega) ⟨o, ho, hc⟩ F.slot_tuple_repr ?_
      refine call_tuple_reprK ho hc hdt ap hk qt (fun b _ => Clear.nil b) (by show X.A.units + 1 + (PyData.depthAll ds + 1) < cLine; omega) (fun _ _ z => z) (fun h' v tk k => ⟨_, _, rfl, ?_⟩) hz'
      have := fin h' v tk k
      simp only [PyData.shown] at this
      exact this
  | dict kvs =>
    refine call_reprX qt hu pins s σ H [x] us Q I r ⟨x, _, as, rfl, hd, fun _ z => ?_, fd, q⟩
    cases hd with
    | emp e =>
      obtain ⟨_, nm, _⟩ := dk_of I.hok e
      have := List.mem_singleton.mp z
      rw [← this] at nm
      simp at nm
  | _ => exact call_reprX qt hu pins s σ H [x] us Q I r ⟨x, _, as, rfl, hd, (fun z => nomatch z), fd, q⟩
end SH

set_option maxHeartbeats 2000000
/-! SH22: errors that are made as values: C(e) of a class without own __init__; C(f=e) of one whose __init__ is super().__init__('..'); self.f = f. -/
namespace SH
open PySem PySem.HandSPX
section
variable {prog : Program} {w : World} {A : Around} {E : Value → Shared → Prop} {R : Result → Shared → Prop} {h : Heap} {g : Array GenState} {d : Drawn} {t : Nat} {os : OsState}
variable {nm q : Str} {C N : Addr} {bs bm bmB : List Value} {hdct : Bool} {sn : List Str} {sub : List Value} {ab : Bool} {col : Option Bool} {dd : Option Addr} {k0 k1 k2 k3 k5 : Option Value} {B newId initId : String} {kw : List (Str × Value)}
theorem chk_newK {M : Model} (F : ExcBaseFacts B newId initId bmB) (hT : ∀ X : String, bm.contains (.type X) = bmB.contains (.type X)) {rest : List Value} {Q : Unit → Shared → Prop}
    (hC : h.get? C = some (excClassObj nm q C N bs bm hdct sn sub ab col dd k0 k1 k2 k3 k5 newId)) (hq : Q () ⟨h, g, d, t, os⟩) : wpAny M A (checkBuiltinCall newId ⟨.ref C :: rest, kw⟩) Q E ⟨h, g, d, t, os⟩ := by
  have hcont : (Value.ref C :: bm).contains (.type B) = true := by rw [List.contains_cons, hT, F.hasB, Bool.or_true]
  have hstar := F.noStar
  simp only [checkBuiltinCall, F.newKind, F.newSplit, F.newRow]
  repeat (first | refine wpAny_loadPart_at hC ?_ | (refine wpAny_isSubtype_exc hC ?_; rw [hcont]) | refine wpAny_staticBase_exc hC ?_ | refine wpAny_madeBy_exc hC ?_ | simp only [bne_self_eq_false, Bool.false_eq_true, if_false] | wp_step)
  exact hq
theorem newK (F : ExcBaseFacts B newId initId bmB) (hT : ∀ X : String, bm.contains (.type X) = bmB.contains (.type X)) {rest : List Value}
    (hC : h.get? C = some (excClassObj nm q C N bs bm hdct sn sub ab col dd k0 k1 k2 k3 k5 newId))
    (hq : R (.ok (.ret (.ref (h.objs.size + 1)))) ⟨(h.push { cls := .type "tuple", data := .seq rest.toArray }).push
      { cls := .ref C, data := .fields #[.ref h.objs.size, .none, .none, .none, .bool false, .none] }, g, d, t, os⟩) (hrest : rest.length ≤ sizeLine) :
    codeAny (model prog w) A (.builtin newId ⟨.ref C :: rest, kw⟩) R ⟨h, g, d, t, os⟩ := by
  have hends := F.ends
  have hcB : (Value.ref C :: bm).contains (.type B) = true := by rw [List.contains_cons, hT, F.hasB, Bool.or_true]
  have hcA : (Value.ref C :: bm).contains (.type "AttributeError") = false := by rw [List.contains_cons, hT, F.noAttr]; rfl
  have hcN : (Value.ref C :: bm).contains (.type "NameError") = false := by rw [List.contains_cons, hT, F.noName]; rfl
  refine codeAny_builtinAt F.entry ?_
  unfold Builtin.«BaseException.__new__»
  refine wpAt_bind ?_
  show wpAt _ _ _ (stack >>= _) _ _ _
  refine wpAt_bind (wpAt_stack fun p below => wpAt_of_wpAny ?_)
  wp_walk
  refine wpAt_of_wpAny ?_
  rw [F.owner]
  repeat (first | with_reducible refine wpAny_madeHere_exc F.canon hC ?_ | with_reducible refine wpAny_loadPart_at hC ?_ | (with_reducible refine wpAny_isSubtype_exc hC ?_; first | rw [hcB] | rw [hcA] | rw [hcN]) | wp_step)
  show R _ _
  rw [Heap.size_push]
  exact hq
theorem tcallK (F : ExcBaseFacts B newId initId bmB) (hT : ∀ X : String, bm.contains (.type X) = bmB.contains (.type X)) {rest : List Value} {fI : Addr} {Q : Fin → Shared → Prop}
    (hC : h.get? C = some (excClassObj nm q C N bs bm hdct sn sub ab col dd k0 k1 k2 k3 k5 newId))
    (hi : W.Looks (model prog w) h (typeLookup (.ref C) "__init__") (some (.ref fI))) (hb : ∀ self, W.Looks (model prog w) h (bindSpecial (.ref fI) self) (.ref fI, [self])) (hrest : rest.length ≤ sizeLine)
    (hq : codeAny (model prog w) A (.call (.ref fI) ⟨.ref (h.objs.size + 1) :: rest, kw⟩)
      (fun r s' => match r with | .ok (.ret v) => v = .none ∧ Q (.done (.ret (.ref (h.objs.size + 1)))) s' | .ok _ => False | .error e => E e s')
      ⟨(h.push (W.kdv_tup rest)).push (excO C h.objs.size), g, d, t, os⟩) :
    wpAny (model prog w) A (Builtin.«type.__call__» ⟨.ref C :: rest, kw⟩) Q E ⟨h, g, d, t, os⟩ := by
  repeat (first | with_reducible refine wpAny_loadPart_at hC ?_ | with_reducible refine wpAny_madeBy_exc hC ?_ | wp_step)
  refine codeAny_call_builtin_code (Code.quiet_builtin _ F.quiet) (chk_newK F hT hC ?_)
  refine newK F hT hC ?_ hrest
  show wpAny _ _ _ _ _ _
  have k : ∀ b o, h.get? b = some o → ((h.push (W.kdv_tup rest)).push (excO C h.objs.size)).get? b = some o := fun b o e => Heap.get?_push_of_some _ (Heap.get?_push_of_some _ e)
  have hC₁ := k _ _ hC
  have hget : ((h.push (W.kdv_tup rest)).push (excO C h.objs.size)).get? (h.objs.size + 1) = some (excO C h.objs.size) := by heap_get
  have hcC : (Value.ref C :: bm).contains (.ref C) = true := by simp
  have i1 := hi.keeps k
  have b1 := (hb (.ref (h.objs.size + 1))).keeps k
  unfold isInstance
  repeat (first | with_reducible refine wpAny_loadPart_at hget ?_ | (with_reducible refine wpAny_isSubtype_exc hC₁ ?_; rw [hcC]) | wp_step)
  show wpAny _ _ (typeLookup (.ref C) _) _ _ _
  refine i1.at ?_
  refine wpAny_holding (wpAny_bind (b1.at ?_))
  refine wpAny_bind (wpAny_call (codeAny_mono hq fun r s' z => ?_))
  rcases r with e | (v | _ | _ | _) <;> first | exact z | exact z.elim | skip
  obtain ⟨rfl, z⟩ := z
  first
    | exact wpAny_pure (wpAny_pure z)
    | (wp_walk; exact z)
theorem chk_tcallK {M : Model} {rest : List Value} {Q : Unit → Shared → Prop} (hC : h.get? C = some (excClassObj nm q C N bs bm hdct sn sub ab col dd k0 k1 k2 k3 k5 newId))
    (hq : Q () ⟨h, g, d, t, os⟩) : wpAny M A (checkBuiltinCall "type.__call__" ⟨.ref C :: rest, kw⟩) Q E ⟨h, g, d, t, os⟩ := by
  have f3 := tc_sub
  have hT : (⟨h, g, d, t, os⟩ : Shared).TypeIs (.ref C) "type" := ⟨_, hC, rfl⟩
  simp only [checkBuiltinCall, tc_kind, tc_split]
  repeat (any_goals (first | assumption | with_reducible refine wpAny_loadPart_at hC ?_ | with_reducible refine wpAny_onRaise ?_ | with_reducible refine wpAny_map ?_ | wp_step))
theorem call_ownK (F : ExcBaseFacts B newId initId bmB) (hT : ∀ X : String, bm.contains (.type X) = bmB.contains (.type X)) {rest : List Value} {fI : Addr}
    (hC : h.get? C = some (excClassObj nm q C N bs bm hdct sn sub ab col dd k0 k1 k2 k3 k5 newId))
    (hi : W.Looks (model prog w) h (typeLookup (.ref C) "__init__") (some (.ref fI))) (hb : ∀ self, W.Looks (model prog w) h (bindSpecial (.ref fI) self) (.ref fI, [self])) (hrest : rest.length ≤ sizeLine)
    (hq : codeAny (model prog w) (A.under (.builtin "type.__call__" ⟨.ref C :: rest, kw⟩)) (.call (.ref fI) ⟨.ref (h.objs.size + 1) :: rest, kw⟩) (W.InitBack (h.objs.size + 1) R)
      ⟨(h.push (W.kdv_tup rest)).push (excO C h.objs.size), g, d, t, os⟩) :
    codeAny (model prog w) A (.call (.ref C) ⟨rest, kw⟩) R ⟨h, g, d, t, os⟩ := by
  have f1 := tc_lookup
  have f2 := tc_bind (.ref C)
  have hTy : (⟨h, g, d, t, os⟩ : Shared).TypeIs (.ref C) "type" := ⟨_, hC, rfl⟩
  refine codeAny_of_tree ?_
  show wpAny _ _ (callAny (.ref C) _) _ _ _
  repeat (any_goals (first | assumption | with_reducible refine wpAny_loadPart_at hC ?_ | wp_step))
  refine ⟨rfl, ?_⟩
  refine codeAny_call_builtin_at (Code.quiet_builtin _ (by decide +kernel)) entry_typeCall (chk_tcallK hC (tcallK F hT hC hi hb hrest ?_))
  refine codeAny_mono hq fun r s' z => ?_
  rcases r with e | (v | _ | _ | _) <;> exact z
end
end SH
namespace SH
open PySem PySem.Spec PyProof.Rows L2
/-- the text of such an __init__, called by keyword -/
structure IniK (st : Stmt) (v : Str) : Prop where
  bd : ∀ (kV doc pm : Value) (an : Option Addr) (cd ct : Value) (q : Str) (cc : Addr) (x u : Value), bindArgs (PySem.W.ksFn "__init__" q (defArgs st) (defBody st) (defScope st) .none kV doc pm an cd ct cc) ⟨[x], [(v, u)]⟩ = pure ([(("self" : Str), x), (v, u)] : List (Str × Value))
section
open PySem.W
variable {X : Cx} {pins : List (Addr × Obj)} {σ : L2.St} {H1 : Hp} {C : Addr} {q f v m x : Str} {st : Stmt} {u : Value} {y : V} {p pos : Pos} {e : Expr} {ta : TA}
theorem make_iniK {R : Result → Shared → Prop} {hp : Heap} {g : Array GenState} {d : Drawn} {tk : Nat} {os : OsState} (I : Inv X pins σ H1 ⟨hp, g, d, tk, os⟩) (T : IniC X.prog X.K C q st f) (Z : IniT st f v m) (Zk : IniK st v) (ms : X.mg "super" = none) (room : Room 1 X.A)
    (h : ∀ h' a dx t1 tk', (∀ b o, hp.get? b = some o → h'.get? b = some o) → hp.objs.size ≤ a → hp.objs.size ≤ dx → dx ≠ a → h'.get? a = some ({ cls := .ref C, dict := some dx, data := .fields #[.ref t1, .none, .none, .none, .bool false, .none] } : Obj) →
      h'.Ns1 dx (fun z => if z = f then some u else none) → R (.ok (.ret (.ref a))) ⟨h', g, d, tk', os⟩) : codeAny (model X.prog X.w) X.A (.call (.ref C) ⟨[], [(v, u)]⟩) R ⟨hp, g, d, tk, os⟩ := by
  obtain ⟨nm, qq, N, bs, bm, sn, sub, ab, col, dd, k0, k1, k2, k3, k5, lC, hbm⟩ := T.o.cls
  obtain ⟨fI, cda, cc, oc, cl, ccl, od, cld, cdd, osl, csl, ccs, vs, file, tf, kV, doc, pm, ct, an, lf, hcd, lc, hvs, hfile, lcc, hi, ti⟩ := T.fx
  have up : ∀ b o, hp.get? b = some o → ((hp.push (kdv_tup [])).push (HandSPX.excO C hp.objs.size)).get? b = some o := fun b o z => Heap.get?_push_of_some _ (Heap.get?_push_of_some _ z)
  have at_ : ((hp.push (kdv_tup [])).push (HandSPX.excO C hp.objs.size)).get? (hp.objs.size + 1) = some (HandSPX.excO C hp.objs.size) := by heap_get
  have KX := I.kIn
  refine call_ownK F.excBase_ValueError (fun Y => HandSPX.refsVE_contains Y bm hbm) (KX _ _ lC) (looks_findIn KX hi) (fun self => bind_fn KX self ti) (by rw [sizeLine_eq]; show 0 ≤ _; omega) ?_
  refine ini_rawA (base := X.base) (mg := X.mg) T Z I.ok.mod (fun b o z => up b o (I.bk b o z)) ms ?_ at_ ?_ fI hi (fun _ _ _ _ _ _ _ _ => Zk.bd _ _ _ _ _ _ _ _ _ _) (fun h' dx t1 tk' k dn dne ha hn => ?_)
  · have := (room.make C [] [(v, u)]).dp
    omega
  · cases z : X.base.get? (hp.objs.size + 1) with
    | none => rfl
    | some o => exact absurd (Heap.lt_size (I.bk _ _ z)) (by show ¬ (hp.objs.size + 1 < hp.objs.size); omega)
  · have sz : hp.objs.size ≤ ((hp.push (kdv_tup [])).push (HandSPX.excO C hp.objs.size)).objs.size := by rw [Heap.size_push, Heap.size_push]; omega
    exact ⟨rfl, h h' _ dx t1 tk' (fun b o z => k b o (Nat.ne_of_lt (Nat.lt_succ_of_lt (Heap.lt_size z))) (up b o z)) (Nat.le_succ _) (Nat.le_trans sz dn) dne ha hn⟩
/-- C(f=e), as a value -/
theorem pe_iniK {kw : Keyword} (T : IniC X.prog X.K C q st f) (Z : IniT st f v m) (Zk : IniK st v) (ms : X.mg "super" = none) (room : Room 1 X.A) (gC : X.mg x = some (.ref C)) (hg : Gl X x) (hk : PK X [kw] ta)
    (hall : (backToKw pos (keywordEach [kw] X.env)).all (·.1.isSome) = true := by rfl) (hks : (backToKw pos (keywordEach [kw] X.env)).filterMap (·.1) = [v] := by rfl)
    (hdb : (x == ("__debug__" : Str)) = false := by decide) (hpl : ((backTo pos (starEach [] X.env)).any (·.1) || (backToKw pos (keywordEach [kw] X.env)).any (·.1.isNone)) = false := by rfl) :
    PE X (.Call (.Name x p) [] [kw] pos) (fun σ H Q => ta σ H fun vs H1 => ∃ y, vs = [y] ∧ ∀ a dx, H1 dx = none → H1 a = none → dx ≠ a → Q (.ref a) (upd (upd H1 dx (.xd [(f, y)])) a (ErO (.ref C) (some dx) a))) := by
  refine ⟨fun pins s σ H Q I h => wpAny_Call_Name_kw (ld_glob I hg gC (callWith_KW0 (h₀ := X.base) I.ok.mod.kin T.o.kC hall (thn (hk.run pos pins s σ H _ I h) fun us s1 hh => ?_) hpl) hdb)⟩
  obtain ⟨vs, H1, I1, r1, y, rfl, hq⟩ := hh
  obtain ⟨u, rfl, ry⟩ : ∃ u, us = [u] ∧ RelV y u := by
    cases r1 with
    | cons r rr => cases rr; exact ⟨_, rfl, r⟩
  refine ⟨I1.kIn, ?_⟩
  rw [hks]
  show wpAny _ _ (call (.ref C) [] [(v, u)]) _ _ _
  obtain ⟨hp, g, d, tk, os⟩ := s1
  refine wpAny_call (make_iniK I1 T Z Zk ms room fun h' a dx t1 tk' k an dn dne he hn => ?_)
  obtain ⟨G, gs, ga, gk, J⟩ := make_end (tk' := tk') I1 k an dn dne hn ry
  have na : upd H1 dx (.xd [(f, y)]) a = none := by rw [upd_ne (Ne.symm dne)]; exact I1.hok.fresh an
  have J2 := J.laidN (t' := tk') (a := a) (o := ErO (.ref C) (some dx) a) gs ga na (erO_mk he ⟨rfl, rfl⟩ rfl)
  exact ⟨.ref a, _, J2, rfl, hq a dx (I1.hok.fresh dn) (I1.hok.fresh an) dne⟩
/-- C(e) of a class without own __init__, as a value -/
theorem pe_own (Er : Err X.K X.mg x C) (hg : Gl X x) (ha : PA X [e] ta)
    (hdb : (x == ("__debug__" : Str)) = false := by decide) (hst : starEach [e] X.env = (false, eval e X.env) :: starEach [] X.env := by rfl) (hpl : (backTo pos (starEach [] X.env)).any (·.1) = false := by rfl) :
    PE X (.Call (.Name x p) [e] [] pos) (fun σ H Q => ta σ H fun vs H1 => ∃ y, vs = [y] ∧ ∀ a, H1 a = none → Q (.ref a) (upd H1 a (ErO (.ref C) none a))) := by
  refine ⟨fun pins s σ H Q I h => wpAny_Call_Name_kw (ld_glob I hg Er.g (callWith_K (h₀ := X.base) I.ok.mod.kin Er.k (thn (ha.run pos pins s σ H _ I h) fun us s1 hh => ?_) hst hpl) hdb)⟩
  obtain ⟨vs, H1, I1, r1, y, rfl, hq⟩ := hh
  obtain ⟨u, rfl, ry⟩ : ∃ u, us = [u] ∧ RelV y u := by
    cases r1 with
    | cons r rr => cases rr; exact ⟨_, rfl, r⟩
  refine ⟨I1.kIn, ?_⟩
  show wpAny _ _ (call (.ref C) [u]) _ _ _
  obtain ⟨hp, g, d, tk, os⟩ := s1
  obtain ⟨bm, N, nm, qn, bs, hdct, sn, sub, ab, col, dd, k0, k1, k2, k3, k5, mN, hC, hN, hni, T⟩ := exc_obj I1.kIn Er.q
  refine wpAny_call_exc_subT F.excBase_ValueError T hC hN hni (fun h' a hm => ?_) (by show 1 ≤ sizeLine; rw [sizeLine_eq]; omega)
  obtain ⟨t, he, _, _⟩ := hm.there
  have J := I1.laidN (t' := tk) (o := ErO (.ref C) none a) hm.keeps hm.new (I1.hok.gone hm.new) (erO_mk he ⟨rfl, rfl⟩ rfl)
  exact ⟨.ref a, _, J, rfl, hq a (I1.hok.gone hm.new)⟩
end
theorem foldl_size {α : Type} (x : Array α) : ∀ (m : Nat) (acc : Array α), (List.foldl (fun x1 x2 => x1 ++ x2) acc (List.replicate m x)).size = acc.size + m * x.size
  | 0, acc => by rw [Nat.zero_mul]; rfl
  | m + 1, acc => by
    rw [List.replicate_succ, List.foldl_cons, foldl_size x m, Array.size_append, Nat.succ_mul]
    omega
/-- xs[i] as it is read for xs[i] += .. -/
theorem get_list {X : Cx} : PGet X (rIxL X.K) := by
  intro pins s σ H x y v u Q I rx ry h
  obtain ⟨p, xs, i, z, rfl, rfl, hq, he, q⟩ := h
  cases rx
  obtain ⟨t, rfl⟩ := ry
  obtain ⟨its, r, pl, hz⟩ := I.list hq
  obtain ⟨j, h1, h2, h3, h4, h5⟩ := atI_get he
  obtain ⟨w, ew, rw'⟩ := r.get h2
  have hl := r.length
  have hn := line63
  have fin : EP X pins σ Q w s := ⟨z, H, I, rw', q⟩
  by_cases h0 : 0 ≤ i
  · have hj : i.toNat = j := by
      rw [seqIndex_of h0 h5] at h1
      exact Option.some.inj h1
    exact wpAny_getItem_list pl.isList h0 (by omega) (by rw [hj]; simpa using ew) fin
  · have hj : (i + (its.toArray.size : Int)).toNat = j := by
      rw [seqIndex_neg (by omega) h4] at h1
      rw [List.size_toArray, ← hl]
      exact Option.some.inj h1
    exact wpAny_getItem_list_neg pl.isList (by omega) (by rw [List.size_toArray] <;> omega) (by omega) (by rw [hj]; simpa using ew) fin
/-- s * n: a text, whichever -/
theorem op_repStr {X : Cx} : OpR X (binaryOp .Mult) (fun x y H Q => ∃ (z : Str) (n : Int), x = .str z ∧ y = .int n ∧ 0 ≤ n ∧ n ≤ 1000 ∧ z.length ≤ 1000 ∧ ∀ r : Str, Q (.str r) H) := by
  intro pins s σ H x y v u Q I rx ry h
  obtain ⟨z, n, rfl, rfl, n0, n1, zl, q⟩ := h
  obtain ⟨t, rfl⟩ := rx
  obtain ⟨t', rfl⟩ := ry
  have hm : z.length * n.toNat ≤ 1000 * 1000 := Nat.mul_le_mul zl (by omega)
  have hs : (1000 * 1000 : Nat) ≤ sizeLine := by decide
  have hc : Builtin.Str.tooLong (z.length * n.toNat) = false := by
    unfold Builtin.Str.tooLong
    exact decide_eq_false (by omega)
  refine PySem.P.mul_str (by rw [decide_eq_false (by omega), decide_eq_false (by omega)]; rfl) (fun h1 _ => ?_) (fun h1 _ => hc) ?_
  · have : (1000 : Int) ≤ (2 ^ 63 - 1) / n := by
      refine Int.le_ediv_of_mul_le (by omega) ?_
      omega
    omega
  · by_cases c : n < 1
    · rw [if_pos c]
      exact ⟨by decide, ⟨.str _, H, I.tok _, ⟨_, rfl⟩, q _⟩⟩
    · rw [if_neg c]
      by_cases c2 : (n == 1 || z.length == 0) = true
      · rw [if_pos c2]
        exact ⟨.str _, H, I.tok _, ⟨_, rfl⟩, q _⟩
      · rw [if_neg c2]
        refine ⟨?_, ⟨.str _, H, I.tok _, ⟨_, rfl⟩, q _⟩⟩
        show (List.foldl (fun x1 x2 => x1 ++ x2) #[] (List.replicate n.toNat z.cps)).size ≤ sizeLine
        rw [foldl_size, Array.size_empty, Nat.zero_add, Nat.mul_comm]
        exact Nat.le_trans hm hs
end SH

set_option maxHeartbeats 2000000
/-! SH23: list(zip(a, b)): a new list of fresh pairs. -/
namespace SH
open PySem PySem.W
/-- a zip whose tuple is out at T -/
abbrev ZipO (h : Heap) (z TI TO T : Addr) (f : Bool) : Prop :=
  h.get? z = some { cls := .type "zip", dict := none, data := .fields #[rawInt T, .bool f, .bool false, .ref TI, .ref TO], slots := #[] }
section
variable {prog : Program} {w : World} {A : Around} {E : Value → Shared → Prop} {s : Shared}
theorem zo_busy {z TI TO T : Addr} {f : Bool} {oT : Obj} {Q : Bool → Shared → Prop} (hz : ZipO s.heap z TI TO T f) (hT : s.heap.get? T = some oT)
    (hQ : ∀ h', ZipO h' z TI TO T true → Heap.SameBut z s.heap h' → Q false { s with heap := h' }) : wpAny (model prog w) A (Builtin.SmallTypes.ownedTupleIsFree (.ref z)) Q E s := by
  unfold Builtin.SmallTypes.ownedTupleIsFree
  refine wpAny_bind (wpAny_field hz rfl (x := rawInt T) rfl ?_)
  show wpAny _ _ (loadIfAlive ((T : Int).toNat) >>= _) _ _ _
  rw [Int.toNat_natCast]
  refine wpAny_bind (kdx_alive hT ?_)
  simp only [Option.isNone_some, Bool.false_eq_true, if_false]
  refine wpAny_bind (wpAny_field hz rfl (x := .bool f) rfl ?_)
  cases f with
  | true =>
    rw [if_neg (show ¬ ((Value.bool true != Value.bool true) = true) from Bool.false_ne_true)]
    exact wpAny_pure (hQ _ hz (Heap.SameBut.refl _ _))
  | false =>
    rw [if_pos (show (Value.bool false != Value.bool true) = true from rfl)]
    exact wpAny_bind (wpAny_setField_rec hz (by simp) fun h₃ hz₃ hs₃ => wpAny_pure (hQ h₃ hz₃ hs₃))
theorem zo_item {z TI TO i1 i2 l1 l2 T : Addr} {f : Bool} {oT : Obj} {k1 k2 : Nat} {xs ys : Array Value} {x y : Value} {Q : Option Value → Shared → Prop} (D : ZipApart z TI TO i1 i2 l1 l2)
    (hz : ZipO s.heap z TI TO T f) (hT : s.heap.get? T = some oT) (hTI : IsPair s.heap TI (.ref i1) (.ref i2))
    (h1 : s.heap.IsListIter i1 l1 k1) (h2 : s.heap.IsListIter i2 l2 k2) (hl1 : s.heap.IsList l1 xs) (hl2 : s.heap.IsList l2 ys) (hx : xs[k1]? = some x) (hy : ys[k2]? = some y)
    (hQ : ∀ h', ZipO h' z TI TO T true → h'.IsListIter i1 l1 (k1 + 1) → h'.IsListIter i2 l2 (k2 + 1) → IsPair h' s.heap.objs.size x y → h'.objs.size = s.heap.objs.size + 1 →
      (∀ c o, c ≠ z → c ≠ i1 → c ≠ i2 → s.heap.get? c = some o → h'.get? c = some o) → Q (some (.ref s.heap.objs.size)) { s with heap := h' }) :
    wpAny (model prog w) A (pyNext (.ref z)) Q E s := by
  have hTy : s.TypeIs (.ref z) "zip" := ⟨_, hz, rfl⟩
  unfold pyNext
  refine wpAny_bind (wpAny_attempt (wpAny_callSpecial?_slot (name := Str.ofString "__next__") hTy F.slot_zip_next (wpAny_call_entry F.slot_zip_next hTy F.entry_zip_next ?_ (F.args_zip_next_1 _))))
  show wpAny _ _ (field (.ref z) 2 >>= _) _ _ _
  refine wpAny_bind (wpAny_field hz rfl (x := .bool false) rfl ?_)
  show wpAny _ _ (field (.ref z) 3 >>= _) _ _ _
  refine wpAny_bind (wpAny_field hz rfl (x := .ref TI) rfl ?_)
  refine wpAny_bind (wpAny_seqItems hTI rfl ?_)
  show wpAny _ _ (Builtin.SmallTypes.ownedTupleIsFree (.ref z) >>= _) _ _ _
  refine wpAny_bind (zo_busy hz hT fun h₁ hz₁ hs₁ => ?_)
  simp only [Bool.false_eq_true, if_false]
  refine wpAny_bind ?_
  simp only [List.forIn_toArray, List.forIn_cons, List.forIn_nil]
  refine wpAny_bind (wpAny_bind (wpAny_holding ?_))
  show wpAny _ _ (Builtin.SmallTypes.nextOf (.ref i1) >>= _) _ _ _
  refine wpAny_bind (wpAny_nextOf_list_item (h1.extBut hs₁.extBut D.i1z) (hl1.extBut hs₁.extBut D.l1z) hx fun h₂ h1₂ hs₂ => wpAny_pure ?_)
  refine wpAny_pure ?_
  refine wpAny_bind (wpAny_bind (wpAny_holding ?_))
  show wpAny _ _ (Builtin.SmallTypes.nextOf (.ref i2) >>= _) _ _ _
  refine wpAny_bind (wpAny_nextOf_list_item ((h2.extBut hs₁.extBut D.i2z).extBut hs₂.extBut D.i12.symm)
    ((hl2.extBut hs₁.extBut D.l2z).extBut hs₂.extBut D.l2i1) hy fun h₄ h2₄ hs₄ => wpAny_pure ?_)
  refine wpAny_pure (wpAny_pure ?_)
  refine wpAny_bind (wpAny_newTuple (hsz := (by show (2 : Nat) ≤ sizeLine; decide)) ?_)
  have hsz : h₄.objs.size = s.heap.objs.size := by rw [hs₄.1, hs₂.1, hs₁.1]
  have hz₄ : ZipO h₄ z TI TO T true := hs₄.extBut _ _ D.i2z.symm (hs₂.extBut _ _ D.i1z.symm hz₁)
  have hk₄ : ∀ c o, c ≠ z → c ≠ i1 → c ≠ i2 → s.heap.get? c = some o → h₄.get? c = some o := fun c o c1 c3 c4 e => hs₄.extBut _ _ c4 (hs₂.extBut _ _ c3 (hs₁.extBut _ _ c1 e))
  have h1₄ : h₄.IsListIter i1 l1 (k1 + 1) := h1₂.extBut hs₄.extBut D.i12
  refine wpAny_pure ⟨_, rfl, wpAny_pure ?_⟩
  rw [hsz]
  exact hQ _ (Heap.get?_push_of_some _ hz₄) (h1₄.at fun o e => Heap.get?_push_of_some _ e) (h2₄.at fun o e => Heap.get?_push_of_some _ e) (by rw [← hsz]; exact Heap.get?_push_size _ rfl) (by rw [Heap.size_push, hsz]) fun c o c1 c3 c4 e => Heap.get?_push_of_some _ (hk₄ c o c1 c3 c4 e)
theorem zo_end {z TI TO i1 i2 l1 l2 T : Addr} {f : Bool} {oT : Obj} {k1 k2 : Nat} {xs ys : Array Value} {Q : Option Value → Shared → Prop} (hh : A.handled = none) (D : ZipApart z TI TO i1 i2 l1 l2)
    (hz : ZipO s.heap z TI TO T f) (hT : s.heap.get? T = some oT) (hTI : IsPair s.heap TI (.ref i1) (.ref i2))
    (h1 : s.heap.IsListIter i1 l1 k1) (h2 : s.heap.IsListIter i2 l2 k2) (hl1 : s.heap.IsList l1 xs) (hl2 : s.heap.IsList l2 ys) (hend : xs[k1]? = none ∨ ys[k2]? = none)
    (hQ : ∀ h', (∀ c o, c ≠ z → c ≠ i1 → c ≠ i2 → s.heap.get? c = some o → h'.get? c = some o) → Q none { s with heap := h' }) :
    wpAny (model prog w) A (pyNext (.ref z)) Q E s := by
  have hTy : s.TypeIs (.ref z) "zip" := ⟨_, hz, rfl⟩
  unfold pyNext
  refine wpAny_bind (wpAny_attempt (wpAny_callSpecial?_slot (name := Str.ofString "__next__") hTy F.slot_zip_next (wpAny_call_entry F.slot_zip_next hTy F.entry_zip_next ?_ (F.args_zip_next_1 _))))
  have fin : ∀ h' e, (∀ c o, c ≠ z → c ≠ i1 → c ≠ i2 → s.heap.get? c = some o → h'.get? c = some o) → (∃ o, h'.get? e = some o ∧ o.cls = .type "StopIteration") →
      wpAny (model prog w) A (isInstance (.ref e) (.type "StopIteration") >>= fun b => if b = true then pure none else throw (.ref e)) Q E { s with heap := h' } := fun h' e hk he => by
    obtain ⟨o, ho, hc⟩ := he
    refine wpAny_bind (wpAny_isInstance (T := "StopIteration") (b := true) ⟨o, ho, hc⟩ isSubtype_stop ?_)
    exact wpAny_pure (hQ _ hk)
  show wpAny _ _ (field (.ref z) 2 >>= _) _ _ _
  refine wpAny_bind (wpAny_field hz rfl (x := .bool false) rfl ?_)
  show wpAny _ _ (field (.ref z) 3 >>= _) _ _ _
  refine wpAny_bind (wpAny_field hz rfl (x := .ref TI) rfl ?_)
  refine wpAny_bind (wpAny_seqItems hTI rfl ?_)
  show wpAny _ _ (Builtin.SmallTypes.ownedTupleIsFree (.ref z) >>= _) _ _ _
  refine wpAny_bind (zo_busy hz hT fun h₁ hz₁ hs₁ => ?_)
  simp only [Bool.false_eq_true, if_false]
  refine wpAny_bind ?_
  simp only [List.forIn_toArray, List.forIn_cons, List.forIn_nil]
  refine wpAny_bind (wpAny_bind (wpAny_holding ?_))
  show wpAny _ _ (Builtin.SmallTypes.nextOf (.ref i1) >>= _) _ _ _
  cases hx : xs[k1]? with
  | none =>
    refine wpAny_bind (wpAny_nextOf_list_end hh (h1.extBut hs₁.extBut D.i1z) (hl1.extBut hs₁.extBut D.l1z) hx fun h₂ e hs₂ he => ?_)
    exact fin h₂ e (fun c o c1 c3 _ x => hs₂ _ _ c3 (hs₁.extBut _ _ c1 x)) he
  | some x =>
    have hy : ys[k2]? = none := by rcases hend with h | h; rw [hx] at h; cases h; exact h
    refine wpAny_bind (wpAny_nextOf_list_item (h1.extBut hs₁.extBut D.i1z) (hl1.extBut hs₁.extBut D.l1z) hx fun h₂ h1₂ hs₂ => wpAny_pure ?_)
    refine wpAny_pure ?_
    refine wpAny_bind (wpAny_bind (wpAny_holding ?_))
    show wpAny _ _ (Builtin.SmallTypes.nextOf (.ref i2) >>= _) _ _ _
    refine wpAny_bind (wpAny_nextOf_list_end hh ((h2.extBut hs₁.extBut D.i2z).extBut hs₂.extBut D.i12.symm) ((hl2.extBut hs₁.extBut D.l2z).extBut hs₂.extBut D.l2i1) hy fun h₄ e hs₄ he => ?_)
    exact fin h₄ e (fun c o c1 c3 c4 x => hs₄ _ _ c4 (hs₂.extBut _ _ c3 (hs₁.extBut _ _ c1 x))) he
/-- a zip in the course of a list's making: i turns are done, the list is at S -/
structure Zst (h : Heap) (z TI TO i1 i2 l1 l2 : Addr) (xs ys : Array Value) (i : Nat) (S : Addr) : Prop where
  ti : IsPair h TI (.ref i1) (.ref i2)
  to : ∃ a b, IsPair h TO a b
  h1 : h.IsListIter i1 l1 i
  h2 : h.IsListIter i2 l2 i
  hl1 : h.IsList l1 xs
  hl2 : h.IsList l2 ys
  z0 : IsZip h z TI TO .none ∨ ∃ T f oT, ZipO h z TI TO T f ∧ h.get? T = some oT ∧ S < T
/-- where these stand: below the list -/
structure Zlt (z TI TO i1 i2 l1 l2 S : Addr) : Prop where
  z : z < S
  ti : TI < S
  to : TO < S
  i1 : i1 < S
  i2 : i2 < S
  l1 : l1 < S
  l2 : l2 < S
theorem Zst.keep {h h' : Heap} {z TI TO i1 i2 l1 l2 S : Addr} {xs ys : Array Value} {i : Nat} (x : Zst h z TI TO i1 i2 l1 l2 xs ys i S) (L : Zlt z TI TO i1 i2 l1 l2 S) (k : ∀ b o, b ≠ S → h.get? b = some o → h'.get? b = some o) : Zst h' z TI TO i1 i2 l1 l2 xs ys i S where
  ti := k _ _ (Nat.ne_of_lt L.ti) x.ti
  to := by obtain ⟨a, b, e⟩ := x.to; exact ⟨a, b, k _ _ (Nat.ne_of_lt L.to) e⟩
  h1 := x.h1.at fun o e => k _ o (Nat.ne_of_lt L.i1) e
  h2 := x.h2.at fun o e => k _ o (Nat.ne_of_lt L.i2) e
  hl1 := x.hl1.at fun o e => k _ o (Nat.ne_of_lt L.l1) e
  hl2 := x.hl2.at fun o e => k _ o (Nat.ne_of_lt L.l2) e
  z0 := by
    rcases x.z0 with e | ⟨T, f, oT, e, eT, l⟩
    · exact .inl (k _ _ (Nat.ne_of_lt L.z) e)
    · exact .inr ⟨T, f, oT, k _ _ (Nat.ne_of_lt L.z) e, k _ _ (Nat.ne_of_gt l) eT, l⟩
theorem zst_item {z TI TO i1 i2 l1 l2 S : Addr} {xs ys : Array Value} {i : Nat} {x y : Value} {Q : Option Value → Shared → Prop} (D : ZipApart z TI TO i1 i2 l1 l2) (L : Zlt z TI TO i1 i2 l1 l2 S) (st : Zst s.heap z TI TO i1 i2 l1 l2 xs ys i S)
    (hS : S < s.heap.objs.size) (hx : xs[i]? = some x) (hy : ys[i]? = some y)
    (hQ : ∀ h', Zst h' z TI TO i1 i2 l1 l2 xs ys (i + 1) S → IsPair h' s.heap.objs.size x y → h'.objs.size = s.heap.objs.size + 1 → (∀ c o, c ≠ z → c ≠ TO → c ≠ i1 → c ≠ i2 → s.heap.get? c = some o → h'.get? c = some o) → Q (some (.ref s.heap.objs.size)) { s with heap := h' }) :
    wpAny (model prog w) A (pyNext (.ref z)) Q E s := by
  obtain ⟨ti, ⟨a, b, to⟩, h1, h2, hl1, hl2, z0⟩ := st
  rcases z0 with hz | ⟨T, f, oT, hz, hT, lT⟩
  · refine wpAny_pyNext_zip_item D hz ti to h1 h2 hl1 hl2 hx hy fun h' a1 a2 a3 a4 a5 a6 k => ?_
    exact hQ h' ⟨k _ _ D.TIz D.TITO D.TIi1 D.TIi2 ti, ⟨_, _, a2⟩, a3, a4, hl1.at fun o e => k _ o D.l1z D.l1TO D.l1i1 D.l1i2 e, hl2.at fun o e => k _ o D.l2z D.l2TO D.l2i1 D.l2i2 e, .inr ⟨_, false, _, a1, a5, hS⟩⟩ a5 a6 k
  · refine zo_item D hz hT ti h1 h2 hl1 hl2 hx hy fun h' a1 a3 a4 a5 a6 k => ?_
    have nT : ∀ {c}, c < S → T ≠ c := fun l => Nat.ne_of_gt (Nat.lt_trans l lT)
    exact hQ h' ⟨k _ _ D.TIz D.TIi1 D.TIi2 ti, ⟨_, _, k _ _ D.TOz D.TOi1 D.TOi2 to⟩, a3, a4, hl1.at fun o e => k _ o D.l1z D.l1i1 D.l1i2 e, hl2.at fun o e => k _ o D.l2z D.l2i1 D.l2i2 e,
      .inr ⟨T, true, oT, a1, k _ _ (nT L.z) (nT L.i1) (nT L.i2) hT, lT⟩⟩ a5 a6 fun c o c1 _ c3 c4 e => k c o c1 c3 c4 e
theorem zst_done {z TI TO i1 i2 l1 l2 S : Addr} {xs ys : Array Value} {i : Nat} {Q : Option Value → Shared → Prop} (hh : A.handled = none) (D : ZipApart z TI TO i1 i2 l1 l2) (st : Zst s.heap z TI TO i1 i2 l1 l2 xs ys i S) (hend : xs[i]? = none ∨ ys[i]? = none)
    (hQ : ∀ h', (∀ c o, c ≠ z → c ≠ TO → c ≠ i1 → c ≠ i2 → s.heap.get? c = some o → h'.get? c = some o) → Q none { s with heap := h' }) : wpAny (model prog w) A (pyNext (.ref z)) Q E s := by
  obtain ⟨ti, ⟨a, b, to⟩, h1, h2, hl1, hl2, z0⟩ := st
  rcases z0 with hz | ⟨T, f, oT, hz, hT, lT⟩
  · exact wpAny_pyNext_zip_end hh D hz ti to h1 h2 hl1 hl2 hend hQ
  · exact zo_end hh D hz hT ti h1 h2 hl1 hl2 hend fun h' k => hQ h' fun c o c1 _ c3 c4 e => k c o c1 c3 c4 e
/-- the pairs that were made -/
structure MadeZ (xs ys : Array Value) (lo : Addr) (h : Heap) (as : List Addr) : Prop where
  rise : as.Pairwise (· < ·)
  above : ∀ a ∈ as, lo < a
  pairs : ∀ (j : Nat) (a : Addr), as[j]? = some a → ∃ x y, xs[j]? = some x ∧ ys[j]? = some y ∧ IsPair h a x y
theorem MadeZ.there {xs ys : Array Value} {lo : Addr} {h : Heap} {as : List Addr} (g : MadeZ xs ys lo h as) {a : Addr} (ha : a ∈ as) : a < h.objs.size := by
  obtain ⟨j, hj⟩ := List.mem_iff_getElem?.mp ha
  obtain ⟨_, _, _, _, e⟩ := g.pairs j a hj
  exact Heap.lt_size e
end
section
variable {prog : Program} {w : World} {A : Around} {s : Shared} {R : Result → Shared → Prop} {xs ys : Array Value}
theorem zst_loop {z TI TO i1 i2 l1 l2 S : Addr} (hh : A.handled = none) (D : ZipApart z TI TO i1 i2 l1 l2) (L : Zlt z TI TO i1 i2 l1 l2 S) (hn : min xs.size ys.size ≤ sizeLine) (res : Value) {h₁ : Heap}
    (hR : ∀ h' tk acc c as, (∀ b o, b ≠ S → b ≠ z → b ≠ TO → b ≠ i1 → b ≠ i2 → h₁.get? b = some o → h'.get? b = some o) → h'.get? S = some { cls := .type "list", dict := none, data := .seq acc c, slots := #[] } → as.length = min xs.size ys.size → MadeZ xs ys S h' as →
      acc.toList = as.map Value.ref → R (.ok (.ret res)) { s with heap := h', toks := tk }) :
    ∀ (k i : Nat) (h : Heap) (tk c : Nat) (acc : Array Value) (as : List Addr), min xs.size ys.size - i = k → i ≤ min xs.size ys.size → Zst h z TI TO i1 i2 l1 l2 xs ys i S → (∀ b o, b ≠ S → b ≠ z → b ≠ TO → b ≠ i1 → b ≠ i2 → h₁.get? b = some o → h.get? b = some o) →
      h.get? S = some { cls := .type "list", dict := none, data := .seq acc c, slots := #[] } → acc.toList = as.map Value.ref → as.length = i → MadeZ xs ys S h as →
      codeAny (model prog w) A (.builtin "list.extend.loop" ⟨[.ref S, .ref z, res], []⟩) R { s with heap := h, toks := tk } := by
  have nS : ∀ {c : Addr}, c < S → S ≠ c := fun l => Nat.ne_of_gt l
  intro k
  induction k with
  | zero =>
    intro i h tk c acc as hk hi hst hkeep hS hacc hal hG
    refine codeAny_builtin PySem.F.entry_extend_loop ?_
    rw [Around.under_plainId PySem.F.plain_extend_loop _]
    show wpAny _ A.in1 (pyNext (.ref z) >>= _) _ _ _
    have hend : xs[i]? = none ∨ ys[i]? = none := by
      rcases Nat.le_total xs.size ys.size with h | h
      · exact .inl (Array.getElem?_eq_none (by omega))
      · exact .inr (Array.getElem?_eq_none (by omega))
    refine wpAny_bind (zst_done (s := { s with heap := h, toks := tk }) (A := A.in1) hh D hst hend fun h' he => ?_)
    refine wpAny_pure (hR h' tk acc c as (fun b o h1 h2 h3 h4 h5 e => he b o h2 h3 h4 h5 (hkeep b o h1 h2 h3 h4 h5 e)) (he S _ (nS L.z) (nS L.to) (nS L.i1) (nS L.i2) hS) (by omega) ⟨hG.rise, hG.above, fun j a hj => ?_⟩ hacc)
    obtain ⟨x, y, e1, e2, e3⟩ := hG.pairs j a hj
    have la := hG.above a (List.mem_of_getElem? hj)
    have na : ∀ {c : Addr}, c < S → a ≠ c := fun l => Nat.ne_of_gt (Nat.lt_trans l la)
    exact ⟨x, y, e1, e2, he a _ (na L.z) (na L.to) (na L.i1) (na L.i2) e3⟩
  | succ k ih =>
    intro i h tk c acc as hk hi hst hkeep hS hacc hal hG
    have hlt : i < min xs.size ys.size := by omega
    have hsz : acc.size = i := by rw [← Array.length_toList, hacc, List.length_map, hal]
    have hix : i < xs.size := by omega
    have hiy : i < ys.size := by omega
    have hSl : S < h.objs.size := Heap.lt_size hS
    refine codeAny_builtin PySem.F.entry_extend_loop ?_
    rw [Around.under_plainId PySem.F.plain_extend_loop _]
    show wpAny _ A.in1 (pyNext (.ref z) >>= _) _ _ _
    refine wpAny_bind (zst_item (s := { s with heap := h, toks := tk }) (S := S) D L hst hSl (Array.getElem?_eq_getElem hix) (Array.getElem?_eq_getElem hiy) fun h' hst' ht hz hkp => ?_)
    dsimp only at ht hz hkp ⊢
    have hS' := hkp S _ (nS L.z) (nS L.to) (nS L.i1) (nS L.i2) hS
    have up : ∀ b o, b ≠ S → h'.get? b = some o → (h'.update S (Obj.mapSeq (·.push (Value.ref h.objs.size)))).get? b = some o := fun b o hb e => (Heap.get?_update_other _ _ (Ne.symm hb)).trans e
    show wpAny _ A.in1 (updateSeq S (·.push (Value.ref h.objs.size)) >>= _) _ _ _
    refine wpAny_bind ?_
    refine wpAny_updateSeq hS' rfl (wpAny_pure ⟨plainId_quiet PySem.F.plain_extend_loop _, ih (i + 1) _ tk _ (acc.push (Value.ref h.objs.size)) (as ++ [h.objs.size]) (by omega) hlt (hst'.keep L up)
      (fun b o h1 h2 h3 h4 h5 e => up b o h1 (hkp b o h2 h3 h4 h5 (hkeep b o h1 h2 h3 h4 h5 e))) (Heap.get?_update_self _ hS' rfl) (by rw [Array.toList_push, hacc, List.map_append]; rfl) (by rw [List.length_append, hal]; rfl) ⟨?_, ?_, ?_⟩⟩) (by rw [hsz]; omega) (by show (acc.push (Value.ref h.objs.size)).size ≤ sizeLine + 1; rw [Array.size_push, hsz]; omega)
    · refine List.pairwise_append.mpr ⟨hG.rise, List.pairwise_singleton _ _, fun a ha b hb => ?_⟩
      rw [List.mem_singleton.mp hb]
      exact hG.there ha
    · intro a ha
      rcases List.mem_append.mp ha with ha | ha
      · exact hG.above a ha
      · rw [List.mem_singleton.mp ha]; exact hSl
    · intro j b hj
      rcases Nat.lt_trichotomy j as.length with h1 | h1 | h1
      · rw [List.getElem?_append_left h1] at hj
        obtain ⟨x, y, e1, e2, e3⟩ := hG.pairs j b hj
        have hb := hG.above b (List.mem_of_getElem? hj)
        have nb : ∀ {c : Addr}, c < S → b ≠ c := fun l => Nat.ne_of_gt (Nat.lt_trans l hb)
        exact ⟨x, y, e1, e2, up b _ (Nat.ne_of_gt hb) (hkp b _ (nb L.z) (nb L.to) (nb L.i1) (nb L.i2) e3)⟩
      · subst h1
        have hb : h.objs.size = b := by simpa using hj
        subst hb
        exact ⟨_, _, Array.getElem?_eq_getElem (by omega), Array.getElem?_eq_getElem (by omega), up _ _ (Nat.ne_of_gt hSl) (by subst hal; exact ht)⟩
      · have hnone : (as ++ [h.objs.size])[j]? = none := List.getElem?_eq_none (by rw [List.length_append, List.length_singleton]; omega)
        rw [hnone] at hj; cases hj
theorem zip_no_len : typeLookup (.type "zip") "__len__" = pure none := by rw [typeLookup_type, builtinLookup_eq_fast]; kernel_rfl
theorem zip_no_hint : typeLookup (.type "zip") "__length_hint__" = pure none := by rw [typeLookup_type, builtinLookup_eq_fast]; kernel_rfl
theorem Zst.typeIs {z TI TO i1 i2 l1 l2 S : Addr} {i : Nat} (x : Zst s.heap z TI TO i1 i2 l1 l2 xs ys i S) : s.TypeIs (.ref z) "zip" := by
  rcases x.z0 with e | ⟨T, f, oT, e, _⟩ <;> exact ⟨_, e, rfl⟩
theorem zst_self {z TI TO i1 i2 l1 l2 S : Addr} {i : Nat} {E : Value → Shared → Prop} {Q : Value → Shared → Prop} (x : Zst s.heap z TI TO i1 i2 l1 l2 xs ys i S) (h : Q (.ref z) s) : wpAny (model prog w) A (pyIter (.ref z)) Q E s := by
  have hT := x.typeIs
  refine wpAny_pyIter_slot hT F.slot_zip_iter (wpAny_call_entry F.slot_zip_iter hT F.entry_zip_iter ?_ (F.args_zip_iter_1 _))
  show wpAny _ _ (ret (.ref z)) _ _ s
  exact wpAny_pure ⟨_, rfl, "zip", _, hT, F.slot_zip_next.lookup, h⟩
theorem zst_extend {z TI TO i1 i2 l1 l2 S : Addr} (hh : A.handled = none) (D : ZipApart z TI TO i1 i2 l1 l2) (L : Zlt z TI TO i1 i2 l1 l2 S) (hn : min xs.size ys.size ≤ sizeLine) (res : Value) (c₀ : Nat) (st : Zst s.heap z TI TO i1 i2 l1 l2 xs ys 0 S) (hS : s.heap.get? S = some { cls := .type "list", data := .seq #[] c₀ })
    (hR : ∀ h' tk acc c as, (∀ b o, b ≠ S → b ≠ z → b ≠ TO → b ≠ i1 → b ≠ i2 → s.heap.get? b = some o → h'.get? b = some o) → h'.get? S = some { cls := .type "list", dict := none, data := .seq acc c, slots := #[] } → as.length = min xs.size ys.size → MadeZ xs ys S h' as →
      acc.toList = as.map Value.ref → R (.ok (.ret res)) { s with heap := h', toks := tk }) :
    wpAny (model prog w) A.in1 (Builtin.List.listExtendWith (.ref S) (.ref z) res)
      (fun fin s' => match fin with | .done f => R (.ok f) s' | .again c' => c'.quiet = true ∧ codeAny (model prog w) A c' R s') (fun e s' => R (.error e) s') s := by
  have hT := st.typeIs
  unfold Builtin.List.listExtendWith
  refine wpAny_bind (wpAny_typeOf (T := "zip") hT ?_)
  have h1 : Builtin.List.listSameRef (.ref S) (.ref z) = false := by
    have : S ≠ z := Nat.ne_of_gt L.z
    simp [Builtin.List.listSameRef, this]
  have h2 : (Value.type "zip" == Value.type "list") = false := by decide
  have h3 : (Value.type "zip" == Value.type "tuple") = false := by decide
  simp only [h1, h2, h3, Bool.or_false, Bool.false_eq_true, if_false]
  refine wpAny_bind (zst_self st ?_)
  refine wpAny_bind (wpAny_holding ?_)
  unfold Builtin.List.listLengthHint
  refine wpAny_bind (wpAny_specialOf hT zip_no_len ?_)
  show wpAny _ A.in1 (specialOf (Value.ref z) (Str.ofString "__length_hint__") >>= _) _ _ _
  refine wpAny_bind (wpAny_specialOf hT zip_no_hint ?_)
  refine wpAny_pure ?_
  show wpAny _ A.in1 (rule "list.extend.makes-room" >>= fun _ => Builtin.List.listTouch (.ref S) >>= fun _ =>
    again (.builtin "list.extend.loop" ⟨[.ref S, .ref z, res], []⟩)) _ _ _
  refine wpAny_bind (wpAny_rule ?_)
  refine wpAny_bind ?_
  show wpAny _ A.in1 (updateSeq S (·.push .none) >>= fun _ => updateSeq S (·.pop)) _ _ _
  refine wpAny_bind (wpAny_updateSeq hS rfl ?_)
  have hS₂ := Heap.get?_update_self (Obj.mapSeq (·.push Value.none)) hS rfl
  refine wpAny_updateSeq (hz := by seq_fits) hS₂ rfl ?_
  have hS₃ := Heap.get?_update_self (Obj.mapSeq (·.pop)) hS₂ rfl
  have oth : ∀ b o, b ≠ S → s.heap.get? b = some o → ((s.heap.update S (Obj.mapSeq (·.push Value.none))).update S (Obj.mapSeq (·.pop))).get? b = some o :=
    fun b o hb e => (Heap.get?_update_other _ _ (Ne.symm hb)).trans ((Heap.get?_update_other _ _ (Ne.symm hb)).trans e)
  exact wpAny_pure ⟨plainId_quiet F.plain_extend_loop _, zst_loop (h₁ := s.heap) hh D L hn res hR _ 0 _ s.toks _ #[] [] rfl (Nat.zero_le _) (st.keep L oth) (fun b o h1 _ _ _ _ e => oth b o h1 e) hS₃ rfl rfl
    ⟨List.Pairwise.nil, (fun _ ha => nomatch ha), (fun j a hj => by simp at hj)⟩⟩
theorem zst_init {z TI TO i1 i2 l1 l2 S : Addr} (hh : A.handled = none) (D : ZipApart z TI TO i1 i2 l1 l2) (L : Zlt z TI TO i1 i2 l1 l2 S) (hn : min xs.size ys.size ≤ sizeLine) (st : Zst s.heap z TI TO i1 i2 l1 l2 xs ys 0 S) (hS : s.heap.get? S = some { cls := .type "list", data := .seq #[] })
    (hR : ∀ h' tk acc c as, (∀ b o, b ≠ S → b ≠ z → b ≠ TO → b ≠ i1 → b ≠ i2 → s.heap.get? b = some o → h'.get? b = some o) → h'.get? S = some { cls := .type "list", dict := none, data := .seq acc c, slots := #[] } → as.length = min xs.size ys.size → MadeZ xs ys S h' as →
      acc.toList = as.map Value.ref → R (.ok (.ret .none)) { s with heap := h', toks := tk }) :
    wpAny (model prog w) A.in1 (Builtin.«list.__init__» ⟨[.ref S, .ref z], []⟩)
      (fun fin s' => match fin with | .done f => R (.ok f) s' | .again c' => c'.quiet = true ∧ codeAny (model prog w) A c' R s') (fun e s' => R (.error e) s') s := by
  show wpAny _ _ (do let old ← Builtin.List.listItems (.ref S); Builtin.List.listUpdate (.ref S) (fun _ => #[]); letGo old.toList.reverse; Builtin.List.listExtendWith (.ref S) (.ref z) .none) _ _ s
  refine wpAny_bind ?_
  unfold Builtin.List.listItems
  refine wpAny_bind (wpAny_seqItems hS rfl (wpAny_pure ?_))
  show wpAny _ _ (updateSeq S (fun _ => #[]) >>= fun _ => letGo (#[] : Array Value).toList.reverse >>= fun _ => Builtin.List.listExtendWith (.ref S) (.ref z) .none) _ _ s
  refine wpAny_bind (wpAny_updateSeq hS rfl ?_)
  have hS₂ := Heap.get?_update_self (Obj.mapSeq (fun _ => (#[] : Array Value))) hS rfl
  have oth : ∀ b o, b ≠ S → s.heap.get? b = some o → (s.heap.update S (Obj.mapSeq (fun _ => (#[] : Array Value)))).get? b = some o :=
    fun b o hb e => (Heap.get?_update_other _ _ (Ne.symm hb)).trans e
  refine wpAny_bind (wpAny_letGo ?_)
  exact zst_extend hh D L hn .none _ (st.keep L oth) hS₂ (fun h' tk acc c as hk hS' hl hG hacc => hR h' tk acc c as (fun b o h1 h2 h3 h4 h5 e => hk b o h1 h2 h3 h4 h5 (oth b o h1 e)) hS' hl hG hacc)
/-- list(z), z a zip that was just made -/
theorem zst_call {z TI TO i1 i2 l1 l2 : Addr} {E : Value → Shared → Prop} {Q : Value → Shared → Prop} (hh : A.handled = none) (D : ZipApart z TI TO i1 i2 l1 l2) (L : Zlt z TI TO i1 i2 l1 l2 s.heap.objs.size) (hn : min xs.size ys.size ≤ sizeLine) (st : Zst s.heap z TI TO i1 i2 l1 l2 xs ys 0 s.heap.objs.size)
    (hQ : ∀ h' tk acc c as, (∀ b o, b ≠ z → b ≠ TO → b ≠ i1 → b ≠ i2 → s.heap.get? b = some o → h'.get? b = some o) → h'.get? s.heap.objs.size = some { cls := .type "list", dict := none, data := .seq acc c, slots := #[] } → as.length = min xs.size ys.size → MadeZ xs ys s.heap.objs.size h' as →
      acc.toList = as.map Value.ref → Q (.ref s.heap.objs.size) { s with heap := h', toks := tk }) :
    wpAny (model prog w) A (call (.type "list") [.ref z]) Q E s := by
  refine callType_codes (Q₁ := fun obj s₁ => obj = .ref s.heap.objs.size ∧ s₁ = { s with heap := s.heap.push { cls := .type "list", data := .seq #[] } }) PySem.F.called_list (PySem.F.typeCall_list_1 _) PySem.F.entry_list_init
    (code_list_new _ ⟨rfl, rfl⟩) fun obj s₁ h₁ => ?_
  obtain ⟨rfl, rfl⟩ := h₁
  have hS : (s.heap.push { cls := .type "list", data := .seq #[] }).get? s.heap.objs.size = some { cls := .type "list", data := .seq #[] } := Heap.get?_push_size _ rfl
  refine ⟨⟨_, hS, rfl⟩, PySem.F.args_list_init_2 _ _, zst_init (A := A.in1) hh D L hn (st.keep L fun b o _ e => Heap.get?_push_of_some _ e) hS (fun h' tk acc c as hk hS' hl hG hacc => ?_)⟩
  exact ⟨rfl, hQ h' tk acc c as (fun b o h2 h3 h4 h5 e => hk b o (Nat.ne_of_lt (Heap.lt_size e)) h2 h3 h4 h5 (Heap.get?_push_of_some _ e)) hS' hl hG hacc⟩
end
end SH
namespace SH
open PySem PySem.Spec PyProof.Rows L2
/-- the pairs tracked at their addresses -/
def putP : Hp → List Addr → List (V × V) → Hp
  | H, a :: as, p :: ps => putP (upd H a (.tup [p.1, p.2])) as ps
  | H, _, _ => H
theorem putP_off {b : Addr} : ∀ (as : List Addr) (ps : List (V × V)) (H : Hp), b ∉ as → putP H as ps b = H b
  | [], _, _, _ => rfl
  | _ :: _, [], _, _ => rfl
  | a :: as, p :: ps, H, h => by
    show putP (upd H a (.tup [p.1, p.2])) as ps b = H b
    rw [putP_off as ps _ (fun z => h (List.mem_cons_of_mem _ z)), upd_ne (fun z => h (by rw [z]; exact List.mem_cons_self))]
theorem putP_at : ∀ (as : List Addr) (ps : List (V × V)) (H : Hp), as.length = ps.length → as.Nodup → Paired (fun (t : Addr) (p : V × V) => putP H as ps t = some (.tup [p.1, p.2])) as ps
  | [], [], _, _, _ => .nil
  | [], _ :: _, _, h, _ => by cases h
  | _ :: _, [], _, h, _ => by cases h
  | a :: as, p :: ps, H, h, hn => by
    have hn' := List.nodup_cons.mp hn
    have ih := putP_at as ps (upd H a (.tup [p.1, p.2])) (Nat.succ.inj h) hn'.2
    refine .cons ?_ ih
    show putP (upd H a (.tup [p.1, p.2])) as ps a = some (.tup [p.1, p.2])
    rw [putP_off as ps _ hn'.1, upd_same]
theorem zip_laid {X : Cx} {pins : List (Addr × Obj)} {σ : L2.St} {H : Hp} {s : Shared} {h' : Heap} {tk S : Nat} {xs ys : List V} {us vs : List Value} {acc : Array Value} {c : Nat} {as : List Addr} (I : Inv X pins σ H s) (hz : xs.length ≤ sizeLine) (rx : Vals xs us) (ry : Vals ys vs) (hle : s.heap.objs.size ≤ S)
    (hk : ∀ b o, s.heap.get? b = some o → h'.get? b = some o) (hS : h'.get? S = some { cls := .type "list", dict := none, data := .seq acc c, slots := #[] }) (hl : as.length = min us.length vs.length) (hG : MadeZ us.toArray vs.toArray S h' as) (hacc : acc.toList = as.map Value.ref) :
    ∃ H' : Hp, Same H H' ∧ H S = none ∧ (∀ t ∈ as, H t = none) ∧ S ∉ as ∧ as.Nodup ∧ H' S = some (.lst (as.map V.ref)) ∧ Paired (fun (t : Addr) (q : V × V) => H' t = some (.tup [q.1, q.2])) as (xs.zip ys) ∧ Inv X pins σ H' { s with heap := h', toks := tk } := by
  have lx : xs.length = us.length := Paired.length rx
  have ly : ys.length = vs.length := Paired.length ry
  have hSn : S ∉ as := fun z => Nat.lt_irrefl _ (hG.above _ z)
  have nd : as.Nodup := List.Pairwise.imp (fun {a b} (h : a < b) => Nat.ne_of_lt h) hG.rise
  have new : ∀ t ∈ as, H t = none := fun t ht => I.hok.fresh (Nat.le_trans hle (Nat.le_of_lt (hG.above t ht)))
  have newS : H S = none := I.hok.fresh hle
  have atP := putP_at as (xs.zip ys) (upd H S (.lst (as.map V.ref))) (by rw [List.length_zip]; omega) nd
  have off : ∀ b, b ∉ as → b ≠ S → putP (upd H S (.lst (as.map V.ref))) as (xs.zip ys) b = H b := fun b h1 h2 => by rw [putP_off as _ _ h1, upd_ne h2]
  have low : ∀ b o, s.heap.get? b = some o → b ∉ as ∧ b ≠ S := fun b o e =>
    ⟨fun z => absurd (Nat.lt_of_lt_of_le (Heap.lt_size e) hle) (Nat.not_lt.mpr (Nat.le_of_lt (hG.above b z))), Nat.ne_of_lt (Nat.lt_of_lt_of_le (Heap.lt_size e) hle)⟩
  have kp : ∀ b u, H b = some u → (putP (upd H S (.lst (as.map V.ref))) as (xs.zip ys)) b = some u := fun b u e => by
    rw [off b (fun z => by rw [new b z] at e; cases e) (fun z => by rw [z, newS] at e; cases e)]
    exact e
  have eS : putP (upd H S (.lst (as.map V.ref))) as (xs.zip ys) S = some (.lst (as.map V.ref)) := by rw [putP_off as _ _ hSn, upd_same]
  refine ⟨putP (upd H S (.lst (as.map V.ref))) as (xs.zip ys), kp, newS, new, hSn, nd, eS, atP, ?_⟩
  refine I.call' (ch := []) rfl ⟨fun b o q _ _ _ => hk b o q, fun b o q _ _ _ => ⟨o.slots, hk b o q⟩, fun b o q n _ => ?_, fun b o q _ => ⟨o, hk b o q⟩, fun b xs q => kp b _ q, fun b o u q => kp b _ q, fun b ps q => ⟨#[], by rw [kp b _ q]; simp⟩⟩ (fun b u q => ?_) I.bare fun b z => by simp at z
  · obtain ⟨z1, z2⟩ := low b o q
    rw [off b z1 z2]
    exact n
  · by_cases hb : b ∈ as
    · obtain ⟨j, pk, e1, e2, e3⟩ := LiI.paired_ix atP hb
      rw [e3] at q
      cases q
      obtain ⟨x, y, f1, f2, f3⟩ := hG.pairs j b e1
      obtain ⟨g1, g2⟩ := List.getElem?_zip_eq_some.mp e2
      obtain ⟨x', g3, g4⟩ := LiI.paired_get rx g1
      obtain ⟨y', g5, g6⟩ := LiI.paired_get ry g2
      have ex : x = x' := by simpa [g3] using f1.symm
      have ey : y = y' := by simpa [g5] using f2.symm
      subst ex ey
      exact ⟨by show 2 ≤ sizeLine; decide, [x, y], .cons g4 (.cons g6 .nil), ⟨_, f3, rfl, _, rfl⟩⟩
    · by_cases hb2 : b = S
      · rw [hb2] at q ⊢
        rw [eS] at q
        cases q
        refine ⟨by rw [List.length_map]; omega, acc.toList, c, by rw [hacc]; exact LiI.vals_refs as, ?_⟩
        rw [Array.toArray_toList]
        exact hS
      · rw [off b hb hb2] at q
        exact (I.hok b u q).stay (fun d v _ y => hk d v y) (fun d y => kp d _ y) fun d xs y => kp d _ y
/-- list(zip(e1, e2)), two lists -/
def tListZip (K : PySem.W.Frag) (ta : TA) : TE := fun σ H Q => ta σ H fun vs H1 => ∃ (a b : Addr) (xs ys : List V), vs = [.ref a, .ref b] ∧ SqL K H1 a xs ∧ SqL K H1 b ys ∧
  ∀ (H' : Hp) (p : Addr) (ts : List Addr), Same H1 H' → H1 p = none → (∀ t ∈ ts, H1 t = none) → p ∉ ts → ts.Nodup → H' p = some (.lst (ts.map V.ref)) → Paired (fun (t : Addr) (q : V × V) => H' t = some (.tup [q.1, q.2])) ts (xs.zip ys) → Q (.ref p) H'
theorem pe_listZip {X : Cx} {e e2 : Expr} {ta : TA} {p q zpos pos : Pos} (hg : Gl X "list") (hm : X.mg "list" = none) (hg2 : Gl X "zip") (hm2 : X.mg "zip" = none) (ha : PA X [e, e2] ta) (hc : X.calm = true := by rfl)
    (hs : starEach [.Call (.Name "zip" q) [e, e2] [] zpos] X.env = (false, eval (.Call (.Name "zip" q) [e, e2] [] zpos) X.env) :: starEach [] X.env := by rfl)
    (hs2 : starEach [e, e2] X.env = (false, eval e X.env) :: starEach [e2] X.env := by rfl) (hpl2 : (backTo zpos (starEach [e2] X.env)).any (·.1) = false := by rfl) :
    PE X (.Call (.Name "list" p) [.Call (.Name "zip" q) [e, e2] [] zpos] [] pos) (tListZip X.K ta) := by
  refine ⟨fun pins s σ H Q I hq => ?_⟩
  have hv : bootBuiltins "list" = some (.type "list") := by decide +kernel
  refine wpAny_Call_Name_kw (ld_blt I hg hm hv ?_)
  refine PyProof.Rows.callWith_type1 ?_ hs rfl
  rw [hs]
  show wpAny _ _ (spliced ((false, eval (.Call (.Name "zip" q) [e, e2] [] zpos) X.env) :: backTo pos (starEach [] X.env))) _ _ s
  refine Calls.spliced_cons ?_
  refine Call_ (ld_blt I hg2 hm2 PyProof.Rows.boot_zip (PyProof.Rows.callWith_type1 (thn (ha.run zpos pins s σ H _ I hq) fun us s1 ⟨vs, H1, I1, r1, q1⟩ => ?_) hs2 hpl2))
  obtain ⟨a, b, xs, ys, rfl, hqx, hqy, q1⟩ := q1
  obtain ⟨u1, u2, rfl, ra, rb⟩ := vals2 r1
  obtain rfl : u1 = Value.ref a := ra
  obtain rfl : u2 = Value.ref b := rb
  obtain ⟨its, rv, p1, z1⟩ := I1.list hqx
  obtain ⟨its2, rv2, p2, z2⟩ := I1.list hqy
  have lx : xs.length = its.length := Paired.length rv
  refine call_zip_2 p1.isList p2.isList fun h0 hz hTI hTO h1 h2 hsz hk0 => Calls.spliced_nil ?_
  have la : a < s1.heap.objs.size := p1.lt
  have lb : b < s1.heap.objs.size := p2.lt
  have L : Zlt (s1.heap.objs.size + 4) (s1.heap.objs.size + 2) (s1.heap.objs.size + 3) s1.heap.objs.size (s1.heap.objs.size + 1) a b h0.objs.size := by
    rw [hsz]
    exact ⟨Nat.add_lt_add_left (by decide : 4 < 5) _, Nat.add_lt_add_left (by decide : 2 < 5) _, Nat.add_lt_add_left (by decide : 3 < 5) _, Nat.lt_add_of_pos_right (by decide), Nat.add_lt_add_left (by decide : 1 < 5) _, Nat.lt_of_lt_of_le la (Nat.le_add_right _ _), Nat.lt_of_lt_of_le lb (Nat.le_add_right _ _)⟩
  refine zst_call (s := { s1 with heap := h0 }) (xs := its.toArray) (ys := its2.toArray) (I1.ok.hd hc) (PySem.W.ktu_apart s1.heap.objs.size a b la lb) L ?_ ⟨hTI, ⟨_, _, hTO⟩, h1, h2, p1.isList.at fun o e => hk0 _ o e, p2.isList.at fun o e => hk0 _ o e, .inl hz⟩ fun h' tk acc c as hk hS hl hG hacc => ?_
  · rw [List.size_toArray, List.size_toArray]
    omega
  have kk : ∀ b o, s1.heap.get? b = some o → h'.get? b = some o := fun b o e => by
    have := Heap.lt_size e
    have up : ∀ m, b ≠ s1.heap.objs.size + m := fun m => Nat.ne_of_lt (Nat.lt_of_lt_of_le this (Nat.le_add_right _ _))
    exact hk b o (up 4) (up 3) (up 0) (up 1) (hk0 b o e)
  obtain ⟨H', k1, k2, k3, k4, k5, k6, k7, J⟩ := zip_laid (tk := tk) I1 (by omega) rv rv2 (S := h0.objs.size) (by rw [hsz]; omega) kk hS (by rw [hl, List.size_toArray, List.size_toArray]) hG hacc
  exact ⟨.ref _, H', J, rfl, q1 H' _ as k1 k2 k3 k4 k5 k6 k7⟩
end SH

/-! SH24: zip of three lists. -/
namespace SH
open PySem PySem.Spec PyProof.Rows L2
/-- three lists of one length as they stand at each turn, the items in new triples -/
def ItzC (K : PySem.W.Frag) (a b c : Addr) : It where
  go := fun i H => ∃ (xs ys zs : List V) (x y u : V), SqL K H a xs ∧ SqL K H b ys ∧ SqL K H c zs ∧ xs[i]? = some x ∧ ys[i]? = some y ∧ zs[i]? = some u
  yld := fun i H v H' => ∃ T x y u, v = .ref T ∧ H T = none ∧ H' = upd H T (.tup [x, y, u]) ∧ (∀ xs, SqL K H a xs → xs[i]? = some x) ∧ (∀ ys, SqL K H b ys → ys[i]? = some y) ∧ ∀ zs, SqL K H c zs → zs[i]? = some u
  stop := fun i H => ∃ (xs ys zs : List V), SqL K H a xs ∧ SqL K H b ys ∧ SqL K H c zs ∧ xs.length = i ∧ ys.length = i ∧ zs.length = i
theorem sub6 {q z TI TO i1 i2 i3 : Addr} (m : q ∈ [z, TO, i1, i2, i3]) : q ∈ [z, TI, TO, i1, i2, i3] := by
  simp only [List.mem_cons, List.not_mem_nil, or_false] at m ⊢
  rcases m with e | e | e | e | e
  · exact .inl e
  · exact .inr (.inr (.inl e))
  · exact .inr (.inr (.inr (.inl e)))
  · exact .inr (.inr (.inr (.inr (.inl e))))
  · exact .inr (.inr (.inr (.inr (.inr e))))
theorem turn_zipC {P : Program} {w : World} {K : PySem.W.Frag} {elts : List Expr} {kk : Nat} {tpos : Pos} {a b c z TI TO i1 i2 i3 : Addr} (S : ZipSep3 z TI TO i1 i2 i3 [i1, a] [i2, b] [i3, c]) (n1 : a ≠ i1) (n2 : b ≠ i2) (n3 : c ≠ i3) :
    Turn P w K (.Tuple elts kk tpos) (ItzC K a b c) [z, TI, TO, i1, i2, i3] z (fun i h => IsZip h z TI TO .none ∧ IsTupOf3 h TI (.ref i1) (.ref i2) (.ref i3) ∧ (∃ a1 a2 a3, IsTupOf3 h TO a1 a2 a3) ∧ h.IsListIter i1 a i ∧ h.IsListIter i2 b i ∧ h.IsListIter i3 c i) where
  mem := by simp
  obj := fun i h st q hq => by
    obtain ⟨hz, hTI, ⟨_, _, _, hTO⟩, ⟨o1, e1, _, d1⟩, ⟨o2, e2, _, d2⟩, ⟨o3, e3, _, d3⟩⟩ := st
    rcases (show q = z ∨ q = TI ∨ q = TO ∨ q = i1 ∨ q = i2 ∨ q = i3 by simpa using hq) with rfl | rfl | rfl | rfl | rfl | rfl
    · exact ⟨_, hz, fun v e => nomatch e⟩
    · exact ⟨_, hTI, fun v e => nomatch e⟩
    · exact ⟨_, hTO, fun v e => nomatch e⟩
    · exact ⟨o1, e1, fun v e => by rw [d1] at e; cases e⟩
    · exact ⟨o2, e2, fun v e => by rw [d2] at e; cases e⟩
    · exact ⟨o3, e3, fun v e => by rw [d3] at e; cases e⟩
  keep := fun i h h' st k => by
    obtain ⟨hz, hTI, ⟨a1, a2, a3, hTO⟩, h1, h2, h3⟩ := st
    exact ⟨k z (by simp) _ hz, k TI (by simp) _ hTI, ⟨a1, a2, a3, k TO (by simp) _ hTO⟩, h1.at fun o e => k i1 (by simp) o e, h2.at fun o e => k i2 (by simp) o e, h3.at fun o e => k i3 (by simp) o e⟩
  item := by
    intro X hP hw hK hc i pins s σ H E I hf st hg
    subst hP hw hK
    obtain ⟨hz, hTI, ⟨a1, a2, a3, hTO⟩, h1, h2, h3⟩ := st
    obtain ⟨xs, ys, zs, x, y, u, qx, qy, qz, hx, hy, hu⟩ := hg
    obtain ⟨t1, r1, p1, _⟩ := I.list qx
    obtain ⟨t2, r2, p2, _⟩ := I.list qy
    obtain ⟨t3, r3, p3, _⟩ := I.list qz
    obtain ⟨x', hx', rx⟩ := r1.get hx
    obtain ⟨y', hy', ry⟩ := r2.get hy
    obtain ⟨u', hu', ru⟩ := r3.get hu
    have hh : X.A.in1.handled = none := I.ok.hd hc
    have W := WalksT.zipD3 (A := X.A) S (Draws.list (prog := X.prog) (w := X.w) hh i1 a n1 t1.toArray) (Draws.list (prog := X.prog) (w := X.w) hh i2 b n2 t2.toArray) (Draws.list (prog := X.prog) (w := X.w) hh i3 c n3 t3.toArray)
    have l1 := (List.getElem?_eq_some_iff.mp hx').1
    have l2 := (List.getElem?_eq_some_iff.mp hy').1
    have l3 := (List.getElem?_eq_some_iff.mp hu').1
    refine W.item i s _ E (by simp; omega) ⟨hz, hTI, ⟨a1, a2, a3, hTO⟩, ⟨h1, p1.isList⟩, ⟨h2, p2.isList⟩, ⟨h3, p3.isList⟩⟩ fun T vals h' tk pt hsz hT mid hk => ?_
    obtain ⟨v1, v2, v3, e1, e2, e3, rfl⟩ := pt
    have w1 : v1 = x' := by have : t1[i]? = some v1 := by simpa using e1
                            rw [hx'] at this; exact (Option.some.inj this).symm
    have w2 : v2 = y' := by have : t2[i]? = some v2 := by simpa using e2
                            rw [hy'] at this; exact (Option.some.inj this).symm
    have w3 : v3 = u' := by have : t3[i]? = some v3 := by simpa using e3
                            rw [hu'] at this; exact (Option.some.inj this).symm
    subst w1 w2 w3
    have ap := W.apart i T _ mid
    refine ⟨_, rfl, W.go elts kk tpos i T { s with heap := h', toks := tk } _ E mid fun h'' st2 hk2 => ?_⟩
    obtain ⟨ob, go, gc, nb, gd⟩ := hT
    have new : ObjOk X.prog X.w (upd H T (.tup [x, y, u])) h'' T (.tup [x, y, u]) := ⟨(by decide : 3 ≤ sizeLine), [v1, v2, v3], .cons rx (.cons ry (.cons ru .nil)), ob, hk2 T ob ap go, gc, nb, gd⟩
    have J := I.turnedNew (t' := tk) (ch := [z, TI, TO, i1, i2, i3]) (fun q o hq e => hk2 q o (fun m => hq (sub6 m)) (hk q o (fun m => hq (sub6 m)) e)) hf hsz new
    obtain ⟨f1, f2, f3, ⟨f4, _⟩, ⟨f5, _⟩, ⟨f6, _⟩⟩ := st2
    refine ⟨.ref T, _, J, rfl, ⟨T, x, y, u, rfl, I.hok.fresh hsz, rfl, fun l hl => by rw [I.list_inj hl qx]; exact hx, fun l hl => by rw [I.list_inj hl qy]; exact hy, fun l hl => by rw [I.list_inj hl qz]; exact hu⟩, ⟨f1, f2, f3, f4, f5, f6⟩, fun q hq => ?_⟩
    have below : q < s.heap.objs.size := by
      obtain ⟨_, g1, _⟩ := h1
      obtain ⟨_, g2, _⟩ := h2
      obtain ⟨_, g3, _⟩ := h3
      rcases (show q = z ∨ q = TI ∨ q = TO ∨ q = i1 ∨ q = i2 ∨ q = i3 by simpa using hq) with rfl | rfl | rfl | rfl | rfl | rfl
      · exact Heap.lt_size hz
      · exact Heap.lt_size hTI
      · exact Heap.lt_size hTO
      · exact Heap.lt_size g1
      · exact Heap.lt_size g2
      · exact Heap.lt_size g3
    rw [upd_ne (Nat.ne_of_lt (Nat.lt_of_lt_of_le below hsz))]
    exact (hf q hq).1
  done := by
    intro X hP hw hK hc i pins s σ H E I hf st hg
    subst hP hw hK
    obtain ⟨hz, hTI, ⟨a1, a2, a3, hTO⟩, h1, h2, h3⟩ := st
    obtain ⟨xs, ys, zs, qx, qy, qz, k1, k2, k3⟩ := hg
    obtain ⟨t1, r1, p1, _⟩ := I.list qx
    obtain ⟨t2, r2, p2, _⟩ := I.list qy
    obtain ⟨t3, r3, p3, _⟩ := I.list qz
    have l1 := r1.length
    have l2 := r2.length
    have l3 := r3.length
    have hh : X.A.in1.handled = none := I.ok.hd hc
    have W := WalksT.zipD3 (A := X.A) S (Draws.list (prog := X.prog) (w := X.w) hh i1 a n1 t1.toArray) (Draws.list (prog := X.prog) (w := X.w) hh i2 b n2 t2.toArray) (Draws.list (prog := X.prog) (w := X.w) hh i3 c n3 t3.toArray)
    have en : min (min t1.toArray.size t2.toArray.size) t3.toArray.size = i := by simp; omega
    rw [en] at W
    exact W.done s _ E ⟨hz, hTI, ⟨a1, a2, a3, hTO⟩, ⟨h1, p1.isList⟩, ⟨h2, p2.isList⟩, ⟨h3, p3.isList⟩⟩ fun h' tk hk => ⟨rfl, I.turnedL (t' := tk) (ch := [z, TI, TO, i1, i2, i3]) (fun q o hq e => hk q o (fun m => hq (sub6 m)) e) hf⟩
  self := fun A i s Q E st h => wpAny_pyIter_zip st.1 h
def iZipC (K : PySem.W.Frag) (ta : TA) : TI := fun σ H R => ta σ H fun vs H1 => ∃ (a b c : Addr) (xs ys zs : List V), vs = [.ref a, .ref b, .ref c] ∧ SqL K H1 a xs ∧ SqL K H1 b ys ∧ SqL K H1 c zs ∧ R (ItzC K a b c) H1
theorem pi_zipC {X : Cx} {e1 e2 e3 : Expr} {ta : TA} {p pos tpos : Pos} {elts : List Expr} {kk : Nat} (hg : Gl X "zip") (hm : X.mg "zip" = none) (ha : PA X [e1, e2, e3] ta)
    (hs : starEach [e1, e2, e3] X.env = (false, eval e1 X.env) :: starEach [e2, e3] X.env := by rfl) (hpl : (backTo pos (starEach [e2, e3] X.env)).any (·.1) = false := by rfl) :
    PI X (.Tuple elts kk tpos) (.Call (.Name "zip" p) [e1, e2, e3] [] pos) (iZipC X.K ta) := by
  refine ⟨fun pins s σ H R I h => ?_⟩
  refine Call_ (ld_blt I hg hm PyProof.Rows.boot_zip (PyProof.Rows.callWith_type1 (thn (ha.run pos pins s σ H _ I h) fun us s1 ⟨vs, H1, J, r, q⟩ => ?_) hs hpl))
  obtain ⟨a, b, c, xs, ys, zs, rfl, qx, qy, qz, q⟩ := q
  cases r with
  | cons ra r =>
    cases r with
    | cons rb r =>
      cases r with
      | cons rc r =>
        cases r
        cases ra
        cases rb
        cases rc
        obtain ⟨t1, _, p1, _⟩ := J.list qx
        obtain ⟨t2, _, p2, _⟩ := J.list qy
        obtain ⟨t3, _, p3, _⟩ := J.list qz
        have young : ∀ q, q ∈ [s1.heap.objs.size + 5, s1.heap.objs.size + 3, s1.heap.objs.size + 4, s1.heap.objs.size, s1.heap.objs.size + 1, s1.heap.objs.size + 2] → FpOk X pins H1 q := fun q hq => by
          have le : s1.heap.objs.size ≤ q := by
            simp only [List.mem_cons, List.not_mem_nil, or_false] at hq
            rcases hq with rfl | rfl | rfl | rfl | rfl | rfl
            · exact Nat.le_add_right _ _
            · exact Nat.le_add_right _ _
            · exact Nat.le_add_right _ _
            · exact Nat.le_refl _
            · exact Nat.le_add_right _ _
            · exact Nat.le_add_right _ _
          exact J.fpOk le (J.hok.fresh le)
        refine zip_begins3 (begins_list a t1.toArray) (begins_list b t2.toArray) (begins_list c t3.toArray) p1.isList p2.isList p3.isList fun h' hz hTI hTO g1 g2 g3 _ hk => wpAny_pyIter_zip hz ?_
        have low : ∀ {v : Addr}, v < s1.heap.objs.size → ∀ q ∈ [v], q < s1.heap.objs.size := fun hv q hq => by rw [List.mem_singleton.mp hq]; exact hv
        have ne0 : ∀ {v : Addr} (k : Nat), v < s1.heap.objs.size → v ≠ s1.heap.objs.size + k := fun {v} k hv => Nat.ne_of_lt (Nat.lt_of_lt_of_le hv (Nat.le_add_right _ _))
        exact ⟨s1.heap.objs.size + 5, _, _, _, H1, rfl, J.kept (t' := s1.toks) hk, turn_zipC (zip_sep3 (N := s1.heap.objs.size) (low p1.lt) (low p2.lt) (low p3.lt)) (ne0 0 p1.lt) (ne0 1 p2.lt) (ne0 2 p3.lt), ⟨hz, hTI, ⟨_, _, _, hTO⟩, ⟨_, g1, rfl, rfl⟩, ⟨_, g2, rfl, rfl⟩, ⟨_, g3, rfl, rfl⟩⟩, young, q⟩
section
variable {K : PySem.W.Frag} {D : Addr} {σ : L2.St} {H : Hp} {vs : List Nat} {tt : TT} {te : TE} {Qd : Hp → Prop}
/-- [.. for a, b, c in zip(xs, ys, zs) ..], lists of one length, in words of the index -/
theorem lcZ3n {a b c : Addr} {xs ys zs : List V} {j1 j2 j3 : Nat} (keep : Nat → Bool) (val : Nat → V) (hx : SqL K H a xs) (hy : SqL K H b ys) (hz : SqL K H c zs) (e1 : xs.length = ys.length) (e2 : xs.length = zs.length) (hD : H D = none) (hn : xs.length < 100000)
    (hw : ∀ x y u, wipe ((((wipe σ vs).set j1 (some x)).set j2 (some y)).set j3 (some u)) vs = wipe σ vs)
    (ht : ∀ i x y u H2 (Q : Bool → Hp → Prop), xs[i]? = some x → ys[i]? = some y → zs[i]? = some u → Same H H2 → (∀ H3, Same H2 H3 → Q (keep i) H3) → tt ((((wipe σ vs).set j1 (some x)).set j2 (some y)).set j3 (some u)) H2 Q)
    (he : ∀ i x y u H2 (Q : VK), xs[i]? = some x → ys[i]? = some y → zs[i]? = some u → keep i = true → Same H H2 → (∀ H3, Same H2 H3 → Q (val i) H3) → te ((((wipe σ vs).set j1 (some x)).set j2 (some y)).set j3 (some u)) H2 Q)
    (hd : ∀ H', Same H H' → H' D = some (.lst (gives xs.length keep val)) → Qd H') :
    ∃ W : Nat → Nat → Hp → Prop, (∃ m, W 0 m (upd H D (.lst []))) ∧ ∀ i m H, W i m H →
      ((ItzC K a b c).stop i H ∧ Qd H) ∨ ((ItzC K a b c).go i H ∧ ∃ Nx : Hp → Prop, (∀ H', Nx H' → ∃ m', m' < m ∧ W (i + 1) m' H') ∧
        ∀ x H', (ItzC K a b c).yld i H x H' → gTup K 3 (gCons (gName j1) (gCons (gName j2) (gCons (gName j3) gNil))) x (wipe σ vs) H' fun σ2 H2 => wipe σ2 vs = wipe σ vs ∧ tt σ2 H2 fun b H3 =>
          if b = true then te σ2 H3 fun y H4 => ∃ acc, H4 D = some (.lst acc) ∧ acc.length < sizeLine ∧ Nx (upd H4 D (.lst (acc ++ [y]))) else Nx H3) := by
  refine ⟨fun i m G => m = xs.length - i ∧ i ≤ xs.length ∧ Same H G ∧ G D = some (.lst (gives i keep val)), ⟨_, rfl, Nat.zero_le _, Same.new hD, upd_same⟩, ?_⟩
  rintro i m G ⟨rfl, hi, sG, hG⟩
  rcases Nat.lt_or_ge i xs.length with lt | ge
  · have k1 := List.getElem?_eq_getElem lt
    have k2 : ys[i]? = some ys[i] := List.getElem?_eq_getElem (by omega)
    have k3 : zs[i]? = some zs[i] := List.getElem?_eq_getElem (by omega)
    refine .inr ⟨⟨xs, ys, zs, _, _, _, sG.seq hx, sG.seq hy, sG.seq hz, k1, k2, k3⟩, fun G' => Same H G' ∧ G' D = some (.lst (gives (i + 1) keep val)), fun G' p => ⟨xs.length - (i + 1), by omega, rfl, lt, p.1, p.2⟩, ?_⟩
    rintro v G' ⟨T, x, y, u, rfl, fT, rfl, fx, fy, fu⟩
    have sT := sG.trans (Same.new (o := .tup [x, y, u]) fT)
    have gT := Same.new (o := .tup [x, y, u]) fT _ _ hG
    refine ⟨T, _, rfl, SqT.of upd_same, rfl, _, _, rfl, _, _, rfl, _, _, rfl, rfl, hw _ _ _, ?_⟩
    exact lc_turnS hD lt hn sT gT (fun Q q => ht i x y u _ Q (fx xs (sG.seq hx)) (fy ys (sG.seq hy)) (fu zs (sG.seq hz)) sT q) (fun H3 s3 Q k q => he i x y u H3 Q (fx xs (sG.seq hx)) (fy ys (sG.seq hy)) (fu zs (sG.seq hz)) k (sT.trans s3) q)
  · obtain rfl : i = xs.length := Nat.le_antisymm hi ge
    exact .inl ⟨⟨xs, ys, zs, sG.seq hx, sG.seq hy, sG.seq hz, rfl, e1.symm, e2.symm⟩, hd G sG hG⟩
end
end SH

namespace SH
open PySem PySem.Spec PyProof.Rows L2
def topS (i : Nat) : Stmt := PySem.Challenge.pw_stickyheads_k43_errors_of_folds.main.body.getD i (.Pass ⟨0, 0, 0, 0⟩)

/-! ### outlines as lists of ints -/
def okFrom : Int → List Int → Bool
  | _, [] => true
  | g, d :: r => decide (0 ≤ d) && decide (d ≤ g) && okFrom (d + 1) r
def isO (ns : List Int) : Bool := decide (1 ≤ ns.length) && decide (ns.length ≤ 200) && okFrom 0 ns
/-- the greatest depth that may stand at place i -/
def gAt (ns : List Int) : Nat → Int
  | 0 => 0
  | i + 1 => ns.getD i 0 + 1
theorem okFrom_drop {ns : List Int} {i : Nat} (h : i < ns.length) (g : Int) : okFrom g (ns.drop i) =
    (decide (0 ≤ ns.getD i 0) && decide (ns.getD i 0 ≤ g) && okFrom (ns.getD i 0 + 1) (ns.drop (i + 1))) := by
  rw [List.drop_eq_getElem_cons h, List.getD_eq_getElem?_getD, List.getElem?_eq_getElem h]
  rfl
theorem okFrom_at {ns : List Int} : ∀ {g : Int} {i : Nat}, okFrom g ns = true → i < ns.length →
    0 ≤ ns.getD i 0 ∧ (∀ j, i = j + 1 → ns.getD i 0 ≤ ns.getD j 0 + 1) ∧ (i = 0 → ns.getD i 0 ≤ g) := by
  induction ns with
  | nil => intro g i _ h; exact absurd h (Nat.not_lt_zero _)
  | cons d r ih =>
    intro g i h hi
    simp only [okFrom, Bool.and_eq_true, decide_eq_true_eq] at h
    cases i with
    | zero => exact ⟨h.1.1, fun j e => by omega, fun _ => h.1.2⟩
    | succ i =>
      have hi' : i < r.length := Nat.lt_of_succ_lt_succ hi
      obtain ⟨a, b, c⟩ := ih (i := i) h.2 hi'
      refine ⟨a, fun j e => ?_, fun e => by omega⟩
      obtain rfl : i = j := by omega
      cases i with
      | zero => exact c rfl
      | succ i => exact b i rfl
theorem okFrom_of {ns : List Int} : ∀ {g : Int}, (∀ i, i < ns.length → 0 ≤ ns.getD i 0 ∧ (∀ j, i = j + 1 → ns.getD i 0 ≤ ns.getD j 0 + 1) ∧ (i = 0 → ns.getD i 0 ≤ g)) → okFrom g ns = true := by
  induction ns with
  | nil => intro g _; rfl
  | cons d r ih =>
    intro g h
    simp only [okFrom, Bool.and_eq_true, decide_eq_true_eq]
    obtain ⟨a, _, c⟩ := h 0 (Nat.zero_lt_succ _)
    refine ⟨⟨a, c rfl⟩, ih fun i hi => ?_⟩
    obtain ⟨a', b', _⟩ := h (i + 1) (Nat.succ_lt_succ hi)
    refine ⟨a', fun j e => ?_, fun e => ?_⟩
    · subst e
      exact b' (j + 1) rfl
    · subst e
      exact b' 0 rfl
theorem isO_iff {ns : List Int} : isO ns = true ↔ 1 ≤ ns.length ∧ ns.length ≤ 200 ∧ okFrom 0 ns = true := by
  unfold isO
  rw [Bool.and_eq_true, Bool.and_eq_true, decide_eq_true_eq, decide_eq_true_eq, and_assoc]

abbrev s_is_integer_from : Stmt := topS 21
abbrev N_is_integer_from : List Str := ["value", "least"]
abbrev P_is_integer_from : List Str := ["value", "least"]
theorem sc_is_integer_from : FnScope N_is_integer_from P_is_integer_from (defScope s_is_integer_from) := ⟨rfl, rfl, rfl, by decide +kernel, rfl, by decide +kernel, by decide +kernel⟩
abbrev s_is_integer_within : Stmt := topS 22
abbrev N_is_integer_within : List Str := ["value", "least", "greatest"]
abbrev P_is_integer_within : List Str := ["value", "least", "greatest"]
theorem sc_is_integer_within : FnScope N_is_integer_within P_is_integer_within (defScope s_is_integer_within) := ⟨rfl, rfl, rfl, by decide +kernel, rfl, by decide +kernel, by decide +kernel⟩
abbrev s_is_outline : Stmt := topS 26
abbrev N_is_outline : List Str := ["value", "greatest", "depth"]
abbrev P_is_outline : List Str := ["value"]
theorem sc_is_outline : FnScope N_is_outline P_is_outline (defScope s_is_outline) := ⟨rfl, rfl, rfl, by decide +kernel, rfl, by decide +kernel, by decide +kernel⟩
/-! ### values of any kind: is it an int within bounds, is it an outline -/
def geD (d : PyData) (a : Int) : Bool := match d with | .int v => decide (a ≤ v) | _ => false
def inD (d : PyData) (a b : Int) : Bool := match d with | .int v => decide (a ≤ v) && decide (v ≤ b) | _ => false
def nextD (d : PyData) : Int := match d with | .int v => v + 1 | _ => 0
def okFromD : Int → List PyData → Bool
  | _, [] => true
  | g, d :: r => inD d 0 g && okFromD (nextD d) r
def isOD (d : PyData) : Bool := match d with | .list ds => decide (1 ≤ ds.length) && decide (ds.length ≤ 200) && okFromD 0 ds | _ => false
theorem okFromD_ints : ∀ (ns : List Int) (g : Int), okFromD g (ns.map PyData.int) = okFrom g ns
  | [], _ => rfl
  | n :: r, g => by
    show (inD (.int n) 0 g && okFromD (nextD (.int n)) (r.map PyData.int)) = _
    rw [okFromD_ints r]
    rfl
theorem isOD_dI (ns : List Int) : isOD (dI ns) = isO ns := by
  show (decide (1 ≤ (ns.map PyData.int).length) && decide ((ns.map PyData.int).length ≤ 200) && okFromD 0 (ns.map PyData.int)) = _
  rw [okFromD_ints, List.length_map]
  rfl
theorem inD_int {d : PyData} {a b : Int} (h : inD d a b = true) : ∃ v, d = .int v ∧ a ≤ v ∧ v ≤ b := by
  cases d with
  | int v =>
    have h' : (decide (a ≤ v) && decide (v ≤ b)) = true := h
    rw [Bool.and_eq_true, decide_eq_true_eq, decide_eq_true_eq] at h'
    exact ⟨v, rfl, h'.1, h'.2⟩
  | _ => exact absurd h Bool.false_ne_true
/-- the greatest depth that may stand at place i -/
def gD (ds : List PyData) : Nat → Int
  | 0 => 0
  | i + 1 => nextD (ds.getD i .none)
theorem okFromD_drop {ds : List PyData} {i : Nat} {d : PyData} (h : ds[i]? = some d) (g : Int) : okFromD g (ds.drop i) = (inD d 0 g && okFromD (nextD d) (ds.drop (i + 1))) := by
  obtain ⟨hl, e⟩ := List.getElem?_eq_some_iff.mp h
  rw [List.drop_eq_getElem_cons hl, e]
  rfl
theorem getD_of {ds : List PyData} {i : Nat} {d : PyData} (h : ds[i]? = some d) : ds.getD i .none = d := by
  rw [List.getD_eq_getElem?_getD, h]
  rfl
section
variable {P : Program} {w : World} {K : PySem.W.Frag} {mg : Str → Option Value} {base : Heap}
def sp_fromX : Sp := fun vs H Q _ => ∃ (x : V) (d : PyData) (as : List Addr) (a : Int), vs = [x, .int a] ∧ Dx H x d as ∧ Q (.bl (geD d a)) H
theorem ok_is_integer_from (T : Txt mg) (h : At K mg "is_integer_from" s_is_integer_from) :
    Has P w K mg base CX0 1 "is_integer_from" s_is_integer_from P_is_integer_from sp_fromX := by
  refine Has.of h sc_is_integer_from (fun vs H Q E h => ?_) (fun _ _ _ _ _ _ us hl => match us, hl with | [_, _], _ => rfl) (fun f cdv A outer s H vs Q E room qt h => ?_)
  · obtain ⟨v, d, as, a, rfl, _⟩ := h; rfl
  obtain ⟨x, d, as, a, rfl, hd, k⟩ := h
  refine ⟨_, (pss_one (ps_ret (pe_and (pe_callB call_isX (by rfl) T.isinstance (by decide +kernel) (pa_cons (pv 0) (pa_cons (pe_bltn (v := .ty "int") (u := .type "int") (by rfl) T.tint (by decide +kernel) rfl) pa_nil))) (pe_and (pe_not (pe_callB call_isX (by rfl) T.isinstance (by decide +kernel) (pa_cons (pv 0) (pa_cons (pe_bltn (v := .ty "bool") (u := .type "bool") (by rfl) T.bool (by decide +kernel) rfl) pa_nil)))) (pe_one (pe_cmpR op_ge (pv 0) (pv 1) (nomark _))))))), ?_⟩
  refine ⟨_, rfl, x, "int", d, as, _, rfl, hd, kit_int d, _, rfl, ?_⟩
  cases hd with
  | int v => exact iteT ⟨_, rfl, .int v, "bool", _, _, _, rfl, .int v, kit_bool _, _, rfl, _, rfl, iteT ⟨_, rfl, _, rfl, _, _, rfl, rfl, k⟩⟩
  | bl b => exact iteT ⟨_, rfl, .bl b, "bool", _, _, _, rfl, .bl b, kit_bool _, _, rfl, _, rfl, iteF k⟩
  | non => exact iteF k
  | str _ => exact iteF k
  | lst _ _ => exact iteF k
  | tup _ _ => exact iteF k
  | emp _ => exact iteF k
def sp_withinX : Sp := fun vs H Q _ => ∃ (x : V) (d : PyData) (as : List Addr) (a b : Int), vs = [x, .int a, .int b] ∧ Dx H x d as ∧ Q (.bl (inD d a b)) H
theorem ok_is_integer_within (T : Txt mg) (h : At K mg "is_integer_within" s_is_integer_within)
    (g_is_integer_from : Has P w K mg base CX0 1 "is_integer_from" s_is_integer_from P_is_integer_from sp_fromX) :
    Has P w K mg base CX0 2 "is_integer_within" s_is_integer_within P_is_integer_within sp_withinX := by
  refine Has.of h sc_is_integer_within (fun vs H Q E h => ?_) (fun _ _ _ _ _ _ us hl => match us, hl with | [_, _, _], _ => rfl) (fun f cdv A outer s H vs Q E room qt h => ?_)
  · obtain ⟨v, d, as, a, b, rfl, _⟩ := h; rfl
  obtain ⟨x, d, as, a, b, rfl, hd, k⟩ := h
  refine ⟨_, (pss_one (ps_ret (pe_and (pe_has g_is_integer_from (room.mono (by decide)) qt (by rfl) pass0 (pa_cons (pv 0) (pa_cons (pv 1) pa_nil))) (pe_one (pe_cmpR op_le (pv 0) (pv 2) (nomark _)))))), ?_⟩
  refine ⟨_, rfl, _, rfl, x, d, as, a, rfl, hd, _, rfl, ?_⟩
  cases hd with
  | int v =>
    show if decide (a ≤ v) = true then _ else _
    have k' : Q (.bl (decide (a ≤ v) && decide (v ≤ b))) H := k
    by_cases c : a ≤ v
    · rw [decide_eq_true c] at k' ⊢
      rw [Bool.true_and] at k'
      exact iteT ⟨_, rfl, _, rfl, _, _, rfl, rfl, k'⟩
    · rw [decide_eq_false c] at k' ⊢
      rw [Bool.false_and] at k'
      exact iteF k'
  | _ => exact iteF k
def sp_is_outlineX : Sp := fun vs H Q _ => ∃ (x : V) (d : PyData) (as : List Addr), vs = [x] ∧ Dx H x d as ∧ Q (.bl (isOD d)) H
theorem ok_is_outline {t : Tok} (T : Txt mg) (c_MOST_LINES : mg "MOST_LINES" = some (.int 200 t)) (h : At K mg "is_outline" s_is_outline)
    (g_is_integer_within : Has P w K mg base CX0 2 "is_integer_within" s_is_integer_within P_is_integer_within sp_withinX) :
    Has P w K mg base CX0 3 "is_outline" s_is_outline P_is_outline sp_is_outlineX := by
  refine Has.of h sc_is_outline (fun vs H Q E h => ?_) (fun _ _ _ _ _ _ us hl => match us, hl with | [_], _ => rfl) (fun f cdv A outer s H vs Q E room qt h => ?_)
  · obtain ⟨v, a, as, rfl, _⟩ := h; rfl
  obtain ⟨x, d, as, rfl, hd, k⟩ := h
  refine ⟨_, (pss_cons (ps_if (PW.pt (pw_or (pt_cmpR op_neTy (pe_callTy call_typeX (by rfl) T.ttype (by decide +kernel) (pa_cons (pv 0) pa_nil)) (pe_bltn (v := .ty "list") (u := .type "list") (by rfl) T.tlist (by decide +kernel) rfl) (nomark _)) (pw_or1 (pt_not (pt_chain op_le op_le pe_int (pe_callB call_len_seq (by rfl) T.len (by decide +kernel) (pa_cons (pv 0) pa_nil)) (pe_glob (v := .int 200) rfl c_MOST_LINES ⟨_, rfl⟩))))))
        (pss_one (ps_ret pe_bl))
        pss_nil)
      (pss_cons (ps_set (i := 1) sc_is_outline.nd rfl (Or.inl rfl) pe_int)
      (pss_cons (ps_for PassesOwn.never rfl (pi_list (pv 0)) (pg_name (i := 2) sc_is_outline.nd rfl (Or.inl rfl) (hf := Or.inl rfl))
        (pss_cons (ps_if (pt_not (pt_val (pe_has g_is_integer_within (room.mono (by decide)) qt (by rfl) pass0 (pa_cons (pv 2) (pa_cons pe_int (pa_cons (pv 1) pa_nil))))))
          (pss_one (ps_ret pe_bl))
          pss_nil)
        (pss_one (ps_set (i := 1) sc_is_outline.nd rfl (Or.inl rfl) (pe_op op_add (pv 2) pe_int)))))
      (pss_one (ps_ret pe_bl))))), ?_⟩
  refine ⟨_, rfl, x, d, as, rfl, hd, _, _, rfl, rfl, ?_⟩
  have other : tyD d ≠ "list" → isOD d = false := fun e => by
    cases d with
    | list ds => exact absurd rfl e
    | _ => rfl
  refine ⟨by cases d <;> (simp only [tyD]; decide), by decide, _, rfl, ite2 (fun c => ?_) (fun c => ?_)⟩
  · rw [other (of_decide_eq_true c)] at k
    exact k
  cases hd with
  | @lst a xs ds as ha hx =>
    have el := hx.len
    refine ⟨_, rfl, _, _, rfl, .inl (SqL.of ha), _, _, rfl, rfl, _, rfl, ?_⟩
    have no : isOD (.list ds) = false → Q (.bl false) H := fun e => by rw [← e]; exact k
    refine ite2 (fun c => ?_) (fun c => ?_)
    · have c1 := of_decide_eq_true c
      refine ⟨_, _, rfl, rfl, _, rfl, ite2 (fun d => ?_) (fun d => ?_)⟩
      · refine no ?_
        have d1 : ¬ ds.length ≤ 200 := fun z => by rw [decide_eq_true (by omega)] at d; cases d
        show (decide (1 ≤ ds.length) && decide (ds.length ≤ 200) && okFromD 0 ds) = false
        rw [decide_eq_false d1, Bool.and_false, Bool.false_and]
      · have d1 : ds.length ≤ 200 := by
          by_cases z : ds.length ≤ 200
          · exact z
          · exact (d (by rw [decide_eq_false (by omega)]; rfl)).elim
        have e0 : isOD (.list ds) = okFromD 0 ds := by
          show (decide (1 ≤ ds.length) && decide (ds.length ≤ 200) && okFromD 0 ds) = _
          rw [decide_eq_true (by omega), decide_eq_true d1, Bool.true_and, Bool.true_and]
        rw [e0] at k
        refine ⟨_, rfl, a, rfl, ⟨_, SqL.of ha⟩, for_list (K := K) (a := a) (xs := xs)
          (fun i σ H2 => H2 = H ∧ (∃ v, σ = [some (.ref a), some (.int (gD ds i)), v]) ∧ okFromD (gD ds i) (ds.drop i) = okFromD 0 ds)
          ⟨rfl, ⟨_, rfl⟩, rfl⟩ (fun i σ H2 _ q => by rw [q.1]; exact SqL.of ha) ?_ ?_⟩
        · rintro i x σ H2 hi ⟨rfl, ⟨v, rfl⟩, q⟩
          obtain ⟨e, bs, he, hxe⟩ := hx.at hi
          rw [okFromD_drop he] at q
          refine ⟨_, rfl, _, rfl, x, e, bs, _, _, rfl, hxe, _, rfl, ite2 (fun d => ?_) (fun d => ?_)⟩
          · rw [bnot_t d, Bool.false_and] at q
            rw [← q] at k
            exact k
          · have d' := bnot_f d
            rw [d', Bool.true_and] at q
            obtain ⟨v, rfl, _, _⟩ := inD_int d'
            cases hxe
            have eg : gD ds (i + 1) = v + 1 := by show nextD (ds.getD i .none) = _; rw [getD_of he]; rfl
            rw [eg]
            exact ⟨_, rfl, _, _, rfl, rfl, rfl, ⟨_, rfl⟩, q⟩
        · rintro σ H2 ⟨rfl, ⟨v, rfl⟩, q⟩
          rw [el, List.drop_length] at q
          rw [← q] at k
          exact k
    · refine ⟨_, rfl, iteT (no ?_)⟩
      have c1 : ¬ 1 ≤ ds.length := fun z => c (decide_eq_true (by omega))
      show (decide (1 ≤ ds.length) && decide (ds.length ≤ 200) && okFromD 0 ds) = false
      rw [decide_eq_false c1, Bool.false_and, Bool.false_and]
  | _ => exact absurd rfl c
end
abbrev s_check_outline : Stmt := topS 27
abbrev N_check_outline : List Str := ["outline"]
abbrev P_check_outline : List Str := ["outline"]
theorem sc_check_outline : FnScope N_check_outline P_check_outline (defScope s_check_outline) := ⟨rfl, rfl, rfl, by decide +kernel, rfl, by decide +kernel, by decide +kernel⟩
abbrev s_check_line : Stmt := topS 28
abbrev N_check_line : List Str := ["outline", "line"]
abbrev P_check_line : List Str := ["outline", "line"]
theorem sc_check_line : FnScope N_check_line P_check_line (defScope s_check_line) := ⟨rfl, rfl, rfl, by decide +kernel, rfl, by decide +kernel, by decide +kernel⟩
abbrev s_check_height : Stmt := topS 32
abbrev N_check_height : List Str := ["height"]
abbrev P_check_height : List Str := ["height"]
theorem sc_check_height : FnScope N_check_height P_check_height (defScope s_check_height) := ⟨rfl, rfl, rfl, by decide +kernel, rfl, by decide +kernel, by decide +kernel⟩
theorem okFromD_int : ∀ {ds : List PyData} {g : Int}, okFromD g ds = true → ∃ ns : List Int, ds = ns.map PyData.int
  | [], _, _ => ⟨[], rfl⟩
  | d :: r, g, h => by
    have h' : (inD d 0 g && okFromD (nextD d) r) = true := h
    rw [Bool.and_eq_true] at h'
    obtain ⟨v, rfl, _, _⟩ := inD_int h'.1
    obtain ⟨ns, rfl⟩ := okFromD_int h'.2
    exact ⟨v :: ns, rfl⟩
theorem isOD_ints {d : PyData} (h : isOD d = true) : ∃ ns : List Int, d = dI ns ∧ isO ns = true := by
  cases d with
  | list ds =>
    have h' : (decide (1 ≤ ds.length) && decide (ds.length ≤ 200) && okFromD 0 ds) = true := h
    rw [Bool.and_eq_true] at h'
    obtain ⟨ns, rfl⟩ := okFromD_int h'.2
    exact ⟨ns, rfl, by rw [← isOD_dI]; exact h⟩
  | _ => exact absurd h Bool.false_ne_true
theorem DxAll.ints {H : Hp} : ∀ {ns : List Int} {xs : List V} {as : List Addr}, DxAll H xs (ns.map PyData.int) as → xs = iv ns
  | [], _, _, h => by cases h; rfl
  | n :: r, _, _, h => by
    cases h with
    | cons a b =>
      cases a
      rw [b.ints]
      rfl
theorem Dx.ints {H : Hp} {x : V} {ns : List Int} {as : List Addr} (h : Dx H x (dI ns) as) : ∃ a, x = .ref a ∧ H a = some (.lst (iv ns)) := by
  cases h with
  | lst e r => exact ⟨_, rfl, by rw [e, r.ints]⟩
/-- a value is a line of an outline with so many lines -/
def lineD (n : Nat) (d : PyData) : Bool := inD d 0 ((n : Int) - 1)
theorem lineD_int {n : Nat} {d : PyData} (h : lineD n d = true) : ∃ i : Nat, d = .int i ∧ i < n := by
  obtain ⟨v, rfl, v0, v1⟩ := inD_int h
  exact ⟨v.toNat, by rw [Int.toNat_of_nonneg v0], by omega⟩
section
variable {P : Program} {w : World} {K : PySem.W.Frag} {mg : Str → Option Value} {base : Heap}
def sp_chkO (C : Addr) : Sp := fun vs H Q E => ∃ (x : V) (d : PyData) (as : List Addr), vs = [x] ∧ Dx H x d as ∧ (isOD d = true → Q .non H) ∧ (isOD d = false → E (.ref C) none H)
theorem ok_check_outline {C_InvalidOutlineError : Addr} (T : Txt mg) (e_InvalidOutlineError : Err K mg "InvalidOutlineError" C_InvalidOutlineError) (h : At K mg "check_outline" s_check_outline)
    (g_is_outline : Has P w K mg base CX0 3 "is_outline" s_is_outline P_is_outline sp_is_outlineX) :
    Has P w K mg base (L2N.CX P w) 4 "check_outline" s_check_outline P_check_outline (sp_chkO C_InvalidOutlineError) := by
  refine Has.ofN h sc_check_outline (fun vs H Q E h => ?_) (fun _ _ _ _ _ _ us hl => match us, hl with | [_], _ => rfl) (fun f cdv A outer s H vs Q E room qt h => ?_)
  · obtain ⟨v, d, as, rfl, _⟩ := h; rfl
  obtain ⟨x, d, as, rfl, hd, k1, k2⟩ := h
  refine ⟨_, (pss_one (ps_if (pt_not (pt_val (pe_has g_is_outline (room.mono (by decide)) qt (by rfl) pass0 (pa_cons (pv 0) pa_nil))))
        (pss_one (ps_raiseN e_InvalidOutlineError rfl (L2N.takes_of rfl rfl rfl rfl) (by rfl)))
        pss_nil)), ?_⟩
  refine ⟨_, rfl, x, d, as, rfl, hd, _, rfl, ?_⟩
  cases c : isOD d with
  | true => exact iteF (k1 c)
  | false => exact iteT (k2 c)
def sp_chkL (K : PySem.W.Frag) (C : Addr) : Sp := fun vs H Q E => ∃ (a : Addr) (ns : List Int) (x : V) (d : PyData) (as : List Addr), vs = [.ref a, x] ∧ SqL K H a (iv ns) ∧ Dx H x d as ∧ (lineD ns.length d = true → Q .non H) ∧ (lineD ns.length d = false → E (.ref C) none H)
theorem ok_check_line {C_InvalidLineError : Addr} (T : Txt mg) (e_InvalidLineError : Err K mg "InvalidLineError" C_InvalidLineError) (h : At K mg "check_line" s_check_line)
    (g_is_integer_within : Has P w K mg base CX0 2 "is_integer_within" s_is_integer_within P_is_integer_within sp_withinX) :
    Has P w K mg base (L2N.CX P w) 3 "check_line" s_check_line P_check_line (sp_chkL K C_InvalidLineError) := by
  refine Has.ofN h sc_check_line (fun vs H Q E h => ?_) (fun _ _ _ _ _ _ us hl => match us, hl with | [_, _], _ => rfl) (fun f cdv A outer s H vs Q E room qt h => ?_)
  · obtain ⟨a, ns, x, d, as, rfl, _⟩ := h; rfl
  obtain ⟨a, ns, x, d, as, rfl, ha, hd, k1, k2⟩ := h
  have el : (iv ns).length = ns.length := List.length_map _
  refine ⟨_, (pss_one (ps_if (pt_not (pt_val (pe_has g_is_integer_within (room.mono (by decide)) qt (by rfl) pass0 (pa_cons (pv 1) (pa_cons pe_int (pa_cons (pe_op op_sub (pe_callB call_len_seq (by rfl) T.len (by decide +kernel) (pa_cons (pv 0) pa_nil)) pe_int) pa_nil))))))
        (pss_one (ps_raiseN e_InvalidLineError rfl (L2N.takes_of rfl rfl rfl rfl) (by rfl)))
        pss_nil)), ?_⟩
  refine ⟨_, rfl, _, rfl, a, _, rfl, .inl ha, _, _, rfl, rfl, x, d, as, _, _, rfl, hd, _, rfl, ?_⟩
  rw [el]
  cases c : lineD ns.length d with
  | true =>
    rw [show inD d 0 ((ns.length : Int) - 1) = true from c]
    exact iteF (k1 c)
  | false =>
    rw [show inD d 0 ((ns.length : Int) - 1) = false from c]
    exact iteT (k2 c)
def sp_chkH (C : Addr) : Sp := fun vs H Q E => ∃ (x : V) (d : PyData) (as : List Addr), vs = [x] ∧ Dx H x d as ∧ (inD d 1 400 = true → Q .non H) ∧ (inD d 1 400 = false → E (.ref C) none H)
theorem ok_check_height {t : Tok} {C_InvalidHeightError : Addr} (T : Txt mg) (e_InvalidHeightError : Err K mg "InvalidHeightError" C_InvalidHeightError) (c_MOST_ROWS : mg "MOST_ROWS" = some (.int 400 t)) (h : At K mg "check_height" s_check_height)
    (g_is_integer_within : Has P w K mg base CX0 2 "is_integer_within" s_is_integer_within P_is_integer_within sp_withinX) :
    Has P w K mg base (L2N.CX P w) 3 "check_height" s_check_height P_check_height (sp_chkH C_InvalidHeightError) := by
  refine Has.ofN h sc_check_height (fun vs H Q E h => ?_) (fun _ _ _ _ _ _ us hl => match us, hl with | [_], _ => rfl) (fun f cdv A outer s H vs Q E room qt h => ?_)
  · obtain ⟨x, d, as, rfl, _⟩ := h; rfl
  obtain ⟨x, d, as, rfl, hd, k1, k2⟩ := h
  refine ⟨_, (pss_one (ps_if (pt_not (pt_val (pe_has g_is_integer_within (room.mono (by decide)) qt (by rfl) pass0 (pa_cons (pv 0) (pa_cons pe_int (pa_cons (pe_glob (v := .int 400) rfl c_MOST_ROWS ⟨_, rfl⟩) pa_nil))))))
        (pss_one (ps_raiseN e_InvalidHeightError rfl (L2N.takes_of rfl rfl rfl rfl) (by rfl)))
        pss_nil)), ?_⟩
  refine ⟨_, rfl, x, d, as, 1, 400, rfl, hd, _, rfl, ?_⟩
  cases c : inD d 1 400 with
  | true => exact iteF (k1 c)
  | false => exact iteT (k2 c)
end
end SH

namespace SH
open PySem PySem.Spec PyProof.Rows L2
theorem okFrom_snoc {ns : List Int} {d : Int} : ∀ {g : Int}, okFrom g ns = true → 0 ≤ d → (ns = [] → d ≤ g) → (ns ≠ [] → d ≤ ns.getD (ns.length - 1) 0 + 1) → okFrom g (ns ++ [d]) = true := by
  induction ns with
  | nil => intro g _ h0 h1 _; simp only [List.nil_append, okFrom, Bool.and_eq_true, decide_eq_true_eq, and_true]; exact ⟨h0, h1 rfl⟩
  | cons e r ih =>
    intro g h h0 _ h2
    simp only [okFrom, Bool.and_eq_true, decide_eq_true_eq, List.cons_append] at h ⊢
    refine ⟨h.1, ih h.2 h0 (fun er => ?_) fun er => ?_⟩
    · subst er
      exact h2 (by simp)
    · have := h2 (by simp)
      cases r with
      | nil => exact absurd rfl er
      | cons f r => exact this
theorem okFrom_le {ns : List Int} : ∀ {g : Int} {i : Nat}, okFrom g ns = true → i < ns.length → ns.getD i 0 ≤ g + i := by
  induction ns with
  | nil => intro g i _ h; exact absurd h (Nat.not_lt_zero _)
  | cons d r ih =>
    intro g i h hi
    simp only [okFrom, Bool.and_eq_true, decide_eq_true_eq] at h
    cases i with
    | zero => show d ≤ g + ((0 : Nat) : Int); omega
    | succ i =>
      have := ih (i := i) h.2 (Nat.lt_of_succ_lt_succ hi)
      show r.getD i 0 ≤ g + ((i + 1 : Nat) : Int)
      omega
/-! ### headings, top lines, views as lists of ints -/
/-- the headings found from line k on upwards, the next wanted depth being w -/
def headsL (ns : List Int) : Nat → Int → List Int
  | 0, _ => []
  | k + 1, w => if ns.getD k 0 = w then headsL ns k (w - 1) ++ [(k : Int)] else headsL ns k w
def headsOf (ns : List Int) (i : Nat) : List Int := headsL ns i (ns.getD i 0 - 1)
theorem headsL_len (ns : List Int) : ∀ (k : Nat) (w : Int), (headsL ns k w).length ≤ k
  | 0, _ => Nat.le_refl _
  | k + 1, w => by
    unfold headsL
    split
    · rw [List.length_append]
      exact Nat.succ_le_succ (headsL_len ns k _)
    · exact Nat.le_succ_of_le (headsL_len ns k _)
theorem headsL_mem {ns : List Int} : ∀ {k : Nat} {w v : Int}, v ∈ headsL ns k w → 0 ≤ v ∧ v < k
  | k + 1, w, v, h => by
    unfold headsL at h
    split at h
    · rcases List.mem_append.mp h with h | h
      · have := headsL_mem h; omega
      · have := List.mem_singleton.mp h; omega
    · have := headsL_mem h; omega
def stopAt (ns : List Int) (i : Nat) : Int := (i : Int) - ns.getD i 0
def lastStop (ns : List Int) : Int := stopAt ns (ns.length - 1)
/-- t is the top line at s -/
def IsTop (ns : List Int) (s : Int) (t : Nat) : Prop := t < ns.length ∧ s ≤ stopAt ns t ∧ ∀ j, j < t → stopAt ns j < s
theorem IsTop.uniq {ns : List Int} {s : Int} {t u : Nat} (a : IsTop ns s t) (b : IsTop ns s u) : t = u := by
  rcases Nat.lt_trichotomy t u with h | h | h
  · have := b.2.2 t h; have := a.2.1; omega
  · exact h
  · have := a.2.2 u h; have := b.2.1; omega
theorem top_ex {ns : List Int} {s : Int} : ∀ n, n < ns.length → s ≤ stopAt ns n → ∃ t, t ≤ n ∧ IsTop ns s t
  | 0, h, q => ⟨0, Nat.le_refl _, h, q, fun j hj => absurd hj (Nat.not_lt_zero _)⟩
  | n + 1, h, q => by
    by_cases e : ∃ j, j ≤ n ∧ s ≤ stopAt ns j
    · obtain ⟨j, hj, ej⟩ := e
      obtain ⟨t, ht, it⟩ := top_ex j (by omega) ej
      exact ⟨t, by omega, it⟩
    · refine ⟨n + 1, Nat.le_refl _, h, q, fun j hj => ?_⟩
      by_cases z : s ≤ stopAt ns j
      · exact (e ⟨j, by omega, z⟩).elim
      · omega
/-- slices of lists of ints -/
def cutI (l : List Int) (lo hi : Option Int) : List Int := (l.drop (HT.sIx l.length 0 lo)).take (HT.sIx l.length l.length hi - HT.sIx l.length 0 lo)
theorem cutV_iv (l : List Int) (lo hi : Option Int) : cutV (iv l) lo hi = iv (cutI l lo hi) := by
  unfold cutV cutI iv
  rw [List.map_take, List.map_drop, List.length_map]
theorem cutI_len (l : List Int) (lo hi : Option Int) : (cutI l lo hi).length ≤ l.length := by
  unfold cutI
  rw [List.length_take, List.length_drop]
  omega
theorem cutI_to (l : List Int) {n : Int} (h : 0 ≤ n) : cutI l none (some n) = l.take n.toNat := by
  unfold cutI
  have e : n = (n.toNat : Int) := by omega
  rw [e, HT.sIx_none, HT.sIx_nat, List.drop_zero, Nat.sub_zero, Int.toNat_natCast]
  rcases Nat.le_total n.toNat l.length with a | a
  · rw [Nat.min_eq_left a]
  · rw [Nat.min_eq_right a, List.take_length, List.take_of_length_le a]
/-- lo, lo + 1, .. below hi -/
def rg2 (lo hi : Int) : List Int := (List.range (hi - lo).toNat).map fun (i : Nat) => lo + (i : Int)
theorem rgV_rg2 (a b : Int) : rgV a b = iv (rg2 a b) := by
  unfold rgV rg2 iv
  rw [List.map_map]
  rfl
theorem rg2_len (a b : Int) : (rg2 a b).length = (b - a).toNat := by unfold rg2; rw [List.length_map, List.length_range]
def pushedL (ns : List Int) (t : Nat) (s : Int) : List Int := if stopAt ns t - s = 0 then [] else cutI (headsOf ns (t - 1)) (some (-(stopAt ns t - s))) none
def rowsL (ns : List Int) (s : Int) (t : Nat) : List Int := headsOf ns t ++ pushedL ns t s ++ rg2 t ns.length
def viewL (ns : List Int) (h s : Int) (t : Nat) : List Int := (rowsL ns s t).take h.toNat
theorem pushedL_len (ns : List Int) (t : Nat) (s : Int) : (pushedL ns t s).length ≤ t := by
  unfold pushedL
  split
  · exact Nat.zero_le _
  · exact Nat.le_trans (cutI_len _ _ _) (Nat.le_trans (headsL_len _ _ _) (Nat.sub_le _ _))
theorem stopAt_nn {ns : List Int} (h : okFrom 0 ns = true) {i : Nat} (hi : i < ns.length) : 0 ≤ stopAt ns i ∧ stopAt ns i ≤ i := by
  have a := okFrom_le h hi
  have b := (okFrom_at h hi).1
  unfold stopAt
  omega
theorem ite_cut {b : Prop} [Decidable b] {A : Prop} {NX : L2.St → Hp → Prop} {σ : L2.St} {H : Hp} (Inv : L2.St → Hp → Prop)
    (main : ∀ σ' H', Inv σ' H' → NX σ' H') (hA : b → (∀ σ' H', Inv σ' H' → NX σ' H') → A) (hB : ¬b → Inv σ H) : if b then A else NX σ H := by
  by_cases h : b
  · rw [if_pos h]; exact hA h main
  · rw [if_neg h]; exact main _ _ (hB h)
theorem inV_iv (v : Int) (L : List Int) : inV (.int v) (iv L) = decide (v ∈ L) := by
  unfold inV iv
  rw [Bool.eq_iff_iff, List.any_eq_true]
  constructor
  · rintro ⟨y, hy, e⟩
    obtain ⟨z, hz, rfl⟩ := List.mem_map.mp hy
    have : z = v := by simpa [eqV] using e
    subst this
    exact decide_eq_true hz
  · intro e
    exact ⟨.int v, List.mem_map.mpr ⟨v, of_decide_eq_true e, rfl⟩, by simp [eqV]⟩
theorem flat_iv (L : List Int) : (iv L).all flatV = true := by
  rw [List.all_eq_true]
  intro x hx
  obtain ⟨z, hz, rfl⟩ := List.mem_map.mp hx
  rfl
abbrev s_last_of_section : Stmt := topS 29
abbrev N_last_of_section : List Str := ["outline", "line", "last"]
abbrev P_last_of_section : List Str := ["outline", "line"]
theorem sc_last_of_section : FnScope N_last_of_section P_last_of_section (defScope s_last_of_section) := ⟨rfl, rfl, rfl, by decide +kernel, rfl, by decide +kernel, by decide +kernel⟩
abbrev s_is_ascending_list : Stmt := topS 23
abbrev N_is_ascending_list : List Str := ["value", "greatest", "least", "item"]
abbrev P_is_ascending_list : List Str := ["value", "greatest"]
theorem sc_is_ascending_list : FnScope N_is_ascending_list P_is_ascending_list (defScope s_is_ascending_list) := ⟨rfl, rfl, rfl, by decide +kernel, rfl, by decide +kernel, by decide +kernel⟩
abbrev s_lines_left : Stmt := topS 34
abbrev N_lines_left : List Str := ["outline", "folds", "found", "line"]
abbrev P_lines_left : List Str := ["outline", "folds"]
theorem sc_lines_left : FnScope N_lines_left P_lines_left (defScope s_lines_left) := ⟨rfl, rfl, rfl, by decide +kernel, rfl, by decide +kernel, by decide +kernel⟩
abbrev s_folded_outline : Stmt := topS 35
abbrev N_folded_outline : List Str := ["outline", "folds", "line"]
abbrev P_folded_outline : List Str := ["outline", "folds"]
theorem sc_folded_outline : FnScope N_folded_outline P_folded_outline (defScope s_folded_outline) := ⟨rfl, rfl, rfl, by decide +kernel, rfl, by decide +kernel, by decide +kernel⟩
/-! ### folds -/
/-- t is the last line of the section at i -/
def IsEnd (ns : List Int) (i t : Nat) : Prop := i ≤ t ∧ t < ns.length ∧ (∀ k, i < k → k ≤ t → ns.getD i 0 < ns.getD k 0) ∧ (t + 1 < ns.length → ns.getD (t + 1) 0 ≤ ns.getD i 0)
theorem end_ex {ns : List Int} {i : Nat} (hi : i < ns.length) : ∀ n, ∃ t, IsEnd ns i t ∨ (i ≤ t ∧ t < ns.length ∧ (∀ k, i < k → k ≤ t → ns.getD i 0 < ns.getD k 0) ∧ t = i + n)
  | 0 => ⟨i, .inr ⟨Nat.le_refl _, hi, fun k a b => by omega, rfl⟩⟩
  | n + 1 => by
    obtain ⟨t, h | ⟨a, b, c, e⟩⟩ := end_ex hi n
    · exact ⟨t, .inl h⟩
    · by_cases q : t + 1 < ns.length ∧ ns.getD i 0 < ns.getD (t + 1) 0
      · refine ⟨t + 1, .inr ⟨by omega, q.1, fun k k0 k1 => ?_, by omega⟩⟩
        rcases Nat.lt_or_ge t k with z | z
        · have : k = t + 1 := by omega
          subst this
          exact q.2
        · exact c k k0 z
      · refine ⟨t, .inl ⟨a, b, c, fun z => ?_⟩⟩
        by_cases y : ns.getD i 0 < ns.getD (t + 1) 0
        · exact (q ⟨z, y⟩).elim
        · omega
theorem end_of {ns : List Int} {i : Nat} (hi : i < ns.length) : ∃ t, IsEnd ns i t := by
  obtain ⟨t, h | ⟨a, b, c, e⟩⟩ := end_ex hi ns.length
  · exact ⟨t, h⟩
  · omega
theorem end_uniq {ns : List Int} {i t t' : Nat} (a : IsEnd ns i t) (b : IsEnd ns i t') : t = t' := by
  rcases Nat.lt_trichotomy t t' with c | c | c
  · have := a.2.2.2 (by have := b.2.1; omega)
    have := b.2.2.1 (t + 1) (by have := a.1; omega) c
    omega
  · exact c
  · have := b.2.2.2 (by have := a.2.1; omega)
    have := a.2.2.1 (t' + 1) (by have := b.1; omega) c
    omega
noncomputable def endF (ns : List Int) (i : Nat) : Nat := @dite _ (i < ns.length) (Classical.propDecidable _) (fun h => Classical.choose (end_of h)) (fun _ => i)
theorem endF_is {ns : List Int} {i : Nat} (hi : i < ns.length) : IsEnd ns i (endF ns i) := by
  unfold endF
  rw [dif_pos hi]
  exact Classical.choose_spec (end_of hi)
noncomputable def nextL (ns fs : List Int) (i : Nat) : Nat := if (i : Int) ∈ fs then max (endF ns i) i + 1 else i + 1
theorem nextL_gt (ns fs : List Int) (i : Nat) : i < nextL ns fs i := by unfold nextL; split <;> omega
noncomputable def leftL (ns fs : List Int) (i : Nat) : List Int := if i < ns.length then (i : Int) :: leftL ns fs (nextL ns fs i) else []
termination_by ns.length - i
decreasing_by have := nextL_gt ns fs i; omega
theorem leftL_go {ns fs : List Int} {i : Nat} (hi : i < ns.length) : leftL ns fs i = (i : Int) :: leftL ns fs (nextL ns fs i) := by
  rw [leftL, if_pos hi]
theorem leftL_end {ns fs : List Int} {i : Nat} (hi : ns.length ≤ i) : leftL ns fs i = [] := by
  rw [leftL, if_neg (by omega)]
theorem leftL_mem {ns fs : List Int} {v : Int} {i : Nat} (hv : v ∈ leftL ns fs i) : (i : Int) ≤ v ∧ v < ns.length := by
  induction hm : ns.length - i using Nat.strongRecOn generalizing i with
  | _ m ih =>
    rcases Nat.lt_or_ge i ns.length with c | c
    · rw [leftL_go c] at hv
      have := nextL_gt ns fs i
      rcases List.mem_cons.mp hv with e | e
      · subst e
        omega
      · have := ih (ns.length - nextL ns fs i) (by omega) e rfl
        omega
    · rw [leftL_end c] at hv
      cases hv
theorem leftL_len (ns fs : List Int) (i : Nat) : (leftL ns fs i).length ≤ ns.length - i := by
  induction hm : ns.length - i using Nat.strongRecOn generalizing i with
  | _ m ih =>
    rcases Nat.lt_or_ge i ns.length with c | c
    · rw [leftL_go c, List.length_cons]
      have := nextL_gt ns fs i
      have := ih (ns.length - nextL ns fs i) (by omega) _ rfl
      omega
    · rw [leftL_end c]
      exact Nat.zero_le _
/-- the depths of the lines that are left -/
noncomputable def foldL (ns fs : List Int) : List Int := (leftL ns fs 0).map fun v => ns.getD v.toNat 0
/-- strictly ascending from lo to g -/
def ascB (g : Int) : Int → List Int → Bool
  | _, [] => true
  | lo, x :: r => decide (lo ≤ x) && decide (x ≤ g) && ascB g (x + 1) r
theorem ascB_drop {g : Int} {fs : List Int} {i : Nat} (h : i < fs.length) (lo : Int) : ascB g lo (fs.drop i) =
    (decide (lo ≤ fs.getD i 0) && decide (fs.getD i 0 ≤ g) && ascB g (fs.getD i 0 + 1) (fs.drop (i + 1))) := by
  rw [List.drop_eq_getElem_cons h, List.getD_eq_getElem?_getD, List.getElem?_eq_getElem h]
  rfl
def aAt (fs : List Int) : Nat → Int
  | 0 => 0
  | i + 1 => fs.getD i 0 + 1
section
variable {P : Program} {w : World} {K : PySem.W.Frag} {mg : Str → Option Value} {base : Heap}
def sp_last_of_section (K : PySem.W.Frag) : Sp := fun vs H Q _ => ∃ (a : Addr) (ns : List Int) (i t : Nat), vs = [.ref a, .int i] ∧ SqL K H a (iv ns) ∧ IsEnd ns i t ∧ Q (.int t) H
theorem ok_last_of_section (T : Txt mg) (h : At K mg "last_of_section" s_last_of_section) :
    Has P w K mg base CX0 2 "last_of_section" s_last_of_section P_last_of_section (sp_last_of_section K) := by
  refine Has.of h sc_last_of_section (fun vs H Q E h => ?_) (fun _ _ _ _ _ _ us hl => match us, hl with | [_, _], _ => rfl) (fun f cdv A outer s H vs Q E room qt h => ?_)
  · obtain ⟨a, n, z, t, rfl, _⟩ := h; rfl
  obtain ⟨a, ns, i, t, rfl, ha, ⟨t0, t1, t2, t3⟩, k⟩ := h
  refine ⟨_, (pss_cons (ps_set (i := 2) sc_last_of_section.nd rfl (Or.inl rfl) (pv 1))
      (pss_cons (ps_while PassesOwn.never (PW.pt (pw_and (pt_cmpR op_lt (pe_op op_add (pv 2) pe_int) (pe_callB call_len_seq (by rfl) T.len (by decide +kernel) (pa_cons (pv 0) pa_nil)) (nomark _)) (pw_and1 (pt_cmpR op_gt (pe_ix ix_list (pv 0) (pe_op op_add (pv 2) pe_int) (fun _ _ => rfl)) (pe_ix ix_list (pv 0) (pv 1) (fun _ _ => rfl)) (nomark _)))))
        (pss_one (ps_aug (i := 2) sc_last_of_section.nd rfl (Or.inl rfl) pe_int ip_add)))
      (pss_one (ps_ret (pv 2))))), ?_⟩
  have el : (iv ns).length = ns.length := List.length_map _
  refine ⟨_, rfl, ?_⟩
  refine ⟨fun m σ H' => H' = H ∧ ∃ j : Nat, i ≤ j ∧ j ≤ t ∧ m = t - j ∧ σ = [some (.ref a), some (.int i), some (.int (j : Nat))], ⟨t - i, rfl, i, Nat.le_refl _, t0, rfl, rfl⟩, ?_⟩
  rintro m σ H' ⟨rfl, j, j0, j1, rfl, rfl⟩
  refine ⟨_, rfl, _, _, rfl, rfl, _, rfl, a, _, rfl, .inl ha, _, _, rfl, rfl, _, rfl, ite2 (fun c => ?_) (fun c => iteF ?_)⟩
  · have c1 : j + 1 < ns.length := by have := of_decide_eq_true c; omega
    have ej : (j : Int) + 1 = ((j + 1 : Nat) : Int) := by omega
    refine ⟨_, rfl, _, rfl, _, _, rfl, rfl, a, iv ns, _, _, rfl, rfl, ha, atI_iv (by omega) (by omega), _, rfl, _, rfl, a, iv ns, _, _, rfl, rfl, ha, atI_iv (by omega) (by omega), _, _, rfl, rfl, _, rfl, ite2 (fun c2 => ?_) (fun c2 => ?_)⟩
    · have c3 := of_decide_eq_true c2
      rw [ej, Int.toNat_natCast, Int.toNat_natCast] at c3
      have ne : j ≠ t := fun e => by subst e; have := t3 c1; omega
      refine ⟨fun σ' H2 => H2 = H' ∧ σ' = [some (.ref a), some (.int i), some (.int ((j : Nat) + 1))], fun σ' H'' q => ⟨t - (j + 1), by omega, q.1, j + 1, by omega, by omega, rfl, q.2⟩, ?_⟩
      exact ⟨_, rfl, _, _, rfl, rfl, rfl, rfl⟩
    · have c3 : ¬ (ns.getD i 0 < ns.getD (j + 1) 0) := fun q => c2 (decide_eq_true (by rw [ej, Int.toNat_natCast, Int.toNat_natCast]; exact q))
      have e : j = t := by
        rcases Nat.lt_or_ge j t with q | q
        · exact (c3 (t2 (j + 1) (by omega) (by omega))).elim
        · omega
      subst e
      exact ⟨_, rfl, k⟩
  · have c1 : ¬ (j + 1 < ns.length) := fun q => c (decide_eq_true (by omega))
    have e : j = t := by omega
    subst e
    exact ⟨_, rfl, k⟩
end

def ascDs (g : Int) : Int → List PyData → Bool
  | _, [] => true
  | lo, d :: r => inD d lo g && ascDs g (nextD d) r
/-- a value is a strictly ascending list of ints from 0 to g -/
def ascD (g : Int) (d : PyData) : Bool := match d with | .list ds => ascDs g 0 ds | _ => false
theorem ascDs_int {g : Int} : ∀ {ds : List PyData} {lo : Int}, ascDs g lo ds = true → ∃ fs : List Int, ds = fs.map PyData.int ∧ ascB g lo fs = true
  | [], _, _ => ⟨[], rfl, rfl⟩
  | d :: r, lo, h => by
    have h' : (inD d lo g && ascDs g (nextD d) r) = true := h
    rw [Bool.and_eq_true] at h'
    obtain ⟨v, rfl, v0, v1⟩ := inD_int h'.1
    obtain ⟨fs, rfl, b⟩ := ascDs_int h'.2
    refine ⟨v :: fs, rfl, ?_⟩
    show (decide (lo ≤ v) && decide (v ≤ g) && ascB g (v + 1) fs) = true
    rw [decide_eq_true v0, decide_eq_true v1]
    exact b
theorem ascD_int {g : Int} {d : PyData} (h : ascD g d = true) : ∃ fs : List Int, d = dI fs ∧ ascB g 0 fs = true := by
  cases d with
  | list ds =>
    obtain ⟨fs, rfl, b⟩ := ascDs_int (show ascDs g 0 ds = true from h)
    exact ⟨fs, rfl, b⟩
  | _ => exact absurd h Bool.false_ne_true
theorem ascDs_dI (g : Int) : ∀ (fs : List Int) (lo : Int), ascDs g lo (fs.map PyData.int) = ascB g lo fs
  | [], _ => rfl
  | v :: r, lo => by
    show (inD (.int v) lo g && ascDs g (nextD (.int v)) (r.map PyData.int)) = _
    rw [ascDs_dI g r]
    rfl
def loD (ds : List PyData) : Nat → Int
  | 0 => 0
  | i + 1 => nextD (ds.getD i .none)
theorem ascDs_drop {g : Int} {ds : List PyData} {i : Nat} {d : PyData} (h : ds[i]? = some d) (lo : Int) : ascDs g lo (ds.drop i) = (inD d lo g && ascDs g (nextD d) (ds.drop (i + 1))) := by
  obtain ⟨hl, e⟩ := List.getElem?_eq_some_iff.mp h
  rw [List.drop_eq_getElem_cons hl, e]
  rfl
section
variable {P : Program} {w : World} {K : PySem.W.Frag} {mg : Str → Option Value} {base : Heap} {CO CF : Addr}
def sp_ascX : Sp := fun vs H Q _ => ∃ (x : V) (d : PyData) (as : List Addr) (g : Int), vs = [x, .int g] ∧ Dx H x d as ∧ Q (.bl (ascD g d)) H
theorem ok_is_ascending_list (T : Txt mg) (h : At K mg "is_ascending_list" s_is_ascending_list)
    (g_is_integer_within : Has P w K mg base CX0 2 "is_integer_within" s_is_integer_within P_is_integer_within sp_withinX) :
    Has P w K mg base CX0 3 "is_ascending_list" s_is_ascending_list P_is_ascending_list sp_ascX := by
  refine Has.of h sc_is_ascending_list (fun vs H Q E h => ?_) (fun _ _ _ _ _ _ us hl => match us, hl with | [_, _], _ => rfl) (fun f cdv A outer s H vs Q E room qt h => ?_)
  · obtain ⟨x, d, as, g, rfl, _⟩ := h; rfl
  obtain ⟨x, d, as, g, rfl, hd, k⟩ := h
  refine ⟨_, (pss_cons (ps_if (pt_cmpR op_neTy (pe_callTy call_typeX (by rfl) T.ttype (by decide +kernel) (pa_cons (pv 0) pa_nil)) (pe_bltn (v := .ty "list") (u := .type "list") (by rfl) T.tlist (by decide +kernel) rfl) (nomark _))
        (pss_one (ps_ret pe_bl))
        pss_nil)
      (pss_cons (ps_set (i := 2) sc_is_ascending_list.nd rfl (Or.inl rfl) pe_int)
      (pss_cons (ps_for PassesOwn.never rfl (pi_list (pv 0)) (pg_name (i := 3) sc_is_ascending_list.nd rfl (Or.inl rfl) (hf := Or.inl rfl))
        (pss_cons (ps_if (pt_not (pt_val (pe_has g_is_integer_within (room.mono (by decide)) qt (by rfl) pass0 (pa_cons (pv 3) (pa_cons (pv 2) (pa_cons (pv 1) pa_nil))))))
          (pss_one (ps_ret pe_bl))
          pss_nil)
        (pss_one (ps_set (i := 2) sc_is_ascending_list.nd rfl (Or.inl rfl) (pe_op op_add (pv 3) pe_int)))))
      (pss_one (ps_ret pe_bl))))), ?_⟩
  refine ⟨_, rfl, x, d, as, rfl, hd, _, _, rfl, rfl, ?_⟩
  have other : tyD d ≠ "list" → ascD g d = false := fun e => by
    cases d with
    | list ds => exact absurd rfl e
    | _ => rfl
  refine ⟨by cases d <;> (simp only [tyD]; decide), by decide, _, rfl, ite2 (fun c => ?_) (fun c => ?_)⟩
  · rw [other (of_decide_eq_true c)] at k
    exact k
  cases hd with
  | @lst a xs ds as ha hx =>
    have el := hx.len
    refine ⟨_, rfl, a, rfl, ⟨_, SqL.of ha⟩, for_list (K := K) (a := a) (xs := xs)
      (fun i σ H2 => H2 = H ∧ (∃ v, σ = [some (.ref a), some (.int g), some (.int (loD ds i)), v]) ∧ ascDs g (loD ds i) (ds.drop i) = ascD g (.list ds))
      ⟨rfl, ⟨_, rfl⟩, rfl⟩ (fun i σ H2 _ q => by rw [q.1]; exact SqL.of ha) ?_ ?_⟩
    · rintro i x σ H2 hi ⟨rfl, ⟨v, rfl⟩, q⟩
      obtain ⟨d, bs, hdi, hdx⟩ := hx.at hi
      rw [ascDs_drop hdi] at q
      refine ⟨_, rfl, _, rfl, _, rfl, x, d, bs, _, _, rfl, hdx, _, rfl, ?_⟩
      cases c2 : inD d (loD ds i) g with
      | false =>
        rw [c2, Bool.false_and] at q
        rw [← q] at k
        exact iteT k
      | true =>
        rw [c2, Bool.true_and] at q
        obtain ⟨z, rfl, z0, z1⟩ := inD_int c2
        cases hdx
        have eg : loD ds (i + 1) = z + 1 := by show nextD (ds.getD i .none) = _; rw [getD_of hdi]; rfl
        rw [eg]
        exact iteF ⟨_, rfl, _, _, rfl, rfl, rfl, ⟨_, rfl⟩, q⟩
    · rintro σ H2 ⟨rfl, ⟨v, rfl⟩, q⟩
      rw [el, List.drop_length] at q
      rw [← q] at k
      exact k
  | _ => exact (c rfl).elim
/-- a value is folds of the outline -/
def foldD (d e : PyData) : Bool := match d with | .list ds => ascD ((ds.length : Int) - 1) e | _ => false
theorem foldD_dI (ns : List Int) (e : PyData) : foldD (dI ns) e = ascD ((ns.length : Int) - 1) e := by show ascD (((ns.map PyData.int).length : Int) - 1) e = _; rw [List.length_map]
def sp_leftN (CO CF : Addr) : Sp := fun vs H Q E => ∃ (x y : V) (d e : PyData) (as bs : List Addr), vs = [x, y] ∧ Dx H x d as ∧ Dx H y e bs ∧
  (∀ ns fs : List Int, d = dI ns → isO ns = true → e = dI fs → ascB ((ns.length : Int) - 1) 0 fs = true → RetL Q H (iv (leftL ns fs 0))) ∧ (isOD d = true → foldD d e = false → Rai E H CF) ∧ (isOD d = false → Rai E H CO)
theorem ok_lines_left (T : Txt mg) (e_InvalidFoldsError : Err K mg "InvalidFoldsError" CF) (h : At K mg "lines_left" s_lines_left)
    (g_check_outline : Has P w K mg base (L2N.CX P w) 4 "check_outline" s_check_outline P_check_outline (sp_chkO CO))
    (g_is_ascending_list : Has P w K mg base CX0 3 "is_ascending_list" s_is_ascending_list P_is_ascending_list sp_ascX)
    (g_last_of_section : Has P w K mg base CX0 2 "last_of_section" s_last_of_section P_last_of_section (sp_last_of_section K)) :
    Has P w K mg base (L2N.CX P w) 5 "lines_left" s_lines_left P_lines_left (sp_leftN CO CF) := by
  refine Has.ofN h sc_lines_left (fun vs H Q E h => ?_) (fun _ _ _ _ _ _ us hl => match us, hl with | [_, _], _ => rfl) (fun f cdv A outer s H vs Q E room qt h => ?_)
  · obtain ⟨x, y, d, e, as, bs, rfl, _⟩ := h; rfl
  obtain ⟨x, y, d, e, as, bs, rfl, hdx, hdy, kk, kF, kO⟩ := h
  refine ⟨_, (pss_cons (ps_expr (pe_hasS g_check_outline (room.mono (by decide)) qt (by rfl) (fun σ => L2N.passAt (L2N.takes_of rfl rfl rfl rfl) σ) (pa_cons (pv 0) pa_nil)))
      (pss_cons (ps_if (pt_not (pt_val (pe_has g_is_ascending_list (room.mono (by decide)) qt (by rfl) pass0 (pa_cons (pv 1) (pa_cons (pe_op op_sub (pe_callB call_len_seq (by rfl) T.len (by decide +kernel) (pa_cons (pv 0) pa_nil)) pe_int) pa_nil)))))
        (pss_one (ps_raiseN e_InvalidFoldsError rfl (L2N.takes_of rfl rfl rfl rfl) (by rfl)))
        pss_nil)
      (pss_cons (ps_set (i := 2) sc_lines_left.nd rfl (Or.inl rfl) (pe_lst pa_nil))
      (pss_cons (ps_set (i := 3) sc_lines_left.nd rfl (Or.inl rfl) pe_int)
      (pss_cons (ps_while (passes_of rfl) (pt_cmpR op_lt (pv 3) (pe_callB call_len_seq (by rfl) T.len (by decide +kernel) (pa_cons (pv 0) pa_nil)) (nomark _))
        (pss_cons (ps_expr (pe_bm PySem.F.plainAttrs_list PySem.F.slot_list_append PySem.F.type_list_append mt_append (pv 2) (pa_cons (pv 3) pa_nil)))
        (pss_cons (ps_if (pt_cmpR op_in_seq (pv 3) (pv 1) (by with_unfolding_all rfl))
          (pss_one (ps_set (i := 3) sc_lines_left.nd rfl (Or.inl rfl) (pe_has g_last_of_section (room.mono (by decide)) qt (by rfl) pass0 (pa_cons (pv 0) (pa_cons (pv 3) pa_nil)))))
          pss_nil)
        (pss_one (ps_aug (i := 3) sc_lines_left.nd rfl (Or.inl rfl) pe_int ip_add)))))
      (pss_one (ps_ret (pv 2)))))))), ?_⟩
  refine ⟨_, rfl, x, d, as, rfl, hdx, fun c1 => ?_, fun c1 => kO c1 H (Same.refl _)⟩
  obtain ⟨ns, rfl, ho⟩ := isOD_ints c1
  obtain ⟨a, rfl, ha⟩ := hdx.ints
  obtain ⟨l1, l2, hk⟩ := isO_iff.mp ho
  have el : (iv ns).length = ns.length := List.length_map _
  refine ⟨_, rfl, _, rfl, a, _, rfl, .inl (SqL.of ha), _, _, rfl, rfl, y, e, bs, _, rfl, hdy, ?_⟩
  rw [el]
  cases c2 : ascD ((ns.length : Int) - 1) e with
  | false => exact ⟨_, rfl, iteT (kF c1 (by rw [foldD_dI]; exact c2) H (Same.refl _))⟩
  | true =>
  obtain ⟨fs, rfl, asc⟩ := ascD_int c2
  obtain ⟨b, rfl, hb⟩ := hdy.ints
  have k := kk ns fs rfl ho rfl asc
  refine ⟨_, rfl, iteF ?_⟩
  refine ⟨(by decide : 0 ≤ sizeLine), fun p hp => ?_⟩
  refine ⟨fun m σ H' => ∃ (j : Nat) (F : List Int), F.length ≤ j ∧ leftL ns fs 0 = F ++ leftL ns fs j ∧ H' = upd H p (.lst (iv F)) ∧ m = ns.length - j ∧ σ = [some (.ref a), some (.ref b), some (.ref p), some (.int (j : Nat))],
    ⟨ns.length - 0, 0, [], Nat.le_refl _, rfl, rfl, rfl, rfl⟩, ?_⟩
  rintro m σ H' ⟨j, F, jF, e, rfl, rfl, rfl⟩
  have ha' : ∀ o, SqL K (upd H p o) a (iv ns) := fun o => (Same.new hp).seq (SqL.of ha)
  have hb' : ∀ o, SqL K (upd H p o) b (iv fs) := fun o => (Same.new hp).seq (SqL.of hb)
  refine ⟨_, rfl, _, rfl, a, _, rfl, .inl (ha' _), _, _, rfl, rfl, _, rfl, ite2 (fun c => ?_) (fun c => ?_)⟩
  · have c1 : j < ns.length := by have := of_decide_eq_true c; omega
    have gj := nextL_gt ns fs j
    refine ⟨fun σ' H2 => H2 = upd H p (.lst (iv (F ++ [(j : Int)]))) ∧ σ' = [some (.ref a), some (.ref b), some (.ref p), some (.int (nextL ns fs j : Nat))], fun σ' H'' q => ⟨ns.length - nextL ns fs j, by omega, nextL ns fs j, F ++ [(j : Int)], ?_, ?_, q.1, rfl, q.2⟩, ?_⟩
    · rw [List.length_append]; show F.length + 1 ≤ _; omega
    · rw [e, leftL_go c1, List.append_assoc]; rfl
    refine ⟨_, rfl, .inl ⟨rfl, _, SqL.of upd_same⟩, _, rfl, p, _, _, rfl, rfl, upd_same, small_line (by rw [List.length_map]; omega), ?_⟩
    rw [upd_upd, iv_snoc]
    refine ⟨_, rfl, _, rfl, b, _, rfl, .inl (hb' _), rfl, flat_iv _, _, rfl, ?_⟩
    show if inV (V.int (j : Int)) (iv fs) = true then _ else _
    rw [inV_iv]
    have ef := endF_is c1
    refine ite_cut (fun σ2 H2 => H2 = upd H p (.lst (iv (F ++ [(j : Int)]))) ∧ σ2 = [some (.ref a), some (.ref b), some (.ref p), some (.int ((nextL ns fs j : Nat) - 1 : Int))]) ?_ ?_ ?_
    · rintro σ2 H2 ⟨rfl, rfl⟩
      refine ⟨_, rfl, _, _, rfl, rfl, rfl, ?_⟩
      exact congrArg (fun z => [some (V.ref a), some (V.ref b), some (V.ref p), some (V.int z)]) (by show ((nextL ns fs j : Nat) : Int) - 1 + 1 = _; omega)
    · intro cb main
      have m1 := of_decide_eq_true cb
      refine ⟨_, rfl, _, rfl, a, ns, j, endF ns j, rfl, ha' _, ef, main _ _ ⟨rfl, ?_⟩⟩
      have en : ((nextL ns fs j : Nat) : Int) - 1 = endF ns j := by
        unfold nextL
        rw [if_pos m1]
        have := ef.1
        omega
      rw [en]
      rfl
    · intro cb
      have m1 : ¬ (j : Int) ∈ fs := fun z => cb (decide_eq_true z)
      refine ⟨rfl, ?_⟩
      have en : ((nextL ns fs j : Nat) : Int) - 1 = j := by
        unfold nextL
        rw [if_neg m1]
        omega
      rw [en]
  · have c1 : ns.length ≤ j := by
      rcases Nat.lt_or_ge j ns.length with q | q
      · exact (c (decide_eq_true (by omega))).elim
      · exact q
    rw [leftL_end c1, List.append_nil] at e
    exact ⟨_, rfl, k p _ hp (Same.new hp) (by rw [upd_same, e])⟩
def sp_foldN (CO CF : Addr) : Sp := fun vs H Q E => ∃ (x y : V) (d e : PyData) (as bs : List Addr), vs = [x, y] ∧ Dx H x d as ∧ Dx H y e bs ∧
  (isOD d = true → foldD d e = true → RetAny Q H) ∧ (isOD d = true → foldD d e = false → Rai E H CF) ∧ (isOD d = false → Rai E H CO)
theorem ok_folded_outline (T : Txt mg) (h : At K mg "folded_outline" s_folded_outline)
    (g_lines_left : Has P w K mg base (L2N.CX P w) 5 "lines_left" s_lines_left P_lines_left (sp_leftN CO CF)) :
    Has P w K mg base (L2N.CX P w) 6 "folded_outline" s_folded_outline P_folded_outline (sp_foldN CO CF) := by
  refine Has.ofN h sc_folded_outline (fun vs H Q E h => ?_) (fun _ _ _ _ _ _ us hl => match us, hl with | [_, _], _ => rfl) (fun f cdv A outer s H vs Q E room qt h => ?_)
  · obtain ⟨x, y, d, e, as, bs, rfl, _⟩ := h; rfl
  obtain ⟨x, y, d, e, as, bs, rfl, hdx, hdy, kk, kF, kO⟩ := h
  refine ⟨_, (pss_one (ps_ret (pe_lc (own := [("line", 2)]) (by rfl) sc_folded_outline.nd (pi_list (pe_hasS g_lines_left (room.mono (by decide)) qt (by rfl) (fun σ => L2N.passAt (L2N.takes_of rfl rfl rfl rfl) σ) (pa_cons (pv 0) (pa_cons (pv 1) pa_nil)))) (blkOk_by (own := [("line", 2)]) (N := N_folded_outline) (sc := defScope s_folded_outline) (by decide +kernel)) (fun _ _ _ _ _ => (pg_name (i := 2) sc_folded_outline.nd rfl (Or.inl rfl) (hf := Or.inr rfl))) (fun _ _ _ _ _ => pts_nil) (fun _ _ _ _ _ => (pe_ix (show IxR _ (rIxL K) from by exact ix_list) (pv 0) (pv 2) (fun _ _ => rfl)))))), ?_⟩
  refine ⟨_, rfl, _, rfl, x, y, d, e, as, bs, rfl, hdx, hdy, fun ns fs ed ho ee asc => ?_, kF, kO⟩
  subst ed ee
  have kR := kk (by rw [isOD_dI]; exact ho) (by rw [foldD_dI]; show ascDs _ 0 (fs.map PyData.int) = true; rw [ascDs_dI]; exact asc)
  obtain ⟨a, rfl, ha⟩ := hdx.ints
  obtain ⟨b, rfl, hb⟩ := hdy.ints
  obtain ⟨l1, l2, hk⟩ := isO_iff.mp ho
  intro p H1 hp s1 h1
  have k : RetL Q H (iv (foldL ns fs)) := fun p' H' _ s' _ => kR _ _ s'
  have ll := leftL_len ns fs 0
  refine ⟨p, rfl, ⟨_, SqL.of h1⟩, fun D hD => lcLn (K := K) (a := p) (xs := iv (leftL ns fs 0)) (fun _ => true) (fun i => V.int (ns.getD ((leftL ns fs 0).getD i 0).toNat 0)) (SqL.of h1) hD (by rw [List.length_map]; omega) (fun x => rfl) (fun i x H2 Q' _ _ qq => qq H2 (Same.refl _)) ?_ ?_⟩
  · intro i x H2 Q' hx _ s2 qq
    have il : i < (leftL ns fs 0).length := by have := (List.getElem?_eq_some_iff.mp hx).1; rwa [List.length_map] at this
    rw [iv_at il] at hx
    cases hx
    have vm : (leftL ns fs 0).getD i 0 ∈ leftL ns fs 0 := by
      rw [List.getD_eq_getElem?_getD, List.getElem?_eq_getElem il]
      exact List.getElem_mem il
    have vb := leftL_mem vm
    exact ⟨_, rfl, _, rfl, a, iv ns, _, _, rfl, rfl, SqL.of (s2 _ _ (s1 _ _ ha)), atI_iv (by omega) vb.2, qq H2 (Same.refl _)⟩
  · intro H2 s2 h2
    have e : gives (iv (leftL ns fs 0)).length (fun _ => true) (fun i => V.int (ns.getD ((leftL ns fs 0).getD i 0).toNat 0)) = iv (foldL ns fs) := by
      rw [gives_all, List.length_map]
      unfold foldL iv
      rw [List.map_map]
      refine List.ext_getElem (by rw [List.length_map, List.length_map, List.length_range]) fun i h1 h2 => ?_
      rw [List.length_map, List.length_range] at h1
      rw [List.getElem_map, List.getElem_map, List.getElem_range, List.getD_eq_getElem?_getD (l := leftL ns fs 0), List.getElem?_eq_getElem h1]
      rfl
    rw [e] at h2
    exact k D _ (s1.free hD) (s1.trans s2) h2
end
end SH

namespace SH
open PySem PySem.Spec PyProof.Rows L2
theorem rg2_mem {a b v : Int} : v ∈ rg2 a b ↔ a ≤ v ∧ v < b := by
  unfold rg2
  rw [List.mem_map]
  constructor
  · rintro ⟨i, hi, rfl⟩
    have := List.mem_range.mp hi
    omega
  · rintro ⟨x, y⟩
    exact ⟨(v - a).toNat, List.mem_range.mpr (by omega), by omega⟩
theorem asc_eq : ∀ {l1 l2 : List Int}, l1.Pairwise (· < ·) → l2.Pairwise (· < ·) → (∀ k : Int, k ∈ l1 ↔ k ∈ l2) → l1 = l2
  | [], [], _, _, _ => rfl
  | [], y :: t, _, _, h => (List.not_mem_nil ((h y).mpr List.mem_cons_self)).elim
  | x :: r, [], _, _, h => (List.not_mem_nil ((h x).mp List.mem_cons_self)).elim
  | x :: r, y :: t, p1, p2, h => by
    obtain ⟨a1, a2⟩ := List.pairwise_cons.mp p1
    obtain ⟨b1, b2⟩ := List.pairwise_cons.mp p2
    have e : x = y := by
      rcases List.mem_cons.mp ((h x).mp List.mem_cons_self) with e | e
      · exact e
      · rcases List.mem_cons.mp ((h y).mpr List.mem_cons_self) with e2 | e2
        · exact e2.symm
        · have := b1 x e
          have := a1 y e2
          omega
    subst e
    rw [asc_eq a2 b2 fun k => ⟨fun q => ?_, fun q => ?_⟩]
    · rcases List.mem_cons.mp ((h k).mp (List.mem_cons_of_mem _ q)) with e | e
      · have := a1 k q
        omega
      · exact e
    · rcases List.mem_cons.mp ((h k).mpr (List.mem_cons_of_mem _ q)) with e | e
      · have := b1 k q
        omega
      · exact e
theorem rg2_asc (a b : Int) : (rg2 a b).Pairwise (· < ·) := by
  unfold rg2
  rw [List.pairwise_map]
  exact List.pairwise_lt_range.imp fun h => by omega
theorem gives_map (ns : List Int) (f : Int → Int) : gives ns.length (fun _ => true) (fun i => V.int (f (ns.getD i 0))) = iv (ns.map f) := by
  rw [gives_all]
  unfold iv
  rw [List.map_map]
  refine List.ext_getElem (by rw [List.length_map, List.length_map, List.length_range]) fun i h1 h2 => ?_
  rw [List.length_map, List.length_range] at h1
  rw [List.getElem_map, List.getElem_map, List.getElem_range, List.getD_eq_getElem?_getD, List.getElem?_eq_getElem h1]
  rfl
theorem heads_asc {ns : List Int} : ∀ {k : Nat} {w : Int}, (headsL ns k w).Pairwise (· < ·)
  | 0, _ => List.Pairwise.nil
  | k + 1, w => by
    unfold headsL
    split
    · rw [List.pairwise_append]
      refine ⟨heads_asc, List.pairwise_singleton _ _, fun a ha b hb => ?_⟩
      rw [List.mem_singleton.mp hb]
      exact (headsL_mem ha).2
    · exact heads_asc
theorem heads_iff {ns : List Int} (h : okFrom 0 ns = true) : ∀ {k : Nat} {w : Int}, k ≤ ns.length → (∀ j, k = j + 1 → w ≤ ns.getD j 0) → ∀ v : Nat,
    ((v : Int) ∈ headsL ns k w ↔ v < k ∧ ns.getD v 0 ≤ w ∧ ∀ j, v < j → j < k → ns.getD v 0 < ns.getD j 0)
  | 0, w, _, _, v => ⟨fun q => (List.not_mem_nil q).elim, fun q => absurd q.1 (Nat.not_lt_zero _)⟩
  | k + 1, w, hk, c, v => by
    have wk := c k rfl
    have st : ∀ j, k = j + 1 → ns.getD k 0 ≤ ns.getD j 0 + 1 := (okFrom_at h (show k < ns.length by omega)).2.1
    unfold headsL
    by_cases e : ns.getD k 0 = w
    · rw [if_pos e, List.mem_append, List.mem_singleton, heads_iff h (k := k) (w := w - 1) (by omega) (fun j q => by have := st j q; omega) v]
      constructor
      · rintro (⟨a, b, d⟩ | q)
        · refine ⟨by omega, by omega, fun j vj jk => ?_⟩
          rcases Nat.lt_or_ge j k with z | z
          · exact d j vj z
          · obtain rfl : j = k := by omega
            omega
        · obtain rfl : v = k := by omega
          exact ⟨by omega, by omega, fun j vj jk => by omega⟩
      · rintro ⟨a, b, d⟩
        rcases Nat.lt_or_ge v k with z | z
        · left
          have := d k z (by omega)
          exact ⟨z, by omega, fun j vj jk => d j vj (by omega)⟩
        · right
          omega
    · rw [if_neg e, heads_iff h (k := k) (w := w) (by omega) (fun j q => by have := st j q; omega) v]
      constructor
      · rintro ⟨a, b, d⟩
        refine ⟨by omega, b, fun j vj jk => ?_⟩
        rcases Nat.lt_or_ge j k with z | z
        · exact d j vj z
        · obtain rfl : j = k := by omega
          omega
      · rintro ⟨a, b, d⟩
        rcases Nat.lt_or_ge v k with z | z
        · exact ⟨z, b, fun j vj jk => d j vj (by omega)⟩
        · obtain rfl : v = k := by omega
          omega
theorem headsOf_iff {ns : List Int} (h : okFrom 0 ns = true) {i : Nat} (hi : i < ns.length) (v : Nat) :
    (v : Int) ∈ headsOf ns i ↔ v < i ∧ ns.getD v 0 < ns.getD i 0 ∧ ∀ j, v < j → j < i → ns.getD v 0 < ns.getD j 0 := by
  unfold headsOf
  rw [heads_iff h (Nat.le_of_lt hi) (fun j q => by have := (okFrom_at h hi).2.1 j q; omega) v]
  exact ⟨fun ⟨a, b, c⟩ => ⟨a, by omega, c⟩, fun ⟨a, b, c⟩ => ⟨a, by omega, c⟩⟩
theorem heads_up {ns : List Int} (h : okFrom 0 ns = true) {t a : Nat} (ta : t ≤ a) (ha : a < ns.length) {v : Nat} (hv : (v : Int) ∈ headsOf ns a) (vt : v < t) : (v : Int) ∈ headsOf ns t := by
  obtain ⟨p, q, r⟩ := (headsOf_iff h ha v).mp hv
  refine (headsOf_iff h (by omega) v).mpr ⟨vt, ?_, fun j vj jt => r j vj (by omega)⟩
  rcases Nat.lt_or_ge t a with z | z
  · exact r t vt z
  · obtain rfl : t = a := by omega
    exact q
theorem leftL_iff {ns fs : List Int} (h : okFrom 0 ns = true) : ∀ (m i : Nat), ns.length - i ≤ m → ∀ v : Nat, ((v : Int) ∈ leftL ns fs i ↔ i ≤ v ∧ v < ns.length ∧ ∀ a : Nat, i ≤ a → (a : Int) ∈ headsOf ns v → (a : Int) ∉ fs)
  | 0, i, hm, v => by
    rw [leftL_end (by omega)]
    exact ⟨fun q => (List.not_mem_nil q).elim, fun q => by omega⟩
  | m + 1, i, hm, v => by
    rcases Nat.lt_or_ge i ns.length with c | c
    · have gt := nextL_gt ns fs i
      rw [leftL_go c, List.mem_cons, leftL_iff h m (nextL ns fs i) (by omega) v]
      by_cases f : (i : Int) ∈ fs
      · have ie := endF_is c
        have en : nextL ns fs i = endF ns i + 1 := by unfold nextL; rw [if_pos f, Nat.max_eq_left ie.1]
        rw [en]
        constructor
        · rintro (q | ⟨q1, q2, q3⟩)
          · obtain rfl : v = i := by omega
            refine ⟨Nat.le_refl _, c, fun a ai am => ?_⟩
            have := (headsL_mem am).2
            omega
          · refine ⟨by have := ie.1; omega, q2, fun a ai am => ?_⟩
            rcases Nat.lt_or_ge (endF ns i) a with z | z
            · exact q3 a z am
            · exfalso
              obtain ⟨p1, p2, p3⟩ := (headsOf_iff h q2 a).mp am
              have da : ns.getD i 0 ≤ ns.getD a 0 := by
                rcases Nat.lt_or_ge i a with y | y
                · exact Int.le_of_lt (ie.2.2.1 a y z)
                · obtain rfl : a = i := by omega
                  exact Int.le_refl _
              have e1 := ie.2.2.2 (by omega)
              rcases Nat.lt_or_ge (endF ns i + 1) v with y | y
              · have := p3 (endF ns i + 1) (by omega) y
                omega
              · obtain rfl : v = endF ns i + 1 := by omega
                omega
        · rintro ⟨q1, q2, q3⟩
          rcases Nat.lt_or_ge (endF ns i) v with z | z
          · exact .inr ⟨z, q2, fun a ai am => q3 a (by have := ie.1; omega) am⟩
          · left
            rcases Nat.lt_or_ge i v with y | y
            · exfalso
              refine q3 i (Nat.le_refl _) ((headsOf_iff h q2 i).mpr ⟨y, ie.2.2.1 v y z, fun j ij jv => ie.2.2.1 j ij (by omega)⟩) f
            · omega
      · have en : nextL ns fs i = i + 1 := by unfold nextL; rw [if_neg f]
        rw [en]
        constructor
        · rintro (q | ⟨q1, q2, q3⟩)
          · obtain rfl : v = i := by omega
            refine ⟨Nat.le_refl _, c, fun a ai am => ?_⟩
            have := (headsL_mem am).2
            omega
          · refine ⟨by omega, q2, fun a ai am => ?_⟩
            rcases Nat.lt_or_ge i a with z | z
            · exact q3 a z am
            · obtain rfl : a = i := by omega
              exact f
        · rintro ⟨q1, q2, q3⟩
          rcases Nat.lt_or_ge i v with z | z
          · exact .inr ⟨z, q2, fun a ai am => q3 a (by omega) am⟩
          · left; omega
    · rw [leftL_end c]
      exact ⟨fun q => (List.not_mem_nil q).elim, fun q => by omega⟩
theorem leftL_asc {ns fs : List Int} : ∀ (m i : Nat), ns.length - i ≤ m → (leftL ns fs i).Pairwise (· < ·)
  | 0, i, hm => by rw [leftL_end (by omega)]; exact List.Pairwise.nil
  | m + 1, i, hm => by
    rcases Nat.lt_or_ge i ns.length with c | c
    · have gt := nextL_gt ns fs i
      rw [leftL_go c, List.pairwise_cons]
      refine ⟨fun v hv => ?_, leftL_asc m _ (by omega)⟩
      have := (leftL_mem hv).1
      omega
    · rw [leftL_end c]; exact List.Pairwise.nil
/-- the lines with no heading among the marks -/
theorem kept_is {ns fs : List Int} (h : okFrom 0 ns = true) : ((List.range ns.length).filter (fun v => decide (∀ a, a ∈ headsOf ns v → a ∉ fs))).map (fun (v : Nat) => (v : Int)) = leftL ns fs 0 := by
  refine asc_eq ?_ (leftL_asc _ 0 (Nat.le_refl _)) fun k => ?_
  · rw [List.pairwise_map]
    exact (List.pairwise_lt_range.filter _).imp fun h => by omega
  · rw [List.mem_map]
    constructor
    · rintro ⟨v, hv, rfl⟩
      obtain ⟨a, b⟩ := List.mem_filter.mp hv
      exact (leftL_iff h _ 0 (Nat.le_refl _) v).mpr ⟨Nat.zero_le _, List.mem_range.mp a, fun x _ hx => of_decide_eq_true b x hx⟩
    · intro hk
      have kb := leftL_mem hk
      obtain ⟨v, rfl⟩ : ∃ v : Nat, k = v := ⟨k.toNat, by omega⟩
      obtain ⟨_, q2, q3⟩ := (leftL_iff h _ 0 (Nat.le_refl _) v).mp hk
      refine ⟨v, List.mem_filter.mpr ⟨List.mem_range.mpr q2, decide_eq_true fun a ha => ?_⟩, rfl⟩
      have ab := headsL_mem ha
      obtain ⟨n, rfl⟩ : ∃ n : Nat, a = n := ⟨a.toNat, by omega⟩
      exact q3 n (Nat.zero_le _) ha
end SH

namespace SH
open PySem PySem.Spec PyProof.Rows L2
theorem gives_filter (xs : List Int) (p : Int → Bool) : gives xs.length (fun i => p (xs.getD i 0)) (fun i => V.int (xs.getD i 0)) = iv (xs.filter p) := by
  have e : xs = (List.range xs.length).map fun i => xs.getD i 0 := by
    refine List.ext_getElem? fun i => ?_
    rw [List.getElem?_map]
    rcases Nat.lt_or_ge i xs.length with h | h
    · rw [List.getElem?_range h, List.getElem?_eq_getElem h]
      show some xs[i] = some (xs.getD i 0)
      rw [List.getD_eq_getElem?_getD, List.getElem?_eq_getElem h]
      rfl
    · rw [List.getElem?_eq_none h, List.getElem?_eq_none (by rw [List.length_range]; exact h)]
      rfl
  unfold gives iv
  have e2 : xs.filter p = ((List.range xs.length).filter (fun i => p (xs.getD i 0))).map fun i => xs.getD i 0 := by
    conv => lhs; rw [e]
    rw [List.filter_map]
    rfl
  rw [e2, List.map_map]
  rfl
/-! ### sections between two lines -/
theorem in_sec {ns : List Int} (h : okFrom 0 ns = true) {a v : Nat} (hv : v < ns.length) : (a : Int) ∈ headsOf ns v ↔ a < v ∧ v ≤ endF ns a := by
  rw [headsOf_iff h hv]
  constructor
  · rintro ⟨p1, p2, p3⟩
    refine ⟨p1, ?_⟩
    have e := endF_is (ns := ns) (i := a) (by omega)
    rcases Nat.lt_or_ge (endF ns a) v with c | c
    · exfalso
      have q := e.2.2.2 (by omega)
      rcases Nat.lt_or_ge (endF ns a + 1) v with d | d
      · have := p3 _ (by have := e.1; omega) d
        omega
      · have : endF ns a + 1 = v := by omega
        rw [this] at q
        omega
    · exact c
  · rintro ⟨p1, p2⟩
    have e := endF_is (ns := ns) (i := a) (by omega)
    exact ⟨p1, e.2.2.1 v p1 p2, fun j j1 j2 => e.2.2.1 j j1 (by omega)⟩
theorem sec_nest {ns : List Int} {i v : Nat} (hv : v < ns.length) (a : i < v) (b : v ≤ endF ns i) : endF ns v ≤ endF ns i := by
  have ei := endF_is (ns := ns) (i := i) (by omega)
  have ev := endF_is hv
  rcases Nat.lt_or_ge (endF ns i) (endF ns v) with c | c
  · exfalso
    have q1 := ei.2.2.2 (by have := ev.2.1; omega)
    have q2 := ev.2.2.1 (endF ns i + 1) (by omega) (by omega)
    have q3 := ei.2.2.1 v a b
    omega
  · exact c
noncomputable def secL (ns : List Int) (last i : Nat) : List Int := if i < last then (if endF ns i < last then (i : Int) :: secL ns last (max (endF ns i) i + 1) else secL ns last (i + 1)) else []
termination_by last - i
theorem secL_end {ns : List Int} {last i : Nat} (c : last ≤ i) : secL ns last i = [] := by rw [secL, if_neg (by omega)]
theorem secL_in {ns : List Int} {last i : Nat} (hl : last < ns.length) (c : i < last) (d : endF ns i < last) : secL ns last i = (i : Int) :: secL ns last (endF ns i + 1) := by
  have e := endF_is (ns := ns) (i := i) (by omega)
  rw [secL, if_pos c, if_pos d, Nat.max_eq_left e.1]
theorem secL_out {ns : List Int} {last i : Nat} (c : i < last) (d : last ≤ endF ns i) : secL ns last i = secL ns last (i + 1) := by
  rw [secL, if_pos c, if_neg (by omega)]
theorem secL_nat {ns : List Int} {last : Nat} (hl : last < ns.length) : ∀ (m i : Nat), last - i ≤ m → ∀ x ∈ secL ns last i, ∃ v : Nat, x = v ∧ i ≤ v ∧ v < last
  | 0, i, hm, x, hx => by rw [secL_end (by omega)] at hx; cases hx
  | m + 1, i, hm, x, hx => by
    rcases Nat.lt_or_ge i last with c | c
    · have e := endF_is (ns := ns) (i := i) (by omega)
      rcases Nat.lt_or_ge (endF ns i) last with d | d
      · rw [secL_in hl c d] at hx
        rcases List.mem_cons.mp hx with z | z
        · exact ⟨i, z, Nat.le_refl _, c⟩
        · obtain ⟨v, a, b, g⟩ := secL_nat hl m (endF ns i + 1) (by have := e.1; omega) x z
          exact ⟨v, a, by have := e.1; omega, g⟩
      · rw [secL_out c d] at hx
        obtain ⟨v, a, b, g⟩ := secL_nat hl m (i + 1) (by omega) x hx
        exact ⟨v, a, by omega, g⟩
    · rw [secL_end c] at hx; cases hx
theorem secL_asc {ns : List Int} {last : Nat} (hl : last < ns.length) : ∀ (m i : Nat), last - i ≤ m → (secL ns last i).Pairwise (· < ·)
  | 0, i, hm => by rw [secL_end (by omega)]; exact List.Pairwise.nil
  | m + 1, i, hm => by
    rcases Nat.lt_or_ge i last with c | c
    · have e := endF_is (ns := ns) (i := i) (by omega)
      rcases Nat.lt_or_ge (endF ns i) last with d | d
      · rw [secL_in hl c d, List.pairwise_cons]
        refine ⟨fun x hx => ?_, secL_asc hl m _ (by have := e.1; omega)⟩
        obtain ⟨v, rfl, b, _⟩ := secL_nat hl _ _ (Nat.le_refl _) x hx
        have := e.1
        omega
      · rw [secL_out c d]
        exact secL_asc hl m _ (by omega)
    · rw [secL_end c]; exact List.Pairwise.nil
theorem secL_mem {ns : List Int} (h : okFrom 0 ns = true) {last : Nat} (hl : last < ns.length) : ∀ (m i : Nat), last - i ≤ m → ∀ v : Nat, (v : Int) ∈ secL ns last i ↔ i ≤ v ∧ v < last ∧ endF ns v < last ∧ ∀ a : Nat, i ≤ a → (a : Int) ∈ headsOf ns v → last ≤ endF ns a
  | 0, i, hm, v => by
    rw [secL_end (by omega)]
    exact ⟨fun q => (List.not_mem_nil q).elim, fun q => by omega⟩
  | m + 1, i, hm, v => by
    rcases Nat.lt_or_ge i last with c | c
    · have e := endF_is (ns := ns) (i := i) (by omega)
      have e1 := e.1
      rcases Nat.lt_or_ge (endF ns i) last with d | d
      · rw [secL_in hl c d, List.mem_cons, secL_mem h hl m _ (by omega) v]
        constructor
        · rintro (q | ⟨q1, q2, q3, q4⟩)
          · obtain rfl : v = i := by omega
            refine ⟨Nat.le_refl _, c, d, fun a ai am => ?_⟩
            have := (in_sec h (by omega)).mp am
            omega
          · refine ⟨by omega, q2, q3, fun a ai am => ?_⟩
            have am' := (in_sec h (by omega)).mp am
            rcases Nat.lt_or_ge (endF ns i) a with z | z
            · exact q4 a z am
            · exfalso
              rcases Nat.lt_or_ge i a with y | y
              · have := sec_nest (ns := ns) (i := i) (v := a) (by omega) y z
                omega
              · obtain rfl : a = i := by omega
                omega
        · rintro ⟨q1, q2, q3, q4⟩
          rcases Nat.lt_or_ge i v with z | z
          · right
            have nv : endF ns i < v := by
              rcases Nat.lt_or_ge (endF ns i) v with y | y
              · exact y
              · exfalso
                have := q4 i (Nat.le_refl _) ((in_sec h (by omega)).mpr ⟨z, y⟩)
                omega
            exact ⟨nv, q2, q3, fun a ai am => q4 a (by omega) am⟩
          · left; omega
      · rw [secL_out c d, secL_mem h hl m _ (by omega) v]
        constructor
        · rintro ⟨q1, q2, q3, q4⟩
          refine ⟨by omega, q2, q3, fun a ai am => ?_⟩
          rcases Nat.lt_or_ge i a with z | z
          · exact q4 a z am
          · obtain rfl : a = i := by omega
            exact d
        · rintro ⟨q1, q2, q3, q4⟩
          refine ⟨?_, q2, q3, fun a ai am => q4 a (by omega) am⟩
          rcases Nat.lt_or_ge i v with z | z
          · exact z
          · obtain rfl : v = i := by omega
            omega
    · rw [secL_end c]
      exact ⟨fun q => (List.not_mem_nil q).elim, fun q => by omega⟩
theorem secL_len {ns : List Int} {last : Nat} (hl : last < ns.length) : ∀ (m i : Nat), last - i ≤ m → (secL ns last i).length ≤ last - i
  | 0, i, hm => by rw [secL_end (by omega)]; exact Nat.zero_le _
  | m + 1, i, hm => by
    rcases Nat.lt_or_ge i last with c | c
    · have e := endF_is (ns := ns) (i := i) (by omega)
      have e1 := e.1
      rcases Nat.lt_or_ge (endF ns i) last with d | d
      · rw [secL_in hl c d, List.length_cons]
        have := secL_len hl m (endF ns i + 1) (by omega)
        omega
      · rw [secL_out c d]
        have := secL_len hl m (i + 1) (by omega)
        omega
    · rw [secL_end c]; exact Nat.zero_le _
/-- how many lines a fold hides -/
noncomputable def szF (ns : List Int) (v : Int) : Int := (endF ns v.toNat : Int) - v
noncomputable def betL (ns : List Int) (last i : Nat) : List (Int × Int) := (secL ns last i).map fun v => (szF ns v, v)
/-! ### sorted the one way, and the other -/
def leD (p q : Int × Int) : Bool := decide (q.1 < p.1 ∨ (q.1 = p.1 ∧ q.2 ≤ p.2))
theorem leD_iff {p q : Int × Int} : leD p q = true ↔ q.1 < p.1 ∨ (q.1 = p.1 ∧ q.2 ≤ p.2) := decide_eq_true_iff
def dsc (os : List (Int × Int)) : List (Int × Int) := os.mergeSort leD
theorem dsc_perm (os : List (Int × Int)) : (dsc os).Perm os := List.mergeSort_perm _ _
theorem dsc_sorted (os : List (Int × Int)) : (dsc os).Pairwise (fun p q => leD p q = true) := List.pairwise_mergeSort (fun a b c h1 h2 => by
  rw [leD_iff] at h1 h2 ⊢; omega) (fun a b => by
  rw [Bool.or_eq_true, leD_iff, leD_iff]; omega) os
theorem dsc_uniq {os l : List (Int × Int)} (p : l.Perm os) (s : l.Pairwise (fun p q => leD p q = true)) : l = dsc os := by
  refine List.Perm.eq_of_pairwise (le := fun p q => leD p q = true) (fun a b _ _ h1 h2 => ?_) s (dsc_sorted os) (p.trans (dsc_perm os).symm)
  rw [leD_iff] at h1 h2
  exact Prod.ext (by omega) (by omega)
def srt (l : List Int) : List Int := l.mergeSort (fun a b => decide (a ≤ b))
theorem srt_perm (l : List Int) : (srt l).Perm l := List.mergeSort_perm _ _
theorem srt_sorted (l : List Int) : (srt l).Pairwise (· ≤ ·) := by
  refine (List.pairwise_mergeSort (le := fun a b : Int => decide (a ≤ b)) (fun a b c h1 h2 => ?_) (fun a b => ?_) l).imp fun h => of_decide_eq_true h
  · have := of_decide_eq_true h1; have := of_decide_eq_true h2; exact decide_eq_true (by omega)
  · rw [Bool.or_eq_true, decide_eq_true_eq, decide_eq_true_eq]; omega
theorem srt_uniq {l m : List Int} (p : m.Perm l) (s : m.Pairwise (· ≤ ·)) : m = srt l :=
  List.Perm.eq_of_pairwise (le := fun a b : Int => a ≤ b) (fun a b _ _ h1 h2 => by omega) s (srt_sorted l) (p.trans (srt_perm l).symm)
theorem sum_perm {l m : List Int} (p : l.Perm m) : l.sum = m.sum := by
  induction p with
  | nil => rfl
  | cons x _ ih => rw [List.sum_cons, List.sum_cons, ih]
  | swap x y l => rw [List.sum_cons, List.sum_cons, List.sum_cons, List.sum_cons]; omega
  | trans _ _ a b => exact a.trans b
/-! ### how many folds are due -/
def dueZ : Int → List Int → Option Nat
  | e, [] => if e ≤ 0 then some 0 else none
  | e, z :: r => if e ≤ 0 then some 0 else (dueZ (e - z) r).map (· + 1)
theorem due_some : ∀ {zs : List Int} {e : Int} {m : Nat}, dueZ e zs = some m → m ≤ zs.length ∧ e ≤ (zs.take m).sum ∧ ∀ j, j < m → (zs.take j).sum < e
  | [], e, m, h => by
    unfold dueZ at h
    split at h
    · cases h; exact ⟨Nat.le_refl _, by rw [List.take_nil]; assumption, fun j hj => absurd hj (Nat.not_lt_zero _)⟩
    · cases h
  | z :: r, e, m, h => by
    unfold dueZ at h
    split at h
    · cases h; exact ⟨Nat.zero_le _, by assumption, fun j hj => absurd hj (Nat.not_lt_zero _)⟩
    · rename_i c
      cases q : dueZ (e - z) r with
      | none => rw [q] at h; cases h
      | some k =>
        rw [q] at h
        cases h
        obtain ⟨a, b, d⟩ := due_some q
        refine ⟨Nat.succ_le_succ a, ?_, fun j hj => ?_⟩
        · rw [List.take_succ_cons, List.sum_cons]; omega
        · cases j with
          | zero => show (0 : Int) < e; omega
          | succ j => rw [List.take_succ_cons, List.sum_cons]; have := d j (Nat.lt_of_succ_lt_succ hj); omega
theorem due_none : ∀ {zs : List Int} {e : Int}, dueZ e zs = none → ∀ j, (zs.take j).sum < e
  | [], e, h, j => by
    unfold dueZ at h
    split at h
    · cases h
    · rw [List.take_nil]; show (0 : Int) < e; omega
  | z :: r, e, h, j => by
    unfold dueZ at h
    split at h
    · cases h
    · rename_i c
      cases q : dueZ (e - z) r with
      | none =>
        cases j with
        | zero => show (0 : Int) < e; omega
        | succ j => rw [List.take_succ_cons, List.sum_cons]; have := due_none q j; omega
      | some k => rw [q] at h; cases h
def stp (s : List Int × Int) (p : Int × Int) : List Int × Int := if s.2 > 0 then (s.1 ++ [p.2], s.2 - p.1) else s
theorem stp_done : ∀ {L : List (Int × Int)} {s : List Int × Int}, s.2 ≤ 0 → L.foldl stp s = s
  | [], _, _ => rfl
  | p :: r, s, h => by
    have e : stp s p = s := by unfold stp; rw [if_neg (by omega)]
    rw [List.foldl_cons, e]
    exact stp_done h
theorem stp_some : ∀ {L : List (Int × Int)} {fs : List Int} {e : Int} {m : Nat}, dueZ e (L.map (·.1)) = some m → L.foldl stp (fs, e) = (fs ++ (L.take m).map (·.2), e - ((L.map (·.1)).take m).sum) ∧ e - ((L.map (·.1)).take m).sum ≤ 0
  | [], fs, e, m, h => by
    obtain ⟨a, b, _⟩ := due_some h
    obtain rfl : m = 0 := by simpa using a
    refine ⟨by simp, by omega⟩
  | p :: r, fs, e, m, h => by
    rw [List.map_cons] at h
    unfold dueZ at h
    split at h
    · rename_i c
      cases h
      rw [stp_done (by exact c)]
      exact ⟨by simp, by simpa using c⟩
    · rename_i c
      cases q : dueZ (e - p.1) (r.map (·.1)) with
      | none => rw [q] at h; cases h
      | some k =>
        rw [q] at h
        cases h
        obtain ⟨a, b⟩ := stp_some (fs := fs ++ [p.2]) q
        have e1 : stp (fs, e) p = (fs ++ [p.2], e - p.1) := by unfold stp; rw [if_pos (by show e > 0; omega)]
        rw [List.foldl_cons, e1, a]
        refine ⟨?_, ?_⟩
        · rw [List.take_succ_cons, List.map_cons, List.map_cons, List.take_succ_cons, List.sum_cons, List.append_assoc]
          refine Prod.ext rfl ?_
          show e - p.1 - _ = e - (p.1 + _)
          omega
        · rw [List.map_cons, List.take_succ_cons, List.sum_cons]; omega
theorem stp_none : ∀ {L : List (Int × Int)} {fs : List Int} {e : Int}, dueZ e (L.map (·.1)) = none → 0 < (L.foldl stp (fs, e)).2
  | [], fs, e, h => by
    have := due_none h 0
    simpa using this
  | p :: r, fs, e, h => by
    rw [List.map_cons] at h
    unfold dueZ at h
    split at h
    · cases h
    · rename_i c
      cases q : dueZ (e - p.1) (r.map (·.1)) with
      | some k => rw [q] at h; cases h
      | none =>
        have e1 : stp (fs, e) p = (fs ++ [p.2], e - p.1) := by unfold stp; rw [if_pos (by show e > 0; omega)]
        rw [List.foldl_cons, e1]
        exact stp_none q
/-- the folds that are told: none, or the lines in ascending order -/
noncomputable def shwR (ns : List Int) (h : Int) (f t : Nat) : Option (List Int) :=
  match dueZ ((t : Int) - f + 1 - (h - ns.getD f 0)) ((dsc (betL ns t f)).map (·.1)) with
  | some m => some (srt (((dsc (betL ns t f)).take m).map (·.2)))
  | none => none
def optV : Option (List Int) → PyData
  | none => .none
  | some F => dI F
def RetO (Q : VK) (H : Hp) : Option (List Int) → Prop
  | none => RetV Q H .non
  | some F => RetL Q H (iv F)
end SH

namespace SH
open PySem PySem.Spec PyProof.Rows L2
abbrev s_folds_between : Stmt := topS 36
abbrev N_folds_between : List Str := ["outline", "first", "last", "found", "line", "end"]
abbrev P_folds_between : List Str := ["outline", "first", "last"]
theorem sc_folds_between : FnScope N_folds_between P_folds_between (defScope s_folds_between) := ⟨rfl, rfl, rfl, by decide +kernel, rfl, by decide +kernel, by decide +kernel⟩
section
variable {P : Program} {w : World} {K : PySem.W.Frag} {mg : Str → Option Value} {base : Heap}
def sp_folds_between (K : PySem.W.Frag) : Sp := fun vs H Q _ => ∃ (a : Addr) (ns : List Int) (f t : Nat), vs = [.ref a, .int f, .int t] ∧ SqL K H a (iv ns) ∧ f ≤ t ∧ t < ns.length ∧ ns.length ≤ 200 ∧
  ∀ (p : Addr) (xs : List V) (H' : Hp), H p = none → Same H H' → H' p = some (.lst xs) → Prs H' xs (betL ns t f) → Q (.ref p) H'
theorem ok_folds_between (T : Txt mg) (h : At K mg "folds_between" s_folds_between)
    (g_last_of_section : Has P w K mg base CX0 2 "last_of_section" s_last_of_section P_last_of_section (sp_last_of_section K)) :
    Has P w K mg base CX0 3 "folds_between" s_folds_between P_folds_between (sp_folds_between K) := by
  refine Has.of h sc_folds_between (fun vs H Q E h => ?_) (fun _ _ _ _ _ _ us hl => match us, hl with | [_, _, _], _ => rfl) (fun f cdv A outer s H vs Q E room qt h => ?_)
  · obtain ⟨a, n, f, t, rfl, _⟩ := h; rfl
  obtain ⟨a, ns, f0, t, rfl, ha, ft, tl, l2, k⟩ := h
  refine ⟨_, (pss_cons (ps_set (i := 3) sc_folds_between.nd rfl (Or.inl rfl) (pe_lst pa_nil))
      (pss_cons (ps_set (i := 4) sc_folds_between.nd rfl (Or.inl rfl) (pv 1))
      (pss_cons (ps_while PassesOwn.never (pt_cmpR op_lt (pv 4) (pv 2) (nomark _))
        (pss_cons (ps_set (i := 5) sc_folds_between.nd rfl (Or.inl rfl) (pe_has g_last_of_section (room.mono (by decide)) qt (by rfl) pass0 (pa_cons (pv 0) (pa_cons (pv 4) pa_nil))))
        (pss_cons (ps_if (pt_cmpR op_lt (pv 5) (pv 2) (nomark _))
          (pss_cons (ps_expr (pe_bm PySem.F.plainAttrs_list PySem.F.slot_list_append PySem.F.type_list_append mt_append (pv 3) (pa_cons (pe_tup (pa_cons (pe_op op_sub (pv 5) (pv 4)) (pa_cons (pv 4) pa_nil))) pa_nil)))
          (pss_one (ps_set (i := 4) sc_folds_between.nd rfl (Or.inl rfl) (pv 5))))
          pss_nil)
        (pss_one (ps_aug (i := 4) sc_folds_between.nd rfl (Or.inl rfl) pe_int ip_add)))))
      (pss_one (ps_ret (pv 3)))))), ?_⟩
  refine ⟨(by decide : 0 ≤ sizeLine), fun p hp => ?_⟩
  refine ⟨_, rfl, ?_⟩
  refine ⟨fun m σ H' => Same H H' ∧ ∃ (i : Nat) (v5 : Option V) (xs : List V) (os : List (Int × Int)), f0 ≤ i ∧ i ≤ t ∧ m = t - i ∧ σ = [some (.ref a), some (.int f0), some (.int t), some (.ref p), some (.int (i : Nat)), v5] ∧
      H' p = some (.lst xs) ∧ Prs H' xs os ∧ os ++ betL ns t i = betL ns t f0 ∧ os.length ≤ i,
    ⟨_, Same.new hp, f0, none, [], [], Nat.le_refl _, ft, rfl, rfl, upd_same, .nil, rfl, Nat.zero_le _⟩, ?_⟩
  rintro m σ H' ⟨s1, i, v5, xs, os, fi, it, rfl, rfl, h1, hp1, e, lo⟩
  refine ⟨_, rfl, _, rfl, _, _, rfl, rfl, _, rfl, ite2 (fun c => ?_) (fun c => ?_)⟩
  · have c1 : i < t := by have := of_decide_eq_true c; omega
    have ie := endF_is (ns := ns) (i := i) (by omega)
    have ie1 := ie.1
    refine ⟨fun σ' H2 => Same H H2 ∧ ∃ (j : Nat) (v5 : Option V) (xs : List V) (os : List (Int × Int)), i < j ∧ j ≤ t ∧ σ' = [some (.ref a), some (.int f0), some (.int t), some (.ref p), some (.int (j : Nat)), v5] ∧
      H2 p = some (.lst xs) ∧ Prs H2 xs os ∧ os ++ betL ns t j = betL ns t f0 ∧ os.length ≤ j, ?_, ?_⟩
    · rintro σ' H2 ⟨s2, j, v5, xs, os, ij, jt, rfl, h2, hp2, e2, lo2⟩
      exact ⟨t - j, by omega, s2, j, v5, xs, os, by omega, jt, rfl, rfl, h2, hp2, e2, lo2⟩
    refine ⟨_, rfl, _, rfl, a, ns, i, endF ns i, rfl, s1.seq ha, ie, ?_⟩
    refine ⟨_, rfl, _, rfl, _, _, rfl, rfl, _, rfl, ite2 (fun c2 => ?_) (fun c2 => ?_)⟩
    · have c3 : endF ns i < t := by have := of_decide_eq_true c2; omega
      have eb : betL ns t i = (((endF ns i : Nat) : Int) - i, (i : Int)) :: betL ns t (endF ns i + 1) := by
        unfold betL
        rw [secL_in tl c1 c3, List.map_cons]
        unfold szF
        rw [Int.toNat_natCast]
      refine ⟨_, rfl, .inl ⟨rfl, _, SqL.of h1⟩, _, rfl, _, rfl, _, _, rfl, rfl, _, rfl, (by decide : 2 ≤ sizeLine), fun tt htt => ?_⟩
      have h9 := Same.new (o := .tup [.int (((endF ns i : Nat) : Int) - i), .int (i : Nat)]) htt _ _ h1
      have l8 := hp1.len
      refine ⟨p, _, _, rfl, rfl, h9, small_line (by omega), ?_⟩
      refine ⟨_, rfl, ?_⟩
      refine ⟨_, rfl, _, _, rfl, rfl, fun b u q => ?_, endF ns i + 1, _, _, os ++ [(((endF ns i : Nat) : Int) - i, (i : Int))], by omega, by omega, rfl, upd_same, ?_, ?_, ?_⟩
      · rw [upd_ne (ne_of_none q hp)]
        exact Same.new htt _ _ (s1 _ _ q)
      · exact ((hp1.same (Same.new htt)).append (.cons upd_same .nil)).upd h9
      · rw [← e, eb, List.append_assoc]; rfl
      · rw [List.length_append]; show os.length + 1 ≤ _; omega
    · have c3 : t ≤ endF ns i := by
        rcases Nat.lt_or_ge (endF ns i) t with q | q
        · exact (c2 (decide_eq_true (by omega))).elim
        · exact q
      have eb : betL ns t i = betL ns t (i + 1) := by unfold betL; rw [secL_out c1 c3]
      exact ⟨_, rfl, _, _, rfl, rfl, s1, i + 1, _, xs, os, by omega, by omega, rfl, h1, hp1, by rw [← e, eb], by omega⟩
  · have c1 : t ≤ i := by
      rcases Nat.lt_or_ge i t with q | q
      · exact (c (decide_eq_true (by omega))).elim
      · exact q
    have eb : betL ns t i = [] := by unfold betL; rw [secL_end c1]; rfl
    rw [eb, List.append_nil] at e
    subst e
    exact ⟨_, rfl, k p xs H' hp s1 h1 hp1⟩
end
end SH

namespace SH
open PySem PySem.Spec PyProof.Rows L2
theorem iteT' {b : Bool} {A B : Prop} (e : b = true) (h : A) : if b = true then A else B := by rw [if_pos e]; exact h
theorem iteFb {b : Bool} {A B : Prop} (e : b = false) (h : B) : if b = true then A else B := by rw [e, if_neg Bool.false_ne_true]; exact h
abbrev s_folds_to_show : Stmt := topS 38
abbrev N_folds_to_show : List Str := ["outline", "height", "line", "other", "first", "last", "excess", "folds", "hidden", "folded"]
abbrev P_folds_to_show : List Str := ["outline", "height", "line", "other"]
theorem sc_folds_to_show : FnScope N_folds_to_show P_folds_to_show (defScope s_folds_to_show) := ⟨rfl, rfl, rfl, by decide +kernel, rfl, by decide +kernel, by decide +kernel⟩
abbrev s_fewest_folds : Stmt := topS 37
abbrev N_fewest_folds : List Str := ["outline", "height", "line", "other", "folds"]
abbrev P_fewest_folds : List Str := ["outline", "height", "line", "other"]
theorem sc_fewest_folds : FnScope N_fewest_folds P_fewest_folds (defScope s_fewest_folds) := ⟨rfl, rfl, rfl, by decide +kernel, rfl, by decide +kernel, by decide +kernel⟩
def kOf (H : Hp) (x : V) : Int × Int := match x with
  | .ref r => (match H r with | some (.tup [.int a, .int b]) => (a, b) | _ => (0, 0))
  | _ => (0, 0)
theorem kOf_at {H : Hp} {r : Addr} {a b : Int} (h : H r = some (.tup [.int a, .int b])) : kOf H (.ref r) = (a, b) := by
  unfold kOf
  simp only [h]
theorem prs_k {H : Hp} : ∀ {xs : List V} {os : List (Int × Int)}, Prs H xs os → (∀ x ∈ xs, ∃ t, x = V.ref t ∧ H t = some (.tup [.int (kOf H x).1, .int (kOf H x).2])) ∧ xs.map (kOf H) = os
  | _, _, .nil => ⟨fun x hx => (List.not_mem_nil hx).elim, rfl⟩
  | _, _, .cons (r := r) (s := s) (l := l) h t => by
    obtain ⟨a, b⟩ := prs_k t
    have e := kOf_at h
    refine ⟨fun x hx => ?_, by rw [List.map_cons, e, b]⟩
    rcases List.mem_cons.mp hx with z | z
    · subst z; exact ⟨_, rfl, by rw [e]; exact h⟩
    · exact a x z
theorem prs_of {H : Hp} : ∀ {xs : List V}, (∀ x ∈ xs, ∃ t, x = V.ref t ∧ H t = some (.tup [.int (kOf H x).1, .int (kOf H x).2])) → Prs H xs (xs.map (kOf H))
  | [], _ => .nil
  | x :: r, h => by
    obtain ⟨t, rfl, e⟩ := h x List.mem_cons_self
    exact .cons e (prs_of fun y hy => h y (List.mem_cons_of_mem _ hy))
/-- what sorted(.., reverse=True) gives -/
theorem sorted_dsc {H : Hp} {xs ys : List V} {os : List (Int × Int)} (p : Prs H xs os) (s : SrtO.Srtd (ltP (kOf H)) ys) (pm : ys.Perm xs) : Prs H ys.reverse (dsc os) := by
  obtain ⟨a, b⟩ := prs_k p
  have h : ∀ x ∈ ys.reverse, ∃ t, x = V.ref t ∧ H t = some (.tup [.int (kOf H x).1, .int (kOf H x).2]) := fun x hx => a x (pm.mem_iff.mp (List.mem_reverse.mp hx))
  have e : ys.reverse.map (kOf H) = dsc os := by
    refine dsc_uniq ?_ ?_
    · rw [← b]
      exact (((List.reverse_perm ys).trans pm).map _)
    · rw [List.map_reverse, List.pairwise_reverse, List.pairwise_map]
      refine s.imp fun {x y} q => ?_
      have := SrtO.lexB_no.mp q
      rw [leD_iff]
      omega
  rw [← e]
  exact prs_of h
/-- lineD of a value that is an outline -/
def lnD (d e : PyData) : Bool := match d with | .list ds => lineD ds.length e | _ => false
theorem lnD_dI (ns : List Int) (e : PyData) : lnD (dI ns) e = lineD ns.length e := by show lineD (ns.map PyData.int).length e = _; rw [List.length_map]
/-- None or a list of ints -/
def OptL (H : Hp) (x : V) : Prop := x = .non ∨ ∃ p L, x = .ref p ∧ H p = some (.lst (iv L))
section
variable {P : Program} {w : World} {K : PySem.W.Frag} {mg : Str → Option Value} {base : Heap} {CO CH CL : Addr}
def sp_showN (good : VK → Hp → Prop) (CO CH CL : Addr) : Sp := fun vs H Q E => ∃ (x1 x2 x3 x4 : V) (d1 d2 d3 d4 : PyData) (a1 a2 a3 a4 : List Addr), vs = [x1, x2, x3, x4] ∧ Dx H x1 d1 a1 ∧ Dx H x2 d2 a2 ∧ Dx H x3 d3 a3 ∧ Dx H x4 d4 a4 ∧
  (isOD d1 = true → inD d2 1 400 = true → lnD d1 d3 = true → lnD d1 d4 = true → good Q H) ∧ (isOD d1 = true → inD d2 1 400 = true → (lnD d1 d3 = false ∨ lnD d1 d4 = false) → Rai E H CL) ∧
  (isOD d1 = true → inD d2 1 400 = false → Rai E H CH) ∧ (isOD d1 = false → Rai E H CO)
def goodL : VK → Hp → Prop := fun Q H => ∀ x H', Same H H' → OptL H' x → Q x H'
theorem ok_folds_to_show (T : Txt mg) (h : At K mg "folds_to_show" s_folds_to_show)
    (g_check_outline : Has P w K mg base (L2N.CX P w) 4 "check_outline" s_check_outline P_check_outline (sp_chkO CO))
    (g_check_height : Has P w K mg base (L2N.CX P w) 3 "check_height" s_check_height P_check_height (sp_chkH CH))
    (g_check_line : Has P w K mg base (L2N.CX P w) 3 "check_line" s_check_line P_check_line (sp_chkL K CL))
    (g_folds_between : Has P w K mg base CX0 3 "folds_between" s_folds_between P_folds_between (sp_folds_between K)) :
    Has P w K mg base (L2N.CX P w) 5 "folds_to_show" s_folds_to_show P_folds_to_show (sp_showN goodL CO CH CL) := by
  refine Has.ofN h sc_folds_to_show (fun vs H Q E h => ?_) (fun _ _ _ _ _ _ us hl => match us, hl with | [_, _, _, _], _ => rfl) (fun f cdv A outer s H vs Q E room qt h => ?_)
  · obtain ⟨x1, x2, x3, x4, d1, d2, d3, d4, a1, a2, a3, a4, rfl, _⟩ := h; rfl
  obtain ⟨x1, x2, x3, x4, d1, d2, d3, d4, a1, a2, a3, a4, rfl, hd1, hd2, hd3, hd4, kk, kL, kH, kO⟩ := h
  refine ⟨_, (pss_cons (ps_expr (pe_hasS g_check_outline (room.mono (by decide)) qt (by rfl) (fun σ => L2N.passAt (L2N.takes_of rfl rfl rfl rfl) σ) (pa_cons (pv 0) pa_nil)))
      (pss_cons (ps_expr (pe_hasS g_check_height (room.mono (by decide)) qt (by rfl) (fun σ => L2N.passAt (L2N.takes_of rfl rfl rfl rfl) σ) (pa_cons (pv 1) pa_nil)))
      (pss_cons (ps_expr (pe_hasS g_check_line (room.mono (by decide)) qt (by rfl) (fun σ => L2N.passAt (L2N.takes_of rfl rfl rfl rfl) σ) (pa_cons (pv 0) (pa_cons (pv 2) pa_nil))))
      (pss_cons (ps_expr (pe_hasS g_check_line (room.mono (by decide)) qt (by rfl) (fun σ => L2N.passAt (L2N.takes_of rfl rfl rfl rfl) σ) (pa_cons (pv 0) (pa_cons (pv 3) pa_nil))))
      (pss_cons (ps_par (i := 4) (j := 5) rfl sc_folds_to_show.nd rfl rfl (by decide) rfl rfl (pa_cons (pe_callB (call_min2 rfl) (by rfl) T.min (by decide +kernel) (pa_cons (pv 2) (pa_cons (pv 3) pa_nil))) (pa_cons (pe_callB (call_max2 rfl) (by rfl) T.max (by decide +kernel) (pa_cons (pv 2) (pa_cons (pv 3) pa_nil))) pa_nil)) (by rfl))
      (pss_cons (ps_set (i := 6) sc_folds_to_show.nd rfl (Or.inl rfl) (pe_op op_sub (pe_op op_add (pe_op op_sub (pv 5) (pv 4)) pe_int) (pe_op op_sub (pv 1) (pe_ix ix_list (pv 0) (pv 4) (fun _ _ => rfl)))))
      (pss_cons (ps_set (i := 7) sc_folds_to_show.nd rfl (Or.inl rfl) (pe_lst pa_nil))
      (pss_cons (ps_for (passes_of rfl) rfl (pi_list (pe_callBK cr_sortedPOR (by rfl) T.sorted (by decide +kernel) (pa_cons (pe_has g_folds_between (room.mono (by decide)) qt (by rfl) pass0 (pa_cons (pv 0) (pa_cons (pv 4) (pa_cons (pv 5) pa_nil)))) pa_nil) (pk_cons pe_bl pk_nil))) (pg_tup rfl (pgs_cons (pg_name (i := 8) sc_folds_to_show.nd rfl (Or.inl rfl) (hf := Or.inl rfl)) (pgs_cons (pg_name (i := 9) sc_folds_to_show.nd rfl (Or.inl rfl) (hf := Or.inl rfl)) pgs_nil)))
        (pss_one (ps_if (pt_cmpR op_gt (pv 6) pe_int (nomark _))
          (pss_cons (ps_expr (pe_bm PySem.F.plainAttrs_list PySem.F.slot_list_append PySem.F.type_list_append mt_append (pv 7) (pa_cons (pv 9) pa_nil)))
          (pss_one (ps_aug (i := 6) sc_folds_to_show.nd rfl (Or.inl rfl) (pv 8) ip_sub)))
          pss_nil)))
      (pss_one (ps_ret (pe_ifExp (pt_cmpR op_le (pv 6) pe_int (nomark _)) (pe_callB cr_sortedAny (by rfl) T.sorted (by decide +kernel) (pa_cons (pv 7) pa_nil)) pe_non))))))))))), ?_⟩
  refine ⟨_, rfl, x1, d1, a1, rfl, hd1, fun c1 => ?_, fun c1 => kO c1 H (Same.refl _)⟩
  refine ⟨_, rfl, x2, d2, a2, rfl, hd2, fun c2 => ?_, fun c2 => kH c1 c2 H (Same.refl _)⟩
  have kk := kk c1 c2
  have kL := kL c1 c2
  obtain ⟨ns, rfl, ho⟩ := isOD_ints c1
  obtain ⟨a, rfl, ha⟩ := hd1.ints
  rw [lnD_dI, lnD_dI] at kk kL
  refine ⟨_, rfl, _, rfl, a, ns, x3, d3, a3, rfl, SqL.of ha, hd3, fun c3 => ?_, fun c3 => kL (.inl c3) H (Same.refl _)⟩
  refine ⟨_, rfl, _, rfl, a, ns, x4, d4, a4, rfl, SqL.of ha, hd4, fun c4 => ?_, fun c4 => kL (.inr c4) H (Same.refl _)⟩
  have kG := kk c3 c4
  obtain ⟨l, rfl, ll⟩ := lineD_int c3
  obtain ⟨o, rfl, ol⟩ := lineD_int c4
  obtain ⟨hh, rfl, h0, h1⟩ := inD_int c2
  cases hd2
  cases hd3
  cases hd4
  obtain ⟨l1, l2, hk⟩ := isO_iff.mp ho
  have el : (iv ns).length = ns.length := List.length_map _
  have k : RetO Q H (shwR ns hh (min l o) (max l o)) := by
    cases shwR ns hh (min l o) (max l o) with
    | none => exact fun H' s' => kG _ _ s' (.inl rfl)
    | some L => exact fun p H' _ s' e => kG _ _ s' (.inr ⟨p, L, rfl, e⟩)
  refine ⟨_, rfl, _, rfl, _, _, rfl, _, rfl, _, rfl, _, _, rfl, _, _, rfl, ?_⟩
  have e1 : (if (o : Int) < l then (o : Int) else l) = ((min l o : Nat) : Int) := by split <;> omega
  have e2 : (if (o : Int) > l then (o : Int) else l) = ((max l o : Nat) : Int) := by split <;> omega
  rw [e1, e2]
  have ft : min l o ≤ max l o := by omega
  have tl : max l o < ns.length := by omega
  generalize min l o = f0 at ft k ⊢
  generalize max l o = t at ft tl k ⊢
  refine ⟨_, rfl, _, rfl, _, _, rfl, rfl, _, _, rfl, rfl, _, rfl, _, rfl, _, rfl, a, iv ns, f0, _, rfl, rfl, SqL.of ha, atI_iv (by omega) (by omega), _, _, rfl, rfl, _, _, rfl, rfl, ?_⟩
  show gName 6 (V.int ((t : Int) - f0 + 1 - (hh - ns.getD ((f0 : Int)).toNat 0))) _ _ _
  rw [Int.toNat_natCast]
  unfold shwR at k
  generalize (t : Int) - f0 + 1 - (hh - ns.getD f0 0) = ex at k ⊢
  refine ⟨(by decide : 0 ≤ sizeLine), fun q nq => ?_⟩
  have lb := secL_len tl (t - f0) f0 (Nat.le_refl _)
  have lB : (betL ns t f0).length = (secL ns t f0).length := List.length_map _
  refine ⟨_, rfl, _, rfl, _, rfl, a, ns, f0, t, rfl, SqL.of (Same.new nq _ _ ha), ft, tl, l2, fun p xs H1 hp s1 h1 px => ?_⟩
  have h1q := s1 _ _ (upd_same (H := H) (a := q) (o := .lst []))
  have s01 := (Same.new (o := .lst []) nq).trans s1
  obtain ⟨ka, kb⟩ := prs_k px
  refine ⟨p, xs, kOf H1, rfl, rfl, SqL.of h1, ka, fun ys r sd pm hr => ?_⟩
  have pd := sorted_dsc px sd pm
  have lx := px.len
  have ly : ys.reverse.length = (betL ns t f0).length := by rw [List.length_reverse, pm.length_eq, lx]
  have hDl : (dsc (betL ns t f0)).length = (betL ns t f0).length := (dsc_perm _).length_eq
  have h2r := upd_same (H := H1) (a := r) (o := .lst ys.reverse)
  have h2q := Same.new (o := .lst ys.reverse) hr _ _ h1q
  have pd2 := pd.same (Same.new (o := .lst ys.reverse) hr)
  have s02 := s01.trans (Same.new (o := .lst ys.reverse) hr)
  have nrq : q ≠ r := ne_of_none h1q hr
  generalize upd H1 r (.lst ys.reverse) = H2 at h2r h2q pd2 s02 ⊢
  generalize ys.reverse = zs at h2r pd2 ly
  generalize dsc (betL ns t f0) = D at k pd2 hDl
  have hqH : H q = none := nq
  refine ⟨r, rfl, ⟨_, SqL.of h2r⟩, for_list (K := K) (a := r) (xs := zs) (fun i σ H3 => ∃ (v8 v9 : Option V), σ = [some (.ref a), some (.int hh), some (.int l), some (.int o), some (.int f0), some (.int t), some (.int ((D.take i).foldl stp ([], ex)).2), some (.ref q), v8, v9] ∧
      Same H H3 ∧ H3 q = some (.lst (iv ((D.take i).foldl stp ([], ex)).1)) ∧ H3 r = some (.lst zs) ∧ Prs H3 zs D ∧ ((D.take i).foldl stp ([], ex)).1.length ≤ i)
    ⟨none, none, rfl, s02, h2q, h2r, pd2, Nat.le_refl _⟩ (fun i σ H3 _ ⟨_, _, _, _, _, e, _⟩ => SqL.of e) ?_ ?_⟩
  · rintro i x σ H3 hx ⟨v8, v9, rfl, s3, h3q, h3r, p3, li⟩
    obtain ⟨u, s', l', rfl, hD, hu⟩ := p3.at hx
    have et : (D.take (i + 1)).foldl stp ([], ex) = stp ((D.take i).foldl stp ([], ex)) (s', l') := by
      rw [List.take_succ, hD, List.foldl_append]; rfl
    rw [et]
    generalize (D.take i).foldl stp ([], ex) = S at h3q li ⊢
    obtain ⟨fs, e⟩ := S
    refine ⟨u, _, rfl, SqT.of hu, rfl, _, _, rfl, _, _, rfl, rfl, ?_⟩
    refine ⟨_, rfl, _, _, rfl, rfl, _, rfl, ite2 (fun c => ?_) (fun c => ?_)⟩
    · have c1 : e > 0 := of_decide_eq_true c
      have es : stp (fs, e) (s', l') = (fs ++ [l'], e - s') := by unfold stp; rw [if_pos c1]
      rw [es]
      refine ⟨_, rfl, .inl ⟨rfl, _, SqL.of h3q⟩, _, rfl, q, _, _, rfl, rfl, h3q, small_line (by rw [List.length_map]; have : i < zs.length := (List.getElem?_eq_some_iff.mp hx).1; show fs.length < 100000; have : fs.length ≤ i := li; omega), ?_⟩
      refine ⟨_, rfl, _, rfl, _, _, rfl, rfl, _, _, rfl, fun b u' z => ?_, ?_, ?_, p3.upd h3q, ?_⟩
      · rw [upd_ne (ne_of_none z hqH)]; exact s3 _ _ z
      · rw [upd_same, iv_snoc]
      · rw [upd_ne nrq.symm]; exact h3r
      · rw [List.length_append]; show fs.length + 1 ≤ i + 1; have : fs.length ≤ i := li; omega
    · have c1 : ¬ e > 0 := fun z => c (decide_eq_true z)
      have es : stp (fs, e) (s', l') = (fs, e) := by unfold stp; rw [if_neg c1]
      rw [es]
      exact ⟨_, _, rfl, s3, h3q, h3r, p3, by have : fs.length ≤ i := li; show fs.length ≤ i + 1; omega⟩
  · rintro σ H3 ⟨v8, v9, rfl, s3, h3q, h3r, p3, li⟩
    rw [p3.len, List.take_length] at h3q li
    rw [p3.len, List.take_length]
    refine ⟨_, rfl, _, _, rfl, rfl, _, rfl, ?_⟩
    cases q' : dueZ ex (D.map (·.1)) with
    | some m =>
      rw [q'] at k
      obtain ⟨u1, u2⟩ := stp_some (fs := []) q'
      rw [u1, List.nil_append] at h3q li ⊢
      refine iteT' (decide_eq_true u2) ?_
      refine ⟨_, rfl, q, _, rfl, SqL.of h3q, by have : ((D.take m).map (·.2)).length ≤ D.length := li; omega, fun M u pm' asc' hu => ?_⟩
      rw [srt_uniq pm' asc']
      exact k u _ (s3.free hu) (s3.trans (Same.new hu)) upd_same
    | none =>
      rw [q'] at k
      have u1 := stp_none (fs := []) q'
      refine iteFb (decide_eq_false (by omega)) ?_
      exact k _ s3
end

section
variable {P : Program} {w : World} {K : PySem.W.Frag} {mg : Str → Option Value} {base : Heap} {CO CH CL : Addr}
theorem ok_fewest_folds (T : Txt mg) (h : At K mg "fewest_folds" s_fewest_folds)
    (g_folds_to_show : Has P w K mg base (L2N.CX P w) 5 "folds_to_show" s_folds_to_show P_folds_to_show (sp_showN goodL CO CH CL)) :
    Has P w K mg base (L2N.CX P w) 6 "fewest_folds" s_fewest_folds P_fewest_folds (sp_showN RetAny CO CH CL) := by
  refine Has.ofN h sc_fewest_folds (fun vs H Q E h => ?_) (fun _ _ _ _ _ _ us hl => match us, hl with | [_, _, _, _], _ => rfl) (fun f cdv A outer s H vs Q E room qt h => ?_)
  · obtain ⟨x1, x2, x3, x4, d1, d2, d3, d4, a1, a2, a3, a4, rfl, _⟩ := h; rfl
  obtain ⟨x1, x2, x3, x4, d1, d2, d3, d4, a1, a2, a3, a4, rfl, hd1, hd2, hd3, hd4, kk, kL, kH, kO⟩ := h
  refine ⟨_, (pss_cons (ps_set (i := 4) sc_fewest_folds.nd rfl (Or.inl rfl) (pe_hasS g_folds_to_show (room.mono (by decide)) qt (by rfl) (fun σ => L2N.passAt (L2N.takes_of rfl rfl rfl rfl) σ) (pa_cons (pv 0) (pa_cons (pv 1) (pa_cons (pv 2) (pa_cons (pv 3) pa_nil))))))
      (pss_one (ps_ret (pe_ifExp (pt_cmpR op_isN (pv 4) pe_non (nomark _)) pe_non (pe_callB call_len_seq (by rfl) T.len (by decide +kernel) (pa_cons (pv 4) pa_nil)))))), ?_⟩
  refine ⟨_, rfl, _, rfl, _, rfl, _, rfl, x1, x2, x3, x4, d1, d2, d3, d4, a1, a2, a3, a4, rfl, hd1, hd2, hd3, hd4, fun c1 c2 c3 c4 x H1 s1 ox => ?_, kL, kH, kO⟩
  rcases ox with rfl | ⟨p, L, rfl, hp⟩
  · exact ⟨_, rfl, rfl, _, rfl, iteT (kk c1 c2 c3 c4 _ _ s1)⟩
  · exact ⟨_, rfl, rfl, _, rfl, iteF ⟨_, rfl, p, _, rfl, .inl (SqL.of hp), kk c1 c2 c3 c4 _ _ s1⟩⟩
end
end SH

namespace SH
open PySem PySem.Spec PyProof.Rows L2
abbrev s_law_bag : Stmt := topS 40
abbrev N_law_bag : List Str := ["cell", "turn", "size"]
abbrev P_law_bag : List Str := ["cell", "turn"]
theorem sc_law_bag : FnScope N_law_bag P_law_bag (defScope s_law_bag) := ⟨rfl, rfl, rfl, by decide +kernel, rfl, by decide +kernel, by decide +kernel⟩
abbrev s_law_draw : Stmt := topS 41
abbrev N_law_draw : List Str := ["bag", "many", "found", "mixed"]
abbrev P_law_draw : List Str := ["bag", "many"]
theorem sc_law_draw : FnScope N_law_draw P_law_draw (defScope s_law_draw) := ⟨rfl, rfl, rfl, by decide +kernel, rfl, by decide +kernel, by decide +kernel⟩
abbrev s_law_cells : Stmt := topS 42
abbrev N_law_cells : List Str := ["script"]
abbrev P_law_cells : List Str := ["script"]
theorem sc_law_cells : FnScope N_law_cells P_law_cells (defScope s_law_cells) := ⟨rfl, rfl, rfl, by decide +kernel, rfl, by decide +kernel, by decide +kernel⟩
abbrev s_law_rising : Stmt := topS 43
abbrev N_law_rising : List Str := ["bag", "most", "style", "many", "found", "turn", "top", "some"]
abbrev P_law_rising : List Str := ["bag", "most"]
theorem sc_law_rising : FnScope N_law_rising P_law_rising (defScope s_law_rising) := ⟨rfl, rfl, rfl, by decide +kernel, rfl, by decide +kernel, by decide +kernel⟩
abbrev s_law_sized : Stmt := topS 44
abbrev N_law_sized : List Str := ["script", "bag", "small", "great"]
abbrev P_law_sized : List Str := ["script", "bag", "small", "great"]
theorem sc_law_sized : FnScope N_law_sized P_law_sized (defScope s_law_sized) := ⟨rfl, rfl, rfl, by decide +kernel, rfl, by decide +kernel, by decide +kernel⟩
/-- the bag stands at a: [digits, state, number of draws], at most n draws so far -/
def SrcV (n : Int) (H : Hp) (a : Addr) : Prop := ∃ x y z : Int, H a = some (.lst [.int x, .int y, .int z]) ∧ 0 ≤ y ∧ y < 2 ^ 400 ∧ 0 ≤ z ∧ z ≤ n
/-- what stays whatever the pool does -/
def Still (a : Addr) (H : Hp) (p : Hp → Prop) : Prop := ∀ H', SameBut a H H' → p H'
theorem SrcV.mono {n m : Int} {H : Hp} {a : Addr} (s : SrcV n H a) (h : n ≤ m) : SrcV m H a := by
  obtain ⟨x, y, z, e, y0, y1, z0, z1⟩ := s
  exact ⟨x, y, z, e, y0, y1, z0, by omega⟩
theorem SrcV.new {n : Int} {H : Hp} {a p : Addr} {o : HO} (s : SrcV n H a) (h : H p = none) : SrcV n (upd H p o) a := by
  obtain ⟨x, y, z, e, r⟩ := s
  exact ⟨x, y, z, by rw [upd_ne (ne_of_none e h)]; exact e, r⟩
theorem SrcV.upd {n : Int} {H : Hp} {a p : Addr} {o : HO} (s : SrcV n H a) (h : a ≠ p) : SrcV n (upd H p o) a := by
  obtain ⟨x, y, z, e, r⟩ := s
  exact ⟨x, y, z, by rw [upd_ne h]; exact e, r⟩
theorem SrcV.same {n : Int} {H H' : Hp} {a : Addr} (s : SrcV n H a) (h : Same H H') : SrcV n H' a := by
  obtain ⟨x, y, z, e, r⟩ := s
  exact ⟨x, y, z, h _ _ e, r⟩
theorem SrcV.ne {n : Int} {H : Hp} {a p : Addr} (s : SrcV n H a) (h : H p = none) : a ≠ p := by
  obtain ⟨x, y, z, e, r⟩ := s
  exact ne_of_none e h
theorem SrcV.but {n : Int} {g d : Addr} {H H' : Hp} (s : SrcV n H g) (b : SameBut d H H') (h : g ≠ d) : SrcV n H' g := by
  obtain ⟨x, y, z, e, r⟩ := s
  exact ⟨x, y, z, b _ _ e h, r⟩
theorem SameBut.own {a p : Addr} {H H' : Hp} {o : HO} (s : SameBut a H H') (h : H p = none) : SameBut a H (L2.upd H' p o) :=
  fun b u e n => by rw [upd_ne (ne_of_none e h)]; exact s b u e n
theorem SameBut.free {a p : Addr} {H H' : Hp} (s : SameBut a H H') (n : p ≠ a) (h : H' p = none) : H p = none := by
  cases e : H p with
  | none => rfl
  | some o => rw [s p o e n] at h; cases h
section
variable {P : Program} {w : World} {K : PySem.W.Frag} {mg : Str → Option Value} {base : Heap}
theorem pwF18 : (10 : Int) ^ (18 : Int).toNat = 1000000000000000000 := by decide
theorem pwF42 : (10 : Int) ^ (42 : Int).toNat = 1000000000000000000000000000000000000000000 := by decide
theorem pwF39 : (10 : Int) ^ (39 : Int).toNat = 1000000000000000000000000000000000000000 := by decide
theorem pwF37 : (10 : Int) ^ (37 : Int).toNat = 10000000000000000000000000000000000000 := by decide
theorem pow_ok {i j : Int} (h : i.natAbs < 2 ^ 4000) (h0 : 0 ≤ j) (h1 : j ≤ 5) : PowC i j := by
  refine ⟨h0, ?_⟩
  have := intBits_le (k := 4000) h
  have e : (2 : Int) ^ 27 = 134217728 := by decide
  have m : (Builtin.Int.intBits i : Int) * j ≤ 4000 * 5 := Int.mul_le_mul (by omega) h1 h0 (by decide)
  omega
def sp_law_bag : Sp := fun vs H Q _ => ∃ c t : Int, vs = [.int c, .int t] ∧ 0 ≤ t ∧ t ≤ 1000 ∧ ∀ p H', H p = none → Same H H' → SrcV 0 H' p → Q (.ref p) H'
theorem ok_law_bag (T : Txt mg) (h : At K mg "_law_bag" s_law_bag) :
    Has P w K mg base CX0 1 "_law_bag" s_law_bag P_law_bag sp_law_bag := by
  refine Has.of h sc_law_bag (fun vs H Q E h => ?_) (fun _ _ _ _ _ _ us hl => match us, hl with | [_, _], _ => rfl) (fun f cdv A outer s H vs Q E room qt h => ?_)
  · obtain ⟨v, t, rfl, _⟩ := h; rfl
  obtain ⟨c, t, rfl, t0, t1, k⟩ := h
  refine ⟨_, (pss_cons (ps_set (i := 2) sc_law_bag.nd rfl (Or.inl rfl) (pe_callB (call_max2 rfl) (by rfl) T.max (by decide +kernel) (pa_cons (pv 0) (pa_cons (pe_op op_sub pe_int (pv 0)) pa_nil))))
      (pss_one (ps_ret (pe_lst (pa_cons (pe_callB (call_max2 rfl) (by rfl) T.max (by decide +kernel) (pa_cons pe_int (pa_cons (pe_op op_sub (pv 2) (pe_op op_powG pe_int pe_int)) pa_nil))) (pa_cons (pe_op op_mod (pe_op op_add (pe_op op_mul (pv 0) (pe_op op_powG pe_int pe_int)) (pe_op op_mul (pe_op op_powG pe_int pe_int) (pe_op op_add (pv 1) pe_int))) (pe_op op_add (pe_op op_powG pe_int pe_int) pe_int)) (pa_cons pe_int pa_nil))))))), ?_⟩
  refine ⟨_, rfl, _, rfl, _, _, rfl, rfl, _, _, rfl, ?_⟩
  refine ⟨_, rfl, _, _, rfl, rfl, ten_ok (by decide) (by decide), _, _, rfl, rfl, _, _, rfl, ?_⟩
  refine ⟨_, rfl, _, _, rfl, rfl, pow_ok (by omega) (by decide) (by decide), _, _, rfl, rfl, .inr ⟨by decide, by decide⟩, _, _, rfl, rfl, pow_ok (by omega) (by decide) (by decide), _, rfl, _, _, rfl, rfl, _, _, rfl, rfl, .inr ⟨by omega, by omega⟩, _, _, rfl, rfl, _, _, rfl, rfl, ten_ok (by decide) (by decide), _, _, rfl, rfl, _, _, rfl, rfl, ?_, ?_⟩
  · show (0 : Int) < _
    rw [pwF42]; decide
  refine ⟨(by decide : 3 ≤ sizeLine), fun p hp => k p _ hp (Same.new hp) ⟨_, _, _, upd_same, ?_, ?_, by decide, by decide⟩⟩
  · rw [pwF42]; omega
  · rw [pwF42]; omega
def mixF1 (y z : Int) : Int := (y + (z + 1) * 2971215073 ^ (3 : Int).toNat) % (10 ^ (42 : Int).toNat + 63)
theorem mixF1_lt (y z : Int) : 0 ≤ mixF1 y z ∧ mixF1 y z < 2 ^ 150 := by unfold mixF1; rw [pwF42]; omega
def mixF2 (m z : Int) : Int := m ^ (3 : Int).toNat % (10 ^ (39 : Int).toNat + 33) + (z + 1) * 39916801
theorem mixF2_lt (m : Int) {z : Int} (z0 : 0 ≤ z) (z1 : z ≤ 1000000000) : 0 ≤ mixF2 m z ∧ mixF2 m z < 2 ^ 150 := by
  unfold mixF2; rw [pwF39]
  generalize m ^ (3 : Int).toNat = c
  omega
def sp_law_draw : Sp := fun vs H Q _ => ∃ (a : Addr) (n m : Int), vs = [.ref a, .int n] ∧ SrcV m H a ∧ m ≤ 1000000000 ∧ 0 < n ∧ n < 2 ^ 200 ∧
  ∀ r H', 0 ≤ r → r < n → SameBut a H H' → SrcV (m + 1) H' a → Q (.int r) H'
theorem ok_law_draw (T : Txt mg) (h : At K mg "_law_draw" s_law_draw) :
    Has P w K mg base CX0 1 "_law_draw" s_law_draw P_law_draw sp_law_draw := by
  refine Has.of h sc_law_draw (fun vs H Q E h => ?_) (fun _ _ _ _ _ _ us hl => match us, hl with | [_, _], _ => rfl) (fun f cdv A outer s H vs Q E room qt h => ?_)
  · obtain ⟨v, a, m, rfl, _⟩ := h; rfl
  obtain ⟨a, n, m, rfl, ⟨x, y, z, ha, y0, y1, z0, z1⟩, m1, n0, n1, k⟩ := h
  refine ⟨_, (pss_cons (ps_if (pt_cmpR op_gt (pe_ix ix_list (pv 0) pe_int (fun _ _ => rfl)) pe_int (nomark _))
        (pss_cons (ps_set (i := 2) sc_law_draw.nd rfl (Or.inl rfl) (pe_op op_mod (pe_ix ix_list (pv 0) pe_int (fun _ _ => rfl)) (pv 1)))
        (pss_cons (ps_asg (pe_op op_fdivW (pe_ix ix_list (pv 0) pe_int (fun _ _ => rfl)) (pv 1)) (pg_sub (pv 0) pe_int set_list))
        (pss_one (ps_ret (pv 2)))))
        pss_nil)
      (pss_cons (ps_asg (pe_op op_add (pe_ix ix_list (pv 0) pe_int (fun _ _ => rfl)) pe_int) (pg_sub (pv 0) pe_int set_list))
      (pss_cons (ps_set (i := 3) sc_law_draw.nd rfl (Or.inl rfl) (pe_op op_mod (pe_op op_add (pe_ix ix_list (pv 0) pe_int (fun _ _ => rfl)) (pe_op op_mul (pe_ix ix_list (pv 0) pe_int (fun _ _ => rfl)) (pe_op op_powG pe_int pe_int))) (pe_op op_add (pe_op op_powG pe_int pe_int) pe_int)))
      (pss_cons (ps_set (i := 3) sc_law_draw.nd rfl (Or.inl rfl) (pe_op op_add (pe_op op_mod (pe_op op_powG (pv 3) pe_int) (pe_op op_add (pe_op op_powG pe_int pe_int) pe_int)) (pe_op op_mul (pe_ix ix_list (pv 0) pe_int (fun _ _ => rfl)) pe_int)))
      (pss_one (ps_ret (pe_op op_mod (pe_op op_fdivW (pe_op op_mod (pe_op op_powG (pv 3) pe_int) (pe_op op_add (pe_op op_powG pe_int pe_int) pe_int)) pe_int) (pv 1)))))))), ?_⟩
  refine ⟨_, rfl, a, _, 0, _, rfl, rfl, SqL.of ha, rfl, _, _, rfl, rfl, _, rfl, ite2 (fun c => ?_) (fun c => ?_)⟩
  · refine ⟨_, rfl, a, _, 0, _, rfl, rfl, SqL.of ha, rfl, _, rfl, _, _, rfl, rfl, n0, ?_⟩
    refine ⟨_, rfl, a, _, 0, _, rfl, rfl, SqL.of ha, rfl, _, rfl, _, _, rfl, rfl, wide_div n0 (b := 200) (by omega) (by decide) (by decide), _, rfl, a, _, 0, 0, rfl, rfl, ha, rfl, ?_⟩
    exact ⟨_, rfl, k _ _ (Int.emod_nonneg _ (by omega)) (Int.emod_lt_of_pos _ n0) (SameBut.upd .refl) ⟨_, _, _, upd_same, y0, y1, z0, by omega⟩⟩
  · refine ⟨_, rfl, a, _, 2, _, rfl, rfl, SqL.of ha, rfl, _, _, rfl, rfl, _, rfl, a, _, 2, 2, rfl, rfl, ha, rfl, ?_⟩
    have h2 : (upd H a (.lst [.int x, .int y, .int (z + 1)])) a = some (.lst [.int x, .int y, .int (z + 1)]) := upd_same
    refine ⟨_, rfl, a, _, 1, _, rfl, rfl, SqL.of h2, rfl, _, rfl, a, _, 2, _, rfl, rfl, SqL.of h2, rfl, _, _, rfl, rfl, pow_ok (by omega) (by decide) (by decide), _, _, rfl, rfl, .inl ⟨by omega, by omega⟩, _, _, rfl, rfl, _, _, rfl, rfl, ten_ok (by decide) (by decide), _, _, rfl, rfl, _, _, rfl, rfl, ?_, ?_⟩
    · show (0 : Int) < _
      rw [pwF42]; decide
    have t0 := mixF1_lt y z
    refine ⟨_, rfl, _, _, rfl, rfl, pow_ok (i := mixF1 y z) (by omega) (by decide) (by decide), _, _, rfl, rfl, ten_ok (by decide) (by decide), _, _, rfl, rfl, _, _, rfl, rfl, ?_, ?_⟩
    · show (0 : Int) < _
      rw [pwF39]; decide
    have u0 := mixF2_lt (mixF1 y z) z0 (show z ≤ 1000000000 by omega)
    refine ⟨_, rfl, a, _, 2, _, rfl, rfl, SqL.of h2, rfl, _, _, rfl, rfl, .inr ⟨by decide, by decide⟩, _, _, rfl, rfl, ?_⟩
    refine ⟨_, rfl, _, _, rfl, rfl, pow_ok (i := mixF2 (mixF1 y z) z) (by omega) (by decide) (by decide), _, _, rfl, rfl, ten_ok (by decide) (by decide), _, _, rfl, rfl, _, _, rfl, rfl, ?_, ?_⟩
    · show (0 : Int) < _
      rw [pwF37]; decide
    refine ⟨_, _, rfl, rfl, wide_div (by decide) (b := 200) (by decide) (by decide) (by decide), _, rfl, _, _, rfl, rfl, n0, ?_⟩
    exact k _ _ (Int.emod_nonneg _ (by omega)) (Int.emod_lt_of_pos _ n0) (SameBut.upd .refl) ⟨_, _, _, h2, y0, y1, by omega, by omega⟩
/-- an outline of at most `most` lines comes back -/
def sp_law_rising : Sp := fun vs H Q _ => ∃ (a : Addr) (m n : Int), vs = [.ref a, .int m] ∧ SrcV n H a ∧ n ≤ 900000000 ∧ 1 ≤ m ∧ m ≤ 200 ∧
  ∀ (ns : List Int) (p : Addr) (H' : Hp), isO ns = true → (ns.length : Int) ≤ m → H p = none → SameBut a H H' → SrcV (n + 1000) H' a → H' p = some (.lst (iv ns)) → Q (.ref p) H'
theorem ok_law_rising (T : Txt mg) (h : At K mg "_law_rising" s_law_rising)
    (g_law_draw : Has P w K mg base CX0 1 "_law_draw" s_law_draw P_law_draw sp_law_draw) :
    Has P w K mg base CX0 2 "_law_rising" s_law_rising P_law_rising sp_law_rising := by
  refine Has.of h sc_law_rising (fun vs H Q E h => ?_) (fun _ _ _ _ _ _ us hl => match us, hl with | [_, _], _ => rfl) (fun f cdv A outer s H vs Q E room qt h => ?_)
  · obtain ⟨v, a, m, rfl, _⟩ := h; rfl
  obtain ⟨a, m, n, rfl, ha, nb, m0, m1, k⟩ := h
  refine ⟨_, (pss_cons (ps_par (i := 2) (j := 3) rfl sc_law_rising.nd rfl rfl (by decide) rfl rfl (pa_cons (pe_has g_law_draw (room.mono (by decide)) qt (by rfl) pass0 (pa_cons (pv 0) (pa_cons pe_int pa_nil))) (pa_cons (pe_op op_add pe_int (pe_has g_law_draw (room.mono (by decide)) qt (by rfl) pass0 (pa_cons (pv 0) (pa_cons (pv 1) pa_nil)))) pa_nil)) (by rfl))
      (pss_cons (ps_set (i := 4) sc_law_rising.nd rfl (Or.inl rfl) (pe_lst (pa_cons pe_int pa_nil)))
      (pss_cons (ps_for PassesOwn.never rfl (pi_range1 (by rfl) T.range (pa_cons (pe_op op_sub (pv 3) pe_int) pa_nil)) (pg_name (i := 5) sc_law_rising.nd rfl (Or.inl rfl) (hf := Or.inl rfl))
        (pss_cons (ps_set (i := 6) sc_law_rising.nd rfl (Or.inl rfl) (pe_op op_add (pe_ix ix_list (pv 4) (pe_un un_neg pe_int) (fun _ _ => rfl)) pe_int))
        (pss_cons (ps_set (i := 7) sc_law_rising.nd rfl (Or.inl rfl) (pe_lst (pa_cons (pe_has g_law_draw (room.mono (by decide)) qt (by rfl) pass0 (pa_cons (pv 0) (pa_cons (pe_op op_add (pv 6) pe_int) pa_nil))) (pa_cons (pe_op op_sub (pv 6) (pe_callTy call_int1 (by rfl) T.tint (by decide +kernel) (pa_cons (pe_cmpR op_eq (pe_has g_law_draw (room.mono (by decide)) qt (by rfl) pass0 (pa_cons (pv 0) (pa_cons pe_int pa_nil))) pe_int (nomark _)) pa_nil))) (pa_cons (pe_has g_law_draw (room.mono (by decide)) qt (by rfl) pass0 (pa_cons (pv 0) (pa_cons (pe_op op_add (pe_callB (call_min2 rfl) (by rfl) T.min (by decide +kernel) (pa_cons (pv 6) (pa_cons pe_int pa_nil))) pe_int) pa_nil))) pa_nil)))))
        (pss_cons (ps_expr (pe_bm PySem.F.plainAttrs_list PySem.F.slot_list_append PySem.F.type_list_append mt_append (pv 7) (pa_cons (pe_callB (call_max2 rfl) (by rfl) T.max (by decide +kernel) (pa_cons pe_int (pa_cons (pe_op op_sub (pv 6) (pe_has g_law_draw (room.mono (by decide)) qt (by rfl) pass0 (pa_cons (pv 0) (pa_cons pe_int pa_nil)))) pa_nil))) pa_nil)))
        (pss_one (ps_expr (pe_bm PySem.F.plainAttrs_list PySem.F.slot_list_append PySem.F.type_list_append mt_append (pv 4) (pa_cons (pe_callB (call_max2 rfl) (by rfl) T.max (by decide +kernel) (pa_cons pe_int (pa_cons (pe_ix ix_list (pv 7) (pv 2) (fun _ _ => rfl)) pa_nil))) pa_nil))))))))
      (pss_one (ps_ret (pv 4)))))), ?_⟩
  -- style, many
  refine ⟨_, rfl, a, 4, n, rfl, ha, by omega, by decide, by decide, fun st H1 st0 st1 b1 s1 => ?_⟩
  refine ⟨_, rfl, _, rfl, a, m, _, rfl, s1, by omega, by omega, by omega, fun d H1' d0 d1 b1' s1' => ⟨_, _, rfl, rfl, _, _, rfl, ?_⟩⟩
  refine ⟨(by decide : 1 ≤ sizeLine), fun p hp1 => ?_⟩
  have b11 := b1.trans b1'
  have nap : p ≠ a := (s1'.ne hp1).symm
  have hp : H p = none := b11.free nap hp1
  have s2 := s1'.new (o := .lst [.int 0]) hp1
  have b2 : SameBut a H (upd H1' p (.lst [.int 0])) := b11.own hp
  have h2 : (upd H1' p (.lst [.int 0])) p = some (.lst (iv [0])) := upd_same
  generalize upd H1' p (.lst [.int 0]) = H2 at s2 b2 h2 ⊢
  refine ⟨_, rfl, _, _, rfl, rfl, _, rfl, by omega, by omega, for_range (lo := 0) (n := (1 + d - 1).toNat) (fun i σ H7 => (∃ v5 v6 v7, σ = [some (.ref a), some (.int m), some (.int st), some (.int (1 + d)), some (.ref p), v5, v6, v7]) ∧
    ∃ ns : List Int, ns.length = i + 1 ∧ okFrom 0 ns = true ∧ SameBut a H H7 ∧ SrcV (n + 2 + 4 * (i : Int)) H7 a ∧ H7 p = some (.lst (iv ns)))
    ⟨⟨_, _, _, rfl⟩, [0], rfl, rfl, b2, s2.mono (by omega), h2⟩ ?_ ?_⟩
  · rintro i σ H7 hi ⟨⟨v5, v6, v7, rfl⟩, ns, hl, hk, b7, s7, h7p⟩
    have nn : ns ≠ [] := fun e => by subst e; cases hl
    have l0 := (okFrom_at hk (i := ns.length - 1) (by omega)).1
    have l1 := okFrom_le hk (i := ns.length - 1) (by omega)
    refine ⟨_, rfl, _, rfl, p, iv ns, -1, _, rfl, rfl, SqL.of h7p, atI_iv_last nn, _, _, rfl, rfl, ?_⟩
    generalize hla : ns.getD (ns.length - 1) 0 = la at l0 l1 ⊢
    -- some
    refine ⟨_, rfl, _, rfl, _, _, rfl, rfl, a, _, _, rfl, s7, by omega, by omega, by omega, fun e1 H8 x0 x1 b8 s8 => ?_⟩
    refine ⟨_, rfl, _, rfl, a, 5, _, rfl, s8, by omega, by decide, by decide, fun e2 H9 y0 y1 b9 s9 => ⟨rfl, .inr ⟨_, rfl, _, _, rfl, rfl, ?_⟩⟩⟩
    refine ⟨_, rfl, _, rfl, _, _, rfl, _, _, rfl, rfl, a, _, _, rfl, s9, by omega, by split <;> omega, by split <;> omega, fun e3 H10 z0 z1 b10 s10 => ?_⟩
    have z2 : e3 ≤ la + 1 := by revert z1; split <;> omega
    have b710 : SameBut a H H10 := ((b7.trans b8).trans b9).trans b10
    have h10p : H10 p = some (.lst (iv ns)) := b10 _ _ (b9 _ _ (b8 _ _ h7p nap) nap) nap
    refine ⟨(by decide : 3 ≤ sizeLine), fun q1 n1 => ?_⟩
    have nqa : q1 ≠ a := (s10.ne n1).symm
    have nqp : p ≠ q1 := ne_of_none h10p n1
    have hq0 : H q1 = none := b710.free nqa n1
    have h11q : (upd H10 q1 (.lst (iv [e1, la + 1 - (if decide (V.int e2 = V.int 0) = true then 1 else 0), e3]))) q1 = some (.lst (iv [e1, la + 1 - (if decide (V.int e2 = V.int 0) = true then 1 else 0), e3])) := upd_same
    have h11p := Same.new (o := .lst (iv [e1, la + 1 - (if decide (V.int e2 = V.int 0) = true then 1 else 0), e3])) n1 _ _ h10p
    have s11 := s10.new (o := .lst (iv [e1, la + 1 - (if decide (V.int e2 = V.int 0) = true then 1 else 0), e3])) n1
    have b11' : SameBut a H (upd H10 q1 (.lst (iv [e1, la + 1 - (if decide (V.int e2 = V.int 0) = true then 1 else 0), e3]))) := b710.new n1
    -- some.append(max(0, top - _law_draw(bag, 3)))
    refine ⟨_, rfl, .inl ⟨rfl, _, SqL.of h11q⟩, _, rfl, _, rfl, a, 3, _, rfl, s11, by omega, by decide, by decide, fun e4 H12 w0 w1 b12 s12 => ⟨_, _, rfl, rfl, _, _, rfl, ?_⟩⟩
    have h12q := b12 _ _ h11q nqa
    have h12p := b12 _ _ h11p nap
    refine ⟨q1, _, _, rfl, rfl, h12q, small_line (by show 3 < _; decide), ?_⟩
    have h13q : (upd H12 q1 (.lst (iv [e1, la + 1 - (if decide (V.int e2 = V.int 0) = true then 1 else 0), e3] ++ [V.int (if la + 1 - e4 > 0 then la + 1 - e4 else 0)]))) q1 = some (.lst (iv [e1, la + 1 - (if decide (V.int e2 = V.int 0) = true then 1 else 0), e3, if la + 1 - e4 > 0 then la + 1 - e4 else 0])) := upd_same
    have h13p : (upd H12 q1 (.lst (iv [e1, la + 1 - (if decide (V.int e2 = V.int 0) = true then 1 else 0), e3] ++ [V.int (if la + 1 - e4 > 0 then la + 1 - e4 else 0)]))) p = some (.lst (iv ns)) := by rw [upd_ne nqp]; exact h12p
    have b13 : SameBut a H (upd H12 q1 (.lst (iv [e1, la + 1 - (if decide (V.int e2 = V.int 0) = true then 1 else 0), e3] ++ [V.int (if la + 1 - e4 > 0 then la + 1 - e4 else 0)]))) := (b11'.trans b12).own hq0
    have s13 : SrcV (n + 2 + 4 * (i : Int) + 1 + 1 + 1 + 1) (upd H12 q1 (.lst (iv [e1, la + 1 - (if decide (V.int e2 = V.int 0) = true then 1 else 0), e3] ++ [V.int (if la + 1 - e4 > 0 then la + 1 - e4 else 0)]))) a := s12.upd nqa.symm
    have hs : ∀ v ∈ [e1, la + 1 - (if decide (V.int e2 = V.int 0) = true then 1 else 0), e3, if la + 1 - e4 > 0 then la + 1 - e4 else 0], v ≤ la + 1 := fun v hv => by
      simp only [List.mem_cons, List.not_mem_nil, or_false] at hv
      rcases hv with rfl | rfl | rfl | rfl
      · omega
      · split <;> omega
      · exact z2
      · split <;> omega
    have hg := getD_all (p := fun v => v ≤ la + 1) hs st0 (by exact st1)
    refine ⟨_, rfl, .inl ⟨rfl, _, SqL.of h13p⟩, _, rfl, _, rfl, q1, iv [e1, la + 1 - (if decide (V.int e2 = V.int 0) = true then 1 else 0), e3, if la + 1 - e4 > 0 then la + 1 - e4 else 0], st, _, rfl, rfl, SqL.of h13q, atI_iv st0 (by exact st1), _, _, rfl, p, iv ns, _, rfl, rfl, h13p, small_line (by rw [List.length_map]; omega), ?_⟩
    generalize [e1, la + 1 - (if decide (V.int e2 = V.int 0) = true then 1 else 0), e3, if la + 1 - e4 > 0 then la + 1 - e4 else 0].getD st.toNat 0 = x at hg ⊢
    refine ⟨⟨_, _, _, rfl⟩, ns ++ [if x > 0 then x else 0], by rw [List.length_append, hl]; rfl, okFrom_snoc hk (by split <;> omega) (fun e => (nn e).elim) (fun _ => by rw [hla]; split <;> omega), b13.own hp, (s13.upd nap.symm).mono (by omega), by rw [iv_snoc ns]; exact upd_same⟩
  · rintro σ H7 ⟨⟨v5, v6, v7, rfl⟩, ns, hl, hk, b7, s7, h7p⟩
    exact ⟨_, rfl, k ns p _ (isO_iff.mpr ⟨by omega, by omega, hk⟩) (by omega) hp b7 (s7.mono (by omega)) h7p⟩
/-- the cells of a script -/
def sp_law_cells (K : PySem.W.Frag) : Sp := fun vs H Q _ => ∃ (a : Addr) (ns : List Int), vs = [.ref a] ∧ SqL K H a (iv ns) ∧ ns.length ≤ 63 ∧
  ∀ (ms : List Int) (p : Addr) (H' : Hp), ms.length ≤ 8 → H p = none → Same H H' → H' p = some (.lst (iv ms)) → Q (.ref p) H'
theorem ok_law_cells (T : Txt mg) (h : At K mg "_law_cells" s_law_cells) :
    Has P w K mg base CX0 1 "_law_cells" s_law_cells P_law_cells (sp_law_cells K) := by
  refine Has.of h sc_law_cells (fun vs H Q E h => ?_) (fun _ _ _ _ _ _ us hl => match us, hl with | [_], _ => rfl) (fun f cdv A outer s H vs Q E room qt h => ?_)
  · obtain ⟨a, ns, rfl, _⟩ := h; rfl
  obtain ⟨a, ns, rfl, ha, hl, k⟩ := h
  refine ⟨_, (pss_one (ps_ret (pe_op op_catS (pe_lst (pa_cons (pe_callB call_len_seq (by rfl) T.len (by decide +kernel) (pa_cons (pv 0) pa_nil)) pa_nil)) (pe_slice sl_list (pv 0) po_none (po_some pe_int))))), ?_⟩
  refine ⟨_, rfl, a, _, rfl, .inl ha, (by decide : 1 ≤ sizeLine), fun p1 n1 => ?_⟩
  refine ⟨_, rfl, _, rfl, a, _, rfl, (Same.new n1).seq ha, fun p2 n2 => ?_⟩
  rw [cutV_iv]
  have c1 := cutI_to ns (n := 7) (by decide)
  rw [c1]
  refine ⟨p1, p2, _, _, rfl, rfl, SqL.of (Same.new n2 _ _ upd_same), SqL.of upd_same, ?_, fun p3 n3 => ?_⟩
  · rw [show (iv (ns.take (7 : Int).toNat)).length = (ns.take (7 : Int).toNat).length from List.length_map _, List.length_take, sizeLine_eq]
    have : (7 : Int).toNat = 7 := rfl
    show 1 + _ ≤ _
    omega
  · refine k ((((iv ns).length : Int)) :: ns.take (7 : Int).toNat) p3 _ ?_ (((Same.new n1).trans (Same.new n2)).free n3) (((Same.new n1).trans (Same.new n2)).trans (Same.new n3)) upd_same
    rw [List.length_cons, List.length_take]
    have : (7 : Int).toNat = 7 := rfl
    omega
def sp_law_sized (K : PySem.W.Frag) : Sp := fun vs H Q _ => ∃ (b a : Addr) (x y n : Int) (sc : List Int), vs = [.ref b, .ref a, .int x, .int y] ∧ SqL K H b (iv sc) ∧ Still a H (fun H' => SqL K H' b (iv sc)) ∧ SrcV n H a ∧ n ≤ 800000000 ∧ 1 ≤ x ∧ x ≤ 200 ∧ 1 ≤ y ∧ y ≤ 200 ∧
  ∀ (ns : List Int) (p : Addr) (H' : Hp), isO ns = true → H p = none → SameBut a H H' → SrcV (n + 2000) H' a → H' p = some (.lst (iv ns)) → Q (.ref p) H'
theorem ok_law_sized (T : Txt mg) (h : At K mg "_law_sized" s_law_sized)
    (g_law_draw : Has P w K mg base CX0 1 "_law_draw" s_law_draw P_law_draw sp_law_draw)
    (g_law_rising : Has P w K mg base CX0 2 "_law_rising" s_law_rising P_law_rising sp_law_rising) :
    Has P w K mg base CX0 3 "_law_sized" s_law_sized P_law_sized (sp_law_sized K) := by
  refine Has.of h sc_law_sized (fun vs H Q E h => ?_) (fun _ _ _ _ _ _ us hl => match us, hl with | [_, _, _, _], _ => rfl) (fun f cdv A outer s H vs Q E room qt h => ?_)
  · obtain ⟨b, a, x, y, n, sc, rfl, _⟩ := h; rfl
  obtain ⟨b, a, x, y, n, sc, rfl, hb, sb, ha, hn, x0, x1, y0, y1, k⟩ := h
  refine ⟨_, (pss_cons (ps_if (pt_cmpR (op_eqD room.units) (pv 0) (pe_lst pa_nil) (nomark _))
        (pss_one (ps_ret (pe_has g_law_rising (room.mono (by decide)) qt (by rfl) pass0 (pa_cons (pv 1) (pa_cons pe_int pa_nil)))))
        pss_nil)
      (pss_one (ps_ret (pe_has g_law_rising (room.mono (by decide)) qt (by rfl) pass0 (pa_cons (pv 1) (pa_cons (pe_ix ix_list (pe_lst (pa_cons pe_int (pa_cons (pv 2) (pa_cons (pv 3) pa_nil)))) (pe_has g_law_draw (room.mono (by decide)) qt (by rfl) pass0 (pa_cons (pv 1) (pa_cons pe_int pa_nil))) (fun _ _ => rfl)) pa_nil)))))), ?_⟩
  refine ⟨_, rfl, (by decide : 0 ≤ sizeLine), fun q1 n1 => eqD_ints (ns := sc) (ms := []) ((Same.new n1).seq hb) (SqL.of upd_same) ⟨_, rfl, ?_⟩⟩
  have s1 := Same.new (o := .lst []) n1
  have g1 := ha.new (o := .lst []) n1
  generalize upd H q1 (.lst []) = H1 at s1 g1 ⊢
  refine ite2 (fun _ => ?_) (fun _ => ?_)
  · exact ⟨_, rfl, a, 6, n, rfl, g1, by omega, by decide, by decide, fun ns p H' ho _ hp b2 g2 h2 => k ns p H' ho (s1.free hp) ((SameBut.of s1).trans b2) (g2.mono (by omega)) h2⟩
  · refine ⟨_, rfl, _, rfl, _, rfl, (by decide : 3 ≤ sizeLine), fun q2 n2 => ?_⟩
    refine ⟨_, rfl, a, 3, n, rfl, g1.new n2, by omega, by decide, by decide, fun j H4 j0 j1 b4 g4 => ?_⟩
    have nq2 := g1.ne n2
    have hs := getD_all (xs := [8, x, y]) (p := fun v => 1 ≤ v ∧ v ≤ 200) (fun v hv => by
      simp only [List.mem_cons, List.not_mem_nil, or_false] at hv
      rcases hv with rfl | rfl | rfl <;> omega) j0 (by exact j1)
    have b14 : SameBut a H H4 := ((SameBut.of s1).trans (SameBut.of (Same.new n2))).trans b4
    refine ⟨q2, iv [8, x, y], j, _, rfl, rfl, SqL.of (b4 _ _ upd_same nq2.symm), atI_iv j0 (by exact j1), a, _, _, rfl, g4, by omega, hs.1, hs.2, fun ns p H' ho _ hp b5 g5 h5 => ?_⟩
    have npa : p ≠ a := (g4.ne hp).symm
    exact k ns p H' ho (b14.free npa hp) (b14.trans b5) (g5.mono (by omega)) h5
end
end SH

namespace SH
open PySem PySem.Spec PyProof.Rows L2
abbrev s_law_places : Stmt := topS 45
abbrev N_law_places : List Str := ["bag", "depths", "odds", "spot"]
abbrev P_law_places : List Str := ["bag", "depths", "odds"]
theorem sc_law_places : FnScope N_law_places P_law_places (defScope s_law_places) := ⟨rfl, rfl, rfl, by decide +kernel, rfl, by decide +kernel, by decide +kernel⟩
theorem asc_of {g : Int} : ∀ {fs : List Int} {lo : Int}, fs.Pairwise (· < ·) → (∀ v ∈ fs, lo ≤ v ∧ v ≤ g) → ascB g lo fs = true
  | [], _, _, _ => rfl
  | x :: r, lo, p, b => by
    obtain ⟨p1, p2⟩ := List.pairwise_cons.mp p
    have b0 := b x List.mem_cons_self
    simp only [ascB, Bool.and_eq_true, decide_eq_true_eq]
    exact ⟨⟨b0.1, b0.2⟩, asc_of p2 fun v hv => ⟨by have := p1 v hv; omega, (b v (List.mem_cons_of_mem _ hv)).2⟩⟩
section
variable {P : Program} {w : World} {K : PySem.W.Frag} {mg : Str → Option Value} {base : Heap}
def sp_law_places : Sp := fun vs H Q _ => ∃ (g a : Addr) (n o : Int) (ns : List Int), vs = [.ref g, .ref a, .int o] ∧ SrcV n H g ∧ n ≤ 900000000 ∧ H a = some (.lst (iv ns)) ∧ a ≠ g ∧ ns.length ≤ 200 ∧ 1 ≤ o ∧ o ≤ 100 ∧
  ∀ (ms : List Int) (p : Addr) (H' : Hp), ms.Pairwise (· < ·) → (∀ v ∈ ms, 0 ≤ v ∧ v < ns.length) → ms.length ≤ ns.length → H p = none → SameBut g H H' → SrcV (n + 200) H' g → H' p = some (.lst (iv ms)) → Q (.ref p) H'
theorem ok_law_places (T : Txt mg) (h : At K mg "_law_places" s_law_places)
    (g_law_draw : Has P w K mg base CX0 1 "_law_draw" s_law_draw P_law_draw sp_law_draw) :
    Has P w K mg base CX0 2 "_law_places" s_law_places P_law_places sp_law_places := by
  refine Has.of h sc_law_places (fun vs H Q E h => ?_) (fun _ _ _ _ _ _ us hl => match us, hl with | [_, _, _], _ => rfl) (fun f cdv A outer s H vs Q E room qt h => ?_)
  · obtain ⟨g, a, n, o, ns, rfl, _⟩ := h; rfl
  obtain ⟨g, a, n, o, ns, rfl, hg, hn, ha, nag, hl, o0, o1, k⟩ := h
  have elo : (iv ns).length = ns.length := List.length_map _
  refine ⟨_, (pss_one (ps_ret (pe_lc (own := [("spot", 3)]) (by rfl) sc_law_places.nd (pi_range1 (by rfl) T.range (pa_cons (pe_callB call_len_seq (by rfl) T.len (by decide +kernel) (pa_cons (pv 1) pa_nil)) pa_nil)) (blkOk_by (own := [("spot", 3)]) (N := N_law_places) (sc := defScope s_law_places) (by decide +kernel)) (fun _ _ _ _ _ => (pg_name (i := 3) sc_law_places.nd rfl (Or.inl rfl) (hf := Or.inr rfl))) (fun _ _ _ _ _ => (pts_one (pt_cmpR op_eq (pe_has g_law_draw (room.mono (by decide)) qt (by rfl) pass0 (pa_cons (pv 0) (pa_cons (pv 2) pa_nil))) pe_int (nomark _)))) (fun _ _ _ _ _ => (pv 3))))), ?_⟩
  refine ⟨_, rfl, a, _, rfl, .inl (SqL.of ha), _, rfl, by omega, by omega, fun D hD => lc_range (lo := 0) (n := ((iv ns).length : Int).toNat) (fun i H9 => SameBut g H H9 ∧ SrcV (n + (i : Int)) H9 g ∧ ∃ hs : List Int, hs.length ≤ i ∧ hs.Pairwise (· < ·) ∧ (∀ v ∈ hs, 0 ≤ v ∧ v < (i : Int)) ∧ H9 D = some (.lst (iv hs)))
    ⟨SameBut.of (Same.new hD), (hg.new hD).mono (by omega), [], Nat.le_refl _, List.Pairwise.nil, (fun v hv => (List.not_mem_nil hv).elim), upd_same⟩ ?_ ?_⟩
  · rintro i H9 hi ⟨b9, g9, hs, hl9, as9, hv9, h9⟩
    have nDg : D ≠ g := (hg.ne hD).symm
    refine ⟨rfl, _, rfl, _, rfl, g, o, _, rfl, g9, by omega, by omega, by omega, fun r H10 r0 r1 b10 g10 => ⟨rfl, _, rfl, ite2 (fun c => ?_) (fun c => ?_)⟩⟩
    · have h10 := b10 _ _ h9 nDg
      refine ⟨_, rfl, _, h10, small_line (by rw [List.length_map]; omega), (b9.trans b10).own hD, (g10.upd nDg.symm).mono (by omega), hs ++ [(0 : Int) + (i : Nat)], by rw [List.length_append]; show _ + 1 ≤ _; omega, ?_, fun v hv => ?_, by rw [iv_snoc]; exact upd_same⟩
      · rw [List.pairwise_append]
        refine ⟨as9, List.pairwise_singleton _ _, fun x hx y hy => ?_⟩
        rw [List.mem_singleton.mp hy]
        have := hv9 x hx
        omega
      · rcases List.mem_append.mp hv with hv | hv
        · have := hv9 v hv; omega
        · have := List.mem_singleton.mp hv; omega
    · exact ⟨b9.trans b10, g10.mono (by omega), hs, by omega, as9, fun v hv => by have := hv9 v hv; omega, b10 _ _ h9 nDg⟩
  · rintro H9 ⟨b9, g9, hs, hl9, as9, hv9, h9⟩
    exact k hs D H9 as9 (fun v hv => by have := hv9 v hv; omega) (by omega) hD b9 (g9.mono (by omega)) h9
end
end SH

namespace SH
open PySem PySem.Spec PyProof.Rows L2
theorem isO_vals {ns : List Int} (h : isO ns = true) : ∀ v ∈ ns, v.natAbs < 2 ^ 64 := by
  obtain ⟨h1, h2, h3⟩ := isO_iff.mp h
  intro v hv
  obtain ⟨i, hi, rfl⟩ := List.getElem_of_mem hv
  have a := (okFrom_at h3 hi).1
  have b := okFrom_le h3 hi
  rw [List.getD_eq_getElem?_getD, List.getElem?_eq_getElem hi, Option.getD_some] at a b
  omega
theorem cutI_from (l : List Int) {n : Int} (h : 0 ≤ n) : cutI l (some n) none = l.drop n.toNat := by
  unfold cutI
  have e : n = (n.toNat : Int) := by omega
  rw [e, HT.sIx_none, HT.sIx_nat, Int.toNat_natCast]
  rcases Nat.le_total n.toNat l.length with a | a
  · rw [Nat.min_eq_left a, List.take_of_length_le (by rw [List.length_drop]; omega)]
  · rw [Nat.min_eq_right a, List.drop_eq_nil_of_le (Nat.le_refl _), List.drop_eq_nil_of_le a, List.take_nil]
abbrev s_law_no_outline : Stmt := topS 46
abbrev N_law_no_outline : List Str := ["bag", "depths", "at", "odd", "some"]
abbrev P_law_no_outline : List Str := ["bag", "depths"]
theorem sc_law_no_outline : FnScope N_law_no_outline P_law_no_outline (defScope s_law_no_outline) := ⟨rfl, rfl, rfl, by decide +kernel, rfl, by decide +kernel, by decide +kernel⟩
/-- the state while values are made: the pool at g, a list at a -/
structure Stv (H H' : Hp) (g a : Addr) (vs : List V) (B : Int) : Prop where
  b : SameBut g H H'
  g : SrcV B H' g
  a : H' a = some (.lst vs)
theorem Stv.new {H H' : Hp} {g a p : Addr} {vs : List V} {B : Int} {o : HO} (s : Stv H H' g a vs B) (h : H' p = none) : Stv H (upd H' p o) g a vs B :=
  ⟨s.b.new h, s.g.new h, Same.new h _ _ s.a⟩
theorem Stv.draw {H H' H2 : Hp} {g a : Addr} {vs : List V} {B C : Int} (s : Stv H H' g a vs B) (n : a ≠ g) (b : SameBut g H' H2) (h : SrcV C H2 g) : Stv H H2 g a vs C :=
  ⟨s.b.trans b, h, b _ _ s.a n⟩
theorem Stv.ng {H H' : Hp} {g a p : Addr} {vs : List V} {B : Int} (s : Stv H H' g a vs B) (h : H' p = none) : p ≠ g := (s.g.ne h).symm
theorem getD_snoc (ns : List Int) (x : Int) : (ns ++ [x]).getD ns.length 0 = x := by
  rw [List.getD_eq_getElem?_getD, List.getElem?_append_right (Nat.le_refl _), Nat.sub_self]
  rfl
theorem getD_app {ns ms : List Int} {i : Nat} (h : i < ns.length) : (ns ++ ms).getD i 0 = ns.getD i 0 := by
  rw [List.getD_eq_getElem?_getD, List.getElem?_append_left h, List.getD_eq_getElem?_getD]
theorem iv_app (xs ys : List Int) : iv xs ++ iv ys = iv (xs ++ ys) := (List.map_append).symm
theorem okFromD_all {ds : List PyData} (h : okFromD 0 ds = true) : ∀ i, i ≤ ds.length → okFromD (gD ds i) (ds.drop i) = true
  | 0, _ => h
  | i + 1, hi => by
    have e : ds[i]? = some (ds.getD i .none) := by rw [List.getD_eq_getElem?_getD, List.getElem?_eq_getElem (by omega)]; rfl
    have := okFromD_all h i (by omega)
    rw [okFromD_drop e, Bool.and_eq_true] at this
    exact this.2
theorem okFromD_at {ds : List PyData} (h : okFromD 0 ds = true) {i : Nat} {d : PyData} (e : ds[i]? = some d) : inD d 0 (gD ds i) = true := by
  have hl := (List.getElem?_eq_some_iff.mp e).1
  have := okFromD_all h i (by omega)
  rw [okFromD_drop e, Bool.and_eq_true] at this
  exact this.1
/-- an outline with one place that does not fit -/
theorem wrong_at {ns : List Int} {t : Nat} {d : PyData} {be : Int} (tl : t < ns.length) (hbe : be + 1 = gAt ns t) (hd : ∀ v, d = .int v → v < 0 ∨ be + 1 < v) :
    isOD (.list ((ns.take t).map PyData.int ++ [d] ++ (ns.drop (t + 1)).map PyData.int)) = false := by
  have lt : ((ns.take t).map PyData.int).length = t := by rw [List.length_map, List.length_take]; omega
  have e : ((ns.take t).map PyData.int ++ [d] ++ (ns.drop (t + 1)).map PyData.int)[t]? = some d := by
    rw [List.append_assoc, List.getElem?_append_right (by omega), lt, Nat.sub_self]
    rfl
  have eg : gD ((ns.take t).map PyData.int ++ [d] ++ (ns.drop (t + 1)).map PyData.int) t = be + 1 := by
    rw [hbe]
    cases t with
    | zero => rfl
    | succ j =>
      show nextD (List.getD _ j .none) = ns.getD j 0 + 1
      have : ((ns.take (j + 1)).map PyData.int ++ [d] ++ (ns.drop (j + 1 + 1)).map PyData.int)[j]? = some (.int (ns.getD j 0)) := by
        rw [List.append_assoc, List.getElem?_append_left (by omega), List.getElem?_map, List.getElem?_take_of_lt (by omega), List.getElem?_eq_getElem (by omega), List.getD_eq_getElem?_getD, List.getElem?_eq_getElem (by omega)]
        rfl
      rw [getD_of this]
      rfl
  cases c : isOD (.list ((ns.take t).map PyData.int ++ [d] ++ (ns.drop (t + 1)).map PyData.int)) with
  | false => rfl
  | true =>
    have c1 : (decide (1 ≤ _) && decide (_ ≤ 200) && okFromD 0 ((ns.take t).map PyData.int ++ [d] ++ (ns.drop (t + 1)).map PyData.int)) = true := c
    rw [Bool.and_eq_true] at c1
    have c2 := okFromD_at c1.2 e
    rw [eg] at c2
    obtain ⟨v, rfl, v0, v1⟩ := inD_int c2
    rcases hd v rfl with z | z <;> omega
section
variable {P : Program} {w : World} {K : PySem.W.Frag} {mg : Str → Option Value} {base : Heap}
/-- a value that is no depth after `be` -/
def OddV (H : Hp) (g : Addr) (be : Int) (x : V) : Prop := ∃ d as, Dx H x d as ∧ (∀ v, d = .int v → v < 0 ∨ be + 1 < v) ∧ Fits 1 1926 d ∧ (d.hasDict = true → sysModules ∉ as) ∧ g ∉ as
def WrongV (H : Hp) (x : V) : Prop := ∃ d as, Dx H x d as ∧ isOD d = false ∧ Fits 40 3000000 d ∧ (d.hasDict = true → sysModules ∉ as)
def WrongG (H : Hp) (g : Addr) (x : V) : Prop := ∃ d as, Dx H x d as ∧ isOD d = false ∧ Fits 40 3000000 d ∧ (d.hasDict = true → sysModules ∉ as) ∧ g ∉ as
theorem WrongG.same {H H' : Hp} {g : Addr} {x : V} (h : WrongG H g x) (s : Same H H') : WrongG H' g x := by
  obtain ⟨d, as, a, b⟩ := h
  exact ⟨d, as, a.same s, b⟩
theorem WrongG.but {H H' : Hp} {g : Addr} {x : V} (h : WrongG H g x) (s : SameBut g H H') : WrongG H' g x := by
  obtain ⟨d, as, a, b, c, e, f⟩ := h
  exact ⟨d, as, a.but s f, b, c, e, f⟩
theorem WrongG.ints {H : Hp} {g p : Addr} {ms : List Int} (e : H p = some (.lst (iv ms))) (n : p ≠ g) (h : isO ms = false) (l : ms.length ≤ 1000) (b : ∀ v ∈ ms, v.natAbs < 2 ^ 128) : WrongG H g (.ref p) :=
  ⟨_, _, dx_dI e, by rw [isOD_dI]; exact h, (fit_list (fit_ints fun v hv => lt1900 (b v hv)) (by rw [List.length_map]; exact l)).mono (by decide) (by decide), (fun z => by
    have z' : PyData.hasDictAll (ms.map PyData.int) = true := z
    rw [dict_ints] at z'; cases z'), fun z => n (List.mem_singleton.mp z).symm⟩
def WL (H : Hp) (g : Addr) (L : List V) : Prop := ∀ x ∈ L, WrongG H g x
theorem WL.same {H H' : Hp} {g : Addr} {L : List V} (h : WL H g L) (s : Same H H') : WL H' g L := fun x hx => (h x hx).same s
theorem WL.snoc {H : Hp} {g : Addr} {L : List V} {x : V} (h : WL H g L) (w : WrongG H g x) : WL H g (L ++ [x]) := fun y hy => by
  rcases List.mem_append.mp hy with hy | hy
  · exact h y hy
  · rw [List.mem_singleton.mp hy]; exact w
def sp_law_no_outline : Sp := fun vs H Q _ => ∃ (g a : Addr) (ns : List Int) (B : Int), vs = [.ref g, .ref a] ∧ SrcV B H g ∧ B ≤ 200000000 ∧ a ≠ g ∧ H a = some (.lst (iv ns)) ∧ isO ns = true ∧
  ∀ (x : V) (H' : Hp), SameBut g H H' → SrcV (B + 3) H' g → WrongG H' g x → Q x H'
theorem ok_law_no_outline (T : Txt mg) (h : At K mg "_law_no_outline" s_law_no_outline)
    (g_law_draw : Has P w K mg base CX0 1 "_law_draw" s_law_draw P_law_draw sp_law_draw) :
    Has P w K mg base CX0 2 "_law_no_outline" s_law_no_outline P_law_no_outline sp_law_no_outline := by
  refine Has.of h sc_law_no_outline (fun vs H Q E h => ?_) (fun _ _ _ _ _ _ us hl => match us, hl with | [_, _], _ => rfl) (fun f cdv A outer s H vs Q E room qt h => ?_)
  · obtain ⟨v, a, n, B, rfl, _⟩ := h; rfl
  obtain ⟨g, a, ns, B, rfl, hg, hB, nag, ha, ho, k⟩ := h
  obtain ⟨l1, l2, hk⟩ := isO_iff.mp ho
  have el : (iv ns).length = ns.length := List.length_map _
  refine ⟨_, (pss_cons (ps_set (i := 2) sc_law_no_outline.nd rfl (Or.inl rfl) (pe_has g_law_draw (room.mono (by decide)) qt (by rfl) pass0 (pa_cons (pv 0) (pa_cons (pe_callB call_len_seq (by rfl) T.len (by decide +kernel) (pa_cons (pv 1) pa_nil)) pa_nil))))
      (pss_cons (ps_set (i := 3) sc_law_no_outline.nd rfl (Or.inl rfl) (pe_ix ix_list (pe_lstB (pa_cons (pe_un un_neg pe_int) (pa_cons (pe_op op_add (pe_ix ix_list (pv 1) (pv 2) (fun _ _ => rfl)) pe_int) (pa_cons pe_non (pa_cons pe_bl (pa_cons pe_str (pa_cons (pe_lstB (pa_cons pe_int pa_nil)) pa_nil))))))) (pe_has g_law_draw (room.mono (by decide)) qt (by rfl) pass0 (pa_cons (pv 0) (pa_cons pe_int pa_nil))) (fun _ _ => rfl)))
      (pss_cons (ps_set (i := 4) sc_law_no_outline.nd rfl (Or.inl rfl) (pe_lstB (pa_cons pe_non (pa_cons pe_int (pa_cons pe_str (pa_cons pe_dnewB (pa_cons (pe_lstB pa_nil) (pa_cons (pe_tup pa_nil) (pa_cons (pe_lstB (pa_cons pe_int pa_nil)) (pa_cons (pe_lstB (pa_cons pe_int (pa_cons pe_int pa_nil))) (pa_cons (pe_lstB (pa_cons (pe_lstB (pa_cons pe_int pa_nil)) pa_nil)) (pa_cons (pe_tupleOf (by rfl) T.tuple (pv 1)) (pa_cons (pe_op op_rep (pe_lstB (pa_cons pe_int pa_nil)) pe_int) pa_nil)))))))))))))
      (pss_cons (ps_set (i := 4) sc_law_no_outline.nd rfl (Or.inl rfl) (pe_op op_catB (pv 4) (pe_op op_rep (pe_lstB (pa_cons (pe_op op_catB (pe_op op_catB (pe_slice sl_list (pv 1) po_none (po_some (pv 2))) (pe_lstB (pa_cons (pv 3) pa_nil))) (pe_slice sl_list (pv 1) (po_some (pe_op op_add (pv 2) pe_int)) po_none)) pa_nil)) pe_int)))
      (pss_one (ps_ret (pe_ix ix_list (pv 4) (pe_has g_law_draw (room.mono (by decide)) qt (by rfl) pass0 (pa_cons (pv 0) (pa_cons pe_int pa_nil))) (fun _ _ => rfl)))))))), ?_⟩
  have st0 : Stv H H g a (iv ns) B := ⟨SameBut.refl, hg, ha⟩
  refine ⟨_, rfl, _, rfl, a, _, rfl, .inl (SqL.of ha), g, _, _, rfl, hg, by omega, by omega, by omega, fun at_ H1 a0 a1 b1 g1 => ?_⟩
  have st1 := st0.draw nag b1 g1
  rw [el] at a1
  obtain ⟨t, rfl⟩ : ∃ t : Nat, at_ = t := ⟨at_.toNat, by omega⟩
  have tl : t < ns.length := by omega
  obtain ⟨be, hbe⟩ : ∃ be : Int, be + 1 = gAt ns t := ⟨gAt ns t - 1, by omega⟩
  have hbb : be ≤ 198 := by
    cases t with
    | zero => have : be + 1 = 0 := hbe
              omega
    | succ j =>
      have := okFrom_le hk (i := j) (by omega)
      have : be + 1 = ns.getD j 0 + 1 := hbe
      omega
  have db := (okFrom_at hk tl).1
  have dc := okFrom_le hk (i := t) tl
  -- odd
  refine ⟨_, rfl, _, rfl, _, rfl, a, iv ns, _, _, rfl, rfl, SqL.of st1.a, atI_iv a0 (by omega), _, _, rfl, rfl, (by decide : 1 ≤ sizeLine), fun r1 m1 w1 => ⟨(by decide : 6 ≤ sizeLine), fun r4 m4 _ => ?_⟩⟩
  have sa := st1.new (o := .lst [.int 0]) m1
  refine ⟨_, rfl, g, 6, _, rfl, (sa.new m4).g, by omega, by decide, by decide, fun j H3 j0 j1 b3 g3 => ?_⟩
  have e1 := b3 _ _ (Same.new m4 _ _ (upd_same (H := H1) (a := r1) (o := .lst [.int 0]))) (st1.ng m1)
  have e4 := b3 _ _ upd_same (sa.ng m4)
  have st3 := (sa.new m4).draw nag b3 g3
  have no : ∀ {d : PyData}, d.hasDict = false → ∀ as : List Addr, d.hasDict = true → sysModules ∉ as := fun h as h' => by rw [h] at h'; cases h'
  have hod : ∀ x ∈ [V.int (-1), .int (ns.getD t 0 + 200), .non, .bl true, .str "0", .ref r1], OddV H3 g be x := fun x hx => by
    have f1 : ∀ {d : PyData}, Fits 0 1921 d → Fits 1 1926 d := fun h => h.mono (by decide) (by decide)
    have one : Fits 1 1926 (.list [.int 0]) := fit_list (m := 1) (L := 1921) (fun d hd => by rw [List.mem_singleton.mp hd]; exact fit_int (lt1900 (by decide))) (Nat.le_refl _)
    simp only [List.mem_cons, List.not_mem_nil, or_false] at hx
    rcases hx with rfl | rfl | rfl | rfl | rfl | rfl
    · exact ⟨_, _, .int _, fun v e => by cases e; exact .inl (by decide), f1 (fit_int (lt1900 (by decide))), no rfl _, List.not_mem_nil⟩
    · exact ⟨_, _, .int _, fun v e => by cases e; exact .inr (by omega), f1 (fit_int (lt1900 (by omega))), no rfl _, List.not_mem_nil⟩
    · exact ⟨_, _, .non, (fun v e => nomatch e), f1 fit_none, no rfl _, List.not_mem_nil⟩
    · exact ⟨_, _, .bl _, (fun v e => nomatch e), f1 (fit_bool _), no rfl _, List.not_mem_nil⟩
    · exact ⟨_, _, .str _, (fun v e => nomatch e), ⟨rfl, by decide, by decide +kernel⟩, no rfl _, List.not_mem_nil⟩
    · exact ⟨_, _, .lst e1 (dx_ints [0]), (fun v e => nomatch e), one, no rfl _, fun z => st1.ng m1 (List.mem_singleton.mp z).symm⟩
  obtain ⟨odd, hat, hodd⟩ := atI_all hod j0 (by exact j1)
  refine ⟨r4, _, j, odd, rfl, rfl, SqL.of e4, hat, ?_⟩
  clear e1 e4 hat hod b3 g3 sa m1 m4
  -- some
  have iO := isO_vals ho
  have f1 : ∀ {d : PyData}, Fits 0 1921 d → Fits 40 3000000 d := fun h => h.mono (by decide) (by decide)
  refine fun s5 k5 z5 => ?_
  have st4 := st3.new (o := .dK []) k5
  have wl : WL (upd H3 s5 (.dK [])) g [V.non, .int 0, .str "0", .ref s5] := fun x hx => by
    simp only [List.mem_cons, List.not_mem_nil, or_false] at hx
    rcases hx with rfl | rfl | rfl | rfl
    · exact ⟨_, _, .non, rfl, f1 fit_none, noD rfl, List.not_mem_nil⟩
    · exact ⟨_, _, .int 0, rfl, f1 (fit_int (lt1900 (by decide))), noD rfl, List.not_mem_nil⟩
    · exact ⟨_, _, .str "0", rfl, ⟨rfl, by decide, by decide +kernel⟩, noD rfl, List.not_mem_nil⟩
    · exact ⟨_, _, .emp (upd_same (a := s5) (o := .dK [])), rfl, fit_emp.mono (by decide) (by decide), fun _ z => z5 (List.mem_singleton.mp z).symm, fun z => st3.ng k5 (List.mem_singleton.mp z).symm⟩
  have hodd : OddV (upd H3 s5 (.dK [])) g be odd := by
    obtain ⟨d, as, h1, h2⟩ := hodd
    exact ⟨d, as, h1.same (Same.new k5), h2⟩
  generalize upd H3 s5 (.dK []) = H4 at st4 wl hodd ⊢
  -- []
  refine ⟨(by decide : 0 ≤ sizeLine), fun s6 k6 _ => ?_⟩
  have st5 := st4.new (o := .lst []) k6
  have wl := wl.same (Same.new (o := .lst []) k6)
  have wl := wl.snoc (WrongG.ints (g := g) (ms := []) (upd_same (H := H4) (a := s6)) (st4.ng k6) rfl (by decide) (fun v hv => (List.not_mem_nil hv).elim))
  have hodd : OddV (upd H4 s6 (.lst [])) g be odd := by
    obtain ⟨d, as, h1, h2⟩ := hodd
    exact ⟨d, as, h1.same (Same.new k6), h2⟩
  generalize upd H4 s6 (.lst []) = H5 at st5 wl hodd ⊢
  -- ()
  refine ⟨(by decide : 0 ≤ sizeLine), fun s7 k7 => ?_⟩
  have st6 := st5.new (o := .tup []) k7
  have wl := wl.same (Same.new (o := .tup []) k7)
  have wl := wl.snoc ⟨_, _, .tup (upd_same (H := H5) (a := s7) (o := .tup [])) .nil, rfl, ⟨rfl, by decide, by decide +kernel⟩, noD rfl, fun z => st5.ng k7 (List.mem_singleton.mp z).symm⟩
  have hodd : OddV (upd H5 s7 (.tup [])) g be odd := by
    obtain ⟨d, as, h1, h2⟩ := hodd
    exact ⟨d, as, h1.same (Same.new k7), h2⟩
  generalize upd H5 s7 (.tup []) = H6 at st6 wl hodd ⊢
  -- [1]
  refine ⟨(by decide : 1 ≤ sizeLine), fun s8 k8 _ => ?_⟩
  have st7 := st6.new (o := .lst [.int 1]) k8
  have wl := wl.same (Same.new (o := .lst [.int 1]) k8)
  have wl := wl.snoc (WrongG.ints (g := g) (ms := [1]) (upd_same (H := H6) (a := s8)) (st6.ng k8) rfl (by decide) (fun v hv => by rw [List.mem_singleton.mp hv]; decide))
  have hodd : OddV (upd H6 s8 (.lst [.int 1])) g be odd := by
    obtain ⟨d, as, h1, h2⟩ := hodd
    exact ⟨d, as, h1.same (Same.new k8), h2⟩
  generalize upd H6 s8 (.lst [.int 1]) = H7 at st7 wl hodd ⊢
  -- [0, 2]
  refine ⟨(by decide : 2 ≤ sizeLine), fun s9 k9 _ => ?_⟩
  have st8 := st7.new (o := .lst [.int 0, .int 2]) k9
  have wl := wl.same (Same.new (o := .lst [.int 0, .int 2]) k9)
  have wl := wl.snoc (WrongG.ints (g := g) (ms := [0, 2]) (upd_same (H := H7) (a := s9)) (st7.ng k9) rfl (by decide) (fun v hv => by
    simp only [List.mem_cons, List.not_mem_nil, or_false] at hv
    rcases hv with rfl | rfl <;> decide))
  have hodd : OddV (upd H7 s9 (.lst [.int 0, .int 2])) g be odd := by
    obtain ⟨d, as, h1, h2⟩ := hodd
    exact ⟨d, as, h1.same (Same.new k9), h2⟩
  generalize upd H7 s9 (.lst [.int 0, .int 2]) = H8 at st8 wl hodd ⊢
  -- [[0]]
  refine ⟨(by decide : 1 ≤ sizeLine), fun s10 k10 _ => ⟨(by decide : 1 ≤ sizeLine), fun s11 k11 _ => ?_⟩⟩
  have st9 := (st8.new (o := .lst [.int 0]) k10).new (o := .lst [.ref s10]) k11
  have wl := (wl.same (Same.new (o := .lst [.int 0]) k10)).same (Same.new (o := .lst [.ref s10]) k11)
  have wl := wl.snoc ⟨_, _, .lst (upd_same (H := upd H8 s10 (.lst [.int 0])) (a := s11) (o := .lst [.ref s10])) (dx_one (dx_dI (ns := [0]) (Same.new k11 _ _ upd_same))), rfl, ⟨rfl, by decide, by decide +kernel⟩, noD rfl, fun z => by
    rcases List.mem_cons.mp z with m | m
    · exact (st8.new (o := .lst [.int 0]) k10).ng k11 m.symm
    · exact st8.ng k10 (List.mem_singleton.mp m).symm⟩
  have hodd : OddV (upd (upd H8 s10 (.lst [.int 0])) s11 (.lst [.ref s10])) g be odd := by
    obtain ⟨d, as, h1, h2⟩ := hodd
    exact ⟨d, as, (h1.same (Same.new k10)).same (Same.new k11), h2⟩
  generalize upd (upd H8 s10 (.lst [.int 0])) s11 (.lst [.ref s10]) = H9 at st9 wl hodd ⊢
  -- tuple(depths)
  refine ⟨_, rfl, .inl ⟨a, _, rfl, SqL.of st9.a, fun s12 k12 => ?_⟩⟩
  have st10 := st9.new (o := .tup (iv ns)) k12
  have wl := wl.same (Same.new (o := .tup (iv ns)) k12)
  have wl := wl.snoc ⟨_, _, .tup (upd_same (H := H9) (a := s12) (o := .tup (iv ns))) (dx_ints ns), rfl, (fit_tup (fit_ints fun v hv => lt1900 (by have := iO v hv; omega)) (by rw [List.length_map]; exact l2)).mono (by decide) (by decide), (fun z => by
    have z' : PyData.hasDictAll (ns.map PyData.int) = true := z
    rw [dict_ints] at z'; cases z'), fun z => st9.ng k12 (List.mem_singleton.mp z).symm⟩
  have hodd : OddV (upd H9 s12 (.tup (iv ns))) g be odd := by
    obtain ⟨d, as, h1, h2⟩ := hodd
    exact ⟨d, as, h1.same (Same.new k12), h2⟩
  generalize upd H9 s12 (.tup (iv ns)) = H10 at st10 wl hodd ⊢
  -- [0] * 201
  refine ⟨(by decide : 1 ≤ sizeLine), fun s13 k13 _ => ⟨s13, 201, [.int 0], rfl, rfl, upd_same, by decide, by decide, by decide, fun s14 k14 => ?_⟩⟩
  rw [iv_rep]
  have st11 := (st10.new (o := .lst [.int 0]) k13).new (o := .lst (iv (List.replicate (201 : Int).toNat 0))) k14
  have wl := (wl.same (Same.new (o := .lst [.int 0]) k13)).same (Same.new (o := .lst (iv (List.replicate (201 : Int).toNat 0))) k14)
  have wl := wl.snoc (WrongG.ints (g := g) (upd_same (a := s14) (o := .lst (iv (List.replicate (201 : Int).toNat 0)))) ((st10.new (o := .lst [.int 0]) k13).ng k14) (by decide) (by decide) (fun v hv => by rw [List.eq_of_mem_replicate hv]; decide))
  have hodd : OddV (upd (upd H10 s13 (.lst [.int 0])) s14 (.lst (iv (List.replicate (201 : Int).toNat 0)))) g be odd := by
    obtain ⟨d, as, h1, h2⟩ := hodd
    exact ⟨d, as, (h1.same (Same.new k13)).same (Same.new k14), h2⟩
  generalize upd (upd H10 s13 (.lst [.int 0])) s14 (.lst (iv (List.replicate (201 : Int).toNat 0))) = H11 at st11 wl hodd ⊢
  refine ⟨(by decide : 11 ≤ sizeLine), fun p12 i12 _ => ?_⟩
  change WL H11 g [V.non, .int 0, .str "0", .ref s5, .ref s6, .ref s7, .ref s8, .ref s9, .ref s11, .ref s12, .ref s14] at wl
  have st12 := st11.new (o := .lst [V.non, .int 0, .str "0", .ref s5, .ref s6, .ref s7, .ref s8, .ref s9, .ref s11, .ref s12, .ref s14]) i12
  have wl := wl.same (Same.new (o := .lst [V.non, .int 0, .str "0", .ref s5, .ref s6, .ref s7, .ref s8, .ref s9, .ref s11, .ref s12, .ref s14]) i12)
  have f12 := upd_same (H := H11) (a := p12) (o := .lst [V.non, .int 0, .str "0", .ref s5, .ref s6, .ref s7, .ref s8, .ref s9, .ref s11, .ref s12, .ref s14])
  have hodd : OddV (upd H11 p12 (.lst [V.non, .int 0, .str "0", .ref s5, .ref s6, .ref s7, .ref s8, .ref s9, .ref s11, .ref s12, .ref s14])) g be odd := by
    obtain ⟨d, as, h1, h2⟩ := hodd
    exact ⟨d, as, h1.same (Same.new i12), h2⟩
  generalize upd H11 p12 (.lst [V.non, .int 0, .str "0", .ref s5, .ref s6, .ref s7, .ref s8, .ref s9, .ref s11, .ref s12, .ref s14]) = H12 at st12 wl f12 hodd ⊢
  -- depths[:at] + [odd] + depths[at + 1:]
  refine ⟨_, rfl, _, rfl, _, rfl, _, rfl, a, _, rfl, SqL.of st12.a, fun p1 i1 => ?_⟩
  rw [cutV_iv, cutI_to _ (by omega), Int.toNat_natCast]
  have lt1 : (iv (ns.take t)).length ≤ 200 := by rw [List.length_map, List.length_take]; omega
  refine ⟨_, rfl, (by decide : 1 ≤ sizeLine), fun p2 i2 _ => ⟨p1, p2, _, _, rfl, rfl, SqL.of (Same.new i2 _ _ upd_same), SqL.of upd_same, Nat.le_of_lt (small_line (by show (iv (ns.take t)).length + 1 < 100000; omega)), fun p3 i3 _ => ?_⟩⟩
  have st13 := ((st12.new i1).new i2).new (o := .lst (iv (ns.take t) ++ [odd])) i3
  have y3 := ((Same.new (o := .lst (iv (ns.take t))) i1).trans (Same.new (o := .lst [odd]) i2)).trans (Same.new (o := .lst (iv (ns.take t) ++ [odd])) i3)
  have f3 := upd_same (H := upd (upd H12 p1 (.lst (iv (ns.take t)))) p2 (.lst [odd])) (a := p3) (o := .lst (iv (ns.take t) ++ [odd]))
  generalize upd (upd (upd H12 p1 (.lst (iv (ns.take t)))) p2 (.lst [odd])) p3 (.lst (iv (ns.take t) ++ [odd])) = H13 at st13 y3 f3 ⊢
  have od4 : OddV H13 g be odd := by
    obtain ⟨d, as, h1, h2⟩ := hodd
    exact ⟨d, as, h1.same y3, h2⟩
  have wl := wl.same y3
  have f12 := y3 _ _ f12
  refine ⟨_, rfl, _, rfl, _, _, rfl, rfl, _, rfl, a, _, rfl, SqL.of st13.a, fun p4 i4 => ?_⟩
  rw [cutV_iv, cutI_from _ (by omega), show ((t : Int) + 1).toNat = t + 1 by omega]
  have lt2 : (iv (ns.drop (t + 1))).length ≤ 200 := by rw [List.length_map, List.length_drop]; omega
  refine ⟨p3, p4, _, _, rfl, rfl, SqL.of (Same.new i4 _ _ f3), SqL.of upd_same, Nat.le_of_lt (small_line (by rw [List.length_append]; show (iv (ns.take t)).length + 1 + _ < 100000; omega)), fun p5 i5 z5 => ?_⟩
  have st14 := (st13.new i4).new (o := .lst (iv (ns.take t) ++ [odd] ++ iv (ns.drop (t + 1)))) i5
  have y5 := (Same.new (o := .lst (iv (ns.drop (t + 1)))) i4).trans (Same.new (o := .lst (iv (ns.take t) ++ [odd] ++ iv (ns.drop (t + 1)))) i5)
  have w0 : WrongG (upd (upd H13 p4 (.lst (iv (ns.drop (t + 1))))) p5 (.lst (iv (ns.take t) ++ [odd] ++ iv (ns.drop (t + 1))))) g (.ref p5) := by
    obtain ⟨d, as, h1, h2, h3, h4, h5⟩ := od4
    have hx := ((dx_ints (H := upd (upd H13 p4 (.lst (iv (ns.drop (t + 1))))) p5 (.lst (iv (ns.take t) ++ [odd] ++ iv (ns.drop (t + 1))))) (ns.take t)).append (dx_one ((h1.same (Same.new i4)).same (Same.new i5)))).append (dx_ints (ns.drop (t + 1)))
    refine ⟨_, _, .lst upd_same hx, wrong_at tl hbe h2, (fit_list (n := 1) (L := 1926) (m := 401) (fun e he => ?_) ?_).mono (by decide) (by decide), fun z => ?_, fun z => ?_⟩
    · rcases List.mem_append.mp he with he | he
      · rcases List.mem_append.mp he with he | he
        · exact (fit_ints (fun v hv => lt1900 (by have := iO v (List.mem_of_mem_take hv); omega)) e he).mono (by decide) (by decide)
        · rw [List.mem_singleton.mp he]; exact h3
      · exact (fit_ints (fun v hv => lt1900 (by have := iO v (List.mem_of_mem_drop hv); omega)) e he).mono (by decide) (by decide)
    · rw [List.length_append, List.length_append, List.length_map, List.length_map]
      rw [List.length_map] at lt1 lt2
      show _ + 1 + _ ≤ 401
      omega
    · rw [List.append_nil, List.nil_append]
      have z' : PyData.hasDictAll ((ns.take t).map PyData.int ++ [d] ++ (ns.drop (t + 1)).map PyData.int) = true := z
      rw [hasDict_app, hasDict_app, dict_ints, dict_ints, Bool.or_false, Bool.false_or] at z'
      have z2 : (d.hasDict || false) = true := z'
      rw [Bool.or_false] at z2
      intro m
      rcases List.mem_cons.mp m with m | m
      · exact z5 m.symm
      · exact h4 z2 m
    · rw [List.append_nil, List.nil_append] at z
      rcases List.mem_cons.mp z with m | m
      · exact (st13.new (o := .lst (iv (ns.drop (t + 1)))) i4).ng i5 m.symm
      · exact h5 m
  have wl := wl.same y5
  have f12 := y5 _ _ f12
  generalize upd (upd H13 p4 (.lst (iv (ns.drop (t + 1))))) p5 (.lst (iv (ns.take t) ++ [odd] ++ iv (ns.drop (t + 1)))) = H14 at st14 w0 wl f12 ⊢
  refine ⟨(by decide : 1 ≤ sizeLine), fun p6 i6 _ => ⟨p6, 5, [.ref p5], rfl, rfl, upd_same, by decide, by decide, (by decide : 1 * 5 ≤ sizeLine), fun p7 i7 => ?_⟩⟩
  rw [show (List.replicate (5 : Int).toNat [V.ref p5]).flatten = [V.ref p5, .ref p5, .ref p5, .ref p5, .ref p5] from rfl]
  have st15 := (st14.new (o := .lst [.ref p5]) i6).new (o := .lst [V.ref p5, .ref p5, .ref p5, .ref p5, .ref p5]) i7
  have y7 := (Same.new (o := .lst [V.ref p5]) i6).trans (Same.new (o := .lst [V.ref p5, .ref p5, .ref p5, .ref p5, .ref p5]) i7)
  have f7 := upd_same (H := upd H14 p6 (.lst [.ref p5])) (a := p7) (o := .lst [V.ref p5, .ref p5, .ref p5, .ref p5, .ref p5])
  have f12 := y7 _ _ f12
  have wl := wl.same y7
  have w0 := w0.same y7
  generalize upd (upd H14 p6 (.lst [.ref p5])) p7 (.lst [V.ref p5, .ref p5, .ref p5, .ref p5, .ref p5]) = H15 at st15 f7 f12 wl w0 ⊢
  refine ⟨p12, p7, _, _, rfl, rfl, SqL.of f12, SqL.of f7, (by decide : 11 + 5 ≤ sizeLine), fun p8 i8 _ => ?_⟩
  have st16 := st15.new (o := .lst ([V.non, .int 0, .str "0", .ref s5, .ref s6, .ref s7, .ref s8, .ref s9, .ref s11, .ref s12, .ref s14] ++ [V.ref p5, .ref p5, .ref p5, .ref p5, .ref p5])) i8
  have y8 := Same.new (o := .lst ([V.non, .int 0, .str "0", .ref s5, .ref s6, .ref s7, .ref s8, .ref s9, .ref s11, .ref s12, .ref s14] ++ [V.ref p5, .ref p5, .ref p5, .ref p5, .ref p5])) i8
  have f8 := upd_same (H := H15) (a := p8) (o := .lst ([V.non, .int 0, .str "0", .ref s5, .ref s6, .ref s7, .ref s8, .ref s9, .ref s11, .ref s12, .ref s14] ++ [V.ref p5, .ref p5, .ref p5, .ref p5, .ref p5]))
  have wl := (((((wl.same y8).snoc (w0.same y8)).snoc (w0.same y8)).snoc (w0.same y8)).snoc (w0.same y8)).snoc (w0.same y8)
  have ng8 := st15.ng i8
  generalize upd H15 p8 (.lst ([V.non, .int 0, .str "0", .ref s5, .ref s6, .ref s7, .ref s8, .ref s9, .ref s11, .ref s12, .ref s14] ++ [V.ref p5, .ref p5, .ref p5, .ref p5, .ref p5])) = H16 at st16 f8 wl ⊢
  refine ⟨_, rfl, _, rfl, g, 16, _, rfl, st16.g, by omega, by decide, by decide, fun d H20 d0 d1 b20 g20 => ?_⟩
  obtain ⟨x, hat, hx⟩ := atI_all (xs := [V.non, .int 0, .str "0", .ref s5, .ref s6, .ref s7, .ref s8, .ref s9, .ref s11, .ref s12, .ref s14] ++ [V.ref p5, .ref p5, .ref p5, .ref p5, .ref p5]) (p := WrongG H20 g) (fun y hy => (wl y (by simpa using hy)).but b20) d0 (by exact d1)
  exact ⟨p8, _, _, x, rfl, rfl, SqL.of (b20 _ _ f8 ng8), hat, k x H20 (st16.b.trans b20) (g20.mono (by omega)) hx⟩
end
end SH

namespace SH
open PySem PySem.Spec PyProof.Rows L2
abbrev s_law_no_folds : Stmt := topS 47
abbrev N_law_no_folds : List Str := ["bag", "depths", "marks", "at", "odd", "twin", "double", "some"]
abbrev P_law_no_folds : List Str := ["bag", "depths", "marks"]
theorem sc_law_no_folds : FnScope N_law_no_folds P_law_no_folds (defScope s_law_no_folds) := ⟨rfl, rfl, rfl, by decide +kernel, rfl, by decide +kernel, by decide +kernel⟩
/-- a value that is no folds of an outline with so many lines -/
def WF (H : Hp) (g : Addr) (N : Nat) (x : V) : Prop := ∃ d as, Dx H x d as ∧ ascD ((N : Int) - 1) d = false ∧ Fits 40 3000000 d ∧ (d.hasDict = true → sysModules ∉ as) ∧ g ∉ as
theorem WF.same {H H' : Hp} {g : Addr} {N : Nat} {x : V} (h : WF H g N x) (s : Same H H') : WF H' g N x := by
  obtain ⟨d, as, a, b⟩ := h
  exact ⟨d, as, a.same s, b⟩
theorem WF.but {H H' : Hp} {g : Addr} {N : Nat} {x : V} (h : WF H g N x) (s : SameBut g H H') : WF H' g N x := by
  obtain ⟨d, as, a, b, c, e, f⟩ := h
  exact ⟨d, as, a.but s f, b, c, e, f⟩
def MN (H : Hp) (g : Addr) (G : Int) (x : V) : Prop := ∃ d as, Dx H x d as ∧ (∀ lo : Int, 0 ≤ lo → inD d lo G = false) ∧ Fits 3 2000 d ∧ d.hasDict = false ∧ g ∉ as
theorem MN.same {H H' : Hp} {g : Addr} {G : Int} {x : V} (h : MN H g G x) (s : Same H H') : MN H' g G x := by
  obtain ⟨d, as, a, b⟩ := h
  exact ⟨d, as, a.same s, b⟩
theorem MN.but {H H' : Hp} {g : Addr} {G : Int} {x : V} (h : MN H g G x) (s : SameBut g H H') : MN H' g G x := by
  obtain ⟨d, as, a, b, c, e, f⟩ := h
  exact ⟨d, as, a.but s f, b, c, e, f⟩
theorem asc_odd {G : Int} {d : PyData} (h : ∀ lo : Int, 0 ≤ lo → inD d lo G = false) : ∀ (xs : List Int) {ys : List PyData} {lo : Int}, 0 ≤ lo → ascDs G lo (xs.map PyData.int ++ d :: ys) = false
  | [], ys, lo, l0 => by
    show (inD d lo G && _) = false
    rw [h lo l0, Bool.false_and]
  | x :: r, ys, lo, l0 => by
    show (inD (.int x) lo G && ascDs G (x + 1) (r.map PyData.int ++ d :: ys)) = false
    cases c : inD (.int x) lo G with
    | false => rfl
    | true =>
      obtain ⟨v, e, v0, _⟩ := inD_int c
      cases e
      rw [asc_odd h r (by omega)]
      rfl
theorem asc_twin {G x : Int} : ∀ (xs : List Int) {ys : List Int} {lo : Int}, ascB G lo (xs ++ x :: x :: ys) = false
  | [], ys, lo => by
    show (decide (lo ≤ x) && decide (x ≤ G) && (decide (x + 1 ≤ x) && _ && _)) = false
    rw [decide_eq_false (show ¬ x + 1 ≤ x by omega), Bool.false_and, Bool.false_and, Bool.and_false]
  | z :: r, ys, lo => by
    show (decide (lo ≤ z) && decide (z ≤ G) && ascB G (z + 1) (r ++ x :: x :: ys)) = false
    rw [asc_twin r, Bool.and_false]
theorem cutV_from (xs : List V) (n : Nat) (h : n ≤ xs.length) : cutV xs (some (n : Int)) none = xs.drop n := by
  unfold cutV
  rw [HT.sIx_nat, HT.sIx_none, Nat.min_eq_left h, List.take_of_length_le (by rw [List.length_drop]; exact Nat.le_refl _)]
theorem cutV_to (xs : List V) (M : Nat) : cutV xs none (some (M : Int)) = xs.take M := by
  unfold cutV
  rw [HT.sIx_none, HT.sIx_nat, List.drop_zero, Nat.sub_zero]
  rcases Nat.le_total M xs.length with a | a
  · rw [Nat.min_eq_left a]
  · rw [Nat.min_eq_right a, List.take_of_length_le (Nat.le_refl _), List.take_of_length_le a]
theorem iv_take (L : List Int) (n : Nat) : (iv L).take n = iv (L.take n) := List.map_take.symm
theorem iv_drop (L : List Int) (n : Nat) : (iv L).drop n = iv (L.drop n) := List.map_drop.symm
section
variable {P : Program} {w : World} {K : PySem.W.Frag} {mg : Str → Option Value} {base : Heap}
theorem WF.ints {H : Hp} {g p : Addr} {N : Nat} {L : List Int} (e : H p = some (.lst (iv L))) (n : p ≠ g) (h : ascB ((N : Int) - 1) 0 L = false) (l : L.length ≤ 1000) (b : ∀ v ∈ L, v.natAbs < 2 ^ 128) : WF H g N (.ref p) :=
  ⟨_, _, dx_dI e, by show ascDs _ 0 (L.map PyData.int) = false; rw [ascDs_dI]; exact h, (fit_list (fit_ints fun v hv => lt1900 (b v hv)) (by rw [List.length_map]; exact l)).mono (by decide) (by decide), (fun z => by
    have z' : PyData.hasDictAll (L.map PyData.int) = true := z
    rw [dict_ints] at z'; cases z'), fun z => n (List.mem_singleton.mp z).symm⟩
def sp_law_no_folds : Sp := fun vs H Q _ => ∃ (g a b : Addr) (ns ms : List Int) (B : Int), vs = [.ref g, .ref a, .ref b] ∧ SrcV B H g ∧ B ≤ 200000000 ∧ a ≠ g ∧ b ≠ g ∧ H a = some (.lst (iv ns)) ∧ 1 ≤ ns.length ∧ ns.length ≤ 200 ∧ H b = some (.lst (iv ms)) ∧ ms.length ≤ 200 ∧ (∀ v ∈ ms, 0 ≤ v ∧ v < ns.length) ∧
  ∀ (x : V) (H' : Hp), SameBut g H H' → SrcV (B + 6) H' g → WF H' g ns.length x → Q x H'
theorem ok_law_no_folds (T : Txt mg) (h : At K mg "_law_no_folds" s_law_no_folds)
    (g_law_draw : Has P w K mg base CX0 1 "_law_draw" s_law_draw P_law_draw sp_law_draw) :
    Has P w K mg base CX0 2 "_law_no_folds" s_law_no_folds P_law_no_folds sp_law_no_folds := by
  refine Has.of h sc_law_no_folds (fun vs H Q E h => ?_) (fun _ _ _ _ _ _ us hl => match us, hl with | [_, _, _], _ => rfl) (fun f cdv A outer s H vs Q E room qt h => ?_)
  · obtain ⟨g, a, b, ns, ms, B, rfl, _⟩ := h; rfl
  obtain ⟨g, a, b, ns, ms, B, rfl, hg, hB, nag, nbg, ha, l1, l2, hb, ml, mv, k⟩ := h
  have el : (iv ns).length = ns.length := List.length_map _
  have em : (iv ms).length = ms.length := List.length_map _
  refine ⟨_, (pss_cons (ps_set (i := 3) sc_law_no_folds.nd rfl (Or.inl rfl) (pe_has g_law_draw (room.mono (by decide)) qt (by rfl) pass0 (pa_cons (pv 0) (pa_cons (pe_op op_add (pe_callB call_len_seq (by rfl) T.len (by decide +kernel) (pa_cons (pv 2) pa_nil)) pe_int) pa_nil))))
      (pss_cons (ps_set (i := 4) sc_law_no_folds.nd rfl (Or.inl rfl) (pe_ix ix_list (pe_lstB (pa_cons (pe_un un_neg pe_int) (pa_cons (pe_callB call_len_seq (by rfl) T.len (by decide +kernel) (pa_cons (pv 1) pa_nil)) (pa_cons pe_non (pa_cons pe_bl (pa_cons pe_str (pa_cons (pe_lstB (pa_cons pe_int pa_nil)) (pa_cons (pe_op op_powG pe_int pe_int) pa_nil)))))))) (pe_has g_law_draw (room.mono (by decide)) qt (by rfl) pass0 (pa_cons (pv 0) (pa_cons pe_int pa_nil))) (fun _ _ => rfl)))
      (pss_cons (ps_set (i := 5) sc_law_no_folds.nd rfl (Or.inl rfl) (pe_has g_law_draw (room.mono (by decide)) qt (by rfl) pass0 (pa_cons (pv 0) (pa_cons (pe_callB (call_max2 rfl) (by rfl) T.max (by decide +kernel) (pa_cons pe_int (pa_cons (pe_callB call_len_seq (by rfl) T.len (by decide +kernel) (pa_cons (pv 2) pa_nil)) pa_nil))) pa_nil))))
      (pss_cons (ps_set (i := 6) sc_law_no_folds.nd rfl (Or.inl rfl) (pe_ifExp (pt_cmpR (op_neD room.units) (pv 2) (pe_lstB pa_nil) (nomark _)) (pe_op op_catB (pe_slice sl_list (pv 2) po_none (po_some (pe_op op_add (pv 5) pe_int))) (pe_slice sl_list (pv 2) (po_some (pv 5)) po_none)) (pe_lstB (pa_cons pe_int (pa_cons pe_int pa_nil)))))
      (pss_cons (ps_set (i := 7) sc_law_no_folds.nd rfl (Or.inl rfl) (pe_lstB (pa_cons pe_non (pa_cons pe_int (pa_cons (pe_tupleOf (by rfl) T.tuple (pv 2)) (pa_cons pe_dnewB (pa_cons pe_str (pa_cons (pe_op op_catB (pe_op op_catB (pe_slice sl_list (pv 2) po_none (po_some (pv 3))) (pe_lstB (pa_cons (pv 4) pa_nil))) (pe_slice sl_list (pv 2) (po_some (pv 3)) po_none)) (pa_cons (pv 6) (pa_cons (pe_lstB (pa_cons (pe_op op_sub (pe_callB call_len_seq (by rfl) T.len (by decide +kernel) (pa_cons (pv 1) pa_nil)) pe_int) (pa_cons pe_int (pa_cons pe_int pa_nil)))) pa_nil))))))))))
      (pss_one (ps_ret (pe_ix ix_list (pv 7) (pe_ix ix_list (pe_lstB (pa_cons (pe_has g_law_draw (room.mono (by decide)) qt (by rfl) pass0 (pa_cons (pv 0) (pa_cons pe_int pa_nil))) (pa_cons pe_int (pa_cons pe_int pa_nil)))) (pe_has g_law_draw (room.mono (by decide)) qt (by rfl) pass0 (pa_cons (pv 0) (pa_cons pe_int pa_nil))) (fun _ _ => rfl)) (fun _ _ => rfl))))))))), ?_⟩
  have st0 : Stv H H g b (iv ms) B := ⟨SameBut.refl, hg, hb⟩
  refine ⟨_, rfl, _, rfl, b, _, rfl, .inl (SqL.of hb), _, _, rfl, rfl, g, _, _, rfl, hg, by omega, by omega, by omega, fun at_ H1 a0 a1 b1 g1 => ?_⟩
  have st1 := st0.draw nbg b1 g1
  obtain ⟨t, rfl⟩ : ∃ t : Nat, at_ = t := ⟨at_.toNat, by omega⟩
  have tl : t ≤ ms.length := by omega
  have ha1 := st1.b _ _ ha nag
  -- odd
  refine ⟨_, rfl, _, rfl, a, _, rfl, .inl (SqL.of ha1), (by decide : 1 ≤ sizeLine), fun r1 m1 _ => ?_⟩
  refine ⟨_, _, rfl, rfl, ⟨by decide, by decide +kernel⟩, (by decide : 7 ≤ sizeLine), fun r2 m2 _ => ?_⟩
  have sa := st1.new (o := .lst [.int 0]) m1
  refine ⟨_, rfl, g, 7, _, rfl, (sa.new m2).g, by omega, by decide, by decide, fun j H3 j0 j1 b3 g3 => ?_⟩
  have e1 := b3 _ _ (Same.new m2 _ _ (upd_same (H := H1) (a := r1) (o := .lst [.int 0]))) (st1.ng m1)
  have e2 := b3 _ _ upd_same (sa.ng m2)
  have st3 := (sa.new m2).draw nbg b3 g3
  have fI : ∀ {d : PyData}, Fits 0 1921 d → Fits 3 2000 d := fun h => h.mono (by decide) (by decide)
  have p30' : (10 : Int) ^ (30 : Int).toNat = 1000000000000000000000000000000 := by decide
  have hod : ∀ x ∈ [V.int (-1), .int ((iv ns).length : Nat), .non, .bl true, .str "0", .ref r1, .int (10 ^ (30 : Int).toNat)], MN H3 g ((ns.length : Int) - 1) x := fun x hx => by
    simp only [List.mem_cons, List.not_mem_nil, or_false] at hx
    rcases hx with rfl | rfl | rfl | rfl | rfl | rfl | rfl
    · refine ⟨_, _, .int _, fun lo l0 => ?_, fI (fit_int (lt1900 (by decide))), rfl, List.not_mem_nil⟩
      show (decide (lo ≤ -1) && _) = false
      rw [decide_eq_false (by omega), Bool.false_and]
    · refine ⟨_, _, .int _, fun lo l0 => ?_, fI (fit_int (lt1900 (by omega))), rfl, List.not_mem_nil⟩
      show (decide (lo ≤ ((iv ns).length : Int)) && decide (((iv ns).length : Int) ≤ (ns.length : Int) - 1)) = false
      rw [decide_eq_false (show ¬ ((iv ns).length : Int) ≤ (ns.length : Int) - 1 by omega), Bool.and_false]
    · exact ⟨_, _, .non, fun _ _ => rfl, fI fit_none, rfl, List.not_mem_nil⟩
    · exact ⟨_, _, .bl _, fun _ _ => rfl, fI (fit_bool _), rfl, List.not_mem_nil⟩
    · exact ⟨_, _, .str _, fun _ _ => rfl, ⟨rfl, by decide, by decide +kernel⟩, rfl, List.not_mem_nil⟩
    · exact ⟨_, _, .lst e1 (dx_ints [0]), fun _ _ => rfl, ⟨rfl, by decide, by decide +kernel⟩, rfl, fun z => st1.ng m1 (List.mem_singleton.mp z).symm⟩
    · rw [p30']
      refine ⟨_, _, .int _, fun lo l0 => ?_, fI (fit_int (lt1900 (by decide))), rfl, List.not_mem_nil⟩
      show (decide (lo ≤ (1000000000000000000000000000000 : Int)) && decide ((1000000000000000000000000000000 : Int) ≤ (ns.length : Int) - 1)) = false
      rw [decide_eq_false (show ¬ (1000000000000000000000000000000 : Int) ≤ (ns.length : Int) - 1 by omega), Bool.and_false]
  obtain ⟨odd, hat, hodd⟩ := atI_all hod j0 (by exact j1)
  refine ⟨r2, _, j, odd, rfl, rfl, SqL.of e2, hat, ?_⟩
  clear e1 e2 hat hod b3 g3 sa m1 m2 ha1
  -- twin
  refine ⟨_, rfl, _, rfl, b, _, rfl, .inl (SqL.of st3.a), _, _, rfl, ?_⟩
  obtain ⟨mx, emx, mx0, mx1, mx2⟩ : ∃ mx : Int, (if ((iv ms).length : Int) > 1 then ((iv ms).length : Int) else 1) = mx ∧ 1 ≤ mx ∧ mx ≤ 200 ∧ (ms ≠ [] → mx ≤ ms.length) := by
    refine ⟨_, rfl, by split <;> omega, by split <;> omega, fun nn => ?_⟩
    have := List.length_pos_iff.mpr nn
    split <;> omega
  rw [emx]
  refine ⟨g, mx, _, rfl, st3.g, by omega, by omega, by omega, fun tw H4 tw0 tw1 b4 g4 => ?_⟩
  have st4 := st3.draw nbg b4 g4
  have hodd4 := hodd.but b4
  clear hodd st3 b4 g4
  -- double
  refine ⟨_, rfl, (by decide : 0 ≤ sizeLine), fun q4 n4 _ => neD_ints (ns := ms) (ms := []) (SqL.of (st4.new n4).a) (SqL.of upd_same) ⟨_, rfl, ?_⟩⟩
  have y4 := Same.new (o := .lst []) n4
  have st5 := st4.new (o := .lst []) n4
  have hodd5 := hodd4.same y4
  generalize upd H4 q4 (.lst []) = H5 at st5 hodd5 ⊢
  refine if_any (fun v H6 => ∃ (p : Addr) (L : List Int), v = .ref p ∧ H5 p = none ∧ Same H5 H6 ∧ H6 p = some (.lst (iv L)) ∧ ascB ((ns.length : Int) - 1) 0 L = false ∧ L.length ≤ 1000 ∧ ∀ z ∈ L, z.natAbs < 2 ^ 128) (fun c Q' q => ?_) (fun c Q' q => ?_) ?_
  · have nn : ms ≠ [] := fun z => by subst z; exact absurd c (by decide)
    obtain ⟨u, rfl⟩ : ∃ u : Nat, tw = u := ⟨tw.toNat, by omega⟩
    have ul : u < ms.length := by have := mx2 nn; omega
    refine ⟨_, rfl, _, rfl, _, _, rfl, rfl, _, rfl, b, _, rfl, SqL.of st5.a, fun p1 i1 => ?_⟩
    rw [show (u : Int) + 1 = ((u + 1 : Nat) : Int) from rfl, cutV_to, iv_take]
    have s1 := st5.new (o := .lst (iv (ms.take (u + 1)))) i1
    refine ⟨_, rfl, _, rfl, _, rfl, b, _, rfl, SqL.of s1.a, fun p2 i2 => ?_⟩
    rw [cutV_from _ _ (by omega), iv_drop]
    refine ⟨p1, p2, _, _, rfl, rfl, SqL.of (Same.new i2 _ _ upd_same), SqL.of upd_same, Nat.le_of_lt (small_line (by rw [List.length_map, List.length_map, List.length_take, List.length_drop]; omega)), fun p3 i3 _ => ?_⟩
    have e3 : iv (ms.take (u + 1)) ++ iv (ms.drop u) = iv (ms.take u ++ ms.getD u 0 :: ms.getD u 0 :: ms.drop (u + 1)) := by
      have e1 : ms.take (u + 1) = ms.take u ++ [ms.getD u 0] := by rw [List.take_succ, List.getElem?_eq_getElem ul, List.getD_eq_getElem?_getD, List.getElem?_eq_getElem ul]; rfl
      have e2 : ms.drop u = ms.getD u 0 :: ms.drop (u + 1) := by rw [List.drop_eq_getElem_cons ul, List.getD_eq_getElem?_getD, List.getElem?_eq_getElem ul]; rfl
      rw [e1, e2]
      unfold iv
      rw [← List.map_append, List.append_assoc]
      rfl
    rw [e3]
    have y1 := (Same.new (o := .lst (iv (ms.take (u + 1)))) i1).trans (Same.new (o := .lst (iv (ms.drop u))) i2)
    refine q _ _ ⟨p3, _, rfl, y1.free i3, y1.trans (Same.new i3), upd_same, asc_twin _, ?_, fun z hz => ?_⟩
    · rw [List.length_append, List.length_cons, List.length_cons, List.length_take, List.length_drop]; omega
    · have mem : z ∈ ms := by
        have gm : ms.getD u 0 ∈ ms := by rw [List.getD_eq_getElem?_getD, List.getElem?_eq_getElem ul]; exact List.getElem_mem ul
        rcases List.mem_append.mp hz with m | m
        · exact List.mem_of_mem_take m
        · rcases List.mem_cons.mp m with rfl | m
          · exact gm
          · rcases List.mem_cons.mp m with rfl | m
            · exact gm
            · exact List.mem_of_mem_drop m
      have := mv z mem
      omega
  · refine ⟨(by decide : 2 ≤ sizeLine), fun p3 i3 _ => q _ _ ⟨p3, [0, 0], rfl, i3, Same.new i3, upd_same, asc_twin [], by decide, fun z hz => ?_⟩⟩
    simp only [List.mem_cons, List.not_mem_nil, or_false] at hz
    rcases hz with rfl | rfl <;> decide
  rintro v H6 ⟨pd, L, rfl, fpd, y6, hpd, aL, lL, vL⟩
  have wd : WF H6 g ns.length (.ref pd) := WF.ints hpd (st5.g.ne fpd).symm aL lL vL
  have st6 : Stv H H6 g b (iv ms) _ := ⟨st5.b.trans (SameBut.of y6), st5.g.same y6, y6 _ _ st5.a⟩
  have hodd6 := hodd5.same y6
  clear hodd5 hodd4 st5 st4 hpd aL lL vL fpd y6 emx mx0 mx1 mx2 tw0 tw1
  have ha6 := st6.b _ _ ha nag
  -- some
  have f1 : ∀ {d : PyData}, Fits 0 1921 d → Fits 40 3000000 d := fun h => h.mono (by decide) (by decide)
  refine ⟨_, rfl, .inl ⟨b, _, rfl, SqL.of st6.a, fun w1 q1 => ?_⟩⟩
  refine fun w2 q2 z2 => ?_
  have s1 := st6.new (o := .tup (iv ms)) q1
  have s2 := s1.new (o := .dK []) q2
  have y2 := (Same.new (o := .tup (iv ms)) q1).trans (Same.new (o := .dK []) q2)
  have e1 := Same.new (o := .dK []) q2 _ _ (upd_same (H := H6) (a := w1) (o := .tup (iv ms)))
  have e2 := upd_same (H := upd H6 w1 (.tup (iv ms))) (a := w2) (o := .dK [])
  have n1 := st6.ng q1
  have n2 := s1.ng q2
  generalize upd (upd H6 w1 (.tup (iv ms))) w2 (.dK []) = H7 at s2 y2 e1 e2 ⊢
  have wd7 := wd.same y2
  have hodd7 := hodd6.same y2
  have wt7 : WF H7 g ns.length (.ref w1) := ⟨_, _, .tup e1 (dx_ints ms), rfl, (fit_tup (fit_ints fun v hv => lt1900 (by have := mv v hv; omega)) (by rw [List.length_map]; exact ml)).mono (by decide) (by decide), (fun z => by
    have z' : PyData.hasDictAll (ms.map PyData.int) = true := z
    rw [dict_ints] at z'; cases z'), fun z => n1 (List.mem_singleton.mp z).symm⟩
  have we7 : WF H7 g ns.length (.ref w2) := ⟨_, _, .emp e2, rfl, fit_emp.mono (by decide) (by decide), fun _ z => z2 (List.mem_singleton.mp z).symm, fun z => n2 (List.mem_singleton.mp z).symm⟩
  clear wd hodd6 e1 e2 n1 n2 s1 y2
  -- marks[:at] + [odd] + marks[at:]
  refine ⟨_, rfl, _, rfl, _, rfl, b, _, rfl, SqL.of s2.a, fun p1 i1 => ?_⟩
  rw [cutV_to, iv_take]
  refine ⟨_, rfl, (by decide : 1 ≤ sizeLine), fun p2 i2 _ => ⟨p1, p2, _, _, rfl, rfl, SqL.of (Same.new i2 _ _ upd_same), SqL.of upd_same, Nat.le_of_lt (small_line (by rw [List.length_map, List.length_take]; show _ + 1 < _; omega)), fun p3 i3 _ => ?_⟩⟩
  have st7 := ((s2.new i1).new i2).new (o := .lst (iv (ms.take t) ++ [odd])) i3
  have y3 := ((Same.new (o := .lst (iv (ms.take t))) i1).trans (Same.new (o := .lst [odd]) i2)).trans (Same.new (o := .lst (iv (ms.take t) ++ [odd])) i3)
  have f3 := upd_same (H := upd (upd H7 p1 (.lst (iv (ms.take t)))) p2 (.lst [odd])) (a := p3) (o := .lst (iv (ms.take t) ++ [odd]))
  generalize upd (upd (upd H7 p1 (.lst (iv (ms.take t)))) p2 (.lst [odd])) p3 (.lst (iv (ms.take t) ++ [odd])) = H8 at st7 y3 f3 ⊢
  have hodd8 := hodd7.same y3
  refine ⟨_, rfl, _, rfl, _, rfl, b, _, rfl, SqL.of st7.a, fun p4 i4 => ?_⟩
  rw [cutV_from _ _ (by omega), iv_drop]
  have lt1 : (ms.take t).length ≤ 200 := by rw [List.length_take]; omega
  have lt2 : (ms.drop t).length ≤ 200 := by rw [List.length_drop]; omega
  refine ⟨p3, p4, _, _, rfl, rfl, SqL.of (Same.new i4 _ _ f3), SqL.of upd_same, Nat.le_of_lt (small_line (by rw [List.length_append, List.length_map, List.length_map]; show _ + 1 + _ < 100000; omega)), fun p5 i5 z5 => ?_⟩
  have st8 := (st7.new i4).new (o := .lst (iv (ms.take t) ++ [odd] ++ iv (ms.drop t))) i5
  have y5 := (Same.new (o := .lst (iv (ms.drop t))) i4).trans (Same.new (o := .lst (iv (ms.take t) ++ [odd] ++ iv (ms.drop t))) i5)
  have n5 := (st7.new (o := .lst (iv (ms.drop t))) i4).ng i5
  have f5 := upd_same (H := upd H8 p4 (.lst (iv (ms.drop t)))) (a := p5) (o := .lst (iv (ms.take t) ++ [odd] ++ iv (ms.drop t)))
  generalize upd (upd H8 p4 (.lst (iv (ms.drop t)))) p5 (.lst (iv (ms.take t) ++ [odd] ++ iv (ms.drop t))) = H9 at st8 y5 f5 ⊢
  have wo : WF H9 g ns.length (.ref p5) := by
    obtain ⟨d, as, hd, p, fd, nd, ng⟩ := hodd8.same y5
    have hx := ((dx_ints (H := H9) (ms.take t)).append (dx_one hd)).append (dx_ints (ms.drop t))
    refine ⟨_, _, .lst f5 hx, ?_, (fit_list (n := 3) (L := 2000) (m := 401) (fun e he => ?_) ?_).mono (by decide) (by decide), noD ?_, fun z => ?_⟩
    · show ascDs _ 0 ((ms.take t).map PyData.int ++ [d] ++ (ms.drop t).map PyData.int) = false
      rw [List.append_assoc, List.singleton_append]
      exact asc_odd p _ (Int.le_refl 0)
    · rcases List.mem_append.mp he with he | he
      · rcases List.mem_append.mp he with he | he
        · exact (fit_ints (fun v hv => lt1900 (by have := mv v (List.mem_of_mem_take hv); omega)) e he).mono (by decide) (by decide)
        · rw [List.mem_singleton.mp he]; exact fd
      · exact (fit_ints (fun v hv => lt1900 (by have := mv v (List.mem_of_mem_drop hv); omega)) e he).mono (by decide) (by decide)
    · rw [List.length_append, List.length_append, List.length_map, List.length_map]
      show _ + 1 + _ ≤ 401
      omega
    · show PyData.hasDictAll ((ms.take t).map PyData.int ++ [d] ++ (ms.drop t).map PyData.int) = false
      rw [hasDict_app, hasDict_app, dict_ints, dict_ints, Bool.or_false, Bool.false_or]
      show (d.hasDict || false) = false
      rw [nd]; rfl
    · rw [List.append_nil, List.nil_append] at z
      rcases List.mem_cons.mp z with m | m
      · exact n5 m.symm
      · exact ng m
  have y35 := y3.trans y5
  have wd9 := wd7.same y35
  have wt9 := wt7.same y35
  have we9 := we7.same y35
  clear wd7 wt7 we7 hodd7 hodd8 f3 st7 s2 y3 y5 y35 ha6
  have ha9 := st8.b _ _ ha nag
  refine ⟨_, rfl, _, rfl, a, _, rfl, .inl (SqL.of ha9), _, _, rfl, rfl, (by decide : 3 ≤ sizeLine), fun p6 i6 _ => ⟨(by decide : 8 ≤ sizeLine), fun p7 i7 _ => ?_⟩⟩
  have s1 := st8.new (o := .lst [.int (((iv ns).length : Int) - 1), .int 0, .int 0]) i6
  have s2 := s1.new (o := .lst [V.non, .int 0, .ref w1, .ref w2, .str "0", .ref p5, .ref pd, .ref p6]) i7
  have y7 := (Same.new (o := .lst [.int (((iv ns).length : Int) - 1), .int 0, .int 0]) i6).trans (Same.new (o := .lst [V.non, .int 0, .ref w1, .ref w2, .str "0", .ref p5, .ref pd, .ref p6]) i7)
  have n6 := st8.ng i6
  have n7 := s1.ng i7
  have f6 := Same.new (o := .lst [V.non, .int 0, .ref w1, .ref w2, .str "0", .ref p5, .ref pd, .ref p6]) i7 _ _ (upd_same (H := H9) (a := p6) (o := .lst [.int (((iv ns).length : Int) - 1), .int 0, .int 0]))
  have f7 := upd_same (H := upd H9 p6 (.lst [.int (((iv ns).length : Int) - 1), .int 0, .int 0])) (a := p7) (o := .lst [V.non, .int 0, .ref w1, .ref w2, .str "0", .ref p5, .ref pd, .ref p6])
  generalize upd (upd H9 p6 (.lst [.int (((iv ns).length : Int) - 1), .int 0, .int 0])) p7 (.lst [V.non, .int 0, .ref w1, .ref w2, .str "0", .ref p5, .ref pd, .ref p6]) = H10 at s2 y7 f6 f7 ⊢
  have hall : ∀ x ∈ [V.non, .int 0, .ref w1, .ref w2, .str "0", .ref p5, .ref pd, .ref p6], WF H10 g ns.length x := fun x hx => by
    simp only [List.mem_cons, List.not_mem_nil, or_false] at hx
    rcases hx with rfl | rfl | rfl | rfl | rfl | rfl | rfl | rfl
    · exact ⟨_, _, .non, rfl, f1 fit_none, noD rfl, List.not_mem_nil⟩
    · exact ⟨_, _, .int 0, rfl, f1 (fit_int (lt1900 (by decide))), noD rfl, List.not_mem_nil⟩
    · exact wt9.same y7
    · exact we9.same y7
    · exact ⟨_, _, .str _, rfl, ⟨rfl, by decide, by decide +kernel⟩, noD rfl, List.not_mem_nil⟩
    · exact wo.same y7
    · exact wd9.same y7
    · refine WF.ints (L := [((iv ns).length : Int) - 1, 0, 0]) f6 n6 (asc_twin [((iv ns).length : Int) - 1]) (show 3 ≤ 1000 by decide) (fun v hv => ?_)
      simp only [List.mem_cons, List.not_mem_nil, or_false] at hv
      rcases hv with rfl | rfl | rfl
      · omega
      · decide
      · decide
  refine ⟨_, rfl, _, rfl, g, 8, _, rfl, s2.g, by omega, by decide, by decide, fun d8 H11 d80 d81 b11 g11 => ⟨(by decide : 3 ≤ sizeLine), fun q8 m8 _ => ?_⟩⟩
  have st11 := s2.draw nbg b11 g11
  have f7b := b11 _ _ f7 n7
  have nq8 := st11.ng m8
  have f8 : upd H11 q8 (.lst (iv [d8, 5, 6])) q8 = some (.lst (iv [d8, 5, 6])) := upd_same
  have f7c := Same.new (o := .lst (iv [d8, 5, 6])) m8 _ _ f7b
  have st12 := st11.new (o := .lst (iv [d8, 5, 6])) m8
  have b10 : SameBut g H10 (upd H11 q8 (.lst (iv [d8, 5, 6]))) := b11.trans (SameBut.of (Same.new m8))
  change tCall sp_law_draw [] E0 _ _ (upd H11 q8 (.lst (iv [d8, 5, 6]))) _
  generalize upd H11 q8 (.lst (iv [d8, 5, 6])) = H12 at f8 f7c st12 b10 ⊢
  refine ⟨_, rfl, g, 3, _, rfl, st12.g, by omega, by decide, by decide, fun j3 H13 j30 j31 b13 g13 => ?_⟩
  obtain ⟨e, ee, ee0, ee1⟩ : ∃ e : Int, [d8, 5, 6].getD j3.toNat 0 = e ∧ 0 ≤ e ∧ e < 8 := by
    refine ⟨_, rfl, ?_⟩
    refine getD_all (p := fun v => 0 ≤ v ∧ v < 8) (fun v hv => ?_) j30 (by exact j31)
    simp only [List.mem_cons, List.not_mem_nil, or_false] at hv
    rcases hv with rfl | rfl | rfl <;> omega
  refine ⟨q8, iv [d8, 5, 6], j3, _, rfl, rfl, SqL.of (b13 _ _ f8 nq8), atI_iv j30 (by exact j31), ?_⟩
  rw [ee]
  obtain ⟨x, hat, hx⟩ := atI_all (p := WF H13 g ns.length) (fun y hy => (hall y hy).but (b10.trans b13)) ee0 (by exact ee1)
  exact ⟨p7, _, e, x, rfl, rfl, SqL.of (b13 _ _ f7c n7), hat, k x H13 (st12.b.trans b13) (g13.mono (by omega)) hx⟩
end
end SH

namespace SH
open PySem PySem.Spec PyProof.Rows L2
abbrev s_law_kind : Stmt := topS 48
abbrev N_law_kind : List Str := ["caught", "odd", "some"]
abbrev P_law_kind : List Str := ["caught"]
theorem sc_law_kind : FnScope N_law_kind P_law_kind (defScope s_law_kind) := ⟨rfl, rfl, rfl, by decide +kernel, rfl, by decide +kernel, by decide +kernel⟩
/-- at a is an error of the class at D -/
def ErAt (H : Hp) (a D : Addr) : Prop := ∃ d, H a = some (ErO (.ref D) d a) ∧ (d = none ∨ ∃ dx fs, d = some dx ∧ H dx = some (.xd fs))
theorem ErAt.same {H H' : Hp} {a D : Addr} (s : Same H H') : ErAt H a D → ErAt H' a D
  | ⟨d, h, .inl e⟩ => ⟨d, s _ _ h, .inl e⟩
  | ⟨d, h, .inr ⟨dx, fs, e, g⟩⟩ => ⟨d, s _ _ h, .inr ⟨dx, fs, e, s _ _ g⟩⟩
def wordN : Nat → Str
  | 0 => "outline"
  | 1 => "height"
  | 2 => "line"
  | _ => "folds"
section
variable {P : Program} {w : World} {K : PySem.W.Frag} {mg : Str → Option Value} {base : Heap}
variable {C_EmptyHistoryError C_EndError C_HiddenLineError C_InvalidDepthError C_InvalidDocumentError C_InvalidNumberError C_InvalidObservationsError C_InvalidReadingError C_InvalidScrollError C_InvalidTextError C_InvalidTitleError C_TooDeepError C_TooManyLinesError C_EmptyOutlineError C_InvalidOutlineError C_InvalidHeightError C_InvalidLineError C_InvalidFoldsError : Addr}
def kk (c1 c2 c3 c4 c5 c6 c7 c8 c9 c10 c11 c12 c13 c14 cO cH cL cF : Addr) (k : Nat) : List (Value × Bool) := [(.ref c1, false), (.ref c2, false), (.ref c3, false), (.ref c4, false), (.ref c5, false), (.ref c6, false), (.ref c7, false), (.ref c8, false), (.ref c9, false), (.ref c10, false), (.ref c11, false), (.ref c12, false), (.ref c13, false), (.ref c14, false), (.type "ValueError", true), (.ref cO, decide (k = 0)), (.ref cH, decide (k = 1)), (.ref cL, decide (k = 2)), (.ref cF, decide (k = 3))]
def sp_kind (K : PySem.W.Frag) (c1 c2 c3 c4 c5 c6 c7 c8 c9 c10 c11 c12 c13 c14 cO cH cL cF : Addr) : Sp := fun vs H Q _ => ∃ (a D : Addr) (k : Nat), vs = [.ref a] ∧ k < 4 ∧ ErK K D (kk c1 c2 c3 c4 c5 c6 c7 c8 c9 c10 c11 c12 c13 c14 cO cH cL cF k) ∧ ErAt H a D ∧ RetV Q H (.str (wordN k))
theorem ok_law_kind (T : Txt mg) (n_ValueError : mg "ValueError" = none)
    (k_EmptyHistoryError : mg "EmptyHistoryError" = some (.ref C_EmptyHistoryError)) (k_EndError : mg "EndError" = some (.ref C_EndError)) (k_HiddenLineError : mg "HiddenLineError" = some (.ref C_HiddenLineError)) (k_InvalidDepthError : mg "InvalidDepthError" = some (.ref C_InvalidDepthError)) (k_InvalidDocumentError : mg "InvalidDocumentError" = some (.ref C_InvalidDocumentError)) (k_InvalidNumberError : mg "InvalidNumberError" = some (.ref C_InvalidNumberError)) (k_InvalidObservationsError : mg "InvalidObservationsError" = some (.ref C_InvalidObservationsError)) (k_InvalidReadingError : mg "InvalidReadingError" = some (.ref C_InvalidReadingError)) (k_InvalidScrollError : mg "InvalidScrollError" = some (.ref C_InvalidScrollError)) (k_InvalidTextError : mg "InvalidTextError" = some (.ref C_InvalidTextError)) (k_InvalidTitleError : mg "InvalidTitleError" = some (.ref C_InvalidTitleError)) (k_TooDeepError : mg "TooDeepError" = some (.ref C_TooDeepError)) (k_TooManyLinesError : mg "TooManyLinesError" = some (.ref C_TooManyLinesError)) (k_EmptyOutlineError : mg "EmptyOutlineError" = some (.ref C_EmptyOutlineError)) (k_InvalidOutlineError : mg "InvalidOutlineError" = some (.ref C_InvalidOutlineError)) (k_InvalidHeightError : mg "InvalidHeightError" = some (.ref C_InvalidHeightError)) (k_InvalidLineError : mg "InvalidLineError" = some (.ref C_InvalidLineError)) (k_InvalidFoldsError : mg "InvalidFoldsError" = some (.ref C_InvalidFoldsError))
    (h : At K mg "_law_kind" s_law_kind) : Has P w K mg base CX0 1 "_law_kind" s_law_kind P_law_kind (sp_kind K C_EmptyHistoryError C_EndError C_HiddenLineError C_InvalidDepthError C_InvalidDocumentError C_InvalidNumberError C_InvalidObservationsError C_InvalidReadingError C_InvalidScrollError C_InvalidTextError C_InvalidTitleError C_TooDeepError C_TooManyLinesError C_EmptyOutlineError C_InvalidOutlineError C_InvalidHeightError C_InvalidLineError C_InvalidFoldsError) := by
  refine Has.of h sc_law_kind (fun vs H Q E h => ?_) (fun _ _ _ _ _ _ us hl => match us, hl with | [_], _ => rfl) (fun f cdv A outer s H vs Q E room qt h => ?_)
  · obtain ⟨a, D, k, rfl, _⟩ := h; rfl
  obtain ⟨a, D, kz, rfl, k4, ek, ⟨d, ha, hd⟩, k⟩ := h
  obtain ⟨ex, q1, q2, q3, q4, q5, q6, q7, q8, q9, q10, q11, q12, q13, q14, qV, qO, qH, qL, qF, _⟩ := ek
  refine ⟨_, (pss_cons (ps_set (i := 1) sc_law_kind.nd rfl (Or.inl rfl) (pe_callB call_isErT (by rfl) T.isinstance (by decide +kernel) (pa_cons (pv 0) (pa_cons (pe_tup (pa_cons (pe_glob (v := .ref C_EmptyHistoryError) (by rfl) k_EmptyHistoryError rfl) (pa_cons (pe_glob (v := .ref C_EndError) (by rfl) k_EndError rfl) (pa_cons (pe_glob (v := .ref C_HiddenLineError) (by rfl) k_HiddenLineError rfl) (pa_cons (pe_glob (v := .ref C_InvalidDepthError) (by rfl) k_InvalidDepthError rfl) (pa_cons (pe_glob (v := .ref C_InvalidDocumentError) (by rfl) k_InvalidDocumentError rfl) pa_nil)))))) pa_nil))))
      (pss_cons (ps_set (i := 1) sc_law_kind.nd rfl (Or.inl rfl) (pe_or (pv 1) (pe_one (pe_callB call_isErT (by rfl) T.isinstance (by decide +kernel) (pa_cons (pv 0) (pa_cons (pe_tup (pa_cons (pe_glob (v := .ref C_InvalidNumberError) (by rfl) k_InvalidNumberError rfl) (pa_cons (pe_glob (v := .ref C_InvalidObservationsError) (by rfl) k_InvalidObservationsError rfl) (pa_cons (pe_glob (v := .ref C_InvalidReadingError) (by rfl) k_InvalidReadingError rfl) pa_nil)))) pa_nil))))))
      (pss_cons (ps_set (i := 1) sc_law_kind.nd rfl (Or.inl rfl) (pe_or (pv 1) (pe_one (pe_callB call_isErT (by rfl) T.isinstance (by decide +kernel) (pa_cons (pv 0) (pa_cons (pe_tup (pa_cons (pe_glob (v := .ref C_InvalidScrollError) (by rfl) k_InvalidScrollError rfl) (pa_cons (pe_glob (v := .ref C_InvalidTextError) (by rfl) k_InvalidTextError rfl) (pa_cons (pe_glob (v := .ref C_InvalidTitleError) (by rfl) k_InvalidTitleError rfl) (pa_cons (pe_glob (v := .ref C_TooDeepError) (by rfl) k_TooDeepError rfl) pa_nil))))) pa_nil))))))
      (pss_cons (ps_set (i := 1) sc_law_kind.nd rfl (Or.inl rfl) (pe_or (pv 1) (pe_or (pe_callB call_isErT (by rfl) T.isinstance (by decide +kernel) (pa_cons (pv 0) (pa_cons (pe_tup (pa_cons (pe_glob (v := .ref C_TooManyLinesError) (by rfl) k_TooManyLinesError rfl) (pa_cons (pe_glob (v := .ref C_EmptyOutlineError) (by rfl) k_EmptyOutlineError rfl) pa_nil))) pa_nil))) (pe_one (pe_not (pe_callB call_isEr (by rfl) T.isinstance (by decide +kernel) (pa_cons (pv 0) (pa_cons (pe_bltn (v := .ty "ValueError") (u := .type "ValueError") (by rfl) n_ValueError (by decide +kernel) rfl) pa_nil))))))))
      (pss_cons (ps_set (i := 2) sc_law_kind.nd rfl (Or.inl rfl) (pe_lst (pa_cons (pe_callB call_isEr (by rfl) T.isinstance (by decide +kernel) (pa_cons (pv 0) (pa_cons (pe_glob (v := .ref C_InvalidOutlineError) (by rfl) k_InvalidOutlineError rfl) pa_nil))) (pa_cons (pe_callB call_isEr (by rfl) T.isinstance (by decide +kernel) (pa_cons (pv 0) (pa_cons (pe_glob (v := .ref C_InvalidHeightError) (by rfl) k_InvalidHeightError rfl) pa_nil))) pa_nil))))
      (pss_cons (ps_set (i := 2) sc_law_kind.nd rfl (Or.inl rfl) (pe_op op_catS (pv 2) (pe_lst (pa_cons (pe_callB call_isEr (by rfl) T.isinstance (by decide +kernel) (pa_cons (pv 0) (pa_cons (pe_glob (v := .ref C_InvalidLineError) (by rfl) k_InvalidLineError rfl) pa_nil))) (pa_cons (pe_callB call_isEr (by rfl) T.isinstance (by decide +kernel) (pa_cons (pv 0) (pa_cons (pe_glob (v := .ref C_InvalidFoldsError) (by rfl) k_InvalidFoldsError rfl) pa_nil))) pa_nil)))))
      (pss_cons (ps_if (PW.pt (pw_or (pt_val (pv 1)) (pw_or1 (pt_cmpR op_ne (pe_bm PySem.F.plainAttrs_list PySem.F.slot_list_count PySem.F.type_list_count mt_countF (pv 2) (pa_cons pe_bl pa_nil)) pe_int (nomark _)))))
        (pss_one (ps_ret pe_str))
        pss_nil)
      (pss_one (ps_ret (pe_ix ix_list (pe_lst (pa_cons pe_str (pa_cons pe_str (pa_cons pe_str (pa_cons pe_str pa_nil))))) (pe_bm PySem.F.plainAttrs_list PySem.F.slot_list_index PySem.F.type_list_index mt_index (pv 2) (pa_cons pe_bl pa_nil)) (fun _ _ => rfl))))))))))), ?_⟩
  have kn : ∀ {H' : Hp}, Same H H' → H' a = some (ErO (.ref D) d a) ∧ (d = none ∨ ∃ dx fs, d = some dx ∧ H' dx = some (.xd fs)) := fun s' => ⟨s' _ _ ha, hd.imp id fun ⟨dx, fs, e, g⟩ => ⟨dx, fs, e, s' _ _ g⟩⟩
  have known : ∀ {H' : Hp}, Same H H' → Known (cxOf CX0 P w K mg base N_law_kind (Str.ofString "_law_kind") (defScope s_law_kind) f cdv A outer s H E).nox H' a D d := fun s' => ⟨.inr (kn s').1, (kn s').2⟩
  refine ⟨_, rfl, (by decide : 5 ≤ sizeLine), fun t1 h1 => ⟨a, D, t1, d, _, _, false, rfl, upd_same, own5 _ _ _ _ _, known (Same.new h1), ex, kitAny_no5 q1 q2 q3 q4 q5, ?_⟩⟩
  have s1 := Same.new (o := .tup [.ref C_EmptyHistoryError, .ref C_EndError, .ref C_HiddenLineError, .ref C_InvalidDepthError, .ref C_InvalidDocumentError]) h1
  generalize upd H t1 (.tup [.ref C_EmptyHistoryError, .ref C_EndError, .ref C_HiddenLineError, .ref C_InvalidDepthError, .ref C_InvalidDocumentError]) = H1 at s1 ⊢
  refine ⟨_, rfl, _, rfl, ?_⟩
  refine ⟨_, rfl, (by decide : 3 ≤ sizeLine), fun t2 h2 => ?_⟩
  have s2 := s1.trans (Same.new (o := .tup [.ref C_InvalidNumberError, .ref C_InvalidObservationsError, .ref C_InvalidReadingError]) h2)
  refine ⟨a, D, t2, d, _, _, false, rfl, upd_same, own3 _ _ _, known s2, ex, kitAny_no3 q6 q7 q8, ?_⟩
  generalize upd H1 t2 (.tup [.ref C_InvalidNumberError, .ref C_InvalidObservationsError, .ref C_InvalidReadingError]) = H2 at s2 ⊢
  refine ⟨_, rfl, _, rfl, ?_⟩
  refine ⟨_, rfl, (by decide : 4 ≤ sizeLine), fun t3 h3 => ?_⟩
  have s3 := s2.trans (Same.new (o := .tup [.ref C_InvalidScrollError, .ref C_InvalidTextError, .ref C_InvalidTitleError, .ref C_TooDeepError]) h3)
  refine ⟨a, D, t3, d, _, _, false, rfl, upd_same, own4 _ _ _ _, known s3, ex, kitAny_no4 q9 q10 q11 q12, ?_⟩
  generalize upd H2 t3 (.tup [.ref C_InvalidScrollError, .ref C_InvalidTextError, .ref C_InvalidTitleError, .ref C_TooDeepError]) = H3 at s3 ⊢
  refine ⟨_, rfl, _, rfl, ?_⟩
  refine ⟨_, rfl, (by decide : 2 ≤ sizeLine), fun t4 h4 => ?_⟩
  have s4 := s3.trans (Same.new (o := .tup [.ref C_TooManyLinesError, .ref C_EmptyOutlineError]) h4)
  refine ⟨a, D, t4, d, _, _, false, rfl, upd_same, own2 _ _, known s4, ex, kitAny_no2 q13 q14, ?_⟩
  generalize upd H3 t4 (.tup [.ref C_TooManyLinesError, .ref C_EmptyOutlineError]) = H4 at s4 ⊢
  refine ⟨_, rfl, ?_⟩
  refine ⟨_, rfl, a, D, d, _, _, true, rfl, known s4, ex, .ty _, qV, ?_⟩
  refine ⟨_, rfl, ?_⟩
  refine ⟨_, rfl, a, D, d, _, _, _, rfl, known s4, ex, .own _, qO, _, rfl, a, D, d, _, _, _, rfl, known s4, ex, .own _, qH, (by decide : 2 ≤ sizeLine), fun p hp => ?_⟩
  have s5 := s4.trans (Same.new (o := .lst [.bl (decide (kz = 0)), .bl (decide (kz = 1))]) hp)
  have hp5 := upd_same (H := H4) (a := p) (o := .lst [.bl (decide (kz = 0)), .bl (decide (kz = 1))])
  generalize upd H4 p (.lst [.bl (decide (kz = 0)), .bl (decide (kz = 1))]) = H5 at s5 hp5 ⊢
  refine ⟨_, rfl, _, rfl, a, D, d, _, _, _, rfl, known s5, ex, .own _, qL, _, rfl, a, D, d, _, _, _, rfl, known s5, ex, .own _, qF, (by decide : 2 ≤ sizeLine), fun q hq => ?_⟩
  have y6 := Same.new (o := .lst [.bl (decide (kz = 2)), .bl (decide (kz = 3))]) hq
  refine ⟨p, q, _, _, rfl, rfl, SqL.of (y6 _ _ hp5), SqL.of upd_same, (by decide : 4 ≤ sizeLine), fun r hr => ?_⟩
  have s6 := (s5.trans y6).trans (Same.new (o := .lst ([.bl (decide (kz = 0)), .bl (decide (kz = 1))] ++ [.bl (decide (kz = 2)), .bl (decide (kz = 3))])) hr)
  have hr6 := upd_same (H := upd H5 q (.lst [.bl (decide (kz = 2)), .bl (decide (kz = 3))])) (a := r) (o := .lst ([.bl (decide (kz = 0)), .bl (decide (kz = 1))] ++ [.bl (decide (kz = 2)), .bl (decide (kz = 3))]))
  generalize upd (upd H5 q (.lst [.bl (decide (kz = 2)), .bl (decide (kz = 3))])) r (.lst ([.bl (decide (kz = 0)), .bl (decide (kz = 1))] ++ [.bl (decide (kz = 2)), .bl (decide (kz = 3))])) = H6 at s6 hr6 ⊢
  refine ⟨_, rfl, _, rfl, iteF ?_⟩
  refine ⟨_, rfl, .inl ⟨rfl, _, SqL.of hr6⟩, r, _, _, rfl, rfl, SqL.of hr6, rfl, ?_⟩
  rcases (show kz = 0 ∨ kz = 1 ∨ kz = 2 ∨ kz = 3 by omega) with rfl | rfl | rfl | rfl
  all_goals
    refine ⟨rfl, rfl, _, rfl, iteF ?_⟩
    refine ⟨(by decide : 4 ≤ sizeLine), fun u hu => ?_⟩
    have hr7 := Same.new (o := .lst [.str "outline", .str "height", .str "line", .str "folds"]) hu _ _ hr6
    have sl := s6.trans (Same.new (o := .lst [.str "outline", .str "height", .str "line", .str "folds"]) hu)
  · exact ⟨_, rfl, .inl ⟨rfl, _, SqL.of hr7⟩, r, _, _, 0, _, rfl, rfl, SqL.of hr7, rfl, rfl, rfl, rfl, fun m z hm => absurd hm (Nat.not_lt_zero _), u, _, 0, _, rfl, rfl, SqL.of upd_same, rfl, k _ sl⟩
  · refine ⟨_, rfl, .inl ⟨rfl, _, SqL.of hr7⟩, r, _, _, 1, _, rfl, rfl, SqL.of hr7, rfl, rfl, rfl, rfl, fun m z hm e => ?_, u, _, 1, _, rfl, rfl, SqL.of upd_same, rfl, k _ sl⟩
    have : m = 0 := by omega
    subst this
    cases e
    rfl
  · refine ⟨_, rfl, .inl ⟨rfl, _, SqL.of hr7⟩, r, _, _, 2, _, rfl, rfl, SqL.of hr7, rfl, rfl, rfl, rfl, fun m z hm e => ?_, u, _, 2, _, rfl, rfl, SqL.of upd_same, rfl, k _ sl⟩
    rcases (show m = 0 ∨ m = 1 by omega) with rfl | rfl <;> (cases e; rfl)
  · refine ⟨_, rfl, .inl ⟨rfl, _, SqL.of hr7⟩, r, _, _, 3, _, rfl, rfl, SqL.of hr7, rfl, rfl, rfl, rfl, fun m z hm e => ?_, u, _, 3, _, rfl, rfl, SqL.of upd_same, rfl, k _ sl⟩
    rcases (show m = 0 ∨ m = 1 ∨ m = 2 by omega) with rfl | rfl | rfl <;> (cases e; rfl)
end
end SH

namespace SH
open PySem PySem.Spec PyProof.Rows L2
abbrev s_law_error : Stmt := topS 49
abbrev N_law_error : List Str := ["door", "rows", "caught", "e"]
abbrev P_law_error : List Str := ["door", "rows"]
theorem sc_law_error : FnScope N_law_error P_law_error (defScope s_law_error) := ⟨rfl, rfl, rfl, by decide +kernel, rfl, by decide +kernel, by decide +kernel⟩
section
variable {P : Program} {w : World} {K : PySem.W.Frag} {mg : Str → Option Value} {base : Heap}
variable {C_EmptyHistoryError C_EndError C_HiddenLineError C_InvalidDepthError C_InvalidDocumentError C_InvalidNumberError C_InvalidObservationsError C_InvalidReadingError C_InvalidScrollError C_InvalidTextError C_InvalidTitleError C_TooDeepError C_TooManyLinesError C_EmptyOutlineError C_InvalidOutlineError C_InvalidHeightError C_InvalidLineError C_InvalidFoldsError C_StickyHeadsError : Addr}
theorem Has.imp {CX : CXT} {k : Nat} {x : Str} {st : Stmt} {ps : List Str} {sp sp' : Sp} (h : Has P w K mg base CX k x st ps sp) (i : ∀ vs H Q E, sp' vs H Q E → sp vs H Q E) :
    Has P w K mg base CX k x st ps sp' := by
  obtain ⟨f, fd, F, m, G, b⟩ := h
  exact ⟨f, fd, F, m, ⟨fun vs H Q E h => G.arity vs H Q E (i vs H Q E h), fun A outer s H args us vs Q E r q e bt v h => G.go A outer s H args us vs Q E r q e bt v (i vs H Q E h)⟩, b⟩
theorem left_imp {CO CF : Addr} : ∀ vs H Q E, sp_foldN CO CF vs H Q E → sp_leftN CO CF vs H Q E := by
  rintro vs H Q E ⟨x, y, d, e, as, bs, rfl, hx, hy, k1, k2, k3⟩
  refine ⟨x, y, d, e, as, bs, rfl, hx, hy, fun ns fs ed ho ee asc p H' _ s' _ => ?_, k2, k3⟩
  subst ed ee
  exact k1 (by rw [isOD_dI]; exact ho) (by rw [foldD_dI]; show ascDs _ 0 (fs.map PyData.int) = true; rw [ascDs_dI]; exact asc) _ _ s'
theorem show_imp {CO CH CL : Addr} : ∀ vs H Q E, sp_showN RetAny CO CH CL vs H Q E → sp_showN goodL CO CH CL vs H Q E := by
  rintro vs H Q E ⟨x1, x2, x3, x4, d1, d2, d3, d4, a1, a2, a3, a4, rfl, h1, h2, h3, h4, k1, k⟩
  exact ⟨x1, x2, x3, x4, d1, d2, d3, d4, a1, a2, a3, a4, rfl, h1, h2, h3, h4, fun c1 c2 c3 c4 x H' s' _ => k1 c1 c2 c3 c4 x H' s', k⟩
/-- what is told of a call with these values: none, or which of the words -/
def dueK (door : Int) (d0 d1 d2 d3 d4 : PyData) : Option Nat :=
  if isOD d0 = false then some 0 else if door < 2 then (if foldD d0 d4 = false then some 3 else none)
  else if inD d1 1 400 = false then some 1 else if lnD d0 d2 = false ∨ lnD d0 d3 = false then some 2 else none
def dueW : Option Nat → Str
  | none => "none"
  | some k => wordN k
def sp_error : Sp := fun vs H Q _ => ∃ (n : Int) (r : Addr) (x0 x1 x2 x3 x4 : V) (d0 d1 d2 d3 d4 : PyData) (a0 a1 a2 a3 a4 : List Addr), vs = [.int n, .ref r] ∧ 0 ≤ n ∧ n ≤ 3 ∧ H r = some (.lst [x0, x1, x2, x3, x4]) ∧
  Dx H x0 d0 a0 ∧ Dx H x1 d1 a1 ∧ Dx H x2 d2 a2 ∧ Dx H x3 d3 a3 ∧ Dx H x4 d4 a4 ∧ RetV Q H (.str (dueW (dueK n d0 d1 d2 d3 d4)))
theorem ok_law_error (T : Txt mg) (e_StickyHeadsError : Err K mg "StickyHeadsError" C_StickyHeadsError)
    (x_O : Catch K C_InvalidOutlineError C_StickyHeadsError true) (x_H : Catch K C_InvalidHeightError C_StickyHeadsError true) (x_L : Catch K C_InvalidLineError C_StickyHeadsError true) (x_F : Catch K C_InvalidFoldsError C_StickyHeadsError true)
    (y_O : ErK K C_InvalidOutlineError (kk C_EmptyHistoryError C_EndError C_HiddenLineError C_InvalidDepthError C_InvalidDocumentError C_InvalidNumberError C_InvalidObservationsError C_InvalidReadingError C_InvalidScrollError C_InvalidTextError C_InvalidTitleError C_TooDeepError C_TooManyLinesError C_EmptyOutlineError C_InvalidOutlineError C_InvalidHeightError C_InvalidLineError C_InvalidFoldsError 0)) (y_H : ErK K C_InvalidHeightError (kk C_EmptyHistoryError C_EndError C_HiddenLineError C_InvalidDepthError C_InvalidDocumentError C_InvalidNumberError C_InvalidObservationsError C_InvalidReadingError C_InvalidScrollError C_InvalidTextError C_InvalidTitleError C_TooDeepError C_TooManyLinesError C_EmptyOutlineError C_InvalidOutlineError C_InvalidHeightError C_InvalidLineError C_InvalidFoldsError 1)) (y_L : ErK K C_InvalidLineError (kk C_EmptyHistoryError C_EndError C_HiddenLineError C_InvalidDepthError C_InvalidDocumentError C_InvalidNumberError C_InvalidObservationsError C_InvalidReadingError C_InvalidScrollError C_InvalidTextError C_InvalidTitleError C_TooDeepError C_TooManyLinesError C_EmptyOutlineError C_InvalidOutlineError C_InvalidHeightError C_InvalidLineError C_InvalidFoldsError 2)) (y_F : ErK K C_InvalidFoldsError (kk C_EmptyHistoryError C_EndError C_HiddenLineError C_InvalidDepthError C_InvalidDocumentError C_InvalidNumberError C_InvalidObservationsError C_InvalidReadingError C_InvalidScrollError C_InvalidTextError C_InvalidTitleError C_TooDeepError C_TooManyLinesError C_EmptyOutlineError C_InvalidOutlineError C_InvalidHeightError C_InvalidLineError C_InvalidFoldsError 3))
    (h : At K mg "_law_error" s_law_error)
    (g_lines_left : Has P w K mg base (L2N.CX P w) 5 "lines_left" s_lines_left P_lines_left (sp_leftN C_InvalidOutlineError C_InvalidFoldsError))
    (g_folded_outline : Has P w K mg base (L2N.CX P w) 6 "folded_outline" s_folded_outline P_folded_outline (sp_foldN C_InvalidOutlineError C_InvalidFoldsError))
    (g_fewest_folds : Has P w K mg base (L2N.CX P w) 6 "fewest_folds" s_fewest_folds P_fewest_folds (sp_showN RetAny C_InvalidOutlineError C_InvalidHeightError C_InvalidLineError))
    (g_folds_to_show : Has P w K mg base (L2N.CX P w) 5 "folds_to_show" s_folds_to_show P_folds_to_show (sp_showN goodL C_InvalidOutlineError C_InvalidHeightError C_InvalidLineError))
    (g_law_kind : Has P w K mg base CX0 1 "_law_kind" s_law_kind P_law_kind (sp_kind K C_EmptyHistoryError C_EndError C_HiddenLineError C_InvalidDepthError C_InvalidDocumentError C_InvalidNumberError C_InvalidObservationsError C_InvalidReadingError C_InvalidScrollError C_InvalidTextError C_InvalidTitleError C_TooDeepError C_TooManyLinesError C_EmptyOutlineError C_InvalidOutlineError C_InvalidHeightError C_InvalidLineError C_InvalidFoldsError)) :
    Has P w K mg base CX0 7 "_law_error" s_law_error P_law_error sp_error := by
  obtain ⟨f_lines_left, m_lines_left, V_lines_left⟩ := ((g_lines_left.mono (k := 6) (by decide)).imp left_imp).v
  obtain ⟨f_folded_outline, m_folded_outline, V_folded_outline⟩ := g_folded_outline.v
  obtain ⟨f_fewest_folds, m_fewest_folds, V_fewest_folds⟩ := g_fewest_folds.v
  obtain ⟨f_folds_to_show, m_folds_to_show, V_folds_to_show⟩ := ((g_folds_to_show.mono (k := 6) (by decide)).imp show_imp).v
  refine Has.of h sc_law_error (fun vs H Q E h => ?_) (fun _ _ _ _ _ _ us hl => match us, hl with | [_, _], _ => rfl) (fun f cdv A outer s H vs Q E room qt h => ?_)
  · obtain ⟨n, r, x0, x1, x2, x3, x4, d0, d1, d2, d3, d4, a0, a1, a2, a3, a4, rfl, _⟩ := h; rfl
  obtain ⟨n, r, x0, x1, x2, x3, x4, d0, d1, d2, d3, d4, a0, a1, a2, a3, a4, rfl, n0, n3, hr, h0, h1, h2, h3, h4, k⟩ := h
  refine ⟨_, (pss_cons (ps_set (i := 2) sc_law_error.nd rfl (Or.inl rfl) pe_non)
      (pss_cons (ps_tryE (i := 3) rfl rfl rfl sc_law_error.nd rfl rfl ⟨by rfl, by decide, Or.inl e_StickyHeadsError.g⟩ (fun W pn xe tk po =>
        (pss_one (ps_if (pt_cmpR op_lt (pv 0) pe_int (nomark _))
          (pss_one (ps_expr (show PE _ _ (tCallV P w K mg base (L2N.CX P w) _ (WE W) _ _) from by exact (pe_callV (k := 6) (room.mono (by decide)) qt (pe_ix (show IxR _ (rIxL K) from by exact ix_list) (pe_lst (pa_cons (pe_glob (v := .ref f_lines_left) (by rfl) m_lines_left rfl) (pa_cons (pe_glob (v := .ref f_folded_outline) (by rfl) m_folded_outline rfl) pa_nil))) (pv 0) (fun _ _ => rfl)) (fun σ => L2N.passAt tk σ) (pa_cons (pe_ix (show IxR _ (rIxL K) from by exact ix_list) (pv 1) pe_int (fun _ _ => rfl)) (pa_cons (pe_ix (show IxR _ (rIxL K) from by exact ix_list) (pv 1) pe_int (fun _ _ => rfl)) pa_nil))))))
          (pss_one (ps_expr (show PE _ _ (tCallV P w K mg base (L2N.CX P w) _ (WE W) _ _) from by exact (pe_callV (k := 6) (room.mono (by decide)) qt (pe_ix (show IxR _ (rIxL K) from by exact ix_list) (pe_lst (pa_cons (pe_glob (v := .ref f_fewest_folds) (by rfl) m_fewest_folds rfl) (pa_cons (pe_glob (v := .ref f_folds_to_show) (by rfl) m_folds_to_show rfl) pa_nil))) (pe_op op_sub (pv 0) pe_int) (fun _ _ => rfl)) (fun σ => L2N.passAt tk σ) (pa_cons (pe_ix (show IxR _ (rIxL K) from by exact ix_list) (pv 1) pe_int (fun _ _ => rfl)) (pa_cons (pe_ix (show IxR _ (rIxL K) from by exact ix_list) (pv 1) pe_int (fun _ _ => rfl)) (pa_cons (pe_ix (show IxR _ (rIxL K) from by exact ix_list) (pv 1) pe_int (fun _ _ => rfl)) (pa_cons (pe_ix (show IxR _ (rIxL K) from by exact ix_list) (pv 1) pe_int (fun _ _ => rfl)) pa_nil))))))))))) (fun a oe cls d pn hz hf =>
        (pss_one (ps_set (i := 2) sc_law_error.nd rfl (Or.inl rfl) (pv 3)))))
      (pss_one (ps_ret (pe_ifExp (pt_cmpR op_isN (pv 2) pe_non (nomark _)) pe_str (pe_has g_law_kind (room.mono (by decide)) qt (by rfl) pass0 (pa_cons (pv 2) pa_nil))))))), ?_⟩
  refine seq_cut (fun τ G => τ = [some (.int n), some (.ref r), some .non, none] ∧ H = G) ?_ (fun main => main _ _ ⟨rfl, rfl⟩)
  rintro τ G ⟨rfl, rfl⟩
  refine seq_cut (fun τ G => ∃ cv, τ = [some (.int n), some (.ref r), some cv, none] ∧ Same H G ∧ ((cv = .non ∧ RetV Q G (.str "none")) ∨ ∃ (a D : Addr) (kz : Nat), cv = .ref a ∧ kz < 4 ∧ ErK K D (kk C_EmptyHistoryError C_EndError C_HiddenLineError C_InvalidDepthError C_InvalidDocumentError C_InvalidNumberError C_InvalidObservationsError C_InvalidReadingError C_InvalidScrollError C_InvalidTextError C_InvalidTitleError C_TooDeepError C_TooManyLinesError C_EmptyOutlineError C_InvalidOutlineError C_InvalidHeightError C_InvalidLineError C_InvalidFoldsError kz) ∧ ErAt G a D ∧ RetV Q G (.str (wordN kz)))) ?_ ?_
  · rintro τ G ⟨cv, rfl, s1, ⟨rfl, k⟩ | ⟨a, D, kz, rfl, k4, ek, ea, kd⟩⟩
    · exact ⟨_, rfl, rfl, _, rfl, iteT (k _ (Same.refl _))⟩
    · exact ⟨_, rfl, rfl, _, rfl, iteF ⟨_, rfl, a, D, kz, rfl, k4, ek, ea, kd⟩⟩
  intro main
  have none_ : ∀ {S H3}, Same H S → Same S H3 → dueK n d0 d1 d2 d3 d4 = none → _ := fun {S H3} s1 s3 e => main [some (.int n), some (.ref r), some .non, none] H3 ⟨_, rfl, s1.trans s3, .inl ⟨rfl, fun H4 s4 => by have := k H4 ((s1.trans s3).trans s4); rw [e] at this; exact this⟩⟩
  have some_ : ∀ {S H3 a D kz}, Same H S → Same S H3 → H3 a = none → kz < 4 → ErK K D (kk C_EmptyHistoryError C_EndError C_HiddenLineError C_InvalidDepthError C_InvalidDocumentError C_InvalidNumberError C_InvalidObservationsError C_InvalidReadingError C_InvalidScrollError C_InvalidTextError C_InvalidTitleError C_TooDeepError C_TooManyLinesError C_EmptyOutlineError C_InvalidOutlineError C_InvalidHeightError C_InvalidLineError C_InvalidFoldsError kz) → dueK n d0 d1 d2 d3 d4 = some kz → _ := fun {S H3 a D kz} s1 s3 na k4 ek e => main [some (.int n), some (.ref r), some (.ref a), none] (upd H3 a (ErO (.ref D) none a)) ⟨_, rfl, (s1.trans s3).trans (Same.new na), .inr ⟨a, D, kz, rfl, k4, ek, ⟨none, upd_same, .inl rfl⟩, fun H4 s4 => by have := k H4 (((s1.trans s3).trans (Same.new na)).trans s4); rw [e] at this; exact this⟩⟩
  refine ⟨_, rfl, _, _, rfl, rfl, _, rfl, ite2 (fun c => ?_) (fun c => ?_)⟩
  · have c2 : n < 2 := of_decide_eq_true c
    have due2 : dueK n d0 d1 d2 d3 d4 = if isOD d0 = false then some 0 else if foldD d0 d4 = false then some 3 else none := by unfold dueK; rw [if_pos c2]
    refine ⟨(by decide : 2 ≤ sizeLine), fun q hq => ?_⟩
    have sq := Same.new (o := .lst [.ref f_lines_left, .ref f_folded_outline]) hq
    have hqq := upd_same (H := H) (a := q) (o := .lst [.ref f_lines_left, .ref f_folded_outline])
    generalize upd H q (.lst [.ref f_lines_left, .ref f_folded_outline]) = H2 at sq hqq ⊢
    obtain ⟨fz, hat, hv⟩ : ∃ fz, atI [V.ref f_lines_left, .ref f_folded_outline] n = some (.ref fz) ∧ FnV P w K mg base (L2N.CX P w) 6 fz 2 (sp_foldN C_InvalidOutlineError C_InvalidFoldsError) := by
      rcases (show n = 0 ∨ n = 1 by omega) with rfl | rfl
      · exact ⟨_, rfl, V_lines_left⟩
      · exact ⟨_, rfl, V_folded_outline⟩
    have hr2 := sq _ _ hr
    refine ⟨_, rfl, q, _, n, _, rfl, rfl, SqL.of hqq, hat, fz, 2, _, rfl, hv, _, rfl, r, _, 0, _, rfl, rfl, SqL.of hr2, rfl, _, rfl, r, _, 4, _, rfl, rfl, SqL.of hr2, rfl, x0, x4, d0, d4, a0, a4, rfl, h0.same sq, h4.same sq, fun c1 c3 v H3 s3 => ?_, fun c1 c3 H3 s3 => ?_, fun c1 H3 s3 => ?_⟩
    · exact none_ sq s3 (by rw [due2, if_neg (by rw [c1]; decide), if_neg (by rw [c3]; decide)])
    · exact ⟨x_F.is, fun a ha => ⟨_, rfl, some_ sq s3 ha (by decide) y_F (by rw [due2, if_neg (by rw [c1]; decide), if_pos c3])⟩⟩
    · exact ⟨x_O.is, fun a ha => ⟨_, rfl, some_ sq s3 ha (by decide) y_O (by rw [due2, if_pos c1])⟩⟩
  · have c2 : ¬ n < 2 := fun z => c (decide_eq_true z)
    have due2 : dueK n d0 d1 d2 d3 d4 = if isOD d0 = false then some 0 else if inD d1 1 400 = false then some 1 else if lnD d0 d2 = false ∨ lnD d0 d3 = false then some 2 else none := by unfold dueK; rw [if_neg c2]
    refine ⟨(by decide : 2 ≤ sizeLine), fun q hq => ?_⟩
    have sq := Same.new (o := .lst [.ref f_fewest_folds, .ref f_folds_to_show]) hq
    have hqq := upd_same (H := H) (a := q) (o := .lst [.ref f_fewest_folds, .ref f_folds_to_show])
    generalize upd H q (.lst [.ref f_fewest_folds, .ref f_folds_to_show]) = H2 at sq hqq ⊢
    obtain ⟨fz, hat, hv⟩ : ∃ fz, atI [V.ref f_fewest_folds, .ref f_folds_to_show] (n - 2) = some (.ref fz) ∧ FnV P w K mg base (L2N.CX P w) 6 fz 4 (sp_showN RetAny C_InvalidOutlineError C_InvalidHeightError C_InvalidLineError) := by
      rcases (show n = 2 ∨ n = 3 by omega) with rfl | rfl
      · exact ⟨_, rfl, V_fewest_folds⟩
      · exact ⟨_, rfl, V_folds_to_show⟩
    have hr2 := sq _ _ hr
    refine ⟨_, rfl, _, _, rfl, rfl, q, _, n - 2, _, rfl, rfl, SqL.of hqq, hat, fz, 4, _, rfl, hv, _, rfl, r, _, 0, _, rfl, rfl, SqL.of hr2, rfl, _, rfl, r, _, 1, _, rfl, rfl, SqL.of hr2, rfl, _, rfl, r, _, 2, _, rfl, rfl, SqL.of hr2, rfl, _, rfl, r, _, 3, _, rfl, rfl, SqL.of hr2, rfl, x0, x1, x2, x3, d0, d1, d2, d3, a0, a1, a2, a3, rfl, h0.same sq, h1.same sq, h2.same sq, h3.same sq, fun c1 c3 c4 c5 v H3 s3 => ?_, fun c1 c3 c4 H3 s3 => ?_, fun c1 c3 H3 s3 => ?_, fun c1 H3 s3 => ?_⟩
    · exact none_ sq s3 (by rw [due2, if_neg (by rw [c1]; decide), if_neg (by rw [c3]; decide), if_neg (by rw [c4, c5]; decide)])
    · exact ⟨x_L.is, fun a ha => ⟨_, rfl, some_ sq s3 ha (by decide) y_L (by rw [due2, if_neg (by rw [c1]; decide), if_neg (by rw [c3]; decide), if_pos c4])⟩⟩
    · exact ⟨x_H.is, fun a ha => ⟨_, rfl, some_ sq s3 ha (by decide) y_H (by rw [due2, if_neg (by rw [c1]; decide), if_pos c3])⟩⟩
    · exact ⟨x_O.is, fun a ha => ⟨_, rfl, some_ sq s3 ha (by decide) y_O (by rw [due2, if_pos c1])⟩⟩
end
end SH

namespace SH
open PySem PySem.Spec PyProof.Rows L2
abbrev s_law_right : Stmt := topS 50
abbrev N_law_right : List Str := ["script", "bag", "depths", "marks", "good", "turn", "far", "bad", "is_bad", "rows", "kept", "words", "door", "order", "due", "spot", "one", "two", "so"]
abbrev P_law_right : List Str := ["script", "bag"]
theorem sc_law_right : FnScope N_law_right P_law_right (defScope s_law_right) := ⟨rfl, rfl, rfl, by decide +kernel, rfl, by decide +kernel, by decide +kernel⟩
/-- a value with this property, none of its parts the pool at g -/
def MP (H : Hp) (g : Addr) (p : PyData → Prop) (x : V) : Prop := ∃ d as, Dx H x d as ∧ p d ∧ Fits 40 3000000 d ∧ g ∉ as
theorem MP.same {H H' : Hp} {g : Addr} {p : PyData → Prop} {x : V} (h : MP H g p x) (s : Same H H') : MP H' g p x := by
  obtain ⟨d, as, a, b⟩ := h
  exact ⟨d, as, a.same s, b⟩
theorem MP.but {H H' : Hp} {g : Addr} {p : PyData → Prop} {x : V} (h : MP H g p x) (s : SameBut g H H') : MP H' g p x := by
  obtain ⟨d, as, a, b, c, f⟩ := h
  exact ⟨d, as, a.but s f, b, c, f⟩
def bitsK (door : Int) (s0 s1 s2 s3 s4 : Bool) : Option Nat := if s0 = true then some 0 else if door < 2 then (if s4 = true then some 3 else none) else if s1 = true then some 1 else if s2 = true ∨ s3 = true then some 2 else none
theorem due_bits {door : Int} {ns : List Int} {d0 d1 d2 d3 d4 : PyData} {s0 s1 s2 s3 s4 : Bool} (ho : isO ns = true) (e0 : (s0 = true ∧ isOD d0 = false) ∨ (s0 = false ∧ d0 = dI ns)) (e1 : inD d1 1 400 = !s1) (e2 : lineD ns.length d2 = !s2) (e3 : lineD ns.length d3 = !s3) (e4 : ascD ((ns.length : Int) - 1) d4 = !s4) :
    dueK door d0 d1 d2 d3 d4 = bitsK door s0 s1 s2 s3 s4 := by
  unfold dueK bitsK
  rcases e0 with ⟨rfl, e0⟩ | ⟨rfl, rfl⟩
  · rw [if_pos e0, if_pos rfl]
  · have z0 : isOD (dI ns) = true := by rw [isOD_dI]; exact ho
    rw [z0, foldD_dI, lnD_dI, lnD_dI, e1, e2, e3, e4]
    cases s1 <;> cases s2 <;> cases s3 <;> cases s4 <;> simp
def ordL (b : Bool) : List Int := if b = true then [0, 1, 2, 3] else [0, 4]
def w5 : List Str := ["outline", "height", "line", "line", "folds"]
theorem ord_at {b : Bool} {j : Nat} {x : V} (h : (iv (ordL b))[j]? = some x) : ∃ z : Nat, z < 5 ∧ x = V.int (z : Int) ∧ ((ordL b).getD j 0).toNat = z := by
  cases b with
  | true =>
    have jl : j < 4 := (List.getElem?_eq_some_iff.mp h).1
    rcases (show j = 0 ∨ j = 1 ∨ j = 2 ∨ j = 3 by omega) with rfl | rfl | rfl | rfl
    · cases h; exact ⟨0, by decide, rfl, rfl⟩
    · cases h; exact ⟨1, by decide, rfl, rfl⟩
    · cases h; exact ⟨2, by decide, rfl, rfl⟩
    · cases h; exact ⟨3, by decide, rfl, rfl⟩
  | false =>
    have jl : j < 2 := (List.getElem?_eq_some_iff.mp h).1
    rcases (show j = 0 ∨ j = 1 by omega) with rfl | rfl
    · cases h; exact ⟨0, by decide, rfl, rfl⟩
    · cases h; exact ⟨4, by decide, rfl, rfl⟩
theorem at_s {s0 s1 s2 s3 s4 : Bool} {z : Nat} (zl : z < 5) : atI [V.bl s0, .bl s1, .bl s2, .bl s3, .bl s4] (z : Int) = some (.bl ([s0, s1, s2, s3, s4].getD z false)) := by
  rcases (show z = 0 ∨ z = 1 ∨ z = 2 ∨ z = 3 ∨ z = 4 by omega) with rfl | rfl | rfl | rfl | rfl <;> rfl
theorem at_w {z : Nat} (zl : z < 5) : atI [V.str "outline", .str "height", .str "line", .str "line", .str "folds"] (z : Int) = some (.str (w5.getD z "")) := by
  rcases (show z = 0 ∨ z = 1 ∨ z = 2 ∨ z = 3 ∨ z = 4 by omega) with rfl | rfl | rfl | rfl | rfl <;> rfl
theorem due_first (door : Int) (s0 s1 s2 s3 s4 : Bool) : atI (gives (ordL (decide (1 < door))).length (fun i => [s0, s1, s2, s3, s4].getD ((ordL (decide (1 < door))).getD i 0).toNat false) (fun i => V.str (w5.getD ((ordL (decide (1 < door))).getD i 0).toNat "")) ++ [V.str "none"]) 0 = some (.str (dueW (bitsK door s0 s1 s2 s3 s4))) := by
  by_cases c : door < 2
  · rw [decide_eq_false (show ¬ 1 < door by omega)]
    unfold bitsK
    rw [if_pos c]
    cases s0 <;> cases s4 <;> rfl
  · rw [decide_eq_true (show 1 < door by omega)]
    unfold bitsK
    rw [if_neg c]
    cases s0 <;> cases s1 <;> cases s2 <;> cases s3 <;> rfl
section
variable {P : Program} {w : World} {K : PySem.W.Frag} {mg : Str → Option Value} {base : Heap}
def sp_law_right (K : PySem.W.Frag) : Sp := fun vs H Q _ => ∃ (b g : Addr) (n : Int) (sc : List Int), vs = [.ref b, .ref g] ∧ SqL K H b (iv sc) ∧ Still g H (fun H' => SqL K H' b (iv sc)) ∧ SrcV n H g ∧ n ≤ 1000 ∧ ∀ H', SameBut g H H' → Q (.bl true) H'
set_option maxHeartbeats 0 in
theorem ok_law_right (T : Txt mg) (h : At K mg "_law_right" s_law_right)
    (g_law_draw : Has P w K mg base CX0 1 "_law_draw" s_law_draw P_law_draw sp_law_draw)
    (g_law_sized : Has P w K mg base CX0 3 "_law_sized" s_law_sized P_law_sized (sp_law_sized K))
    (g_law_places : Has P w K mg base CX0 2 "_law_places" s_law_places P_law_places sp_law_places)
    (g_law_no_outline : Has P w K mg base CX0 2 "_law_no_outline" s_law_no_outline P_law_no_outline sp_law_no_outline)
    (g_law_no_folds : Has P w K mg base CX0 2 "_law_no_folds" s_law_no_folds P_law_no_folds sp_law_no_folds)
    (g_law_error : Has P w K mg base CX0 7 "_law_error" s_law_error P_law_error sp_error) :
    Has P w K mg base CX0 8 "_law_right" s_law_right P_law_right (sp_law_right K) := by
  refine Has.of h sc_law_right (fun vs H Q E h => ?_) (fun _ _ _ _ _ _ us hl => match us, hl with | [_, _], _ => rfl) (fun f cdv A outer s H vs Q E room qt h => ?_)
  · obtain ⟨b, g, n, sc, rfl, _⟩ := h; rfl
  obtain ⟨b, g, n, sc, rfl, hb, sb, hg, hn, k⟩ := h
  refine ⟨_, (pss_cons (ps_set (i := 2) sc_law_right.nd rfl (Or.inl rfl) (pe_has g_law_sized (room.mono (by decide)) qt (by rfl) pass0 (pa_cons (pv 0) (pa_cons (pv 1) (pa_cons pe_int (pa_cons pe_int pa_nil))))))
      (pss_cons (ps_set (i := 3) sc_law_right.nd rfl (Or.inl rfl) (pe_has g_law_places (room.mono (by decide)) qt (by rfl) pass0 (pa_cons (pv 1) (pa_cons (pv 2) (pa_cons (pe_ifExp (pt_cmpR (op_eqD room.units) (pv 0) (pe_lstB pa_nil) (nomark _)) pe_int (pe_op op_add pe_int (pe_has g_law_draw (room.mono (by decide)) qt (by rfl) pass0 (pa_cons (pv 1) (pa_cons pe_int pa_nil))))) pa_nil)))))
      (pss_cons (ps_set (i := 4) sc_law_right.nd rfl (Or.inl rfl) (pe_lstB (pa_cons (pv 2) (pa_cons (pe_op op_add pe_int (pe_has g_law_draw (room.mono (by decide)) qt (by rfl) pass0 (pa_cons (pv 1) (pa_cons pe_int pa_nil)))) (pa_cons (pe_has g_law_draw (room.mono (by decide)) qt (by rfl) pass0 (pa_cons (pv 1) (pa_cons (pe_callB call_len_seq (by rfl) T.len (by decide +kernel) (pa_cons (pv 2) pa_nil)) pa_nil))) (pa_cons (pe_has g_law_draw (room.mono (by decide)) qt (by rfl) pass0 (pa_cons (pv 1) (pa_cons (pe_callB call_len_seq (by rfl) T.len (by decide +kernel) (pa_cons (pv 2) pa_nil)) pa_nil))) (pa_cons (pv 3) pa_nil)))))))
      (pss_cons (ps_for PassesOwn.never rfl (pi_range1 (by rfl) T.range (pa_cons pe_int pa_nil)) (pg_name (i := 5) sc_law_right.nd rfl (Or.inl rfl) (hf := Or.inl rfl))
        (pss_cons (ps_set (i := 6) sc_law_right.nd rfl (Or.inl rfl) (pe_lstB (pa_cons (pe_un un_neg pe_int) (pa_cons (pe_callB call_len_seq (by rfl) T.len (by decide +kernel) (pa_cons (pv 2) pa_nil)) (pa_cons pe_non (pa_cons pe_bl (pa_cons pe_bl (pa_cons pe_str (pa_cons (pe_lstB (pa_cons pe_int pa_nil)) (pa_cons (pe_op op_powG pe_int pe_int) pa_nil))))))))))
        (pss_cons (ps_set (i := 7) sc_law_right.nd rfl (Or.inl rfl) (pe_lstB (pa_cons (pe_has g_law_no_outline (room.mono (by decide)) qt (by rfl) pass0 (pa_cons (pv 1) (pa_cons (pv 2) pa_nil))) (pa_cons (pe_ix ix_list (pe_lstB (pa_cons pe_int (pa_cons pe_int (pa_cons (pe_un un_neg pe_int) (pa_cons pe_bl (pa_cons pe_non (pa_cons pe_str (pa_cons (pe_lstB (pa_cons pe_int pa_nil)) (pa_cons (pe_op op_powG pe_int pe_int) pa_nil))))))))) (pe_has g_law_draw (room.mono (by decide)) qt (by rfl) pass0 (pa_cons (pv 1) (pa_cons pe_int pa_nil))) (fun _ _ => rfl)) pa_nil))))
        (pss_cons (ps_set (i := 7) sc_law_right.nd rfl (Or.inl rfl) (pe_op op_catB (pv 7) (pe_lstB (pa_cons (pe_ix ix_list (pv 6) (pe_has g_law_draw (room.mono (by decide)) qt (by rfl) pass0 (pa_cons (pv 1) (pa_cons pe_int pa_nil))) (fun _ _ => rfl)) (pa_cons (pe_ix ix_list (pv 6) (pe_has g_law_draw (room.mono (by decide)) qt (by rfl) pass0 (pa_cons (pv 1) (pa_cons pe_int pa_nil))) (fun _ _ => rfl)) (pa_cons (pe_has g_law_no_folds (room.mono (by decide)) qt (by rfl) pass0 (pa_cons (pv 1) (pa_cons (pv 2) (pa_cons (pv 3) pa_nil)))) pa_nil))))))
        (pss_cons (ps_set (i := 8) sc_law_right.nd rfl (Or.inr rfl) (pe_lc (own := [("spot", 15)]) (by rfl) sc_law_right.nd (pi_range1 (by rfl) T.range (pa_cons pe_int pa_nil)) (blkOk_by (own := [("spot", 15)]) (N := N_law_right) (sc := defScope s_law_right) (by decide +kernel)) (fun _ _ _ _ _ => (pg_name (i := 15) sc_law_right.nd rfl (Or.inl rfl) (hf := Or.inr rfl))) (fun _ _ _ _ _ => pts_nil) (fun _ _ _ _ _ => (pe_cmpR op_eq (pe_has g_law_draw (room.mono (by decide)) qt (by rfl) pass0 (pa_cons (pv 1) (pa_cons pe_int pa_nil))) pe_int (nomark _)))))
        (pss_cons (ps_setLc (i := 9) (own := [("one", 16), ("two", 17), ("so", 18)]) (g := (gTup K 3 (gCons (gName 16) (gCons (gName 17) (gCons (gName 18) gNil))))) (by rfl) sc_law_right.nd rfl rfl (sw_true rfl rfl rfl (by decide +kernel)) (pi_zipC (by rfl) T.zip (pa_cons (pv 4) (pa_cons (pv 7) (pa_cons (pv 8) pa_nil)))) (blkOk_by (own := [("one", 16), ("two", 17), ("so", 18)]) (N := N_law_right) (sc := defScope s_law_right) (by decide +kernel)) (fun _ _ _ _ _ => (pg_tup rfl (pgs_cons (pg_name (i := 16) sc_law_right.nd rfl (Or.inl rfl) (hf := Or.inr rfl)) (pgs_cons (pg_name (i := 17) sc_law_right.nd rfl (Or.inl rfl) (hf := Or.inr rfl)) (pgs_cons (pg_name (i := 18) sc_law_right.nd rfl (Or.inl rfl) (hf := Or.inr rfl)) pgs_nil))))) (fun _ _ _ _ _ => pts_nil) (fun _ _ _ _ _ => (pe_ix (show IxR _ (rIxL K) from by exact ix_list) (pe_lstB (pa_cons (pv 16) (pa_cons (pv 17) pa_nil))) (pe_callTy call_int1 (by rfl) T.tint (by decide +kernel) (pa_cons (pv 18) pa_nil)) (fun _ _ => rfl))))
        (pss_cons (ps_set (i := 10) sc_law_right.nd rfl (Or.inl rfl) (pe_callB (call_reprY qt room.units) (by rfl) T.repr (by decide +kernel) (pa_cons (pv 9) pa_nil)))
        (pss_cons (ps_set (i := 11) sc_law_right.nd rfl (Or.inr rfl) (pe_lstB (pa_cons pe_str (pa_cons pe_str (pa_cons pe_str (pa_cons pe_str (pa_cons pe_str pa_nil)))))))
        (pss_one (ps_for PassesOwn.never rfl (pi_range1 (by rfl) T.range (pa_cons pe_int pa_nil)) (pg_name (i := 12) sc_law_right.nd rfl (Or.inl rfl) (hf := Or.inl rfl))
          (pss_cons (ps_set (i := 13) sc_law_right.nd rfl (Or.inl rfl) (pe_ix ix_list (pe_lstB (pa_cons (pe_lstB (pa_cons pe_int (pa_cons pe_int pa_nil))) (pa_cons (pe_lstB (pa_cons pe_int (pa_cons pe_int (pa_cons pe_int (pa_cons pe_int pa_nil))))) pa_nil))) (pe_callTy call_int1 (by rfl) T.tint (by decide +kernel) (pa_cons (pe_cmpR op_gt (pv 12) pe_int (nomark _)) pa_nil)) (fun _ _ => rfl)))
          (pss_cons (ps_set (i := 14) sc_law_right.nd rfl (Or.inl rfl) (pe_op op_catB (pe_lc (own := [("spot", 15)]) (by rfl) sc_law_right.nd (pi_list (pv 13)) (blkOk_by (own := [("spot", 15)]) (N := N_law_right) (sc := defScope s_law_right) (by decide +kernel)) (fun _ _ _ _ _ => (pg_name (i := 15) sc_law_right.nd rfl (Or.inl rfl) (hf := Or.inr rfl))) (fun _ _ _ _ _ => (pts_one (pt_val (pe_ix (show IxR _ (rIxL K) from by exact ix_list) (pv 8) (pv 15) (fun _ _ => rfl))))) (fun _ _ _ _ _ => (pe_ix (show IxR _ (rIxL K) from by exact ix_list) (pv 11) (pv 15) (fun _ _ => rfl)))) (pe_lstB (pa_cons pe_str pa_nil))))
          (pss_one (ps_if (PW.pt (pw_or (pt_cmpR op_ne (pe_has g_law_error (room.mono (by decide)) qt (by rfl) pass0 (pa_cons (pv 12) (pa_cons (pv 9) pa_nil))) (pe_ix ix_list (pv 14) pe_int (fun _ _ => rfl)) (nomark _)) (pw_or1 (pt_cmpR op_ne (pe_callB (call_reprY qt room.units) (by rfl) T.repr (by decide +kernel) (pa_cons (pv 9) pa_nil)) (pv 10) (nomark _)))))
            (pss_one (ps_ret pe_bl))
            pss_nil))))))))))))))
      (pss_one (ps_ret pe_bl)))))), ?_⟩
  refine ⟨_, rfl, _, rfl, b, g, 20, 200, n, sc, rfl, hb, sb, hg, by omega, by decide, by decide, by decide, by decide, fun ns p H1 ho hp b1 g1 h1 => ?_⟩
  obtain ⟨l1, l2, hk⟩ := isO_iff.mp ho
  have npg : p ≠ g := (hg.ne hp).symm
  have eln : (iv ns).length = ns.length := List.length_map _
  -- marks
  refine ⟨_, rfl, _, rfl, _, rfl, (by decide : 0 ≤ sizeLine), fun q7 n7 _ => eqD_ints (ns := sc) (ms := []) ((Same.new n7).seq (sb _ b1)) (SqL.of upd_same) ⟨_, rfl, ?_⟩⟩
  have g2 := g1.new (o := .lst []) n7
  have b2 := b1.trans (SameBut.of (Same.new (o := .lst []) n7))
  have h2 := Same.new (o := .lst []) n7 _ _ h1
  generalize upd H1 q7 (.lst []) = H2 at g2 b2 h2 ⊢
  refine if_any (fun v H3 => ∃ m : Int, v = .int m ∧ 1 ≤ m ∧ m ≤ 3 ∧ SameBut g H H3 ∧ SrcV (n + 3000) H3 g ∧ H3 p = some (.lst (iv ns))) (fun _ Q' q => q _ _ ⟨3, rfl, by decide, by decide, b2, g2.mono (by omega), h2⟩) (fun _ Q' q => ?_) ?_
  · refine ⟨_, rfl, g, 3, _, rfl, g2, by omega, by decide, by decide, fun d H3 d0 d1 b3 g3 => ⟨_, _, rfl, rfl, q _ _ ⟨1 + d, rfl, by omega, by omega, b2.trans b3, g3.mono (by omega), b3 _ _ h2 npg⟩⟩⟩
  rintro v H3 ⟨m, rfl, m0, m1, b3, g3, h3⟩
  refine ⟨g, p, _, m, ns, rfl, g3, by omega, h3, npg, l2, m0, by omega, fun ms r H4 ma mv ml nr b4 g4 hr4 => ?_⟩
  have nrg : r ≠ g := (g3.ne nr).symm
  have h4 := b4 _ _ h3 npg
  replace k : ∀ H', SameBut g H4 H' → Q (.bl true) H' := fun H' b' => k H' ((b3.trans b4).trans b')
  clear b1 g1 h1 b2 g2 h2 b3 g3 h3 b4 sb hb nr
  -- good
  refine ⟨_, rfl, _, rfl, g, 400, _, rfl, g4, by omega, by decide, by decide, fun hh H5 hh0 hh1 b5 g5 => ⟨_, _, rfl, rfl, ?_⟩⟩
  have h5 := b5 _ _ h4 npg
  refine ⟨_, rfl, _, rfl, p, _, rfl, .inl (SqL.of h5), g, _, _, rfl, g5, by omega, by omega, by omega, fun la H6 la0 la1 b6 g6 => ?_⟩
  have h6 := b6 _ _ h5 npg
  refine ⟨_, rfl, _, rfl, p, _, rfl, .inl (SqL.of h6), g, _, _, rfl, g6, by omega, by omega, by omega, fun lb H7 lb0 lb1 b7 g7 => ?_⟩
  have h7 := b7 _ _ h6 npg
  have b07 := (b5.trans b6).trans b7
  have hr7 := b07 _ _ hr4 nrg
  refine ⟨_, rfl, (by decide : 5 ≤ sizeLine), fun qg ng _ => ?_⟩
  have nqg := (g7.ne ng).symm
  have g8 := g7.new (o := .lst [.ref p, .int (1 + hh), .int la, .int lb, .ref r]) ng
  have hG := upd_same (H := H7) (a := qg) (o := .lst [.ref p, .int (1 + hh), .int la, .int lb, .ref r])
  have y8 := Same.new (o := .lst [.ref p, .int (1 + hh), .int la, .int lb, .ref r]) ng
  have h8 := y8 _ _ h7
  have hr8 := y8 _ _ hr7
  have b08 := b07.trans (SameBut.of y8)
  generalize upd H7 qg (.lst [.ref p, .int (1 + hh), .int la, .int lb, .ref r]) = H8 at g8 hG h8 hr8 b08 ⊢
  replace k : ∀ H', SameBut g H8 H' → Q (.bl true) H' := fun H' b' => k H' (b08.trans b')
  clear b5 b6 b7 b07 b08 y8 h5 h6 h7 hr7 g5 g6 g7 h4 hr4 g4
  refine ⟨_, rfl, by decide, by decide, for_range (lo := 0) (n := 4) (fun i σ H9 => (∃ v5 v6 v7 v8 v9 v10 v11 v12 v13 v14 v15 v16 v17 v18, σ = [some (.ref b), some (.ref g), some (.ref p), some (.ref r), some (.ref qg), v5, v6, v7, v8, v9, v10, v11, v12, v13, v14, v15, v16, v17, v18]) ∧ SameBut g H8 H9 ∧ SrcV (n + 6000 + 40 * (i : Int)) H9 g)
    ⟨⟨_, _, _, _, _, _, _, _, _, _, _, _, _, _, rfl⟩, SameBut.refl, g8.mono (by omega)⟩ ?_ (fun σ H9 e => k H9 e.2.1)⟩
  rintro i σ H9 hi ⟨⟨v5, v6, v7, v8, v9, v10, v11, v12, v13, v14, v15, v16, v17, v18, rfl⟩, b9, g9⟩
  have h9 := b9 _ _ h8 npg
  -- far
  have f1 : ∀ {d : PyData}, Fits 0 1921 d → Fits 40 3000000 d := fun h => h.mono (by decide) (by decide)
  have p30' : (10 : Int) ^ (30 : Int).toNat = 1000000000000000000000000000000 := by decide
  refine ⟨_, rfl, _, rfl, p, _, rfl, .inl (SqL.of h9), (by decide : 1 ≤ sizeLine), fun r1 m1 _ => ?_⟩
  refine ⟨_, _, rfl, rfl, ⟨by decide, by decide +kernel⟩, (by decide : 8 ≤ sizeLine), fun r2 m2 _ => ?_⟩
  dsimp only
  rw [p30', eln]
  have ga := g9.new (o := .lst [.int 0]) m1
  have n1 := (g9.ne m1).symm
  have n2 := (ga.ne m2).symm
  have g10 := ga.new (o := .lst [V.int (-1), .int (ns.length : Nat), .non, .bl true, .bl false, .str "0", .ref r1, .int 1000000000000000000000000000000]) m2
  have y10 := (Same.new (o := .lst [.int 0]) m1).trans (Same.new (o := .lst [V.int (-1), .int (ns.length : Nat), .non, .bl true, .bl false, .str "0", .ref r1, .int 1000000000000000000000000000000]) m2)
  have e1 := Same.new (o := .lst [V.int (-1), .int (ns.length : Nat), .non, .bl true, .bl false, .str "0", .ref r1, .int 1000000000000000000000000000000]) m2 _ _ (upd_same (H := H9) (a := r1) (o := .lst [.int 0]))
  have e2 := upd_same (H := upd H9 r1 (.lst [.int 0])) (a := r2) (o := .lst [V.int (-1), .int (ns.length : Nat), .non, .bl true, .bl false, .str "0", .ref r1, .int 1000000000000000000000000000000])
  generalize upd (upd H9 r1 (.lst [.int 0])) r2 (.lst [V.int (-1), .int (ns.length : Nat), .non, .bl true, .bl false, .str "0", .ref r1, .int 1000000000000000000000000000000]) = H10 at g10 y10 e1 e2 ⊢
  have hfar : ∀ x ∈ [V.int (-1), .int (ns.length : Nat), .non, .bl true, .bl false, .str "0", .ref r1, .int 1000000000000000000000000000000], MP H10 g (fun d => lineD ns.length d = false) x := fun x hx => by
    simp only [List.mem_cons, List.not_mem_nil, or_false] at hx
    rcases hx with rfl | rfl | rfl | rfl | rfl | rfl | rfl | rfl
    · exact ⟨_, _, .int _, rfl, f1 (fit_int (lt1900 (by decide))), List.not_mem_nil⟩
    · refine ⟨_, _, .int _, ?_, f1 (fit_int (lt1900 (by omega))), List.not_mem_nil⟩
      show (decide ((0 : Int) ≤ (ns.length : Int)) && decide ((ns.length : Int) ≤ (ns.length : Int) - 1)) = false
      rw [decide_eq_false (show ¬ (ns.length : Int) ≤ (ns.length : Int) - 1 by omega), Bool.and_false]
    · exact ⟨_, _, .non, rfl, f1 fit_none, List.not_mem_nil⟩
    · exact ⟨_, _, .bl _, rfl, f1 (fit_bool _), List.not_mem_nil⟩
    · exact ⟨_, _, .bl _, rfl, f1 (fit_bool _), List.not_mem_nil⟩
    · exact ⟨_, _, .str _, rfl, ⟨rfl, by decide, by decide +kernel⟩, List.not_mem_nil⟩
    · exact ⟨_, _, .lst e1 (dx_ints [0]), rfl, ⟨rfl, by decide, by decide +kernel⟩, fun z => n1 (List.mem_singleton.mp z).symm⟩
    · refine ⟨_, _, .int _, ?_, f1 (fit_int (lt1900 (by decide))), List.not_mem_nil⟩
      show (decide ((0 : Int) ≤ 1000000000000000000000000000000) && decide ((1000000000000000000000000000000 : Int) ≤ (ns.length : Int) - 1)) = false
      rw [decide_eq_false (show ¬ (1000000000000000000000000000000 : Int) ≤ (ns.length : Int) - 1 by omega), Bool.and_false]
  have fl : ([V.int (-1), .int (ns.length : Nat), .non, .bl true, .bl false, .str "0", .ref r1, .int 1000000000000000000000000000000] : List V).length = 8 := rfl
  generalize [V.int (-1), .int (ns.length : Nat), .non, .bl true, .bl false, .str "0", .ref r1, .int 1000000000000000000000000000000] = far at e2 hfar fl ⊢
  clear e1
  -- bad 0
  have h10 := y10 _ _ h9
  refine ⟨_, rfl, _, rfl, g, p, ns, _, rfl, g10, by omega, npg, h10, ho, fun xb H11 b11 g11 wg => ?_⟩
  have b911 := (SameBut.of y10).trans b11
  have h11 := b11 _ _ h10 npg
  have hr11 := b911 _ _ (b9 _ _ hr8 nrg) nrg
  have hfar11 : ∀ x ∈ far, MP H11 g (fun d => lineD ns.length d = false) x := fun x hx => (hfar x hx).but b11
  have e211 := b11 _ _ e2 n2
  have wo : MP H11 g (fun d => isOD d = false) xb := by
    obtain ⟨d, as, a, p, f, _, ng⟩ := wg
    exact ⟨d, as, a, p, f, ng⟩
  clear hfar e2 wg h10 y10 g10 b11 n1 m1 m2 ga h9
  -- bad 1
  refine ⟨_, rfl, (by decide : 1 ≤ sizeLine), fun r3 m3 _ => ?_⟩
  refine ⟨_, _, rfl, rfl, ⟨by decide, by decide +kernel⟩, (by decide : 8 ≤ sizeLine), fun r4 m4 _ => ?_⟩
  dsimp only
  rw [p30']
  have gb := g11.new (o := .lst [.int 1]) m3
  have n3 := (g11.ne m3).symm
  have n4 := (gb.ne m4).symm
  have gc := gb.new (o := .lst [V.int 0, .int 401, .int (-1), .bl true, .non, .str "1", .ref r3, .int 1000000000000000000000000000000]) m4
  have yc := (Same.new (o := .lst [.int 1]) m3).trans (Same.new (o := .lst [V.int 0, .int 401, .int (-1), .bl true, .non, .str "1", .ref r3, .int 1000000000000000000000000000000]) m4)
  have e3 := Same.new (o := .lst [V.int 0, .int 401, .int (-1), .bl true, .non, .str "1", .ref r3, .int 1000000000000000000000000000000]) m4 _ _ (upd_same (H := H11) (a := r3) (o := .lst [.int 1]))
  have e4 := upd_same (H := upd H11 r3 (.lst [.int 1])) (a := r4) (o := .lst [V.int 0, .int 401, .int (-1), .bl true, .non, .str "1", .ref r3, .int 1000000000000000000000000000000])
  generalize upd (upd H11 r3 (.lst [.int 1])) r4 (.lst [V.int 0, .int 401, .int (-1), .bl true, .non, .str "1", .ref r3, .int 1000000000000000000000000000000]) = H12 at gc yc e3 e4 ⊢
  have hhs : ∀ x ∈ [V.int 0, .int 401, .int (-1), .bl true, .non, .str "1", .ref r3, .int 1000000000000000000000000000000], MP H12 g (fun d => inD d 1 400 = false) x := fun x hx => by
    simp only [List.mem_cons, List.not_mem_nil, or_false] at hx
    rcases hx with rfl | rfl | rfl | rfl | rfl | rfl | rfl | rfl
    · exact ⟨_, _, .int _, rfl, f1 (fit_int (lt1900 (by decide))), List.not_mem_nil⟩
    · exact ⟨_, _, .int _, rfl, f1 (fit_int (lt1900 (by decide))), List.not_mem_nil⟩
    · exact ⟨_, _, .int _, rfl, f1 (fit_int (lt1900 (by decide))), List.not_mem_nil⟩
    · exact ⟨_, _, .bl _, rfl, f1 (fit_bool _), List.not_mem_nil⟩
    · exact ⟨_, _, .non, rfl, f1 fit_none, List.not_mem_nil⟩
    · exact ⟨_, _, .str _, rfl, ⟨rfl, by decide, by decide +kernel⟩, List.not_mem_nil⟩
    · exact ⟨_, _, .lst e3 (dx_ints [1]), rfl, ⟨rfl, by decide, by decide +kernel⟩, fun z => n3 (List.mem_singleton.mp z).symm⟩
    · exact ⟨_, _, .int _, rfl, f1 (fit_int (lt1900 (by decide))), List.not_mem_nil⟩
  refine ⟨_, rfl, g, 8, _, rfl, gc, by omega, by decide, by decide, fun j H13 j0 j1 b13 g13 => ?_⟩
  obtain ⟨xh, hat, hxh⟩ := atI_all (p := MP H13 g (fun d => inD d 1 400 = false)) (fun y hy => (hhs y hy).but b13) j0 (by exact j1)
  refine ⟨r4, _, j, xh, rfl, rfl, SqL.of (b13 _ _ e4 n4), hat, (by decide : 2 ≤ sizeLine), fun q1 k1 _ => ?_⟩
  have b1113 := (SameBut.of yc).trans b13
  have y1 := Same.new (o := .lst [xb, xh]) k1
  have nq1 := (g13.ne k1).symm
  have g14 := g13.new (o := .lst [xb, xh]) k1
  have hq1 := upd_same (H := H13) (a := q1) (o := .lst [xb, xh])
  have b1114 := b1113.trans (SameBut.of y1)
  have wo14 := wo.but b1114
  have wh14 := hxh.same y1
  have h14 := b1114 _ _ h11 npg
  have hr14 := b1114 _ _ hr11 nrg
  have hfar14 : ∀ x ∈ far, MP _ g (fun d => lineD ns.length d = false) x := fun x hx => (hfar11 x hx).but b1114
  have e214 := b1114 _ _ e211 n2
  have b914 := b911.trans b1114
  generalize upd H13 q1 (.lst [xb, xh]) = H14 at g14 hq1 wo14 wh14 h14 hr14 hfar14 e214 b914 ⊢
  clear hhs e3 e4 gb gc yc hat hxh wo hfar11 e211 h11 hr11 b13 b1113 b1114 y1 g13 m3 m4 n3 n4 k1 b911 g11
  -- bad 2, 3
  refine ⟨_, rfl, _, rfl, _, rfl, g, 8, _, rfl, g14, by omega, by decide, by decide, fun j2 H15 j20 j21 b15 g15 => ?_⟩
  obtain ⟨xl, hat1, hxl⟩ := atI_all (p := MP H15 g (fun d => lineD ns.length d = false)) (fun y hy => (hfar14 y hy).but b15) j20 (by rw [fl]; exact j21)
  refine ⟨r2, _, j2, xl, rfl, rfl, SqL.of (b15 _ _ e214 n2), hat1, ?_⟩
  refine ⟨_, rfl, _, rfl, g, 8, _, rfl, g15, by omega, by decide, by decide, fun j3 H16 j30 j31 b16 g16 => ?_⟩
  have b1416 := b15.trans b16
  obtain ⟨xm, hat2, hxm⟩ := atI_all (p := MP H16 g (fun d => lineD ns.length d = false)) (fun y hy => (hfar14 y hy).but b1416) j30 (by rw [fl]; exact j31)
  refine ⟨r2, _, j3, xm, rfl, rfl, SqL.of (b1416 _ _ e214 n2), hat2, ?_⟩
  -- bad 4
  refine ⟨_, rfl, _, rfl, _, rfl, g, p, r, ns, ms, _, rfl, g16, by omega, npg, nrg, b1416 _ _ h14 npg, l1, l2, b1416 _ _ hr14 nrg, by omega, mv, fun xf H17 b17 g17 wf => ⟨(by decide : 3 ≤ sizeLine), fun q2 k2 _ => ?_⟩⟩
  have b1417 := b1416.trans b17
  have nq2 := (g17.ne k2).symm
  have yq2 := Same.new (o := .lst [xl, xm, xf]) k2
  have hq12 := yq2 _ _ (b1417 _ _ hq1 nq1)
  refine ⟨q1, q2, _, _, rfl, rfl, SqL.of hq12, SqL.of upd_same, (by decide : 5 ≤ sizeLine), fun q3 k3 _ => ?_⟩
  have g18 := (g17.new (o := .lst [xl, xm, xf]) k2).new (o := .lst ([xb, xh] ++ [xl, xm, xf])) k3
  have nq3 := ((g17.new (o := .lst [xl, xm, xf]) k2).ne k3).symm
  have hq3 := upd_same (H := upd H17 q2 (.lst [xl, xm, xf])) (a := q3) (o := .lst ([xb, xh] ++ [xl, xm, xf]))
  have y18 := yq2.trans (Same.new (o := .lst ([xb, xh] ++ [xl, xm, xf])) k3)
  have wb18 := (wo14.but b1417).same y18
  have wh18 := (wh14.but b1417).same y18
  have wl18 := (hxl.but (b16.trans b17)).same y18
  have wm18 := (hxm.but b17).same y18
  have wf18 : MP (upd (upd H17 q2 (.lst [xl, xm, xf])) q3 (.lst ([xb, xh] ++ [xl, xm, xf]))) g (fun d => ascD ((ns.length : Int) - 1) d = false) xf := by
    obtain ⟨d, as, a, p', f, _, ng⟩ := wf
    exact MP.same ⟨d, as, a, p', f, ng⟩ y18
  have b918 := (b914.trans b1417).trans (SameBut.of y18)
  generalize upd (upd H17 q2 (.lst [xl, xm, xf])) q3 (.lst ([xb, xh] ++ [xl, xm, xf])) = H18 at g18 hq3 wb18 wh18 wl18 wm18 wf18 b918 ⊢
  clear hq12 yq2 y18 nq2 k2 k3 wo14 wh14 hxl hxm wf hat1 hat2 hfar14 e214 hq1 h14 hr14 b15 b16 b17 b1416 b1417 b914 g14 g15 g16 g17 nq1
  -- is_bad
  refine ⟨_, rfl, by decide, by decide, fun D hD => lc_range (lo := 0) (n := 5) (fun c H19 => SameBut g H18 H19 ∧ SrcV (n + 6020 + 40 * (i : Int) + (c : Int)) H19 g ∧ ∃ bs : List Bool, H19 D = some (.lst (bs.map V.bl)) ∧ bs.length = c) ⟨SameBut.of (Same.new hD), (g18.new hD).mono (by omega), [], upd_same, rfl⟩ (fun c H19 hc e => ?_) (fun H19 e => ?_)⟩
  · obtain ⟨b19, g19, bs, hbs, bl⟩ := e
    have nDg := (g18.ne hD).symm
    refine ⟨rfl, tYes_go ⟨_, rfl, g, 3, _, rfl, g19, by omega, by decide, by decide, fun d H20 d0 d1 b20 g20 => ⟨rfl, bs.map V.bl, b20 _ _ hbs nDg, small_line (by rw [List.length_map]; omega), (b19.trans b20).own hD, (g20.upd nDg.symm).mono (by omega), bs ++ [decide (V.int d = V.int 0)], ?_, by rw [List.length_append, bl]; rfl⟩⟩⟩
    rw [upd_same, List.map_append]
    rfl
  obtain ⟨b19, g19, bs, hbs, bl⟩ := e
  obtain ⟨s0, s1, s2, s3, s4, rfl⟩ : ∃ s0 s1 s2 s3 s4, bs = [s0, s1, s2, s3, s4] := by
    match bs, bl with
    | [s0, s1, s2, s3, s4], _ => exact ⟨_, _, _, _, _, rfl⟩
  have hq319 := b19 _ _ hq3 nq3
  have b919 := b918.trans b19
  have hG19 := b919 _ _ (b9 _ _ hG nqg) nqg
  have h19 := b919 _ _ (b9 _ _ h8 npg) npg
  have hr19 := b919 _ _ (b9 _ _ hr8 nrg) nrg
  obtain ⟨db0, ab0, hb0, pb0, fb0, _⟩ := wb18.but b19
  obtain ⟨db1, ab1, hb1, pb1, fb1, _⟩ := wh18.but b19
  obtain ⟨db2, ab2, hb2, pb2, fb2, _⟩ := wl18.but b19
  obtain ⟨db3, ab3, hb3, pb3, fb3, _⟩ := wm18.but b19
  obtain ⟨db4, ab4, hb4, pb4, fb4, _⟩ := wf18.but b19
  clear wb18 wh18 wl18 wm18 wf18 hq3 hD
  -- rows
  have hbs' : H19 D = some (.lst [.bl s0, .bl s1, .bl s2, .bl s3, .bl s4]) := hbs
  have hq3' : H19 q3 = some (.lst [xb, xh, xl, xm, xf]) := hq319
  clear hbs hq319
  refine ⟨_, rfl, _, rfl, _, rfl, qg, q3, D, _, _, _, rfl, SqL.of hG19, SqL.of hq3', SqL.of hbs', fun D2 hD2 => lcZ3n (K := K) (a := qg) (b := q3) (c := D) (fun _ => true) (fun z => if [s0, s1, s2, s3, s4].getD z false = true then [xb, xh, xl, xm, xf].getD z .non else [V.ref p, .int (1 + hh), .int la, .int lb, .ref r].getD z .non) (SqL.of hG19) (SqL.of hq3') (SqL.of hbs') rfl rfl hD2 (show 5 < 100000 by decide) (fun x y u => rfl) (fun z x y u H2 Q' _ _ _ _ q => q H2 (Same.refl _)) (fun z x y u H20 Q' hx hy hu _ s20 qq => ?_) (fun H20 s20 h20 => ?_)⟩
  · have zl : z < 5 := (List.getElem?_eq_some_iff.mp hx).1
    rcases (show z = 0 ∨ z = 1 ∨ z = 2 ∨ z = 3 ∨ z = 4 by omega) with rfl | rfl | rfl | rfl | rfl
    all_goals
      cases hx
      cases hy
      cases hu
      refine ⟨_, rfl, _, rfl, (by decide : 2 ≤ sizeLine), fun q n _ => ⟨_, rfl, .inr ⟨_, rfl, q, _, _, _, rfl, rfl, SqL.of upd_same, ?_, qq _ (Same.new n)⟩⟩⟩
    · cases s0 <;> rfl
    · cases s1 <;> rfl
    · cases s2 <;> rfl
    · cases s3 <;> rfl
    · cases s4 <;> rfl
  have h20' : H20 D2 = some (.lst [if s0 = true then xb else V.ref p, if s1 = true then xh else .int (1 + hh), if s2 = true then xl else .int la, if s3 = true then xm else .int lb, if s4 = true then xf else .ref r]) := h20
  clear h20
  have hp0 : Dx H19 (.ref p) (dI ns) _ := dx_dI h19
  have hp4 : Dx H19 (.ref r) (dI ms) _ := dx_dI hr19
  obtain ⟨x0, ex0, d0, c0, dx0, pd0, fd0⟩ : ∃ x0, (if s0 = true then xb else V.ref p) = x0 ∧ ∃ d0 c0, Dx H19 x0 d0 c0 ∧ ((s0 = true ∧ isOD d0 = false) ∨ (s0 = false ∧ d0 = dI ns)) ∧ Fits 40 3000000 d0 := by
    refine ⟨_, rfl, ?_⟩
    cases s0 with
    | true => exact ⟨_, _, hb0, .inl ⟨rfl, pb0⟩, fb0⟩
    | false => exact ⟨_, _, hp0, .inr ⟨rfl, rfl⟩, (fit_list (fit_ints fun v hv => lt1900 (by have := isO_vals ho v hv; omega)) (by rw [List.length_map]; exact l2)).mono (by decide) (by decide)⟩
  obtain ⟨x1, ex1, d1, c1, dx1, pd1, fd1⟩ : ∃ x1, (if s1 = true then xh else V.int (1 + hh)) = x1 ∧ ∃ d1 c1, Dx H19 x1 d1 c1 ∧ inD d1 1 400 = (!s1) ∧ Fits 40 3000000 d1 := by
    refine ⟨_, rfl, ?_⟩
    cases s1 with
    | true => exact ⟨_, _, hb1, pb1, fb1⟩
    | false =>
      refine ⟨_, _, .int _, ?_, f1 (fit_int (lt1900 (by omega)))⟩
      show (decide ((1 : Int) ≤ 1 + hh) && decide (1 + hh ≤ 400)) = true
      rw [decide_eq_true (show (1 : Int) ≤ 1 + hh by omega), decide_eq_true (show 1 + hh ≤ 400 by omega)]; rfl
  have lnI : ∀ {z : Int}, 0 ≤ z → z < ((iv ns).length : Int) → lineD ns.length (.int z) = true := fun {z} z0 z1 => by
    show (decide ((0 : Int) ≤ z) && decide (z ≤ (ns.length : Int) - 1)) = true
    rw [decide_eq_true z0, decide_eq_true (show z ≤ (ns.length : Int) - 1 by omega)]; rfl
  obtain ⟨x2, ex2, d2, c2, dx2, pd2, fd2⟩ : ∃ x2, (if s2 = true then xl else V.int la) = x2 ∧ ∃ d2 c2, Dx H19 x2 d2 c2 ∧ lineD ns.length d2 = (!s2) ∧ Fits 40 3000000 d2 := by
    refine ⟨_, rfl, ?_⟩
    cases s2 with
    | true => exact ⟨_, _, hb2, pb2, fb2⟩
    | false => exact ⟨_, _, .int _, lnI la0 la1, f1 (fit_int (lt1900 (by omega)))⟩
  obtain ⟨x3, ex3, d3, c3, dx3, pd3, fd3⟩ : ∃ x3, (if s3 = true then xm else V.int lb) = x3 ∧ ∃ d3 c3, Dx H19 x3 d3 c3 ∧ lineD ns.length d3 = (!s3) ∧ Fits 40 3000000 d3 := by
    refine ⟨_, rfl, ?_⟩
    cases s3 with
    | true => exact ⟨_, _, hb3, pb3, fb3⟩
    | false => exact ⟨_, _, .int _, lnI lb0 lb1, f1 (fit_int (lt1900 (by omega)))⟩
  obtain ⟨x4, ex4, d4, c4, dx4, pd4, fd4⟩ : ∃ x4, (if s4 = true then xf else V.ref r) = x4 ∧ ∃ d4 c4, Dx H19 x4 d4 c4 ∧ ascD ((ns.length : Int) - 1) d4 = (!s4) ∧ Fits 40 3000000 d4 := by
    refine ⟨_, rfl, ?_⟩
    cases s4 with
    | true => exact ⟨_, _, hb4, pb4, fb4⟩
    | false =>
      refine ⟨_, _, hp4, ?_, (fit_list (fit_ints fun v hv => lt1900 (by have := mv v hv; omega)) (by rw [List.length_map]; exact Nat.le_trans ml l2)).mono (by decide) (by decide)⟩
      show ascDs _ 0 (ms.map PyData.int) = true
      rw [ascDs_dI]
      exact asc_of ma fun v hv => by have := mv v hv; omega
  rw [ex0, ex1, ex2, ex3, ex4] at h20'
  clear ex0 ex1 ex2 ex3 ex4 hb0 hb1 hb2 hb3 hb4 hp0 hp4 pb0 pb1 pb2 pb3 pb4 fb0 fb1 fb2 fb3 fb4 lnI
  have db : ∀ door : Int, dueK door d0 d1 d2 d3 d4 = bitsK door s0 s1 s2 s3 s4 := fun door => due_bits ho pd0 pd1 pd2 pd3 pd4
  have f5 : Fits 50 16000000 (.list [d0, d1, d2, d3, d4]) := (fit_list (n := 40) (L := 3000000) (m := 5) (fun d hd => by
    simp only [List.mem_cons, List.not_mem_nil, or_false] at hd
    rcases hd with rfl | rfl | rfl | rfl | rfl
    · exact fd0
    · exact fd1
    · exact fd2
    · exact fd3
    · exact fd4) (Nat.le_refl _)).mono (by decide) (by decide)
  have rowsD : ∀ {G : Hp}, Same H20 G → ∃ cs, Dx G (.ref D2) (.list [d0, d1, d2, d3, d4]) cs := fun s => by
    have s19 := s20.trans s
    exact ⟨_, .lst (s _ _ h20') (.cons (dx0.same s19) (.cons (dx1.same s19) (.cons (dx2.same s19) (.cons (dx3.same s19) (.cons (dx4.same s19) .nil)))))⟩
  obtain ⟨cs0, hD0⟩ := rowsD (Same.refl _)
  refine ⟨_, rfl, .ref D2, _, _, rfl, hD0, f5, ?_⟩
  refine ⟨(by decide : 5 ≤ sizeLine), fun wq wn _ => ?_⟩
  have yw := Same.new (o := .lst [.str "outline", .str "height", .str "line", .str "line", .str "folds"]) wn
  have hwq := upd_same (H := H20) (a := wq) (o := .lst [.str "outline", .str "height", .str "line", .str "line", .str "folds"])
  generalize upd H20 wq (.lst [.str "outline", .str "height", .str "line", .str "line", .str "folds"]) = H21 at yw hwq ⊢
  refine ⟨_, rfl, by decide, by decide, for_range (lo := 0) (n := 4) (fun dd σ H22 => (∃ v12 v13 v14 v15 v16 v17 v18, σ = [some (.ref b), some (.ref g), some (.ref p), some (.ref r), some (.ref qg), some (.int (0 + (i : Int))), some (.ref r2), some (.ref q3), some (.ref D), some (.ref D2), some (.str (PyData.list [d0, d1, d2, d3, d4]).shown), some (.ref wq), v12, v13, v14, v15, v16, v17, v18]) ∧ Same H21 H22)
    ⟨⟨_, _, _, _, _, _, _, rfl⟩, Same.refl _⟩ ?_ ?_⟩
  · rintro dd σ H22 hdd ⟨⟨v12, v13, v14, v15, v16, v17, v18, rfl⟩, s22⟩
    show gName 12 (.int (0 + (dd : Int))) _ _ _
    rw [Int.zero_add (dd : Int)]
    refine ⟨(by decide : 2 ≤ sizeLine), fun o1 u1 _ => ⟨(by decide : 4 ≤ sizeLine), fun o2 u2 _ => ⟨(by decide : 2 ≤ sizeLine), fun o3 u3 _ => ?_⟩⟩⟩
    have y3 := Same.new (o := .lst [V.ref o1, .ref o2]) u3
    have y2 := (Same.new (o := .lst [V.int 0, .int 1, .int 2, .int 3]) u2).trans y3
    have y1 := (Same.new (o := .lst [V.int 0, .int 4]) u1).trans y2
    have e1 := y2 _ _ (upd_same (H := H22) (a := o1) (o := .lst [V.int 0, .int 4]))
    have e2 := y3 _ _ (upd_same (a := o2) (o := .lst [V.int 0, .int 1, .int 2, .int 3]))
    have e3 := upd_same (H := upd (upd H22 o1 (.lst [V.int 0, .int 4])) o2 (.lst [V.int 0, .int 1, .int 2, .int 3])) (a := o3) (o := .lst [V.ref o1, .ref o2])
    generalize upd (upd (upd H22 o1 (.lst [V.int 0, .int 4])) o2 (.lst [V.int 0, .int 1, .int 2, .int 3])) o3 (.lst [V.ref o1, .ref o2]) = H23 at y1 e1 e2 e3 ⊢
    obtain ⟨oa, hat, hoa⟩ : ∃ (oa : Addr), atI [V.ref o1, .ref o2] (if decide ((1 : Int) < (dd : Int)) = true then 1 else 0) = some (.ref oa) ∧ H23 oa = some (.lst (iv (ordL (decide ((1 : Int) < (dd : Int)))))) := by
      by_cases c : (1 : Int) < (dd : Int)
      · rw [decide_eq_true c]; exact ⟨o2, rfl, e2⟩
      · rw [decide_eq_false c]; exact ⟨o1, rfl, e1⟩
    refine ⟨_, rfl, _, _, rfl, rfl, .inr ⟨_, rfl, o3, _, _, _, rfl, rfl, SqL.of e3, hat, ?_⟩⟩
    clear e1 e2 e3 hat
    have hol : (iv (ordL (decide ((1 : Int) < (dd : Int))))).length = (ordL (decide ((1 : Int) < (dd : Int)))).length := List.length_map _
    have hol4 : (ordL (decide ((1 : Int) < (dd : Int)))).length ≤ 4 := by cases decide ((1 : Int) < (dd : Int)) <;> decide
    have hw23 := (s22.trans y1) _ _ hwq
    have hb23 := (((s20.trans yw).trans s22).trans y1) _ _ hbs'
    refine ⟨_, rfl, oa, rfl, ⟨_, SqL.of hoa⟩, fun D3 hD3 => lcLn (K := K) (a := oa) (xs := iv (ordL (decide ((1 : Int) < (dd : Int))))) (fun z => [s0, s1, s2, s3, s4].getD ((ordL (decide ((1 : Int) < (dd : Int)))).getD z 0).toNat false) (fun z => V.str (w5.getD ((ordL (decide ((1 : Int) < (dd : Int)))).getD z 0).toNat "")) (SqL.of hoa) hD3 (by omega) (fun x => rfl) ?_ ?_ ?_⟩
    · intro z x H2 Q' hx s2 q
      obtain ⟨zz, zl, rfl, ez⟩ := ord_at hx
      rw [ez] at q
      exact ⟨_, rfl, _, rfl, D, _, _, _, rfl, rfl, SqL.of (s2 _ _ hb23), at_s zl, _, rfl, q H2 (Same.refl _)⟩
    · intro z x H2 Q' hx _ s2 q
      obtain ⟨zz, zl, rfl, ez⟩ := ord_at hx
      rw [ez] at q
      exact ⟨_, rfl, _, rfl, wq, _, _, _, rfl, rfl, SqL.of (s2 _ _ hw23), at_w zl, q H2 (Same.refl _)⟩
    intro H24 s24 h24
    rw [hol] at h24
    obtain ⟨due, edue⟩ : ∃ due, gives (ordL (decide ((1 : Int) < (dd : Int)))).length (fun z => [s0, s1, s2, s3, s4].getD ((ordL (decide ((1 : Int) < (dd : Int)))).getD z 0).toNat false) (fun z => V.str (w5.getD ((ordL (decide ((1 : Int) < (dd : Int)))).getD z 0).toNat "")) = due := ⟨_, rfl⟩
    have dfst := due_first (dd : Int) s0 s1 s2 s3 s4
    have dlen := gives_len (ordL (decide ((1 : Int) < (dd : Int)))).length (fun z => [s0, s1, s2, s3, s4].getD ((ordL (decide ((1 : Int) < (dd : Int)))).getD z 0).toNat false) (fun z => V.str (w5.getD ((ordL (decide ((1 : Int) < (dd : Int)))).getD z 0).toNat ""))
    rw [edue] at h24 dfst dlen
    refine ⟨(by decide : 1 ≤ sizeLine), fun nq nn _ => ?_⟩
    have y4 := Same.new (o := .lst [V.str "none"]) nn
    refine ⟨D3, nq, _, _, rfl, rfl, SqL.of (y4 _ _ h24), SqL.of upd_same, Nat.le_of_lt (small_line (by show due.length + 1 < _; omega)), fun dq dn _ => ?_⟩
    have y5 := y4.trans (Same.new (o := .lst (due ++ [V.str "none"])) dn)
    have hdq := upd_same (H := upd H24 nq (.lst [V.str "none"])) (a := dq) (o := .lst (due ++ [V.str "none"]))
    generalize upd (upd H24 nq (.lst [V.str "none"])) dq (.lst (due ++ [V.str "none"])) = H25 at y5 hdq ⊢
    have s2125 := ((s22.trans y1).trans s24).trans y5
    have s1925 := (s20.trans yw).trans s2125
    refine ⟨_, rfl, _, rfl, _, D2, x0, x1, x2, x3, x4, d0, d1, d2, d3, d4, c0, c1, c2, c3, c4, rfl, by omega, by omega, (yw.trans s2125) _ _ h20', dx0.same s1925, dx1.same s1925, dx2.same s1925, dx3.same s1925, dx4.same s1925, fun H26 s26 => ?_⟩
    rw [db]
    refine ⟨_, rfl, dq, _, _, _, rfl, rfl, SqL.of (s26 _ _ hdq), dfst, ?_⟩
    refine ⟨rfl, _, rfl, ?_⟩
    rw [decide_eq_true rfl]
    have s26' := s2125.trans s26
    obtain ⟨cs1, hD1⟩ := rowsD (yw.trans s26')
    refine iteF ⟨_, rfl, .ref D2, _, _, rfl, hD1, f5, _, rfl, rfl, _, rfl, ?_⟩
    rw [decide_eq_true rfl]
    exact iteF ⟨⟨_, _, _, _, _, _, _, rfl⟩, s26'⟩
  · rintro σ H22 ⟨⟨v12, v13, v14, v15, v16, v17, v18, rfl⟩, s22⟩
    have s1922 := (s20.trans yw).trans s22
    have ei : (0 : Int) + (i : Int) = (i : Int) := Int.zero_add _
    exact ⟨⟨_, _, _, _, _, _, _, _, _, _, _, _, _, _, rfl⟩, (b9.trans b919).trans (SameBut.of s1922), (g19.same s1922).mono (by omega)⟩
end
end SH

namespace SH
open PySem PySem.Spec PyProof.Rows L2
abbrev s_law : Stmt := topS 51
abbrev N_law : List Str := ["script", "k", "cell"]
abbrev P_law : List Str := ["script"]
theorem sc_law : FnScope N_law P_law (defScope s_law) := ⟨rfl, rfl, rfl, by decide +kernel, rfl, by decide +kernel, by decide +kernel⟩
section
variable {P : Program} {w : World} {K : PySem.W.Frag} {mg : Str → Option Value} {base : Heap}
def sp_law (K : PySem.W.Frag) : Sp := fun vs H Q _ => ∃ (a : Addr) (ns : List Int), vs = [.ref a] ∧ SqL K H a (iv ns) ∧ ns.length ≤ 63 ∧ ∀ H', Q (.bl true) H'
theorem ok_law (T : Txt mg) (h : At K mg "law" s_law)
    (g_law_cells : Has P w K mg base CX0 1 "_law_cells" s_law_cells P_law_cells (sp_law_cells K))
    (g_law_bag : Has P w K mg base CX0 1 "_law_bag" s_law_bag P_law_bag sp_law_bag)
    (g_law_right : Has P w K mg base CX0 8 "_law_right" s_law_right P_law_right (sp_law_right K)) :
    Has P w K mg base CX0 9 "law" s_law P_law (sp_law K) := by
  refine Has.of h sc_law (fun vs H Q E h => ?_) (fun _ _ _ _ _ _ us hl => match us, hl with | [_], _ => rfl) (fun f cdv A outer s H vs Q E room qt h => ?_)
  · obtain ⟨a, ns, rfl, _⟩ := h; rfl
  obtain ⟨a, ns, rfl, ha, hl, k⟩ := h
  refine ⟨_, (pss_cons (ps_for PassesOwn.never rfl (pi_enum (by rfl) T.enumerate (pa_cons (pe_has g_law_cells (room.mono (by decide)) qt (by rfl) pass0 (pa_cons (pv 0) pa_nil)) pa_nil)) (pg_tup rfl (pgs_cons (pg_name (i := 1) sc_law.nd rfl (Or.inl rfl) (hf := Or.inl rfl)) (pgs_cons (pg_name (i := 2) sc_law.nd rfl (Or.inl rfl) (hf := Or.inl rfl)) pgs_nil)))
        (pss_one (ps_if (pt_not (pt_val (pe_has g_law_right (room.mono (by decide)) qt (by rfl) pass0 (pa_cons (pv 0) (pa_cons (pe_has g_law_bag (room.mono (by decide)) qt (by rfl) pass0 (pa_cons (pv 2) (pa_cons (pv 1) pa_nil))) pa_nil)))))
          (pss_one (ps_ret pe_bl))
          pss_nil)))
      (pss_one (ps_ret pe_bl))), ?_⟩
  refine ⟨_, rfl, a, ns, rfl, ha, hl, fun ms p2 H3 lm hp s3 h3 => ?_⟩
  refine ⟨p2, _, rfl, SqL.of h3, ?_⟩
  refine for_enum (K := K) (a := p2) (xs := iv ms) (fun i σ H4 => (∃ v1 v2, σ = [some (.ref a), v1, v2]) ∧ Same H3 H4) ⟨⟨_, _, rfl⟩, Same.refl _⟩ (fun i σ H4 _ e => SqL.of (e.2 _ _ h3)) ?_ (fun σ H4 _ => k H4)
  rintro i v Tt σ H4 hi ⟨⟨v1, v2, rfl⟩, s4⟩ hT
  have il : i < ms.length := by have := (List.getElem?_eq_some_iff.mp hi).1; rwa [List.length_map] at this
  rw [iv_at il] at hi
  cases hi
  refine ⟨Tt, _, rfl, SqT.of upd_same, rfl, _, _, rfl, _, _, rfl, rfl, ?_⟩
  refine ⟨_, rfl, _, rfl, _, rfl, _, _, rfl, by omega, by omega, fun g H5 hg s5 g5 => ?_⟩
  have s05 := (s4.trans (Same.new hT)).trans s5
  have hg3 : H3 g = none := (s4.trans (Same.new hT)).free hg
  refine ⟨a, g, 0, ns, rfl, (s3.trans s05).seq ha, fun H' b => (s3.trans (Same.but s05 hg3 b)).seq ha, g5, by decide, fun H6 b6 => ⟨_, rfl, iteF ⟨⟨_, _, rfl⟩, Same.but s05 hg3 b6⟩⟩⟩
end
end SH

namespace SH
open PySem PySem.Spec PyProof.Rows L2
/-! ### the end -/
theorem all_mk {l : PySem.W.OpenLaw} {w : World} {K : PySem.W.Frag} {h : Heap} {mg : Str → Option Value} {fa : Addr} (X : K.In h) (G : h.Ns mainGlobals mg) (hfa : mg "law" = some (.ref fa))
    {f0 f1 f2 f3 f4 f5 f6 f7 f8 f9 f10 f11 f12 f13 f14 f15 f16 f17 f18 f19 f20 f21 f22 f23 f24 : Addr} {od0 an0 od1 an1 od2 an2 od3 an3 od4 an4 od5 an5 od6 an6 od7 an7 od8 an8 od9 an9 od10 an10 od11 an11 od12 an12 od13 an13 od14 an14 od15 an15 od16 an16 od17 an17 od18 an18 od19 an19 od20 an20 od21 an21 od22 an22 od23 an23 od24 an24 : Option Addr} {sl0 sl1 sl2 sl3 sl4 sl5 sl6 sl7 sl8 sl9 sl10 sl11 sl12 sl13 sl14 sl15 sl16 sl17 sl18 sl19 sl20 sl21 sl22 sl23 sl24 : Array (Option Value)}
    {oc0 kV0 dc0 pm0 cd0 ct0 oc1 kV1 dc1 pm1 cd1 ct1 oc2 kV2 dc2 pm2 cd2 ct2 oc3 kV3 dc3 pm3 cd3 ct3 oc4 kV4 dc4 pm4 cd4 ct4 oc5 kV5 dc5 pm5 cd5 ct5 oc6 kV6 dc6 pm6 cd6 ct6 oc7 kV7 dc7 pm7 cd7 ct7 oc8 kV8 dc8 pm8 cd8 ct8 oc9 kV9 dc9 pm9 cd9 ct9 oc10 kV10 dc10 pm10 cd10 ct10 oc11 kV11 dc11 pm11 cd11 ct11 oc12 kV12 dc12 pm12 cd12 ct12 oc13 kV13 dc13 pm13 cd13 ct13 oc14 kV14 dc14 pm14 cd14 ct14 oc15 kV15 dc15 pm15 cd15 ct15 oc16 kV16 dc16 pm16 cd16 ct16 oc17 kV17 dc17 pm17 cd17 ct17 oc18 kV18 dc18 pm18 cd18 ct18 oc19 kV19 dc19 pm19 cd19 ct19 oc20 kV20 dc20 pm20 cd20 ct20 oc21 kV21 dc21 pm21 cd21 ct21 oc22 kV22 dc22 pm22 cd22 ct22 oc23 kV23 dc23 pm23 cd23 ct23 oc24 kV24 dc24 pm24 cd24 ct24 : Value} {t_MOST_LINES t_MOST_ROWS : Tok}
    (a0 : PySem.W.nsIn K mainGlobals "is_integer_from" = some (some (.ref f0)))
    (l0 : K.lookup f0 = some ⟨oc0, od0, .func (PySem.W.fnOf "is_integer_from" "is_integer_from" (defArgs s_is_integer_from) (defBody s_is_integer_from) (defScope s_is_integer_from) .none kV0 dc0 pm0 an0 cd0 ct0), sl0⟩)
    (c0 : PySem.W.codeIn K cd0 "is_integer_from" = true) (k0 : PySem.W.keepIn K (.ref f0) = true)
    (a1 : PySem.W.nsIn K mainGlobals "is_integer_within" = some (some (.ref f1)))
    (l1 : K.lookup f1 = some ⟨oc1, od1, .func (PySem.W.fnOf "is_integer_within" "is_integer_within" (defArgs s_is_integer_within) (defBody s_is_integer_within) (defScope s_is_integer_within) .none kV1 dc1 pm1 an1 cd1 ct1), sl1⟩)
    (c1 : PySem.W.codeIn K cd1 "is_integer_within" = true) (k1 : PySem.W.keepIn K (.ref f1) = true)
    (a2 : PySem.W.nsIn K mainGlobals "is_outline" = some (some (.ref f2)))
    (l2 : K.lookup f2 = some ⟨oc2, od2, .func (PySem.W.fnOf "is_outline" "is_outline" (defArgs s_is_outline) (defBody s_is_outline) (defScope s_is_outline) .none kV2 dc2 pm2 an2 cd2 ct2), sl2⟩)
    (c2 : PySem.W.codeIn K cd2 "is_outline" = true) (k2 : PySem.W.keepIn K (.ref f2) = true)
    (a3 : PySem.W.nsIn K mainGlobals "check_outline" = some (some (.ref f3)))
    (l3 : K.lookup f3 = some ⟨oc3, od3, .func (PySem.W.fnOf "check_outline" "check_outline" (defArgs s_check_outline) (defBody s_check_outline) (defScope s_check_outline) .none kV3 dc3 pm3 an3 cd3 ct3), sl3⟩)
    (c3 : PySem.W.codeIn K cd3 "check_outline" = true) (k3 : PySem.W.keepIn K (.ref f3) = true)
    (a4 : PySem.W.nsIn K mainGlobals "check_line" = some (some (.ref f4)))
    (l4 : K.lookup f4 = some ⟨oc4, od4, .func (PySem.W.fnOf "check_line" "check_line" (defArgs s_check_line) (defBody s_check_line) (defScope s_check_line) .none kV4 dc4 pm4 an4 cd4 ct4), sl4⟩)
    (c4 : PySem.W.codeIn K cd4 "check_line" = true) (k4 : PySem.W.keepIn K (.ref f4) = true)
    (a5 : PySem.W.nsIn K mainGlobals "check_height" = some (some (.ref f5)))
    (l5 : K.lookup f5 = some ⟨oc5, od5, .func (PySem.W.fnOf "check_height" "check_height" (defArgs s_check_height) (defBody s_check_height) (defScope s_check_height) .none kV5 dc5 pm5 an5 cd5 ct5), sl5⟩)
    (c5 : PySem.W.codeIn K cd5 "check_height" = true) (k5 : PySem.W.keepIn K (.ref f5) = true)
    (a6 : PySem.W.nsIn K mainGlobals "last_of_section" = some (some (.ref f6)))
    (l6 : K.lookup f6 = some ⟨oc6, od6, .func (PySem.W.fnOf "last_of_section" "last_of_section" (defArgs s_last_of_section) (defBody s_last_of_section) (defScope s_last_of_section) .none kV6 dc6 pm6 an6 cd6 ct6), sl6⟩)
    (c6 : PySem.W.codeIn K cd6 "last_of_section" = true) (k6 : PySem.W.keepIn K (.ref f6) = true)
    (a7 : PySem.W.nsIn K mainGlobals "is_ascending_list" = some (some (.ref f7)))
    (l7 : K.lookup f7 = some ⟨oc7, od7, .func (PySem.W.fnOf "is_ascending_list" "is_ascending_list" (defArgs s_is_ascending_list) (defBody s_is_ascending_list) (defScope s_is_ascending_list) .none kV7 dc7 pm7 an7 cd7 ct7), sl7⟩)
    (c7 : PySem.W.codeIn K cd7 "is_ascending_list" = true) (k7 : PySem.W.keepIn K (.ref f7) = true)
    (a8 : PySem.W.nsIn K mainGlobals "lines_left" = some (some (.ref f8)))
    (l8 : K.lookup f8 = some ⟨oc8, od8, .func (PySem.W.fnOf "lines_left" "lines_left" (defArgs s_lines_left) (defBody s_lines_left) (defScope s_lines_left) .none kV8 dc8 pm8 an8 cd8 ct8), sl8⟩)
    (c8 : PySem.W.codeIn K cd8 "lines_left" = true) (k8 : PySem.W.keepIn K (.ref f8) = true)
    (a9 : PySem.W.nsIn K mainGlobals "folded_outline" = some (some (.ref f9)))
    (l9 : K.lookup f9 = some ⟨oc9, od9, .func (PySem.W.fnOf "folded_outline" "folded_outline" (defArgs s_folded_outline) (defBody s_folded_outline) (defScope s_folded_outline) .none kV9 dc9 pm9 an9 cd9 ct9), sl9⟩)
    (c9 : PySem.W.codeIn K cd9 "folded_outline" = true) (k9 : PySem.W.keepIn K (.ref f9) = true)
    (a10 : PySem.W.nsIn K mainGlobals "folds_between" = some (some (.ref f10)))
    (l10 : K.lookup f10 = some ⟨oc10, od10, .func (PySem.W.fnOf "folds_between" "folds_between" (defArgs s_folds_between) (defBody s_folds_between) (defScope s_folds_between) .none kV10 dc10 pm10 an10 cd10 ct10), sl10⟩)
    (c10 : PySem.W.codeIn K cd10 "folds_between" = true) (k10 : PySem.W.keepIn K (.ref f10) = true)
    (a11 : PySem.W.nsIn K mainGlobals "folds_to_show" = some (some (.ref f11)))
    (l11 : K.lookup f11 = some ⟨oc11, od11, .func (PySem.W.fnOf "folds_to_show" "folds_to_show" (defArgs s_folds_to_show) (defBody s_folds_to_show) (defScope s_folds_to_show) .none kV11 dc11 pm11 an11 cd11 ct11), sl11⟩)
    (c11 : PySem.W.codeIn K cd11 "folds_to_show" = true) (k11 : PySem.W.keepIn K (.ref f11) = true)
    (a12 : PySem.W.nsIn K mainGlobals "fewest_folds" = some (some (.ref f12)))
    (l12 : K.lookup f12 = some ⟨oc12, od12, .func (PySem.W.fnOf "fewest_folds" "fewest_folds" (defArgs s_fewest_folds) (defBody s_fewest_folds) (defScope s_fewest_folds) .none kV12 dc12 pm12 an12 cd12 ct12), sl12⟩)
    (c12 : PySem.W.codeIn K cd12 "fewest_folds" = true) (k12 : PySem.W.keepIn K (.ref f12) = true)
    (a13 : PySem.W.nsIn K mainGlobals "_law_bag" = some (some (.ref f13)))
    (l13 : K.lookup f13 = some ⟨oc13, od13, .func (PySem.W.fnOf "_law_bag" "_law_bag" (defArgs s_law_bag) (defBody s_law_bag) (defScope s_law_bag) .none kV13 dc13 pm13 an13 cd13 ct13), sl13⟩)
    (c13 : PySem.W.codeIn K cd13 "_law_bag" = true) (k13 : PySem.W.keepIn K (.ref f13) = true)
    (a14 : PySem.W.nsIn K mainGlobals "_law_draw" = some (some (.ref f14)))
    (l14 : K.lookup f14 = some ⟨oc14, od14, .func (PySem.W.fnOf "_law_draw" "_law_draw" (defArgs s_law_draw) (defBody s_law_draw) (defScope s_law_draw) .none kV14 dc14 pm14 an14 cd14 ct14), sl14⟩)
    (c14 : PySem.W.codeIn K cd14 "_law_draw" = true) (k14 : PySem.W.keepIn K (.ref f14) = true)
    (a15 : PySem.W.nsIn K mainGlobals "_law_rising" = some (some (.ref f15)))
    (l15 : K.lookup f15 = some ⟨oc15, od15, .func (PySem.W.fnOf "_law_rising" "_law_rising" (defArgs s_law_rising) (defBody s_law_rising) (defScope s_law_rising) .none kV15 dc15 pm15 an15 cd15 ct15), sl15⟩)
    (c15 : PySem.W.codeIn K cd15 "_law_rising" = true) (k15 : PySem.W.keepIn K (.ref f15) = true)
    (a16 : PySem.W.nsIn K mainGlobals "_law_cells" = some (some (.ref f16)))
    (l16 : K.lookup f16 = some ⟨oc16, od16, .func (PySem.W.fnOf "_law_cells" "_law_cells" (defArgs s_law_cells) (defBody s_law_cells) (defScope s_law_cells) .none kV16 dc16 pm16 an16 cd16 ct16), sl16⟩)
    (c16 : PySem.W.codeIn K cd16 "_law_cells" = true) (k16 : PySem.W.keepIn K (.ref f16) = true)
    (a17 : PySem.W.nsIn K mainGlobals "_law_sized" = some (some (.ref f17)))
    (l17 : K.lookup f17 = some ⟨oc17, od17, .func (PySem.W.fnOf "_law_sized" "_law_sized" (defArgs s_law_sized) (defBody s_law_sized) (defScope s_law_sized) .none kV17 dc17 pm17 an17 cd17 ct17), sl17⟩)
    (c17 : PySem.W.codeIn K cd17 "_law_sized" = true) (k17 : PySem.W.keepIn K (.ref f17) = true)
    (a18 : PySem.W.nsIn K mainGlobals "_law_places" = some (some (.ref f18)))
    (l18 : K.lookup f18 = some ⟨oc18, od18, .func (PySem.W.fnOf "_law_places" "_law_places" (defArgs s_law_places) (defBody s_law_places) (defScope s_law_places) .none kV18 dc18 pm18 an18 cd18 ct18), sl18⟩)
    (c18 : PySem.W.codeIn K cd18 "_law_places" = true) (k18 : PySem.W.keepIn K (.ref f18) = true)
    (a19 : PySem.W.nsIn K mainGlobals "_law_no_outline" = some (some (.ref f19)))
    (l19 : K.lookup f19 = some ⟨oc19, od19, .func (PySem.W.fnOf "_law_no_outline" "_law_no_outline" (defArgs s_law_no_outline) (defBody s_law_no_outline) (defScope s_law_no_outline) .none kV19 dc19 pm19 an19 cd19 ct19), sl19⟩)
    (c19 : PySem.W.codeIn K cd19 "_law_no_outline" = true) (k19 : PySem.W.keepIn K (.ref f19) = true)
    (a20 : PySem.W.nsIn K mainGlobals "_law_no_folds" = some (some (.ref f20)))
    (l20 : K.lookup f20 = some ⟨oc20, od20, .func (PySem.W.fnOf "_law_no_folds" "_law_no_folds" (defArgs s_law_no_folds) (defBody s_law_no_folds) (defScope s_law_no_folds) .none kV20 dc20 pm20 an20 cd20 ct20), sl20⟩)
    (c20 : PySem.W.codeIn K cd20 "_law_no_folds" = true) (k20 : PySem.W.keepIn K (.ref f20) = true)
    (a21 : PySem.W.nsIn K mainGlobals "_law_kind" = some (some (.ref f21)))
    (l21 : K.lookup f21 = some ⟨oc21, od21, .func (PySem.W.fnOf "_law_kind" "_law_kind" (defArgs s_law_kind) (defBody s_law_kind) (defScope s_law_kind) .none kV21 dc21 pm21 an21 cd21 ct21), sl21⟩)
    (c21 : PySem.W.codeIn K cd21 "_law_kind" = true) (k21 : PySem.W.keepIn K (.ref f21) = true)
    (a22 : PySem.W.nsIn K mainGlobals "_law_error" = some (some (.ref f22)))
    (l22 : K.lookup f22 = some ⟨oc22, od22, .func (PySem.W.fnOf "_law_error" "_law_error" (defArgs s_law_error) (defBody s_law_error) (defScope s_law_error) .none kV22 dc22 pm22 an22 cd22 ct22), sl22⟩)
    (c22 : PySem.W.codeIn K cd22 "_law_error" = true) (k22 : PySem.W.keepIn K (.ref f22) = true)
    (a23 : PySem.W.nsIn K mainGlobals "_law_right" = some (some (.ref f23)))
    (l23 : K.lookup f23 = some ⟨oc23, od23, .func (PySem.W.fnOf "_law_right" "_law_right" (defArgs s_law_right) (defBody s_law_right) (defScope s_law_right) .none kV23 dc23 pm23 an23 cd23 ct23), sl23⟩)
    (c23 : PySem.W.codeIn K cd23 "_law_right" = true) (k23 : PySem.W.keepIn K (.ref f23) = true)
    (a24 : PySem.W.nsIn K mainGlobals "law" = some (some (.ref f24)))
    (l24 : K.lookup f24 = some ⟨oc24, od24, .func (PySem.W.fnOf "law" "law" (defArgs s_law) (defBody s_law) (defScope s_law) .none kV24 dc24 pm24 an24 cd24 ct24), sl24⟩)
    (c24 : PySem.W.codeIn K cd24 "law" = true) (k24 : PySem.W.keepIn K (.ref f24) = true)
    (z_len : PySem.W.nsIn K mainGlobals "len" = some none)
    (z_range : PySem.W.nsIn K mainGlobals "range" = some none)
    (z_repr : PySem.W.nsIn K mainGlobals "repr" = some none)
    (z_min : PySem.W.nsIn K mainGlobals "min" = some none)
    (z_max : PySem.W.nsIn K mainGlobals "max" = some none)
    (z_int : PySem.W.nsIn K mainGlobals "int" = some none)
    (z_list : PySem.W.nsIn K mainGlobals "list" = some none)
    (z_type : PySem.W.nsIn K mainGlobals "type" = some none)
    (z_bool : PySem.W.nsIn K mainGlobals "bool" = some none)
    (z_tuple : PySem.W.nsIn K mainGlobals "tuple" = some none)
    (z_isinstance : PySem.W.nsIn K mainGlobals "isinstance" = some none)
    (z_enumerate : PySem.W.nsIn K mainGlobals "enumerate" = some none)
    (z_str : PySem.W.nsIn K mainGlobals "str" = some none)
    (z_zip : PySem.W.nsIn K mainGlobals "zip" = some none)
    (z_all : PySem.W.nsIn K mainGlobals "all" = some none)
    (z_any : PySem.W.nsIn K mainGlobals "any" = some none)
    (z_sum : PySem.W.nsIn K mainGlobals "sum" = some none)
    (z_abs : PySem.W.nsIn K mainGlobals "abs" = some none)
    (z_sorted : PySem.W.nsIn K mainGlobals "sorted" = some none)
    (z_set : PySem.W.nsIn K mainGlobals "set" = some none)
    (z_dict : PySem.W.nsIn K mainGlobals "dict" = some none)
    (z_reversed : PySem.W.nsIn K mainGlobals "reversed" = some none)
    (z_divmod : PySem.W.nsIn K mainGlobals "divmod" = some none)
    (m_MOST_LINES : PySem.W.nsIn K mainGlobals "MOST_LINES" = some (some (.int 200 t_MOST_LINES)))
    (m_MOST_ROWS : PySem.W.nsIn K mainGlobals "MOST_ROWS" = some (some (.int 400 t_MOST_ROWS)))
    {C_EmptyHistoryError : Addr} (ea_EmptyHistoryError : PySem.W.nsIn K mainGlobals "EmptyHistoryError" = some (some (.ref C_EmptyHistoryError)))
    {C_EndError : Addr} (ea_EndError : PySem.W.nsIn K mainGlobals "EndError" = some (some (.ref C_EndError)))
    {C_HiddenLineError : Addr} (ea_HiddenLineError : PySem.W.nsIn K mainGlobals "HiddenLineError" = some (some (.ref C_HiddenLineError)))
    {C_InvalidDepthError : Addr} (ea_InvalidDepthError : PySem.W.nsIn K mainGlobals "InvalidDepthError" = some (some (.ref C_InvalidDepthError)))
    {C_InvalidDocumentError : Addr} (ea_InvalidDocumentError : PySem.W.nsIn K mainGlobals "InvalidDocumentError" = some (some (.ref C_InvalidDocumentError)))
    {C_InvalidNumberError : Addr} (ea_InvalidNumberError : PySem.W.nsIn K mainGlobals "InvalidNumberError" = some (some (.ref C_InvalidNumberError)))
    {C_InvalidObservationsError : Addr} (ea_InvalidObservationsError : PySem.W.nsIn K mainGlobals "InvalidObservationsError" = some (some (.ref C_InvalidObservationsError)))
    {C_InvalidReadingError : Addr} (ea_InvalidReadingError : PySem.W.nsIn K mainGlobals "InvalidReadingError" = some (some (.ref C_InvalidReadingError)))
    {C_InvalidScrollError : Addr} (ea_InvalidScrollError : PySem.W.nsIn K mainGlobals "InvalidScrollError" = some (some (.ref C_InvalidScrollError)))
    {C_InvalidTextError : Addr} (ea_InvalidTextError : PySem.W.nsIn K mainGlobals "InvalidTextError" = some (some (.ref C_InvalidTextError)))
    {C_InvalidTitleError : Addr} (ea_InvalidTitleError : PySem.W.nsIn K mainGlobals "InvalidTitleError" = some (some (.ref C_InvalidTitleError)))
    {C_TooDeepError : Addr} (ea_TooDeepError : PySem.W.nsIn K mainGlobals "TooDeepError" = some (some (.ref C_TooDeepError)))
    {C_TooManyLinesError : Addr} (ea_TooManyLinesError : PySem.W.nsIn K mainGlobals "TooManyLinesError" = some (some (.ref C_TooManyLinesError)))
    {C_EmptyOutlineError : Addr} (ea_EmptyOutlineError : PySem.W.nsIn K mainGlobals "EmptyOutlineError" = some (some (.ref C_EmptyOutlineError)))
    (zn_ValueError : PySem.W.nsIn K mainGlobals "ValueError" = some none)
    {C_InvalidOutlineError : Addr} (ea_InvalidOutlineError : PySem.W.nsIn K mainGlobals "InvalidOutlineError" = some (some (.ref C_InvalidOutlineError))) (eq_InvalidOutlineError : PySem.W.excIn K C_InvalidOutlineError HandSPX.veTail "ValueError.__new__" = true) (ek_InvalidOutlineError : PySem.W.keepIn K (.ref C_InvalidOutlineError) = true)
    (ee_InvalidOutlineError : PySem.W.subIn K (.ref C_InvalidOutlineError) (.type "BaseException") = some true) (et_InvalidOutlineError : PySem.W.typeIn K (.ref C_InvalidOutlineError) = some (.type "type"))
    {C_InvalidLineError : Addr} (ea_InvalidLineError : PySem.W.nsIn K mainGlobals "InvalidLineError" = some (some (.ref C_InvalidLineError))) (eq_InvalidLineError : PySem.W.excIn K C_InvalidLineError HandSPX.veTail "ValueError.__new__" = true) (ek_InvalidLineError : PySem.W.keepIn K (.ref C_InvalidLineError) = true)
    (ee_InvalidLineError : PySem.W.subIn K (.ref C_InvalidLineError) (.type "BaseException") = some true) (et_InvalidLineError : PySem.W.typeIn K (.ref C_InvalidLineError) = some (.type "type"))
    {C_InvalidHeightError : Addr} (ea_InvalidHeightError : PySem.W.nsIn K mainGlobals "InvalidHeightError" = some (some (.ref C_InvalidHeightError))) (eq_InvalidHeightError : PySem.W.excIn K C_InvalidHeightError HandSPX.veTail "ValueError.__new__" = true) (ek_InvalidHeightError : PySem.W.keepIn K (.ref C_InvalidHeightError) = true)
    (ee_InvalidHeightError : PySem.W.subIn K (.ref C_InvalidHeightError) (.type "BaseException") = some true) (et_InvalidHeightError : PySem.W.typeIn K (.ref C_InvalidHeightError) = some (.type "type"))
    {C_InvalidFoldsError : Addr} (ea_InvalidFoldsError : PySem.W.nsIn K mainGlobals "InvalidFoldsError" = some (some (.ref C_InvalidFoldsError))) (eq_InvalidFoldsError : PySem.W.excIn K C_InvalidFoldsError HandSPX.veTail "ValueError.__new__" = true) (ek_InvalidFoldsError : PySem.W.keepIn K (.ref C_InvalidFoldsError) = true)
    (ee_InvalidFoldsError : PySem.W.subIn K (.ref C_InvalidFoldsError) (.type "BaseException") = some true) (et_InvalidFoldsError : PySem.W.typeIn K (.ref C_InvalidFoldsError) = some (.type "type"))
    {C_StickyHeadsError : Addr} (ea_StickyHeadsError : PySem.W.nsIn K mainGlobals "StickyHeadsError" = some (some (.ref C_StickyHeadsError))) (eq_StickyHeadsError : PySem.W.excIn K C_StickyHeadsError HandSPX.veTail "ValueError.__new__" = true) (ek_StickyHeadsError : PySem.W.keepIn K (.ref C_StickyHeadsError) = true)
    (ee_StickyHeadsError : PySem.W.subIn K (.ref C_StickyHeadsError) (.type "BaseException") = some true) (et_StickyHeadsError : PySem.W.typeIn K (.ref C_StickyHeadsError) = some (.type "type"))
    (ei_StickyHeadsError : PySem.W.isClsIn K C_StickyHeadsError = true)
    (es_InvalidOutlineError_StickyHeadsError : PySem.W.subIn K (.ref C_InvalidOutlineError) (.ref C_StickyHeadsError) = some true)
    (es_InvalidHeightError_StickyHeadsError : PySem.W.subIn K (.ref C_InvalidHeightError) (.ref C_StickyHeadsError) = some true)
    (es_InvalidLineError_StickyHeadsError : PySem.W.subIn K (.ref C_InvalidLineError) (.ref C_StickyHeadsError) = some true)
    (es_InvalidFoldsError_StickyHeadsError : PySem.W.subIn K (.ref C_InvalidFoldsError) (.ref C_StickyHeadsError) = some true)
    (yg_O : PySem.W.findIn K (.ref C_InvalidOutlineError) "__getattribute__" = some (some (.builtin "BaseException.__getattribute__"))) (yh_O : PySem.W.findIn K (.ref C_InvalidOutlineError) "__getattr__" = some none) (yd_O : PySem.W.hasDictIn K C_InvalidOutlineError = true) (ys_O : PySem.W.subIn K (.ref C_InvalidOutlineError) (.type "BaseException") = some true)
    (ya_O : PySem.W.findIn K (.ref C_InvalidOutlineError) "__class__" = some (some (.builtin "object.__class__"))) (ym_O : PySem.W.mroIn K C_InvalidOutlineError (.type "object") = some true) (yk_O : Kits K C_InvalidOutlineError (kk C_EmptyHistoryError C_EndError C_HiddenLineError C_InvalidDepthError C_InvalidDocumentError C_InvalidNumberError C_InvalidObservationsError C_InvalidReadingError C_InvalidScrollError C_InvalidTextError C_InvalidTitleError C_TooDeepError C_TooManyLinesError C_EmptyOutlineError C_InvalidOutlineError C_InvalidHeightError C_InvalidLineError C_InvalidFoldsError 0))
    (yg_H : PySem.W.findIn K (.ref C_InvalidHeightError) "__getattribute__" = some (some (.builtin "BaseException.__getattribute__"))) (yh_H : PySem.W.findIn K (.ref C_InvalidHeightError) "__getattr__" = some none) (yd_H : PySem.W.hasDictIn K C_InvalidHeightError = true) (ys_H : PySem.W.subIn K (.ref C_InvalidHeightError) (.type "BaseException") = some true)
    (ya_H : PySem.W.findIn K (.ref C_InvalidHeightError) "__class__" = some (some (.builtin "object.__class__"))) (ym_H : PySem.W.mroIn K C_InvalidHeightError (.type "object") = some true) (yk_H : Kits K C_InvalidHeightError (kk C_EmptyHistoryError C_EndError C_HiddenLineError C_InvalidDepthError C_InvalidDocumentError C_InvalidNumberError C_InvalidObservationsError C_InvalidReadingError C_InvalidScrollError C_InvalidTextError C_InvalidTitleError C_TooDeepError C_TooManyLinesError C_EmptyOutlineError C_InvalidOutlineError C_InvalidHeightError C_InvalidLineError C_InvalidFoldsError 1))
    (yg_L : PySem.W.findIn K (.ref C_InvalidLineError) "__getattribute__" = some (some (.builtin "BaseException.__getattribute__"))) (yh_L : PySem.W.findIn K (.ref C_InvalidLineError) "__getattr__" = some none) (yd_L : PySem.W.hasDictIn K C_InvalidLineError = true) (ys_L : PySem.W.subIn K (.ref C_InvalidLineError) (.type "BaseException") = some true)
    (ya_L : PySem.W.findIn K (.ref C_InvalidLineError) "__class__" = some (some (.builtin "object.__class__"))) (ym_L : PySem.W.mroIn K C_InvalidLineError (.type "object") = some true) (yk_L : Kits K C_InvalidLineError (kk C_EmptyHistoryError C_EndError C_HiddenLineError C_InvalidDepthError C_InvalidDocumentError C_InvalidNumberError C_InvalidObservationsError C_InvalidReadingError C_InvalidScrollError C_InvalidTextError C_InvalidTitleError C_TooDeepError C_TooManyLinesError C_EmptyOutlineError C_InvalidOutlineError C_InvalidHeightError C_InvalidLineError C_InvalidFoldsError 2))
    (yg_F : PySem.W.findIn K (.ref C_InvalidFoldsError) "__getattribute__" = some (some (.builtin "BaseException.__getattribute__"))) (yh_F : PySem.W.findIn K (.ref C_InvalidFoldsError) "__getattr__" = some none) (yd_F : PySem.W.hasDictIn K C_InvalidFoldsError = true) (ys_F : PySem.W.subIn K (.ref C_InvalidFoldsError) (.type "BaseException") = some true)
    (ya_F : PySem.W.findIn K (.ref C_InvalidFoldsError) "__class__" = some (some (.builtin "object.__class__"))) (ym_F : PySem.W.mroIn K C_InvalidFoldsError (.type "object") = some true) (yk_F : Kits K C_InvalidFoldsError (kk C_EmptyHistoryError C_EndError C_HiddenLineError C_InvalidDepthError C_InvalidDocumentError C_InvalidNumberError C_InvalidObservationsError C_InvalidReadingError C_InvalidScrollError C_InvalidTextError C_InvalidTitleError C_TooDeepError C_TooManyLinesError C_EmptyOutlineError C_InvalidOutlineError C_InvalidHeightError C_InvalidLineError C_InvalidFoldsError 3))
    (y0n : PySem.W.specialIn K (.builtin "object.__class__") "__get__" = some (some (.builtin "getset_descriptor.__get__"))) (y0t : PySem.W.takesIn K (.builtin "object.__class__") = some true)
    : ∃ fd : FuncData, (∀ (s : Shared) (v : Value), BindsTo s fd ⟨[v], []⟩ [("script", v)]) ∧
      ∀ base : Heap, K.In base → base.Ns mainGlobals mg → FnG l.prog w K mg base CX0 9 fa fd ["script"] (sp_law K) := by
  have T : Txt mg := ⟨PySem.W.mg_none_of X G z_len, PySem.W.mg_none_of X G z_range, PySem.W.mg_none_of X G z_repr, PySem.W.mg_none_of X G z_min, PySem.W.mg_none_of X G z_max, PySem.W.mg_none_of X G z_int, PySem.W.mg_none_of X G z_list, PySem.W.mg_none_of X G z_type, PySem.W.mg_none_of X G z_bool, PySem.W.mg_none_of X G z_tuple, PySem.W.mg_none_of X G z_isinstance, PySem.W.mg_none_of X G z_enumerate, PySem.W.mg_none_of X G z_str, PySem.W.mg_none_of X G z_zip, PySem.W.mg_none_of X G z_all, PySem.W.mg_none_of X G z_any, PySem.W.mg_none_of X G z_sum, PySem.W.mg_none_of X G z_abs, PySem.W.mg_none_of X G z_sorted, PySem.W.mg_none_of X G z_set, PySem.W.mg_none_of X G z_dict, PySem.W.mg_none_of X G z_reversed, PySem.W.mg_none_of X G z_divmod⟩
  have c_MOST_LINES := PySem.W.mg_of X G m_MOST_LINES
  have c_MOST_ROWS := PySem.W.mg_of X G m_MOST_ROWS
  have e_InvalidOutlineError : Err K mg "InvalidOutlineError" C_InvalidOutlineError := ⟨PySem.W.mg_of X G ea_InvalidOutlineError, eq_InvalidOutlineError, ek_InvalidOutlineError, ee_InvalidOutlineError, et_InvalidOutlineError⟩
  have e_InvalidLineError : Err K mg "InvalidLineError" C_InvalidLineError := ⟨PySem.W.mg_of X G ea_InvalidLineError, eq_InvalidLineError, ek_InvalidLineError, ee_InvalidLineError, et_InvalidLineError⟩
  have e_InvalidHeightError : Err K mg "InvalidHeightError" C_InvalidHeightError := ⟨PySem.W.mg_of X G ea_InvalidHeightError, eq_InvalidHeightError, ek_InvalidHeightError, ee_InvalidHeightError, et_InvalidHeightError⟩
  have e_InvalidFoldsError : Err K mg "InvalidFoldsError" C_InvalidFoldsError := ⟨PySem.W.mg_of X G ea_InvalidFoldsError, eq_InvalidFoldsError, ek_InvalidFoldsError, ee_InvalidFoldsError, et_InvalidFoldsError⟩
  have e_StickyHeadsError : Err K mg "StickyHeadsError" C_StickyHeadsError := ⟨PySem.W.mg_of X G ea_StickyHeadsError, eq_StickyHeadsError, ek_StickyHeadsError, ee_StickyHeadsError, et_StickyHeadsError⟩
  have n_ValueError := PySem.W.mg_none_of X G zn_ValueError
  have k_EmptyHistoryError : mg "EmptyHistoryError" = some (.ref C_EmptyHistoryError) := PySem.W.mg_of X G ea_EmptyHistoryError
  have k_EndError : mg "EndError" = some (.ref C_EndError) := PySem.W.mg_of X G ea_EndError
  have k_HiddenLineError : mg "HiddenLineError" = some (.ref C_HiddenLineError) := PySem.W.mg_of X G ea_HiddenLineError
  have k_InvalidDepthError : mg "InvalidDepthError" = some (.ref C_InvalidDepthError) := PySem.W.mg_of X G ea_InvalidDepthError
  have k_InvalidDocumentError : mg "InvalidDocumentError" = some (.ref C_InvalidDocumentError) := PySem.W.mg_of X G ea_InvalidDocumentError
  have k_InvalidNumberError : mg "InvalidNumberError" = some (.ref C_InvalidNumberError) := PySem.W.mg_of X G ea_InvalidNumberError
  have k_InvalidObservationsError : mg "InvalidObservationsError" = some (.ref C_InvalidObservationsError) := PySem.W.mg_of X G ea_InvalidObservationsError
  have k_InvalidReadingError : mg "InvalidReadingError" = some (.ref C_InvalidReadingError) := PySem.W.mg_of X G ea_InvalidReadingError
  have k_InvalidScrollError : mg "InvalidScrollError" = some (.ref C_InvalidScrollError) := PySem.W.mg_of X G ea_InvalidScrollError
  have k_InvalidTextError : mg "InvalidTextError" = some (.ref C_InvalidTextError) := PySem.W.mg_of X G ea_InvalidTextError
  have k_InvalidTitleError : mg "InvalidTitleError" = some (.ref C_InvalidTitleError) := PySem.W.mg_of X G ea_InvalidTitleError
  have k_TooDeepError : mg "TooDeepError" = some (.ref C_TooDeepError) := PySem.W.mg_of X G ea_TooDeepError
  have k_TooManyLinesError : mg "TooManyLinesError" = some (.ref C_TooManyLinesError) := PySem.W.mg_of X G ea_TooManyLinesError
  have k_EmptyOutlineError : mg "EmptyOutlineError" = some (.ref C_EmptyOutlineError) := PySem.W.mg_of X G ea_EmptyOutlineError
  have k_InvalidOutlineError : mg "InvalidOutlineError" = some (.ref C_InvalidOutlineError) := PySem.W.mg_of X G ea_InvalidOutlineError
  have k_InvalidHeightError : mg "InvalidHeightError" = some (.ref C_InvalidHeightError) := PySem.W.mg_of X G ea_InvalidHeightError
  have k_InvalidLineError : mg "InvalidLineError" = some (.ref C_InvalidLineError) := PySem.W.mg_of X G ea_InvalidLineError
  have k_InvalidFoldsError : mg "InvalidFoldsError" = some (.ref C_InvalidFoldsError) := PySem.W.mg_of X G ea_InvalidFoldsError
  have y_O : ErK K C_InvalidOutlineError (kk C_EmptyHistoryError C_EndError C_HiddenLineError C_InvalidDepthError C_InvalidDocumentError C_InvalidNumberError C_InvalidObservationsError C_InvalidReadingError C_InvalidScrollError C_InvalidTextError C_InvalidTitleError C_TooDeepError C_TooManyLinesError C_EmptyOutlineError C_InvalidOutlineError C_InvalidHeightError C_InvalidLineError C_InvalidFoldsError 0) := ⟨⟨yg_O, yh_O, ys_O, yd_O, ya_O, y0n, y0t, ym_O⟩, yk_O⟩
  have y_H : ErK K C_InvalidHeightError (kk C_EmptyHistoryError C_EndError C_HiddenLineError C_InvalidDepthError C_InvalidDocumentError C_InvalidNumberError C_InvalidObservationsError C_InvalidReadingError C_InvalidScrollError C_InvalidTextError C_InvalidTitleError C_TooDeepError C_TooManyLinesError C_EmptyOutlineError C_InvalidOutlineError C_InvalidHeightError C_InvalidLineError C_InvalidFoldsError 1) := ⟨⟨yg_H, yh_H, ys_H, yd_H, ya_H, y0n, y0t, ym_H⟩, yk_H⟩
  have y_L : ErK K C_InvalidLineError (kk C_EmptyHistoryError C_EndError C_HiddenLineError C_InvalidDepthError C_InvalidDocumentError C_InvalidNumberError C_InvalidObservationsError C_InvalidReadingError C_InvalidScrollError C_InvalidTextError C_InvalidTitleError C_TooDeepError C_TooManyLinesError C_EmptyOutlineError C_InvalidOutlineError C_InvalidHeightError C_InvalidLineError C_InvalidFoldsError 2) := ⟨⟨yg_L, yh_L, ys_L, yd_L, ya_L, y0n, y0t, ym_L⟩, yk_L⟩
  have y_F : ErK K C_InvalidFoldsError (kk C_EmptyHistoryError C_EndError C_HiddenLineError C_InvalidDepthError C_InvalidDocumentError C_InvalidNumberError C_InvalidObservationsError C_InvalidReadingError C_InvalidScrollError C_InvalidTextError C_InvalidTitleError C_TooDeepError C_TooManyLinesError C_EmptyOutlineError C_InvalidOutlineError C_InvalidHeightError C_InvalidLineError C_InvalidFoldsError 3) := ⟨⟨yg_F, yh_F, ys_F, yd_F, ya_F, y0n, y0t, ym_F⟩, yk_F⟩
  have x_O : Catch K C_InvalidOutlineError C_StickyHeadsError true := Catch.of ee_StickyHeadsError ei_StickyHeadsError et_StickyHeadsError es_InvalidOutlineError_StickyHeadsError
  have x_H : Catch K C_InvalidHeightError C_StickyHeadsError true := Catch.of ee_StickyHeadsError ei_StickyHeadsError et_StickyHeadsError es_InvalidHeightError_StickyHeadsError
  have x_L : Catch K C_InvalidLineError C_StickyHeadsError true := Catch.of ee_StickyHeadsError ei_StickyHeadsError et_StickyHeadsError es_InvalidLineError_StickyHeadsError
  have x_F : Catch K C_InvalidFoldsError C_StickyHeadsError true := Catch.of ee_StickyHeadsError ei_StickyHeadsError et_StickyHeadsError es_InvalidFoldsError_StickyHeadsError
  have at_is_integer_from : At K mg "is_integer_from" s_is_integer_from := ⟨f0, _, fun_mk l0 c0 k0, PySem.W.mg_of X G a0⟩
  have at_is_integer_within : At K mg "is_integer_within" s_is_integer_within := ⟨f1, _, fun_mk l1 c1 k1, PySem.W.mg_of X G a1⟩
  have at_is_outline : At K mg "is_outline" s_is_outline := ⟨f2, _, fun_mk l2 c2 k2, PySem.W.mg_of X G a2⟩
  have at_check_outline : At K mg "check_outline" s_check_outline := ⟨f3, _, fun_mk l3 c3 k3, PySem.W.mg_of X G a3⟩
  have at_check_line : At K mg "check_line" s_check_line := ⟨f4, _, fun_mk l4 c4 k4, PySem.W.mg_of X G a4⟩
  have at_check_height : At K mg "check_height" s_check_height := ⟨f5, _, fun_mk l5 c5 k5, PySem.W.mg_of X G a5⟩
  have at_last_of_section : At K mg "last_of_section" s_last_of_section := ⟨f6, _, fun_mk l6 c6 k6, PySem.W.mg_of X G a6⟩
  have at_is_ascending_list : At K mg "is_ascending_list" s_is_ascending_list := ⟨f7, _, fun_mk l7 c7 k7, PySem.W.mg_of X G a7⟩
  have at_lines_left : At K mg "lines_left" s_lines_left := ⟨f8, _, fun_mk l8 c8 k8, PySem.W.mg_of X G a8⟩
  have at_folded_outline : At K mg "folded_outline" s_folded_outline := ⟨f9, _, fun_mk l9 c9 k9, PySem.W.mg_of X G a9⟩
  have at_folds_between : At K mg "folds_between" s_folds_between := ⟨f10, _, fun_mk l10 c10 k10, PySem.W.mg_of X G a10⟩
  have at_folds_to_show : At K mg "folds_to_show" s_folds_to_show := ⟨f11, _, fun_mk l11 c11 k11, PySem.W.mg_of X G a11⟩
  have at_fewest_folds : At K mg "fewest_folds" s_fewest_folds := ⟨f12, _, fun_mk l12 c12 k12, PySem.W.mg_of X G a12⟩
  have at_law_bag : At K mg "_law_bag" s_law_bag := ⟨f13, _, fun_mk l13 c13 k13, PySem.W.mg_of X G a13⟩
  have at_law_draw : At K mg "_law_draw" s_law_draw := ⟨f14, _, fun_mk l14 c14 k14, PySem.W.mg_of X G a14⟩
  have at_law_rising : At K mg "_law_rising" s_law_rising := ⟨f15, _, fun_mk l15 c15 k15, PySem.W.mg_of X G a15⟩
  have at_law_cells : At K mg "_law_cells" s_law_cells := ⟨f16, _, fun_mk l16 c16 k16, PySem.W.mg_of X G a16⟩
  have at_law_sized : At K mg "_law_sized" s_law_sized := ⟨f17, _, fun_mk l17 c17 k17, PySem.W.mg_of X G a17⟩
  have at_law_places : At K mg "_law_places" s_law_places := ⟨f18, _, fun_mk l18 c18 k18, PySem.W.mg_of X G a18⟩
  have at_law_no_outline : At K mg "_law_no_outline" s_law_no_outline := ⟨f19, _, fun_mk l19 c19 k19, PySem.W.mg_of X G a19⟩
  have at_law_no_folds : At K mg "_law_no_folds" s_law_no_folds := ⟨f20, _, fun_mk l20 c20 k20, PySem.W.mg_of X G a20⟩
  have at_law_kind : At K mg "_law_kind" s_law_kind := ⟨f21, _, fun_mk l21 c21 k21, PySem.W.mg_of X G a21⟩
  have at_law_error : At K mg "_law_error" s_law_error := ⟨f22, _, fun_mk l22 c22 k22, PySem.W.mg_of X G a22⟩
  have at_law_right : At K mg "_law_right" s_law_right := ⟨f23, _, fun_mk l23 c23 k23, PySem.W.mg_of X G a23⟩
  have at_law : At K mg "law" s_law := ⟨f24, _, fun_mk l24 c24 k24, PySem.W.mg_of X G a24⟩
  refine ⟨PySem.W.fnOf "law" "law" (defArgs s_law) (defBody s_law) (defScope s_law) .none kV24 dc24 pm24 an24 cd24 ct24, fun s v => .of_eq rfl, fun base _ _ => ?_⟩
  have G_is_integer_from := ok_is_integer_from (P := l.prog) (w := w) (base := base) T at_is_integer_from
  have G_is_integer_within := ok_is_integer_within (P := l.prog) (w := w) (base := base) T at_is_integer_within G_is_integer_from
  have G_is_outline := ok_is_outline (P := l.prog) (w := w) (base := base) T c_MOST_LINES at_is_outline G_is_integer_within
  have G_check_outline := ok_check_outline (P := l.prog) (w := w) (base := base) T e_InvalidOutlineError at_check_outline G_is_outline
  have G_check_line := ok_check_line (P := l.prog) (w := w) (base := base) T e_InvalidLineError at_check_line G_is_integer_within
  have G_check_height := ok_check_height (P := l.prog) (w := w) (base := base) T e_InvalidHeightError c_MOST_ROWS at_check_height G_is_integer_within
  have G_last_of_section := ok_last_of_section (P := l.prog) (w := w) (base := base) T at_last_of_section
  have G_is_ascending_list := ok_is_ascending_list (P := l.prog) (w := w) (base := base) T at_is_ascending_list G_is_integer_within
  have G_lines_left := ok_lines_left (P := l.prog) (w := w) (base := base) T e_InvalidFoldsError at_lines_left G_check_outline G_is_ascending_list G_last_of_section
  have G_folded_outline := ok_folded_outline (P := l.prog) (w := w) (base := base) T at_folded_outline G_lines_left
  have G_folds_between := ok_folds_between (P := l.prog) (w := w) (base := base) T at_folds_between G_last_of_section
  have G_folds_to_show := ok_folds_to_show (P := l.prog) (w := w) (base := base) T at_folds_to_show G_check_outline G_check_height G_check_line G_folds_between
  have G_fewest_folds := ok_fewest_folds (P := l.prog) (w := w) (base := base) T at_fewest_folds G_folds_to_show
  have G_law_bag := ok_law_bag (P := l.prog) (w := w) (base := base) T at_law_bag
  have G_law_draw := ok_law_draw (P := l.prog) (w := w) (base := base) T at_law_draw
  have G_law_rising := ok_law_rising (P := l.prog) (w := w) (base := base) T at_law_rising G_law_draw
  have G_law_cells := ok_law_cells (P := l.prog) (w := w) (base := base) T at_law_cells
  have G_law_sized := ok_law_sized (P := l.prog) (w := w) (base := base) T at_law_sized G_law_draw G_law_rising
  have G_law_places := ok_law_places (P := l.prog) (w := w) (base := base) T at_law_places G_law_draw
  have G_law_no_outline := ok_law_no_outline (P := l.prog) (w := w) (base := base) T at_law_no_outline G_law_draw
  have G_law_no_folds := ok_law_no_folds (P := l.prog) (w := w) (base := base) T at_law_no_folds G_law_draw
  have G_law_kind := ok_law_kind (P := l.prog) (w := w) (base := base) T n_ValueError k_EmptyHistoryError k_EndError k_HiddenLineError k_InvalidDepthError k_InvalidDocumentError k_InvalidNumberError k_InvalidObservationsError k_InvalidReadingError k_InvalidScrollError k_InvalidTextError k_InvalidTitleError k_TooDeepError k_TooManyLinesError k_EmptyOutlineError k_InvalidOutlineError k_InvalidHeightError k_InvalidLineError k_InvalidFoldsError at_law_kind
  have G_law_error := ok_law_error (P := l.prog) (w := w) (base := base) T e_StickyHeadsError x_O x_H x_L x_F y_O y_H y_L y_F at_law_error G_lines_left G_folded_outline G_fewest_folds G_folds_to_show G_law_kind
  have G_law_right := ok_law_right (P := l.prog) (w := w) (base := base) T at_law_right G_law_draw G_law_sized G_law_places G_law_no_outline G_law_no_folds G_law_error
  obtain ⟨f, fd, F, m, R, _⟩ := ok_law (P := l.prog) (w := w) (base := base) T at_law G_law_cells G_law_bag G_law_right
  have e1 := m.symm.trans hfa
  cases e1
  have e2 := (PySem.W.mg_of X G a24).symm.trans hfa
  cases e2
  obtain ⟨_, _, _, _, _, _, _, _, _, _, lk, _⟩ := F.ex
  rw [l24] at lk
  cases lk
  exact R
theorem walk {l : PySem.W.OpenLaw} {q : Program} {loose : List Str} {XP : (Str → Option Value) → Heap → Prop} {YP : World → Heap → Prop} {d : DefRec} {K : Params → PySem.W.Frag}
    (hn : l.most = some 63) (hdf : d.params.defaults = []) (hY : ∀ (w : World) (h : Heap), YP w h → (K w.params).In h)
    (F : ∀ (w : World) (mg : Str → Option Value) (fa : Addr) (h : Heap), (K w.params).In h → h.Ns mainGlobals mg → mg d.name = some (.ref fa) →
      ∃ fd : FuncData, (∀ (s : Shared) (u : Value), BindsTo s fd ⟨[u], []⟩ [("script", u)]) ∧ ∀ base : Heap, (K w.params).In base → base.Ns mainGlobals mg →
        FnG l.prog w (K w.params) mg base CX0 9 fa fd ["script"] (sp_law (K w.params))) :
    PySem.W.WalkO q loose XP YP l.row.toRowW d [] (fun f vs => PySem.call f vs) :=
  walkG (n := 63) (k := 9) (x := "script") (CX := fun _ => CX0) (sp := fun w => sp_law (K w.params)) hn (by decide) hdf ⟨rfl, by decide, by decide⟩ hY F
    (fun _ _ a ns hl _ hS => ⟨a, ns, rfl, hS, hl, fun _ => rfl⟩) fun _ _ _ _ _ z => z
end SH
open PySem PySem.W PyProof.Rows
set_option maxRecDepth 100000 in
set_option maxHeartbeats 0 in
theorem PySem.Challenge.cw_stickyheads_k43_errors_of_folds_holds : PySem.Challenge.rw_stickyheads_k43_errors_of_folds.Holds := by
  w_on; o_law; k_head; (case hw => w_witness2)
  k_fill
  refine SH.walk (l := PySem.Challenge.rw_stickyheads_k43_errors_of_folds) rfl rfl (fun w h Y => PySem.W.kIn_of Y) ?F
  case F =>
    intro w mg fa h KX G hmg
    refine' SH.all_mk KX G hmg ?a0 ?l0 ?c0 ?k0 ?a1 ?l1 ?c1 ?k1 ?a2 ?l2 ?c2 ?k2 ?a3 ?l3 ?c3 ?k3 ?a4 ?l4 ?c4 ?k4 ?a5 ?l5 ?c5 ?k5 ?a6 ?l6 ?c6 ?k6 ?a7 ?l7 ?c7 ?k7 ?a8 ?l8 ?c8 ?k8 ?a9 ?l9 ?c9 ?k9 ?a10 ?l10 ?c10 ?k10 ?a11 ?l11 ?c11 ?k11 ?a12 ?l12 ?c12 ?k12 ?a13 ?l13 ?c13 ?k13 ?a14 ?l14 ?c14 ?k14 ?a15 ?l15 ?c15 ?k15 ?a16 ?l16 ?c16 ?k16 ?a17 ?l17 ?c17 ?k17 ?a18 ?l18 ?c18 ?k18 ?a19 ?l19 ?c19 ?k19 ?a20 ?l20 ?c20 ?k20 ?a21 ?l21 ?c21 ?k21 ?a22 ?l22 ?c22 ?k22 ?a23 ?l23 ?c23 ?k23 ?a24 ?l24 ?c24 ?k24 ?z_len ?z_range ?z_repr ?z_min ?z_max ?z_int ?z_list ?z_type ?z_bool ?z_tuple ?z_isinstance ?z_enumerate ?z_str ?z_zip ?z_all ?z_any ?z_sum ?z_abs ?z_sorted ?z_set ?z_dict ?z_reversed ?z_divmod ?m_MOST_LINES ?m_MOST_ROWS ?ea_EmptyHistoryError ?ea_EndError ?ea_HiddenLineError ?ea_InvalidDepthError ?ea_InvalidDocumentError ?ea_InvalidNumberError ?ea_InvalidObservationsError ?ea_InvalidReadingError ?ea_InvalidScrollError ?ea_InvalidTextError ?ea_InvalidTitleError ?ea_TooDeepError ?ea_TooManyLinesError ?ea_EmptyOutlineError ?zn_ValueError ?ea_InvalidOutlineError ?eq_InvalidOutlineError ?ek_InvalidOutlineError ?ee_InvalidOutlineError ?et_InvalidOutlineError ?ea_InvalidLineError ?eq_InvalidLineError ?ek_InvalidLineError ?ee_InvalidLineError ?et_InvalidLineError ?ea_InvalidHeightError ?eq_InvalidHeightError ?ek_InvalidHeightError ?ee_InvalidHeightError ?et_InvalidHeightError ?ea_InvalidFoldsError ?eq_InvalidFoldsError ?ek_InvalidFoldsError ?ee_InvalidFoldsError ?et_InvalidFoldsError ?ea_StickyHeadsError ?eq_StickyHeadsError ?ek_StickyHeadsError ?ee_StickyHeadsError ?et_StickyHeadsError ?ei_StickyHeadsError ?es_InvalidOutlineError_StickyHeadsError ?es_InvalidHeightError_StickyHeadsError ?es_InvalidLineError_StickyHeadsError ?es_InvalidFoldsError_StickyHeadsError ?yg_O ?yh_O ?yd_O ?ys_O ?ya_O ?ym_O ?yk_O ?yg_H ?yh_H ?yd_H ?ys_H ?ya_H ?ym_H ?yk_H ?yg_L ?yh_L ?yd_L ?ys_L ?ya_L ?ym_L ?yk_L ?yg_F ?yh_F ?yd_F ?ys_F ?ya_F ?ym_F ?yk_F ?y0n ?y0t
    (case a0 => k_is); (case l0 => k_is); (case c0 => k_is); (case k0 => k_is); (case a1 => k_is); (case l1 => k_is); (case c1 => k_is); (case k1 => k_is)
    (case a2 => k_is); (case l2 => k_is); (case c2 => k_is); (case k2 => k_is); (case a3 => k_is); (case l3 => k_is); (case c3 => k_is); (case k3 => k_is)
    (case a4 => k_is); (case l4 => k_is); (case c4 => k_is); (case k4 => k_is); (case a5 => k_is); (case l5 => k_is); (case c5 => k_is); (case k5 => k_is)
    (case a6 => k_is); (case l6 => k_is); (case c6 => k_is); (case k6 => k_is); (case a7 => k_is); (case l7 => k_is); (case c7 => k_is); (case k7 => k_is)
    (case a8 => k_is); (case l8 => k_is); (case c8 => k_is); (case k8 => k_is); (case a9 => k_is); (case l9 => k_is); (case c9 => k_is); (case k9 => k_is)
    (case a10 => k_is); (case l10 => k_is); (case c10 => k_is); (case k10 => k_is); (case a11 => k_is); (case l11 => k_is); (case c11 => k_is); (case k11 => k_is)
    (case a12 => k_is); (case l12 => k_is); (case c12 => k_is); (case k12 => k_is); (case a13 => k_is); (case l13 => k_is); (case c13 => k_is); (case k13 => k_is)
    (case a14 => k_is); (case l14 => k_is); (case c14 => k_is); (case k14 => k_is); (case a15 => k_is); (case l15 => k_is); (case c15 => k_is); (case k15 => k_is)
    (case a16 => k_is); (case l16 => k_is); (case c16 => k_is); (case k16 => k_is); (case a17 => k_is); (case l17 => k_is); (case c17 => k_is); (case k17 => k_is)
    (case a18 => k_is); (case l18 => k_is); (case c18 => k_is); (case k18 => k_is); (case a19 => k_is); (case l19 => k_is); (case c19 => k_is); (case k19 => k_is)
    (case a20 => k_is); (case l20 => k_is); (case c20 => k_is); (case k20 => k_is); (case a21 => k_is); (case l21 => k_is); (case c21 => k_is); (case k21 => k_is)
    (case a22 => k_is); (case l22 => k_is); (case c22 => k_is); (case k22 => k_is); (case a23 => k_is); (case l23 => k_is); (case c23 => k_is); (case k23 => k_is)
    (case a24 => k_is); (case l24 => k_is); (case c24 => k_is); (case k24 => k_is); (case z_len => k_is); (case z_range => k_is); (case z_repr => k_is); (case z_min => k_is)
    (case z_max => k_is); (case z_int => k_is); (case z_list => k_is); (case z_type => k_is); (case z_bool => k_is); (case z_tuple => k_is); (case z_isinstance => k_is); (case z_enumerate => k_is)
    (case z_str => k_is); (case z_zip => k_is); (case z_all => k_is); (case z_any => k_is); (case z_sum => k_is); (case z_abs => k_is); (case z_sorted => k_is); (case z_set => k_is)
    (case z_dict => k_is); (case z_reversed => k_is); (case z_divmod => k_is); (case m_MOST_LINES => k_is); (case m_MOST_ROWS => k_is); (case ea_EmptyHistoryError => k_is); (case ea_EndError => k_is); (case ea_HiddenLineError => k_is)
    (case ea_InvalidDepthError => k_is); (case ea_InvalidDocumentError => k_is); (case ea_InvalidNumberError => k_is); (case ea_InvalidObservationsError => k_is); (case ea_InvalidReadingError => k_is); (case ea_InvalidScrollError => k_is); (case ea_InvalidTextError => k_is); (case ea_InvalidTitleError => k_is)
    (case ea_TooDeepError => k_is); (case ea_TooManyLinesError => k_is); (case ea_EmptyOutlineError => k_is); (case zn_ValueError => k_is); (case ea_InvalidOutlineError => k_is); (case eq_InvalidOutlineError => kernel_rfl); (case ek_InvalidOutlineError => k_is); (case ee_InvalidOutlineError => k_is)
    (case et_InvalidOutlineError => k_is); (case ea_InvalidLineError => k_is); (case eq_InvalidLineError => kernel_rfl); (case ek_InvalidLineError => k_is); (case ee_InvalidLineError => k_is); (case et_InvalidLineError => k_is); (case ea_InvalidHeightError => k_is); (case eq_InvalidHeightError => kernel_rfl)
    (case ek_InvalidHeightError => k_is); (case ee_InvalidHeightError => k_is); (case et_InvalidHeightError => k_is); (case ea_InvalidFoldsError => k_is); (case eq_InvalidFoldsError => kernel_rfl); (case ek_InvalidFoldsError => k_is); (case ee_InvalidFoldsError => k_is); (case et_InvalidFoldsError => k_is)
    (case ea_StickyHeadsError => k_is); (case eq_StickyHeadsError => kernel_rfl); (case ek_StickyHeadsError => k_is); (case ee_StickyHeadsError => k_is); (case et_StickyHeadsError => k_is); (case ei_StickyHeadsError => first | rfl | k_is); (case es_InvalidOutlineError_StickyHeadsError => first | rfl | k_is); (case es_InvalidHeightError_StickyHeadsError => first | rfl | k_is)
    (case es_InvalidLineError_StickyHeadsError => first | rfl | k_is); (case es_InvalidFoldsError_StickyHeadsError => first | rfl | k_is); (case yg_O => first | rfl | k_is | kernel_rfl); (case yh_O => first | rfl | k_is | kernel_rfl); (case yd_O => first | rfl | k_is | kernel_rfl); (case ys_O => first | rfl | k_is | kernel_rfl); (case ya_O => first | rfl | k_is | kernel_rfl); (case ym_O => first | rfl | k_is | kernel_rfl)
    (case yk_O => (repeat' (first | exact True.intro | refine And.intro ?_ ?_ | kernel_rfl))); (case yg_H => first | rfl | k_is | kernel_rfl); (case yh_H => first | rfl | k_is | kernel_rfl); (case yd_H => first | rfl | k_is | kernel_rfl); (case ys_H => first | rfl | k_is | kernel_rfl); (case ya_H => first | rfl | k_is | kernel_rfl); (case ym_H => first | rfl | k_is | kernel_rfl); (case yk_H => (repeat' (first | exact True.intro | refine And.intro ?_ ?_ | kernel_rfl)))
    (case yg_L => first | rfl | k_is | kernel_rfl); (case yh_L => first | rfl | k_is | kernel_rfl); (case yd_L => first | rfl | k_is | kernel_rfl); (case ys_L => first | rfl | k_is | kernel_rfl); (case ya_L => first | rfl | k_is | kernel_rfl); (case ym_L => first | rfl | k_is | kernel_rfl); (case yk_L => (repeat' (first | exact True.intro | refine And.intro ?_ ?_ | kernel_rfl))); (case yg_F => first | rfl | k_is | kernel_rfl)
    (case yh_F => first | rfl | k_is | kernel_rfl); (case yd_F => first | rfl | k_is | kernel_rfl); (case ys_F => first | rfl | k_is | kernel_rfl); (case ya_F => first | rfl | k_is | kernel_rfl); (case ym_F => first | rfl | k_is | kernel_rfl); (case yk_F => (repeat' (first | exact True.intro | refine And.intro ?_ ?_ | kernel_rfl))); (case y0n => first | rfl | k_is | kernel_rfl); (case y0t => first | rfl | k_is | kernel_rfl)

