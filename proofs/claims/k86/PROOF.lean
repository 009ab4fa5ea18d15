import PyProof.Rows.All
import Wide.All
import OpenK.AllK
import Wide.FinOn
import PyProof.EqAt
import PyProof.EqKinds
import PyProof.TupleCall
import PyProof.ReprRoads
import HandS.Base
import HandS.Call
import HandS.List
import HandS.Comp
import HandS.Iter
import HandS.Ends
import HandS.Words
import HandS.WordsList
import PyProof.TypeEq
import PyProof.InstEq
import HandS.IsInst
import HandS.Zip
import HandS.Wide
import HandS.Evl
import HandS.Conv
import HandS.RevRange
import PyProof.ReprLen
import PyProof.Rows.RegStrFacts
import HandS.SetFor
import HandS.Strs
import HandS.SortInts
import PyProof.Rows.SortShellAny
import HandS.Dict
import HandS.Finally
import HandS.Exc
import HandS.TryOnly
import HandS.TryMany
import HandS.ExcOwn
import HandS.CallSlots
import HandS.WordsExc
import HandS.SortKw
import HandS.SortRule
import KE.DataMinMax
import HandS.ExcInit
import HandS.ExcIs
import HandS.ExcField
import HandS.HotCalls
import HandS.ExcValue
import KE.KExcSuper
import KE.KSuper
import PyProof.ReprReads
import PySem.Challenge.RW_stickyheads_k86_errors_are_distinct
set_option Elab.async false
set_option linter.all false
set_option maxRecDepth 100000
/-! SH0: calls where no repr is running: the promise of a def under an empty list of guards. -/
namespace SH
open PySem PySem.Spec PyProof.Rows L2

/-- nothing that guards itself (repr and its like) runs around -/
abbrev Quiet (A : Around) : Prop := A.guards = some []

structure FnG (P : Program) (w : World) (K : PySem.W.Frag) (mg : Str → Option Value) (base : Heap)
    (CX : CXT) (k : Nat) (f : Addr) (fd : FuncData) (ps : List Str) (sp : Sp) : Prop where
  arity : ∀ vs H Q E, sp vs H Q E → vs.length = ps.length
  go : ∀ (A : Around) (outer : List Env) (s : Shared) (H : Hp) (args : Args) (us : List Value) (vs : List V)
    (Q : VK) (E : XK), Room k A → Quiet A → Env0 P w K mg base A outer s H →
    BindsTo s fd args (ps.zip us) → Vals vs us → sp vs H Q E →
    codeAny (model P w) A (.call (.ref f) args) (CR CX outer P w H s Q E) s

section
variable {X : Cx} {CX : CXT} {k : Nat} {f : Addr} {fd : FuncData} {ps ks : List Str} {sp : Sp}
  {dvs : List V} {ds : List Value} {E : XK} {x : Str} {p pos : Pos} {e : Expr} {es : List Expr} {t tk : TA}
  {kws : List Keyword} {g : List Value → List Value → List Value} {gV : List V → List V → List V}

theorem endG {pins : List (Addr × Obj)} {σ : L2.St} {H : Hp} {s : Shared} {Q : VK} (I : Inv X pins σ H s)
    (hx : Passes CX X E) : ∀ (r : Result) (s' : Shared), CR CX X.stack X.prog X.w H s Q E r s' →
    (match r with
      | .ok (.ret u) => EP X pins σ Q u s'
      | .ok _ => False
      | .error e => X.xe e s')
  | .error e, s', q => hx pins σ H s e s' I q
  | .ok (.ret _), _, q => I.after q
  | .ok .next, _, q => False.elim q
  | .ok .brk, _, q => False.elim q
  | .ok .cont, _, q => False.elim q

theorem goG {pins : List (Addr × Obj)} {σ : L2.St} {H : Hp} {s : Shared} {Q : VK} {us : List Value} {vs : List V}
    (F : FnG X.prog X.w X.K X.mg X.base CX k f fd ps sp) (room : Room k X.A) (qt : Quiet X.A)
    (hb : Binds X.K fd ps ds) (hd : Vals dvs ds) (hx : Passes CX X E)
    (I : Inv X pins σ H s) (r : Vals vs us) (h : sp (vs ++ dvs) H Q E) :
    wpAny (model X.prog X.w) X.A (call (.ref f) us) (EP X pins σ Q) X.xe s := by
  have rr : Vals (vs ++ dvs) (us ++ ds) := r.append hd
  have hlen : (us ++ ds).length = ps.length := by rw [← rr.length]; exact F.arity _ _ _ _ h
  refine wpAny_call (codeAny_mono (F.go X.A X.stack s H ⟨us, []⟩ (us ++ ds) (vs ++ dvs) Q E room qt
    I.env0 (hb s us I.kIn hlen) rr h) fun r s' hq => ?_)
  have := endG I hx r s' hq
  cases r with
  | error e => exact this
  | ok fl => cases fl with
    | ret u => exact this
    | _ => exact False.elim this

theorem pe_callG (F : FnG X.prog X.w X.K X.mg X.base CX k f fd ps sp) (room : Room k X.A) (qt : Quiet X.A)
    (hg : Gl X x) (hm : X.mg x = some (.ref f)) (hk : PySem.W.keepIn X.K (.ref f) = true)
    (hb : Binds X.K fd ps ds) (hd : Vals dvs ds) (hx : Passes CX X E) (ha : PA X (e :: es) t)
    (hdb : (x == ("__debug__" : Str)) = false := by decide)
    (he : starEach (e :: es) X.env = (false, eval e X.env) :: starEach es X.env := by rfl)
    (hpl : (backTo pos (starEach es X.env)).any (·.1) = false := by rfl) :
    PE X (.Call (.Name x p) (e :: es) [] pos) (tCall sp dvs E t) :=
  ⟨fun pins s σ H Q I h => wpAny_Call_Name_kw (ld_glob I hg hm
    (PySem.W.callWith_K (h₀ := X.base) I.ok.mod.kin hk
      (thn (ha.run pos pins s σ H _ I h) fun us s1 ⟨vs, H1, I1, r, q⟩ =>
        ⟨I1.kIn, goG F room qt hb hd hx I1 r q⟩) he hpl) hdb)⟩

theorem pe_callG0 (F : FnG X.prog X.w X.K X.mg X.base CX k f fd ps sp) (room : Room k X.A) (qt : Quiet X.A)
    (hg : Gl X x) (hm : X.mg x = some (.ref f)) (hk : PySem.W.keepIn X.K (.ref f) = true)
    (hb : Binds X.K fd ps ds) (hd : Vals dvs ds) (hx : Passes CX X E)
    (hdb : (x == ("__debug__" : Str)) = false := by decide) :
    PE X (.Call (.Name x p) [] [] pos) (tCall sp dvs E tNil) :=
  ⟨fun pins s σ H Q I h => wpAny_Call_Name_kw (ld_glob I hg hm
    (PySem.W.callWith_K0 I.kIn hk (goG (us := []) F room qt hb hd hx I .nil h)) hdb)⟩

theorem goGK {pins : List (Addr × Obj)} {σ : L2.St} {H : Hp} {s : Shared} {Q : VK} {us ws : List Value}
    {vs zs : List V} (F : FnG X.prog X.w X.K X.mg X.base CX k f fd ps sp) (room : Room k X.A) (qt : Quiet X.A)
    (hb : KBinds X.K fd ps ks g gV) (hx : Passes CX X E)
    (I : Inv X pins σ H s) (r : Vals vs us) (rz : Vals zs ws) (h : sp (gV vs zs) H Q E) :
    wpAny (model X.prog X.w) X.A (call (.ref f) us (ks.zip ws)) (EP X pins σ Q) X.xe s := by
  have rr := hb.rel r rz
  have hlen : (g us ws).length = ps.length := by rw [← rr.length]; exact F.arity _ _ _ _ h
  refine wpAny_call (codeAny_mono (F.go X.A X.stack s H ⟨us, ks.zip ws⟩ (g us ws) (gV vs zs) Q E room qt
    I.env0 (hb.to s us ws I.kIn hlen) rr h) fun r s' hq => ?_)
  have := endG I hx r s' hq
  cases r with
  | error e => exact this
  | ok fl => cases fl with
    | ret u => exact this
    | _ => exact False.elim this

/-- f(k = v, ..): no argument by position -/
theorem pe_callGK0 (F : FnG X.prog X.w X.K X.mg X.base CX k f fd ps sp) (room : Room k X.A)
    (qt : Quiet X.A) (hg : Gl X x) (hm : X.mg x = some (.ref f)) (hk : PySem.W.keepIn X.K (.ref f) = true)
    (hb : KBinds X.K fd ps ks g gV) (hx : Passes CX X E) (hkw : PK X kws tk)
    (hall : (backToKw pos (keywordEach kws X.env)).all (·.1.isSome) = true := by rfl)
    (hks : (backToKw pos (keywordEach kws X.env)).filterMap (·.1) = ks := by rfl)
    (hdb : (x == ("__debug__" : Str)) = false := by decide)
    (hpl : ((backTo pos (starEach [] X.env)).any (·.1) ||
      (backToKw pos (keywordEach kws X.env)).any (·.1.isNone)) = false := by rfl) :
    PE X (.Call (.Name x p) [] kws pos) (tCallK sp gV E tNil tk) :=
  ⟨fun pins s σ H Q I h => wpAny_Call_Name_kw (ld_glob I hg hm
    (PySem.W.callWith_KW0 (h₀ := X.base) I.ok.mod.kin hk hall
      (thn (hkw.run pos pins s σ H _ I h) fun ws s2 ⟨zs, H2, I2, rz, q2⟩ => ⟨I2.kIn, by
        rw [hks]
        exact goGK (us := []) (vs := []) F room qt hb hx I2 .nil rz q2⟩) hpl) hdb)⟩
end

/-! ### a def of the text, walked where all is quiet -/
section
variable {P : Program} {w : World} {K : PySem.W.Frag} {mg : Str → Option Value} {base : Heap}

theorem FnG.of {CX : CXT} {x qual : Str} {st : Stmt} {f : Addr} {fd : FuncData} {N ps : List Str} {k : Nat} {sp : Sp}
    (F : Fun K x qual st f fd) (S : FnScope N ps (defScope st)) (len : ∀ vs H Q E, sp vs H Q E → vs.length = ps.length)
    (walk : ∀ (cdv : Value) (A : Around) (outer : List Env) (s : Shared) (H : Hp) (vs : List V) (Q : VK) (E : XK),
      Room k (A.deeper (envOfC qual (defScope st) s.heap.objs.size f cdv)) →
      Quiet (A.deeper (envOfC qual (defScope st) s.heap.objs.size f cdv)) → sp vs H Q E →
      ∃ t, PSs (cxOf CX P w K mg base N qual (defScope st) f cdv A outer s H E) (defBody st) t ∧
        t { nx := fun _ H' => Q .non H', rt := Q } (start N vs) H) :
    FnG P w K mg base CX (k + 1) f fd ps sp := by
  obtain ⟨oc, od, kV, doc, pm, an, cdv, ct, osl, rfl, lk, hcd⟩ := F.ex
  refine ⟨len, fun A outer s H args us vs Q E room qt e0 hb r hsp => ?_⟩
  have hl := len _ _ _ _ hsp
  have inK : K.In s.heap := e0.mod.kin.keeps fun b o e => (e0.bs b o e).1
  have lim : s.heap.NoLimit := e0.mod.nolimit.keeps fun b o e => (e0.bs b o e).1
  have kinds : ∀ y ∈ ps.zip us, (defScope st).names.lookup y.1 = some .local ∨
      ((defScope st).names.lookup y.1 = some .cell ∧
        ((cellsFrom (s.heap.objs.size + 1) (defScope st).names []).lookup y.1).isSome = true) := by
    rintro ⟨n, v⟩ hy
    rcases S.par n (List.of_mem_zip hy).1 with z | z
    · exact .inl z
    · exact .inr ⟨z, PySem.W.cellsFrom_some _ _ _ (.inl z)⟩
  refine codeAny_call_function room.depth (inK _ _ lk) rfl S.co S.gen rfl (PySem.W.codeRec_of inK hcd) (hb _ _ _ _ ?_)
  refine wpAny_newFunctionEnv_cells S.kind kinds fun env he s1 ic => ?_
  subst he
  refine ⟨lim.keeps ic.toInCall.keep, codeAny_func ?_⟩
  obtain ⟨t, ht, hq⟩ := walk cdv A outer s H vs Q E (room.deeper _) (by exact qt) hsp
  have I := inv_start (CX := CX) (E := E) (P := P) (w := w) S room.hd e0 hl r ic
  refine wpAny_mono (ht.run [] s1 (start N vs) H _ I hq) (fun fl s' hs => ?_) fun e s' hs => hs
  cases fl with
  | ret u =>
    obtain ⟨v, σ', H', J, rv, q⟩ := hs
    exact ⟨v, H', J.os, J.bare, J.base, J.hok, rv, q⟩
  | next =>
    obtain ⟨σ', H', J, q⟩ := hs
    exact ⟨V.non, H', J.os, J.bare, J.base, J.hok, rfl, q⟩
  | brk => obtain ⟨_, _, _, q⟩ := hs; exact q.elim
  | cont => obtain ⟨_, _, _, q⟩ := hs; exact q.elim

/-- for a def that lets no error out -/
theorem FnG.ok {x qual : Str} {st : Stmt} {f : Addr} {fd : FuncData} {N ps : List Str} {k : Nat} {sp : Sp}
    (F : Fun K x qual st f fd) (S : FnScope N ps (defScope st)) (len : ∀ vs H Q E, sp vs H Q E → vs.length = ps.length)
    (walk : ∀ (cdv : Value) (A : Around) (outer : List Env) (s : Shared) (H : Hp) (vs : List V) (Q : VK) (E : XK),
      Room k (A.deeper (envOfC qual (defScope st) s.heap.objs.size f cdv)) →
      Quiet (A.deeper (envOfC qual (defScope st) s.heap.objs.size f cdv)) → sp vs H Q E →
      ∃ t, PSs (cxOf CX0 P w K mg base N qual (defScope st) f cdv A outer s H E).nox (defBody st) t ∧
        t { nx := fun _ H' => Q .non H', rt := Q } (start N vs) H) :
    FnG P w K mg base CX0 (k + 1) f fd ps sp :=
  FnG.of F S len fun cdv A outer s H vs Q E room qt hsp =>
    let ⟨t, h, q⟩ := walk cdv A outer s H vs Q E room qt hsp
    ⟨t, h.nox, q⟩
theorem FnG.mono {CX : CXT} {j k : Nat} {f : Addr} {fd : FuncData} {ps : List Str} {sp : Sp}
    (F : FnG P w K mg base CX j f fd ps sp) (h : j ≤ k) : FnG P w K mg base CX k f fd ps sp :=
  ⟨F.arity, fun A outer s H args us vs Q E room => F.go A outer s H args us vs Q E (room.mono h)⟩
end

/-! ### the law's own call: nothing runs around it -/
theorem frz_or {H : Hp} (hO : Only H) {b : Addr} {u : HO} (e : H b = some u) : ∃ o xs, u = .frz o (.lst xs) := by
  rcases hO b with z | ⟨o, xs, z⟩
  · rw [z] at e; cases e
  · rw [z] at e; exact ⟨o, xs, (Option.some.inj e).symm⟩

theorem lawG {P : Program} {w : World} {K : PySem.W.Frag} {mg mb : Str → Option Value} {CX : CXT} {k : Nat}
    {fa a : Addr} {fd : FuncData} {x : Str} {sp : Sp} {s₁ : Shared} {vs : List Value} {ns : List Int}
    (inK : K.In s₁.heap) (hns : s₁.heap.Ns mainGlobals mg) (hb : s₁.heap.Ns builtinsNs mb)
    (hbb : ∀ x : Str, x ≠ "__name__" → mb x = bootBuiltins x) (hlim : s₁.heap.NoLimit) (hg : s₁.gens = #[])
    (ha : s₁.heap.get? a = some { cls := .type "list", data := .seq vs.toArray }) (hi : IntsAre vs ns)
    (hl : ns.length ≤ sizeLine) (room : Room k callerA)
    (F : ∀ base : Heap, K.In base → base.Ns mainGlobals mg → FnG P w K mg base CX k fa fd [x] sp)
    (hbind : ∀ (s : Shared) (u : Value), BindsTo s fd ⟨[u], []⟩ [(x, u)])
    (hsp : ∀ H : Hp, Only H → SqL K H a (ns.map V.int) → sp [.ref a] H (fun v _ => v = .bl true) fun _ _ _ => False)
    (hCX : ∀ H e s', CX [] H s₁ (fun _ _ _ => False) e s' → False) :
    codeAny (model P w) callerA (.call (.ref fa) ⟨[.ref a], []⟩)
      (fun r s' => r = .ok (.ret (.bool true)) ∧ OldK s₁.heap s'.heap ∧ s'.os = s₁.os ∧ AllBare s'.gens) s₁ := by
  have rv := vals_ints hi
  have lenV := hi.length
  suffices core : ∀ H : Hp, Only H → SqL K H a (ns.map V.int) → HOk P w H s₁.heap →
      (∀ b o, s₁.heap.get? b = some o → (b ≠ a ∨ (K.lookup b).isSome = true) → H b = none) →
      codeAny (model P w) callerA (.call (.ref fa) ⟨[.ref a], []⟩)
        (fun r s' => r = .ok (.ret (.bool true)) ∧ OldK s₁.heap s'.heap ∧ s'.os = s₁.os ∧ AllBare s'.gens) s₁ by
    cases hk : K.lookup a with
    | some o =>
      have e := inK a o hk
      rw [ha] at e
      cases e
      exact core (fun _ => none) (fun _ => .inl rfl)
        (.inr ⟨_, vs.toArray, _, hk, rfl, rfl, rfl, by rw [List.size_toArray, lenV]; exact hl, by simpa using rv⟩)
        (fun b u z => by have z' : (none : Option HO) = some u := z; cases z') (fun _ _ _ _ => rfl)
    | none =>
      let H1 : Hp := fun b => if b = a then some (.frz { cls := .type "list", data := .seq vs.toArray } (.lst (ns.map V.int))) else none
      have h1a : H1 a = some (.frz { cls := .type "list", data := .seq vs.toArray } (.lst (ns.map V.int))) := if_pos rfl
      have h1n : ∀ b, b ≠ a → H1 b = none := fun b h => if_neg h
      refine core H1 (fun b => ?_) (.inl (.inr ⟨_, h1a⟩)) (fun b u z => ?_) (fun b o _ h => ?_)
      · by_cases hb : b = a
        · subst hb; exact .inr ⟨_, _, h1a⟩
        · exact .inl (h1n b hb)
      · by_cases hb : b = a
        · subst hb
          rw [h1a] at z
          cases z
          exact ⟨ha, by rw [List.length_map]; exact hl, vs, _, rv, ha⟩
        · rw [h1n b hb] at z; cases z
      · rcases h with h | h
        · exact h1n b h
        · by_cases hb : b = a
          · subst hb; rw [hk] at h; cases h
          · exact h1n b hb
  intro H hO hS hok hN
  have down : ∀ {b : Addr} {o : Obj}, s₁.heap.get? b = some o → (b ≠ a ∨ (K.lookup b).isSome = true) →
      (hidT s₁.heap H).get? b = some o := fun e c => hidT_get e (hN _ _ e c)
  have nsK : ∀ {b : Addr} {m : Str → Option Value}, s₁.heap.Ns b m → (hidT s₁.heap H).Ns b m := by
    rintro b m ⟨o, es, ep, e, d, r⟩
    refine ⟨o, es, ep, down e (.inl ?_), d, r⟩
    rintro rfl
    rw [ha] at e
    cases e
    cases d
  have hKb : K.In (hidT s₁.heap H) := fun b o e => down (inK b o e) (.inr (by rw [e]; rfl))
  have hM : Mod K mg (hidT s₁.heap H) := ⟨hKb, nsK hns, ⟨mb, nsK hb, hbb⟩, let ⟨mc, h1, h2⟩ := hlim; ⟨mc, nsK h1, h2⟩⟩
  have e0 : Env0 P w K mg (hidT s₁.heap H) callerA [] s₁ H := ⟨rfl, hM, fun b o e => of_hidT e,
    Nat.le_of_eq (hidT_size _ _), trivial, fun b hb => (List.not_mem_nil hb).elim, hok, AllBare.of_eq hg⟩
  refine codeAny_mono ((F _ hKb (nsK hns)).go callerA [] s₁ H ⟨[.ref a], []⟩ [.ref a] [.ref a] _ _ room rfl e0
    (hbind s₁ (.ref a)) (.cons rfl .nil) (hsp H hO hS)) fun r s' h => ?_
  match r, h with
  | .error e, h => exact (hCX H e s' h).elim
  | .ok .next, h => exact False.elim h
  | .ok .brk, h => exact False.elim h
  | .ok .cont, h => exact False.elim h
  | .ok (.ret u), h =>
    obtain ⟨v, H', os, bare, un, hok', r', q⟩ := h
    obtain rfl : v = .bl true := q
    obtain rfl : u = Value.bool true := r'
    refine ⟨rfl, OldK.of_keep fun b o e => ?_, os, bare⟩
    cases q : H b with
    | none => exact un.keep b o e q (List.not_mem_nil) (by simp)
    | some u =>
      obtain ⟨ob, xs, rfl⟩ := frz_or hO q
      obtain ⟨e1, _⟩ := hok b _ q
      obtain ⟨e2, _⟩ := hok' b _ (un.frzs b ob _ q)
      rw [e] at e1
      cases e1
      exact e2

theorem walkG {l : PySem.W.OpenLaw} {n k : Nat} {q : Program} {loose : List Str} {XP : (Str → Option Value) → Heap → Prop}
    {YP : World → Heap → Prop} {d : DefRec} {K : Params → PySem.W.Frag} {CX : World → CXT} {sp : World → Sp} {x : Str}
    (hn : l.most = some n) (hn2 : n ≤ sizeLine) (hdf : d.params.defaults = []) (room : Room k callerA)
    (hY : ∀ (w : World) (h : Heap), YP w h → (K w.params).In h)
    (F : ∀ (w : World) (mg : Str → Option Value) (fa : Addr) (h : Heap), (K w.params).In h → h.Ns mainGlobals mg →
      mg d.name = some (.ref fa) → ∃ fd : FuncData, (∀ (s : Shared) (u : Value), BindsTo s fd ⟨[u], []⟩ [(x, u)]) ∧
        ∀ base : Heap, (K w.params).In base → base.Ns mainGlobals mg →
          FnG l.prog w (K w.params) mg base (CX w) k fa fd [x] (sp w))
    (hsp : ∀ (w : World) (H : Hp) (a : Addr) (ns : List Int), ns.length ≤ n → Only H →
      SqL (K w.params) H a (ns.map V.int) → sp w [.ref a] H (fun v _ => v = .bl true) fun _ _ _ => False)
    (hCX : ∀ (w : World) (H : Hp) (s : Shared) (e : Value) (s' : Shared),
      CX w [] H s (fun _ _ _ => False) e s' → False) :
    PySem.W.WalkO q loose XP YP l.row.toRowW d [] (fun f vs => PySem.call f vs) := by
  refine Att.attach_call hn hdf fun w s₀ s₁ mg mb fa o pm cd doc a vs ns G Y ho hd hcd hmg hobj hints hlen hg => ?_
  obtain ⟨fd, hb, hF⟩ := F w mg fa _ (hY w _ Y) G.T.g hmg
  exact lawG (hY w _ Y) G.T.g G.T.b G.T.builtins G.T.nolimit hg hobj hints (Nat.le_trans hlen hn2) room hF hb
    (fun H hO hS => hsp w H a ns hlen hO hS) fun H e s' => hCX w H s₁ e s'

end SH

/-! SH1: operations that the layer does not have yet: great powers, repr of data, types compared, enumerate. -/
namespace SH
open PySem PySem.Spec PyProof.Rows L2

section
variable {X : Cx}
/-! ### powers of great numbers -/
def PowC (i j : Int) : Prop := 0 ≤ j ∧ (Builtin.Int.intBits i : Int) * j ≤ 2 ^ 27
theorem op_powG : OpR X (binaryOp .Pow) (rI PowC fun i j => .int (i ^ j.toNat)) :=
  opI fun _ _ _ _ _ _ _ c q => pow_int c.1 c.2 q
theorem cube_ok {i : Int} (h : i.natAbs < 2 ^ 4000) : PowC i 3 := by
  refine ⟨by decide, ?_⟩
  have := intBits_le (k := 4000) h
  have e : (2 : Int) ^ 27 = 134217728 := by decide
  omega
theorem ten_ok {j : Int} (h0 : 0 ≤ j) (h : j ≤ 1000) : PowC 10 j := by
  refine ⟨h0, ?_⟩
  have e1 : Builtin.Int.intBits 10 = 4 := by decide
  have e : (2 : Int) ^ 27 = 134217728 := by decide
  rw [e1]
  omega

/-! ### repr -/
/-- data as it is shown -/
def Shows (K : PySem.W.Frag) (H : Hp) (x : V) (d : PyData) : Prop :=
  Dp K H x d ∧ d.showable = true ∧ d.hasDict = false ∧ d.depth ≤ 60 ∧ d.shown.length ≤ sizeLine
def rRepr (K : PySem.W.Frag) : List V → Hp → VK → Prop := fun xs H Q =>
  ∃ (a : Addr) (d : PyData), xs = [.ref a] ∧ Shows K H (.ref a) d ∧ Q (.str d.shown) H
theorem call_reprR (qt : Quiet X.A) (hu : X.A.units + 64 < cLine) : CallR X (.builtin "repr") (rRepr X.K) := by
  intro pins s σ H xs us Q I r h
  obtain ⟨a, d, rfl, ⟨hd, h1, h2, h3, h4⟩, q⟩ := h
  cases r with
  | cons ra rr =>
    cases rr
    cases ra
    obtain ⟨as, rd⟩ := Dp.reads I d _ (.ref a) hd rfl
    exact repr_of_reads' rd h1 (noDict_hsm' h2) qt (by omega) (fun _ _ e => e)
      (fun h' u tk hk => ⟨.str d.shown, H, I.kept hk, ⟨u, rfl⟩, q⟩) h4
where
  noDict_hsm' {d : PyData} {as : List Addr} (h : d.hasDict = false) : d.hasDict = true → sysModules ∉ as :=
    fun e => by rw [h] at e; cases e

end

/-! ### built-in types compared -/
open Sem (wp)
theorem slot_ty_ne : Slot "type" (cmpInfo .NotEq).2.1 "object.__ne__" :=
  .of (owner := "object") (n := "__ne__") (by rw [typeLookup_type, builtinLookup_eq_fast]; kernel_rfl)
    (by decide +kernel) (by decide +kernel) (by decide +kernel)
    (by first | exact .inl (by decide +kernel) | exact .inr (by decide +kernel)) (by rw [isSubtype_type]; kernel_rfl)
theorem slot_ty_ne_refl : Slot "type" (cmpInfo .NotEq).2.2 "object.__ne__" :=
  .of (owner := "object") (n := "__ne__") (by rw [typeLookup_type, builtinLookup_eq_fast]; kernel_rfl)
    (by decide +kernel) (by decide +kernel) (by decide +kernel)
    (by first | exact .inl (by decide +kernel) | exact .inr (by decide +kernel)) (by rw [isSubtype_type]; kernel_rfl)

section
variable {prog : Program} {w : World} {A : Around} {E : Value → Shared → Prop} {s : Shared} {Q : Value → Shared → Prop}
/-- X.__eq__(Y) of two built-in types -/
theorem sp_eq_ty {a b : String} {R : Option Value → Shared → Prop} (ha : ∀ s' : Shared, s'.TypeIs (.type a) "type")
    (h : (if a = b then R (some (.bool true)) s else R (some .notImplemented) s)) :
    wpAny (model prog w) A (callSpecialIfBound? (.type a) "__eq__" [.type b]) R E s := by
  have slot : Slot "type" ("__eq__" : Str) "object.__eq__" := TypeEq.slot_type_eq
  refine wpAny_callSpecialIfBound?_slot (name := Str.ofString "__eq__") (ha s) slot ?_
  by_cases e : a = b
  · subst e
    rw [if_pos rfl] at h
    exact call_gives slot (ha s) F.entry_object_eq (F.args_object_eq_2 _ _) (TypeEq.object_eq_same rfl (by simp)) h
  · rw [if_neg e] at h
    exact call_gives slot (ha s) F.entry_object_eq (F.args_object_eq_2 _ _)
      (TypeEq.object_eq_other rfl (by simpa using e)) h

theorem call_ne_ty {a b : String} {R : Value → Shared → Prop} (ha : ∀ s' : Shared, s'.TypeIs (.type a) "type")
    (h : (if a = b then R (.bool false) s else R .notImplemented s)) :
    wpAny (model prog w) A (call (.builtin "object.__ne__") [.type a, .type b]) R E s := by
  refine wpAny_call_entry slot_ty_ne (ha s) F.cmpEntry_ne ?_ (F.args_object_ne_2 _ _)
  unfold Builtin.«object.__ne__»
  by_cases e : a = b
  · subst e
    rw [if_pos rfl] at h
    repeat (first | with_reducible refine wpAny_cRoomFor_or (.inl rfl) ?_ | with_reducible refine sp_eq_ty ha ?_ | rw [if_pos rfl] | wp_step)
    exact ⟨_, rfl, h⟩
  · rw [if_neg e] at h
    repeat (first | with_reducible refine wpAny_cRoomFor_or (.inl rfl) ?_ | with_reducible refine sp_eq_ty ha ?_ | rw [if_neg e] | wp_step)
    exact ⟨_, rfl, h⟩

theorem ne_ty_same {a : String} (ha : ∀ s' : Shared, s'.TypeIs (.type a) "type") (h : Q (.bool false) s) :
    wpAny (model prog w) A (compareOp .NotEq (.type a) (.type a)) Q E s := by
  show wpAny _ A (richCompare .NotEq _ _) Q E s
  exact wpAny_richCompare_same (op := .NotEq) (T := "type") (ha s) (ha s) slot_ty_ne
    (call_ne_ty ha (by rw [if_pos rfl]; exact ⟨(by intro e; cases e), h⟩))
end

theorem rc_ne_same_decline {M : Model} {A : Around} {E : Value → Shared → Prop} {s : Shared} {a b : Value} {T id : String}
    {k : Bool} {Q : Value → Shared → Prop} (ha : ∀ s' : Shared, s'.TypeIs a T) (hb : ∀ s' : Shared, s'.TypeIs b T)
    (h1 : Slot T (cmpInfo .NotEq).2.1 id) (h2 : Slot T (cmpInfo .NotEq).2.2 id) (hv : [a, b].any Value.onHeap = false)
    (hk : isSame a b = pure k)
    (hc : wpAny M A (call (.builtin id) [a, b]) (fun v s₁ => v = .notImplemented ∧
      wpAny M A (call (.builtin id) [b, a]) (fun v s₂ => v = .notImplemented ∧ Q (.bool (!k)) s₂) E s₁) E s) :
    wpAny M A (richCompare .NotEq a b) Q E s := by
  rcases hi : cmpInfo CmpOp.NotEq with ⟨sym, f, r⟩
  rw [hi] at h1 h2
  simp only [richCompare, hi, (ha s).oneThing_none]
  try with_reducible refine wpAny_holding ?_
  refine wpAny_bind (wpAny_cRoomFor_or (.inl hv) (wpAny_bind (wpAny_typeOf (ha s) (wpAny_bind (wpAny_typeOf (hb s) ?_)))))
  simp only [bne_self_eq_false, Bool.false_eq_true, if_false, pure_bind, Bool.not_false, if_true]
  refine wpAny_bind (m := tryCompare a _ b) (wpAny_tryCompare_declines (ha s) h1
    (wpAny_mono hc (fun v s₁ q1 => ⟨q1.1, ?_⟩) fun _ _ x => x))
  refine wpAny_bind (m := tryCompare b _ a) (wpAny_tryCompare_declines (hb s₁) h2
    (wpAny_mono q1.2 (fun v s₂ q2 => ⟨q2.1, ?_⟩) fun _ _ x => x))
  exact wpAny_bind (wpAny_rule (wpAny_bind (wpAny_of_eq hk (wpAny_pure q2.2))))

section
variable {prog : Program} {w : World} {A : Around} {E : Value → Shared → Prop} {s : Shared} {Q : Value → Shared → Prop}
theorem ne_ty_other {a b : String} (ha : ∀ s' : Shared, s'.TypeIs (.type a) "type")
    (hb : ∀ s' : Shared, s'.TypeIs (.type b) "type") (ne : a ≠ b) (h : Q (.bool true) s) :
    wpAny (model prog w) A (compareOp .NotEq (.type a) (.type b)) Q E s := by
  show wpAny _ A (richCompare .NotEq _ _) Q E s
  refine rc_ne_same_decline (T := "type") (k := false) ha hb slot_ty_ne slot_ty_ne_refl rfl
    (by rw [isSame_plain rfl]; have : (Value.type a == Value.type b) = false := by simpa using ne
        rw [this]) ?_
  refine call_ne_ty ha ?_
  rw [if_neg ne]
  refine ⟨rfl, call_ne_ty hb ?_⟩
  rw [if_neg (Ne.symm ne)]
  exact ⟨rfl, h⟩
end

/-- the built-in types that a value may have here -/
def tyNames : List String := ["int", "str", "bool", "NoneType", "list", "tuple", "dict", "set", "float"]
theorem ty_meta {n : String} (h : n ∈ tyNames) (s' : Shared) : s'.TypeIs (.type n) "type" := by
  simp only [tyNames, List.mem_cons, List.not_mem_nil, or_false] at h
  rcases h with rfl | rfl | rfl | rfl | rfl | rfl | rfl | rfl | rfl
  · exact TypeEq.meta_int s'
  · exact TypeEq.meta_str s'
  · exact TypeEq.meta_bool s'
  · exact TypeEq.meta_NoneType s'
  · exact TypeEq.meta_list s'
  · exact TypeEq.meta_tuple s'
  · exact TypeEq.meta_dict s'
  · exact TypeEq.meta_set s'
  · exact TypeEq.meta_float s'
def rNeTy : R2 := fun x y H Q => ∃ a b, x = .ty a ∧ y = .ty b ∧ a ∈ tyNames ∧ b ∈ tyNames ∧ Q (.bl (decide (a ≠ b))) H
theorem op_neTy {X : Cx} : OpR X (compareOp .NotEq) rNeTy := by
  intro pins s σ H x y v u Q I rx ry h
  obtain ⟨a, b, rfl, rfl, ha, hb, q⟩ := h
  cases rx
  cases ry
  by_cases e : a = b
  · subst e
    exact ne_ty_same (ty_meta ha) ⟨.bl false, H, I, rfl, by simpa using q⟩
  · exact ne_ty_other (ty_meta ha) (ty_meta hb) e ⟨.bl true, H, I, rfl, by simpa [e] using q⟩

/-! ### for i, x in enumerate(xs) -/
theorem for_enum {K : PySem.W.Frag} {a : Addr} {xs : List V} {g : TG} {tb : TS} {D : Ends} {σ : L2.St} {H : Hp}
    (Pv : Nat → L2.St → Hp → Prop) (h0 : Pv 0 σ H) (hl : ∀ i σ H, i ≤ xs.length → Pv i σ H → SqL K H a xs)
    (hs : ∀ (i : Nat) (x : V) (T : Addr) σ H, xs[i]? = some x → Pv i σ H → H T = none →
      g (.ref T) σ (upd H T (.tup [.int i, x])) fun σ2 H2 => tb { D with nx := Pv (i + 1), ct := Pv (i + 1), bk := D.nx } σ2 H2)
    (hd : ∀ σ H, Pv xs.length σ H → D.nx σ H) :
    ∃ W : Nat → Nat → L2.St → Hp → Prop, (∃ m, W 0 m σ H) ∧ ∀ i m σ H, W i m σ H →
      ((Ite K a).stop i H ∧ D.nx σ H) ∨ ((Ite K a).go i H ∧ ∃ N : L2.St → Hp → Prop,
        (∀ σ' H', N σ' H' → ∃ m', m' < m ∧ W (i + 1) m' σ' H') ∧
        ∀ x H', (Ite K a).yld i H x H' → g x σ H' fun σ2 H2 => tb { D with nx := N, ct := N, bk := D.nx } σ2 H2) := by
  refine ⟨fun i m σ H => m = xs.length - i ∧ i ≤ xs.length ∧ Pv i σ H, ⟨_, rfl, Nat.zero_le _, h0⟩, ?_⟩
  rintro i m σ H ⟨rfl, hi, p⟩
  have hq := hl i σ H hi p
  rcases Nat.lt_or_ge i xs.length with lt | ge
  · refine .inr ⟨⟨xs, xs[i], hq, List.getElem?_eq_getElem lt⟩, Pv (i + 1), fun σ' H' p' => ⟨_, ?_, rfl, lt, p'⟩, ?_⟩
    · omega
    · rintro v H' ⟨T, x, rfl, hT, rfl, f⟩
      exact hs i x T σ H (f xs hq) p hT
  · obtain rfl : i = xs.length := Nat.le_antisymm hi ge
    exact .inl ⟨⟨xs, hq, Nat.le_refl _⟩, hd σ H p⟩
end SH

/-! SH2: defs by name: what stands at a name of the module, calls of it by place and by keyword. -/
namespace SH
open PySem PySem.Spec PyProof.Rows L2

/-- the def `st` stands at the name `x` of the module and keeps the promise `sp` -/
def Has (P : Program) (w : World) (K : PySem.W.Frag) (mg : Str → Option Value) (base : Heap) (CX : CXT) (k : Nat)
    (x : Str) (st : Stmt) (ps : List Str) (sp : Sp) : Prop :=
  ∃ f fd, Fun K x x st f fd ∧ mg x = some (.ref f) ∧ FnG P w K mg base CX k f fd ps sp ∧ L2.Binds K fd ps []
/-- the def `st` stands at the name `x` -/
def At (K : PySem.W.Frag) (mg : Str → Option Value) (x : Str) (st : Stmt) : Prop :=
  ∃ f fd, Fun K x x st f fd ∧ mg x = some (.ref f)

section
variable {X : Cx} {CX : CXT} {k : Nat} {st : Stmt} {ps ks : List Str} {sp : Sp} {E : XK} {x : Str} {p pos : Pos}
  {e : Expr} {es : List Expr} {t tk : TA} {kws : List Keyword}

theorem pe_has (h : Has X.prog X.w X.K X.mg X.base CX k x st ps sp) (room : Room k X.A) (qt : Quiet X.A) (hg : Gl X x)
    (hx : Passes CX X E) (ha : PA X (e :: es) t) (hdb : (x == ("__debug__" : Str)) = false := by decide)
    (he : starEach (e :: es) X.env = (false, eval e X.env) :: starEach es X.env := by rfl)
    (hpl : (backTo pos (starEach es X.env)).any (·.1) = false := by rfl) :
    PE X (.Call (.Name x p) (e :: es) [] pos) (tCall sp [] E t) := by
  obtain ⟨f, fd, F, m, G, b⟩ := h
  exact pe_callG G room qt hg m F.kp b .nil hx ha hdb he hpl

/-- how the keywords' values come to the parameters: by a permutation of places -/
structure KwOk (x : Str) (st : Stmt) (ps ks : List Str) (g : {α : Type} → List α → List α) : Prop where
  to : ∀ (kV doc pm : Value) (an : Option Addr) (cdv ct : Value) (ws : List Value), ws.length = ks.length →
    bindArgs (PySem.W.fnOf x x (defArgs st) (defBody st) (defScope st) .none kV doc pm an cdv ct) ⟨[], ks.zip ws⟩ =
      pure (ps.zip (g ws))
  rel : ∀ {zs : List V} {ws : List Value}, Vals zs ws → Vals (g zs) (g ws)
  len : ∀ (ws : List Value), (g ws).length = ps.length → ws.length = ks.length
  ne : ps.length ≠ 0

def onlyKw (g : {α : Type} → List α → List α) : {α : Type} → List α → List α → List α := fun us ws =>
  match us with
  | [] => g ws
  | _ => []

theorem pe_hasK0 {g : {α : Type} → List α → List α} (h : Has X.prog X.w X.K X.mg X.base CX k x st ps sp)
    (room : Room k X.A) (qt : Quiet X.A) (hg : Gl X x) (kb : KwOk x st ps ks g) (hx : Passes CX X E)
    (hkw : PK X kws tk) (hall : (backToKw pos (keywordEach kws X.env)).all (·.1.isSome) = true := by rfl)
    (hks : (backToKw pos (keywordEach kws X.env)).filterMap (·.1) = ks := by rfl)
    (hdb : (x == ("__debug__" : Str)) = false := by decide)
    (hpl : ((backTo pos (starEach [] X.env)).any (·.1) ||
      (backToKw pos (keywordEach kws X.env)).any (·.1.isNone)) = false := by rfl) :
    PE X (.Call (.Name x p) [] kws pos) (tCallK sp (onlyKw g) E tNil tk) := by
  obtain ⟨f, fd, F, m, G, _⟩ := h
  refine pe_callGK0 G room qt hg m F.kp (g := onlyKw g) ⟨fun s us ws _ hl => ?_, fun {vs us zs ws} r rz => ?_⟩ hx hkw hall hks hdb hpl
  · obtain ⟨oc, od, kV, doc, pm, an, cdv, ct, osl, rfl, lk, hcd⟩ := F.ex
    cases us with
    | nil => exact .of_eq (kb.to kV doc pm an cdv ct ws (kb.len ws hl))
    | cons u us => exact absurd hl.symm kb.ne
  · cases r with
    | nil => exact kb.rel rz
    | cons _ _ => exact .nil
end

section
variable {P : Program} {w : World} {K : PySem.W.Frag} {mg : Str → Option Value} {base : Heap}
/-- THE RULE for a def at a name of the module that lets no error out -/
theorem Has.of {x : Str} {st : Stmt} {N ps : List Str} {k : Nat} {sp : Sp} (at_ : At K mg x st)
    (S : FnScope N ps (defScope st)) (len : ∀ vs H Q E, sp vs H Q E → vs.length = ps.length)
    (bd : ∀ (kV doc pm : Value) (an : Option Addr) (cdv ct : Value) (us : List Value), us.length = ps.length →
      bindArgs (PySem.W.fnOf x x (defArgs st) (defBody st) (defScope st) .none kV doc pm an cdv ct) ⟨us, []⟩ = pure (ps.zip us))
    (walk : ∀ (f : Addr) (cdv : Value) (A : Around) (outer : List Env) (s : Shared) (H : Hp) (vs : List V) (Q : VK) (E : XK),
      Room k (A.deeper (envOfC x (defScope st) s.heap.objs.size f cdv)) →
      Quiet (A.deeper (envOfC x (defScope st) s.heap.objs.size f cdv)) → sp vs H Q E →
      ∃ t, PSs (cxOf CX0 P w K mg base N x (defScope st) f cdv A outer s H E).nox (defBody st) t ∧
        t { nx := fun _ H' => Q .non H', rt := Q } (start N vs) H) :
    Has P w K mg base CX0 (k + 1) x st ps sp := by
  obtain ⟨f, fd, F, m⟩ := at_
  exact ⟨f, fd, F, m, FnG.ok F S len (walk f), F.binds bd⟩
theorem Has.mono {CX : CXT} {j k : Nat} {x : Str} {st : Stmt} {ps : List Str} {sp : Sp}
    (h : Has P w K mg base CX j x st ps sp) (hk : j ≤ k) : Has P w K mg base CX k x st ps sp := by
  obtain ⟨f, fd, F, m, G, b⟩ := h
  exact ⟨f, fd, F, m, G.mono hk, b⟩
end

/-- the built-in names that the module does not shadow -/
structure Txt (mg : Str → Option Value) : Prop where
  len : mg "len" = none
  range : mg "range" = none
  repr : mg "repr" = none
  min : mg "min" = none
  max : mg "max" = none
  tint : mg "int" = none
  tlist : mg "list" = none
  ttype : mg "type" = none
  bool : mg "bool" = none
  tuple : mg "tuple" = none
  isinstance : mg "isinstance" = none
  enumerate : mg "enumerate" = none
  tstr : mg "str" = none
  zip : mg "zip" = none
  all : mg "all" = none
  any : mg "any" = none
  sum : mg "sum" = none
  abs : mg "abs" = none
  sorted : mg "sorted" = none
  set : mg "set" = none
  dict : mg "dict" = none
  reversed : mg "reversed" = none
  divmod : mg "divmod" = none

theorem bnot_t {b : Bool} (h : (!b) = true) : b = false := by cases b <;> first | rfl | cases h
theorem bnot_f {b : Bool} (h : ¬ (!b) = true) : b = true := by cases b <;> first | rfl | exact (h rfl).elim
/-! ### what a caller wants -/
/-- a value comes back, nothing that was tracked has changed -/
def RetV (Q : VK) (H : Hp) (v : V) : Prop := ∀ H', Same H H' → Q v H'
/-- a new list comes back -/
def RetL (Q : VK) (H : Hp) (xs : List V) : Prop := ∀ p H', H p = none → Same H H' → H' p = some (.lst xs) → Q (.ref p) H'
/-- ints as values -/
abbrev iv (ns : List Int) : List V := ns.map V.int
theorem iv_at {ns : List Int} {i : Nat} (h : i < ns.length) : (iv ns)[i]? = some (.int (ns.getD i 0)) := by
  rw [List.getElem?_map, List.getElem?_eq_getElem h, List.getD_eq_getElem?_getD, List.getElem?_eq_getElem h]
  rfl
theorem atI_iv {ns : List Int} {z : Int} (h0 : 0 ≤ z) (h : z < ns.length) : atI (iv ns) z = some (.int (ns.getD z.toNat 0)) := by
  have e : z = ((z.toNat : Nat) : Int) := by omega
  rw [e]
  exact atI_nat (iv_at (by omega))
theorem atI_iv_last {ns : List Int} (h : ns ≠ []) : atI (iv ns) (-1) = some (.int (ns.getD (ns.length - 1) 0)) := by
  have hl : 0 < ns.length := List.length_pos_iff.mpr h
  have e : ixN (iv ns).length (-1) = some (ns.length - 1) := by
    unfold ixN
    rw [if_neg (by omega), if_pos (by rw [List.length_map]; omega), List.length_map]
    congr 1
    omega
  unfold atI
  rw [e]
  exact iv_at (by omega)
theorem Same.new {H : Hp} {p : Addr} {o : HO} (h : H p = none) : Same H (upd H p o) := fun b u e => by
  rw [upd_ne (ne_of_none e h)]; exact e
theorem Same.upd_free {H H' : Hp} {p : Addr} {o : HO} (s : Same H H') (h : H p = none) : Same H (upd H' p o) := fun b u e => by
  rw [upd_ne (ne_of_none e h)]; exact s b u e
/-- all that was tracked but what stands at `a` is as it was -/
def SameBut (a : Addr) (H H' : Hp) : Prop := ∀ b o, H b = some o → b ≠ a → H' b = some o
theorem SameBut.refl {a : Addr} {H : Hp} : SameBut a H H := fun _ _ e _ => e
theorem SameBut.trans {a : Addr} {H H1 H2 : Hp} (p : SameBut a H H1) (q : SameBut a H1 H2) : SameBut a H H2 :=
  fun b o e n => q b o (p b o e n) n
theorem SameBut.of {a : Addr} {H H' : Hp} (p : Same H H') : SameBut a H H' := fun b o e _ => p b o e
theorem SameBut.upd {a : Addr} {H H' : Hp} {o : HO} (p : SameBut a H H') : SameBut a H (upd H' a o) := fun b u e n => by
  rw [upd_ne n]; exact p b u e n
theorem SameBut.new {a p : Addr} {H H' : Hp} {o : HO} (s : SameBut a H H') (h : H' p = none) : SameBut a H (L2.upd H' p o) :=
  fun b u e n => by
    have := s b u e n
    rw [upd_ne (ne_of_none this h)]; exact this
end SH

/-! SH3: comprehensions whose turns make nothing, in words of a function of the turn. -/
namespace SH
open PySem PySem.Spec PyProof.Rows L2

/-- len of a list or a tuple, by the written part K -/
def rLenK (K : PySem.W.Frag) : List V → Hp → VK → Prop := fun xs H Q => ∃ p ys, xs = [.ref p] ∧ (SqL K H p ys ∨ SqT K H p ys) ∧ Q (.int ys.length) H
theorem tYes_go {σ : L2.St} {H : Hp} {f g : Hp → Prop} (h : f H) : tYes σ H fun b H3 => if b = true then f H3 else g H3 := by
  show (if true = true then f H else g H)
  rw [if_pos rfl]
  exact h
/-- a if t else b of two ints, the test's answer known as b -/
theorem if_int {b : Bool} {x y : Int} {H : Hp} {A B : TE} {σ : L2.St} {Q : VK} (ha : ∀ Q' : VK, Q' (.int x) H → A σ H Q')
    (hb : ∀ Q' : VK, Q' (.int y) H → B σ H Q') (h : Q (.int (if b = true then x else y)) H) : if b = true then A σ H Q else B σ H Q := by
  cases b with
  | true => rw [if_pos rfl]; exact ha _ (by simpa using h)
  | false => rw [if_neg Bool.false_ne_true]; exact hb _ (by simpa using h)
/-- which turns give, and what -/
def gives (n : Nat) (keep : Nat → Bool) (val : Nat → V) : List V := ((List.range n).filter keep).map val
theorem gives_succ {n : Nat} {keep : Nat → Bool} {val : Nat → V} : gives (n + 1) keep val =
    if keep n = true then gives n keep val ++ [val n] else gives n keep val := by
  unfold gives
  rw [List.range_succ, List.filter_append, List.map_append]
  by_cases h : keep n = true
  · rw [if_pos h, List.filter_cons, if_pos h]
    rfl
  · rw [if_neg h, List.filter_cons, if_neg h]
    exact List.append_nil _
theorem gives_len (n : Nat) (keep : Nat → Bool) (val : Nat → V) : (gives n keep val).length ≤ n := by
  unfold gives
  rw [List.length_map]
  exact Nat.le_trans (List.length_filter_le _ _) (Nat.le_of_eq List.length_range)
theorem gives_all (n : Nat) (val : Nat → V) : gives n (fun _ => true) val = (List.range n).map val := by
  unfold gives
  rw [List.filter_eq_self.mpr (fun _ _ => rfl)]
/-- a new list comes back, nothing else changes -/
def NewL (Q : VK) (H : Hp) (xs : List V) : Prop := ∀ p, H p = none → Q (.ref p) (upd H p (.lst xs))
theorem small_line {n : Nat} (h : n < 100000) : n < sizeLine := Nat.lt_of_lt_of_le h (by decide)

section
variable {tt : TT} {te : TE} {vs : List Nat} {σ : L2.St} {H : Hp} {D : Addr} {Qd : Hp → Prop}
/-- one turn's end -/
theorem lc_turn {n : Nat} {keep : Nat → Bool} {val : Nat → V} {i : Nat} {σ2 : L2.St} (hi : i < n) (hn : n < 100000)
    (ht : ∀ acc Q, Q (keep i) (upd H D (.lst acc)) → tt σ2 (upd H D (.lst acc)) Q)
    (he : ∀ acc Q, keep i = true → Q (val i) (upd H D (.lst acc)) → te σ2 (upd H D (.lst acc)) Q) :
    tt σ2 (upd H D (.lst (gives i keep val))) fun b H3 => if b = true then te σ2 H3 fun y H4 => ∃ acc, H4 D = some (.lst acc) ∧
      acc.length < sizeLine ∧ upd H4 D (.lst (acc ++ [y])) = upd H D (.lst (gives (i + 1) keep val))
      else H3 = upd H D (.lst (gives (i + 1) keep val)) := by
  refine ht _ _ ?_
  by_cases h : keep i = true
  · rw [h]
    refine iteT (he _ _ h ⟨_, upd_same, small_line (by have := gives_len i keep val; omega), ?_⟩)
    rw [upd_upd, gives_succ, if_pos h]
  · have h' : keep i = false := by cases e : keep i <;> simp_all
    rw [h']
    refine iteF ?_
    rw [gives_succ, if_neg h]

theorem lcR {lo : Int} {n j : Nat} (keep : Nat → Bool) (val : Nat → V) (hn : n < 100000)
    (hw : ∀ x, wipe ((wipe σ vs).set j (some x)) vs = wipe σ vs)
    (ht : ∀ i acc Q, i < n → Q (keep i) (upd H D (.lst acc)) → tt ((wipe σ vs).set j (some (.int (lo + (i : Nat))))) (upd H D (.lst acc)) Q)
    (he : ∀ i acc Q, i < n → keep i = true → Q (val i) (upd H D (.lst acc)) → te ((wipe σ vs).set j (some (.int (lo + (i : Nat))))) (upd H D (.lst acc)) Q)
    (hd : Qd (upd H D (.lst (gives n keep val)))) :
    ∃ W : Nat → Nat → Hp → Prop, (∃ m, W 0 m (upd H D (.lst []))) ∧ ∀ i m H, W i m H →
      ((Itr lo n).stop i H ∧ Qd H) ∨ ((Itr lo n).go i H ∧ ∃ Nx : Hp → Prop, (∀ H', Nx H' → ∃ m', m' < m ∧ W (i + 1) m' H') ∧
        ∀ x H', (Itr lo n).yld i H x H' → gName j x (wipe σ vs) H' fun σ2 H2 => wipe σ2 vs = wipe σ vs ∧ tt σ2 H2 fun b H3 =>
          if b = true then te σ2 H3 fun y H4 => ∃ acc, H4 D = some (.lst acc) ∧ acc.length < sizeLine ∧ Nx (upd H4 D (.lst (acc ++ [y]))) else Nx H3) :=
  lc_range (fun i H2 => H2 = upd H D (.lst (gives i keep val))) rfl
    (fun i H2 hi e => by
      subst e
      exact ⟨hw _, lc_turn hi hn (fun acc Q q => ht i acc Q hi q) (fun acc Q k q => he i acc Q hi k q)⟩)
    (fun H2 e => by subst e; exact hd)

theorem lcL {K : PySem.W.Frag} {a : Addr} {xs : List V} {j : Nat} (keep : Nat → Bool) (val : Nat → V) (hx : SqL K H a xs)
    (hD : H D = none) (hn : xs.length < 100000) (hw : ∀ x, wipe ((wipe σ vs).set j (some x)) vs = wipe σ vs)
    (ht : ∀ i x acc Q, xs[i]? = some x → Q (keep i) (upd H D (.lst acc)) → tt ((wipe σ vs).set j (some x)) (upd H D (.lst acc)) Q)
    (he : ∀ i x acc Q, xs[i]? = some x → keep i = true → Q (val i) (upd H D (.lst acc)) → te ((wipe σ vs).set j (some x)) (upd H D (.lst acc)) Q)
    (hd : Qd (upd H D (.lst (gives xs.length keep val)))) :
    ∃ W : Nat → Nat → Hp → Prop, (∃ m, W 0 m (upd H D (.lst []))) ∧ ∀ i m H, W i m H →
      ((Itl K a).stop i H ∧ Qd H) ∨ ((Itl K a).go i H ∧ ∃ Nx : Hp → Prop, (∀ H', Nx H' → ∃ m', m' < m ∧ W (i + 1) m' H') ∧
        ∀ x H', (Itl K a).yld i H x H' → gName j x (wipe σ vs) H' fun σ2 H2 => wipe σ2 vs = wipe σ vs ∧ tt σ2 H2 fun b H3 =>
          if b = true then te σ2 H3 fun y H4 => ∃ acc, H4 D = some (.lst acc) ∧ acc.length < sizeLine ∧ Nx (upd H4 D (.lst (acc ++ [y]))) else Nx H3) :=
  lc_list (xs := xs) (fun i H2 => H2 = upd H D (.lst (gives i keep val))) rfl
    (fun i H2 hi e => by subst e; exact (Same.new hD).seq hx)
    (fun i x H2 hi e => by
      subst e
      exact ⟨hw _, lc_turn (List.getElem?_eq_some_iff.mp hi).1 hn (fun acc Q q => ht i x acc Q hi q) (fun acc Q k q => he i x acc Q hi k q)⟩)
    (fun H2 e => by subst e; exact hd)

/-- [.. for a, b in zip(xs, ys)], the lists of one length: each turn makes one pair, so the heap is told by an invariant -/
theorem lcZ {K : PySem.W.Frag} {a b : Addr} {xs ys : List V} {g : TG} (hl : xs.length = ys.length) (Pv : Nat → Hp → Prop)
    (h0 : Pv 0 (upd H D (.lst []))) (hq : ∀ i H, Pv i H → SqL K H a xs ∧ SqL K H b ys)
    (hs : ∀ i x y T H, xs[i]? = some x → ys[i]? = some y → Pv i H → H T = none → g (.ref T) (wipe σ vs) (upd H T (.tup [x, y])) fun σ2 H2 =>
      wipe σ2 vs = wipe σ vs ∧ tt σ2 H2 fun b H3 => if b = true then te σ2 H3 fun y H4 => ∃ acc, H4 D = some (.lst acc) ∧
        acc.length < sizeLine ∧ Pv (i + 1) (upd H4 D (.lst (acc ++ [y]))) else Pv (i + 1) H3)
    (hd : ∀ H, Pv xs.length H → Qd H) :
    ∃ W : Nat → Nat → Hp → Prop, (∃ m, W 0 m (upd H D (.lst []))) ∧ ∀ i m H, W i m H →
      ((Itz K a b).stop i H ∧ Qd H) ∨ ((Itz K a b).go i H ∧ ∃ Nx : Hp → Prop, (∀ H', Nx H' → ∃ m', m' < m ∧ W (i + 1) m' H') ∧
        ∀ x H', (Itz K a b).yld i H x H' → g x (wipe σ vs) H' fun σ2 H2 => wipe σ2 vs = wipe σ vs ∧ tt σ2 H2 fun b H3 =>
          if b = true then te σ2 H3 fun y H4 => ∃ acc, H4 D = some (.lst acc) ∧ acc.length < sizeLine ∧ Nx (upd H4 D (.lst (acc ++ [y]))) else Nx H3) := by
  refine ⟨fun i m H => m = xs.length - i ∧ i ≤ xs.length ∧ Pv i H, ⟨_, rfl, Nat.zero_le _, h0⟩, ?_⟩
  rintro i m H ⟨rfl, hi, p⟩
  obtain ⟨qx, qy⟩ := hq i H p
  rcases Nat.lt_or_ge i xs.length with lt | ge
  · have ly : i < ys.length := by omega
    refine .inr ⟨⟨xs, ys, xs[i], ys[i], qx, qy, List.getElem?_eq_getElem lt, List.getElem?_eq_getElem ly⟩, Pv (i + 1),
      fun H' p' => ⟨xs.length - (i + 1), by omega, rfl, lt, p'⟩, ?_⟩
    rintro v H' ⟨T, x, y, rfl, hT, rfl, fx, fy⟩
    exact hs i x y T H (fx xs qx) (fy ys qy) p hT
  · obtain rfl : i = xs.length := Nat.le_antisymm hi ge
    exact .inl ⟨⟨xs, ys, qx, qy, .inl (Nat.le_refl _)⟩, hd H p⟩
end
end SH

/-! SH4: how lists of ints are shown, and compared. -/
namespace SH
open PySem PySem.Spec PyProof.Rows L2

/-- a list of ints as data -/
def dI (ns : List Int) : PyData := .list (ns.map PyData.int)
theorem dp_ints {K : PySem.W.Frag} {H : Hp} : ∀ ns : List Int, DpAll K H (iv ns) (ns.map PyData.int)
  | [] => .nil
  | n :: r => .cons (.int n) (dp_ints r)
theorem dp_dI {K : PySem.W.Frag} {H : Hp} {a : Addr} {ns : List Int} (h : SqL K H a (iv ns)) : Dp K H (.ref a) (dI ns) := .lst h (dp_ints ns)
theorem small_log {v : Int} (h : v.natAbs < 2 ^ 64) : v.natAbs.log2 < 1920 := by
  by_cases e : v.natAbs = 0
  · rw [e]; decide
  · have := (Nat.log2_lt e).mpr h
    omega
theorem show_ints : ∀ {ns : List Int}, (∀ v ∈ ns, v.natAbs < 2 ^ 64) → PyData.showableAll (ns.map PyData.int) = true
  | [], _ => rfl
  | n :: r, h => by
    show (decide (n.natAbs.log2 < 1920) && PyData.showableAll (r.map PyData.int)) = true
    rw [decide_eq_true (small_log (h n List.mem_cons_self)), show_ints fun v hv => h v (List.mem_cons_of_mem _ hv)]
    rfl
theorem dict_ints : ∀ ns : List Int, PyData.hasDictAll (ns.map PyData.int) = false
  | [] => rfl
  | n :: r => by
    show (false || PyData.hasDictAll (r.map PyData.int)) = false
    rw [dict_ints r]
    rfl
theorem depth_ints : ∀ ns : List Int, PyData.depthAll (ns.map PyData.int) = 0
  | [] => rfl
  | n :: r => by
    show max 0 (PyData.depthAll (r.map PyData.int)) = 0
    rw [depth_ints r]
    rfl
theorem shownAll_len : ∀ {ns : List Int}, (∀ v ∈ ns, v.natAbs < 2 ^ 64) → ((PyData.shownAll (ns.map PyData.int)).map (·.length)).sum ≤ 1921 * ns.length ∧
    (PyData.shownAll (ns.map PyData.int)).length = ns.length
  | [], _ => ⟨Nat.le_refl _, rfl⟩
  | n :: r, h => by
    obtain ⟨a, b⟩ := shownAll_len (ns := r) fun v hv => h v (List.mem_cons_of_mem _ hv)
    have := int_text_len_1921 (small_log (h n List.mem_cons_self))
    constructor
    · show (PySem.Str.ofString (toString n)).length + ((PyData.shownAll (r.map PyData.int)).map (·.length)).sum ≤ 1921 * (r.length + 1)
      omega
    · show (PyData.shownAll (r.map PyData.int)).length + 1 = r.length + 1
      omega
theorem shows_ints {K : PySem.W.Frag} {H : Hp} {a : Addr} {ns : List Int} (h : SqL K H a (iv ns)) (hl : ns.length ≤ 1000) (hv : ∀ v ∈ ns, v.natAbs < 2 ^ 64) :
    Shows K H (.ref a) (dI ns) := by
  refine ⟨dp_dI h, show_ints hv, dict_ints ns, ?_, ?_⟩
  · show PyData.depthAll (ns.map PyData.int) + 1 ≤ 60
    rw [depth_ints]
    decide
  · show (listText (PyData.shownAll (ns.map PyData.int))).length ≤ sizeLine
    obtain ⟨a, b⟩ := shownAll_len hv
    have := listText_len_le (PyData.shownAll (ns.map PyData.int))
    have e : sizeLine = 16777216 := by decide
    omega
theorem shaped_dI (ns : List Int) : SeqAt.shaped (dI ns) = true := by
  have c : ∀ ms : List Int, PyData.canLayAll0 (ms.map PyData.int) = true := fun ms => by
    induction ms with
    | nil => rfl
    | cons n r ih => show (true && PyData.canLayAll0 (r.map PyData.int)) = true; rw [ih]; rfl
  unfold SeqAt.shaped
  have d : (dI ns).depth = 1 := by show PyData.depthAll (ns.map PyData.int) + 1 = 1; rw [depth_ints]
  rw [d]
  show (PyData.canLayAll0 (ns.map PyData.int) && decide (1 ≤ 64)) = true
  rw [c]
  rfl
theorem eqv_ints : ∀ ns ms : List Int, PyData.eqvAll (ns.map PyData.int) (ms.map PyData.int) = decide (ns = ms)
  | [], [] => rfl
  | [], _ :: _ => rfl
  | _ :: _, [] => rfl
  | n :: r, m :: q => by
    show ((n == m) && PyData.eqvAll (r.map PyData.int) (q.map PyData.int)) = _
    rw [eqv_ints r q, Bool.eq_iff_iff]
    simp
theorem eqv_dI (ns ms : List Int) : PyData.eqv (dI ns) (dI ms) = decide (ns = ms) := eqv_ints ns ms
/-- two lists of ints compared -/
theorem eqD_ints {K : PySem.W.Frag} {H : Hp} {a b : Addr} {ns ms : List Int} {Q : VK} (ha : SqL K H a (iv ns)) (hb : SqL K H b (iv ms))
    (q : Q (.bl (decide (ns = ms))) H) : rEqD K (.ref a) (.ref b) H Q :=
  ⟨dI ns, dI ms, dp_dI ha, dp_dI hb, shaped_dI ns, shaped_dI ms, by rw [eqv_dI]; exact q⟩
theorem neD_ints {K : PySem.W.Frag} {H : Hp} {a b : Addr} {ns ms : List Int} {Q : VK} (ha : SqL K H a (iv ns)) (hb : SqL K H b (iv ms))
    (q : Q (.bl (!decide (ns = ms))) H) : rNeD K (.ref a) (.ref b) H Q :=
  ⟨dI ns, dI ms, dp_dI ha, dp_dI hb, shaped_dI ns, shaped_dI ms, by rw [eqv_dI]; exact q⟩

theorem iv_snoc (ns : List Int) (d : Int) : iv ns ++ [V.int d] = iv (ns ++ [d]) := by
  unfold iv
  rw [List.map_append]
  rfl
theorem getD_all {xs : List Int} {p : Int → Prop} (h : ∀ v ∈ xs, p v) {z : Int} (h0 : 0 ≤ z) (h1 : z < xs.length) : p (xs.getD z.toNat 0) := by
  have hz : z.toNat < xs.length := by omega
  rw [List.getD_eq_getElem?_getD, List.getElem?_eq_getElem hz]
  exact h _ (List.getElem_mem hz)
/-- range as a list of ints -/
def rg (n : Nat) : List Int := (List.range n).map fun (i : Nat) => (i : Int)
theorem rgV_rg (n : Nat) : rgV 0 (n : Int) = iv (rg n) := by
  unfold rgV rg iv
  rw [List.map_map]
  have e : ((n : Int) - 0).toNat = n := by omega
  rw [e]
  refine List.map_congr_left fun i _ => ?_
  show V.int (0 + (i : Int)) = V.int (i : Int)
  rw [Int.zero_add]
theorem iv_rep (n : Nat) (d : Int) : (List.replicate n [V.int d]).flatten = iv (List.replicate n d) := by
  induction n with
  | zero => rfl
  | succ n ih => rw [List.replicate_succ, List.flatten_cons, ih, List.replicate_succ]; rfl
/-- list + list, each read as it stands -/
def rCatS (K : PySem.W.Frag) : R2 := fun x y H Q => ∃ l b xs zs, x = .ref l ∧ y = .ref b ∧ SqL K H l xs ∧ SqL K H b zs ∧ xs.length + zs.length ≤ sizeLine ∧ NewL Q H (xs ++ zs)
theorem op_catS {X : Cx} : OpR X (binaryOp .Add) (rCatS X.K) := by
  intro pins s σ H x y v u Q I rx ry h
  obtain ⟨l, b, xs, zs, rfl, rfl, hx, hy, hz, q⟩ := h
  cases rx
  cases ry
  obtain ⟨its, r, ⟨o, n, ho, hc, hd, ht⟩, _⟩ := I.list hx
  obtain ⟨its2, r2, ⟨o2, n2, ho2, hc2, hd2, ht2⟩, _⟩ := I.list hy
  have e1 := r.length
  have e2 := r2.length
  obtain ⟨oc, od, dt, sl⟩ := o
  obtain ⟨oc2, od2, dt2, sl2⟩ := o2
  simp only at hc hd ht hc2 hd2 ht2
  subst hc hd ht hc2 hd2 ht2
  have ea : its.toArray ++ its2.toArray = (its ++ its2).toArray := by simp
  refine concat_meets ⟨_, ho, rfl⟩ ⟨_, ho2, rfl⟩ noFill_list_add seq_list_add PySem.F.slot_list_add PySem.F.entry_list_add
    (PySem.F.args_list_add_2 _ _) (list_addW l b its.toArray its2.toArray n n2 none none sl sl2 (by simp only [List.size_toArray]; omega)) ⟨ho, ho2, ?_⟩
  rw [ea]
  exact ⟨.ref _, _, I.lnew (t' := s.toks) (r.append r2) (by rw [List.length_append]; omega), rfl, q _ I.fresh⟩
theorem Same.but {a : Addr} {H0 H H' : Hp} (s : Same H0 H) (n : H0 a = none) (b : SameBut a H H') : Same H0 H' := fun c o e =>
  b c o (s c o e) (ne_of_none e n)
end SH

/-! SH5: a list stored into a slice with open bounds (xs[:] = ys, xs[a:] = ys). -/
namespace SH
open PySem PySem.Spec PyProof.Rows L2
section
variable {prog : Program} {w : World} {A : Around} {E : Value → Shared → Prop} {s : Shared}
theorem store_open {tgt src sl : Addr} {old new : Array Value} {n n2 : Nat} {vl vu : Value} {lo hi : Option Int} {Q : Unit → Shared → Prop}
    (eo : s.heap.get? tgt = some { cls := .type "list", data := .seq old n }) (en : s.heap.get? src = some { cls := .type "list", data := .seq new n2 })
    (ne : tgt ≠ src) (isl : s.heap.IsSliceOf sl vl vu .none) (pl : IsPart vl lo) (pu : IsPart vu hi) (small : old.size + new.size ≤ sizeLine)
    (h : Q () { s with heap := s.heap.update tgt (Obj.mapSeq fun xs => xs.extract 0 (HT.sIx old.size 0 lo) ++ new ++ xs.extract (max (HT.sIx old.size 0 lo) (HT.sIx old.size old.size hi)) xs.size) }) :
    wpAny (model prog w) A (setItem (.ref tgt) (.ref sl) (.ref src)) Q E s := by
  obtain ⟨b1, b2, b3⟩ := slice_bounds lo hi old.size
  have isT := PySem.IsL.isList eo
  have isS := PySem.IsL.isList en
  obtain ⟨os, go, co, fo⟩ := id isl
  have tyS : s.TypeIs (.ref sl) "slice" := ⟨os, go, co⟩
  have li := HT.sIx_le old.size 0 (Nat.zero_le _) lo
  have lj := HT.sIx_le old.size old.size (Nat.le_refl _) hi
  have diff : Builtin.List.listSameRef (.ref tgt) (.ref src) = false := by
    unfold Builtin.List.listSameRef; exact beq_eq_false_iff_ne.mpr ne
  generalize HT.sIx old.size 0 lo = i at *
  generalize HT.sIx old.size old.size hi = j at *
  have mx : (max (i : Int) (j : Int)).toNat = max i j := by omega
  have room : ((fun xs : Array Value => xs.extract 0 i ++ new ++ xs.extract (max i j) xs.size) old).size ≤ sizeLine + 1 := by
    simp only [Array.size_append, Array.size_extract]; omega
  unfold setItem
  try with_reducible refine wpAny_holding ?_
  first | refine wpAny_bind (wpAny_pure ?_) | skip
  refine wpAny_bind (wpAny_sequenceKey isT.typeIs (by decide) ?_)
  refine wpAny_bind (wpAny_callSpecial?_slot (name := Str.ofString "__setitem__") isT.typeIs slot_list_setitem (wpAny_call_entry slot_list_setitem isT.typeIs entry_list_setitem ?_ (args_list_setitem _ _ _)))
  show wpAny _ _ (Builtin.List.listSubscript? (.ref sl) >>= _) _ _ s
  refine wpAny_bind ?_
  unfold Builtin.List.listSubscript?
  refine wpAny_bind (wpAny_specialOf tyS slice_no_index ?_)
  simp only [Option.isNone_none, if_true]
  refine wpAny_pure ?_
  show wpAny _ _ (typeOf (.ref sl) >>= _) _ _ s
  refine wpAny_bind (wpAny_typeOf tyS ?_)
  first | rw [if_neg (by decide)] | refine PySem.W.KFB.if_not (by decide) ?_
  rw [listSliceParts_eq]
  refine wpAny_bind (wpAny_bind (wpAny_field go fo (x := .none) rfl (wpAny_bind (wpAny_listPart .none ?_))))
  rw [if_neg (show ¬ ((rawPart none == rawInt 0) = true) from Bool.false_ne_true)]
  refine wpAny_bind (wpAny_field go fo (x := vl) rfl (wpAny_bind (wpAny_listPart pl ?_)))
  refine wpAny_bind (wpAny_field go fo (x := vu) rfl (wpAny_bind (wpAny_listPart pu (wpAny_pure ?_))))
  first
    | simp only [diff, Bool.false_eq_true, if_false]
    | refine PySem.W.KFB.if_not diff ?_
    | (dsimp only; rw [if_neg (by rw [diff]; exact Bool.false_ne_true)])
  refine wpAny_bind (m := Builtin.List.listAllItems (.ref src) "must assign iterable to extended slice") ?_
  unfold Builtin.List.listAllItems
  refine wpAny_bind (wpAny_typeOf isS.typeIs ?_)
  first | refine PySem.W.KFB.if_so (by decide) ?_ | rw [if_pos (by decide)] | simp only [beq_self_eq_true, Bool.true_or, if_true]
  unfold Builtin.List.listItems
  refine wpAny_bind (wpAny_seqItems en rfl (wpAny_pure ?_))
  refine wpAny_bind (wpAny_bind (wpAny_seqItems eo rfl (wpAny_pure ?_)))
  have bb : sliceBounds lo hi none old.size = ((i : Int), (j : Int), 1) := Prod.ext b1 (Prod.ext b2 b3)
  refine wpAny_bind (wpAny_of_eq ((sliceIndices_raw lo hi none old.size (by simp)).trans (congrArg (pure : Int × Int × Int → Sem (Int × Int × Int)) bb)) ?_)
  show wpAny _ _ (if ((1 : Int) == 1) = true then _ else _) _ _ s
  rw [if_pos (by decide)]
  refine wpAny_bind (wpAny_rule ?_)
  first | simp only [notLongL small, Bool.false_eq_true, if_false] | refine PySem.W.KFB.if_not (notLongL small) ?_
  first | refine wpAny_bind (wpAny_pure ?_) | skip
  show wpAny _ _ (updateSeq tgt (fun xs => xs.extract 0 ((i : Int)).toNat ++ new ++ xs.extract (max (i : Int) (j : Int)).toNat xs.size) >>= _) _ _ s
  rw [mx, Int.toNat_natCast]
  refine wpAny_bind (wpAny_updateSeq (hz := Nat.le_trans (Nat.le_add_right _ _) small) (_hz' := room) eo rfl ?_)
  refine wpAny_bind (wpAny_letGo ?_)
  first
    | exact wpAny_bind (wpAny_pure (wpAny_pure ⟨.none, rfl, wpAny_pure h⟩))
    | exact wpAny_pure ⟨.none, rfl, wpAny_pure h⟩
end
/-- ys stored into xs[lo:hi] -/
def rStore : V → Option Int → Option Int → V → Hp → (Hp → Prop) → Prop := fun o lo hi v H Q => ∃ (l b : Addr) (xs ys : List V), o = .ref l ∧ v = .ref b ∧ l ≠ b ∧ H l = some (.lst xs) ∧ H b = some (.lst ys) ∧
  xs.length + ys.length ≤ sizeLine ∧ Q (upd H l (.lst (xs.take (HT.sIx xs.length 0 lo) ++ ys ++ xs.drop (max (HT.sIx xs.length 0 lo) (HT.sIx xs.length xs.length hi)))))
def gStore (to : TE) (tl th : TO) : TG := fun v σ H Q => to σ H fun o H1 => tl σ H1 fun lo H2 => th σ H2 fun hi H3 => rStore o lo hi v H3 fun H4 => Q σ H4
section
variable {X : Cx} {o : Expr} {to : TE} {lo hi : Option Expr} {tl th : TO} {p2 pos : Pos}
theorem pg_store (ho : PE X o to) (hl : PO X lo tl) (hu : PO X hi th)
    (ha : ∀ v, assign (.Subscript o (.Slice lo hi none p2) pos) X.env v = (do
      let ov ← holding [v] (eval o X.env)
      let iv ← holding [v, ov] (eval (.Slice lo hi none p2) X.env)
      standAt pos
      holding [v, ov, iv] (setItem ov iv v)
      release [iv, v, ov] []) := by intro _; rfl) : PG X (.Subscript o (.Slice lo hi none p2) pos) (gStore to tl th) := by
  refine ⟨fun pins s σ H v u Q I r h => ?_⟩
  rw [ha]
  refine wpAny_bind (wpAny_holding (thn (ho.run pins s σ H _ I h) fun ov s1 ⟨x, H1, I1, r1, q1⟩ => ?_))
  refine wpAny_bind (wpAny_holding (wpAny_Slice (thn (hl.run pins s1 σ H1 _ I1 q1) fun vl s2 ⟨l, H2, I2, pl, q2⟩ => thn (hu.run pins s2 σ H2 _ I2 q2) fun vu s3 ⟨u', H3, I3, pu, q3⟩ => ?_)))
  rw [evalPart_none]
  refine wpAny_pure ?_
  have I4 : Inv X pins σ H3 { s3 with heap := s3.heap.push { cls := .type "slice", data := .fields #[vl, vu, .none] } } := I3.kept (t' := s3.toks) fun b ob q => Heap.get?_push_of_some _ q
  refine wpAny_bind (wpAny_standAt (wpAny_bind (wpAny_holding ?_)))
  obtain ⟨a, b, xs, ys, rfl, rfl, ne, ea, eb, sm, q⟩ := q3
  cases r1
  cases r
  obtain ⟨z, its, n, rr, hl1, e⟩ := I4.lstM ea
  obtain ⟨z2, its2, n2, rr2, hl2, e2⟩ := I4.lstM eb
  have k1 := rr.length
  have k2 := rr2.length
  refine store_open e e2 ne (Heap.IsSliceOf.new ..) pl pu (by rw [List.size_toArray, List.size_toArray]; omega) ?_
  refine wpAny_release ⟨σ, _, ?_, q⟩
  rw [List.size_toArray, ← k1]
  refine I4.lset (its' := its.take (HT.sIx xs.length 0 l) ++ its2 ++ its.drop (max (HT.sIx xs.length 0 l) (HT.sIx xs.length xs.length u'))) (t' := _) ea e ?_ (Vals.append (Vals.append (rr.take _) rr2) (rr.drop _)) ?_
  · exact splice_eq its its2 _ _
  · rw [List.length_append, List.length_append, List.length_take, List.length_drop]
    omega
end
end SH

/-! SH6: comprehensions over enumerate and lists whose turns change nothing that is tracked. -/
namespace SH
open PySem PySem.Spec PyProof.Rows L2
theorem if_any {b : Bool} {A B : TE} {σ : L2.St} {H : Hp} {Q : VK} (Inv : V → Hp → Prop) (ha : b = true → ∀ Q' : VK, (∀ v H', Inv v H' → Q' v H') → A σ H Q')
    (hb : b = false → ∀ Q' : VK, (∀ v H', Inv v H' → Q' v H') → B σ H Q') (h : ∀ v H', Inv v H' → Q v H') : if b = true then A σ H Q else B σ H Q := by
  cases b with
  | true => rw [if_pos rfl]; exact ha rfl Q h
  | false => rw [if_neg Bool.false_ne_true]; exact hb rfl Q h
theorem Same.at {H H' : Hp} {a : Addr} {o : HO} (s : Same H H') (n : H a = none) : Same H (upd H' a o) := fun b u e => by
  rw [upd_ne (ne_of_none e n)]; exact s b u e
theorem while_cut {tc : TT} {tb : TS} {D : Ends} {σ : L2.St} {H : Hp} (Exit : L2.St → Hp → Prop) (main : ∀ σ' H', Exit σ' H' → D.nx σ' H')
    (h : (∀ σ' H', Exit σ' H' → D.nx σ' H') → tWhile tc tb D σ H) : tWhile tc tb D σ H := h main
section
variable {K : PySem.W.Frag} {tt : TT} {te : TE} {vs : List Nat} {σ : L2.St} {H : Hp} {D : Addr} {Qd : Hp → Prop}
/-- a turn's end, the heap told by Same -/
theorem lc_turnS {n : Nat} {keep : Nat → Bool} {val : Nat → V} {i : Nat} {σ2 : L2.St} {H2 : Hp} (hD : H D = none) (hi : i < n) (hn : n < 100000) (s2 : Same H H2)
    (h2 : H2 D = some (.lst (gives i keep val)))
    (ht : ∀ Q : Bool → Hp → Prop, (∀ H3, Same H2 H3 → Q (keep i) H3) → tt σ2 H2 Q)
    (he : ∀ H3, Same H2 H3 → ∀ Q : VK, keep i = true → (∀ H4, Same H3 H4 → Q (val i) H4) → te σ2 H3 Q) :
    tt σ2 H2 fun b H3 => if b = true then te σ2 H3 fun y H4 => ∃ acc, H4 D = some (.lst acc) ∧ acc.length < sizeLine ∧
      (Same H (upd H4 D (.lst (acc ++ [y]))) ∧ (upd H4 D (.lst (acc ++ [y]))) D = some (.lst (gives (i + 1) keep val)))
      else (Same H H3 ∧ H3 D = some (.lst (gives (i + 1) keep val))) := by
  refine ht _ fun H3 s3 => ?_
  by_cases h : keep i = true
  · rw [h]
    refine iteT (he H3 s3 _ h fun H4 s4 => ⟨_, s4 _ _ (s3 _ _ h2), small_line (by have := gives_len i keep val; omega), Same.at ((s2.trans s3).trans s4) hD, ?_⟩)
    rw [upd_same, gives_succ, if_pos h]
  · have h' : keep i = false := by cases e : keep i <;> simp_all
    rw [h']
    refine iteF ⟨s2.trans s3, ?_⟩
    rw [gives_succ, if_neg h]
    exact s3 _ _ h2
/-- [.. for i, x in enumerate(xs) ..] -/
theorem lcEn {a : Addr} {xs : List V} {j1 j2 : Nat} (keep : Nat → Bool) (val : Nat → V) (hx : SqL K H a xs) (hD : H D = none) (hn : xs.length < 100000)
    (hw : ∀ x y, wipe (((wipe σ vs).set j1 (some x)).set j2 (some y)) vs = wipe σ vs)
    (ht : ∀ i x H2 (Q : Bool → Hp → Prop), xs[i]? = some x → Same H H2 → (∀ H3, Same H2 H3 → Q (keep i) H3) → tt (((wipe σ vs).set j1 (some (.int (i : Nat)))).set j2 (some x)) H2 Q)
    (he : ∀ i x H2 (Q : VK), xs[i]? = some x → keep i = true → Same H H2 → (∀ H3, Same H2 H3 → Q (val i) H3) → te (((wipe σ vs).set j1 (some (.int (i : Nat)))).set j2 (some x)) H2 Q)
    (hd : ∀ H', Same H H' → H' D = some (.lst (gives xs.length keep val)) → Qd H') :
    ∃ W : Nat → Nat → Hp → Prop, (∃ m, W 0 m (upd H D (.lst []))) ∧ ∀ i m H, W i m H →
      ((Ite K a).stop i H ∧ Qd H) ∨ ((Ite K a).go i H ∧ ∃ Nx : Hp → Prop, (∀ H', Nx H' → ∃ m', m' < m ∧ W (i + 1) m' H') ∧
        ∀ x H', (Ite K a).yld i H x H' → gTup K 2 (gCons (gName j1) (gCons (gName j2) gNil)) x (wipe σ vs) H' fun σ2 H2 => wipe σ2 vs = wipe σ vs ∧ tt σ2 H2 fun b H3 =>
          if b = true then te σ2 H3 fun y H4 => ∃ acc, H4 D = some (.lst acc) ∧ acc.length < sizeLine ∧ Nx (upd H4 D (.lst (acc ++ [y]))) else Nx H3) := by
  refine ⟨fun i m H' => m = xs.length - i ∧ i ≤ xs.length ∧ Same H H' ∧ H' D = some (.lst (gives i keep val)), ⟨_, rfl, Nat.zero_le _, Same.new hD, upd_same⟩, ?_⟩
  rintro i m H2 ⟨rfl, hi, s2, h2⟩
  have hq := s2.seq hx
  rcases Nat.lt_or_ge i xs.length with lt | ge
  · refine .inr ⟨⟨xs, xs[i], hq, List.getElem?_eq_getElem lt⟩, fun H' => Same H H' ∧ H' D = some (.lst (gives (i + 1) keep val)), fun H' p' => ⟨xs.length - (i + 1), by omega, rfl, lt, p'.1, p'.2⟩, ?_⟩
    rintro v H' ⟨T, x, rfl, hT, rfl, f⟩
    have sT : Same H (upd H2 T (.tup [.int (i : Nat), x])) := s2.trans (Same.new hT)
    have hTD := Same.new (o := .tup [.int (i : Nat), x]) hT _ _ h2
    refine ⟨T, _, rfl, SqT.of upd_same, rfl, _, _, rfl, _, _, rfl, rfl, hw _ _, ?_⟩
    exact lc_turnS hD lt hn sT hTD (fun Q q => ht i x _ Q (f xs hq) sT q) (fun H3 s3 Q k q => he i x H3 Q (f xs hq) k (sT.trans s3) q)
  · obtain rfl : i = xs.length := Nat.le_antisymm hi ge
    exact .inl ⟨⟨xs, hq, Nat.le_refl _⟩, hd H2 s2 h2⟩
/-- [.. for x in xs ..] whose turns may make things -/
theorem lcLn {a : Addr} {xs : List V} {j : Nat} (keep : Nat → Bool) (val : Nat → V) (hx : SqL K H a xs) (hD : H D = none) (hn : xs.length < 100000)
    (hw : ∀ x, wipe ((wipe σ vs).set j (some x)) vs = wipe σ vs)
    (ht : ∀ i x H2 (Q : Bool → Hp → Prop), xs[i]? = some x → Same H H2 → (∀ H3, Same H2 H3 → Q (keep i) H3) → tt ((wipe σ vs).set j (some x)) H2 Q)
    (he : ∀ i x H2 (Q : VK), xs[i]? = some x → keep i = true → Same H H2 → (∀ H3, Same H2 H3 → Q (val i) H3) → te ((wipe σ vs).set j (some x)) H2 Q)
    (hd : ∀ H', Same H H' → H' D = some (.lst (gives xs.length keep val)) → Qd H') :
    ∃ W : Nat → Nat → Hp → Prop, (∃ m, W 0 m (upd H D (.lst []))) ∧ ∀ i m H, W i m H →
      ((Itl K a).stop i H ∧ Qd H) ∨ ((Itl K a).go i H ∧ ∃ Nx : Hp → Prop, (∀ H', Nx H' → ∃ m', m' < m ∧ W (i + 1) m' H') ∧
        ∀ x H', (Itl K a).yld i H x H' → gName j x (wipe σ vs) H' fun σ2 H2 => wipe σ2 vs = wipe σ vs ∧ tt σ2 H2 fun b H3 =>
          if b = true then te σ2 H3 fun y H4 => ∃ acc, H4 D = some (.lst acc) ∧ acc.length < sizeLine ∧ Nx (upd H4 D (.lst (acc ++ [y]))) else Nx H3) :=
  lc_list (xs := xs) (fun i H2 => Same H H2 ∧ H2 D = some (.lst (gives i keep val))) ⟨Same.new hD, upd_same⟩
    (fun i H2 hi e => e.1.seq hx)
    (fun i x H2 hi e => ⟨hw _, lc_turnS hD (List.getElem?_eq_some_iff.mp hi).1 hn e.1 e.2 (fun Q q => ht i x H2 Q hi e.1 q) (fun H3 s3 Q k q => he i x H3 Q hi k (e.1.trans s3) q)⟩)
    (fun H2 e => hd H2 e.1 e.2)
/-- [.. for i in range(lo, lo + n) ..] whose turns may make things -/
theorem lcRn {lo : Int} {n j : Nat} (keep : Nat → Bool) (val : Nat → V) (hD : H D = none) (hn : n < 100000)
    (hw : ∀ x, wipe ((wipe σ vs).set j (some x)) vs = wipe σ vs)
    (ht : ∀ i H2 (Q : Bool → Hp → Prop), i < n → Same H H2 → (∀ H3, Same H2 H3 → Q (keep i) H3) → tt ((wipe σ vs).set j (some (.int (lo + (i : Nat))))) H2 Q)
    (he : ∀ i H2 (Q : VK), i < n → keep i = true → Same H H2 → (∀ H3, Same H2 H3 → Q (val i) H3) → te ((wipe σ vs).set j (some (.int (lo + (i : Nat))))) H2 Q)
    (hd : ∀ H', Same H H' → H' D = some (.lst (gives n keep val)) → Qd H') :
    ∃ W : Nat → Nat → Hp → Prop, (∃ m, W 0 m (upd H D (.lst []))) ∧ ∀ i m H, W i m H →
      ((Itr lo n).stop i H ∧ Qd H) ∨ ((Itr lo n).go i H ∧ ∃ Nx : Hp → Prop, (∀ H', Nx H' → ∃ m', m' < m ∧ W (i + 1) m' H') ∧
        ∀ x H', (Itr lo n).yld i H x H' → gName j x (wipe σ vs) H' fun σ2 H2 => wipe σ2 vs = wipe σ vs ∧ tt σ2 H2 fun b H3 =>
          if b = true then te σ2 H3 fun y H4 => ∃ acc, H4 D = some (.lst acc) ∧ acc.length < sizeLine ∧ Nx (upd H4 D (.lst (acc ++ [y]))) else Nx H3) :=
  lc_range (fun i H2 => Same H H2 ∧ H2 D = some (.lst (gives i keep val))) ⟨Same.new hD, upd_same⟩
    (fun i H2 hi e => ⟨hw _, lc_turnS hD hi hn e.1 e.2 (fun Q q => ht i H2 Q hi e.1 q) (fun H3 s3 Q k q => he i H3 Q hi k (e.1.trans s3) q)⟩)
    (fun H2 e => hd H2 e.1 e.2)
/-- [.. for a, b in zip(xs, ys) ..], lists of any lengths, whose turns may make things -/
theorem lcZn {a b : Addr} {xs ys : List V} {j1 j2 : Nat} (keep : Nat → Bool) (val : Nat → V) (hx : SqL K H a xs) (hy : SqL K H b ys) (hD : H D = none) (hn : xs.length < 100000)
    (hw : ∀ x y, wipe (((wipe σ vs).set j1 (some x)).set j2 (some y)) vs = wipe σ vs)
    (ht : ∀ i x y H2 (Q : Bool → Hp → Prop), xs[i]? = some x → ys[i]? = some y → Same H H2 → (∀ H3, Same H2 H3 → Q (keep i) H3) → tt (((wipe σ vs).set j1 (some x)).set j2 (some y)) H2 Q)
    (he : ∀ i x y H2 (Q : VK), xs[i]? = some x → ys[i]? = some y → keep i = true → Same H H2 → (∀ H3, Same H2 H3 → Q (val i) H3) → te (((wipe σ vs).set j1 (some x)).set j2 (some y)) H2 Q)
    (hd : ∀ H', Same H H' → H' D = some (.lst (gives (min xs.length ys.length) keep val)) → Qd H') :
    ∃ W : Nat → Nat → Hp → Prop, (∃ m, W 0 m (upd H D (.lst []))) ∧ ∀ i m H, W i m H →
      ((Itz K a b).stop i H ∧ Qd H) ∨ ((Itz K a b).go i H ∧ ∃ Nx : Hp → Prop, (∀ H', Nx H' → ∃ m', m' < m ∧ W (i + 1) m' H') ∧
        ∀ x H', (Itz K a b).yld i H x H' → gTup K 2 (gCons (gName j1) (gCons (gName j2) gNil)) x (wipe σ vs) H' fun σ2 H2 => wipe σ2 vs = wipe σ vs ∧ tt σ2 H2 fun b H3 =>
          if b = true then te σ2 H3 fun y H4 => ∃ acc, H4 D = some (.lst acc) ∧ acc.length < sizeLine ∧ Nx (upd H4 D (.lst (acc ++ [y]))) else Nx H3) := by
  refine ⟨fun i m H' => m = min xs.length ys.length - i ∧ i ≤ min xs.length ys.length ∧ Same H H' ∧ H' D = some (.lst (gives i keep val)), ⟨_, rfl, Nat.zero_le _, Same.new hD, upd_same⟩, ?_⟩
  rintro i m H2 ⟨rfl, hi, s2, h2⟩
  have qx := s2.seq hx
  have qy := s2.seq hy
  rcases Nat.lt_or_ge i (min xs.length ys.length) with lt | ge
  · have lx : i < xs.length := by omega
    have ly : i < ys.length := by omega
    refine .inr ⟨⟨xs, ys, xs[i], ys[i], qx, qy, List.getElem?_eq_getElem lx, List.getElem?_eq_getElem ly⟩, fun H' => Same H H' ∧ H' D = some (.lst (gives (i + 1) keep val)),
      fun H' p' => ⟨min xs.length ys.length - (i + 1), by omega, rfl, lt, p'.1, p'.2⟩, ?_⟩
    rintro v H' ⟨T, x, y, rfl, hT, rfl, fx, fy⟩
    have sT : Same H (upd H2 T (.tup [x, y])) := s2.trans (Same.new hT)
    have hTD := Same.new (o := .tup [x, y]) hT _ _ h2
    refine ⟨T, _, rfl, SqT.of upd_same, rfl, _, _, rfl, _, _, rfl, rfl, hw _ _, ?_⟩
    exact lc_turnS hD lx hn sT hTD (fun Q q => ht i x y _ Q (fx xs qx) (fy ys qy) sT q) (fun H3 s3 Q k q => he i x y H3 Q (fx xs qx) (fy ys qy) k (sT.trans s3) q)
  · obtain rfl : i = min xs.length ys.length := Nat.le_antisymm hi ge
    refine .inl ⟨⟨xs, ys, qx, qy, ?_⟩, hd H2 s2 h2⟩
    rcases Nat.le_total xs.length ys.length with c | c
    · exact .inl (by omega)
    · exact .inr (by omega)
end
end SH

/-! SH7: set(xs) of a list of hin, and sorted of such a set, any number of members below the table's bound. -/
namespace SH
open PySem PySem.Spec PyProof.Rows L2
/-- the object that set() makes -/
abbrev setO0 (w : World) : Obj :=
  { cls := .type "set", dict := none, data := .set #[] 0 (.fresh 0 0 (!w.params.followText "set-order")) }
section
variable {P : Program} {w : World} {A : Around} {E : Value → Shared → Prop} {s : Shared}
set_option maxHeartbeats 3200000 in
theorem set_of_list {l : Addr} {xs : Array Value} (ns : List Int) {Q : Value → Shared → Prop} (calm : A.handled = none)
    (isl : s.heap.IsList l xs) (hin : IntsAre xs.toList ns) (few : ns.length + 1 < scanBound)
    (h : ∀ (g : Heap) (tk c : Nat), SetR w g s.heap.objs.size (fun j => decide (j ∈ ns)) c → c ≤ ns.length →
      (∀ b o, s.heap.get? b = some o → g.get? b = some o) →
      Q (.ref s.heap.objs.size) { s with heap := g, toks := tk }) :
    wpAny (model P w) A (call (.type "set") [.ref l]) Q E s := by
  have size : xs.size = ns.length := by rw [← Array.length_toList]; exact IntsAre.length hin
  obtain ⟨_, _, m1⟩ := F.called_set.mro
  have m2 := F.called_set.made
  have m3 := F.called_set.sub
  refine wpAny_call (codeAny_of_tree (show wpAny _ _ (callAny (.type "set") _) _ _ _ from ?_))
  refine wpAny_pure ⟨Code.quiet_builtin _ (by decide +kernel),
    codeAny_builtin F.entry_type_call ?_⟩
  rw [Around.under_plain (weight_type_call_type "set"
    [.ref l] []) rfl]
  have m4 := F.called_set.notType
  have m5 := F.called_set.canCreate
  have m6 := F.typeCall_set_1 (.ref l)
  repeat (any_goals (first | wp_step | assumption))
  refine codeAny_mono (code_set_led1 (.ref l) (E := E)
    (Q₁ := fun ob t => ob = .ref s.heap.objs.size ∧ t = { s with heap := s.heap.push (setO0 w) }) ⟨rfl, rfl⟩)
    fun res t made => ?_
  cases res with
  | error e => exact made
  | ok fl =>
  cases fl with
  | ret ob =>
    obtain ⟨rfl, rfl⟩ := made
    have at0 : (s.heap.push (setO0 w)).get? s.heap.objs.size = some (setO0 w) := Heap.get?_push_size _ rfl
    have ty0 : Shared.TypeIs { s with heap := s.heap.push (setO0 w) } (.ref s.heap.objs.size) "set" := ⟨_, at0, rfl⟩
    have m7 := F.called_set.init.lookup
    have m8 := F.called_set.init.bind (.ref s.heap.objs.size)
    repeat (any_goals (first | wp_step | assumption))
    refine codeAny_mono (codeAny_call_builtin (R := wants (fun r t => r = .none ∧ ∃ g tk c, t = { s with heap := g, toks := tk } ∧
        SetR w g s.heap.objs.size (fun j => decide (j ∈ ns)) c ∧ c ≤ ns.length ∧ ∀ b o, s.heap.get? b = some o → g.get? b = some o) E)
      F.called_set.init.plain F.entry_set_init (check_set_init_1 ty0 ?_)) fun res2 t2 done => ?_
    · obtain ⟨ol, lk, cl, en, dl⟩ := isl
      obtain ⟨c1, d1, x1, sl1⟩ := ol
      simp only at cl dl
      subst cl dl
      have lk' : (s.heap.push (setO0 w)).get? l = some { cls := .type "list", dict := d1, data := .seq xs en, slots := sl1 } :=
        Heap.get?_push_of_some _ lk
      have u1 := F.sub_list_set
      have u2 := F.sub_list_frozenset
      have u3 : (Value.type "list" == Value.type "dict") = false := by decide
      have isl1 : (s.heap.push (setO0 w)).IsList l xs := ⟨_, lk', rfl, en, rfl⟩
      unfold Builtin.«set.__init__» noKeywords
      unfold Builtin.Frozenset.updateFrom
      generalize iterE : pyIter = itf
      wp_walk
      subst iterE
      refine wpAny_pyIter_list isl1 (wpAny_bind (wpAny_runValue ?_))
      have lt : l < s.heap.objs.size := Heap.lt_size lk
      have calm3 : A.in1.in1.in1.handled = none := by simp [calm]
      have sz : (s.heap.push (setO0 w)).objs.size = s.heap.objs.size + 1 := Heap.size_push ..
      have ne1 : l ≠ (s.heap.push (setO0 w)).objs.size := by rw [sz]; exact Nat.ne_of_lt (Nat.lt_succ_of_lt lt)
      have ne2 : s.heap.objs.size ∉ [(s.heap.push (setO0 w)).objs.size, l] := by
        rw [sz]
        simp only [List.mem_cons, List.not_mem_nil, or_false, not_or]
        exact ⟨Nat.ne_of_lt (Nat.lt_succ_self _), Ne.symm (Nat.ne_of_lt lt)⟩
      have vals : ∀ (i : Nat) (v : Value), xs[i]? = some v → ∃ k t, ns[i]? = some k ∧ v = .int k t := fun i v e => by
        have il : i < ns.length := by rw [← size]; exact (Array.getElem?_eq_some_iff.mp e).1
        obtain ⟨t, et⟩ := IntsAre.int_at hin i v (by rw [Array.getElem?_toList]; exact e)
        refine ⟨ns.getD i 0, t, ?_, et⟩
        rw [List.getD_eq_getElem?_getD, List.getElem?_eq_getElem il]
        rfl
      refine set_update_ints ((Walks.list calm3 _ l ne1 xs).toS) s.heap.objs.size ne2 ns size few vals (xs.size - 0) 0 _ (by omega)
        (Nat.zero_le _) ⟨⟨_, Heap.get?_push_size _ rfl, rfl, rfl⟩, isl1.push _⟩ ⟨0, Nat.le_refl 0, ?_⟩ ?_
      · exact setR_new_at (Heap.get?_push_of_some _ at0)
      · intro t c mv cl1 R
        obtain ⟨g, gens, drawn, tk, os⟩ := t
        obtain rfl : gens = s.gens := mv.gens
        obtain rfl : drawn = s.drawn := mv.drawn
        obtain rfl : os = s.os := mv.os
        refine wpAny_pure (show wpAny _ _ (ret Value.none) _ _ _ from ?_)
        rw [size] at cl1
        refine wpAny_pure ⟨rfl, g, tk, c, rfl, R, cl1, fun b o e => mv.heap b o ?_ ?_⟩
        · have lb : b < s.heap.objs.size := Heap.lt_size e
          rw [sz]
          simp only [List.mem_cons, List.not_mem_nil, or_false, not_or]
          exact ⟨Nat.ne_of_lt lb, Nat.ne_of_lt (Nat.lt_succ_of_lt lb)⟩
        · exact Heap.get?_push_of_some _ (Heap.get?_push_of_some _ e)
    · cases res2 with
      | error e => exact done
      | ok fl2 =>
      cases fl2 with
      | ret r =>
        obtain ⟨rfl, g, tk, c, rfl, R, cl1, kp⟩ := done
        repeat (any_goals (first | wp_step | assumption))
        exact h _ _ _ R cl1 kp
      | _ => exact done.elim
  | _ => exact made.elim
theorem set_sorted {a : Addr} {S : Int → Bool} {n : Nat} {Q : Value → Shared → Prop} (R : SetR w s.heap a S n) (calm : A.handled = none)
    (h : ∀ t p (out : Array Value) (c : Nat) (ns : List Int), (∀ b o, s.heap.get? b = some o → t.heap.get? b = some o) → t.gens = s.gens → t.os = s.os →
      s.heap.objs.size ≤ p → t.heap.get? p = some (seqObj "list" out c) → IntsAre out.toList ns → ns.Pairwise (· < ·) →
      (∀ k, k ∈ ns ↔ S k = true) → ns.length = n → Q (.ref p) t) :
    wpAny (model P w) A (call (.builtin "sorted") [.ref a]) Q E s := by
  obtain ⟨ob, es, ep, tb, look, exact', dat, good, dis, mem, bnd, fits, cnt, ris, led⟩ := R
  refine Calls.call_function_entry kind_sorted plain_sorted entry_sorted (args_sorted1 _) ?_
  unfold Builtin.«sorted»
  refine wpAny_bind (m := checkCount "sorted" 1 1 _) (wpAny_pure (wpAny_bind (collect_set (A := A.in1) calm ⟨ob, look, exact'.1, dat⟩ fits bnd ris led
    fun t1 vs kp grow gn osn perm => ?_)))
  have lenV : vs.length = n := by rw [perm.length_eq, List.length_map, Array.length_toList]; exact cnt
  have intsV : IntsAre vs (vs.map Builtin.Re.reRawOf) := ints_of vs fun v hv => by
    obtain ⟨e, he, rfl⟩ := List.mem_map.mp (perm.mem_iff.mp hv)
    obtain ⟨k, tk, x, _⟩ := good e he
    exact ⟨k, tk, x⟩
  have permK : (vs.map Builtin.Re.reRawOf).Perm (es.toList.map keyOf) := by
    have := perm.map Builtin.Re.reRawOf
    rwa [List.map_map] at this
  have small : vs.length ≤ sizeLine := by
    have : scanBound = 4096 := rfl
    rw [lenV, sizeLine_eq]
    omega
  refine wpAny_bind (wpAny_newList ?_ small)
  have look2 : (t1.heap.push (seqObj "list" vs.toArray 0)).get? t1.heap.objs.size = some (seqObj "list" vs.toArray 0) :=
    Heap.get?_push_size _ rfl
  refine wpAny_bind (wpAny_holding (wpAny_call_entry slot_list_sort ⟨_, look2, rfl⟩ entry_list_sort
    (SrtO.list_sort_ord SrtO.swo_int look2 small (fun two => SrtO.ints_sortable intsV two) fun out o1 o2 => ⟨_, rfl, ?_⟩) (args_list_sort _)))
  obtain ⟨k1, k2, k3⟩ := SrtO.ints_out intsV o1 o2
  obtain ⟨c, ec⟩ := sortedHeap_at (vs := vs) (out := out.toArray) look2
  have pn : (out.map SrtO.iv).Perm (es.toList.map keyOf) := k2.trans permK
  refine wpAny_pure ⟨_, rfl, h _ t1.heap.objs.size out.toArray c (out.map SrtO.iv) (fun b u e => ?_) gn osn grow ec k1
    (lt_of_le_nodup _ k3 (pn.nodup_iff.mpr dis)) (fun k => by rw [pn.mem_iff, ← mem k]) ?_⟩
  · have e1 := kp b u e
    have lb : b < t1.heap.objs.size := Heap.lt_size e1
    have lb2 : b ≠ t1.heap.objs.size := Nat.ne_of_lt lb
    show (sortedHeap (t1.heap.push (seqObj "list" vs.toArray 0)) t1.heap.objs.size vs out.toArray).get? b = some u
    rw [sortedHeap_old lb2 (by rw [size_push']; exact Nat.lt_succ_of_lt lb)]
    exact Heap.get?_push_of_some _ e1
  · rw [pn.length_eq, List.length_map, Array.length_toList]
    exact cnt
end
/-- set(xs) -/
def rSetOfI (K : PySem.W.Frag) (w : World) : List V → Hp → VK → Prop := fun xs H Q => ∃ (l : Addr) (ns : List Int), xs = [.ref l] ∧ SqL K H l (iv ns) ∧ ns.length < 4000 ∧
  ∀ a n, H a = none → n ≤ ns.length → Q (.ref a) (upd H a (SetO w a (fun j => decide (j ∈ ns)) n))
theorem cr_setOfI {X : Cx} (hc : X.calm = true) : CallR X (.type "set") (rSetOfI X.K X.w) := by
  intro pins s σ H xs us Q I r h
  obtain ⟨l, ns, rfl, hl, hf, q⟩ := h
  rw [Vals.ref1 r]
  obtain ⟨its, rv, pl, hz⟩ := I.list hl
  have hn : H s.heap.objs.size = none := I.hok.fresh (Nat.le_refl _)
  refine set_of_list (P := X.prog) (w := X.w) ns (I.ok.hd hc) pl.isList (by simpa using ints_of_vals rv) (by have : scanBound = 4096 := rfl; omega) fun g tk c R cl kp => ?_
  exact ⟨.ref s.heap.objs.size, upd H s.heap.objs.size (SetO X.w s.heap.objs.size (fun j => decide (j ∈ ns)) c), I.laid (t' := tk) kp (Nat.le_refl _) (setO_new R), rfl, q _ c hn cl⟩
/-- sorted(found), any number of members -/
def rSortedN (w : World) : List V → Hp → VK → Prop := fun vs H Q => ∃ (a : Addr) (S : Int → Bool) (n : Nat), vs = [V.ref a] ∧ H a = some (SetO w a S n) ∧
  ∀ (ns : List Int) (p : Addr), ns.Pairwise (· < ·) → (∀ k : Int, k ∈ ns ↔ S k = true) → ns.length = n → H p = none → Q (.ref p) (upd H p (.lst (iv ns)))
theorem cr_sortedN {X : Cx} (hc : X.calm = true) : CallR X (.builtin "sorted") (rSortedN X.w) := by
  intro pins s σ H vs us Q I r h
  obtain ⟨a, S, n, rfl, ha, q⟩ := h
  have R := setO_get I ha
  rw [Vals.ref1 r]
  have nb : n < scanBound := by obtain ⟨_, es, _, _, _, _, _, _, _, _, b, _, e, _⟩ := R; omega
  refine set_sorted R (I.ok.hd hc) fun t p out c ns kp gn osn hp look hin asc mem len => ?_
  have small : (iv ns).length ≤ sizeLine := by
    have : scanBound = 4096 := rfl
    rw [List.length_map, len, sizeLine_eq]
    omega
  have hn : H p = none := I.hok.fresh hp
  have J : Inv X pins σ (upd H p (.lst (iv ns))) { s with heap := t.heap, gens := t.gens, drawn := t.drawn, toks := t.toks } :=
    I.call (ch := []) (Un.laid kp hp hn) (I.hok.laid kp hp ⟨small, out.toList, c, vals_of_ints hin, look⟩)
      (by rw [gn]; exact I.bare) (fun _ z => nomatch z)
  have e : t = { s with heap := t.heap, gens := t.gens, drawn := t.drawn, toks := t.toks } := by
    cases t; cases s; cases osn; rfl
  rw [e]
  exact ⟨.ref p, _, J, rfl, q ns p asc mem len hn⟩
end SH

/-! SH8: sorted(xs) of a list of ints, any length below 4000. -/
namespace SH
open PySem PySem.Spec PyProof.Rows L2
def rSortedAny (K : PySem.W.Frag) : List V → Hp → VK → Prop := fun vs H Q => ∃ (a : Addr) (ns : List Int), vs = [V.ref a] ∧ SqL K H a (ns.map V.int) ∧ ns.length < 4000 ∧
  ∀ (ns' : List Int) (p : Addr), ns'.Perm ns → ns'.Pairwise (· ≤ ·) → H p = none → Q (.ref p) (upd H p (.lst (ns'.map V.int)))
section
variable {X : Cx}
theorem cr_sortedAny : CallR X (.builtin "sorted") (rSortedAny X.K) := by
  intro pins s σ H vs us Q I r h
  obtain ⟨a, ns, rfl, hs, h64, q⟩ := h
  obtain ⟨its, rv, hl, _⟩ := I.list hs
  rw [Vals.ref1 r]
  have hi := rv.ints
  have hb : its.length ≤ sizeLine := by rw [hi.length, sizeLine_eq]; omega
  refine PyProof.Rows.sorted_intsAny hl.isList hi hb fun out ns' h1 h2 h3 => ?_
  obtain ⟨ep, he'⟩ := PyProof.Rows.sortedAll_at s.heap its out
  have hlen : (ns'.map V.int).length ≤ sizeLine := by rw [List.length_map, h2.length_eq, sizeLine_eq]; omega
  exact ⟨.ref _, upd H (s.heap.objs.size + 1) (.lst (ns'.map V.int)), I.laid (t' := s.toks) (fun _ _ => PyProof.Rows.sortedAll_old) (Nat.le_succ _) ⟨hlen, out.toList, ep, vals_of_ints h1, he'⟩, rfl, q ns' _ h2 h3 (I.hok.fresh (Nat.le_succ _))⟩
end
end SH

/-! SH9: values of any kind: data that stands in the heap, its repr, its type. -/
namespace SH
open PySem PySem.Spec PyProof.Rows L2

mutual
inductive Dx (H : Hp) : V → PyData → List Addr → Prop
  | non : Dx H .non .none []
  | bl (b : Bool) : Dx H (.bl b) (.bool b) []
  | int (i : Int) : Dx H (.int i) (.int i) []
  | str (x : Str) : Dx H (.str x) (.str x) []
  | lst {a : Addr} {xs : List V} {ds : List PyData} {as : List Addr} : H a = some (.lst xs) → DxAll H xs ds as → Dx H (.ref a) (.list ds) (a :: as)
  | tup {a : Addr} {xs : List V} {ds : List PyData} {as : List Addr} : H a = some (.tup xs) → DxAll H xs ds as → Dx H (.ref a) (.tuple ds) (a :: as)
  | emp {a : Addr} : H a = some (.dK []) → Dx H (.ref a) (.dict []) [a]
inductive DxAll (H : Hp) : List V → List PyData → List Addr → Prop
  | nil : DxAll H [] [] []
  | cons {v : V} {vs : List V} {d : PyData} {ds : List PyData} {as bs : List Addr} : Dx H v d as → DxAll H vs ds bs → DxAll H (v :: vs) (d :: ds) (as ++ bs)
end
mutual
theorem Dx.imp {H H' : Hp} : ∀ {d : PyData} {v : V} {as : List Addr}, Dx H v d as → (∀ a ∈ as, ∀ o, H a = some o → H' a = some o) → Dx H' v d as
  | .none, _, _, h, k => by cases h; exact .non
  | .bool b, _, _, h, k => by cases h; exact .bl b
  | .int i, _, _, h, k => by cases h; exact .int i
  | .str x, _, _, h, k => by cases h; exact .str x
  | .list ds, _, _, h, k => by
    cases h with
    | lst e r => exact .lst (k _ List.mem_cons_self _ e) (DxAll.imp r fun a m => k a (List.mem_cons_of_mem _ m))
  | .tuple ds, _, _, h, k => by
    cases h with
    | tup e r => exact .tup (k _ List.mem_cons_self _ e) (DxAll.imp r fun a m => k a (List.mem_cons_of_mem _ m))
  | .dict _, _, _, h, k => by
    cases h with
    | emp e => exact .emp (k _ List.mem_cons_self _ e)
theorem DxAll.imp {H H' : Hp} : ∀ {ds : List PyData} {vs : List V} {as : List Addr}, DxAll H vs ds as → (∀ a ∈ as, ∀ o, H a = some o → H' a = some o) → DxAll H' vs ds as
  | [], _, _, h, k => by cases h; exact .nil
  | d :: ds, _, _, h, k => by
    cases h with
    | cons h1 h2 => exact .cons (Dx.imp h1 fun a m => k a (List.mem_append_left _ m)) (DxAll.imp h2 fun a m => k a (List.mem_append_right _ m))
end
theorem Dx.same {H H' : Hp} {v : V} {d : PyData} {as : List Addr} (h : Dx H v d as) (s : Same H H') : Dx H' v d as := h.imp fun a _ o e => s a o e
theorem Dx.but {H H' : Hp} {g : Addr} {v : V} {d : PyData} {as : List Addr} (h : Dx H v d as) (s : SameBut g H H') (n : g ∉ as) : Dx H' v d as :=
  h.imp fun a m o e => s a o e fun z => n (z ▸ m)
theorem DxAll.append {H : Hp} : ∀ {xs ys : List V} {ds es : List PyData} {as bs : List Addr}, DxAll H xs ds as → DxAll H ys es bs → DxAll H (xs ++ ys) (ds ++ es) (as ++ bs)
  | _, _, _, _, _, _, .nil, h => h
  | _, _, _, _, _, _, .cons h1 h2, h => by
    rw [List.append_assoc]
    exact .cons h1 (DxAll.append h2 h)
theorem dx_ints {H : Hp} : ∀ ns : List Int, DxAll H (iv ns) (ns.map PyData.int) []
  | [] => .nil
  | n :: r => .cons (as := []) (.int n) (dx_ints r)
theorem dx_one {H : Hp} {v : V} {d : PyData} {as : List Addr} (h : Dx H v d as) : DxAll H [v] [d] as := by
  have := DxAll.cons h .nil
  rwa [List.append_nil] at this
theorem dx_dI {H : Hp} {a : Addr} {ns : List Int} (h : H a = some (.lst (iv ns))) : Dx H (.ref a) (dI ns) [a] := .lst h (dx_ints ns)
theorem DxAll.len {H : Hp} : ∀ {xs : List V} {ds : List PyData} {as : List Addr}, DxAll H xs ds as → xs.length = ds.length
  | _, _, _, .nil => rfl
  | _, _, _, .cons _ h => congrArg (· + 1) h.len
theorem DxAll.at {H : Hp} : ∀ {xs : List V} {ds : List PyData} {as : List Addr} {i : Nat} {x : V}, DxAll H xs ds as → xs[i]? = some x → ∃ d bs, ds[i]? = some d ∧ Dx H x d bs
  | _, _, _, _, _, .nil, e => by simp at e
  | _, _, _, 0, _, .cons h _, e => by simp at e; subst e; exact ⟨_, _, rfl, h⟩
  | _, _, _, i + 1, x, .cons _ t, e => by
    obtain ⟨d, bs, h1, h2⟩ := DxAll.at (i := i) (x := x) t (by simpa using e)
    exact ⟨d, bs, by simpa using h1, h2⟩
section
variable {X : Cx} {pins : List (Addr × Obj)} {σ : L2.St} {H : Hp} {s : Shared}
theorem Dx.fresh (I : Inv X pins σ H s) {a : Addr} {o : HO} (e : H a = some o) : a < s.heap.objs.size := I.hok.lt e
mutual
theorem Dx.reads (I : Inv X pins σ H s) : ∀ (d : PyData) (v : V) (u : Value) (as : List Addr), Dx H v d as → RelV v u → ∃ bs, Reads s.heap u d bs ∧ ∀ b ∈ bs, b ∈ as
  | .none, _, _, _, h, r => by
    cases h
    cases r
    exact ⟨_, Reads.none, fun _ z => z⟩
  | .bool b, _, _, _, h, r => by
    cases h
    cases r
    exact ⟨_, Reads.bool b, fun _ z => z⟩
  | .int i, _, _, _, h, r => by
    cases h
    obtain ⟨t, rfl⟩ := r
    exact ⟨_, Reads.int i t, fun _ z => z⟩
  | .str x, _, _, _, h, r => by
    cases h
    obtain ⟨t, rfl⟩ := r
    exact ⟨_, Reads.str x t, fun _ z => z⟩
  | .list ds, _, _, _, h, r => by
    cases h with
    | lst hs ha =>
      cases r
      obtain ⟨its, rv, ⟨o, n, ho, hc, _, hd⟩, _⟩ := I.list (SqL.of hs)
      obtain ⟨bs, hr, hb⟩ := Dx.readsAll I ds _ its _ ha rv
      refine ⟨_, Reads.list ho hc hd hr, fun b m => ?_⟩
      rcases List.mem_cons.mp m with rfl | m
      · exact List.mem_cons_self
      · exact List.mem_cons_of_mem _ (hb b m)
  | .tuple ds, _, _, _, h, r => by
    cases h with
    | tup hs ha =>
      cases r
      obtain ⟨its, rv, ⟨o, ho, hc, n, hd⟩, _⟩ := I.tuple (SqT.of hs)
      obtain ⟨bs, hr, hb⟩ := Dx.readsAll I ds _ its _ ha rv
      exact ⟨_, Reads.tuple ho hc hd hr, fun b m => List.mem_cons_of_mem _ (hb b m)⟩
  | .dict _, _, _, _, h, r => by
    cases h with
    | emp e =>
      cases r
      obtain ⟨_, _, vs, rel, o, es, ep, ho, ex, hd, _, pr, _⟩ := dk_of I.hok e
      cases rel
      have e0 : es.toList = [] := by
        cases q : es.toList with
        | nil => rfl
        | cons x y => rw [q] at pr; cases pr
      exact ⟨_, Reads.dict (as := []) (bs := []) ho ex.1 hd (by rw [e0]; exact .nil) (by rw [e0]; exact .nil), fun b m => m⟩
theorem Dx.readsAll (I : Inv X pins σ H s) : ∀ (ds : List PyData) (vs : List V) (us : List Value) (as : List Addr), DxAll H vs ds as → Vals vs us → ∃ bs, ReadsAll s.heap us ds bs ∧ ∀ b ∈ bs, b ∈ as
  | [], _, _, _, h, r => by
    cases h
    cases r
    exact ⟨_, ReadsAll.nil, fun _ z => z⟩
  | d :: ds, _, _, _, h, r => by
    cases h with
    | cons h1 h2 =>
      cases r with
      | cons r1 r2 =>
        obtain ⟨as, q1, m1⟩ := Dx.reads I d _ _ _ h1 r1
        obtain ⟨bs, q2, m2⟩ := Dx.readsAll I ds _ _ _ h2 r2
        refine ⟨_, ReadsAll.cons q1 q2, fun b m => ?_⟩
        rcases List.mem_append.mp m with m | m
        · exact List.mem_append_left _ (m1 b m)
        · exact List.mem_append_right _ (m2 b m)
end
end
/-! ### repr of such -/
/-- a value that can be shown, in at most L signs -/
def Fits (n L : Nat) (d : PyData) : Prop := d.showable = true ∧ d.depth ≤ n ∧ d.shown.length ≤ L
def rReprX : List V → Hp → VK → Prop := fun xs H Q =>
  ∃ (x : V) (d : PyData) (as : List Addr), xs = [x] ∧ Dx H x d as ∧ (d.hasDict = true → sysModules ∉ as) ∧ Fits 50 16000000 d ∧ Q (.str d.shown) H
section
variable {X : Cx}
theorem call_reprX (qt : Quiet X.A) (hu : X.A.units + 64 < cLine) : CallR X (.builtin "repr") rReprX := by
  intro pins s σ H xs us Q I r h
  obtain ⟨x, d, as, rfl, hd, hn, ⟨h1, h3, h4⟩, q⟩ := h
  obtain ⟨u, rfl, rx⟩ := vals1 r
  have hz : d.shown.length ≤ sizeLine := Nat.le_trans h4 (by decide)
  obtain ⟨bs, rd, hb⟩ := Dx.reads I d _ _ _ hd rx
  have atom : ∀ (a : Addr), u = .ref a → wpAny (model X.prog X.w) X.A (call (.builtin "repr") [u]) (EP X pins σ Q) X.xe s := fun a e => by
    subst e
    exact repr_of_reads' rd h1 (fun e m => hn e (hb _ m)) qt (by omega) (fun _ _ e => e)
      (fun h' u tk hk => ⟨.str d.shown, H, I.kept hk, ⟨u, rfl⟩, q⟩) hz
  cases hd with
  | non => cases rx; exact PySem.P.repr_of_none ⟨.str _, H, I.tok _, ⟨_, rfl⟩, q⟩
  | bl b => cases rx; exact PySem.P.repr_of_bool ⟨.str _, H, I.tok _, ⟨_, rfl⟩, by cases b <;> exact q⟩
  | int i =>
    obtain ⟨t, rfl⟩ := rx
    exact PySem.P.repr_of_int (of_decide_eq_true h1) ⟨.str _, H, I.tok _, ⟨_, rfl⟩, q⟩
  | str y =>
    obtain ⟨t, rfl⟩ := rx
    exact PySem.P.repr_of_str ⟨.str _, H, I.tok _, ⟨_, rfl⟩, q⟩ hz
  | lst _ _ => exact atom _ rx
  | tup _ _ => exact atom _ rx
  | emp _ => exact atom _ rx
end
/-! ### type(x), isinstance(x, T) -/
/-- the name of the type -/
def tyD : PyData → String
  | .none => "NoneType"
  | .bool _ => "bool"
  | .int _ => "int"
  | .str _ => "str"
  | .list _ => "list"
  | .tuple _ => "tuple"
  | .dict _ => "dict"
theorem Dx.tyX {K : PySem.W.Frag} {H : Hp} {v : V} {d : PyData} {as : List Addr} (h : Dx H v d as) : TyX K H v (.type (tyD d)) := by
  cases h with
  | non => exact .base .non
  | bl b => exact .base (.bl b)
  | int i => exact .base (.int i)
  | str x => exact .base (.str x)
  | lst e _ => exact .base (.lst e)
  | tup e _ => exact .base (.tup e)
  | emp e => exact .base (.dK e)
def rTyX : List V → Hp → VK → Prop := fun xs H Q => ∃ (x : V) (d : PyData) (as : List Addr), xs = [x] ∧ Dx H x d as ∧ Q (.ty (tyD d)) H
section
variable {X : Cx}
theorem call_typeX : CallR X (.type "type") rTyX := by
  intro pins s σ H xs us Q I r h
  obtain ⟨x, d, as, rfl, hd, q⟩ := h
  obtain ⟨u, rfl, rx⟩ := vals1 r
  have nb : ∀ d : PyData, (Value.type (tyD d) == Value.type "builtin_function_or_method") = false := fun d => by cases d <;> (simp only [tyD]; decide +kernel)
  have fin : s.TypeIs u (tyD d) → wpAny (model X.prog X.w) X.A (call (.type "type") [u]) (EP X pins σ Q) X.xe s :=
    fun h1 => call_type_of h1 (nb d) ⟨.ty _, H, I, rfl, q⟩
  cases hd with
  | non => cases rx; exact fin rfl
  | bl b => cases rx; exact fin rfl
  | int i => obtain ⟨t, rfl⟩ := rx; exact fin rfl
  | str y => obtain ⟨t, rfl⟩ := rx; exact fin rfl
  | lst e _ =>
    cases rx
    obtain ⟨its, rv, p, _⟩ := I.list (SqL.of e)
    exact fin p.isList.typeIs
  | tup e _ =>
    cases rx
    obtain ⟨its, rv, p, _⟩ := I.tuple (SqT.of e)
    exact fin p.typeIs
  | emp e =>
    cases rx
    obtain ⟨_, _, vs, rel, o, es, ep, ho, ex, _⟩ := dk_of I.hok e
    exact fin ⟨o, ho, ex.1⟩
/-- isinstance(x, T), T a built-in type -/
def rIsX : List V → Hp → VK → Prop := fun xs H Q => ∃ (x : V) (T : String) (d : PyData) (as : List Addr) (b : Bool), xs = [x, .ty T] ∧ Dx H x d as ∧ kitB (tyD d) T = some b ∧ Q (.bl b) H
theorem call_isX : CallR X (.builtin "isinstance") rIsX := by
  intro pins s σ H xs us Q I r h
  obtain ⟨x, T, d, as, b, rfl, hd, e, q⟩ := h
  exact call_isi pins s σ H _ us Q I r ⟨x, .ty T, _, _, b, rfl, .ty T, hd.tyX, kit_ty e, q⟩
theorem kit_int (d : PyData) : kitB (tyD d) "int" = some (match d with | .int _ => true | .bool _ => true | _ => false) := by
  cases d <;> (simp only [tyD]; decide +kernel)
theorem kit_bool (d : PyData) : kitB (tyD d) "bool" = some (match d with | .bool _ => true | _ => false) := by
  cases d <;> (simp only [tyD]; decide +kernel)
theorem kit_list (d : PyData) : kitB (tyD d) "list" = some (match d with | .list _ => true | _ => false) := by
  cases d <;> (simp only [tyD]; decide +kernel)
/-! ### new lists, known to stand apart from the module table -/
def tLstB (t : TA) : TE := fun σ H Q => t σ H fun xs H1 => xs.length ≤ sizeLine ∧ ∀ p, H1 p = none → p ≠ sysModules → Q (.ref p) (upd H1 p (.lst xs))
theorem pe_lstB {es : List Expr} {pos : Pos} {t : TA} (h : PA X es t) : PE X (.List es pos) (tLstB t) := by
  refine ⟨fun pins s σ H Q I hq => ?_⟩
  refine wpAny_List_spliced (thn (h.run pos pins s σ H _ I hq) fun us s1 ⟨xs, H1, I1, r, z, q⟩ => ⟨by rw [← r.length]; exact z, ?_⟩)
  have hf : H1 s1.heap.objs.size = none := I1.hok.fresh (Nat.le_refl _)
  refine ⟨.ref s1.heap.objs.size, upd H1 s1.heap.objs.size (.lst xs), I1.laid (t' := s1.toks) (fun b u e => Heap.get?_push_of_some _ e) (Nat.le_refl _) ?_, rfl, q _ hf (Nat.ne_of_gt I1.big)⟩
  exact ⟨z, us, 0, r, Heap.get?_push_size _ rfl⟩
def rCatB (K : PySem.W.Frag) : R2 := fun x y H Q => ∃ l b xs zs, x = .ref l ∧ y = .ref b ∧ SqL K H l xs ∧ SqL K H b zs ∧ xs.length + zs.length ≤ sizeLine ∧ ∀ p, H p = none → p ≠ sysModules → Q (.ref p) (upd H p (.lst (xs ++ zs)))
theorem op_catB : OpR X (binaryOp .Add) (rCatB X.K) := by
  intro pins s σ H x y v u Q I rx ry h
  obtain ⟨l, b, xs, zs, rfl, rfl, hx, hy, hz, q⟩ := h
  cases rx
  cases ry
  obtain ⟨its, r, ⟨o, n, ho, hc, hd, ht⟩, _⟩ := I.list hx
  obtain ⟨its2, r2, ⟨o2, n2, ho2, hc2, hd2, ht2⟩, _⟩ := I.list hy
  have e1 := r.length
  have e2 := r2.length
  obtain ⟨oc, od, dt, sl⟩ := o
  obtain ⟨oc2, od2, dt2, sl2⟩ := o2
  simp only at hc hd ht hc2 hd2 ht2
  subst hc hd ht hc2 hd2 ht2
  have ea : its.toArray ++ its2.toArray = (its ++ its2).toArray := by simp
  refine concat_meets ⟨_, ho, rfl⟩ ⟨_, ho2, rfl⟩ noFill_list_add seq_list_add PySem.F.slot_list_add PySem.F.entry_list_add
    (PySem.F.args_list_add_2 _ _) (list_addW l b its.toArray its2.toArray n n2 none none sl sl2 (by simp only [List.size_toArray]; omega)) ⟨ho, ho2, ?_⟩
  rw [ea]
  exact ⟨.ref _, _, I.lnew (t' := s.toks) (r.append r2) (by rw [List.length_append]; omega), rfl, q _ I.fresh (Nat.ne_of_gt I.big)⟩
end

def tDNewB : TE := fun _ H Q => ∀ p, H p = none → p ≠ sysModules → Q (.ref p) (upd H p (.dK []))
theorem pe_dnewB {X : Cx} {pos : Pos} : PE X (.Dict [] [] pos) tDNewB := ⟨fun pins s σ H Q I h =>
  wpAny_Dict_empty ⟨.ref s.heap.objs.size, _, I.laid (a := s.heap.objs.size) (o := .dK []) (t' := s.toks) (fun _ _ q => Heap.get?_push_of_some _ q) (Nat.le_refl _) (dk_empty s.heap I.big), rfl, h _ (I.hok.fresh (Nat.le_refl _)) (Nat.ne_of_gt I.big)⟩⟩
theorem atI_all {xs : List V} {p : V → Prop} (h : ∀ v ∈ xs, p v) {z : Int} (h0 : 0 ≤ z) (h1 : z < xs.length) : ∃ v, atI xs z = some v ∧ p v := by
  have e : z = ((z.toNat : Nat) : Int) := by omega
  have hl : z.toNat < xs.length := by omega
  refine ⟨xs[z.toNat], ?_, h _ (List.getElem_mem hl)⟩
  exact (congrArg (atI xs) e).trans (atI_nat (List.getElem?_eq_getElem hl))
theorem Fits.mono {n m L M : Nat} {d : PyData} (h : Fits n L d) (h1 : n ≤ m) (h2 : L ≤ M) : Fits m M d := ⟨h.1, Nat.le_trans h.2.1 h1, Nat.le_trans h.2.2 h2⟩
theorem small_log' {v : Int} (h : v.natAbs < 2 ^ 1900) : v.natAbs.log2 < 1920 := by
  by_cases e : v.natAbs = 0
  · rw [e]; decide
  · have := (Nat.log2_lt e).mpr h
    omega
theorem fit_int {v : Int} (h : v.natAbs < 2 ^ 1900) : Fits 0 1921 (.int v) := ⟨decide_eq_true (small_log' h), Nat.le_refl _, int_text_len_1921 (small_log' h)⟩
theorem fit_bool (b : Bool) : Fits 0 1921 (.bool b) := ⟨rfl, Nat.le_refl _, by cases b <;> decide⟩
theorem fit_none : Fits 0 1921 .none := ⟨rfl, Nat.le_refl _, by decide⟩
theorem fit_emp : Fits 1 1921 (.dict []) := ⟨rfl, by decide, by decide⟩
theorem fitAll {n L : Nat} : ∀ {ds : List PyData}, (∀ d ∈ ds, Fits n L d) → PyData.showableAll ds = true ∧ PyData.depthAll ds ≤ n ∧ ((PyData.shownAll ds).map (·.length)).sum ≤ L * ds.length ∧ (PyData.shownAll ds).length = ds.length
  | [], _ => ⟨rfl, Nat.zero_le _, Nat.le_refl _, rfl⟩
  | d :: r, h => by
    obtain ⟨a, b, c, e⟩ := fitAll (ds := r) fun v hv => h v (List.mem_cons_of_mem _ hv)
    obtain ⟨f1, f2, f3⟩ := h d List.mem_cons_self
    refine ⟨?_, ?_, ?_, ?_⟩
    · show (d.showable && PyData.showableAll r) = true
      rw [f1, a]; rfl
    · show max d.depth (PyData.depthAll r) ≤ n
      omega
    · show d.shown.length + ((PyData.shownAll r).map (·.length)).sum ≤ L * (r.length + 1)
      rw [Nat.mul_add]
      omega
    · show (PyData.shownAll r).length + 1 = r.length + 1
      omega
theorem fit_list {n L m : Nat} {ds : List PyData} (h : ∀ d ∈ ds, Fits n L d) (hl : ds.length ≤ m) : Fits (n + 1) (m * (L + 2) + 3) (.list ds) := by
  obtain ⟨a, b, c, e⟩ := fitAll h
  refine ⟨a, Nat.succ_le_succ b, ?_⟩
  show (listText (PyData.shownAll ds)).length ≤ _
  have := listText_len_le (PyData.shownAll ds)
  have h1 : L * ds.length + 2 * ds.length ≤ m * (L + 2) := by
    rw [← Nat.add_mul, Nat.mul_comm]
    exact Nat.mul_le_mul_right _ hl
  omega
theorem fit_tup {n L m : Nat} {ds : List PyData} (h : ∀ d ∈ ds, Fits n L d) (hl : ds.length ≤ m) : Fits (n + 1) (m * (L + 2) + 3) (.tuple ds) := by
  obtain ⟨a, b, c, e⟩ := fitAll h
  refine ⟨a, Nat.succ_le_succ b, ?_⟩
  show (tupleText (PyData.shownAll ds)).length ≤ _
  have := tupleText_len_le (PyData.shownAll ds)
  have h1 : L * ds.length + 2 * ds.length ≤ m * (L + 2) := by
    rw [← Nat.add_mul, Nat.mul_comm]
    exact Nat.mul_le_mul_right _ hl
  omega
theorem fit_ints {ns : List Int} (h : ∀ v ∈ ns, v.natAbs < 2 ^ 1900) : ∀ d ∈ ns.map PyData.int, Fits 0 1921 d := fun d hd => by
  obtain ⟨v, hv, rfl⟩ := List.mem_map.mp hd
  exact fit_int (h v hv)
theorem hasDict_app : ∀ xs ys : List PyData, PyData.hasDictAll (xs ++ ys) = (PyData.hasDictAll xs || PyData.hasDictAll ys)
  | [], _ => rfl
  | d :: r, ys => by
    show (d.hasDict || PyData.hasDictAll (r ++ ys)) = (d.hasDict || PyData.hasDictAll r || PyData.hasDictAll ys)
    rw [hasDict_app r ys, Bool.or_assoc]
end SH

/-! SH10: lists of pairs of ints (tuples), and comprehensions over them. -/
namespace SH
open PySem PySem.Spec PyProof.Rows L2

theorem lt1900 {n : Nat} (h : n < 2 ^ 128) : n < 2 ^ 1900 := Nat.lt_of_lt_of_le h (Nat.pow_le_pow_right (by decide) (by decide))
theorem noD {d : PyData} {as : List Addr} (h : d.hasDict = false) : d.hasDict = true → sysModules ∉ as := fun h' => by rw [h] at h'; cases h'
inductive Prs (H : Hp) : List V → List (Int × Int) → Prop
  | nil : Prs H [] []
  | cons {r : Addr} {s l : Int} {vs : List V} {os : List (Int × Int)} : H r = some (.tup [.int s, .int l]) → Prs H vs os → Prs H (.ref r :: vs) ((s, l) :: os)
theorem Prs.len {H : Hp} : ∀ {vs : List V} {os : List (Int × Int)}, Prs H vs os → vs.length = os.length
  | _, _, .nil => rfl
  | _, _, .cons _ h => congrArg (· + 1) h.len
theorem Prs.at {H : Hp} : ∀ {vs : List V} {os : List (Int × Int)} {i : Nat} {x : V}, Prs H vs os → vs[i]? = some x → ∃ r s l, x = .ref r ∧ os[i]? = some (s, l) ∧ H r = some (.tup [.int s, .int l])
  | _, _, _, _, .nil, e => by simp at e
  | _, _, 0, _, .cons h _, e => by simp at e; subst e; exact ⟨_, _, _, rfl, rfl, h⟩
  | _, _, i + 1, x, .cons _ t, e => by
    obtain ⟨r, s, l, h1, h2, h3⟩ := Prs.at (i := i) (x := x) t (by simpa using e)
    exact ⟨r, s, l, h1, by simpa using h2, h3⟩
theorem Prs.imp {H H' : Hp} : ∀ {vs : List V} {os : List (Int × Int)}, Prs H vs os → (∀ r o, H r = some (.tup o) → H' r = some (.tup o)) → Prs H' vs os
  | _, _, .nil, _ => .nil
  | _, _, .cons h t, k => .cons (k _ _ h) (t.imp k)
theorem Prs.same {H H' : Hp} {vs : List V} {os : List (Int × Int)} (h : Prs H vs os) (s : Same H H') : Prs H' vs os := h.imp fun r o e => s _ _ e
theorem Prs.but {H H' : Hp} {g : Addr} {xs : List V} {vs : List V} {os : List (Int × Int)} (h : Prs H vs os) (s : SameBut g H H') (hg : H g = some (.lst xs)) : Prs H' vs os :=
  h.imp fun r o e => s _ _ e (ne_of e hg (by intro z; cases z))
theorem Prs.upd {H : Hp} {g : Addr} {xs : List V} {o : HO} {vs : List V} {os : List (Int × Int)} (h : Prs H vs os) (hg : H g = some (.lst xs)) : Prs (L2.upd H g o) vs os :=
  h.imp fun r q e => by rw [upd_ne (ne_of e hg (by intro z; cases z))]; exact e
theorem Prs.append {H : Hp} : ∀ {vs ws : List V} {os qs : List (Int × Int)}, Prs H vs os → Prs H ws qs → Prs H (vs ++ ws) (os ++ qs)
  | _, _, _, _, .nil, h => h
  | _, _, _, _, .cons h1 h2, h => .cons h1 (h2.append h)
theorem Prs.set {H : Hp} {r : Addr} {s l : Int} (hr : H r = some (.tup [.int s, .int l])) : ∀ {vs : List V} {os : List (Int × Int)} (i : Nat), Prs H vs os → Prs H (vs.set i (.ref r)) (os.set i (s, l))
  | _, _, _, .nil => .nil
  | _, _, 0, .cons _ t => .cons hr t
  | _, _, i + 1, .cons h t => .cons h (Prs.set hr i t)
theorem Prs.take {H : Hp} : ∀ {vs : List V} {os : List (Int × Int)} (i : Nat), Prs H vs os → Prs H (vs.take i) (os.take i)
  | _, _, 0, _ => .nil
  | _, _, i + 1, .nil => .nil
  | _, _, i + 1, .cons h t => .cons h (Prs.take i t)
/-- as data -/
def pD (o : Int × Int) : PyData := .tuple [.int o.1, .int o.2]
theorem Prs.dx {H : Hp} : ∀ {vs : List V} {os : List (Int × Int)}, Prs H vs os → ∃ as, DxAll H vs (os.map pD) as
  | _, _, .nil => ⟨_, .nil⟩
  | _, _, .cons (s := s) (l := l) h t => by
    obtain ⟨as, d⟩ := t.dx
    exact ⟨_, .cons (.tup h (dx_ints [s, l])) d⟩
theorem Prs.dp {K : PySem.W.Frag} {H : Hp} : ∀ {vs : List V} {os : List (Int × Int)}, Prs H vs os → DpAll K H vs (os.map pD)
  | _, _, .nil => .nil
  | _, _, .cons (s := s) (l := l) h t => .cons (.tup (SqT.of h) (dp_ints [s, l])) t.dp
theorem fit_pD {o : Int × Int} (h1 : o.1.natAbs < 2 ^ 1900) (h2 : o.2.natAbs < 2 ^ 1900) : Fits 1 3849 (pD o) :=
  fit_tup (m := 2) (L := 1921) (fun d hd => by
    simp only [List.mem_cons, List.not_mem_nil, or_false] at hd
    rcases hd with rfl | rfl
    · exact fit_int h1
    · exact fit_int h2) (Nat.le_refl _)
theorem noDict_pD : ∀ os : List (Int × Int), PyData.hasDictAll (os.map pD) = false
  | [] => rfl
  | o :: r => by
    show ((pD o).hasDict || PyData.hasDictAll (r.map pD)) = false
    rw [noDict_pD r]
    rfl
theorem lay_pD : ∀ os : List (Int × Int), PyData.canLayAll0 (os.map pD) = true
  | [] => rfl
  | o :: r => by
    show ((pD o).canLay0 && PyData.canLayAll0 (r.map pD)) = true
    rw [lay_pD r]
    rfl
theorem depth_pD : ∀ os : List (Int × Int), PyData.depthAll (os.map pD) ≤ 1
  | [] => by decide
  | o :: r => by
    show max (pD o).depth (PyData.depthAll (r.map pD)) ≤ 1
    have h1 : (pD o).depth = 1 := rfl
    have := depth_pD r
    omega
theorem shaped_pD (os : List (Int × Int)) : SeqAt.shaped (.list (os.map pD)) = true := by
  unfold SeqAt.shaped
  have d : (PyData.list (os.map pD)).depth ≤ 2 := Nat.succ_le_succ (depth_pD os)
  show (PyData.canLayAll0 (os.map pD) && decide ((PyData.list (os.map pD)).depth ≤ 64)) = true
  rw [lay_pD, decide_eq_true (by omega)]
  rfl
section
variable {K : PySem.W.Frag} {tt : TT} {te : TE} {vs : List Nat} {σ : L2.St} {H : Hp} {D : Addr} {Qd : Hp → Prop}
/-- [.. for a, b in pairs ..] -/
theorem lcPn {a : Addr} {xs : List V} {os : List (Int × Int)} {j1 j2 : Nat} (keep : Nat → Bool) (val : Nat → V) (ha : H a = some (.lst xs)) (hp : Prs H xs os) (hD : H D = none) (hn : os.length < 100000)
    (hw : ∀ x y, wipe (((wipe σ vs).set j1 (some x)).set j2 (some y)) vs = wipe σ vs)
    (ht : ∀ i s l H2 (Q : Bool → Hp → Prop), os[i]? = some (s, l) → Same H H2 → (∀ H3, Same H2 H3 → Q (keep i) H3) → tt (((wipe σ vs).set j1 (some (.int s))).set j2 (some (.int l))) H2 Q)
    (he : ∀ i s l H2 (Q : VK), os[i]? = some (s, l) → keep i = true → Same H H2 → (∀ H3, Same H2 H3 → Q (val i) H3) → te (((wipe σ vs).set j1 (some (.int s))).set j2 (some (.int l))) H2 Q)
    (hd : ∀ H', Same H H' → H' D = some (.lst (gives os.length keep val)) → Qd H') :
    ∃ W : Nat → Nat → Hp → Prop, (∃ m, W 0 m (upd H D (.lst []))) ∧ ∀ i m H, W i m H →
      ((Itl K a).stop i H ∧ Qd H) ∨ ((Itl K a).go i H ∧ ∃ Nx : Hp → Prop, (∀ H', Nx H' → ∃ m', m' < m ∧ W (i + 1) m' H') ∧
        ∀ x H', (Itl K a).yld i H x H' → gTup K 2 (gCons (gName j1) (gCons (gName j2) gNil)) x (wipe σ vs) H' fun σ2 H2 => wipe σ2 vs = wipe σ vs ∧ tt σ2 H2 fun b H3 =>
          if b = true then te σ2 H3 fun y H4 => ∃ acc, H4 D = some (.lst acc) ∧ acc.length < sizeLine ∧ Nx (upd H4 D (.lst (acc ++ [y]))) else Nx H3) := by
  have hl := hp.len
  refine lc_list (xs := xs) (fun i H2 => Same H H2 ∧ H2 D = some (.lst (gives i keep val))) ⟨Same.new hD, upd_same⟩
    (fun i H2 hi e => SqL.of (e.1 _ _ ha)) (fun i x H2 hi e => ?_) (fun H2 e => hd H2 e.1 (by rw [← hl]; exact e.2))
  obtain ⟨r, s, l, rfl, ho, hr⟩ := hp.at hi
  refine ⟨r, _, rfl, SqT.of (e.1 _ _ hr), rfl, _, _, rfl, _, _, rfl, rfl, hw _ _, ?_⟩
  have il : i < xs.length := (List.getElem?_eq_some_iff.mp hi).1
  exact lc_turnS hD (by omega) hn e.1 e.2 (fun Q q => ht i s l H2 Q ho e.1 q) (fun H3 s3 Q k q => he i s l H3 Q ho k (e.1.trans s3) q)
end
end SH

/-! SH11: len(set(xs)) with repeats; lists of lists of ints. -/
namespace SH
open PySem PySem.Spec PyProof.Rows L2

theorem met_ok (val : Nat → Int) : ∀ n, (PyProof.Rows.firstMet val n).Nodup ∧ ∀ k, k ∈ PyProof.Rows.firstMet val n ↔ k ∈ (List.range n).map val
  | 0 => ⟨List.nodup_nil, fun k => Iff.rfl⟩
  | n + 1 => by
    obtain ⟨a, b⟩ := met_ok val n
    rw [PyProof.Rows.firstMet_succ]
    have e : ∀ (d : List Int) (v : Int), step_dedup d v = if (d.any (· == v)) = true then d else d ++ [v] := fun d v => rfl
    rw [e]
    by_cases c : (PyProof.Rows.firstMet val n).any (· == val n) = true
    · rw [if_pos c]
      obtain ⟨y, hy, ey⟩ := List.any_eq_true.mp c
      have ey2 : y = val n := eq_of_beq ey
      refine ⟨a, fun k => ?_⟩
      rw [b, List.range_succ, List.map_append, List.mem_append]
      constructor
      · exact .inl
      · rintro (h | h)
        · exact h
        · have : k = val n := by simpa using h
          rw [this, ← ey2]
          exact (b y).mp hy
    · rw [if_neg c]
      have no : val n ∉ PyProof.Rows.firstMet val n := fun h => c (List.any_eq_true.mpr ⟨_, h, by simp⟩)
      refine ⟨?_, fun k => ?_⟩
      · rw [List.nodup_append]
        refine ⟨a, by simp, fun x hx y hy => ?_⟩
        rw [List.mem_singleton.mp hy]
        intro z
        exact no (z ▸ hx)
      · rw [List.mem_append, b, List.range_succ, List.map_append, List.mem_append]
        simp
theorem met_all (ns : List Int) : ∀ k, k ∈ (List.range ns.length).map (fun i => ns.getD i 0) ↔ k ∈ ns := fun k => by
  rw [List.mem_map]
  constructor
  · rintro ⟨i, hi, rfl⟩
    have := List.mem_range.mp hi
    rw [List.getD_eq_getElem?_getD, List.getElem?_eq_getElem this]
    exact List.getElem_mem this
  · intro h
    obtain ⟨i, hi, rfl⟩ := List.getElem_of_mem h
    exact ⟨i, List.mem_range.mpr hi, by rw [List.getD_eq_getElem?_getD, List.getElem?_eq_getElem hi]; rfl⟩
def tLenSetG (K : PySem.W.Frag) (ta : TE) : TE := fun σ H Q => ta σ H fun x H1 => ∃ (l : Addr) (ns : List Int), x = .ref l ∧ SqL K H1 l (iv ns) ∧ ns.length ≤ 4000 ∧
  ∀ d : List Int, d.Nodup → (∀ k, k ∈ d ↔ k ∈ ns) → Q (.int (d.length : Nat)) H1
theorem pe_lenSetG {X : Cx} {a : Expr} {ta : TE} {p p2 q pos : Pos} (hg : Gl X "len") (hm : X.mg "len" = none) (hg2 : Gl X "set") (hm2 : X.mg "set" = none) (ha : PE X a ta) (hc : X.calm = true := by rfl)
    (na : starEach [a] X.env = (false, eval a X.env) :: starEach [] X.env := by rfl) : PE X (.Call (.Name "len" p) [.Call (.Name "set" p2) [a] [] q] [] pos) (tLenSetG X.K ta) := by
  refine ⟨fun pins s σ H Q I h => ?_⟩
  refine Call_ (ld_blt I hg hm boot_len ?_)
  refine PyProof.Rows.callWith_builtin1 (PyProof.Rows.args_cons ?_ rfl) rfl rfl
  refine Call_ (ld_blt I hg2 hm2 boot_set ?_)
  refine PyProof.Rows.callWith_type1 (PyProof.Rows.args_cons (thn (ha.run pins s σ H _ I h) fun v s1 ⟨x, H1, I1, r1, q1⟩ => PyProof.Rows.args_nil ?_) na) na rfl
  obtain ⟨l, ns, rfl, hq, hl, q1⟩ := q1
  cases r1
  obtain ⟨its, r, pl, hz⟩ := I1.list hq
  have hlen : its.toArray.size = ns.length := by rw [List.size_toArray, ← r.length, List.length_map]
  refine call_set_list (I1.ok.hd hc) pl.isList (by simpa using RZ.intsAre_vals r) (by rw [hlen]; unfold scanBound; omega) fun h' tk hS hk => ?_
  refine PyProof.Rows.args_nil ?_
  rw [hlen] at hS
  obtain ⟨m1, m2⟩ := met_ok (fun i => ns.getD i 0) ns.length
  have ml := PyProof.Rows.firstMet_length_le (fun i => ns.getD i 0) ns.length
  generalize PyProof.Rows.firstMet (fun i => ns.getD i 0) ns.length = d at *
  obtain ⟨o, es, ep, t, ho, hex, hd, _, _, _, hf, hn⟩ := hS
  have I2 : Inv X pins σ H1 { s1 with heap := h', toks := tk } := I1.kept fun b o e => hk b o (Heap.lt_size e) e
  exact call_len_set ho hex hd hf (by rw [hn] <;> omega) ⟨.int d.length, H1, I2.tok _, ⟨_, by rw [hn]⟩, q1 d m1 fun k => (m2 k).trans (met_all ns k)⟩

inductive Lsts (H : Hp) : List V → List (List Int) → Prop
  | nil : Lsts H [] []
  | cons {r : Addr} {L : List Int} {vs : List V} {Ls : List (List Int)} : H r = some (.lst (iv L)) → Lsts H vs Ls → Lsts H (.ref r :: vs) (L :: Ls)
theorem Lsts.len {H : Hp} : ∀ {vs : List V} {os : List (List Int)}, Lsts H vs os → vs.length = os.length
  | _, _, .nil => rfl
  | _, _, .cons _ h => congrArg (· + 1) h.len
theorem Lsts.at {H : Hp} : ∀ {vs : List V} {os : List (List Int)} {i : Nat} {x : V}, Lsts H vs os → vs[i]? = some x → ∃ r L, x = .ref r ∧ os[i]? = some L ∧ H r = some (.lst (iv L))
  | _, _, _, _, .nil, e => by simp at e
  | _, _, 0, _, .cons h _, e => by simp at e; subst e; exact ⟨_, _, rfl, rfl, h⟩
  | _, _, i + 1, x, .cons _ t, e => by
    obtain ⟨r, L, h1, h2, h3⟩ := Lsts.at (i := i) (x := x) t (by simpa using e)
    exact ⟨r, L, h1, by simpa using h2, h3⟩
theorem Lsts.same {H H' : Hp} : ∀ {vs : List V} {os : List (List Int)}, Lsts H vs os → Same H H' → Lsts H' vs os
  | _, _, .nil, _ => .nil
  | _, _, .cons h t, k => .cons (k _ _ h) (t.same k)
theorem Lsts.upd {H : Hp} {D : Addr} {o : HO} : ∀ {vs : List V} {os : List (List Int)}, Lsts H vs os → V.ref D ∉ vs → Lsts (L2.upd H D o) vs os
  | _, _, .nil, _ => .nil
  | _, _, .cons (r := r) h t, n => .cons (by rw [upd_ne (fun e => n (by rw [e]; exact List.mem_cons_self))]; exact h) (t.upd fun m => n (List.mem_cons_of_mem _ m))
theorem Lsts.append {H : Hp} : ∀ {vs ws : List V} {os qs : List (List Int)}, Lsts H vs os → Lsts H ws qs → Lsts H (vs ++ ws) (os ++ qs)
  | _, _, _, _, .nil, h => h
  | _, _, _, _, .cons h1 h2, h => .cons h1 (h2.append h)
end SH

/-! SH12: set(xs) of a list of any length, few different members. -/
namespace SH
open PySem PySem.Spec PyProof.Rows L2
theorem nodup_small : ∀ (D : Nat) {ks : List Int}, ks.Nodup → (∀ k ∈ ks, 0 ≤ k ∧ k < D) → ks.length ≤ D
  | 0, ks, _, b => by
    cases ks with
    | nil => exact Nat.le_refl _
    | cons x r => have := b x List.mem_cons_self; omega
  | D + 1, ks, nd, b => by
    have e := nodup_small D (ks := ks.erase (D : Int)) (nd.erase _) fun k hk => by
      have h1 := b k (List.mem_of_mem_erase hk)
      have h2 : k ≠ (D : Int) := fun e => by
        rw [e] at hk
        exact (List.Nodup.not_mem_erase nd) hk
      omega
    have := List.length_erase_le (a := (D : Int)) (l := ks)
    by_cases c : (D : Int) ∈ ks
    · rw [List.length_erase_of_mem c] at e
      omega
    · rw [List.erase_of_not_mem c] at e
      omega
theorem setR_few {w : World} {h : Heap} {a : Addr} {S : Int → Bool} {n D : Nat} (R : SetR w h a S n) (b : ∀ k, S k = true → 0 ≤ k ∧ k < D) : n ≤ D := by
  obtain ⟨o, es, ep, t, _, _, _, _, nd, mem, _, _, e, _⟩ := R
  have := nodup_small D nd fun k hk => b k ((mem k).mpr hk)
  rw [List.length_map, Array.length_toList] at this
  omega
section
variable {P : Program} {w : World} {A : Around} {E : Value → Shared → Prop} {s : Shared}
theorem set_update_few {I : Addr} {fp wr : List Addr} {G : Array GenState → Array GenState → Prop} {n : Nat} {Pv : Nat → Value → Prop} {St : Nat → Shared → Prop} {R : Result → Shared → Prop}
    (W : WalksS P w A.in1 I fp wr G n Pv St) (S : Addr) (nf : S ∉ fp) (ns : List Int) (hn : n = ns.length) (few : ∀ v ∈ ns, 0 ≤ v ∧ v < (1000 : Nat)) (hval : ∀ i v, Pv i v → ∃ k t, ns[i]? = some k ∧ v = .int k t) :
    ∀ (left i : Nat) (s : Shared), n - i = left → i ≤ n → St i s → (∃ c, SetR w s.heap S (fun j => decide (j ∈ ns.take i)) c) →
      (∀ s' c, Moved (S :: wr) G s s' → c ≤ 1000 → SetR w s'.heap S (fun j => decide (j ∈ ns)) c → R (.ok (.ret .none)) s') →
      codeAny (model P w) A (.builtin "set.update.loop" ⟨[.ref S, .ref I], []⟩) R s := by
  have nw : S ∉ wr := fun h => nf (W.sub _ h)
  have up : ∀ b ∈ wr, b ∈ S :: wr := fun b hb => List.mem_cons_of_mem _ hb
  intro left
  induction left with
  | zero =>
    intro i s hk hi st ⟨c, hS⟩ hR
    obtain rfl : i = n := by omega
    refine codeAny_builtin F.entry_set_update_loop ?_
    rw [Around.under_plainId F.plain_set_update_loop _]
    show wpAny _ A.in1 (pyNext (.ref I) >>= _) _ _ s
    refine wpAny_bind (W.done s _ _ st fun s' m => ?_)
    show wpAny _ A.in1 (ret Value.none) _ _ s'
    rw [List.take_of_length_le (by omega)] at hS
    exact wpAny_pure (hR s' c (m.mono up) (setR_few hS fun k hk => few k (of_decide_eq_true hk)) (hS.at fun o e => m.heap S o nw e))
  | succ left ih =>
    intro i s hk hi st ⟨c, hS⟩ hR
    have lt : i < n := by omega
    refine codeAny_builtin F.entry_set_update_loop ?_
    rw [Around.under_plainId F.plain_set_update_loop _]
    show wpAny _ A.in1 (pyNext (.ref I) >>= _) _ _ s
    refine wpAny_bind (W.item i s _ _ lt st fun v s' pv st' m => ?_)
    obtain ⟨z, t, hz, rfl⟩ := hval i v pv
    have S1 : SetR w s'.heap S (fun j => decide (j ∈ ns.take i)) c := hS.at fun o e => m.heap S o nw e
    have cb : c ≤ 1000 := setR_few S1 fun k hk => few k (List.mem_of_mem_take (of_decide_eq_true hk))
    show wpAny _ A.in1 (holding [Value.int z t] (setAdd S (.int z t)) >>= _) _ _ s'
    refine wpAny_bind (wpAny_holding ?_)
    unfold setAdd
    refine wpAny_holding ?_
    refine wpAny_bind ((intKind P w).pyHash (k := z) (intKind_is _ _ _ _) ?_)
    refine setR_add_hashed (s := { s' with toks := s'.toks + 1 }) S1 (by have : scanBound = 4096 := rfl; omega) fun h' oth S2 => ?_
    have S3 : SetR w h' S (fun j => decide (j ∈ ns.take (i + 1))) (if decide (z ∈ ns.take i) = true then c else c + 1) := S2.congr fun j => by
      rw [List.take_add_one, hz]
      simp [List.mem_append]
    refine wpAny_pure ⟨plainId_quiet F.plain_set_update_loop _, ih (i + 1) _ (by omega) lt (W.frame _ s' _ _ st' (Nat.le_succ _) fun b hb o e => ?_) ⟨_, S3⟩ fun s'' c2 m2 c2b SS => ?_⟩
    · rw [oth.2 b (fun h : b = S => nf (by rw [← h]; exact hb))]; exact e
    · refine hR s'' c2 (Moved.trans W.gtrans ((m.mono up).then_heap (Nat.le_succ _) fun b o hb e => ?_) m2) c2b SS
      rw [oth.2 b (fun h : b = S => hb (by rw [h]; exact List.mem_cons_self))]; exact e
set_option maxHeartbeats 3200000 in
theorem set_of_few {l : Addr} {xs : Array Value} (ns : List Int) {Q : Value → Shared → Prop} (calm : A.handled = none)
    (isl : s.heap.IsList l xs) (hin : IntsAre xs.toList ns) (few : ∀ v ∈ ns, 0 ≤ v ∧ v < (1000 : Nat))
    (h : ∀ (g : Heap) (tk c : Nat), SetR w g s.heap.objs.size (fun j => decide (j ∈ ns)) c → c ≤ 1000 →
      (∀ b o, s.heap.get? b = some o → g.get? b = some o) →
      Q (.ref s.heap.objs.size) { s with heap := g, toks := tk }) :
    wpAny (model P w) A (call (.type "set") [.ref l]) Q E s := by
  have size : xs.size = ns.length := by rw [← Array.length_toList]; exact IntsAre.length hin
  obtain ⟨_, _, m1⟩ := F.called_set.mro
  have m2 := F.called_set.made
  have m3 := F.called_set.sub
  refine wpAny_call (codeAny_of_tree (show wpAny _ _ (callAny (.type "set") _) _ _ _ from ?_))
  refine wpAny_pure ⟨Code.quiet_builtin _ (by decide +kernel),
    codeAny_builtin F.entry_type_call ?_⟩
  rw [Around.under_plain (weight_type_call_type "set"
    [.ref l] []) rfl]
  have m4 := F.called_set.notType
  have m5 := F.called_set.canCreate
  have m6 := F.typeCall_set_1 (.ref l)
  repeat (any_goals (first | wp_step | assumption))
  refine codeAny_mono (code_set_led1 (.ref l) (E := E)
    (Q₁ := fun ob t => ob = .ref s.heap.objs.size ∧ t = { s with heap := s.heap.push (setO0 w) }) ⟨rfl, rfl⟩)
    fun res t made => ?_
  cases res with
  | error e => exact made
  | ok fl =>
  cases fl with
  | ret ob =>
    obtain ⟨rfl, rfl⟩ := made
    have at0 : (s.heap.push (setO0 w)).get? s.heap.objs.size = some (setO0 w) := Heap.get?_push_size _ rfl
    have ty0 : Shared.TypeIs { s with heap := s.heap.push (setO0 w) } (.ref s.heap.objs.size) "set" := ⟨_, at0, rfl⟩
    have m7 := F.called_set.init.lookup
    have m8 := F.called_set.init.bind (.ref s.heap.objs.size)
    repeat (any_goals (first | wp_step | assumption))
    refine codeAny_mono (codeAny_call_builtin (R := wants (fun r t => r = .none ∧ ∃ g tk c, t = { s with heap := g, toks := tk } ∧
        SetR w g s.heap.objs.size (fun j => decide (j ∈ ns)) c ∧ c ≤ 1000 ∧ ∀ b o, s.heap.get? b = some o → g.get? b = some o) E)
      F.called_set.init.plain F.entry_set_init (check_set_init_1 ty0 ?_)) fun res2 t2 done => ?_
    · obtain ⟨ol, lk, cl, en, dl⟩ := isl
      obtain ⟨c1, d1, x1, sl1⟩ := ol
      simp only at cl dl
      subst cl dl
      have lk' : (s.heap.push (setO0 w)).get? l = some { cls := .type "list", dict := d1, data := .seq xs en, slots := sl1 } :=
        Heap.get?_push_of_some _ lk
      have u1 := F.sub_list_set
      have u2 := F.sub_list_frozenset
      have u3 : (Value.type "list" == Value.type "dict") = false := by decide
      have isl1 : (s.heap.push (setO0 w)).IsList l xs := ⟨_, lk', rfl, en, rfl⟩
      unfold Builtin.«set.__init__» noKeywords
      unfold Builtin.Frozenset.updateFrom
      generalize iterE : pyIter = itf
      wp_walk
      subst iterE
      refine wpAny_pyIter_list isl1 (wpAny_bind (wpAny_runValue ?_))
      have lt : l < s.heap.objs.size := Heap.lt_size lk
      have calm3 : A.in1.in1.in1.handled = none := by simp [calm]
      have sz : (s.heap.push (setO0 w)).objs.size = s.heap.objs.size + 1 := Heap.size_push ..
      have ne1 : l ≠ (s.heap.push (setO0 w)).objs.size := by rw [sz]; exact Nat.ne_of_lt (Nat.lt_succ_of_lt lt)
      have ne2 : s.heap.objs.size ∉ [(s.heap.push (setO0 w)).objs.size, l] := by
        rw [sz]
        simp only [List.mem_cons, List.not_mem_nil, or_false, not_or]
        exact ⟨Nat.ne_of_lt (Nat.lt_succ_self _), Ne.symm (Nat.ne_of_lt lt)⟩
      have vals : ∀ (i : Nat) (v : Value), xs[i]? = some v → ∃ k t, ns[i]? = some k ∧ v = .int k t := fun i v e => by
        have il : i < ns.length := by rw [← size]; exact (Array.getElem?_eq_some_iff.mp e).1
        obtain ⟨t, et⟩ := IntsAre.int_at hin i v (by rw [Array.getElem?_toList]; exact e)
        refine ⟨ns.getD i 0, t, ?_, et⟩
        rw [List.getD_eq_getElem?_getD, List.getElem?_eq_getElem il]
        rfl
      refine set_update_few ((Walks.list calm3 _ l ne1 xs).toS) s.heap.objs.size ne2 ns size few vals (xs.size - 0) 0 _ (by omega)
        (Nat.zero_le _) ⟨⟨_, Heap.get?_push_size _ rfl, rfl, rfl⟩, isl1.push _⟩ ⟨0, ?_⟩ ?_
      · exact setR_new_at (Heap.get?_push_of_some _ at0)
      · intro t c mv cl1 R
        obtain ⟨g, gens, drawn, tk, os⟩ := t
        obtain rfl : gens = s.gens := mv.gens
        obtain rfl : drawn = s.drawn := mv.drawn
        obtain rfl : os = s.os := mv.os
        refine wpAny_pure (show wpAny _ _ (ret Value.none) _ _ _ from ?_)
        refine wpAny_pure ⟨rfl, g, tk, c, rfl, R, cl1, fun b o e => mv.heap b o ?_ ?_⟩
        · have lb : b < s.heap.objs.size := Heap.lt_size e
          rw [sz]
          simp only [List.mem_cons, List.not_mem_nil, or_false, not_or]
          exact ⟨Nat.ne_of_lt lb, Nat.ne_of_lt (Nat.lt_succ_of_lt lb)⟩
        · exact Heap.get?_push_of_some _ (Heap.get?_push_of_some _ e)
    · cases res2 with
      | error e => exact done
      | ok fl2 =>
      cases fl2 with
      | ret r =>
        obtain ⟨rfl, g, tk, c, rfl, R, cl1, kp⟩ := done
        repeat (any_goals (first | wp_step | assumption))
        exact h _ _ _ R cl1 kp
      | _ => exact done.elim
  | _ => exact made.elim
end
/-- set(xs), few different members -/
def rSetFew (K : PySem.W.Frag) (w : World) : List V → Hp → VK → Prop := fun xs H Q => ∃ (l : Addr) (ns : List Int), xs = [.ref l] ∧ SqL K H l (iv ns) ∧ (∀ v ∈ ns, 0 ≤ v ∧ v < (1000 : Nat)) ∧
  ∀ a n, H a = none → n ≤ 1000 → Q (.ref a) (upd H a (SetO w a (fun j => decide (j ∈ ns)) n))
theorem cr_setFew {X : Cx} (hc : X.calm = true) : CallR X (.type "set") (rSetFew X.K X.w) := by
  intro pins s σ H xs us Q I r h
  obtain ⟨l, ns, rfl, hl, hf, q⟩ := h
  rw [Vals.ref1 r]
  obtain ⟨its, rv, pl, hz⟩ := I.list hl
  have hn : H s.heap.objs.size = none := I.hok.fresh (Nat.le_refl _)
  refine set_of_few (P := X.prog) (w := X.w) ns (I.ok.hd hc) pl.isList (by simpa using ints_of_vals rv) hf fun g tk c R cl kp => ?_
  exact ⟨.ref s.heap.objs.size, upd H s.heap.objs.size (SetO X.w s.heap.objs.size (fun j => decide (j ∈ ns)) c), I.laid (t' := tk) kp (Nat.le_refl _) (setO_new R), rfl, q _ c hn cl⟩
end SH

/-! SH13: d.update(d2) of dicts with keys that are ints or strings. -/
namespace SH
open PySem PySem.Spec PyProof.Rows L2
def rDUpdate : V → List V → Hp → VK → Prop := fun x vs H Q => ∃ (a b : Addr) (kvs more : List (Key × V)), x = .ref a ∧ vs = [.ref b] ∧ H a = some (.dK kvs) ∧ H b = some (.dK more) ∧ a ≠ b ∧ kvs.length + more.length ≤ sizeLine ∧ Q .non (upd H a (.dK (mergeK kvs more)))
theorem mtd_update {X : Cx} : MtR X "dict.update" rDUpdate := by
  intro pins s σ H x vs v us Q I rx rv h
  obtain ⟨a, b, kvs, more, rfl, rfl, ea, eb, ab, hl, q⟩ := h
  obtain rfl : v = Value.ref a := rx
  rw [Vals.ref1 rv]
  obtain ⟨z1, hd1, vs1, rel1, dd1⟩ := dk_of I.hok ea
  obtain ⟨z2, hd2, vs2, rel2, dd2⟩ := dk_of I.hok eb
  refine call_meetsIn PySem.F.slot_dict_update dd1.typeIs PySem.F.entry_dict_update (PySem.F.args_dict_update_2 _ _) (meets_dict_update (mixKind X.prog X.w) a b ab hd2)
    ⟨vs1, vs2, dd1, dd2, by rw [← rel1.length, ← rel2.length]; exact hl, fun h' dd' _ hs => ?_⟩
  have he : ∃ q, h'.get? a = some q := let ⟨q, _, _, hq, _⟩ := dd'; ⟨q, hq⟩
  have hlen : (mergeK kvs more).length ≤ sizeLine := Nat.le_trans (length_mergeK more kvs) (by omega)
  exact ⟨.non, _, d_write (t' := s.toks) I (by rw [ea]; exact True.intro) hs he (dk_new hlen hd1 (KV.merge rel2 rel1) dd'), rfl, q⟩
section
variable {X : Cx} {o : Expr} {to : TE} {e : Expr} {t : TA} {apos cpos : Pos}
theorem pe_dupdate (ho : PE X o to) (ha : PA X [e] t) (hbase : attributeBase o "update" X.env (eval o X.env) = eval o X.env := by rfl) (hline : (apos.endLine == cpos.line) = true := by rfl)
    (hfew : ((backTo cpos (starEach [e] X.env)).all (fun x => !x.1) && (backToKw cpos (keywordEach [] X.env)).all (fun x => x.1.isSome)
      && decide (([e] : List Expr).length + ([] : List Keyword).length + (if ([] : List Keyword).isEmpty then 0 else 1) < 30)) = true := by rfl)
    (hs : starEach [e] X.env = (false, eval e X.env) :: starEach [] X.env := by rfl) (hplain : (backTo cpos (starEach [] X.env)).any (·.1) = false := by rfl) :
    PE X (.Call (.Attribute o "update" apos) [e] [] cpos) (tBM X.K "dict" rDUpdate to t) :=
  pe_bm PySem.F.plainAttrs_dict PySem.F.slot_dict_update PySem.F.type_dict_update mtd_update ho ha hbase hfew hline hs hplain
end
end SH

/-! SH14: defs that raise, under empty guards; raise X('..'); except X. -/
namespace SH
open PySem PySem.Spec PyProof.Rows L2
section
variable {X : Cx} {CX : CXT} {k : Nat} {f : Addr} {fd : FuncData} {st : Stmt} {ps ks : List Str} {sp : Sp} {E : L2.St → XK} {x : Str} {p pos : Pos}
  {e : Expr} {es : List Expr} {t tk : TA} {kws : List Keyword}
theorem goS {pins : List (Addr × Obj)} {σ : L2.St} {H : Hp} {s : Shared} {Q : VK} {us : List Value} {vs : List V}
    (F : FnG X.prog X.w X.K X.mg X.base CX k f fd ps sp) (room : Room k X.A) (qt : Quiet X.A) (hb : Binds X.K fd ps []) (hx : PassesAt CX X σ (E σ))
    (I : Inv X pins σ H s) (r : Vals vs us) (h : sp vs H Q (E σ)) : wpAny (model X.prog X.w) X.A (call (.ref f) us) (EP X pins σ Q) X.xe s := by
  have hl : us.length = ps.length := by rw [← r.length]; exact F.arity _ _ _ _ h
  have b := hb s us I.kIn (by rw [List.append_nil]; exact hl)
  rw [List.append_nil] at b
  refine wpAny_call (codeAny_mono (F.go X.A X.stack s H ⟨us, []⟩ us vs Q (E σ) room qt I.env0 b r h) fun r s' hq => ?_)
  cases r with
  | error e => exact hx pins H s e s' I hq
  | ok fl =>
    cases fl with
    | ret u => exact I.after hq
    | next => exact False.elim hq
    | brk => exact False.elim hq
    | cont => exact False.elim hq
/-- f(e, ..), f a def that may raise: what is raised is wished for at the caller's slots -/
theorem pe_hasS (h : Has X.prog X.w X.K X.mg X.base CX k x st ps sp) (room : Room k X.A) (qt : Quiet X.A) (hg : Gl X x)
    (hx : ∀ σ, PassesAt CX X σ (E σ)) (ha : PA X (e :: es) t) (hdb : (x == ("__debug__" : Str)) = false := by decide)
    (he : starEach (e :: es) X.env = (false, eval e X.env) :: starEach es X.env := by rfl)
    (hpl : (backTo pos (starEach es X.env)).any (·.1) = false := by rfl) :
    PE X (.Call (.Name x p) (e :: es) [] pos) (tCallS sp E t) := by
  obtain ⟨f, fd, F, m, G, b⟩ := h
  refine ⟨fun pins s σ H Q I h => ?_⟩
  refine wpAny_Call_Name_kw (ld_glob I hg m ?_ hdb)
  refine PySem.W.callWith_K (h₀ := X.base) I.ok.mod.kin F.kp (thn (ha.run pos pins s σ H _ I h) fun us s1 ⟨vs, H1, I1, r, q⟩ => ⟨I1.kIn, ?_⟩) he hpl
  exact goS G room qt b (hx σ) I1 r q
end
section
variable {P : Program} {w : World} {K : PySem.W.Frag} {mg : Str → Option Value} {base : Heap}
/-- THE RULE for a def that may raise -/
theorem Has.ofX {x : Str} {st : Stmt} {N ps : List Str} {k : Nat} {sp : Sp} (at_ : At K mg x st)
    (S : FnScope N ps (defScope st)) (len : ∀ vs H Q E, sp vs H Q E → vs.length = ps.length)
    (bd : ∀ (kV doc pm : Value) (an : Option Addr) (cdv ct : Value) (us : List Value), us.length = ps.length →
      bindArgs (PySem.W.fnOf x x (defArgs st) (defBody st) (defScope st) .none kV doc pm an cdv ct) ⟨us, []⟩ = pure (ps.zip us))
    (walk : ∀ (f : Addr) (cdv : Value) (A : Around) (outer : List Env) (s : Shared) (H : Hp) (vs : List V) (Q : VK) (E : XK),
      Room k (A.deeper (envOfC x (defScope st) s.heap.objs.size f cdv)) →
      Quiet (A.deeper (envOfC x (defScope st) s.heap.objs.size f cdv)) → sp vs H Q E →
      ∃ t, PSs (cxOf (L2.CX P w) P w K mg base N x (defScope st) f cdv A outer s H E) (defBody st) t ∧
        t { nx := fun _ H' => Q .non H', rt := Q } (start N vs) H) :
    Has P w K mg base (L2.CX P w) (k + 1) x st ps sp := by
  obtain ⟨f, fd, F, m⟩ := at_
  exact ⟨f, fd, F, m, FnG.of F S len (walk f), F.binds bd⟩
end
/-- an own error class over ValueError, without own __init__, stands at the name x -/
structure Err (K : PySem.W.Frag) (mg : Str → Option Value) (x : Str) (C : Addr) : Prop where
  g : mg x = some (.ref C)
  q : PySem.W.excIn K C HandSPX.veTail "ValueError.__new__" = true
  k : PySem.W.keepIn K (.ref C) = true
  e : PySem.W.subIn K (.ref C) (.type "BaseException") = some true
  t : PySem.W.typeIn K (.ref C) = some (.type "type")
theorem ps_raiseE {X : Cx} {W : WX} {x m : Str} {C : Addr} {j : Nat} {p p2 pos pos' : Pos} (E : Err X.K X.mg x C) (hc : X.calm = true) (tk : Takes X W) (hg : Gl X x)
    (hdb : (x == ("__debug__" : Str)) = false := by decide) :
    PS X (.Raise (some (.Call (.Name x p) [.Constant (.str m) j p2] [] pos)) none pos') (fun _ σ H => W (.ref C) none σ H) :=
  ps_raise hc tk (pmk_own PySem.F.excBase_ValueError E.q E.g E.k (raises_own E.e E.t) hg hdb)
/-- an error of the class at C is what «except S» names, or not -/
structure Catch (K : PySem.W.Frag) (C S : Addr) (b : Bool) : Prop where
  is : PySem.W.exmOne K (.ref C) (.ref S) = some b
theorem Catch.of {K : PySem.W.Frag} {C S : Addr} {b : Bool} (h1 : PySem.W.subIn K (.ref S) (.type "BaseException") = some true) (h2 : PySem.W.isClsIn K S = true) (h3 : PySem.W.typeIn K (.ref S) = some (.type "type")) (h4 : PySem.W.subIn K (.ref C) (.ref S) = some b) : Catch K C S b := by
  refine ⟨?_⟩
  have e1 : (PySem.W.subIn K (.ref S) (.type "BaseException") == some true) = true := by rw [h1] <;> rfl
  have e2 : ((PySem.W.clsIn K S).isSome && PySem.W.typeIn K (.ref S) == some (.type "type")) = true := by
    have h2' : (PySem.W.clsIn K S).isSome = true := h2
    rw [h2', h3] <;> rfl
  show (if (PySem.W.subIn K (.ref S) (.type "BaseException") == some true) = true then (if ((PySem.W.clsIn K S).isSome && PySem.W.typeIn K (.ref S) == some (.type "type")) = true then PySem.W.subIn K (.ref C) (.ref S) else none) else none) = some b
  rw [if_pos e1, if_pos e2]
  exact h4
end SH

/-! SH15: sorted(pairs of ints, reverse=True). -/
namespace SH
open PySem PySem.Spec PyProof.Rows L2
section
variable {X : Cx}
def rSortedPOR (K : PySem.W.Frag) : List V → List V → Hp → VK → Prop := fun vs zs H Q => ∃ (a : Addr) (xs : List V) (k : V → Int × Int), vs = [V.ref a] ∧ zs = [.bl true] ∧ SqL K H a xs ∧ (∀ x ∈ xs, ∃ t, x = V.ref t ∧ H t = some (.tup [.int (k x).1, .int (k x).2])) ∧
  ∀ ys p, SrtO.Srtd (ltP k) ys → ys.Perm xs → H p = none → Q (.ref p) (upd H p (.lst ys.reverse))
theorem cr_sortedPOR : CallRK X (.builtin "sorted") [Str.ofString "reverse"] (rSortedPOR X.K) := by
  intro pins s σ H vs zs us ws Q I r rz h
  obtain ⟨a, xs, k, rfl, rfl, hs, hx, q⟩ := h
  obtain rfl := Vals.ref1 r
  obtain ⟨w1, rfl, e0⟩ := vals1 rz
  obtain rfl : w1 = Value.bool true := e0
  obtain ⟨its, rv, hl, hz⟩ := I.list hs
  obtain ⟨e1, e2⟩ := refs_back rv fun x m => by
    obtain ⟨t, e, _⟩ := hx x m
    exact ⟨t, e⟩
  have hp : ∀ v ∈ its, Srt.IsPair s.heap v (k (backV v)).1 (k (backV v)).2 := fun v hv => by
    obtain ⟨t, rfl⟩ := e2 v hv
    have hm : V.ref t ∈ xs := by rw [e1]; exact List.mem_map.mpr ⟨_, hv, rfl⟩
    obtain ⟨t', e, ht⟩ := hx _ hm
    cases e
    obtain ⟨_, its2, r2, o, ho, hc, n, hd⟩ := I.hok _ _ ht
    obtain ⟨u1, u2, rfl, ri, rj⟩ := vals2 r2
    obtain ⟨t1, rfl⟩ := ri
    obtain ⟨t2, rfl⟩ := rj
    exact ⟨t, o, t1, t2, n, rfl, ho, hc, hd⟩
  have zl : its.length ≤ sizeLine := by rw [← rv.length]; exact hz
  refine SrtR.sorted_ordK (b := true) (fun _ => rfl) (PyProof.Rows.args_sorted_rev _ _) (fun _ => PyProof.Rows.args_list_sort_rev _ _) (SrtO.swo_lex fun u => k (backV u)) hl.isList zl (fun h2 h₁ a' ho keep => SrtO.pairs_sortableO (by omega) (fun v hv => ?_) fun o e => ?_) fun out h1 h2 => ?_
  · obtain ⟨t, o, t1, t2, n, e3, ho', hc, hd⟩ := hp v hv
    exact ⟨t, o, t1, t2, n, e3, (keep _ _ ho').2, hc, hd⟩
  · have e' : some o = some (seqObj "list" its.toArray 0) := e.symm.trans ho
    cases e'
    exact fun z => by
      injection z with z3
      exact absurd z3 (by decide)
  have h2p : out.Perm its := h2.perm.trans (List.reverse_perm _)
  have h3 : ∀ u ∈ out, ∃ a, u = Value.ref a := fun u hu => e2 u (h2p.mem_iff.mp hu)
  have hb : (out.map backV).Perm xs := by
    rw [e1]
    exact h2p.map backV
  obtain ⟨ep, he'⟩ := PyProof.Rows.sortedAll_at s.heap its out.toArray.reverse
  have hlen : (out.map backV).reverse.length ≤ sizeLine := by
    rw [List.length_reverse, hb.length_eq]
    exact hz
  have er : (out.map backV).reverse = out.reverse.map backV := by rw [List.map_reverse]
  have h4 : ∀ u ∈ out.reverse, ∃ a, u = Value.ref a := fun u hu => h3 u (List.mem_reverse.mp hu)
  refine ⟨.ref _, upd H (s.heap.objs.size + 1) (.lst (out.map backV).reverse), I.laid (t' := s.toks) (fun _ _ => PyProof.Rows.sortedAll_old) (Nat.le_succ _) ⟨hlen, out.reverse, ep, ?_, ?_⟩, rfl, q _ _ (SrtO.srtd_map h1) hb (I.hok.fresh (Nat.le_succ _))⟩
  · rw [er]; exact vals_back h4
  · have e0 : out.reverse.toArray = out.toArray.reverse := by simp
    rw [e0]; exact he'
end
end SH

/-! SH16: comprehensions over ranges with a step. -/
namespace SH
open PySem PySem.Spec PyProof.Rows L2
theorem lc_rangeC {lo c : Int} {n : Nat} {g : TG} {tt : TT} {te : TE} {vs : List Nat} {σ : L2.St} {H1 : Hp} {D : Addr} {Qd : Hp → Prop} (Pv : Nat → Hp → Prop) (h0 : Pv 0 (upd H1 D (.lst [])))
    (hs : ∀ i H, i < n → Pv i H → g (.int (lo + (i : Nat) * c)) (wipe σ vs) H fun σ2 H2 => wipe σ2 vs = wipe σ vs ∧ tt σ2 H2 fun b H3 =>
      if b = true then te σ2 H3 fun y H4 => ∃ acc, H4 D = some (.lst acc) ∧ acc.length < sizeLine ∧ Pv (i + 1) (upd H4 D (.lst (acc ++ [y]))) else Pv (i + 1) H3) (hd : ∀ H, Pv n H → Qd H) :
    ∃ W : Nat → Nat → Hp → Prop, (∃ m, W 0 m (upd H1 D (.lst []))) ∧ ∀ i m H, W i m H →
      ((Itc lo c n).stop i H ∧ Qd H) ∨ ((Itc lo c n).go i H ∧ ∃ Nx : Hp → Prop, (∀ H', Nx H' → ∃ m', m' < m ∧ W (i + 1) m' H') ∧ ∀ x H', (Itc lo c n).yld i H x H' → g x (wipe σ vs) H' fun σ2 H2 => wipe σ2 vs = wipe σ vs ∧ tt σ2 H2 fun b H3 =>
        if b = true then te σ2 H3 fun y H4 => ∃ acc, H4 D = some (.lst acc) ∧ acc.length < sizeLine ∧ Nx (upd H4 D (.lst (acc ++ [y]))) else Nx H3) := by
  refine ⟨fun i m H => m = n - i ∧ i ≤ n ∧ Pv i H, ⟨n, by simp, Nat.zero_le _, h0⟩, ?_⟩
  rintro i m H ⟨rfl, hi, p⟩
  by_cases hlt : i < n
  · refine .inr ⟨hlt, Pv (i + 1), fun H' p' => ⟨n - (i + 1), by omega, rfl, hlt, p'⟩, fun x H' y => ?_⟩
    obtain ⟨e, y⟩ := y
    subst e y
    exact hs i _ hlt p
  · have e : i = n := by omega
    subst e
    exact .inl ⟨Nat.le_refl _, hd H p⟩
section
variable {tt : TT} {te : TE} {vs : List Nat} {σ : L2.St} {H : Hp} {D : Addr} {Qd : Hp → Prop}
theorem lcCn {lo c : Int} {n j : Nat} (keep : Nat → Bool) (val : Nat → V) (hD : H D = none) (hn : n < 100000)
    (hw : ∀ x, wipe ((wipe σ vs).set j (some x)) vs = wipe σ vs)
    (ht : ∀ i H2 (Q : Bool → Hp → Prop), i < n → Same H H2 → (∀ H3, Same H2 H3 → Q (keep i) H3) → tt ((wipe σ vs).set j (some (.int (lo + (i : Nat) * c)))) H2 Q)
    (he : ∀ i H2 (Q : VK), i < n → keep i = true → Same H H2 → (∀ H3, Same H2 H3 → Q (val i) H3) → te ((wipe σ vs).set j (some (.int (lo + (i : Nat) * c)))) H2 Q)
    (hd : ∀ H', Same H H' → H' D = some (.lst (gives n keep val)) → Qd H') :
    ∃ W : Nat → Nat → Hp → Prop, (∃ m, W 0 m (upd H D (.lst []))) ∧ ∀ i m H, W i m H →
      ((Itc lo c n).stop i H ∧ Qd H) ∨ ((Itc lo c n).go i H ∧ ∃ Nx : Hp → Prop, (∀ H', Nx H' → ∃ m', m' < m ∧ W (i + 1) m' H') ∧
        ∀ x H', (Itc lo c n).yld i H x H' → gName j x (wipe σ vs) H' fun σ2 H2 => wipe σ2 vs = wipe σ vs ∧ tt σ2 H2 fun b H3 =>
          if b = true then te σ2 H3 fun y H4 => ∃ acc, H4 D = some (.lst acc) ∧ acc.length < sizeLine ∧ Nx (upd H4 D (.lst (acc ++ [y]))) else Nx H3) :=
  lc_rangeC (fun i H2 => Same H H2 ∧ H2 D = some (.lst (gives i keep val))) ⟨Same.new hD, upd_same⟩
    (fun i H2 hi e => ⟨hw _, lc_turnS hD hi hn e.1 e.2 (fun Q q => ht i H2 Q hi e.1 q) (fun H3 s3 Q k q => he i H3 Q hi k (e.1.trans s3) q)⟩)
    (fun H2 e => hd H2 e.1 e.2)
end
theorem rgC_400 {c : Int} (h1 : 1 ≤ c) (h2 : c ≤ 11) : RgC 0 400 c ((399 / c).toNat + 1) := by
  have : c = 1 ∨ c = 2 ∨ c = 3 ∨ c = 4 ∨ c = 5 ∨ c = 6 ∨ c = 7 ∨ c = 8 ∨ c = 9 ∨ c = 10 ∨ c = 11 := by omega
  rcases this with rfl | rfl | rfl | rfl | rfl | rfl | rfl | rfl | rfl | rfl | rfl <;> exact ⟨by decide, by decide, by decide +kernel, by decide +kernel⟩
end SH

/-! SH17: max and min of a tuple of two ints. -/
namespace SH
open PySem PySem.Spec PyProof.Rows L2
section
variable {X : Cx}
def rMaxT (K : PySem.W.Frag) : List V → Hp → VK → Prop := fun vs H Q => ∃ (a : Addr) (x y : Int), vs = [V.ref a] ∧ SqT K H a [.int x, .int y] ∧ Q (.int (if x < y then y else x)) H
theorem cr_maxT (hc : X.calm = true) (hu : X.A.units + 64 < cLine) : CallR X (.builtin "max") (rMaxT X.K) := by
  intro pins s σ H vs us Q I r h
  obtain ⟨a, x, y, rfl, hs, q⟩ := h
  obtain ⟨its, rv, hl, _⟩ := I.tuple hs
  rw [Vals.ref1 r]
  obtain ⟨as, rd⟩ := Dp.readsAll I [.int x, .int y] _ _ (dp_ints [x, y]) rv
  refine PySem.W.max_tuple_data (I.ok.hd hc) hl (by simpa using rd) ⟨fun a ha b hb => ?_, fun a ha => ?_⟩ (by show X.A.units + 1 + 0 < cLine; omega) fun i v h' tk bs hi r hk => ?_
  · simp only [List.mem_cons, List.not_mem_nil, or_false] at ha hb
    rcases ha with rfl | rfl <;> rcases hb with rfl | rfl <;> rfl
  · simp only [List.mem_cons, List.not_mem_nil, or_false] at ha
    rcases ha with rfl | rfl <;> exact fun z => nomatch z
  · have e : PySem.W.maxD (PyData.int x) [PyData.int y] = .int (max x y) := PySem.W.maxD_ints x [y]
    rw [e] at r
    cases r with
    | int _ t =>
      refine ⟨.int _, H, I.kept hk, ⟨_, rfl⟩, ?_⟩
      have e2 : max x y = if x < y then y else x := by split <;> omega
      rw [e2]
      exact q
def rMinT (K : PySem.W.Frag) : List V → Hp → VK → Prop := fun vs H Q => ∃ (a : Addr) (x y : Int), vs = [V.ref a] ∧ SqT K H a [.int x, .int y] ∧ Q (.int (if y < x then y else x)) H
theorem cr_minT (hc : X.calm = true) (hu : X.A.units + 64 < cLine) : CallR X (.builtin "min") (rMinT X.K) := by
  intro pins s σ H vs us Q I r h
  obtain ⟨a, x, y, rfl, hs, q⟩ := h
  obtain ⟨its, rv, hl, _⟩ := I.tuple hs
  rw [Vals.ref1 r]
  obtain ⟨as, rd⟩ := Dp.readsAll I [.int x, .int y] _ _ (dp_ints [x, y]) rv
  refine PySem.W.min_tuple_data (I.ok.hd hc) hl (by simpa using rd) ⟨fun a ha b hb => ?_, fun a ha => ?_⟩ (by show X.A.units + 1 + 0 < cLine; omega) fun i v h' tk bs hi r hk => ?_
  · simp only [List.mem_cons, List.not_mem_nil, or_false] at ha hb
    rcases ha with rfl | rfl <;> rcases hb with rfl | rfl <;> rfl
  · simp only [List.mem_cons, List.not_mem_nil, or_false] at ha
    rcases ha with rfl | rfl <;> exact fun z => nomatch z
  · have e : PySem.W.minD (PyData.int x) [PyData.int y] = .int (min x y) := PySem.W.minD_ints x [y]
    rw [e] at r
    cases r with
    | int _ t =>
      refine ⟨.int _, H, I.kept hk, ⟨_, rfl⟩, ?_⟩
      have e2 : min x y = if y < x then y else x := by split <;> omega
      rw [e2]
      exact q
end
end SH

/-! SH18: errors that are caught and looked at: their context None, kept behind the suite, isinstance of them. -/
namespace SH
open PySem PySem.Spec PyProof.Rows L2
/-- at a: an error of the class cls, its dict at d -/
def ErO (cls : Value) (d : Option Addr) (a : Addr) : HO := .ext fun h => ∃ (oe : Obj) (vs : Array Value), h.get? a = some oe ∧ L2.Zc cls d oe ∧ oe.data = .fields vs
theorem erO_mk {P : Program} {w : World} {H : Hp} {h : Heap} {a : Addr} {cls : Value} {d : Option Addr} {oe : Obj} {vs : Array Value} (e : h.get? a = some oe) (z : L2.Zc cls d oe) (dv : oe.data = .fields vs) : ObjOk P w H h a (ErO cls d a) :=
  ⟨⟨oe, vs, e, z, dv⟩, ⟨oe, e⟩, fun _ _ ⟨o, v, q, r⟩ k => ⟨o, v, k o q, r⟩⟩
section
variable {X : Cx} {pins : List (Addr × Obj)} {σ : L2.St} {H : Hp} {s : Shared}
/-- an error that the suite held is tracked behind it -/
theorem adopt {a : Addr} {oe : Obj} {cls : Value} {d : Option Addr} {vs : Array Value} (ok : X.Ok) (I : Inv (X.suite a ((a, oe) :: (X.pn ++ pins))) [] σ H s) (z : L2.Zc cls d oe) (dv : oe.data = .fields vs)
    (new : X.s_0.heap.get? a = none) (np : ∀ p ∈ X.pn ++ pins, p.1 ≠ a) : Inv X pins σ (upd H a (ErO cls d a)) s := by
  obtain ⟨ha, hn, hl, hf, hc⟩ := I.pin (a, oe) (List.mem_append_left _ List.mem_cons_self)
  have old : ∀ {b : Addr} {o : Obj}, X.s_0.heap.get? b = some o → b ≠ a := fun {b o} q e => by
    rw [e, new] at q; cases q
  have B := I.base
  refine ⟨ok, I.os, I.bare, ⟨B.keep, B.slot, fun b o q n x => ?_, B.there, fun b xs q => ?_, fun b o u q => ?_, fun b ps q => ?_⟩, I.loc, I.cell, ?_, fun x c e => ?_, fun p hp => ?_, ?_, I.len⟩
  · rw [upd_ne (old q)]; exact B.free b o q n x
  · have := B.tups b xs q
    rw [upd_ne (ne_of_none this hn)]; exact this
  · have := B.frzs b o u q
    rw [upd_ne (ne_of_none this hn)]; exact this
  · obtain ⟨m, q2⟩ := B.tbls b ps q
    exact ⟨m, by rw [upd_ne (ne_of_none q2 hn)]; exact q2⟩
  · rw [upd_ne (Ne.symm hl)]; exact I.free
  · have e' : c ≠ a := fun y => by
      obtain ⟨v, o, ho, hd⟩ := I.cell x c e
      rw [y, ha] at ho
      cases ho
      exact hc v hd
    rw [upd_ne e']
    exact I.freeC x c e
  · obtain ⟨e1, e2, e3⟩ := I.pin p (by rw [List.append_nil]; exact List.mem_cons_of_mem _ hp)
    exact ⟨e1, by rw [upd_ne (np p hp)]; exact e2, e3⟩
  · exact HOk.laidN I.hok (fun _ _ q => q) hn (erO_mk ha z dv)
end
/-- what a clause that takes all that the body may raise wishes: slot i is the clause's name, and behind the suite the error is tracked -/
def wE (K : PySem.W.Frag) (c : Value) (i : Nat) (ts : Addr → Value → Option Addr → TS) (D : Ends) : WX := fun cls d σ H => PySem.W.exmOne K cls c = some true ∧ ∀ a, H a = none →
  ts a cls d { nx := fun τ G => D.nx (τ.set i none) (upd G a (ErO cls d a)), bk := fun τ G => D.bk (τ.set i none) (upd G a (ErO cls d a)), ct := fun τ G => D.ct (τ.set i none) (upd G a (ErO cls d a)), rt := fun v G => D.rt v (upd G a (ErO cls d a)) } (σ.set i (some (.ref a))) H
section
variable {X : Cx} {x n : Str} {c : Value} {i : Nat} {body suite : List Stmt} {b₀ : Stmt} {np pos pos' : Pos} {tb : WX → TS} {ts : Addr → Value → Option Addr → TS}
/-- try: body / except x as n: suite, where the clause takes all that the body may raise -/
theorem ps_tryE (hs : X.stack = X.env :: X.outer) (hf : X.env.frame = some X.env.locals) (hex : X.ex = []) (hN : X.N.Nodup) (hi : X.N[i]? = some n) (hln : X.env.kindOf n = some .local) (hc : Names X x c)
    (hb : ∀ (W : WX) (pn : List (Addr × Obj)) (xe : Value → Shared → Prop), L2N.Takes (X.tr pn xe) W → PassesOwn (model X.prog X.w) X.A X.env xe → PSs (X.tr pn xe) body (tb W))
    (hsu : ∀ (a : Addr) (oe : Obj) (cls : Value) (d : Option Addr) (pn : List (Addr × Obj)), L2N.Zn cls d oe → (∃ vs, oe.data = .fields vs) → PSs (X.suite a ((a, oe) :: pn)) (b₀ :: suite) (ts a cls d)) :
    PS X (.Try body [.ExceptHandler (some (.Name x np)) (some n) (b₀ :: suite) pos'] [] [] pos) (fun D σ H => tb (wE X.K c i ts D) D σ H) := by
  refine ⟨fun pins s σ H D I h => wpAny_Try_except ?_⟩
  have ok := I.ok
  have hfr : X.A.frames = some (X.env :: X.outer) := ok.frames.trans (congrArg some hs)
  refine wpAny_mono ((hb (wE X.K c i ts D) (X.pn ++ pins) _ (fun u s' xx => ?_) PassesOwn.looking).run [] s σ H D (I.toTry _) h) (fun f s1 q => ?_) fun e s1 q => q
  · obtain ⟨a, B, sI, _, τ, G, cls, d, rfl, J0, nb, up, sky, na, os, ag, em, go⟩ := xx
    have J : Inv X pins τ G sI := J0.ofTry ok
    refine L2N.Sky.land L2N.Zn.steady hfr hf (by rw [← hs]; exact sky) fun h3 fl3 up3 => ?_
    obtain ⟨o3, v3, at3, z3, d3⟩ := fl3.there
    -- a stands apart from the frames, and was not there before
    have nfr : a ∉ frs X.stack := fun hm => by
      rw [hs] at hm
      obtain ⟨_, o', e', hnf⟩ := fl3.2.2.1.mem hm
      rw [at3] at e'
      cases e'
      exact hnf _ d3
    have nI : sI.heap.get? a = none := by
      cases q : sI.heap.get? a with
      | none => rfl
      | some o =>
        have := nb a o q nfr
        rw [fl3.2.1] at this
        cases this
    have n0 : X.s_0.heap.get? a = none := by
      cases q : X.s_0.heap.get? a with
      | none => rfl
      | some o =>
        obtain ⟨o', q'⟩ := J.base.there a o q (by rw [hex]; exact List.not_mem_nil)
        rw [nI] at q'
        cases q'
    have nL : a ≠ X.env.locals := fun z => nfr (by rw [hs]; exact List.mem_filterMap.mpr ⟨X.env, List.mem_cons_self, by rw [hf, z]⟩)
    have nF : a ∉ X.fs := fun hm => nfr (by
      rw [hs]
      obtain ⟨e, he, q⟩ := List.mem_filterMap.mp hm
      exact List.mem_filterMap.mpr ⟨e, List.mem_cons_of_mem _ he, q⟩)
    have np' : ∀ p ∈ X.pn ++ pins, p.1 ≠ a := fun p hp z => by
      have := (J.pin p hp).1
      rw [z, nI] at this
      cases this
    have L3 : Inv X pins τ G { s' with heap := h3 } := J.landed nb fl3.1 (up.trans up3) os ag
    have S3 := L3.suite at3 d3 na nL nF
    have ty : PySem.W.Looks (model X.prog X.w) h3 (typeOf (.ref a)) cls := fun A Q E s k q => wpAny_typeOf_ref (k _ _ at3) (by rw [z3.1]; exact q)
    have named : ∀ {Q E : Value → Shared → Prop}, Q c { s' with heap := h3 } → wpAny (model X.prog X.w) (X.A.mark (some (.ref a))) (eval (.Name x np) X.env) Q E { s' with heap := h3 } := fun {Q E} q => by
      rcases hc with ⟨g, db, m | ⟨m, bv, nn⟩⟩
      · exact ld_glob (X := X.suite a ((a, o3) :: (X.pn ++ pins))) S3 g m q db
      · exact ld_blt (X := X.suite a ((a, o3) :: (X.pn ++ pins))) S3 g m bv q nn db
    refine wpAny_handleBy_cons (codeAny_handlers_test (named ((PySem.W.exm_one (M := model X.prog X.w) L3.kIn ty em).here ?_))) (fun q => by cases q)
    refine codeAny_handlers_suite_as (HandSPX.lands_againZ fl3 fun h4 fl4 up4 => ?_)
    obtain ⟨o4, v4, at4, z4, d4⟩ := fl4.there
    have L4 : Inv X pins τ G { s' with heap := h4 } := J.landed nb fl4.1 ((up.trans up3).trans up4) os ag
    have S4 := L4.suite at4 d4 na nL nF
    refine store_ok (X := X.suite a ((a, o4) :: (X.pn ++ pins))) (v := .ref a) S4 hN hi (.inl hln) rfl (fun s5 S5 => ?_) (.inr hln)
    refine wpAny_mono ((hsu a o4 cls d (X.pn ++ pins) z4 ⟨_, d4⟩).run [] s5 _ G _ S5 (go a na)) (fun f s6 q => ?_) fun _ _ z => False.elim z
    have out : ∀ {τ6 : L2.St} {G6 : Hp} {Q : Shared → Prop}, Inv (X.suite a ((a, o4) :: (X.pn ++ pins))) [] τ6 G6 s6 → (∀ s7, Inv X pins (τ6.set i none) (upd G6 a (ErO cls d a)) s7 → Q s7) →
        wpAny (model X.prog X.w) X.A (do bindName X.env n .none; unbindBehindTheSuite X.env n pos') (fun _ s7 => Q s7) X.xe s6 := fun S6 hq => gone_ok (adopt ok S6 z4.zc d4 n0 np') hN hi hln hq
    cases f with
    | ret u => obtain ⟨v6, τ6, G6, S6, r6, q6⟩ := q; exact out S6 fun s7 J7 => ⟨_, _, _, J7, r6, q6⟩
    | next => obtain ⟨τ6, G6, S6, q6⟩ := q; exact out S6 fun s7 J7 => ⟨_, _, J7, q6⟩
    | brk => obtain ⟨τ6, G6, S6, q6⟩ := q; exact out S6 fun s7 J7 => ⟨_, _, J7, q6⟩
    | cont => obtain ⟨τ6, G6, S6, q6⟩ := q; exact out S6 fun s7 J7 => ⟨_, _, J7, q6⟩
  · cases f with
    | ret u => obtain ⟨v, τ, G, J, r, q⟩ := q; exact ⟨v, τ, G, J.ofTry ok, r, q⟩
    | next => obtain ⟨τ, G, J, q⟩ := q; exact wpAny_execs_nil ⟨τ, G, J.ofTry ok, q⟩
    | brk => obtain ⟨τ, G, J, q⟩ := q; exact ⟨τ, G, J.ofTry ok, q⟩
    | cont => obtain ⟨τ, G, J, q⟩ := q; exact ⟨τ, G, J.ofTry ok, q⟩
end
section
variable {K : PySem.W.Frag} {tt : TT} {te : TE} {vs : List Nat} {σ : L2.St} {H : Hp} {D : Addr} {Qd : Hp → Prop}
theorem Same.sqT {H H' : Hp} {a : Addr} {xs : List V} (e : Same H H') (h : SqT K H a xs) : SqT K H' a xs :=
  h.imp (fun q => q.imp (fun z => e _ _ z) (fun ⟨o, z⟩ => ⟨o, e _ _ z⟩)) id
/-- [.. for x in t ..], t a tuple -/
theorem lcTn {a : Addr} {xs : List V} {j : Nat} (keep : Nat → Bool) (val : Nat → V) (hx : SqT K H a xs) (hD : H D = none) (hn : xs.length < 100000)
    (hw : ∀ x, wipe ((wipe σ vs).set j (some x)) vs = wipe σ vs)
    (ht : ∀ i x H2 (Q : Bool → Hp → Prop), xs[i]? = some x → Same H H2 → (∀ H3, Same H2 H3 → Q (keep i) H3) → tt ((wipe σ vs).set j (some x)) H2 Q)
    (he : ∀ i x H2 (Q : VK), xs[i]? = some x → keep i = true → Same H H2 → (∀ H3, Same H2 H3 → Q (val i) H3) → te ((wipe σ vs).set j (some x)) H2 Q)
    (hd : ∀ H', Same H H' → H' D = some (.lst (gives xs.length keep val)) → Qd H') :
    ∃ W : Nat → Nat → Hp → Prop, (∃ m, W 0 m (upd H D (.lst []))) ∧ ∀ i m H, W i m H →
      ((Itt K a).stop i H ∧ Qd H) ∨ ((Itt K a).go i H ∧ ∃ Nx : Hp → Prop, (∀ H', Nx H' → ∃ m', m' < m ∧ W (i + 1) m' H') ∧
        ∀ x H', (Itt K a).yld i H x H' → gName j x (wipe σ vs) H' fun σ2 H2 => wipe σ2 vs = wipe σ vs ∧ tt σ2 H2 fun b H3 =>
          if b = true then te σ2 H3 fun y H4 => ∃ acc, H4 D = some (.lst acc) ∧ acc.length < sizeLine ∧ Nx (upd H4 D (.lst (acc ++ [y]))) else Nx H3) :=
  lc_tup (xs := xs) (fun i H2 => Same H H2 ∧ H2 D = some (.lst (gives i keep val))) ⟨Same.new hD, upd_same⟩
    (fun i H2 hi e => Same.sqT e.1 hx)
    (fun i x H2 hi e => ⟨hw _, lc_turnS hD (List.getElem?_eq_some_iff.mp hi).1 hn e.1 e.2 (fun Q q => ht i x H2 Q hi e.1 q) (fun H3 s3 Q k q => he i x H3 Q hi k (e.1.trans s3) q)⟩)
    (fun H2 e => hd H2 e.1 e.2)
end
section
open PySem.W
variable {prog : Program} {w : World} {A : Around} {E : Value → Shared → Prop} {s : Shared} {K : Frag} {x D : Addr} {ox : Obj} {od : Option Obj}
theorem find_class (hd : hasDictIn K D = true) (ha : findIn K (.ref D) "__class__" = some (some (.builtin "object.__class__"))) (hn : specialIn K (.builtin "object.__class__") "__get__" = some (some (.builtin "getset_descriptor.__get__")))
    (ht : takesIn K (.builtin "object.__class__") = some true) : findObj K D od "__class__" = some (.bind (.builtin "getset_descriptor.__get__") (.builtin "object.__class__")) := by
  obtain ⟨cd, hc, _⟩ := any_some hd
  unfold findObj
  rw [hc, Option.bind_some, ha, Option.bind_some]
  simp [hn, ht]
/-- e.__class__ of an error of an own class, whatever its dict holds -/
theorem class_of_error {Q : Option Value → Shared → Prop} (T : ExcC K D) (X : K.In s.heap) (I : PySem.W.InstAt s.heap x ox D od) (h : Q (some (.ref D)) { s with toks := s.toks + 1 }) : wpAny (model prog w) A (getAttr? (.ref x) "__class__") Q E s := by
  obtain ⟨hp, g, d, t, os⟩ := s
  have ty := I.type (M := model prog w)
  have fnd := looks_find (M := model prog w) X I (find_class T.hd T.ha T.hn T.ht)
  have below : Looks (model prog w) hp (isInstance (.ref x) (.type "BaseException")) true := ty.andThen (looks_subIn X T.hs)
  have e2 : (Value.builtin "BaseException.__getattribute__" == Value.builtin "object.__getattribute__") = false := by decide +kernel
  have e1 : (onTheHeap (Value.ref D) && Value.builtin "BaseException.__getattribute__" == Value.builtin "object.__getattribute__") = false := by rw [e2]; rfl
  unfold getAttr? getAttrBy? getAttrBy
  refine wpAny_bind (wpAny_mkText (wpAny_bind (wpAny_attempt (wpAny_holding (wpAny_bind (ty.at (wpAny_bind ((looks_findIn (M := model prog w) X T.hg).at ?_))))))))
  show wpAny _ _ (if (onTheHeap (Value.ref D) && Value.builtin "BaseException.__getattribute__" == Value.builtin "object.__getattribute__") = true then _ else _) _ _ _
  rw [e1, if_neg Bool.false_ne_true]
  unfold getAttrByItsOwn hookBefore
  refine wpAny_bind ?_
  rw [if_pos (show onTheHeap (Value.ref D) = true from rfl)]
  refine (looks_findIn (M := model prog w) X T.hk).at (wpAny_bind (wpAny_attempt (wpAny_holding ?_)))
  unfold callGetattribute
  rw [show (false && onTheHeap (Value.builtin "BaseException.__getattribute__")) = false from rfl, if_neg Bool.false_ne_true]
  unfold boundAndCalled
  rw [PySem.F.excAttr_ValueError.ga.bind (.ref x)]
  refine wpAny_bind (wpAny_pure ?_)
  show wpAny _ _ (call (.builtin "BaseException.__getattribute__") [.ref x, .str "__class__" t]) _ _ _
  refine wpAny_call (codeAny_call_builtin PySem.F.excAttr_ValueError.ga.plain PySem.F.entry_bexc_ga ?_)
  refine @check_slot (model prog w) _ _ ⟨hp, g, d, t + 1, os⟩ "BaseException.__getattribute__" "BaseException" "__getattribute__" (.ref x) [.str "__class__" t] [] _ (by decide +kernel) (by decide +kernel) below (PySem.F.args_bexc_ga (.ref x) (.str "__class__" t)) ?_
  unfold Builtin.«object.__getattribute__»
  refine wpAny_bind (wpAny_of_eq (a := ((Value.ref x : Value), [Value.str "__class__" t])) (by first | rfl | (simp only [slotArgs]; rfl)) ?_)
  refine wpAny_bind (wpAny_pure (wpAny_bind (ty.at (wpAny_bind (fnd.at ?_)))))
  show wpAny _ _ (holding [Value.builtin "object.__class__"] (call (.builtin "getset_descriptor.__get__") [.builtin "object.__class__", .ref x, .ref D]) >>= ret) _ _ _
  refine wpAny_bind (wpAny_holding (wpAny_call (class_get (s := ⟨hp, g, d, t + 1, os⟩) (ox := ox) (od := od) X I T.hm ?_)))
  refine wpAny_pure ?_
  show wpAny _ _ (handedOut (.ref D)) _ _ _
  rw [handedOut_of (v := .ref D) rfl]
  first
    | exact wpAny_pure (wpAny_pure h)
    | exact wpAny_pure h
    | exact wpAny_pure (wpAny_bind (wpAny_pure (wpAny_pure h)))
theorem cls_there (hd : hasDictIn K D = true) : ∃ c d cd sl, K.lookup D = some ⟨c, d, .cls cd, sl⟩ := by
  obtain ⟨cd, hc, _⟩ := any_some hd
  unfold clsIn at hc
  split at hc
  · rename_i c d cd' sl ho
    exact ⟨c, d, cd', sl, ho⟩
  · cases hc
theorem kit_error (T : ExcC K D) : KitX K (.ref x) (.ref D) (fun h => PySem.W.InstAt h x ox D od) where
  ty := fun _ _ _ I => I.type
  it := fun _ _ X _ => by
    obtain ⟨c, d, cd, sl, ho⟩ := cls_there T.hd
    intro A' Q' E' s' k q
    unfold isType loadHead
    exact wpAny_bind (wpAny_loadPart (k _ _ (X _ _ ho)) (wpAny_pure q))
  ne := fun h tp dd its n sl X htp => by
    obtain ⟨c, d, cd, sl', ho⟩ := cls_there T.hd
    refine Bool.eq_false_iff.mpr fun q => ?_
    obtain rfl : D = tp := Value.ref.inj (beq_iff_eq.mp q)
    cases (X _ _ ho).symm.trans htp
  ca := fun X I k => class_of_error T X I k
end
/-- at a an error of the class at D, its dict at d: one that the suite holds, or one that is tracked -/
def Known (X : Cx) (H : Hp) (a D : Addr) (d : Option Addr) : Prop := ((∃ oe, (a, oe) ∈ X.pn ∧ L2.Zc (.ref D) d oe ∧ ∃ vs, oe.data = .fields vs) ∨ H a = some (ErO (.ref D) d a)) ∧ (d = none ∨ ∃ dx fs, d = some dx ∧ H dx = some (.xd fs))
section
variable {X : Cx} {pins : List (Addr × Obj)} {σ : L2.St} {H : Hp} {s : Shared} {a D : Addr} {d : Option Addr}
theorem known_at (I : Inv X pins σ H s) (k : Known X H a D d) : ∃ oe od, PySem.W.InstAt s.heap a oe D od ∧ oe.dict = d ∧ (∀ dx, d = some dx → ∃ o, od = some o ∧ s.heap.get? dx = some o) := by
  obtain ⟨k1, k2⟩ := k
  obtain ⟨oe, vs, ha, hz, hv⟩ : ∃ oe vs, s.heap.get? a = some oe ∧ L2.Zc (.ref D) d oe ∧ oe.data = .fields vs := by
    rcases k1 with ⟨oe, hp, hz, vs, hv⟩ | e
    · exact ⟨oe, vs, (I.pin (a, oe) (List.mem_append_left _ hp)).1, hz, hv⟩
    · obtain ⟨oe, vs, r⟩ := (I.hok a _ e).1
      exact ⟨oe, vs, r⟩
  have nc : PySem.W.notCls oe = true := by unfold PySem.W.notCls; rw [hv] <;> rfl
  rcases k2 with rfl | ⟨dx, fs, rfl, hx⟩
  · exact ⟨oe, none, ⟨ha, hz.1, nc, by rw [hz.2]; trivial⟩, hz.2, fun _ z => nomatch z⟩
  · obtain ⟨mA, ⟨o, _, _, ho, _⟩, _⟩ := (show ObjOk X.prog X.w H s.heap dx (.xd fs) from I.hok dx _ hx)
    exact ⟨oe, some o, ⟨ha, hz.1, nc, by rw [hz.2]; exact ho⟩, hz.2, fun y e => by cases e; exact ⟨o, rfl, ho⟩⟩
/-- isinstance(e, c), e a known error -/
def rIsEr (X : Cx) : List V → Hp → VK → Prop := fun xs H Q => ∃ (a D : Addr) (d : Option Addr) (c : V) (u : Value) (b : Bool), xs = [.ref a, c] ∧ Known X H a D d ∧ ExcC X.K D ∧ ClsV c u ∧ PySem.W.kitOne X.K (.ref D) u = some b ∧ Q (.bl b) H
theorem call_isEr : CallR X (.builtin "isinstance") (rIsEr X) := by
  intro pins s σ H xs us Q I r h
  obtain ⟨a, D, d, c, u, b, rfl, kn, T, k, e, q⟩ := h
  obtain ⟨u1, u2, rfl, r1, r2⟩ := vals2 r
  obtain rfl := k.eq r2
  obtain rfl : u1 = Value.ref a := r1
  obtain ⟨oe, od, J, _⟩ := known_at I kn
  exact PySem.W.kia_one (kit_error T) I.kIn J e (fun z => nomatch z) fun tk => ⟨.bl b, H, I.tok tk, rfl, q⟩
/-- isinstance(e, (c1, c2, ..)) -/
def rIsErT (X : Cx) : List V → Hp → VK → Prop := fun xs H Q => ∃ (a D tp : Addr) (d : Option Addr) (cs : List V) (us : List Value) (b : Bool), xs = [.ref a, .ref tp] ∧ H tp = some (.tup cs) ∧ Paired ClsV cs us ∧ Known X H a D d ∧ ExcC X.K D ∧ PySem.W.kitAny X.K (.ref D) us = some b ∧ Q (.bl b) H
theorem call_isErT : CallR X (.builtin "isinstance") (rIsErT X) := by
  intro pins s σ H xs us Q I r h
  obtain ⟨a, D, tp, d, cs, ws, b, rfl, hT, k, kn, T, e, q⟩ := h
  obtain ⟨u1, u2, rfl, r1, r2⟩ := vals2 r
  obtain rfl : u2 = Value.ref tp := r2
  obtain rfl : u1 = Value.ref a := r1
  obtain ⟨oe, od, J, _⟩ := known_at I kn
  obtain ⟨_, its, rv, o, h1, h2, n, h3⟩ := (show ObjOk X.prog X.w H s.heap tp (.tup cs) from I.hok tp _ hT)
  obtain rfl := ClsV.all k rv
  obtain ⟨oc, od', dt, sl⟩ := o
  simp only at h2 h3
  subst h2 h3
  exact PySem.W.kia_tup (kit_error T) I.kIn J h1 e (fun z => nomatch z) fun tk => ⟨.bl b, H, I.tok tk, rfl, q⟩
/-- e.f, e a known error -/
def tErF (X : Cx) (n : Str) (te : TE) : TE := fun σ H Q => te σ H fun x H1 => ∃ (a D dx : Addr) (fs : List (Str × V)) (v : V), x = .ref a ∧ Known X H1 a D (some dx) ∧ H1 dx = some (.xd fs) ∧ XfC X.K D ∧ PySem.W.findIn X.K (.ref D) n = some none ∧ fs.lookup n = some v ∧ Q v H1
theorem er_get {n : Str} {s1 : Shared} {H1 : Hp} {dx : Addr} {fs : List (Str × V)} {v : V} {Q : VK} {Ex : Value → Shared → Prop} (I1 : Inv X pins σ H1 s1) (kn : Known X H1 a D (some dx)) (hx : H1 dx = some (.xd fs)) (T : XfC X.K D) (hno : PySem.W.findIn X.K (.ref D) n = some none) (l : fs.lookup n = some v) (q : Q v H1) :
    wpAny (model X.prog X.w) X.A (getAttr (.ref a) n true) (EP X pins σ Q) Ex s1 := by
  obtain ⟨oe, od, J, ed, hd⟩ := known_at I1 kn
  obtain ⟨o, rfl, ho⟩ := hd dx rfl
  obtain ⟨mA, hns, hr⟩ := (show ObjOk X.prog X.w H1 s1.heap dx (.xd fs) from I1.hok dx _ hx)
  obtain ⟨o2, ho2, hl⟩ := lookIn_ns hns
  rw [ho] at ho2
  cases ho2
  obtain ⟨u, hu, ru⟩ := RelO.some_of (v := v) (o := mA n) (by rw [← l]; exact hr n)
  exact HandSPX.exc_get I1.kIn J T.ga T.gg T.exC (PySem.W.findObj_own T.hdC hno rfl (by rw [hl, hu])) (handed_of ru) ⟨v, H1, I1.tok _, ru, q⟩
theorem pe_erF {e : Expr} {te : TE} {pos : Pos} {n : Str} (he : PE X e te) (hb : attributeBase e n X.env (eval e X.env) = eval e X.env := by rfl) : PE X (.Attribute e n pos) (tErF X n te) := by
  refine ⟨fun pins s σ H Q I h => attr_of hb (thn (he.run pins s σ H _ I h) fun u s1 hh => ?_)⟩
  obtain ⟨x, H1, I1, rx, a, D, dx, fs, v, rfl, kn, hx, T, hno, l, q⟩ := hh
  obtain rfl : u = Value.ref a := rx
  exact er_get I1 kn hx T hno l q
end
/-! ### a def that is called in a suite, with the error that the suite holds -/
/-- the context of such a def's body: the error is pinned -/
abbrev cxE (P : Program) (w : World) (K : PySem.W.Frag) (mg : Str → Option Value) (base : Heap) (N : List Str) (q : Str) (sc : Scope) (f : Addr) (cd : Value) (A : Around) (outer : List Env) (s : Shared) (H : Hp) (p : Addr × Obj) : Cx := L2H.cxH CX0 P w K mg base N q sc f cd A outer s H (fun _ _ _ => False) p
/-- the error at a in words of the context -/
structure Held (X : Cx) (a : Addr) (cls : Value) (d : Option Addr) (oe : Obj) : Prop where
  mem : (a, oe) ∈ X.pn
  z : L2N.Zn cls d oe
  fv : ∃ vs, oe.data = .fields vs
  hot : X.A.handled = some (.ref a)
theorem Held.hotC {X : Cx} {a : Addr} {cls : Value} {d : Option Addr} {oe : Obj} (h : Held X a cls d oe) : L2H.HotC X := by
  obtain ⟨vs, e⟩ := h.fv
  exact ⟨(a, oe), ⟨h.hot, vs, e, h.z.2.2 vs e⟩, h.mem⟩
theorem Held.known {X : Cx} {H : Hp} {a D : Addr} {d : Option Addr} {oe : Obj} (h : Held X a (.ref D) d oe) (k : d = none ∨ ∃ dx fs, d = some dx ∧ H dx = some (.xd fs)) : Known X H a D d := ⟨.inl ⟨oe, h.mem, h.z.zc, h.fv⟩, k⟩
/-- the def st at the name x, called with the error a suite holds: sp speaks of the error's address, its class, its dict -/
def HasE (P : Program) (w : World) (K : PySem.W.Frag) (mg : Str → Option Value) (base : Heap) (k : Nat) (x : Str) (st : Stmt) (ps : List Str) (sp : Addr → Value → Option Addr → List V → Hp → VK → Prop) : Prop :=
  ∃ f fd, Fun K x x st f fd ∧ mg x = some (.ref f) ∧ L2.Binds K fd ps [] ∧ (∀ a cls d vs H Q, sp a cls d vs H Q → vs.length = ps.length) ∧
    ∀ (A : Around) (outer : List Env) (s : Shared) (H : Hp) (args : Args) (us : List Value) (vs : List V) (Q : VK) (a : Addr) (cls : Value) (d : Option Addr) (oe : Obj), L2H.RoomH k A → Quiet A → A.handled = some (.ref a) → L2N.Zn cls d oe → (∃ vs, oe.data = .fields vs) →
      L2H.PinOk outer H s (a, oe) → Env0 P w K mg base A outer s H → BindsTo s fd args (ps.zip us) → Vals vs us → sp a cls d vs H Q → codeAny (model P w) A (.call (.ref f) args) (CR CX0 outer P w H s Q (fun _ _ _ => False)) s
section
variable {P : Program} {w : World} {K : PySem.W.Frag} {mg : Str → Option Value} {base : Heap}
theorem HasE.of {x : Str} {st : Stmt} {N ps : List Str} {k : Nat} {sp : Addr → Value → Option Addr → List V → Hp → VK → Prop} (at_ : At K mg x st) (S : FnScope N ps (defScope st)) (len : ∀ a cls d vs H Q, sp a cls d vs H Q → vs.length = ps.length)
    (bd : ∀ (kV doc pm : Value) (an : Option Addr) (cdv ct : Value) (us : List Value), us.length = ps.length →
      bindArgs (PySem.W.fnOf x x (defArgs st) (defBody st) (defScope st) .none kV doc pm an cdv ct) ⟨us, []⟩ = pure (ps.zip us))
    (walk : ∀ (f : Addr) (cdv : Value) (A : Around) (outer : List Env) (s : Shared) (H : Hp) (vs : List V) (Q : VK) (a : Addr) (cls : Value) (d : Option Addr) (oe : Obj),
      L2H.RoomH k (A.deeper (envOfC x (defScope st) s.heap.objs.size f cdv)) → Quiet (A.deeper (envOfC x (defScope st) s.heap.objs.size f cdv)) → Held (cxE P w K mg base N x (defScope st) f cdv A outer s H (a, oe)).nox a cls d oe → sp a cls d vs H Q →
      ∃ t, PSs (cxE P w K mg base N x (defScope st) f cdv A outer s H (a, oe)).nox (defBody st) t ∧ t { nx := fun _ H' => Q .non H', rt := Q } (start N vs) H) :
    HasE P w K mg base (k + 1) x st ps sp := by
  obtain ⟨f, fd, F, m⟩ := at_
  refine ⟨f, fd, F, m, F.binds bd, len, fun A outer s H args us vs Q a cls d oe room qt hot hz hf pin e0 hb r hsp => ?_⟩
  obtain ⟨oc, od, kV, doc, pm, an, cdv, ct, osl, rfl, lk, hcd⟩ := F.ex
  have inK : K.In s.heap := e0.mod.kin.keeps fun b o e => (e0.bs b o e).1
  have hl := len _ _ _ _ _ _ hsp
  have kinds : ∀ y ∈ ps.zip us, (defScope st).names.lookup y.1 = some .local ∨ ((defScope st).names.lookup y.1 = some .cell ∧ ((cellsFrom (s.heap.objs.size + 1) (defScope st).names []).lookup y.1).isSome = true) := by
    rintro ⟨n, v⟩ hy
    rcases S.par n (List.of_mem_zip hy).1 with z | z
    · exact .inl z
    · exact .inr ⟨z, PySem.W.cellsFrom_some _ _ _ (.inl z)⟩
  refine codeAny_call_function room.depth (inK _ _ lk) rfl S.co S.gen rfl (PySem.W.codeRec_of inK hcd) (hb _ _ _ _ (wpAny_newFunctionEnv_cells S.kind kinds fun env he s1 ic => ?_))
  subst he
  refine ⟨Heap.NoLimit.keeps (e0.mod.nolimit.keeps fun b o e => (e0.bs b o e).1) ic.toInCall.keep, codeAny_func ?_⟩
  have I : Inv (cxE P w K mg base N x (defScope st) f cdv A outer s H (a, oe)) [] (start N vs) H s1 := L2H.inv_startH S pin e0 hl r ic
  obtain ⟨t, ht, hq⟩ := walk f cdv A outer s H vs Q a cls d oe (room.deeper _) (by exact qt) ⟨List.mem_singleton.mpr rfl, hz, hf, hot⟩ hsp
  refine wpAny_mono (ht.nox.run [] s1 (start N vs) H _ I hq) (fun fl s' hs => ?_) fun e s' hs => hs
  cases fl with
  | ret u => obtain ⟨v, σ', H', J, rv, q⟩ := hs; exact ⟨v, H', J.os, J.bare, J.base, J.hok, rv, q⟩
  | next => obtain ⟨σ', H', J, q⟩ := hs; exact ⟨V.non, H', J.os, J.bare, J.base, J.hok, rfl, q⟩
  | brk => obtain ⟨_, _, _, q⟩ := hs; exact q.elim
  | cont => obtain ⟨_, _, _, q⟩ := hs; exact q.elim
end
section
variable {X : Cx} {k : Nat} {st : Stmt} {ps : List Str} {sp : Addr → Value → Option Addr → List V → Hp → VK → Prop} {x : Str} {p pos : Pos} {e : Expr} {es : List Expr} {t : TA} {a : Addr} {cls : Value} {d : Option Addr} {oe : Obj}
theorem pe_hasE (h : HasE X.prog X.w X.K X.mg X.base k x st ps sp) (room : L2H.RoomH k X.A) (qt : Quiet X.A) (he : Held X a cls d oe) (hg : Gl X x) (ha : PA X (e :: es) t)
    (hdb : (x == ("__debug__" : Str)) = false := by decide) (hst : starEach (e :: es) X.env = (false, eval e X.env) :: starEach es X.env := by rfl) (hpl : (backTo pos (starEach es X.env)).any (·.1) = false := by rfl) :
    PE X (.Call (.Name x p) (e :: es) [] pos) (fun σ H Q => t σ H fun vs H1 => sp a cls d vs H1 Q) := by
  obtain ⟨f, fd, F, m, b, len, go⟩ := h
  refine ⟨fun pins s σ H Q I h => wpAny_Call_Name_kw (ld_glob I hg m (PySem.W.callWith_K (h₀ := X.base) I.ok.mod.kin F.kp (thn (ha.run pos pins s σ H _ I h) fun us s1 ⟨vs, H1, I1, r, q⟩ => ⟨I1.kIn, ?_⟩) hst hpl) hdb)⟩
  have hl : us.length = ps.length := by rw [← r.length]; exact len _ _ _ _ _ _ q
  have hb := b s1 us I1.kIn (by rw [List.append_nil]; exact hl)
  rw [List.append_nil] at hb
  obtain ⟨p1, p2, p3, p4, p5⟩ := I1.pin (a, oe) (List.mem_append_left _ he.mem)
  have pin : L2H.PinOk X.stack H1 s1 (a, oe) := ⟨p1, p2, fun hm => (List.mem_cons.mp (I1.stkSub a hm)).elim p3 p4, p5⟩
  refine wpAny_call (codeAny_mono (go X.A X.stack s1 H1 ⟨us, []⟩ us vs Q a cls d oe room qt he.hot he.z he.fv pin I1.env0 hb r q) fun r s' hq => ?_)
  cases r with
  | error e => exact False.elim hq
  | ok fl => cases fl with
    | ret u => exact I1.after hq
    | _ => exact False.elim hq
end
section
variable {X : Cx} {a : Addr} {cls : Value} {d : Option Addr} {oe : Obj}
/-- isinstance(e, c) in the suite itself: the reading speaks of no object -/
def rIsH (K : PySem.W.Frag) (a : Addr) (cls : Value) (d : Option Addr) : List V → Hp → VK → Prop := fun xs H Q => ∃ (D : Addr) (c : V) (u : Value) (b : Bool), xs = [.ref a, c] ∧ cls = .ref D ∧ (d = none ∨ ∃ dx fs, d = some dx ∧ H dx = some (.xd fs)) ∧ ExcC K D ∧ ClsV c u ∧ PySem.W.kitOne K (.ref D) u = some b ∧ Q (.bl b) H
theorem call_isH (h : Held X a cls d oe) : CallR X (.builtin "isinstance") (rIsH X.K a cls d) := by
  intro pins s σ H xs us Q I r z
  obtain ⟨D, c, u, b, rfl, rfl, k, T, cv, e, q⟩ := z
  exact call_isEr pins s σ H _ us Q I r ⟨a, D, d, c, u, b, rfl, h.known k, T, cv, e, q⟩
def rIsHT (K : PySem.W.Frag) (a : Addr) (cls : Value) (d : Option Addr) : List V → Hp → VK → Prop := fun xs H Q => ∃ (D tp : Addr) (cs : List V) (us : List Value) (b : Bool), xs = [.ref a, .ref tp] ∧ cls = .ref D ∧ H tp = some (.tup cs) ∧ Paired ClsV cs us ∧ (d = none ∨ ∃ dx fs, d = some dx ∧ H dx = some (.xd fs)) ∧ ExcC K D ∧ PySem.W.kitAny K (.ref D) us = some b ∧ Q (.bl b) H
theorem call_isHT (h : Held X a cls d oe) : CallR X (.builtin "isinstance") (rIsHT X.K a cls d) := by
  intro pins s σ H xs us Q I r z
  obtain ⟨D, tp, cs, ws, b, rfl, rfl, ht, k, kd, T, e, q⟩ := z
  exact call_isErT pins s σ H _ us Q I r ⟨a, D, tp, d, cs, ws, b, rfl, ht, k, h.known kd, T, e, q⟩
/-- e.f in the suite itself -/
def tHF (K : PySem.W.Frag) (a : Addr) (cls : Value) (d : Option Addr) (n : Str) (te : TE) : TE := fun σ H Q => te σ H fun x H1 => ∃ (D dx : Addr) (fs : List (Str × V)) (v : V), x = .ref a ∧ cls = .ref D ∧ d = some dx ∧ H1 dx = some (.xd fs) ∧ XfC K D ∧ PySem.W.findIn K (.ref D) n = some none ∧ fs.lookup n = some v ∧ Q v H1
theorem pe_hF {e : Expr} {te : TE} {pos : Pos} {n : Str} (h : Held X a cls d oe) (he : PE X e te) (hb : attributeBase e n X.env (eval e X.env) = eval e X.env := by rfl) : PE X (.Attribute e n pos) (tHF X.K a cls d n te) := by
  refine ⟨fun pins s σ H Q I z => attr_of hb (thn (he.run pins s σ H _ I z) fun u s1 hh => ?_)⟩
  obtain ⟨x, H1, I1, rx, D, dx, fs, v, rfl, rfl, rfl, hx, T, hn, l, q⟩ := hh
  obtain rfl : u = Value.ref a := rx
  exact er_get I1 (h.known (.inr ⟨dx, fs, rfl, hx⟩)) hx T hn l q
end
end SH

/-! SH19: an own error class whose __init__ says super().__init__('..') and self.f = v. -/
namespace SH
open PySem PySem.Spec PyProof.Rows L2
/-- what the written part says of such a class: its __init__ at fI (its code at cda, its __class__ cell at cc), with the text st -/
structure IniC (P : Program) (K : PySem.W.Frag) (C : Addr) (q : Str) (st : Stmt) (f : Str) : Prop where
  o : OexC K C
  fx : ∃ (fI cda cc : Addr) (oc cl ccl : Value) (od cld cdd : Option Addr) (osl csl ccs : Array (Option Value)) (vs : Array Value) (file : Str) (tf : Tok) (kV doc pm ct : Value) (an : Option Addr),
    K.lookup fI = some ⟨oc, od, .func (PySem.W.ksFn "__init__" q (defArgs st) (defBody st) (defScope st) .none kV doc pm an (.ref cda) ct cc), osl⟩ ∧
    PySem.W.codeIn K (.ref cda) q = true ∧ K.lookup cda = some ⟨ccl, cdd, .fields vs, ccs⟩ ∧ vs[2]? = some (.str file tf) ∧ ((P.main.file : Str) == file) = true ∧
    K.lookup cc = some ⟨cl, cld, .cell (some (.ref C)), csl⟩ ∧ PySem.W.findIn K (.ref C) "__init__" = some (some (.ref fI)) ∧ PySem.W.typeIn K (.ref fI) = some (.type "function")
  su : PySem.W.ks_superIn K C C "__init__" = some (some (.builtin "ValueError.__init__"))
  sb : PySem.W.subIn K (.ref C) (.type "ValueError") = some true
  me : PySem.W.mroIn K C (.ref C) = some true
  op : PySem.W.nsIn K cStatics "thirdparty.any" = some none
  no : PySem.W.findIn K (.ref C) f = some none
  top : (P.main.scope.names.lookup ("super" : Str)).isSome = false
/-- the text of such an __init__ -/
structure IniT (st : Stmt) (f v m : Str) : Prop where
  body : ∃ p0 p1 p2 p3 p4 p5 p6 p7 p8 p9 j, defBody st = [.Expr (.Call (.Attribute (.Call (.Name "super" p0) [] [] p1) "__init__" p2) [.Constant (.str m) j p3] [] p4) p5, .Assign [.Attribute (.Name "self" p6) f p7] (.Name v p8) p9] ∧
    ∀ (q : Str) (kV doc pm : Value) (an : Option Addr) (cd ct : Value) (cc L fI : Addr) (env : Env), env = callEnv (PySem.W.ksFn "__init__" q (defArgs st) (defBody st) (defScope st) .none kV doc pm an cd ct cc) L fI →
      (∃ pl : Sem Bool, eval (.Call (.Attribute (.Call (.Name "super" p0) [] [] p1) "__init__" p2) [.Constant (.str m) j p3] [] p4) env = (do
        let ov ← attributeBase (.Call (.Name "super" p0) [] [] p1) "__init__" env (eval (.Call (.Name "super" p0) [] [] p1) env)
        standAt p2.atName
        let (g, first) ← holding [ov] (getMethod ov "__init__" pl)
        callWith p4 g first (backTo p4 (starEach [.Constant (.str m) j p3] env)) [])) ∧
      swapsWith (.Call (.Attribute (.Call (.Name "super" p0) [] [] p1) "__init__" p2) [.Constant (.str m) j p3] [] p4) none p5.line env = pure false ∧
      swapsWith (.Name v p8) (some (.Attribute (.Name "self" p6) f p7)) p9.line env = pure false ∧ interactive env = false ∧
      starEach [.Constant (.str m) j p3] env = (false, eval (.Constant (.str m) j p3) env) :: starEach [] env
  ar : ∃ a0 a1, (defArgs st).posonlyargs = [] ∧ (defArgs st).args = [a0, a1] ∧ a0.arg = "self" ∧ a1.arg = v
  bd : ∀ (kV doc pm : Value) (an : Option Addr) (cd ct : Value) (q : Str) (cc : Addr) (x u : Value), bindArgs (PySem.W.ksFn "__init__" q (defArgs st) (defBody st) (defScope st) .none kV doc pm an cd ct cc) ⟨[x, u], []⟩ = pure ([(("self" : Str), x), (v, u)] : List (Str × Value))
  ks : (defScope st).names.lookup ("super" : Str) = some .globalImplicit
  kc : (defScope st).names.lookup ("__class__" : Str) = some .free
  k0 : (defScope st).names.lookup ("self" : Str) = some .local
  k1 : (defScope st).names.lookup v = some .local
  co : (defScope st).isCoroutine = false
  ge : (defScope st).isGenerator = false
  kd : (defScope st).kind = .function
  nc : ∀ x ∈ (defScope st).names, x.2 ≠ .cell
  nv : v ≠ "self"
  nd : (v == ("__debug__" : Str)) = false
section
open PySem.W
variable {P : Program} {w : World} {K : PySem.W.Frag} {mg : Str → Option Value} {base : Heap} {A : Around} {R : Result → Shared → Prop} {s : Shared} {C x t0 : Addr} {q f v m : Str} {st : Stmt} {u : Value}
theorem ini_rawA {ar : Args} (T : IniC P K C q st f) (Z : IniT st f v m) (md : Mod K mg base) (hb : ∀ b o, base.get? b = some o → s.heap.get? b = some o) (ms : mg "super" = none) (room : A.depth < recursionLimit) (hx : s.heap.get? x = some (HandSPX.excO C t0)) (bx : base.get? x = none)
    (fI : Addr) (hI : PySem.W.findIn K (.ref C) "__init__" = some (some (.ref fI)))
    (hbd : ∀ (kV doc pm : Value) (an : Option Addr) (cd ct : Value) (q : Str) (cc : Addr), bindArgs (PySem.W.ksFn "__init__" q (defArgs st) (defBody st) (defScope st) .none kV doc pm an cd ct cc) ar = pure ([(("self" : Str), .ref x), (v, u)] : List (Str × Value)))
    (hR : ∀ h' dx t1 tk, (∀ b o, b ≠ x → s.heap.get? b = some o → h'.get? b = some o) → s.heap.objs.size ≤ dx → dx ≠ x → h'.get? x = some ({ cls := .ref C, dict := some dx, data := .fields #[.ref t1, .none, .none, .none, .bool false, .none] } : Obj) →
      h'.Ns1 dx (fun y => if y = f then some u else none) → R (.ok (.ret .none)) ⟨h', s.gens, s.drawn, tk, s.os⟩) :
    codeAny (model P w) A (.call (.ref fI) ar) R s := by
  obtain ⟨fI', cda, cc, oc, cl, ccl, od, cld, cdd, osl, csl, ccs, vs, file, tf, kV, doc, pm, ct, an, lf, hcd, lc, hvs, hfile, lcc, hi, ti⟩ := T.fx
  obtain rfl : fI = fI' := by rw [hI] at hi; injection hi with z; injection z with z; injection z
  have KX : K.In s.heap := md.kin.keeps hb
  obtain ⟨a0, a1, e0, e1, ea0, ea1⟩ := Z.ar
  obtain ⟨p0, p1, p2, p3, p4, p5, p6, p7, p8, p9, j, eb, ev⟩ := Z.body
  obtain ⟨hp, g, d, tk, os⟩ := s
  refine ks_codeAny_call_defAt (body := defBody st) room (KX _ _ lf) rfl (md.nolimit.keeps hb) (codeRec_of KX hcd) rfl (.of_eq (hbd _ _ _ _ _ _ _ _)) Z.nc (fun y hy => ?_) (fun h1 hns hk => ?_) Z.co Z.ge Z.kd
  · rcases List.mem_cons.mp hy with rfl | hy
    · exact Z.k0
    · rcases List.mem_cons.mp hy with rfl | hy
      · exact Z.k1
      · cases hy
  generalize ee : callEnv (ksFn "__init__" q (defArgs st) (defBody st) (defScope st) .none kV doc pm an (.ref cda) ct cc) hp.objs.size fI = env
  have n1 : env.kindOf ("super" : Str) = some .globalImplicit := by rw [← ee]; exact Z.ks
  have n2 : env.kindOf ("__class__" : Str) = some .free := by rw [← ee]; exact Z.kc
  have n3 : env.kindOf ("self" : Str) = some .local := by rw [← ee]; exact Z.k0
  have n4 : env.kindOf v = some .local := by rw [← ee]; exact Z.k1
  have n5 : env.scope.kind = .function := by rw [← ee]; exact Z.kd
  have n6 : env.func = some fI := by rw [← ee]; rfl
  have n7 : env.code = .ref cda := by rw [← ee]; rfl
  have n8 : env.cells.lookup ("__class__" : Str) = some cc := by rw [← ee]; rfl
  have n9 : env.globals = mainGlobals := by rw [← ee]; rfl
  have n10 : env.builtins = builtinsNs := by rw [← ee]; rfl
  have n11 : env.locals = hp.objs.size := by rw [← ee]; rfl
  obtain ⟨⟨pl, e1'⟩, e2', e3', e4', e5'⟩ := ev q kV doc pm an (.ref cda) ct cc hp.objs.size fI env ee.symm
  rw [eb]
  have K1 : K.In h1 := KX.keeps hk
  obtain ⟨nm, qq, N, bs, bm, sn, sub, ab, col, dd, k0, k1, k2, k3, k5, lC, hbm⟩ := T.o.cls
  have hC1 := K1 _ _ lC
  have hcl : clsIn K C = some { name := nm, bases := bs, mro := .ref C :: bm, ns := N, qualname := qq, hasDict := true, slotNames := sn, subclasses := sub, abstract := ab, collection := col, hasDel := false } := by unfold clsIn; rw [lC] <;> rfl
  have hx1 : h1.get? x = some (HandSPX.excO C t0) := hk _ _ hx
  have I1 : PySem.W.InstAt h1 x (HandSPX.excO C t0) C none := ⟨hx1, rfl, rfl, trivial⟩
  have nsb : ∀ {b : Addr} {n : Str → Option Value}, base.Ns b n → h1.Ns b n := fun q => q.keeps fun b o e => hk b o (hb b o e)
  obtain ⟨mb, hmb, hbb⟩ := md.blt
  have hns' : h1.Ns env.locals (fun y => List.lookup y [(v, u), (("self" : Str), Value.ref x)]) := by rw [n11]; exact hns
  have lself : List.lookup (("self" : Str)) [(v, u), (("self" : Str), Value.ref x)] = some (.ref x) := by
    rw [List.lookup_cons, show (("self" : Str) == v) = false by simpa using Ne.symm Z.nv]
    rfl
  refine ks_wpAt_execs_cons (ks_wpAt_Expr_any (ks_wpAt_MethodCall (pl := pl) (ks_wpAt_super_base (ar := a0) n1 n2 rfl n6 (hk _ _ (KX _ _ lf)) rfl ?_ n7 (hk _ _ (KX _ _ lc)) rfl hvs hfile T.top ?_) e1') e4' e2')
  · show ((defArgs st).posonlyargs ++ (defArgs st).args).head? = some a0
    rw [e0, e1]
    rfl
  refine ks_loadName_global n5 n1 (Calls.loadGlobal_builtin (by rw [n9]; exact nsb md.glob) ms (by rw [n10]; exact nsb hmb) ((hbb _ (by decide)).trans PyProof.Rows.Boot.«super») ⟨rfl, ?_⟩)
  refine wpAny_loadName_free n5 n2 n8 ⟨_, K1 _ _ lcc, rfl⟩ ?_
  rw [ea0]
  refine wpAny_loadName_local n5 n3 hns' lself ?_
  refine ks_wpAny_isType_cls hC1 rfl ⟨rfl, ?_⟩
  refine ks_wpAny_call_super hC1 rfl hx1 rfl (fun c z => by cases z) (looks_mroIn K1 T.me) fun h2 e2 k2 => ?_
  have K2 := K1.keeps k2
  have I2 : PySem.W.InstAt h2 x (HandSPX.excO C t0) C none := ⟨k2 _ _ hx1, rfl, rfl, trivial⟩
  have su := T.su
  unfold ks_superIn at su
  rw [hcl] at su
  refine kxs_getMethod kxs_ValueError e2 (looks_opaque K2 T.op) (l₀ := .ref C :: bm) (fun A Q E s k q => wpAny_bind ((looks_clsIn K2 hcl) A _ E s k (wpAny_pure q))) rfl K2 su (I2.type.andThen (looks_subIn K2 T.sb)) (ks_ne K2 I2 hcl) rfl ?_
  have k3 : ∀ b o, h2.get? b = some o → (h2.push (kxs_mw "ValueError.__init__" x)).get? b = some o := fun b o e => Heap.get?_push_of_some _ e
  have hw3 : (h2.push (kxs_mw "ValueError.__init__" x)).get? h2.objs.size = some (kxs_mw "ValueError.__init__" x) := Heap.get?_push_size _ rfl
  generalize h2.push (kxs_mw "ValueError.__init__" x) = h3 at k3 hw3 ⊢
  rw [e5']
  refine kxs_callWith (i := "ValueError.__init__") (x := x) rfl (Calls.evalArgs_plain (Calls.spliced_cons ?_))
  rw [if_neg Bool.false_ne_true]
  refine Calls.Constant_str ?_
  refine Calls.spliced_nil ⟨hw3, ?_⟩
  have hx3 := k3 _ _ (k2 _ _ hx1)
  have hC3 := k3 _ _ (k2 _ _ hC1)
  have xC : x ≠ C := ks_ne K2 I2 hcl
  refine wpAny_call (codeAny_of_tree ?_)
  show wpAny _ (A.deeper env).in1 (callAny (.ref h2.objs.size) ⟨[.str m _], []⟩) _ _ _
  simp only [callAny]
  refine wpAny_bind (wpAny_load hw3 ?_)
  show wpAny _ _ (if ((Value.type "method-wrapper") == Value.type "method" || (Value.type "method-wrapper") == Value.type "builtin_function_or_method" || (Value.type "method-wrapper") == Value.type "method-wrapper") = true then _ else _) _ _ _
  rw [if_pos (by decide)]
  show wpAny _ _ (if ((Value.type "method-wrapper") != Value.type "method") = true then _ else _) _ _ _
  rw [if_pos (by decide)]
  refine wpAny_bind (check_bound_init F.excBase_ValueError.toExcCallFacts hC3 hx3 rfl ?_)
  refine wpAny_bind (wpAny_pure (wpAny_pure ⟨plainId_quiet F.excBase_ValueError.init.plain _, codeAny_builtin F.excBase_ValueError.initEntry ?_⟩))
  refine exc_init_tree (cls := .ref C) (t0 := t0) (dv := none) (c2 := .none) (c3 := .none) (b4 := .bool false) hx3 (by rw [sizeLine_eq]; show 1 ≤ _; omega) fun h4 k4 e4 _ => ?_
  have xl : x < hp.objs.size := Heap.lt_size hx
  have k14 : ∀ b o, b ≠ x → h1.get? b = some o → h4.get? b = some o := fun b o n e => k4 b o n (k3 b o (k2 b o e))
  have hns4 : h4.Ns env.locals (fun y => List.lookup y [(v, u), (("self" : Str), Value.ref x)]) := by
    obtain ⟨o, es, ep, ho, r⟩ := hns'
    exact ⟨o, es, ep, k14 _ _ (by rw [n11]; exact (Nat.ne_of_lt xl).symm) ho, r⟩
  have lv : List.lookup v [(v, u), (("self" : Str), Value.ref x)] = some u := by
    rw [List.lookup_cons, show (v == v) = true by simp]
  have nx0 : ∀ b o, base.get? b = some o → b ≠ x := fun b o e z => by rw [z, bx] at e; cases e
  have K4 : K.In h4 := md.kin.keeps fun b o e => k14 b o (nx0 b o e) (hk b o (hb b o e))
  refine ks_wpAt_execs_cons (ks_wpAt_Assign_Attr ?_ e3')
  refine wpAt_of_wpAny (wpAny_Name ?_ Z.nd)
  refine wpAny_loadName_local n5 n4 hns4 lv ?_
  refine wpAny_Name ?_ (by decide)
  refine wpAny_loadName_local n5 n3 hns4 lself ?_
  refine set_plain K4 (ox := { cls := .ref C, dict := none, data := .fields #[.ref h3.objs.size, .none, .none, .none, .bool false, .none] }) (od := none) ⟨e4, rfl, rfl, trivial⟩ T.o.sa ?_
  refine HandSPX.exc_osa K4 e4 hcl (show HandSPX.refsVE (.ref C :: bm) = true from hbm) rfl T.no (fun h5 tk5 dx k5' dn dne hx5 hn5 => ?_)
  refine wpAt_of_wpAny (wpAny_execs_nil ?_)
  refine hR h5 dx _ tk5 (fun b o n e => k5' b o n (k14 b o n (hk b o e))) ?_ dne hx5 hn5
  have l4 : hp.objs.size < h4.objs.size := by
    obtain ⟨o, _, _, ho, _⟩ := hns4
    rw [← n11]
    exact Heap.lt_size ho
  exact Nat.le_trans (Nat.le_of_lt l4) dn
theorem ini_raw (T : IniC P K C q st f) (Z : IniT st f v m) (md : Mod K mg base) (hb : ∀ b o, base.get? b = some o → s.heap.get? b = some o) (ms : mg "super" = none) (room : A.depth < recursionLimit) (hx : s.heap.get? x = some (HandSPX.excO C t0)) (bx : base.get? x = none)
    (fI : Addr) (hI : PySem.W.findIn K (.ref C) "__init__" = some (some (.ref fI)))
    (hR : ∀ h' dx t1 tk, (∀ b o, b ≠ x → s.heap.get? b = some o → h'.get? b = some o) → s.heap.objs.size ≤ dx → dx ≠ x → h'.get? x = some ({ cls := .ref C, dict := some dx, data := .fields #[.ref t1, .none, .none, .none, .bool false, .none] } : Obj) →
      h'.Ns1 dx (fun y => if y = f then some u else none) → R (.ok (.ret .none)) ⟨h', s.gens, s.drawn, tk, s.os⟩) :
    codeAny (model P w) A (.call (.ref fI) ⟨[.ref x, u], []⟩) R s := ini_rawA T Z md hb ms room hx bx fI hI (fun _ _ _ _ _ _ _ _ => Z.bd _ _ _ _ _ _ _ _ _ _) hR
end
section
open PySem.W
variable {X : Cx} {pins : List (Addr × Obj)} {σ : L2.St} {H1 : Hp} {C : Addr} {q f v m x : Str} {st : Stmt} {u : Value} {y : V} {p pos : Pos} {e : Expr} {te : TE}
/-- C(u) made: the error at a, its dict at dx, all else as it was -/
theorem make_ini {R : Result → Shared → Prop} {hp : Heap} {g : Array GenState} {d : Drawn} {tk : Nat} {os : OsState} (I : Inv X pins σ H1 ⟨hp, g, d, tk, os⟩) (T : IniC X.prog X.K C q st f) (Z : IniT st f v m) (ms : X.mg "super" = none) (room : Room 1 X.A)
    (h : ∀ h' a dx t1 tk', (∀ b o, hp.get? b = some o → h'.get? b = some o) → hp.objs.size ≤ a → hp.objs.size ≤ dx → dx ≠ a → h'.get? a = some ({ cls := .ref C, dict := some dx, data := .fields #[.ref t1, .none, .none, .none, .bool false, .none] } : Obj) →
      h'.Ns1 dx (fun z => if z = f then some u else none) → R (.ok (.ret (.ref a))) ⟨h', g, d, tk', os⟩) : codeAny (model X.prog X.w) X.A (.call (.ref C) ⟨[u], []⟩) R ⟨hp, g, d, tk, os⟩ := by
  obtain ⟨nm, qq, N, bs, bm, sn, sub, ab, col, dd, k0, k1, k2, k3, k5, lC, hbm⟩ := T.o.cls
  obtain ⟨fI, cda, cc, oc, cl, ccl, od, cld, cdd, osl, csl, ccs, vs, file, tf, kV, doc, pm, ct, an, lf, hcd, lc, hvs, hfile, lcc, hi, ti⟩ := T.fx
  have up : ∀ b o, hp.get? b = some o → ((hp.push (kdv_tup [u])).push (HandSPX.excO C hp.objs.size)).get? b = some o := fun b o z => Heap.get?_push_of_some _ (Heap.get?_push_of_some _ z)
  have at_ : ((hp.push (kdv_tup [u])).push (HandSPX.excO C hp.objs.size)).get? (hp.objs.size + 1) = some (HandSPX.excO C hp.objs.size) := by heap_get
  have KX := I.kIn
  refine HandSPX.call_own F.excBase_ValueError (fun Y => HandSPX.refsVE_contains Y bm hbm) (KX _ _ lC) (looks_findIn KX hi) (fun self => bind_fn KX self ti) (by rw [sizeLine_eq]; show 1 ≤ _; omega) ?_
  refine ini_raw (base := X.base) (mg := X.mg) T Z I.ok.mod (fun b o z => up b o (I.bk b o z)) ms ?_ at_ ?_ fI hi (fun h' dx t1 tk' k dn dne ha hn => ?_)
  · have := (room.make C [u] []).dp
    omega
  · cases z : X.base.get? (hp.objs.size + 1) with
    | none => rfl
    | some o => exact absurd (Heap.lt_size (I.bk _ _ z)) (by show ¬ (hp.objs.size + 1 < hp.objs.size); omega)
  · have sz : hp.objs.size ≤ ((hp.push (kdv_tup [u])).push (HandSPX.excO C hp.objs.size)).objs.size := by rw [Heap.size_push, Heap.size_push]; omega
    exact ⟨rfl, h h' _ dx t1 tk' (fun b o z => k b o (Nat.ne_of_lt (Nat.lt_succ_of_lt (Heap.lt_size z))) (up b o z)) (Nat.le_succ _) (Nat.le_trans sz dn) dne ha hn⟩
end
section
open PySem.W
variable {X : Cx} {C : Addr} {q f v m x : Str} {st : Stmt} {p pos : Pos} {e : Expr} {ta : TA}
theorem relO_one {f : Str} {y : V} {u : Value} (ry : RelV y u) (g : Str) : RelO ([(f, y)].lookup g) (if g = f then some u else none) := relO_put (fs := []) (mA := fun _ => none) ry (fun _ => True.intro) g
/-- what making an error leaves: it and its dict are new -/
theorem make_end {pins : List (Addr × Obj)} {σ : L2.St} {H1 : Hp} {hp h' : Heap} {g : Array GenState} {d : Drawn} {tk tk' : Nat} {os : OsState} {a dx : Addr} {y : V} {u : Value} (I : Inv X pins σ H1 ⟨hp, g, d, tk, os⟩) (k : ∀ b o, hp.get? b = some o → h'.get? b = some o)
    (an : hp.objs.size ≤ a) (dn : hp.objs.size ≤ dx) (dne : dx ≠ a) (hn : h'.Ns1 dx (fun z => if z = f then some u else none)) (ry : RelV y u) :
    ∃ G : Heap, (∀ b o, G.get? b = some o → h'.get? b = some o) ∧ G.get? a = none ∧ (∀ b, b ≠ a → G.get? b = h'.get? b) ∧ Inv X pins σ (upd H1 dx (.xd [(f, y)])) ⟨G, g, d, tk', os⟩ := by
  obtain ⟨G, g1, g2⟩ := restrict h' fun b => decide (b ≠ a)
  have gk : ∀ b, b ≠ a → G.get? b = h'.get? b := fun b hb => g1 b (decide_eq_true hb)
  have ga : G.get? a = none := g2 a (by simp)
  refine ⟨G, fun b o z => ?_, ga, gk, ?_⟩
  · by_cases hb : b = a
    · rw [hb, ga] at z; cases z
    · exact (gk b hb).symm.trans z
  · refine I.laidN (t' := tk') (fun b o z => ?_) ?_ (I.hok.fresh dn) ⟨_, hn.at fun o z => (gk dx dne).trans z, relO_one ry⟩
    · rw [gk b (Nat.ne_of_lt (Nat.lt_of_lt_of_le (Heap.lt_size z) an))]
      exact k b o z
    · exact PyProof.Rows.new_of_ge dn
/-- C(e), for raise -/
theorem pmk_ini (T : IniC X.prog X.K C q st f) (Z : IniT st f v m) (ms : X.mg "super" = none) (room : Room 1 X.A) (gC : X.mg x = some (.ref C)) (hg : Gl X x) (ha : PA X [e] ta)
    (hdb : (x == ("__debug__" : Str)) = false := by decide) (hst : starEach [e] X.env = (false, eval e X.env) :: starEach [] X.env := by rfl) (hpl : (backTo pos (starEach [] X.env)).any (·.1) = false := by rfl) :
    L2N.PMk X (.Call (.Name x p) [e] [] pos) (fun σ H Q => ta σ H fun vs H1 => ∃ y, vs = [y] ∧ ∀ dx, H1 dx = none → Q (.ref C) (some dx) (upd H1 dx (.xd [(f, y)]))) := by
  intro pins s σ H Q I h
  refine wpAny_Call_Name_kw (ld_glob I hg gC ?_ hdb)
  refine callWith_K (h₀ := X.base) I.ok.mod.kin T.o.kC (thn (ha.run pos pins s σ H _ I h) fun us s1 hh => ?_) hst hpl
  obtain ⟨vs, H1, I1, r1, y, rfl, hq⟩ := hh
  obtain ⟨u, rfl, ry⟩ : ∃ u, us = [u] ∧ RelV y u := by
    cases r1 with
    | cons r rr => cases rr; exact ⟨_, rfl, r⟩
  refine ⟨I1.kIn, ?_⟩
  show wpAny _ _ (call (.ref C) [u]) _ _ _
  obtain ⟨hp, g, d, tk, os⟩ := s1
  refine wpAny_call (make_ini I1 T Z ms room fun h' a dx t1 tk' k an dn dne he hn => ?_)
  obtain ⟨G, gs, ga, gk, J⟩ := make_end (tk' := tk') I1 k an dn dne hn ry
  have na : upd H1 dx (.xd [(f, y)]) a = none := by rw [upd_ne (Ne.symm dne)]; exact I1.hok.fresh an
  exact ⟨a, _, _, ⟨G, g, d, tk', os⟩, _, .ref C, some dx, rfl, J, gs, ga, he, ⟨rfl, rfl, fun vs z => by cases z; rfl⟩, rfl, rfl, na, rfl, I1.bare, raises_own T.o.exC T.o.tyC, hq dx (I1.hok.fresh dn)⟩
/-- C(e), as a value -/
theorem pe_ini (T : IniC X.prog X.K C q st f) (Z : IniT st f v m) (ms : X.mg "super" = none) (room : Room 1 X.A) (gC : X.mg x = some (.ref C)) (hg : Gl X x) (ha : PA X [e] ta)
    (hdb : (x == ("__debug__" : Str)) = false := by decide) (hst : starEach [e] X.env = (false, eval e X.env) :: starEach [] X.env := by rfl) (hpl : (backTo pos (starEach [] X.env)).any (·.1) = false := by rfl) :
    PE X (.Call (.Name x p) [e] [] pos) (fun σ H Q => ta σ H fun vs H1 => ∃ y, vs = [y] ∧ ∀ a dx, H1 dx = none → H1 a = none → dx ≠ a → Q (.ref a) (upd (upd H1 dx (.xd [(f, y)])) a (ErO (.ref C) (some dx) a))) := by
  refine ⟨fun pins s σ H Q I h => wpAny_Call_Name_kw (ld_glob I hg gC (callWith_K (h₀ := X.base) I.ok.mod.kin T.o.kC (thn (ha.run pos pins s σ H _ I h) fun us s1 hh => ?_) hst hpl) hdb)⟩
  obtain ⟨vs, H1, I1, r1, y, rfl, hq⟩ := hh
  obtain ⟨u, rfl, ry⟩ : ∃ u, us = [u] ∧ RelV y u := by
    cases r1 with
    | cons r rr => cases rr; exact ⟨_, rfl, r⟩
  refine ⟨I1.kIn, ?_⟩
  show wpAny _ _ (call (.ref C) [u]) _ _ _
  obtain ⟨hp, g, d, tk, os⟩ := s1
  refine wpAny_call (make_ini I1 T Z ms room fun h' a dx t1 tk' k an dn dne he hn => ?_)
  obtain ⟨G, gs, ga, gk, J⟩ := make_end (tk' := tk') I1 k an dn dne hn ry
  have na : upd H1 dx (.xd [(f, y)]) a = none := by rw [upd_ne (Ne.symm dne)]; exact I1.hok.fresh an
  have J2 := J.laidN (t' := tk') (a := a) (o := ErO (.ref C) (some dx) a) gs ga na (erO_mk he ⟨rfl, rfl⟩ rfl)
  exact ⟨.ref a, _, J2, rfl, hq a dx (I1.hok.fresh dn) (I1.hok.fresh an) dne⟩
/-- raise C(e) -/
theorem ps_raiseI {W : WX} {p' : Pos} (T : IniC X.prog X.K C q st f) (Z : IniT st f v m) (ms : X.mg "super" = none) (room : Room 1 X.A) (gC : X.mg x = some (.ref C)) (hc : X.calm = true) (tk : L2N.Takes X W) (hg : Gl X x) (ha : PA X [e] ta)
    (hdb : (x == ("__debug__" : Str)) = false := by decide) (hst : starEach [e] X.env = (false, eval e X.env) :: starEach [] X.env := by rfl) (hpl : (backTo pos (starEach [] X.env)).any (·.1) = false := by rfl) :
    PS X (.Raise (some (.Call (.Name x p) [e] [] pos)) none p') (fun _ σ H => ta σ H fun vs H1 => ∃ y, vs = [y] ∧ ∀ dx, H1 dx = none → W (.ref C) (some dx) σ (upd H1 dx (.xd [(f, y)]))) :=
  L2N.ps_raise hc tk (pmk_ini T Z ms room gC hg ha hdb hst hpl)
/-- raise C('..'), C without own __init__ -/
theorem ps_raiseN {W : WX} {j : Nat} {p2 p' : Pos} {msg : Str} (E : Err X.K X.mg x C) (hc : X.calm = true) (tk : L2N.Takes X W) (hg : Gl X x) (hdb : (x == ("__debug__" : Str)) = false := by decide) :
    PS X (.Raise (some (.Call (.Name x p) [.Constant (.str msg) j p2] [] pos)) none p') (fun _ σ H => W (.ref C) none σ H) :=
  L2N.ps_raise hc tk (L2N.pmk_own PySem.F.excBase_ValueError E.q E.g E.k (raises_own E.e E.t) hg hdb)
end
section
variable {P : Program} {w : World} {K : PySem.W.Frag} {mg : Str → Option Value} {base : Heap}
/-- THE RULE for a def that may raise errors whose context is None -/
theorem Has.ofN {x : Str} {st : Stmt} {N ps : List Str} {k : Nat} {sp : Sp} (at_ : At K mg x st) (S : FnScope N ps (defScope st)) (len : ∀ vs H Q E, sp vs H Q E → vs.length = ps.length)
    (bd : ∀ (kV doc pm : Value) (an : Option Addr) (cdv ct : Value) (us : List Value), us.length = ps.length → bindArgs (PySem.W.fnOf x x (defArgs st) (defBody st) (defScope st) .none kV doc pm an cdv ct) ⟨us, []⟩ = pure (ps.zip us))
    (walk : ∀ (f : Addr) (cdv : Value) (A : Around) (outer : List Env) (s : Shared) (H : Hp) (vs : List V) (Q : VK) (E : XK), Room k (A.deeper (envOfC x (defScope st) s.heap.objs.size f cdv)) → Quiet (A.deeper (envOfC x (defScope st) s.heap.objs.size f cdv)) → sp vs H Q E →
      ∃ t, PSs (cxOf (L2N.CX P w) P w K mg base N x (defScope st) f cdv A outer s H E) (defBody st) t ∧ t { nx := fun _ H' => Q .non H', rt := Q } (start N vs) H) :
    Has P w K mg base (L2N.CX P w) (k + 1) x st ps sp := by
  obtain ⟨f, fd, F, m⟩ := at_
  exact ⟨f, fd, F, m, FnG.of F S len (walk f), F.binds bd⟩
/-- the function at the address f keeps the promise sp -/
def FnV (P : Program) (w : World) (K : PySem.W.Frag) (mg : Str → Option Value) (base : Heap) (CX : CXT) (k : Nat) (f : Addr) (n : Nat) (sp : Sp) : Prop :=
  ∃ x st fd ps, Fun K x x st f fd ∧ FnG P w K mg base CX k f fd ps sp ∧ L2.Binds K fd ps [] ∧ ps.length = n
theorem Has.v {CX : CXT} {k n : Nat} {x : Str} {st : Stmt} {ps : List Str} {sp : Sp} (h : Has P w K mg base CX k x st ps sp) (hn : ps.length = n := by rfl) : ∃ f, mg x = some (.ref f) ∧ FnV P w K mg base CX k f n sp := by
  obtain ⟨f, fd, F, m, G, b⟩ := h
  exact ⟨f, m, x, st, fd, ps, F, G, b, hn⟩
end
section
variable {X : Cx} {CX : CXT} {E : L2.St → XK} {k : Nat} {fe e : Expr} {es : List Expr} {tf : TE} {t : TA} {pos : Pos}
def tCallV (P : Program) (w : World) (K : PySem.W.Frag) (mg : Str → Option Value) (base : Heap) (CX : CXT) (k : Nat) (E : L2.St → XK) (tf : TE) (t : TA) : TE := fun σ H Q => tf σ H fun z H1 => ∃ f n sp, z = .ref f ∧ FnV P w K mg base CX k f n sp ∧ t σ H1 fun vs H2 => sp vs H2 Q (E σ)
/-- fe(e, ..), fe any expression that gives a function -/
theorem pe_callV (room : Room k X.A) (qt : Quiet X.A) (hf : PE X fe tf) (hx : ∀ σ, PassesAt CX X σ (E σ)) (ha : PA X (e :: es) t)
    (ht : eval (.Call fe (e :: es) [] pos) X.env = (do callWith pos (← eval fe X.env) [] (backTo pos (starEach (e :: es) X.env)) (backToKw pos (keywordEach [] X.env))) := by rfl)
    (hst : starEach (e :: es) X.env = (false, eval e X.env) :: starEach es X.env := by rfl) (hpl : (backTo pos (starEach es X.env)).any (·.1) = false := by rfl) :
    PE X (.Call fe (e :: es) [] pos) (tCallV X.prog X.w X.K X.mg X.base CX k E tf t) := by
  refine ⟨fun pins s σ H Q I h => Call_ (thn (hf.run pins s σ H _ I h) fun u s1 ⟨z, H1, I1, rz, f, n, sp, ez, ⟨x, st, fd, ps, F, G, b, hn⟩, q⟩ => ?_) ht⟩
  subst ez
  obtain rfl : u = Value.ref f := rz
  refine PySem.W.callWith_K (h₀ := X.base) I1.ok.mod.kin F.kp (thn (ha.run pos pins s1 σ H1 _ I1 q) fun us s2 ⟨vs, H2, I2, r, q2⟩ => ⟨I2.kIn, ?_⟩) hst hpl
  exact goS G room qt b (hx σ) I2 r q2
end
end SH

/-! SH20: what is known of the classes of errors. -/
namespace SH
open PySem PySem.Spec PyProof.Rows L2
/-- is an error of the class at C an instance of each of these -/
def Kits (K : PySem.W.Frag) (C : Addr) : List (Value × Bool) → Prop
  | [] => True
  | (c, b) :: r => PySem.W.kitOne K (.ref C) c = some b ∧ Kits K C r
structure ErK (K : PySem.W.Frag) (C : Addr) (l : List (Value × Bool)) : Prop where
  ex : ExcC K C
  kit : Kits K C l
theorem kitAny_no {K : PySem.W.Frag} {t : Value} : ∀ {cs : List Value}, (∀ c ∈ cs, PySem.W.kitOne K t c = some false) → PySem.W.kitAny K t cs = some false
  | [], _ => rfl
  | c :: cs, h => kitAny_cons (h c List.mem_cons_self) (fun _ => kitAny_no fun d hd => h d (List.mem_cons_of_mem _ hd)) (fun z => nomatch z)
/-- a value that is any, at a heap that keeps what was -/
def RetAny (Q : VK) (H : Hp) : Prop := ∀ v H', Same H H' → Q v H'
/-- an error of the class at C without a dict -/
def Rai (E : XK) (H : Hp) (C : Addr) : Prop := ∀ H', Same H H' → E (.ref C) none H'
/-! ### xs.count(y), flat items -/
def rCountF (K : PySem.W.Frag) : V → List V → Hp → VK → Prop := fun x xs H Q => ∃ (a : Addr) (ys : List V) (y : V), x = V.ref a ∧ xs = [y] ∧ SqL K H a ys ∧ flatV y = true ∧ ys.all flatV = true ∧ Q (.int (ys.countP (fun z => eqV z y) : Nat)) H
theorem count_vals {y : V} {ys : List V} {us : List Value} (r : Vals ys us) : ys.all flatV = true → us.countP (eqU y) = ys.countP (fun z => eqV z y) := by
  induction r with
  | nil => intro _; rfl
  | cons ra rt ih =>
    intro f
    rw [List.all_cons, Bool.and_eq_true] at f
    rw [List.countP_cons, List.countP_cons, ih f.2, eqU_of ra f.1]
theorem mt_countF {X : Cx} : MtR X "list.count" (rCountF X.K) := by
  intro pins s σ H x xs v us Q I rx rxs h
  obtain ⟨a, ys, y, rfl, rfl, hs, fy, fys, q⟩ := h
  cases rx
  obtain ⟨u, rfl, ru⟩ := rxs.one
  obtain ⟨its, rv, ⟨⟨cls, dd, data, sl⟩, n, ho, hc, hdn, hd⟩, hlen⟩ := I.list hs
  simp only at hc hd
  subst hc hd
  refine call_meets PySem.F.slot_list_count ⟨_, ho, rfl⟩ PySem.F.entry_list_count (PySem.F.args_list_count_2 _ _) (SeqAt.list_countAt a its.toArray n dd sl u (eqU y)) ⟨ho, fun w hw => mem_eqAt ru fy rv fys w (by simpa using hw), ?_⟩
  refine ⟨.int (ys.countP (fun z => eqV z y) : Nat), H, I.tok _, ⟨s.toks, ?_⟩, q⟩
  have e : its.toArray.toList.countP (eqU y) = ys.countP (fun z => eqV z y) := count_vals rv fys
  rw [e]
theorem hot_room {j k : Nat} {A : Around} {e : Option Value} (r : Room k A) (h : j ≤ k) : L2H.RoomH j (A.mark e) := ⟨(r.mono h).dp, (r.mono h).un⟩
/-- a statement whose ends are told once -/
theorem seq_cut {t u : TS} {D : Ends} {σ : L2.St} {H : Hp} (Inv : L2.St → Hp → Prop) (hu : ∀ τ G, Inv τ G → u D τ G) (ht : (∀ τ G, Inv τ G → u D τ G) → t { D with nx := u D } σ H) : tSeq t u D σ H := ht hu
/-! ### lists of texts -/
def okT (x : Str) : Bool := PyData.canLay0 (.str x)
abbrev tv (ss : List Str) : List V := ss.map V.str
def dT (ss : List Str) : PyData := .list (ss.map PyData.str)
theorem eqv_strs : ∀ ss ts : List Str, PyData.eqvAll (ss.map PyData.str) (ts.map PyData.str) = decide (ss = ts)
  | [], [] => rfl
  | [], _ :: _ => rfl
  | _ :: _, [] => rfl
  | n :: r, m :: q => by
    show ((n == m) && PyData.eqvAll (r.map PyData.str) (q.map PyData.str)) = _
    rw [eqv_strs r q, Bool.eq_iff_iff]
    simp
theorem depth_strs : ∀ ss : List Str, PyData.depthAll (ss.map PyData.str) = 0
  | [] => rfl
  | n :: r => by show max 0 (PyData.depthAll (r.map PyData.str)) = 0; rw [depth_strs r]; rfl
theorem shaped_dT (ss : List Str) (ok : ss.all okT = true) : SeqAt.shaped (dT ss) = true := by
  have c : ∀ ms : List Str, ms.all okT = true → PyData.canLayAll0 (ms.map PyData.str) = true := fun ms => by
    induction ms with
    | nil => intro _; rfl
    | cons n r ih =>
      intro h
      rw [List.all_cons, Bool.and_eq_true] at h
      show (okT n && PyData.canLayAll0 (r.map PyData.str)) = true
      rw [h.1, ih h.2]; rfl
  unfold SeqAt.shaped
  have d : (dT ss).depth = 1 := by show PyData.depthAll (ss.map PyData.str) + 1 = 1; rw [depth_strs]
  rw [d]
  show (PyData.canLayAll0 (ss.map PyData.str) && decide (1 ≤ 64)) = true
  rw [c ss ok]
  rfl
theorem dp_strs {K : PySem.W.Frag} {H : Hp} : ∀ ss : List Str, DpAll K H (tv ss) (ss.map PyData.str)
  | [] => .nil
  | n :: r => .cons (.str n) (dp_strs r)
theorem neD_strs {K : PySem.W.Frag} {H : Hp} {a b : Addr} {ss ts : List Str} {Q : VK} (ha : SqL K H a (tv ss)) (hb : SqL K H b (tv ts)) (o1 : ss.all okT = true) (o2 : ts.all okT = true) (q : Q (.bl (!decide (ss = ts))) H) : rNeD K (.ref a) (.ref b) H Q :=
  ⟨dT ss, dT ts, .lst ha (dp_strs ss), .lst hb (dp_strs ts), shaped_dT ss o1, shaped_dT ts o2, by rw [show PyData.eqv (dT ss) (dT ts) = decide (ss = ts) from eqv_strs ss ts]; exact q⟩
theorem eqD_strs {K : PySem.W.Frag} {H : Hp} {a b : Addr} {ss ts : List Str} {Q : VK} (ha : SqL K H a (tv ss)) (hb : SqL K H b (tv ts)) (o1 : ss.all okT = true) (o2 : ts.all okT = true) (q : Q (.bl (decide (ss = ts))) H) : rEqD K (.ref a) (.ref b) H Q :=
  ⟨dT ss, dT ts, .lst ha (dp_strs ss), .lst hb (dp_strs ts), shaped_dT ss o1, shaped_dT ts o2, by rw [show PyData.eqv (dT ss) (dT ts) = decide (ss = ts) from eqv_strs ss ts]; exact q⟩
/-! ### a class's __init__ -/
def clsBody (s : Stmt) : List Stmt := match s with
  | .ClassDef _ _ _ b _ _ _ _ _ _ _ => b
  | _ => []
def iniOf (s : Stmt) (i : Nat) : Stmt := (clsBody s).getD i (.Pass ⟨0, 0, 0, 0⟩)
/-- an error of the class at C with a dict that holds v at f -/
def RaiF (E : XK) (H : Hp) (C : Addr) (f : Str) (v : V) : Prop := ∀ dx H', Same H H' → H' dx = some (.xd [(f, v)]) → H dx = none → E (.ref C) (some dx) H'
section
variable {K : PySem.W.Frag} {t c1 c2 c3 c4 c5 : Value}
theorem kitAny_no2 (h1 : PySem.W.kitOne K t c1 = some false) (h2 : PySem.W.kitOne K t c2 = some false) : PySem.W.kitAny K t [c1, c2] = some false :=
  kitAny_cons h1 (fun _ => kitAny_cons h2 (fun _ => rfl) (fun z => nomatch z)) (fun z => nomatch z)
theorem kitAny_no3 (h1 : PySem.W.kitOne K t c1 = some false) (h2 : PySem.W.kitOne K t c2 = some false) (h3 : PySem.W.kitOne K t c3 = some false) : PySem.W.kitAny K t [c1, c2, c3] = some false :=
  kitAny_cons h1 (fun _ => kitAny_no2 h2 h3) (fun z => nomatch z)
theorem kitAny_no4 (h1 : PySem.W.kitOne K t c1 = some false) (h2 : PySem.W.kitOne K t c2 = some false) (h3 : PySem.W.kitOne K t c3 = some false) (h4 : PySem.W.kitOne K t c4 = some false) : PySem.W.kitAny K t [c1, c2, c3, c4] = some false :=
  kitAny_cons h1 (fun _ => kitAny_no3 h2 h3 h4) (fun z => nomatch z)
theorem kitAny_no5 (h1 : PySem.W.kitOne K t c1 = some false) (h2 : PySem.W.kitOne K t c2 = some false) (h3 : PySem.W.kitOne K t c3 = some false) (h4 : PySem.W.kitOne K t c4 = some false) (h5 : PySem.W.kitOne K t c5 = some false) : PySem.W.kitAny K t [c1, c2, c3, c4, c5] = some false :=
  kitAny_cons h1 (fun _ => kitAny_no4 h2 h3 h4 h5) (fun z => nomatch z)
end
theorem own2 (a b : Addr) : Paired ClsV [.ref a, .ref b] [.ref a, .ref b] := .cons (.own _) (.cons (.own _) .nil)
theorem own3 (a b c : Addr) : Paired ClsV [.ref a, .ref b, .ref c] [.ref a, .ref b, .ref c] := .cons (.own _) (own2 _ _)
theorem own4 (a b c d : Addr) : Paired ClsV [.ref a, .ref b, .ref c, .ref d] [.ref a, .ref b, .ref c, .ref d] := .cons (.own _) (own3 _ _ _)
theorem own5 (a b c d e : Addr) : Paired ClsV [.ref a, .ref b, .ref c, .ref d, .ref e] [.ref a, .ref b, .ref c, .ref d, .ref e] := .cons (.own _) (own4 _ _ _ _)
end SH

/-! SH21: repr of values of any kind; only the dicts in them need stand apart from the module table, and they do. -/
namespace SH
open PySem PySem.Spec PyProof.Rows L2
section
variable {X : Cx} {pins : List (Addr × Obj)} {σ : L2.St} {H : Hp} {s : Shared}
abbrev Rk (X : Cx) (s : Shared) (u : Value) (d : PyData) : Prop := ∃ bs, ReadAtMost s.heap d.depth bs ∧ ReprK X.prog X.w bs s.heap d.depth u d.shown
abbrev RkA (X : Cx) (s : Shared) (us : List Value) (ds : List PyData) : Prop := ∃ bs, ReadAtMost s.heap (PyData.depthAll ds) bs ∧ ReprAllK X.prog X.w bs s.heap (PyData.depthAll ds) us (PyData.shownAll ds)
theorem list_rk {a : Addr} {o : Obj} {its : List Value} {n : Nat} {ds : List PyData} {as : List Addr} (e : s.heap.get? a = some o) (c : o.cls = .type "list") (dt : o.data = .seq its.toArray n) (hr : ReadsAll s.heap its ds as) (k : RkA X s its ds) : Rk X s (.ref a) (.list ds) := by
  obtain ⟨bs, hb, hk⟩ := k
  have r : Reads s.heap (.ref a) (.list ds) (a :: as) := .list e c dt hr
  have ap : a ∉ bs := not_mem_of_deeper r (by simp only [PyData.depth]; omega) hb
  refine ⟨a :: bs, ReadAtMost.cons r (by simp only [PyData.depth]; omega) hb, ?_⟩
  simp only [PyData.depth, PyData.shown]
  cases its with
  | nil =>
    cases hr
    simp only [PyData.shownAll, listText_nil]
    exact ReprK.listEmpty e c dt
  | cons x l => exact ReprK.list e c dt ap (by simpa using hk.length_eq) fun i y q => hk.item i y (by simpa using q)
theorem tup_rk {a : Addr} {o : Obj} {its : List Value} {n : Nat} {ds : List PyData} {as : List Addr} (e : s.heap.get? a = some o) (c : o.cls = .type "tuple") (dt : o.data = .seq its.toArray n) (hr : ReadsAll s.heap its ds as) (k : RkA X s its ds) : Rk X s (.ref a) (.tuple ds) := by
  obtain ⟨bs, hb, hk⟩ := k
  have r : Reads s.heap (.ref a) (.tuple ds) as := .tuple e c dt hr
  have ap : a ∉ bs := not_mem_of_deeper r (by simp only [PyData.depth]; omega) hb
  refine ⟨a :: bs, ReadAtMost.cons r (by simp only [PyData.depth]; omega) hb, ?_⟩
  simp only [PyData.depth, PyData.shown]
  exact ReprK.tuple e c dt ap hk
theorem cons_rk {u : Value} {us : List Value} {d : PyData} {ds : List PyData} (h1 : Rk X s u d) (h2 : RkA X s us ds) : RkA X s (u :: us) (d :: ds) := by
  obtain ⟨b1, m1, k1⟩ := h1
  obtain ⟨b2, m2, k2⟩ := h2
  refine ⟨b1 ++ b2, fun b hm => ?_, ?_⟩
  · show ∃ d' as', Reads s.heap (.ref b) d' as' ∧ d'.depth ≤ max d.depth (PyData.depthAll ds)
    rcases List.mem_append.mp hm with z | z
    · obtain ⟨d', as', r, q⟩ := m1 b z
      exact ⟨d', as', r, by omega⟩
    · obtain ⟨d', as', r, q⟩ := m2 b z
      exact ⟨d', as', r, by omega⟩
  · simp only [PyData.depthAll, PyData.shownAll]
    exact .cons ((k1.more fun b hb => List.mem_append_left _ hb).level_le (Nat.le_max_left _ _)) (k2.more_le (fun b hb => List.mem_append_right _ hb) (Nat.le_max_right _ _))
theorem of_rk {u : Value} {d : PyData} {as : List Addr} (r : Reads s.heap u d as) (hs : d.showable = true) (hz : d.shown.length ≤ sizeLine) (hd : d.hasDict = true → sysModules ∉ as) : Rk X s u d := ReprK.of_reads r hs hd hz
mutual
theorem Dx.rk (I : Inv X pins σ H s) : ∀ (d : PyData) (v : V) (u : Value) (as : List Addr), Dx H v d as → RelV v u → d.showable = true → d.shown.length ≤ sizeLine → Rk X s u d
  | .none, _, _, _, h, r, hs, hz => by obtain ⟨bs, q, _⟩ := Dx.reads I _ _ _ _ h r; exact of_rk q hs hz fun z => nomatch z
  | .bool b, _, _, _, h, r, hs, hz => by obtain ⟨bs, q, _⟩ := Dx.reads I _ _ _ _ h r; exact of_rk q hs hz fun z => nomatch z
  | .int i, _, _, _, h, r, hs, hz => by obtain ⟨bs, q, _⟩ := Dx.reads I _ _ _ _ h r; exact of_rk q hs hz fun z => nomatch z
  | .str x, _, _, _, h, r, hs, hz => by obtain ⟨bs, q, _⟩ := Dx.reads I _ _ _ _ h r; exact of_rk q hs hz fun z => nomatch z
  | .dict _, _, _, _, h, r, hs, hz => by
    obtain ⟨bs, q, sub⟩ := Dx.reads I _ _ _ _ h r
    cases h with
    | emp e =>
      obtain ⟨_, nm, _⟩ := dk_of I.hok e
      refine of_rk q hs hz fun _ z => ?_
      have := List.mem_singleton.mp (sub _ z)
      rw [← this] at nm
      simp at nm
  | .list ds, _, _, _, h, r, hs, hz => by
    cases h with
    | lst e ha =>
      cases r
      obtain ⟨its, rv, ⟨o, n, ho, hc, _, hd⟩, _⟩ := I.list (SqL.of e)
      obtain ⟨bs, hr, _⟩ := Dx.readsAll I ds _ its _ ha rv
      exact list_rk ho hc hd hr (Dx.rkAll I ds _ its _ ha rv (by simpa [PyData.showable] using hs) fun t ht => Nat.le_trans (listText_mem_le ht) (by simpa only [PyData.shown] using hz))
  | .tuple ds, _, _, _, h, r, hs, hz => by
    cases h with
    | tup e ha =>
      cases r
      obtain ⟨its, rv, ⟨o, ho, hc, n, hd⟩, _⟩ := I.tuple (SqT.of e)
      obtain ⟨bs, hr, _⟩ := Dx.readsAll I ds _ its _ ha rv
      exact tup_rk ho hc hd hr (Dx.rkAll I ds _ its _ ha rv (by simpa [PyData.showable] using hs) fun t ht => Nat.le_trans (tupleText_mem_le ht) (by simpa only [PyData.shown] using hz))
theorem Dx.rkAll (I : Inv X pins σ H s) : ∀ (ds : List PyData) (vs : List V) (us : List Value) (as : List Addr), DxAll H vs ds as → Vals vs us → PyData.showableAll ds = true → (∀ t ∈ PyData.shownAll ds, t.length ≤ sizeLine) → RkA X s us ds
  | [], _, _, _, h, r, _, _ => by
    cases h
    cases r
    exact ⟨[], (fun b z => absurd z List.not_mem_nil), .nil⟩
  | d :: ds, _, _, _, h, r, hs, hz => by
    cases h with
    | cons h1 h2 =>
      cases r with
      | cons r1 r2 =>
        have hs' : d.showable = true ∧ PyData.showableAll ds = true := by simpa [PyData.showableAll] using hs
        exact cons_rk (Dx.rk I d _ _ _ h1 r1 hs'.1 (hz _ (by simp only [PyData.shownAll]; exact List.mem_cons_self))) (Dx.rkAll I ds _ _ _ h2 r2 hs'.2 fun t ht => hz t (by simp only [PyData.shownAll]; exact List.mem_cons_of_mem _ ht))
end
end
/-- repr(x), x of any kind -/
def rReprY : List V → Hp → VK → Prop := fun xs H Q => ∃ (x : V) (d : PyData) (as : List Addr), xs = [x] ∧ Dx H x d as ∧ Fits 50 16000000 d ∧ Q (.str d.shown) H
theorem call_reprY {X : Cx} (qt : Quiet X.A) (hu : X.A.units + 64 < cLine) : CallR X (.builtin "repr") rReprY := by
  intro pins s σ H xs us Q I r h
  obtain ⟨x, d, as, rfl, hd, fd, q⟩ := h
  have hz : d.shown.length ≤ sizeLine := Nat.le_trans fd.2.2 (by decide)
  obtain ⟨u, eu, rx⟩ := vals1 r
  have fin : ∀ h' (v : Tok) tk, (∀ b o, s.heap.get? b = some o → h'.get? b = some o) → EP X pins σ Q (.str d.shown v) { s with heap := h', toks := tk } := fun h' v tk k => ⟨.str d.shown, H, I.kept k, ⟨v, rfl⟩, q⟩
  have depth := fd.2.1
  cases d with
  | list ds =>
    cases hd with
    | lst e ha =>
      cases rx
      subst eu
      obtain ⟨its, rv, ⟨o, n, ho, hc, _, hdt⟩, _⟩ := I.list (SqL.of e)
      obtain ⟨bs, hr, _⟩ := Dx.readsAll I ds _ its _ ha rv
      have hz' : (listText (PyData.shownAll ds)).length ≤ sizeLine := by simpa only [PyData.shown] using hz
      obtain ⟨cs, hb, hk⟩ := Dx.rkAll I ds _ its _ ha rv (by simpa [PyData.showable] using fd.1) fun t ht => Nat.le_trans (listText_mem_le ht) hz'
      have rd : Reads s.heap (.ref _) (.list ds) _ := .list ho hc hdt hr
      have ap : _ ∉ cs := not_mem_of_deeper rd (by simp only [PyData.depth]; omega) hb
      simp only [PyData.depth] at depth
      refine call_repr_slot (by omega) ⟨o, ho, hc⟩ F.slot_list_repr.toG ?_
      cases its with
      | nil =>
        cases hr
        refine call_list_repr_empty ⟨o, ho, hc⟩ ho hdt ⟨_, _, rfl, ?_⟩
        have := fin s.heap s.toks (s.toks + 1) fun _ _ z => z
        simp only [PyData.shown, PyData.shownAll, listText_nil] at this
        exact this
      | cons x l =>
        refine call_list_reprK ho hc hdt ap (by simpa using hk.length_eq) (fun i y z => hk.item i y (by simpa using z)) qt (fun b _ => Clear.nil b) (by show X.A.units + 1 + (PyData.depthAll ds + 1) < cLine; omega) (fun _ _ z => z) (fun h' v tk k => ⟨_, _, rfl, ?_⟩) hz'
        have := fin h' v tk k
        simp only [PyData.shown] at this
        exact this
  | tuple ds =>
    cases hd with
    | tup e ha =>
      cases rx
      subst eu
      obtain ⟨its, rv, ⟨o, ho, hc, n, hdt⟩, _⟩ := I.tuple (SqT.of e)
      obtain ⟨bs, hr, _⟩ := Dx.readsAll I ds _ its _ ha rv
      have hz' : (tupleText (PyData.shownAll ds)).length ≤ sizeLine := by simpa only [PyData.shown] using hz
      obtain ⟨cs, hb, hk⟩ := Dx.rkAll I ds _ its _ ha rv (by simpa [PyData.showable] using fd.1) fun t ht => Nat.le_trans (tupleText_mem_le ht) hz'
      have rd : Reads s.heap (.ref _) (.tuple ds) _ := .tuple ho hc hdt hr
      have ap : _ ∉ cs := not_mem_of_deeper rd (by simp only [PyData.depth]; omega) hb
      simp only [PyData.depth] at depth
      refine call_repr_slot (by omega) ⟨o, ho, hc⟩ F.slot_tuple_repr ?_
      refine call_tuple_reprK ho hc hdt ap hk qt (fun b _ => Clear.nil b) (by show X.A.units + 1 + (PyData.depthAll ds + 1) < cLine; omega) (fun _ _ z => z) (fun h' v tk k => ⟨_, _, rfl, ?_⟩) hz'
      have := fin h' v tk k
      simp only [PyData.shown] at this
      exact this
  | dict kvs =>
    refine call_reprX qt hu pins s σ H [x] us Q I r ⟨x, _, as, rfl, hd, fun _ z => ?_, fd, q⟩
    cases hd with
    | emp e =>
      obtain ⟨_, nm, _⟩ := dk_of I.hok e
      have := List.mem_singleton.mp z
      rw [← this] at nm
      simp at nm
  | _ => exact call_reprX qt hu pins s σ H [x] us Q I r ⟨x, _, as, rfl, hd, (fun z => nomatch z), fd, q⟩
end SH

set_option maxHeartbeats 2000000
/-! SH22: errors that are made as values: C(e) of a class without own __init__; C(f=e) of one whose __init__ is super().__init__('..'); self.f = f. -/
namespace SH
open PySem PySem.HandSPX
section
variable {prog : Program} {w : World} {A : Around} {E : Value → Shared → Prop} {R : Result → Shared → Prop} {h : Heap} {g : Array GenState} {d : Drawn} {t : Nat} {os : OsState}
variable {nm q : Str} {C N : Addr} {bs bm bmB : List Value} {hdct : Bool} {sn : List Str} {sub : List Value} {ab : Bool} {col : Option Bool} {dd : Option Addr} {k0 k1 k2 k3 k5 : Option Value} {B newId initId : String} {kw : List (Str × Value)}
theorem chk_newK {M : Model} (F : ExcBaseFacts B newId initId bmB) (hT : ∀ X : String, bm.contains (.type X) = bmB.contains (.type X)) {rest : List Value} {Q : Unit → Shared → Prop}
    (hC : h.get? C = some (excClassObj nm q C N bs bm hdct sn sub ab col dd k0 k1 k2 k3 k5 newId)) (hq : Q () ⟨h, g, d, t, os⟩) : wpAny M A (checkBuiltinCall newId ⟨.ref C :: rest, kw⟩) Q E ⟨h, g, d, t, os⟩ := by
  have hcont : (Value.ref C :: bm).contains (.type B) = true := by rw [List.contains_cons, hT, F.hasB, Bool.or_true]
  have hstar := F.noStar
  simp only [checkBuiltinCall, F.newKind, F.newSplit, F.newRow]
  repeat (first | refine wpAny_loadPart_at hC ?_ | (refine wpAny_isSubtype_exc hC ?_; rw [hcont]) | refine wpAny_staticBase_exc hC ?_ | refine wpAny_madeBy_exc hC ?_ | simp only [bne_self_eq_false, Bool.false_eq_true, if_false] | wp_step)
  exact hq
theorem newK (F : ExcBaseFacts B newId initId bmB) (hT : ∀ X : String, bm.contains (.type X) = bmB.contains (.type X)) {rest : List Value}
    (hC : h.get? C = some (excClassObj nm q C N bs bm hdct sn sub ab col dd k0 k1 k2 k3 k5 newId))
    (hq : R (.ok (.ret (.ref (h.objs.size + 1)))) ⟨(h.push { cls := .type "tuple", data := .seq rest.toArray }).push
      { cls := .ref C, data := .fields #[.ref h.objs.size, .none, .none, .none, .bool false, .none] }, g, d, t, os⟩) (hrest : rest.length ≤ sizeLine) :
    codeAny (model prog w) A (.builtin newId ⟨.ref C :: rest, kw⟩) R ⟨h, g, d, t, os⟩ := by
  have hends := F.ends
  have hcB : (Value.ref C :: bm).contains (.type B) = true := by rw [List.contains_cons, hT, F.hasB, Bool.or_true]
  have hcA : (Value.ref C :: bm).contains (.type "AttributeError") = false := by rw [List.contains_cons, hT, F.noAttr]; rfl
  have hcN : (Value.ref C :: bm).contains (.type "NameError") = false := by rw [List.contains_cons, hT, F.noName]; rfl
  refine codeAny_builtinAt F.entry ?_
  unfold Builtin.«BaseException.__new__»
  refine wpAt_bind ?_
  show wpAt _ _ _ (stack >>= _) _ _ _
  refine wpAt_bind (wpAt_stack fun p below => wpAt_of_wpAny ?_)
  wp_walk
  refine wpAt_of_wpAny ?_
  rw [F.owner]
  repeat (first | with_reducible refine wpAny_madeHere_exc F.canon hC ?_ | with_reducible refine wpAny_loadPart_at hC ?_ | (with_reducible refine wpAny_isSubtype_exc hC ?_; first | rw [hcB] | rw [hcA] | rw [hcN]) | wp_step)
  show R _ _
  rw [Heap.size_push]
  exact hq
theorem tcallK (F : ExcBaseFacts B newId initId bmB) (hT : ∀ X : String, bm.contains (.type X) = bmB.contains (.type X)) {rest : List Value} {fI : Addr} {Q : Fin → Shared → Prop}
    (hC : h.get? C = some (excClassObj nm q C N bs bm hdct sn sub ab col dd k0 k1 k2 k3 k5 newId))
    (hi : W.Looks (model prog w) h (typeLookup (.ref C) "__init__") (some (.ref fI))) (hb : ∀ self, W.Looks (model prog w) h (bindSpecial (.ref fI) self) (.ref fI, [self])) (hrest : rest.length ≤ sizeLine)
    (hq : codeAny (model prog w) A (.call (.ref fI) ⟨.ref (h.objs.size + 1) :: rest, kw⟩)
      (fun r s' => match r with | .ok (.ret v) => v = .none ∧ Q (.done (.ret (.ref (h.objs.size + 1)))) s' | .ok _ => False | .error e => E e s')
      ⟨(h.push (W.kdv_tup rest)).push (excO C h.objs.size), g, d, t, os⟩) :
    wpAny (model prog w) A (Builtin.«type.__call__» ⟨.ref C :: rest, kw⟩) Q E ⟨h, g, d, t, os⟩ := by
  repeat (first | with_reducible refine wpAny_loadPart_at hC ?_ | with_reducible refine wpAny_madeBy_exc hC ?_ | wp_step)
  refine codeAny_call_builtin_code (Code.quiet_builtin _ F.quiet) (chk_newK F hT hC ?_)
  refine newK F hT hC ?_ hrest
  show wpAny _ _ _ _ _ _
  have k : ∀ b o, h.get? b = some o → ((h.push (W.kdv_tup rest)).push (excO C h.objs.size)).get? b = some o := fun b o e => Heap.get?_push_of_some _ (Heap.get?_push_of_some _ e)
  have hC₁ := k _ _ hC
  have hget : ((h.push (W.kdv_tup rest)).push (excO C h.objs.size)).get? (h.objs.size + 1) = some (excO C h.objs.size) := by heap_get
  have hcC : (Value.ref C :: bm).contains (.ref C) = true := by simp
  have i1 := hi.keeps k
  have b1 := (hb (.ref (h.objs.size + 1))).keeps k
  unfold isInstance
  repeat (first | with_reducible refine wpAny_loadPart_at hget ?_ | (with_reducible refine wpAny_isSubtype_exc hC₁ ?_; rw [hcC]) | wp_step)
  show wpAny _ _ (typeLookup (.ref C) _) _ _ _
  refine i1.at ?_
  refine wpAny_holding (wpAny_bind (b1.at ?_))
  refine wpAny_bind (wpAny_call (codeAny_mono hq fun r s' z => ?_))
  rcases r with e | (v | _ | _ | _) <;> first | exact z | exact z.elim | skip
  obtain ⟨rfl, z⟩ := z
  first
    | exact wpAny_pure (wpAny_pure z)
    | (wp_walk; exact z)
theorem chk_tcallK {M : Model} {rest : List Value} {Q : Unit → Shared → Prop} (hC : h.get? C = some (excClassObj nm q C N bs bm hdct sn sub ab col dd k0 k1 k2 k3 k5 newId))
    (hq : Q () ⟨h, g, d, t, os⟩) : wpAny M A (checkBuiltinCall "type.__call__" ⟨.ref C :: rest, kw⟩) Q E ⟨h, g, d, t, os⟩ := by
  have f3 := tc_sub
  have hT : (⟨h, g, d, t, os⟩ : Shared).TypeIs (.ref C) "type" := ⟨_, hC, rfl⟩
  simp only [checkBuiltinCall, tc_kind, tc_split]
  repeat (any_goals (first | assumption | with_reducible refine wpAny_loadPart_at hC ?_ | with_reducible refine wpAny_onRaise ?_ | with_reducible refine wpAny_map ?_ | wp_step))
theorem call_ownK (F : ExcBaseFacts B newId initId bmB) (hT : ∀ X : String, bm.contains (.type X) = bmB.contains (.type X)) {rest : List Value} {fI : Addr}
    (hC : h.get? C = some (excClassObj nm q C N bs bm hdct sn sub ab col dd k0 k1 k2 k3 k5 newId))
    (hi : W.Looks (model prog w) h (typeLookup (.ref C) "__init__") (some (.ref fI))) (hb : ∀ self, W.Looks (model prog w) h (bindSpecial (.ref fI) self) (.ref fI, [self])) (hrest : rest.length ≤ sizeLine)
    (hq : codeAny (model prog w) (A.under (.builtin "type.__call__" ⟨.ref C :: rest, kw⟩)) (.call (.ref fI) ⟨.ref (h.objs.size + 1) :: rest, kw⟩) (W.InitBack (h.objs.size + 1) R)
      ⟨(h.push (W.kdv_tup rest)).push (excO C h.objs.size), g, d, t, os⟩) :
    codeAny (model prog w) A (.call (.ref C) ⟨rest, kw⟩) R ⟨h, g, d, t, os⟩ := by
  have f1 := tc_lookup
  have f2 := tc_bind (.ref C)
  have hTy : (⟨h, g, d, t, os⟩ : Shared).TypeIs (.ref C) "type" := ⟨_, hC, rfl⟩
  refine codeAny_of_tree ?_
  show wpAny _ _ (callAny (.ref C) _) _ _ _
  repeat (any_goals (first | assumption | with_reducible refine wpAny_loadPart_at hC ?_ | wp_step))
  refine ⟨rfl, ?_⟩
  refine codeAny_call_builtin_at (Code.quiet_builtin _ (by decide +kernel)) entry_typeCall (chk_tcallK hC (tcallK F hT hC hi hb hrest ?_))
  refine codeAny_mono hq fun r s' z => ?_
  rcases r with e | (v | _ | _ | _) <;> exact z
end
end SH
namespace SH
open PySem PySem.Spec PyProof.Rows L2
/-- the text of such an __init__, called by keyword -/
structure IniK (st : Stmt) (v : Str) : Prop where
  bd : ∀ (kV doc pm : Value) (an : Option Addr) (cd ct : Value) (q : Str) (cc : Addr) (x u : Value), bindArgs (PySem.W.ksFn "__init__" q (defArgs st) (defBody st) (defScope st) .none kV doc pm an cd ct cc) ⟨[x], [(v, u)]⟩ = pure ([(("self" : Str), x), (v, u)] : List (Str × Value))
section
open PySem.W
variable {X : Cx} {pins : List (Addr × Obj)} {σ : L2.St} {H1 : Hp} {C : Addr} {q f v m x : Str} {st : Stmt} {u : Value} {y : V} {p pos : Pos} {e : Expr} {ta : TA}
theorem make_iniK {R : Result → Shared → Prop} {hp : Heap} {g : Array GenState} {d : Drawn} {tk : Nat} {os : OsState} (I : Inv X pins σ H1 ⟨hp, g, d, tk, os⟩) (T : IniC X.prog X.K C q st f) (Z : IniT st f v m) (Zk : IniK st v) (ms : X.mg "super" = none) (room : Room 1 X.A)
    (h : ∀ h' a dx t1 tk', (∀ b o, hp.get? b = some o → h'.get? b = some o) → hp.objs.size ≤ a → hp.objs.size ≤ dx → dx ≠ a → h'.get? a = some ({ cls := .ref C, dict := some dx, data := .fields #[.ref t1, .none, .none, .none, .bool false, .none] } : Obj) →
      h'.Ns1 dx (fun z => if z = f then some u else none) → R (.ok (.ret (.ref a))) ⟨h', g, d, tk', os⟩) : codeAny (model X.prog X.w) X.A (.call (.ref C) ⟨[], [(v, u)]⟩) R ⟨hp, g, d, tk, os⟩ := by
  obtain ⟨nm, qq, N, bs, bm, sn, sub, ab, col, dd, k0, k1, k2, k3, k5, lC, hbm⟩ := T.o.cls
  obtain ⟨fI, cda, cc, oc, cl, ccl, od, cld, cdd, osl, csl, ccs, vs, file, tf, kV, doc, pm, ct, an, lf, hcd, lc, hvs, hfile, lcc, hi, ti⟩ := T.fx
  have up : ∀ b o, hp.get? b = some o → ((hp.push (kdv_tup [])).push (HandSPX.excO C hp.objs.size)).get? b = some o := fun b o z => Heap.get?_push_of_some _ (Heap.get?_push_of_some _ z)
  have at_ : ((hp.push (kdv_tup [])).push (HandSPX.excO C hp.objs.size)).get? (hp.objs.size + 1) = some (HandSPX.excO C hp.objs.size) := by heap_get
  have KX := I.kIn
  refine call_ownK F.excBase_ValueError (fun Y => HandSPX.refsVE_contains Y bm hbm) (KX _ _ lC) (looks_findIn KX hi) (fun self => bind_fn KX self ti) (by rw [sizeLine_eq]; show 0 ≤ _; omega) ?_
  refine ini_rawA (base := X.base) (mg := X.mg) T Z I.ok.mod (fun b o z => up b o (I.bk b o z)) ms ?_ at_ ?_ fI hi (fun _ _ _ _ _ _ _ _ => Zk.bd _ _ _ _ _ _ _ _ _ _) (fun h' dx t1 tk' k dn dne ha hn => ?_)
  · have := (room.make C [] [(v, u)]).dp
    omega
  · cases z : X.base.get? (hp.objs.size + 1) with
    | none => rfl
    | some o => exact absurd (Heap.lt_size (I.bk _ _ z)) (by show ¬ (hp.objs.size + 1 < hp.objs.size); omega)
  · have sz : hp.objs.size ≤ ((hp.push (kdv_tup [])).push (HandSPX.excO C hp.objs.size)).objs.size := by rw [Heap.size_push, Heap.size_push]; omega
    exact ⟨rfl, h h' _ dx t1 tk' (fun b o z => k b o (Nat.ne_of_lt (Nat.lt_succ_of_lt (Heap.lt_size z))) (up b o z)) (Nat.le_succ _) (Nat.le_trans sz dn) dne ha hn⟩
/-- C(f=e), as a value -/
theorem pe_iniK {kw : Keyword} (T : IniC X.prog X.K C q st f) (Z : IniT st f v m) (Zk : IniK st v) (ms : X.mg "super" = none) (room : Room 1 X.A) (gC : X.mg x = some (.ref C)) (hg : Gl X x) (hk : PK X [kw] ta)
    (hall : (backToKw pos (keywordEach [kw] X.env)).all (·.1.isSome) = true := by rfl) (hks : (backToKw pos (keywordEach [kw] X.env)).filterMap (·.1) = [v] := by rfl)
    (hdb : (x == ("__debug__" : Str)) = false := by decide) (hpl : ((backTo pos (starEach [] X.env)).any (·.1) || (backToKw pos (keywordEach [kw] X.env)).any (·.1.isNone)) = false := by rfl) :
    PE X (.Call (.Name x p) [] [kw] pos) (fun σ H Q => ta σ H fun vs H1 => ∃ y, vs = [y] ∧ ∀ a dx, H1 dx = none → H1 a = none → dx ≠ a → Q (.ref a) (upd (upd H1 dx (.xd [(f, y)])) a (ErO (.ref C) (some dx) a))) := by
  refine ⟨fun pins s σ H Q I h => wpAny_Call_Name_kw (ld_glob I hg gC (callWith_KW0 (h₀ := X.base) I.ok.mod.kin T.o.kC hall (thn (hk.run pos pins s σ H _ I h) fun us s1 hh => ?_) hpl) hdb)⟩
  obtain ⟨vs, H1, I1, r1, y, rfl, hq⟩ := hh
  obtain ⟨u, rfl, ry⟩ : ∃ u, us = [u] ∧ RelV y u := by
    cases r1 with
    | cons r rr => cases rr; exact ⟨_, rfl, r⟩
  refine ⟨I1.kIn, ?_⟩
  rw [hks]
  show wpAny _ _ (call (.ref C) [] [(v, u)]) _ _ _
  obtain ⟨hp, g, d, tk, os⟩ := s1
  refine wpAny_call (make_iniK I1 T Z Zk ms room fun h' a dx t1 tk' k an dn dne he hn => ?_)
  obtain ⟨G, gs, ga, gk, J⟩ := make_end (tk' := tk') I1 k an dn dne hn ry
  have na : upd H1 dx (.xd [(f, y)]) a = none := by rw [upd_ne (Ne.symm dne)]; exact I1.hok.fresh an
  have J2 := J.laidN (t' := tk') (a := a) (o := ErO (.ref C) (some dx) a) gs ga na (erO_mk he ⟨rfl, rfl⟩ rfl)
  exact ⟨.ref a, _, J2, rfl, hq a dx (I1.hok.fresh dn) (I1.hok.fresh an) dne⟩
/-- C(e) of a class without own __init__, as a value -/
theorem pe_own (Er : Err X.K X.mg x C) (hg : Gl X x) (ha : PA X [e] ta)
    (hdb : (x == ("__debug__" : Str)) = false := by decide) (hst : starEach [e] X.env = (false, eval e X.env) :: starEach [] X.env := by rfl) (hpl : (backTo pos (starEach [] X.env)).any (·.1) = false := by rfl) :
    PE X (.Call (.Name x p) [e] [] pos) (fun σ H Q => ta σ H fun vs H1 => ∃ y, vs = [y] ∧ ∀ a, H1 a = none → Q (.ref a) (upd H1 a (ErO (.ref C) none a))) := by
  refine ⟨fun pins s σ H Q I h => wpAny_Call_Name_kw (ld_glob I hg Er.g (callWith_K (h₀ := X.base) I.ok.mod.kin Er.k (thn (ha.run pos pins s σ H _ I h) fun us s1 hh => ?_) hst hpl) hdb)⟩
  obtain ⟨vs, H1, I1, r1, y, rfl, hq⟩ := hh
  obtain ⟨u, rfl, ry⟩ : ∃ u, us = [u] ∧ RelV y u := by
    cases r1 with
    | cons r rr => cases rr; exact ⟨_, rfl, r⟩
  refine ⟨I1.kIn, ?_⟩
  show wpAny _ _ (call (.ref C) [u]) _ _ _
  obtain ⟨hp, g, d, tk, os⟩ := s1
  obtain ⟨bm, N, nm, qn, bs, hdct, sn, sub, ab, col, dd, k0, k1, k2, k3, k5, mN, hC, hN, hni, T⟩ := exc_obj I1.kIn Er.q
  refine wpAny_call_exc_subT F.excBase_ValueError T hC hN hni (fun h' a hm => ?_) (by show 1 ≤ sizeLine; rw [sizeLine_eq]; omega)
  obtain ⟨t, he, _, _⟩ := hm.there
  have J := I1.laidN (t' := tk) (o := ErO (.ref C) none a) hm.keeps hm.new (I1.hok.gone hm.new) (erO_mk he ⟨rfl, rfl⟩ rfl)
  exact ⟨.ref a, _, J, rfl, hq a (I1.hok.gone hm.new)⟩
end
theorem foldl_size {α : Type} (x : Array α) : ∀ (m : Nat) (acc : Array α), (List.foldl (fun x1 x2 => x1 ++ x2) acc (List.replicate m x)).size = acc.size + m * x.size
  | 0, acc => by rw [Nat.zero_mul]; rfl
  | m + 1, acc => by
    rw [List.replicate_succ, List.foldl_cons, foldl_size x m, Array.size_append, Nat.succ_mul]
    omega
/-- xs[i] as it is read for xs[i] += .. -/
theorem get_list {X : Cx} : PGet X (rIxL X.K) := by
  intro pins s σ H x y v u Q I rx ry h
  obtain ⟨p, xs, i, z, rfl, rfl, hq, he, q⟩ := h
  cases rx
  obtain ⟨t, rfl⟩ := ry
  obtain ⟨its, r, pl, hz⟩ := I.list hq
  obtain ⟨j, h1, h2, h3, h4, h5⟩ := atI_get he
  obtain ⟨w, ew, rw'⟩ := r.get h2
  have hl := r.length
  have hn := line63
  have fin : EP X pins σ Q w s := ⟨z, H, I, rw', q⟩
  by_cases h0 : 0 ≤ i
  · have hj : i.toNat = j := by
      rw [seqIndex_of h0 h5] at h1
      exact Option.some.inj h1
    exact wpAny_getItem_list pl.isList h0 (by omega) (by rw [hj]; simpa using ew) fin
  · have hj : (i + (its.toArray.size : Int)).toNat = j := by
      rw [seqIndex_neg (by omega) h4] at h1
      rw [List.size_toArray, ← hl]
      exact Option.some.inj h1
    exact wpAny_getItem_list_neg pl.isList (by omega) (by rw [List.size_toArray] <;> omega) (by omega) (by rw [hj]; simpa using ew) fin
/-- s * n: a text, whichever -/
theorem op_repStr {X : Cx} : OpR X (binaryOp .Mult) (fun x y H Q => ∃ (z : Str) (n : Int), x = .str z ∧ y = .int n ∧ 0 ≤ n ∧ n ≤ 1000 ∧ z.length ≤ 1000 ∧ ∀ r : Str, Q (.str r) H) := by
  intro pins s σ H x y v u Q I rx ry h
  obtain ⟨z, n, rfl, rfl, n0, n1, zl, q⟩ := h
  obtain ⟨t, rfl⟩ := rx
  obtain ⟨t', rfl⟩ := ry
  have hm : z.length * n.toNat ≤ 1000 * 1000 := Nat.mul_le_mul zl (by omega)
  have hs : (1000 * 1000 : Nat) ≤ sizeLine := by decide
  have hc : Builtin.Str.tooLong (z.length * n.toNat) = false := by
    unfold Builtin.Str.tooLong
    exact decide_eq_false (by omega)
  refine PySem.P.mul_str (by rw [decide_eq_false (by omega), decide_eq_false (by omega)]; rfl) (fun h1 _ => ?_) (fun h1 _ => hc) ?_
  · have : (1000 : Int) ≤ (2 ^ 63 - 1) / n := by
      refine Int.le_ediv_of_mul_le (by omega) ?_
      omega
    omega
  · by_cases c : n < 1
    · rw [if_pos c]
      exact ⟨by decide, ⟨.str _, H, I.tok _, ⟨_, rfl⟩, q _⟩⟩
    · rw [if_neg c]
      by_cases c2 : (n == 1 || z.length == 0) = true
      · rw [if_pos c2]
        exact ⟨.str _, H, I.tok _, ⟨_, rfl⟩, q _⟩
      · rw [if_neg c2]
        refine ⟨?_, ⟨.str _, H, I.tok _, ⟨_, rfl⟩, q _⟩⟩
        show (List.foldl (fun x1 x2 => x1 ++ x2) #[] (List.replicate n.toNat z.cps)).size ≤ sizeLine
        rw [foldl_size, Array.size_empty, Nat.zero_add, Nat.mul_comm]
        exact Nat.le_trans hm hs
end SH

namespace SH
open PySem PySem.Spec PyProof.Rows L2
def topS (i : Nat) : Stmt := PySem.Challenge.pw_stickyheads_k86_errors_are_distinct.main.body.getD i (.Pass ⟨0, 0, 0, 0⟩)
/-! ### the two classes with an __init__ -/
def ini_TooDeepError : Stmt := iniOf (topS 18) 0
def ini_InvalidObservationsError : Stmt := iniOf (topS 19) 0
theorem t_TooDeepError : IniT ini_TooDeepError "line" "line" "a line is too deep for the height" where
  body := ⟨_, _, _, _, _, _, _, _, _, _, _, rfl, fun q kV doc pm an cd ct cc L fI env e => by
    subst e
    exact ⟨⟨_, rfl⟩, rfl, rfl, rfl, rfl⟩⟩
  ar := ⟨_, _, rfl, rfl, rfl, rfl⟩
  bd := fun _ _ _ _ _ _ _ _ _ _ => rfl
  ks := rfl
  kc := rfl
  k0 := rfl
  k1 := rfl
  co := rfl
  ge := rfl
  kd := rfl
  nc := by decide +kernel
  nv := by decide
  nd := by decide
theorem u_TooDeepError : IniK ini_TooDeepError "line" := ⟨fun _ _ _ _ _ _ _ _ _ _ => rfl⟩
theorem t_InvalidObservationsError : IniT ini_InvalidObservationsError "index" "index" "these are not observations" where
  body := ⟨_, _, _, _, _, _, _, _, _, _, _, rfl, fun q kV doc pm an cd ct cc L fI env e => by
    subst e
    exact ⟨⟨_, rfl⟩, rfl, rfl, rfl, rfl⟩⟩
  ar := ⟨_, _, rfl, rfl, rfl, rfl⟩
  bd := fun _ _ _ _ _ _ _ _ _ _ => rfl
  ks := rfl
  kc := rfl
  k0 := rfl
  k1 := rfl
  co := rfl
  ge := rfl
  kd := rfl
  nc := by decide +kernel
  nv := by decide
  nd := by decide
theorem u_InvalidObservationsError : IniK ini_InvalidObservationsError "index" := ⟨fun _ _ _ _ _ _ _ _ _ _ => rfl⟩
abbrev s_law_bag : Stmt := topS 21
abbrev N_law_bag : List Str := ["cell", "k"]
abbrev P_law_bag : List Str := ["cell", "k"]
theorem sc_law_bag : FnScope N_law_bag P_law_bag (defScope s_law_bag) := ⟨rfl, rfl, rfl, by decide +kernel, rfl, by decide +kernel, by decide +kernel⟩
abbrev s_law_draw : Stmt := topS 22
abbrev N_law_draw : List Str := ["bag", "many", "digit", "one"]
abbrev P_law_draw : List Str := ["bag", "many"]
theorem sc_law_draw : FnScope N_law_draw P_law_draw (defScope s_law_draw) := ⟨rfl, rfl, rfl, by decide +kernel, rfl, by decide +kernel, by decide +kernel⟩
section
variable {P : Program} {w : World} {K : PySem.W.Frag} {mg : Str → Option Value} {base : Heap}
/-- a bag of draws at a: a code not below 0, a count from 0 to n -/
def SrcB (n : Int) (H : Hp) (a : Addr) : Prop := ∃ x y : Int, H a = some (.lst [.int x, .int y]) ∧ 0 ≤ x ∧ 0 ≤ y ∧ y ≤ n
theorem SrcB.same {n : Int} {H H' : Hp} {a : Addr} (s : Same H H') : SrcB n H a → SrcB n H' a
  | ⟨x, y, h, q⟩ => ⟨x, y, s _ _ h, q⟩
theorem SrcB.mono {n m : Int} {H : Hp} {a : Addr} (e : n ≤ m) : SrcB n H a → SrcB m H a
  | ⟨x, y, h, q1, q2, q3⟩ => ⟨x, y, h, q1, q2, Int.le_trans q3 e⟩
def sp_bag : Sp := fun vs H Q _ => ∃ c k : Int, vs = [.int c, .int k] ∧ 0 ≤ k ∧ k ≤ 1000 ∧ ∀ p H', H p = none → Same H H' → SrcB 100000 H' p → Q (.ref p) H'
theorem ok_law_bag (T : Txt mg) (h : At K mg "_law_bag" s_law_bag) : Has P w K mg base CX0 1 "_law_bag" s_law_bag P_law_bag sp_bag := by
  refine Has.of h sc_law_bag (fun vs H Q E h => ?_) (fun _ _ _ _ _ _ us hl => match us, hl with | [_, _], _ => rfl) (fun f cdv A outer s H vs Q E room qt h => ?_)
  · obtain ⟨c, k, rfl, _⟩ := h; rfl
  obtain ⟨c, k, rfl, k0, k1, q⟩ := h
  refine ⟨_, (pss_cons (ps_if (pt_cmpR op_lt (pv 0) pe_int (nomark _))
        (pss_one (ps_ret (pe_lst (pa_cons (pe_un un_neg (pv 0)) (pa_cons (pe_op op_add (pe_op op_mul pe_int (pv 1)) pe_int) pa_nil)))))
        pss_nil)
      (pss_one (ps_ret (pe_lst (pa_cons (pv 0) (pa_cons (pe_op op_mul pe_int (pv 1)) pa_nil)))))), ?_⟩
  refine ⟨_, rfl, _, _, rfl, rfl, _, rfl, ite2 (fun d => ?_) (fun d => ?_)⟩
  · have d1 : c < 0 := of_decide_eq_true d
    exact ⟨_, rfl, _, rfl, _, rfl, _, _, rfl, rfl, .inl ⟨by decide, by decide⟩, _, _, rfl, rfl, (by decide : 2 ≤ sizeLine), fun p hp => q p _ hp (Same.new hp) ⟨_, _, upd_same, by omega, by omega, by omega⟩⟩
  · have d1 : ¬ c < 0 := fun z => d (decide_eq_true z)
    exact ⟨_, rfl, _, rfl, _, _, rfl, rfl, .inl ⟨by decide, by decide⟩, (by decide : 2 ≤ sizeLine), fun p hp => q p _ hp (Same.new hp) ⟨_, _, upd_same, by omega, by omega, by omega⟩⟩
def sp_draw : Sp := fun vs H Q _ => ∃ (a : Addr) (n m : Int), vs = [.ref a, .int n] ∧ SrcB m H a ∧ m ≤ 1000000 ∧ 0 < n ∧ n ≤ 1000000000 ∧
  ∀ r H', 0 ≤ r → r < n → SameBut a H H' → SrcB (m + 1) H' a → Q (.int r) H'
theorem ok_law_draw (T : Txt mg) (h : At K mg "_law_draw" s_law_draw) : Has P w K mg base CX0 1 "_law_draw" s_law_draw P_law_draw sp_draw := by
  refine Has.of h sc_law_draw (fun vs H Q E h => ?_) (fun _ _ _ _ _ _ us hl => match us, hl with | [_, _], _ => rfl) (fun f cdv A outer s H vs Q E room qt h => ?_)
  · obtain ⟨a, n, m, rfl, _⟩ := h; rfl
  obtain ⟨a, n, m, rfl, ⟨x, y, ha, x0, y0, y1⟩, hm, n0, n1, q⟩ := h
  refine ⟨_, (pss_cons (ps_augS (pv 0) pe_int get_list pe_int ip_add set_list)
      (pss_cons (ps_if (pt_cmpR op_ge (pe_ix ix_list (pv 0) pe_int (fun _ _ => rfl)) (pe_op op_powG pe_int pe_int) (nomark _))
        (pss_cons (ps_set (i := 2) sc_law_draw.nd rfl (Or.inl rfl) (pe_op op_mod (pe_ix ix_list (pv 0) pe_int (fun _ _ => rfl)) (pv 1)))
        (pss_cons (ps_asg (pe_op op_fdiv (pe_ix ix_list (pv 0) pe_int (fun _ _ => rfl)) (pv 1)) (pg_sub (pv 0) pe_int set_list))
        (pss_one (ps_ret (pv 2)))))
        pss_nil)
      (pss_cons (ps_set (i := 3) sc_law_draw.nd rfl (Or.inl rfl) (pe_op op_mod (pe_op op_add (pe_op op_add (pe_op op_mod (pe_ix ix_list (pv 0) pe_int (fun _ _ => rfl)) pe_int) (pe_op op_mul pe_int (pe_ix ix_list (pv 0) pe_int (fun _ _ => rfl)))) pe_int) pe_int))
      (pss_cons (ps_set (i := 3) sc_law_draw.nd rfl (Or.inl rfl) (pe_op op_mod (pe_op op_mul (pv 3) (pv 3)) pe_int))
      (pss_cons (ps_set (i := 3) sc_law_draw.nd rfl (Or.inl rfl) (pe_op op_mod (pe_op op_add (pv 3) (pe_op op_mul pe_int (pe_ix ix_list (pv 0) pe_int (fun _ _ => rfl)))) pe_int))
      (pss_cons (ps_set (i := 3) sc_law_draw.nd rfl (Or.inl rfl) (pe_op op_mod (pe_op op_mul (pv 3) (pv 3)) pe_int))
      (pss_one (ps_ret (pe_op op_mod (pe_op op_fdiv (pv 3) pe_int) (pv 1)))))))))), ?_⟩
  refine ⟨_, rfl, a, _, 1, _, rfl, rfl, SqL.of ha, rfl, _, _, rfl, rfl, a, _, 1, 1, rfl, rfl, ha, rfl, ?_⟩
  have h2 : (upd H a (.lst [.int x, .int (y + 1)])) a = some (.lst [.int x, .int (y + 1)]) := upd_same
  refine ⟨_, rfl, a, _, 0, _, rfl, rfl, SqL.of h2, rfl, _, _, rfl, rfl, ⟨by decide, by decide +kernel⟩, _, _, rfl, rfl, _, rfl, ite2 (fun c => ?_) (fun c => ?_)⟩
  · refine ⟨_, rfl, a, _, 0, _, rfl, rfl, SqL.of h2, rfl, _, rfl, _, _, rfl, rfl, n0, ?_⟩
    refine ⟨_, rfl, a, _, 0, _, rfl, rfl, SqL.of h2, rfl, _, rfl, _, _, rfl, rfl, ⟨n0, by omega⟩, _, rfl, a, _, 0, 0, rfl, rfl, h2, rfl, ?_⟩
    exact ⟨_, rfl, q _ _ (Int.emod_nonneg _ (by omega)) (Int.emod_lt_of_pos _ n0) (SameBut.upd (SameBut.upd .refl)) ⟨_, _, upd_same, Int.ediv_nonneg x0 (by omega), by omega, by omega⟩⟩
  · refine ⟨_, rfl, a, _, 0, _, rfl, rfl, SqL.of h2, rfl, _, _, rfl, rfl, (by show (0 : Int) < _; decide), _, rfl, a, _, 1, _, rfl, rfl, SqL.of h2, rfl, _, _, rfl, rfl, .inl ⟨by decide, by decide⟩, _, _, rfl, rfl, _, _, rfl, rfl, _, _, rfl, rfl, (by show (0 : Int) < _; decide), ?_⟩
    have b0 := Int.emod_nonneg (x % 2147483629 + 104729 * (y + 1) + 1) (show (2147483587 : Int) ≠ 0 by decide)
    have b1 := Int.emod_lt_of_pos (x % 2147483629 + 104729 * (y + 1) + 1) (show (0 : Int) < 2147483587 by decide)
    generalize (x % 2147483629 + 104729 * (y + 1) + 1) % 2147483587 = u at b0 b1 ⊢
    refine ⟨_, rfl, _, rfl, _, _, rfl, rfl, .inl ⟨by omega, by omega⟩, _, _, rfl, rfl, (by show (0 : Int) < _; decide), ?_⟩
    generalize u * u % 2147483587 = u2
    refine ⟨_, rfl, _, rfl, a, _, 1, _, rfl, rfl, SqL.of h2, rfl, _, _, rfl, rfl, .inl ⟨by decide, by decide⟩, _, _, rfl, rfl, _, _, rfl, rfl, (by show (0 : Int) < _; decide), ?_⟩
    have b2 := Int.emod_nonneg (u2 + 40692 * (y + 1)) (show (2147483563 : Int) ≠ 0 by decide)
    have b3 := Int.emod_lt_of_pos (u2 + 40692 * (y + 1)) (show (0 : Int) < 2147483563 by decide)
    generalize (u2 + 40692 * (y + 1)) % 2147483563 = u3 at b2 b3 ⊢
    refine ⟨_, rfl, _, rfl, _, _, rfl, rfl, .inl ⟨by omega, by omega⟩, _, _, rfl, rfl, (by show (0 : Int) < _; decide), ?_⟩
    refine ⟨_, rfl, _, _, rfl, rfl, ⟨by decide, by decide⟩, _, rfl, _, _, rfl, rfl, n0, ?_⟩
    exact q _ _ (Int.emod_nonneg _ (by omega)) (Int.emod_lt_of_pos _ n0) (SameBut.upd .refl) ⟨_, _, h2, x0, by omega, by omega⟩
end
end SH

namespace SH
open PySem PySem.Spec PyProof.Rows L2
abbrev s_law_marks : Stmt := topS 23
abbrev N_law_marks : List Str := ["e", "marks"]
abbrev P_law_marks : List Str := ["e"]
theorem sc_law_marks : FnScope N_law_marks P_law_marks (defScope s_law_marks) := ⟨rfl, rfl, rfl, by decide +kernel, rfl, by decide +kernel, by decide +kernel⟩
section
variable {P : Program} {w : World} {K : PySem.W.Frag} {mg : Str → Option Value} {base : Heap} {C_EmptyHistoryError C_EmptyOutlineError C_EndError C_HiddenLineError C_InvalidDepthError C_InvalidDocumentError C_InvalidFoldsError C_InvalidHeightError C_InvalidLineError C_InvalidNumberError C_InvalidObservationsError C_InvalidOutlineError C_InvalidReadingError C_InvalidScrollError C_InvalidTextError C_InvalidTitleError C_TooDeepError C_TooManyLinesError : Addr}
def kl (c0 c1 c2 c3 c4 c5 c6 c7 c8 c9 c10 c11 c12 c13 c14 c15 c16 c17 : Addr) (b : Nat → Bool) : List (Value × Bool) := [(.ref c0, b 0), (.ref c1, b 1), (.ref c2, b 2), (.ref c3, b 3), (.ref c4, b 4), (.ref c5, b 5), (.ref c6, b 6), (.ref c7, b 7), (.ref c8, b 8), (.ref c9, b 9), (.ref c10, b 10), (.ref c11, b 11), (.ref c12, b 12), (.ref c13, b 13), (.ref c14, b 14), (.ref c15, b 15), (.ref c16, b 16), (.ref c17, b 17)]
def kq (c0 c1 c2 c3 c4 c5 c6 c7 c8 c9 c10 c11 c12 c13 c14 c15 c16 c17 s : Addr) (k : Nat) : List (Value × Bool) := [(.ref c0, 0 == k), (.ref c1, 1 == k), (.ref c2, 2 == k), (.ref c3, 3 == k), (.ref c4, 4 == k), (.ref c5, 5 == k), (.ref c6, 6 == k), (.ref c7, 7 == k), (.ref c8, 8 == k), (.ref c9, 9 == k), (.ref c10, 10 == k), (.ref c11, 11 == k), (.ref c12, 12 == k), (.ref c13, 13 == k), (.ref c14, 14 == k), (.ref c15, 15 == k), (.ref c16, 16 == k), (.ref c17, 17 == k), (.ref s, true), (.type "ValueError", true)]
def kz (c0 c1 c2 c3 c4 c5 c6 c7 c8 c9 c10 c11 c12 c13 c14 c15 c16 c17 : Addr) : List (Value × Bool) := [(.ref c0, false), (.ref c1, false), (.ref c2, false), (.ref c3, false), (.ref c4, false), (.ref c5, false), (.ref c6, false), (.ref c7, false), (.ref c8, false), (.ref c9, false), (.ref c10, false), (.ref c11, false), (.ref c12, false), (.ref c13, false), (.ref c14, false), (.ref c15, false), (.ref c16, false), (.ref c17, false)]
def mk18 (b : Nat → Bool) : List V := (List.range 18).map fun j => .bl (b j)

/-- at a is an error of the class at D -/
def ErAt (H : Hp) (a D : Addr) : Prop := ∃ d, H a = some (ErO (.ref D) d a) ∧ (d = none ∨ ∃ dx fs, d = some dx ∧ H dx = some (.xd fs))
theorem ErAt.same {H H' : Hp} {a D : Addr} (s : Same H H') : ErAt H a D → ErAt H' a D
  | ⟨d, h, .inl e⟩ => ⟨d, s _ _ h, .inl e⟩
  | ⟨d, h, .inr ⟨dx, fs, e, g⟩⟩ => ⟨d, s _ _ h, .inr ⟨dx, fs, e, s _ _ g⟩⟩
def sp_marks (K : PySem.W.Frag) (c0 c1 c2 c3 c4 c5 c6 c7 c8 c9 c10 c11 c12 c13 c14 c15 c16 c17 : Addr) : Sp := fun vs H Q _ => ∃ (a D : Addr) (b : Nat → Bool), vs = [.ref a] ∧ ErAt H a D ∧ ErK K D (kl c0 c1 c2 c3 c4 c5 c6 c7 c8 c9 c10 c11 c12 c13 c14 c15 c16 c17 b) ∧ RetL Q H (mk18 b)
theorem ok_law_marks (T : Txt mg) (k_EmptyHistoryError : mg "EmptyHistoryError" = some (.ref C_EmptyHistoryError)) (k_EmptyOutlineError : mg "EmptyOutlineError" = some (.ref C_EmptyOutlineError)) (k_EndError : mg "EndError" = some (.ref C_EndError)) (k_HiddenLineError : mg "HiddenLineError" = some (.ref C_HiddenLineError)) (k_InvalidDepthError : mg "InvalidDepthError" = some (.ref C_InvalidDepthError)) (k_InvalidDocumentError : mg "InvalidDocumentError" = some (.ref C_InvalidDocumentError)) (k_InvalidFoldsError : mg "InvalidFoldsError" = some (.ref C_InvalidFoldsError)) (k_InvalidHeightError : mg "InvalidHeightError" = some (.ref C_InvalidHeightError)) (k_InvalidLineError : mg "InvalidLineError" = some (.ref C_InvalidLineError)) (k_InvalidNumberError : mg "InvalidNumberError" = some (.ref C_InvalidNumberError)) (k_InvalidObservationsError : mg "InvalidObservationsError" = some (.ref C_InvalidObservationsError)) (k_InvalidOutlineError : mg "InvalidOutlineError" = some (.ref C_InvalidOutlineError)) (k_InvalidReadingError : mg "InvalidReadingError" = some (.ref C_InvalidReadingError)) (k_InvalidScrollError : mg "InvalidScrollError" = some (.ref C_InvalidScrollError)) (k_InvalidTextError : mg "InvalidTextError" = some (.ref C_InvalidTextError)) (k_InvalidTitleError : mg "InvalidTitleError" = some (.ref C_InvalidTitleError)) (k_TooDeepError : mg "TooDeepError" = some (.ref C_TooDeepError)) (k_TooManyLinesError : mg "TooManyLinesError" = some (.ref C_TooManyLinesError))
    (h : At K mg "_law_marks" s_law_marks) : Has P w K mg base CX0 1 "_law_marks" s_law_marks P_law_marks (sp_marks K C_EmptyHistoryError C_EmptyOutlineError C_EndError C_HiddenLineError C_InvalidDepthError C_InvalidDocumentError C_InvalidFoldsError C_InvalidHeightError C_InvalidLineError C_InvalidNumberError C_InvalidObservationsError C_InvalidOutlineError C_InvalidReadingError C_InvalidScrollError C_InvalidTextError C_InvalidTitleError C_TooDeepError C_TooManyLinesError) := by
  refine Has.of h sc_law_marks (fun vs H Q E h => ?_) (fun _ _ _ _ _ _ us hl => match us, hl with | [_], _ => rfl) (fun f cdv A outer s H vs Q E room qt h => ?_)
  · obtain ⟨a, D, b, rfl, _⟩ := h; rfl
  obtain ⟨a, D, b, rfl, ea, ek, q⟩ := h
  obtain ⟨ex, q0, q1, q2, q3, q4, q5, q6, q7, q8, q9, q10, q11, q12, q13, q14, q15, q16, q17, _⟩ := ek
  refine ⟨_, (pss_cons (ps_set (i := 1) sc_law_marks.nd rfl (Or.inl rfl) (pe_lst (pa_cons (pe_callB call_isEr (by rfl) T.isinstance (by decide +kernel) (pa_cons (pv 0) (pa_cons (pe_glob (v := .ref C_EmptyHistoryError) (by rfl) k_EmptyHistoryError rfl) pa_nil))) (pa_cons (pe_callB call_isEr (by rfl) T.isinstance (by decide +kernel) (pa_cons (pv 0) (pa_cons (pe_glob (v := .ref C_EmptyOutlineError) (by rfl) k_EmptyOutlineError rfl) pa_nil))) (pa_cons (pe_callB call_isEr (by rfl) T.isinstance (by decide +kernel) (pa_cons (pv 0) (pa_cons (pe_glob (v := .ref C_EndError) (by rfl) k_EndError rfl) pa_nil))) pa_nil)))))
      (pss_cons (ps_set (i := 1) sc_law_marks.nd rfl (Or.inl rfl) (pe_op op_catS (pv 1) (pe_lst (pa_cons (pe_callB call_isEr (by rfl) T.isinstance (by decide +kernel) (pa_cons (pv 0) (pa_cons (pe_glob (v := .ref C_HiddenLineError) (by rfl) k_HiddenLineError rfl) pa_nil))) (pa_cons (pe_callB call_isEr (by rfl) T.isinstance (by decide +kernel) (pa_cons (pv 0) (pa_cons (pe_glob (v := .ref C_InvalidDepthError) (by rfl) k_InvalidDepthError rfl) pa_nil))) pa_nil)))))
      (pss_cons (ps_set (i := 1) sc_law_marks.nd rfl (Or.inl rfl) (pe_op op_catS (pv 1) (pe_lst (pa_cons (pe_callB call_isEr (by rfl) T.isinstance (by decide +kernel) (pa_cons (pv 0) (pa_cons (pe_glob (v := .ref C_InvalidDocumentError) (by rfl) k_InvalidDocumentError rfl) pa_nil))) (pa_cons (pe_callB call_isEr (by rfl) T.isinstance (by decide +kernel) (pa_cons (pv 0) (pa_cons (pe_glob (v := .ref C_InvalidFoldsError) (by rfl) k_InvalidFoldsError rfl) pa_nil))) pa_nil)))))
      (pss_cons (ps_set (i := 1) sc_law_marks.nd rfl (Or.inl rfl) (pe_op op_catS (pv 1) (pe_lst (pa_cons (pe_callB call_isEr (by rfl) T.isinstance (by decide +kernel) (pa_cons (pv 0) (pa_cons (pe_glob (v := .ref C_InvalidHeightError) (by rfl) k_InvalidHeightError rfl) pa_nil))) (pa_cons (pe_callB call_isEr (by rfl) T.isinstance (by decide +kernel) (pa_cons (pv 0) (pa_cons (pe_glob (v := .ref C_InvalidLineError) (by rfl) k_InvalidLineError rfl) pa_nil))) pa_nil)))))
      (pss_cons (ps_set (i := 1) sc_law_marks.nd rfl (Or.inl rfl) (pe_op op_catS (pv 1) (pe_lst (pa_cons (pe_callB call_isEr (by rfl) T.isinstance (by decide +kernel) (pa_cons (pv 0) (pa_cons (pe_glob (v := .ref C_InvalidNumberError) (by rfl) k_InvalidNumberError rfl) pa_nil))) (pa_cons (pe_callB call_isEr (by rfl) T.isinstance (by decide +kernel) (pa_cons (pv 0) (pa_cons (pe_glob (v := .ref C_InvalidObservationsError) (by rfl) k_InvalidObservationsError rfl) pa_nil))) pa_nil)))))
      (pss_cons (ps_set (i := 1) sc_law_marks.nd rfl (Or.inl rfl) (pe_op op_catS (pv 1) (pe_lst (pa_cons (pe_callB call_isEr (by rfl) T.isinstance (by decide +kernel) (pa_cons (pv 0) (pa_cons (pe_glob (v := .ref C_InvalidOutlineError) (by rfl) k_InvalidOutlineError rfl) pa_nil))) (pa_cons (pe_callB call_isEr (by rfl) T.isinstance (by decide +kernel) (pa_cons (pv 0) (pa_cons (pe_glob (v := .ref C_InvalidReadingError) (by rfl) k_InvalidReadingError rfl) pa_nil))) pa_nil)))))
      (pss_cons (ps_set (i := 1) sc_law_marks.nd rfl (Or.inl rfl) (pe_op op_catS (pv 1) (pe_lst (pa_cons (pe_callB call_isEr (by rfl) T.isinstance (by decide +kernel) (pa_cons (pv 0) (pa_cons (pe_glob (v := .ref C_InvalidScrollError) (by rfl) k_InvalidScrollError rfl) pa_nil))) (pa_cons (pe_callB call_isEr (by rfl) T.isinstance (by decide +kernel) (pa_cons (pv 0) (pa_cons (pe_glob (v := .ref C_InvalidTextError) (by rfl) k_InvalidTextError rfl) pa_nil))) pa_nil)))))
      (pss_cons (ps_set (i := 1) sc_law_marks.nd rfl (Or.inl rfl) (pe_op op_catS (pv 1) (pe_lst (pa_cons (pe_callB call_isEr (by rfl) T.isinstance (by decide +kernel) (pa_cons (pv 0) (pa_cons (pe_glob (v := .ref C_InvalidTitleError) (by rfl) k_InvalidTitleError rfl) pa_nil))) (pa_cons (pe_callB call_isEr (by rfl) T.isinstance (by decide +kernel) (pa_cons (pv 0) (pa_cons (pe_glob (v := .ref C_TooDeepError) (by rfl) k_TooDeepError rfl) pa_nil))) pa_nil)))))
      (pss_one (ps_ret (pe_op op_catS (pv 1) (pe_lst (pa_cons (pe_callB call_isEr (by rfl) T.isinstance (by decide +kernel) (pa_cons (pv 0) (pa_cons (pe_glob (v := .ref C_TooManyLinesError) (by rfl) k_TooManyLinesError rfl) pa_nil))) pa_nil))))))))))))), ?_⟩
  obtain ⟨d, ha, hd⟩ := ea
  have kn : ∀ {G : Hp}, Same H G → G a = some (ErO (.ref D) d a) ∧ (d = none ∨ ∃ dx fs, d = some dx ∧ G dx = some (.xd fs)) := fun {G} s => by
    obtain ⟨d', h', g'⟩ := ErAt.same s ⟨d, ha, hd⟩
    rw [s _ _ ha] at h'
    have := Option.some.inj h'
    exact ⟨s _ _ ha, by rcases hd with e | ⟨dx, fs, e, g⟩; exact .inl e; exact .inr ⟨dx, fs, e, s _ _ g⟩⟩
  refine ⟨_, rfl, a, D, d, _, _, _, rfl, ⟨.inr ha, hd⟩, ex, .own _, q0, _, rfl, a, D, d, _, _, _, rfl, ⟨.inr ha, hd⟩, ex, .own _, q1, _, rfl, a, D, d, _, _, _, rfl, ⟨.inr ha, hd⟩, ex, .own _, q2, (by decide : 3 ≤ sizeLine), fun p0 n0 => ?_⟩
  have s0 := Same.new (o := .lst [.bl (b 0), .bl (b 1), .bl (b 2)]) n0
  have h0 := upd_same (H := H) (a := p0) (o := .lst [.bl (b 0), .bl (b 1), .bl (b 2)])
  generalize upd H p0 (.lst [.bl (b 0), .bl (b 1), .bl (b 2)]) = H0 at s0 h0 ⊢
  refine ⟨_, rfl, _, rfl, a, D, d, _, _, _, rfl, ⟨.inr (kn s0).1, (kn s0).2⟩, ex, .own _, q3, _, rfl, a, D, d, _, _, _, rfl, ⟨.inr (kn s0).1, (kn s0).2⟩, ex, .own _, q4, (by decide : 2 ≤ sizeLine), fun r1 m1 => ?_⟩
  have t1 := Same.new (o := .lst [.bl (b 3), .bl (b 4)]) m1
  have g1 := upd_same (H := H0) (a := r1) (o := .lst [.bl (b 3), .bl (b 4)])
  have e1 := t1 _ _ h0
  generalize upd H0 r1 (.lst [.bl (b 3), .bl (b 4)]) = G1 at t1 g1 e1 ⊢
  refine ⟨p0, r1, _, _, rfl, rfl, SqL.of e1, SqL.of g1, (by decide : 5 ≤ sizeLine), fun p1 n1 => ?_⟩
  have s1 := (s0.trans t1).trans (Same.new (o := .lst ([.bl (b 0), .bl (b 1), .bl (b 2)] ++ [.bl (b 3), .bl (b 4)])) n1)
  have h1 : upd G1 p1 (.lst ([.bl (b 0), .bl (b 1), .bl (b 2)] ++ [.bl (b 3), .bl (b 4)])) p1 = some (.lst [.bl (b 0), .bl (b 1), .bl (b 2), .bl (b 3), .bl (b 4)]) := upd_same
  generalize upd G1 p1 (.lst ([.bl (b 0), .bl (b 1), .bl (b 2)] ++ [.bl (b 3), .bl (b 4)])) = H1 at s1 h1 ⊢
  refine ⟨_, rfl, _, rfl, a, D, d, _, _, _, rfl, ⟨.inr (kn s1).1, (kn s1).2⟩, ex, .own _, q5, _, rfl, a, D, d, _, _, _, rfl, ⟨.inr (kn s1).1, (kn s1).2⟩, ex, .own _, q6, (by decide : 2 ≤ sizeLine), fun r2 m2 => ?_⟩
  have t2 := Same.new (o := .lst [.bl (b 5), .bl (b 6)]) m2
  have g2 := upd_same (H := H1) (a := r2) (o := .lst [.bl (b 5), .bl (b 6)])
  have e2 := t2 _ _ h1
  generalize upd H1 r2 (.lst [.bl (b 5), .bl (b 6)]) = G2 at t2 g2 e2 ⊢
  refine ⟨p1, r2, _, _, rfl, rfl, SqL.of e2, SqL.of g2, (by decide : 7 ≤ sizeLine), fun p2 n2 => ?_⟩
  have s2 := (s1.trans t2).trans (Same.new (o := .lst ([.bl (b 0), .bl (b 1), .bl (b 2), .bl (b 3), .bl (b 4)] ++ [.bl (b 5), .bl (b 6)])) n2)
  have h2 : upd G2 p2 (.lst ([.bl (b 0), .bl (b 1), .bl (b 2), .bl (b 3), .bl (b 4)] ++ [.bl (b 5), .bl (b 6)])) p2 = some (.lst [.bl (b 0), .bl (b 1), .bl (b 2), .bl (b 3), .bl (b 4), .bl (b 5), .bl (b 6)]) := upd_same
  generalize upd G2 p2 (.lst ([.bl (b 0), .bl (b 1), .bl (b 2), .bl (b 3), .bl (b 4)] ++ [.bl (b 5), .bl (b 6)])) = H2 at s2 h2 ⊢
  refine ⟨_, rfl, _, rfl, a, D, d, _, _, _, rfl, ⟨.inr (kn s2).1, (kn s2).2⟩, ex, .own _, q7, _, rfl, a, D, d, _, _, _, rfl, ⟨.inr (kn s2).1, (kn s2).2⟩, ex, .own _, q8, (by decide : 2 ≤ sizeLine), fun r3 m3 => ?_⟩
  have t3 := Same.new (o := .lst [.bl (b 7), .bl (b 8)]) m3
  have g3 := upd_same (H := H2) (a := r3) (o := .lst [.bl (b 7), .bl (b 8)])
  have e3 := t3 _ _ h2
  generalize upd H2 r3 (.lst [.bl (b 7), .bl (b 8)]) = G3 at t3 g3 e3 ⊢
  refine ⟨p2, r3, _, _, rfl, rfl, SqL.of e3, SqL.of g3, (by decide : 9 ≤ sizeLine), fun p3 n3 => ?_⟩
  have s3 := (s2.trans t3).trans (Same.new (o := .lst ([.bl (b 0), .bl (b 1), .bl (b 2), .bl (b 3), .bl (b 4), .bl (b 5), .bl (b 6)] ++ [.bl (b 7), .bl (b 8)])) n3)
  have h3 : upd G3 p3 (.lst ([.bl (b 0), .bl (b 1), .bl (b 2), .bl (b 3), .bl (b 4), .bl (b 5), .bl (b 6)] ++ [.bl (b 7), .bl (b 8)])) p3 = some (.lst [.bl (b 0), .bl (b 1), .bl (b 2), .bl (b 3), .bl (b 4), .bl (b 5), .bl (b 6), .bl (b 7), .bl (b 8)]) := upd_same
  generalize upd G3 p3 (.lst ([.bl (b 0), .bl (b 1), .bl (b 2), .bl (b 3), .bl (b 4), .bl (b 5), .bl (b 6)] ++ [.bl (b 7), .bl (b 8)])) = H3 at s3 h3 ⊢
  refine ⟨_, rfl, _, rfl, a, D, d, _, _, _, rfl, ⟨.inr (kn s3).1, (kn s3).2⟩, ex, .own _, q9, _, rfl, a, D, d, _, _, _, rfl, ⟨.inr (kn s3).1, (kn s3).2⟩, ex, .own _, q10, (by decide : 2 ≤ sizeLine), fun r4 m4 => ?_⟩
  have t4 := Same.new (o := .lst [.bl (b 9), .bl (b 10)]) m4
  have g4 := upd_same (H := H3) (a := r4) (o := .lst [.bl (b 9), .bl (b 10)])
  have e4 := t4 _ _ h3
  generalize upd H3 r4 (.lst [.bl (b 9), .bl (b 10)]) = G4 at t4 g4 e4 ⊢
  refine ⟨p3, r4, _, _, rfl, rfl, SqL.of e4, SqL.of g4, (by decide : 11 ≤ sizeLine), fun p4 n4 => ?_⟩
  have s4 := (s3.trans t4).trans (Same.new (o := .lst ([.bl (b 0), .bl (b 1), .bl (b 2), .bl (b 3), .bl (b 4), .bl (b 5), .bl (b 6), .bl (b 7), .bl (b 8)] ++ [.bl (b 9), .bl (b 10)])) n4)
  have h4 : upd G4 p4 (.lst ([.bl (b 0), .bl (b 1), .bl (b 2), .bl (b 3), .bl (b 4), .bl (b 5), .bl (b 6), .bl (b 7), .bl (b 8)] ++ [.bl (b 9), .bl (b 10)])) p4 = some (.lst [.bl (b 0), .bl (b 1), .bl (b 2), .bl (b 3), .bl (b 4), .bl (b 5), .bl (b 6), .bl (b 7), .bl (b 8), .bl (b 9), .bl (b 10)]) := upd_same
  generalize upd G4 p4 (.lst ([.bl (b 0), .bl (b 1), .bl (b 2), .bl (b 3), .bl (b 4), .bl (b 5), .bl (b 6), .bl (b 7), .bl (b 8)] ++ [.bl (b 9), .bl (b 10)])) = H4 at s4 h4 ⊢
  refine ⟨_, rfl, _, rfl, a, D, d, _, _, _, rfl, ⟨.inr (kn s4).1, (kn s4).2⟩, ex, .own _, q11, _, rfl, a, D, d, _, _, _, rfl, ⟨.inr (kn s4).1, (kn s4).2⟩, ex, .own _, q12, (by decide : 2 ≤ sizeLine), fun r5 m5 => ?_⟩
  have t5 := Same.new (o := .lst [.bl (b 11), .bl (b 12)]) m5
  have g5 := upd_same (H := H4) (a := r5) (o := .lst [.bl (b 11), .bl (b 12)])
  have e5 := t5 _ _ h4
  generalize upd H4 r5 (.lst [.bl (b 11), .bl (b 12)]) = G5 at t5 g5 e5 ⊢
  refine ⟨p4, r5, _, _, rfl, rfl, SqL.of e5, SqL.of g5, (by decide : 13 ≤ sizeLine), fun p5 n5 => ?_⟩
  have s5 := (s4.trans t5).trans (Same.new (o := .lst ([.bl (b 0), .bl (b 1), .bl (b 2), .bl (b 3), .bl (b 4), .bl (b 5), .bl (b 6), .bl (b 7), .bl (b 8), .bl (b 9), .bl (b 10)] ++ [.bl (b 11), .bl (b 12)])) n5)
  have h5 : upd G5 p5 (.lst ([.bl (b 0), .bl (b 1), .bl (b 2), .bl (b 3), .bl (b 4), .bl (b 5), .bl (b 6), .bl (b 7), .bl (b 8), .bl (b 9), .bl (b 10)] ++ [.bl (b 11), .bl (b 12)])) p5 = some (.lst [.bl (b 0), .bl (b 1), .bl (b 2), .bl (b 3), .bl (b 4), .bl (b 5), .bl (b 6), .bl (b 7), .bl (b 8), .bl (b 9), .bl (b 10), .bl (b 11), .bl (b 12)]) := upd_same
  generalize upd G5 p5 (.lst ([.bl (b 0), .bl (b 1), .bl (b 2), .bl (b 3), .bl (b 4), .bl (b 5), .bl (b 6), .bl (b 7), .bl (b 8), .bl (b 9), .bl (b 10)] ++ [.bl (b 11), .bl (b 12)])) = H5 at s5 h5 ⊢
  refine ⟨_, rfl, _, rfl, a, D, d, _, _, _, rfl, ⟨.inr (kn s5).1, (kn s5).2⟩, ex, .own _, q13, _, rfl, a, D, d, _, _, _, rfl, ⟨.inr (kn s5).1, (kn s5).2⟩, ex, .own _, q14, (by decide : 2 ≤ sizeLine), fun r6 m6 => ?_⟩
  have t6 := Same.new (o := .lst [.bl (b 13), .bl (b 14)]) m6
  have g6 := upd_same (H := H5) (a := r6) (o := .lst [.bl (b 13), .bl (b 14)])
  have e6 := t6 _ _ h5
  generalize upd H5 r6 (.lst [.bl (b 13), .bl (b 14)]) = G6 at t6 g6 e6 ⊢
  refine ⟨p5, r6, _, _, rfl, rfl, SqL.of e6, SqL.of g6, (by decide : 15 ≤ sizeLine), fun p6 n6 => ?_⟩
  have s6 := (s5.trans t6).trans (Same.new (o := .lst ([.bl (b 0), .bl (b 1), .bl (b 2), .bl (b 3), .bl (b 4), .bl (b 5), .bl (b 6), .bl (b 7), .bl (b 8), .bl (b 9), .bl (b 10), .bl (b 11), .bl (b 12)] ++ [.bl (b 13), .bl (b 14)])) n6)
  have h6 : upd G6 p6 (.lst ([.bl (b 0), .bl (b 1), .bl (b 2), .bl (b 3), .bl (b 4), .bl (b 5), .bl (b 6), .bl (b 7), .bl (b 8), .bl (b 9), .bl (b 10), .bl (b 11), .bl (b 12)] ++ [.bl (b 13), .bl (b 14)])) p6 = some (.lst [.bl (b 0), .bl (b 1), .bl (b 2), .bl (b 3), .bl (b 4), .bl (b 5), .bl (b 6), .bl (b 7), .bl (b 8), .bl (b 9), .bl (b 10), .bl (b 11), .bl (b 12), .bl (b 13), .bl (b 14)]) := upd_same
  generalize upd G6 p6 (.lst ([.bl (b 0), .bl (b 1), .bl (b 2), .bl (b 3), .bl (b 4), .bl (b 5), .bl (b 6), .bl (b 7), .bl (b 8), .bl (b 9), .bl (b 10), .bl (b 11), .bl (b 12)] ++ [.bl (b 13), .bl (b 14)])) = H6 at s6 h6 ⊢
  refine ⟨_, rfl, _, rfl, a, D, d, _, _, _, rfl, ⟨.inr (kn s6).1, (kn s6).2⟩, ex, .own _, q15, _, rfl, a, D, d, _, _, _, rfl, ⟨.inr (kn s6).1, (kn s6).2⟩, ex, .own _, q16, (by decide : 2 ≤ sizeLine), fun r7 m7 => ?_⟩
  have t7 := Same.new (o := .lst [.bl (b 15), .bl (b 16)]) m7
  have g7 := upd_same (H := H6) (a := r7) (o := .lst [.bl (b 15), .bl (b 16)])
  have e7 := t7 _ _ h6
  generalize upd H6 r7 (.lst [.bl (b 15), .bl (b 16)]) = G7 at t7 g7 e7 ⊢
  refine ⟨p6, r7, _, _, rfl, rfl, SqL.of e7, SqL.of g7, (by decide : 17 ≤ sizeLine), fun p7 n7 => ?_⟩
  have s7 := (s6.trans t7).trans (Same.new (o := .lst ([.bl (b 0), .bl (b 1), .bl (b 2), .bl (b 3), .bl (b 4), .bl (b 5), .bl (b 6), .bl (b 7), .bl (b 8), .bl (b 9), .bl (b 10), .bl (b 11), .bl (b 12), .bl (b 13), .bl (b 14)] ++ [.bl (b 15), .bl (b 16)])) n7)
  have h7 : upd G7 p7 (.lst ([.bl (b 0), .bl (b 1), .bl (b 2), .bl (b 3), .bl (b 4), .bl (b 5), .bl (b 6), .bl (b 7), .bl (b 8), .bl (b 9), .bl (b 10), .bl (b 11), .bl (b 12), .bl (b 13), .bl (b 14)] ++ [.bl (b 15), .bl (b 16)])) p7 = some (.lst [.bl (b 0), .bl (b 1), .bl (b 2), .bl (b 3), .bl (b 4), .bl (b 5), .bl (b 6), .bl (b 7), .bl (b 8), .bl (b 9), .bl (b 10), .bl (b 11), .bl (b 12), .bl (b 13), .bl (b 14), .bl (b 15), .bl (b 16)]) := upd_same
  generalize upd G7 p7 (.lst ([.bl (b 0), .bl (b 1), .bl (b 2), .bl (b 3), .bl (b 4), .bl (b 5), .bl (b 6), .bl (b 7), .bl (b 8), .bl (b 9), .bl (b 10), .bl (b 11), .bl (b 12), .bl (b 13), .bl (b 14)] ++ [.bl (b 15), .bl (b 16)])) = H7 at s7 h7 ⊢
  refine ⟨_, rfl, _, rfl, a, D, d, _, _, _, rfl, ⟨.inr (kn s7).1, (kn s7).2⟩, ex, .own _, q17, (by decide : 1 ≤ sizeLine), fun r8 m8 => ?_⟩
  have t8 := Same.new (o := .lst [.bl (b 17)]) m8
  have g8 := upd_same (H := H7) (a := r8) (o := .lst [.bl (b 17)])
  have e8 := t8 _ _ h7
  generalize upd H7 r8 (.lst [.bl (b 17)]) = G8 at t8 g8 e8 ⊢
  refine ⟨p7, r8, _, _, rfl, rfl, SqL.of e8, SqL.of g8, (by decide : 18 ≤ sizeLine), fun p8 n8 => ?_⟩
  exact q p8 _ ((s7.trans t8).free n8) ((s7.trans t8).trans (Same.new n8)) upd_same
end
end SH

namespace SH
open PySem PySem.Spec PyProof.Rows L2
abbrev s_law_right : Stmt := topS 24
abbrev N_law_right : List Str := ["message", "number", "some", "k", "values", "j"]
abbrev P_law_right : List Str := ["message", "number"]
theorem sc_law_right : FnScope N_law_right P_law_right (defScope s_law_right) := ⟨rfl, rfl, rfl, by decide +kernel, rfl, by decide +kernel, by decide +kernel⟩
theorem kl_of {K : PySem.W.Frag} {D c0 c1 c2 c3 c4 c5 c6 c7 c8 c9 c10 c11 c12 c13 c14 c15 c16 c17 s : Addr} {k : Nat} (y : ErK K D (kq c0 c1 c2 c3 c4 c5 c6 c7 c8 c9 c10 c11 c12 c13 c14 c15 c16 c17 s k)) : ErK K D (kl c0 c1 c2 c3 c4 c5 c6 c7 c8 c9 c10 c11 c12 c13 c14 c15 c16 c17 (fun j => j == k)) ∧ PySem.W.kitOne K (.ref D) (.ref s) = some true ∧ PySem.W.kitOne K (.ref D) (.type "ValueError") = some true := by
  obtain ⟨ex, q0, q1, q2, q3, q4, q5, q6, q7, q8, q9, q10, q11, q12, q13, q14, q15, q16, q17, qs, qv, _⟩ := y
  exact ⟨⟨ex, q0, q1, q2, q3, q4, q5, q6, q7, q8, q9, q10, q11, q12, q13, q14, q15, q16, q17, trivial⟩, qs, qv⟩
theorem kz_of {K : PySem.W.Frag} {D c0 c1 c2 c3 c4 c5 c6 c7 c8 c9 c10 c11 c12 c13 c14 c15 c16 c17 : Addr} (y : ErK K D (kz c0 c1 c2 c3 c4 c5 c6 c7 c8 c9 c10 c11 c12 c13 c14 c15 c16 c17)) : ErK K D (kl c0 c1 c2 c3 c4 c5 c6 c7 c8 c9 c10 c11 c12 c13 c14 c15 c16 c17 (fun _ => false)) := y
theorem erAt_new {H : Hp} {a C : Addr} : ErAt (upd H a (ErO (.ref C) none a)) a C := ⟨none, upd_same, .inl rfl⟩
theorem erAt_ini {H : Hp} {a dx C : Addr} {o : List (Str × V)} (e : dx ≠ a) : ErAt (upd (upd H dx (.xd o)) a (ErO (.ref C) (some dx) a)) a C := ⟨some dx, upd_same, .inr ⟨dx, o, rfl, by rw [upd_ne e]; exact upd_same⟩⟩
theorem same_ini {H : Hp} {a dx : Addr} {o u : HO} (nd : H dx = none) (n : H a = none) (e : dx ≠ a) : Same H (upd (upd H dx o) a u) := (Same.new nd).trans (Same.new (by rw [upd_ne (Ne.symm e)]; exact n))
theorem xd_ini {H : Hp} {a dx : Addr} {o : List (Str × V)} {u : HO} (e : dx ≠ a) : upd (upd H dx (.xd o)) a u dx = some (.xd o) := by rw [upd_ne e]; exact upd_same
abbrev bv (bs : List Bool) : List V := bs.map V.bl
def dB (bs : List Bool) : PyData := .list (bs.map PyData.bool)
theorem dp_bools {K : PySem.W.Frag} {H : Hp} : ∀ bs : List Bool, DpAll K H (bv bs) (bs.map PyData.bool)
  | [] => .nil
  | n :: r => .cons (.bl n) (dp_bools r)
theorem lay_bools : ∀ bs : List Bool, PyData.canLayAll0 (bs.map PyData.bool) = true
  | [] => rfl
  | n :: r => by show (true && PyData.canLayAll0 (r.map PyData.bool)) = true; rw [lay_bools r]; rfl
theorem depth_bools : ∀ bs : List Bool, PyData.depthAll (bs.map PyData.bool) = 0
  | [] => rfl
  | n :: r => by show max 0 (PyData.depthAll (r.map PyData.bool)) = 0; rw [depth_bools r]; rfl
theorem shaped_dB (bs : List Bool) : SeqAt.shaped (dB bs) = true := by
  unfold SeqAt.shaped
  have d : (dB bs).depth = 1 := by show PyData.depthAll (bs.map PyData.bool) + 1 = 1; rw [depth_bools]
  rw [d]
  show (PyData.canLayAll0 (bs.map PyData.bool) && decide (1 ≤ 64)) = true
  rw [lay_bools]
  rfl
theorem neD_bools {K : PySem.W.Frag} {H : Hp} {a b : Addr} {bs : List Bool} {Q : VK} (ha : SqL K H a (bv bs)) (hb : SqL K H b (bv bs)) (q : Q (.bl false) H) : rNeD K (.ref a) (.ref b) H Q :=
  ⟨dB bs, dB bs, .lst ha (dp_bools bs), .lst hb (dp_bools bs), shaped_dB bs, shaped_dB bs, by rw [SeqAt.eqv_refl (dB bs) (lay_bools bs)]; exact q⟩
theorem mk18_bv (b : Nat → Bool) : mk18 b = bv ((List.range 18).map b) := by unfold mk18 bv; rw [List.map_map]; rfl
section
variable {P : Program} {w : World} {K : PySem.W.Frag} {mg : Str → Option Value} {base : Heap} {C_EmptyHistoryError C_EmptyOutlineError C_EndError C_HiddenLineError C_InvalidDepthError C_InvalidDocumentError C_InvalidFoldsError C_InvalidHeightError C_InvalidLineError C_InvalidNumberError C_InvalidObservationsError C_InvalidOutlineError C_InvalidReadingError C_InvalidScrollError C_InvalidTextError C_InvalidTitleError C_TooDeepError C_TooManyLinesError C_StickyHeadsError : Addr}
def sp_right86 : Sp := fun vs H Q _ => ∃ (m : Str) (n : Int), vs = [.str m, .int n] ∧ RetV Q H (.bl true)
set_option maxHeartbeats 4000000 in
theorem ok_law_right (T : Txt mg) (e_EmptyHistoryError : Err K mg "EmptyHistoryError" C_EmptyHistoryError) (e_EmptyOutlineError : Err K mg "EmptyOutlineError" C_EmptyOutlineError) (e_EndError : Err K mg "EndError" C_EndError) (e_HiddenLineError : Err K mg "HiddenLineError" C_HiddenLineError) (e_InvalidDepthError : Err K mg "InvalidDepthError" C_InvalidDepthError) (e_InvalidDocumentError : Err K mg "InvalidDocumentError" C_InvalidDocumentError) (e_InvalidFoldsError : Err K mg "InvalidFoldsError" C_InvalidFoldsError) (e_InvalidHeightError : Err K mg "InvalidHeightError" C_InvalidHeightError) (e_InvalidLineError : Err K mg "InvalidLineError" C_InvalidLineError) (e_InvalidNumberError : Err K mg "InvalidNumberError" C_InvalidNumberError) (e_InvalidOutlineError : Err K mg "InvalidOutlineError" C_InvalidOutlineError) (e_InvalidReadingError : Err K mg "InvalidReadingError" C_InvalidReadingError) (e_InvalidScrollError : Err K mg "InvalidScrollError" C_InvalidScrollError) (e_InvalidTextError : Err K mg "InvalidTextError" C_InvalidTextError) (e_InvalidTitleError : Err K mg "InvalidTitleError" C_InvalidTitleError) (e_TooManyLinesError : Err K mg "TooManyLinesError" C_TooManyLinesError) (e_StickyHeadsError : Err K mg "StickyHeadsError" C_StickyHeadsError) (k_InvalidObservationsError : mg "InvalidObservationsError" = some (.ref C_InvalidObservationsError)) (k_TooDeepError : mg "TooDeepError" = some (.ref C_TooDeepError)) (k_StickyHeadsError : mg "StickyHeadsError" = some (.ref C_StickyHeadsError)) (i_InvalidObservationsError : IniC P K C_InvalidObservationsError "InvalidObservationsError.__init__" ini_InvalidObservationsError "index") (i_TooDeepError : IniC P K C_TooDeepError "TooDeepError.__init__" ini_TooDeepError "line") (n_super : mg "super" = none) (n_ValueError : mg "ValueError" = none) (y_EmptyHistoryError : ErK K C_EmptyHistoryError (kq C_EmptyHistoryError C_EmptyOutlineError C_EndError C_HiddenLineError C_InvalidDepthError C_InvalidDocumentError C_InvalidFoldsError C_InvalidHeightError C_InvalidLineError C_InvalidNumberError C_InvalidObservationsError C_InvalidOutlineError C_InvalidReadingError C_InvalidScrollError C_InvalidTextError C_InvalidTitleError C_TooDeepError C_TooManyLinesError C_StickyHeadsError 0)) (y_EmptyOutlineError : ErK K C_EmptyOutlineError (kq C_EmptyHistoryError C_EmptyOutlineError C_EndError C_HiddenLineError C_InvalidDepthError C_InvalidDocumentError C_InvalidFoldsError C_InvalidHeightError C_InvalidLineError C_InvalidNumberError C_InvalidObservationsError C_InvalidOutlineError C_InvalidReadingError C_InvalidScrollError C_InvalidTextError C_InvalidTitleError C_TooDeepError C_TooManyLinesError C_StickyHeadsError 1)) (y_EndError : ErK K C_EndError (kq C_EmptyHistoryError C_EmptyOutlineError C_EndError C_HiddenLineError C_InvalidDepthError C_InvalidDocumentError C_InvalidFoldsError C_InvalidHeightError C_InvalidLineError C_InvalidNumberError C_InvalidObservationsError C_InvalidOutlineError C_InvalidReadingError C_InvalidScrollError C_InvalidTextError C_InvalidTitleError C_TooDeepError C_TooManyLinesError C_StickyHeadsError 2)) (y_HiddenLineError : ErK K C_HiddenLineError (kq C_EmptyHistoryError C_EmptyOutlineError C_EndError C_HiddenLineError C_InvalidDepthError C_InvalidDocumentError C_InvalidFoldsError C_InvalidHeightError C_InvalidLineError C_InvalidNumberError C_InvalidObservationsError C_InvalidOutlineError C_InvalidReadingError C_InvalidScrollError C_InvalidTextError C_InvalidTitleError C_TooDeepError C_TooManyLinesError C_StickyHeadsError 3)) (y_InvalidDepthError : ErK K C_InvalidDepthError (kq C_EmptyHistoryError C_EmptyOutlineError C_EndError C_HiddenLineError C_InvalidDepthError C_InvalidDocumentError C_InvalidFoldsError C_InvalidHeightError C_InvalidLineError C_InvalidNumberError C_InvalidObservationsError C_InvalidOutlineError C_InvalidReadingError C_InvalidScrollError C_InvalidTextError C_InvalidTitleError C_TooDeepError C_TooManyLinesError C_StickyHeadsError 4)) (y_InvalidDocumentError : ErK K C_InvalidDocumentError (kq C_EmptyHistoryError C_EmptyOutlineError C_EndError C_HiddenLineError C_InvalidDepthError C_InvalidDocumentError C_InvalidFoldsError C_InvalidHeightError C_InvalidLineError C_InvalidNumberError C_InvalidObservationsError C_InvalidOutlineError C_InvalidReadingError C_InvalidScrollError C_InvalidTextError C_InvalidTitleError C_TooDeepError C_TooManyLinesError C_StickyHeadsError 5)) (y_InvalidFoldsError : ErK K C_InvalidFoldsError (kq C_EmptyHistoryError C_EmptyOutlineError C_EndError C_HiddenLineError C_InvalidDepthError C_InvalidDocumentError C_InvalidFoldsError C_InvalidHeightError C_InvalidLineError C_InvalidNumberError C_InvalidObservationsError C_InvalidOutlineError C_InvalidReadingError C_InvalidScrollError C_InvalidTextError C_InvalidTitleError C_TooDeepError C_TooManyLinesError C_StickyHeadsError 6)) (y_InvalidHeightError : ErK K C_InvalidHeightError (kq C_EmptyHistoryError C_EmptyOutlineError C_EndError C_HiddenLineError C_InvalidDepthError C_InvalidDocumentError C_InvalidFoldsError C_InvalidHeightError C_InvalidLineError C_InvalidNumberError C_InvalidObservationsError C_InvalidOutlineError C_InvalidReadingError C_InvalidScrollError C_InvalidTextError C_InvalidTitleError C_TooDeepError C_TooManyLinesError C_StickyHeadsError 7)) (y_InvalidLineError : ErK K C_InvalidLineError (kq C_EmptyHistoryError C_EmptyOutlineError C_EndError C_HiddenLineError C_InvalidDepthError C_InvalidDocumentError C_InvalidFoldsError C_InvalidHeightError C_InvalidLineError C_InvalidNumberError C_InvalidObservationsError C_InvalidOutlineError C_InvalidReadingError C_InvalidScrollError C_InvalidTextError C_InvalidTitleError C_TooDeepError C_TooManyLinesError C_StickyHeadsError 8)) (y_InvalidNumberError : ErK K C_InvalidNumberError (kq C_EmptyHistoryError C_EmptyOutlineError C_EndError C_HiddenLineError C_InvalidDepthError C_InvalidDocumentError C_InvalidFoldsError C_InvalidHeightError C_InvalidLineError C_InvalidNumberError C_InvalidObservationsError C_InvalidOutlineError C_InvalidReadingError C_InvalidScrollError C_InvalidTextError C_InvalidTitleError C_TooDeepError C_TooManyLinesError C_StickyHeadsError 9)) (y_InvalidObservationsError : ErK K C_InvalidObservationsError (kq C_EmptyHistoryError C_EmptyOutlineError C_EndError C_HiddenLineError C_InvalidDepthError C_InvalidDocumentError C_InvalidFoldsError C_InvalidHeightError C_InvalidLineError C_InvalidNumberError C_InvalidObservationsError C_InvalidOutlineError C_InvalidReadingError C_InvalidScrollError C_InvalidTextError C_InvalidTitleError C_TooDeepError C_TooManyLinesError C_StickyHeadsError 10)) (y_InvalidOutlineError : ErK K C_InvalidOutlineError (kq C_EmptyHistoryError C_EmptyOutlineError C_EndError C_HiddenLineError C_InvalidDepthError C_InvalidDocumentError C_InvalidFoldsError C_InvalidHeightError C_InvalidLineError C_InvalidNumberError C_InvalidObservationsError C_InvalidOutlineError C_InvalidReadingError C_InvalidScrollError C_InvalidTextError C_InvalidTitleError C_TooDeepError C_TooManyLinesError C_StickyHeadsError 11)) (y_InvalidReadingError : ErK K C_InvalidReadingError (kq C_EmptyHistoryError C_EmptyOutlineError C_EndError C_HiddenLineError C_InvalidDepthError C_InvalidDocumentError C_InvalidFoldsError C_InvalidHeightError C_InvalidLineError C_InvalidNumberError C_InvalidObservationsError C_InvalidOutlineError C_InvalidReadingError C_InvalidScrollError C_InvalidTextError C_InvalidTitleError C_TooDeepError C_TooManyLinesError C_StickyHeadsError 12)) (y_InvalidScrollError : ErK K C_InvalidScrollError (kq C_EmptyHistoryError C_EmptyOutlineError C_EndError C_HiddenLineError C_InvalidDepthError C_InvalidDocumentError C_InvalidFoldsError C_InvalidHeightError C_InvalidLineError C_InvalidNumberError C_InvalidObservationsError C_InvalidOutlineError C_InvalidReadingError C_InvalidScrollError C_InvalidTextError C_InvalidTitleError C_TooDeepError C_TooManyLinesError C_StickyHeadsError 13)) (y_InvalidTextError : ErK K C_InvalidTextError (kq C_EmptyHistoryError C_EmptyOutlineError C_EndError C_HiddenLineError C_InvalidDepthError C_InvalidDocumentError C_InvalidFoldsError C_InvalidHeightError C_InvalidLineError C_InvalidNumberError C_InvalidObservationsError C_InvalidOutlineError C_InvalidReadingError C_InvalidScrollError C_InvalidTextError C_InvalidTitleError C_TooDeepError C_TooManyLinesError C_StickyHeadsError 14)) (y_InvalidTitleError : ErK K C_InvalidTitleError (kq C_EmptyHistoryError C_EmptyOutlineError C_EndError C_HiddenLineError C_InvalidDepthError C_InvalidDocumentError C_InvalidFoldsError C_InvalidHeightError C_InvalidLineError C_InvalidNumberError C_InvalidObservationsError C_InvalidOutlineError C_InvalidReadingError C_InvalidScrollError C_InvalidTextError C_InvalidTitleError C_TooDeepError C_TooManyLinesError C_StickyHeadsError 15)) (y_TooDeepError : ErK K C_TooDeepError (kq C_EmptyHistoryError C_EmptyOutlineError C_EndError C_HiddenLineError C_InvalidDepthError C_InvalidDocumentError C_InvalidFoldsError C_InvalidHeightError C_InvalidLineError C_InvalidNumberError C_InvalidObservationsError C_InvalidOutlineError C_InvalidReadingError C_InvalidScrollError C_InvalidTextError C_InvalidTitleError C_TooDeepError C_TooManyLinesError C_StickyHeadsError 16)) (y_TooManyLinesError : ErK K C_TooManyLinesError (kq C_EmptyHistoryError C_EmptyOutlineError C_EndError C_HiddenLineError C_InvalidDepthError C_InvalidDocumentError C_InvalidFoldsError C_InvalidHeightError C_InvalidLineError C_InvalidNumberError C_InvalidObservationsError C_InvalidOutlineError C_InvalidReadingError C_InvalidScrollError C_InvalidTextError C_InvalidTitleError C_TooDeepError C_TooManyLinesError C_StickyHeadsError 17)) (y_StickyHeadsError : ErK K C_StickyHeadsError (kz C_EmptyHistoryError C_EmptyOutlineError C_EndError C_HiddenLineError C_InvalidDepthError C_InvalidDocumentError C_InvalidFoldsError C_InvalidHeightError C_InvalidLineError C_InvalidNumberError C_InvalidObservationsError C_InvalidOutlineError C_InvalidReadingError C_InvalidScrollError C_InvalidTextError C_InvalidTitleError C_TooDeepError C_TooManyLinesError))
    (h : At K mg "_law_right" s_law_right)
    (g_law_marks : Has P w K mg base CX0 1 "_law_marks" s_law_marks P_law_marks (sp_marks K C_EmptyHistoryError C_EmptyOutlineError C_EndError C_HiddenLineError C_InvalidDepthError C_InvalidDocumentError C_InvalidFoldsError C_InvalidHeightError C_InvalidLineError C_InvalidNumberError C_InvalidObservationsError C_InvalidOutlineError C_InvalidReadingError C_InvalidScrollError C_InvalidTextError C_InvalidTitleError C_TooDeepError C_TooManyLinesError)) : Has P w K mg base CX0 2 "_law_right" s_law_right P_law_right sp_right86 := by
  refine Has.of h sc_law_right (fun vs H Q E h => ?_) (fun _ _ _ _ _ _ us hl => match us, hl with | [_, _], _ => rfl) (fun f cdv A outer s H vs Q E room qt h => ?_)
  · obtain ⟨m, n, rfl, _⟩ := h; rfl
  obtain ⟨m, n, rfl, q⟩ := h
  refine ⟨_, (pss_cons (ps_set (i := 2) sc_law_right.nd rfl (Or.inl rfl) (pe_lst (pa_cons (pe_own e_EmptyHistoryError (by rfl) (pa_cons (pv 0) pa_nil)) (pa_cons (pe_own e_EmptyOutlineError (by rfl) (pa_cons (pv 0) pa_nil)) (pa_cons (pe_own e_EndError (by rfl) (pa_cons (pv 0) pa_nil)) (pa_cons (pe_own e_HiddenLineError (by rfl) (pa_cons (pv 0) pa_nil)) pa_nil))))))
      (pss_cons (ps_set (i := 2) sc_law_right.nd rfl (Or.inl rfl) (pe_op op_catS (pv 2) (pe_lst (pa_cons (pe_own e_InvalidDepthError (by rfl) (pa_cons (pv 0) pa_nil)) (pa_cons (pe_own e_InvalidDocumentError (by rfl) (pa_cons (pv 0) pa_nil)) (pa_cons (pe_own e_InvalidFoldsError (by rfl) (pa_cons (pv 0) pa_nil)) pa_nil))))))
      (pss_cons (ps_set (i := 2) sc_law_right.nd rfl (Or.inl rfl) (pe_op op_catS (pv 2) (pe_lst (pa_cons (pe_own e_InvalidHeightError (by rfl) (pa_cons (pv 0) pa_nil)) (pa_cons (pe_own e_InvalidLineError (by rfl) (pa_cons (pv 0) pa_nil)) (pa_cons (pe_own e_InvalidNumberError (by rfl) (pa_cons (pv 0) pa_nil)) pa_nil))))))
      (pss_cons (ps_set (i := 2) sc_law_right.nd rfl (Or.inl rfl) (pe_op op_catS (pv 2) (pe_lst (pa_cons (pe_ini i_InvalidObservationsError t_InvalidObservationsError n_super (room.mono (by decide)) k_InvalidObservationsError (by rfl) (pa_cons (pv 1) pa_nil)) (pa_cons (pe_own e_InvalidOutlineError (by rfl) (pa_cons (pv 0) pa_nil)) (pa_cons (pe_own e_InvalidReadingError (by rfl) (pa_cons (pv 0) pa_nil)) pa_nil))))))
      (pss_cons (ps_set (i := 2) sc_law_right.nd rfl (Or.inl rfl) (pe_op op_catS (pv 2) (pe_lst (pa_cons (pe_own e_InvalidScrollError (by rfl) (pa_cons (pv 0) pa_nil)) (pa_cons (pe_own e_InvalidTextError (by rfl) (pa_cons (pv 0) pa_nil)) (pa_cons (pe_own e_InvalidTitleError (by rfl) (pa_cons (pv 0) pa_nil)) pa_nil))))))
      (pss_cons (ps_set (i := 2) sc_law_right.nd rfl (Or.inl rfl) (pe_op op_catS (pv 2) (pe_lst (pa_cons (pe_ini i_TooDeepError t_TooDeepError n_super (room.mono (by decide)) k_TooDeepError (by rfl) (pa_cons (pv 1) pa_nil)) (pa_cons (pe_own e_TooManyLinesError (by rfl) (pa_cons (pv 0) pa_nil)) pa_nil)))))
      (pss_cons (ps_for PassesOwn.never rfl (pi_range1 (by rfl) T.range (pa_cons pe_int pa_nil)) (pg_name (i := 3) sc_law_right.nd rfl (Or.inr rfl) (hf := Or.inl rfl))
        (pss_cons (ps_if (pt_cmpR (op_neD room.units) (pe_has g_law_marks (room.mono (by decide)) qt (by rfl) pass0 (pa_cons (pe_ix ix_list (pv 2) (pv 3) (fun _ _ => rfl)) pa_nil)) (pe_lc (own := [("j", 5)]) (by rfl) sc_law_right.nd (pi_range1 (by rfl) T.range (pa_cons pe_int pa_nil)) (blkOk_by (own := [("j", 5)]) (N := N_law_right) (sc := defScope s_law_right) (by decide +kernel)) (fun _ _ _ _ _ => (pg_name (i := 5) sc_law_right.nd rfl (Or.inl rfl) (hf := Or.inr rfl))) (fun _ _ _ _ _ => pts_nil) (fun _ _ _ _ _ => (pe_cmpR op_eq (pv 5) (pv 3) (nomark _)))) (nomark _))
          (pss_one (ps_ret pe_bl))
          pss_nil)
        (pss_one (ps_if (PW.pt (pw_or (pt_not (pt_val (pe_callB call_isEr (by rfl) T.isinstance (by decide +kernel) (pa_cons (pe_ix ix_list (pv 2) (pv 3) (fun _ _ => rfl)) (pa_cons (pe_glob (v := .ref C_StickyHeadsError) (by rfl) k_StickyHeadsError rfl) pa_nil))))) (pw_or1 (pt_not (pt_val (pe_callB call_isEr (by rfl) T.isinstance (by decide +kernel) (pa_cons (pe_ix ix_list (pv 2) (pv 3) (fun _ _ => rfl)) (pa_cons (pe_bltn (v := .ty "ValueError") (u := .type "ValueError") (by rfl) n_ValueError (by decide +kernel) rfl) pa_nil))))))))
          (pss_one (ps_ret pe_bl))
          pss_nil))))
      (pss_cons (ps_set (i := 4) sc_law_right.nd rfl (Or.inl rfl) (pe_lst (pa_cons (pe_erF (pe_ini i_TooDeepError t_TooDeepError n_super (room.mono (by decide)) k_TooDeepError (by rfl) (pa_cons (pv 1) pa_nil))) (pa_cons (pe_erF (pe_iniK i_TooDeepError t_TooDeepError u_TooDeepError n_super (room.mono (by decide)) k_TooDeepError (by rfl) (pk_cons (pv 1) pk_nil))) (pa_cons (pe_erF (pe_ini i_InvalidObservationsError t_InvalidObservationsError n_super (room.mono (by decide)) k_InvalidObservationsError (by rfl) (pa_cons (pv 1) pa_nil))) pa_nil)))))
      (pss_cons (ps_set (i := 4) sc_law_right.nd rfl (Or.inl rfl) (pe_op op_catS (pv 4) (pe_lst (pa_cons (pe_erF (pe_iniK i_InvalidObservationsError t_InvalidObservationsError u_InvalidObservationsError n_super (room.mono (by decide)) k_InvalidObservationsError (by rfl) (pk_cons (pv 1) pk_nil))) pa_nil))))
      (pss_one (ps_ret (pe_and (pe_cmpR (op_eqD room.units) (pv 4) (pe_op op_rep (pe_lst (pa_cons (pv 1) pa_nil)) pe_int) (nomark _)) (pe_one (pe_cmpR op_notIn_seq pe_bl (pe_has g_law_marks (room.mono (by decide)) qt (by rfl) pass0 (pa_cons (pe_own e_StickyHeadsError (by rfl) (pa_cons (pv 0) pa_nil)) pa_nil)) (by with_unfolding_all rfl))))))))))))))), ?_⟩
  refine ⟨_, rfl, _, rfl, fun a0 n0 => ?_⟩
  have x0 := Same.new (o := ErO (.ref C_EmptyHistoryError) none a0) n0
  have E0 : ErAt (upd H a0 (ErO (.ref C_EmptyHistoryError) none a0)) a0 C_EmptyHistoryError := erAt_new
  generalize upd H a0 (ErO (.ref C_EmptyHistoryError) none a0) = H1 at x0 E0 ⊢
  refine ⟨_, rfl, _, rfl, fun a1 n1 => ?_⟩
  have x1 := Same.new (o := ErO (.ref C_EmptyOutlineError) none a1) n1
  have E1 : ErAt (upd H1 a1 (ErO (.ref C_EmptyOutlineError) none a1)) a1 C_EmptyOutlineError := erAt_new
  generalize upd H1 a1 (ErO (.ref C_EmptyOutlineError) none a1) = H2 at x1 E1 ⊢
  refine ⟨_, rfl, _, rfl, fun a2 n2 => ?_⟩
  have x2 := Same.new (o := ErO (.ref C_EndError) none a2) n2
  have E2 : ErAt (upd H2 a2 (ErO (.ref C_EndError) none a2)) a2 C_EndError := erAt_new
  generalize upd H2 a2 (ErO (.ref C_EndError) none a2) = H3 at x2 E2 ⊢
  refine ⟨_, rfl, _, rfl, fun a3 n3 => ?_⟩
  have x3 := Same.new (o := ErO (.ref C_HiddenLineError) none a3) n3
  have E3 : ErAt (upd H3 a3 (ErO (.ref C_HiddenLineError) none a3)) a3 C_HiddenLineError := erAt_new
  generalize upd H3 a3 (ErO (.ref C_HiddenLineError) none a3) = H4 at x3 E3 ⊢
  refine ⟨(by decide : 4 ≤ sizeLine), fun r0 k0 => ?_⟩
  have x4 := Same.new (o := .lst [.ref a0, .ref a1, .ref a2, .ref a3]) k0
  have g0 := upd_same (H := H4) (a := r0) (o := .lst [.ref a0, .ref a1, .ref a2, .ref a3])
  generalize upd H4 r0 (.lst [.ref a0, .ref a1, .ref a2, .ref a3]) = H5 at x4 g0 ⊢
  refine ⟨_, rfl, ?_⟩
  refine ⟨_, rfl, _, rfl, fun a4 n4 => ?_⟩
  have x5 := Same.new (o := ErO (.ref C_InvalidDepthError) none a4) n4
  have E4 : ErAt (upd H5 a4 (ErO (.ref C_InvalidDepthError) none a4)) a4 C_InvalidDepthError := erAt_new
  generalize upd H5 a4 (ErO (.ref C_InvalidDepthError) none a4) = H6 at x5 E4 ⊢
  refine ⟨_, rfl, _, rfl, fun a5 n5 => ?_⟩
  have x6 := Same.new (o := ErO (.ref C_InvalidDocumentError) none a5) n5
  have E5 : ErAt (upd H6 a5 (ErO (.ref C_InvalidDocumentError) none a5)) a5 C_InvalidDocumentError := erAt_new
  generalize upd H6 a5 (ErO (.ref C_InvalidDocumentError) none a5) = H7 at x6 E5 ⊢
  refine ⟨_, rfl, _, rfl, fun a6 n6 => ?_⟩
  have x7 := Same.new (o := ErO (.ref C_InvalidFoldsError) none a6) n6
  have E6 : ErAt (upd H7 a6 (ErO (.ref C_InvalidFoldsError) none a6)) a6 C_InvalidFoldsError := erAt_new
  generalize upd H7 a6 (ErO (.ref C_InvalidFoldsError) none a6) = H8 at x7 E6 ⊢
  refine ⟨(by decide : 3 ≤ sizeLine), fun r1 k1 => ?_⟩
  have x8 := Same.new (o := .lst [.ref a4, .ref a5, .ref a6]) k1
  have g1 := upd_same (H := H8) (a := r1) (o := .lst [.ref a4, .ref a5, .ref a6])
  generalize upd H8 r1 (.lst [.ref a4, .ref a5, .ref a6]) = H9 at x8 g1 ⊢
  refine ⟨r0, r1, _, _, rfl, rfl, SqL.of ((((x5.trans x6).trans x7).trans x8) _ _ g0), SqL.of g1, (by decide : 7 ≤ sizeLine), fun p1 j1 => ?_⟩
  have x9 := Same.new (o := .lst ([.ref a0, .ref a1, .ref a2, .ref a3] ++ [.ref a4, .ref a5, .ref a6])) j1
  have h1 : upd H9 p1 (.lst ([.ref a0, .ref a1, .ref a2, .ref a3] ++ [.ref a4, .ref a5, .ref a6])) p1 = some (.lst [.ref a0, .ref a1, .ref a2, .ref a3, .ref a4, .ref a5, .ref a6]) := upd_same
  generalize upd H9 p1 (.lst ([.ref a0, .ref a1, .ref a2, .ref a3] ++ [.ref a4, .ref a5, .ref a6])) = H10 at x9 h1 ⊢
  refine ⟨_, rfl, ?_⟩
  refine ⟨_, rfl, _, rfl, fun a7 n7 => ?_⟩
  have x10 := Same.new (o := ErO (.ref C_InvalidHeightError) none a7) n7
  have E7 : ErAt (upd H10 a7 (ErO (.ref C_InvalidHeightError) none a7)) a7 C_InvalidHeightError := erAt_new
  generalize upd H10 a7 (ErO (.ref C_InvalidHeightError) none a7) = H11 at x10 E7 ⊢
  refine ⟨_, rfl, _, rfl, fun a8 n8 => ?_⟩
  have x11 := Same.new (o := ErO (.ref C_InvalidLineError) none a8) n8
  have E8 : ErAt (upd H11 a8 (ErO (.ref C_InvalidLineError) none a8)) a8 C_InvalidLineError := erAt_new
  generalize upd H11 a8 (ErO (.ref C_InvalidLineError) none a8) = H12 at x11 E8 ⊢
  refine ⟨_, rfl, _, rfl, fun a9 n9 => ?_⟩
  have x12 := Same.new (o := ErO (.ref C_InvalidNumberError) none a9) n9
  have E9 : ErAt (upd H12 a9 (ErO (.ref C_InvalidNumberError) none a9)) a9 C_InvalidNumberError := erAt_new
  generalize upd H12 a9 (ErO (.ref C_InvalidNumberError) none a9) = H13 at x12 E9 ⊢
  refine ⟨(by decide : 3 ≤ sizeLine), fun r2 k2 => ?_⟩
  have x13 := Same.new (o := .lst [.ref a7, .ref a8, .ref a9]) k2
  have g2 := upd_same (H := H13) (a := r2) (o := .lst [.ref a7, .ref a8, .ref a9])
  generalize upd H13 r2 (.lst [.ref a7, .ref a8, .ref a9]) = H14 at x13 g2 ⊢
  refine ⟨p1, r2, _, _, rfl, rfl, SqL.of ((((x10.trans x11).trans x12).trans x13) _ _ h1), SqL.of g2, (by decide : 10 ≤ sizeLine), fun p2 j2 => ?_⟩
  have x14 := Same.new (o := .lst ([.ref a0, .ref a1, .ref a2, .ref a3, .ref a4, .ref a5, .ref a6] ++ [.ref a7, .ref a8, .ref a9])) j2
  have h2 : upd H14 p2 (.lst ([.ref a0, .ref a1, .ref a2, .ref a3, .ref a4, .ref a5, .ref a6] ++ [.ref a7, .ref a8, .ref a9])) p2 = some (.lst [.ref a0, .ref a1, .ref a2, .ref a3, .ref a4, .ref a5, .ref a6, .ref a7, .ref a8, .ref a9]) := upd_same
  generalize upd H14 p2 (.lst ([.ref a0, .ref a1, .ref a2, .ref a3, .ref a4, .ref a5, .ref a6] ++ [.ref a7, .ref a8, .ref a9])) = H15 at x14 h2 ⊢
  refine ⟨_, rfl, ?_⟩
  refine ⟨_, rfl, _, rfl, fun a10 d10 m10 n10 z10 => ?_⟩
  have x15 : Same H15 (upd (upd H15 d10 (.xd [("index", .int n)])) a10 (ErO (.ref C_InvalidObservationsError) (some d10) a10)) := same_ini m10 n10 z10
  have E10 : ErAt (upd (upd H15 d10 (.xd [("index", .int n)])) a10 (ErO (.ref C_InvalidObservationsError) (some d10) a10)) a10 C_InvalidObservationsError := erAt_ini z10
  generalize upd (upd H15 d10 (.xd [("index", .int n)])) a10 (ErO (.ref C_InvalidObservationsError) (some d10) a10) = H16 at x15 E10 ⊢
  refine ⟨_, rfl, _, rfl, fun a11 n11 => ?_⟩
  have x16 := Same.new (o := ErO (.ref C_InvalidOutlineError) none a11) n11
  have E11 : ErAt (upd H16 a11 (ErO (.ref C_InvalidOutlineError) none a11)) a11 C_InvalidOutlineError := erAt_new
  generalize upd H16 a11 (ErO (.ref C_InvalidOutlineError) none a11) = H17 at x16 E11 ⊢
  refine ⟨_, rfl, _, rfl, fun a12 n12 => ?_⟩
  have x17 := Same.new (o := ErO (.ref C_InvalidReadingError) none a12) n12
  have E12 : ErAt (upd H17 a12 (ErO (.ref C_InvalidReadingError) none a12)) a12 C_InvalidReadingError := erAt_new
  generalize upd H17 a12 (ErO (.ref C_InvalidReadingError) none a12) = H18 at x17 E12 ⊢
  refine ⟨(by decide : 3 ≤ sizeLine), fun r3 k3 => ?_⟩
  have x18 := Same.new (o := .lst [.ref a10, .ref a11, .ref a12]) k3
  have g3 := upd_same (H := H18) (a := r3) (o := .lst [.ref a10, .ref a11, .ref a12])
  generalize upd H18 r3 (.lst [.ref a10, .ref a11, .ref a12]) = H19 at x18 g3 ⊢
  refine ⟨p2, r3, _, _, rfl, rfl, SqL.of ((((x15.trans x16).trans x17).trans x18) _ _ h2), SqL.of g3, (by decide : 13 ≤ sizeLine), fun p3 j3 => ?_⟩
  have x19 := Same.new (o := .lst ([.ref a0, .ref a1, .ref a2, .ref a3, .ref a4, .ref a5, .ref a6, .ref a7, .ref a8, .ref a9] ++ [.ref a10, .ref a11, .ref a12])) j3
  have h3 : upd H19 p3 (.lst ([.ref a0, .ref a1, .ref a2, .ref a3, .ref a4, .ref a5, .ref a6, .ref a7, .ref a8, .ref a9] ++ [.ref a10, .ref a11, .ref a12])) p3 = some (.lst [.ref a0, .ref a1, .ref a2, .ref a3, .ref a4, .ref a5, .ref a6, .ref a7, .ref a8, .ref a9, .ref a10, .ref a11, .ref a12]) := upd_same
  generalize upd H19 p3 (.lst ([.ref a0, .ref a1, .ref a2, .ref a3, .ref a4, .ref a5, .ref a6, .ref a7, .ref a8, .ref a9] ++ [.ref a10, .ref a11, .ref a12])) = H20 at x19 h3 ⊢
  refine ⟨_, rfl, ?_⟩
  refine ⟨_, rfl, _, rfl, fun a13 n13 => ?_⟩
  have x20 := Same.new (o := ErO (.ref C_InvalidScrollError) none a13) n13
  have E13 : ErAt (upd H20 a13 (ErO (.ref C_InvalidScrollError) none a13)) a13 C_InvalidScrollError := erAt_new
  generalize upd H20 a13 (ErO (.ref C_InvalidScrollError) none a13) = H21 at x20 E13 ⊢
  refine ⟨_, rfl, _, rfl, fun a14 n14 => ?_⟩
  have x21 := Same.new (o := ErO (.ref C_InvalidTextError) none a14) n14
  have E14 : ErAt (upd H21 a14 (ErO (.ref C_InvalidTextError) none a14)) a14 C_InvalidTextError := erAt_new
  generalize upd H21 a14 (ErO (.ref C_InvalidTextError) none a14) = H22 at x21 E14 ⊢
  refine ⟨_, rfl, _, rfl, fun a15 n15 => ?_⟩
  have x22 := Same.new (o := ErO (.ref C_InvalidTitleError) none a15) n15
  have E15 : ErAt (upd H22 a15 (ErO (.ref C_InvalidTitleError) none a15)) a15 C_InvalidTitleError := erAt_new
  generalize upd H22 a15 (ErO (.ref C_InvalidTitleError) none a15) = H23 at x22 E15 ⊢
  refine ⟨(by decide : 3 ≤ sizeLine), fun r4 k4 => ?_⟩
  have x23 := Same.new (o := .lst [.ref a13, .ref a14, .ref a15]) k4
  have g4 := upd_same (H := H23) (a := r4) (o := .lst [.ref a13, .ref a14, .ref a15])
  generalize upd H23 r4 (.lst [.ref a13, .ref a14, .ref a15]) = H24 at x23 g4 ⊢
  refine ⟨p3, r4, _, _, rfl, rfl, SqL.of ((((x20.trans x21).trans x22).trans x23) _ _ h3), SqL.of g4, (by decide : 16 ≤ sizeLine), fun p4 j4 => ?_⟩
  have x24 := Same.new (o := .lst ([.ref a0, .ref a1, .ref a2, .ref a3, .ref a4, .ref a5, .ref a6, .ref a7, .ref a8, .ref a9, .ref a10, .ref a11, .ref a12] ++ [.ref a13, .ref a14, .ref a15])) j4
  have h4 : upd H24 p4 (.lst ([.ref a0, .ref a1, .ref a2, .ref a3, .ref a4, .ref a5, .ref a6, .ref a7, .ref a8, .ref a9, .ref a10, .ref a11, .ref a12] ++ [.ref a13, .ref a14, .ref a15])) p4 = some (.lst [.ref a0, .ref a1, .ref a2, .ref a3, .ref a4, .ref a5, .ref a6, .ref a7, .ref a8, .ref a9, .ref a10, .ref a11, .ref a12, .ref a13, .ref a14, .ref a15]) := upd_same
  generalize upd H24 p4 (.lst ([.ref a0, .ref a1, .ref a2, .ref a3, .ref a4, .ref a5, .ref a6, .ref a7, .ref a8, .ref a9, .ref a10, .ref a11, .ref a12] ++ [.ref a13, .ref a14, .ref a15])) = H25 at x24 h4 ⊢
  refine ⟨_, rfl, ?_⟩
  refine ⟨_, rfl, _, rfl, fun a16 d16 m16 n16 z16 => ?_⟩
  have x25 : Same H25 (upd (upd H25 d16 (.xd [("line", .int n)])) a16 (ErO (.ref C_TooDeepError) (some d16) a16)) := same_ini m16 n16 z16
  have E16 : ErAt (upd (upd H25 d16 (.xd [("line", .int n)])) a16 (ErO (.ref C_TooDeepError) (some d16) a16)) a16 C_TooDeepError := erAt_ini z16
  generalize upd (upd H25 d16 (.xd [("line", .int n)])) a16 (ErO (.ref C_TooDeepError) (some d16) a16) = H26 at x25 E16 ⊢
  refine ⟨_, rfl, _, rfl, fun a17 n17 => ?_⟩
  have x26 := Same.new (o := ErO (.ref C_TooManyLinesError) none a17) n17
  have E17 : ErAt (upd H26 a17 (ErO (.ref C_TooManyLinesError) none a17)) a17 C_TooManyLinesError := erAt_new
  generalize upd H26 a17 (ErO (.ref C_TooManyLinesError) none a17) = H27 at x26 E17 ⊢
  refine ⟨(by decide : 2 ≤ sizeLine), fun r5 k5 => ?_⟩
  have x27 := Same.new (o := .lst [.ref a16, .ref a17]) k5
  have g5 := upd_same (H := H27) (a := r5) (o := .lst [.ref a16, .ref a17])
  generalize upd H27 r5 (.lst [.ref a16, .ref a17]) = H28 at x27 g5 ⊢
  refine ⟨p4, r5, _, _, rfl, rfl, SqL.of (((x25.trans x26).trans x27) _ _ h4), SqL.of g5, (by decide : 18 ≤ sizeLine), fun p5 j5 => ?_⟩
  have x28 := Same.new (o := .lst ([.ref a0, .ref a1, .ref a2, .ref a3, .ref a4, .ref a5, .ref a6, .ref a7, .ref a8, .ref a9, .ref a10, .ref a11, .ref a12, .ref a13, .ref a14, .ref a15] ++ [.ref a16, .ref a17])) j5
  have h5 : upd H28 p5 (.lst ([.ref a0, .ref a1, .ref a2, .ref a3, .ref a4, .ref a5, .ref a6, .ref a7, .ref a8, .ref a9, .ref a10, .ref a11, .ref a12, .ref a13, .ref a14, .ref a15] ++ [.ref a16, .ref a17])) p5 = some (.lst [.ref a0, .ref a1, .ref a2, .ref a3, .ref a4, .ref a5, .ref a6, .ref a7, .ref a8, .ref a9, .ref a10, .ref a11, .ref a12, .ref a13, .ref a14, .ref a15, .ref a16, .ref a17]) := upd_same
  generalize upd H28 p5 (.lst ([.ref a0, .ref a1, .ref a2, .ref a3, .ref a4, .ref a5, .ref a6, .ref a7, .ref a8, .ref a9, .ref a10, .ref a11, .ref a12, .ref a13, .ref a14, .ref a15] ++ [.ref a16, .ref a17])) = H29 at x28 h5 ⊢
  have c29 := Same.refl H29
  have c28 := x28.trans c29
  have c27 := x27.trans c28
  have c26 := x26.trans c27
  have c25 := x25.trans c26
  have c24 := x24.trans c25
  have c23 := x23.trans c24
  have c22 := x22.trans c23
  have c21 := x21.trans c22
  have c20 := x20.trans c21
  have c19 := x19.trans c20
  have c18 := x18.trans c19
  have c17 := x17.trans c18
  have c16 := x16.trans c17
  have c15 := x15.trans c16
  have c14 := x14.trans c15
  have c13 := x13.trans c14
  have c12 := x12.trans c13
  have c11 := x11.trans c12
  have c10 := x10.trans c11
  have c9 := x9.trans c10
  have c8 := x8.trans c9
  have c7 := x7.trans c8
  have c6 := x6.trans c7
  have c5 := x5.trans c6
  have c4 := x4.trans c5
  have c3 := x3.trans c4
  have c2 := x2.trans c3
  have c1 := x1.trans c2
  have c0 := x0.trans c1
  have tab : ∀ i : Nat, i < 18 → ∃ a D, atI ([.ref a0, .ref a1, .ref a2, .ref a3, .ref a4, .ref a5, .ref a6, .ref a7, .ref a8, .ref a9, .ref a10, .ref a11, .ref a12, .ref a13, .ref a14, .ref a15, .ref a16, .ref a17] : List V) (i : Int) = some (.ref a) ∧ ErAt H29 a D ∧ ErK K D (kl C_EmptyHistoryError C_EmptyOutlineError C_EndError C_HiddenLineError C_InvalidDepthError C_InvalidDocumentError C_InvalidFoldsError C_InvalidHeightError C_InvalidLineError C_InvalidNumberError C_InvalidObservationsError C_InvalidOutlineError C_InvalidReadingError C_InvalidScrollError C_InvalidTextError C_InvalidTitleError C_TooDeepError C_TooManyLinesError (fun j => j == i)) ∧ PySem.W.kitOne K (.ref D) (.ref C_StickyHeadsError) = some true ∧ PySem.W.kitOne K (.ref D) (.type "ValueError") = some true := fun i hi => by
    rcases (show i = 0 ∨ i = 1 ∨ i = 2 ∨ i = 3 ∨ i = 4 ∨ i = 5 ∨ i = 6 ∨ i = 7 ∨ i = 8 ∨ i = 9 ∨ i = 10 ∨ i = 11 ∨ i = 12 ∨ i = 13 ∨ i = 14 ∨ i = 15 ∨ i = 16 ∨ i = 17 by omega) with rfl | rfl | rfl | rfl | rfl | rfl | rfl | rfl | rfl | rfl | rfl | rfl | rfl | rfl | rfl | rfl | rfl | rfl
    · exact ⟨a0, C_EmptyHistoryError, rfl, ErAt.same c1 E0, kl_of y_EmptyHistoryError⟩
    · exact ⟨a1, C_EmptyOutlineError, rfl, ErAt.same c2 E1, kl_of y_EmptyOutlineError⟩
    · exact ⟨a2, C_EndError, rfl, ErAt.same c3 E2, kl_of y_EndError⟩
    · exact ⟨a3, C_HiddenLineError, rfl, ErAt.same c4 E3, kl_of y_HiddenLineError⟩
    · exact ⟨a4, C_InvalidDepthError, rfl, ErAt.same c6 E4, kl_of y_InvalidDepthError⟩
    · exact ⟨a5, C_InvalidDocumentError, rfl, ErAt.same c7 E5, kl_of y_InvalidDocumentError⟩
    · exact ⟨a6, C_InvalidFoldsError, rfl, ErAt.same c8 E6, kl_of y_InvalidFoldsError⟩
    · exact ⟨a7, C_InvalidHeightError, rfl, ErAt.same c11 E7, kl_of y_InvalidHeightError⟩
    · exact ⟨a8, C_InvalidLineError, rfl, ErAt.same c12 E8, kl_of y_InvalidLineError⟩
    · exact ⟨a9, C_InvalidNumberError, rfl, ErAt.same c13 E9, kl_of y_InvalidNumberError⟩
    · exact ⟨a10, C_InvalidObservationsError, rfl, ErAt.same c16 E10, kl_of y_InvalidObservationsError⟩
    · exact ⟨a11, C_InvalidOutlineError, rfl, ErAt.same c17 E11, kl_of y_InvalidOutlineError⟩
    · exact ⟨a12, C_InvalidReadingError, rfl, ErAt.same c18 E12, kl_of y_InvalidReadingError⟩
    · exact ⟨a13, C_InvalidScrollError, rfl, ErAt.same c21 E13, kl_of y_InvalidScrollError⟩
    · exact ⟨a14, C_InvalidTextError, rfl, ErAt.same c22 E14, kl_of y_InvalidTextError⟩
    · exact ⟨a15, C_InvalidTitleError, rfl, ErAt.same c23 E15, kl_of y_InvalidTitleError⟩
    · exact ⟨a16, C_TooDeepError, rfl, ErAt.same c26 E16, kl_of y_TooDeepError⟩
    · exact ⟨a17, C_TooManyLinesError, rfl, ErAt.same c27 E17, kl_of y_TooManyLinesError⟩
  refine ⟨18, rfl, by decide, by decide, for_range (lo := 0) (n := 18) (fun i σ G => (∃ v, σ = [some (.str m), some (.int n), some (.ref p5), v, none, none]) ∧ Same H29 G) ⟨⟨_, rfl⟩, Same.refl _⟩ ?_ ?_⟩
  · rintro i σ G hi ⟨⟨v, rfl⟩, s⟩
    obtain ⟨a, D, ia, ea, ek, ks, kv⟩ := tab i hi
    have ia' : atI ([.ref a0, .ref a1, .ref a2, .ref a3, .ref a4, .ref a5, .ref a6, .ref a7, .ref a8, .ref a9, .ref a10, .ref a11, .ref a12, .ref a13, .ref a14, .ref a15, .ref a16, .ref a17] : List V) (0 + (i : Int)) = some (.ref a) := by rw [Int.zero_add]; exact ia
    have h5' := s _ _ h5
    refine ⟨_, rfl, _, rfl, p5, _, _, _, rfl, rfl, SqL.of h5', ia', a, D, _, rfl, ea.same s, ek, fun r G2 nr s2 gr => ?_⟩
    refine ⟨18, rfl, by decide, by decide, fun D2 hD2 => lcRn (lo := 0) (n := 18) (fun _ => true) (fun j => V.bl (j == i)) hD2 (by decide) (fun x => rfl) (fun j H2 Q' _ s3 qq => qq _ (Same.refl _)) (fun j H2 Q' _ _ s3 qq => ?_) (fun H' s3 h' => ?_)⟩
    · have e : decide (V.int (0 + (j : Int)) = V.int (0 + (i : Int))) = (j == i) := by
        rw [Bool.eq_iff_iff]
        simp
        omega
      refine ⟨_, rfl, _, rfl, rfl, ?_⟩
      rw [e]
      exact qq _ (Same.refl _)
    · rw [gives_all] at h'
      have sA := (s.trans s2).trans s3
      have er := ErAt.same sA ea
      obtain ⟨d, hd1, hd2⟩ := er
      rw [mk18_bv] at gr
      refine neD_bools (bs := (List.range 18).map fun j => j == i) (SqL.of (s3 _ _ gr)) (SqL.of (by rw [h']; unfold bv; rw [List.map_map]; rfl)) ⟨_, rfl, iteF ?_⟩
      refine ⟨_, rfl, _, rfl, p5, _, _, _, rfl, rfl, SqL.of (sA _ _ h5), ia', a, D, d, _, _, _, rfl, ⟨.inr hd1, hd2⟩, ek.ex, .own _, ks, _, rfl, iteF ?_⟩
      refine ⟨_, rfl, _, rfl, p5, _, _, _, rfl, rfl, SqL.of (sA _ _ h5), ia', a, D, d, _, _, _, rfl, ⟨.inr hd1, hd2⟩, ek.ex, .ty _, kv, _, rfl, iteF ⟨⟨_, rfl⟩, sA⟩⟩
  · rintro σ G ⟨⟨v, rfl⟩, s⟩
    dsimp only
    have xT : XfC K C_TooDeepError := ⟨y_TooDeepError.ex.hg, y_TooDeepError.ex.hk, y_TooDeepError.ex.hs, y_TooDeepError.ex.hd⟩
    have xO : XfC K C_InvalidObservationsError := ⟨y_InvalidObservationsError.ex.hg, y_InvalidObservationsError.ex.hk, y_InvalidObservationsError.ex.hs, y_InvalidObservationsError.ex.hd⟩
    have sG := c0.trans s
    clear s tab
    refine ⟨_, rfl, _, rfl, fun b0 e0 nd0 nb0 z0 => ⟨b0, C_TooDeepError, e0, _, _, rfl, ⟨.inr upd_same, .inr ⟨e0, _, rfl, xd_ini z0⟩⟩, xd_ini z0, xT, i_TooDeepError.no, rfl, ?_⟩⟩
    have w0 := sG.trans (same_ini (o := .xd [("line", .int n)]) (u := ErO (.ref C_TooDeepError) (some e0) b0) nd0 nb0 z0)
    generalize upd (upd G e0 (.xd [("line", .int n)])) b0 (ErO (.ref C_TooDeepError) (some e0) b0) = G0 at w0 ⊢
    refine ⟨_, rfl, _, rfl, fun b1 e1 nd1 nb1 z1 => ⟨b1, C_TooDeepError, e1, _, _, rfl, ⟨.inr upd_same, .inr ⟨e1, _, rfl, xd_ini z1⟩⟩, xd_ini z1, xT, i_TooDeepError.no, rfl, ?_⟩⟩
    have w1 := w0.trans (same_ini (o := .xd [("line", .int n)]) (u := ErO (.ref C_TooDeepError) (some e1) b1) nd1 nb1 z1)
    generalize upd (upd G0 e1 (.xd [("line", .int n)])) b1 (ErO (.ref C_TooDeepError) (some e1) b1) = G1 at w1 ⊢
    refine ⟨_, rfl, _, rfl, fun b2 e2 nd2 nb2 z2 => ⟨b2, C_InvalidObservationsError, e2, _, _, rfl, ⟨.inr upd_same, .inr ⟨e2, _, rfl, xd_ini z2⟩⟩, xd_ini z2, xO, i_InvalidObservationsError.no, rfl, ?_⟩⟩
    have w2 := w1.trans (same_ini (o := .xd [("index", .int n)]) (u := ErO (.ref C_InvalidObservationsError) (some e2) b2) nd2 nb2 z2)
    generalize upd (upd G1 e2 (.xd [("index", .int n)])) b2 (ErO (.ref C_InvalidObservationsError) (some e2) b2) = G2 at w2 ⊢
    refine ⟨(by decide : 3 ≤ sizeLine), fun v0 u0 => ?_⟩
    have w3 := w2.trans (Same.new (o := .lst (iv [n, n, n])) u0)
    have hv0 : upd G2 v0 (.lst (iv [n, n, n])) v0 = some (.lst (iv [n, n, n])) := upd_same
    change gName 4 _ _ (upd G2 v0 (.lst (iv [n, n, n]))) _
    generalize upd G2 v0 (.lst (iv [n, n, n])) = G3 at w3 hv0 ⊢
    refine ⟨_, rfl, _, rfl, _, rfl, fun b3 e3 nd3 nb3 z3 => ⟨b3, C_InvalidObservationsError, e3, _, _, rfl, ⟨.inr upd_same, .inr ⟨e3, _, rfl, xd_ini z3⟩⟩, xd_ini z3, xO, i_InvalidObservationsError.no, rfl, ?_⟩⟩
    have y3 := same_ini (o := .xd [("index", .int n)]) (u := ErO (.ref C_InvalidObservationsError) (some e3) b3) nd3 nb3 z3
    generalize upd (upd G3 e3 (.xd [("index", .int n)])) b3 (ErO (.ref C_InvalidObservationsError) (some e3) b3) = G4 at y3 ⊢
    refine ⟨(by decide : 1 ≤ sizeLine), fun v1 u1 => ⟨v0, v1, _, _, rfl, rfl, SqL.of ((y3.trans (Same.new u1)) _ _ hv0), SqL.of upd_same, (by decide : 4 ≤ sizeLine), fun v2 u2 => ?_⟩⟩
    have w4 := ((w3.trans y3).trans (Same.new (o := .lst [.int n]) u1)).trans (Same.new (o := .lst (iv [n, n, n] ++ [.int n])) u2)
    have hv2 : upd (upd G4 v1 (.lst [.int n])) v2 (.lst (iv [n, n, n] ++ [.int n])) v2 = some (.lst (iv [n, n, n, n])) := upd_same
    generalize upd (upd G4 v1 (.lst [.int n])) v2 (.lst (iv [n, n, n] ++ [.int n])) = G5 at w4 hv2 ⊢
    refine ⟨_, rfl, _, rfl, (by decide : 1 ≤ sizeLine), fun v3 u3 => ⟨v3, 4, [.int n], rfl, rfl, upd_same, by decide, by decide, (by show 1 * 4 ≤ sizeLine; decide), fun v4 u4 => ?_⟩⟩
    have y5 := (Same.new (o := .lst [.int n]) u3).trans (Same.new (o := .lst (List.replicate (4 : Int).toNat [V.int n]).flatten) u4)
    refine eqD_ints (ns := [n, n, n, n]) (ms := [n, n, n, n]) (SqL.of (y5 _ _ hv2)) (SqL.of upd_same) ⟨_, rfl, ?_⟩
    rw [if_pos (decide_eq_true rfl)]
    generalize upd (upd G5 v3 (.lst [.int n])) v4 (.lst (List.replicate (4 : Int).toNat [V.int n]).flatten) = G6 at y5 ⊢
    refine ⟨_, rfl, _, rfl, fun b4 nb4 => ⟨b4, C_StickyHeadsError, fun _ => false, rfl, erAt_new, kz_of y_StickyHeadsError, fun r G7 nr s7 gr => ⟨r, _, rfl, .inl (SqL.of gr), rfl, rfl, ?_⟩⟩⟩
    exact q _ (((w4.trans y5).trans (Same.new nb4)).trans s7)
end
end SH

namespace SH
open PySem PySem.Spec PyProof.Rows L2
/-- slices of lists of ints -/
def cutI (l : List Int) (lo hi : Option Int) : List Int := (l.drop (HT.sIx l.length 0 lo)).take (HT.sIx l.length l.length hi - HT.sIx l.length 0 lo)
theorem cutV_iv (l : List Int) (lo hi : Option Int) : cutV (iv l) lo hi = iv (cutI l lo hi) := by
  unfold cutV cutI iv
  rw [List.map_take, List.map_drop, List.length_map]
theorem cutI_len (l : List Int) (lo hi : Option Int) : (cutI l lo hi).length ≤ l.length := by
  unfold cutI
  rw [List.length_take, List.length_drop]
  omega
abbrev s_law : Stmt := topS 25
abbrev N_law : List Str := ["script", "cells", "k", "bag", "message"]
abbrev P_law : List Str := ["script"]
theorem sc_law : FnScope N_law P_law (defScope s_law) := ⟨rfl, rfl, rfl, by decide +kernel, rfl, by decide +kernel, by decide +kernel⟩
section
variable {P : Program} {w : World} {K : PySem.W.Frag} {mg : Str → Option Value} {base : Heap}
def sp_law (K : PySem.W.Frag) : Sp := fun vs H Q _ => ∃ (a : Addr) (ns : List Int), vs = [.ref a] ∧ SqL K H a (iv ns) ∧ ns.length ≤ 63 ∧ ∀ H', Q (.bl true) H'
theorem ok_law (T : Txt mg) (h : At K mg "law" s_law)
    (g_law_bag : Has P w K mg base CX0 1 "_law_bag" s_law_bag P_law_bag sp_bag)
    (g_law_draw : Has P w K mg base CX0 1 "_law_draw" s_law_draw P_law_draw sp_draw)
    (g_law_right : Has P w K mg base CX0 2 "_law_right" s_law_right P_law_right sp_right86) :
    Has P w K mg base CX0 3 "law" s_law P_law (sp_law K) := by
  refine Has.of h sc_law (fun vs H Q E h => ?_) (fun _ _ _ _ _ _ us hl => match us, hl with | [_], _ => rfl) (fun f cdv A outer s H vs Q E room qt h => ?_)
  · obtain ⟨a, ns, rfl, _⟩ := h; rfl
  obtain ⟨a, ns, rfl, ha, hl, k⟩ := h
  refine ⟨_, (pss_cons (ps_set (i := 1) sc_law.nd rfl (Or.inl rfl) (pe_op op_catS (pe_slice sl_list (pv 0) po_none (po_some pe_int)) (pe_op op_rep (pe_lst (pa_cons pe_int pa_nil)) (pe_callTy call_int1 (by rfl) T.tint (by decide +kernel) (pa_cons (pe_cmpR (op_eqD room.units) (pv 0) (pe_lst pa_nil) (nomark _)) pa_nil)))))
      (pss_cons (ps_for PassesOwn.never rfl (pi_range1 (by rfl) T.range (pa_cons (pe_callB call_len_seq (by rfl) T.len (by decide +kernel) (pa_cons (pv 1) pa_nil)) pa_nil)) (pg_name (i := 2) sc_law.nd rfl (Or.inl rfl) (hf := Or.inl rfl))
        (pss_cons (ps_set (i := 3) sc_law.nd rfl (Or.inl rfl) (pe_has g_law_bag (room.mono (by decide)) qt (by rfl) pass0 (pa_cons (pe_ix ix_list (pv 1) (pv 2) (fun _ _ => rfl)) (pa_cons (pv 2) pa_nil))))
        (pss_cons (ps_set (i := 4) sc_law.nd rfl (Or.inl rfl) (pe_op op_repStr (pe_ix ix_str pe_str (pe_has g_law_draw (room.mono (by decide)) qt (by rfl) pass0 (pa_cons (pv 3) (pa_cons pe_int pa_nil))) (fun _ _ => rfl)) (pe_has g_law_draw (room.mono (by decide)) qt (by rfl) pass0 (pa_cons (pv 3) (pa_cons pe_int pa_nil)))))
        (pss_one (ps_if (pt_not (pt_val (pe_has g_law_right (room.mono (by decide)) qt (by rfl) pass0 (pa_cons (pv 4) (pa_cons (pe_has g_law_draw (room.mono (by decide)) qt (by rfl) pass0 (pa_cons (pv 3) (pa_cons (pe_op op_powG pe_int pe_int) pa_nil))) pa_nil)))))
          (pss_one (ps_ret pe_bl))
          pss_nil)))))
      (pss_one (ps_ret pe_bl)))), ?_⟩
  have el : (iv ns).length = ns.length := List.length_map _
  refine ⟨_, rfl, _, rfl, a, iv ns, rfl, ha, fun p1 n1 => ?_⟩
  rw [cutV_iv]
  have c1 := cutI_len ns none (some 12)
  refine ⟨(by decide : 1 ≤ sizeLine), fun p2 n2 => ?_⟩
  have s2 := (Same.new (o := .lst (iv (cutI ns none (some 12)))) n1).trans (Same.new (o := .lst [.int 0]) n2)
  have h1 := Same.new (o := .lst [.int 0]) n2 _ _ (upd_same (H := H) (a := p1) (o := .lst (iv (cutI ns none (some 12)))))
  have h2 := upd_same (H := upd H p1 (.lst (iv (cutI ns none (some 12))))) (a := p2) (o := .lst [.int 0])
  generalize upd (upd H p1 (.lst (iv (cutI ns none (some 12))))) p2 (.lst [.int 0]) = H2 at s2 h1 h2 ⊢
  refine ⟨_, rfl, (by decide : 0 ≤ sizeLine), fun p3 n3 => eqD_ints (ns := ns) (ms := []) ((s2.trans (Same.new n3)).seq ha) (SqL.of upd_same) (.inr ⟨_, rfl, ?_⟩)⟩
  obtain ⟨t, et, tl⟩ : ∃ t : Nat, (if decide (ns = []) = true then 1 else 0 : Int) = t ∧ t ≤ 1 := by
    by_cases c : ns = []
    · exact ⟨1, by rw [if_pos (decide_eq_true c)]; rfl, Nat.le_refl _⟩
    · exact ⟨0, by rw [if_neg (by rw [decide_eq_false c]; decide)]; rfl, Nat.zero_le _⟩
  rw [et]
  have s3 := s2.trans (Same.new (o := .lst []) n3)
  have h1 := Same.new (o := .lst []) n3 _ _ h1
  have h2 := Same.new (o := .lst []) n3 _ _ h2
  generalize upd H2 p3 (.lst []) = H3 at s3 h1 h2 ⊢
  have ef : (List.replicate ((t : Nat) : Int).toNat [V.int 0]).flatten = iv (List.replicate t (0 : Int)) := by
    rw [Int.toNat_natCast]
    rcases (show t = 0 ∨ t = 1 by omega) with rfl | rfl <;> rfl
  refine ⟨p2, _, _, rfl, rfl, h2, by omega, by omega, (by rw [Int.toNat_natCast]; show 1 * t ≤ sizeLine; exact Nat.le_trans (by omega) (show 1 ≤ sizeLine by decide)), fun p4 n4 => ?_⟩
  rw [ef]
  have s4 := s3.trans (Same.new (o := .lst (iv (List.replicate t (0 : Int)))) n4)
  have h1 := Same.new (o := .lst (iv (List.replicate t (0 : Int)))) n4 _ _ h1
  have h4 := upd_same (H := H3) (a := p4) (o := .lst (iv (List.replicate t (0 : Int))))
  generalize upd H3 p4 (.lst (iv (List.replicate t (0 : Int)))) = H4 at s4 h1 h4 ⊢
  have ec : iv (cutI ns none (some 12)) ++ iv (List.replicate t (0 : Int)) = iv (cutI ns none (some 12) ++ List.replicate t 0) := (List.map_append).symm
  have lm : (cutI ns none (some 12) ++ List.replicate t 0).length ≤ 64 := by rw [List.length_append, List.length_replicate]; omega
  refine ⟨p1, p4, _, _, rfl, rfl, SqL.of h1, SqL.of h4, Nat.le_of_lt (small_line (by rw [← List.length_append, ec, List.length_map]; omega)), fun p5 n5 => ?_⟩
  rw [ec]
  have s5 := s4.trans (Same.new (o := .lst (iv (cutI ns none (some 12) ++ List.replicate t 0))) n5)
  have h5 := upd_same (H := H4) (a := p5) (o := .lst (iv (cutI ns none (some 12) ++ List.replicate t 0)))
  generalize upd H4 p5 (.lst (iv (cutI ns none (some 12) ++ List.replicate t 0))) = H5 at s5 h5 ⊢
  generalize cutI ns none (some 12) ++ List.replicate t 0 = ms at h5 lm ⊢
  have em : (iv ms).length = ms.length := List.length_map _
  refine ⟨_, rfl, p5, _, rfl, .inl (SqL.of h5), ?_⟩
  refine ⟨_, rfl, by omega, by omega, for_range (lo := 0) (n := (((iv ms).length : Nat) : Int).toNat) (fun i σ H6 => (∃ v1 v2 v3, σ = [some (.ref a), some (.ref p5), v1, v2, v3]) ∧ Same H5 H6)
    ⟨⟨_, _, _, rfl⟩, Same.refl _⟩ ?_ (fun σ H6 _ => k H6)⟩
  rintro i σ H6 hi ⟨⟨v1, v2, v3, rfl⟩, s6⟩
  have il : i < ms.length := by rw [Int.toNat_natCast] at hi; omega
  refine ⟨_, rfl, _, rfl, p5, iv ms, _, _, rfl, rfl, SqL.of (s6 _ _ h5), atI_iv (by omega) (by omega), _, rfl, _, _, rfl, by omega, by omega, fun g H7 hg s7 g7 => ?_⟩
  have s67 := s6.trans s7
  have hg5 : H5 g = none := s6.free hg
  refine ⟨_, rfl, g, 4, _, rfl, g7, by decide, by decide, by decide, fun r H8 r0 r1 b8 g8 => ?_⟩
  obtain ⟨c, hc⟩ : ∃ c, atI (Str.ofString "a| ~").cps.toList r = some c := by
    rcases (show r = 0 ∨ r = 1 ∨ r = 2 ∨ r = 3 by omega) with rfl | rfl | rfl | rfl <;> exact ⟨_, rfl⟩
  refine ⟨_, _, c, rfl, rfl, (by decide : (4 : Nat) ≤ sizeLine), hc, ?_⟩
  refine ⟨_, rfl, g, 60, _, rfl, g8, by decide, by decide, by decide, fun r2 H9 r20 r21 b9 g9 => ?_⟩
  refine ⟨_, _, rfl, rfl, r20, by omega, (by show (1 : Nat) ≤ 1000; decide), fun m => ?_⟩
  refine ⟨_, rfl, _, rfl, 10, 9, rfl, rfl, ⟨by decide, by decide +kernel⟩, g, _, _, rfl, g9, by decide, by show (0 : Int) < 10 ^ 9; decide, by show (10 : Int) ^ 9 ≤ _; decide, fun num H10 _ _ b10 g10 => ?_⟩
  refine ⟨m, num, rfl, fun H11 s11 => ⟨_, rfl, iteF ?_⟩⟩
  exact ⟨⟨_, _, _, rfl⟩, (Same.but s67 hg5 ((b8.trans b9).trans b10)).trans s11⟩
end
end SH

namespace SH
open PySem PySem.Spec PyProof.Rows L2
/-! ### the end -/
theorem all_mk {l : PySem.W.OpenLaw} {w : World} {K : PySem.W.Frag} {h : Heap} {mg : Str → Option Value} {fa : Addr} (X : K.In h) (G : h.Ns mainGlobals mg) (hfa : mg "law" = some (.ref fa))
    {f0 f1 f2 f3 f4 : Addr} {od0 an0 od1 an1 od2 an2 od3 an3 od4 an4 : Option Addr} {sl0 sl1 sl2 sl3 sl4 : Array (Option Value)}
    {oc0 kV0 dc0 pm0 cd0 ct0 oc1 kV1 dc1 pm1 cd1 ct1 oc2 kV2 dc2 pm2 cd2 ct2 oc3 kV3 dc3 pm3 cd3 ct3 oc4 kV4 dc4 pm4 cd4 ct4 : Value}
    (a0 : PySem.W.nsIn K mainGlobals "_law_bag" = some (some (.ref f0)))
    (l0 : K.lookup f0 = some ⟨oc0, od0, .func (PySem.W.fnOf "_law_bag" "_law_bag" (defArgs s_law_bag) (defBody s_law_bag) (defScope s_law_bag) .none kV0 dc0 pm0 an0 cd0 ct0), sl0⟩)
    (c0 : PySem.W.codeIn K cd0 "_law_bag" = true) (k0 : PySem.W.keepIn K (.ref f0) = true)
    (a1 : PySem.W.nsIn K mainGlobals "_law_draw" = some (some (.ref f1)))
    (l1 : K.lookup f1 = some ⟨oc1, od1, .func (PySem.W.fnOf "_law_draw" "_law_draw" (defArgs s_law_draw) (defBody s_law_draw) (defScope s_law_draw) .none kV1 dc1 pm1 an1 cd1 ct1), sl1⟩)
    (c1 : PySem.W.codeIn K cd1 "_law_draw" = true) (k1 : PySem.W.keepIn K (.ref f1) = true)
    (a2 : PySem.W.nsIn K mainGlobals "_law_marks" = some (some (.ref f2)))
    (l2 : K.lookup f2 = some ⟨oc2, od2, .func (PySem.W.fnOf "_law_marks" "_law_marks" (defArgs s_law_marks) (defBody s_law_marks) (defScope s_law_marks) .none kV2 dc2 pm2 an2 cd2 ct2), sl2⟩)
    (c2 : PySem.W.codeIn K cd2 "_law_marks" = true) (k2 : PySem.W.keepIn K (.ref f2) = true)
    (a3 : PySem.W.nsIn K mainGlobals "_law_right" = some (some (.ref f3)))
    (l3 : K.lookup f3 = some ⟨oc3, od3, .func (PySem.W.fnOf "_law_right" "_law_right" (defArgs s_law_right) (defBody s_law_right) (defScope s_law_right) .none kV3 dc3 pm3 an3 cd3 ct3), sl3⟩)
    (c3 : PySem.W.codeIn K cd3 "_law_right" = true) (k3 : PySem.W.keepIn K (.ref f3) = true)
    (a4 : PySem.W.nsIn K mainGlobals "law" = some (some (.ref f4)))
    (l4 : K.lookup f4 = some ⟨oc4, od4, .func (PySem.W.fnOf "law" "law" (defArgs s_law) (defBody s_law) (defScope s_law) .none kV4 dc4 pm4 an4 cd4 ct4), sl4⟩)
    (c4 : PySem.W.codeIn K cd4 "law" = true) (k4 : PySem.W.keepIn K (.ref f4) = true)
    (z_len : PySem.W.nsIn K mainGlobals "len" = some none)
    (z_range : PySem.W.nsIn K mainGlobals "range" = some none)
    (z_repr : PySem.W.nsIn K mainGlobals "repr" = some none)
    (z_min : PySem.W.nsIn K mainGlobals "min" = some none)
    (z_max : PySem.W.nsIn K mainGlobals "max" = some none)
    (z_int : PySem.W.nsIn K mainGlobals "int" = some none)
    (z_list : PySem.W.nsIn K mainGlobals "list" = some none)
    (z_type : PySem.W.nsIn K mainGlobals "type" = some none)
    (z_bool : PySem.W.nsIn K mainGlobals "bool" = some none)
    (z_tuple : PySem.W.nsIn K mainGlobals "tuple" = some none)
    (z_isinstance : PySem.W.nsIn K mainGlobals "isinstance" = some none)
    (z_enumerate : PySem.W.nsIn K mainGlobals "enumerate" = some none)
    (z_str : PySem.W.nsIn K mainGlobals "str" = some none)
    (z_zip : PySem.W.nsIn K mainGlobals "zip" = some none)
    (z_all : PySem.W.nsIn K mainGlobals "all" = some none)
    (z_any : PySem.W.nsIn K mainGlobals "any" = some none)
    (z_sum : PySem.W.nsIn K mainGlobals "sum" = some none)
    (z_abs : PySem.W.nsIn K mainGlobals "abs" = some none)
    (z_sorted : PySem.W.nsIn K mainGlobals "sorted" = some none)
    (z_set : PySem.W.nsIn K mainGlobals "set" = some none)
    (z_dict : PySem.W.nsIn K mainGlobals "dict" = some none)
    (z_reversed : PySem.W.nsIn K mainGlobals "reversed" = some none)
    (z_divmod : PySem.W.nsIn K mainGlobals "divmod" = some none)
    {C_InvalidObservationsError : Addr} (ea_InvalidObservationsError : PySem.W.nsIn K mainGlobals "InvalidObservationsError" = some (some (.ref C_InvalidObservationsError)))
    {C_TooDeepError : Addr} (ea_TooDeepError : PySem.W.nsIn K mainGlobals "TooDeepError" = some (some (.ref C_TooDeepError)))
    (zn_super : PySem.W.nsIn K mainGlobals "super" = some none)
    (zn_ValueError : PySem.W.nsIn K mainGlobals "ValueError" = some none)
    {C_EmptyHistoryError : Addr} (ea_EmptyHistoryError : PySem.W.nsIn K mainGlobals "EmptyHistoryError" = some (some (.ref C_EmptyHistoryError))) (eq_EmptyHistoryError : PySem.W.excIn K C_EmptyHistoryError HandSPX.veTail "ValueError.__new__" = true) (ek_EmptyHistoryError : PySem.W.keepIn K (.ref C_EmptyHistoryError) = true)
    (ee_EmptyHistoryError : PySem.W.subIn K (.ref C_EmptyHistoryError) (.type "BaseException") = some true) (et_EmptyHistoryError : PySem.W.typeIn K (.ref C_EmptyHistoryError) = some (.type "type"))
    {C_EmptyOutlineError : Addr} (ea_EmptyOutlineError : PySem.W.nsIn K mainGlobals "EmptyOutlineError" = some (some (.ref C_EmptyOutlineError))) (eq_EmptyOutlineError : PySem.W.excIn K C_EmptyOutlineError HandSPX.veTail "ValueError.__new__" = true) (ek_EmptyOutlineError : PySem.W.keepIn K (.ref C_EmptyOutlineError) = true)
    (ee_EmptyOutlineError : PySem.W.subIn K (.ref C_EmptyOutlineError) (.type "BaseException") = some true) (et_EmptyOutlineError : PySem.W.typeIn K (.ref C_EmptyOutlineError) = some (.type "type"))
    {C_EndError : Addr} (ea_EndError : PySem.W.nsIn K mainGlobals "EndError" = some (some (.ref C_EndError))) (eq_EndError : PySem.W.excIn K C_EndError HandSPX.veTail "ValueError.__new__" = true) (ek_EndError : PySem.W.keepIn K (.ref C_EndError) = true)
    (ee_EndError : PySem.W.subIn K (.ref C_EndError) (.type "BaseException") = some true) (et_EndError : PySem.W.typeIn K (.ref C_EndError) = some (.type "type"))
    {C_HiddenLineError : Addr} (ea_HiddenLineError : PySem.W.nsIn K mainGlobals "HiddenLineError" = some (some (.ref C_HiddenLineError))) (eq_HiddenLineError : PySem.W.excIn K C_HiddenLineError HandSPX.veTail "ValueError.__new__" = true) (ek_HiddenLineError : PySem.W.keepIn K (.ref C_HiddenLineError) = true)
    (ee_HiddenLineError : PySem.W.subIn K (.ref C_HiddenLineError) (.type "BaseException") = some true) (et_HiddenLineError : PySem.W.typeIn K (.ref C_HiddenLineError) = some (.type "type"))
    {C_InvalidDepthError : Addr} (ea_InvalidDepthError : PySem.W.nsIn K mainGlobals "InvalidDepthError" = some (some (.ref C_InvalidDepthError))) (eq_InvalidDepthError : PySem.W.excIn K C_InvalidDepthError HandSPX.veTail "ValueError.__new__" = true) (ek_InvalidDepthError : PySem.W.keepIn K (.ref C_InvalidDepthError) = true)
    (ee_InvalidDepthError : PySem.W.subIn K (.ref C_InvalidDepthError) (.type "BaseException") = some true) (et_InvalidDepthError : PySem.W.typeIn K (.ref C_InvalidDepthError) = some (.type "type"))
    {C_InvalidDocumentError : Addr} (ea_InvalidDocumentError : PySem.W.nsIn K mainGlobals "InvalidDocumentError" = some (some (.ref C_InvalidDocumentError))) (eq_InvalidDocumentError : PySem.W.excIn K C_InvalidDocumentError HandSPX.veTail "ValueError.__new__" = true) (ek_InvalidDocumentError : PySem.W.keepIn K (.ref C_InvalidDocumentError) = true)
    (ee_InvalidDocumentError : PySem.W.subIn K (.ref C_InvalidDocumentError) (.type "BaseException") = some true) (et_InvalidDocumentError : PySem.W.typeIn K (.ref C_InvalidDocumentError) = some (.type "type"))
    {C_InvalidFoldsError : Addr} (ea_InvalidFoldsError : PySem.W.nsIn K mainGlobals "InvalidFoldsError" = some (some (.ref C_InvalidFoldsError))) (eq_InvalidFoldsError : PySem.W.excIn K C_InvalidFoldsError HandSPX.veTail "ValueError.__new__" = true) (ek_InvalidFoldsError : PySem.W.keepIn K (.ref C_InvalidFoldsError) = true)
    (ee_InvalidFoldsError : PySem.W.subIn K (.ref C_InvalidFoldsError) (.type "BaseException") = some true) (et_InvalidFoldsError : PySem.W.typeIn K (.ref C_InvalidFoldsError) = some (.type "type"))
    {C_InvalidHeightError : Addr} (ea_InvalidHeightError : PySem.W.nsIn K mainGlobals "InvalidHeightError" = some (some (.ref C_InvalidHeightError))) (eq_InvalidHeightError : PySem.W.excIn K C_InvalidHeightError HandSPX.veTail "ValueError.__new__" = true) (ek_InvalidHeightError : PySem.W.keepIn K (.ref C_InvalidHeightError) = true)
    (ee_InvalidHeightError : PySem.W.subIn K (.ref C_InvalidHeightError) (.type "BaseException") = some true) (et_InvalidHeightError : PySem.W.typeIn K (.ref C_InvalidHeightError) = some (.type "type"))
    {C_InvalidLineError : Addr} (ea_InvalidLineError : PySem.W.nsIn K mainGlobals "InvalidLineError" = some (some (.ref C_InvalidLineError))) (eq_InvalidLineError : PySem.W.excIn K C_InvalidLineError HandSPX.veTail "ValueError.__new__" = true) (ek_InvalidLineError : PySem.W.keepIn K (.ref C_InvalidLineError) = true)
    (ee_InvalidLineError : PySem.W.subIn K (.ref C_InvalidLineError) (.type "BaseException") = some true) (et_InvalidLineError : PySem.W.typeIn K (.ref C_InvalidLineError) = some (.type "type"))
    {C_InvalidNumberError : Addr} (ea_InvalidNumberError : PySem.W.nsIn K mainGlobals "InvalidNumberError" = some (some (.ref C_InvalidNumberError))) (eq_InvalidNumberError : PySem.W.excIn K C_InvalidNumberError HandSPX.veTail "ValueError.__new__" = true) (ek_InvalidNumberError : PySem.W.keepIn K (.ref C_InvalidNumberError) = true)
    (ee_InvalidNumberError : PySem.W.subIn K (.ref C_InvalidNumberError) (.type "BaseException") = some true) (et_InvalidNumberError : PySem.W.typeIn K (.ref C_InvalidNumberError) = some (.type "type"))
    {C_InvalidOutlineError : Addr} (ea_InvalidOutlineError : PySem.W.nsIn K mainGlobals "InvalidOutlineError" = some (some (.ref C_InvalidOutlineError))) (eq_InvalidOutlineError : PySem.W.excIn K C_InvalidOutlineError HandSPX.veTail "ValueError.__new__" = true) (ek_InvalidOutlineError : PySem.W.keepIn K (.ref C_InvalidOutlineError) = true)
    (ee_InvalidOutlineError : PySem.W.subIn K (.ref C_InvalidOutlineError) (.type "BaseException") = some true) (et_InvalidOutlineError : PySem.W.typeIn K (.ref C_InvalidOutlineError) = some (.type "type"))
    {C_InvalidReadingError : Addr} (ea_InvalidReadingError : PySem.W.nsIn K mainGlobals "InvalidReadingError" = some (some (.ref C_InvalidReadingError))) (eq_InvalidReadingError : PySem.W.excIn K C_InvalidReadingError HandSPX.veTail "ValueError.__new__" = true) (ek_InvalidReadingError : PySem.W.keepIn K (.ref C_InvalidReadingError) = true)
    (ee_InvalidReadingError : PySem.W.subIn K (.ref C_InvalidReadingError) (.type "BaseException") = some true) (et_InvalidReadingError : PySem.W.typeIn K (.ref C_InvalidReadingError) = some (.type "type"))
    {C_InvalidScrollError : Addr} (ea_InvalidScrollError : PySem.W.nsIn K mainGlobals "InvalidScrollError" = some (some (.ref C_InvalidScrollError))) (eq_InvalidScrollError : PySem.W.excIn K C_InvalidScrollError HandSPX.veTail "ValueError.__new__" = true) (ek_InvalidScrollError : PySem.W.keepIn K (.ref C_InvalidScrollError) = true)
    (ee_InvalidScrollError : PySem.W.subIn K (.ref C_InvalidScrollError) (.type "BaseException") = some true) (et_InvalidScrollError : PySem.W.typeIn K (.ref C_InvalidScrollError) = some (.type "type"))
    {C_InvalidTextError : Addr} (ea_InvalidTextError : PySem.W.nsIn K mainGlobals "InvalidTextError" = some (some (.ref C_InvalidTextError))) (eq_InvalidTextError : PySem.W.excIn K C_InvalidTextError HandSPX.veTail "ValueError.__new__" = true) (ek_InvalidTextError : PySem.W.keepIn K (.ref C_InvalidTextError) = true)
    (ee_InvalidTextError : PySem.W.subIn K (.ref C_InvalidTextError) (.type "BaseException") = some true) (et_InvalidTextError : PySem.W.typeIn K (.ref C_InvalidTextError) = some (.type "type"))
    {C_InvalidTitleError : Addr} (ea_InvalidTitleError : PySem.W.nsIn K mainGlobals "InvalidTitleError" = some (some (.ref C_InvalidTitleError))) (eq_InvalidTitleError : PySem.W.excIn K C_InvalidTitleError HandSPX.veTail "ValueError.__new__" = true) (ek_InvalidTitleError : PySem.W.keepIn K (.ref C_InvalidTitleError) = true)
    (ee_InvalidTitleError : PySem.W.subIn K (.ref C_InvalidTitleError) (.type "BaseException") = some true) (et_InvalidTitleError : PySem.W.typeIn K (.ref C_InvalidTitleError) = some (.type "type"))
    {C_TooManyLinesError : Addr} (ea_TooManyLinesError : PySem.W.nsIn K mainGlobals "TooManyLinesError" = some (some (.ref C_TooManyLinesError))) (eq_TooManyLinesError : PySem.W.excIn K C_TooManyLinesError HandSPX.veTail "ValueError.__new__" = true) (ek_TooManyLinesError : PySem.W.keepIn K (.ref C_TooManyLinesError) = true)
    (ee_TooManyLinesError : PySem.W.subIn K (.ref C_TooManyLinesError) (.type "BaseException") = some true) (et_TooManyLinesError : PySem.W.typeIn K (.ref C_TooManyLinesError) = some (.type "type"))
    {C_StickyHeadsError : Addr} (ea_StickyHeadsError : PySem.W.nsIn K mainGlobals "StickyHeadsError" = some (some (.ref C_StickyHeadsError))) (eq_StickyHeadsError : PySem.W.excIn K C_StickyHeadsError HandSPX.veTail "ValueError.__new__" = true) (ek_StickyHeadsError : PySem.W.keepIn K (.ref C_StickyHeadsError) = true)
    (ee_StickyHeadsError : PySem.W.subIn K (.ref C_StickyHeadsError) (.type "BaseException") = some true) (et_StickyHeadsError : PySem.W.typeIn K (.ref C_StickyHeadsError) = some (.type "type"))
    (yg_EmptyHistoryError : PySem.W.findIn K (.ref C_EmptyHistoryError) "__getattribute__" = some (some (.builtin "BaseException.__getattribute__"))) (yh_EmptyHistoryError : PySem.W.findIn K (.ref C_EmptyHistoryError) "__getattr__" = some none) (yd_EmptyHistoryError : PySem.W.hasDictIn K C_EmptyHistoryError = true) (ys_EmptyHistoryError : PySem.W.subIn K (.ref C_EmptyHistoryError) (.type "BaseException") = some true)
    (ya_EmptyHistoryError : PySem.W.findIn K (.ref C_EmptyHistoryError) "__class__" = some (some (.builtin "object.__class__"))) (ym_EmptyHistoryError : PySem.W.mroIn K C_EmptyHistoryError (.type "object") = some true) (yk_EmptyHistoryError : Kits K C_EmptyHistoryError (kq C_EmptyHistoryError C_EmptyOutlineError C_EndError C_HiddenLineError C_InvalidDepthError C_InvalidDocumentError C_InvalidFoldsError C_InvalidHeightError C_InvalidLineError C_InvalidNumberError C_InvalidObservationsError C_InvalidOutlineError C_InvalidReadingError C_InvalidScrollError C_InvalidTextError C_InvalidTitleError C_TooDeepError C_TooManyLinesError C_StickyHeadsError 0))
    (yg_EmptyOutlineError : PySem.W.findIn K (.ref C_EmptyOutlineError) "__getattribute__" = some (some (.builtin "BaseException.__getattribute__"))) (yh_EmptyOutlineError : PySem.W.findIn K (.ref C_EmptyOutlineError) "__getattr__" = some none) (yd_EmptyOutlineError : PySem.W.hasDictIn K C_EmptyOutlineError = true) (ys_EmptyOutlineError : PySem.W.subIn K (.ref C_EmptyOutlineError) (.type "BaseException") = some true)
    (ya_EmptyOutlineError : PySem.W.findIn K (.ref C_EmptyOutlineError) "__class__" = some (some (.builtin "object.__class__"))) (ym_EmptyOutlineError : PySem.W.mroIn K C_EmptyOutlineError (.type "object") = some true) (yk_EmptyOutlineError : Kits K C_EmptyOutlineError (kq C_EmptyHistoryError C_EmptyOutlineError C_EndError C_HiddenLineError C_InvalidDepthError C_InvalidDocumentError C_InvalidFoldsError C_InvalidHeightError C_InvalidLineError C_InvalidNumberError C_InvalidObservationsError C_InvalidOutlineError C_InvalidReadingError C_InvalidScrollError C_InvalidTextError C_InvalidTitleError C_TooDeepError C_TooManyLinesError C_StickyHeadsError 1))
    (yg_EndError : PySem.W.findIn K (.ref C_EndError) "__getattribute__" = some (some (.builtin "BaseException.__getattribute__"))) (yh_EndError : PySem.W.findIn K (.ref C_EndError) "__getattr__" = some none) (yd_EndError : PySem.W.hasDictIn K C_EndError = true) (ys_EndError : PySem.W.subIn K (.ref C_EndError) (.type "BaseException") = some true)
    (ya_EndError : PySem.W.findIn K (.ref C_EndError) "__class__" = some (some (.builtin "object.__class__"))) (ym_EndError : PySem.W.mroIn K C_EndError (.type "object") = some true) (yk_EndError : Kits K C_EndError (kq C_EmptyHistoryError C_EmptyOutlineError C_EndError C_HiddenLineError C_InvalidDepthError C_InvalidDocumentError C_InvalidFoldsError C_InvalidHeightError C_InvalidLineError C_InvalidNumberError C_InvalidObservationsError C_InvalidOutlineError C_InvalidReadingError C_InvalidScrollError C_InvalidTextError C_InvalidTitleError C_TooDeepError C_TooManyLinesError C_StickyHeadsError 2))
    (yg_HiddenLineError : PySem.W.findIn K (.ref C_HiddenLineError) "__getattribute__" = some (some (.builtin "BaseException.__getattribute__"))) (yh_HiddenLineError : PySem.W.findIn K (.ref C_HiddenLineError) "__getattr__" = some none) (yd_HiddenLineError : PySem.W.hasDictIn K C_HiddenLineError = true) (ys_HiddenLineError : PySem.W.subIn K (.ref C_HiddenLineError) (.type "BaseException") = some true)
    (ya_HiddenLineError : PySem.W.findIn K (.ref C_HiddenLineError) "__class__" = some (some (.builtin "object.__class__"))) (ym_HiddenLineError : PySem.W.mroIn K C_HiddenLineError (.type "object") = some true) (yk_HiddenLineError : Kits K C_HiddenLineError (kq C_EmptyHistoryError C_EmptyOutlineError C_EndError C_HiddenLineError C_InvalidDepthError C_InvalidDocumentError C_InvalidFoldsError C_InvalidHeightError C_InvalidLineError C_InvalidNumberError C_InvalidObservationsError C_InvalidOutlineError C_InvalidReadingError C_InvalidScrollError C_InvalidTextError C_InvalidTitleError C_TooDeepError C_TooManyLinesError C_StickyHeadsError 3))
    (yg_InvalidDepthError : PySem.W.findIn K (.ref C_InvalidDepthError) "__getattribute__" = some (some (.builtin "BaseException.__getattribute__"))) (yh_InvalidDepthError : PySem.W.findIn K (.ref C_InvalidDepthError) "__getattr__" = some none) (yd_InvalidDepthError : PySem.W.hasDictIn K C_InvalidDepthError = true) (ys_InvalidDepthError : PySem.W.subIn K (.ref C_InvalidDepthError) (.type "BaseException") = some true)
    (ya_InvalidDepthError : PySem.W.findIn K (.ref C_InvalidDepthError) "__class__" = some (some (.builtin "object.__class__"))) (ym_InvalidDepthError : PySem.W.mroIn K C_InvalidDepthError (.type "object") = some true) (yk_InvalidDepthError : Kits K C_InvalidDepthError (kq C_EmptyHistoryError C_EmptyOutlineError C_EndError C_HiddenLineError C_InvalidDepthError C_InvalidDocumentError C_InvalidFoldsError C_InvalidHeightError C_InvalidLineError C_InvalidNumberError C_InvalidObservationsError C_InvalidOutlineError C_InvalidReadingError C_InvalidScrollError C_InvalidTextError C_InvalidTitleError C_TooDeepError C_TooManyLinesError C_StickyHeadsError 4))
    (yg_InvalidDocumentError : PySem.W.findIn K (.ref C_InvalidDocumentError) "__getattribute__" = some (some (.builtin "BaseException.__getattribute__"))) (yh_InvalidDocumentError : PySem.W.findIn K (.ref C_InvalidDocumentError) "__getattr__" = some none) (yd_InvalidDocumentError : PySem.W.hasDictIn K C_InvalidDocumentError = true) (ys_InvalidDocumentError : PySem.W.subIn K (.ref C_InvalidDocumentError) (.type "BaseException") = some true)
    (ya_InvalidDocumentError : PySem.W.findIn K (.ref C_InvalidDocumentError) "__class__" = some (some (.builtin "object.__class__"))) (ym_InvalidDocumentError : PySem.W.mroIn K C_InvalidDocumentError (.type "object") = some true) (yk_InvalidDocumentError : Kits K C_InvalidDocumentError (kq C_EmptyHistoryError C_EmptyOutlineError C_EndError C_HiddenLineError C_InvalidDepthError C_InvalidDocumentError C_InvalidFoldsError C_InvalidHeightError C_InvalidLineError C_InvalidNumberError C_InvalidObservationsError C_InvalidOutlineError C_InvalidReadingError C_InvalidScrollError C_InvalidTextError C_InvalidTitleError C_TooDeepError C_TooManyLinesError C_StickyHeadsError 5))
    (yg_InvalidFoldsError : PySem.W.findIn K (.ref C_InvalidFoldsError) "__getattribute__" = some (some (.builtin "BaseException.__getattribute__"))) (yh_InvalidFoldsError : PySem.W.findIn K (.ref C_InvalidFoldsError) "__getattr__" = some none) (yd_InvalidFoldsError : PySem.W.hasDictIn K C_InvalidFoldsError = true) (ys_InvalidFoldsError : PySem.W.subIn K (.ref C_InvalidFoldsError) (.type "BaseException") = some true)
    (ya_InvalidFoldsError : PySem.W.findIn K (.ref C_InvalidFoldsError) "__class__" = some (some (.builtin "object.__class__"))) (ym_InvalidFoldsError : PySem.W.mroIn K C_InvalidFoldsError (.type "object") = some true) (yk_InvalidFoldsError : Kits K C_InvalidFoldsError (kq C_EmptyHistoryError C_EmptyOutlineError C_EndError C_HiddenLineError C_InvalidDepthError C_InvalidDocumentError C_InvalidFoldsError C_InvalidHeightError C_InvalidLineError C_InvalidNumberError C_InvalidObservationsError C_InvalidOutlineError C_InvalidReadingError C_InvalidScrollError C_InvalidTextError C_InvalidTitleError C_TooDeepError C_TooManyLinesError C_StickyHeadsError 6))
    (yg_InvalidHeightError : PySem.W.findIn K (.ref C_InvalidHeightError) "__getattribute__" = some (some (.builtin "BaseException.__getattribute__"))) (yh_InvalidHeightError : PySem.W.findIn K (.ref C_InvalidHeightError) "__getattr__" = some none) (yd_InvalidHeightError : PySem.W.hasDictIn K C_InvalidHeightError = true) (ys_InvalidHeightError : PySem.W.subIn K (.ref C_InvalidHeightError) (.type "BaseException") = some true)
    (ya_InvalidHeightError : PySem.W.findIn K (.ref C_InvalidHeightError) "__class__" = some (some (.builtin "object.__class__"))) (ym_InvalidHeightError : PySem.W.mroIn K C_InvalidHeightError (.type "object") = some true) (yk_InvalidHeightError : Kits K C_InvalidHeightError (kq C_EmptyHistoryError C_EmptyOutlineError C_EndError C_HiddenLineError C_InvalidDepthError C_InvalidDocumentError C_InvalidFoldsError C_InvalidHeightError C_InvalidLineError C_InvalidNumberError C_InvalidObservationsError C_InvalidOutlineError C_InvalidReadingError C_InvalidScrollError C_InvalidTextError C_InvalidTitleError C_TooDeepError C_TooManyLinesError C_StickyHeadsError 7))
    (yg_InvalidLineError : PySem.W.findIn K (.ref C_InvalidLineError) "__getattribute__" = some (some (.builtin "BaseException.__getattribute__"))) (yh_InvalidLineError : PySem.W.findIn K (.ref C_InvalidLineError) "__getattr__" = some none) (yd_InvalidLineError : PySem.W.hasDictIn K C_InvalidLineError = true) (ys_InvalidLineError : PySem.W.subIn K (.ref C_InvalidLineError) (.type "BaseException") = some true)
    (ya_InvalidLineError : PySem.W.findIn K (.ref C_InvalidLineError) "__class__" = some (some (.builtin "object.__class__"))) (ym_InvalidLineError : PySem.W.mroIn K C_InvalidLineError (.type "object") = some true) (yk_InvalidLineError : Kits K C_InvalidLineError (kq C_EmptyHistoryError C_EmptyOutlineError C_EndError C_HiddenLineError C_InvalidDepthError C_InvalidDocumentError C_InvalidFoldsError C_InvalidHeightError C_InvalidLineError C_InvalidNumberError C_InvalidObservationsError C_InvalidOutlineError C_InvalidReadingError C_InvalidScrollError C_InvalidTextError C_InvalidTitleError C_TooDeepError C_TooManyLinesError C_StickyHeadsError 8))
    (yg_InvalidNumberError : PySem.W.findIn K (.ref C_InvalidNumberError) "__getattribute__" = some (some (.builtin "BaseException.__getattribute__"))) (yh_InvalidNumberError : PySem.W.findIn K (.ref C_InvalidNumberError) "__getattr__" = some none) (yd_InvalidNumberError : PySem.W.hasDictIn K C_InvalidNumberError = true) (ys_InvalidNumberError : PySem.W.subIn K (.ref C_InvalidNumberError) (.type "BaseException") = some true)
    (ya_InvalidNumberError : PySem.W.findIn K (.ref C_InvalidNumberError) "__class__" = some (some (.builtin "object.__class__"))) (ym_InvalidNumberError : PySem.W.mroIn K C_InvalidNumberError (.type "object") = some true) (yk_InvalidNumberError : Kits K C_InvalidNumberError (kq C_EmptyHistoryError C_EmptyOutlineError C_EndError C_HiddenLineError C_InvalidDepthError C_InvalidDocumentError C_InvalidFoldsError C_InvalidHeightError C_InvalidLineError C_InvalidNumberError C_InvalidObservationsError C_InvalidOutlineError C_InvalidReadingError C_InvalidScrollError C_InvalidTextError C_InvalidTitleError C_TooDeepError C_TooManyLinesError C_StickyHeadsError 9))
    (yg_InvalidObservationsError : PySem.W.findIn K (.ref C_InvalidObservationsError) "__getattribute__" = some (some (.builtin "BaseException.__getattribute__"))) (yh_InvalidObservationsError : PySem.W.findIn K (.ref C_InvalidObservationsError) "__getattr__" = some none) (yd_InvalidObservationsError : PySem.W.hasDictIn K C_InvalidObservationsError = true) (ys_InvalidObservationsError : PySem.W.subIn K (.ref C_InvalidObservationsError) (.type "BaseException") = some true)
    (ya_InvalidObservationsError : PySem.W.findIn K (.ref C_InvalidObservationsError) "__class__" = some (some (.builtin "object.__class__"))) (ym_InvalidObservationsError : PySem.W.mroIn K C_InvalidObservationsError (.type "object") = some true) (yk_InvalidObservationsError : Kits K C_InvalidObservationsError (kq C_EmptyHistoryError C_EmptyOutlineError C_EndError C_HiddenLineError C_InvalidDepthError C_InvalidDocumentError C_InvalidFoldsError C_InvalidHeightError C_InvalidLineError C_InvalidNumberError C_InvalidObservationsError C_InvalidOutlineError C_InvalidReadingError C_InvalidScrollError C_InvalidTextError C_InvalidTitleError C_TooDeepError C_TooManyLinesError C_StickyHeadsError 10))
    (yg_InvalidOutlineError : PySem.W.findIn K (.ref C_InvalidOutlineError) "__getattribute__" = some (some (.builtin "BaseException.__getattribute__"))) (yh_InvalidOutlineError : PySem.W.findIn K (.ref C_InvalidOutlineError) "__getattr__" = some none) (yd_InvalidOutlineError : PySem.W.hasDictIn K C_InvalidOutlineError = true) (ys_InvalidOutlineError : PySem.W.subIn K (.ref C_InvalidOutlineError) (.type "BaseException") = some true)
    (ya_InvalidOutlineError : PySem.W.findIn K (.ref C_InvalidOutlineError) "__class__" = some (some (.builtin "object.__class__"))) (ym_InvalidOutlineError : PySem.W.mroIn K C_InvalidOutlineError (.type "object") = some true) (yk_InvalidOutlineError : Kits K C_InvalidOutlineError (kq C_EmptyHistoryError C_EmptyOutlineError C_EndError C_HiddenLineError C_InvalidDepthError C_InvalidDocumentError C_InvalidFoldsError C_InvalidHeightError C_InvalidLineError C_InvalidNumberError C_InvalidObservationsError C_InvalidOutlineError C_InvalidReadingError C_InvalidScrollError C_InvalidTextError C_InvalidTitleError C_TooDeepError C_TooManyLinesError C_StickyHeadsError 11))
    (yg_InvalidReadingError : PySem.W.findIn K (.ref C_InvalidReadingError) "__getattribute__" = some (some (.builtin "BaseException.__getattribute__"))) (yh_InvalidReadingError : PySem.W.findIn K (.ref C_InvalidReadingError) "__getattr__" = some none) (yd_InvalidReadingError : PySem.W.hasDictIn K C_InvalidReadingError = true) (ys_InvalidReadingError : PySem.W.subIn K (.ref C_InvalidReadingError) (.type "BaseException") = some true)
    (ya_InvalidReadingError : PySem.W.findIn K (.ref C_InvalidReadingError) "__class__" = some (some (.builtin "object.__class__"))) (ym_InvalidReadingError : PySem.W.mroIn K C_InvalidReadingError (.type "object") = some true) (yk_InvalidReadingError : Kits K C_InvalidReadingError (kq C_EmptyHistoryError C_EmptyOutlineError C_EndError C_HiddenLineError C_InvalidDepthError C_InvalidDocumentError C_InvalidFoldsError C_InvalidHeightError C_InvalidLineError C_InvalidNumberError C_InvalidObservationsError C_InvalidOutlineError C_InvalidReadingError C_InvalidScrollError C_InvalidTextError C_InvalidTitleError C_TooDeepError C_TooManyLinesError C_StickyHeadsError 12))
    (yg_InvalidScrollError : PySem.W.findIn K (.ref C_InvalidScrollError) "__getattribute__" = some (some (.builtin "BaseException.__getattribute__"))) (yh_InvalidScrollError : PySem.W.findIn K (.ref C_InvalidScrollError) "__getattr__" = some none) (yd_InvalidScrollError : PySem.W.hasDictIn K C_InvalidScrollError = true) (ys_InvalidScrollError : PySem.W.subIn K (.ref C_InvalidScrollError) (.type "BaseException") = some true)
    (ya_InvalidScrollError : PySem.W.findIn K (.ref C_InvalidScrollError) "__class__" = some (some (.builtin "object.__class__"))) (ym_InvalidScrollError : PySem.W.mroIn K C_InvalidScrollError (.type "object") = some true) (yk_InvalidScrollError : Kits K C_InvalidScrollError (kq C_EmptyHistoryError C_EmptyOutlineError C_EndError C_HiddenLineError C_InvalidDepthError C_InvalidDocumentError C_InvalidFoldsError C_InvalidHeightError C_InvalidLineError C_InvalidNumberError C_InvalidObservationsError C_InvalidOutlineError C_InvalidReadingError C_InvalidScrollError C_InvalidTextError C_InvalidTitleError C_TooDeepError C_TooManyLinesError C_StickyHeadsError 13))
    (yg_InvalidTextError : PySem.W.findIn K (.ref C_InvalidTextError) "__getattribute__" = some (some (.builtin "BaseException.__getattribute__"))) (yh_InvalidTextError : PySem.W.findIn K (.ref C_InvalidTextError) "__getattr__" = some none) (yd_InvalidTextError : PySem.W.hasDictIn K C_InvalidTextError = true) (ys_InvalidTextError : PySem.W.subIn K (.ref C_InvalidTextError) (.type "BaseException") = some true)
    (ya_InvalidTextError : PySem.W.findIn K (.ref C_InvalidTextError) "__class__" = some (some (.builtin "object.__class__"))) (ym_InvalidTextError : PySem.W.mroIn K C_InvalidTextError (.type "object") = some true) (yk_InvalidTextError : Kits K C_InvalidTextError (kq C_EmptyHistoryError C_EmptyOutlineError C_EndError C_HiddenLineError C_InvalidDepthError C_InvalidDocumentError C_InvalidFoldsError C_InvalidHeightError C_InvalidLineError C_InvalidNumberError C_InvalidObservationsError C_InvalidOutlineError C_InvalidReadingError C_InvalidScrollError C_InvalidTextError C_InvalidTitleError C_TooDeepError C_TooManyLinesError C_StickyHeadsError 14))
    (yg_InvalidTitleError : PySem.W.findIn K (.ref C_InvalidTitleError) "__getattribute__" = some (some (.builtin "BaseException.__getattribute__"))) (yh_InvalidTitleError : PySem.W.findIn K (.ref C_InvalidTitleError) "__getattr__" = some none) (yd_InvalidTitleError : PySem.W.hasDictIn K C_InvalidTitleError = true) (ys_InvalidTitleError : PySem.W.subIn K (.ref C_InvalidTitleError) (.type "BaseException") = some true)
    (ya_InvalidTitleError : PySem.W.findIn K (.ref C_InvalidTitleError) "__class__" = some (some (.builtin "object.__class__"))) (ym_InvalidTitleError : PySem.W.mroIn K C_InvalidTitleError (.type "object") = some true) (yk_InvalidTitleError : Kits K C_InvalidTitleError (kq C_EmptyHistoryError C_EmptyOutlineError C_EndError C_HiddenLineError C_InvalidDepthError C_InvalidDocumentError C_InvalidFoldsError C_InvalidHeightError C_InvalidLineError C_InvalidNumberError C_InvalidObservationsError C_InvalidOutlineError C_InvalidReadingError C_InvalidScrollError C_InvalidTextError C_InvalidTitleError C_TooDeepError C_TooManyLinesError C_StickyHeadsError 15))
    (yg_TooDeepError : PySem.W.findIn K (.ref C_TooDeepError) "__getattribute__" = some (some (.builtin "BaseException.__getattribute__"))) (yh_TooDeepError : PySem.W.findIn K (.ref C_TooDeepError) "__getattr__" = some none) (yd_TooDeepError : PySem.W.hasDictIn K C_TooDeepError = true) (ys_TooDeepError : PySem.W.subIn K (.ref C_TooDeepError) (.type "BaseException") = some true)
    (ya_TooDeepError : PySem.W.findIn K (.ref C_TooDeepError) "__class__" = some (some (.builtin "object.__class__"))) (ym_TooDeepError : PySem.W.mroIn K C_TooDeepError (.type "object") = some true) (yk_TooDeepError : Kits K C_TooDeepError (kq C_EmptyHistoryError C_EmptyOutlineError C_EndError C_HiddenLineError C_InvalidDepthError C_InvalidDocumentError C_InvalidFoldsError C_InvalidHeightError C_InvalidLineError C_InvalidNumberError C_InvalidObservationsError C_InvalidOutlineError C_InvalidReadingError C_InvalidScrollError C_InvalidTextError C_InvalidTitleError C_TooDeepError C_TooManyLinesError C_StickyHeadsError 16))
    (yg_TooManyLinesError : PySem.W.findIn K (.ref C_TooManyLinesError) "__getattribute__" = some (some (.builtin "BaseException.__getattribute__"))) (yh_TooManyLinesError : PySem.W.findIn K (.ref C_TooManyLinesError) "__getattr__" = some none) (yd_TooManyLinesError : PySem.W.hasDictIn K C_TooManyLinesError = true) (ys_TooManyLinesError : PySem.W.subIn K (.ref C_TooManyLinesError) (.type "BaseException") = some true)
    (ya_TooManyLinesError : PySem.W.findIn K (.ref C_TooManyLinesError) "__class__" = some (some (.builtin "object.__class__"))) (ym_TooManyLinesError : PySem.W.mroIn K C_TooManyLinesError (.type "object") = some true) (yk_TooManyLinesError : Kits K C_TooManyLinesError (kq C_EmptyHistoryError C_EmptyOutlineError C_EndError C_HiddenLineError C_InvalidDepthError C_InvalidDocumentError C_InvalidFoldsError C_InvalidHeightError C_InvalidLineError C_InvalidNumberError C_InvalidObservationsError C_InvalidOutlineError C_InvalidReadingError C_InvalidScrollError C_InvalidTextError C_InvalidTitleError C_TooDeepError C_TooManyLinesError C_StickyHeadsError 17))
    (yg_StickyHeadsError : PySem.W.findIn K (.ref C_StickyHeadsError) "__getattribute__" = some (some (.builtin "BaseException.__getattribute__"))) (yh_StickyHeadsError : PySem.W.findIn K (.ref C_StickyHeadsError) "__getattr__" = some none) (yd_StickyHeadsError : PySem.W.hasDictIn K C_StickyHeadsError = true) (ys_StickyHeadsError : PySem.W.subIn K (.ref C_StickyHeadsError) (.type "BaseException") = some true)
    (ya_StickyHeadsError : PySem.W.findIn K (.ref C_StickyHeadsError) "__class__" = some (some (.builtin "object.__class__"))) (ym_StickyHeadsError : PySem.W.mroIn K C_StickyHeadsError (.type "object") = some true) (yk_StickyHeadsError : Kits K C_StickyHeadsError (kz C_EmptyHistoryError C_EmptyOutlineError C_EndError C_HiddenLineError C_InvalidDepthError C_InvalidDocumentError C_InvalidFoldsError C_InvalidHeightError C_InvalidLineError C_InvalidNumberError C_InvalidObservationsError C_InvalidOutlineError C_InvalidReadingError C_InvalidScrollError C_InvalidTextError C_InvalidTitleError C_TooDeepError C_TooManyLinesError))
    (y0n : PySem.W.specialIn K (.builtin "object.__class__") "__get__" = some (some (.builtin "getset_descriptor.__get__"))) (y0t : PySem.W.takesIn K (.builtin "object.__class__") = some true)
    {nm_iInvalidObservationsError q_iInvalidObservationsError fl_iInvalidObservationsError : Str} {N_iInvalidObservationsError fI_iInvalidObservationsError cda_iInvalidObservationsError cc_iInvalidObservationsError : Addr} {bs_iInvalidObservationsError bm_iInvalidObservationsError : List Value} {sn_iInvalidObservationsError : List Str} {sub_iInvalidObservationsError : List Value} {ab_iInvalidObservationsError : Bool} {col_iInvalidObservationsError : Option Bool} {dd_iInvalidObservationsError : Option Addr} {m0_iInvalidObservationsError m1_iInvalidObservationsError m2_iInvalidObservationsError m3_iInvalidObservationsError m5_iInvalidObservationsError : Option Value} {oc_iInvalidObservationsError cl_iInvalidObservationsError ccl_iInvalidObservationsError kV_iInvalidObservationsError doc_iInvalidObservationsError pm_iInvalidObservationsError ct_iInvalidObservationsError : Value} {od_iInvalidObservationsError cld_iInvalidObservationsError cdd_iInvalidObservationsError an_iInvalidObservationsError : Option Addr} {osl_iInvalidObservationsError csl_iInvalidObservationsError ccs_iInvalidObservationsError : Array (Option Value)} {vs_iInvalidObservationsError : Array Value} {tf_iInvalidObservationsError : Tok}
    (ixL_iInvalidObservationsError : K.lookup C_InvalidObservationsError = some (excClassObj nm_iInvalidObservationsError q_iInvalidObservationsError C_InvalidObservationsError N_iInvalidObservationsError bs_iInvalidObservationsError bm_iInvalidObservationsError true sn_iInvalidObservationsError sub_iInvalidObservationsError ab_iInvalidObservationsError col_iInvalidObservationsError dd_iInvalidObservationsError m0_iInvalidObservationsError m1_iInvalidObservationsError m2_iInvalidObservationsError m3_iInvalidObservationsError m5_iInvalidObservationsError "ValueError.__new__")) (ixr_iInvalidObservationsError : PySem.HandSPX.refsVE bm_iInvalidObservationsError = true) (ixs_iInvalidObservationsError : PySem.W.findIn K (.ref C_InvalidObservationsError) "__setattr__" = some (some (.builtin "object.__setattr__"))) (ixe_iInvalidObservationsError : PySem.W.subIn K (.ref C_InvalidObservationsError) (.type "BaseException") = some true) (ixt_iInvalidObservationsError : PySem.W.typeIn K (.ref C_InvalidObservationsError) = some (.type "type")) (ixk_iInvalidObservationsError : PySem.W.keepIn K (.ref C_InvalidObservationsError) = true)
    (ix7_iInvalidObservationsError : PySem.W.findIn K (.ref C_InvalidObservationsError) "__init__" = some (some (.ref fI_iInvalidObservationsError))) (ix1_iInvalidObservationsError : K.lookup fI_iInvalidObservationsError = some ⟨oc_iInvalidObservationsError, od_iInvalidObservationsError, .func (PySem.W.ksFn "__init__" "InvalidObservationsError.__init__" (defArgs ini_InvalidObservationsError) (defBody ini_InvalidObservationsError) (defScope ini_InvalidObservationsError) .none kV_iInvalidObservationsError doc_iInvalidObservationsError pm_iInvalidObservationsError an_iInvalidObservationsError (.ref cda_iInvalidObservationsError) ct_iInvalidObservationsError cc_iInvalidObservationsError), osl_iInvalidObservationsError⟩) (ix2_iInvalidObservationsError : PySem.W.codeIn K (.ref cda_iInvalidObservationsError) "InvalidObservationsError.__init__" = true) (ix3_iInvalidObservationsError : K.lookup cda_iInvalidObservationsError = some ⟨ccl_iInvalidObservationsError, cdd_iInvalidObservationsError, .fields vs_iInvalidObservationsError, ccs_iInvalidObservationsError⟩) (ix4_iInvalidObservationsError : vs_iInvalidObservationsError[2]? = some (.str fl_iInvalidObservationsError tf_iInvalidObservationsError)) (ix5_iInvalidObservationsError : ((l.prog.main.file : Str) == fl_iInvalidObservationsError) = true) (ix6_iInvalidObservationsError : K.lookup cc_iInvalidObservationsError = some ⟨cl_iInvalidObservationsError, cld_iInvalidObservationsError, .cell (some (.ref C_InvalidObservationsError)), csl_iInvalidObservationsError⟩) (ix8_iInvalidObservationsError : PySem.W.typeIn K (.ref fI_iInvalidObservationsError) = some (.type "function"))
    (ix9_iInvalidObservationsError : PySem.W.ks_superIn K C_InvalidObservationsError C_InvalidObservationsError "__init__" = some (some (.builtin "ValueError.__init__"))) (ixb_iInvalidObservationsError : PySem.W.subIn K (.ref C_InvalidObservationsError) (.type "ValueError") = some true) (ixm_iInvalidObservationsError : PySem.W.mroIn K C_InvalidObservationsError (.ref C_InvalidObservationsError) = some true) (ixo_iInvalidObservationsError : PySem.W.nsIn K cStatics "thirdparty.any" = some none) (ixn_iInvalidObservationsError : PySem.W.findIn K (.ref C_InvalidObservationsError) "index" = some none) (ixp_iInvalidObservationsError : (l.prog.main.scope.names.lookup ("super" : Str)).isSome = false)
    {nm_iTooDeepError q_iTooDeepError fl_iTooDeepError : Str} {N_iTooDeepError fI_iTooDeepError cda_iTooDeepError cc_iTooDeepError : Addr} {bs_iTooDeepError bm_iTooDeepError : List Value} {sn_iTooDeepError : List Str} {sub_iTooDeepError : List Value} {ab_iTooDeepError : Bool} {col_iTooDeepError : Option Bool} {dd_iTooDeepError : Option Addr} {m0_iTooDeepError m1_iTooDeepError m2_iTooDeepError m3_iTooDeepError m5_iTooDeepError : Option Value} {oc_iTooDeepError cl_iTooDeepError ccl_iTooDeepError kV_iTooDeepError doc_iTooDeepError pm_iTooDeepError ct_iTooDeepError : Value} {od_iTooDeepError cld_iTooDeepError cdd_iTooDeepError an_iTooDeepError : Option Addr} {osl_iTooDeepError csl_iTooDeepError ccs_iTooDeepError : Array (Option Value)} {vs_iTooDeepError : Array Value} {tf_iTooDeepError : Tok}
    (ixL_iTooDeepError : K.lookup C_TooDeepError = some (excClassObj nm_iTooDeepError q_iTooDeepError C_TooDeepError N_iTooDeepError bs_iTooDeepError bm_iTooDeepError true sn_iTooDeepError sub_iTooDeepError ab_iTooDeepError col_iTooDeepError dd_iTooDeepError m0_iTooDeepError m1_iTooDeepError m2_iTooDeepError m3_iTooDeepError m5_iTooDeepError "ValueError.__new__")) (ixr_iTooDeepError : PySem.HandSPX.refsVE bm_iTooDeepError = true) (ixs_iTooDeepError : PySem.W.findIn K (.ref C_TooDeepError) "__setattr__" = some (some (.builtin "object.__setattr__"))) (ixe_iTooDeepError : PySem.W.subIn K (.ref C_TooDeepError) (.type "BaseException") = some true) (ixt_iTooDeepError : PySem.W.typeIn K (.ref C_TooDeepError) = some (.type "type")) (ixk_iTooDeepError : PySem.W.keepIn K (.ref C_TooDeepError) = true)
    (ix7_iTooDeepError : PySem.W.findIn K (.ref C_TooDeepError) "__init__" = some (some (.ref fI_iTooDeepError))) (ix1_iTooDeepError : K.lookup fI_iTooDeepError = some ⟨oc_iTooDeepError, od_iTooDeepError, .func (PySem.W.ksFn "__init__" "TooDeepError.__init__" (defArgs ini_TooDeepError) (defBody ini_TooDeepError) (defScope ini_TooDeepError) .none kV_iTooDeepError doc_iTooDeepError pm_iTooDeepError an_iTooDeepError (.ref cda_iTooDeepError) ct_iTooDeepError cc_iTooDeepError), osl_iTooDeepError⟩) (ix2_iTooDeepError : PySem.W.codeIn K (.ref cda_iTooDeepError) "TooDeepError.__init__" = true) (ix3_iTooDeepError : K.lookup cda_iTooDeepError = some ⟨ccl_iTooDeepError, cdd_iTooDeepError, .fields vs_iTooDeepError, ccs_iTooDeepError⟩) (ix4_iTooDeepError : vs_iTooDeepError[2]? = some (.str fl_iTooDeepError tf_iTooDeepError)) (ix5_iTooDeepError : ((l.prog.main.file : Str) == fl_iTooDeepError) = true) (ix6_iTooDeepError : K.lookup cc_iTooDeepError = some ⟨cl_iTooDeepError, cld_iTooDeepError, .cell (some (.ref C_TooDeepError)), csl_iTooDeepError⟩) (ix8_iTooDeepError : PySem.W.typeIn K (.ref fI_iTooDeepError) = some (.type "function"))
    (ix9_iTooDeepError : PySem.W.ks_superIn K C_TooDeepError C_TooDeepError "__init__" = some (some (.builtin "ValueError.__init__"))) (ixb_iTooDeepError : PySem.W.subIn K (.ref C_TooDeepError) (.type "ValueError") = some true) (ixm_iTooDeepError : PySem.W.mroIn K C_TooDeepError (.ref C_TooDeepError) = some true) (ixo_iTooDeepError : PySem.W.nsIn K cStatics "thirdparty.any" = some none) (ixn_iTooDeepError : PySem.W.findIn K (.ref C_TooDeepError) "line" = some none) (ixp_iTooDeepError : (l.prog.main.scope.names.lookup ("super" : Str)).isSome = false)
    : ∃ fd : FuncData, (∀ (s : Shared) (v : Value), BindsTo s fd ⟨[v], []⟩ [("script", v)]) ∧
      ∀ base : Heap, K.In base → base.Ns mainGlobals mg → FnG l.prog w K mg base CX0 3 fa fd ["script"] (sp_law K) := by
  have T : Txt mg := ⟨PySem.W.mg_none_of X G z_len, PySem.W.mg_none_of X G z_range, PySem.W.mg_none_of X G z_repr, PySem.W.mg_none_of X G z_min, PySem.W.mg_none_of X G z_max, PySem.W.mg_none_of X G z_int, PySem.W.mg_none_of X G z_list, PySem.W.mg_none_of X G z_type, PySem.W.mg_none_of X G z_bool, PySem.W.mg_none_of X G z_tuple, PySem.W.mg_none_of X G z_isinstance, PySem.W.mg_none_of X G z_enumerate, PySem.W.mg_none_of X G z_str, PySem.W.mg_none_of X G z_zip, PySem.W.mg_none_of X G z_all, PySem.W.mg_none_of X G z_any, PySem.W.mg_none_of X G z_sum, PySem.W.mg_none_of X G z_abs, PySem.W.mg_none_of X G z_sorted, PySem.W.mg_none_of X G z_set, PySem.W.mg_none_of X G z_dict, PySem.W.mg_none_of X G z_reversed, PySem.W.mg_none_of X G z_divmod⟩
  have e_EmptyHistoryError : Err K mg "EmptyHistoryError" C_EmptyHistoryError := ⟨PySem.W.mg_of X G ea_EmptyHistoryError, eq_EmptyHistoryError, ek_EmptyHistoryError, ee_EmptyHistoryError, et_EmptyHistoryError⟩
  have e_EmptyOutlineError : Err K mg "EmptyOutlineError" C_EmptyOutlineError := ⟨PySem.W.mg_of X G ea_EmptyOutlineError, eq_EmptyOutlineError, ek_EmptyOutlineError, ee_EmptyOutlineError, et_EmptyOutlineError⟩
  have e_EndError : Err K mg "EndError" C_EndError := ⟨PySem.W.mg_of X G ea_EndError, eq_EndError, ek_EndError, ee_EndError, et_EndError⟩
  have e_HiddenLineError : Err K mg "HiddenLineError" C_HiddenLineError := ⟨PySem.W.mg_of X G ea_HiddenLineError, eq_HiddenLineError, ek_HiddenLineError, ee_HiddenLineError, et_HiddenLineError⟩
  have e_InvalidDepthError : Err K mg "InvalidDepthError" C_InvalidDepthError := ⟨PySem.W.mg_of X G ea_InvalidDepthError, eq_InvalidDepthError, ek_InvalidDepthError, ee_InvalidDepthError, et_InvalidDepthError⟩
  have e_InvalidDocumentError : Err K mg "InvalidDocumentError" C_InvalidDocumentError := ⟨PySem.W.mg_of X G ea_InvalidDocumentError, eq_InvalidDocumentError, ek_InvalidDocumentError, ee_InvalidDocumentError, et_InvalidDocumentError⟩
  have e_InvalidFoldsError : Err K mg "InvalidFoldsError" C_InvalidFoldsError := ⟨PySem.W.mg_of X G ea_InvalidFoldsError, eq_InvalidFoldsError, ek_InvalidFoldsError, ee_InvalidFoldsError, et_InvalidFoldsError⟩
  have e_InvalidHeightError : Err K mg "InvalidHeightError" C_InvalidHeightError := ⟨PySem.W.mg_of X G ea_InvalidHeightError, eq_InvalidHeightError, ek_InvalidHeightError, ee_InvalidHeightError, et_InvalidHeightError⟩
  have e_InvalidLineError : Err K mg "InvalidLineError" C_InvalidLineError := ⟨PySem.W.mg_of X G ea_InvalidLineError, eq_InvalidLineError, ek_InvalidLineError, ee_InvalidLineError, et_InvalidLineError⟩
  have e_InvalidNumberError : Err K mg "InvalidNumberError" C_InvalidNumberError := ⟨PySem.W.mg_of X G ea_InvalidNumberError, eq_InvalidNumberError, ek_InvalidNumberError, ee_InvalidNumberError, et_InvalidNumberError⟩
  have e_InvalidOutlineError : Err K mg "InvalidOutlineError" C_InvalidOutlineError := ⟨PySem.W.mg_of X G ea_InvalidOutlineError, eq_InvalidOutlineError, ek_InvalidOutlineError, ee_InvalidOutlineError, et_InvalidOutlineError⟩
  have e_InvalidReadingError : Err K mg "InvalidReadingError" C_InvalidReadingError := ⟨PySem.W.mg_of X G ea_InvalidReadingError, eq_InvalidReadingError, ek_InvalidReadingError, ee_InvalidReadingError, et_InvalidReadingError⟩
  have e_InvalidScrollError : Err K mg "InvalidScrollError" C_InvalidScrollError := ⟨PySem.W.mg_of X G ea_InvalidScrollError, eq_InvalidScrollError, ek_InvalidScrollError, ee_InvalidScrollError, et_InvalidScrollError⟩
  have e_InvalidTextError : Err K mg "InvalidTextError" C_InvalidTextError := ⟨PySem.W.mg_of X G ea_InvalidTextError, eq_InvalidTextError, ek_InvalidTextError, ee_InvalidTextError, et_InvalidTextError⟩
  have e_InvalidTitleError : Err K mg "InvalidTitleError" C_InvalidTitleError := ⟨PySem.W.mg_of X G ea_InvalidTitleError, eq_InvalidTitleError, ek_InvalidTitleError, ee_InvalidTitleError, et_InvalidTitleError⟩
  have e_TooManyLinesError : Err K mg "TooManyLinesError" C_TooManyLinesError := ⟨PySem.W.mg_of X G ea_TooManyLinesError, eq_TooManyLinesError, ek_TooManyLinesError, ee_TooManyLinesError, et_TooManyLinesError⟩
  have e_StickyHeadsError : Err K mg "StickyHeadsError" C_StickyHeadsError := ⟨PySem.W.mg_of X G ea_StickyHeadsError, eq_StickyHeadsError, ek_StickyHeadsError, ee_StickyHeadsError, et_StickyHeadsError⟩
  have n_super := PySem.W.mg_none_of X G zn_super
  have n_ValueError := PySem.W.mg_none_of X G zn_ValueError
  have k_EmptyHistoryError : mg "EmptyHistoryError" = some (.ref C_EmptyHistoryError) := PySem.W.mg_of X G ea_EmptyHistoryError
  have k_EmptyOutlineError : mg "EmptyOutlineError" = some (.ref C_EmptyOutlineError) := PySem.W.mg_of X G ea_EmptyOutlineError
  have k_EndError : mg "EndError" = some (.ref C_EndError) := PySem.W.mg_of X G ea_EndError
  have k_HiddenLineError : mg "HiddenLineError" = some (.ref C_HiddenLineError) := PySem.W.mg_of X G ea_HiddenLineError
  have k_InvalidDepthError : mg "InvalidDepthError" = some (.ref C_InvalidDepthError) := PySem.W.mg_of X G ea_InvalidDepthError
  have k_InvalidDocumentError : mg "InvalidDocumentError" = some (.ref C_InvalidDocumentError) := PySem.W.mg_of X G ea_InvalidDocumentError
  have k_InvalidFoldsError : mg "InvalidFoldsError" = some (.ref C_InvalidFoldsError) := PySem.W.mg_of X G ea_InvalidFoldsError
  have k_InvalidHeightError : mg "InvalidHeightError" = some (.ref C_InvalidHeightError) := PySem.W.mg_of X G ea_InvalidHeightError
  have k_InvalidLineError : mg "InvalidLineError" = some (.ref C_InvalidLineError) := PySem.W.mg_of X G ea_InvalidLineError
  have k_InvalidNumberError : mg "InvalidNumberError" = some (.ref C_InvalidNumberError) := PySem.W.mg_of X G ea_InvalidNumberError
  have k_InvalidObservationsError : mg "InvalidObservationsError" = some (.ref C_InvalidObservationsError) := PySem.W.mg_of X G ea_InvalidObservationsError
  have k_InvalidOutlineError : mg "InvalidOutlineError" = some (.ref C_InvalidOutlineError) := PySem.W.mg_of X G ea_InvalidOutlineError
  have k_InvalidReadingError : mg "InvalidReadingError" = some (.ref C_InvalidReadingError) := PySem.W.mg_of X G ea_InvalidReadingError
  have k_InvalidScrollError : mg "InvalidScrollError" = some (.ref C_InvalidScrollError) := PySem.W.mg_of X G ea_InvalidScrollError
  have k_InvalidTextError : mg "InvalidTextError" = some (.ref C_InvalidTextError) := PySem.W.mg_of X G ea_InvalidTextError
  have k_InvalidTitleError : mg "InvalidTitleError" = some (.ref C_InvalidTitleError) := PySem.W.mg_of X G ea_InvalidTitleError
  have k_TooDeepError : mg "TooDeepError" = some (.ref C_TooDeepError) := PySem.W.mg_of X G ea_TooDeepError
  have k_TooManyLinesError : mg "TooManyLinesError" = some (.ref C_TooManyLinesError) := PySem.W.mg_of X G ea_TooManyLinesError
  have k_StickyHeadsError : mg "StickyHeadsError" = some (.ref C_StickyHeadsError) := PySem.W.mg_of X G ea_StickyHeadsError
  have i_InvalidObservationsError : IniC l.prog K C_InvalidObservationsError "InvalidObservationsError.__init__" ini_InvalidObservationsError "index" := ⟨⟨⟨_, _, _, _, _, _, _, _, _, _, _, _, _, _, _, ixL_iInvalidObservationsError, ixr_iInvalidObservationsError⟩, ixs_iInvalidObservationsError, ixe_iInvalidObservationsError, ixt_iInvalidObservationsError, ixk_iInvalidObservationsError⟩, ⟨_, _, _, _, _, _, _, _, _, _, _, _, _, _, _, _, _, _, _, _, ix1_iInvalidObservationsError, ix2_iInvalidObservationsError, ix3_iInvalidObservationsError, ix4_iInvalidObservationsError, ix5_iInvalidObservationsError, ix6_iInvalidObservationsError, ix7_iInvalidObservationsError, ix8_iInvalidObservationsError⟩, ix9_iInvalidObservationsError, ixb_iInvalidObservationsError, ixm_iInvalidObservationsError, ixo_iInvalidObservationsError, ixn_iInvalidObservationsError, ixp_iInvalidObservationsError⟩
  have i_TooDeepError : IniC l.prog K C_TooDeepError "TooDeepError.__init__" ini_TooDeepError "line" := ⟨⟨⟨_, _, _, _, _, _, _, _, _, _, _, _, _, _, _, ixL_iTooDeepError, ixr_iTooDeepError⟩, ixs_iTooDeepError, ixe_iTooDeepError, ixt_iTooDeepError, ixk_iTooDeepError⟩, ⟨_, _, _, _, _, _, _, _, _, _, _, _, _, _, _, _, _, _, _, _, ix1_iTooDeepError, ix2_iTooDeepError, ix3_iTooDeepError, ix4_iTooDeepError, ix5_iTooDeepError, ix6_iTooDeepError, ix7_iTooDeepError, ix8_iTooDeepError⟩, ix9_iTooDeepError, ixb_iTooDeepError, ixm_iTooDeepError, ixo_iTooDeepError, ixn_iTooDeepError, ixp_iTooDeepError⟩
  have y_EmptyHistoryError : ErK K C_EmptyHistoryError (kq C_EmptyHistoryError C_EmptyOutlineError C_EndError C_HiddenLineError C_InvalidDepthError C_InvalidDocumentError C_InvalidFoldsError C_InvalidHeightError C_InvalidLineError C_InvalidNumberError C_InvalidObservationsError C_InvalidOutlineError C_InvalidReadingError C_InvalidScrollError C_InvalidTextError C_InvalidTitleError C_TooDeepError C_TooManyLinesError C_StickyHeadsError 0) := ⟨⟨yg_EmptyHistoryError, yh_EmptyHistoryError, ys_EmptyHistoryError, yd_EmptyHistoryError, ya_EmptyHistoryError, y0n, y0t, ym_EmptyHistoryError⟩, yk_EmptyHistoryError⟩
  have y_EmptyOutlineError : ErK K C_EmptyOutlineError (kq C_EmptyHistoryError C_EmptyOutlineError C_EndError C_HiddenLineError C_InvalidDepthError C_InvalidDocumentError C_InvalidFoldsError C_InvalidHeightError C_InvalidLineError C_InvalidNumberError C_InvalidObservationsError C_InvalidOutlineError C_InvalidReadingError C_InvalidScrollError C_InvalidTextError C_InvalidTitleError C_TooDeepError C_TooManyLinesError C_StickyHeadsError 1) := ⟨⟨yg_EmptyOutlineError, yh_EmptyOutlineError, ys_EmptyOutlineError, yd_EmptyOutlineError, ya_EmptyOutlineError, y0n, y0t, ym_EmptyOutlineError⟩, yk_EmptyOutlineError⟩
  have y_EndError : ErK K C_EndError (kq C_EmptyHistoryError C_EmptyOutlineError C_EndError C_HiddenLineError C_InvalidDepthError C_InvalidDocumentError C_InvalidFoldsError C_InvalidHeightError C_InvalidLineError C_InvalidNumberError C_InvalidObservationsError C_InvalidOutlineError C_InvalidReadingError C_InvalidScrollError C_InvalidTextError C_InvalidTitleError C_TooDeepError C_TooManyLinesError C_StickyHeadsError 2) := ⟨⟨yg_EndError, yh_EndError, ys_EndError, yd_EndError, ya_EndError, y0n, y0t, ym_EndError⟩, yk_EndError⟩
  have y_HiddenLineError : ErK K C_HiddenLineError (kq C_EmptyHistoryError C_EmptyOutlineError C_EndError C_HiddenLineError C_InvalidDepthError C_InvalidDocumentError C_InvalidFoldsError C_InvalidHeightError C_InvalidLineError C_InvalidNumberError C_InvalidObservationsError C_InvalidOutlineError C_InvalidReadingError C_InvalidScrollError C_InvalidTextError C_InvalidTitleError C_TooDeepError C_TooManyLinesError C_StickyHeadsError 3) := ⟨⟨yg_HiddenLineError, yh_HiddenLineError, ys_HiddenLineError, yd_HiddenLineError, ya_HiddenLineError, y0n, y0t, ym_HiddenLineError⟩, yk_HiddenLineError⟩
  have y_InvalidDepthError : ErK K C_InvalidDepthError (kq C_EmptyHistoryError C_EmptyOutlineError C_EndError C_HiddenLineError C_InvalidDepthError C_InvalidDocumentError C_InvalidFoldsError C_InvalidHeightError C_InvalidLineError C_InvalidNumberError C_InvalidObservationsError C_InvalidOutlineError C_InvalidReadingError C_InvalidScrollError C_InvalidTextError C_InvalidTitleError C_TooDeepError C_TooManyLinesError C_StickyHeadsError 4) := ⟨⟨yg_InvalidDepthError, yh_InvalidDepthError, ys_InvalidDepthError, yd_InvalidDepthError, ya_InvalidDepthError, y0n, y0t, ym_InvalidDepthError⟩, yk_InvalidDepthError⟩
  have y_InvalidDocumentError : ErK K C_InvalidDocumentError (kq C_EmptyHistoryError C_EmptyOutlineError C_EndError C_HiddenLineError C_InvalidDepthError C_InvalidDocumentError C_InvalidFoldsError C_InvalidHeightError C_InvalidLineError C_InvalidNumberError C_InvalidObservationsError C_InvalidOutlineError C_InvalidReadingError C_InvalidScrollError C_InvalidTextError C_InvalidTitleError C_TooDeepError C_TooManyLinesError C_StickyHeadsError 5) := ⟨⟨yg_InvalidDocumentError, yh_InvalidDocumentError, ys_InvalidDocumentError, yd_InvalidDocumentError, ya_InvalidDocumentError, y0n, y0t, ym_InvalidDocumentError⟩, yk_InvalidDocumentError⟩
  have y_InvalidFoldsError : ErK K C_InvalidFoldsError (kq C_EmptyHistoryError C_EmptyOutlineError C_EndError C_HiddenLineError C_InvalidDepthError C_InvalidDocumentError C_InvalidFoldsError C_InvalidHeightError C_InvalidLineError C_InvalidNumberError C_InvalidObservationsError C_InvalidOutlineError C_InvalidReadingError C_InvalidScrollError C_InvalidTextError C_InvalidTitleError C_TooDeepError C_TooManyLinesError C_StickyHeadsError 6) := ⟨⟨yg_InvalidFoldsError, yh_InvalidFoldsError, ys_InvalidFoldsError, yd_InvalidFoldsError, ya_InvalidFoldsError, y0n, y0t, ym_InvalidFoldsError⟩, yk_InvalidFoldsError⟩
  have y_InvalidHeightError : ErK K C_InvalidHeightError (kq C_EmptyHistoryError C_EmptyOutlineError C_EndError C_HiddenLineError C_InvalidDepthError C_InvalidDocumentError C_InvalidFoldsError C_InvalidHeightError C_InvalidLineError C_InvalidNumberError C_InvalidObservationsError C_InvalidOutlineError C_InvalidReadingError C_InvalidScrollError C_InvalidTextError C_InvalidTitleError C_TooDeepError C_TooManyLinesError C_StickyHeadsError 7) := ⟨⟨yg_InvalidHeightError, yh_InvalidHeightError, ys_InvalidHeightError, yd_InvalidHeightError, ya_InvalidHeightError, y0n, y0t, ym_InvalidHeightError⟩, yk_InvalidHeightError⟩
  have y_InvalidLineError : ErK K C_InvalidLineError (kq C_EmptyHistoryError C_EmptyOutlineError C_EndError C_HiddenLineError C_InvalidDepthError C_InvalidDocumentError C_InvalidFoldsError C_InvalidHeightError C_InvalidLineError C_InvalidNumberError C_InvalidObservationsError C_InvalidOutlineError C_InvalidReadingError C_InvalidScrollError C_InvalidTextError C_InvalidTitleError C_TooDeepError C_TooManyLinesError C_StickyHeadsError 8) := ⟨⟨yg_InvalidLineError, yh_InvalidLineError, ys_InvalidLineError, yd_InvalidLineError, ya_InvalidLineError, y0n, y0t, ym_InvalidLineError⟩, yk_InvalidLineError⟩
  have y_InvalidNumberError : ErK K C_InvalidNumberError (kq C_EmptyHistoryError C_EmptyOutlineError C_EndError C_HiddenLineError C_InvalidDepthError C_InvalidDocumentError C_InvalidFoldsError C_InvalidHeightError C_InvalidLineError C_InvalidNumberError C_InvalidObservationsError C_InvalidOutlineError C_InvalidReadingError C_InvalidScrollError C_InvalidTextError C_InvalidTitleError C_TooDeepError C_TooManyLinesError C_StickyHeadsError 9) := ⟨⟨yg_InvalidNumberError, yh_InvalidNumberError, ys_InvalidNumberError, yd_InvalidNumberError, ya_InvalidNumberError, y0n, y0t, ym_InvalidNumberError⟩, yk_InvalidNumberError⟩
  have y_InvalidObservationsError : ErK K C_InvalidObservationsError (kq C_EmptyHistoryError C_EmptyOutlineError C_EndError C_HiddenLineError C_InvalidDepthError C_InvalidDocumentError C_InvalidFoldsError C_InvalidHeightError C_InvalidLineError C_InvalidNumberError C_InvalidObservationsError C_InvalidOutlineError C_InvalidReadingError C_InvalidScrollError C_InvalidTextError C_InvalidTitleError C_TooDeepError C_TooManyLinesError C_StickyHeadsError 10) := ⟨⟨yg_InvalidObservationsError, yh_InvalidObservationsError, ys_InvalidObservationsError, yd_InvalidObservationsError, ya_InvalidObservationsError, y0n, y0t, ym_InvalidObservationsError⟩, yk_InvalidObservationsError⟩
  have y_InvalidOutlineError : ErK K C_InvalidOutlineError (kq C_EmptyHistoryError C_EmptyOutlineError C_EndError C_HiddenLineError C_InvalidDepthError C_InvalidDocumentError C_InvalidFoldsError C_InvalidHeightError C_InvalidLineError C_InvalidNumberError C_InvalidObservationsError C_InvalidOutlineError C_InvalidReadingError C_InvalidScrollError C_InvalidTextError C_InvalidTitleError C_TooDeepError C_TooManyLinesError C_StickyHeadsError 11) := ⟨⟨yg_InvalidOutlineError, yh_InvalidOutlineError, ys_InvalidOutlineError, yd_InvalidOutlineError, ya_InvalidOutlineError, y0n, y0t, ym_InvalidOutlineError⟩, yk_InvalidOutlineError⟩
  have y_InvalidReadingError : ErK K C_InvalidReadingError (kq C_EmptyHistoryError C_EmptyOutlineError C_EndError C_HiddenLineError C_InvalidDepthError C_InvalidDocumentError C_InvalidFoldsError C_InvalidHeightError C_InvalidLineError C_InvalidNumberError C_InvalidObservationsError C_InvalidOutlineError C_InvalidReadingError C_InvalidScrollError C_InvalidTextError C_InvalidTitleError C_TooDeepError C_TooManyLinesError C_StickyHeadsError 12) := ⟨⟨yg_InvalidReadingError, yh_InvalidReadingError, ys_InvalidReadingError, yd_InvalidReadingError, ya_InvalidReadingError, y0n, y0t, ym_InvalidReadingError⟩, yk_InvalidReadingError⟩
  have y_InvalidScrollError : ErK K C_InvalidScrollError (kq C_EmptyHistoryError C_EmptyOutlineError C_EndError C_HiddenLineError C_InvalidDepthError C_InvalidDocumentError C_InvalidFoldsError C_InvalidHeightError C_InvalidLineError C_InvalidNumberError C_InvalidObservationsError C_InvalidOutlineError C_InvalidReadingError C_InvalidScrollError C_InvalidTextError C_InvalidTitleError C_TooDeepError C_TooManyLinesError C_StickyHeadsError 13) := ⟨⟨yg_InvalidScrollError, yh_InvalidScrollError, ys_InvalidScrollError, yd_InvalidScrollError, ya_InvalidScrollError, y0n, y0t, ym_InvalidScrollError⟩, yk_InvalidScrollError⟩
  have y_InvalidTextError : ErK K C_InvalidTextError (kq C_EmptyHistoryError C_EmptyOutlineError C_EndError C_HiddenLineError C_InvalidDepthError C_InvalidDocumentError C_InvalidFoldsError C_InvalidHeightError C_InvalidLineError C_InvalidNumberError C_InvalidObservationsError C_InvalidOutlineError C_InvalidReadingError C_InvalidScrollError C_InvalidTextError C_InvalidTitleError C_TooDeepError C_TooManyLinesError C_StickyHeadsError 14) := ⟨⟨yg_InvalidTextError, yh_InvalidTextError, ys_InvalidTextError, yd_InvalidTextError, ya_InvalidTextError, y0n, y0t, ym_InvalidTextError⟩, yk_InvalidTextError⟩
  have y_InvalidTitleError : ErK K C_InvalidTitleError (kq C_EmptyHistoryError C_EmptyOutlineError C_EndError C_HiddenLineError C_InvalidDepthError C_InvalidDocumentError C_InvalidFoldsError C_InvalidHeightError C_InvalidLineError C_InvalidNumberError C_InvalidObservationsError C_InvalidOutlineError C_InvalidReadingError C_InvalidScrollError C_InvalidTextError C_InvalidTitleError C_TooDeepError C_TooManyLinesError C_StickyHeadsError 15) := ⟨⟨yg_InvalidTitleError, yh_InvalidTitleError, ys_InvalidTitleError, yd_InvalidTitleError, ya_InvalidTitleError, y0n, y0t, ym_InvalidTitleError⟩, yk_InvalidTitleError⟩
  have y_TooDeepError : ErK K C_TooDeepError (kq C_EmptyHistoryError C_EmptyOutlineError C_EndError C_HiddenLineError C_InvalidDepthError C_InvalidDocumentError C_InvalidFoldsError C_InvalidHeightError C_InvalidLineError C_InvalidNumberError C_InvalidObservationsError C_InvalidOutlineError C_InvalidReadingError C_InvalidScrollError C_InvalidTextError C_InvalidTitleError C_TooDeepError C_TooManyLinesError C_StickyHeadsError 16) := ⟨⟨yg_TooDeepError, yh_TooDeepError, ys_TooDeepError, yd_TooDeepError, ya_TooDeepError, y0n, y0t, ym_TooDeepError⟩, yk_TooDeepError⟩
  have y_TooManyLinesError : ErK K C_TooManyLinesError (kq C_EmptyHistoryError C_EmptyOutlineError C_EndError C_HiddenLineError C_InvalidDepthError C_InvalidDocumentError C_InvalidFoldsError C_InvalidHeightError C_InvalidLineError C_InvalidNumberError C_InvalidObservationsError C_InvalidOutlineError C_InvalidReadingError C_InvalidScrollError C_InvalidTextError C_InvalidTitleError C_TooDeepError C_TooManyLinesError C_StickyHeadsError 17) := ⟨⟨yg_TooManyLinesError, yh_TooManyLinesError, ys_TooManyLinesError, yd_TooManyLinesError, ya_TooManyLinesError, y0n, y0t, ym_TooManyLinesError⟩, yk_TooManyLinesError⟩
  have y_StickyHeadsError : ErK K C_StickyHeadsError (kz C_EmptyHistoryError C_EmptyOutlineError C_EndError C_HiddenLineError C_InvalidDepthError C_InvalidDocumentError C_InvalidFoldsError C_InvalidHeightError C_InvalidLineError C_InvalidNumberError C_InvalidObservationsError C_InvalidOutlineError C_InvalidReadingError C_InvalidScrollError C_InvalidTextError C_InvalidTitleError C_TooDeepError C_TooManyLinesError) := ⟨⟨yg_StickyHeadsError, yh_StickyHeadsError, ys_StickyHeadsError, yd_StickyHeadsError, ya_StickyHeadsError, y0n, y0t, ym_StickyHeadsError⟩, yk_StickyHeadsError⟩
  have at_law_bag : At K mg "_law_bag" s_law_bag := ⟨f0, _, fun_mk l0 c0 k0, PySem.W.mg_of X G a0⟩
  have at_law_draw : At K mg "_law_draw" s_law_draw := ⟨f1, _, fun_mk l1 c1 k1, PySem.W.mg_of X G a1⟩
  have at_law_marks : At K mg "_law_marks" s_law_marks := ⟨f2, _, fun_mk l2 c2 k2, PySem.W.mg_of X G a2⟩
  have at_law_right : At K mg "_law_right" s_law_right := ⟨f3, _, fun_mk l3 c3 k3, PySem.W.mg_of X G a3⟩
  have at_law : At K mg "law" s_law := ⟨f4, _, fun_mk l4 c4 k4, PySem.W.mg_of X G a4⟩
  refine ⟨PySem.W.fnOf "law" "law" (defArgs s_law) (defBody s_law) (defScope s_law) .none kV4 dc4 pm4 an4 cd4 ct4, fun s v => .of_eq rfl, fun base _ _ => ?_⟩
  have G_law_bag := ok_law_bag (P := l.prog) (w := w) (base := base) T at_law_bag
  have G_law_draw := ok_law_draw (P := l.prog) (w := w) (base := base) T at_law_draw
  have G_law_marks := ok_law_marks (P := l.prog) (w := w) (base := base) T k_EmptyHistoryError k_EmptyOutlineError k_EndError k_HiddenLineError k_InvalidDepthError k_InvalidDocumentError k_InvalidFoldsError k_InvalidHeightError k_InvalidLineError k_InvalidNumberError k_InvalidObservationsError k_InvalidOutlineError k_InvalidReadingError k_InvalidScrollError k_InvalidTextError k_InvalidTitleError k_TooDeepError k_TooManyLinesError at_law_marks
  have G_law_right := ok_law_right (P := l.prog) (w := w) (base := base) T e_EmptyHistoryError e_EmptyOutlineError e_EndError e_HiddenLineError e_InvalidDepthError e_InvalidDocumentError e_InvalidFoldsError e_InvalidHeightError e_InvalidLineError e_InvalidNumberError e_InvalidOutlineError e_InvalidReadingError e_InvalidScrollError e_InvalidTextError e_InvalidTitleError e_TooManyLinesError e_StickyHeadsError k_InvalidObservationsError k_TooDeepError k_StickyHeadsError i_InvalidObservationsError i_TooDeepError n_super n_ValueError y_EmptyHistoryError y_EmptyOutlineError y_EndError y_HiddenLineError y_InvalidDepthError y_InvalidDocumentError y_InvalidFoldsError y_InvalidHeightError y_InvalidLineError y_InvalidNumberError y_InvalidObservationsError y_InvalidOutlineError y_InvalidReadingError y_InvalidScrollError y_InvalidTextError y_InvalidTitleError y_TooDeepError y_TooManyLinesError y_StickyHeadsError at_law_right G_law_marks
  obtain ⟨f, fd, F, m, R, _⟩ := ok_law (P := l.prog) (w := w) (base := base) T at_law G_law_bag G_law_draw G_law_right
  have e1 := m.symm.trans hfa
  cases e1
  have e2 := (PySem.W.mg_of X G a4).symm.trans hfa
  cases e2
  obtain ⟨_, _, _, _, _, _, _, _, _, _, lk, _⟩ := F.ex
  rw [l4] at lk
  cases lk
  exact R
theorem walk {l : PySem.W.OpenLaw} {q : Program} {loose : List Str} {XP : (Str → Option Value) → Heap → Prop} {YP : World → Heap → Prop} {d : DefRec} {K : Params → PySem.W.Frag}
    (hn : l.most = some 63) (hdf : d.params.defaults = []) (hY : ∀ (w : World) (h : Heap), YP w h → (K w.params).In h)
    (F : ∀ (w : World) (mg : Str → Option Value) (fa : Addr) (h : Heap), (K w.params).In h → h.Ns mainGlobals mg → mg d.name = some (.ref fa) →
      ∃ fd : FuncData, (∀ (s : Shared) (u : Value), BindsTo s fd ⟨[u], []⟩ [("script", u)]) ∧ ∀ base : Heap, (K w.params).In base → base.Ns mainGlobals mg →
        FnG l.prog w (K w.params) mg base CX0 3 fa fd ["script"] (sp_law (K w.params))) :
    PySem.W.WalkO q loose XP YP l.row.toRowW d [] (fun f vs => PySem.call f vs) :=
  walkG (n := 63) (k := 3) (x := "script") (CX := fun _ => CX0) (sp := fun w => sp_law (K w.params)) hn (by decide) hdf ⟨rfl, by decide, by decide⟩ hY F
    (fun _ _ a ns hl _ hS => ⟨a, ns, rfl, hS, hl, fun _ => rfl⟩) fun _ _ _ _ _ z => z
end SH
open PySem PySem.W PyProof.Rows
set_option maxRecDepth 100000 in
set_option maxHeartbeats 0 in
theorem PySem.Challenge.cw_stickyheads_k86_errors_are_distinct_holds : PySem.Challenge.rw_stickyheads_k86_errors_are_distinct.Holds := by
  w_on; o_law; k_head; (case hw => w_witness2)
  k_fill
  refine SH.walk (l := PySem.Challenge.rw_stickyheads_k86_errors_are_distinct) rfl rfl (fun w h Y => PySem.W.kIn_of Y) ?F
  case F =>
    intro w mg fa h KX G hmg
    refine' SH.all_mk KX G hmg ?a0 ?l0 ?c0 ?k0 ?a1 ?l1 ?c1 ?k1 ?a2 ?l2 ?c2 ?k2 ?a3 ?l3 ?c3 ?k3 ?a4 ?l4 ?c4 ?k4 ?z_len ?z_range ?z_repr ?z_min ?z_max ?z_int ?z_list ?z_type ?z_bool ?z_tuple ?z_isinstance ?z_enumerate ?z_str ?z_zip ?z_all ?z_any ?z_sum ?z_abs ?z_sorted ?z_set ?z_dict ?z_reversed ?z_divmod ?ea_InvalidObservationsError ?ea_TooDeepError ?zn_super ?zn_ValueError ?ea_EmptyHistoryError ?eq_EmptyHistoryError ?ek_EmptyHistoryError ?ee_EmptyHistoryError ?et_EmptyHistoryError ?ea_EmptyOutlineError ?eq_EmptyOutlineError ?ek_EmptyOutlineError ?ee_EmptyOutlineError ?et_EmptyOutlineError ?ea_EndError ?eq_EndError ?ek_EndError ?ee_EndError ?et_EndError ?ea_HiddenLineError ?eq_HiddenLineError ?ek_HiddenLineError ?ee_HiddenLineError ?et_HiddenLineError ?ea_InvalidDepthError ?eq_InvalidDepthError ?ek_InvalidDepthError ?ee_InvalidDepthError ?et_InvalidDepthError ?ea_InvalidDocumentError ?eq_InvalidDocumentError ?ek_InvalidDocumentError ?ee_InvalidDocumentError ?et_InvalidDocumentError ?ea_InvalidFoldsError ?eq_InvalidFoldsError ?ek_InvalidFoldsError ?ee_InvalidFoldsError ?et_InvalidFoldsError ?ea_InvalidHeightError ?eq_InvalidHeightError ?ek_InvalidHeightError ?ee_InvalidHeightError ?et_InvalidHeightError ?ea_InvalidLineError ?eq_InvalidLineError ?ek_InvalidLineError ?ee_InvalidLineError ?et_InvalidLineError ?ea_InvalidNumberError ?eq_InvalidNumberError ?ek_InvalidNumberError ?ee_InvalidNumberError ?et_InvalidNumberError ?ea_InvalidOutlineError ?eq_InvalidOutlineError ?ek_InvalidOutlineError ?ee_InvalidOutlineError ?et_InvalidOutlineError ?ea_InvalidReadingError ?eq_InvalidReadingError ?ek_InvalidReadingError ?ee_InvalidReadingError ?et_InvalidReadingError ?ea_InvalidScrollError ?eq_InvalidScrollError ?ek_InvalidScrollError ?ee_InvalidScrollError ?et_InvalidScrollError ?ea_InvalidTextError ?eq_InvalidTextError ?ek_InvalidTextError ?ee_InvalidTextError ?et_InvalidTextError ?ea_InvalidTitleError ?eq_InvalidTitleError ?ek_InvalidTitleError ?ee_InvalidTitleError ?et_InvalidTitleError ?ea_TooManyLinesError ?eq_TooManyLinesError ?ek_TooManyLinesError ?ee_TooManyLinesError ?et_TooManyLinesError ?ea_StickyHeadsError ?eq_StickyHeadsError ?ek_StickyHeadsError ?ee_StickyHeadsError ?et_StickyHeadsError ?yg_EmptyHistoryError ?yh_EmptyHistoryError ?yd_EmptyHistoryError ?ys_EmptyHistoryError ?ya_EmptyHistoryError ?ym_EmptyHistoryError ?yk_EmptyHistoryError ?yg_EmptyOutlineError ?yh_EmptyOutlineError ?yd_EmptyOutlineError ?ys_EmptyOutlineError ?ya_EmptyOutlineError ?ym_EmptyOutlineError ?yk_EmptyOutlineError ?yg_EndError ?yh_EndError ?yd_EndError ?ys_EndError ?ya_EndError ?ym_EndError ?yk_EndError ?yg_HiddenLineError ?yh_HiddenLineError ?yd_HiddenLineError ?ys_HiddenLineError ?ya_HiddenLineError ?ym_HiddenLineError ?yk_HiddenLineError ?yg_InvalidDepthError ?yh_InvalidDepthError ?yd_InvalidDepthError ?ys_InvalidDepthError ?ya_InvalidDepthError ?ym_InvalidDepthError ?yk_InvalidDepthError ?yg_InvalidDocumentError ?yh_InvalidDocumentError ?yd_InvalidDocumentError ?ys_InvalidDocumentError ?ya_InvalidDocumentError ?ym_InvalidDocumentError ?yk_InvalidDocumentError ?yg_InvalidFoldsError ?yh_InvalidFoldsError ?yd_InvalidFoldsError ?ys_InvalidFoldsError ?ya_InvalidFoldsError ?ym_InvalidFoldsError ?yk_InvalidFoldsError ?yg_InvalidHeightError ?yh_InvalidHeightError ?yd_InvalidHeightError ?ys_InvalidHeightError ?ya_InvalidHeightError ?ym_InvalidHeightError ?yk_InvalidHeightError ?yg_InvalidLineError ?yh_InvalidLineError ?yd_InvalidLineError ?ys_InvalidLineError ?ya_InvalidLineError ?ym_InvalidLineError ?yk_InvalidLineError ?yg_InvalidNumberError ?yh_InvalidNumberError ?yd_InvalidNumberError ?ys_InvalidNumberError ?ya_InvalidNumberError ?ym_InvalidNumberError ?yk_InvalidNumberError ?yg_InvalidObservationsError ?yh_InvalidObservationsError ?yd_InvalidObservationsError ?ys_InvalidObservationsError ?ya_InvalidObservationsError ?ym_InvalidObservationsError ?yk_InvalidObservationsError ?yg_InvalidOutlineError ?yh_InvalidOutlineError ?yd_InvalidOutlineError ?ys_InvalidOutlineError ?ya_InvalidOutlineError ?ym_InvalidOutlineError ?yk_InvalidOutlineError ?yg_InvalidReadingError ?yh_InvalidReadingError ?yd_InvalidReadingError ?ys_InvalidReadingError ?ya_InvalidReadingError ?ym_InvalidReadingError ?yk_InvalidReadingError ?yg_InvalidScrollError ?yh_InvalidScrollError ?yd_InvalidScrollError ?ys_InvalidScrollError ?ya_InvalidScrollError ?ym_InvalidScrollError ?yk_InvalidScrollError ?yg_InvalidTextError ?yh_InvalidTextError ?yd_InvalidTextError ?ys_InvalidTextError ?ya_InvalidTextError ?ym_InvalidTextError ?yk_InvalidTextError ?yg_InvalidTitleError ?yh_InvalidTitleError ?yd_InvalidTitleError ?ys_InvalidTitleError ?ya_InvalidTitleError ?ym_InvalidTitleError ?yk_InvalidTitleError ?yg_TooDeepError ?yh_TooDeepError ?yd_TooDeepError ?ys_TooDeepError ?ya_TooDeepError ?ym_TooDeepError ?yk_TooDeepError ?yg_TooManyLinesError ?yh_TooManyLinesError ?yd_TooManyLinesError ?ys_TooManyLinesError ?ya_TooManyLinesError ?ym_TooManyLinesError ?yk_TooManyLinesError ?yg_StickyHeadsError ?yh_StickyHeadsError ?yd_StickyHeadsError ?ys_StickyHeadsError ?ya_StickyHeadsError ?ym_StickyHeadsError ?yk_StickyHeadsError ?y0n ?y0t ?ixL_iInvalidObservationsError ?ixr_iInvalidObservationsError ?ixs_iInvalidObservationsError ?ixe_iInvalidObservationsError ?ixt_iInvalidObservationsError ?ixk_iInvalidObservationsError ?ix7_iInvalidObservationsError ?ix1_iInvalidObservationsError ?ix2_iInvalidObservationsError ?ix3_iInvalidObservationsError ?ix4_iInvalidObservationsError ?ix5_iInvalidObservationsError ?ix6_iInvalidObservationsError ?ix8_iInvalidObservationsError ?ix9_iInvalidObservationsError ?ixb_iInvalidObservationsError ?ixm_iInvalidObservationsError ?ixo_iInvalidObservationsError ?ixn_iInvalidObservationsError ?ixp_iInvalidObservationsError ?ixL_iTooDeepError ?ixr_iTooDeepError ?ixs_iTooDeepError ?ixe_iTooDeepError ?ixt_iTooDeepError ?ixk_iTooDeepError ?ix7_iTooDeepError ?ix1_iTooDeepError ?ix2_iTooDeepError ?ix3_iTooDeepError ?ix4_iTooDeepError ?ix5_iTooDeepError ?ix6_iTooDeepError ?ix8_iTooDeepError ?ix9_iTooDeepError ?ixb_iTooDeepError ?ixm_iTooDeepError ?ixo_iTooDeepError ?ixn_iTooDeepError ?ixp_iTooDeepError
    (case a0 => k_is); (case l0 => k_is); (case c0 => k_is); (case k0 => k_is); (case a1 => k_is); (case l1 => k_is); (case c1 => k_is); (case k1 => k_is)
    (case a2 => k_is); (case l2 => k_is); (case c2 => k_is); (case k2 => k_is); (case a3 => k_is); (case l3 => k_is); (case c3 => k_is); (case k3 => k_is)
    (case a4 => k_is); (case l4 => k_is); (case c4 => k_is); (case k4 => k_is); (case z_len => k_is); (case z_range => k_is); (case z_repr => k_is); (case z_min => k_is)
    (case z_max => k_is); (case z_int => k_is); (case z_list => k_is); (case z_type => k_is); (case z_bool => k_is); (case z_tuple => k_is); (case z_isinstance => k_is); (case z_enumerate => k_is)
    (case z_str => k_is); (case z_zip => k_is); (case z_all => k_is); (case z_any => k_is); (case z_sum => k_is); (case z_abs => k_is); (case z_sorted => k_is); (case z_set => k_is)
    (case z_dict => k_is); (case z_reversed => k_is); (case z_divmod => k_is); (case ea_InvalidObservationsError => k_is); (case ea_TooDeepError => k_is); (case zn_super => k_is); (case zn_ValueError => k_is); (case ea_EmptyHistoryError => k_is)
    (case eq_EmptyHistoryError => kernel_rfl); (case ek_EmptyHistoryError => k_is); (case ee_EmptyHistoryError => k_is); (case et_EmptyHistoryError => k_is); (case ea_EmptyOutlineError => k_is); (case eq_EmptyOutlineError => kernel_rfl); (case ek_EmptyOutlineError => k_is); (case ee_EmptyOutlineError => k_is)
    (case et_EmptyOutlineError => k_is); (case ea_EndError => k_is); (case eq_EndError => kernel_rfl); (case ek_EndError => k_is); (case ee_EndError => k_is); (case et_EndError => k_is); (case ea_HiddenLineError => k_is); (case eq_HiddenLineError => kernel_rfl)
    (case ek_HiddenLineError => k_is); (case ee_HiddenLineError => k_is); (case et_HiddenLineError => k_is); (case ea_InvalidDepthError => k_is); (case eq_InvalidDepthError => kernel_rfl); (case ek_InvalidDepthError => k_is); (case ee_InvalidDepthError => k_is); (case et_InvalidDepthError => k_is)
    (case ea_InvalidDocumentError => k_is); (case eq_InvalidDocumentError => kernel_rfl); (case ek_InvalidDocumentError => k_is); (case ee_InvalidDocumentError => k_is); (case et_InvalidDocumentError => k_is); (case ea_InvalidFoldsError => k_is); (case eq_InvalidFoldsError => kernel_rfl); (case ek_InvalidFoldsError => k_is)
    (case ee_InvalidFoldsError => k_is); (case et_InvalidFoldsError => k_is); (case ea_InvalidHeightError => k_is); (case eq_InvalidHeightError => kernel_rfl); (case ek_InvalidHeightError => k_is); (case ee_InvalidHeightError => k_is); (case et_InvalidHeightError => k_is); (case ea_InvalidLineError => k_is)
    (case eq_InvalidLineError => kernel_rfl); (case ek_InvalidLineError => k_is); (case ee_InvalidLineError => k_is); (case et_InvalidLineError => k_is); (case ea_InvalidNumberError => k_is); (case eq_InvalidNumberError => kernel_rfl); (case ek_InvalidNumberError => k_is); (case ee_InvalidNumberError => k_is)
    (case et_InvalidNumberError => k_is); (case ea_InvalidOutlineError => k_is); (case eq_InvalidOutlineError => kernel_rfl); (case ek_InvalidOutlineError => k_is); (case ee_InvalidOutlineError => k_is); (case et_InvalidOutlineError => k_is); (case ea_InvalidReadingError => k_is); (case eq_InvalidReadingError => kernel_rfl)
    (case ek_InvalidReadingError => k_is); (case ee_InvalidReadingError => k_is); (case et_InvalidReadingError => k_is); (case ea_InvalidScrollError => k_is); (case eq_InvalidScrollError => kernel_rfl); (case ek_InvalidScrollError => k_is); (case ee_InvalidScrollError => k_is); (case et_InvalidScrollError => k_is)
    (case ea_InvalidTextError => k_is); (case eq_InvalidTextError => kernel_rfl); (case ek_InvalidTextError => k_is); (case ee_InvalidTextError => k_is); (case et_InvalidTextError => k_is); (case ea_InvalidTitleError => k_is); (case eq_InvalidTitleError => kernel_rfl); (case ek_InvalidTitleError => k_is)
    (case ee_InvalidTitleError => k_is); (case et_InvalidTitleError => k_is); (case ea_TooManyLinesError => k_is); (case eq_TooManyLinesError => kernel_rfl); (case ek_TooManyLinesError => k_is); (case ee_TooManyLinesError => k_is); (case et_TooManyLinesError => k_is); (case ea_StickyHeadsError => k_is)
    (case eq_StickyHeadsError => kernel_rfl); (case ek_StickyHeadsError => k_is); (case ee_StickyHeadsError => k_is); (case et_StickyHeadsError => k_is); (case yg_EmptyHistoryError => first | rfl | k_is | kernel_rfl); (case yh_EmptyHistoryError => first | rfl | k_is | kernel_rfl); (case yd_EmptyHistoryError => first | rfl | k_is | kernel_rfl); (case ys_EmptyHistoryError => first | rfl | k_is | kernel_rfl)
    (case ya_EmptyHistoryError => first | rfl | k_is | kernel_rfl); (case ym_EmptyHistoryError => first | rfl | k_is | kernel_rfl); (case yk_EmptyHistoryError => (repeat' (first | exact True.intro | refine And.intro ?_ ?_ | kernel_rfl))); (case yg_EmptyOutlineError => first | rfl | k_is | kernel_rfl); (case yh_EmptyOutlineError => first | rfl | k_is | kernel_rfl); (case yd_EmptyOutlineError => first | rfl | k_is | kernel_rfl); (case ys_EmptyOutlineError => first | rfl | k_is | kernel_rfl); (case ya_EmptyOutlineError => first | rfl | k_is | kernel_rfl)
    (case ym_EmptyOutlineError => first | rfl | k_is | kernel_rfl); (case yk_EmptyOutlineError => (repeat' (first | exact True.intro | refine And.intro ?_ ?_ | kernel_rfl))); (case yg_EndError => first | rfl | k_is | kernel_rfl); (case yh_EndError => first | rfl | k_is | kernel_rfl); (case yd_EndError => first | rfl | k_is | kernel_rfl); (case ys_EndError => first | rfl | k_is | kernel_rfl); (case ya_EndError => first | rfl | k_is | kernel_rfl); (case ym_EndError => first | rfl | k_is | kernel_rfl)
    (case yk_EndError => (repeat' (first | exact True.intro | refine And.intro ?_ ?_ | kernel_rfl))); (case yg_HiddenLineError => first | rfl | k_is | kernel_rfl); (case yh_HiddenLineError => first | rfl | k_is | kernel_rfl); (case yd_HiddenLineError => first | rfl | k_is | kernel_rfl); (case ys_HiddenLineError => first | rfl | k_is | kernel_rfl); (case ya_HiddenLineError => first | rfl | k_is | kernel_rfl); (case ym_HiddenLineError => first | rfl | k_is | kernel_rfl); (case yk_HiddenLineError => (repeat' (first | exact True.intro | refine And.intro ?_ ?_ | kernel_rfl)))
    (case yg_InvalidDepthError => first | rfl | k_is | kernel_rfl); (case yh_InvalidDepthError => first | rfl | k_is | kernel_rfl); (case yd_InvalidDepthError => first | rfl | k_is | kernel_rfl); (case ys_InvalidDepthError => first | rfl | k_is | kernel_rfl); (case ya_InvalidDepthError => first | rfl | k_is | kernel_rfl); (case ym_InvalidDepthError => first | rfl | k_is | kernel_rfl); (case yk_InvalidDepthError => (repeat' (first | exact True.intro | refine And.intro ?_ ?_ | kernel_rfl))); (case yg_InvalidDocumentError => first | rfl | k_is | kernel_rfl)
    (case yh_InvalidDocumentError => first | rfl | k_is | kernel_rfl); (case yd_InvalidDocumentError => first | rfl | k_is | kernel_rfl); (case ys_InvalidDocumentError => first | rfl | k_is | kernel_rfl); (case ya_InvalidDocumentError => first | rfl | k_is | kernel_rfl); (case ym_InvalidDocumentError => first | rfl | k_is | kernel_rfl); (case yk_InvalidDocumentError => (repeat' (first | exact True.intro | refine And.intro ?_ ?_ | kernel_rfl))); (case yg_InvalidFoldsError => first | rfl | k_is | kernel_rfl); (case yh_InvalidFoldsError => first | rfl | k_is | kernel_rfl)
    (case yd_InvalidFoldsError => first | rfl | k_is | kernel_rfl); (case ys_InvalidFoldsError => first | rfl | k_is | kernel_rfl); (case ya_InvalidFoldsError => first | rfl | k_is | kernel_rfl); (case ym_InvalidFoldsError => first | rfl | k_is | kernel_rfl); (case yk_InvalidFoldsError => (repeat' (first | exact True.intro | refine And.intro ?_ ?_ | kernel_rfl))); (case yg_InvalidHeightError => first | rfl | k_is | kernel_rfl); (case yh_InvalidHeightError => first | rfl | k_is | kernel_rfl); (case yd_InvalidHeightError => first | rfl | k_is | kernel_rfl)
    (case ys_InvalidHeightError => first | rfl | k_is | kernel_rfl); (case ya_InvalidHeightError => first | rfl | k_is | kernel_rfl); (case ym_InvalidHeightError => first | rfl | k_is | kernel_rfl); (case yk_InvalidHeightError => (repeat' (first | exact True.intro | refine And.intro ?_ ?_ | kernel_rfl))); (case yg_InvalidLineError => first | rfl | k_is | kernel_rfl); (case yh_InvalidLineError => first | rfl | k_is | kernel_rfl); (case yd_InvalidLineError => first | rfl | k_is | kernel_rfl); (case ys_InvalidLineError => first | rfl | k_is | kernel_rfl)
    (case ya_InvalidLineError => first | rfl | k_is | kernel_rfl); (case ym_InvalidLineError => first | rfl | k_is | kernel_rfl); (case yk_InvalidLineError => (repeat' (first | exact True.intro | refine And.intro ?_ ?_ | kernel_rfl))); (case yg_InvalidNumberError => first | rfl | k_is | kernel_rfl); (case yh_InvalidNumberError => first | rfl | k_is | kernel_rfl); (case yd_InvalidNumberError => first | rfl | k_is | kernel_rfl); (case ys_InvalidNumberError => first | rfl | k_is | kernel_rfl); (case ya_InvalidNumberError => first | rfl | k_is | kernel_rfl)
    (case ym_InvalidNumberError => first | rfl | k_is | kernel_rfl); (case yk_InvalidNumberError => (repeat' (first | exact True.intro | refine And.intro ?_ ?_ | kernel_rfl))); (case yg_InvalidObservationsError => first | rfl | k_is | kernel_rfl); (case yh_InvalidObservationsError => first | rfl | k_is | kernel_rfl); (case yd_InvalidObservationsError => first | rfl | k_is | kernel_rfl); (case ys_InvalidObservationsError => first | rfl | k_is | kernel_rfl); (case ya_InvalidObservationsError => first | rfl | k_is | kernel_rfl); (case ym_InvalidObservationsError => first | rfl | k_is | kernel_rfl)
    (case yk_InvalidObservationsError => (repeat' (first | exact True.intro | refine And.intro ?_ ?_ | kernel_rfl))); (case yg_InvalidOutlineError => first | rfl | k_is | kernel_rfl); (case yh_InvalidOutlineError => first | rfl | k_is | kernel_rfl); (case yd_InvalidOutlineError => first | rfl | k_is | kernel_rfl); (case ys_InvalidOutlineError => first | rfl | k_is | kernel_rfl); (case ya_InvalidOutlineError => first | rfl | k_is | kernel_rfl); (case ym_InvalidOutlineError => first | rfl | k_is | kernel_rfl); (case yk_InvalidOutlineError => (repeat' (first | exact True.intro | refine And.intro ?_ ?_ | kernel_rfl)))
    (case yg_InvalidReadingError => first | rfl | k_is | kernel_rfl); (case yh_InvalidReadingError => first | rfl | k_is | kernel_rfl); (case yd_InvalidReadingError => first | rfl | k_is | kernel_rfl); (case ys_InvalidReadingError => first | rfl | k_is | kernel_rfl); (case ya_InvalidReadingError => first | rfl | k_is | kernel_rfl); (case ym_InvalidReadingError => first | rfl | k_is | kernel_rfl); (case yk_InvalidReadingError => (repeat' (first | exact True.intro | refine And.intro ?_ ?_ | kernel_rfl))); (case yg_InvalidScrollError => first | rfl | k_is | kernel_rfl)
    (case yh_InvalidScrollError => first | rfl | k_is | kernel_rfl); (case yd_InvalidScrollError => first | rfl | k_is | kernel_rfl); (case ys_InvalidScrollError => first | rfl | k_is | kernel_rfl); (case ya_InvalidScrollError => first | rfl | k_is | kernel_rfl); (case ym_InvalidScrollError => first | rfl | k_is | kernel_rfl); (case yk_InvalidScrollError => (repeat' (first | exact True.intro | refine And.intro ?_ ?_ | kernel_rfl))); (case yg_InvalidTextError => first | rfl | k_is | kernel_rfl); (case yh_InvalidTextError => first | rfl | k_is | kernel_rfl)
    (case yd_InvalidTextError => first | rfl | k_is | kernel_rfl); (case ys_InvalidTextError => first | rfl | k_is | kernel_rfl); (case ya_InvalidTextError => first | rfl | k_is | kernel_rfl); (case ym_InvalidTextError => first | rfl | k_is | kernel_rfl); (case yk_InvalidTextError => (repeat' (first | exact True.intro | refine And.intro ?_ ?_ | kernel_rfl))); (case yg_InvalidTitleError => first | rfl | k_is | kernel_rfl); (case yh_InvalidTitleError => first | rfl | k_is | kernel_rfl); (case yd_InvalidTitleError => first | rfl | k_is | kernel_rfl)
    (case ys_InvalidTitleError => first | rfl | k_is | kernel_rfl); (case ya_InvalidTitleError => first | rfl | k_is | kernel_rfl); (case ym_InvalidTitleError => first | rfl | k_is | kernel_rfl); (case yk_InvalidTitleError => (repeat' (first | exact True.intro | refine And.intro ?_ ?_ | kernel_rfl))); (case yg_TooDeepError => first | rfl | k_is | kernel_rfl); (case yh_TooDeepError => first | rfl | k_is | kernel_rfl); (case yd_TooDeepError => first | rfl | k_is | kernel_rfl); (case ys_TooDeepError => first | rfl | k_is | kernel_rfl)
    (case ya_TooDeepError => first | rfl | k_is | kernel_rfl); (case ym_TooDeepError => first | rfl | k_is | kernel_rfl); (case yk_TooDeepError => (repeat' (first | exact True.intro | refine And.intro ?_ ?_ | kernel_rfl))); (case yg_TooManyLinesError => first | rfl | k_is | kernel_rfl); (case yh_TooManyLinesError => first | rfl | k_is | kernel_rfl); (case yd_TooManyLinesError => first | rfl | k_is | kernel_rfl); (case ys_TooManyLinesError => first | rfl | k_is | kernel_rfl); (case ya_TooManyLinesError => first | rfl | k_is | kernel_rfl)
    (case ym_TooManyLinesError => first | rfl | k_is | kernel_rfl); (case yk_TooManyLinesError => (repeat' (first | exact True.intro | refine And.intro ?_ ?_ | kernel_rfl))); (case yg_StickyHeadsError => first | rfl | k_is | kernel_rfl); (case yh_StickyHeadsError => first | rfl | k_is | kernel_rfl); (case yd_StickyHeadsError => first | rfl | k_is | kernel_rfl); (case ys_StickyHeadsError => first | rfl | k_is | kernel_rfl); (case ya_StickyHeadsError => first | rfl | k_is | kernel_rfl); (case ym_StickyHeadsError => first | rfl | k_is | kernel_rfl)
    (case yk_StickyHeadsError => (repeat' (first | exact True.intro | refine And.intro ?_ ?_ | kernel_rfl))); (case y0n => first | rfl | k_is | kernel_rfl); (case y0t => first | rfl | k_is | kernel_rfl); (case ixL_iInvalidObservationsError => (first | rfl | k_is | kernel_rfl | decide +kernel)); (case ixr_iInvalidObservationsError => (first | rfl | k_is | kernel_rfl | decide +kernel)); (case ixs_iInvalidObservationsError => (first | rfl | k_is | kernel_rfl | decide +kernel)); (case ixe_iInvalidObservationsError => (first | rfl | k_is | kernel_rfl | decide +kernel)); (case ixt_iInvalidObservationsError => (first | rfl | k_is | kernel_rfl | decide +kernel))
    (case ixk_iInvalidObservationsError => (first | rfl | k_is | kernel_rfl | decide +kernel)); (case ix7_iInvalidObservationsError => (first | rfl | k_is | kernel_rfl | decide +kernel)); (case ix1_iInvalidObservationsError => (first | rfl | k_is | kernel_rfl | decide +kernel)); (case ix2_iInvalidObservationsError => (first | rfl | k_is | kernel_rfl | decide +kernel)); (case ix3_iInvalidObservationsError => (first | rfl | k_is | kernel_rfl | decide +kernel)); (case ix4_iInvalidObservationsError => (first | rfl | k_is | kernel_rfl | decide +kernel)); (case ix5_iInvalidObservationsError => (first | rfl | k_is | kernel_rfl | decide +kernel)); (case ix6_iInvalidObservationsError => (first | rfl | k_is | kernel_rfl | decide +kernel))
    (case ix8_iInvalidObservationsError => (first | rfl | k_is | kernel_rfl | decide +kernel)); (case ix9_iInvalidObservationsError => (first | rfl | k_is | kernel_rfl | decide +kernel)); (case ixb_iInvalidObservationsError => (first | rfl | k_is | kernel_rfl | decide +kernel)); (case ixm_iInvalidObservationsError => (first | rfl | k_is | kernel_rfl | decide +kernel)); (case ixo_iInvalidObservationsError => (first | rfl | k_is | kernel_rfl | decide +kernel)); (case ixn_iInvalidObservationsError => (first | rfl | k_is | kernel_rfl | decide +kernel)); (case ixp_iInvalidObservationsError => (first | rfl | k_is | kernel_rfl | decide +kernel)); (case ixL_iTooDeepError => (first | rfl | k_is | kernel_rfl | decide +kernel))
    (case ixr_iTooDeepError => (first | rfl | k_is | kernel_rfl | decide +kernel)); (case ixs_iTooDeepError => (first | rfl | k_is | kernel_rfl | decide +kernel)); (case ixe_iTooDeepError => (first | rfl | k_is | kernel_rfl | decide +kernel)); (case ixt_iTooDeepError => (first | rfl | k_is | kernel_rfl | decide +kernel)); (case ixk_iTooDeepError => (first | rfl | k_is | kernel_rfl | decide +kernel)); (case ix7_iTooDeepError => (first | rfl | k_is | kernel_rfl | decide +kernel)); (case ix1_iTooDeepError => (first | rfl | k_is | kernel_rfl | decide +kernel)); (case ix2_iTooDeepError => (first | rfl | k_is | kernel_rfl | decide +kernel))
    (case ix3_iTooDeepError => (first | rfl | k_is | kernel_rfl | decide +kernel)); (case ix4_iTooDeepError => (first | rfl | k_is | kernel_rfl | decide +kernel)); (case ix5_iTooDeepError => (first | rfl | k_is | kernel_rfl | decide +kernel)); (case ix6_iTooDeepError => (first | rfl | k_is | kernel_rfl | decide +kernel)); (case ix8_iTooDeepError => (first | rfl | k_is | kernel_rfl | decide +kernel)); (case ix9_iTooDeepError => (first | rfl | k_is | kernel_rfl | decide +kernel)); (case ixb_iTooDeepError => (first | rfl | k_is | kernel_rfl | decide +kernel)); (case ixm_iTooDeepError => (first | rfl | k_is | kernel_rfl | decide +kernel))
    (case ixo_iTooDeepError => (first | rfl | k_is | kernel_rfl | decide +kernel)); (case ixn_iTooDeepError => (first | rfl | k_is | kernel_rfl | decide +kernel)); (case ixp_iTooDeepError => (first | rfl | k_is | kernel_rfl | decide +kernel))

