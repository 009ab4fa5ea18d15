import PyProof.Rows.All
import Wide.All
import OpenK.AllK
import Wide.FinOn
import PyProof.EqAt
import PyProof.EqKinds
import PyProof.TupleCall
import PyProof.ReprRoads
import HandS.Base
import HandS.Call
import HandS.List
import HandS.Comp
import HandS.Iter
import HandS.Ends
import HandS.Words
import HandS.WordsList
import PyProof.TypeEq
import PyProof.InstEq
import HandS.IsInst
import HandS.Zip
import HandS.Wide
import HandS.Evl
import HandS.Conv
import HandS.RevRange
import PyProof.ReprLen
import PyProof.Rows.RegStrFacts
import HandS.SetFor
import HandS.Strs
import HandS.SortInts
import PyProof.Rows.SortShellAny
import HandS.Dict
import HandS.Finally
import HandS.Exc
import HandS.TryOnly
import HandS.TryMany
import HandS.ExcOwn
import HandS.CallSlots
import HandS.WordsExc
import HandS.SortKw
import HandS.SortRule
import KE.DataMinMax
import HandS.ExcInit
import HandS.ExcIs
import HandS.ExcField
import HandS.HotCalls
import HandS.ExcValue
import KE.KExcSuper
import KE.KSuper
import PyProof.ReprReads
import HandS.Style
import PySem.Challenge.RW_stickyheads_k05_errors_of_outlines
set_option Elab.async false
set_option linter.all false
set_option maxRecDepth 100000
/-! SH0: calls where no repr is running: the promise of a def under an empty list of guards. -/
namespace SH
open PySem PySem.Spec PyProof.Rows L2

/-- nothing that guards itself (repr and its like) runs around -/
abbrev Quiet (A : Around) : Prop := A.guards = some []

structure FnG (P : Program) (w : World) (K : PySem.W.Frag) (mg : Str → Option Value) (base : Heap)
    (CX : CXT) (k : Nat) (f : Addr) (fd : FuncData) (ps : List Str) (sp : Sp) : Prop where
  arity : ∀ vs H Q E, sp vs H Q E → vs.length = ps.length
  go : ∀ (A : Around) (outer : List Env) (s : Shared) (H : Hp) (args : Args) (us : List Value) (vs : List V)
    (Q : VK) (E : XK), Room k A → Quiet A → Env0 P w K mg base A outer s H →
    BindsTo s fd args (ps.zip us) → Vals vs us → sp vs H Q E →
    codeAny (model P w) A (.call (.ref f) args) (CR CX outer P w H s Q E) s

section
variable {X : Cx} {CX : CXT} {k : Nat} {f : Addr} {fd : FuncData} {ps ks : List Str} {sp : Sp}
  {dvs : List V} {ds : List Value} {E : XK} {x : Str} {p pos : Pos} {e : Expr} {es : List Expr} {t tk : TA}
  {kws : List Keyword} {g : List Value → List Value → List Value} {gV : List V → List V → List V}

theorem endG {pins : List (Addr × Obj)} {σ : L2.St} {H : Hp} {s : Shared} {Q : VK} (I : Inv X pins σ H s)
    (hx : Passes CX X E) : ∀ (r : Result) (s' : Shared), CR CX X.stack X.prog X.w H s Q E r s' →
    (match r with
      | .ok (.ret u) => EP X pins σ Q u s'
      | .ok _ => False
      | .error e => X.xe e s')
  | .error e, s', q => hx pins σ H s e s' I q
  | .ok (.ret _), _, q => I.after q
  | .ok .next, _, q => False.elim q
  | .ok .brk, _, q => False.elim q
  | .ok .cont, _, q => False.elim q

theorem goG {pins : List (Addr × Obj)} {σ : L2.St} {H : Hp} {s : Shared} {Q : VK} {us : List Value} {vs : List V}
    (F : FnG X.prog X.w X.K X.mg X.base CX k f fd ps sp) (room : Room k X.A) (qt : Quiet X.A)
    (hb : Binds X.K fd ps ds) (hd : Vals dvs ds) (hx : Passes CX X E)
    (I : Inv X pins σ H s) (r : Vals vs us) (h : sp (vs ++ dvs) H Q E) :
    wpAny (model X.prog X.w) X.A (call (.ref f) us) (EP X pins σ Q) X.xe s := by
  have rr : Vals (vs ++ dvs) (us ++ ds) := r.append hd
  have hlen : (us ++ ds).length = ps.length := by rw [← rr.length]; exact F.arity _ _ _ _ h
  refine wpAny_call (codeAny_mono (F.go X.A X.stack s H ⟨us, []⟩ (us ++ ds) (vs ++ dvs) Q E room qt
    I.env0 (hb s us I.kIn hlen) rr h) fun r s' hq => ?_)
  have := endG I hx r s' hq
  cases r with
  | error e => exact this
  | ok fl => cases fl with
    | ret u => exact this
    | _ => exact False.elim this

theorem pe_callG (F : FnG X.prog X.w X.K X.mg X.base CX k f fd ps sp) (room : Room k X.A) (qt : Quiet X.A)
    (hg : Gl X x) (hm : X.mg x = some (.ref f)) (hk : PySem.W.keepIn X.K (.ref f) = true)
    (hb : Binds X.K fd ps ds) (hd : Vals dvs ds) (hx : Passes CX X E) (ha : PA X (e :: es) t)
    (hdb : (x == ("__debug__" : Str)) = false := by decide)
    (he : starEach (e :: es) X.env = (false, eval e X.env) :: starEach es X.env := by rfl)
    (hpl : (backTo pos (starEach es X.env)).any (·.1) = false := by rfl) :
    PE X (.Call (.Name x p) (e :: es) [] pos) (tCall sp dvs E t) :=
  ⟨fun pins s σ H Q I h => wpAny_Call_Name_kw (ld_glob I hg hm
    (PySem.W.callWith_K (h₀ := X.base) I.ok.mod.kin hk
      (thn (ha.run pos pins s σ H _ I h) fun us s1 ⟨vs, H1, I1, r, q⟩ =>
        ⟨I1.kIn, goG F room qt hb hd hx I1 r q⟩) he hpl) hdb)⟩

theorem pe_callG0 (F : FnG X.prog X.w X.K X.mg X.base CX k f fd ps sp) (room : Room k X.A) (qt : Quiet X.A)
    (hg : Gl X x) (hm : X.mg x = some (.ref f)) (hk : PySem.W.keepIn X.K (.ref f) = true)
    (hb : Binds X.K fd ps ds) (hd : Vals dvs ds) (hx : Passes CX X E)
    (hdb : (x == ("__debug__" : Str)) = false := by decide) :
    PE X (.Call (.Name x p) [] [] pos) (tCall sp dvs E tNil) :=
  ⟨fun pins s σ H Q I h => wpAny_Call_Name_kw (ld_glob I hg hm
    (PySem.W.callWith_K0 I.kIn hk (goG (us := []) F room qt hb hd hx I .nil h)) hdb)⟩

theorem goGK {pins : List (Addr × Obj)} {σ : L2.St} {H : Hp} {s : Shared} {Q : VK} {us ws : List Value}
    {vs zs : List V} (F : FnG X.prog X.w X.K X.mg X.base CX k f fd ps sp) (room : Room k X.A) (qt : Quiet X.A)
    (hb : KBinds X.K fd ps ks g gV) (hx : Passes CX X E)
    (I : Inv X pins σ H s) (r : Vals vs us) (rz : Vals zs ws) (h : sp (gV vs zs) H Q E) :
    wpAny (model X.prog X.w) X.A (call (.ref f) us (ks.zip ws)) (EP X pins σ Q) X.xe s := by
  have rr := hb.rel r rz
  have hlen : (g us ws).length = ps.length := by rw [← rr.length]; exact F.arity _ _ _ _ h
  refine wpAny_call (codeAny_mono (F.go X.A X.stack s H ⟨us, ks.zip ws⟩ (g us ws) (gV vs zs) Q E room qt
    I.env0 (hb.to s us ws I.kIn hlen) rr h) fun r s' hq => ?_)
  have := endG I hx r s' hq
  cases r with
  | error e => exact this
  | ok fl => cases fl with
    | ret u => exact this
    | _ => exact False.elim this

/-- f(k = v, ..): no argument by position -/
theorem pe_callGK0 (F : FnG X.prog X.w X.K X.mg X.base CX k f fd ps sp) (room : Room k X.A)
    (qt : Quiet X.A) (hg : Gl X x) (hm : X.mg x = some (.ref f)) (hk : PySem.W.keepIn X.K (.ref f) = true)
    (hb : KBinds X.K fd ps ks g gV) (hx : Passes CX X E) (hkw : PK X kws tk)
    (hall : (backToKw pos (keywordEach kws X.env)).all (·.1.isSome) = true := by rfl)
    (hks : (backToKw pos (keywordEach kws X.env)).filterMap (·.1) = ks := by rfl)
    (hdb : (x == ("__debug__" : Str)) = false := by decide)
    (hpl : ((backTo pos (starEach [] X.env)).any (·.1) ||
      (backToKw pos (keywordEach kws X.env)).any (·.1.isNone)) = false := by rfl) :
    PE X (.Call (.Name x p) [] kws pos) (tCallK sp gV E tNil tk) :=
  ⟨fun pins s σ H Q I h => wpAny_Call_Name_kw (ld_glob I hg hm
    (PySem.W.callWith_KW0 (h₀ := X.base) I.ok.mod.kin hk hall
      (thn (hkw.run pos pins s σ H _ I h) fun ws s2 ⟨zs, H2, I2, rz, q2⟩ => ⟨I2.kIn, by
        rw [hks]
        exact goGK (us := []) (vs := []) F room qt hb hx I2 .nil rz q2⟩) hpl) hdb)⟩
end

/-! ### a def of the text, walked where all is quiet -/
section
variable {P : Program} {w : World} {K : PySem.W.Frag} {mg : Str → Option Value} {base : Heap}

theorem FnG.of {CX : CXT} {x qual : Str} {st : Stmt} {f : Addr} {fd : FuncData} {N ps : List Str} {k : Nat} {sp : Sp}
    (F : Fun K x qual st f fd) (S : FnScope N ps (defScope st)) (len : ∀ vs H Q E, sp vs H Q E → vs.length = ps.length)
    (walk : ∀ (cdv : Value) (A : Around) (outer : List Env) (s : Shared) (H : Hp) (vs : List V) (Q : VK) (E : XK),
      Room k (A.deeper (envOfC qual (defScope st) s.heap.objs.size f cdv)) →
      Quiet (A.deeper (envOfC qual (defScope st) s.heap.objs.size f cdv)) → sp vs H Q E →
      ∃ t, PSs (cxOf CX P w K mg base N qual (defScope st) f cdv A outer s H E) (defBody st) t ∧
        t { nx := fun _ H' => Q .non H', rt := Q } (start N vs) H) :
    FnG P w K mg base CX (k + 1) f fd ps sp := by
  obtain ⟨oc, od, kV, doc, pm, an, cdv, ct, osl, rfl, lk, hcd⟩ := F.ex
  refine ⟨len, fun A outer s H args us vs Q E room qt e0 hb r hsp => ?_⟩
  have hl := len _ _ _ _ hsp
  have inK : K.In s.heap := e0.mod.kin.keeps fun b o e => (e0.bs b o e).1
  have lim : s.heap.NoLimit := e0.mod.nolimit.keeps fun b o e => (e0.bs b o e).1
  have kinds : ∀ y ∈ ps.zip us, (defScope st).names.lookup y.1 = some .local ∨
      ((defScope st).names.lookup y.1 = some .cell ∧
        ((cellsFrom (s.heap.objs.size + 1) (defScope st).names []).lookup y.1).isSome = true) := by
    rintro ⟨n, v⟩ hy
    rcases S.par n (List.of_mem_zip hy).1 with z | z
    · exact .inl z
    · exact .inr ⟨z, PySem.W.cellsFrom_some _ _ _ (.inl z)⟩
  refine codeAny_call_function room.depth (inK _ _ lk) rfl S.co S.gen rfl (PySem.W.codeRec_of inK hcd) (hb _ _ _ _ ?_)
  refine wpAny_newFunctionEnv_cells S.kind kinds fun env he s1 ic => ?_
  subst he
  refine ⟨lim.keeps ic.toInCall.keep, codeAny_func ?_⟩
  obtain ⟨t, ht, hq⟩ := walk cdv A outer s H vs Q E (room.deeper _) (by exact qt) hsp
  have I := inv_start (CX := CX) (E := E) (P := P) (w := w) S room.hd e0 hl r ic
  refine wpAny_mono (ht.run [] s1 (start N vs) H _ I hq) (fun fl s' hs => ?_) fun e s' hs => hs
  cases fl with
  | ret u =>
    obtain ⟨v, σ', H', J, rv, q⟩ := hs
    exact ⟨v, H', J.os, J.bare, J.base, J.hok, rv, q⟩
  | next =>
    obtain ⟨σ', H', J, q⟩ := hs
    exact ⟨V.non, H', J.os, J.bare, J.base, J.hok, rfl, q⟩
  | brk => obtain ⟨_, _, _, q⟩ := hs; exact q.elim
  | cont => obtain ⟨_, _, _, q⟩ := hs; exact q.elim

/-- for a def that lets no error out -/
theorem FnG.ok {x qual : Str} {st : Stmt} {f : Addr} {fd : FuncData} {N ps : List Str} {k : Nat} {sp : Sp}
    (F : Fun K x qual st f fd) (S : FnScope N ps (defScope st)) (len : ∀ vs H Q E, sp vs H Q E → vs.length = ps.length)
    (walk : ∀ (cdv : Value) (A : Around) (outer : List Env) (s : Shared) (H : Hp) (vs : List V) (Q : VK) (E : XK),
      Room k (A.deeper (envOfC qual (defScope st) s.heap.objs.size f cdv)) →
      Quiet (A.deeper (envOfC qual (defScope st) s.heap.objs.size f cdv)) → sp vs H Q E →
      ∃ t, PSs (cxOf CX0 P w K mg base N qual (defScope st) f cdv A outer s H E).nox (defBody st) t ∧
        t { nx := fun _ H' => Q .non H', rt := Q } (start N vs) H) :
    FnG P w K mg base CX0 (k + 1) f fd ps sp :=
  FnG.of F S len fun cdv A outer s H vs Q E room qt hsp =>
    let ⟨t, h, q⟩ := walk cdv A outer s H vs Q E room qt hsp
    ⟨t, h.nox, q⟩
theorem FnG.mono {CX : CXT} {j k : Nat} {f : Addr} {fd : FuncData} {ps : List Str} {sp : Sp}
    (F : FnG P w K mg base CX j f fd ps sp) (h : j ≤ k) : FnG P w K mg base CX k f fd ps sp :=
  ⟨F.arity, fun A outer s H args us vs Q E room => F.go A outer s H args us vs Q E (room.mono h)⟩
end

/-! ### the law's own call: nothing runs around it -/
theorem frz_or {H : Hp} (hO : Only H) {b : Addr} {u : HO} (e : H b = some u) : ∃ o xs, u = .frz o (.lst xs) := by
  rcases hO b with z | ⟨o, xs, z⟩
  · rw [z] at e; cases e
  · rw [z] at e; exact ⟨o, xs, (Option.some.inj e).symm⟩

theorem lawG {P : Program} {w : World} {K : PySem.W.Frag} {mg mb : Str → Option Value} {CX : CXT} {k : Nat}
    {fa a : Addr} {fd : FuncData} {x : Str} {sp : Sp} {s₁ : Shared} {vs : List Value} {ns : List Int}
    (inK : K.In s₁.heap) (hns : s₁.heap.Ns mainGlobals mg) (hb : s₁.heap.Ns builtinsNs mb)
    (hbb : ∀ x : Str, x ≠ "__name__" → mb x = bootBuiltins x) (hlim : s₁.heap.NoLimit) (hg : s₁.gens = #[])
    (ha : s₁.heap.get? a = some { cls := .type "list", data := .seq vs.toArray }) (hi : IntsAre vs ns)
    (hl : ns.length ≤ sizeLine) (room : Room k callerA)
    (F : ∀ base : Heap, K.In base → base.Ns mainGlobals mg → FnG P w K mg base CX k fa fd [x] sp)
    (hbind : ∀ (s : Shared) (u : Value), BindsTo s fd ⟨[u], []⟩ [(x, u)])
    (hsp : ∀ H : Hp, Only H → SqL K H a (ns.map V.int) → sp [.ref a] H (fun v _ => v = .bl true) fun _ _ _ => False)
    (hCX : ∀ H e s', CX [] H s₁ (fun _ _ _ => False) e s' → False) :
    codeAny (model P w) callerA (.call (.ref fa) ⟨[.ref a], []⟩)
      (fun r s' => r = .ok (.ret (.bool true)) ∧ OldK s₁.heap s'.heap ∧ s'.os = s₁.os ∧ AllBare s'.gens) s₁ := by
  have rv := vals_ints hi
  have lenV := hi.length
  suffices core : ∀ H : Hp, Only H → SqL K H a (ns.map V.int) → HOk P w H s₁.heap →
      (∀ b o, s₁.heap.get? b = some o → (b ≠ a ∨ (K.lookup b).isSome = true) → H b = none) →
      codeAny (model P w) callerA (.call (.ref fa) ⟨[.ref a], []⟩)
        (fun r s' => r = .ok (.ret (.bool true)) ∧ OldK s₁.heap s'.heap ∧ s'.os = s₁.os ∧ AllBare s'.gens) s₁ by
    cases hk : K.lookup a with
    | some o =>
      have e := inK a o hk
      rw [ha] at e
      cases e
      exact core (fun _ => none) (fun _ => .inl rfl)
        (.inr ⟨_, vs.toArray, _, hk, rfl, rfl, rfl, by rw [List.size_toArray, lenV]; exact hl, by simpa using rv⟩)
        (fun b u z => by have z' : (none : Option HO) = some u := z; cases z') (fun _ _ _ _ => rfl)
    | none =>
      let H1 : Hp := fun b => if b = a then some (.frz { cls := .type "list", data := .seq vs.toArray } (.lst (ns.map V.int))) else none
      have h1a : H1 a = some (.frz { cls := .type "list", data := .seq vs.toArray } (.lst (ns.map V.int))) := if_pos rfl
      have h1n : ∀ b, b ≠ a → H1 b = none := fun b h => if_neg h
      refine core H1 (fun b => ?_) (.inl (.inr ⟨_, h1a⟩)) (fun b u z => ?_) (fun b o _ h => ?_)
      · by_cases hb : b = a
        · subst hb; exact .inr ⟨_, _, h1a⟩
        · exact .inl (h1n b hb)
      · by_cases hb : b = a
        · subst hb
          rw [h1a] at z
          cases z
          exact ⟨ha, by rw [List.length_map]; exact hl, vs, _, rv, ha⟩
        · rw [h1n b hb] at z; cases z
      · rcases h with h | h
        · exact h1n b h
        · by_cases hb : b = a
          · subst hb; rw [hk] at h; cases h
          · exact h1n b hb
  intro H hO hS hok hN
  have down : ∀ {b : Addr} {o : Obj}, s₁.heap.get? b = some o → (b ≠ a ∨ (K.lookup b).isSome = true) →
      (hidT s₁.heap H).get? b = some o := fun e c => hidT_get e (hN _ _ e c)
  have nsK : ∀ {b : Addr} {m : Str → Option Value}, s₁.heap.Ns b m → (hidT s₁.heap H).Ns b m := by
    rintro b m ⟨o, es, ep, e, d, r⟩
    refine ⟨o, es, ep, down e (.inl ?_), d, r⟩
    rintro rfl
    rw [ha] at e
    cases e
    cases d
  have hKb : K.In (hidT s₁.heap H) := fun b o e => down (inK b o e) (.inr (by rw [e]; rfl))
  have hM : Mod K mg (hidT s₁.heap H) := ⟨hKb, nsK hns, ⟨mb, nsK hb, hbb⟩, let ⟨mc, h1, h2⟩ := hlim; ⟨mc, nsK h1, h2⟩⟩
  have e0 : Env0 P w K mg (hidT s₁.heap H) callerA [] s₁ H := ⟨rfl, hM, fun b o e => of_hidT e,
    Nat.le_of_eq (hidT_size _ _), trivial, fun b hb => (List.not_mem_nil hb).elim, hok, AllBare.of_eq hg⟩
  refine codeAny_mono ((F _ hKb (nsK hns)).go callerA [] s₁ H ⟨[.ref a], []⟩ [.ref a] [.ref a] _ _ room rfl e0
    (hbind s₁ (.ref a)) (.cons rfl .nil) (hsp H hO hS)) fun r s' h => ?_
  match r, h with
  | .error e, h => exact (hCX H e s' h).elim
  | .ok .next, h => exact False.elim h
  | .ok .brk, h => exact False.elim h
  | .ok .cont, h => exact False.elim h
  | .ok (.ret u), h =>
    obtain ⟨v, H', os, bare, un, hok', r', q⟩ := h
    obtain rfl : v = .bl true := q
    obtain rfl : u = Value.bool true := r'
    refine ⟨rfl, OldK.of_keep fun b o e => ?_, os, bare⟩
    cases q : H b with
    | none => exact un.keep b o e q (List.not_mem_nil) (by simp)
    | some u =>
      obtain ⟨ob, xs, rfl⟩ := frz_or hO q
      obtain ⟨e1, _⟩ := hok b _ q
      obtain ⟨e2, _⟩ := hok' b _ (un.frzs b ob _ q)
      rw [e] at e1
      cases e1
      exact e2

theorem walkG {l : PySem.W.OpenLaw} {n k : Nat} {q : Program} {loose : List Str} {XP : (Str → Option Value) → Heap → Prop}
    {YP : World → Heap → Prop} {d : DefRec} {K : Params → PySem.W.Frag} {CX : World → CXT} {sp : World → Sp} {x : Str}
    (hn : l.most = some n) (hn2 : n ≤ sizeLine) (hdf : d.params.defaults = []) (room : Room k callerA)
    (hY : ∀ (w : World) (h : Heap), YP w h → (K w.params).In h)
    (F : ∀ (w : World) (mg : Str → Option Value) (fa : Addr) (h : Heap), (K w.params).In h → h.Ns mainGlobals mg →
      mg d.name = some (.ref fa) → ∃ fd : FuncData, (∀ (s : Shared) (u : Value), BindsTo s fd ⟨[u], []⟩ [(x, u)]) ∧
        ∀ base : Heap, (K w.params).In base → base.Ns mainGlobals mg →
          FnG l.prog w (K w.params) mg base (CX w) k fa fd [x] (sp w))
    (hsp : ∀ (w : World) (H : Hp) (a : Addr) (ns : List Int), ns.length ≤ n → Only H →
      SqL (K w.params) H a (ns.map V.int) → sp w [.ref a] H (fun v _ => v = .bl true) fun _ _ _ => False)
    (hCX : ∀ (w : World) (H : Hp) (s : Shared) (e : Value) (s' : Shared),
      CX w [] H s (fun _ _ _ => False) e s' → False) :
    PySem.W.WalkO q loose XP YP l.row.toRowW d [] (fun f vs => PySem.call f vs) := by
  refine Att.attach_call hn hdf fun w s₀ s₁ mg mb fa o pm cd doc a vs ns G Y ho hd hcd hmg hobj hints hlen hg => ?_
  obtain ⟨fd, hb, hF⟩ := F w mg fa _ (hY w _ Y) G.T.g hmg
  exact lawG (hY w _ Y) G.T.g G.T.b G.T.builtins G.T.nolimit hg hobj hints (Nat.le_trans hlen hn2) room hF hb
    (fun H hO hS => hsp w H a ns hlen hO hS) fun H e s' => hCX w H s₁ e s'

end SH

/-! SH1: operations that the layer does not have yet: great powers, repr of data, types compared, enumerate. -/
namespace SH
open PySem PySem.Spec PyProof.Rows L2

section
variable {X : Cx}
/-! ### powers of great numbers -/
def PowC (i j : Int) : Prop := 0 ≤ j ∧ (Builtin.Int.intBits i : Int) * j ≤ 2 ^ 27
theorem op_powG : OpR X (binaryOp .Pow) (rI PowC fun i j => .int (i ^ j.toNat)) :=
  opI fun _ _ _ _ _ _ _ c q => pow_int c.1 c.2 q
theorem cube_ok {i : Int} (h : i.natAbs < 2 ^ 4000) : PowC i 3 := by
  refine ⟨by decide, ?_⟩
  have := intBits_le (k := 4000) h
  have e : (2 : Int) ^ 27 = 134217728 := by decide
  omega
theorem ten_ok {j : Int} (h0 : 0 ≤ j) (h : j ≤ 1000) : PowC 10 j := by
  refine ⟨h0, ?_⟩
  have e1 : Builtin.Int.intBits 10 = 4 := by decide
  have e : (2 : Int) ^ 27 = 134217728 := by decide
  rw [e1]
  omega

/-! ### repr -/
/-- data as it is shown -/
def Shows (K : PySem.W.Frag) (H : Hp) (x : V) (d : PyData) : Prop :=
  Dp K H x d ∧ d.showable = true ∧ d.hasDict = false ∧ d.depth ≤ 60 ∧ d.shown.length ≤ sizeLine
def rRepr (K : PySem.W.Frag) : List V → Hp → VK → Prop := fun xs H Q =>
  ∃ (a : Addr) (d : PyData), xs = [.ref a] ∧ Shows K H (.ref a) d ∧ Q (.str d.shown) H
theorem call_reprR (qt : Quiet X.A) (hu : X.A.units + 64 < cLine) : CallR X (.builtin "repr") (rRepr X.K) := by
  intro pins s σ H xs us Q I r h
  obtain ⟨a, d, rfl, ⟨hd, h1, h2, h3, h4⟩, q⟩ := h
  cases r with
  | cons ra rr =>
    cases rr
    cases ra
    obtain ⟨as, rd⟩ := Dp.reads I d _ (.ref a) hd rfl
    exact repr_of_reads' rd h1 (noDict_hsm' h2) qt (by omega) (fun _ _ e => e)
      (fun h' u tk hk => ⟨.str d.shown, H, I.kept hk, ⟨u, rfl⟩, q⟩) h4
where
  noDict_hsm' {d : PyData} {as : List Addr} (h : d.hasDict = false) : d.hasDict = true → sysModules ∉ as :=
    fun e => by rw [h] at e; cases e

end

/-! ### built-in types compared -/
open Sem (wp)
theorem slot_ty_ne : Slot "type" (cmpInfo .NotEq).2.1 "object.__ne__" :=
  .of (owner := "object") (n := "__ne__") (by rw [typeLookup_type, builtinLookup_eq_fast]; kernel_rfl)
    (by decide +kernel) (by decide +kernel) (by decide +kernel)
    (by first | exact .inl (by decide +kernel) | exact .inr (by decide +kernel)) (by rw [isSubtype_type]; kernel_rfl)
theorem slot_ty_ne_refl : Slot "type" (cmpInfo .NotEq).2.2 "object.__ne__" :=
  .of (owner := "object") (n := "__ne__") (by rw [typeLookup_type, builtinLookup_eq_fast]; kernel_rfl)
    (by decide +kernel) (by decide +kernel) (by decide +kernel)
    (by first | exact .inl (by decide +kernel) | exact .inr (by decide +kernel)) (by rw [isSubtype_type]; kernel_rfl)

section
variable {prog : Program} {w : World} {A : Around} {E : Value → Shared → Prop} {s : Shared} {Q : Value → Shared → Prop}
/-- X.__eq__(Y) of two built-in types -/
theorem sp_eq_ty {a b : String} {R : Option Value → Shared → Prop} (ha : ∀ s' : Shared, s'.TypeIs (.type a) "type")
    (h : (if a = b then R (some (.bool true)) s else R (some .notImplemented) s)) :
    wpAny (model prog w) A (callSpecialIfBound? (.type a) "__eq__" [.type b]) R E s := by
  have slot : Slot "type" ("__eq__" : Str) "object.__eq__" := TypeEq.slot_type_eq
  refine wpAny_callSpecialIfBound?_slot (name := Str.ofString "__eq__") (ha s) slot ?_
  by_cases e : a = b
  · subst e
    rw [if_pos rfl] at h
    exact call_gives slot (ha s) F.entry_object_eq (F.args_object_eq_2 _ _) (TypeEq.object_eq_same rfl (by simp)) h
  · rw [if_neg e] at h
    exact call_gives slot (ha s) F.entry_object_eq (F.args_object_eq_2 _ _)
      (TypeEq.object_eq_other rfl (by simpa using e)) h

theorem call_ne_ty {a b : String} {R : Value → Shared → Prop} (ha : ∀ s' : Shared, s'.TypeIs (.type a) "type")
    (h : (if a = b then R (.bool false) s else R .notImplemented s)) :
    wpAny (model prog w) A (call (.builtin "object.__ne__") [.type a, .type b]) R E s := by
  refine wpAny_call_entry slot_ty_ne (ha s) F.cmpEntry_ne ?_ (F.args_object_ne_2 _ _)
  unfold Builtin.«object.__ne__»
  by_cases e : a = b
  · subst e
    rw [if_pos rfl] at h
    repeat (first | with_reducible refine wpAny_cRoomFor_or (.inl rfl) ?_ | with_reducible refine sp_eq_ty ha ?_ | rw [if_pos rfl] | wp_step)
    exact ⟨_, rfl, h⟩
  · rw [if_neg e] at h
    repeat (first | with_reducible refine wpAny_cRoomFor_or (.inl rfl) ?_ | with_reducible refine sp_eq_ty ha ?_ | rw [if_neg e] | wp_step)
    exact ⟨_, rfl, h⟩

theorem ne_ty_same {a : String} (ha : ∀ s' : Shared, s'.TypeIs (.type a) "type") (h : Q (.bool false) s) :
    wpAny (model prog w) A (compareOp .NotEq (.type a) (.type a)) Q E s := by
  show wpAny _ A (richCompare .NotEq _ _) Q E s
  exact wpAny_richCompare_same (op := .NotEq) (T := "type") (ha s) (ha s) slot_ty_ne
    (call_ne_ty ha (by rw [if_pos rfl]; exact ⟨(by intro e; cases e), h⟩))
end

theorem rc_ne_same_decline {M : Model} {A : Around} {E : Value → Shared → Prop} {s : Shared} {a b : Value} {T id : String}
    {k : Bool} {Q : Value → Shared → Prop} (ha : ∀ s' : Shared, s'.TypeIs a T) (hb : ∀ s' : Shared, s'.TypeIs b T)
    (h1 : Slot T (cmpInfo .NotEq).2.1 id) (h2 : Slot T (cmpInfo .NotEq).2.2 id) (hv : [a, b].any Value.onHeap = false)
    (hk : isSame a b = pure k)
    (hc : wpAny M A (call (.builtin id) [a, b]) (fun v s₁ => v = .notImplemented ∧
      wpAny M A (call (.builtin id) [b, a]) (fun v s₂ => v = .notImplemented ∧ Q (.bool (!k)) s₂) E s₁) E s) :
    wpAny M A (richCompare .NotEq a b) Q E s := by
  rcases hi : cmpInfo CmpOp.NotEq with ⟨sym, f, r⟩
  rw [hi] at h1 h2
  simp only [richCompare, hi, (ha s).oneThing_none]
  try with_reducible refine wpAny_holding ?_
  refine wpAny_bind (wpAny_cRoomFor_or (.inl hv) (wpAny_bind (wpAny_typeOf (ha s) (wpAny_bind (wpAny_typeOf (hb s) ?_)))))
  simp only [bne_self_eq_false, Bool.false_eq_true, if_false, pure_bind, Bool.not_false, if_true]
  refine wpAny_bind (m := tryCompare a _ b) (wpAny_tryCompare_declines (ha s) h1
    (wpAny_mono hc (fun v s₁ q1 => ⟨q1.1, ?_⟩) fun _ _ x => x))
  refine wpAny_bind (m := tryCompare b _ a) (wpAny_tryCompare_declines (hb s₁) h2
    (wpAny_mono q1.2 (fun v s₂ q2 => ⟨q2.1, ?_⟩) fun _ _ x => x))
  exact wpAny_bind (wpAny_rule (wpAny_bind (wpAny_of_eq hk (wpAny_pure q2.2))))

section
variable {prog : Program} {w : World} {A : Around} {E : Value → Shared → Prop} {s : Shared} {Q : Value → Shared → Prop}
theorem ne_ty_other {a b : String} (ha : ∀ s' : Shared, s'.TypeIs (.type a) "type")
    (hb : ∀ s' : Shared, s'.TypeIs (.type b) "type") (ne : a ≠ b) (h : Q (.bool true) s) :
    wpAny (model prog w) A (compareOp .NotEq (.type a) (.type b)) Q E s := by
  show wpAny _ A (richCompare .NotEq _ _) Q E s
  refine rc_ne_same_decline (T := "type") (k := false) ha hb slot_ty_ne slot_ty_ne_refl rfl
    (by rw [isSame_plain rfl]; have : (Value.type a == Value.type b) = false := by simpa using ne
        rw [this]) ?_
  refine call_ne_ty ha ?_
  rw [if_neg ne]
  refine ⟨rfl, call_ne_ty hb ?_⟩
  rw [if_neg (Ne.symm ne)]
  exact ⟨rfl, h⟩
end

/-- the built-in types that a value may have here -/
def tyNames : List String := ["int", "str", "bool", "NoneType", "list", "tuple", "dict", "set", "float"]
theorem ty_meta {n : String} (h : n ∈ tyNames) (s' : Shared) : s'.TypeIs (.type n) "type" := by
  simp only [tyNames, List.mem_cons, List.not_mem_nil, or_false] at h
  rcases h with rfl | rfl | rfl | rfl | rfl | rfl | rfl | rfl | rfl
  · exact TypeEq.meta_int s'
  · exact TypeEq.meta_str s'
  · exact TypeEq.meta_bool s'
  · exact TypeEq.meta_NoneType s'
  · exact TypeEq.meta_list s'
  · exact TypeEq.meta_tuple s'
  · exact TypeEq.meta_dict s'
  · exact TypeEq.meta_set s'
  · exact TypeEq.meta_float s'
def rNeTy : R2 := fun x y H Q => ∃ a b, x = .ty a ∧ y = .ty b ∧ a ∈ tyNames ∧ b ∈ tyNames ∧ Q (.bl (decide (a ≠ b))) H
theorem op_neTy {X : Cx} : OpR X (compareOp .NotEq) rNeTy := by
  intro pins s σ H x y v u Q I rx ry h
  obtain ⟨a, b, rfl, rfl, ha, hb, q⟩ := h
  cases rx
  cases ry
  by_cases e : a = b
  · subst e
    exact ne_ty_same (ty_meta ha) ⟨.bl false, H, I, rfl, by simpa using q⟩
  · exact ne_ty_other (ty_meta ha) (ty_meta hb) e ⟨.bl true, H, I, rfl, by simpa [e] using q⟩

/-! ### for i, x in enumerate(xs) -/
theorem for_enum {K : PySem.W.Frag} {a : Addr} {xs : List V} {g : TG} {tb : TS} {D : Ends} {σ : L2.St} {H : Hp}
    (Pv : Nat → L2.St → Hp → Prop) (h0 : Pv 0 σ H) (hl : ∀ i σ H, i ≤ xs.length → Pv i σ H → SqL K H a xs)
    (hs : ∀ (i : Nat) (x : V) (T : Addr) σ H, xs[i]? = some x → Pv i σ H → H T = none →
      g (.ref T) σ (upd H T (.tup [.int i, x])) fun σ2 H2 => tb { D with nx := Pv (i + 1), ct := Pv (i + 1), bk := D.nx } σ2 H2)
    (hd : ∀ σ H, Pv xs.length σ H → D.nx σ H) :
    ∃ W : Nat → Nat → L2.St → Hp → Prop, (∃ m, W 0 m σ H) ∧ ∀ i m σ H, W i m σ H →
      ((Ite K a).stop i H ∧ D.nx σ H) ∨ ((Ite K a).go i H ∧ ∃ N : L2.St → Hp → Prop,
        (∀ σ' H', N σ' H' → ∃ m', m' < m ∧ W (i + 1) m' σ' H') ∧
        ∀ x H', (Ite K a).yld i H x H' → g x σ H' fun σ2 H2 => tb { D with nx := N, ct := N, bk := D.nx } σ2 H2) := by
  refine ⟨fun i m σ H => m = xs.length - i ∧ i ≤ xs.length ∧ Pv i σ H, ⟨_, rfl, Nat.zero_le _, h0⟩, ?_⟩
  rintro i m σ H ⟨rfl, hi, p⟩
  have hq := hl i σ H hi p
  rcases Nat.lt_or_ge i xs.length with lt | ge
  · refine .inr ⟨⟨xs, xs[i], hq, List.getElem?_eq_getElem lt⟩, Pv (i + 1), fun σ' H' p' => ⟨_, ?_, rfl, lt, p'⟩, ?_⟩
    · omega
    · rintro v H' ⟨T, x, rfl, hT, rfl, f⟩
      exact hs i x T σ H (f xs hq) p hT
  · obtain rfl : i = xs.length := Nat.le_antisymm hi ge
    exact .inl ⟨⟨xs, hq, Nat.le_refl _⟩, hd σ H p⟩
end SH

/-! SH2: defs by name: what stands at a name of the module, calls of it by place and by keyword. -/
namespace SH
open PySem PySem.Spec PyProof.Rows L2

/-- the def `st` stands at the name `x` of the module and keeps the promise `sp` -/
def Has (P : Program) (w : World) (K : PySem.W.Frag) (mg : Str → Option Value) (base : Heap) (CX : CXT) (k : Nat)
    (x : Str) (st : Stmt) (ps : List Str) (sp : Sp) : Prop :=
  ∃ f fd, Fun K x x st f fd ∧ mg x = some (.ref f) ∧ FnG P w K mg base CX k f fd ps sp ∧ L2.Binds K fd ps []
/-- the def `st` stands at the name `x` -/
def At (K : PySem.W.Frag) (mg : Str → Option Value) (x : Str) (st : Stmt) : Prop :=
  ∃ f fd, Fun K x x st f fd ∧ mg x = some (.ref f)

section
variable {X : Cx} {CX : CXT} {k : Nat} {st : Stmt} {ps ks : List Str} {sp : Sp} {E : XK} {x : Str} {p pos : Pos}
  {e : Expr} {es : List Expr} {t tk : TA} {kws : List Keyword}

theorem pe_has (h : Has X.prog X.w X.K X.mg X.base CX k x st ps sp) (room : Room k X.A) (qt : Quiet X.A) (hg : Gl X x)
    (hx : Passes CX X E) (ha : PA X (e :: es) t) (hdb : (x == ("__debug__" : Str)) = false := by decide)
    (he : starEach (e :: es) X.env = (false, eval e X.env) :: starEach es X.env := by rfl)
    (hpl : (backTo pos (starEach es X.env)).any (·.1) = false := by rfl) :
    PE X (.Call (.Name x p) (e :: es) [] pos) (tCall sp [] E t) := by
  obtain ⟨f, fd, F, m, G, b⟩ := h
  exact pe_callG G room qt hg m F.kp b .nil hx ha hdb he hpl

/-- how the keywords' values come to the parameters: by a permutation of places -/
structure KwOk (x : Str) (st : Stmt) (ps ks : List Str) (g : {α : Type} → List α → List α) : Prop where
  to : ∀ (kV doc pm : Value) (an : Option Addr) (cdv ct : Value) (ws : List Value), ws.length = ks.length →
    bindArgs (PySem.W.fnOf x x (defArgs st) (defBody st) (defScope st) .none kV doc pm an cdv ct) ⟨[], ks.zip ws⟩ =
      pure (ps.zip (g ws))
  rel : ∀ {zs : List V} {ws : List Value}, Vals zs ws → Vals (g zs) (g ws)
  len : ∀ (ws : List Value), (g ws).length = ps.length → ws.length = ks.length
  ne : ps.length ≠ 0

def onlyKw (g : {α : Type} → List α → List α) : {α : Type} → List α → List α → List α := fun us ws =>
  match us with
  | [] => g ws
  | _ => []

theorem pe_hasK0 {g : {α : Type} → List α → List α} (h : Has X.prog X.w X.K X.mg X.base CX k x st ps sp)
    (room : Room k X.A) (qt : Quiet X.A) (hg : Gl X x) (kb : KwOk x st ps ks g) (hx : Passes CX X E)
    (hkw : PK X kws tk) (hall : (backToKw pos (keywordEach kws X.env)).all (·.1.isSome) = true := by rfl)
    (hks : (backToKw pos (keywordEach kws X.env)).filterMap (·.1) = ks := by rfl)
    (hdb : (x == ("__debug__" : Str)) = false := by decide)
    (hpl : ((backTo pos (starEach [] X.env)).any (·.1) ||
      (backToKw pos (keywordEach kws X.env)).any (·.1.isNone)) = false := by rfl) :
    PE X (.Call (.Name x p) [] kws pos) (tCallK sp (onlyKw g) E tNil tk) := by
  obtain ⟨f, fd, F, m, G, _⟩ := h
  refine pe_callGK0 G room qt hg m F.kp (g := onlyKw g) ⟨fun s us ws _ hl => ?_, fun {vs us zs ws} r rz => ?_⟩ hx hkw hall hks hdb hpl
  · obtain ⟨oc, od, kV, doc, pm, an, cdv, ct, osl, rfl, lk, hcd⟩ := F.ex
    cases us with
    | nil => exact .of_eq (kb.to kV doc pm an cdv ct ws (kb.len ws hl))
    | cons u us => exact absurd hl.symm kb.ne
  · cases r with
    | nil => exact kb.rel rz
    | cons _ _ => exact .nil
end

section
variable {P : Program} {w : World} {K : PySem.W.Frag} {mg : Str → Option Value} {base : Heap}
/-- THE RULE for a def at a name of the module that lets no error out -/
theorem Has.of {x : Str} {st : Stmt} {N ps : List Str} {k : Nat} {sp : Sp} (at_ : At K mg x st)
    (S : FnScope N ps (defScope st)) (len : ∀ vs H Q E, sp vs H Q E → vs.length = ps.length)
    (bd : ∀ (kV doc pm : Value) (an : Option Addr) (cdv ct : Value) (us : List Value), us.length = ps.length →
      bindArgs (PySem.W.fnOf x x (defArgs st) (defBody st) (defScope st) .none kV doc pm an cdv ct) ⟨us, []⟩ = pure (ps.zip us))
    (walk : ∀ (f : Addr) (cdv : Value) (A : Around) (outer : List Env) (s : Shared) (H : Hp) (vs : List V) (Q : VK) (E : XK),
      Room k (A.deeper (envOfC x (defScope st) s.heap.objs.size f cdv)) →
      Quiet (A.deeper (envOfC x (defScope st) s.heap.objs.size f cdv)) → sp vs H Q E →
      ∃ t, PSs (cxOf CX0 P w K mg base N x (defScope st) f cdv A outer s H E).nox (defBody st) t ∧
        t { nx := fun _ H' => Q .non H', rt := Q } (start N vs) H) :
    Has P w K mg base CX0 (k + 1) x st ps sp := by
  obtain ⟨f, fd, F, m⟩ := at_
  exact ⟨f, fd, F, m, FnG.ok F S len (walk f), F.binds bd⟩
theorem Has.mono {CX : CXT} {j k : Nat} {x : Str} {st : Stmt} {ps : List Str} {sp : Sp}
    (h : Has P w K mg base CX j x st ps sp) (hk : j ≤ k) : Has P w K mg base CX k x st ps sp := by
  obtain ⟨f, fd, F, m, G, b⟩ := h
  exact ⟨f, fd, F, m, G.mono hk, b⟩
end

/-- the built-in names that the module does not shadow -/
structure Txt (mg : Str → Option Value) : Prop where
  len : mg "len" = none
  range : mg "range" = none
  repr : mg "repr" = none
  min : mg "min" = none
  max : mg "max" = none
  tint : mg "int" = none
  tlist : mg "list" = none
  ttype : mg "type" = none
  bool : mg "bool" = none
  tuple : mg "tuple" = none
  isinstance : mg "isinstance" = none
  enumerate : mg "enumerate" = none
  tstr : mg "str" = none
  zip : mg "zip" = none
  all : mg "all" = none
  any : mg "any" = none
  sum : mg "sum" = none
  abs : mg "abs" = none
  sorted : mg "sorted" = none
  set : mg "set" = none
  dict : mg "dict" = none
  reversed : mg "reversed" = none
  divmod : mg "divmod" = none

theorem bnot_t {b : Bool} (h : (!b) = true) : b = false := by cases b <;> first | rfl | cases h
theorem bnot_f {b : Bool} (h : ¬ (!b) = true) : b = true := by cases b <;> first | rfl | exact (h rfl).elim
/-! ### what a caller wants -/
/-- a value comes back, nothing that was tracked has changed -/
def RetV (Q : VK) (H : Hp) (v : V) : Prop := ∀ H', Same H H' → Q v H'
/-- a new list comes back -/
def RetL (Q : VK) (H : Hp) (xs : List V) : Prop := ∀ p H', H p = none → Same H H' → H' p = some (.lst xs) → Q (.ref p) H'
/-- ints as values -/
abbrev iv (ns : List Int) : List V := ns.map V.int
theorem iv_at {ns : List Int} {i : Nat} (h : i < ns.length) : (iv ns)[i]? = some (.int (ns.getD i 0)) := by
  rw [List.getElem?_map, List.getElem?_eq_getElem h, List.getD_eq_getElem?_getD, List.getElem?_eq_getElem h]
  rfl
theorem atI_iv {ns : List Int} {z : Int} (h0 : 0 ≤ z) (h : z < ns.length) : atI (iv ns) z = some (.int (ns.getD z.toNat 0)) := by
  have e : z = ((z.toNat : Nat) : Int) := by omega
  rw [e]
  exact atI_nat (iv_at (by omega))
theorem atI_iv_last {ns : List Int} (h : ns ≠ []) : atI (iv ns) (-1) = some (.int (ns.getD (ns.length - 1) 0)) := by
  have hl : 0 < ns.length := List.length_pos_iff.mpr h
  have e : ixN (iv ns).length (-1) = some (ns.length - 1) := by
    unfold ixN
    rw [if_neg (by omega), if_pos (by rw [List.length_map]; omega), List.length_map]
    congr 1
    omega
  unfold atI
  rw [e]
  exact iv_at (by omega)
theorem Same.new {H : Hp} {p : Addr} {o : HO} (h : H p = none) : Same H (upd H p o) := fun b u e => by
  rw [upd_ne (ne_of_none e h)]; exact e
theorem Same.upd_free {H H' : Hp} {p : Addr} {o : HO} (s : Same H H') (h : H p = none) : Same H (upd H' p o) := fun b u e => by
  rw [upd_ne (ne_of_none e h)]; exact s b u e
/-- all that was tracked but what stands at `a` is as it was -/
def SameBut (a : Addr) (H H' : Hp) : Prop := ∀ b o, H b = some o → b ≠ a → H' b = some o
theorem SameBut.refl {a : Addr} {H : Hp} : SameBut a H H := fun _ _ e _ => e
theorem SameBut.trans {a : Addr} {H H1 H2 : Hp} (p : SameBut a H H1) (q : SameBut a H1 H2) : SameBut a H H2 :=
  fun b o e n => q b o (p b o e n) n
theorem SameBut.of {a : Addr} {H H' : Hp} (p : Same H H') : SameBut a H H' := fun b o e _ => p b o e
theorem SameBut.upd {a : Addr} {H H' : Hp} {o : HO} (p : SameBut a H H') : SameBut a H (upd H' a o) := fun b u e n => by
  rw [upd_ne n]; exact p b u e n
theorem SameBut.new {a p : Addr} {H H' : Hp} {o : HO} (s : SameBut a H H') (h : H' p = none) : SameBut a H (L2.upd H' p o) :=
  fun b u e n => by
    have := s b u e n
    rw [upd_ne (ne_of_none this h)]; exact this
end SH

/-! SH3: comprehensions whose turns make nothing, in words of a function of the turn. -/
namespace SH
open PySem PySem.Spec PyProof.Rows L2

/-- len of a list or a tuple, by the written part K -/
def rLenK (K : PySem.W.Frag) : List V → Hp → VK → Prop := fun xs H Q => ∃ p ys, xs = [.ref p] ∧ (SqL K H p ys ∨ SqT K H p ys) ∧ Q (.int ys.length) H
theorem tYes_go {σ : L2.St} {H : Hp} {f g : Hp → Prop} (h : f H) : tYes σ H fun b H3 => if b = true then f H3 else g H3 := by
  show (if true = true then f H else g H)
  rw [if_pos rfl]
  exact h
/-- a if t else b of two ints, the test's answer known as b -/
theorem if_int {b : Bool} {x y : Int} {H : Hp} {A B : TE} {σ : L2.St} {Q : VK} (ha : ∀ Q' : VK, Q' (.int x) H → A σ H Q')
    (hb : ∀ Q' : VK, Q' (.int y) H → B σ H Q') (h : Q (.int (if b = true then x else y)) H) : if b = true then A σ H Q else B σ H Q := by
  cases b with
  | true => rw [if_pos rfl]; exact ha _ (by simpa using h)
  | false => rw [if_neg Bool.false_ne_true]; exact hb _ (by simpa using h)
/-- which turns give, and what -/
def gives (n : Nat) (keep : Nat → Bool) (val : Nat → V) : List V := ((List.range n).filter keep).map val
theorem gives_succ {n : Nat} {keep : Nat → Bool} {val : Nat → V} : gives (n + 1) keep val =
    if keep n = true then gives n keep val ++ [val n] else gives n keep val := by
  unfold gives
  rw [List.range_succ, List.filter_append, List.map_append]
  by_cases h : keep n = true
  · rw [if_pos h, List.filter_cons, if_pos h]
    rfl
  · rw [if_neg h, List.filter_cons, if_neg h]
    exact List.append_nil _
theorem gives_len (n : Nat) (keep : Nat → Bool) (val : Nat → V) : (gives n keep val).length ≤ n := by
  unfold gives
  rw [List.length_map]
  exact Nat.le_trans (List.length_filter_le _ _) (Nat.le_of_eq List.length_range)
theorem gives_all (n : Nat) (val : Nat → V) : gives n (fun _ => true) val = (List.range n).map val := by
  unfold gives
  rw [List.filter_eq_self.mpr (fun _ _ => rfl)]
/-- a new list comes back, nothing else changes -/
def NewL (Q : VK) (H : Hp) (xs : List V) : Prop := ∀ p, H p = none → Q (.ref p) (upd H p (.lst xs))
theorem small_line {n : Nat} (h : n < 100000) : n < sizeLine := Nat.lt_of_lt_of_le h (by decide)

section
variable {tt : TT} {te : TE} {vs : List Nat} {σ : L2.St} {H : Hp} {D : Addr} {Qd : Hp → Prop}
/-- one turn's end -/
theorem lc_turn {n : Nat} {keep : Nat → Bool} {val : Nat → V} {i : Nat} {σ2 : L2.St} (hi : i < n) (hn : n < 100000)
    (ht : ∀ acc Q, Q (keep i) (upd H D (.lst acc)) → tt σ2 (upd H D (.lst acc)) Q)
    (he : ∀ acc Q, keep i = true → Q (val i) (upd H D (.lst acc)) → te σ2 (upd H D (.lst acc)) Q) :
    tt σ2 (upd H D (.lst (gives i keep val))) fun b H3 => if b = true then te σ2 H3 fun y H4 => ∃ acc, H4 D = some (.lst acc) ∧
      acc.length < sizeLine ∧ upd H4 D (.lst (acc ++ [y])) = upd H D (.lst (gives (i + 1) keep val))
      else H3 = upd H D (.lst (gives (i + 1) keep val)) := by
  refine ht _ _ ?_
  by_cases h : keep i = true
  · rw [h]
    refine iteT (he _ _ h ⟨_, upd_same, small_line (by have := gives_len i keep val; omega), ?_⟩)
    rw [upd_upd, gives_succ, if_pos h]
  · have h' : keep i = false := by cases e : keep i <;> simp_all
    rw [h']
    refine iteF ?_
    rw [gives_succ, if_neg h]

theorem lcR {lo : Int} {n j : Nat} (keep : Nat → Bool) (val : Nat → V) (hn : n < 100000)
    (hw : ∀ x, wipe ((wipe σ vs).set j (some x)) vs = wipe σ vs)
    (ht : ∀ i acc Q, i < n → Q (keep i) (upd H D (.lst acc)) → tt ((wipe σ vs).set j (some (.int (lo + (i : Nat))))) (upd H D (.lst acc)) Q)
    (he : ∀ i acc Q, i < n → keep i = true → Q (val i) (upd H D (.lst acc)) → te ((wipe σ vs).set j (some (.int (lo + (i : Nat))))) (upd H D (.lst acc)) Q)
    (hd : Qd (upd H D (.lst (gives n keep val)))) :
    ∃ W : Nat → Nat → Hp → Prop, (∃ m, W 0 m (upd H D (.lst []))) ∧ ∀ i m H, W i m H →
      ((Itr lo n).stop i H ∧ Qd H) ∨ ((Itr lo n).go i H ∧ ∃ Nx : Hp → Prop, (∀ H', Nx H' → ∃ m', m' < m ∧ W (i + 1) m' H') ∧
        ∀ x H', (Itr lo n).yld i H x H' → gName j x (wipe σ vs) H' fun σ2 H2 => wipe σ2 vs = wipe σ vs ∧ tt σ2 H2 fun b H3 =>
          if b = true then te σ2 H3 fun y H4 => ∃ acc, H4 D = some (.lst acc) ∧ acc.length < sizeLine ∧ Nx (upd H4 D (.lst (acc ++ [y]))) else Nx H3) :=
  lc_range (fun i H2 => H2 = upd H D (.lst (gives i keep val))) rfl
    (fun i H2 hi e => by
      subst e
      exact ⟨hw _, lc_turn hi hn (fun acc Q q => ht i acc Q hi q) (fun acc Q k q => he i acc Q hi k q)⟩)
    (fun H2 e => by subst e; exact hd)

theorem lcL {K : PySem.W.Frag} {a : Addr} {xs : List V} {j : Nat} (keep : Nat → Bool) (val : Nat → V) (hx : SqL K H a xs)
    (hD : H D = none) (hn : xs.length < 100000) (hw : ∀ x, wipe ((wipe σ vs).set j (some x)) vs = wipe σ vs)
    (ht : ∀ i x acc Q, xs[i]? = some x → Q (keep i) (upd H D (.lst acc)) → tt ((wipe σ vs).set j (some x)) (upd H D (.lst acc)) Q)
    (he : ∀ i x acc Q, xs[i]? = some x → keep i = true → Q (val i) (upd H D (.lst acc)) → te ((wipe σ vs).set j (some x)) (upd H D (.lst acc)) Q)
    (hd : Qd (upd H D (.lst (gives xs.length keep val)))) :
    ∃ W : Nat → Nat → Hp → Prop, (∃ m, W 0 m (upd H D (.lst []))) ∧ ∀ i m H, W i m H →
      ((Itl K a).stop i H ∧ Qd H) ∨ ((Itl K a).go i H ∧ ∃ Nx : Hp → Prop, (∀ H', Nx H' → ∃ m', m' < m ∧ W (i + 1) m' H') ∧
        ∀ x H', (Itl K a).yld i H x H' → gName j x (wipe σ vs) H' fun σ2 H2 => wipe σ2 vs = wipe σ vs ∧ tt σ2 H2 fun b H3 =>
          if b = true then te σ2 H3 fun y H4 => ∃ acc, H4 D = some (.lst acc) ∧ acc.length < sizeLine ∧ Nx (upd H4 D (.lst (acc ++ [y]))) else Nx H3) :=
  lc_list (xs := xs) (fun i H2 => H2 = upd H D (.lst (gives i keep val))) rfl
    (fun i H2 hi e => by subst e; exact (Same.new hD).seq hx)
    (fun i x H2 hi e => by
      subst e
      exact ⟨hw _, lc_turn (List.getElem?_eq_some_iff.mp hi).1 hn (fun acc Q q => ht i x acc Q hi q) (fun acc Q k q => he i x acc Q hi k q)⟩)
    (fun H2 e => by subst e; exact hd)

/-- [.. for a, b in zip(xs, ys)], the lists of one length: each turn makes one pair, so the heap is told by an invariant -/
theorem lcZ {K : PySem.W.Frag} {a b : Addr} {xs ys : List V} {g : TG} (hl : xs.length = ys.length) (Pv : Nat → Hp → Prop)
    (h0 : Pv 0 (upd H D (.lst []))) (hq : ∀ i H, Pv i H → SqL K H a xs ∧ SqL K H b ys)
    (hs : ∀ i x y T H, xs[i]? = some x → ys[i]? = some y → Pv i H → H T = none → g (.ref T) (wipe σ vs) (upd H T (.tup [x, y])) fun σ2 H2 =>
      wipe σ2 vs = wipe σ vs ∧ tt σ2 H2 fun b H3 => if b = true then te σ2 H3 fun y H4 => ∃ acc, H4 D = some (.lst acc) ∧
        acc.length < sizeLine ∧ Pv (i + 1) (upd H4 D (.lst (acc ++ [y]))) else Pv (i + 1) H3)
    (hd : ∀ H, Pv xs.length H → Qd H) :
    ∃ W : Nat → Nat → Hp → Prop, (∃ m, W 0 m (upd H D (.lst []))) ∧ ∀ i m H, W i m H →
      ((Itz K a b).stop i H ∧ Qd H) ∨ ((Itz K a b).go i H ∧ ∃ Nx : Hp → Prop, (∀ H', Nx H' → ∃ m', m' < m ∧ W (i + 1) m' H') ∧
        ∀ x H', (Itz K a b).yld i H x H' → g x (wipe σ vs) H' fun σ2 H2 => wipe σ2 vs = wipe σ vs ∧ tt σ2 H2 fun b H3 =>
          if b = true then te σ2 H3 fun y H4 => ∃ acc, H4 D = some (.lst acc) ∧ acc.length < sizeLine ∧ Nx (upd H4 D (.lst (acc ++ [y]))) else Nx H3) := by
  refine ⟨fun i m H => m = xs.length - i ∧ i ≤ xs.length ∧ Pv i H, ⟨_, rfl, Nat.zero_le _, h0⟩, ?_⟩
  rintro i m H ⟨rfl, hi, p⟩
  obtain ⟨qx, qy⟩ := hq i H p
  rcases Nat.lt_or_ge i xs.length with lt | ge
  · have ly : i < ys.length := by omega
    refine .inr ⟨⟨xs, ys, xs[i], ys[i], qx, qy, List.getElem?_eq_getElem lt, List.getElem?_eq_getElem ly⟩, Pv (i + 1),
      fun H' p' => ⟨xs.length - (i + 1), by omega, rfl, lt, p'⟩, ?_⟩
    rintro v H' ⟨T, x, y, rfl, hT, rfl, fx, fy⟩
    exact hs i x y T H (fx xs qx) (fy ys qy) p hT
  · obtain rfl : i = xs.length := Nat.le_antisymm hi ge
    exact .inl ⟨⟨xs, ys, qx, qy, .inl (Nat.le_refl _)⟩, hd H p⟩
end
end SH

/-! SH4: how lists of ints are shown, and compared. -/
namespace SH
open PySem PySem.Spec PyProof.Rows L2

/-- a list of ints as data -/
def dI (ns : List Int) : PyData := .list (ns.map PyData.int)
theorem dp_ints {K : PySem.W.Frag} {H : Hp} : ∀ ns : List Int, DpAll K H (iv ns) (ns.map PyData.int)
  | [] => .nil
  | n :: r => .cons (.int n) (dp_ints r)
theorem dp_dI {K : PySem.W.Frag} {H : Hp} {a : Addr} {ns : List Int} (h : SqL K H a (iv ns)) : Dp K H (.ref a) (dI ns) := .lst h (dp_ints ns)
theorem small_log {v : Int} (h : v.natAbs < 2 ^ 64) : v.natAbs.log2 < 1920 := by
  by_cases e : v.natAbs = 0
  · rw [e]; decide
  · have := (Nat.log2_lt e).mpr h
    omega
theorem show_ints : ∀ {ns : List Int}, (∀ v ∈ ns, v.natAbs < 2 ^ 64) → PyData.showableAll (ns.map PyData.int) = true
  | [], _ => rfl
  | n :: r, h => by
    show (decide (n.natAbs.log2 < 1920) && PyData.showableAll (r.map PyData.int)) = true
    rw [decide_eq_true (small_log (h n List.mem_cons_self)), show_ints fun v hv => h v (List.mem_cons_of_mem _ hv)]
    rfl
theorem dict_ints : ∀ ns : List Int, PyData.hasDictAll (ns.map PyData.int) = false
  | [] => rfl
  | n :: r => by
    show (false || PyData.hasDictAll (r.map PyData.int)) = false
    rw [dict_ints r]
    rfl
theorem depth_ints : ∀ ns : List Int, PyData.depthAll (ns.map PyData.int) = 0
  | [] => rfl
  | n :: r => by
    show max 0 (PyData.depthAll (r.map PyData.int)) = 0
    rw [depth_ints r]
    rfl
theorem shownAll_len : ∀ {ns : List Int}, (∀ v ∈ ns, v.natAbs < 2 ^ 64) → ((PyData.shownAll (ns.map PyData.int)).map (·.length)).sum ≤ 1921 * ns.length ∧
    (PyData.shownAll (ns.map PyData.int)).length = ns.length
  | [], _ => ⟨Nat.le_refl _, rfl⟩
  | n :: r, h => by
    obtain ⟨a, b⟩ := shownAll_len (ns := r) fun v hv => h v (List.mem_cons_of_mem _ hv)
    have := int_text_len_1921 (small_log (h n List.mem_cons_self))
    constructor
    · show (PySem.Str.ofString (toString n)).length + ((PyData.shownAll (r.map PyData.int)).map (·.length)).sum ≤ 1921 * (r.length + 1)
      omega
    · show (PyData.shownAll (r.map PyData.int)).length + 1 = r.length + 1
      omega
theorem shows_ints {K : PySem.W.Frag} {H : Hp} {a : Addr} {ns : List Int} (h : SqL K H a (iv ns)) (hl : ns.length ≤ 1000) (hv : ∀ v ∈ ns, v.natAbs < 2 ^ 64) :
    Shows K H (.ref a) (dI ns) := by
  refine ⟨dp_dI h, show_ints hv, dict_ints ns, ?_, ?_⟩
  · show PyData.depthAll (ns.map PyData.int) + 1 ≤ 60
    rw [depth_ints]
    decide
  · show (listText (PyData.shownAll (ns.map PyData.int))).length ≤ sizeLine
    obtain ⟨a, b⟩ := shownAll_len hv
    have := listText_len_le (PyData.shownAll (ns.map PyData.int))
    have e : sizeLine = 16777216 := by decide
    omega
theorem shaped_dI (ns : List Int) : SeqAt.shaped (dI ns) = true := by
  have c : ∀ ms : List Int, PyData.canLayAll0 (ms.map PyData.int) = true := fun ms => by
    induction ms with
    | nil => rfl
    | cons n r ih => show (true && PyData.canLayAll0 (r.map PyData.int)) = true; rw [ih]; rfl
  unfold SeqAt.shaped
  have d : (dI ns).depth = 1 := by show PyData.depthAll (ns.map PyData.int) + 1 = 1; rw [depth_ints]
  rw [d]
  show (PyData.canLayAll0 (ns.map PyData.int) && decide (1 ≤ 64)) = true
  rw [c]
  rfl
theorem eqv_ints : ∀ ns ms : List Int, PyData.eqvAll (ns.map PyData.int) (ms.map PyData.int) = decide (ns = ms)
  | [], [] => rfl
  | [], _ :: _ => rfl
  | _ :: _, [] => rfl
  | n :: r, m :: q => by
    show ((n == m) && PyData.eqvAll (r.map PyData.int) (q.map PyData.int)) = _
    rw [eqv_ints r q, Bool.eq_iff_iff]
    simp
theorem eqv_dI (ns ms : List Int) : PyData.eqv (dI ns) (dI ms) = decide (ns = ms) := eqv_ints ns ms
/-- two lists of ints compared -/
theorem eqD_ints {K : PySem.W.Frag} {H : Hp} {a b : Addr} {ns ms : List Int} {Q : VK} (ha : SqL K H a (iv ns)) (hb : SqL K H b (iv ms))
    (q : Q (.bl (decide (ns = ms))) H) : rEqD K (.ref a) (.ref b) H Q :=
  ⟨dI ns, dI ms, dp_dI ha, dp_dI hb, shaped_dI ns, shaped_dI ms, by rw [eqv_dI]; exact q⟩
theorem neD_ints {K : PySem.W.Frag} {H : Hp} {a b : Addr} {ns ms : List Int} {Q : VK} (ha : SqL K H a (iv ns)) (hb : SqL K H b (iv ms))
    (q : Q (.bl (!decide (ns = ms))) H) : rNeD K (.ref a) (.ref b) H Q :=
  ⟨dI ns, dI ms, dp_dI ha, dp_dI hb, shaped_dI ns, shaped_dI ms, by rw [eqv_dI]; exact q⟩

theorem iv_snoc (ns : List Int) (d : Int) : iv ns ++ [V.int d] = iv (ns ++ [d]) := by
  unfold iv
  rw [List.map_append]
  rfl
theorem getD_all {xs : List Int} {p : Int → Prop} (h : ∀ v ∈ xs, p v) {z : Int} (h0 : 0 ≤ z) (h1 : z < xs.length) : p (xs.getD z.toNat 0) := by
  have hz : z.toNat < xs.length := by omega
  rw [List.getD_eq_getElem?_getD, List.getElem?_eq_getElem hz]
  exact h _ (List.getElem_mem hz)
/-- range as a list of ints -/
def rg (n : Nat) : List Int := (List.range n).map fun (i : Nat) => (i : Int)
theorem rgV_rg (n : Nat) : rgV 0 (n : Int) = iv (rg n) := by
  unfold rgV rg iv
  rw [List.map_map]
  have e : ((n : Int) - 0).toNat = n := by omega
  rw [e]
  refine List.map_congr_left fun i _ => ?_
  show V.int (0 + (i : Int)) = V.int (i : Int)
  rw [Int.zero_add]
theorem iv_rep (n : Nat) (d : Int) : (List.replicate n [V.int d]).flatten = iv (List.replicate n d) := by
  induction n with
  | zero => rfl
  | succ n ih => rw [List.replicate_succ, List.flatten_cons, ih, List.replicate_succ]; rfl
/-- list + list, each read as it stands -/
def rCatS (K : PySem.W.Frag) : R2 := fun x y H Q => ∃ l b xs zs, x = .ref l ∧ y = .ref b ∧ SqL K H l xs ∧ SqL K H b zs ∧ xs.length + zs.length ≤ sizeLine ∧ NewL Q H (xs ++ zs)
theorem op_catS {X : Cx} : OpR X (binaryOp .Add) (rCatS X.K) := by
  intro pins s σ H x y v u Q I rx ry h
  obtain ⟨l, b, xs, zs, rfl, rfl, hx, hy, hz, q⟩ := h
  cases rx
  cases ry
  obtain ⟨its, r, ⟨o, n, ho, hc, hd, ht⟩, _⟩ := I.list hx
  obtain ⟨its2, r2, ⟨o2, n2, ho2, hc2, hd2, ht2⟩, _⟩ := I.list hy
  have e1 := r.length
  have e2 := r2.length
  obtain ⟨oc, od, dt, sl⟩ := o
  obtain ⟨oc2, od2, dt2, sl2⟩ := o2
  simp only at hc hd ht hc2 hd2 ht2
  subst hc hd ht hc2 hd2 ht2
  have ea : its.toArray ++ its2.toArray = (its ++ its2).toArray := by simp
  refine concat_meets ⟨_, ho, rfl⟩ ⟨_, ho2, rfl⟩ noFill_list_add seq_list_add PySem.F.slot_list_add PySem.F.entry_list_add
    (PySem.F.args_list_add_2 _ _) (list_addW l b its.toArray its2.toArray n n2 none none sl sl2 (by simp only [List.size_toArray]; omega)) ⟨ho, ho2, ?_⟩
  rw [ea]
  exact ⟨.ref _, _, I.lnew (t' := s.toks) (r.append r2) (by rw [List.length_append]; omega), rfl, q _ I.fresh⟩
theorem Same.but {a : Addr} {H0 H H' : Hp} (s : Same H0 H) (n : H0 a = none) (b : SameBut a H H') : Same H0 H' := fun c o e =>
  b c o (s c o e) (ne_of_none e n)
end SH

/-! SH5: a list stored into a slice with open bounds (xs[:] = ys, xs[a:] = ys). -/
namespace SH
open PySem PySem.Spec PyProof.Rows L2
section
variable {prog : Program} {w : World} {A : Around} {E : Value → Shared → Prop} {s : Shared}
theorem store_open {tgt src sl : Addr} {old new : Array Value} {n n2 : Nat} {vl vu : Value} {lo hi : Option Int} {Q : Unit → Shared → Prop}
    (eo : s.heap.get? tgt = some { cls := .type "list", data := .seq old n }) (en : s.heap.get? src = some { cls := .type "list", data := .seq new n2 })
    (ne : tgt ≠ src) (isl : s.heap.IsSliceOf sl vl vu .none) (pl : IsPart vl lo) (pu : IsPart vu hi) (small : old.size + new.size ≤ sizeLine)
    (h : Q () { s with heap := s.heap.update tgt (Obj.mapSeq fun xs => xs.extract 0 (HT.sIx old.size 0 lo) ++ new ++ xs.extract (max (HT.sIx old.size 0 lo) (HT.sIx old.size old.size hi)) xs.size) }) :
    wpAny (model prog w) A (setItem (.ref tgt) (.ref sl) (.ref src)) Q E s := by
  obtain ⟨b1, b2, b3⟩ := slice_bounds lo hi old.size
  have isT := PySem.IsL.isList eo
  have isS := PySem.IsL.isList en
  obtain ⟨os, go, co, fo⟩ := id isl
  have tyS : s.TypeIs (.ref sl) "slice" := ⟨os, go, co⟩
  have li := HT.sIx_le old.size 0 (Nat.zero_le _) lo
  have lj := HT.sIx_le old.size old.size (Nat.le_refl _) hi
  have diff : Builtin.List.listSameRef (.ref tgt) (.ref src) = false := by
    unfold Builtin.List.listSameRef; exact beq_eq_false_iff_ne.mpr ne
  generalize HT.sIx old.size 0 lo = i at *
  generalize HT.sIx old.size old.size hi = j at *
  have mx : (max (i : Int) (j : Int)).toNat = max i j := by omega
  have room : ((fun xs : Array Value => xs.extract 0 i ++ new ++ xs.extract (max i j) xs.size) old).size ≤ sizeLine + 1 := by
    simp only [Array.size_append, Array.size_extract]; omega
  unfold setItem
  try with_reducible refine wpAny_holding ?_
  first | refine wpAny_bind (wpAny_pure ?_) | skip
  refine wpAny_bind (wpAny_sequenceKey isT.typeIs (by decide) ?_)
  refine wpAny_bind (wpAny_callSpecial?_slot (name := Str.ofString "__setitem__") isT.typeIs slot_list_setitem (wpAny_call_entry slot_list_setitem isT.typeIs entry_list_setitem ?_ (args_list_setitem _ _ _)))
  show wpAny _ _ (Builtin.List.listSubscript? (.ref sl) >>= _) _ _ s
  refine wpAny_bind ?_
  unfold Builtin.List.listSubscript?
  refine wpAny_bind (wpAny_specialOf tyS slice_no_index ?_)
  simp only [Option.isNone_none, if_true]
  refine wpAny_pure ?_
  show wpAny _ _ (typeOf (.ref sl) >>= _) _ _ s
  refine wpAny_bind (wpAny_typeOf tyS ?_)
  first | rw [if_neg (by decide)] | refine PySem.W.KFB.if_not (by decide) ?_
  rw [listSliceParts_eq]
  refine wpAny_bind (wpAny_bind (wpAny_field go fo (x := .none) rfl (wpAny_bind (wpAny_listPart .none ?_))))
  rw [if_neg (show ¬ ((rawPart none == rawInt 0) = true) from Bool.false_ne_true)]
  refine wpAny_bind (wpAny_field go fo (x := vl) rfl (wpAny_bind (wpAny_listPart pl ?_)))
  refine wpAny_bind (wpAny_field go fo (x := vu) rfl (wpAny_bind (wpAny_listPart pu (wpAny_pure ?_))))
  first
    | simp only [diff, Bool.false_eq_true, if_false]
    | refine PySem.W.KFB.if_not diff ?_
    | (dsimp only; rw [if_neg (by rw [diff]; exact Bool.false_ne_true)])
  refine wpAny_bind (m := Builtin.List.listAllItems (.ref src) "must assign iterable to extended slice") ?_
  unfold Builtin.List.listAllItems
  refine wpAny_bind (wpAny_typeOf isS.typeIs ?_)
  first | refine PySem.W.KFB.if_so (by decide) ?_ | rw [if_pos (by decide)] | simp only [beq_self_eq_true, Bool.true_or, if_true]
  unfold Builtin.List.listItems
  refine wpAny_bind (wpAny_seqItems en rfl (wpAny_pure ?_))
  refine wpAny_bind (wpAny_bind (wpAny_seqItems eo rfl (wpAny_pure ?_)))
  have bb : sliceBounds lo hi none old.size = ((i : Int), (j : Int), 1) := Prod.ext b1 (Prod.ext b2 b3)
  refine wpAny_bind (wpAny_of_eq ((sliceIndices_raw lo hi none old.size (by simp)).trans (congrArg (pure : Int × Int × Int → Sem (Int × Int × Int)) bb)) ?_)
  show wpAny _ _ (if ((1 : Int) == 1) = true then _ else _) _ _ s
  rw [if_pos (by decide)]
  refine wpAny_bind (wpAny_rule ?_)
  first | simp only [notLongL small, Bool.false_eq_true, if_false] | refine PySem.W.KFB.if_not (notLongL small) ?_
  first | refine wpAny_bind (wpAny_pure ?_) | skip
  show wpAny _ _ (updateSeq tgt (fun xs => xs.extract 0 ((i : Int)).toNat ++ new ++ xs.extract (max (i : Int) (j : Int)).toNat xs.size) >>= _) _ _ s
  rw [mx, Int.toNat_natCast]
  refine wpAny_bind (wpAny_updateSeq (hz := Nat.le_trans (Nat.le_add_right _ _) small) (_hz' := room) eo rfl ?_)
  refine wpAny_bind (wpAny_letGo ?_)
  first
    | exact wpAny_bind (wpAny_pure (wpAny_pure ⟨.none, rfl, wpAny_pure h⟩))
    | exact wpAny_pure ⟨.none, rfl, wpAny_pure h⟩
end
/-- ys stored into xs[lo:hi] -/
def rStore : V → Option Int → Option Int → V → Hp → (Hp → Prop) → Prop := fun o lo hi v H Q => ∃ (l b : Addr) (xs ys : List V), o = .ref l ∧ v = .ref b ∧ l ≠ b ∧ H l = some (.lst xs) ∧ H b = some (.lst ys) ∧
  xs.length + ys.length ≤ sizeLine ∧ Q (upd H l (.lst (xs.take (HT.sIx xs.length 0 lo) ++ ys ++ xs.drop (max (HT.sIx xs.length 0 lo) (HT.sIx xs.length xs.length hi)))))
def gStore (to : TE) (tl th : TO) : TG := fun v σ H Q => to σ H fun o H1 => tl σ H1 fun lo H2 => th σ H2 fun hi H3 => rStore o lo hi v H3 fun H4 => Q σ H4
section
variable {X : Cx} {o : Expr} {to : TE} {lo hi : Option Expr} {tl th : TO} {p2 pos : Pos}
theorem pg_store (ho : PE X o to) (hl : PO X lo tl) (hu : PO X hi th)
    (ha : ∀ v, assign (.Subscript o (.Slice lo hi none p2) pos) X.env v = (do
      let ov ← holding [v] (eval o X.env)
      let iv ← holding [v, ov] (eval (.Slice lo hi none p2) X.env)
      standAt pos
      holding [v, ov, iv] (setItem ov iv v)
      release [iv, v, ov] []) := by intro _; rfl) : PG X (.Subscript o (.Slice lo hi none p2) pos) (gStore to tl th) := by
  refine ⟨fun pins s σ H v u Q I r h => ?_⟩
  rw [ha]
  refine wpAny_bind (wpAny_holding (thn (ho.run pins s σ H _ I h) fun ov s1 ⟨x, H1, I1, r1, q1⟩ => ?_))
  refine wpAny_bind (wpAny_holding (wpAny_Slice (thn (hl.run pins s1 σ H1 _ I1 q1) fun vl s2 ⟨l, H2, I2, pl, q2⟩ => thn (hu.run pins s2 σ H2 _ I2 q2) fun vu s3 ⟨u', H3, I3, pu, q3⟩ => ?_)))
  rw [evalPart_none]
  refine wpAny_pure ?_
  have I4 : Inv X pins σ H3 { s3 with heap := s3.heap.push { cls := .type "slice", data := .fields #[vl, vu, .none] } } := I3.kept (t' := s3.toks) fun b ob q => Heap.get?_push_of_some _ q
  refine wpAny_bind (wpAny_standAt (wpAny_bind (wpAny_holding ?_)))
  obtain ⟨a, b, xs, ys, rfl, rfl, ne, ea, eb, sm, q⟩ := q3
  cases r1
  cases r
  obtain ⟨z, its, n, rr, hl1, e⟩ := I4.lstM ea
  obtain ⟨z2, its2, n2, rr2, hl2, e2⟩ := I4.lstM eb
  have k1 := rr.length
  have k2 := rr2.length
  refine store_open e e2 ne (Heap.IsSliceOf.new ..) pl pu (by rw [List.size_toArray, List.size_toArray]; omega) ?_
  refine wpAny_release ⟨σ, _, ?_, q⟩
  rw [List.size_toArray, ← k1]
  refine I4.lset (its' := its.take (HT.sIx xs.length 0 l) ++ its2 ++ its.drop (max (HT.sIx xs.length 0 l) (HT.sIx xs.length xs.length u'))) (t' := _) ea e ?_ (Vals.append (Vals.append (rr.take _) rr2) (rr.drop _)) ?_
  · exact splice_eq its its2 _ _
  · rw [List.length_append, List.length_append, List.length_take, List.length_drop]
    omega
end
end SH

/-! SH6: comprehensions over enumerate and lists whose turns change nothing that is tracked. -/
namespace SH
open PySem PySem.Spec PyProof.Rows L2
theorem if_any {b : Bool} {A B : TE} {σ : L2.St} {H : Hp} {Q : VK} (Inv : V → Hp → Prop) (ha : b = true → ∀ Q' : VK, (∀ v H', Inv v H' → Q' v H') → A σ H Q')
    (hb : b = false → ∀ Q' : VK, (∀ v H', Inv v H' → Q' v H') → B σ H Q') (h : ∀ v H', Inv v H' → Q v H') : if b = true then A σ H Q else B σ H Q := by
  cases b with
  | true => rw [if_pos rfl]; exact ha rfl Q h
  | false => rw [if_neg Bool.false_ne_true]; exact hb rfl Q h
theorem Same.at {H H' : Hp} {a : Addr} {o : HO} (s : Same H H') (n : H a = none) : Same H (upd H' a o) := fun b u e => by
  rw [upd_ne (ne_of_none e n)]; exact s b u e
theorem while_cut {tc : TT} {tb : TS} {D : Ends} {σ : L2.St} {H : Hp} (Exit : L2.St → Hp → Prop) (main : ∀ σ' H', Exit σ' H' → D.nx σ' H')
    (h : (∀ σ' H', Exit σ' H' → D.nx σ' H') → tWhile tc tb D σ H) : tWhile tc tb D σ H := h main
section
variable {K : PySem.W.Frag} {tt : TT} {te : TE} {vs : List Nat} {σ : L2.St} {H : Hp} {D : Addr} {Qd : Hp → Prop}
/-- a turn's end, the heap told by Same -/
theorem lc_turnS {n : Nat} {keep : Nat → Bool} {val : Nat → V} {i : Nat} {σ2 : L2.St} {H2 : Hp} (hD : H D = none) (hi : i < n) (hn : n < 100000) (s2 : Same H H2)
    (h2 : H2 D = some (.lst (gives i keep val)))
    (ht : ∀ Q : Bool → Hp → Prop, (∀ H3, Same H2 H3 → Q (keep i) H3) → tt σ2 H2 Q)
    (he : ∀ H3, Same H2 H3 → ∀ Q : VK, keep i = true → (∀ H4, Same H3 H4 → Q (val i) H4) → te σ2 H3 Q) :
    tt σ2 H2 fun b H3 => if b = true then te σ2 H3 fun y H4 => ∃ acc, H4 D = some (.lst acc) ∧ acc.length < sizeLine ∧
      (Same H (upd H4 D (.lst (acc ++ [y]))) ∧ (upd H4 D (.lst (acc ++ [y]))) D = some (.lst (gives (i + 1) keep val)))
      else (Same H H3 ∧ H3 D = some (.lst (gives (i + 1) keep val))) := by
  refine ht _ fun H3 s3 => ?_
  by_cases h : keep i = true
  · rw [h]
    refine iteT (he H3 s3 _ h fun H4 s4 => ⟨_, s4 _ _ (s3 _ _ h2), small_line (by have := gives_len i keep val; omega), Same.at ((s2.trans s3).trans s4) hD, ?_⟩)
    rw [upd_same, gives_succ, if_pos h]
  · have h' : keep i = false := by cases e : keep i <;> simp_all
    rw [h']
    refine iteF ⟨s2.trans s3, ?_⟩
    rw [gives_succ, if_neg h]
    exact s3 _ _ h2
/-- [.. for i, x in enumerate(xs) ..] -/
theorem lcEn {a : Addr} {xs : List V} {j1 j2 : Nat} (keep : Nat → Bool) (val : Nat → V) (hx : SqL K H a xs) (hD : H D = none) (hn : xs.length < 100000)
    (hw : ∀ x y, wipe (((wipe σ vs).set j1 (some x)).set j2 (some y)) vs = wipe σ vs)
    (ht : ∀ i x H2 (Q : Bool → Hp → Prop), xs[i]? = some x → Same H H2 → (∀ H3, Same H2 H3 → Q (keep i) H3) → tt (((wipe σ vs).set j1 (some (.int (i : Nat)))).set j2 (some x)) H2 Q)
    (he : ∀ i x H2 (Q : VK), xs[i]? = some x → keep i = true → Same H H2 → (∀ H3, Same H2 H3 → Q (val i) H3) → te (((wipe σ vs).set j1 (some (.int (i : Nat)))).set j2 (some x)) H2 Q)
    (hd : ∀ H', Same H H' → H' D = some (.lst (gives xs.length keep val)) → Qd H') :
    ∃ W : Nat → Nat → Hp → Prop, (∃ m, W 0 m (upd H D (.lst []))) ∧ ∀ i m H, W i m H →
      ((Ite K a).stop i H ∧ Qd H) ∨ ((Ite K a).go i H ∧ ∃ Nx : Hp → Prop, (∀ H', Nx H' → ∃ m', m' < m ∧ W (i + 1) m' H') ∧
        ∀ x H', (Ite K a).yld i H x H' → gTup K 2 (gCons (gName j1) (gCons (gName j2) gNil)) x (wipe σ vs) H' fun σ2 H2 => wipe σ2 vs = wipe σ vs ∧ tt σ2 H2 fun b H3 =>
          if b = true then te σ2 H3 fun y H4 => ∃ acc, H4 D = some (.lst acc) ∧ acc.length < sizeLine ∧ Nx (upd H4 D (.lst (acc ++ [y]))) else Nx H3) := by
  refine ⟨fun i m H' => m = xs.length - i ∧ i ≤ xs.length ∧ Same H H' ∧ H' D = some (.lst (gives i keep val)), ⟨_, rfl, Nat.zero_le _, Same.new hD, upd_same⟩, ?_⟩
  rintro i m H2 ⟨rfl, hi, s2, h2⟩
  have hq := s2.seq hx
  rcases Nat.lt_or_ge i xs.length with lt | ge
  · refine .inr ⟨⟨xs, xs[i], hq, List.getElem?_eq_getElem lt⟩, fun H' => Same H H' ∧ H' D = some (.lst (gives (i + 1) keep val)), fun H' p' => ⟨xs.length - (i + 1), by omega, rfl, lt, p'.1, p'.2⟩, ?_⟩
    rintro v H' ⟨T, x, rfl, hT, rfl, f⟩
    have sT : Same H (upd H2 T (.tup [.int (i : Nat), x])) := s2.trans (Same.new hT)
    have hTD := Same.new (o := .tup [.int (i : Nat), x]) hT _ _ h2
    refine ⟨T, _, rfl, SqT.of upd_same, rfl, _, _, rfl, _, _, rfl, rfl, hw _ _, ?_⟩
    exact lc_turnS hD lt hn sT hTD (fun Q q => ht i x _ Q (f xs hq) sT q) (fun H3 s3 Q k q => he i x H3 Q (f xs hq) k (sT.trans s3) q)
  · obtain rfl : i = xs.length := Nat.le_antisymm hi ge
    exact .inl ⟨⟨xs, hq, Nat.le_refl _⟩, hd H2 s2 h2⟩
/-- [.. for x in xs ..] whose turns may make things -/
theorem lcLn {a : Addr} {xs : List V} {j : Nat} (keep : Nat → Bool) (val : Nat → V) (hx : SqL K H a xs) (hD : H D = none) (hn : xs.length < 100000)
    (hw : ∀ x, wipe ((wipe σ vs).set j (some x)) vs = wipe σ vs)
    (ht : ∀ i x H2 (Q : Bool → Hp → Prop), xs[i]? = some x → Same H H2 → (∀ H3, Same H2 H3 → Q (keep i) H3) → tt ((wipe σ vs).set j (some x)) H2 Q)
    (he : ∀ i x H2 (Q : VK), xs[i]? = some x → keep i = true → Same H H2 → (∀ H3, Same H2 H3 → Q (val i) H3) → te ((wipe σ vs).set j (some x)) H2 Q)
    (hd : ∀ H', Same H H' → H' D = some (.lst (gives xs.length keep val)) → Qd H') :
    ∃ W : Nat → Nat → Hp → Prop, (∃ m, W 0 m (upd H D (.lst []))) ∧ ∀ i m H, W i m H →
      ((Itl K a).stop i H ∧ Qd H) ∨ ((Itl K a).go i H ∧ ∃ Nx : Hp → Prop, (∀ H', Nx H' → ∃ m', m' < m ∧ W (i + 1) m' H') ∧
        ∀ x H', (Itl K a).yld i H x H' → gName j x (wipe σ vs) H' fun σ2 H2 => wipe σ2 vs = wipe σ vs ∧ tt σ2 H2 fun b H3 =>
          if b = true then te σ2 H3 fun y H4 => ∃ acc, H4 D = some (.lst acc) ∧ acc.length < sizeLine ∧ Nx (upd H4 D (.lst (acc ++ [y]))) else Nx H3) :=
  lc_list (xs := xs) (fun i H2 => Same H H2 ∧ H2 D = some (.lst (gives i keep val))) ⟨Same.new hD, upd_same⟩
    (fun i H2 hi e => e.1.seq hx)
    (fun i x H2 hi e => ⟨hw _, lc_turnS hD (List.getElem?_eq_some_iff.mp hi).1 hn e.1 e.2 (fun Q q => ht i x H2 Q hi e.1 q) (fun H3 s3 Q k q => he i x H3 Q hi k (e.1.trans s3) q)⟩)
    (fun H2 e => hd H2 e.1 e.2)
/-- [.. for i in range(lo, lo + n) ..] whose turns may make things -/
theorem lcRn {lo : Int} {n j : Nat} (keep : Nat → Bool) (val : Nat → V) (hD : H D = none) (hn : n < 100000)
    (hw : ∀ x, wipe ((wipe σ vs).set j (some x)) vs = wipe σ vs)
    (ht : ∀ i H2 (Q : Bool → Hp → Prop), i < n → Same H H2 → (∀ H3, Same H2 H3 → Q (keep i) H3) → tt ((wipe σ vs).set j (some (.int (lo + (i : Nat))))) H2 Q)
    (he : ∀ i H2 (Q : VK), i < n → keep i = true → Same H H2 → (∀ H3, Same H2 H3 → Q (val i) H3) → te ((wipe σ vs).set j (some (.int (lo + (i : Nat))))) H2 Q)
    (hd : ∀ H', Same H H' → H' D = some (.lst (gives n keep val)) → Qd H') :
    ∃ W : Nat → Nat → Hp → Prop, (∃ m, W 0 m (upd H D (.lst []))) ∧ ∀ i m H, W i m H →
      ((Itr lo n).stop i H ∧ Qd H) ∨ ((Itr lo n).go i H ∧ ∃ Nx : Hp → Prop, (∀ H', Nx H' → ∃ m', m' < m ∧ W (i + 1) m' H') ∧
        ∀ x H', (Itr lo n).yld i H x H' → gName j x (wipe σ vs) H' fun σ2 H2 => wipe σ2 vs = wipe σ vs ∧ tt σ2 H2 fun b H3 =>
          if b = true then te σ2 H3 fun y H4 => ∃ acc, H4 D = some (.lst acc) ∧ acc.length < sizeLine ∧ Nx (upd H4 D (.lst (acc ++ [y]))) else Nx H3) :=
  lc_range (fun i H2 => Same H H2 ∧ H2 D = some (.lst (gives i keep val))) ⟨Same.new hD, upd_same⟩
    (fun i H2 hi e => ⟨hw _, lc_turnS hD hi hn e.1 e.2 (fun Q q => ht i H2 Q hi e.1 q) (fun H3 s3 Q k q => he i H3 Q hi k (e.1.trans s3) q)⟩)
    (fun H2 e => hd H2 e.1 e.2)
/-- [.. for a, b in zip(xs, ys) ..], lists of any lengths, whose turns may make things -/
theorem lcZn {a b : Addr} {xs ys : List V} {j1 j2 : Nat} (keep : Nat → Bool) (val : Nat → V) (hx : SqL K H a xs) (hy : SqL K H b ys) (hD : H D = none) (hn : xs.length < 100000)
    (hw : ∀ x y, wipe (((wipe σ vs).set j1 (some x)).set j2 (some y)) vs = wipe σ vs)
    (ht : ∀ i x y H2 (Q : Bool → Hp → Prop), xs[i]? = some x → ys[i]? = some y → Same H H2 → (∀ H3, Same H2 H3 → Q (keep i) H3) → tt (((wipe σ vs).set j1 (some x)).set j2 (some y)) H2 Q)
    (he : ∀ i x y H2 (Q : VK), xs[i]? = some x → ys[i]? = some y → keep i = true → Same H H2 → (∀ H3, Same H2 H3 → Q (val i) H3) → te (((wipe σ vs).set j1 (some x)).set j2 (some y)) H2 Q)
    (hd : ∀ H', Same H H' → H' D = some (.lst (gives (min xs.length ys.length) keep val)) → Qd H') :
    ∃ W : Nat → Nat → Hp → Prop, (∃ m, W 0 m (upd H D (.lst []))) ∧ ∀ i m H, W i m H →
      ((Itz K a b).stop i H ∧ Qd H) ∨ ((Itz K a b).go i H ∧ ∃ Nx : Hp → Prop, (∀ H', Nx H' → ∃ m', m' < m ∧ W (i + 1) m' H') ∧
        ∀ x H', (Itz K a b).yld i H x H' → gTup K 2 (gCons (gName j1) (gCons (gName j2) gNil)) x (wipe σ vs) H' fun σ2 H2 => wipe σ2 vs = wipe σ vs ∧ tt σ2 H2 fun b H3 =>
          if b = true then te σ2 H3 fun y H4 => ∃ acc, H4 D = some (.lst acc) ∧ acc.length < sizeLine ∧ Nx (upd H4 D (.lst (acc ++ [y]))) else Nx H3) := by
  refine ⟨fun i m H' => m = min xs.length ys.length - i ∧ i ≤ min xs.length ys.length ∧ Same H H' ∧ H' D = some (.lst (gives i keep val)), ⟨_, rfl, Nat.zero_le _, Same.new hD, upd_same⟩, ?_⟩
  rintro i m H2 ⟨rfl, hi, s2, h2⟩
  have qx := s2.seq hx
  have qy := s2.seq hy
  rcases Nat.lt_or_ge i (min xs.length ys.length) with lt | ge
  · have lx : i < xs.length := by omega
    have ly : i < ys.length := by omega
    refine .inr ⟨⟨xs, ys, xs[i], ys[i], qx, qy, List.getElem?_eq_getElem lx, List.getElem?_eq_getElem ly⟩, fun H' => Same H H' ∧ H' D = some (.lst (gives (i + 1) keep val)),
      fun H' p' => ⟨min xs.length ys.length - (i + 1), by omega, rfl, lt, p'.1, p'.2⟩, ?_⟩
    rintro v H' ⟨T, x, y, rfl, hT, rfl, fx, fy⟩
    have sT : Same H (upd H2 T (.tup [x, y])) := s2.trans (Same.new hT)
    have hTD := Same.new (o := .tup [x, y]) hT _ _ h2
    refine ⟨T, _, rfl, SqT.of upd_same, rfl, _, _, rfl, _, _, rfl, rfl, hw _ _, ?_⟩
    exact lc_turnS hD lx hn sT hTD (fun Q q => ht i x y _ Q (fx xs qx) (fy ys qy) sT q) (fun H3 s3 Q k q => he i x y H3 Q (fx xs qx) (fy ys qy) k (sT.trans s3) q)
  · obtain rfl : i = min xs.length ys.length := Nat.le_antisymm hi ge
    refine .inl ⟨⟨xs, ys, qx, qy, ?_⟩, hd H2 s2 h2⟩
    rcases Nat.le_total xs.length ys.length with c | c
    · exact .inl (by omega)
    · exact .inr (by omega)
end
end SH

/-! SH7: set(xs) of a list of hin, and sorted of such a set, any number of members below the table's bound. -/
namespace SH
open PySem PySem.Spec PyProof.Rows L2
/-- the object that set() makes -/
abbrev setO0 (w : World) : Obj :=
  { cls := .type "set", dict := none, data := .set #[] 0 (.fresh 0 0 (!w.params.followText "set-order")) }
section
variable {P : Program} {w : World} {A : Around} {E : Value → Shared → Prop} {s : Shared}
set_option maxHeartbeats 3200000 in
theorem set_of_list {l : Addr} {xs : Array Value} (ns : List Int) {Q : Value → Shared → Prop} (calm : A.handled = none)
    (isl : s.heap.IsList l xs) (hin : IntsAre xs.toList ns) (few : ns.length + 1 < scanBound)
    (h : ∀ (g : Heap) (tk c : Nat), SetR w g s.heap.objs.size (fun j => decide (j ∈ ns)) c → c ≤ ns.length →
      (∀ b o, s.heap.get? b = some o → g.get? b = some o) →
      Q (.ref s.heap.objs.size) { s with heap := g, toks := tk }) :
    wpAny (model P w) A (call (.type "set") [.ref l]) Q E s := by
  have size : xs.size = ns.length := by rw [← Array.length_toList]; exact IntsAre.length hin
  obtain ⟨_, _, m1⟩ := F.called_set.mro
  have m2 := F.called_set.made
  have m3 := F.called_set.sub
  refine wpAny_call (codeAny_of_tree (show wpAny _ _ (callAny (.type "set") _) _ _ _ from ?_))
  refine wpAny_pure ⟨Code.quiet_builtin _ (by decide +kernel),
    codeAny_builtin F.entry_type_call ?_⟩
  rw [Around.under_plain (weight_type_call_type "set"
    [.ref l] []) rfl]
  have m4 := F.called_set.notType
  have m5 := F.called_set.canCreate
  have m6 := F.typeCall_set_1 (.ref l)
  repeat (any_goals (first | wp_step | assumption))
  refine codeAny_mono (code_set_led1 (.ref l) (E := E)
    (Q₁ := fun ob t => ob = .ref s.heap.objs.size ∧ t = { s with heap := s.heap.push (setO0 w) }) ⟨rfl, rfl⟩)
    fun res t made => ?_
  cases res with
  | error e => exact made
  | ok fl =>
  cases fl with
  | ret ob =>
    obtain ⟨rfl, rfl⟩ := made
    have at0 : (s.heap.push (setO0 w)).get? s.heap.objs.size = some (setO0 w) := Heap.get?_push_size _ rfl
    have ty0 : Shared.TypeIs { s with heap := s.heap.push (setO0 w) } (.ref s.heap.objs.size) "set" := ⟨_, at0, rfl⟩
    have m7 := F.called_set.init.lookup
    have m8 := F.called_set.init.bind (.ref s.heap.objs.size)
    repeat (any_goals (first | wp_step | assumption))
    refine codeAny_mono (codeAny_call_builtin (R := wants (fun r t => r = .none ∧ ∃ g tk c, t = { s with heap := g, toks := tk } ∧
        SetR w g s.heap.objs.size (fun j => decide (j ∈ ns)) c ∧ c ≤ ns.length ∧ ∀ b o, s.heap.get? b = some o → g.get? b = some o) E)
      F.called_set.init.plain F.entry_set_init (check_set_init_1 ty0 ?_)) fun res2 t2 done => ?_
    · obtain ⟨ol, lk, cl, en, dl⟩ := isl
      obtain ⟨c1, d1, x1, sl1⟩ := ol
      simp only at cl dl
      subst cl dl
      have lk' : (s.heap.push (setO0 w)).get? l = some { cls := .type "list", dict := d1, data := .seq xs en, slots := sl1 } :=
        Heap.get?_push_of_some _ lk
      have u1 := F.sub_list_set
      have u2 := F.sub_list_frozenset
      have u3 : (Value.type "list" == Value.type "dict") = false := by decide
      have isl1 : (s.heap.push (setO0 w)).IsList l xs := ⟨_, lk', rfl, en, rfl⟩
      unfold Builtin.«set.__init__» noKeywords
      unfold Builtin.Frozenset.updateFrom
      generalize iterE : pyIter = itf
      wp_walk
      subst iterE
      refine wpAny_pyIter_list isl1 (wpAny_bind (wpAny_runValue ?_))
      have lt : l < s.heap.objs.size := Heap.lt_size lk
      have calm3 : A.in1.in1.in1.handled = none := by simp [calm]
      have sz : (s.heap.push (setO0 w)).objs.size = s.heap.objs.size + 1 := Heap.size_push ..
      have ne1 : l ≠ (s.heap.push (setO0 w)).objs.size := by rw [sz]; exact Nat.ne_of_lt (Nat.lt_succ_of_lt lt)
      have ne2 : s.heap.objs.size ∉ [(s.heap.push (setO0 w)).objs.size, l] := by
        rw [sz]
        simp only [List.mem_cons, List.not_mem_nil, or_false, not_or]
        exact ⟨Nat.ne_of_lt (Nat.lt_succ_self _), Ne.symm (Nat.ne_of_lt lt)⟩
      have vals : ∀ (i : Nat) (v : Value), xs[i]? = some v → ∃ k t, ns[i]? = some k ∧ v = .int k t := fun i v e => by
        have il : i < ns.length := by rw [← size]; exact (Array.getElem?_eq_some_iff.mp e).1
        obtain ⟨t, et⟩ := IntsAre.int_at hin i v (by rw [Array.getElem?_toList]; exact e)
        refine ⟨ns.getD i 0, t, ?_, et⟩
        rw [List.getD_eq_getElem?_getD, List.getElem?_eq_getElem il]
        rfl
      refine set_update_ints ((Walks.list calm3 _ l ne1 xs).toS) s.heap.objs.size ne2 ns size few vals (xs.size - 0) 0 _ (by omega)
        (Nat.zero_le _) ⟨⟨_, Heap.get?_push_size _ rfl, rfl, rfl⟩, isl1.push _⟩ ⟨0, Nat.le_refl 0, ?_⟩ ?_
      · exact setR_new_at (Heap.get?_push_of_some _ at0)
      · intro t c mv cl1 R
        obtain ⟨g, gens, drawn, tk, os⟩ := t
        obtain rfl : gens = s.gens := mv.gens
        obtain rfl : drawn = s.drawn := mv.drawn
        obtain rfl : os = s.os := mv.os
        refine wpAny_pure (show wpAny _ _ (ret Value.none) _ _ _ from ?_)
        rw [size] at cl1
        refine wpAny_pure ⟨rfl, g, tk, c, rfl, R, cl1, fun b o e => mv.heap b o ?_ ?_⟩
        · have lb : b < s.heap.objs.size := Heap.lt_size e
          rw [sz]
          simp only [List.mem_cons, List.not_mem_nil, or_false, not_or]
          exact ⟨Nat.ne_of_lt lb, Nat.ne_of_lt (Nat.lt_succ_of_lt lb)⟩
        · exact Heap.get?_push_of_some _ (Heap.get?_push_of_some _ e)
    · cases res2 with
      | error e => exact done
      | ok fl2 =>
      cases fl2 with
      | ret r =>
        obtain ⟨rfl, g, tk, c, rfl, R, cl1, kp⟩ := done
        repeat (any_goals (first | wp_step | assumption))
        exact h _ _ _ R cl1 kp
      | _ => exact done.elim
  | _ => exact made.elim
theorem set_sorted {a : Addr} {S : Int → Bool} {n : Nat} {Q : Value → Shared → Prop} (R : SetR w s.heap a S n) (calm : A.handled = none)
    (h : ∀ t p (out : Array Value) (c : Nat) (ns : List Int), (∀ b o, s.heap.get? b = some o → t.heap.get? b = some o) → t.gens = s.gens → t.os = s.os →
      s.heap.objs.size ≤ p → t.heap.get? p = some (seqObj "list" out c) → IntsAre out.toList ns → ns.Pairwise (· < ·) →
      (∀ k, k ∈ ns ↔ S k = true) → ns.length = n → Q (.ref p) t) :
    wpAny (model P w) A (call (.builtin "sorted") [.ref a]) Q E s := by
  obtain ⟨ob, es, ep, tb, look, exact', dat, good, dis, mem, bnd, fits, cnt, ris, led⟩ := R
  refine Calls.call_function_entry kind_sorted plain_sorted entry_sorted (args_sorted1 _) ?_
  unfold Builtin.«sorted»
  refine wpAny_bind (m := checkCount "sorted" 1 1 _) (wpAny_pure (wpAny_bind (collect_set (A := A.in1) calm ⟨ob, look, exact'.1, dat⟩ fits bnd ris led
    fun t1 vs kp grow gn osn perm => ?_)))
  have lenV : vs.length = n := by rw [perm.length_eq, List.length_map, Array.length_toList]; exact cnt
  have intsV : IntsAre vs (vs.map Builtin.Re.reRawOf) := ints_of vs fun v hv => by
    obtain ⟨e, he, rfl⟩ := List.mem_map.mp (perm.mem_iff.mp hv)
    obtain ⟨k, tk, x, _⟩ := good e he
    exact ⟨k, tk, x⟩
  have permK : (vs.map Builtin.Re.reRawOf).Perm (es.toList.map keyOf) := by
    have := perm.map Builtin.Re.reRawOf
    rwa [List.map_map] at this
  have small : vs.length ≤ sizeLine := by
    have : scanBound = 4096 := rfl
    rw [lenV, sizeLine_eq]
    omega
  refine wpAny_bind (wpAny_newList ?_ small)
  have look2 : (t1.heap.push (seqObj "list" vs.toArray 0)).get? t1.heap.objs.size = some (seqObj "list" vs.toArray 0) :=
    Heap.get?_push_size _ rfl
  refine wpAny_bind (wpAny_holding (wpAny_call_entry slot_list_sort ⟨_, look2, rfl⟩ entry_list_sort
    (SrtO.list_sort_ord SrtO.swo_int look2 small (fun two => SrtO.ints_sortable intsV two) fun out o1 o2 => ⟨_, rfl, ?_⟩) (args_list_sort _)))
  obtain ⟨k1, k2, k3⟩ := SrtO.ints_out intsV o1 o2
  obtain ⟨c, ec⟩ := sortedHeap_at (vs := vs) (out := out.toArray) look2
  have pn : (out.map SrtO.iv).Perm (es.toList.map keyOf) := k2.trans permK
  refine wpAny_pure ⟨_, rfl, h _ t1.heap.objs.size out.toArray c (out.map SrtO.iv) (fun b u e => ?_) gn osn grow ec k1
    (lt_of_le_nodup _ k3 (pn.nodup_iff.mpr dis)) (fun k => by rw [pn.mem_iff, ← mem k]) ?_⟩
  · have e1 := kp b u e
    have lb : b < t1.heap.objs.size := Heap.lt_size e1
    have lb2 : b ≠ t1.heap.objs.size := Nat.ne_of_lt lb
    show (sortedHeap (t1.heap.push (seqObj "list" vs.toArray 0)) t1.heap.objs.size vs out.toArray).get? b = some u
    rw [sortedHeap_old lb2 (by rw [size_push']; exact Nat.lt_succ_of_lt lb)]
    exact Heap.get?_push_of_some _ e1
  · rw [pn.length_eq, List.length_map, Array.length_toList]
    exact cnt
end
/-- set(xs) -/
def rSetOfI (K : PySem.W.Frag) (w : World) : List V → Hp → VK → Prop := fun xs H Q => ∃ (l : Addr) (ns : List Int), xs = [.ref l] ∧ SqL K H l (iv ns) ∧ ns.length < 4000 ∧
  ∀ a n, H a = none → n ≤ ns.length → Q (.ref a) (upd H a (SetO w a (fun j => decide (j ∈ ns)) n))
theorem cr_setOfI {X : Cx} (hc : X.calm = true) : CallR X (.type "set") (rSetOfI X.K X.w) := by
  intro pins s σ H xs us Q I r h
  obtain ⟨l, ns, rfl, hl, hf, q⟩ := h
  rw [Vals.ref1 r]
  obtain ⟨its, rv, pl, hz⟩ := I.list hl
  have hn : H s.heap.objs.size = none := I.hok.fresh (Nat.le_refl _)
  refine set_of_list (P := X.prog) (w := X.w) ns (I.ok.hd hc) pl.isList (by simpa using ints_of_vals rv) (by have : scanBound = 4096 := rfl; omega) fun g tk c R cl kp => ?_
  exact ⟨.ref s.heap.objs.size, upd H s.heap.objs.size (SetO X.w s.heap.objs.size (fun j => decide (j ∈ ns)) c), I.laid (t' := tk) kp (Nat.le_refl _) (setO_new R), rfl, q _ c hn cl⟩
/-- sorted(found), any number of members -/
def rSortedN (w : World) : List V → Hp → VK → Prop := fun vs H Q => ∃ (a : Addr) (S : Int → Bool) (n : Nat), vs = [V.ref a] ∧ H a = some (SetO w a S n) ∧
  ∀ (ns : List Int) (p : Addr), ns.Pairwise (· < ·) → (∀ k : Int, k ∈ ns ↔ S k = true) → ns.length = n → H p = none → Q (.ref p) (upd H p (.lst (iv ns)))
theorem cr_sortedN {X : Cx} (hc : X.calm = true) : CallR X (.builtin "sorted") (rSortedN X.w) := by
  intro pins s σ H vs us Q I r h
  obtain ⟨a, S, n, rfl, ha, q⟩ := h
  have R := setO_get I ha
  rw [Vals.ref1 r]
  have nb : n < scanBound := by obtain ⟨_, es, _, _, _, _, _, _, _, _, b, _, e, _⟩ := R; omega
  refine set_sorted R (I.ok.hd hc) fun t p out c ns kp gn osn hp look hin asc mem len => ?_
  have small : (iv ns).length ≤ sizeLine := by
    have : scanBound = 4096 := rfl
    rw [List.length_map, len, sizeLine_eq]
    omega
  have hn : H p = none := I.hok.fresh hp
  have J : Inv X pins σ (upd H p (.lst (iv ns))) { s with heap := t.heap, gens := t.gens, drawn := t.drawn, toks := t.toks } :=
    I.call (ch := []) (Un.laid kp hp hn) (I.hok.laid kp hp ⟨small, out.toList, c, vals_of_ints hin, look⟩)
      (by rw [gn]; exact I.bare) (fun _ z => nomatch z)
  have e : t = { s with heap := t.heap, gens := t.gens, drawn := t.drawn, toks := t.toks } := by
    cases t; cases s; cases osn; rfl
  rw [e]
  exact ⟨.ref p, _, J, rfl, q ns p asc mem len hn⟩
end SH

/-! SH8: sorted(xs) of a list of ints, any length below 4000. -/
namespace SH
open PySem PySem.Spec PyProof.Rows L2
def rSortedAny (K : PySem.W.Frag) : List V → Hp → VK → Prop := fun vs H Q => ∃ (a : Addr) (ns : List Int), vs = [V.ref a] ∧ SqL K H a (ns.map V.int) ∧ ns.length < 4000 ∧
  ∀ (ns' : List Int) (p : Addr), ns'.Perm ns → ns'.Pairwise (· ≤ ·) → H p = none → Q (.ref p) (upd H p (.lst (ns'.map V.int)))
section
variable {X : Cx}
theorem cr_sortedAny : CallR X (.builtin "sorted") (rSortedAny X.K) := by
  intro pins s σ H vs us Q I r h
  obtain ⟨a, ns, rfl, hs, h64, q⟩ := h
  obtain ⟨its, rv, hl, _⟩ := I.list hs
  rw [Vals.ref1 r]
  have hi := rv.ints
  have hb : its.length ≤ sizeLine := by rw [hi.length, sizeLine_eq]; omega
  refine PyProof.Rows.sorted_intsAny hl.isList hi hb fun out ns' h1 h2 h3 => ?_
  obtain ⟨ep, he'⟩ := PyProof.Rows.sortedAll_at s.heap its out
  have hlen : (ns'.map V.int).length ≤ sizeLine := by rw [List.length_map, h2.length_eq, sizeLine_eq]; omega
  exact ⟨.ref _, upd H (s.heap.objs.size + 1) (.lst (ns'.map V.int)), I.laid (t' := s.toks) (fun _ _ => PyProof.Rows.sortedAll_old) (Nat.le_succ _) ⟨hlen, out.toList, ep, vals_of_ints h1, he'⟩, rfl, q ns' _ h2 h3 (I.hok.fresh (Nat.le_succ _))⟩
end
end SH

/-! SH9: values of any kind: data that stands in the heap, its repr, its type. -/
namespace SH
open PySem PySem.Spec PyProof.Rows L2

mutual
inductive Dx (H : Hp) : V → PyData → List Addr → Prop
  | non : Dx H .non .none []
  | bl (b : Bool) : Dx H (.bl b) (.bool b) []
  | int (i : Int) : Dx H (.int i) (.int i) []
  | str (x : Str) : Dx H (.str x) (.str x) []
  | lst {a : Addr} {xs : List V} {ds : List PyData} {as : List Addr} : H a = some (.lst xs) → DxAll H xs ds as → Dx H (.ref a) (.list ds) (a :: as)
  | tup {a : Addr} {xs : List V} {ds : List PyData} {as : List Addr} : H a = some (.tup xs) → DxAll H xs ds as → Dx H (.ref a) (.tuple ds) (a :: as)
  | emp {a : Addr} : H a = some (.dK []) → Dx H (.ref a) (.dict []) [a]
inductive DxAll (H : Hp) : List V → List PyData → List Addr → Prop
  | nil : DxAll H [] [] []
  | cons {v : V} {vs : List V} {d : PyData} {ds : List PyData} {as bs : List Addr} : Dx H v d as → DxAll H vs ds bs → DxAll H (v :: vs) (d :: ds) (as ++ bs)
end
mutual
theorem Dx.imp {H H' : Hp} : ∀ {d : PyData} {v : V} {as : List Addr}, Dx H v d as → (∀ a ∈ as, ∀ o, H a = some o → H' a = some o) → Dx H' v d as
  | .none, _, _, h, k => by cases h; exact .non
  | .bool b, _, _, h, k => by cases h; exact .bl b
  | .int i, _, _, h, k => by cases h; exact .int i
  | .str x, _, _, h, k => by cases h; exact .str x
  | .list ds, _, _, h, k => by
    cases h with
    | lst e r => exact .lst (k _ List.mem_cons_self _ e) (DxAll.imp r fun a m => k a (List.mem_cons_of_mem _ m))
  | .tuple ds, _, _, h, k => by
    cases h with
    | tup e r => exact .tup (k _ List.mem_cons_self _ e) (DxAll.imp r fun a m => k a (List.mem_cons_of_mem _ m))
  | .dict _, _, _, h, k => by
    cases h with
    | emp e => exact .emp (k _ List.mem_cons_self _ e)
theorem DxAll.imp {H H' : Hp} : ∀ {ds : List PyData} {vs : List V} {as : List Addr}, DxAll H vs ds as → (∀ a ∈ as, ∀ o, H a = some o → H' a = some o) → DxAll H' vs ds as
  | [], _, _, h, k => by cases h; exact .nil
  | d :: ds, _, _, h, k => by
    cases h with
    | cons h1 h2 => exact .cons (Dx.imp h1 fun a m => k a (List.mem_append_left _ m)) (DxAll.imp h2 fun a m => k a (List.mem_append_right _ m))
end
theorem Dx.same {H H' : Hp} {v : V} {d : PyData} {as : List Addr} (h : Dx H v d as) (s : Same H H') : Dx H' v d as := h.imp fun a _ o e => s a o e
theorem Dx.but {H H' : Hp} {g : Addr} {v : V} {d : PyData} {as : List Addr} (h : Dx H v d as) (s : SameBut g H H') (n : g ∉ as) : Dx H' v d as :=
  h.imp fun a m o e => s a o e fun z => n (z ▸ m)
theorem DxAll.append {H : Hp} : ∀ {xs ys : List V} {ds es : List PyData} {as bs : List Addr}, DxAll H xs ds as → DxAll H ys es bs → DxAll H (xs ++ ys) (ds ++ es) (as ++ bs)
  | _, _, _, _, _, _, .nil, h => h
  | _, _, _, _, _, _, .cons h1 h2, h => by
    rw [List.append_assoc]
    exact .cons h1 (DxAll.append h2 h)
theorem dx_ints {H : Hp} : ∀ ns : List Int, DxAll H (iv ns) (ns.map PyData.int) []
  | [] => .nil
  | n :: r => .cons (as := []) (.int n) (dx_ints r)
theorem dx_one {H : Hp} {v : V} {d : PyData} {as : List Addr} (h : Dx H v d as) : DxAll H [v] [d] as := by
  have := DxAll.cons h .nil
  rwa [List.append_nil] at this
theorem dx_dI {H : Hp} {a : Addr} {ns : List Int} (h : H a = some (.lst (iv ns))) : Dx H (.ref a) (dI ns) [a] := .lst h (dx_ints ns)
theorem DxAll.len {H : Hp} : ∀ {xs : List V} {ds : List PyData} {as : List Addr}, DxAll H xs ds as → xs.length = ds.length
  | _, _, _, .nil => rfl
  | _, _, _, .cons _ h => congrArg (· + 1) h.len
theorem DxAll.at {H : Hp} : ∀ {xs : List V} {ds : List PyData} {as : List Addr} {i : Nat} {x : V}, DxAll H xs ds as → xs[i]? = some x → ∃ d bs, ds[i]? = some d ∧ Dx H x d bs
  | _, _, _, _, _, .nil, e => by simp at e
  | _, _, _, 0, _, .cons h _, e => by simp at e; subst e; exact ⟨_, _, rfl, h⟩
  | _, _, _, i + 1, x, .cons _ t, e => by
    obtain ⟨d, bs, h1, h2⟩ := DxAll.at (i := i) (x := x) t (by simpa using e)
    exact ⟨d, bs, by simpa using h1, h2⟩
section
variable {X : Cx} {pins : List (Addr × Obj)} {σ : L2.St} {H : Hp} {s : Shared}
theorem Dx.fresh (I : Inv X pins σ H s) {a : Addr} {o : HO} (e : H a = some o) : a < s.heap.objs.size := I.hok.lt e
mutual
theorem Dx.reads (I : Inv X pins σ H s) : ∀ (d : PyData) (v : V) (u : Value) (as : List Addr), Dx H v d as → RelV v u → ∃ bs, Reads s.heap u d bs ∧ ∀ b ∈ bs, b ∈ as
  | .none, _, _, _, h, r => by
    cases h
    cases r
    exact ⟨_, Reads.none, fun _ z => z⟩
  | .bool b, _, _, _, h, r => by
    cases h
    cases r
    exact ⟨_, Reads.bool b, fun _ z => z⟩
  | .int i, _, _, _, h, r => by
    cases h
    obtain ⟨t, rfl⟩ := r
    exact ⟨_, Reads.int i t, fun _ z => z⟩
  | .str x, _, _, _, h, r => by
    cases h
    obtain ⟨t, rfl⟩ := r
    exact ⟨_, Reads.str x t, fun _ z => z⟩
  | .list ds, _, _, _, h, r => by
    cases h with
    | lst hs ha =>
      cases r
      obtain ⟨its, rv, ⟨o, n, ho, hc, _, hd⟩, _⟩ := I.list (SqL.of hs)
      obtain ⟨bs, hr, hb⟩ := Dx.readsAll I ds _ its _ ha rv
      refine ⟨_, Reads.list ho hc hd hr, fun b m => ?_⟩
      rcases List.mem_cons.mp m with rfl | m
      · exact List.mem_cons_self
      · exact List.mem_cons_of_mem _ (hb b m)
  | .tuple ds, _, _, _, h, r => by
    cases h with
    | tup hs ha =>
      cases r
      obtain ⟨its, rv, ⟨o, ho, hc, n, hd⟩, _⟩ := I.tuple (SqT.of hs)
      obtain ⟨bs, hr, hb⟩ := Dx.readsAll I ds _ its _ ha rv
      exact ⟨_, Reads.tuple ho hc hd hr, fun b m => List.mem_cons_of_mem _ (hb b m)⟩
  | .dict _, _, _, _, h, r => by
    cases h with
    | emp e =>
      cases r
      obtain ⟨_, _, vs, rel, o, es, ep, ho, ex, hd, _, pr, _⟩ := dk_of I.hok e
      cases rel
      have e0 : es.toList = [] := by
        cases q : es.toList with
        | nil => rfl
        | cons x y => rw [q] at pr; cases pr
      exact ⟨_, Reads.dict (as := []) (bs := []) ho ex.1 hd (by rw [e0]; exact .nil) (by rw [e0]; exact .nil), fun b m => m⟩
theorem Dx.readsAll (I : Inv X pins σ H s) : ∀ (ds : List PyData) (vs : List V) (us : List Value) (as : List Addr), DxAll H vs ds as → Vals vs us → ∃ bs, ReadsAll s.heap us ds bs ∧ ∀ b ∈ bs, b ∈ as
  | [], _, _, _, h, r => by
    cases h
    cases r
    exact ⟨_, ReadsAll.nil, fun _ z => z⟩
  | d :: ds, _, _, _, h, r => by
    cases h with
    | cons h1 h2 =>
      cases r with
      | cons r1 r2 =>
        obtain ⟨as, q1, m1⟩ := Dx.reads I d _ _ _ h1 r1
        obtain ⟨bs, q2, m2⟩ := Dx.readsAll I ds _ _ _ h2 r2
        refine ⟨_, ReadsAll.cons q1 q2, fun b m => ?_⟩
        rcases List.mem_append.mp m with m | m
        · exact List.mem_append_left _ (m1 b m)
        · exact List.mem_append_right _ (m2 b m)
end
end
/-! ### repr of such -/
/-- a value that can be shown, in at most L signs -/
def Fits (n L : Nat) (d : PyData) : Prop := d.showable = true ∧ d.depth ≤ n ∧ d.shown.length ≤ L
def rReprX : List V → Hp → VK → Prop := fun xs H Q =>
  ∃ (x : V) (d : PyData) (as : List Addr), xs = [x] ∧ Dx H x d as ∧ (d.hasDict = true → sysModules ∉ as) ∧ Fits 50 16000000 d ∧ Q (.str d.shown) H
section
variable {X : Cx}
theorem call_reprX (qt : Quiet X.A) (hu : X.A.units + 64 < cLine) : CallR X (.builtin "repr") rReprX := by
  intro pins s σ H xs us Q I r h
  obtain ⟨x, d, as, rfl, hd, hn, ⟨h1, h3, h4⟩, q⟩ := h
  obtain ⟨u, rfl, rx⟩ := vals1 r
  have hz : d.shown.length ≤ sizeLine := Nat.le_trans h4 (by decide)
  obtain ⟨bs, rd, hb⟩ := Dx.reads I d _ _ _ hd rx
  have atom : ∀ (a : Addr), u = .ref a → wpAny (model X.prog X.w) X.A (call (.builtin "repr") [u]) (EP X pins σ Q) X.xe s := fun a e => by
    subst e
    exact repr_of_reads' rd h1 (fun e m => hn e (hb _ m)) qt (by omega) (fun _ _ e => e)
      (fun h' u tk hk => ⟨.str d.shown, H, I.kept hk, ⟨u, rfl⟩, q⟩) hz
  cases hd with
  | non => cases rx; exact PySem.P.repr_of_none ⟨.str _, H, I.tok _, ⟨_, rfl⟩, q⟩
  | bl b => cases rx; exact PySem.P.repr_of_bool ⟨.str _, H, I.tok _, ⟨_, rfl⟩, by cases b <;> exact q⟩
  | int i =>
    obtain ⟨t, rfl⟩ := rx
    exact PySem.P.repr_of_int (of_decide_eq_true h1) ⟨.str _, H, I.tok _, ⟨_, rfl⟩, q⟩
  | str y =>
    obtain ⟨t, rfl⟩ := rx
    exact PySem.P.repr_of_str ⟨.str _, H, I.tok _, ⟨_, rfl⟩, q⟩ hz
  | lst _ _ => exact atom _ rx
  | tup _ _ => exact atom _ rx
  | emp _ => exact atom _ rx
end
/-! ### type(x), isinstance(x, T) -/
/-- the name of the type -/
def tyD : PyData → String
  | .none => "NoneType"
  | .bool _ => "bool"
  | .int _ => "int"
  | .str _ => "str"
  | .list _ => "list"
  | .tuple _ => "tuple"
  | .dict _ => "dict"
theorem Dx.tyX {K : PySem.W.Frag} {H : Hp} {v : V} {d : PyData} {as : List Addr} (h : Dx H v d as) : TyX K H v (.type (tyD d)) := by
  cases h with
  | non => exact .base .non
  | bl b => exact .base (.bl b)
  | int i => exact .base (.int i)
  | str x => exact .base (.str x)
  | lst e _ => exact .base (.lst e)
  | tup e _ => exact .base (.tup e)
  | emp e => exact .base (.dK e)
def rTyX : List V → Hp → VK → Prop := fun xs H Q => ∃ (x : V) (d : PyData) (as : List Addr), xs = [x] ∧ Dx H x d as ∧ Q (.ty (tyD d)) H
section
variable {X : Cx}
theorem call_typeX : CallR X (.type "type") rTyX := by
  intro pins s σ H xs us Q I r h
  obtain ⟨x, d, as, rfl, hd, q⟩ := h
  obtain ⟨u, rfl, rx⟩ := vals1 r
  have nb : ∀ d : PyData, (Value.type (tyD d) == Value.type "builtin_function_or_method") = false := fun d => by cases d <;> (simp only [tyD]; decide +kernel)
  have fin : s.TypeIs u (tyD d) → wpAny (model X.prog X.w) X.A (call (.type "type") [u]) (EP X pins σ Q) X.xe s :=
    fun h1 => call_type_of h1 (nb d) ⟨.ty _, H, I, rfl, q⟩
  cases hd with
  | non => cases rx; exact fin rfl
  | bl b => cases rx; exact fin rfl
  | int i => obtain ⟨t, rfl⟩ := rx; exact fin rfl
  | str y => obtain ⟨t, rfl⟩ := rx; exact fin rfl
  | lst e _ =>
    cases rx
    obtain ⟨its, rv, p, _⟩ := I.list (SqL.of e)
    exact fin p.isList.typeIs
  | tup e _ =>
    cases rx
    obtain ⟨its, rv, p, _⟩ := I.tuple (SqT.of e)
    exact fin p.typeIs
  | emp e =>
    cases rx
    obtain ⟨_, _, vs, rel, o, es, ep, ho, ex, _⟩ := dk_of I.hok e
    exact fin ⟨o, ho, ex.1⟩
/-- isinstance(x, T), T a built-in type -/
def rIsX : List V → Hp → VK → Prop := fun xs H Q => ∃ (x : V) (T : String) (d : PyData) (as : List Addr) (b : Bool), xs = [x, .ty T] ∧ Dx H x d as ∧ kitB (tyD d) T = some b ∧ Q (.bl b) H
theorem call_isX : CallR X (.builtin "isinstance") rIsX := by
  intro pins s σ H xs us Q I r h
  obtain ⟨x, T, d, as, b, rfl, hd, e, q⟩ := h
  exact call_isi pins s σ H _ us Q I r ⟨x, .ty T, _, _, b, rfl, .ty T, hd.tyX, kit_ty e, q⟩
theorem kit_int (d : PyData) : kitB (tyD d) "int" = some (match d with | .int _ => true | .bool _ => true | _ => false) := by
  cases d <;> (simp only [tyD]; decide +kernel)
theorem kit_bool (d : PyData) : kitB (tyD d) "bool" = some (match d with | .bool _ => true | _ => false) := by
  cases d <;> (simp only [tyD]; decide +kernel)
theorem kit_list (d : PyData) : kitB (tyD d) "list" = some (match d with | .list _ => true | _ => false) := by
  cases d <;> (simp only [tyD]; decide +kernel)
/-! ### new lists, known to stand apart from the module table -/
def tLstB (t : TA) : TE := fun σ H Q => t σ H fun xs H1 => xs.length ≤ sizeLine ∧ ∀ p, H1 p = none → p ≠ sysModules → Q (.ref p) (upd H1 p (.lst xs))
theorem pe_lstB {es : List Expr} {pos : Pos} {t : TA} (h : PA X es t) : PE X (.List es pos) (tLstB t) := by
  refine ⟨fun pins s σ H Q I hq => ?_⟩
  refine wpAny_List_spliced (thn (h.run pos pins s σ H _ I hq) fun us s1 ⟨xs, H1, I1, r, z, q⟩ => ⟨by rw [← r.length]; exact z, ?_⟩)
  have hf : H1 s1.heap.objs.size = none := I1.hok.fresh (Nat.le_refl _)
  refine ⟨.ref s1.heap.objs.size, upd H1 s1.heap.objs.size (.lst xs), I1.laid (t' := s1.toks) (fun b u e => Heap.get?_push_of_some _ e) (Nat.le_refl _) ?_, rfl, q _ hf (Nat.ne_of_gt I1.big)⟩
  exact ⟨z, us, 0, r, Heap.get?_push_size _ rfl⟩
def rCatB (K : PySem.W.Frag) : R2 := fun x y H Q => ∃ l b xs zs, x = .ref l ∧ y = .ref b ∧ SqL K H l xs ∧ SqL K H b zs ∧ xs.length + zs.length ≤ sizeLine ∧ ∀ p, H p = none → p ≠ sysModules → Q (.ref p) (upd H p (.lst (xs ++ zs)))
theorem op_catB : OpR X (binaryOp .Add) (rCatB X.K) := by
  intro pins s σ H x y v u Q I rx ry h
  obtain ⟨l, b, xs, zs, rfl, rfl, hx, hy, hz, q⟩ := h
  cases rx
  cases ry
  obtain ⟨its, r, ⟨o, n, ho, hc, hd, ht⟩, _⟩ := I.list hx
  obtain ⟨its2, r2, ⟨o2, n2, ho2, hc2, hd2, ht2⟩, _⟩ := I.list hy
  have e1 := r.length
  have e2 := r2.length
  obtain ⟨oc, od, dt, sl⟩ := o
  obtain ⟨oc2, od2, dt2, sl2⟩ := o2
  simp only at hc hd ht hc2 hd2 ht2
  subst hc hd ht hc2 hd2 ht2
  have ea : its.toArray ++ its2.toArray = (its ++ its2).toArray := by simp
  refine concat_meets ⟨_, ho, rfl⟩ ⟨_, ho2, rfl⟩ noFill_list_add seq_list_add PySem.F.slot_list_add PySem.F.entry_list_add
    (PySem.F.args_list_add_2 _ _) (list_addW l b its.toArray its2.toArray n n2 none none sl sl2 (by simp only [List.size_toArray]; omega)) ⟨ho, ho2, ?_⟩
  rw [ea]
  exact ⟨.ref _, _, I.lnew (t' := s.toks) (r.append r2) (by rw [List.length_append]; omega), rfl, q _ I.fresh (Nat.ne_of_gt I.big)⟩
end

def tDNewB : TE := fun _ H Q => ∀ p, H p = none → p ≠ sysModules → Q (.ref p) (upd H p (.dK []))
theorem pe_dnewB {X : Cx} {pos : Pos} : PE X (.Dict [] [] pos) tDNewB := ⟨fun pins s σ H Q I h =>
  wpAny_Dict_empty ⟨.ref s.heap.objs.size, _, I.laid (a := s.heap.objs.size) (o := .dK []) (t' := s.toks) (fun _ _ q => Heap.get?_push_of_some _ q) (Nat.le_refl _) (dk_empty s.heap I.big), rfl, h _ (I.hok.fresh (Nat.le_refl _)) (Nat.ne_of_gt I.big)⟩⟩
theorem atI_all {xs : List V} {p : V → Prop} (h : ∀ v ∈ xs, p v) {z : Int} (h0 : 0 ≤ z) (h1 : z < xs.length) : ∃ v, atI xs z = some v ∧ p v := by
  have e : z = ((z.toNat : Nat) : Int) := by omega
  have hl : z.toNat < xs.length := by omega
  refine ⟨xs[z.toNat], ?_, h _ (List.getElem_mem hl)⟩
  exact (congrArg (atI xs) e).trans (atI_nat (List.getElem?_eq_getElem hl))
theorem Fits.mono {n m L M : Nat} {d : PyData} (h : Fits n L d) (h1 : n ≤ m) (h2 : L ≤ M) : Fits m M d := ⟨h.1, Nat.le_trans h.2.1 h1, Nat.le_trans h.2.2 h2⟩
theorem small_log' {v : Int} (h : v.natAbs < 2 ^ 1900) : v.natAbs.log2 < 1920 := by
  by_cases e : v.natAbs = 0
  · rw [e]; decide
  · have := (Nat.log2_lt e).mpr h
    omega
theorem fit_int {v : Int} (h : v.natAbs < 2 ^ 1900) : Fits 0 1921 (.int v) := ⟨decide_eq_true (small_log' h), Nat.le_refl _, int_text_len_1921 (small_log' h)⟩
theorem fit_bool (b : Bool) : Fits 0 1921 (.bool b) := ⟨rfl, Nat.le_refl _, by cases b <;> decide⟩
theorem fit_none : Fits 0 1921 .none := ⟨rfl, Nat.le_refl _, by decide⟩
theorem fit_emp : Fits 1 1921 (.dict []) := ⟨rfl, by decide, by decide⟩
theorem fitAll {n L : Nat} : ∀ {ds : List PyData}, (∀ d ∈ ds, Fits n L d) → PyData.showableAll ds = true ∧ PyData.depthAll ds ≤ n ∧ ((PyData.shownAll ds).map (·.length)).sum ≤ L * ds.length ∧ (PyData.shownAll ds).length = ds.length
  | [], _ => ⟨rfl, Nat.zero_le _, Nat.le_refl _, rfl⟩
  | d :: r, h => by
    obtain ⟨a, b, c, e⟩ := fitAll (ds := r) fun v hv => h v (List.mem_cons_of_mem _ hv)
    obtain ⟨f1, f2, f3⟩ := h d List.mem_cons_self
    refine ⟨?_, ?_, ?_, ?_⟩
    · show (d.showable && PyData.showableAll r) = true
      rw [f1, a]; rfl
    · show max d.depth (PyData.depthAll r) ≤ n
      omega
    · show d.shown.length + ((PyData.shownAll r).map (·.length)).sum ≤ L * (r.length + 1)
      rw [Nat.mul_add]
      omega
    · show (PyData.shownAll r).length + 1 = r.length + 1
      omega
theorem fit_list {n L m : Nat} {ds : List PyData} (h : ∀ d ∈ ds, Fits n L d) (hl : ds.length ≤ m) : Fits (n + 1) (m * (L + 2) + 3) (.list ds) := by
  obtain ⟨a, b, c, e⟩ := fitAll h
  refine ⟨a, Nat.succ_le_succ b, ?_⟩
  show (listText (PyData.shownAll ds)).length ≤ _
  have := listText_len_le (PyData.shownAll ds)
  have h1 : L * ds.length + 2 * ds.length ≤ m * (L + 2) := by
    rw [← Nat.add_mul, Nat.mul_comm]
    exact Nat.mul_le_mul_right _ hl
  omega
theorem fit_tup {n L m : Nat} {ds : List PyData} (h : ∀ d ∈ ds, Fits n L d) (hl : ds.length ≤ m) : Fits (n + 1) (m * (L + 2) + 3) (.tuple ds) := by
  obtain ⟨a, b, c, e⟩ := fitAll h
  refine ⟨a, Nat.succ_le_succ b, ?_⟩
  show (tupleText (PyData.shownAll ds)).length ≤ _
  have := tupleText_len_le (PyData.shownAll ds)
  have h1 : L * ds.length + 2 * ds.length ≤ m * (L + 2) := by
    rw [← Nat.add_mul, Nat.mul_comm]
    exact Nat.mul_le_mul_right _ hl
  omega
theorem fit_ints {ns : List Int} (h : ∀ v ∈ ns, v.natAbs < 2 ^ 1900) : ∀ d ∈ ns.map PyData.int, Fits 0 1921 d := fun d hd => by
  obtain ⟨v, hv, rfl⟩ := List.mem_map.mp hd
  exact fit_int (h v hv)
theorem hasDict_app : ∀ xs ys : List PyData, PyData.hasDictAll (xs ++ ys) = (PyData.hasDictAll xs || PyData.hasDictAll ys)
  | [], _ => rfl
  | d :: r, ys => by
    show (d.hasDict || PyData.hasDictAll (r ++ ys)) = (d.hasDict || PyData.hasDictAll r || PyData.hasDictAll ys)
    rw [hasDict_app r ys, Bool.or_assoc]
end SH

/-! SH10: lists of pairs of ints (tuples), and comprehensions over them. -/
namespace SH
open PySem PySem.Spec PyProof.Rows L2

theorem lt1900 {n : Nat} (h : n < 2 ^ 128) : n < 2 ^ 1900 := Nat.lt_of_lt_of_le h (Nat.pow_le_pow_right (by decide) (by decide))
theorem noD {d : PyData} {as : List Addr} (h : d.hasDict = false) : d.hasDict = true → sysModules ∉ as := fun h' => by rw [h] at h'; cases h'
inductive Prs (H : Hp) : List V → List (Int × Int) → Prop
  | nil : Prs H [] []
  | cons {r : Addr} {s l : Int} {vs : List V} {os : List (Int × Int)} : H r = some (.tup [.int s, .int l]) → Prs H vs os → Prs H (.ref r :: vs) ((s, l) :: os)
theorem Prs.len {H : Hp} : ∀ {vs : List V} {os : List (Int × Int)}, Prs H vs os → vs.length = os.length
  | _, _, .nil => rfl
  | _, _, .cons _ h => congrArg (· + 1) h.len
theorem Prs.at {H : Hp} : ∀ {vs : List V} {os : List (Int × Int)} {i : Nat} {x : V}, Prs H vs os → vs[i]? = some x → ∃ r s l, x = .ref r ∧ os[i]? = some (s, l) ∧ H r = some (.tup [.int s, .int l])
  | _, _, _, _, .nil, e => by simp at e
  | _, _, 0, _, .cons h _, e => by simp at e; subst e; exact ⟨_, _, _, rfl, rfl, h⟩
  | _, _, i + 1, x, .cons _ t, e => by
    obtain ⟨r, s, l, h1, h2, h3⟩ := Prs.at (i := i) (x := x) t (by simpa using e)
    exact ⟨r, s, l, h1, by simpa using h2, h3⟩
theorem Prs.imp {H H' : Hp} : ∀ {vs : List V} {os : List (Int × Int)}, Prs H vs os → (∀ r o, H r = some (.tup o) → H' r = some (.tup o)) → Prs H' vs os
  | _, _, .nil, _ => .nil
  | _, _, .cons h t, k => .cons (k _ _ h) (t.imp k)
theorem Prs.same {H H' : Hp} {vs : List V} {os : List (Int × Int)} (h : Prs H vs os) (s : Same H H') : Prs H' vs os := h.imp fun r o e => s _ _ e
theorem Prs.but {H H' : Hp} {g : Addr} {xs : List V} {vs : List V} {os : List (Int × Int)} (h : Prs H vs os) (s : SameBut g H H') (hg : H g = some (.lst xs)) : Prs H' vs os :=
  h.imp fun r o e => s _ _ e (ne_of e hg (by intro z; cases z))
theorem Prs.upd {H : Hp} {g : Addr} {xs : List V} {o : HO} {vs : List V} {os : List (Int × Int)} (h : Prs H vs os) (hg : H g = some (.lst xs)) : Prs (L2.upd H g o) vs os :=
  h.imp fun r q e => by rw [upd_ne (ne_of e hg (by intro z; cases z))]; exact e
theorem Prs.append {H : Hp} : ∀ {vs ws : List V} {os qs : List (Int × Int)}, Prs H vs os → Prs H ws qs → Prs H (vs ++ ws) (os ++ qs)
  | _, _, _, _, .nil, h => h
  | _, _, _, _, .cons h1 h2, h => .cons h1 (h2.append h)
theorem Prs.set {H : Hp} {r : Addr} {s l : Int} (hr : H r = some (.tup [.int s, .int l])) : ∀ {vs : List V} {os : List (Int × Int)} (i : Nat), Prs H vs os → Prs H (vs.set i (.ref r)) (os.set i (s, l))
  | _, _, _, .nil => .nil
  | _, _, 0, .cons _ t => .cons hr t
  | _, _, i + 1, .cons h t => .cons h (Prs.set hr i t)
theorem Prs.take {H : Hp} : ∀ {vs : List V} {os : List (Int × Int)} (i : Nat), Prs H vs os → Prs H (vs.take i) (os.take i)
  | _, _, 0, _ => .nil
  | _, _, i + 1, .nil => .nil
  | _, _, i + 1, .cons h t => .cons h (Prs.take i t)
/-- as data -/
def pD (o : Int × Int) : PyData := .tuple [.int o.1, .int o.2]
theorem Prs.dx {H : Hp} : ∀ {vs : List V} {os : List (Int × Int)}, Prs H vs os → ∃ as, DxAll H vs (os.map pD) as
  | _, _, .nil => ⟨_, .nil⟩
  | _, _, .cons (s := s) (l := l) h t => by
    obtain ⟨as, d⟩ := t.dx
    exact ⟨_, .cons (.tup h (dx_ints [s, l])) d⟩
theorem Prs.dp {K : PySem.W.Frag} {H : Hp} : ∀ {vs : List V} {os : List (Int × Int)}, Prs H vs os → DpAll K H vs (os.map pD)
  | _, _, .nil => .nil
  | _, _, .cons (s := s) (l := l) h t => .cons (.tup (SqT.of h) (dp_ints [s, l])) t.dp
theorem fit_pD {o : Int × Int} (h1 : o.1.natAbs < 2 ^ 1900) (h2 : o.2.natAbs < 2 ^ 1900) : Fits 1 3849 (pD o) :=
  fit_tup (m := 2) (L := 1921) (fun d hd => by
    simp only [List.mem_cons, List.not_mem_nil, or_false] at hd
    rcases hd with rfl | rfl
    · exact fit_int h1
    · exact fit_int h2) (Nat.le_refl _)
theorem noDict_pD : ∀ os : List (Int × Int), PyData.hasDictAll (os.map pD) = false
  | [] => rfl
  | o :: r => by
    show ((pD o).hasDict || PyData.hasDictAll (r.map pD)) = false
    rw [noDict_pD r]
    rfl
theorem lay_pD : ∀ os : List (Int × Int), PyData.canLayAll0 (os.map pD) = true
  | [] => rfl
  | o :: r => by
    show ((pD o).canLay0 && PyData.canLayAll0 (r.map pD)) = true
    rw [lay_pD r]
    rfl
theorem depth_pD : ∀ os : List (Int × Int), PyData.depthAll (os.map pD) ≤ 1
  | [] => by decide
  | o :: r => by
    show max (pD o).depth (PyData.depthAll (r.map pD)) ≤ 1
    have h1 : (pD o).depth = 1 := rfl
    have := depth_pD r
    omega
theorem shaped_pD (os : List (Int × Int)) : SeqAt.shaped (.list (os.map pD)) = true := by
  unfold SeqAt.shaped
  have d : (PyData.list (os.map pD)).depth ≤ 2 := Nat.succ_le_succ (depth_pD os)
  show (PyData.canLayAll0 (os.map pD) && decide ((PyData.list (os.map pD)).depth ≤ 64)) = true
  rw [lay_pD, decide_eq_true (by omega)]
  rfl
section
variable {K : PySem.W.Frag} {tt : TT} {te : TE} {vs : List Nat} {σ : L2.St} {H : Hp} {D : Addr} {Qd : Hp → Prop}
/-- [.. for a, b in pairs ..] -/
theorem lcPn {a : Addr} {xs : List V} {os : List (Int × Int)} {j1 j2 : Nat} (keep : Nat → Bool) (val : Nat → V) (ha : H a = some (.lst xs)) (hp : Prs H xs os) (hD : H D = none) (hn : os.length < 100000)
    (hw : ∀ x y, wipe (((wipe σ vs).set j1 (some x)).set j2 (some y)) vs = wipe σ vs)
    (ht : ∀ i s l H2 (Q : Bool → Hp → Prop), os[i]? = some (s, l) → Same H H2 → (∀ H3, Same H2 H3 → Q (keep i) H3) → tt (((wipe σ vs).set j1 (some (.int s))).set j2 (some (.int l))) H2 Q)
    (he : ∀ i s l H2 (Q : VK), os[i]? = some (s, l) → keep i = true → Same H H2 → (∀ H3, Same H2 H3 → Q (val i) H3) → te (((wipe σ vs).set j1 (some (.int s))).set j2 (some (.int l))) H2 Q)
    (hd : ∀ H', Same H H' → H' D = some (.lst (gives os.length keep val)) → Qd H') :
    ∃ W : Nat → Nat → Hp → Prop, (∃ m, W 0 m (upd H D (.lst []))) ∧ ∀ i m H, W i m H →
      ((Itl K a).stop i H ∧ Qd H) ∨ ((Itl K a).go i H ∧ ∃ Nx : Hp → Prop, (∀ H', Nx H' → ∃ m', m' < m ∧ W (i + 1) m' H') ∧
        ∀ x H', (Itl K a).yld i H x H' → gTup K 2 (gCons (gName j1) (gCons (gName j2) gNil)) x (wipe σ vs) H' fun σ2 H2 => wipe σ2 vs = wipe σ vs ∧ tt σ2 H2 fun b H3 =>
          if b = true then te σ2 H3 fun y H4 => ∃ acc, H4 D = some (.lst acc) ∧ acc.length < sizeLine ∧ Nx (upd H4 D (.lst (acc ++ [y]))) else Nx H3) := by
  have hl := hp.len
  refine lc_list (xs := xs) (fun i H2 => Same H H2 ∧ H2 D = some (.lst (gives i keep val))) ⟨Same.new hD, upd_same⟩
    (fun i H2 hi e => SqL.of (e.1 _ _ ha)) (fun i x H2 hi e => ?_) (fun H2 e => hd H2 e.1 (by rw [← hl]; exact e.2))
  obtain ⟨r, s, l, rfl, ho, hr⟩ := hp.at hi
  refine ⟨r, _, rfl, SqT.of (e.1 _ _ hr), rfl, _, _, rfl, _, _, rfl, rfl, hw _ _, ?_⟩
  have il : i < xs.length := (List.getElem?_eq_some_iff.mp hi).1
  exact lc_turnS hD (by omega) hn e.1 e.2 (fun Q q => ht i s l H2 Q ho e.1 q) (fun H3 s3 Q k q => he i s l H3 Q ho k (e.1.trans s3) q)
end
end SH

/-! SH11: len(set(xs)) with repeats; lists of lists of ints. -/
namespace SH
open PySem PySem.Spec PyProof.Rows L2

theorem met_ok (val : Nat → Int) : ∀ n, (PyProof.Rows.firstMet val n).Nodup ∧ ∀ k, k ∈ PyProof.Rows.firstMet val n ↔ k ∈ (List.range n).map val
  | 0 => ⟨List.nodup_nil, fun k => Iff.rfl⟩
  | n + 1 => by
    obtain ⟨a, b⟩ := met_ok val n
    rw [PyProof.Rows.firstMet_succ]
    have e : ∀ (d : List Int) (v : Int), step_dedup d v = if (d.any (· == v)) = true then d else d ++ [v] := fun d v => rfl
    rw [e]
    by_cases c : (PyProof.Rows.firstMet val n).any (· == val n) = true
    · rw [if_pos c]
      obtain ⟨y, hy, ey⟩ := List.any_eq_true.mp c
      have ey2 : y = val n := eq_of_beq ey
      refine ⟨a, fun k => ?_⟩
      rw [b, List.range_succ, List.map_append, List.mem_append]
      constructor
      · exact .inl
      · rintro (h | h)
        · exact h
        · have : k = val n := by simpa using h
          rw [this, ← ey2]
          exact (b y).mp hy
    · rw [if_neg c]
      have no : val n ∉ PyProof.Rows.firstMet val n := fun h => c (List.any_eq_true.mpr ⟨_, h, by simp⟩)
      refine ⟨?_, fun k => ?_⟩
      · rw [List.nodup_append]
        refine ⟨a, by simp, fun x hx y hy => ?_⟩
        rw [List.mem_singleton.mp hy]
        intro z
        exact no (z ▸ hx)
      · rw [List.mem_append, b, List.range_succ, List.map_append, List.mem_append]
        simp
theorem met_all (ns : List Int) : ∀ k, k ∈ (List.range ns.length).map (fun i => ns.getD i 0) ↔ k ∈ ns := fun k => by
  rw [List.mem_map]
  constructor
  · rintro ⟨i, hi, rfl⟩
    have := List.mem_range.mp hi
    rw [List.getD_eq_getElem?_getD, List.getElem?_eq_getElem this]
    exact List.getElem_mem this
  · intro h
    obtain ⟨i, hi, rfl⟩ := List.getElem_of_mem h
    exact ⟨i, List.mem_range.mpr hi, by rw [List.getD_eq_getElem?_getD, List.getElem?_eq_getElem hi]; rfl⟩
def tLenSetG (K : PySem.W.Frag) (ta : TE) : TE := fun σ H Q => ta σ H fun x H1 => ∃ (l : Addr) (ns : List Int), x = .ref l ∧ SqL K H1 l (iv ns) ∧ ns.length ≤ 4000 ∧
  ∀ d : List Int, d.Nodup → (∀ k, k ∈ d ↔ k ∈ ns) → Q (.int (d.length : Nat)) H1
theorem pe_lenSetG {X : Cx} {a : Expr} {ta : TE} {p p2 q pos : Pos} (hg : Gl X "len") (hm : X.mg "len" = none) (hg2 : Gl X "set") (hm2 : X.mg "set" = none) (ha : PE X a ta) (hc : X.calm = true := by rfl)
    (na : starEach [a] X.env = (false, eval a X.env) :: starEach [] X.env := by rfl) : PE X (.Call (.Name "len" p) [.Call (.Name "set" p2) [a] [] q] [] pos) (tLenSetG X.K ta) := by
  refine ⟨fun pins s σ H Q I h => ?_⟩
  refine Call_ (ld_blt I hg hm boot_len ?_)
  refine PyProof.Rows.callWith_builtin1 (PyProof.Rows.args_cons ?_ rfl) rfl rfl
  refine Call_ (ld_blt I hg2 hm2 boot_set ?_)
  refine PyProof.Rows.callWith_type1 (PyProof.Rows.args_cons (thn (ha.run pins s σ H _ I h) fun v s1 ⟨x, H1, I1, r1, q1⟩ => PyProof.Rows.args_nil ?_) na) na rfl
  obtain ⟨l, ns, rfl, hq, hl, q1⟩ := q1
  cases r1
  obtain ⟨its, r, pl, hz⟩ := I1.list hq
  have hlen : its.toArray.size = ns.length := by rw [List.size_toArray, ← r.length, List.length_map]
  refine call_set_list (I1.ok.hd hc) pl.isList (by simpa using RZ.intsAre_vals r) (by rw [hlen]; unfold scanBound; omega) fun h' tk hS hk => ?_
  refine PyProof.Rows.args_nil ?_
  rw [hlen] at hS
  obtain ⟨m1, m2⟩ := met_ok (fun i => ns.getD i 0) ns.length
  have ml := PyProof.Rows.firstMet_length_le (fun i => ns.getD i 0) ns.length
  generalize PyProof.Rows.firstMet (fun i => ns.getD i 0) ns.length = d at *
  obtain ⟨o, es, ep, t, ho, hex, hd, _, _, _, hf, hn⟩ := hS
  have I2 : Inv X pins σ H1 { s1 with heap := h', toks := tk } := I1.kept fun b o e => hk b o (Heap.lt_size e) e
  exact call_len_set ho hex hd hf (by rw [hn] <;> omega) ⟨.int d.length, H1, I2.tok _, ⟨_, by rw [hn]⟩, q1 d m1 fun k => (m2 k).trans (met_all ns k)⟩

inductive Lsts (H : Hp) : List V → List (List Int) → Prop
  | nil : Lsts H [] []
  | cons {r : Addr} {L : List Int} {vs : List V} {Ls : List (List Int)} : H r = some (.lst (iv L)) → Lsts H vs Ls → Lsts H (.ref r :: vs) (L :: Ls)
theorem Lsts.len {H : Hp} : ∀ {vs : List V} {os : List (List Int)}, Lsts H vs os → vs.length = os.length
  | _, _, .nil => rfl
  | _, _, .cons _ h => congrArg (· + 1) h.len
theorem Lsts.at {H : Hp} : ∀ {vs : List V} {os : List (List Int)} {i : Nat} {x : V}, Lsts H vs os → vs[i]? = some x → ∃ r L, x = .ref r ∧ os[i]? = some L ∧ H r = some (.lst (iv L))
  | _, _, _, _, .nil, e => by simp at e
  | _, _, 0, _, .cons h _, e => by simp at e; subst e; exact ⟨_, _, rfl, rfl, h⟩
  | _, _, i + 1, x, .cons _ t, e => by
    obtain ⟨r, L, h1, h2, h3⟩ := Lsts.at (i := i) (x := x) t (by simpa using e)
    exact ⟨r, L, h1, by simpa using h2, h3⟩
theorem Lsts.same {H H' : Hp} : ∀ {vs : List V} {os : List (List Int)}, Lsts H vs os → Same H H' → Lsts H' vs os
  | _, _, .nil, _ => .nil
  | _, _, .cons h t, k => .cons (k _ _ h) (t.same k)
theorem Lsts.upd {H : Hp} {D : Addr} {o : HO} : ∀ {vs : List V} {os : List (List Int)}, Lsts H vs os → V.ref D ∉ vs → Lsts (L2.upd H D o) vs os
  | _, _, .nil, _ => .nil
  | _, _, .cons (r := r) h t, n => .cons (by rw [upd_ne (fun e => n (by rw [e]; exact List.mem_cons_self))]; exact h) (t.upd fun m => n (List.mem_cons_of_mem _ m))
theorem Lsts.append {H : Hp} : ∀ {vs ws : List V} {os qs : List (List Int)}, Lsts H vs os → Lsts H ws qs → Lsts H (vs ++ ws) (os ++ qs)
  | _, _, _, _, .nil, h => h
  | _, _, _, _, .cons h1 h2, h => .cons h1 (h2.append h)
end SH

/-! SH12: set(xs) of a list of any length, few different members. -/
namespace SH
open PySem PySem.Spec PyProof.Rows L2
theorem nodup_small : ∀ (D : Nat) {ks : List Int}, ks.Nodup → (∀ k ∈ ks, 0 ≤ k ∧ k < D) → ks.length ≤ D
  | 0, ks, _, b => by
    cases ks with
    | nil => exact Nat.le_refl _
    | cons x r => have := b x List.mem_cons_self; omega
  | D + 1, ks, nd, b => by
    have e := nodup_small D (ks := ks.erase (D : Int)) (nd.erase _) fun k hk => by
      have h1 := b k (List.mem_of_mem_erase hk)
      have h2 : k ≠ (D : Int) := fun e => by
        rw [e] at hk
        exact (List.Nodup.not_mem_erase nd) hk
      omega
    have := List.length_erase_le (a := (D : Int)) (l := ks)
    by_cases c : (D : Int) ∈ ks
    · rw [List.length_erase_of_mem c] at e
      omega
    · rw [List.erase_of_not_mem c] at e
      omega
theorem setR_few {w : World} {h : Heap} {a : Addr} {S : Int → Bool} {n D : Nat} (R : SetR w h a S n) (b : ∀ k, S k = true → 0 ≤ k ∧ k < D) : n ≤ D := by
  obtain ⟨o, es, ep, t, _, _, _, _, nd, mem, _, _, e, _⟩ := R
  have := nodup_small D nd fun k hk => b k ((mem k).mpr hk)
  rw [List.length_map, Array.length_toList] at this
  omega
section
variable {P : Program} {w : World} {A : Around} {E : Value → Shared → Prop} {s : Shared}
theorem set_update_few {I : Addr} {fp wr : List Addr} {G : Array GenState → Array GenState → Prop} {n : Nat} {Pv : Nat → Value → Prop} {St : Nat → Shared → Prop} {R : Result → Shared → Prop}
    (W : WalksS P w A.in1 I fp wr G n Pv St) (S : Addr) (nf : S ∉ fp) (ns : List Int) (hn : n = ns.length) (few : ∀ v ∈ ns, 0 ≤ v ∧ v < (1000 : Nat)) (hval : ∀ i v, Pv i v → ∃ k t, ns[i]? = some k ∧ v = .int k t) :
    ∀ (left i : Nat) (s : Shared), n - i = left → i ≤ n → St i s → (∃ c, SetR w s.heap S (fun j => decide (j ∈ ns.take i)) c) →
      (∀ s' c, Moved (S :: wr) G s s' → c ≤ 1000 → SetR w s'.heap S (fun j => decide (j ∈ ns)) c → R (.ok (.ret .none)) s') →
      codeAny (model P w) A (.builtin "set.update.loop" ⟨[.ref S, .ref I], []⟩) R s := by
  have nw : S ∉ wr := fun h => nf (W.sub _ h)
  have up : ∀ b ∈ wr, b ∈ S :: wr := fun b hb => List.mem_cons_of_mem _ hb
  intro left
  induction left with
  | zero =>
    intro i s hk hi st ⟨c, hS⟩ hR
    obtain rfl : i = n := by omega
    refine codeAny_builtin F.entry_set_update_loop ?_
    rw [Around.under_plainId F.plain_set_update_loop _]
    show wpAny _ A.in1 (pyNext (.ref I) >>= _) _ _ s
    refine wpAny_bind (W.done s _ _ st fun s' m => ?_)
    show wpAny _ A.in1 (ret Value.none) _ _ s'
    rw [List.take_of_length_le (by omega)] at hS
    exact wpAny_pure (hR s' c (m.mono up) (setR_few hS fun k hk => few k (of_decide_eq_true hk)) (hS.at fun o e => m.heap S o nw e))
  | succ left ih =>
    intro i s hk hi st ⟨c, hS⟩ hR
    have lt : i < n := by omega
    refine codeAny_builtin F.entry_set_update_loop ?_
    rw [Around.under_plainId F.plain_set_update_loop _]
    show wpAny _ A.in1 (pyNext (.ref I) >>= _) _ _ s
    refine wpAny_bind (W.item i s _ _ lt st fun v s' pv st' m => ?_)
    obtain ⟨z, t, hz, rfl⟩ := hval i v pv
    have S1 : SetR w s'.heap S (fun j => decide (j ∈ ns.take i)) c := hS.at fun o e => m.heap S o nw e
    have cb : c ≤ 1000 := setR_few S1 fun k hk => few k (List.mem_of_mem_take (of_decide_eq_true hk))
    show wpAny _ A.in1 (holding [Value.int z t] (setAdd S (.int z t)) >>= _) _ _ s'
    refine wpAny_bind (wpAny_holding ?_)
    unfold setAdd
    refine wpAny_holding ?_
    refine wpAny_bind ((intKind P w).pyHash (k := z) (intKind_is _ _ _ _) ?_)
    refine setR_add_hashed (s := { s' with toks := s'.toks + 1 }) S1 (by have : scanBound = 4096 := rfl; omega) fun h' oth S2 => ?_
    have S3 : SetR w h' S (fun j => decide (j ∈ ns.take (i + 1))) (if decide (z ∈ ns.take i) = true then c else c + 1) := S2.congr fun j => by
      rw [List.take_add_one, hz]
      simp [List.mem_append]
    refine wpAny_pure ⟨plainId_quiet F.plain_set_update_loop _, ih (i + 1) _ (by omega) lt (W.frame _ s' _ _ st' (Nat.le_succ _) fun b hb o e => ?_) ⟨_, S3⟩ fun s'' c2 m2 c2b SS => ?_⟩
    · rw [oth.2 b (fun h : b = S => nf (by rw [← h]; exact hb))]; exact e
    · refine hR s'' c2 (Moved.trans W.gtrans ((m.mono up).then_heap (Nat.le_succ _) fun b o hb e => ?_) m2) c2b SS
      rw [oth.2 b (fun h : b = S => hb (by rw [h]; exact List.mem_cons_self))]; exact e
set_option maxHeartbeats 3200000 in
theorem set_of_few {l : Addr} {xs : Array Value} (ns : List Int) {Q : Value → Shared → Prop} (calm : A.handled = none)
    (isl : s.heap.IsList l xs) (hin : IntsAre xs.toList ns) (few : ∀ v ∈ ns, 0 ≤ v ∧ v < (1000 : Nat))
    (h : ∀ (g : Heap) (tk c : Nat), SetR w g s.heap.objs.size (fun j => decide (j ∈ ns)) c → c ≤ 1000 →
      (∀ b o, s.heap.get? b = some o → g.get? b = some o) →
      Q (.ref s.heap.objs.size) { s with heap := g, toks := tk }) :
    wpAny (model P w) A (call (.type "set") [.ref l]) Q E s := by
  have size : xs.size = ns.length := by rw [← Array.length_toList]; exact IntsAre.length hin
  obtain ⟨_, _, m1⟩ := F.called_set.mro
  have m2 := F.called_set.made
  have m3 := F.called_set.sub
  refine wpAny_call (codeAny_of_tree (show wpAny _ _ (callAny (.type "set") _) _ _ _ from ?_))
  refine wpAny_pure ⟨Code.quiet_builtin _ (by decide +kernel),
    codeAny_builtin F.entry_type_call ?_⟩
  rw [Around.under_plain (weight_type_call_type "set"
    [.ref l] []) rfl]
  have m4 := F.called_set.notType
  have m5 := F.called_set.canCreate
  have m6 := F.typeCall_set_1 (.ref l)
  repeat (any_goals (first | wp_step | assumption))
  refine codeAny_mono (code_set_led1 (.ref l) (E := E)
    (Q₁ := fun ob t => ob = .ref s.heap.objs.size ∧ t = { s with heap := s.heap.push (setO0 w) }) ⟨rfl, rfl⟩)
    fun res t made => ?_
  cases res with
  | error e => exact made
  | ok fl =>
  cases fl with
  | ret ob =>
    obtain ⟨rfl, rfl⟩ := made
    have at0 : (s.heap.push (setO0 w)).get? s.heap.objs.size = some (setO0 w) := Heap.get?_push_size _ rfl
    have ty0 : Shared.TypeIs { s with heap := s.heap.push (setO0 w) } (.ref s.heap.objs.size) "set" := ⟨_, at0, rfl⟩
    have m7 := F.called_set.init.lookup
    have m8 := F.called_set.init.bind (.ref s.heap.objs.size)
    repeat (any_goals (first | wp_step | assumption))
    refine codeAny_mono (codeAny_call_builtin (R := wants (fun r t => r = .none ∧ ∃ g tk c, t = { s with heap := g, toks := tk } ∧
        SetR w g s.heap.objs.size (fun j => decide (j ∈ ns)) c ∧ c ≤ 1000 ∧ ∀ b o, s.heap.get? b = some o → g.get? b = some o) E)
      F.called_set.init.plain F.entry_set_init (check_set_init_1 ty0 ?_)) fun res2 t2 done => ?_
    · obtain ⟨ol, lk, cl, en, dl⟩ := isl
      obtain ⟨c1, d1, x1, sl1⟩ := ol
      simp only at cl dl
      subst cl dl
      have lk' : (s.heap.push (setO0 w)).get? l = some { cls := .type "list", dict := d1, data := .seq xs en, slots := sl1 } :=
        Heap.get?_push_of_some _ lk
      have u1 := F.sub_list_set
      have u2 := F.sub_list_frozenset
      have u3 : (Value.type "list" == Value.type "dict") = false := by decide
      have isl1 : (s.heap.push (setO0 w)).IsList l xs := ⟨_, lk', rfl, en, rfl⟩
      unfold Builtin.«set.__init__» noKeywords
      unfold Builtin.Frozenset.updateFrom
      generalize iterE : pyIter = itf
      wp_walk
      subst iterE
      refine wpAny_pyIter_list isl1 (wpAny_bind (wpAny_runValue ?_))
      have lt : l < s.heap.objs.size := Heap.lt_size lk
      have calm3 : A.in1.in1.in1.handled = none := by simp [calm]
      have sz : (s.heap.push (setO0 w)).objs.size = s.heap.objs.size + 1 := Heap.size_push ..
      have ne1 : l ≠ (s.heap.push (setO0 w)).objs.size := by rw [sz]; exact Nat.ne_of_lt (Nat.lt_succ_of_lt lt)
      have ne2 : s.heap.objs.size ∉ [(s.heap.push (setO0 w)).objs.size, l] := by
        rw [sz]
        simp only [List.mem_cons, List.not_mem_nil, or_false, not_or]
        exact ⟨Nat.ne_of_lt (Nat.lt_succ_self _), Ne.symm (Nat.ne_of_lt lt)⟩
      have vals : ∀ (i : Nat) (v : Value), xs[i]? = some v → ∃ k t, ns[i]? = some k ∧ v = .int k t := fun i v e => by
        have il : i < ns.length := by rw [← size]; exact (Array.getElem?_eq_some_iff.mp e).1
        obtain ⟨t, et⟩ := IntsAre.int_at hin i v (by rw [Array.getElem?_toList]; exact e)
        refine ⟨ns.getD i 0, t, ?_, et⟩
        rw [List.getD_eq_getElem?_getD, List.getElem?_eq_getElem il]
        rfl
      refine set_update_few ((Walks.list calm3 _ l ne1 xs).toS) s.heap.objs.size ne2 ns size few vals (xs.size - 0) 0 _ (by omega)
        (Nat.zero_le _) ⟨⟨_, Heap.get?_push_size _ rfl, rfl, rfl⟩, isl1.push _⟩ ⟨0, ?_⟩ ?_
      · exact setR_new_at (Heap.get?_push_of_some _ at0)
      · intro t c mv cl1 R
        obtain ⟨g, gens, drawn, tk, os⟩ := t
        obtain rfl : gens = s.gens := mv.gens
        obtain rfl : drawn = s.drawn := mv.drawn
        obtain rfl : os = s.os := mv.os
        refine wpAny_pure (show wpAny _ _ (ret Value.none) _ _ _ from ?_)
        refine wpAny_pure ⟨rfl, g, tk, c, rfl, R, cl1, fun b o e => mv.heap b o ?_ ?_⟩
        · have lb : b < s.heap.objs.size := Heap.lt_size e
          rw [sz]
          simp only [List.mem_cons, List.not_mem_nil, or_false, not_or]
          exact ⟨Nat.ne_of_lt lb, Nat.ne_of_lt (Nat.lt_succ_of_lt lb)⟩
        · exact Heap.get?_push_of_some _ (Heap.get?_push_of_some _ e)
    · cases res2 with
      | error e => exact done
      | ok fl2 =>
      cases fl2 with
      | ret r =>
        obtain ⟨rfl, g, tk, c, rfl, R, cl1, kp⟩ := done
        repeat (any_goals (first | wp_step | assumption))
        exact h _ _ _ R cl1 kp
      | _ => exact done.elim
  | _ => exact made.elim
end
/-- set(xs), few different members -/
def rSetFew (K : PySem.W.Frag) (w : World) : List V → Hp → VK → Prop := fun xs H Q => ∃ (l : Addr) (ns : List Int), xs = [.ref l] ∧ SqL K H l (iv ns) ∧ (∀ v ∈ ns, 0 ≤ v ∧ v < (1000 : Nat)) ∧
  ∀ a n, H a = none → n ≤ 1000 → Q (.ref a) (upd H a (SetO w a (fun j => decide (j ∈ ns)) n))
theorem cr_setFew {X : Cx} (hc : X.calm = true) : CallR X (.type "set") (rSetFew X.K X.w) := by
  intro pins s σ H xs us Q I r h
  obtain ⟨l, ns, rfl, hl, hf, q⟩ := h
  rw [Vals.ref1 r]
  obtain ⟨its, rv, pl, hz⟩ := I.list hl
  have hn : H s.heap.objs.size = none := I.hok.fresh (Nat.le_refl _)
  refine set_of_few (P := X.prog) (w := X.w) ns (I.ok.hd hc) pl.isList (by simpa using ints_of_vals rv) hf fun g tk c R cl kp => ?_
  exact ⟨.ref s.heap.objs.size, upd H s.heap.objs.size (SetO X.w s.heap.objs.size (fun j => decide (j ∈ ns)) c), I.laid (t' := tk) kp (Nat.le_refl _) (setO_new R), rfl, q _ c hn cl⟩
end SH

/-! SH13: d.update(d2) of dicts with keys that are ints or strings. -/
namespace SH
open PySem PySem.Spec PyProof.Rows L2
def rDUpdate : V → List V → Hp → VK → Prop := fun x vs H Q => ∃ (a b : Addr) (kvs more : List (Key × V)), x = .ref a ∧ vs = [.ref b] ∧ H a = some (.dK kvs) ∧ H b = some (.dK more) ∧ a ≠ b ∧ kvs.length + more.length ≤ sizeLine ∧ Q .non (upd H a (.dK (mergeK kvs more)))
theorem mtd_update {X : Cx} : MtR X "dict.update" rDUpdate := by
  intro pins s σ H x vs v us Q I rx rv h
  obtain ⟨a, b, kvs, more, rfl, rfl, ea, eb, ab, hl, q⟩ := h
  obtain rfl : v = Value.ref a := rx
  rw [Vals.ref1 rv]
  obtain ⟨z1, hd1, vs1, rel1, dd1⟩ := dk_of I.hok ea
  obtain ⟨z2, hd2, vs2, rel2, dd2⟩ := dk_of I.hok eb
  refine call_meetsIn PySem.F.slot_dict_update dd1.typeIs PySem.F.entry_dict_update (PySem.F.args_dict_update_2 _ _) (meets_dict_update (mixKind X.prog X.w) a b ab hd2)
    ⟨vs1, vs2, dd1, dd2, by rw [← rel1.length, ← rel2.length]; exact hl, fun h' dd' _ hs => ?_⟩
  have he : ∃ q, h'.get? a = some q := let ⟨q, _, _, hq, _⟩ := dd'; ⟨q, hq⟩
  have hlen : (mergeK kvs more).length ≤ sizeLine := Nat.le_trans (length_mergeK more kvs) (by omega)
  exact ⟨.non, _, d_write (t' := s.toks) I (by rw [ea]; exact True.intro) hs he (dk_new hlen hd1 (KV.merge rel2 rel1) dd'), rfl, q⟩
section
variable {X : Cx} {o : Expr} {to : TE} {e : Expr} {t : TA} {apos cpos : Pos}
theorem pe_dupdate (ho : PE X o to) (ha : PA X [e] t) (hbase : attributeBase o "update" X.env (eval o X.env) = eval o X.env := by rfl) (hline : (apos.endLine == cpos.line) = true := by rfl)
    (hfew : ((backTo cpos (starEach [e] X.env)).all (fun x => !x.1) && (backToKw cpos (keywordEach [] X.env)).all (fun x => x.1.isSome)
      && decide (([e] : List Expr).length + ([] : List Keyword).length + (if ([] : List Keyword).isEmpty then 0 else 1) < 30)) = true := by rfl)
    (hs : starEach [e] X.env = (false, eval e X.env) :: starEach [] X.env := by rfl) (hplain : (backTo cpos (starEach [] X.env)).any (·.1) = false := by rfl) :
    PE X (.Call (.Attribute o "update" apos) [e] [] cpos) (tBM X.K "dict" rDUpdate to t) :=
  pe_bm PySem.F.plainAttrs_dict PySem.F.slot_dict_update PySem.F.type_dict_update mtd_update ho ha hbase hfew hline hs hplain
end
end SH

/-! SH14: defs that raise, under empty guards; raise X('..'); except X. -/
namespace SH
open PySem PySem.Spec PyProof.Rows L2
section
variable {X : Cx} {CX : CXT} {k : Nat} {f : Addr} {fd : FuncData} {st : Stmt} {ps ks : List Str} {sp : Sp} {E : L2.St → XK} {x : Str} {p pos : Pos}
  {e : Expr} {es : List Expr} {t tk : TA} {kws : List Keyword}
theorem goS {pins : List (Addr × Obj)} {σ : L2.St} {H : Hp} {s : Shared} {Q : VK} {us : List Value} {vs : List V}
    (F : FnG X.prog X.w X.K X.mg X.base CX k f fd ps sp) (room : Room k X.A) (qt : Quiet X.A) (hb : Binds X.K fd ps []) (hx : PassesAt CX X σ (E σ))
    (I : Inv X pins σ H s) (r : Vals vs us) (h : sp vs H Q (E σ)) : wpAny (model X.prog X.w) X.A (call (.ref f) us) (EP X pins σ Q) X.xe s := by
  have hl : us.length = ps.length := by rw [← r.length]; exact F.arity _ _ _ _ h
  have b := hb s us I.kIn (by rw [List.append_nil]; exact hl)
  rw [List.append_nil] at b
  refine wpAny_call (codeAny_mono (F.go X.A X.stack s H ⟨us, []⟩ us vs Q (E σ) room qt I.env0 b r h) fun r s' hq => ?_)
  cases r with
  | error e => exact hx pins H s e s' I hq
  | ok fl =>
    cases fl with
    | ret u => exact I.after hq
    | next => exact False.elim hq
    | brk => exact False.elim hq
    | cont => exact False.elim hq
/-- f(e, ..), f a def that may raise: what is raised is wished for at the caller's slots -/
theorem pe_hasS (h : Has X.prog X.w X.K X.mg X.base CX k x st ps sp) (room : Room k X.A) (qt : Quiet X.A) (hg : Gl X x)
    (hx : ∀ σ, PassesAt CX X σ (E σ)) (ha : PA X (e :: es) t) (hdb : (x == ("__debug__" : Str)) = false := by decide)
    (he : starEach (e :: es) X.env = (false, eval e X.env) :: starEach es X.env := by rfl)
    (hpl : (backTo pos (starEach es X.env)).any (·.1) = false := by rfl) :
    PE X (.Call (.Name x p) (e :: es) [] pos) (tCallS sp E t) := by
  obtain ⟨f, fd, F, m, G, b⟩ := h
  refine ⟨fun pins s σ H Q I h => ?_⟩
  refine wpAny_Call_Name_kw (ld_glob I hg m ?_ hdb)
  refine PySem.W.callWith_K (h₀ := X.base) I.ok.mod.kin F.kp (thn (ha.run pos pins s σ H _ I h) fun us s1 ⟨vs, H1, I1, r, q⟩ => ⟨I1.kIn, ?_⟩) he hpl
  exact goS G room qt b (hx σ) I1 r q
end
section
variable {P : Program} {w : World} {K : PySem.W.Frag} {mg : Str → Option Value} {base : Heap}
/-- THE RULE for a def that may raise -/
theorem Has.ofX {x : Str} {st : Stmt} {N ps : List Str} {k : Nat} {sp : Sp} (at_ : At K mg x st)
    (S : FnScope N ps (defScope st)) (len : ∀ vs H Q E, sp vs H Q E → vs.length = ps.length)
    (bd : ∀ (kV doc pm : Value) (an : Option Addr) (cdv ct : Value) (us : List Value), us.length = ps.length →
      bindArgs (PySem.W.fnOf x x (defArgs st) (defBody st) (defScope st) .none kV doc pm an cdv ct) ⟨us, []⟩ = pure (ps.zip us))
    (walk : ∀ (f : Addr) (cdv : Value) (A : Around) (outer : List Env) (s : Shared) (H : Hp) (vs : List V) (Q : VK) (E : XK),
      Room k (A.deeper (envOfC x (defScope st) s.heap.objs.size f cdv)) →
      Quiet (A.deeper (envOfC x (defScope st) s.heap.objs.size f cdv)) → sp vs H Q E →
      ∃ t, PSs (cxOf (L2.CX P w) P w K mg base N x (defScope st) f cdv A outer s H E) (defBody st) t ∧
        t { nx := fun _ H' => Q .non H', rt := Q } (start N vs) H) :
    Has P w K mg base (L2.CX P w) (k + 1) x st ps sp := by
  obtain ⟨f, fd, F, m⟩ := at_
  exact ⟨f, fd, F, m, FnG.of F S len (walk f), F.binds bd⟩
end
/-- an own error class over ValueError, without own __init__, stands at the name x -/
structure Err (K : PySem.W.Frag) (mg : Str → Option Value) (x : Str) (C : Addr) : Prop where
  g : mg x = some (.ref C)
  q : PySem.W.excIn K C HandSPX.veTail "ValueError.__new__" = true
  k : PySem.W.keepIn K (.ref C) = true
  e : PySem.W.subIn K (.ref C) (.type "BaseException") = some true
  t : PySem.W.typeIn K (.ref C) = some (.type "type")
theorem ps_raiseE {X : Cx} {W : WX} {x m : Str} {C : Addr} {j : Nat} {p p2 pos pos' : Pos} (E : Err X.K X.mg x C) (hc : X.calm = true) (tk : Takes X W) (hg : Gl X x)
    (hdb : (x == ("__debug__" : Str)) = false := by decide) :
    PS X (.Raise (some (.Call (.Name x p) [.Constant (.str m) j p2] [] pos)) none pos') (fun _ σ H => W (.ref C) none σ H) :=
  ps_raise hc tk (pmk_own PySem.F.excBase_ValueError E.q E.g E.k (raises_own E.e E.t) hg hdb)
/-- an error of the class at C is what «except S» names, or not -/
structure Catch (K : PySem.W.Frag) (C S : Addr) (b : Bool) : Prop where
  is : PySem.W.exmOne K (.ref C) (.ref S) = some b
theorem Catch.of {K : PySem.W.Frag} {C S : Addr} {b : Bool} (h1 : PySem.W.subIn K (.ref S) (.type "BaseException") = some true) (h2 : PySem.W.isClsIn K S = true) (h3 : PySem.W.typeIn K (.ref S) = some (.type "type")) (h4 : PySem.W.subIn K (.ref C) (.ref S) = some b) : Catch K C S b := by
  refine ⟨?_⟩
  have e1 : (PySem.W.subIn K (.ref S) (.type "BaseException") == some true) = true := by rw [h1] <;> rfl
  have e2 : ((PySem.W.clsIn K S).isSome && PySem.W.typeIn K (.ref S) == some (.type "type")) = true := by
    have h2' : (PySem.W.clsIn K S).isSome = true := h2
    rw [h2', h3] <;> rfl
  show (if (PySem.W.subIn K (.ref S) (.type "BaseException") == some true) = true then (if ((PySem.W.clsIn K S).isSome && PySem.W.typeIn K (.ref S) == some (.type "type")) = true then PySem.W.subIn K (.ref C) (.ref S) else none) else none) = some b
  rw [if_pos e1, if_pos e2]
  exact h4
end SH

/-! SH15: sorted(pairs of ints, reverse=True). -/
namespace SH
open PySem PySem.Spec PyProof.Rows L2
section
variable {X : Cx}
def rSortedPOR (K : PySem.W.Frag) : List V → List V → Hp → VK → Prop := fun vs zs H Q => ∃ (a : Addr) (xs : List V) (k : V → Int × Int), vs = [V.ref a] ∧ zs = [.bl true] ∧ SqL K H a xs ∧ (∀ x ∈ xs, ∃ t, x = V.ref t ∧ H t = some (.tup [.int (k x).1, .int (k x).2])) ∧
  ∀ ys p, SrtO.Srtd (ltP k) ys → ys.Perm xs → H p = none → Q (.ref p) (upd H p (.lst ys.reverse))
theorem cr_sortedPOR : CallRK X (.builtin "sorted") [Str.ofString "reverse"] (rSortedPOR X.K) := by
  intro pins s σ H vs zs us ws Q I r rz h
  obtain ⟨a, xs, k, rfl, rfl, hs, hx, q⟩ := h
  obtain rfl := Vals.ref1 r
  obtain ⟨w1, rfl, e0⟩ := vals1 rz
  obtain rfl : w1 = Value.bool true := e0
  obtain ⟨its, rv, hl, hz⟩ := I.list hs
  obtain ⟨e1, e2⟩ := refs_back rv fun x m => by
    obtain ⟨t, e, _⟩ := hx x m
    exact ⟨t, e⟩
  have hp : ∀ v ∈ its, Srt.IsPair s.heap v (k (backV v)).1 (k (backV v)).2 := fun v hv => by
    obtain ⟨t, rfl⟩ := e2 v hv
    have hm : V.ref t ∈ xs := by rw [e1]; exact List.mem_map.mpr ⟨_, hv, rfl⟩
    obtain ⟨t', e, ht⟩ := hx _ hm
    cases e
    obtain ⟨_, its2, r2, o, ho, hc, n, hd⟩ := I.hok _ _ ht
    obtain ⟨u1, u2, rfl, ri, rj⟩ := vals2 r2
    obtain ⟨t1, rfl⟩ := ri
    obtain ⟨t2, rfl⟩ := rj
    exact ⟨t, o, t1, t2, n, rfl, ho, hc, hd⟩
  have zl : its.length ≤ sizeLine := by rw [← rv.length]; exact hz
  refine SrtR.sorted_ordK (b := true) (fun _ => rfl) (PyProof.Rows.args_sorted_rev _ _) (fun _ => PyProof.Rows.args_list_sort_rev _ _) (SrtO.swo_lex fun u => k (backV u)) hl.isList zl (fun h2 h₁ a' ho keep => SrtO.pairs_sortableO (by omega) (fun v hv => ?_) fun o e => ?_) fun out h1 h2 => ?_
  · obtain ⟨t, o, t1, t2, n, e3, ho', hc, hd⟩ := hp v hv
    exact ⟨t, o, t1, t2, n, e3, (keep _ _ ho').2, hc, hd⟩
  · have e' : some o = some (seqObj "list" its.toArray 0) := e.symm.trans ho
    cases e'
    exact fun z => by
      injection z with z3
      exact absurd z3 (by decide)
  have h2p : out.Perm its := h2.perm.trans (List.reverse_perm _)
  have h3 : ∀ u ∈ out, ∃ a, u = Value.ref a := fun u hu => e2 u (h2p.mem_iff.mp hu)
  have hb : (out.map backV).Perm xs := by
    rw [e1]
    exact h2p.map backV
  obtain ⟨ep, he'⟩ := PyProof.Rows.sortedAll_at s.heap its out.toArray.reverse
  have hlen : (out.map backV).reverse.length ≤ sizeLine := by
    rw [List.length_reverse, hb.length_eq]
    exact hz
  have er : (out.map backV).reverse = out.reverse.map backV := by rw [List.map_reverse]
  have h4 : ∀ u ∈ out.reverse, ∃ a, u = Value.ref a := fun u hu => h3 u (List.mem_reverse.mp hu)
  refine ⟨.ref _, upd H (s.heap.objs.size + 1) (.lst (out.map backV).reverse), I.laid (t' := s.toks) (fun _ _ => PyProof.Rows.sortedAll_old) (Nat.le_succ _) ⟨hlen, out.reverse, ep, ?_, ?_⟩, rfl, q _ _ (SrtO.srtd_map h1) hb (I.hok.fresh (Nat.le_succ _))⟩
  · rw [er]; exact vals_back h4
  · have e0 : out.reverse.toArray = out.toArray.reverse := by simp
    rw [e0]; exact he'
end
end SH

/-! SH16: comprehensions over ranges with a step. -/
namespace SH
open PySem PySem.Spec PyProof.Rows L2
theorem lc_rangeC {lo c : Int} {n : Nat} {g : TG} {tt : TT} {te : TE} {vs : List Nat} {σ : L2.St} {H1 : Hp} {D : Addr} {Qd : Hp → Prop} (Pv : Nat → Hp → Prop) (h0 : Pv 0 (upd H1 D (.lst [])))
    (hs : ∀ i H, i < n → Pv i H → g (.int (lo + (i : Nat) * c)) (wipe σ vs) H fun σ2 H2 => wipe σ2 vs = wipe σ vs ∧ tt σ2 H2 fun b H3 =>
      if b = true then te σ2 H3 fun y H4 => ∃ acc, H4 D = some (.lst acc) ∧ acc.length < sizeLine ∧ Pv (i + 1) (upd H4 D (.lst (acc ++ [y]))) else Pv (i + 1) H3) (hd : ∀ H, Pv n H → Qd H) :
    ∃ W : Nat → Nat → Hp → Prop, (∃ m, W 0 m (upd H1 D (.lst []))) ∧ ∀ i m H, W i m H →
      ((Itc lo c n).stop i H ∧ Qd H) ∨ ((Itc lo c n).go i H ∧ ∃ Nx : Hp → Prop, (∀ H', Nx H' → ∃ m', m' < m ∧ W (i + 1) m' H') ∧ ∀ x H', (Itc lo c n).yld i H x H' → g x (wipe σ vs) H' fun σ2 H2 => wipe σ2 vs = wipe σ vs ∧ tt σ2 H2 fun b H3 =>
        if b = true then te σ2 H3 fun y H4 => ∃ acc, H4 D = some (.lst acc) ∧ acc.length < sizeLine ∧ Nx (upd H4 D (.lst (acc ++ [y]))) else Nx H3) := by
  refine ⟨fun i m H => m = n - i ∧ i ≤ n ∧ Pv i H, ⟨n, by simp, Nat.zero_le _, h0⟩, ?_⟩
  rintro i m H ⟨rfl, hi, p⟩
  by_cases hlt : i < n
  · refine .inr ⟨hlt, Pv (i + 1), fun H' p' => ⟨n - (i + 1), by omega, rfl, hlt, p'⟩, fun x H' y => ?_⟩
    obtain ⟨e, y⟩ := y
    subst e y
    exact hs i _ hlt p
  · have e : i = n := by omega
    subst e
    exact .inl ⟨Nat.le_refl _, hd H p⟩
section
variable {tt : TT} {te : TE} {vs : List Nat} {σ : L2.St} {H : Hp} {D : Addr} {Qd : Hp → Prop}
theorem lcCn {lo c : Int} {n j : Nat} (keep : Nat → Bool) (val : Nat → V) (hD : H D = none) (hn : n < 100000)
    (hw : ∀ x, wipe ((wipe σ vs).set j (some x)) vs = wipe σ vs)
    (ht : ∀ i H2 (Q : Bool → Hp → Prop), i < n → Same H H2 → (∀ H3, Same H2 H3 → Q (keep i) H3) → tt ((wipe σ vs).set j (some (.int (lo + (i : Nat) * c)))) H2 Q)
    (he : ∀ i H2 (Q : VK), i < n → keep i = true → Same H H2 → (∀ H3, Same H2 H3 → Q (val i) H3) → te ((wipe σ vs).set j (some (.int (lo + (i : Nat) * c)))) H2 Q)
    (hd : ∀ H', Same H H' → H' D = some (.lst (gives n keep val)) → Qd H') :
    ∃ W : Nat → Nat → Hp → Prop, (∃ m, W 0 m (upd H D (.lst []))) ∧ ∀ i m H, W i m H →
      ((Itc lo c n).stop i H ∧ Qd H) ∨ ((Itc lo c n).go i H ∧ ∃ Nx : Hp → Prop, (∀ H', Nx H' → ∃ m', m' < m ∧ W (i + 1) m' H') ∧
        ∀ x H', (Itc lo c n).yld i H x H' → gName j x (wipe σ vs) H' fun σ2 H2 => wipe σ2 vs = wipe σ vs ∧ tt σ2 H2 fun b H3 =>
          if b = true then te σ2 H3 fun y H4 => ∃ acc, H4 D = some (.lst acc) ∧ acc.length < sizeLine ∧ Nx (upd H4 D (.lst (acc ++ [y]))) else Nx H3) :=
  lc_rangeC (fun i H2 => Same H H2 ∧ H2 D = some (.lst (gives i keep val))) ⟨Same.new hD, upd_same⟩
    (fun i H2 hi e => ⟨hw _, lc_turnS hD hi hn e.1 e.2 (fun Q q => ht i H2 Q hi e.1 q) (fun H3 s3 Q k q => he i H3 Q hi k (e.1.trans s3) q)⟩)
    (fun H2 e => hd H2 e.1 e.2)
end
theorem rgC_400 {c : Int} (h1 : 1 ≤ c) (h2 : c ≤ 11) : RgC 0 400 c ((399 / c).toNat + 1) := by
  have : c = 1 ∨ c = 2 ∨ c = 3 ∨ c = 4 ∨ c = 5 ∨ c = 6 ∨ c = 7 ∨ c = 8 ∨ c = 9 ∨ c = 10 ∨ c = 11 := by omega
  rcases this with rfl | rfl | rfl | rfl | rfl | rfl | rfl | rfl | rfl | rfl | rfl <;> exact ⟨by decide, by decide, by decide +kernel, by decide +kernel⟩
end SH

/-! SH17: max and min of a tuple of two ints. -/
namespace SH
open PySem PySem.Spec PyProof.Rows L2
section
variable {X : Cx}
def rMaxT (K : PySem.W.Frag) : List V → Hp → VK → Prop := fun vs H Q => ∃ (a : Addr) (x y : Int), vs = [V.ref a] ∧ SqT K H a [.int x, .int y] ∧ Q (.int (if x < y then y else x)) H
theorem cr_maxT (hc : X.calm = true) (hu : X.A.units + 64 < cLine) : CallR X (.builtin "max") (rMaxT X.K) := by
  intro pins s σ H vs us Q I r h
  obtain ⟨a, x, y, rfl, hs, q⟩ := h
  obtain ⟨its, rv, hl, _⟩ := I.tuple hs
  rw [Vals.ref1 r]
  obtain ⟨as, rd⟩ := Dp.readsAll I [.int x, .int y] _ _ (dp_ints [x, y]) rv
  refine PySem.W.max_tuple_data (I.ok.hd hc) hl (by simpa using rd) ⟨fun a ha b hb => ?_, fun a ha => ?_⟩ (by show X.A.units + 1 + 0 < cLine; omega) fun i v h' tk bs hi r hk => ?_
  · simp only [List.mem_cons, List.not_mem_nil, or_false] at ha hb
    rcases ha with rfl | rfl <;> rcases hb with rfl | rfl <;> rfl
  · simp only [List.mem_cons, List.not_mem_nil, or_false] at ha
    rcases ha with rfl | rfl <;> exact fun z => nomatch z
  · have e : PySem.W.maxD (PyData.int x) [PyData.int y] = .int (max x y) := PySem.W.maxD_ints x [y]
    rw [e] at r
    cases r with
    | int _ t =>
      refine ⟨.int _, H, I.kept hk, ⟨_, rfl⟩, ?_⟩
      have e2 : max x y = if x < y then y else x := by split <;> omega
      rw [e2]
      exact q
def rMinT (K : PySem.W.Frag) : List V → Hp → VK → Prop := fun vs H Q => ∃ (a : Addr) (x y : Int), vs = [V.ref a] ∧ SqT K H a [.int x, .int y] ∧ Q (.int (if y < x then y else x)) H
theorem cr_minT (hc : X.calm = true) (hu : X.A.units + 64 < cLine) : CallR X (.builtin "min") (rMinT X.K) := by
  intro pins s σ H vs us Q I r h
  obtain ⟨a, x, y, rfl, hs, q⟩ := h
  obtain ⟨its, rv, hl, _⟩ := I.tuple hs
  rw [Vals.ref1 r]
  obtain ⟨as, rd⟩ := Dp.readsAll I [.int x, .int y] _ _ (dp_ints [x, y]) rv
  refine PySem.W.min_tuple_data (I.ok.hd hc) hl (by simpa using rd) ⟨fun a ha b hb => ?_, fun a ha => ?_⟩ (by show X.A.units + 1 + 0 < cLine; omega) fun i v h' tk bs hi r hk => ?_
  · simp only [List.mem_cons, List.not_mem_nil, or_false] at ha hb
    rcases ha with rfl | rfl <;> rcases hb with rfl | rfl <;> rfl
  · simp only [List.mem_cons, List.not_mem_nil, or_false] at ha
    rcases ha with rfl | rfl <;> exact fun z => nomatch z
  · have e : PySem.W.minD (PyData.int x) [PyData.int y] = .int (min x y) := PySem.W.minD_ints x [y]
    rw [e] at r
    cases r with
    | int _ t =>
      refine ⟨.int _, H, I.kept hk, ⟨_, rfl⟩, ?_⟩
      have e2 : min x y = if y < x then y else x := by split <;> omega
      rw [e2]
      exact q
end
end SH

/-! SH18: errors that are caught and looked at: their context None, kept behind the suite, isinstance of them. -/
namespace SH
open PySem PySem.Spec PyProof.Rows L2
/-- at a: an error of the class cls, its dict at d -/
def ErO (cls : Value) (d : Option Addr) (a : Addr) : HO := .ext fun h => ∃ (oe : Obj) (vs : Array Value), h.get? a = some oe ∧ L2.Zc cls d oe ∧ oe.data = .fields vs
theorem erO_mk {P : Program} {w : World} {H : Hp} {h : Heap} {a : Addr} {cls : Value} {d : Option Addr} {oe : Obj} {vs : Array Value} (e : h.get? a = some oe) (z : L2.Zc cls d oe) (dv : oe.data = .fields vs) : ObjOk P w H h a (ErO cls d a) :=
  ⟨⟨oe, vs, e, z, dv⟩, ⟨oe, e⟩, fun _ _ ⟨o, v, q, r⟩ k => ⟨o, v, k o q, r⟩⟩
section
variable {X : Cx} {pins : List (Addr × Obj)} {σ : L2.St} {H : Hp} {s : Shared}
/-- an error that the suite held is tracked behind it -/
theorem adopt {a : Addr} {oe : Obj} {cls : Value} {d : Option Addr} {vs : Array Value} (ok : X.Ok) (I : Inv (X.suite a ((a, oe) :: (X.pn ++ pins))) [] σ H s) (z : L2.Zc cls d oe) (dv : oe.data = .fields vs)
    (new : X.s_0.heap.get? a = none) (np : ∀ p ∈ X.pn ++ pins, p.1 ≠ a) : Inv X pins σ (upd H a (ErO cls d a)) s := by
  obtain ⟨ha, hn, hl, hf, hc⟩ := I.pin (a, oe) (List.mem_append_left _ List.mem_cons_self)
  have old : ∀ {b : Addr} {o : Obj}, X.s_0.heap.get? b = some o → b ≠ a := fun {b o} q e => by
    rw [e, new] at q; cases q
  have B := I.base
  refine ⟨ok, I.os, I.bare, ⟨B.keep, B.slot, fun b o q n x => ?_, B.there, fun b xs q => ?_, fun b o u q => ?_, fun b ps q => ?_⟩, I.loc, I.cell, ?_, fun x c e => ?_, fun p hp => ?_, ?_, I.len⟩
  · rw [upd_ne (old q)]; exact B.free b o q n x
  · have := B.tups b xs q
    rw [upd_ne (ne_of_none this hn)]; exact this
  · have := B.frzs b o u q
    rw [upd_ne (ne_of_none this hn)]; exact this
  · obtain ⟨m, q2⟩ := B.tbls b ps q
    exact ⟨m, by rw [upd_ne (ne_of_none q2 hn)]; exact q2⟩
  · rw [upd_ne (Ne.symm hl)]; exact I.free
  · have e' : c ≠ a := fun y => by
      obtain ⟨v, o, ho, hd⟩ := I.cell x c e
      rw [y, ha] at ho
      cases ho
      exact hc v hd
    rw [upd_ne e']
    exact I.freeC x c e
  · obtain ⟨e1, e2, e3⟩ := I.pin p (by rw [List.append_nil]; exact List.mem_cons_of_mem _ hp)
    exact ⟨e1, by rw [upd_ne (np p hp)]; exact e2, e3⟩
  · exact HOk.laidN I.hok (fun _ _ q => q) hn (erO_mk ha z dv)
end
/-- what a clause that takes all that the body may raise wishes: slot i is the clause's name, and behind the suite the error is tracked -/
def wE (K : PySem.W.Frag) (c : Value) (i : Nat) (ts : Addr → Value → Option Addr → TS) (D : Ends) : WX := fun cls d σ H => PySem.W.exmOne K cls c = some true ∧ ∀ a, H a = none →
  ts a cls d { nx := fun τ G => D.nx (τ.set i none) (upd G a (ErO cls d a)), bk := fun τ G => D.bk (τ.set i none) (upd G a (ErO cls d a)), ct := fun τ G => D.ct (τ.set i none) (upd G a (ErO cls d a)), rt := fun v G => D.rt v (upd G a (ErO cls d a)) } (σ.set i (some (.ref a))) H
section
variable {X : Cx} {x n : Str} {c : Value} {i : Nat} {body suite : List Stmt} {b₀ : Stmt} {np pos pos' : Pos} {tb : WX → TS} {ts : Addr → Value → Option Addr → TS}
/-- try: body / except x as n: suite, where the clause takes all that the body may raise -/
theorem ps_tryE (hs : X.stack = X.env :: X.outer) (hf : X.env.frame = some X.env.locals) (hex : X.ex = []) (hN : X.N.Nodup) (hi : X.N[i]? = some n) (hln : X.env.kindOf n = some .local) (hc : Names X x c)
    (hb : ∀ (W : WX) (pn : List (Addr × Obj)) (xe : Value → Shared → Prop), L2N.Takes (X.tr pn xe) W → PassesOwn (model X.prog X.w) X.A X.env xe → PSs (X.tr pn xe) body (tb W))
    (hsu : ∀ (a : Addr) (oe : Obj) (cls : Value) (d : Option Addr) (pn : List (Addr × Obj)), L2N.Zn cls d oe → (∃ vs, oe.data = .fields vs) → PSs (X.suite a ((a, oe) :: pn)) (b₀ :: suite) (ts a cls d)) :
    PS X (.Try body [.ExceptHandler (some (.Name x np)) (some n) (b₀ :: suite) pos'] [] [] pos) (fun D σ H => tb (wE X.K c i ts D) D σ H) := by
  refine ⟨fun pins s σ H D I h => wpAny_Try_except ?_⟩
  have ok := I.ok
  have hfr : X.A.frames = some (X.env :: X.outer) := ok.frames.trans (congrArg some hs)
  refine wpAny_mono ((hb (wE X.K c i ts D) (X.pn ++ pins) _ (fun u s' xx => ?_) PassesOwn.looking).run [] s σ H D (I.toTry _) h) (fun f s1 q => ?_) fun e s1 q => q
  · obtain ⟨a, B, sI, _, τ, G, cls, d, rfl, J0, nb, up, sky, na, os, ag, em, go⟩ := xx
    have J : Inv X pins τ G sI := J0.ofTry ok
    refine L2N.Sky.land L2N.Zn.steady hfr hf (by rw [← hs]; exact sky) fun h3 fl3 up3 => ?_
    obtain ⟨o3, v3, at3, z3, d3⟩ := fl3.there
    -- a stands apart from the frames, and was not there before
    have nfr : a ∉ frs X.stack := fun hm => by
      rw [hs] at hm
      obtain ⟨_, o', e', hnf⟩ := fl3.2.2.1.mem hm
      rw [at3] at e'
      cases e'
      exact hnf _ d3
    have nI : sI.heap.get? a = none := by
      cases q : sI.heap.get? a with
      | none => rfl
      | some o =>
        have := nb a o q nfr
        rw [fl3.2.1] at this
        cases this
    have n0 : X.s_0.heap.get? a = none := by
      cases q : X.s_0.heap.get? a with
      | none => rfl
      | some o =>
        obtain ⟨o', q'⟩ := J.base.there a o q (by rw [hex]; exact List.not_mem_nil)
        rw [nI] at q'
        cases q'
    have nL : a ≠ X.env.locals := fun z => nfr (by rw [hs]; exact List.mem_filterMap.mpr ⟨X.env, List.mem_cons_self, by rw [hf, z]⟩)
    have nF : a ∉ X.fs := fun hm => nfr (by
      rw [hs]
      obtain ⟨e, he, q⟩ := List.mem_filterMap.mp hm
      exact List.mem_filterMap.mpr ⟨e, List.mem_cons_of_mem _ he, q⟩)
    have np' : ∀ p ∈ X.pn ++ pins, p.1 ≠ a := fun p hp z => by
      have := (J.pin p hp).1
      rw [z, nI] at this
      cases this
    have L3 : Inv X pins τ G { s' with heap := h3 } := J.landed nb fl3.1 (up.trans up3) os ag
    have S3 := L3.suite at3 d3 na nL nF
    have ty : PySem.W.Looks (model X.prog X.w) h3 (typeOf (.ref a)) cls := fun A Q E s k q => wpAny_typeOf_ref (k _ _ at3) (by rw [z3.1]; exact q)
    have named : ∀ {Q E : Value → Shared → Prop}, Q c { s' with heap := h3 } → wpAny (model X.prog X.w) (X.A.mark (some (.ref a))) (eval (.Name x np) X.env) Q E { s' with heap := h3 } := fun {Q E} q => by
      rcases hc with ⟨g, db, m | ⟨m, bv, nn⟩⟩
      · exact ld_glob (X := X.suite a ((a, o3) :: (X.pn ++ pins))) S3 g m q db
      · exact ld_blt (X := X.suite a ((a, o3) :: (X.pn ++ pins))) S3 g m bv q nn db
    refine wpAny_handleBy_cons (codeAny_handlers_test (named ((PySem.W.exm_one (M := model X.prog X.w) L3.kIn ty em).here ?_))) (fun q => by cases q)
    refine codeAny_handlers_suite_as (HandSPX.lands_againZ fl3 fun h4 fl4 up4 => ?_)
    obtain ⟨o4, v4, at4, z4, d4⟩ := fl4.there
    have L4 : Inv X pins τ G { s' with heap := h4 } := J.landed nb fl4.1 ((up.trans up3).trans up4) os ag
    have S4 := L4.suite at4 d4 na nL nF
    refine store_ok (X := X.suite a ((a, o4) :: (X.pn ++ pins))) (v := .ref a) S4 hN hi (.inl hln) rfl (fun s5 S5 => ?_) (.inr hln)
    refine wpAny_mono ((hsu a o4 cls d (X.pn ++ pins) z4 ⟨_, d4⟩).run [] s5 _ G _ S5 (go a na)) (fun f s6 q => ?_) fun _ _ z => False.elim z
    have out : ∀ {τ6 : L2.St} {G6 : Hp} {Q : Shared → Prop}, Inv (X.suite a ((a, o4) :: (X.pn ++ pins))) [] τ6 G6 s6 → (∀ s7, Inv X pins (τ6.set i none) (upd G6 a (ErO cls d a)) s7 → Q s7) →
        wpAny (model X.prog X.w) X.A (do bindName X.env n .none; unbindBehindTheSuite X.env n pos') (fun _ s7 => Q s7) X.xe s6 := fun S6 hq => gone_ok (adopt ok S6 z4.zc d4 n0 np') hN hi hln hq
    cases f with
    | ret u => obtain ⟨v6, τ6, G6, S6, r6, q6⟩ := q; exact out S6 fun s7 J7 => ⟨_, _, _, J7, r6, q6⟩
    | next => obtain ⟨τ6, G6, S6, q6⟩ := q; exact out S6 fun s7 J7 => ⟨_, _, J7, q6⟩
    | brk => obtain ⟨τ6, G6, S6, q6⟩ := q; exact out S6 fun s7 J7 => ⟨_, _, J7, q6⟩
    | cont => obtain ⟨τ6, G6, S6, q6⟩ := q; exact out S6 fun s7 J7 => ⟨_, _, J7, q6⟩
  · cases f with
    | ret u => obtain ⟨v, τ, G, J, r, q⟩ := q; exact ⟨v, τ, G, J.ofTry ok, r, q⟩
    | next => obtain ⟨τ, G, J, q⟩ := q; exact wpAny_execs_nil ⟨τ, G, J.ofTry ok, q⟩
    | brk => obtain ⟨τ, G, J, q⟩ := q; exact ⟨τ, G, J.ofTry ok, q⟩
    | cont => obtain ⟨τ, G, J, q⟩ := q; exact ⟨τ, G, J.ofTry ok, q⟩
end
section
variable {K : PySem.W.Frag} {tt : TT} {te : TE} {vs : List Nat} {σ : L2.St} {H : Hp} {D : Addr} {Qd : Hp → Prop}
theorem Same.sqT {H H' : Hp} {a : Addr} {xs : List V} (e : Same H H') (h : SqT K H a xs) : SqT K H' a xs :=
  h.imp (fun q => q.imp (fun z => e _ _ z) (fun ⟨o, z⟩ => ⟨o, e _ _ z⟩)) id
/-- [.. for x in t ..], t a tuple -/
theorem lcTn {a : Addr} {xs : List V} {j : Nat} (keep : Nat → Bool) (val : Nat → V) (hx : SqT K H a xs) (hD : H D = none) (hn : xs.length < 100000)
    (hw : ∀ x, wipe ((wipe σ vs).set j (some x)) vs = wipe σ vs)
    (ht : ∀ i x H2 (Q : Bool → Hp → Prop), xs[i]? = some x → Same H H2 → (∀ H3, Same H2 H3 → Q (keep i) H3) → tt ((wipe σ vs).set j (some x)) H2 Q)
    (he : ∀ i x H2 (Q : VK), xs[i]? = some x → keep i = true → Same H H2 → (∀ H3, Same H2 H3 → Q (val i) H3) → te ((wipe σ vs).set j (some x)) H2 Q)
    (hd : ∀ H', Same H H' → H' D = some (.lst (gives xs.length keep val)) → Qd H') :
    ∃ W : Nat → Nat → Hp → Prop, (∃ m, W 0 m (upd H D (.lst []))) ∧ ∀ i m H, W i m H →
      ((Itt K a).stop i H ∧ Qd H) ∨ ((Itt K a).go i H ∧ ∃ Nx : Hp → Prop, (∀ H', Nx H' → ∃ m', m' < m ∧ W (i + 1) m' H') ∧
        ∀ x H', (Itt K a).yld i H x H' → gName j x (wipe σ vs) H' fun σ2 H2 => wipe σ2 vs = wipe σ vs ∧ tt σ2 H2 fun b H3 =>
          if b = true then te σ2 H3 fun y H4 => ∃ acc, H4 D = some (.lst acc) ∧ acc.length < sizeLine ∧ Nx (upd H4 D (.lst (acc ++ [y]))) else Nx H3) :=
  lc_tup (xs := xs) (fun i H2 => Same H H2 ∧ H2 D = some (.lst (gives i keep val))) ⟨Same.new hD, upd_same⟩
    (fun i H2 hi e => Same.sqT e.1 hx)
    (fun i x H2 hi e => ⟨hw _, lc_turnS hD (List.getElem?_eq_some_iff.mp hi).1 hn e.1 e.2 (fun Q q => ht i x H2 Q hi e.1 q) (fun H3 s3 Q k q => he i x H3 Q hi k (e.1.trans s3) q)⟩)
    (fun H2 e => hd H2 e.1 e.2)
end
section
open PySem.W
variable {prog : Program} {w : World} {A : Around} {E : Value → Shared → Prop} {s : Shared} {K : Frag} {x D : Addr} {ox : Obj} {od : Option Obj}
theorem find_class (hd : hasDictIn K D = true) (ha : findIn K (.ref D) "__class__" = some (some (.builtin "object.__class__"))) (hn : specialIn K (.builtin "object.__class__") "__get__" = some (some (.builtin "getset_descriptor.__get__")))
    (ht : takesIn K (.builtin "object.__class__") = some true) : findObj K D od "__class__" = some (.bind (.builtin "getset_descriptor.__get__") (.builtin "object.__class__")) := by
  obtain ⟨cd, hc, _⟩ := any_some hd
  unfold findObj
  rw [hc, Option.bind_some, ha, Option.bind_some]
  simp [hn, ht]
/-- e.__class__ of an error of an own class, whatever its dict holds -/
theorem class_of_error {Q : Option Value → Shared → Prop} (T : ExcC K D) (X : K.In s.heap) (I : PySem.W.InstAt s.heap x ox D od) (h : Q (some (.ref D)) { s with toks := s.toks + 1 }) : wpAny (model prog w) A (getAttr? (.ref x) "__class__") Q E s := by
  obtain ⟨hp, g, d, t, os⟩ := s
  have ty := I.type (M := model prog w)
  have fnd := looks_find (M := model prog w) X I (find_class T.hd T.ha T.hn T.ht)
  have below : Looks (model prog w) hp (isInstance (.ref x) (.type "BaseException")) true := ty.andThen (looks_subIn X T.hs)
  have e2 : (Value.builtin "BaseException.__getattribute__" == Value.builtin "object.__getattribute__") = false := by decide +kernel
  have e1 : (onTheHeap (Value.ref D) && Value.builtin "BaseException.__getattribute__" == Value.builtin "object.__getattribute__") = false := by rw [e2]; rfl
  unfold getAttr? getAttrBy? getAttrBy
  refine wpAny_bind (wpAny_mkText (wpAny_bind (wpAny_attempt (wpAny_holding (wpAny_bind (ty.at (wpAny_bind ((looks_findIn (M := model prog w) X T.hg).at ?_))))))))
  show wpAny _ _ (if (onTheHeap (Value.ref D) && Value.builtin "BaseException.__getattribute__" == Value.builtin "object.__getattribute__") = true then _ else _) _ _ _
  rw [e1, if_neg Bool.false_ne_true]
  unfold getAttrByItsOwn hookBefore
  refine wpAny_bind ?_
  rw [if_pos (show onTheHeap (Value.ref D) = true from rfl)]
  refine (looks_findIn (M := model prog w) X T.hk).at (wpAny_bind (wpAny_attempt (wpAny_holding ?_)))
  unfold callGetattribute
  rw [show (false && onTheHeap (Value.builtin "BaseException.__getattribute__")) = false from rfl, if_neg Bool.false_ne_true]
  unfold boundAndCalled
  rw [PySem.F.excAttr_ValueError.ga.bind (.ref x)]
  refine wpAny_bind (wpAny_pure ?_)
  show wpAny _ _ (call (.builtin "BaseException.__getattribute__") [.ref x, .str "__class__" t]) _ _ _
  refine wpAny_call (codeAny_call_builtin PySem.F.excAttr_ValueError.ga.plain PySem.F.entry_bexc_ga ?_)
  refine @check_slot (model prog w) _ _ ⟨hp, g, d, t + 1, os⟩ "BaseException.__getattribute__" "BaseException" "__getattribute__" (.ref x) [.str "__class__" t] [] _ (by decide +kernel) (by decide +kernel) below (PySem.F.args_bexc_ga (.ref x) (.str "__class__" t)) ?_
  unfold Builtin.«object.__getattribute__»
  refine wpAny_bind (wpAny_of_eq (a := ((Value.ref x : Value), [Value.str "__class__" t])) (by first | rfl | (simp only [slotArgs]; rfl)) ?_)
  refine wpAny_bind (wpAny_pure (wpAny_bind (ty.at (wpAny_bind (fnd.at ?_)))))
  show wpAny _ _ (holding [Value.builtin "object.__class__"] (call (.builtin "getset_descriptor.__get__") [.builtin "object.__class__", .ref x, .ref D]) >>= ret) _ _ _
  refine wpAny_bind (wpAny_holding (wpAny_call (class_get (s := ⟨hp, g, d, t + 1, os⟩) (ox := ox) (od := od) X I T.hm ?_)))
  refine wpAny_pure ?_
  show wpAny _ _ (handedOut (.ref D)) _ _ _
  rw [handedOut_of (v := .ref D) rfl]
  first
    | exact wpAny_pure (wpAny_pure h)
    | exact wpAny_pure h
    | exact wpAny_pure (wpAny_bind (wpAny_pure (wpAny_pure h)))
theorem cls_there (hd : hasDictIn K D = true) : ∃ c d cd sl, K.lookup D = some ⟨c, d, .cls cd, sl⟩ := by
  obtain ⟨cd, hc, _⟩ := any_some hd
  unfold clsIn at hc
  split at hc
  · rename_i c d cd' sl ho
    exact ⟨c, d, cd', sl, ho⟩
  · cases hc
theorem kit_error (T : ExcC K D) : KitX K (.ref x) (.ref D) (fun h => PySem.W.InstAt h x ox D od) where
  ty := fun _ _ _ I => I.type
  it := fun _ _ X _ => by
    obtain ⟨c, d, cd, sl, ho⟩ := cls_there T.hd
    intro A' Q' E' s' k q
    unfold isType loadHead
    exact wpAny_bind (wpAny_loadPart (k _ _ (X _ _ ho)) (wpAny_pure q))
  ne := fun h tp dd its n sl X htp => by
    obtain ⟨c, d, cd, sl', ho⟩ := cls_there T.hd
    refine Bool.eq_false_iff.mpr fun q => ?_
    obtain rfl : D = tp := Value.ref.inj (beq_iff_eq.mp q)
    cases (X _ _ ho).symm.trans htp
  ca := fun X I k => class_of_error T X I k
end
/-- at a an error of the class at D, its dict at d: one that the suite holds, or one that is tracked -/
def Known (X : Cx) (H : Hp) (a D : Addr) (d : Option Addr) : Prop := ((∃ oe, (a, oe) ∈ X.pn ∧ L2.Zc (.ref D) d oe ∧ ∃ vs, oe.data = .fields vs) ∨ H a = some (ErO (.ref D) d a)) ∧ (d = none ∨ ∃ dx fs, d = some dx ∧ H dx = some (.xd fs))
section
variable {X : Cx} {pins : List (Addr × Obj)} {σ : L2.St} {H : Hp} {s : Shared} {a D : Addr} {d : Option Addr}
theorem known_at (I : Inv X pins σ H s) (k : Known X H a D d) : ∃ oe od, PySem.W.InstAt s.heap a oe D od ∧ oe.dict = d ∧ (∀ dx, d = some dx → ∃ o, od = some o ∧ s.heap.get? dx = some o) := by
  obtain ⟨k1, k2⟩ := k
  obtain ⟨oe, vs, ha, hz, hv⟩ : ∃ oe vs, s.heap.get? a = some oe ∧ L2.Zc (.ref D) d oe ∧ oe.data = .fields vs := by
    rcases k1 with ⟨oe, hp, hz, vs, hv⟩ | e
    · exact ⟨oe, vs, (I.pin (a, oe) (List.mem_append_left _ hp)).1, hz, hv⟩
    · obtain ⟨oe, vs, r⟩ := (I.hok a _ e).1
      exact ⟨oe, vs, r⟩
  have nc : PySem.W.notCls oe = true := by unfold PySem.W.notCls; rw [hv] <;> rfl
  rcases k2 with rfl | ⟨dx, fs, rfl, hx⟩
  · exact ⟨oe, none, ⟨ha, hz.1, nc, by rw [hz.2]; trivial⟩, hz.2, fun _ z => nomatch z⟩
  · obtain ⟨mA, ⟨o, _, _, ho, _⟩, _⟩ := (show ObjOk X.prog X.w H s.heap dx (.xd fs) from I.hok dx _ hx)
    exact ⟨oe, some o, ⟨ha, hz.1, nc, by rw [hz.2]; exact ho⟩, hz.2, fun y e => by cases e; exact ⟨o, rfl, ho⟩⟩
/-- isinstance(e, c), e a known error -/
def rIsEr (X : Cx) : List V → Hp → VK → Prop := fun xs H Q => ∃ (a D : Addr) (d : Option Addr) (c : V) (u : Value) (b : Bool), xs = [.ref a, c] ∧ Known X H a D d ∧ ExcC X.K D ∧ ClsV c u ∧ PySem.W.kitOne X.K (.ref D) u = some b ∧ Q (.bl b) H
theorem call_isEr : CallR X (.builtin "isinstance") (rIsEr X) := by
  intro pins s σ H xs us Q I r h
  obtain ⟨a, D, d, c, u, b, rfl, kn, T, k, e, q⟩ := h
  obtain ⟨u1, u2, rfl, r1, r2⟩ := vals2 r
  obtain rfl := k.eq r2
  obtain rfl : u1 = Value.ref a := r1
  obtain ⟨oe, od, J, _⟩ := known_at I kn
  exact PySem.W.kia_one (kit_error T) I.kIn J e (fun z => nomatch z) fun tk => ⟨.bl b, H, I.tok tk, rfl, q⟩
/-- isinstance(e, (c1, c2, ..)) -/
def rIsErT (X : Cx) : List V → Hp → VK → Prop := fun xs H Q => ∃ (a D tp : Addr) (d : Option Addr) (cs : List V) (us : List Value) (b : Bool), xs = [.ref a, .ref tp] ∧ H tp = some (.tup cs) ∧ Paired ClsV cs us ∧ Known X H a D d ∧ ExcC X.K D ∧ PySem.W.kitAny X.K (.ref D) us = some b ∧ Q (.bl b) H
theorem call_isErT : CallR X (.builtin "isinstance") (rIsErT X) := by
  intro pins s σ H xs us Q I r h
  obtain ⟨a, D, tp, d, cs, ws, b, rfl, hT, k, kn, T, e, q⟩ := h
  obtain ⟨u1, u2, rfl, r1, r2⟩ := vals2 r
  obtain rfl : u2 = Value.ref tp := r2
  obtain rfl : u1 = Value.ref a := r1
  obtain ⟨oe, od, J, _⟩ := known_at I kn
  obtain ⟨_, its, rv, o, h1, h2, n, h3⟩ := (show ObjOk X.prog X.w H s.heap tp (.tup cs) from I.hok tp _ hT)
  obtain rfl := ClsV.all k rv
  obtain ⟨oc, od', dt, sl⟩ := o
  simp only at h2 h3
  subst h2 h3
  exact PySem.W.kia_tup (kit_error T) I.kIn J h1 e (fun z => nomatch z) fun tk => ⟨.bl b, H, I.tok tk, rfl, q⟩
/-- e.f, e a known error -/
def tErF (X : Cx) (n : Str) (te : TE) : TE := fun σ H Q => te σ H fun x H1 => ∃ (a D dx : Addr) (fs : List (Str × V)) (v : V), x = .ref a ∧ Known X H1 a D (some dx) ∧ H1 dx = some (.xd fs) ∧ XfC X.K D ∧ PySem.W.findIn X.K (.ref D) n = some none ∧ fs.lookup n = some v ∧ Q v H1
theorem er_get {n : Str} {s1 : Shared} {H1 : Hp} {dx : Addr} {fs : List (Str × V)} {v : V} {Q : VK} {Ex : Value → Shared → Prop} (I1 : Inv X pins σ H1 s1) (kn : Known X H1 a D (some dx)) (hx : H1 dx = some (.xd fs)) (T : XfC X.K D) (hno : PySem.W.findIn X.K (.ref D) n = some none) (l : fs.lookup n = some v) (q : Q v H1) :
    wpAny (model X.prog X.w) X.A (getAttr (.ref a) n true) (EP X pins σ Q) Ex s1 := by
  obtain ⟨oe, od, J, ed, hd⟩ := known_at I1 kn
  obtain ⟨o, rfl, ho⟩ := hd dx rfl
  obtain ⟨mA, hns, hr⟩ := (show ObjOk X.prog X.w H1 s1.heap dx (.xd fs) from I1.hok dx _ hx)
  obtain ⟨o2, ho2, hl⟩ := lookIn_ns hns
  rw [ho] at ho2
  cases ho2
  obtain ⟨u, hu, ru⟩ := RelO.some_of (v := v) (o := mA n) (by rw [← l]; exact hr n)
  exact HandSPX.exc_get I1.kIn J T.ga T.gg T.exC (PySem.W.findObj_own T.hdC hno rfl (by rw [hl, hu])) (handed_of ru) ⟨v, H1, I1.tok _, ru, q⟩
theorem pe_erF {e : Expr} {te : TE} {pos : Pos} {n : Str} (he : PE X e te) (hb : attributeBase e n X.env (eval e X.env) = eval e X.env := by rfl) : PE X (.Attribute e n pos) (tErF X n te) := by
  refine ⟨fun pins s σ H Q I h => attr_of hb (thn (he.run pins s σ H _ I h) fun u s1 hh => ?_)⟩
  obtain ⟨x, H1, I1, rx, a, D, dx, fs, v, rfl, kn, hx, T, hno, l, q⟩ := hh
  obtain rfl : u = Value.ref a := rx
  exact er_get I1 kn hx T hno l q
end
/-! ### a def that is called in a suite, with the error that the suite holds -/
/-- the context of such a def's body: the error is pinned -/
abbrev cxE (P : Program) (w : World) (K : PySem.W.Frag) (mg : Str → Option Value) (base : Heap) (N : List Str) (q : Str) (sc : Scope) (f : Addr) (cd : Value) (A : Around) (outer : List Env) (s : Shared) (H : Hp) (p : Addr × Obj) : Cx := L2H.cxH CX0 P w K mg base N q sc f cd A outer s H (fun _ _ _ => False) p
/-- the error at a in words of the context -/
structure Held (X : Cx) (a : Addr) (cls : Value) (d : Option Addr) (oe : Obj) : Prop where
  mem : (a, oe) ∈ X.pn
  z : L2N.Zn cls d oe
  fv : ∃ vs, oe.data = .fields vs
  hot : X.A.handled = some (.ref a)
theorem Held.hotC {X : Cx} {a : Addr} {cls : Value} {d : Option Addr} {oe : Obj} (h : Held X a cls d oe) : L2H.HotC X := by
  obtain ⟨vs, e⟩ := h.fv
  exact ⟨(a, oe), ⟨h.hot, vs, e, h.z.2.2 vs e⟩, h.mem⟩
theorem Held.known {X : Cx} {H : Hp} {a D : Addr} {d : Option Addr} {oe : Obj} (h : Held X a (.ref D) d oe) (k : d = none ∨ ∃ dx fs, d = some dx ∧ H dx = some (.xd fs)) : Known X H a D d := ⟨.inl ⟨oe, h.mem, h.z.zc, h.fv⟩, k⟩
/-- the def st at the name x, called with the error a suite holds: sp speaks of the error's address, its class, its dict -/
def HasE (P : Program) (w : World) (K : PySem.W.Frag) (mg : Str → Option Value) (base : Heap) (k : Nat) (x : Str) (st : Stmt) (ps : List Str) (sp : Addr → Value → Option Addr → List V → Hp → VK → Prop) : Prop :=
  ∃ f fd, Fun K x x st f fd ∧ mg x = some (.ref f) ∧ L2.Binds K fd ps [] ∧ (∀ a cls d vs H Q, sp a cls d vs H Q → vs.length = ps.length) ∧
    ∀ (A : Around) (outer : List Env) (s : Shared) (H : Hp) (args : Args) (us : List Value) (vs : List V) (Q : VK) (a : Addr) (cls : Value) (d : Option Addr) (oe : Obj), L2H.RoomH k A → Quiet A → A.handled = some (.ref a) → L2N.Zn cls d oe → (∃ vs, oe.data = .fields vs) →
      L2H.PinOk outer H s (a, oe) → Env0 P w K mg base A outer s H → BindsTo s fd args (ps.zip us) → Vals vs us → sp a cls d vs H Q → codeAny (model P w) A (.call (.ref f) args) (CR CX0 outer P w H s Q (fun _ _ _ => False)) s
section
variable {P : Program} {w : World} {K : PySem.W.Frag} {mg : Str → Option Value} {base : Heap}
theorem HasE.of {x : Str} {st : Stmt} {N ps : List Str} {k : Nat} {sp : Addr → Value → Option Addr → List V → Hp → VK → Prop} (at_ : At K mg x st) (S : FnScope N ps (defScope st)) (len : ∀ a cls d vs H Q, sp a cls d vs H Q → vs.length = ps.length)
    (bd : ∀ (kV doc pm : Value) (an : Option Addr) (cdv ct : Value) (us : List Value), us.length = ps.length →
      bindArgs (PySem.W.fnOf x x (defArgs st) (defBody st) (defScope st) .none kV doc pm an cdv ct) ⟨us, []⟩ = pure (ps.zip us))
    (walk : ∀ (f : Addr) (cdv : Value) (A : Around) (outer : List Env) (s : Shared) (H : Hp) (vs : List V) (Q : VK) (a : Addr) (cls : Value) (d : Option Addr) (oe : Obj),
      L2H.RoomH k (A.deeper (envOfC x (defScope st) s.heap.objs.size f cdv)) → Quiet (A.deeper (envOfC x (defScope st) s.heap.objs.size f cdv)) → Held (cxE P w K mg base N x (defScope st) f cdv A outer s H (a, oe)).nox a cls d oe → sp a cls d vs H Q →
      ∃ t, PSs (cxE P w K mg base N x (defScope st) f cdv A outer s H (a, oe)).nox (defBody st) t ∧ t { nx := fun _ H' => Q .non H', rt := Q } (start N vs) H) :
    HasE P w K mg base (k + 1) x st ps sp := by
  obtain ⟨f, fd, F, m⟩ := at_
  refine ⟨f, fd, F, m, F.binds bd, len, fun A outer s H args us vs Q a cls d oe room qt hot hz hf pin e0 hb r hsp => ?_⟩
  obtain ⟨oc, od, kV, doc, pm, an, cdv, ct, osl, rfl, lk, hcd⟩ := F.ex
  have inK : K.In s.heap := e0.mod.kin.keeps fun b o e => (e0.bs b o e).1
  have hl := len _ _ _ _ _ _ hsp
  have kinds : ∀ y ∈ ps.zip us, (defScope st).names.lookup y.1 = some .local ∨ ((defScope st).names.lookup y.1 = some .cell ∧ ((cellsFrom (s.heap.objs.size + 1) (defScope st).names []).lookup y.1).isSome = true) := by
    rintro ⟨n, v⟩ hy
    rcases S.par n (List.of_mem_zip hy).1 with z | z
    · exact .inl z
    · exact .inr ⟨z, PySem.W.cellsFrom_some _ _ _ (.inl z)⟩
  refine codeAny_call_function room.depth (inK _ _ lk) rfl S.co S.gen rfl (PySem.W.codeRec_of inK hcd) (hb _ _ _ _ (wpAny_newFunctionEnv_cells S.kind kinds fun env he s1 ic => ?_))
  subst he
  refine ⟨Heap.NoLimit.keeps (e0.mod.nolimit.keeps fun b o e => (e0.bs b o e).1) ic.toInCall.keep, codeAny_func ?_⟩
  have I : Inv (cxE P w K mg base N x (defScope st) f cdv A outer s H (a, oe)) [] (start N vs) H s1 := L2H.inv_startH S pin e0 hl r ic
  obtain ⟨t, ht, hq⟩ := walk f cdv A outer s H vs Q a cls d oe (room.deeper _) (by exact qt) ⟨List.mem_singleton.mpr rfl, hz, hf, hot⟩ hsp
  refine wpAny_mono (ht.nox.run [] s1 (start N vs) H _ I hq) (fun fl s' hs => ?_) fun e s' hs => hs
  cases fl with
  | ret u => obtain ⟨v, σ', H', J, rv, q⟩ := hs; exact ⟨v, H', J.os, J.bare, J.base, J.hok, rv, q⟩
  | next => obtain ⟨σ', H', J, q⟩ := hs; exact ⟨V.non, H', J.os, J.bare, J.base, J.hok, rfl, q⟩
  | brk => obtain ⟨_, _, _, q⟩ := hs; exact q.elim
  | cont => obtain ⟨_, _, _, q⟩ := hs; exact q.elim
end
section
variable {X : Cx} {k : Nat} {st : Stmt} {ps : List Str} {sp : Addr → Value → Option Addr → List V → Hp → VK → Prop} {x : Str} {p pos : Pos} {e : Expr} {es : List Expr} {t : TA} {a : Addr} {cls : Value} {d : Option Addr} {oe : Obj}
theorem pe_hasE (h : HasE X.prog X.w X.K X.mg X.base k x st ps sp) (room : L2H.RoomH k X.A) (qt : Quiet X.A) (he : Held X a cls d oe) (hg : Gl X x) (ha : PA X (e :: es) t)
    (hdb : (x == ("__debug__" : Str)) = false := by decide) (hst : starEach (e :: es) X.env = (false, eval e X.env) :: starEach es X.env := by rfl) (hpl : (backTo pos (starEach es X.env)).any (·.1) = false := by rfl) :
    PE X (.Call (.Name x p) (e :: es) [] pos) (fun σ H Q => t σ H fun vs H1 => sp a cls d vs H1 Q) := by
  obtain ⟨f, fd, F, m, b, len, go⟩ := h
  refine ⟨fun pins s σ H Q I h => wpAny_Call_Name_kw (ld_glob I hg m (PySem.W.callWith_K (h₀ := X.base) I.ok.mod.kin F.kp (thn (ha.run pos pins s σ H _ I h) fun us s1 ⟨vs, H1, I1, r, q⟩ => ⟨I1.kIn, ?_⟩) hst hpl) hdb)⟩
  have hl : us.length = ps.length := by rw [← r.length]; exact len _ _ _ _ _ _ q
  have hb := b s1 us I1.kIn (by rw [List.append_nil]; exact hl)
  rw [List.append_nil] at hb
  obtain ⟨p1, p2, p3, p4, p5⟩ := I1.pin (a, oe) (List.mem_append_left _ he.mem)
  have pin : L2H.PinOk X.stack H1 s1 (a, oe) := ⟨p1, p2, fun hm => (List.mem_cons.mp (I1.stkSub a hm)).elim p3 p4, p5⟩
  refine wpAny_call (codeAny_mono (go X.A X.stack s1 H1 ⟨us, []⟩ us vs Q a cls d oe room qt he.hot he.z he.fv pin I1.env0 hb r q) fun r s' hq => ?_)
  cases r with
  | error e => exact False.elim hq
  | ok fl => cases fl with
    | ret u => exact I1.after hq
    | _ => exact False.elim hq
end
section
variable {X : Cx} {a : Addr} {cls : Value} {d : Option Addr} {oe : Obj}
/-- isinstance(e, c) in the suite itself: the reading speaks of no object -/
def rIsH (K : PySem.W.Frag) (a : Addr) (cls : Value) (d : Option Addr) : List V → Hp → VK → Prop := fun xs H Q => ∃ (D : Addr) (c : V) (u : Value) (b : Bool), xs = [.ref a, c] ∧ cls = .ref D ∧ (d = none ∨ ∃ dx fs, d = some dx ∧ H dx = some (.xd fs)) ∧ ExcC K D ∧ ClsV c u ∧ PySem.W.kitOne K (.ref D) u = some b ∧ Q (.bl b) H
theorem call_isH (h : Held X a cls d oe) : CallR X (.builtin "isinstance") (rIsH X.K a cls d) := by
  intro pins s σ H xs us Q I r z
  obtain ⟨D, c, u, b, rfl, rfl, k, T, cv, e, q⟩ := z
  exact call_isEr pins s σ H _ us Q I r ⟨a, D, d, c, u, b, rfl, h.known k, T, cv, e, q⟩
def rIsHT (K : PySem.W.Frag) (a : Addr) (cls : Value) (d : Option Addr) : List V → Hp → VK → Prop := fun xs H Q => ∃ (D tp : Addr) (cs : List V) (us : List Value) (b : Bool), xs = [.ref a, .ref tp] ∧ cls = .ref D ∧ H tp = some (.tup cs) ∧ Paired ClsV cs us ∧ (d = none ∨ ∃ dx fs, d = some dx ∧ H dx = some (.xd fs)) ∧ ExcC K D ∧ PySem.W.kitAny K (.ref D) us = some b ∧ Q (.bl b) H
theorem call_isHT (h : Held X a cls d oe) : CallR X (.builtin "isinstance") (rIsHT X.K a cls d) := by
  intro pins s σ H xs us Q I r z
  obtain ⟨D, tp, cs, ws, b, rfl, rfl, ht, k, kd, T, e, q⟩ := z
  exact call_isErT pins s σ H _ us Q I r ⟨a, D, tp, d, cs, ws, b, rfl, ht, k, h.known kd, T, e, q⟩
/-- e.f in the suite itself -/
def tHF (K : PySem.W.Frag) (a : Addr) (cls : Value) (d : Option Addr) (n : Str) (te : TE) : TE := fun σ H Q => te σ H fun x H1 => ∃ (D dx : Addr) (fs : List (Str × V)) (v : V), x = .ref a ∧ cls = .ref D ∧ d = some dx ∧ H1 dx = some (.xd fs) ∧ XfC K D ∧ PySem.W.findIn K (.ref D) n = some none ∧ fs.lookup n = some v ∧ Q v H1
theorem pe_hF {e : Expr} {te : TE} {pos : Pos} {n : Str} (h : Held X a cls d oe) (he : PE X e te) (hb : attributeBase e n X.env (eval e X.env) = eval e X.env := by rfl) : PE X (.Attribute e n pos) (tHF X.K a cls d n te) := by
  refine ⟨fun pins s σ H Q I z => attr_of hb (thn (he.run pins s σ H _ I z) fun u s1 hh => ?_)⟩
  obtain ⟨x, H1, I1, rx, D, dx, fs, v, rfl, rfl, rfl, hx, T, hn, l, q⟩ := hh
  obtain rfl : u = Value.ref a := rx
  exact er_get I1 (h.known (.inr ⟨dx, fs, rfl, hx⟩)) hx T hn l q
end
end SH

/-! SH19: an own error class whose __init__ says super().__init__('..') and self.f = v. -/
namespace SH
open PySem PySem.Spec PyProof.Rows L2
/-- what the written part says of such a class: its __init__ at fI (its code at cda, its __class__ cell at cc), with the text st -/
structure IniC (P : Program) (K : PySem.W.Frag) (C : Addr) (q : Str) (st : Stmt) (f : Str) : Prop where
  o : OexC K C
  fx : ∃ (fI cda cc : Addr) (oc cl ccl : Value) (od cld cdd : Option Addr) (osl csl ccs : Array (Option Value)) (vs : Array Value) (file : Str) (tf : Tok) (kV doc pm ct : Value) (an : Option Addr),
    K.lookup fI = some ⟨oc, od, .func (PySem.W.ksFn "__init__" q (defArgs st) (defBody st) (defScope st) .none kV doc pm an (.ref cda) ct cc), osl⟩ ∧
    PySem.W.codeIn K (.ref cda) q = true ∧ K.lookup cda = some ⟨ccl, cdd, .fields vs, ccs⟩ ∧ vs[2]? = some (.str file tf) ∧ ((P.main.file : Str) == file) = true ∧
    K.lookup cc = some ⟨cl, cld, .cell (some (.ref C)), csl⟩ ∧ PySem.W.findIn K (.ref C) "__init__" = some (some (.ref fI)) ∧ PySem.W.typeIn K (.ref fI) = some (.type "function")
  su : PySem.W.ks_superIn K C C "__init__" = some (some (.builtin "ValueError.__init__"))
  sb : PySem.W.subIn K (.ref C) (.type "ValueError") = some true
  me : PySem.W.mroIn K C (.ref C) = some true
  op : PySem.W.nsIn K cStatics "thirdparty.any" = some none
  no : PySem.W.findIn K (.ref C) f = some none
  top : (P.main.scope.names.lookup ("super" : Str)).isSome = false
/-- the text of such an __init__ -/
structure IniT (st : Stmt) (f v m : Str) : Prop where
  body : ∃ p0 p1 p2 p3 p4 p5 p6 p7 p8 p9 j, defBody st = [.Expr (.Call (.Attribute (.Call (.Name "super" p0) [] [] p1) "__init__" p2) [.Constant (.str m) j p3] [] p4) p5, .Assign [.Attribute (.Name "self" p6) f p7] (.Name v p8) p9] ∧
    ∀ (q : Str) (kV doc pm : Value) (an : Option Addr) (cd ct : Value) (cc L fI : Addr) (env : Env), env = callEnv (PySem.W.ksFn "__init__" q (defArgs st) (defBody st) (defScope st) .none kV doc pm an cd ct cc) L fI →
      (∃ pl : Sem Bool, eval (.Call (.Attribute (.Call (.Name "super" p0) [] [] p1) "__init__" p2) [.Constant (.str m) j p3] [] p4) env = (do
        let ov ← attributeBase (.Call (.Name "super" p0) [] [] p1) "__init__" env (eval (.Call (.Name "super" p0) [] [] p1) env)
        standAt p2.atName
        let (g, first) ← holding [ov] (getMethod ov "__init__" pl)
        callWith p4 g first (backTo p4 (starEach [.Constant (.str m) j p3] env)) [])) ∧
      swapsWith (.Call (.Attribute (.Call (.Name "super" p0) [] [] p1) "__init__" p2) [.Constant (.str m) j p3] [] p4) none p5.line env = pure false ∧
      swapsWith (.Name v p8) (some (.Attribute (.Name "self" p6) f p7)) p9.line env = pure false ∧ interactive env = false ∧
      starEach [.Constant (.str m) j p3] env = (false, eval (.Constant (.str m) j p3) env) :: starEach [] env
  ar : ∃ a0 a1, (defArgs st).posonlyargs = [] ∧ (defArgs st).args = [a0, a1] ∧ a0.arg = "self" ∧ a1.arg = v
  bd : ∀ (kV doc pm : Value) (an : Option Addr) (cd ct : Value) (q : Str) (cc : Addr) (x u : Value), bindArgs (PySem.W.ksFn "__init__" q (defArgs st) (defBody st) (defScope st) .none kV doc pm an cd ct cc) ⟨[x, u], []⟩ = pure ([(("self" : Str), x), (v, u)] : List (Str × Value))
  ks : (defScope st).names.lookup ("super" : Str) = some .globalImplicit
  kc : (defScope st).names.lookup ("__class__" : Str) = some .free
  k0 : (defScope st).names.lookup ("self" : Str) = some .local
  k1 : (defScope st).names.lookup v = some .local
  co : (defScope st).isCoroutine = false
  ge : (defScope st).isGenerator = false
  kd : (defScope st).kind = .function
  nc : ∀ x ∈ (defScope st).names, x.2 ≠ .cell
  nv : v ≠ "self"
  nd : (v == ("__debug__" : Str)) = false
section
open PySem.W
variable {P : Program} {w : World} {K : PySem.W.Frag} {mg : Str → Option Value} {base : Heap} {A : Around} {R : Result → Shared → Prop} {s : Shared} {C x t0 : Addr} {q f v m : Str} {st : Stmt} {u : Value}
theorem ini_raw (T : IniC P K C q st f) (Z : IniT st f v m) (md : Mod K mg base) (hb : ∀ b o, base.get? b = some o → s.heap.get? b = some o) (ms : mg "super" = none) (room : A.depth < recursionLimit) (hx : s.heap.get? x = some (HandSPX.excO C t0)) (bx : base.get? x = none)
    (fI : Addr) (hI : PySem.W.findIn K (.ref C) "__init__" = some (some (.ref fI)))
    (hR : ∀ h' dx t1 tk, (∀ b o, b ≠ x → s.heap.get? b = some o → h'.get? b = some o) → s.heap.objs.size ≤ dx → dx ≠ x → h'.get? x = some ({ cls := .ref C, dict := some dx, data := .fields #[.ref t1, .none, .none, .none, .bool false, .none] } : Obj) →
      h'.Ns1 dx (fun y => if y = f then some u else none) → R (.ok (.ret .none)) ⟨h', s.gens, s.drawn, tk, s.os⟩) :
    codeAny (model P w) A (.call (.ref fI) ⟨[.ref x, u], []⟩) R s := by
  obtain ⟨fI', cda, cc, oc, cl, ccl, od, cld, cdd, osl, csl, ccs, vs, file, tf, kV, doc, pm, ct, an, lf, hcd, lc, hvs, hfile, lcc, hi, ti⟩ := T.fx
  obtain rfl : fI = fI' := by rw [hI] at hi; injection hi with z; injection z with z; injection z
  have KX : K.In s.heap := md.kin.keeps hb
  obtain ⟨a0, a1, e0, e1, ea0, ea1⟩ := Z.ar
  obtain ⟨p0, p1, p2, p3, p4, p5, p6, p7, p8, p9, j, eb, ev⟩ := Z.body
  obtain ⟨hp, g, d, tk, os⟩ := s
  refine ks_codeAny_call_defAt (body := defBody st) room (KX _ _ lf) rfl (md.nolimit.keeps hb) (codeRec_of KX hcd) rfl (.of_eq (Z.bd _ _ _ _ _ _ _ _ _ _)) Z.nc (fun y hy => ?_) (fun h1 hns hk => ?_) Z.co Z.ge Z.kd
  · rcases List.mem_cons.mp hy with rfl | hy
    · exact Z.k0
    · rcases List.mem_cons.mp hy with rfl | hy
      · exact Z.k1
      · cases hy
  generalize ee : callEnv (ksFn "__init__" q (defArgs st) (defBody st) (defScope st) .none kV doc pm an (.ref cda) ct cc) hp.objs.size fI = env
  have n1 : env.kindOf ("super" : Str) = some .globalImplicit := by rw [← ee]; exact Z.ks
  have n2 : env.kindOf ("__class__" : Str) = some .free := by rw [← ee]; exact Z.kc
  have n3 : env.kindOf ("self" : Str) = some .local := by rw [← ee]; exact Z.k0
  have n4 : env.kindOf v = some .local := by rw [← ee]; exact Z.k1
  have n5 : env.scope.kind = .function := by rw [← ee]; exact Z.kd
  have n6 : env.func = some fI := by rw [← ee]; rfl
  have n7 : env.code = .ref cda := by rw [← ee]; rfl
  have n8 : env.cells.lookup ("__class__" : Str) = some cc := by rw [← ee]; rfl
  have n9 : env.globals = mainGlobals := by rw [← ee]; rfl
  have n10 : env.builtins = builtinsNs := by rw [← ee]; rfl
  have n11 : env.locals = hp.objs.size := by rw [← ee]; rfl
  obtain ⟨⟨pl, e1'⟩, e2', e3', e4', e5'⟩ := ev q kV doc pm an (.ref cda) ct cc hp.objs.size fI env ee.symm
  rw [eb]
  have K1 : K.In h1 := KX.keeps hk
  obtain ⟨nm, qq, N, bs, bm, sn, sub, ab, col, dd, k0, k1, k2, k3, k5, lC, hbm⟩ := T.o.cls
  have hC1 := K1 _ _ lC
  have hcl : clsIn K C = some { name := nm, bases := bs, mro := .ref C :: bm, ns := N, qualname := qq, hasDict := true, slotNames := sn, subclasses := sub, abstract := ab, collection := col, hasDel := false } := by unfold clsIn; rw [lC] <;> rfl
  have hx1 : h1.get? x = some (HandSPX.excO C t0) := hk _ _ hx
  have I1 : PySem.W.InstAt h1 x (HandSPX.excO C t0) C none := ⟨hx1, rfl, rfl, trivial⟩
  have nsb : ∀ {b : Addr} {n : Str → Option Value}, base.Ns b n → h1.Ns b n := fun q => q.keeps fun b o e => hk b o (hb b o e)
  obtain ⟨mb, hmb, hbb⟩ := md.blt
  have hns' : h1.Ns env.locals (fun y => List.lookup y [(v, u), (("self" : Str), Value.ref x)]) := by rw [n11]; exact hns
  have lself : List.lookup (("self" : Str)) [(v, u), (("self" : Str), Value.ref x)] = some (.ref x) := by
    rw [List.lookup_cons, show (("self" : Str) == v) = false by simpa using Ne.symm Z.nv]
    rfl
  refine ks_wpAt_execs_cons (ks_wpAt_Expr_any (ks_wpAt_MethodCall (pl := pl) (ks_wpAt_super_base (ar := a0) n1 n2 rfl n6 (hk _ _ (KX _ _ lf)) rfl ?_ n7 (hk _ _ (KX _ _ lc)) rfl hvs hfile T.top ?_) e1') e4' e2')
  · show ((defArgs st).posonlyargs ++ (defArgs st).args).head? = some a0
    rw [e0, e1]
    rfl
  refine ks_loadName_global n5 n1 (Calls.loadGlobal_builtin (by rw [n9]; exact nsb md.glob) ms (by rw [n10]; exact nsb hmb) ((hbb _ (by decide)).trans PyProof.Rows.Boot.«super») ⟨rfl, ?_⟩)
  refine wpAny_loadName_free n5 n2 n8 ⟨_, K1 _ _ lcc, rfl⟩ ?_
  rw [ea0]
  refine wpAny_loadName_local n5 n3 hns' lself ?_
  refine ks_wpAny_isType_cls hC1 rfl ⟨rfl, ?_⟩
  refine ks_wpAny_call_super hC1 rfl hx1 rfl (fun c z => by cases z) (looks_mroIn K1 T.me) fun h2 e2 k2 => ?_
  have K2 := K1.keeps k2
  have I2 : PySem.W.InstAt h2 x (HandSPX.excO C t0) C none := ⟨k2 _ _ hx1, rfl, rfl, trivial⟩
  have su := T.su
  unfold ks_superIn at su
  rw [hcl] at su
  refine kxs_getMethod kxs_ValueError e2 (looks_opaque K2 T.op) (l₀ := .ref C :: bm) (fun A Q E s k q => wpAny_bind ((looks_clsIn K2 hcl) A _ E s k (wpAny_pure q))) rfl K2 su (I2.type.andThen (looks_subIn K2 T.sb)) (ks_ne K2 I2 hcl) rfl ?_
  have k3 : ∀ b o, h2.get? b = some o → (h2.push (kxs_mw "ValueError.__init__" x)).get? b = some o := fun b o e => Heap.get?_push_of_some _ e
  have hw3 : (h2.push (kxs_mw "ValueError.__init__" x)).get? h2.objs.size = some (kxs_mw "ValueError.__init__" x) := Heap.get?_push_size _ rfl
  generalize h2.push (kxs_mw "ValueError.__init__" x) = h3 at k3 hw3 ⊢
  rw [e5']
  refine kxs_callWith (i := "ValueError.__init__") (x := x) rfl (Calls.evalArgs_plain (Calls.spliced_cons ?_))
  rw [if_neg Bool.false_ne_true]
  refine Calls.Constant_str ?_
  refine Calls.spliced_nil ⟨hw3, ?_⟩
  have hx3 := k3 _ _ (k2 _ _ hx1)
  have hC3 := k3 _ _ (k2 _ _ hC1)
  have xC : x ≠ C := ks_ne K2 I2 hcl
  refine wpAny_call (codeAny_of_tree ?_)
  show wpAny _ (A.deeper env).in1 (callAny (.ref h2.objs.size) ⟨[.str m _], []⟩) _ _ _
  simp only [callAny]
  refine wpAny_bind (wpAny_load hw3 ?_)
  show wpAny _ _ (if ((Value.type "method-wrapper") == Value.type "method" || (Value.type "method-wrapper") == Value.type "builtin_function_or_method" || (Value.type "method-wrapper") == Value.type "method-wrapper") = true then _ else _) _ _ _
  rw [if_pos (by decide)]
  show wpAny _ _ (if ((Value.type "method-wrapper") != Value.type "method") = true then _ else _) _ _ _
  rw [if_pos (by decide)]
  refine wpAny_bind (check_bound_init F.excBase_ValueError.toExcCallFacts hC3 hx3 rfl ?_)
  refine wpAny_bind (wpAny_pure (wpAny_pure ⟨plainId_quiet F.excBase_ValueError.init.plain _, codeAny_builtin F.excBase_ValueError.initEntry ?_⟩))
  refine exc_init_tree (cls := .ref C) (t0 := t0) (dv := none) (c2 := .none) (c3 := .none) (b4 := .bool false) hx3 (by rw [sizeLine_eq]; show 1 ≤ _; omega) fun h4 k4 e4 _ => ?_
  have xl : x < hp.objs.size := Heap.lt_size hx
  have k14 : ∀ b o, b ≠ x → h1.get? b = some o → h4.get? b = some o := fun b o n e => k4 b o n (k3 b o (k2 b o e))
  have hns4 : h4.Ns env.locals (fun y => List.lookup y [(v, u), (("self" : Str), Value.ref x)]) := by
    obtain ⟨o, es, ep, ho, r⟩ := hns'
    exact ⟨o, es, ep, k14 _ _ (by rw [n11]; exact (Nat.ne_of_lt xl).symm) ho, r⟩
  have lv : List.lookup v [(v, u), (("self" : Str), Value.ref x)] = some u := by
    rw [List.lookup_cons, show (v == v) = true by simp]
  have nx0 : ∀ b o, base.get? b = some o → b ≠ x := fun b o e z => by rw [z, bx] at e; cases e
  have K4 : K.In h4 := md.kin.keeps fun b o e => k14 b o (nx0 b o e) (hk b o (hb b o e))
  refine ks_wpAt_execs_cons (ks_wpAt_Assign_Attr ?_ e3')
  refine wpAt_of_wpAny (wpAny_Name ?_ Z.nd)
  refine wpAny_loadName_local n5 n4 hns4 lv ?_
  refine wpAny_Name ?_ (by decide)
  refine wpAny_loadName_local n5 n3 hns4 lself ?_
  refine set_plain K4 (ox := { cls := .ref C, dict := none, data := .fields #[.ref h3.objs.size, .none, .none, .none, .bool false, .none] }) (od := none) ⟨e4, rfl, rfl, trivial⟩ T.o.sa ?_
  refine HandSPX.exc_osa K4 e4 hcl (show HandSPX.refsVE (.ref C :: bm) = true from hbm) rfl T.no (fun h5 tk5 dx k5' dn dne hx5 hn5 => ?_)
  refine wpAt_of_wpAny (wpAny_execs_nil ?_)
  refine hR h5 dx _ tk5 (fun b o n e => k5' b o n (k14 b o n (hk b o e))) ?_ dne hx5 hn5
  have l4 : hp.objs.size < h4.objs.size := by
    obtain ⟨o, _, _, ho, _⟩ := hns4
    rw [← n11]
    exact Heap.lt_size ho
  exact Nat.le_trans (Nat.le_of_lt l4) dn
end
section
open PySem.W
variable {X : Cx} {pins : List (Addr × Obj)} {σ : L2.St} {H1 : Hp} {C : Addr} {q f v m x : Str} {st : Stmt} {u : Value} {y : V} {p pos : Pos} {e : Expr} {te : TE}
/-- C(u) made: the error at a, its dict at dx, all else as it was -/
theorem make_ini {R : Result → Shared → Prop} {hp : Heap} {g : Array GenState} {d : Drawn} {tk : Nat} {os : OsState} (I : Inv X pins σ H1 ⟨hp, g, d, tk, os⟩) (T : IniC X.prog X.K C q st f) (Z : IniT st f v m) (ms : X.mg "super" = none) (room : Room 1 X.A)
    (h : ∀ h' a dx t1 tk', (∀ b o, hp.get? b = some o → h'.get? b = some o) → hp.objs.size ≤ a → hp.objs.size ≤ dx → dx ≠ a → h'.get? a = some ({ cls := .ref C, dict := some dx, data := .fields #[.ref t1, .none, .none, .none, .bool false, .none] } : Obj) →
      h'.Ns1 dx (fun z => if z = f then some u else none) → R (.ok (.ret (.ref a))) ⟨h', g, d, tk', os⟩) : codeAny (model X.prog X.w) X.A (.call (.ref C) ⟨[u], []⟩) R ⟨hp, g, d, tk, os⟩ := by
  obtain ⟨nm, qq, N, bs, bm, sn, sub, ab, col, dd, k0, k1, k2, k3, k5, lC, hbm⟩ := T.o.cls
  obtain ⟨fI, cda, cc, oc, cl, ccl, od, cld, cdd, osl, csl, ccs, vs, file, tf, kV, doc, pm, ct, an, lf, hcd, lc, hvs, hfile, lcc, hi, ti⟩ := T.fx
  have up : ∀ b o, hp.get? b = some o → ((hp.push (kdv_tup [u])).push (HandSPX.excO C hp.objs.size)).get? b = some o := fun b o z => Heap.get?_push_of_some _ (Heap.get?_push_of_some _ z)
  have at_ : ((hp.push (kdv_tup [u])).push (HandSPX.excO C hp.objs.size)).get? (hp.objs.size + 1) = some (HandSPX.excO C hp.objs.size) := by heap_get
  have KX := I.kIn
  refine HandSPX.call_own F.excBase_ValueError (fun Y => HandSPX.refsVE_contains Y bm hbm) (KX _ _ lC) (looks_findIn KX hi) (fun self => bind_fn KX self ti) (by rw [sizeLine_eq]; show 1 ≤ _; omega) ?_
  refine ini_raw (base := X.base) (mg := X.mg) T Z I.ok.mod (fun b o z => up b o (I.bk b o z)) ms ?_ at_ ?_ fI hi (fun h' dx t1 tk' k dn dne ha hn => ?_)
  · have := (room.make C [u] []).dp
    omega
  · cases z : X.base.get? (hp.objs.size + 1) with
    | none => rfl
    | some o => exact absurd (Heap.lt_size (I.bk _ _ z)) (by show ¬ (hp.objs.size + 1 < hp.objs.size); omega)
  · have sz : hp.objs.size ≤ ((hp.push (kdv_tup [u])).push (HandSPX.excO C hp.objs.size)).objs.size := by rw [Heap.size_push, Heap.size_push]; omega
    exact ⟨rfl, h h' _ dx t1 tk' (fun b o z => k b o (Nat.ne_of_lt (Nat.lt_succ_of_lt (Heap.lt_size z))) (up b o z)) (Nat.le_succ _) (Nat.le_trans sz dn) dne ha hn⟩
end
section
open PySem.W
variable {X : Cx} {C : Addr} {q f v m x : Str} {st : Stmt} {p pos : Pos} {e : Expr} {ta : TA}
theorem relO_one {f : Str} {y : V} {u : Value} (ry : RelV y u) (g : Str) : RelO ([(f, y)].lookup g) (if g = f then some u else none) := relO_put (fs := []) (mA := fun _ => none) ry (fun _ => True.intro) g
/-- what making an error leaves: it and its dict are new -/
theorem make_end {pins : List (Addr × Obj)} {σ : L2.St} {H1 : Hp} {hp h' : Heap} {g : Array GenState} {d : Drawn} {tk tk' : Nat} {os : OsState} {a dx : Addr} {y : V} {u : Value} (I : Inv X pins σ H1 ⟨hp, g, d, tk, os⟩) (k : ∀ b o, hp.get? b = some o → h'.get? b = some o)
    (an : hp.objs.size ≤ a) (dn : hp.objs.size ≤ dx) (dne : dx ≠ a) (hn : h'.Ns1 dx (fun z => if z = f then some u else none)) (ry : RelV y u) :
    ∃ G : Heap, (∀ b o, G.get? b = some o → h'.get? b = some o) ∧ G.get? a = none ∧ (∀ b, b ≠ a → G.get? b = h'.get? b) ∧ Inv X pins σ (upd H1 dx (.xd [(f, y)])) ⟨G, g, d, tk', os⟩ := by
  obtain ⟨G, g1, g2⟩ := restrict h' fun b => decide (b ≠ a)
  have gk : ∀ b, b ≠ a → G.get? b = h'.get? b := fun b hb => g1 b (decide_eq_true hb)
  have ga : G.get? a = none := g2 a (by simp)
  refine ⟨G, fun b o z => ?_, ga, gk, ?_⟩
  · by_cases hb : b = a
    · rw [hb, ga] at z; cases z
    · exact (gk b hb).symm.trans z
  · refine I.laidN (t' := tk') (fun b o z => ?_) ?_ (I.hok.fresh dn) ⟨_, hn.at fun o z => (gk dx dne).trans z, relO_one ry⟩
    · rw [gk b (Nat.ne_of_lt (Nat.lt_of_lt_of_le (Heap.lt_size z) an))]
      exact k b o z
    · exact PyProof.Rows.new_of_ge dn
/-- C(e), for raise -/
theorem pmk_ini (T : IniC X.prog X.K C q st f) (Z : IniT st f v m) (ms : X.mg "super" = none) (room : Room 1 X.A) (gC : X.mg x = some (.ref C)) (hg : Gl X x) (ha : PA X [e] ta)
    (hdb : (x == ("__debug__" : Str)) = false := by decide) (hst : starEach [e] X.env = (false, eval e X.env) :: starEach [] X.env := by rfl) (hpl : (backTo pos (starEach [] X.env)).any (·.1) = false := by rfl) :
    L2N.PMk X (.Call (.Name x p) [e] [] pos) (fun σ H Q => ta σ H fun vs H1 => ∃ y, vs = [y] ∧ ∀ dx, H1 dx = none → Q (.ref C) (some dx) (upd H1 dx (.xd [(f, y)]))) := by
  intro pins s σ H Q I h
  refine wpAny_Call_Name_kw (ld_glob I hg gC ?_ hdb)
  refine callWith_K (h₀ := X.base) I.ok.mod.kin T.o.kC (thn (ha.run pos pins s σ H _ I h) fun us s1 hh => ?_) hst hpl
  obtain ⟨vs, H1, I1, r1, y, rfl, hq⟩ := hh
  obtain ⟨u, rfl, ry⟩ : ∃ u, us = [u] ∧ RelV y u := by
    cases r1 with
    | cons r rr => cases rr; exact ⟨_, rfl, r⟩
  refine ⟨I1.kIn, ?_⟩
  show wpAny _ _ (call (.ref C) [u]) _ _ _
  obtain ⟨hp, g, d, tk, os⟩ := s1
  refine wpAny_call (make_ini I1 T Z ms room fun h' a dx t1 tk' k an dn dne he hn => ?_)
  obtain ⟨G, gs, ga, gk, J⟩ := make_end (tk' := tk') I1 k an dn dne hn ry
  have na : upd H1 dx (.xd [(f, y)]) a = none := by rw [upd_ne (Ne.symm dne)]; exact I1.hok.fresh an
  exact ⟨a, _, _, ⟨G, g, d, tk', os⟩, _, .ref C, some dx, rfl, J, gs, ga, he, ⟨rfl, rfl, fun vs z => by cases z; rfl⟩, rfl, rfl, na, rfl, I1.bare, raises_own T.o.exC T.o.tyC, hq dx (I1.hok.fresh dn)⟩
/-- C(e), as a value -/
theorem pe_ini (T : IniC X.prog X.K C q st f) (Z : IniT st f v m) (ms : X.mg "super" = none) (room : Room 1 X.A) (gC : X.mg x = some (.ref C)) (hg : Gl X x) (ha : PA X [e] ta)
    (hdb : (x == ("__debug__" : Str)) = false := by decide) (hst : starEach [e] X.env = (false, eval e X.env) :: starEach [] X.env := by rfl) (hpl : (backTo pos (starEach [] X.env)).any (·.1) = false := by rfl) :
    PE X (.Call (.Name x p) [e] [] pos) (fun σ H Q => ta σ H fun vs H1 => ∃ y, vs = [y] ∧ ∀ a dx, H1 dx = none → H1 a = none → dx ≠ a → Q (.ref a) (upd (upd H1 dx (.xd [(f, y)])) a (ErO (.ref C) (some dx) a))) := by
  refine ⟨fun pins s σ H Q I h => wpAny_Call_Name_kw (ld_glob I hg gC (callWith_K (h₀ := X.base) I.ok.mod.kin T.o.kC (thn (ha.run pos pins s σ H _ I h) fun us s1 hh => ?_) hst hpl) hdb)⟩
  obtain ⟨vs, H1, I1, r1, y, rfl, hq⟩ := hh
  obtain ⟨u, rfl, ry⟩ : ∃ u, us = [u] ∧ RelV y u := by
    cases r1 with
    | cons r rr => cases rr; exact ⟨_, rfl, r⟩
  refine ⟨I1.kIn, ?_⟩
  show wpAny _ _ (call (.ref C) [u]) _ _ _
  obtain ⟨hp, g, d, tk, os⟩ := s1
  refine wpAny_call (make_ini I1 T Z ms room fun h' a dx t1 tk' k an dn dne he hn => ?_)
  obtain ⟨G, gs, ga, gk, J⟩ := make_end (tk' := tk') I1 k an dn dne hn ry
  have na : upd H1 dx (.xd [(f, y)]) a = none := by rw [upd_ne (Ne.symm dne)]; exact I1.hok.fresh an
  have J2 := J.laidN (t' := tk') (a := a) (o := ErO (.ref C) (some dx) a) gs ga na (erO_mk he ⟨rfl, rfl⟩ rfl)
  exact ⟨.ref a, _, J2, rfl, hq a dx (I1.hok.fresh dn) (I1.hok.fresh an) dne⟩
/-- raise C(e) -/
theorem ps_raiseI {W : WX} {p' : Pos} (T : IniC X.prog X.K C q st f) (Z : IniT st f v m) (ms : X.mg "super" = none) (room : Room 1 X.A) (gC : X.mg x = some (.ref C)) (hc : X.calm = true) (tk : L2N.Takes X W) (hg : Gl X x) (ha : PA X [e] ta)
    (hdb : (x == ("__debug__" : Str)) = false := by decide) (hst : starEach [e] X.env = (false, eval e X.env) :: starEach [] X.env := by rfl) (hpl : (backTo pos (starEach [] X.env)).any (·.1) = false := by rfl) :
    PS X (.Raise (some (.Call (.Name x p) [e] [] pos)) none p') (fun _ σ H => ta σ H fun vs H1 => ∃ y, vs = [y] ∧ ∀ dx, H1 dx = none → W (.ref C) (some dx) σ (upd H1 dx (.xd [(f, y)]))) :=
  L2N.ps_raise hc tk (pmk_ini T Z ms room gC hg ha hdb hst hpl)
/-- raise C('..'), C without own __init__ -/
theorem ps_raiseN {W : WX} {j : Nat} {p2 p' : Pos} {msg : Str} (E : Err X.K X.mg x C) (hc : X.calm = true) (tk : L2N.Takes X W) (hg : Gl X x) (hdb : (x == ("__debug__" : Str)) = false := by decide) :
    PS X (.Raise (some (.Call (.Name x p) [.Constant (.str msg) j p2] [] pos)) none p') (fun _ σ H => W (.ref C) none σ H) :=
  L2N.ps_raise hc tk (L2N.pmk_own PySem.F.excBase_ValueError E.q E.g E.k (raises_own E.e E.t) hg hdb)
end
section
variable {P : Program} {w : World} {K : PySem.W.Frag} {mg : Str → Option Value} {base : Heap}
/-- THE RULE for a def that may raise errors whose context is None -/
theorem Has.ofN {x : Str} {st : Stmt} {N ps : List Str} {k : Nat} {sp : Sp} (at_ : At K mg x st) (S : FnScope N ps (defScope st)) (len : ∀ vs H Q E, sp vs H Q E → vs.length = ps.length)
    (bd : ∀ (kV doc pm : Value) (an : Option Addr) (cdv ct : Value) (us : List Value), us.length = ps.length → bindArgs (PySem.W.fnOf x x (defArgs st) (defBody st) (defScope st) .none kV doc pm an cdv ct) ⟨us, []⟩ = pure (ps.zip us))
    (walk : ∀ (f : Addr) (cdv : Value) (A : Around) (outer : List Env) (s : Shared) (H : Hp) (vs : List V) (Q : VK) (E : XK), Room k (A.deeper (envOfC x (defScope st) s.heap.objs.size f cdv)) → Quiet (A.deeper (envOfC x (defScope st) s.heap.objs.size f cdv)) → sp vs H Q E →
      ∃ t, PSs (cxOf (L2N.CX P w) P w K mg base N x (defScope st) f cdv A outer s H E) (defBody st) t ∧ t { nx := fun _ H' => Q .non H', rt := Q } (start N vs) H) :
    Has P w K mg base (L2N.CX P w) (k + 1) x st ps sp := by
  obtain ⟨f, fd, F, m⟩ := at_
  exact ⟨f, fd, F, m, FnG.of F S len (walk f), F.binds bd⟩
/-- the function at the address f keeps the promise sp -/
def FnV (P : Program) (w : World) (K : PySem.W.Frag) (mg : Str → Option Value) (base : Heap) (CX : CXT) (k : Nat) (f : Addr) (n : Nat) (sp : Sp) : Prop :=
  ∃ x st fd ps, Fun K x x st f fd ∧ FnG P w K mg base CX k f fd ps sp ∧ L2.Binds K fd ps [] ∧ ps.length = n
theorem Has.v {CX : CXT} {k n : Nat} {x : Str} {st : Stmt} {ps : List Str} {sp : Sp} (h : Has P w K mg base CX k x st ps sp) (hn : ps.length = n := by rfl) : ∃ f, mg x = some (.ref f) ∧ FnV P w K mg base CX k f n sp := by
  obtain ⟨f, fd, F, m, G, b⟩ := h
  exact ⟨f, m, x, st, fd, ps, F, G, b, hn⟩
end
section
variable {X : Cx} {CX : CXT} {E : L2.St → XK} {k : Nat} {fe e : Expr} {es : List Expr} {tf : TE} {t : TA} {pos : Pos}
def tCallV (P : Program) (w : World) (K : PySem.W.Frag) (mg : Str → Option Value) (base : Heap) (CX : CXT) (k : Nat) (E : L2.St → XK) (tf : TE) (t : TA) : TE := fun σ H Q => tf σ H fun z H1 => ∃ f n sp, z = .ref f ∧ FnV P w K mg base CX k f n sp ∧ t σ H1 fun vs H2 => sp vs H2 Q (E σ)
/-- fe(e, ..), fe any expression that gives a function -/
theorem pe_callV (room : Room k X.A) (qt : Quiet X.A) (hf : PE X fe tf) (hx : ∀ σ, PassesAt CX X σ (E σ)) (ha : PA X (e :: es) t)
    (ht : eval (.Call fe (e :: es) [] pos) X.env = (do callWith pos (← eval fe X.env) [] (backTo pos (starEach (e :: es) X.env)) (backToKw pos (keywordEach [] X.env))) := by rfl)
    (hst : starEach (e :: es) X.env = (false, eval e X.env) :: starEach es X.env := by rfl) (hpl : (backTo pos (starEach es X.env)).any (·.1) = false := by rfl) :
    PE X (.Call fe (e :: es) [] pos) (tCallV X.prog X.w X.K X.mg X.base CX k E tf t) := by
  refine ⟨fun pins s σ H Q I h => Call_ (thn (hf.run pins s σ H _ I h) fun u s1 ⟨z, H1, I1, rz, f, n, sp, ez, ⟨x, st, fd, ps, F, G, b, hn⟩, q⟩ => ?_) ht⟩
  subst ez
  obtain rfl : u = Value.ref f := rz
  refine PySem.W.callWith_K (h₀ := X.base) I1.ok.mod.kin F.kp (thn (ha.run pos pins s1 σ H1 _ I1 q) fun us s2 ⟨vs, H2, I2, r, q2⟩ => ⟨I2.kIn, ?_⟩) hst hpl
  exact goS G room qt b (hx σ) I2 r q2
end
end SH

/-! SH20: what is known of the classes of errors. -/
namespace SH
open PySem PySem.Spec PyProof.Rows L2
/-- is an error of the class at C an instance of each of these -/
def Kits (K : PySem.W.Frag) (C : Addr) : List (Value × Bool) → Prop
  | [] => True
  | (c, b) :: r => PySem.W.kitOne K (.ref C) c = some b ∧ Kits K C r
structure ErK (K : PySem.W.Frag) (C : Addr) (l : List (Value × Bool)) : Prop where
  ex : ExcC K C
  kit : Kits K C l
theorem kitAny_no {K : PySem.W.Frag} {t : Value} : ∀ {cs : List Value}, (∀ c ∈ cs, PySem.W.kitOne K t c = some false) → PySem.W.kitAny K t cs = some false
  | [], _ => rfl
  | c :: cs, h => kitAny_cons (h c List.mem_cons_self) (fun _ => kitAny_no fun d hd => h d (List.mem_cons_of_mem _ hd)) (fun z => nomatch z)
/-- a value that is any, at a heap that keeps what was -/
def RetAny (Q : VK) (H : Hp) : Prop := ∀ v H', Same H H' → Q v H'
/-- an error of the class at C without a dict -/
def Rai (E : XK) (H : Hp) (C : Addr) : Prop := ∀ H', Same H H' → E (.ref C) none H'
/-! ### xs.count(y), flat items -/
def rCountF (K : PySem.W.Frag) : V → List V → Hp → VK → Prop := fun x xs H Q => ∃ (a : Addr) (ys : List V) (y : V), x = V.ref a ∧ xs = [y] ∧ SqL K H a ys ∧ flatV y = true ∧ ys.all flatV = true ∧ Q (.int (ys.countP (fun z => eqV z y) : Nat)) H
theorem count_vals {y : V} {ys : List V} {us : List Value} (r : Vals ys us) : ys.all flatV = true → us.countP (eqU y) = ys.countP (fun z => eqV z y) := by
  induction r with
  | nil => intro _; rfl
  | cons ra rt ih =>
    intro f
    rw [List.all_cons, Bool.and_eq_true] at f
    rw [List.countP_cons, List.countP_cons, ih f.2, eqU_of ra f.1]
theorem mt_countF {X : Cx} : MtR X "list.count" (rCountF X.K) := by
  intro pins s σ H x xs v us Q I rx rxs h
  obtain ⟨a, ys, y, rfl, rfl, hs, fy, fys, q⟩ := h
  cases rx
  obtain ⟨u, rfl, ru⟩ := rxs.one
  obtain ⟨its, rv, ⟨⟨cls, dd, data, sl⟩, n, ho, hc, hdn, hd⟩, hlen⟩ := I.list hs
  simp only at hc hd
  subst hc hd
  refine call_meets PySem.F.slot_list_count ⟨_, ho, rfl⟩ PySem.F.entry_list_count (PySem.F.args_list_count_2 _ _) (SeqAt.list_countAt a its.toArray n dd sl u (eqU y)) ⟨ho, fun w hw => mem_eqAt ru fy rv fys w (by simpa using hw), ?_⟩
  refine ⟨.int (ys.countP (fun z => eqV z y) : Nat), H, I.tok _, ⟨s.toks, ?_⟩, q⟩
  have e : its.toArray.toList.countP (eqU y) = ys.countP (fun z => eqV z y) := count_vals rv fys
  rw [e]
theorem hot_room {j k : Nat} {A : Around} {e : Option Value} (r : Room k A) (h : j ≤ k) : L2H.RoomH j (A.mark e) := ⟨(r.mono h).dp, (r.mono h).un⟩
/-- a statement whose ends are told once -/
theorem seq_cut {t u : TS} {D : Ends} {σ : L2.St} {H : Hp} (Inv : L2.St → Hp → Prop) (hu : ∀ τ G, Inv τ G → u D τ G) (ht : (∀ τ G, Inv τ G → u D τ G) → t { D with nx := u D } σ H) : tSeq t u D σ H := ht hu
/-! ### lists of texts -/
def okT (x : Str) : Bool := PyData.canLay0 (.str x)
abbrev tv (ss : List Str) : List V := ss.map V.str
def dT (ss : List Str) : PyData := .list (ss.map PyData.str)
theorem eqv_strs : ∀ ss ts : List Str, PyData.eqvAll (ss.map PyData.str) (ts.map PyData.str) = decide (ss = ts)
  | [], [] => rfl
  | [], _ :: _ => rfl
  | _ :: _, [] => rfl
  | n :: r, m :: q => by
    show ((n == m) && PyData.eqvAll (r.map PyData.str) (q.map PyData.str)) = _
    rw [eqv_strs r q, Bool.eq_iff_iff]
    simp
theorem depth_strs : ∀ ss : List Str, PyData.depthAll (ss.map PyData.str) = 0
  | [] => rfl
  | n :: r => by show max 0 (PyData.depthAll (r.map PyData.str)) = 0; rw [depth_strs r]; rfl
theorem shaped_dT (ss : List Str) (ok : ss.all okT = true) : SeqAt.shaped (dT ss) = true := by
  have c : ∀ ms : List Str, ms.all okT = true → PyData.canLayAll0 (ms.map PyData.str) = true := fun ms => by
    induction ms with
    | nil => intro _; rfl
    | cons n r ih =>
      intro h
      rw [List.all_cons, Bool.and_eq_true] at h
      show (okT n && PyData.canLayAll0 (r.map PyData.str)) = true
      rw [h.1, ih h.2]; rfl
  unfold SeqAt.shaped
  have d : (dT ss).depth = 1 := by show PyData.depthAll (ss.map PyData.str) + 1 = 1; rw [depth_strs]
  rw [d]
  show (PyData.canLayAll0 (ss.map PyData.str) && decide (1 ≤ 64)) = true
  rw [c ss ok]
  rfl
theorem dp_strs {K : PySem.W.Frag} {H : Hp} : ∀ ss : List Str, DpAll K H (tv ss) (ss.map PyData.str)
  | [] => .nil
  | n :: r => .cons (.str n) (dp_strs r)
theorem neD_strs {K : PySem.W.Frag} {H : Hp} {a b : Addr} {ss ts : List Str} {Q : VK} (ha : SqL K H a (tv ss)) (hb : SqL K H b (tv ts)) (o1 : ss.all okT = true) (o2 : ts.all okT = true) (q : Q (.bl (!decide (ss = ts))) H) : rNeD K (.ref a) (.ref b) H Q :=
  ⟨dT ss, dT ts, .lst ha (dp_strs ss), .lst hb (dp_strs ts), shaped_dT ss o1, shaped_dT ts o2, by rw [show PyData.eqv (dT ss) (dT ts) = decide (ss = ts) from eqv_strs ss ts]; exact q⟩
theorem eqD_strs {K : PySem.W.Frag} {H : Hp} {a b : Addr} {ss ts : List Str} {Q : VK} (ha : SqL K H a (tv ss)) (hb : SqL K H b (tv ts)) (o1 : ss.all okT = true) (o2 : ts.all okT = true) (q : Q (.bl (decide (ss = ts))) H) : rEqD K (.ref a) (.ref b) H Q :=
  ⟨dT ss, dT ts, .lst ha (dp_strs ss), .lst hb (dp_strs ts), shaped_dT ss o1, shaped_dT ts o2, by rw [show PyData.eqv (dT ss) (dT ts) = decide (ss = ts) from eqv_strs ss ts]; exact q⟩
end SH

/-! SH21: repr of values of any kind; only the dicts in them need stand apart from the module table, and they do. -/
namespace SH
open PySem PySem.Spec PyProof.Rows L2
section
variable {X : Cx} {pins : List (Addr × Obj)} {σ : L2.St} {H : Hp} {s : Shared}
abbrev Rk (X : Cx) (s : Shared) (u : Value) (d : PyData) : Prop := ∃ bs, ReadAtMost s.heap d.depth bs ∧ ReprK X.prog X.w bs s.heap d.depth u d.shown
abbrev RkA (X : Cx) (s : Shared) (us : List Value) (ds : List PyData) : Prop := ∃ bs, ReadAtMost s.heap (PyData.depthAll ds) bs ∧ ReprAllK X.prog X.w bs s.heap (PyData.depthAll ds) us (PyData.shownAll ds)
theorem list_rk {a : Addr} {o : Obj} {its : List Value} {n : Nat} {ds : List PyData} {as : List Addr} (e : s.heap.get? a = some o) (c : o.cls = .type "list") (dt : o.data = .seq its.toArray n) (hr : ReadsAll s.heap its ds as) (k : RkA X s its ds) : Rk X s (.ref a) (.list ds) := by
  obtain ⟨bs, hb, hk⟩ := k
  have r : Reads s.heap (.ref a) (.list ds) (a :: as) := .list e c dt hr
  have ap : a ∉ bs := not_mem_of_deeper r (by simp only [PyData.depth]; omega) hb
  refine ⟨a :: bs, ReadAtMost.cons r (by simp only [PyData.depth]; omega) hb, ?_⟩
  simp only [PyData.depth, PyData.shown]
  cases its with
  | nil =>
    cases hr
    simp only [PyData.shownAll, listText_nil]
    exact ReprK.listEmpty e c dt
  | cons x l => exact ReprK.list e c dt ap (by simpa using hk.length_eq) fun i y q => hk.item i y (by simpa using q)
theorem tup_rk {a : Addr} {o : Obj} {its : List Value} {n : Nat} {ds : List PyData} {as : List Addr} (e : s.heap.get? a = some o) (c : o.cls = .type "tuple") (dt : o.data = .seq its.toArray n) (hr : ReadsAll s.heap its ds as) (k : RkA X s its ds) : Rk X s (.ref a) (.tuple ds) := by
  obtain ⟨bs, hb, hk⟩ := k
  have r : Reads s.heap (.ref a) (.tuple ds) as := .tuple e c dt hr
  have ap : a ∉ bs := not_mem_of_deeper r (by simp only [PyData.depth]; omega) hb
  refine ⟨a :: bs, ReadAtMost.cons r (by simp only [PyData.depth]; omega) hb, ?_⟩
  simp only [PyData.depth, PyData.shown]
  exact ReprK.tuple e c dt ap hk
theorem cons_rk {u : Value} {us : List Value} {d : PyData} {ds : List PyData} (h1 : Rk X s u d) (h2 : RkA X s us ds) : RkA X s (u :: us) (d :: ds) := by
  obtain ⟨b1, m1, k1⟩ := h1
  obtain ⟨b2, m2, k2⟩ := h2
  refine ⟨b1 ++ b2, fun b hm => ?_, ?_⟩
  · show ∃ d' as', Reads s.heap (.ref b) d' as' ∧ d'.depth ≤ max d.depth (PyData.depthAll ds)
    rcases List.mem_append.mp hm with z | z
    · obtain ⟨d', as', r, q⟩ := m1 b z
      exact ⟨d', as', r, by omega⟩
    · obtain ⟨d', as', r, q⟩ := m2 b z
      exact ⟨d', as', r, by omega⟩
  · simp only [PyData.depthAll, PyData.shownAll]
    exact .cons ((k1.more fun b hb => List.mem_append_left _ hb).level_le (Nat.le_max_left _ _)) (k2.more_le (fun b hb => List.mem_append_right _ hb) (Nat.le_max_right _ _))
theorem of_rk {u : Value} {d : PyData} {as : List Addr} (r : Reads s.heap u d as) (hs : d.showable = true) (hz : d.shown.length ≤ sizeLine) (hd : d.hasDict = true → sysModules ∉ as) : Rk X s u d := ReprK.of_reads r hs hd hz
mutual
theorem Dx.rk (I : Inv X pins σ H s) : ∀ (d : PyData) (v : V) (u : Value) (as : List Addr), Dx H v d as → RelV v u → d.showable = true → d.shown.length ≤ sizeLine → Rk X s u d
  | .none, _, _, _, h, r, hs, hz => by obtain ⟨bs, q, _⟩ := Dx.reads I _ _ _ _ h r; exact of_rk q hs hz fun z => nomatch z
  | .bool b, _, _, _, h, r, hs, hz => by obtain ⟨bs, q, _⟩ := Dx.reads I _ _ _ _ h r; exact of_rk q hs hz fun z => nomatch z
  | .int i, _, _, _, h, r, hs, hz => by obtain ⟨bs, q, _⟩ := Dx.reads I _ _ _ _ h r; exact of_rk q hs hz fun z => nomatch z
  | .str x, _, _, _, h, r, hs, hz => by obtain ⟨bs, q, _⟩ := Dx.reads I _ _ _ _ h r; exact of_rk q hs hz fun z => nomatch z
  | .dict _, _, _, _, h, r, hs, hz => by
    obtain ⟨bs, q, sub⟩ := Dx.reads I _ _ _ _ h r
    cases h with
    | emp e =>
      obtain ⟨_, nm, _⟩ := dk_of I.hok e
      refine of_rk q hs hz fun _ z => ?_
      have := List.mem_singleton.mp (sub _ z)
      rw [← this] at nm
      simp at nm
  | .list ds, _, _, _, h, r, hs, hz => by
    cases h with
    | lst e ha =>
      cases r
      obtain ⟨its, rv, ⟨o, n, ho, hc, _, hd⟩, _⟩ := I.list (SqL.of e)
      obtain ⟨bs, hr, _⟩ := Dx.readsAll I ds _ its _ ha rv
      exact list_rk ho hc hd hr (Dx.rkAll I ds _ its _ ha rv (by simpa [PyData.showable] using hs) fun t ht => Nat.le_trans (listText_mem_le ht) (by simpa only [PyData.shown] using hz))
  | .tuple ds, _, _, _, h, r, hs, hz => by
    cases h with
    | tup e ha =>
      cases r
      obtain ⟨its, rv, ⟨o, ho, hc, n, hd⟩, _⟩ := I.tuple (SqT.of e)
      obtain ⟨bs, hr, _⟩ := Dx.readsAll I ds _ its _ ha rv
      exact tup_rk ho hc hd hr (Dx.rkAll I ds _ its _ ha rv (by simpa [PyData.showable] using hs) fun t ht => Nat.le_trans (tupleText_mem_le ht) (by simpa only [PyData.shown] using hz))
theorem Dx.rkAll (I : Inv X pins σ H s) : ∀ (ds : List PyData) (vs : List V) (us : List Value) (as : List Addr), DxAll H vs ds as → Vals vs us → PyData.showableAll ds = true → (∀ t ∈ PyData.shownAll ds, t.length ≤ sizeLine) → RkA X s us ds
  | [], _, _, _, h, r, _, _ => by
    cases h
    cases r
    exact ⟨[], (fun b z => absurd z List.not_mem_nil), .nil⟩
  | d :: ds, _, _, _, h, r, hs, hz => by
    cases h with
    | cons h1 h2 =>
      cases r with
      | cons r1 r2 =>
        have hs' : d.showable = true ∧ PyData.showableAll ds = true := by simpa [PyData.showableAll] using hs
        exact cons_rk (Dx.rk I d _ _ _ h1 r1 hs'.1 (hz _ (by simp only [PyData.shownAll]; exact List.mem_cons_self))) (Dx.rkAll I ds _ _ _ h2 r2 hs'.2 fun t ht => hz t (by simp only [PyData.shownAll]; exact List.mem_cons_of_mem _ ht))
end
end
/-- repr(x), x of any kind -/
def rReprY : List V → Hp → VK → Prop := fun xs H Q => ∃ (x : V) (d : PyData) (as : List Addr), xs = [x] ∧ Dx H x d as ∧ Fits 50 16000000 d ∧ Q (.str d.shown) H
theorem call_reprY {X : Cx} (qt : Quiet X.A) (hu : X.A.units + 64 < cLine) : CallR X (.builtin "repr") rReprY := by
  intro pins s σ H xs us Q I r h
  obtain ⟨x, d, as, rfl, hd, fd, q⟩ := h
  have hz : d.shown.length ≤ sizeLine := Nat.le_trans fd.2.2 (by decide)
  obtain ⟨u, eu, rx⟩ := vals1 r
  have fin : ∀ h' (v : Tok) tk, (∀ b o, s.heap.get? b = some o → h'.get? b = some o) → EP X pins σ Q (.str d.shown v) { s with heap := h', toks := tk } := fun h' v tk k => ⟨.str d.shown, H, I.kept k, ⟨v, rfl⟩, q⟩
  have depth := fd.2.1
  cases d with
  | list ds =>
    cases hd with
    | lst e ha =>
      cases rx
      subst eu
      obtain ⟨its, rv, ⟨o, n, ho, hc, _, hdt⟩, _⟩ := I.list (SqL.of e)
      obtain ⟨bs, hr, _⟩ := Dx.readsAll I ds _ its _ ha rv
      have hz' : (listText (PyData.shownAll ds)).length ≤ sizeLine := by simpa only [PyData.shown] using hz
      obtain ⟨cs, hb, hk⟩ := Dx.rkAll I ds _ its _ ha rv (by simpa [PyData.showable] using fd.1) fun t ht => Nat.le_trans (listText_mem_le ht) hz'
      have rd : Reads s.heap (.ref _) (.list ds) _ := .list ho hc hdt hr
      have ap : _ ∉ cs := not_mem_of_deeper rd (by simp only [PyData.depth]; omega) hb
      simp only [PyData.depth] at depth
      refine call_repr_slot (by omega) ⟨o, ho, hc⟩ F.slot_list_repr.toG ?_
      cases its with
      | nil =>
        cases hr
        refine call_list_repr_empty ⟨o, ho, hc⟩ ho hdt ⟨_, _, rfl, ?_⟩
        have := fin s.heap s.toks (s.toks + 1) fun _ _ z => z
        simp only [PyData.shown, PyData.shownAll, listText_nil] at this
        exact this
      | cons x l =>
        refine call_list_reprK ho hc hdt ap (by simpa using hk.length_eq) (fun i y z => hk.item i y (by simpa using z)) qt (fun b _ => Clear.nil b) (by show X.A.units + 1 + (PyData.depthAll ds + 1) < cLine; omega) (fun _ _ z => z) (fun h' v tk k => ⟨_, _, rfl, ?_⟩) hz'
        have := fin h' v tk k
        simp only [PyData.shown] at this
        exact this
  | tuple ds =>
    cases hd with
    | tup e ha =>
      cases rx
      subst eu
      obtain ⟨its, rv, ⟨o, ho, hc, n, hdt⟩, _⟩ := I.tuple (SqT.of e)
      obtain ⟨bs, hr, _⟩ := Dx.readsAll I ds _ its _ ha rv
      have hz' : (tupleText (PyData.shownAll ds)).length ≤ sizeLine := by simpa only [PyData.shown] using hz
      obtain ⟨cs, hb, hk⟩ := Dx.rkAll I ds _ its _ ha rv (by simpa [PyData.showable] using fd.1) fun t ht => Nat.le_trans (tupleText_mem_le ht) hz'
      have rd : Reads s.heap (.ref _) (.tuple ds) _ := .tuple ho hc hdt hr
      have ap : _ ∉ cs := not_mem_of_deeper rd (by simp only [PyData.depth]; omega) hb
      simp only [PyData.depth] at depth
      refine call_repr_slot (by omega) ⟨o, ho, hc⟩ F.slot_tuple_repr ?_
      refine call_tuple_reprK ho hc hdt ap hk qt (fun b _ => Clear.nil b) (by show X.A.units + 1 + (PyData.depthAll ds + 1) < cLine; omega) (fun _ _ z => z) (fun h' v tk k => ⟨_, _, rfl, ?_⟩) hz'
      have := fin h' v tk k
      simp only [PyData.shown] at this
      exact this
  | dict kvs =>
    refine call_reprX qt hu pins s σ H [x] us Q I r ⟨x, _, as, rfl, hd, fun _ z => ?_, fd, q⟩
    cases hd with
    | emp e =>
      obtain ⟨_, nm, _⟩ := dk_of I.hok e
      have := List.mem_singleton.mp z
      rw [← this] at nm
      simp at nm
  | _ => exact call_reprX qt hu pins s σ H [x] us Q I r ⟨x, _, as, rfl, hd, (fun z => nomatch z), fd, q⟩
end SH

namespace SH
open PySem PySem.Spec PyProof.Rows L2
def topS (i : Nat) : Stmt := PySem.Challenge.pw_stickyheads_k05_errors_of_outlines.main.body.getD i (.Pass ⟨0, 0, 0, 0⟩)

/-! ### outlines as lists of ints -/
def okFrom : Int → List Int → Bool
  | _, [] => true
  | g, d :: r => decide (0 ≤ d) && decide (d ≤ g) && okFrom (d + 1) r
def isO (ns : List Int) : Bool := decide (1 ≤ ns.length) && decide (ns.length ≤ 200) && okFrom 0 ns
/-- the greatest depth that may stand at place i -/
def gAt (ns : List Int) : Nat → Int
  | 0 => 0
  | i + 1 => ns.getD i 0 + 1
theorem okFrom_drop {ns : List Int} {i : Nat} (h : i < ns.length) (g : Int) : okFrom g (ns.drop i) =
    (decide (0 ≤ ns.getD i 0) && decide (ns.getD i 0 ≤ g) && okFrom (ns.getD i 0 + 1) (ns.drop (i + 1))) := by
  rw [List.drop_eq_getElem_cons h, List.getD_eq_getElem?_getD, List.getElem?_eq_getElem h]
  rfl
theorem okFrom_at {ns : List Int} : ∀ {g : Int} {i : Nat}, okFrom g ns = true → i < ns.length →
    0 ≤ ns.getD i 0 ∧ (∀ j, i = j + 1 → ns.getD i 0 ≤ ns.getD j 0 + 1) ∧ (i = 0 → ns.getD i 0 ≤ g) := by
  induction ns with
  | nil => intro g i _ h; exact absurd h (Nat.not_lt_zero _)
  | cons d r ih =>
    intro g i h hi
    simp only [okFrom, Bool.and_eq_true, decide_eq_true_eq] at h
    cases i with
    | zero => exact ⟨h.1.1, fun j e => by omega, fun _ => h.1.2⟩
    | succ i =>
      have hi' : i < r.length := Nat.lt_of_succ_lt_succ hi
      obtain ⟨a, b, c⟩ := ih (i := i) h.2 hi'
      refine ⟨a, fun j e => ?_, fun e => by omega⟩
      obtain rfl : i = j := by omega
      cases i with
      | zero => exact c rfl
      | succ i => exact b i rfl
theorem okFrom_of {ns : List Int} : ∀ {g : Int}, (∀ i, i < ns.length → 0 ≤ ns.getD i 0 ∧ (∀ j, i = j + 1 → ns.getD i 0 ≤ ns.getD j 0 + 1) ∧ (i = 0 → ns.getD i 0 ≤ g)) → okFrom g ns = true := by
  induction ns with
  | nil => intro g _; rfl
  | cons d r ih =>
    intro g h
    simp only [okFrom, Bool.and_eq_true, decide_eq_true_eq]
    obtain ⟨a, _, c⟩ := h 0 (Nat.zero_lt_succ _)
    refine ⟨⟨a, c rfl⟩, ih fun i hi => ?_⟩
    obtain ⟨a', b', _⟩ := h (i + 1) (Nat.succ_lt_succ hi)
    refine ⟨a', fun j e => ?_, fun e => ?_⟩
    · subst e
      exact b' (j + 1) rfl
    · subst e
      exact b' 0 rfl
theorem isO_iff {ns : List Int} : isO ns = true ↔ 1 ≤ ns.length ∧ ns.length ≤ 200 ∧ okFrom 0 ns = true := by
  unfold isO
  rw [Bool.and_eq_true, Bool.and_eq_true, decide_eq_true_eq, decide_eq_true_eq, and_assoc]

abbrev s_is_integer_from : Stmt := topS 21
abbrev N_is_integer_from : List Str := ["value", "least"]
abbrev P_is_integer_from : List Str := ["value", "least"]
theorem sc_is_integer_from : FnScope N_is_integer_from P_is_integer_from (defScope s_is_integer_from) := ⟨rfl, rfl, rfl, by decide +kernel, rfl, by decide +kernel, by decide +kernel⟩
abbrev s_is_integer_within : Stmt := topS 22
abbrev N_is_integer_within : List Str := ["value", "least", "greatest"]
abbrev P_is_integer_within : List Str := ["value", "least", "greatest"]
theorem sc_is_integer_within : FnScope N_is_integer_within P_is_integer_within (defScope s_is_integer_within) := ⟨rfl, rfl, rfl, by decide +kernel, rfl, by decide +kernel, by decide +kernel⟩
abbrev s_is_outline : Stmt := topS 25
abbrev N_is_outline : List Str := ["value", "greatest", "depth"]
abbrev P_is_outline : List Str := ["value"]
theorem sc_is_outline : FnScope N_is_outline P_is_outline (defScope s_is_outline) := ⟨rfl, rfl, rfl, by decide +kernel, rfl, by decide +kernel, by decide +kernel⟩
/-! ### values of any kind: is it an int within bounds, is it an outline -/
def geD (d : PyData) (a : Int) : Bool := match d with | .int v => decide (a ≤ v) | _ => false
def inD (d : PyData) (a b : Int) : Bool := match d with | .int v => decide (a ≤ v) && decide (v ≤ b) | _ => false
def nextD (d : PyData) : Int := match d with | .int v => v + 1 | _ => 0
def okFromD : Int → List PyData → Bool
  | _, [] => true
  | g, d :: r => inD d 0 g && okFromD (nextD d) r
def isOD (d : PyData) : Bool := match d with | .list ds => decide (1 ≤ ds.length) && decide (ds.length ≤ 200) && okFromD 0 ds | _ => false
theorem okFromD_ints : ∀ (ns : List Int) (g : Int), okFromD g (ns.map PyData.int) = okFrom g ns
  | [], _ => rfl
  | n :: r, g => by
    show (inD (.int n) 0 g && okFromD (nextD (.int n)) (r.map PyData.int)) = _
    rw [okFromD_ints r]
    rfl
theorem isOD_dI (ns : List Int) : isOD (dI ns) = isO ns := by
  show (decide (1 ≤ (ns.map PyData.int).length) && decide ((ns.map PyData.int).length ≤ 200) && okFromD 0 (ns.map PyData.int)) = _
  rw [okFromD_ints, List.length_map]
  rfl
theorem inD_int {d : PyData} {a b : Int} (h : inD d a b = true) : ∃ v, d = .int v ∧ a ≤ v ∧ v ≤ b := by
  cases d with
  | int v =>
    have h' : (decide (a ≤ v) && decide (v ≤ b)) = true := h
    rw [Bool.and_eq_true, decide_eq_true_eq, decide_eq_true_eq] at h'
    exact ⟨v, rfl, h'.1, h'.2⟩
  | _ => exact absurd h Bool.false_ne_true
/-- the greatest depth that may stand at place i -/
def gD (ds : List PyData) : Nat → Int
  | 0 => 0
  | i + 1 => nextD (ds.getD i .none)
theorem okFromD_drop {ds : List PyData} {i : Nat} {d : PyData} (h : ds[i]? = some d) (g : Int) : okFromD g (ds.drop i) = (inD d 0 g && okFromD (nextD d) (ds.drop (i + 1))) := by
  obtain ⟨hl, e⟩ := List.getElem?_eq_some_iff.mp h
  rw [List.drop_eq_getElem_cons hl, e]
  rfl
theorem getD_of {ds : List PyData} {i : Nat} {d : PyData} (h : ds[i]? = some d) : ds.getD i .none = d := by
  rw [List.getD_eq_getElem?_getD, h]
  rfl
section
variable {P : Program} {w : World} {K : PySem.W.Frag} {mg : Str → Option Value} {base : Heap}
def sp_fromX : Sp := fun vs H Q _ => ∃ (x : V) (d : PyData) (as : List Addr) (a : Int), vs = [x, .int a] ∧ Dx H x d as ∧ Q (.bl (geD d a)) H
theorem ok_is_integer_from (T : Txt mg) (h : At K mg "is_integer_from" s_is_integer_from) :
    Has P w K mg base CX0 1 "is_integer_from" s_is_integer_from P_is_integer_from sp_fromX := by
  refine Has.of h sc_is_integer_from (fun vs H Q E h => ?_) (fun _ _ _ _ _ _ us hl => match us, hl with | [_, _], _ => rfl) (fun f cdv A outer s H vs Q E room qt h => ?_)
  · obtain ⟨v, d, as, a, rfl, _⟩ := h; rfl
  obtain ⟨x, d, as, a, rfl, hd, k⟩ := h
  refine ⟨_, (pss_one (ps_ret (pe_and (pe_callB call_isX (by rfl) T.isinstance (by decide +kernel) (pa_cons (pv 0) (pa_cons (pe_bltn (v := .ty "int") (u := .type "int") (by rfl) T.tint (by decide +kernel) rfl) pa_nil))) (pe_and (pe_not (pe_callB call_isX (by rfl) T.isinstance (by decide +kernel) (pa_cons (pv 0) (pa_cons (pe_bltn (v := .ty "bool") (u := .type "bool") (by rfl) T.bool (by decide +kernel) rfl) pa_nil)))) (pe_one (pe_cmpR op_ge (pv 0) (pv 1) (nomark _))))))), ?_⟩
  refine ⟨_, rfl, x, "int", d, as, _, rfl, hd, kit_int d, _, rfl, ?_⟩
  cases hd with
  | int v => exact iteT ⟨_, rfl, .int v, "bool", _, _, _, rfl, .int v, kit_bool _, _, rfl, _, rfl, iteT ⟨_, rfl, _, rfl, _, _, rfl, rfl, k⟩⟩
  | bl b => exact iteT ⟨_, rfl, .bl b, "bool", _, _, _, rfl, .bl b, kit_bool _, _, rfl, _, rfl, iteF k⟩
  | non => exact iteF k
  | str _ => exact iteF k
  | lst _ _ => exact iteF k
  | tup _ _ => exact iteF k
  | emp _ => exact iteF k
def sp_withinX : Sp := fun vs H Q _ => ∃ (x : V) (d : PyData) (as : List Addr) (a b : Int), vs = [x, .int a, .int b] ∧ Dx H x d as ∧ Q (.bl (inD d a b)) H
theorem ok_is_integer_within (T : Txt mg) (h : At K mg "is_integer_within" s_is_integer_within)
    (g_is_integer_from : Has P w K mg base CX0 1 "is_integer_from" s_is_integer_from P_is_integer_from sp_fromX) :
    Has P w K mg base CX0 2 "is_integer_within" s_is_integer_within P_is_integer_within sp_withinX := by
  refine Has.of h sc_is_integer_within (fun vs H Q E h => ?_) (fun _ _ _ _ _ _ us hl => match us, hl with | [_, _, _], _ => rfl) (fun f cdv A outer s H vs Q E room qt h => ?_)
  · obtain ⟨v, d, as, a, b, rfl, _⟩ := h; rfl
  obtain ⟨x, d, as, a, b, rfl, hd, k⟩ := h
  refine ⟨_, (pss_one (ps_ret (pe_and (pe_has g_is_integer_from (room.mono (by decide)) qt (by rfl) pass0 (pa_cons (pv 0) (pa_cons (pv 1) pa_nil))) (pe_one (pe_cmpR op_le (pv 0) (pv 2) (nomark _)))))), ?_⟩
  refine ⟨_, rfl, _, rfl, x, d, as, a, rfl, hd, _, rfl, ?_⟩
  cases hd with
  | int v =>
    show if decide (a ≤ v) = true then _ else _
    have k' : Q (.bl (decide (a ≤ v) && decide (v ≤ b))) H := k
    by_cases c : a ≤ v
    · rw [decide_eq_true c] at k' ⊢
      rw [Bool.true_and] at k'
      exact iteT ⟨_, rfl, _, rfl, _, _, rfl, rfl, k'⟩
    · rw [decide_eq_false c] at k' ⊢
      rw [Bool.false_and] at k'
      exact iteF k'
  | _ => exact iteF k
def sp_is_outlineX : Sp := fun vs H Q _ => ∃ (x : V) (d : PyData) (as : List Addr), vs = [x] ∧ Dx H x d as ∧ Q (.bl (isOD d)) H
theorem ok_is_outline {t : Tok} (T : Txt mg) (c_MOST_LINES : mg "MOST_LINES" = some (.int 200 t)) (h : At K mg "is_outline" s_is_outline)
    (g_is_integer_within : Has P w K mg base CX0 2 "is_integer_within" s_is_integer_within P_is_integer_within sp_withinX) :
    Has P w K mg base CX0 3 "is_outline" s_is_outline P_is_outline sp_is_outlineX := by
  refine Has.of h sc_is_outline (fun vs H Q E h => ?_) (fun _ _ _ _ _ _ us hl => match us, hl with | [_], _ => rfl) (fun f cdv A outer s H vs Q E room qt h => ?_)
  · obtain ⟨v, a, as, rfl, _⟩ := h; rfl
  obtain ⟨x, d, as, rfl, hd, k⟩ := h
  refine ⟨_, (pss_cons (ps_if (PW.pt (pw_or (pt_cmpR op_neTy (pe_callTy call_typeX (by rfl) T.ttype (by decide +kernel) (pa_cons (pv 0) pa_nil)) (pe_bltn (v := .ty "list") (u := .type "list") (by rfl) T.tlist (by decide +kernel) rfl) (nomark _)) (pw_or1 (pt_not (pt_chain op_le op_le pe_int (pe_callB call_len_seq (by rfl) T.len (by decide +kernel) (pa_cons (pv 0) pa_nil)) (pe_glob (v := .int 200) rfl c_MOST_LINES ⟨_, rfl⟩))))))
        (pss_one (ps_ret pe_bl))
        pss_nil)
      (pss_cons (ps_set (i := 1) sc_is_outline.nd rfl (Or.inl rfl) pe_int)
      (pss_cons (ps_for PassesOwn.never rfl (pi_list (pv 0)) (pg_name (i := 2) sc_is_outline.nd rfl (Or.inl rfl) (hf := Or.inl rfl))
        (pss_cons (ps_if (pt_not (pt_val (pe_has g_is_integer_within (room.mono (by decide)) qt (by rfl) pass0 (pa_cons (pv 2) (pa_cons pe_int (pa_cons (pv 1) pa_nil))))))
          (pss_one (ps_ret pe_bl))
          pss_nil)
        (pss_one (ps_set (i := 1) sc_is_outline.nd rfl (Or.inl rfl) (pe_op op_add (pv 2) pe_int)))))
      (pss_one (ps_ret pe_bl))))), ?_⟩
  refine ⟨_, rfl, x, d, as, rfl, hd, _, _, rfl, rfl, ?_⟩
  have other : tyD d ≠ "list" → isOD d = false := fun e => by
    cases d with
    | list ds => exact absurd rfl e
    | _ => rfl
  refine ⟨by cases d <;> (simp only [tyD]; decide), by decide, _, rfl, ite2 (fun c => ?_) (fun c => ?_)⟩
  · rw [other (of_decide_eq_true c)] at k
    exact k
  cases hd with
  | @lst a xs ds as ha hx =>
    have el := hx.len
    refine ⟨_, rfl, _, _, rfl, .inl (SqL.of ha), _, _, rfl, rfl, _, rfl, ?_⟩
    have no : isOD (.list ds) = false → Q (.bl false) H := fun e => by rw [← e]; exact k
    refine ite2 (fun c => ?_) (fun c => ?_)
    · have c1 := of_decide_eq_true c
      refine ⟨_, _, rfl, rfl, _, rfl, ite2 (fun d => ?_) (fun d => ?_)⟩
      · refine no ?_
        have d1 : ¬ ds.length ≤ 200 := fun z => by rw [decide_eq_true (by omega)] at d; cases d
        show (decide (1 ≤ ds.length) && decide (ds.length ≤ 200) && okFromD 0 ds) = false
        rw [decide_eq_false d1, Bool.and_false, Bool.false_and]
      · have d1 : ds.length ≤ 200 := by
          by_cases z : ds.length ≤ 200
          · exact z
          · exact (d (by rw [decide_eq_false (by omega)]; rfl)).elim
        have e0 : isOD (.list ds) = okFromD 0 ds := by
          show (decide (1 ≤ ds.length) && decide (ds.length ≤ 200) && okFromD 0 ds) = _
          rw [decide_eq_true (by omega), decide_eq_true d1, Bool.true_and, Bool.true_and]
        rw [e0] at k
        refine ⟨_, rfl, a, rfl, ⟨_, SqL.of ha⟩, for_list (K := K) (a := a) (xs := xs)
          (fun i σ H2 => H2 = H ∧ (∃ v, σ = [some (.ref a), some (.int (gD ds i)), v]) ∧ okFromD (gD ds i) (ds.drop i) = okFromD 0 ds)
          ⟨rfl, ⟨_, rfl⟩, rfl⟩ (fun i σ H2 _ q => by rw [q.1]; exact SqL.of ha) ?_ ?_⟩
        · rintro i x σ H2 hi ⟨rfl, ⟨v, rfl⟩, q⟩
          obtain ⟨e, bs, he, hxe⟩ := hx.at hi
          rw [okFromD_drop he] at q
          refine ⟨_, rfl, _, rfl, x, e, bs, _, _, rfl, hxe, _, rfl, ite2 (fun d => ?_) (fun d => ?_)⟩
          · rw [bnot_t d, Bool.false_and] at q
            rw [← q] at k
            exact k
          · have d' := bnot_f d
            rw [d', Bool.true_and] at q
            obtain ⟨v, rfl, _, _⟩ := inD_int d'
            cases hxe
            have eg : gD ds (i + 1) = v + 1 := by show nextD (ds.getD i .none) = _; rw [getD_of he]; rfl
            rw [eg]
            exact ⟨_, rfl, _, _, rfl, rfl, rfl, ⟨_, rfl⟩, q⟩
        · rintro σ H2 ⟨rfl, ⟨v, rfl⟩, q⟩
          rw [el, List.drop_length] at q
          rw [← q] at k
          exact k
    · refine ⟨_, rfl, iteT (no ?_)⟩
      have c1 : ¬ 1 ≤ ds.length := fun z => c (decide_eq_true (by omega))
      show (decide (1 ≤ ds.length) && decide (ds.length ≤ 200) && okFromD 0 ds) = false
      rw [decide_eq_false c1, Bool.false_and, Bool.false_and]
  | _ => exact absurd rfl c
end
abbrev s_check_outline : Stmt := topS 26
abbrev N_check_outline : List Str := ["outline"]
abbrev P_check_outline : List Str := ["outline"]
theorem sc_check_outline : FnScope N_check_outline P_check_outline (defScope s_check_outline) := ⟨rfl, rfl, rfl, by decide +kernel, rfl, by decide +kernel, by decide +kernel⟩
abbrev s_check_line : Stmt := topS 27
abbrev N_check_line : List Str := ["outline", "line"]
abbrev P_check_line : List Str := ["outline", "line"]
theorem sc_check_line : FnScope N_check_line P_check_line (defScope s_check_line) := ⟨rfl, rfl, rfl, by decide +kernel, rfl, by decide +kernel, by decide +kernel⟩
theorem okFromD_int : ∀ {ds : List PyData} {g : Int}, okFromD g ds = true → ∃ ns : List Int, ds = ns.map PyData.int
  | [], _, _ => ⟨[], rfl⟩
  | d :: r, g, h => by
    have h' : (inD d 0 g && okFromD (nextD d) r) = true := h
    rw [Bool.and_eq_true] at h'
    obtain ⟨v, rfl, _, _⟩ := inD_int h'.1
    obtain ⟨ns, rfl⟩ := okFromD_int h'.2
    exact ⟨v :: ns, rfl⟩
theorem isOD_ints {d : PyData} (h : isOD d = true) : ∃ ns : List Int, d = dI ns ∧ isO ns = true := by
  cases d with
  | list ds =>
    have h' : (decide (1 ≤ ds.length) && decide (ds.length ≤ 200) && okFromD 0 ds) = true := h
    rw [Bool.and_eq_true] at h'
    obtain ⟨ns, rfl⟩ := okFromD_int h'.2
    exact ⟨ns, rfl, by rw [← isOD_dI]; exact h⟩
  | _ => exact absurd h Bool.false_ne_true
theorem DxAll.ints {H : Hp} : ∀ {ns : List Int} {xs : List V} {as : List Addr}, DxAll H xs (ns.map PyData.int) as → xs = iv ns
  | [], _, _, h => by cases h; rfl
  | n :: r, _, _, h => by
    cases h with
    | cons a b =>
      cases a
      rw [b.ints]
      rfl
theorem Dx.ints {H : Hp} {x : V} {ns : List Int} {as : List Addr} (h : Dx H x (dI ns) as) : ∃ a, x = .ref a ∧ H a = some (.lst (iv ns)) := by
  cases h with
  | lst e r => exact ⟨_, rfl, by rw [e, r.ints]⟩
/-- a value is a line of an outline with so many lines -/
def lineD (n : Nat) (d : PyData) : Bool := inD d 0 ((n : Int) - 1)
theorem lineD_int {n : Nat} {d : PyData} (h : lineD n d = true) : ∃ i : Nat, d = .int i ∧ i < n := by
  obtain ⟨v, rfl, v0, v1⟩ := inD_int h
  exact ⟨v.toNat, by rw [Int.toNat_of_nonneg v0], by omega⟩
section
variable {P : Program} {w : World} {K : PySem.W.Frag} {mg : Str → Option Value} {base : Heap}
def sp_chkO (C : Addr) : Sp := fun vs H Q E => ∃ (x : V) (d : PyData) (as : List Addr), vs = [x] ∧ Dx H x d as ∧ (isOD d = true → Q .non H) ∧ (isOD d = false → E (.ref C) none H)
theorem ok_check_outline {C_InvalidOutlineError : Addr} (T : Txt mg) (e_InvalidOutlineError : Err K mg "InvalidOutlineError" C_InvalidOutlineError) (h : At K mg "check_outline" s_check_outline)
    (g_is_outline : Has P w K mg base CX0 3 "is_outline" s_is_outline P_is_outline sp_is_outlineX) :
    Has P w K mg base (L2N.CX P w) 4 "check_outline" s_check_outline P_check_outline (sp_chkO C_InvalidOutlineError) := by
  refine Has.ofN h sc_check_outline (fun vs H Q E h => ?_) (fun _ _ _ _ _ _ us hl => match us, hl with | [_], _ => rfl) (fun f cdv A outer s H vs Q E room qt h => ?_)
  · obtain ⟨v, d, as, rfl, _⟩ := h; rfl
  obtain ⟨x, d, as, rfl, hd, k1, k2⟩ := h
  refine ⟨_, (pss_one (ps_if (pt_not (pt_val (pe_has g_is_outline (room.mono (by decide)) qt (by rfl) pass0 (pa_cons (pv 0) pa_nil))))
        (pss_one (ps_raiseN e_InvalidOutlineError rfl (L2N.takes_of rfl rfl rfl rfl) (by rfl)))
        pss_nil)), ?_⟩
  refine ⟨_, rfl, x, d, as, rfl, hd, _, rfl, ?_⟩
  cases c : isOD d with
  | true => exact iteF (k1 c)
  | false => exact iteT (k2 c)
def sp_chkL (K : PySem.W.Frag) (C : Addr) : Sp := fun vs H Q E => ∃ (a : Addr) (ns : List Int) (x : V) (d : PyData) (as : List Addr), vs = [.ref a, x] ∧ SqL K H a (iv ns) ∧ Dx H x d as ∧ (lineD ns.length d = true → Q .non H) ∧ (lineD ns.length d = false → E (.ref C) none H)
theorem ok_check_line {C_InvalidLineError : Addr} (T : Txt mg) (e_InvalidLineError : Err K mg "InvalidLineError" C_InvalidLineError) (h : At K mg "check_line" s_check_line)
    (g_is_integer_within : Has P w K mg base CX0 2 "is_integer_within" s_is_integer_within P_is_integer_within sp_withinX) :
    Has P w K mg base (L2N.CX P w) 3 "check_line" s_check_line P_check_line (sp_chkL K C_InvalidLineError) := by
  refine Has.ofN h sc_check_line (fun vs H Q E h => ?_) (fun _ _ _ _ _ _ us hl => match us, hl with | [_, _], _ => rfl) (fun f cdv A outer s H vs Q E room qt h => ?_)
  · obtain ⟨a, ns, x, d, as, rfl, _⟩ := h; rfl
  obtain ⟨a, ns, x, d, as, rfl, ha, hd, k1, k2⟩ := h
  have el : (iv ns).length = ns.length := List.length_map _
  refine ⟨_, (pss_one (ps_if (pt_not (pt_val (pe_has g_is_integer_within (room.mono (by decide)) qt (by rfl) pass0 (pa_cons (pv 1) (pa_cons pe_int (pa_cons (pe_op op_sub (pe_callB call_len_seq (by rfl) T.len (by decide +kernel) (pa_cons (pv 0) pa_nil)) pe_int) pa_nil))))))
        (pss_one (ps_raiseN e_InvalidLineError rfl (L2N.takes_of rfl rfl rfl rfl) (by rfl)))
        pss_nil)), ?_⟩
  refine ⟨_, rfl, _, rfl, a, _, rfl, .inl ha, _, _, rfl, rfl, x, d, as, _, _, rfl, hd, _, rfl, ?_⟩
  rw [el]
  cases c : lineD ns.length d with
  | true =>
    rw [show inD d 0 ((ns.length : Int) - 1) = true from c]
    exact iteF (k1 c)
  | false =>
    rw [show inD d 0 ((ns.length : Int) - 1) = false from c]
    exact iteT (k2 c)
end
end SH

namespace SH
open PySem PySem.Spec PyProof.Rows L2
theorem okFrom_snoc {ns : List Int} {d : Int} : ∀ {g : Int}, okFrom g ns = true → 0 ≤ d → (ns = [] → d ≤ g) → (ns ≠ [] → d ≤ ns.getD (ns.length - 1) 0 + 1) → okFrom g (ns ++ [d]) = true := by
  induction ns with
  | nil => intro g _ h0 h1 _; simp only [List.nil_append, okFrom, Bool.and_eq_true, decide_eq_true_eq, and_true]; exact ⟨h0, h1 rfl⟩
  | cons e r ih =>
    intro g h h0 _ h2
    simp only [okFrom, Bool.and_eq_true, decide_eq_true_eq, List.cons_append] at h ⊢
    refine ⟨h.1, ih h.2 h0 (fun er => ?_) fun er => ?_⟩
    · subst er
      exact h2 (by simp)
    · have := h2 (by simp)
      cases r with
      | nil => exact absurd rfl er
      | cons f r => exact this
theorem okFrom_le {ns : List Int} : ∀ {g : Int} {i : Nat}, okFrom g ns = true → i < ns.length → ns.getD i 0 ≤ g + i := by
  induction ns with
  | nil => intro g i _ h; exact absurd h (Nat.not_lt_zero _)
  | cons d r ih =>
    intro g i h hi
    simp only [okFrom, Bool.and_eq_true, decide_eq_true_eq] at h
    cases i with
    | zero => show d ≤ g + ((0 : Nat) : Int); omega
    | succ i =>
      have := ih (i := i) h.2 (Nat.lt_of_succ_lt_succ hi)
      show r.getD i 0 ≤ g + ((i + 1 : Nat) : Int)
      omega
/-! ### headings, top lines, views as lists of ints -/
/-- the headings found from line k on upwards, the next wanted depth being w -/
def headsL (ns : List Int) : Nat → Int → List Int
  | 0, _ => []
  | k + 1, w => if ns.getD k 0 = w then headsL ns k (w - 1) ++ [(k : Int)] else headsL ns k w
def headsOf (ns : List Int) (i : Nat) : List Int := headsL ns i (ns.getD i 0 - 1)
theorem headsL_len (ns : List Int) : ∀ (k : Nat) (w : Int), (headsL ns k w).length ≤ k
  | 0, _ => Nat.le_refl _
  | k + 1, w => by
    unfold headsL
    split
    · rw [List.length_append]
      exact Nat.succ_le_succ (headsL_len ns k _)
    · exact Nat.le_succ_of_le (headsL_len ns k _)
theorem headsL_mem {ns : List Int} : ∀ {k : Nat} {w v : Int}, v ∈ headsL ns k w → 0 ≤ v ∧ v < k
  | k + 1, w, v, h => by
    unfold headsL at h
    split at h
    · rcases List.mem_append.mp h with h | h
      · have := headsL_mem h; omega
      · have := List.mem_singleton.mp h; omega
    · have := headsL_mem h; omega
def stopAt (ns : List Int) (i : Nat) : Int := (i : Int) - ns.getD i 0
def lastStop (ns : List Int) : Int := stopAt ns (ns.length - 1)
/-- t is the top line at s -/
def IsTop (ns : List Int) (s : Int) (t : Nat) : Prop := t < ns.length ∧ s ≤ stopAt ns t ∧ ∀ j, j < t → stopAt ns j < s
theorem IsTop.uniq {ns : List Int} {s : Int} {t u : Nat} (a : IsTop ns s t) (b : IsTop ns s u) : t = u := by
  rcases Nat.lt_trichotomy t u with h | h | h
  · have := b.2.2 t h; have := a.2.1; omega
  · exact h
  · have := a.2.2 u h; have := b.2.1; omega
theorem top_ex {ns : List Int} {s : Int} : ∀ n, n < ns.length → s ≤ stopAt ns n → ∃ t, t ≤ n ∧ IsTop ns s t
  | 0, h, q => ⟨0, Nat.le_refl _, h, q, fun j hj => absurd hj (Nat.not_lt_zero _)⟩
  | n + 1, h, q => by
    by_cases e : ∃ j, j ≤ n ∧ s ≤ stopAt ns j
    · obtain ⟨j, hj, ej⟩ := e
      obtain ⟨t, ht, it⟩ := top_ex j (by omega) ej
      exact ⟨t, by omega, it⟩
    · refine ⟨n + 1, Nat.le_refl _, h, q, fun j hj => ?_⟩
      by_cases z : s ≤ stopAt ns j
      · exact (e ⟨j, by omega, z⟩).elim
      · omega
/-- slices of lists of ints -/
def cutI (l : List Int) (lo hi : Option Int) : List Int := (l.drop (HT.sIx l.length 0 lo)).take (HT.sIx l.length l.length hi - HT.sIx l.length 0 lo)
theorem cutV_iv (l : List Int) (lo hi : Option Int) : cutV (iv l) lo hi = iv (cutI l lo hi) := by
  unfold cutV cutI iv
  rw [List.map_take, List.map_drop, List.length_map]
theorem cutI_len (l : List Int) (lo hi : Option Int) : (cutI l lo hi).length ≤ l.length := by
  unfold cutI
  rw [List.length_take, List.length_drop]
  omega
theorem cutI_to (l : List Int) {n : Int} (h : 0 ≤ n) : cutI l none (some n) = l.take n.toNat := by
  unfold cutI
  have e : n = (n.toNat : Int) := by omega
  rw [e, HT.sIx_none, HT.sIx_nat, List.drop_zero, Nat.sub_zero, Int.toNat_natCast]
  rcases Nat.le_total n.toNat l.length with a | a
  · rw [Nat.min_eq_left a]
  · rw [Nat.min_eq_right a, List.take_length, List.take_of_length_le a]
/-- lo, lo + 1, .. below hi -/
def rg2 (lo hi : Int) : List Int := (List.range (hi - lo).toNat).map fun (i : Nat) => lo + (i : Int)
theorem rgV_rg2 (a b : Int) : rgV a b = iv (rg2 a b) := by
  unfold rgV rg2 iv
  rw [List.map_map]
  rfl
theorem rg2_len (a b : Int) : (rg2 a b).length = (b - a).toNat := by unfold rg2; rw [List.length_map, List.length_range]
def pushedL (ns : List Int) (t : Nat) (s : Int) : List Int := if stopAt ns t - s = 0 then [] else cutI (headsOf ns (t - 1)) (some (-(stopAt ns t - s))) none
def rowsL (ns : List Int) (s : Int) (t : Nat) : List Int := headsOf ns t ++ pushedL ns t s ++ rg2 t ns.length
def viewL (ns : List Int) (h s : Int) (t : Nat) : List Int := (rowsL ns s t).take h.toNat
theorem pushedL_len (ns : List Int) (t : Nat) (s : Int) : (pushedL ns t s).length ≤ t := by
  unfold pushedL
  split
  · exact Nat.zero_le _
  · exact Nat.le_trans (cutI_len _ _ _) (Nat.le_trans (headsL_len _ _ _) (Nat.sub_le _ _))
theorem stopAt_nn {ns : List Int} (h : okFrom 0 ns = true) {i : Nat} (hi : i < ns.length) : 0 ≤ stopAt ns i ∧ stopAt ns i ≤ i := by
  have a := okFrom_le h hi
  have b := (okFrom_at h hi).1
  unfold stopAt
  omega
theorem cutI_from (l : List Int) {n : Int} (h : 0 ≤ n) : cutI l (some n) none = l.drop n.toNat := by
  unfold cutI
  have e : n = (n.toNat : Int) := by omega
  rw [e, HT.sIx_none, HT.sIx_nat, Int.toNat_natCast]
  rcases Nat.le_total n.toNat l.length with a | a
  · rw [Nat.min_eq_left a, List.take_of_length_le (by rw [List.length_drop]; omega)]
  · rw [Nat.min_eq_right a, List.drop_eq_nil_of_le (Nat.le_refl _), List.drop_eq_nil_of_le a, List.take_nil]
theorem gives_filter (L : List Int) (p : Int → Bool) : gives L.length (fun i => p (L.getD i 0)) (fun i => V.int (L.getD i 0)) = iv (L.filter p) := by
  have key : ∀ n, n ≤ L.length → gives n (fun i => p (L.getD i 0)) (fun i => V.int (L.getD i 0)) = iv ((L.take n).filter p) := by
    intro n
    induction n with
    | zero => intro _; rfl
    | succ n ih =>
      intro hn
      have e : L[n]? = some (L.getD n 0) := by rw [List.getD_eq_getElem?_getD, List.getElem?_eq_getElem (by omega)]; rfl
      rw [gives_succ, ih (by omega), List.take_succ, e]
      generalize L.getD n 0 = x
      show (if p x = true then iv ((L.take n).filter p) ++ [V.int x] else iv ((L.take n).filter p)) = iv ((L.take n ++ [x]).filter p)
      rw [List.filter_append, List.filter_cons]
      by_cases c : p x = true
      · rw [if_pos c, if_pos c, iv_snoc]; rfl
      · rw [if_neg c, if_neg c]; simp
  have := key L.length (Nat.le_refl _)
  rwa [List.take_length] at this
abbrev s_headings_of : Stmt := topS 29
abbrev N_headings_of : List Str := ["outline", "line", "found", "wanted", "above"]
abbrev P_headings_of : List Str := ["outline", "line"]
theorem sc_headings_of : FnScope N_headings_of P_headings_of (defScope s_headings_of) := ⟨rfl, rfl, rfl, by decide +kernel, rfl, by decide +kernel, by decide +kernel⟩
section
variable {P : Program} {w : World} {K : PySem.W.Frag} {mg : Str → Option Value} {base : Heap}
def sp_headings_of (K : PySem.W.Frag) : Sp := fun vs H Q _ => ∃ (a : Addr) (ns : List Int) (i : Nat), vs = [.ref a, .int i] ∧ SqL K H a (iv ns) ∧ i < ns.length ∧ ns.length ≤ 1000 ∧ RetL Q H (iv (headsOf ns i))
theorem ok_headings_of (T : Txt mg) (h : At K mg "headings_of" s_headings_of) :
    Has P w K mg base CX0 2 "headings_of" s_headings_of P_headings_of (sp_headings_of K) := by
  refine Has.of h sc_headings_of (fun vs H Q E h => ?_) (fun _ _ _ _ _ _ us hl => match us, hl with | [_, _], _ => rfl) (fun f cdv A outer s H vs Q E room qt h => ?_)
  · obtain ⟨a, n, t, rfl, _⟩ := h; rfl
  obtain ⟨a, ns, i, rfl, ha, hi, hl, k⟩ := h
  refine ⟨_, (pss_cons (ps_set (i := 2) sc_headings_of.nd rfl (Or.inl rfl) (pe_lst pa_nil))
      (pss_cons (ps_set (i := 3) sc_headings_of.nd rfl (Or.inl rfl) (pe_op op_sub (pe_ix ix_list (pv 0) (pv 1) (fun _ _ => rfl)) pe_int))
      (pss_cons (ps_for PassesOwn.never rfl (pi_revR (by rfl) T.reversed (prg_1 (by rfl) T.range (pv 1))) (pg_name (i := 4) sc_headings_of.nd rfl (Or.inl rfl) (hf := Or.inl rfl))
        (pss_one (ps_if (pt_cmpR op_eq (pe_ix ix_list (pv 0) (pv 4) (fun _ _ => rfl)) (pv 3) (nomark _))
          (pss_cons (ps_expr (pe_bm PySem.F.plainAttrs_list PySem.F.slot_list_append PySem.F.type_list_append mt_append (pv 2) (pa_cons (pv 4) pa_nil)))
          (pss_one (ps_aug (i := 3) sc_headings_of.nd rfl (Or.inl rfl) pe_int ip_sub)))
          pss_nil)))
      (pss_cons (ps_expr (pe_bm0 PySem.F.plainAttrs_list PySem.F.slot_list_reverse PySem.F.type_list_reverse mt_reverse (pv 2)))
      (pss_one (ps_ret (pv 2))))))), ?_⟩
  refine ⟨(by decide : 0 ≤ sizeLine), fun p hp => ?_⟩
  have ha' : ∀ o, SqL K (upd H p o) a (iv ns) := fun o => (Same.new hp).seq ha
  refine ⟨_, rfl, _, rfl, a, iv ns, i, _, rfl, rfl, ha' _, atI_iv (by omega) (by omega), _, _, rfl, rfl, ?_⟩
  rw [Int.toNat_natCast]
  refine ⟨_, rfl, i, rfl, by decide, by decide, by omega, by omega, ?_⟩
  refine for_rangeC (n := ((i : Int) - 0).toNat) (fun j σ H2 => ∃ (F : List Int) (w : Int) (v : Option V), σ = [some (.ref a), some (.int i), some (.ref p), some (.int w), v] ∧ H2 = upd H p (.lst (iv F)) ∧
    F.length ≤ j ∧ headsOf ns i = headsL ns (i - j) w ++ F.reverse) ⟨[], _, _, rfl, rfl, Nat.le_refl _, by rw [List.reverse_nil, List.append_nil]; rfl⟩ ?_ ?_
  · rintro j σ H2 hj ⟨F, wd, v, rfl, rfl, hF, e⟩
    have ev : (0 : Int) + ((((i : Int) - 0).toNat : Nat) : Int) - 1 + ((j : Nat) : Int) * (-1) = ((i - (j + 1) : Nat) : Int) := by omega
    obtain ⟨u, eu⟩ : ∃ u, i - (j + 1) = u := ⟨_, rfl⟩
    have ek : i - j = u + 1 := by omega
    rw [ek, headsL] at e
    rw [eu] at ev
    show (tIfS _ _ _) _ (List.set _ 4 (some (.int (0 + ((((i : Int) - 0).toNat : Nat) : Int) - 1 + ((j : Nat) : Int) * (-1))))) _
    rw [ev]
    -- if outline[above] == wanted
    refine ⟨_, rfl, _, rfl, a, iv ns, u, _, rfl, rfl, ha' _, atI_iv (by omega) (by omega), _, rfl, rfl, _, rfl, ite2 (fun c => ?_) (fun c => ?_)⟩
    · have c1 : ns.getD u 0 = wd := by
        have := of_decide_eq_true c
        rw [Int.toNat_natCast] at this
        exact V.int.inj this
      rw [if_pos c1] at e
      refine ⟨_, rfl, .inl ⟨rfl, _, SqL.of upd_same⟩, _, rfl, p, _, _, rfl, rfl, upd_same, small_line (by rw [List.length_map]; omega), ?_⟩
      refine ⟨_, rfl, _, _, rfl, rfl, F ++ [(u : Int)], wd - 1, _, rfl, by rw [upd_upd, iv_snoc], by rw [List.length_append]; show F.length + 1 ≤ j + 1; omega, ?_⟩
      rw [eu, e, List.reverse_append, List.append_assoc]
      rfl
    · have c1 : ¬ ns.getD u 0 = wd := fun q => c (by rw [Int.toNat_natCast, q]; exact decide_eq_true rfl)
      rw [if_neg c1] at e
      exact ⟨F, wd, _, rfl, rfl, by omega, by rw [eu]; exact e⟩
  · rintro σ H2 ⟨F, wd, v, rfl, rfl, hF, e⟩
    have e0 : i - ((i : Int) - 0).toNat = 0 := by omega
    rw [e0, headsL, List.nil_append] at e
    refine ⟨_, rfl, .inl ⟨rfl, _, SqL.of upd_same⟩, p, _, rfl, rfl, upd_same, _, rfl, k p _ hp ?_ ?_⟩
    · rw [upd_upd]
      exact Same.new hp
    · rw [upd_same, e]
      show some (HO.lst (List.map V.int F).reverse) = some (HO.lst (List.map V.int F.reverse))
      rw [List.map_reverse]
end
abbrev s_last_of_section : Stmt := topS 31
abbrev N_last_of_section : List Str := ["outline", "line", "last"]
abbrev P_last_of_section : List Str := ["outline", "line"]
theorem sc_last_of_section : FnScope N_last_of_section P_last_of_section (defScope s_last_of_section) := ⟨rfl, rfl, rfl, by decide +kernel, rfl, by decide +kernel, by decide +kernel⟩
/-- t is the last line of the section at i -/
def IsEnd (ns : List Int) (i t : Nat) : Prop := i ≤ t ∧ t < ns.length ∧ (∀ k, i < k → k ≤ t → ns.getD i 0 < ns.getD k 0) ∧ (t + 1 < ns.length → ns.getD (t + 1) 0 ≤ ns.getD i 0)
theorem end_ex {ns : List Int} {i : Nat} (hi : i < ns.length) : ∀ n, ∃ t, IsEnd ns i t ∨ (i ≤ t ∧ t < ns.length ∧ (∀ k, i < k → k ≤ t → ns.getD i 0 < ns.getD k 0) ∧ t = i + n)
  | 0 => ⟨i, .inr ⟨Nat.le_refl _, hi, fun k a b => by omega, rfl⟩⟩
  | n + 1 => by
    obtain ⟨t, h | ⟨a, b, c, e⟩⟩ := end_ex hi n
    · exact ⟨t, .inl h⟩
    · by_cases q : t + 1 < ns.length ∧ ns.getD i 0 < ns.getD (t + 1) 0
      · refine ⟨t + 1, .inr ⟨by omega, q.1, fun k k0 k1 => ?_, by omega⟩⟩
        rcases Nat.lt_or_ge t k with z | z
        · have : k = t + 1 := by omega
          subst this
          exact q.2
        · exact c k k0 z
      · refine ⟨t, .inl ⟨a, b, c, fun z => ?_⟩⟩
        by_cases y : ns.getD i 0 < ns.getD (t + 1) 0
        · exact (q ⟨z, y⟩).elim
        · omega
theorem end_of {ns : List Int} {i : Nat} (hi : i < ns.length) : ∃ t, IsEnd ns i t := by
  obtain ⟨t, h | ⟨a, b, c, e⟩⟩ := end_ex hi ns.length
  · exact ⟨t, h⟩
  · omega
section
variable {P : Program} {w : World} {K : PySem.W.Frag} {mg : Str → Option Value} {base : Heap}
def sp_last_of_section (K : PySem.W.Frag) : Sp := fun vs H Q _ => ∃ (a : Addr) (ns : List Int) (i t : Nat), vs = [.ref a, .int i] ∧ SqL K H a (iv ns) ∧ IsEnd ns i t ∧ Q (.int t) H
theorem ok_last_of_section (T : Txt mg) (h : At K mg "last_of_section" s_last_of_section) :
    Has P w K mg base CX0 2 "last_of_section" s_last_of_section P_last_of_section (sp_last_of_section K) := by
  refine Has.of h sc_last_of_section (fun vs H Q E h => ?_) (fun _ _ _ _ _ _ us hl => match us, hl with | [_, _], _ => rfl) (fun f cdv A outer s H vs Q E room qt h => ?_)
  · obtain ⟨a, n, z, t, rfl, _⟩ := h; rfl
  obtain ⟨a, ns, i, t, rfl, ha, ⟨t0, t1, t2, t3⟩, k⟩ := h
  refine ⟨_, (pss_cons (ps_set (i := 2) sc_last_of_section.nd rfl (Or.inl rfl) (pv 1))
      (pss_cons (ps_while PassesOwn.never (PW.pt (pw_and (pt_cmpR op_lt (pe_op op_add (pv 2) pe_int) (pe_callB call_len_seq (by rfl) T.len (by decide +kernel) (pa_cons (pv 0) pa_nil)) (nomark _)) (pw_and1 (pt_cmpR op_gt (pe_ix ix_list (pv 0) (pe_op op_add (pv 2) pe_int) (fun _ _ => rfl)) (pe_ix ix_list (pv 0) (pv 1) (fun _ _ => rfl)) (nomark _)))))
        (pss_one (ps_aug (i := 2) sc_last_of_section.nd rfl (Or.inl rfl) pe_int ip_add)))
      (pss_one (ps_ret (pv 2))))), ?_⟩
  have el : (iv ns).length = ns.length := List.length_map _
  refine ⟨_, rfl, ?_⟩
  refine ⟨fun m σ H' => H' = H ∧ ∃ j : Nat, i ≤ j ∧ j ≤ t ∧ m = t - j ∧ σ = [some (.ref a), some (.int i), some (.int (j : Nat))], ⟨t - i, rfl, i, Nat.le_refl _, t0, rfl, rfl⟩, ?_⟩
  rintro m σ H' ⟨rfl, j, j0, j1, rfl, rfl⟩
  refine ⟨_, rfl, _, _, rfl, rfl, _, rfl, a, _, rfl, .inl ha, _, _, rfl, rfl, _, rfl, ite2 (fun c => ?_) (fun c => iteF ?_)⟩
  · have c1 : j + 1 < ns.length := by have := of_decide_eq_true c; omega
    have ej : (j : Int) + 1 = ((j + 1 : Nat) : Int) := by omega
    refine ⟨_, rfl, _, rfl, _, _, rfl, rfl, a, iv ns, _, _, rfl, rfl, ha, atI_iv (by omega) (by omega), _, rfl, _, rfl, a, iv ns, _, _, rfl, rfl, ha, atI_iv (by omega) (by omega), _, _, rfl, rfl, _, rfl, ite2 (fun c2 => ?_) (fun c2 => ?_)⟩
    · have c3 := of_decide_eq_true c2
      rw [ej, Int.toNat_natCast, Int.toNat_natCast] at c3
      have ne : j ≠ t := fun e => by subst e; have := t3 c1; omega
      refine ⟨fun σ' H2 => H2 = H' ∧ σ' = [some (.ref a), some (.int i), some (.int ((j : Nat) + 1))], fun σ' H'' q => ⟨t - (j + 1), by omega, q.1, j + 1, by omega, by omega, rfl, q.2⟩, ?_⟩
      exact ⟨_, rfl, _, _, rfl, rfl, rfl, rfl⟩
    · have c3 : ¬ (ns.getD i 0 < ns.getD (j + 1) 0) := fun q => c2 (decide_eq_true (by rw [ej, Int.toNat_natCast, Int.toNat_natCast]; exact q))
      have e : j = t := by
        rcases Nat.lt_or_ge j t with q | q
        · exact (c3 (t2 (j + 1) (by omega) (by omega))).elim
        · omega
      subst e
      exact ⟨_, rfl, k⟩
  · have c1 : ¬ (j + 1 < ns.length) := fun q => c (decide_eq_true (by omega))
    have e : j = t := by omega
    subst e
    exact ⟨_, rfl, k⟩
end
abbrev s_stop_of : Stmt := topS 28
abbrev N_stop_of : List Str := ["outline", "line"]
abbrev P_stop_of : List Str := ["outline", "line"]
theorem sc_stop_of : FnScope N_stop_of P_stop_of (defScope s_stop_of) := ⟨rfl, rfl, rfl, by decide +kernel, rfl, by decide +kernel, by decide +kernel⟩
section
variable {P : Program} {w : World} {K : PySem.W.Frag} {mg : Str → Option Value} {base : Heap}
/-- the stop of a line -/
def sp_stop_of (K : PySem.W.Frag) : Sp := fun vs H Q _ => ∃ (a : Addr) (ns : List Int) (i : Int), vs = [.ref a, .int i] ∧ SqL K H a (iv ns) ∧ 0 ≤ i ∧ i < ns.length ∧ Q (.int (i - ns.getD i.toNat 0)) H
theorem ok_stop_of (T : Txt mg) (h : At K mg "stop_of" s_stop_of) :
    Has P w K mg base CX0 1 "stop_of" s_stop_of P_stop_of (sp_stop_of K) := by
  refine Has.of h sc_stop_of (fun vs H Q E h => ?_) (fun _ _ _ _ _ _ us hl => match us, hl with | [_, _], _ => rfl) (fun f cdv A outer s H vs Q E room qt h => ?_)
  · obtain ⟨v, a, i, rfl, _⟩ := h; rfl
  obtain ⟨a, ns, i, rfl, ha, h0, h1, k⟩ := h
  refine ⟨_, (pss_one (ps_ret (pe_op op_sub (pv 1) (pe_ix ix_list (pv 0) (pv 1) (fun _ _ => rfl))))), ?_⟩
  exact ⟨_, rfl, _, rfl, _, rfl, _, _, _, _, rfl, rfl, ha, atI_iv h0 h1, _, _, rfl, rfl, k⟩
end
end SH

namespace SH
open PySem PySem.Spec PyProof.Rows L2
abbrev s_headings : Stmt := topS 30
abbrev N_headings : List Str := ["outline", "line"]
abbrev P_headings : List Str := ["outline", "line"]
theorem sc_headings : FnScope N_headings P_headings (defScope s_headings) := ⟨rfl, rfl, rfl, by decide +kernel, rfl, by decide +kernel, by decide +kernel⟩
abbrev s_section : Stmt := topS 32
abbrev N_section : List Str := ["outline", "line"]
abbrev P_section : List Str := ["outline", "line"]
theorem sc_section : FnScope N_section P_section (defScope s_section) := ⟨rfl, rfl, rfl, by decide +kernel, rfl, by decide +kernel, by decide +kernel⟩
abbrev s_children : Stmt := topS 33
abbrev N_children : List Str := ["outline", "line", "last", "below"]
abbrev P_children : List Str := ["outline", "line"]
theorem sc_children : FnScope N_children P_children (defScope s_children) := ⟨rfl, rfl, rfl, by decide +kernel, rfl, by decide +kernel, by decide +kernel⟩
abbrev s_stops : Stmt := topS 34
abbrev N_stops : List Str := ["outline", "line"]
abbrev P_stops : List Str := ["outline"]
theorem sc_stops : FnScope N_stops P_stops (defScope s_stops) := ⟨rfl, rfl, rfl, by decide +kernel, rfl, by decide +kernel, by decide +kernel⟩
section
variable {P : Program} {w : World} {K : PySem.W.Frag} {mg : Str → Option Value} {base : Heap}
/-- two values, the first is to be an outline, the second a line of it: it returns, or raises as is due -/
def sp_two (CO CL : Addr) : Sp := fun vs H Q E => ∃ (x y : V) (d e : PyData) (as bs : List Addr), vs = [x, y] ∧ Dx H x d as ∧ Dx H y e bs ∧
  (∀ ns : List Int, d = dI ns → isO ns = true → lineD ns.length e = true → RetAny Q H) ∧ (∀ ns : List Int, d = dI ns → isO ns = true → lineD ns.length e = false → Rai E H CL) ∧ (isOD d = false → Rai E H CO)
theorem two_walk {CO CL : Addr} {x y : V} {d e : PyData} {as bs : List Addr} {H : Hp} {Q : VK} {E : XK} {G : Prop} (hd : Dx H x d as) (he : Dx H y e bs) (good : ∀ (a : Addr) (ns : List Int) (i : Nat), x = .ref a → y = .int i → H a = some (.lst (iv ns)) → isO ns = true → i < ns.length → d = dI ns → e = .int i → G)
    (badL : ∀ (a : Addr) (ns : List Int), x = .ref a → H a = some (.lst (iv ns)) → isO ns = true → lineD ns.length e = false → d = dI ns → G) (badO : isOD d = false → G) : G := by
  cases c : isOD d with
  | false => exact badO c
  | true =>
    obtain ⟨ns, rfl, ho⟩ := isOD_ints c
    obtain ⟨a, rfl, ha⟩ := hd.ints
    cases l : lineD ns.length e with
    | false => exact badL a ns rfl ha ho l rfl
    | true =>
      obtain ⟨i, rfl, hi⟩ := lineD_int l
      cases he
      exact good a ns i rfl rfl ha ho hi rfl rfl
theorem ok_headings {CO CL : Addr} (T : Txt mg) (h : At K mg "headings" s_headings)
    (g_check_outline : Has P w K mg base (L2N.CX P w) 4 "check_outline" s_check_outline P_check_outline (sp_chkO CO))
    (g_check_line : Has P w K mg base (L2N.CX P w) 3 "check_line" s_check_line P_check_line (sp_chkL K CL))
    (g_headings_of : Has P w K mg base CX0 2 "headings_of" s_headings_of P_headings_of (sp_headings_of K)) :
    Has P w K mg base (L2N.CX P w) 5 "headings" s_headings P_headings (sp_two CO CL) := by
  refine Has.ofN h sc_headings (fun vs H Q E h => ?_) (fun _ _ _ _ _ _ us hl => match us, hl with | [_, _], _ => rfl) (fun f cdv A outer s H vs Q E room qt h => ?_)
  · obtain ⟨x, y, d, e, as, bs, rfl, _⟩ := h; rfl
  obtain ⟨x, y, d, e, as, bs, rfl, hd, he, k1, k2, k3⟩ := h
  refine ⟨_, (pss_cons (ps_expr (pe_hasS g_check_outline (room.mono (by decide)) qt (by rfl) (fun σ => L2N.passAt (L2N.takes_of rfl rfl rfl rfl) σ) (pa_cons (pv 0) pa_nil)))
      (pss_cons (ps_expr (pe_hasS g_check_line (room.mono (by decide)) qt (by rfl) (fun σ => L2N.passAt (L2N.takes_of rfl rfl rfl rfl) σ) (pa_cons (pv 0) (pa_cons (pv 1) pa_nil))))
      (pss_one (ps_ret (pe_has g_headings_of (room.mono (by decide)) qt (by rfl) pass0 (pa_cons (pv 0) (pa_cons (pv 1) pa_nil))))))), ?_⟩
  refine ⟨_, rfl, x, d, as, rfl, hd, fun c => ?_, fun c => k3 c H (Same.refl _)⟩
  obtain ⟨ns, rfl, ho⟩ := isOD_ints c
  obtain ⟨a, rfl, ha⟩ := hd.ints
  refine ⟨_, rfl, _, rfl, a, ns, y, e, bs, rfl, SqL.of ha, he, fun l => ?_, fun l => k2 ns rfl ho l H (Same.refl _)⟩
  obtain ⟨i, rfl, hi⟩ := lineD_int l
  cases he
  obtain ⟨l1, l2, hk⟩ := isO_iff.mp ho
  exact ⟨_, rfl, _, rfl, a, ns, i, rfl, SqL.of ha, hi, by omega, fun p H1 _ s1 _ => k1 ns rfl ho l _ H1 s1⟩
theorem ok_section {CO CL : Addr} (T : Txt mg) (h : At K mg "section" s_section)
    (g_check_outline : Has P w K mg base (L2N.CX P w) 4 "check_outline" s_check_outline P_check_outline (sp_chkO CO))
    (g_check_line : Has P w K mg base (L2N.CX P w) 3 "check_line" s_check_line P_check_line (sp_chkL K CL))
    (g_last_of_section : Has P w K mg base CX0 2 "last_of_section" s_last_of_section P_last_of_section (sp_last_of_section K)) :
    Has P w K mg base (L2N.CX P w) 5 "section" s_section P_section (sp_two CO CL) := by
  refine Has.ofN h sc_section (fun vs H Q E h => ?_) (fun _ _ _ _ _ _ us hl => match us, hl with | [_, _], _ => rfl) (fun f cdv A outer s H vs Q E room qt h => ?_)
  · obtain ⟨x, y, d, e, as, bs, rfl, _⟩ := h; rfl
  obtain ⟨x, y, d, e, as, bs, rfl, hd, he, k1, k2, k3⟩ := h
  refine ⟨_, (pss_cons (ps_expr (pe_hasS g_check_outline (room.mono (by decide)) qt (by rfl) (fun σ => L2N.passAt (L2N.takes_of rfl rfl rfl rfl) σ) (pa_cons (pv 0) pa_nil)))
      (pss_cons (ps_expr (pe_hasS g_check_line (room.mono (by decide)) qt (by rfl) (fun σ => L2N.passAt (L2N.takes_of rfl rfl rfl rfl) σ) (pa_cons (pv 0) (pa_cons (pv 1) pa_nil))))
      (pss_one (ps_ret (pe_tup (pa_cons (pv 1) (pa_cons (pe_has g_last_of_section (room.mono (by decide)) qt (by rfl) pass0 (pa_cons (pv 0) (pa_cons (pv 1) pa_nil))) pa_nil))))))), ?_⟩
  refine ⟨_, rfl, x, d, as, rfl, hd, fun c => ?_, fun c => k3 c H (Same.refl _)⟩
  obtain ⟨ns, rfl, ho⟩ := isOD_ints c
  obtain ⟨a, rfl, ha⟩ := hd.ints
  refine ⟨_, rfl, _, rfl, a, ns, y, e, bs, rfl, SqL.of ha, he, fun l => ?_, fun l => k2 ns rfl ho l H (Same.refl _)⟩
  obtain ⟨i, rfl, hi⟩ := lineD_int l
  cases he
  obtain ⟨t, it⟩ := end_of hi
  exact ⟨_, rfl, _, rfl, _, rfl, a, ns, i, t, rfl, SqL.of ha, it, (by decide : 2 ≤ sizeLine), fun p hp => k1 ns rfl ho l _ _ (Same.new hp)⟩
theorem ok_children {CO CL : Addr} (T : Txt mg) (h : At K mg "children" s_children)
    (g_check_outline : Has P w K mg base (L2N.CX P w) 4 "check_outline" s_check_outline P_check_outline (sp_chkO CO))
    (g_check_line : Has P w K mg base (L2N.CX P w) 3 "check_line" s_check_line P_check_line (sp_chkL K CL))
    (g_last_of_section : Has P w K mg base CX0 2 "last_of_section" s_last_of_section P_last_of_section (sp_last_of_section K)) :
    Has P w K mg base (L2N.CX P w) 5 "children" s_children P_children (sp_two CO CL) := by
  refine Has.ofN h sc_children (fun vs H Q E h => ?_) (fun _ _ _ _ _ _ us hl => match us, hl with | [_, _], _ => rfl) (fun f cdv A outer s H vs Q E room qt h => ?_)
  · obtain ⟨x, y, d, e, as, bs, rfl, _⟩ := h; rfl
  obtain ⟨x, y, d, e, as, bs, rfl, hd, he, k1, k2, k3⟩ := h
  refine ⟨_, (pss_cons (ps_expr (pe_hasS g_check_outline (room.mono (by decide)) qt (by rfl) (fun σ => L2N.passAt (L2N.takes_of rfl rfl rfl rfl) σ) (pa_cons (pv 0) pa_nil)))
      (pss_cons (ps_expr (pe_hasS g_check_line (room.mono (by decide)) qt (by rfl) (fun σ => L2N.passAt (L2N.takes_of rfl rfl rfl rfl) σ) (pa_cons (pv 0) (pa_cons (pv 1) pa_nil))))
      (pss_cons (ps_set (i := 2) sc_children.nd rfl (Or.inl rfl) (pe_has g_last_of_section (room.mono (by decide)) qt (by rfl) pass0 (pa_cons (pv 0) (pa_cons (pv 1) pa_nil))))
      (pss_one (ps_ret (pe_lc (own := [("below", 3)]) (by rfl) sc_children.nd (pi_range2 (by rfl) T.range (pa_cons (pe_op op_add (pv 1) pe_int) (pa_cons (pe_op op_add (pv 2) pe_int) pa_nil))) (blkOk_by (own := [("below", 3)]) (N := N_children) (sc := defScope s_children) (by decide +kernel)) (fun _ _ _ _ _ => (pg_name (i := 3) sc_children.nd rfl (Or.inl rfl) (hf := Or.inr rfl))) (fun _ _ _ _ _ => (pts_one (pt_cmpR op_eq (pe_ix (show IxR _ (rIxL K) from by exact ix_list) (pv 0) (pv 3) (fun _ _ => rfl)) (pe_op op_add (pe_ix (show IxR _ (rIxL K) from by exact ix_list) (pv 0) (pv 1) (fun _ _ => rfl)) pe_int) (nomark _)))) (fun _ _ _ _ _ => (pv 3)))))))), ?_⟩
  refine ⟨_, rfl, x, d, as, rfl, hd, fun c => ?_, fun c => k3 c H (Same.refl _)⟩
  obtain ⟨ns, rfl, ho⟩ := isOD_ints c
  obtain ⟨a, rfl, ha⟩ := hd.ints
  refine ⟨_, rfl, _, rfl, a, ns, y, e, bs, rfl, SqL.of ha, he, fun l => ?_, fun l => k2 ns rfl ho l H (Same.refl _)⟩
  obtain ⟨i, rfl, hi⟩ := lineD_int l
  cases he
  obtain ⟨l1, l2, hk⟩ := isO_iff.mp ho
  obtain ⟨t, it⟩ := end_of hi
  have it1 := it.1
  have it2 := it.2.1
  refine ⟨_, rfl, _, rfl, a, ns, i, t, rfl, SqL.of ha, it, ?_⟩
  refine ⟨_, rfl, _, _, rfl, rfl, _, rfl, _, _, rfl, rfl, _, _, rfl, ⟨by omega, by omega, by omega, by omega⟩, fun D hD => ?_⟩
  refine lcRn (lo := (i : Int) + 1) (n := ((t : Int) + 1 - ((i : Int) + 1)).toNat) (fun k => decide (ns.getD (((i : Int) + 1 + (k : Nat)).toNat) 0 = ns.getD i 0 + 1)) (fun k => V.int ((i : Int) + 1 + (k : Nat))) hD (by omega) (fun x => rfl) ?_ ?_ ?_
  · intro k H2 Q' hk2 s2 q
    refine ⟨_, rfl, _, rfl, a, iv ns, _, _, rfl, rfl, SqL.of (s2 _ _ ha), atI_iv (by omega) (by omega), _, rfl, _, rfl, a, iv ns, _, _, rfl, rfl, SqL.of (s2 _ _ ha), atI_iv (by omega) (by omega), _, _, rfl, rfl, rfl, _, rfl, ?_⟩
    rw [Int.toNat_natCast, show decide (V.int (ns.getD ((i : Int) + 1 + (k : Nat)).toNat 0) = V.int (ns.getD i 0 + 1)) = decide (ns.getD ((i : Int) + 1 + (k : Nat)).toNat 0 = ns.getD i 0 + 1) by by_cases z : ns.getD ((i : Int) + 1 + (k : Nat)).toNat 0 = ns.getD i 0 + 1 <;> simp [z]]
    exact q H2 (Same.refl _)
  · intro k H2 Q' hk2 _ s2 q
    exact ⟨_, rfl, q H2 (Same.refl _)⟩
  · intro H2 s2 _
    exact k1 ns rfl ho l _ _ s2
def sp_stopsN (CO : Addr) : Sp := fun vs H Q E => ∃ (x : V) (d : PyData) (as : List Addr), vs = [x] ∧ Dx H x d as ∧ (isOD d = true → RetAny Q H) ∧ (isOD d = false → Rai E H CO)
theorem ok_stops {CO : Addr} (T : Txt mg) (h : At K mg "stops" s_stops)
    (g_check_outline : Has P w K mg base (L2N.CX P w) 4 "check_outline" s_check_outline P_check_outline (sp_chkO CO))
    (g_stop_of : Has P w K mg base CX0 1 "stop_of" s_stop_of P_stop_of (sp_stop_of K)) :
    Has P w K mg base (L2N.CX P w) 5 "stops" s_stops P_stops (sp_stopsN CO) := by
  refine Has.ofN h sc_stops (fun vs H Q E h => ?_) (fun _ _ _ _ _ _ us hl => match us, hl with | [_], _ => rfl) (fun f cdv A outer s H vs Q E room qt h => ?_)
  · obtain ⟨x, d, as, rfl, _⟩ := h; rfl
  obtain ⟨x, d, as, rfl, hd, k1, k2⟩ := h
  refine ⟨_, (pss_cons (ps_expr (pe_hasS g_check_outline (room.mono (by decide)) qt (by rfl) (fun σ => L2N.passAt (L2N.takes_of rfl rfl rfl rfl) σ) (pa_cons (pv 0) pa_nil)))
      (pss_one (ps_ret (pe_lc (own := [("line", 1)]) (by rfl) sc_stops.nd (pi_range1 (by rfl) T.range (pa_cons (pe_callB call_len_seq (by rfl) T.len (by decide +kernel) (pa_cons (pv 0) pa_nil)) pa_nil)) (blkOk_by (own := [("line", 1)]) (N := N_stops) (sc := defScope s_stops) (by decide +kernel)) (fun _ _ _ _ _ => (pg_name (i := 1) sc_stops.nd rfl (Or.inl rfl) (hf := Or.inr rfl))) (fun _ _ _ _ _ => pts_nil) (fun _ _ _ _ _ => (pe_has g_stop_of (room.mono (by decide)) qt (by rfl) pass0 (pa_cons (pv 0) (pa_cons (pv 1) pa_nil)))))))), ?_⟩
  refine ⟨_, rfl, x, d, as, rfl, hd, fun c => ?_, fun c => k2 c H (Same.refl _)⟩
  obtain ⟨ns, rfl, ho⟩ := isOD_ints c
  obtain ⟨a, rfl, ha⟩ := hd.ints
  obtain ⟨l1, l2, hk⟩ := isO_iff.mp ho
  have el : (iv ns).length = ns.length := List.length_map _
  refine ⟨_, rfl, a, _, rfl, .inl (SqL.of ha), _, rfl, by omega, by omega, fun D hD => ?_⟩
  refine lcRn (lo := 0) (n := (((iv ns).length : Nat) : Int).toNat) (fun _ => true) (fun k => V.int ((k : Int) - ns.getD k 0)) hD (by omega) (fun x => rfl) (fun k H2 Q' _ _ q => q H2 (Same.refl _)) ?_ ?_
  · intro k H2 Q' hk2 _ s2 q
    refine ⟨_, rfl, _, rfl, a, ns, _, rfl, SqL.of (s2 _ _ ha), by omega, by omega, ?_⟩
    have e : (0 + ((k : Nat) : Int)) = (k : Int) := by omega
    rw [e, Int.toNat_natCast]
    exact q H2 (Same.refl _)
  · intro H2 s2 _
    exact k1 c _ _ s2
end
end SH

namespace SH
open PySem PySem.Spec PyProof.Rows L2
abbrev s_law_source : Stmt := topS 36
abbrev N_law_source : List Str := ["cell", "k"]
abbrev P_law_source : List Str := ["cell", "k"]
theorem sc_law_source : FnScope N_law_source P_law_source (defScope s_law_source) := ⟨rfl, rfl, rfl, by decide +kernel, rfl, by decide +kernel, by decide +kernel⟩
abbrev s_law_draw : Stmt := topS 37
abbrev N_law_draw : List Str := ["source", "count", "digit", "mixed"]
abbrev P_law_draw : List Str := ["source", "count"]
theorem sc_law_draw : FnScope N_law_draw P_law_draw (defScope s_law_draw) := ⟨rfl, rfl, rfl, by decide +kernel, rfl, by decide +kernel, by decide +kernel⟩
abbrev s_law_depths : Stmt := topS 38
abbrev N_law_depths : List Str := ["source", "most", "style", "size", "found", "step", "last", "next_ones"]
abbrev P_law_depths : List Str := ["source", "most"]
theorem sc_law_depths : FnScope N_law_depths P_law_depths (defScope s_law_depths) := ⟨rfl, rfl, rfl, by decide +kernel, rfl, by decide +kernel, by decide +kernel⟩
section
variable {P : Program} {w : World} {K : PySem.W.Frag} {mg : Str → Option Value} {base : Heap}
/-! ### the generator: [digits, seed, count] -/
def sp_law_source : Sp := fun vs H Q _ => ∃ c k : Int, vs = [.int c, .int k] ∧ 0 ≤ k ∧ k ≤ 1000 ∧
  ∀ x y : Int, 0 ≤ y → y < 2 ^ 200 → NewL Q H [.int x, .int y, .int 0]
theorem pow37 : (10 : Int) ^ (37 : Int).toNat = 10000000000000000000000000000000000000 := by decide
theorem pow18 : (10 : Int) ^ (18 : Int).toNat = 1000000000000000000 := by decide
theorem pow36 : (10 : Int) ^ (36 : Int).toNat = 1000000000000000000000000000000000000 := by decide
theorem pow38 : (10 : Int) ^ (38 : Int).toNat = 100000000000000000000000000000000000000 := by decide
theorem ok_law_source (T : Txt mg) (h : At K mg "_law_source" s_law_source) :
    Has P w K mg base CX0 2 "_law_source" s_law_source P_law_source sp_law_source := by
  refine Has.of h sc_law_source (fun vs H Q E h => ?_) (fun _ _ _ _ _ _ us hl => match us, hl with | [_, _], _ => rfl) (fun f cdv A outer s H vs Q E room qt h => ?_)
  · obtain ⟨v, a, rfl, _⟩ := h; rfl
  obtain ⟨c, i, rfl, i0, i1, k⟩ := h
  refine ⟨_, (pss_one (ps_ret (pe_lst (pa_cons (pe_callB (call_max2 rfl) (by rfl) T.max (by decide +kernel) (pa_cons pe_int (pa_cons (pe_op op_sub (pv 0) (pe_op op_powG pe_int pe_int)) pa_nil))) (pa_cons (pe_op op_add (pe_op op_mul (pe_op op_mod (pv 0) (pe_op op_add (pe_op op_powG pe_int pe_int) pe_int)) pe_int) (pv 1)) (pa_cons pe_int pa_nil)))))), ?_⟩
  refine ⟨_, rfl, _, _, rfl, rfl, ten_ok (by decide) (by decide), _, _, rfl, rfl, _, _, rfl, ?_⟩
  refine ⟨_, rfl, _, _, rfl, rfl, ten_ok (by decide) (by decide), _, _, rfl, rfl, _, _, rfl, rfl, ?_, _, _, rfl, rfl, .inr ⟨by decide, by decide⟩, _, rfl, _, _, rfl, rfl, ?_⟩
  · show (0 : Int) < _
    rw [pow37]; decide
  refine ⟨(by decide : 3 ≤ sizeLine), fun p hp => k _ _ ?_ ?_ p hp⟩
  · rw [pow37]; omega
  · rw [pow37]; omega

/-- a draw from count: the list at a is changed, its seed stays, its count grows by one at most -/
def sp_law_draw : Sp := fun vs H Q _ => ∃ (a : Addr) (n x y z : Int), vs = [.ref a, .int n] ∧ H a = some (.lst [.int x, .int y, .int z]) ∧
  0 < n ∧ n < 1073741824 ∧ 0 ≤ y ∧ y < 2 ^ 200 ∧ 0 ≤ z ∧ z ≤ 1000000000 ∧
  ∀ r x' z' : Int, 0 ≤ r → r < n → z ≤ z' → z' ≤ z + 1 → Q (.int r) (upd H a (.lst [.int x', .int y, .int z']))
theorem ok_law_draw (T : Txt mg) (h : At K mg "_law_draw" s_law_draw) :
    Has P w K mg base CX0 2 "_law_draw" s_law_draw P_law_draw sp_law_draw := by
  refine Has.of h sc_law_draw (fun vs H Q E h => ?_) (fun _ _ _ _ _ _ us hl => match us, hl with | [_, _], _ => rfl) (fun f cdv A outer s H vs Q E room qt h => ?_)
  · obtain ⟨v, a, x, y, z, rfl, _⟩ := h; rfl
  obtain ⟨a, n, x, y, z, rfl, ha, n0, n1, y0, y1, z0, z1, k⟩ := h
  refine ⟨_, (pss_cons (ps_if (pt_cmpR op_gt (pe_ix ix_list (pv 0) pe_int (fun _ _ => rfl)) pe_int (nomark _))
        (pss_cons (ps_set (i := 2) sc_law_draw.nd rfl (Or.inl rfl) (pe_op op_mod (pe_ix ix_list (pv 0) pe_int (fun _ _ => rfl)) (pv 1)))
        (pss_cons (ps_asg (pe_op op_fdiv (pe_ix ix_list (pv 0) pe_int (fun _ _ => rfl)) (pv 1)) (pg_sub (pv 0) pe_int set_list))
        (pss_one (ps_ret (pv 2)))))
        pss_nil)
      (pss_cons (ps_asg (pe_op op_add (pe_ix ix_list (pv 0) pe_int (fun _ _ => rfl)) pe_int) (pg_sub (pv 0) pe_int set_list))
      (pss_cons (ps_set (i := 3) sc_law_draw.nd rfl (Or.inl rfl) (pe_op op_mod (pe_op op_powG (pe_op op_add (pe_ix ix_list (pv 0) pe_int (fun _ _ => rfl)) (pe_op op_mul pe_int (pe_ix ix_list (pv 0) pe_int (fun _ _ => rfl)))) pe_int) (pe_op op_add (pe_op op_powG pe_int pe_int) pe_int)))
      (pss_cons (ps_set (i := 3) sc_law_draw.nd rfl (Or.inl rfl) (pe_op op_mod (pe_op op_powG (pe_op op_add (pv 3) (pe_op op_mul pe_int (pe_ix ix_list (pv 0) pe_int (fun _ _ => rfl)))) pe_int) (pe_op op_add (pe_op op_powG pe_int pe_int) pe_int)))
      (pss_one (ps_ret (pe_op op_mod (pe_op op_fdiv (pv 3) pe_int) (pv 1)))))))), ?_⟩
  refine ⟨_, rfl, a, _, 0, _, rfl, rfl, SqL.of ha, rfl, _, _, rfl, rfl, _, rfl, ite2 (fun c => ?_) (fun c => ?_)⟩
  · refine ⟨_, rfl, a, _, 0, _, rfl, rfl, SqL.of ha, rfl, _, rfl, _, _, rfl, rfl, n0, ?_⟩
    refine ⟨_, rfl, a, _, 0, _, rfl, rfl, SqL.of ha, rfl, _, rfl, _, _, rfl, rfl, ⟨n0, n1⟩, _, rfl, a, _, 0, 0, rfl, rfl, ha, rfl, ?_⟩
    exact ⟨_, rfl, k _ _ _ (Int.emod_nonneg _ (by omega)) (Int.emod_lt_of_pos _ n0) (by omega) (by omega)⟩
  · refine ⟨_, rfl, a, _, 2, _, rfl, rfl, SqL.of ha, rfl, _, _, rfl, rfl, _, rfl, a, _, 2, 2, rfl, rfl, ha, rfl, ?_⟩
    -- mixed = (source[1] + 900236 * source[2]) ** 3 % (10 ** 36 + 67)
    have h2 : (upd H a (.lst [.int x, .int y, .int (z + 1)])) a = some (.lst [.int x, .int y, .int (z + 1)]) := upd_same
    refine ⟨_, rfl, a, _, 1, _, rfl, rfl, SqL.of h2, rfl, _, rfl, a, _, 2, _, rfl, rfl, SqL.of h2, rfl, _, _, rfl, rfl, .inl ⟨by decide, by decide⟩, _, _, rfl, rfl, _, _, rfl, rfl, ?_, ?_⟩
    · exact cube_ok (by omega)
    refine ⟨_, _, rfl, rfl, ten_ok (by decide) (by decide), _, _, rfl, rfl, _, _, rfl, rfl, ?_, ?_⟩
    · show (0 : Int) < _
      rw [pow36]; decide
    -- mixed = (mixed + 41 * source[2]) ** 3 % (10 ** 38 + 133)
    have e36 : 0 ≤ (y + 900236 * (z + 1)) ^ (3 : Int).toNat % (10 ^ (36 : Int).toNat + 67) ∧ (y + 900236 * (z + 1)) ^ (3 : Int).toNat % (10 ^ (36 : Int).toNat + 67) < 2 ^ 200 := by
      rw [pow36]; omega
    refine ⟨_, rfl, _, rfl, a, _, 2, _, rfl, rfl, SqL.of h2, rfl, _, _, rfl, rfl, .inl ⟨by decide, by decide⟩, _, _, rfl, rfl, _, _, rfl, rfl, ?_, ?_⟩
    · exact cube_ok (by omega)
    refine ⟨_, _, rfl, rfl, ten_ok (by decide) (by decide), _, _, rfl, rfl, _, _, rfl, rfl, ?_, ?_⟩
    · show (0 : Int) < _
      rw [pow38]; decide
    refine ⟨_, rfl, _, _, rfl, rfl, ⟨by decide, by decide⟩, _, rfl, _, _, rfl, rfl, n0, ?_⟩
    exact k _ _ _ (Int.emod_nonneg _ (by omega)) (Int.emod_lt_of_pos _ n0) (by omega) (by omega)
end
section
variable {P : Program} {w : World} {K : PySem.W.Frag} {mg : Str → Option Value} {base : Heap}
def sp_law_depths : Sp := fun vs H Q _ => ∃ (a : Addr) (m x y z : Int), vs = [.ref a, .int m] ∧ H a = some (.lst [.int x, .int y, .int z]) ∧
  1 ≤ m ∧ m ≤ 200 ∧ 0 ≤ y ∧ y < 2 ^ 200 ∧ 0 ≤ z ∧ z ≤ 100000000 ∧
  ∀ (ns : List Int) (x' z' : Int) (p : Addr) (H' : Hp), isO ns = true → (ns.length : Int) ≤ m → z ≤ z' → z' ≤ z + 1000 → H p = none → SameBut a H H' →
    H' a = some (.lst [.int x', .int y, .int z']) → H' p = some (.lst (iv ns)) → Q (.ref p) H'
theorem ok_law_depths (T : Txt mg) (h : At K mg "_law_depths" s_law_depths)
    (g_law_draw : Has P w K mg base CX0 2 "_law_draw" s_law_draw P_law_draw sp_law_draw) :
    Has P w K mg base CX0 3 "_law_depths" s_law_depths P_law_depths sp_law_depths := by
  refine Has.of h sc_law_depths (fun vs H Q E h => ?_) (fun _ _ _ _ _ _ us hl => match us, hl with | [_, _], _ => rfl) (fun f cdv A outer s H vs Q E room qt h => ?_)
  · obtain ⟨v, a, x, y, z, rfl, _⟩ := h; rfl
  obtain ⟨a, m, x, y, z, rfl, ha, m0, m1, y0, y1, z0, z1, k⟩ := h
  refine ⟨_, (pss_cons (ps_set (i := 2) sc_law_depths.nd rfl (Or.inl rfl) (pe_has g_law_draw (room.mono (by decide)) qt (by rfl) pass0 (pa_cons (pv 0) (pa_cons pe_int pa_nil))))
      (pss_cons (ps_set (i := 3) sc_law_depths.nd rfl (Or.inl rfl) (pe_op op_add pe_int (pe_ix ix_list (pe_lst (pa_cons (pe_has g_law_draw (room.mono (by decide)) qt (by rfl) pass0 (pa_cons (pv 0) (pa_cons (pv 1) pa_nil))) (pa_cons (pe_op op_sub (pv 1) pe_int) (pa_cons (pe_has g_law_draw (room.mono (by decide)) qt (by rfl) pass0 (pa_cons (pv 0) (pa_cons (pe_callB (call_min2 rfl) (by rfl) T.min (by decide +kernel) (pa_cons pe_int (pa_cons (pv 1) pa_nil))) pa_nil))) pa_nil)))) (pe_has g_law_draw (room.mono (by decide)) qt (by rfl) pass0 (pa_cons (pv 0) (pa_cons pe_int pa_nil))) (fun _ _ => rfl))))
      (pss_cons (ps_set (i := 4) sc_law_depths.nd rfl (Or.inl rfl) (pe_lst (pa_cons pe_int pa_nil)))
      (pss_cons (ps_for PassesOwn.never rfl (pi_range1 (by rfl) T.range (pa_cons (pe_op op_sub (pv 3) pe_int) pa_nil)) (pg_name (i := 5) sc_law_depths.nd rfl (Or.inl rfl) (hf := Or.inl rfl))
        (pss_cons (ps_set (i := 6) sc_law_depths.nd rfl (Or.inl rfl) (pe_ix ix_list (pv 4) (pe_un un_neg pe_int) (fun _ _ => rfl)))
        (pss_cons (ps_set (i := 7) sc_law_depths.nd rfl (Or.inl rfl) (pe_lst (pa_cons (pe_has g_law_draw (room.mono (by decide)) qt (by rfl) pass0 (pa_cons (pv 0) (pa_cons (pe_op op_add (pv 6) pe_int) pa_nil))) (pa_cons (pe_op op_add (pv 6) pe_int) (pa_cons pe_int (pa_cons (pe_callB (call_max2 rfl) (by rfl) T.max (by decide +kernel) (pa_cons pe_int (pa_cons (pe_op op_sub (pe_op op_add (pv 6) pe_int) (pe_has g_law_draw (room.mono (by decide)) qt (by rfl) pass0 (pa_cons (pv 0) (pa_cons pe_int pa_nil)))) pa_nil))) pa_nil))))))
        (pss_one (ps_expr (pe_bm PySem.F.plainAttrs_list PySem.F.slot_list_append PySem.F.type_list_append mt_append (pv 4) (pa_cons (pe_ix ix_list (pv 7) (pv 2) (fun _ _ => rfl)) pa_nil)))))))
      (pss_one (ps_ret (pv 4))))))), ?_⟩
  -- style = _law_draw(source, 4)
  refine ⟨_, rfl, a, 4, x, y, z, rfl, ha, by decide, by decide, y0, y1, z0, by omega, fun st x1 z1 s0 s1 u1 v1 => ?_⟩
  -- size = 1 + [.., .., ..][..]
  refine ⟨_, rfl, _, rfl, a, m, x1, y, z1, rfl, upd_same, by omega, by omega, y0, y1, by omega, by omega, fun d1 x2 z2 p1 q1 u2 v2 => ?_⟩
  refine ⟨_, rfl, _, _, rfl, rfl, _, rfl, _, rfl, _, _, rfl, a, _, x2, y, z2, rfl, upd_same, ?_, ?_, y0, y1, by omega, by omega, fun d3 x3 z3 p3 q3 u3 v3 => ?_⟩
  · split <;> omega
  · split <;> omega
  refine ⟨(by decide : 3 ≤ sizeLine), fun q hq => ?_⟩
  have na : a ≠ q := fun e => by subst e; rw [upd_same] at hq; cases hq
  -- [..][_law_draw(source, 3)]
  refine ⟨_, rfl, a, 3, x3, y, z3, rfl, (by rw [upd_ne na]; exact upd_same), by decide, by decide, y0, y1, by omega, by omega, fun j x4 z4 p4 q4 u4 v4 => ?_⟩
  refine ⟨q, iv [d1, m - 1, d3], j, _, rfl, rfl, SqL.of (by rw [upd_ne na.symm]; exact upd_same), atI_iv p4 (by exact q4), _, _, rfl, rfl, ?_⟩
  have hs : 0 ≤ [d1, m - 1, d3].getD j.toNat 0 ∧ [d1, m - 1, d3].getD j.toNat 0 < m := by
    refine getD_all (p := fun v => 0 ≤ v ∧ v < m) (fun v hv => ?_) p4 (by exact q4)
    simp only [List.mem_cons, List.not_mem_nil, or_false] at hv
    rcases hv with rfl | rfl | rfl
    · omega
    · omega
    · split at q3 <;> omega
  generalize [d1, m - 1, d3].getD j.toNat 0 = sz at hs ⊢
  -- found = [0]
  refine ⟨(by decide : 1 ≤ sizeLine), fun p hp => ?_⟩
  have nap : p ≠ a := fun e => by subst e; rw [upd_same] at hp; cases hp
  have hpH : H p = none := by
    rw [upd_ne nap] at hp
    by_cases e : p = q
    · subst e; rw [upd_same] at hp; cases hp
    · rwa [upd_ne e, upd_ne nap, upd_ne nap, upd_ne nap] at hp
  have hqH : H q = none := by rwa [upd_ne na.symm, upd_ne na.symm, upd_ne na.symm] at hq
  -- for step in range(size - 1)
  refine ⟨_, rfl, _, _, rfl, rfl, _, rfl, by omega, by omega, for_range (lo := 0) (n := (1 + sz - 1).toNat)
    (fun i σ H2 => (∃ v5 v6 v7, σ = [some (.ref a), some (.int m), some (.int st), some (.int (1 + sz)), some (.ref p), v5, v6, v7]) ∧
      ∃ (ns : List Int) (x' z' : Int), ns.length = i + 1 ∧ okFrom 0 ns = true ∧ z4 ≤ z' ∧ z' ≤ z4 + 2 * i ∧ SameBut a H H2 ∧
        H2 a = some (.lst [.int x', .int y, .int z']) ∧ H2 p = some (.lst (iv ns)))
    ⟨⟨_, _, _, rfl⟩, [0], x4, z4, rfl, rfl, by omega, by omega, ?_, ?_, upd_same⟩ ?_ ?_⟩
  · intro b o e n
    have nb : b ≠ p := ne_of_none e hpH
    have nq : b ≠ q := ne_of_none e hqH
    rw [upd_ne nb, upd_ne n, upd_ne nq, upd_ne n, upd_ne n, upd_ne n]
    exact e
  · rw [upd_ne nap.symm]; exact upd_same
  · rintro i σ H2 hi ⟨⟨v5, v6, v7, rfl⟩, ns, x', z', hl, hk, b1, b2, sb, h2a, h2p⟩
    have nn : ns ≠ [] := fun e => by subst e; cases hl
    have l0 := (okFrom_at hk (i := ns.length - 1) (by omega)).1
    have l1 := okFrom_le hk (i := ns.length - 1) (by omega)
    -- last = found[-1]
    refine ⟨_, rfl, _, rfl, p, iv ns, -1, _, rfl, rfl, SqL.of h2p, atI_iv_last nn, ?_⟩
    generalize hla : ns.getD (ns.length - 1) 0 = la at l0 l1 ⊢
    -- next_ones = [..]
    refine ⟨_, rfl, _, rfl, _, _, rfl, rfl, a, _, x', y, z', rfl, h2a, by omega, by omega, y0, y1, by omega, by omega, fun e1 x5 z5 p5 q5 u5 v5' => ?_⟩
    refine ⟨_, rfl, _, _, rfl, rfl, _, rfl, _, _, rfl, rfl, _, rfl, a, 3, x5, y, z5, rfl, upd_same, by decide, by decide, y0, y1, by omega, by omega, fun e4 x6 z6 p6 q6 u6 v6' => ?_⟩
    refine ⟨_, _, rfl, rfl, _, _, rfl, (by decide : 4 ≤ sizeLine), fun r hr => ?_⟩
    have nra : r ≠ a := fun e => by subst e; rw [upd_same] at hr; cases hr
    rw [upd_ne nra, upd_ne nra] at hr
    have nrp : p ≠ r := ne_of_none h2p hr
    -- found.append(next_ones[style])
    refine ⟨_, rfl, .inl ⟨rfl, iv ns, SqL.of (by rw [upd_ne nrp, upd_ne nap, upd_ne nap]; exact h2p)⟩, ?_⟩
    refine ⟨_, rfl, _, rfl, r, iv [e1, la + 1, 0, if la + 1 - e4 > 0 then la + 1 - e4 else 0], st, _, rfl, rfl, SqL.of upd_same, atI_iv s0 (by exact s1), ?_⟩
    have hd : 0 ≤ [e1, la + 1, 0, if la + 1 - e4 > 0 then la + 1 - e4 else 0].getD st.toNat 0 ∧ [e1, la + 1, 0, if la + 1 - e4 > 0 then la + 1 - e4 else 0].getD st.toNat 0 ≤ la + 1 := by
      refine getD_all (p := fun v => 0 ≤ v ∧ v ≤ la + 1) (fun v hv => ?_) s0 (by exact s1)
      simp only [List.mem_cons, List.not_mem_nil, or_false] at hv
      rcases hv with rfl | rfl | rfl | rfl
      · omega
      · omega
      · omega
      · split <;> omega
    generalize [e1, la + 1, 0, if la + 1 - e4 > 0 then la + 1 - e4 else 0].getD st.toNat 0 = d at hd ⊢
    refine ⟨p, iv ns, .int d, rfl, rfl, (by rw [upd_ne nrp, upd_ne nap, upd_ne nap]; exact h2p), small_line (by rw [List.length_map]; omega), ?_⟩
    refine ⟨⟨_, _, _, rfl⟩, ns ++ [d], x6, z6, by rw [List.length_append, hl]; rfl, okFrom_snoc hk hd.1 (fun e => (nn e).elim) (fun _ => by rw [hla]; exact hd.2), by omega, by omega, ?_, ?_, ?_⟩
    · intro b o e n
      have nb : b ≠ p := ne_of_none e hpH
      have nr : b ≠ r := ne_of_none (sb b o e n) hr
      rw [upd_ne nb, upd_ne nr, upd_ne n, upd_ne n]
      exact sb b o e n
    · rw [upd_ne nap.symm, upd_ne nra.symm]; exact upd_same
    · rw [iv_snoc]; exact upd_same
  · rintro σ H2 ⟨⟨v5, v6, v7, rfl⟩, ns, x', z', hl, hk, b1, b2, sb, h2a, h2p⟩
    refine ⟨_, rfl, k ns x' z' p H2 ?_ ?_ ?_ ?_ hpH sb h2a h2p⟩
    · exact isO_iff.mpr ⟨by omega, by omega, hk⟩
    all_goals omega
end
theorem isO_vals {ns : List Int} (h : isO ns = true) : ∀ v ∈ ns, v.natAbs < 2 ^ 64 := by
  obtain ⟨h1, h2, h3⟩ := isO_iff.mp h
  intro v hv
  obtain ⟨i, hi, rfl⟩ := List.getElem_of_mem hv
  have a := (okFrom_at h3 hi).1
  have b := okFrom_le h3 hi
  rw [List.getD_eq_getElem?_getD, List.getElem?_eq_getElem hi, Option.getD_some] at a b
  omega
theorem SameBut.own {a p : Addr} {H H' : Hp} {o : HO} (s : SameBut a H H') (h : H p = none) : SameBut a H (L2.upd H' p o) :=
  fun b u e n => by rw [upd_ne (ne_of_none e h)]; exact s b u e n
theorem SameBut.two {g d : Addr} {H H1 H2 : Hp} (b : SameBut g H H1) (c : SameBut d H1 H2) (h : H d = none) : SameBut g H H2 :=
  fun x o e n => c x o (b x o e n) (ne_of_none e h)
theorem SameBut.free {a p : Addr} {H H' : Hp} (s : SameBut a H H') (n : p ≠ a) (h : H' p = none) : H p = none := by
  cases e : H p with
  | none => rfl
  | some o => rw [s p o e n] at h; cases h
/-! ### the generator told by bounds -/
def SrcA (H : Hp) (a : Addr) (B : Int) : Prop := ∃ x y z : Int, H a = some (.lst [.int x, .int y, .int z]) ∧ 0 ≤ y ∧ y < 2 ^ 200 ∧ 0 ≤ z ∧ z ≤ B
theorem SrcA.new {H : Hp} {a p : Addr} {B : Int} {o : HO} (s : SrcA H a B) (h : H p = none) : SrcA (upd H p o) a B := by
  obtain ⟨x, y, z, e, q⟩ := s
  exact ⟨x, y, z, by rw [upd_ne (ne_of_none e h)]; exact e, q⟩
theorem SrcA.same {H H' : Hp} {a : Addr} {B : Int} (s : SrcA H a B) (h : Same H H') : SrcA H' a B := by
  obtain ⟨x, y, z, e, q⟩ := s
  exact ⟨x, y, z, h _ _ e, q⟩
theorem SrcA.ne {H : Hp} {a p : Addr} {B : Int} (s : SrcA H a B) (h : H p = none) : a ≠ p := by
  obtain ⟨x, y, z, e, q⟩ := s
  exact ne_of_none e h
theorem SrcA.le {H : Hp} {a : Addr} {B C : Int} (s : SrcA H a B) (h : B ≤ C) : SrcA H a C := by
  obtain ⟨x, y, z, e, y0, y1, z0, z1⟩ := s
  exact ⟨x, y, z, e, y0, y1, z0, by omega⟩
theorem SrcA.upd_ne {H : Hp} {a p : Addr} {B : Int} {o : HO} (s : SrcA H a B) (h : a ≠ p) : SrcA (upd H p o) a B := by
  obtain ⟨x, y, z, e, q⟩ := s
  exact ⟨x, y, z, by rw [L2.upd_ne h]; exact e, q⟩
section
variable {P : Program} {w : World} {K : PySem.W.Frag} {mg : Str → Option Value} {base : Heap}
theorem Has.imp {CX : CXT} {k : Nat} {x : Str} {st : Stmt} {ps : List Str} {sp sp' : Sp} (h : Has P w K mg base CX k x st ps sp) (i : ∀ vs H Q E, sp' vs H Q E → sp vs H Q E) :
    Has P w K mg base CX k x st ps sp' := by
  obtain ⟨f, fd, F, m, G, b⟩ := h
  exact ⟨f, fd, F, m, ⟨fun vs H Q E h => G.arity vs H Q E (i vs H Q E h), fun A outer s H args us vs Q E r q e bt v h => G.go A outer s H args us vs Q E r q e bt v (i vs H Q E h)⟩, b⟩
def sp_drawA : Sp := fun vs H Q _ => ∃ (a : Addr) (n B : Int), vs = [.ref a, .int n] ∧ SrcA H a B ∧ 0 < n ∧ n < 1073741824 ∧ B ≤ 1000000000 ∧
  ∀ r H', 0 ≤ r → r < n → SameBut a H H' → SrcA H' a (B + 1) → Q (.int r) H'
theorem draw_imp : ∀ vs H Q E, sp_drawA vs H Q E → sp_law_draw vs H Q E := by
  rintro vs H Q E ⟨a, n, B, rfl, ⟨x, y, z, e, y0, y1, z0, z1⟩, n0, n1, hB, k⟩
  exact ⟨a, n, x, y, z, rfl, e, n0, n1, y0, y1, z0, by omega, fun r x' z' r0 r1 h0 h1 => k r _ r0 r1 (SameBut.upd SameBut.refl) ⟨x', y, z', upd_same, y0, y1, by omega, by omega⟩⟩
def sp_depthsA : Sp := fun vs H Q _ => ∃ (a : Addr) (m B : Int), vs = [.ref a, .int m] ∧ SrcA H a B ∧ 1 ≤ m ∧ m ≤ 200 ∧ B ≤ 100000000 ∧
  ∀ (ns : List Int) (p : Addr) (H' : Hp), isO ns = true → (ns.length : Int) ≤ m → H p = none → SameBut a H H' → SrcA H' a (B + 1000) → H' p = some (.lst (iv ns)) → Q (.ref p) H'
theorem depths_imp : ∀ vs H Q E, sp_depthsA vs H Q E → sp_law_depths vs H Q E := by
  rintro vs H Q E ⟨a, m, B, rfl, ⟨x, y, z, e, y0, y1, z0, z1⟩, n0, n1, hB, k⟩
  exact ⟨a, m, x, y, z, rfl, e, n0, n1, y0, y1, z0, by omega, fun ns x' z' p H' ho hl h0 h1 hp b ha hpp => k ns p H' ho hl hp b ⟨x', y, z', ha, y0, y1, by omega, by omega⟩ hpp⟩
end
end SH

namespace SH
open PySem PySem.Spec PyProof.Rows L2
abbrev s_law_bad_depths : Stmt := topS 40
abbrev N_law_bad_depths : List Str := ["source", "depths", "at", "before", "odd", "some"]
abbrev P_law_bad_depths : List Str := ["source", "depths"]
theorem sc_law_bad_depths : FnScope N_law_bad_depths P_law_bad_depths (defScope s_law_bad_depths) := ⟨rfl, rfl, rfl, by decide +kernel, rfl, by decide +kernel, by decide +kernel⟩
/-- the state while values are made: the pool at g, the depths at a -/
structure Stg (H H' : Hp) (g a : Addr) (ns : List Int) (B : Int) : Prop where
  b : SameBut g H H'
  g : SrcA H' g B
  a : H' a = some (.lst (iv ns))
theorem Stg.new {H H' : Hp} {g a p : Addr} {ns : List Int} {B : Int} {o : HO} (s : Stg H H' g a ns B) (h : H' p = none) : Stg H (upd H' p o) g a ns B :=
  ⟨s.b.new h, s.g.new h, Same.new h _ _ s.a⟩
theorem Stg.draw {H H' H2 : Hp} {g a : Addr} {ns : List Int} {B C : Int} (s : Stg H H' g a ns B) (n : a ≠ g) (b : SameBut g H' H2) (h : SrcA H2 g C) : Stg H H2 g a ns C :=
  ⟨s.b.trans b, h, b _ _ s.a n⟩
theorem Stg.ng {H H' : Hp} {g a p : Addr} {ns : List Int} {B : Int} (s : Stg H H' g a ns B) (h : H' p = none) : p ≠ g := (s.g.ne h).symm
theorem getD_snoc (ns : List Int) (x : Int) : (ns ++ [x]).getD ns.length 0 = x := by
  rw [List.getD_eq_getElem?_getD, List.getElem?_append_right (Nat.le_refl _), Nat.sub_self]
  rfl
theorem getD_app {ns ms : List Int} {i : Nat} (h : i < ns.length) : (ns ++ ms).getD i 0 = ns.getD i 0 := by
  rw [List.getD_eq_getElem?_getD, List.getElem?_append_left h, List.getD_eq_getElem?_getD]
theorem iv_app (xs ys : List Int) : iv xs ++ iv ys = iv (xs ++ ys) := (List.map_append).symm
theorem okFromD_all {ds : List PyData} (h : okFromD 0 ds = true) : ∀ i, i ≤ ds.length → okFromD (gD ds i) (ds.drop i) = true
  | 0, _ => h
  | i + 1, hi => by
    have e : ds[i]? = some (ds.getD i .none) := by rw [List.getD_eq_getElem?_getD, List.getElem?_eq_getElem (by omega)]; rfl
    have := okFromD_all h i (by omega)
    rw [okFromD_drop e, Bool.and_eq_true] at this
    exact this.2
theorem okFromD_at {ds : List PyData} (h : okFromD 0 ds = true) {i : Nat} {d : PyData} (e : ds[i]? = some d) : inD d 0 (gD ds i) = true := by
  have hl := (List.getElem?_eq_some_iff.mp e).1
  have := okFromD_all h i (by omega)
  rw [okFromD_drop e, Bool.and_eq_true] at this
  exact this.1
/-- an outline with one place that does not fit -/
theorem wrong_at {ns : List Int} {t : Nat} {d : PyData} {be : Int} (tl : t < ns.length) (hbe : be + 1 = gAt ns t) (hd : ∀ v, d = .int v → v < 0 ∨ be + 1 < v) :
    isOD (.list ((ns.take t).map PyData.int ++ [d] ++ (ns.drop (t + 1)).map PyData.int)) = false := by
  have lt : ((ns.take t).map PyData.int).length = t := by rw [List.length_map, List.length_take]; omega
  have e : ((ns.take t).map PyData.int ++ [d] ++ (ns.drop (t + 1)).map PyData.int)[t]? = some d := by
    rw [List.append_assoc, List.getElem?_append_right (by omega), lt, Nat.sub_self]
    rfl
  have eg : gD ((ns.take t).map PyData.int ++ [d] ++ (ns.drop (t + 1)).map PyData.int) t = be + 1 := by
    rw [hbe]
    cases t with
    | zero => rfl
    | succ j =>
      show nextD (List.getD _ j .none) = ns.getD j 0 + 1
      have : ((ns.take (j + 1)).map PyData.int ++ [d] ++ (ns.drop (j + 1 + 1)).map PyData.int)[j]? = some (.int (ns.getD j 0)) := by
        rw [List.append_assoc, List.getElem?_append_left (by omega), List.getElem?_map, List.getElem?_take_of_lt (by omega), List.getElem?_eq_getElem (by omega), List.getD_eq_getElem?_getD, List.getElem?_eq_getElem (by omega)]
        rfl
      rw [getD_of this]
      rfl
  cases c : isOD (.list ((ns.take t).map PyData.int ++ [d] ++ (ns.drop (t + 1)).map PyData.int)) with
  | false => rfl
  | true =>
    have c1 : (decide (1 ≤ _) && decide (_ ≤ 200) && okFromD 0 ((ns.take t).map PyData.int ++ [d] ++ (ns.drop (t + 1)).map PyData.int)) = true := c
    rw [Bool.and_eq_true] at c1
    have c2 := okFromD_at c1.2 e
    rw [eg] at c2
    obtain ⟨v, rfl, v0, v1⟩ := inD_int c2
    rcases hd v rfl with z | z <;> omega
section
variable {P : Program} {w : World} {K : PySem.W.Frag} {mg : Str → Option Value} {base : Heap}
/-- a value that is no depth after `be` -/
def OddV (H : Hp) (g : Addr) (be : Int) (x : V) : Prop := ∃ d as, Dx H x d as ∧ (∀ v, d = .int v → v < 0 ∨ be + 1 < v) ∧ Fits 1 1926 d ∧ (d.hasDict = true → sysModules ∉ as) ∧ g ∉ as
def WrongV (H : Hp) (x : V) : Prop := ∃ d as, Dx H x d as ∧ isOD d = false ∧ Fits 40 4000000 d ∧ (d.hasDict = true → sysModules ∉ as)
def WrongG (H : Hp) (g : Addr) (x : V) : Prop := ∃ d as, Dx H x d as ∧ isOD d = false ∧ Fits 40 4000000 d ∧ (d.hasDict = true → sysModules ∉ as) ∧ g ∉ as
theorem WrongG.same {H H' : Hp} {g : Addr} {x : V} (h : WrongG H g x) (s : Same H H') : WrongG H' g x := by
  obtain ⟨d, as, a, b⟩ := h
  exact ⟨d, as, a.same s, b⟩
theorem WrongG.but {H H' : Hp} {g : Addr} {x : V} (h : WrongG H g x) (s : SameBut g H H') : WrongG H' g x := by
  obtain ⟨d, as, a, b, c, e, f⟩ := h
  exact ⟨d, as, a.but s f, b, c, e, f⟩
theorem WrongG.ints {H : Hp} {g p : Addr} {ms : List Int} (e : H p = some (.lst (iv ms))) (n : p ≠ g) (h : isO ms = false) (l : ms.length ≤ 1000) (b : ∀ v ∈ ms, v.natAbs < 2 ^ 128) : WrongG H g (.ref p) :=
  ⟨_, _, dx_dI e, by rw [isOD_dI]; exact h, (fit_list (fit_ints fun v hv => lt1900 (b v hv)) (by rw [List.length_map]; exact l)).mono (by decide) (by decide), (fun z => by
    have z' : PyData.hasDictAll (ms.map PyData.int) = true := z
    rw [dict_ints] at z'; cases z'), fun z => n (List.mem_singleton.mp z).symm⟩
def WL (H : Hp) (g : Addr) (L : List V) : Prop := ∀ x ∈ L, WrongG H g x
theorem WL.same {H H' : Hp} {g : Addr} {L : List V} (h : WL H g L) (s : Same H H') : WL H' g L := fun x hx => (h x hx).same s
theorem WL.snoc {H : Hp} {g : Addr} {L : List V} {x : V} (h : WL H g L) (w : WrongG H g x) : WL H g (L ++ [x]) := fun y hy => by
  rcases List.mem_append.mp hy with hy | hy
  · exact h y hy
  · rw [List.mem_singleton.mp hy]; exact w
def sp_law_bad_depths : Sp := fun vs H Q _ => ∃ (g a : Addr) (ns : List Int) (B : Int), vs = [.ref g, .ref a] ∧ SrcA H g B ∧ B ≤ 200000000 ∧ a ≠ g ∧ H a = some (.lst (iv ns)) ∧ isO ns = true ∧
  ∀ (x : V) (H' : Hp), SameBut g H H' → SrcA H' g (B + 3) → WrongG H' g x → Q x H'
theorem ok_law_bad_depths (T : Txt mg) (h : At K mg "_law_bad_depths" s_law_bad_depths)
    (g_law_draw : Has P w K mg base CX0 2 "_law_draw" s_law_draw P_law_draw sp_drawA) :
    Has P w K mg base CX0 3 "_law_bad_depths" s_law_bad_depths P_law_bad_depths sp_law_bad_depths := by
  refine Has.of h sc_law_bad_depths (fun vs H Q E h => ?_) (fun _ _ _ _ _ _ us hl => match us, hl with | [_, _], _ => rfl) (fun f cdv A outer s H vs Q E room qt h => ?_)
  · obtain ⟨v, a, n, B, rfl, _⟩ := h; rfl
  obtain ⟨g, a, ns, B, rfl, hg, hB, nag, ha, ho, k⟩ := h
  obtain ⟨l1, l2, hk⟩ := isO_iff.mp ho
  have el : (iv ns).length = ns.length := List.length_map _
  refine ⟨_, (pss_cons (ps_set (i := 2) sc_law_bad_depths.nd rfl (Or.inl rfl) (pe_has g_law_draw (room.mono (by decide)) qt (by rfl) pass0 (pa_cons (pv 0) (pa_cons (pe_callB call_len_seq (by rfl) T.len (by decide +kernel) (pa_cons (pv 1) pa_nil)) pa_nil))))
      (pss_cons (ps_set (i := 3) sc_law_bad_depths.nd rfl (Or.inl rfl) (pe_ix ix_list (pe_op op_catB (pe_lstB (pa_cons (pe_un un_neg pe_int) pa_nil)) (pv 1)) (pv 2) (fun _ _ => rfl)))
      (pss_cons (ps_set (i := 4) sc_law_bad_depths.nd rfl (Or.inl rfl) (pe_ix ix_list (pe_lstB (pa_cons (pe_un un_neg pe_int) (pa_cons (pe_op op_add (pv 3) pe_int) (pa_cons (pe_op op_add (pe_op op_add (pv 3) pe_int) (pe_op op_powG pe_int pe_int)) (pa_cons pe_bl (pa_cons pe_bl (pa_cons pe_non (pa_cons pe_str (pa_cons (pe_lstB (pa_cons pe_int pa_nil)) (pa_cons (pe_tup (pa_cons pe_int pa_nil)) (pa_cons pe_dnewB pa_nil))))))))))) (pe_has g_law_draw (room.mono (by decide)) qt (by rfl) pass0 (pa_cons (pv 0) (pa_cons pe_int pa_nil))) (fun _ _ => rfl)))
      (pss_cons (ps_set (i := 5) sc_law_bad_depths.nd rfl (Or.inl rfl) (pe_lstB (pa_cons (pe_op op_catB (pe_op op_catB (pe_slice sl_list (pv 1) po_none (po_some (pv 2))) (pe_lstB (pa_cons (pv 4) pa_nil))) (pe_slice sl_list (pv 1) (po_some (pe_op op_add (pv 2) pe_int)) po_none)) (pa_cons (pe_tupleOf (by rfl) T.tuple (pv 1)) (pa_cons (pe_lstB pa_nil) (pa_cons (pe_op op_catB (pv 1) (pe_lstB (pa_cons (pe_op op_add (pe_ix ix_list (pv 1) (pe_un un_neg pe_int) (fun _ _ => rfl)) pe_int) pa_nil))) (pa_cons (pe_op op_catB (pe_lstB (pa_cons pe_int pa_nil)) (pv 1)) pa_nil)))))))
      (pss_cons (ps_set (i := 5) sc_law_bad_depths.nd rfl (Or.inl rfl) (pe_op op_catB (pv 5) (pe_lstB (pa_cons (pe_op op_rep (pe_lstB (pa_cons pe_int pa_nil)) pe_int) (pa_cons (pe_listRg rfl (by rfl) T.tlist (prg_1 (by rfl) T.range pe_int)) (pa_cons (pe_lstB (pa_cons (pv 1) pa_nil)) (pa_cons pe_non (pa_cons pe_int (pa_cons pe_str (pa_cons pe_dnewB (pa_cons pe_bl (pa_cons (pe_lstB (pa_cons pe_non pa_nil)) (pa_cons (pe_lstB (pa_cons pe_str pa_nil)) pa_nil)))))))))))))
      (pss_one (ps_ret (pe_ix ix_list (pv 5) (pe_callB (call_max2 rfl) (by rfl) T.max (by decide +kernel) (pa_cons pe_int (pa_cons (pe_op op_sub (pe_has g_law_draw (room.mono (by decide)) qt (by rfl) pass0 (pa_cons (pv 0) (pa_cons pe_int pa_nil))) pe_int) pa_nil))) (fun _ _ => rfl))))))))), ?_⟩
  have st0 : Stg H H g a ns B := ⟨SameBut.refl, hg, ha⟩
  refine ⟨_, rfl, _, rfl, a, _, rfl, .inl (SqL.of ha), g, _, _, rfl, hg, by omega, by omega, by omega, fun at_ H1 a0 a1 b1 g1 => ?_⟩
  have st1 := st0.draw nag b1 g1
  rw [el] at a1
  obtain ⟨t, rfl⟩ : ∃ t : Nat, at_ = t := ⟨at_.toNat, by omega⟩
  have tl : t < ns.length := by omega
  -- before
  refine ⟨_, rfl, (by decide : 1 ≤ sizeLine), fun q1 n1 _ => ⟨_, rfl, q1, a, _, _, rfl, rfl, SqL.of upd_same, SqL.of (st1.new n1).a, Nat.le_of_lt (small_line (by rw [el]; show 1 + ns.length < 100000; omega)), fun q2 n2 _ => ?_⟩⟩
  have st2 := (st1.new (o := .lst [.int (-1)]) n1).new (o := .lst ([.int (-1)] ++ iv ns)) n2
  refine ⟨_, rfl, q2, iv (-1 :: ns), t, _, rfl, rfl, SqL.of upd_same, atI_iv (by omega) (by rw [List.length_cons]; omega), ?_⟩
  rw [Int.toNat_natCast]
  have hbe : (-1 :: ns).getD t 0 + 1 = gAt ns t := by
    cases t with
    | zero => rfl
    | succ j => rfl
  have hbb : -1 ≤ (-1 :: ns).getD t 0 ∧ (-1 :: ns).getD t 0 ≤ 200 := by
    cases t with
    | zero => exact ⟨Int.le_refl _, (by decide : (-1 : Int) ≤ 200)⟩
    | succ j =>
      have := (okFrom_at hk (i := j) (by omega)).1
      have := okFrom_le hk (i := j) (by omega)
      show -1 ≤ ns.getD j 0 ∧ ns.getD j 0 ≤ 200
      omega
  generalize (-1 :: ns).getD t 0 = be at hbe hbb ⊢
  generalize upd (upd H1 q1 (.lst [.int (-1)])) q2 (.lst ([.int (-1)] ++ iv ns)) = H2 at st2 ⊢
  -- odd
  refine ⟨_, rfl, _, rfl, _, _, rfl, rfl, _, rfl, _, _, rfl, rfl, _, _, rfl, rfl, ten_ok (by decide) (by decide), _, _, rfl, rfl, (by decide : 1 ≤ sizeLine), fun r1 m1 w1 => ?_⟩
  refine ⟨(by decide : 1 ≤ sizeLine), fun r2 m2 => fun r3 m3 w3 => ⟨(by decide : 10 ≤ sizeLine), fun r4 m4 _ => ?_⟩⟩
  have sa := st2.new (o := .lst [.int 0]) m1
  have sb := sa.new (o := .tup [.int 0]) m2
  have sc := sb.new (o := .dK []) m3
  refine ⟨_, rfl, g, 10, _, rfl, (sc.new m4).g, by decide, by decide, by omega, fun j H3 j0 j1 b3 g3 => ?_⟩
  have e1 := b3 _ _ (Same.new m4 _ _ (Same.new m3 _ _ (Same.new m2 _ _ (upd_same (H := H2) (a := r1) (o := .lst [.int 0]))))) (st2.ng m1)
  have e2 := b3 _ _ (Same.new m4 _ _ (Same.new m3 _ _ (upd_same (a := r2) (o := .tup [.int 0])))) (sa.ng m2)
  have e3 := b3 _ _ (Same.new m4 _ _ (upd_same (a := r3) (o := .dK []))) (sb.ng m3)
  have e4 := b3 _ _ upd_same (sc.ng m4)
  have st3 := (sc.new m4).draw nag b3 g3
  have hod : ∀ x ∈ [V.int (-1), .int (be + 2), .int (be + 2 + 10 ^ (30 : Int).toNat), .bl true, .bl false, .non, .str "0", .ref r1, .ref r2, .ref r3], OddV H3 g be x := fun x hx => by
    have f1 : ∀ {d : PyData}, Fits 0 1921 d → Fits 1 1926 d := fun h => h.mono (by decide) (by decide)
    have p30 : (10 : Int) ^ (30 : Int).toNat = 1000000000000000000000000000000 := by decide
    have one : Fits 1 1926 (.list [.int 0]) := fit_list (m := 1) (L := 1921) (fun d hd => by rw [List.mem_singleton.mp hd]; exact fit_int (lt1900 (by decide))) (Nat.le_refl _)
    have one' : Fits 1 1926 (.tuple [.int 0]) := fit_tup (m := 1) (L := 1921) (fun d hd => by rw [List.mem_singleton.mp hd]; exact fit_int (lt1900 (by decide))) (Nat.le_refl _)
    have no : ∀ {d : PyData}, d.hasDict = false → ∀ as : List Addr, d.hasDict = true → sysModules ∉ as := fun h as h' => by rw [h] at h'; cases h'
    simp only [List.mem_cons, List.not_mem_nil, or_false] at hx
    rcases hx with rfl | rfl | rfl | rfl | rfl | rfl | rfl | rfl | rfl | rfl
    · exact ⟨_, _, .int _, fun v e => by cases e; exact .inl (by decide), f1 (fit_int (lt1900 (by decide))), no rfl _, List.not_mem_nil⟩
    · exact ⟨_, _, .int _, fun v e => by cases e; exact .inr (by omega), f1 (fit_int (lt1900 (by omega))), no rfl _, List.not_mem_nil⟩
    · refine ⟨_, _, .int _, fun v e => by cases e; exact .inr (by rw [p30]; omega), f1 (fit_int ?_), no rfl _, List.not_mem_nil⟩
      rw [p30]
      exact lt1900 (by omega)
    · exact ⟨_, _, .bl _, (fun v e => nomatch e), f1 (fit_bool _), no rfl _, List.not_mem_nil⟩
    · exact ⟨_, _, .bl _, (fun v e => nomatch e), f1 (fit_bool _), no rfl _, List.not_mem_nil⟩
    · exact ⟨_, _, .non, (fun v e => nomatch e), f1 fit_none, no rfl _, List.not_mem_nil⟩
    · exact ⟨_, _, .str _, (fun v e => nomatch e), ⟨rfl, by decide, by decide +kernel⟩, no rfl _, List.not_mem_nil⟩
    · exact ⟨_, _, .lst e1 (dx_ints [0]), (fun v e => nomatch e), one, no rfl _, fun z => st2.ng m1 (List.mem_singleton.mp z).symm⟩
    · exact ⟨_, _, .tup e2 (dx_ints [0]), (fun v e => nomatch e), one', no rfl _, fun z => sa.ng m2 (List.mem_singleton.mp z).symm⟩
    · exact ⟨_, _, .emp e3, (fun v e => nomatch e), fit_emp.mono (by decide) (by decide), fun _ z => w3 (List.mem_singleton.mp z).symm, fun z => sb.ng m3 (List.mem_singleton.mp z).symm⟩
  obtain ⟨odd, hat, hodd⟩ := atI_all hod j0 (by exact j1)
  refine ⟨r4, _, j, odd, rfl, rfl, SqL.of e4, hat, ?_⟩
  clear e1 e2 e3 e4 hat hod b3 g3 sa sb sc m1 m2 m3 m4
  -- some
  refine ⟨_, rfl, _, rfl, _, rfl, a, _, rfl, SqL.of st3.a, fun p1 i1 => ?_⟩
  rw [cutV_iv, cutI_to _ (by omega), Int.toNat_natCast]
  have lt1 : (iv (ns.take t)).length ≤ 200 := by rw [List.length_map, List.length_take]; omega
  refine ⟨_, rfl, (by decide : 1 ≤ sizeLine), fun p2 i2 _ => ⟨p1, p2, _, _, rfl, rfl, SqL.of (Same.new i2 _ _ upd_same), SqL.of upd_same, Nat.le_of_lt (small_line (by show (iv (ns.take t)).length + 1 < 100000; omega)), fun p3 i3 _ => ?_⟩⟩
  have st4 := ((st3.new i1).new i2).new (o := .lst (iv (ns.take t) ++ [odd])) i3
  have od4 : OddV (upd (upd (upd H3 p1 (.lst (iv (ns.take t)))) p2 (.lst [odd])) p3 (.lst (iv (ns.take t) ++ [odd]))) g be odd := by
    obtain ⟨d, as, h1, h2⟩ := hodd
    exact ⟨d, as, ((h1.same (Same.new i1)).same (Same.new i2)).same (Same.new (o := .lst (iv (ns.take t) ++ [odd])) i3), h2⟩
  have f3 := upd_same (H := upd (upd H3 p1 (.lst (iv (ns.take t)))) p2 (.lst [odd])) (a := p3) (o := .lst (iv (ns.take t) ++ [odd]))
  generalize upd (upd (upd H3 p1 (.lst (iv (ns.take t)))) p2 (.lst [odd])) p3 (.lst (iv (ns.take t) ++ [odd])) = H4 at st4 od4 f3 ⊢
  refine ⟨_, rfl, _, rfl, _, _, rfl, rfl, _, rfl, a, _, rfl, SqL.of st4.a, fun p4 i4 => ?_⟩
  rw [cutV_iv, cutI_from _ (by omega), show ((t : Int) + 1).toNat = t + 1 by omega]
  have lt2 : (iv (ns.drop (t + 1))).length ≤ 200 := by rw [List.length_map, List.length_drop]; omega
  refine ⟨p3, p4, _, _, rfl, rfl, SqL.of (Same.new i4 _ _ f3), SqL.of upd_same, Nat.le_of_lt (small_line (by rw [List.length_append]; show (iv (ns.take t)).length + 1 + _ < 100000; omega)), fun p5 i5 z5 => ?_⟩
  have st5 := (st4.new i4).new (o := .lst (iv (ns.take t) ++ [odd] ++ iv (ns.drop (t + 1)))) i5
  have w0 : WrongG (upd (upd H4 p4 (.lst (iv (ns.drop (t + 1))))) p5 (.lst (iv (ns.take t) ++ [odd] ++ iv (ns.drop (t + 1))))) g (.ref p5) := by
    obtain ⟨d, as, h1, h2, h3, h4, h5⟩ := od4
    have hx := ((dx_ints (H := upd (upd H4 p4 (.lst (iv (ns.drop (t + 1))))) p5 (.lst (iv (ns.take t) ++ [odd] ++ iv (ns.drop (t + 1))))) (ns.take t)).append (dx_one ((h1.same (Same.new i4)).same (Same.new i5)))).append (dx_ints (ns.drop (t + 1)))
    refine ⟨_, _, .lst upd_same hx, wrong_at tl hbe h2, (fit_list (n := 1) (L := 1926) (m := 401) (fun e he => ?_) ?_).mono (by decide) (by decide), fun z => ?_, fun z => ?_⟩
    · have iO := isO_vals ho
      rcases List.mem_append.mp he with he | he
      · rcases List.mem_append.mp he with he | he
        · exact (fit_ints (fun v hv => lt1900 (by have := iO v (List.mem_of_mem_take hv); omega)) e he).mono (by decide) (by decide)
        · rw [List.mem_singleton.mp he]; exact h3
      · exact (fit_ints (fun v hv => lt1900 (by have := iO v (List.mem_of_mem_drop hv); omega)) e he).mono (by decide) (by decide)
    · rw [List.length_append, List.length_append, List.length_map, List.length_map]
      rw [List.length_map] at lt1 lt2
      show _ + 1 + _ ≤ 401
      omega
    · rw [List.append_nil, List.nil_append]
      have z' : PyData.hasDictAll ((ns.take t).map PyData.int ++ [d] ++ (ns.drop (t + 1)).map PyData.int) = true := z
      rw [hasDict_app, hasDict_app, dict_ints, dict_ints, Bool.or_false, Bool.false_or] at z'
      have z2 : (d.hasDict || false) = true := z'
      rw [Bool.or_false] at z2
      intro m
      rcases List.mem_cons.mp m with m | m
      · exact z5 m.symm
      · exact h4 z2 m
    · rw [List.append_nil, List.nil_append] at z
      rcases List.mem_cons.mp z with m | m
      · exact (st4.new (o := .lst (iv (ns.drop (t + 1)))) i4).ng i5 m.symm
      · exact h5 m
  generalize upd (upd H4 p4 (.lst (iv (ns.drop (t + 1))))) p5 (.lst (iv (ns.take t) ++ [odd] ++ iv (ns.drop (t + 1)))) = H5 at st5 w0 ⊢
  -- tuple(depths)
  refine ⟨_, rfl, .inl ⟨a, _, rfl, SqL.of st5.a, fun p6 i6 => ?_⟩⟩
  have st6 := st5.new (o := .tup (iv ns)) i6
  have w0 := w0.same (Same.new (o := .tup (iv ns)) i6)
  have iO := isO_vals ho
  have fitO : Fits 1 (200 * (1921 + 2) + 3) (dI ns) := fit_list (fit_ints fun v hv => lt1900 (by have := iO v hv; omega)) (by rw [List.length_map]; omega)
  have w1 : WrongG (upd H5 p6 (.tup (iv ns))) g (.ref p6) := ⟨_, _, .tup upd_same (dx_ints ns), rfl, (fit_tup (fit_ints fun v hv => lt1900 (by have := iO v hv; omega)) (by rw [List.length_map]; exact l2)).mono (by decide) (by decide), (fun z => by
    have z' : PyData.hasDictAll (ns.map PyData.int) = true := z
    rw [dict_ints] at z'; cases z'), fun z => st5.ng i6 (List.mem_singleton.mp z).symm⟩
  generalize upd H5 p6 (.tup (iv ns)) = H6 at st6 w0 w1 ⊢
  -- []
  refine ⟨(by decide : 0 ≤ sizeLine), fun p7 i7 _ => ?_⟩
  have st7 := st6.new (o := .lst []) i7
  have w0 := w0.same (Same.new (o := .lst []) i7)
  have w1 := w1.same (Same.new (o := .lst []) i7)
  have w2 : WrongG (upd H6 p7 (.lst [])) g (.ref p7) := WrongG.ints (ms := []) upd_same (st6.ng i7) rfl (by decide) (fun v hv => (List.not_mem_nil hv).elim)
  generalize upd H6 p7 (.lst []) = H7 at st7 w0 w1 w2 ⊢
  have wl : WL H7 g [V.ref p5, .ref p6, .ref p7] := fun x hx => by
    simp only [List.mem_cons, List.not_mem_nil, or_false] at hx
    rcases hx with rfl | rfl | rfl
    · exact w0
    · exact w1
    · exact w2
  clear w0 w1 w2
  have nn : ns ≠ [] := fun e => by rw [e] at l1; exact absurd l1 (by decide)
  have lb := okFrom_le hk (i := ns.length - 1) (by omega)
  have la := (okFrom_at hk (i := ns.length - 1) (by omega)).1
  refine ⟨_, rfl, _, rfl, _, rfl, a, iv ns, -1, _, rfl, rfl, SqL.of st7.a, atI_iv_last nn, _, _, rfl, rfl, (by decide : 1 ≤ sizeLine), fun p8 i8 _ => ⟨a, p8, _, _, rfl, rfl, SqL.of (st7.new i8).a, SqL.of upd_same, Nat.le_of_lt (small_line (by rw [el]; show ns.length + 1 < 100000; omega)), fun p9 i9 _ => ?_⟩⟩
  rw [iv_snoc] at *
  have st9 := (st7.new i8).new (o := .lst (iv (ns ++ [ns.getD (ns.length - 1) 0 + 2]))) i9
  have wl := (wl.same (Same.new i8)).same (Same.new (o := .lst (iv (ns ++ [ns.getD (ns.length - 1) 0 + 2]))) i9)
  have w3 : WrongG (upd (upd H7 p8 (.lst [.int (ns.getD (ns.length - 1) 0 + 2)])) p9 (.lst (iv (ns ++ [ns.getD (ns.length - 1) 0 + 2])))) g (.ref p9) := by
    refine WrongG.ints upd_same ((st7.new i8).ng i9) ?_ (by rw [List.length_append]; show ns.length + 1 ≤ 1000; omega) (fun v hv => ?_)
    · cases c : isO (ns ++ [ns.getD (ns.length - 1) 0 + 2]) with
      | false => rfl
      | true =>
        obtain ⟨_, _, c3⟩ := isO_iff.mp c
        have := (okFrom_at c3 (i := ns.length) (by rw [List.length_append]; show ns.length < ns.length + 1; omega)).2.1 (ns.length - 1) (by omega)
        rw [getD_snoc, getD_app (by omega)] at this
        omega
    · rcases List.mem_append.mp hv with hv | hv
      · have := iO v hv; omega
      · rw [List.mem_singleton.mp hv]; omega
  have wl := wl.snoc w3
  generalize upd (upd H7 p8 (.lst [.int (ns.getD (ns.length - 1) 0 + 2)])) p9 (.lst (iv (ns ++ [ns.getD (ns.length - 1) 0 + 2]))) = H9 at st9 wl ⊢
  -- [1] + depths
  refine ⟨(by decide : 1 ≤ sizeLine), fun p10 i10 _ => ⟨_, rfl, p10, a, _, _, rfl, rfl, SqL.of upd_same, SqL.of (st9.new i10).a, Nat.le_of_lt (small_line (by rw [el]; show 1 + ns.length < 100000; omega)), fun p11 i11 _ => ?_⟩⟩
  have st11 := (st9.new i10).new (o := .lst ([.int 1] ++ iv ns)) i11
  have wl := (wl.same (Same.new i10)).same (Same.new (o := .lst ([.int 1] ++ iv ns)) i11)
  have w4 : WrongG (upd (upd H9 p10 (.lst [.int 1])) p11 (.lst ([.int 1] ++ iv ns))) g (.ref p11) := by
    refine WrongG.ints (ms := 1 :: ns) upd_same ((st9.new i10).ng i11) ?_ (by rw [List.length_cons]; omega) (fun v hv => ?_)
    · show (decide (1 ≤ (1 :: ns).length) && decide ((1 :: ns).length ≤ 200) && (decide ((0 : Int) ≤ 1) && decide ((1 : Int) ≤ 0) && okFrom (1 + 1) ns)) = false
      rw [decide_eq_false (p := (1 : Int) ≤ 0) (by decide), Bool.and_false, Bool.false_and, Bool.and_false]
    · rcases List.mem_cons.mp hv with rfl | hv
      · decide
      · have := iO v hv; omega
  have wl := wl.snoc w4
  generalize upd (upd H9 p10 (.lst [.int 1])) p11 (.lst ([.int 1] ++ iv ns)) = H11 at st11 wl ⊢
  refine ⟨(by decide : 5 ≤ sizeLine), fun p12 i12 _ => ?_⟩
  have st12 := st11.new (o := .lst [.ref p5, .ref p6, .ref p7, .ref p9, .ref p11]) i12
  have wl := wl.same (Same.new (o := .lst [.ref p5, .ref p6, .ref p7, .ref p9, .ref p11]) i12)
  have f12 := upd_same (H := H11) (a := p12) (o := .lst [.ref p5, .ref p6, .ref p7, .ref p9, .ref p11])
  generalize upd H11 p12 (.lst [.ref p5, .ref p6, .ref p7, .ref p9, .ref p11]) = H12 at st12 wl f12 ⊢
  -- some + [..]
  refine ⟨_, rfl, (by decide : 1 ≤ sizeLine), fun s1 k1 _ => ⟨s1, 201, [.int 0], rfl, rfl, upd_same, by decide, by decide, by decide, fun s2 k2 => ?_⟩⟩
  rw [iv_rep]
  have st13 := (st12.new k1).new (o := .lst (iv (List.replicate (201 : Int).toNat 0))) k2
  have wl := (wl.same (Same.new k1)).same (Same.new (o := .lst (iv (List.replicate (201 : Int).toNat 0))) k2)
  have f12 := Same.new (o := .lst (iv (List.replicate (201 : Int).toNat 0))) k2 _ _ (Same.new k1 _ _ f12)
  have wl := wl.snoc (WrongG.ints (g := g) (upd_same (a := s2) (o := .lst (iv (List.replicate (201 : Int).toNat 0)))) ((st12.new k1).ng k2) (by decide) (by decide) (fun v hv => by rw [List.eq_of_mem_replicate hv]; decide))
  generalize upd (upd H12 s1 (.lst [.int 0])) s2 (.lst (iv (List.replicate (201 : Int).toNat 0))) = H13 at st13 wl f12 ⊢
  refine ⟨_, rfl, RgOk.of_le (by decide) (by decide) (by decide) (by decide), fun s3 k3 => ?_⟩
  rw [show rgV 0 201 = iv (rg 201) from rgV_rg 201]
  have st14 := st13.new (o := .lst (iv (rg 201))) k3
  have wl := wl.same (Same.new (o := .lst (iv (rg 201))) k3)
  have f12 := Same.new (o := .lst (iv (rg 201))) k3 _ _ f12
  have wl := wl.snoc (WrongG.ints (g := g) (upd_same (a := s3) (o := .lst (iv (rg 201)))) (st13.ng k3) (by decide) (by decide) (fun v hv => by
    obtain ⟨q, hq, rfl⟩ := List.mem_map.mp hv
    have := List.mem_range.mp hq
    show (q : Int).natAbs < 2 ^ 128
    omega))
  generalize upd H13 s3 (.lst (iv (rg 201))) = H14 at st14 wl f12 ⊢
  -- [depths]
  refine ⟨_, rfl, (by decide : 1 ≤ sizeLine), fun s4 k4 z4 => ?_⟩
  have st15 := st14.new (o := .lst [.ref a]) k4
  have wl := wl.same (Same.new (o := .lst [.ref a]) k4)
  have f12 := Same.new (o := .lst [.ref a]) k4 _ _ f12
  have w7 : WrongG (upd H14 s4 (.lst [.ref a])) g (.ref s4) := by
    refine ⟨_, _, .lst upd_same (dx_one (dx_dI st15.a)), rfl, (fit_list (n := 1) (L := 200 * (1921 + 2) + 3) (m := 1) (fun d hd => by rw [List.mem_singleton.mp hd]; exact fitO) (Nat.le_refl _)).mono (by decide) (by decide), noD ?_, fun z => ?_⟩
    · show (PyData.hasDictAll (ns.map PyData.int) || false) = false
      rw [dict_ints]; rfl
    · rcases List.mem_cons.mp z with m | m
      · exact st14.ng k4 m.symm
      · exact nag (List.mem_singleton.mp m).symm
  have wl := wl.snoc w7
  generalize upd H14 s4 (.lst [.ref a]) = H15 at st15 wl f12 ⊢
  -- None, 0, '0', {}, True
  have f1 : ∀ {d : PyData}, Fits 0 1921 d → Fits 40 4000000 d := fun h => h.mono (by decide) (by decide)
  have wl := ((wl.snoc ⟨_, _, .non, rfl, f1 fit_none, noD rfl, List.not_mem_nil⟩).snoc ⟨_, _, .int 0, rfl, f1 (fit_int (lt1900 (by decide))), noD rfl, List.not_mem_nil⟩).snoc ⟨_, _, .str "0", rfl, ⟨rfl, by decide, by decide +kernel⟩, noD rfl, List.not_mem_nil⟩
  refine fun s5 k5 z5' => ?_
  have st16 := st15.new (o := .dK []) k5
  have wl := wl.same (Same.new (o := .dK []) k5)
  have f12 := Same.new (o := .dK []) k5 _ _ f12
  have wl := wl.snoc ⟨_, _, .emp (upd_same (a := s5) (o := .dK [])), rfl, fit_emp.mono (by decide) (by decide), fun _ z => z5' (List.mem_singleton.mp z).symm, fun z => st15.ng k5 (List.mem_singleton.mp z).symm⟩
  have wl := wl.snoc ⟨_, _, .bl true, rfl, f1 (fit_bool _), noD rfl, List.not_mem_nil⟩
  generalize upd H15 s5 (.dK []) = H16 at st16 wl f12 ⊢
  refine ⟨(by decide : 1 ≤ sizeLine), fun s6 k6 _ => ?_⟩
  have st17 := st16.new (o := .lst [.non]) k6
  have wl := wl.same (Same.new (o := .lst [.non]) k6)
  have f12 := Same.new (o := .lst [.non]) k6 _ _ f12
  have wl := wl.snoc ⟨_, _, .lst (upd_same (a := s6) (o := .lst [.non])) (dx_one .non), rfl, ⟨rfl, by decide, by decide +kernel⟩, noD rfl, fun z => st16.ng k6 (List.mem_singleton.mp z).symm⟩
  generalize upd H16 s6 (.lst [.non]) = H17 at st17 wl f12 ⊢
  refine ⟨(by decide : 1 ≤ sizeLine), fun s7 k7 _ => ?_⟩
  have st18 := st17.new (o := .lst [.str "0"]) k7
  have wl := wl.same (Same.new (o := .lst [.str "0"]) k7)
  have f12 := Same.new (o := .lst [.str "0"]) k7 _ _ f12
  have wl := wl.snoc ⟨_, _, .lst (upd_same (a := s7) (o := .lst [.str "0"])) (dx_one (.str _)), rfl, ⟨rfl, by decide, by decide +kernel⟩, noD rfl, fun z => st17.ng k7 (List.mem_singleton.mp z).symm⟩
  generalize upd H17 s7 (.lst [.str "0"]) = H18 at st18 wl f12 ⊢
  refine ⟨(by decide : 10 ≤ sizeLine), fun s8 k8 _ => ⟨p12, s8, _, _, rfl, rfl, SqL.of (Same.new k8 _ _ f12), SqL.of upd_same, (show 5 + 10 ≤ sizeLine by decide), fun s9 k9 _ => ?_⟩⟩
  have st19 := (st18.new k8).new (o := .lst ([.ref p5, .ref p6, .ref p7, .ref p9, .ref p11] ++ [.ref s2, .ref s3, .ref s4, .non, .int 0, .str "0", .ref s5, .bl true, .ref s6, .ref s7])) k9
  have wl := (wl.same (Same.new k8)).same (Same.new (o := .lst ([.ref p5, .ref p6, .ref p7, .ref p9, .ref p11] ++ [.ref s2, .ref s3, .ref s4, .non, .int 0, .str "0", .ref s5, .bl true, .ref s6, .ref s7])) k9)
  have ng9 := (st18.new (o := .lst [.ref s2, .ref s3, .ref s4, .non, .int 0, .str "0", .ref s5, .bl true, .ref s6, .ref s7]) k8).ng k9
  have f19 := upd_same (H := upd H18 s8 (.lst [.ref s2, .ref s3, .ref s4, .non, .int 0, .str "0", .ref s5, .bl true, .ref s6, .ref s7])) (a := s9) (o := .lst ([.ref p5, .ref p6, .ref p7, .ref p9, .ref p11] ++ [.ref s2, .ref s3, .ref s4, .non, .int 0, .str "0", .ref s5, .bl true, .ref s6, .ref s7]))
  generalize upd (upd H18 s8 (.lst [.ref s2, .ref s3, .ref s4, .non, .int 0, .str "0", .ref s5, .bl true, .ref s6, .ref s7])) s9 (.lst ([.ref p5, .ref p6, .ref p7, .ref p9, .ref p11] ++ [.ref s2, .ref s3, .ref s4, .non, .int 0, .str "0", .ref s5, .bl true, .ref s6, .ref s7])) = H19 at st19 wl f19 ⊢
  -- the choice
  refine ⟨_, rfl, _, rfl, g, 26, _, rfl, st19.g, by decide, by decide, by omega, fun d H20 d0 d1 b20 g20 => ⟨_, _, rfl, rfl, _, _, rfl, ?_⟩⟩
  obtain ⟨x, hat, hx⟩ := atI_all (xs := [.ref p5, .ref p6, .ref p7, .ref p9, .ref p11] ++ [.ref s2, .ref s3, .ref s4, .non, .int 0, .str "0", .ref s5, .bl true, .ref s6, .ref s7]) (p := WrongG H20 g) (fun y hy => (wl y hy).but b20) (z := if d - 11 > 0 then d - 11 else 0) (by split <;> omega) (by show _ < (15 : Int); split <;> omega)
  refine ⟨s9, _, _, x, rfl, rfl, SqL.of (b20 _ _ f19 ng9), hat, k x H20 (st19.b.trans b20) (by have := g20; exact this.le (by omega)) hx⟩
end
end SH

namespace SH
open PySem PySem.Spec PyProof.Rows L2
abbrev s_law_name_of : Stmt := topS 41
abbrev N_law_name_of : List Str := ["caught", "some"]
abbrev P_law_name_of : List Str := ["caught"]
theorem sc_law_name_of : FnScope N_law_name_of P_law_name_of (defScope s_law_name_of) := ⟨rfl, rfl, rfl, by decide +kernel, rfl, by decide +kernel, by decide +kernel⟩
/-- the classes that are asked for, and what errors of one class answer -/
def kitsN (C_InvalidOutlineError C_InvalidLineError C_EmptyHistoryError C_EmptyOutlineError C_EndError C_HiddenLineError C_InvalidDepthError C_InvalidFoldsError C_InvalidHeightError C_InvalidNumberError C_InvalidObservationsError C_InvalidReadingError C_InvalidScrollError C_InvalidTitleError C_TooManyLinesError C_InvalidDocumentError C_InvalidTextError C_TooDeepError C_StickyHeadsError : Addr) (o l : Bool) : List (Value × Bool) := [(.type "ValueError", true), (.ref C_StickyHeadsError, true), (.ref C_EmptyHistoryError, false), (.ref C_EmptyOutlineError, false), (.ref C_EndError, false), (.ref C_HiddenLineError, false), (.ref C_InvalidDepthError, false), (.ref C_InvalidFoldsError, false), (.ref C_InvalidHeightError, false), (.ref C_InvalidNumberError, false), (.ref C_InvalidObservationsError, false), (.ref C_InvalidReadingError, false), (.ref C_InvalidScrollError, false), (.ref C_InvalidTitleError, false), (.ref C_TooManyLinesError, false), (.ref C_InvalidOutlineError, o), (.ref C_InvalidLineError, l), (.ref C_InvalidDocumentError, false), (.ref C_InvalidTextError, false), (.ref C_TooDeepError, false)]
section
variable {P : Program} {w : World} {K : PySem.W.Frag} {mg : Str → Option Value} {base : Heap}
variable {C_InvalidOutlineError C_InvalidLineError C_EmptyHistoryError C_EmptyOutlineError C_EndError C_HiddenLineError C_InvalidDepthError C_InvalidFoldsError C_InvalidHeightError C_InvalidNumberError C_InvalidObservationsError C_InvalidReadingError C_InvalidScrollError C_InvalidTitleError C_TooManyLinesError C_InvalidDocumentError C_InvalidTextError C_TooDeepError C_StickyHeadsError : Addr}
def nameN (o : Bool) : Str := if o = true then "outline" else "line"
def sp_name_of (K : PySem.W.Frag) (C_InvalidOutlineError C_InvalidLineError C_EmptyHistoryError C_EmptyOutlineError C_EndError C_HiddenLineError C_InvalidDepthError C_InvalidFoldsError C_InvalidHeightError C_InvalidNumberError C_InvalidObservationsError C_InvalidReadingError C_InvalidScrollError C_InvalidTitleError C_TooManyLinesError C_InvalidDocumentError C_InvalidTextError C_TooDeepError C_StickyHeadsError : Addr) : Addr → Value → Option Addr → List V → Hp → VK → Prop := fun a cls d vs H Q =>
  ∃ (D : Addr) (o l : Bool), vs = [.ref a] ∧ cls = .ref D ∧ d = none ∧ ErK K D (kitsN C_InvalidOutlineError C_InvalidLineError C_EmptyHistoryError C_EmptyOutlineError C_EndError C_HiddenLineError C_InvalidDepthError C_InvalidFoldsError C_InvalidHeightError C_InvalidNumberError C_InvalidObservationsError C_InvalidReadingError C_InvalidScrollError C_InvalidTitleError C_TooManyLinesError C_InvalidDocumentError C_InvalidTextError C_TooDeepError C_StickyHeadsError o l) ∧ l = !o ∧ RetV Q H (.str (nameN o))
theorem ok_law_name_of (T : Txt mg) (n_ValueError : mg "ValueError" = none)
    (k_InvalidOutlineError : mg "InvalidOutlineError" = some (.ref C_InvalidOutlineError))
    (k_InvalidLineError : mg "InvalidLineError" = some (.ref C_InvalidLineError))
    (k_EmptyHistoryError : mg "EmptyHistoryError" = some (.ref C_EmptyHistoryError))
    (k_EmptyOutlineError : mg "EmptyOutlineError" = some (.ref C_EmptyOutlineError))
    (k_EndError : mg "EndError" = some (.ref C_EndError))
    (k_HiddenLineError : mg "HiddenLineError" = some (.ref C_HiddenLineError))
    (k_InvalidDepthError : mg "InvalidDepthError" = some (.ref C_InvalidDepthError))
    (k_InvalidFoldsError : mg "InvalidFoldsError" = some (.ref C_InvalidFoldsError))
    (k_InvalidHeightError : mg "InvalidHeightError" = some (.ref C_InvalidHeightError))
    (k_InvalidNumberError : mg "InvalidNumberError" = some (.ref C_InvalidNumberError))
    (k_InvalidObservationsError : mg "InvalidObservationsError" = some (.ref C_InvalidObservationsError))
    (k_InvalidReadingError : mg "InvalidReadingError" = some (.ref C_InvalidReadingError))
    (k_InvalidScrollError : mg "InvalidScrollError" = some (.ref C_InvalidScrollError))
    (k_InvalidTitleError : mg "InvalidTitleError" = some (.ref C_InvalidTitleError))
    (k_TooManyLinesError : mg "TooManyLinesError" = some (.ref C_TooManyLinesError))
    (k_InvalidDocumentError : mg "InvalidDocumentError" = some (.ref C_InvalidDocumentError))
    (k_InvalidTextError : mg "InvalidTextError" = some (.ref C_InvalidTextError))
    (k_TooDeepError : mg "TooDeepError" = some (.ref C_TooDeepError))
    (k_StickyHeadsError : mg "StickyHeadsError" = some (.ref C_StickyHeadsError))
    (h : At K mg "_law_name_of" s_law_name_of) : HasE P w K mg base 1 "_law_name_of" s_law_name_of P_law_name_of (sp_name_of K C_InvalidOutlineError C_InvalidLineError C_EmptyHistoryError C_EmptyOutlineError C_EndError C_HiddenLineError C_InvalidDepthError C_InvalidFoldsError C_InvalidHeightError C_InvalidNumberError C_InvalidObservationsError C_InvalidReadingError C_InvalidScrollError C_InvalidTitleError C_TooManyLinesError C_InvalidDocumentError C_InvalidTextError C_TooDeepError C_StickyHeadsError) := by
  refine HasE.of h sc_law_name_of (fun a cls d vs H Q h => ?_) (fun _ _ _ _ _ _ us hl => match us, hl with | [_], _ => rfl) (fun f cdv A outer s H vs Q a cls d oe room qt held h => ?_)
  · obtain ⟨D, o, l, rfl, _⟩ := h; rfl
  obtain ⟨D, o, l, rfl, rfl, rfl, ⟨ex, kit⟩, el, k⟩ := h
  refine ⟨_, (pss_cons (ps_if (PW.pt (pw_or (pt_not (pt_val (pe_callB call_isEr (by rfl) T.isinstance (by decide +kernel) (pa_cons (pv 0) (pa_cons (pe_bltn (v := .ty "ValueError") (u := .type "ValueError") (by rfl) n_ValueError (by decide +kernel) rfl) pa_nil))))) (pw_or1 (pt_not (pt_val (pe_callB call_isEr (by rfl) T.isinstance (by decide +kernel) (pa_cons (pv 0) (pa_cons (pe_glob (v := .ref C_StickyHeadsError) (by rfl) k_StickyHeadsError rfl) pa_nil))))))))
        (pss_one (ps_ret pe_str))
        pss_nil)
      (pss_cons (ps_if (pt_val (pe_callB call_isErT (by rfl) T.isinstance (by decide +kernel) (pa_cons (pv 0) (pa_cons (pe_tup (pa_cons (pe_glob (v := .ref C_EmptyHistoryError) (by rfl) k_EmptyHistoryError rfl) (pa_cons (pe_glob (v := .ref C_EmptyOutlineError) (by rfl) k_EmptyOutlineError rfl) (pa_cons (pe_glob (v := .ref C_EndError) (by rfl) k_EndError rfl) (pa_cons (pe_glob (v := .ref C_HiddenLineError) (by rfl) k_HiddenLineError rfl) (pa_cons (pe_glob (v := .ref C_InvalidDepthError) (by rfl) k_InvalidDepthError rfl) pa_nil)))))) pa_nil))))
        (pss_one (ps_ret pe_str))
        pss_nil)
      (pss_cons (ps_if (pt_val (pe_callB call_isErT (by rfl) T.isinstance (by decide +kernel) (pa_cons (pv 0) (pa_cons (pe_tup (pa_cons (pe_glob (v := .ref C_InvalidFoldsError) (by rfl) k_InvalidFoldsError rfl) (pa_cons (pe_glob (v := .ref C_InvalidHeightError) (by rfl) k_InvalidHeightError rfl) (pa_cons (pe_glob (v := .ref C_InvalidNumberError) (by rfl) k_InvalidNumberError rfl) (pa_cons (pe_glob (v := .ref C_InvalidObservationsError) (by rfl) k_InvalidObservationsError rfl) pa_nil))))) pa_nil))))
        (pss_one (ps_ret pe_str))
        pss_nil)
      (pss_cons (ps_if (pt_val (pe_callB call_isErT (by rfl) T.isinstance (by decide +kernel) (pa_cons (pv 0) (pa_cons (pe_tup (pa_cons (pe_glob (v := .ref C_InvalidReadingError) (by rfl) k_InvalidReadingError rfl) (pa_cons (pe_glob (v := .ref C_InvalidScrollError) (by rfl) k_InvalidScrollError rfl) (pa_cons (pe_glob (v := .ref C_InvalidTitleError) (by rfl) k_InvalidTitleError rfl) (pa_cons (pe_glob (v := .ref C_TooManyLinesError) (by rfl) k_TooManyLinesError rfl) pa_nil))))) pa_nil))))
        (pss_one (ps_ret pe_str))
        pss_nil)
      (pss_cons (ps_set (i := 1) sc_law_name_of.nd rfl (Or.inl rfl) (pe_lst (pa_cons (pe_callB call_isEr (by rfl) T.isinstance (by decide +kernel) (pa_cons (pv 0) (pa_cons (pe_glob (v := .ref C_InvalidOutlineError) (by rfl) k_InvalidOutlineError rfl) pa_nil))) (pa_cons (pe_callB call_isEr (by rfl) T.isinstance (by decide +kernel) (pa_cons (pv 0) (pa_cons (pe_glob (v := .ref C_InvalidLineError) (by rfl) k_InvalidLineError rfl) pa_nil))) pa_nil))))
      (pss_cons (ps_set (i := 1) sc_law_name_of.nd rfl (Or.inl rfl) (pe_op op_catS (pv 1) (pe_lst (pa_cons (pe_callB call_isEr (by rfl) T.isinstance (by decide +kernel) (pa_cons (pv 0) (pa_cons (pe_glob (v := .ref C_InvalidDocumentError) (by rfl) k_InvalidDocumentError rfl) pa_nil))) (pa_cons (pe_callB call_isEr (by rfl) T.isinstance (by decide +kernel) (pa_cons (pv 0) (pa_cons (pe_glob (v := .ref C_InvalidTextError) (by rfl) k_InvalidTextError rfl) pa_nil))) pa_nil)))))
      (pss_cons (ps_if (PW.pt (pw_or (pt_val (pe_callB call_isEr (by rfl) T.isinstance (by decide +kernel) (pa_cons (pv 0) (pa_cons (pe_glob (v := .ref C_TooDeepError) (by rfl) k_TooDeepError rfl) pa_nil)))) (pw_or1 (pt_cmpR op_ne (pe_bm PySem.F.plainAttrs_list PySem.F.slot_list_count PySem.F.type_list_count mt_countF (pv 1) (pa_cons pe_bl pa_nil)) pe_int (nomark _)))))
        (pss_one (ps_ret pe_str))
        pss_nil)
      (pss_one (ps_ret (pe_ix ix_list (pe_lst (pa_cons pe_str (pa_cons pe_str (pa_cons pe_str (pa_cons pe_str pa_nil))))) (pe_bm PySem.F.plainAttrs_list PySem.F.slot_list_index PySem.F.type_list_index mt_index (pv 1) (pa_cons pe_bl pa_nil)) (fun _ _ => rfl))))))))))), ?_⟩
  obtain ⟨k_V, k_S, k1, k2, k3, k4, k5, k6, k7, k8, k9, k10, k11, k12, k13, k_O, k_L, k_D, k_T, k_TD, _⟩ := kit
  have kn : ∀ H, Known _ H a D none := fun H => held.known (.inl rfl)
  refine ⟨_, rfl, a, D, none, _, _, true, rfl, kn _, ex, .ty _, k_V, _, rfl, iteF ⟨_, rfl, a, D, none, _, _, true, rfl, kn _, ex, .own _, k_S, _, rfl, iteF ?_⟩⟩
  have no5 : ∀ c1 c2 c3 c4 c5 : Value, PySem.W.kitOne K (.ref D) c1 = some false → PySem.W.kitOne K (.ref D) c2 = some false → PySem.W.kitOne K (.ref D) c3 = some false → PySem.W.kitOne K (.ref D) c4 = some false → PySem.W.kitOne K (.ref D) c5 = some false → PySem.W.kitAny K (.ref D) [c1, c2, c3, c4, c5] = some false :=
    fun c1 c2 c3 c4 c5 h1 h2 h3 h4 h5 => kitAny_cons h1 (fun _ => kitAny_cons h2 (fun _ => kitAny_cons h3 (fun _ => kitAny_cons h4 (fun _ => kitAny_cons h5 (fun _ => rfl) (fun z => nomatch z)) (fun z => nomatch z)) (fun z => nomatch z)) (fun z => nomatch z)) (fun z => nomatch z)
  have no4 : ∀ c1 c2 c3 c4 : Value, PySem.W.kitOne K (.ref D) c1 = some false → PySem.W.kitOne K (.ref D) c2 = some false → PySem.W.kitOne K (.ref D) c3 = some false → PySem.W.kitOne K (.ref D) c4 = some false → PySem.W.kitAny K (.ref D) [c1, c2, c3, c4] = some false :=
    fun c1 c2 c3 c4 h1 h2 h3 h4 => kitAny_cons h1 (fun _ => kitAny_cons h2 (fun _ => kitAny_cons h3 (fun _ => kitAny_cons h4 (fun _ => rfl) (fun z => nomatch z)) (fun z => nomatch z)) (fun z => nomatch z)) (fun z => nomatch z)
  have p4 : ∀ c1 c2 c3 c4 : Addr, Paired ClsV [.ref c1, .ref c2, .ref c3, .ref c4] [.ref c1, .ref c2, .ref c3, .ref c4] := fun _ _ _ _ => .cons (.own _) (.cons (.own _) (.cons (.own _) (.cons (.own _) .nil)))
  have p5 : ∀ c1 c2 c3 c4 c5 : Addr, Paired ClsV [.ref c1, .ref c2, .ref c3, .ref c4, .ref c5] [.ref c1, .ref c2, .ref c3, .ref c4, .ref c5] := fun _ _ _ _ _ => .cons (.own _) (p4 _ _ _ _)
  refine ⟨_, rfl, (by decide : 5 ≤ sizeLine), fun t1 h1 => ⟨a, D, t1, none, _, _, false, rfl, upd_same, p5 _ _ _ _ _, kn _, ex, no5 _ _ _ _ _ k1 k2 k3 k4 k5, _, rfl, iteF ?_⟩⟩
  have s1 := Same.new (o := .tup [.ref C_EmptyHistoryError, .ref C_EmptyOutlineError, .ref C_EndError, .ref C_HiddenLineError, .ref C_InvalidDepthError]) h1
  refine ⟨_, rfl, (by decide : 4 ≤ sizeLine), fun t2 h2 => ⟨a, D, t2, none, _, _, false, rfl, upd_same, p4 _ _ _ _, kn _, ex, no4 _ _ _ _ k6 k7 k8 k9, _, rfl, iteF ?_⟩⟩
  refine ⟨_, rfl, (by decide : 4 ≤ sizeLine), fun t3 h3 => ⟨a, D, t3, none, _, _, false, rfl, upd_same, p4 _ _ _ _, kn _, ex, no4 _ _ _ _ k10 k11 k12 k13, _, rfl, iteF ?_⟩⟩
  have s3 := (s1.trans (Same.new (o := .tup [.ref C_InvalidFoldsError, .ref C_InvalidHeightError, .ref C_InvalidNumberError, .ref C_InvalidObservationsError]) h2)).trans (Same.new (o := .tup [.ref C_InvalidReadingError, .ref C_InvalidScrollError, .ref C_InvalidTitleError, .ref C_TooManyLinesError]) h3)
  generalize upd (upd (upd H t1 _) t2 _) t3 _ = H3 at s3 ⊢
  refine ⟨_, rfl, a, D, none, _, _, o, rfl, kn _, ex, .own _, k_O, _, rfl, a, D, none, _, _, l, rfl, kn _, ex, .own _, k_L, (by decide : 2 ≤ sizeLine), fun p hp => ?_⟩
  refine ⟨_, rfl, _, rfl, a, D, none, _, _, false, rfl, kn _, ex, .own _, k_D, _, rfl, a, D, none, _, _, false, rfl, kn _, ex, .own _, k_T, (by decide : 2 ≤ sizeLine), fun q hq => ⟨p, q, _, _, rfl, rfl, SqL.of (Same.new hq _ _ upd_same), SqL.of upd_same, (by decide : 4 ≤ sizeLine), fun r hr => ?_⟩⟩
  have s4 := s3.trans ((Same.new (o := .lst [.bl o, .bl l]) hp).trans ((Same.new (o := .lst [.bl false, .bl false]) hq).trans (Same.new (o := .lst ([.bl o, .bl l] ++ [.bl false, .bl false])) hr)))
  have hr4 := upd_same (H := upd (upd H3 p (.lst [.bl o, .bl l])) q (.lst [.bl false, .bl false])) (a := r) (o := .lst ([.bl o, .bl l] ++ [.bl false, .bl false]))
  generalize upd (upd (upd H3 p _) q _) r _ = H4 at s4 hr4 ⊢
  subst el
  refine ⟨_, rfl, a, D, none, _, _, false, rfl, kn _, ex, .own _, k_TD, _, rfl, iteF ?_⟩
  refine ⟨_, rfl, .inl ⟨rfl, _, SqL.of hr4⟩, r, _, _, rfl, rfl, SqL.of hr4, rfl, ?_⟩
  cases o with
  | true =>
    refine ⟨rfl, rfl, _, rfl, iteF ?_⟩
    refine ⟨(by decide : 4 ≤ sizeLine), fun u hu => ?_⟩
    have hr5 := Same.new (o := .lst [.str "outline", .str "line", .str "document", .str "text"]) hu _ _ hr4
    refine ⟨_, rfl, .inl ⟨rfl, _, SqL.of hr5⟩, r, _, _, 0, _, rfl, rfl, SqL.of hr5, rfl, rfl, rfl, rfl, fun m z hm => absurd hm (Nat.not_lt_zero _), u, _, 0, _, rfl, rfl, SqL.of upd_same, rfl, k _ (s4.trans (Same.new hu))⟩
  | false =>
    refine ⟨rfl, rfl, _, rfl, iteF ?_⟩
    refine ⟨(by decide : 4 ≤ sizeLine), fun u hu => ?_⟩
    have hr5 := Same.new (o := .lst [.str "outline", .str "line", .str "document", .str "text"]) hu _ _ hr4
    refine ⟨_, rfl, .inl ⟨rfl, _, SqL.of hr5⟩, r, _, _, 1, _, rfl, rfl, SqL.of hr5, rfl, rfl, rfl, rfl, fun m z hm e => ?_, u, _, 1, _, rfl, rfl, SqL.of upd_same, rfl, k _ (s4.trans (Same.new hu))⟩
    have : m = 0 := by omega
    subst this
    cases e
    rfl
end
end SH

namespace SH
open PySem PySem.Spec PyProof.Rows L2
abbrev s_law_outcome : Stmt := topS 42
abbrev N_law_outcome : List Str := ["number", "depths", "place", "before", "outcome", "e"]
abbrev P_law_outcome : List Str := ["number", "depths", "place"]
theorem sc_law_outcome : FnScope N_law_outcome P_law_outcome (defScope s_law_outcome) := ⟨rfl, rfl, rfl, by decide +kernel, rfl, by decide +kernel, by decide +kernel⟩
section
variable {P : Program} {w : World} {K : PySem.W.Frag} {mg : Str → Option Value} {base : Heap}
variable {C_InvalidOutlineError C_InvalidLineError C_EmptyHistoryError C_EmptyOutlineError C_EndError C_HiddenLineError C_InvalidDepthError C_InvalidFoldsError C_InvalidHeightError C_InvalidNumberError C_InvalidObservationsError C_InvalidReadingError C_InvalidScrollError C_InvalidTitleError C_TooManyLinesError C_InvalidDocumentError C_InvalidTextError C_TooDeepError C_StickyHeadsError : Addr}
/-- what a call with these values comes to -/
def lineOf (d e : PyData) : Bool := match d with | .list ds => lineD ds.length e | _ => false
def dueN (n : Int) (d e : PyData) : Str := if isOD d = false then "outline" else if n = 3 ∨ lineOf d e = true then "returned" else "line"
theorem lineOf_dI (ns : List Int) (e : PyData) : lineOf (dI ns) e = lineD ns.length e := by show lineD (ns.map PyData.int).length e = _; rw [List.length_map]
theorem dueN_o {n : Int} {d e : PyData} (h : isOD d = false) : dueN n d e = "outline" := by unfold dueN; rw [if_pos h]
theorem dueN_r {n : Int} {d e : PyData} (h : isOD d = true) (q : n = 3 ∨ lineOf d e = true) : dueN n d e = "returned" := by unfold dueN; rw [if_neg (by rw [h]; decide), if_pos q]
theorem dueN_l {n : Int} {d e : PyData} (h : isOD d = true) (q : ¬ (n = 3 ∨ lineOf d e = true)) : dueN n d e = "line" := by unfold dueN; rw [if_neg (by rw [h]; decide), if_neg q]
def sp_outcome : Sp := fun vs H Q _ => ∃ (n : Int) (x y : V) (d e : PyData) (as bs : List Addr), vs = [.int n, x, y] ∧ 0 ≤ n ∧ n ≤ 3 ∧ Dx H x d as ∧ Dx H y e bs ∧ Fits 49 7000000 d ∧ Fits 49 7000000 e ∧
  RetV Q H (.str (dueN n d e))
theorem ok_law_outcome (T : Txt mg) (e_StickyHeadsError : Err K mg "StickyHeadsError" C_StickyHeadsError)
    (x_O : Catch K C_InvalidOutlineError C_StickyHeadsError true) (x_L : Catch K C_InvalidLineError C_StickyHeadsError true)
    (y_O : ErK K C_InvalidOutlineError (kitsN C_InvalidOutlineError C_InvalidLineError C_EmptyHistoryError C_EmptyOutlineError C_EndError C_HiddenLineError C_InvalidDepthError C_InvalidFoldsError C_InvalidHeightError C_InvalidNumberError C_InvalidObservationsError C_InvalidReadingError C_InvalidScrollError C_InvalidTitleError C_TooManyLinesError C_InvalidDocumentError C_InvalidTextError C_TooDeepError C_StickyHeadsError true false)) (y_L : ErK K C_InvalidLineError (kitsN C_InvalidOutlineError C_InvalidLineError C_EmptyHistoryError C_EmptyOutlineError C_EndError C_HiddenLineError C_InvalidDepthError C_InvalidFoldsError C_InvalidHeightError C_InvalidNumberError C_InvalidObservationsError C_InvalidReadingError C_InvalidScrollError C_InvalidTitleError C_TooManyLinesError C_InvalidDocumentError C_InvalidTextError C_TooDeepError C_StickyHeadsError false true))
    (h : At K mg "_law_outcome" s_law_outcome)
    (g_stops : Has P w K mg base (L2N.CX P w) 5 "stops" s_stops P_stops (sp_stopsN C_InvalidOutlineError))
    (g_headings : Has P w K mg base (L2N.CX P w) 5 "headings" s_headings P_headings (sp_two C_InvalidOutlineError C_InvalidLineError))
    (g_section : Has P w K mg base (L2N.CX P w) 5 "section" s_section P_section (sp_two C_InvalidOutlineError C_InvalidLineError))
    (g_children : Has P w K mg base (L2N.CX P w) 5 "children" s_children P_children (sp_two C_InvalidOutlineError C_InvalidLineError))
    (g_law_name_of : HasE P w K mg base 1 "_law_name_of" s_law_name_of P_law_name_of (sp_name_of K C_InvalidOutlineError C_InvalidLineError C_EmptyHistoryError C_EmptyOutlineError C_EndError C_HiddenLineError C_InvalidDepthError C_InvalidFoldsError C_InvalidHeightError C_InvalidNumberError C_InvalidObservationsError C_InvalidReadingError C_InvalidScrollError C_InvalidTitleError C_TooManyLinesError C_InvalidDocumentError C_InvalidTextError C_TooDeepError C_StickyHeadsError)) :
    Has P w K mg base CX0 6 "_law_outcome" s_law_outcome P_law_outcome sp_outcome := by
  obtain ⟨f_headings, m_headings, V_headings⟩ := g_headings.v
  obtain ⟨f_section, m_section, V_section⟩ := g_section.v
  obtain ⟨f_children, m_children, V_children⟩ := g_children.v
  refine Has.of h sc_law_outcome (fun vs H Q E h => ?_) (fun _ _ _ _ _ _ us hl => match us, hl with | [_, _, _], _ => rfl) (fun f cdv A outer s H vs Q E room qt h => ?_)
  · obtain ⟨n, x, y, d, e, as, bs, rfl, _⟩ := h; rfl
  obtain ⟨n, x, y, d, e, as, bs, rfl, n0, n3, hd, he, fd, fe, k⟩ := h
  refine ⟨_, (pss_cons (ps_par (i := 3) (j := 4) rfl sc_law_outcome.nd rfl rfl (by decide) rfl rfl (pa_cons (pe_callB (call_reprY qt room.units) (by rfl) T.repr (by decide +kernel) (pa_cons (pe_lstB (pa_cons (pv 1) (pa_cons (pv 2) pa_nil))) pa_nil)) (pa_cons pe_str pa_nil)) (by rfl))
      (pss_cons (ps_tryE (i := 5) rfl rfl rfl sc_law_outcome.nd rfl rfl ⟨by rfl, by decide, Or.inl e_StickyHeadsError.g⟩ (fun W pn xe tk po =>
        (pss_one (ps_if (pt_cmpR op_eq (pv 0) pe_int (nomark _))
          (pss_one (ps_expr (pe_hasS g_stops (room.mono (by decide)) qt (by rfl) (fun σ => L2N.passAt tk σ) (pa_cons (pv 1) pa_nil))))
          (pss_one (ps_expr (show PE _ _ (tCallV P w K mg base (L2N.CX P w) _ (WE W) _ _) from by exact (pe_callV (k := 5) (room.mono (by decide)) qt (pe_ix (show IxR _ (rIxL K) from by exact ix_list) (pe_lstB (pa_cons (pe_glob (v := .ref f_headings) (by rfl) m_headings rfl) (pa_cons (pe_glob (v := .ref f_section) (by rfl) m_section rfl) (pa_cons (pe_glob (v := .ref f_children) (by rfl) m_children rfl) pa_nil)))) (pv 0) (fun _ _ => rfl)) (fun σ => L2N.passAt tk σ) (pa_cons (pv 1) (pa_cons (pv 2) pa_nil))))))))) (fun a oe cls d pn hz hf =>
        (pss_one (ps_set (i := 4) sc_law_outcome.nd rfl (Or.inl rfl) (pe_hasE g_law_name_of (hot_room room (by decide)) (by exact qt) ⟨List.mem_cons_self, hz, hf, rfl⟩ (by rfl) (pa_cons (pv 5) pa_nil))))))
      (pss_one (ps_ret (pe_ifExp (pt_cmpR op_eq (pe_callB (call_reprY qt room.units) (by rfl) T.repr (by decide +kernel) (pa_cons (pe_lstB (pa_cons (pv 1) (pa_cons (pv 2) pa_nil))) pa_nil)) (pv 3) (nomark _)) (pv 4) pe_str))))), ?_⟩
  have ft : Fits 50 16000000 (.list [d, e]) := (fit_list (n := 49) (L := 7000000) (m := 2) (fun z hz => by
    rcases List.mem_cons.mp hz with rfl | hz
    · exact fd
    · rw [List.mem_singleton.mp hz]; exact fe) (Nat.le_refl _)).mono (by decide) (by decide)
  refine ⟨_, rfl, _, rfl, (by decide : 2 ≤ sizeLine), fun p hp _ => ⟨.ref p, .list [d, e], _, rfl, .lst upd_same (.cons (hd.same (Same.new hp)) (.cons (he.same (Same.new hp)) .nil)), ft, _, _, rfl, ?_⟩⟩
  have s1 := Same.new (o := .lst [x, y]) hp
  generalize upd H p (.lst [x, y]) = H1 at s1 ⊢
  dsimp only
  refine seq_cut (fun τ G => (∃ v, τ = [some (.int n), some x, some y, some (.str (PyData.list [d, e]).shown), some (.str (dueN n d e)), v]) ∧ Same H1 G) ?_ ?_
  · rintro τ G ⟨⟨v, rfl⟩, s2⟩
    have s3 := s1.trans s2
    refine ⟨_, rfl, _, rfl, (by decide : 2 ≤ sizeLine), fun q hq _ => ⟨.ref q, .list [d, e], _, rfl, .lst upd_same (.cons (hd.same (s3.trans (Same.new hq))) (.cons (he.same (s3.trans (Same.new hq))) .nil)), ft, _, rfl, rfl, ?_⟩⟩
    rw [decide_eq_true rfl]
    exact ⟨_, rfl, iteT ⟨_, rfl, k _ (s3.trans (Same.new hq))⟩⟩
  intro main
  have hd1 := hd.same s1
  have he1 := he.same s1
  refine ⟨_, rfl, rfl, _, rfl, ite2 (fun c => ?_) (fun c => ?_)⟩
  · have c3 : n = 3 := V.int.inj (of_decide_eq_true c)
    refine ⟨_, rfl, x, d, as, rfl, hd1, fun o v H2 s2 => ?_, fun o H2 s2 => ?_⟩
    · refine main _ _ ⟨⟨_, by rw [dueN_r o (.inl c3)]; rfl⟩, s2⟩
    · refine ⟨x_O.is, fun a ha => ⟨_, rfl, _, _, _, rfl, rfl, rfl, y_O, rfl, fun H3 s3 => main _ _ ⟨⟨none, ?_⟩, Same.at (s2.trans s3) (s2.free ha)⟩⟩⟩
      rw [dueN_o o]
      rfl
  · have c3 : ¬ n = 3 := fun z => c (decide_eq_true (by rw [z]))
    refine ⟨(by decide : 3 ≤ sizeLine), fun q hq _ => ⟨_, rfl, ?_⟩⟩
    have sq := Same.new (o := .lst [.ref f_headings, .ref f_section, .ref f_children]) hq
    have hqq := upd_same (H := H1) (a := q) (o := .lst [.ref f_headings, .ref f_section, .ref f_children])
    generalize upd H1 q (.lst [.ref f_headings, .ref f_section, .ref f_children]) = H2 at sq hqq ⊢
    obtain ⟨fz, hat, hv⟩ : ∃ fz, atI [V.ref f_headings, .ref f_section, .ref f_children] n = some (.ref fz) ∧ FnV P w K mg base (L2N.CX P w) 5 fz 2 (sp_two C_InvalidOutlineError C_InvalidLineError) := by
      rcases (show n = 0 ∨ n = 1 ∨ n = 2 by omega) with rfl | rfl | rfl
      · exact ⟨_, rfl, V_headings⟩
      · exact ⟨_, rfl, V_section⟩
      · exact ⟨_, rfl, V_children⟩
    refine ⟨q, _, n, _, rfl, rfl, SqL.of hqq, hat, fz, 2, _, rfl, hv, _, rfl, _, rfl, x, y, d, e, as, bs, rfl, hd1.same sq, he1.same sq, ?_, ?_, ?_⟩
    · rintro ns rfl ho l v H3 s3
      have il : isOD (dI ns) = true := by rw [isOD_dI]; exact ho
      refine main _ _ ⟨⟨_, by rw [dueN_r il (.inr (by rw [lineOf_dI]; exact l))]; rfl⟩, sq.trans s3⟩
    · rintro ns rfl ho l H3 s3
      have il : isOD (dI ns) = true := by rw [isOD_dI]; exact ho
      refine ⟨x_L.is, fun a ha => ⟨_, rfl, _, _, _, rfl, rfl, rfl, y_L, rfl, fun H4 s4 => main _ _ ⟨⟨none, ?_⟩, Same.at ((sq.trans s3).trans s4) ((sq.trans s3).free ha)⟩⟩⟩
      rw [dueN_l il (fun z => by rcases z with z | z; exact c3 z; rw [lineOf_dI, l] at z; cases z)]
      rfl
    · intro o H3 s3
      refine ⟨x_O.is, fun a ha => ⟨_, rfl, _, _, _, rfl, rfl, rfl, y_O, rfl, fun H4 s4 => main _ _ ⟨⟨none, ?_⟩, Same.at ((sq.trans s3).trans s4) ((sq.trans s3).free ha)⟩⟩⟩
      rw [dueN_o o]
      rfl
end
end SH

namespace SH
open PySem PySem.Spec PyProof.Rows L2
abbrev s_law_holds : Stmt := topS 43
abbrev N_law_holds : List Str := ["source", "most", "depths", "wrong", "place", "size", "odd", "number"]
abbrev P_law_holds : List Str := ["source", "most"]
theorem sc_law_holds : FnScope N_law_holds P_law_holds (defScope s_law_holds) := ⟨rfl, rfl, rfl, by decide +kernel, rfl, by decide +kernel, by decide +kernel⟩
theorem gives_const (n : Nat) (s : Str) : gives n (fun _ => true) (fun _ => V.str s) = tv (List.replicate n s) := by
  rw [gives_all]
  unfold tv
  rw [List.map_replicate]
  refine List.ext_getElem (by rw [List.length_map, List.length_range, List.length_replicate]) fun i h1 h2 => ?_
  rw [List.getElem_map, List.getElem_replicate]
theorem iteFb {b : Bool} {A B : Prop} (e : b = false) (h : B) : if b = true then A else B := by rw [e, if_neg Bool.false_ne_true]; exact h
section
variable {P : Program} {w : World} {K : PySem.W.Frag} {mg : Str → Option Value} {base : Heap}
/-- a value that is no line of an outline with n lines -/
def OddL (H : Hp) (g : Addr) (n : Nat) (x : V) : Prop := ∃ d as, Dx H x d as ∧ lineD n d = false ∧ Fits 49 7000000 d ∧ g ∉ as
def sp_law_holds : Sp := fun vs H Q _ => ∃ (g : Addr) (m B : Int), vs = [.ref g, .int m] ∧ SrcA H g B ∧ B ≤ 1000 ∧ 1 ≤ m ∧ m ≤ 200 ∧ ∀ H', SameBut g H H' → Q (.bl true) H'
theorem ok_law_holds (T : Txt mg) (h : At K mg "_law_holds" s_law_holds)
    (g_law_draw : Has P w K mg base CX0 2 "_law_draw" s_law_draw P_law_draw sp_drawA)
    (g_law_depths : Has P w K mg base CX0 3 "_law_depths" s_law_depths P_law_depths sp_depthsA)
    (g_law_bad_depths : Has P w K mg base CX0 3 "_law_bad_depths" s_law_bad_depths P_law_bad_depths sp_law_bad_depths)
    (g_law_outcome : Has P w K mg base CX0 6 "_law_outcome" s_law_outcome P_law_outcome sp_outcome) :
    Has P w K mg base CX0 7 "_law_holds" s_law_holds P_law_holds sp_law_holds := by
  refine Has.of h sc_law_holds (fun vs H Q E h => ?_) (fun _ _ _ _ _ _ us hl => match us, hl with | [_, _], _ => rfl) (fun f cdv A outer s H vs Q E room qt h => ?_)
  · obtain ⟨g, m, B, rfl, _⟩ := h; rfl
  obtain ⟨g, m, B, rfl, hg, hB, m1, m2, k⟩ := h
  refine ⟨_, (pss_cons (ps_set (i := 2) sc_law_holds.nd rfl (Or.inr rfl) (pe_has g_law_depths (room.mono (by decide)) qt (by rfl) pass0 (pa_cons (pv 0) (pa_cons (pv 1) pa_nil))))
      (pss_cons (ps_asg (pe_tup (pa_cons (pe_has g_law_bad_depths (room.mono (by decide)) qt (by rfl) pass0 (pa_cons (pv 0) (pa_cons (pv 2) pa_nil))) (pa_cons (pe_has g_law_draw (room.mono (by decide)) qt (by rfl) pass0 (pa_cons (pv 0) (pa_cons (pe_callB call_len_seq (by rfl) T.len (by decide +kernel) (pa_cons (pv 2) pa_nil)) pa_nil))) pa_nil))) (pg_tup rfl (pgs_cons (pg_name (i := 3) sc_law_holds.nd rfl (Or.inr rfl) (hf := Or.inl rfl)) (pgs_cons (pg_name (i := 4) sc_law_holds.nd rfl (Or.inr rfl) (hf := Or.inl rfl)) pgs_nil))))
      (pss_cons (ps_set (i := 5) sc_law_holds.nd rfl (Or.inl rfl) (pe_callB call_len_seq (by rfl) T.len (by decide +kernel) (pa_cons (pv 2) pa_nil)))
      (pss_cons (ps_set (i := 6) sc_law_holds.nd rfl (Or.inr rfl) (pe_ix ix_list (pe_lstB (pa_cons (pe_un un_neg pe_int) (pa_cons (pv 5) (pa_cons (pe_op op_add (pv 5) (pe_op op_powG pe_int pe_int)) (pa_cons pe_bl (pa_cons pe_bl (pa_cons pe_non (pa_cons pe_str (pa_cons (pe_lstB (pa_cons pe_int pa_nil)) (pa_cons (pe_tup (pa_cons pe_int pa_nil)) (pa_cons pe_dnewB pa_nil))))))))))) (pe_has g_law_draw (room.mono (by decide)) qt (by rfl) pass0 (pa_cons (pv 0) (pa_cons pe_int pa_nil))) (fun _ _ => rfl)))
      (pss_cons (ps_if (pt_cmpR (op_neD room.units) (pe_lc (own := [("number", 7)]) (by rfl) sc_law_holds.nd (pi_range1 (by rfl) T.range (pa_cons pe_int pa_nil)) (blkOk_by (own := [("number", 7)]) (N := N_law_holds) (sc := defScope s_law_holds) (by decide +kernel)) (fun _ _ _ _ _ => (pg_name (i := 7) sc_law_holds.nd rfl (Or.inl rfl) (hf := Or.inr rfl))) (fun _ _ _ _ _ => pts_nil) (fun _ _ _ _ _ => (pe_has g_law_outcome (room.mono (by decide)) qt (by rfl) pass0 (pa_cons (pv 7) (pa_cons (pv 2) (pa_cons (pv 4) pa_nil)))))) (pe_op op_rep (pe_lstB (pa_cons pe_str pa_nil)) pe_int) (nomark _))
        (pss_one (ps_ret pe_bl))
        pss_nil)
      (pss_cons (ps_if (pt_cmpR (op_neD room.units) (pe_lc (own := [("number", 7)]) (by rfl) sc_law_holds.nd (pi_range1 (by rfl) T.range (pa_cons pe_int pa_nil)) (blkOk_by (own := [("number", 7)]) (N := N_law_holds) (sc := defScope s_law_holds) (by decide +kernel)) (fun _ _ _ _ _ => (pg_name (i := 7) sc_law_holds.nd rfl (Or.inl rfl) (hf := Or.inr rfl))) (fun _ _ _ _ _ => pts_nil) (fun _ _ _ _ _ => (pe_has g_law_outcome (room.mono (by decide)) qt (by rfl) pass0 (pa_cons (pv 7) (pa_cons (pv 2) (pa_cons (pv 6) pa_nil)))))) (pe_op op_rep (pe_lstB (pa_cons pe_str pa_nil)) pe_int) (nomark _))
        (pss_one (ps_ret pe_bl))
        pss_nil)
      (pss_cons (ps_if (pt_cmpR (op_neD room.units) (pe_lc (own := [("number", 7)]) (by rfl) sc_law_holds.nd (pi_range1 (by rfl) T.range (pa_cons pe_int pa_nil)) (blkOk_by (own := [("number", 7)]) (N := N_law_holds) (sc := defScope s_law_holds) (by decide +kernel)) (fun _ _ _ _ _ => (pg_name (i := 7) sc_law_holds.nd rfl (Or.inl rfl) (hf := Or.inr rfl))) (fun _ _ _ _ _ => pts_nil) (fun _ _ _ _ _ => (pe_has g_law_outcome (room.mono (by decide)) qt (by rfl) pass0 (pa_cons (pv 7) (pa_cons (pv 3) (pa_cons (pv 4) pa_nil)))))) (pe_op op_rep (pe_lstB (pa_cons pe_str pa_nil)) pe_int) (nomark _))
        (pss_one (ps_ret pe_bl))
        pss_nil)
      (pss_one (ps_ret (pe_cmpR (op_eqD room.units) (pe_lc (own := [("number", 7)]) (by rfl) sc_law_holds.nd (pi_range1 (by rfl) T.range (pa_cons pe_int pa_nil)) (blkOk_by (own := [("number", 7)]) (N := N_law_holds) (sc := defScope s_law_holds) (by decide +kernel)) (fun _ _ _ _ _ => (pg_name (i := 7) sc_law_holds.nd rfl (Or.inl rfl) (hf := Or.inr rfl))) (fun _ _ _ _ _ => pts_nil) (fun _ _ _ _ _ => (pe_has g_law_outcome (room.mono (by decide)) qt (by rfl) pass0 (pa_cons (pv 7) (pa_cons (pv 3) (pa_cons (pv 6) pa_nil)))))) (pe_op op_rep (pe_lstB (pa_cons pe_str pa_nil)) pe_int) (nomark _))))))))))), ?_⟩
  refine ⟨_, rfl, _, rfl, g, m, B, rfl, hg, m1, m2, by omega, fun ns p H1 ho hl hp b1 g1 h1 => ?_⟩
  obtain ⟨l1, l2, hk⟩ := isO_iff.mp ho
  have el : (iv ns).length = ns.length := List.length_map _
  have npg : p ≠ g := (hg.ne hp).symm
  refine ⟨_, rfl, _, rfl, g, p, ns, _, rfl, g1, by omega, npg, h1, ho, fun wr H2 b2 g2 hw => ?_⟩
  have h2 := b2 _ _ h1 npg
  refine ⟨_, rfl, _, rfl, p, _, rfl, .inl (SqL.of h2), g, _, _, rfl, g2, by omega, by omega, by omega, fun pl H3 a0 a1 b3 g3 => ?_⟩
  have h3 := b3 _ _ h2 npg
  have hw3 := hw.but b3
  rw [el] at a1
  obtain ⟨pc, rfl⟩ : ∃ c : Nat, pl = c := ⟨pl.toNat, by omega⟩
  have pcl : pc < ns.length := by omega
  refine ⟨(by decide : 2 ≤ sizeLine), fun tq ntq => ⟨tq, _, rfl, SqT.of upd_same, rfl, _, _, rfl, _, _, rfl, rfl, ?_⟩⟩
  have s4 := Same.new (o := .tup [wr, .int (pc : Nat)]) ntq
  have h4 := s4 _ _ h3
  have g4 := g3.same s4
  have hw4 := hw3.same s4
  have b04 := ((b1.trans b2).trans b3).trans (SameBut.of s4)
  generalize upd H3 tq (.tup [wr, .int (pc : Nat)]) = H4 at s4 h4 g4 hw4 b04 ⊢
  refine ⟨_, rfl, p, _, rfl, .inl (SqL.of h4), ?_⟩
  rw [el]
  -- odd
  refine ⟨_, rfl, _, rfl, _, rfl, _, _, rfl, rfl, ten_ok (by decide) (by decide), _, _, rfl, rfl, (by decide : 1 ≤ sizeLine), fun r1 m1 w1 => ?_⟩
  refine ⟨(by decide : 1 ≤ sizeLine), fun r2 m2 => fun r3 m3 w3 => ⟨(by decide : 10 ≤ sizeLine), fun r4 m4 _ => ?_⟩⟩
  have t1 := Same.new (o := .lst [.int 0]) m1
  have t2 := Same.new (o := .tup [.int 0]) m2
  have t3 := Same.new (o := .dK []) m3
  have t4 := Same.new (o := .lst [V.int (-1), .int ns.length, .int ((ns.length : Int) + 10 ^ (30 : Int).toNat), .bl true, .bl false, .non, .str "0", .ref r1, .ref r2, .ref r3]) m4
  have s8 := ((t1.trans t2).trans t3).trans t4
  have e1 := t4 _ _ (t3 _ _ (t2 _ _ (upd_same (H := H4) (a := r1) (o := .lst [.int 0]))))
  have e2 := t4 _ _ (t3 _ _ (upd_same (H := upd H4 r1 (.lst [.int 0])) (a := r2) (o := .tup [.int 0])))
  have e3 := t4 _ _ (upd_same (H := upd (upd H4 r1 (.lst [.int 0])) r2 (.tup [.int 0])) (a := r3) (o := .dK []))
  have e4 := upd_same (H := upd (upd (upd H4 r1 (.lst [.int 0])) r2 (.tup [.int 0])) r3 (.dK [])) (a := r4) (o := .lst [V.int (-1), .int ns.length, .int ((ns.length : Int) + 10 ^ (30 : Int).toNat), .bl true, .bl false, .non, .str "0", .ref r1, .ref r2, .ref r3])
  have n1 : r1 ≠ g := (g4.ne m1).symm
  have n2 : r2 ≠ g := ((g4.same t1).ne m2).symm
  have n3 : r3 ≠ g := ((g4.same (t1.trans t2)).ne m3).symm
  have n4 : r4 ≠ g := ((g4.same ((t1.trans t2).trans t3)).ne m4).symm
  generalize upd (upd (upd (upd H4 r1 (.lst [.int 0])) r2 (.tup [.int 0])) r3 (.dK [])) r4 _ = H8 at s8 e1 e2 e3 e4 ⊢
  have hod : ∀ x ∈ [V.int (-1), .int ns.length, .int ((ns.length : Int) + 10 ^ (30 : Int).toNat), .bl true, .bl false, .non, .str "0", .ref r1, .ref r2, .ref r3], OddL H8 g ns.length x := fun x hx => by
    have f1 : ∀ {n : Nat} {d : PyData}, n ≤ 49 → Fits n 1926 d → Fits 49 7000000 d := fun hn h => h.mono hn (by decide)
    have p30 : (10 : Int) ^ (30 : Int).toNat = 1000000000000000000000000000000 := by decide
    have out : ∀ v : Int, (v < 0 ∨ (ns.length : Int) ≤ v) → lineD ns.length (.int v) = false := fun v hv => by
      show (decide (0 ≤ v) && decide (v ≤ (ns.length : Int) - 1)) = false
      rcases hv with z | z
      · rw [decide_eq_false (by omega), Bool.false_and]
      · rw [decide_eq_false (p := v ≤ (ns.length : Int) - 1) (by omega), Bool.and_false]
    have one : Fits 1 1926 (.list [.int 0]) := fit_list (m := 1) (L := 1921) (fun d hd => by rw [List.mem_singleton.mp hd]; exact fit_int (lt1900 (by decide))) (Nat.le_refl _)
    have one' : Fits 1 1926 (.tuple [.int 0]) := fit_tup (m := 1) (L := 1921) (fun d hd => by rw [List.mem_singleton.mp hd]; exact fit_int (lt1900 (by decide))) (Nat.le_refl _)
    have fi : ∀ v : Int, v.natAbs < 2 ^ 128 → Fits 49 7000000 (.int v) := fun v hv => (fit_int (lt1900 hv)).mono (by decide) (by decide)
    simp only [List.mem_cons, List.not_mem_nil, or_false] at hx
    rcases hx with rfl | rfl | rfl | rfl | rfl | rfl | rfl | rfl | rfl | rfl
    · exact ⟨_, _, .int _, out _ (.inl (by decide)), fi _ (by decide), List.not_mem_nil⟩
    · exact ⟨_, _, .int _, out _ (.inr (by omega)), fi _ (by omega), List.not_mem_nil⟩
    · exact ⟨_, _, .int _, out _ (.inr (by rw [p30]; omega)), fi _ (by rw [p30]; omega), List.not_mem_nil⟩
    · exact ⟨_, _, .bl _, rfl, (fit_bool _).mono (by decide) (by decide), List.not_mem_nil⟩
    · exact ⟨_, _, .bl _, rfl, (fit_bool _).mono (by decide) (by decide), List.not_mem_nil⟩
    · exact ⟨_, _, .non, rfl, fit_none.mono (by decide) (by decide), List.not_mem_nil⟩
    · exact ⟨_, _, .str _, rfl, ⟨rfl, by decide, by decide +kernel⟩, List.not_mem_nil⟩
    · exact ⟨_, _, .lst e1 (dx_ints [0]), rfl, f1 (by decide) one, fun z => n1 (List.mem_singleton.mp z).symm⟩
    · exact ⟨_, _, .tup e2 (dx_ints [0]), rfl, f1 (by decide) one', fun z => n2 (List.mem_singleton.mp z).symm⟩
    · exact ⟨_, _, .emp e3, rfl, fit_emp.mono (by decide) (by decide), fun z => n3 (List.mem_singleton.mp z).symm⟩
  refine ⟨_, rfl, g, 10, _, rfl, g4.same s8, by decide, by decide, by omega, fun j H9 j0 j1 b9 g9 => ?_⟩
  obtain ⟨odd, hat, d2, as2, hx2, ho2, hf2, hg2⟩ := atI_all hod j0 (by exact j1)
  refine ⟨r4, _, j, odd, rfl, rfl, SqL.of (b9 _ _ e4 n4), hat, ?_⟩
  have hx9 := hx2.but b9 hg2
  have h9 := b9 _ _ (s8 _ _ h4) npg
  obtain ⟨d1, as1, hw9, wO, wF, _, _⟩ := (hw4.same s8).but b9
  have wF : Fits 49 7000000 d1 := wF.mono (by decide) (by decide)
  have b09 := b04.trans ((SameBut.of s8).trans b9)
  have hd9 : Dx H9 (.ref p) (dI ns) [p] := dx_dI h9
  have iO : isOD (dI ns) = true := by rw [isOD_dI]; exact ho
  have dF : Fits 49 7000000 (dI ns) := (fit_list (m := 200) (fit_ints fun v hv => lt1900 (by have := isO_vals ho v hv; omega)) (by rw [List.length_map]; exact l2)).mono (by decide) (by decide)
  have pF : Fits 49 7000000 (.int (pc : Nat)) := (fit_int (lt1900 (by omega))).mono (by decide) (by decide)
  have lO : lineOf (dI ns) (.int (pc : Nat)) = true := by
    rw [lineOf_dI]
    show (decide (0 ≤ ((pc : Nat) : Int)) && decide (((pc : Nat) : Int) ≤ (ns.length : Int) - 1)) = true
    rw [decide_eq_true (by omega), decide_eq_true (by omega)]; rfl
  refine ⟨_, rfl, by decide, by decide, fun D1 hD1 => lcRn (lo := 0) (n := (4 : Int).toNat) (fun _ => true) (fun _ => V.str "returned") hD1 (by decide) (fun x => rfl) (fun _ H2 Q' _ _ q => q H2 (Same.refl _)) ?_ ?_⟩
  · intro i H2 Q' hi _ s2 q
    have hi' : i < 4 := hi
    refine ⟨_, rfl, _, rfl, _, rfl, _, (.ref p), (.int (pc : Nat)), (dI ns), (.int (pc : Nat)), [p], [], rfl, by omega, by omega, (hd9.same (s2)), (Dx.int _), dF, pF, fun H3 s3 => ?_⟩
    rw [dueN_r iO (.inr lO)]
    exact q H3 s3
  intro G1 s1' h1'
  rw [gives_const] at h1'
  refine ⟨(by decide : 1 ≤ sizeLine), fun qa1 na1 _ => ⟨qa1, 4, _, rfl, rfl, upd_same, by decide, by decide, (by decide : 1 * 4 ≤ sizeLine), fun qb1 nb1 => ?_⟩⟩
  have v1 : Same H9 (upd (upd G1 qa1 (.lst [.str "returned"])) qb1 (.lst (List.replicate (4 : Int).toNat [V.str "returned"]).flatten)) := (s1').trans ((Same.new na1).trans (Same.new nb1))
  refine neD_strs (ss := List.replicate 4 "returned") (ts := List.replicate 4 "returned") (SqL.of (Same.new nb1 _ _ (Same.new na1 _ _ h1'))) (SqL.of upd_same) (by decide +kernel) (by decide +kernel) ⟨_, rfl, iteFb (by rw [decide_eq_true rfl]; rfl) ?_⟩
  generalize upd (upd G1 qa1 _) qb1 _ = F1 at v1 ⊢
  refine ⟨_, rfl, by decide, by decide, fun D2 hD2 => lcRn (lo := 0) (n := (3 : Int).toNat) (fun _ => true) (fun _ => V.str "line") hD2 (by decide) (fun x => rfl) (fun _ H2 Q' _ _ q => q H2 (Same.refl _)) ?_ ?_⟩
  · intro i H2 Q' hi _ s2 q
    have hi' : i < 3 := hi
    refine ⟨_, rfl, _, rfl, _, rfl, _, (.ref p), odd, (dI ns), d2, [p], as2, rfl, by omega, by omega, (hd9.same (v1.trans s2)), (hx9.same (v1.trans s2)), dF, hf2, fun H3 s3 => ?_⟩
    rw [dueN_l iO (fun z => by rcases z with z | z; omega; rw [lineOf_dI, ho2] at z; cases z)]
    exact q H3 s3
  intro G2 s2' h2'
  rw [gives_const] at h2'
  refine ⟨(by decide : 1 ≤ sizeLine), fun qa2 na2 _ => ⟨qa2, 3, _, rfl, rfl, upd_same, by decide, by decide, (by decide : 1 * 3 ≤ sizeLine), fun qb2 nb2 => ?_⟩⟩
  have v2 : Same H9 (upd (upd G2 qa2 (.lst [.str "line"])) qb2 (.lst (List.replicate (3 : Int).toNat [V.str "line"]).flatten)) := (v1.trans s2').trans ((Same.new na2).trans (Same.new nb2))
  refine neD_strs (ss := List.replicate 3 "line") (ts := List.replicate 3 "line") (SqL.of (Same.new nb2 _ _ (Same.new na2 _ _ h2'))) (SqL.of upd_same) (by decide +kernel) (by decide +kernel) ⟨_, rfl, iteFb (by rw [decide_eq_true rfl]; rfl) ?_⟩
  generalize upd (upd G2 qa2 _) qb2 _ = F2 at v2 ⊢
  refine ⟨_, rfl, by decide, by decide, fun D3 hD3 => lcRn (lo := 0) (n := (4 : Int).toNat) (fun _ => true) (fun _ => V.str "outline") hD3 (by decide) (fun x => rfl) (fun _ H2 Q' _ _ q => q H2 (Same.refl _)) ?_ ?_⟩
  · intro i H2 Q' hi _ s2 q
    have hi' : i < 4 := hi
    refine ⟨_, rfl, _, rfl, _, rfl, _, wr, (.int (pc : Nat)), d1, (.int (pc : Nat)), as1, [], rfl, by omega, by omega, (hw9.same (v2.trans s2)), (Dx.int _), wF, pF, fun H3 s3 => ?_⟩
    rw [dueN_o wO]
    exact q H3 s3
  intro G3 s3' h3'
  rw [gives_const] at h3'
  refine ⟨(by decide : 1 ≤ sizeLine), fun qa3 na3 _ => ⟨qa3, 4, _, rfl, rfl, upd_same, by decide, by decide, (by decide : 1 * 4 ≤ sizeLine), fun qb3 nb3 => ?_⟩⟩
  have v3 : Same H9 (upd (upd G3 qa3 (.lst [.str "outline"])) qb3 (.lst (List.replicate (4 : Int).toNat [V.str "outline"]).flatten)) := (v2.trans s3').trans ((Same.new na3).trans (Same.new nb3))
  refine neD_strs (ss := List.replicate 4 "outline") (ts := List.replicate 4 "outline") (SqL.of (Same.new nb3 _ _ (Same.new na3 _ _ h3'))) (SqL.of upd_same) (by decide +kernel) (by decide +kernel) ⟨_, rfl, iteFb (by rw [decide_eq_true rfl]; rfl) ?_⟩
  generalize upd (upd G3 qa3 _) qb3 _ = F3 at v3 ⊢
  refine ⟨_, rfl, by decide, by decide, fun D4 hD4 => lcRn (lo := 0) (n := (3 : Int).toNat) (fun _ => true) (fun _ => V.str "outline") hD4 (by decide) (fun x => rfl) (fun _ H2 Q' _ _ q => q H2 (Same.refl _)) ?_ ?_⟩
  · intro i H2 Q' hi _ s2 q
    have hi' : i < 3 := hi
    refine ⟨_, rfl, _, rfl, _, rfl, _, wr, odd, d1, d2, as1, as2, rfl, by omega, by omega, (hw9.same (v3.trans s2)), (hx9.same (v3.trans s2)), wF, hf2, fun H3 s3 => ?_⟩
    rw [dueN_o wO]
    exact q H3 s3
  intro G4 s4' h4'
  rw [gives_const] at h4'
  refine ⟨(by decide : 1 ≤ sizeLine), fun qa4 na4 _ => ⟨qa4, 3, _, rfl, rfl, upd_same, by decide, by decide, (by decide : 1 * 3 ≤ sizeLine), fun qb4 nb4 => ?_⟩⟩
  have v4 : Same H9 (upd (upd G4 qa4 (.lst [.str "outline"])) qb4 (.lst (List.replicate (3 : Int).toNat [V.str "outline"]).flatten)) := (v3.trans s4').trans ((Same.new na4).trans (Same.new nb4))
  refine eqD_strs (ss := List.replicate 3 "outline") (ts := List.replicate 3 "outline") (SqL.of (Same.new nb4 _ _ (Same.new na4 _ _ h4'))) (SqL.of upd_same) (by decide +kernel) (by decide +kernel) ?_
  rw [decide_eq_true rfl]
  exact k _ (b09.trans (SameBut.of v4))
end
end SH

namespace SH
open PySem PySem.Spec PyProof.Rows L2
abbrev s_law : Stmt := topS 44
abbrev N_law : List Str := ["script", "k", "cell"]
abbrev P_law : List Str := ["script"]
theorem sc_law : FnScope N_law P_law (defScope s_law) := ⟨rfl, rfl, rfl, by decide +kernel, rfl, by decide +kernel, by decide +kernel⟩
section
variable {P : Program} {w : World} {K : PySem.W.Frag} {mg : Str → Option Value} {base : Heap}
theorem cut_ints (ns : List Int) (lo hi : Option Int) : ∃ ms : List Int, cutV (iv ns) lo hi = iv ms ∧ ms.length ≤ ns.length := by
  refine ⟨(ns.drop (HT.sIx (iv ns).length 0 lo)).take (HT.sIx (iv ns).length (iv ns).length hi - HT.sIx (iv ns).length 0 lo), ?_, ?_⟩
  · unfold cutV iv
    rw [List.map_take, List.map_drop]
  · rw [List.length_take, List.length_drop]
    omega
/-- the law's promise -/
def sp_law (K : PySem.W.Frag) : Sp := fun vs H Q _ => ∃ (a : Addr) (ns : List Int), vs = [.ref a] ∧ SqL K H a (iv ns) ∧ ns.length ≤ 63 ∧ ∀ H', Q (.bl true) H'
theorem ok_law (T : Txt mg) (h : At K mg "law" s_law)
    (g_law_source : Has P w K mg base CX0 2 "_law_source" s_law_source P_law_source sp_law_source)
    (g_law_holds : Has P w K mg base CX0 7 "_law_holds" s_law_holds P_law_holds sp_law_holds) :
    Has P w K mg base CX0 8 "law" s_law P_law (sp_law K) := by
  refine Has.of h sc_law (fun vs H Q E h => ?_) (fun _ _ _ _ _ _ us hl => match us, hl with | [_], _ => rfl) (fun f cdv A outer s H vs Q E room qt h => ?_)
  · obtain ⟨a, ns, rfl, _⟩ := h; rfl
  obtain ⟨a, ns, rfl, ha, hl, k⟩ := h
  refine ⟨_, (pss_cons (ps_for PassesOwn.never rfl (pi_enum (by rfl) T.enumerate (pa_cons (pe_slice sl_list (pe_op op_catS (pv 0) (pe_lst (pa_cons pe_int pa_nil))) po_none (po_some (pe_callB (call_max2 rfl) (by rfl) T.max (by decide +kernel) (pa_cons pe_int (pa_cons (pe_callB (call_min2 rfl) (by rfl) T.min (by decide +kernel) (pa_cons (pe_callB call_len_seq (by rfl) T.len (by decide +kernel) (pa_cons (pv 0) pa_nil)) (pa_cons pe_int pa_nil))) pa_nil))))) pa_nil)) (pg_tup rfl (pgs_cons (pg_name (i := 1) sc_law.nd rfl (Or.inl rfl) (hf := Or.inl rfl)) (pgs_cons (pg_name (i := 2) sc_law.nd rfl (Or.inl rfl) (hf := Or.inl rfl)) pgs_nil)))
        (pss_one (ps_if (pt_not (pt_val (pe_has g_law_holds (room.mono (by decide)) qt (by rfl) pass0 (pa_cons (pe_has g_law_source (room.mono (by decide)) qt (by rfl) pass0 (pa_cons (pv 2) (pa_cons (pv 1) pa_nil))) (pa_cons (pe_ifExp (pt_cmpR (op_eqD room.units) (pv 0) (pe_lst pa_nil) (nomark _)) pe_int pe_int) pa_nil)))))
          (pss_one (ps_ret pe_bl))
          pss_nil)))
      (pss_one (ps_ret pe_bl))), ?_⟩
  -- (script + [0])[:max(1, min(len(script), 16))]
  refine ⟨_, rfl, (by decide : 1 ≤ sizeLine), fun p1 n1 => ⟨a, p1, iv ns, [.int 0], rfl, rfl, (Same.new n1).seq ha, SqL.of upd_same, Nat.le_of_lt (small_line (by rw [List.length_map]; show ns.length + 1 < 100000; omega)), fun p2 n2 => ?_⟩⟩
  have s2 : Same H (upd (upd H p1 (.lst [.int 0])) p2 (.lst (iv ns ++ [.int 0]))) := (Same.new n1).trans (Same.new n2)
  have h2 : (upd (upd H p1 (.lst [.int 0])) p2 (.lst (iv ns ++ [.int 0]))) p2 = some (.lst (iv (ns ++ [0]))) := by rw [upd_same, iv_snoc]
  generalize upd (upd H p1 (.lst [.int 0])) p2 (.lst (iv ns ++ [.int 0])) = H2 at s2 h2 ⊢
  refine ⟨_, rfl, a, _, rfl, .inl (s2.seq ha), _, _, rfl, _, _, rfl, _, rfl, p2, _, rfl, SqL.of h2, fun p3 n3 => ?_⟩
  obtain ⟨ms, em, lm⟩ := cut_ints (ns ++ [0]) none (some (if (if (16 : Int) < ((iv ns).length : Int) then 16 else ((iv ns).length : Int)) > 1 then (if (16 : Int) < ((iv ns).length : Int) then 16 else ((iv ns).length : Int)) else 1))
  rw [List.length_append] at lm
  have lm' : ms.length ≤ 64 := by have : ([0] : List Int).length = 1 := rfl; omega
  have s3 : Same H (upd H2 p3 (.lst (iv ms))) := s2.trans (Same.new n3)
  have h3 : (upd H2 p3 (.lst (iv ms))) p3 = some (.lst (iv ms)) := upd_same
  refine ⟨p3, iv ms, rfl, SqL.of (by rw [em]; exact h3), ?_⟩
  rw [em]
  generalize upd H2 p3 (.lst (iv ms)) = H3 at s3 h3 ⊢
  refine for_enum (K := K) (a := p3) (xs := iv ms) (fun i σ H4 => (∃ v1 v2, σ = [some (.ref a), v1, v2]) ∧ Same H3 H4) ⟨⟨_, _, rfl⟩, Same.refl _⟩ (fun i σ H4 _ e => SqL.of (e.2 _ _ h3)) ?_ ?_
  · rintro i v Tt σ H4 hi ⟨⟨v1, v2, rfl⟩, s4⟩ hT
    have il : i < ms.length := by have := (List.getElem?_eq_some_iff.mp hi).1; rwa [List.length_map] at this
    rw [iv_at il] at hi
    cases hi
    refine ⟨Tt, _, rfl, SqT.of upd_same, rfl, _, _, rfl, _, _, rfl, rfl, ?_⟩
    -- if not _law_holds(_law_source(cell, k), 6 if script == [] else 200)
    refine ⟨_, rfl, _, rfl, _, _, rfl, by omega, by omega, fun x y y0 y1 p4 n4 => ?_⟩
    have s5 : Same H3 (upd (upd H4 Tt (.tup [.int (i : Nat), .int (ms.getD i 0)])) p4 (.lst [.int x, .int y, .int 0])) := (s4.trans (Same.new hT)).trans (Same.new n4)
    have h5 : (upd (upd H4 Tt (.tup [.int (i : Nat), .int (ms.getD i 0)])) p4 (.lst [.int x, .int y, .int 0])) p4 = some (.lst [.int x, .int y, .int 0]) := upd_same
    have hp4 : H3 p4 = none := (s4.trans (Same.new hT)).free n4
    generalize upd (upd H4 Tt (.tup [.int (i : Nat), .int (ms.getD i 0)])) p4 (.lst [.int x, .int y, .int 0]) = H5 at s5 h5 ⊢
    refine ⟨_, rfl, (by decide : 0 ≤ sizeLine), fun p5 n5 => eqD_ints (ns := ns) (ms := []) ((Same.new n5).seq ((s3.trans s5).seq ha)) (SqL.of upd_same) ?_⟩
    have s6 : Same H3 (upd H5 p5 (.lst [])) := s5.trans (Same.new n5)
    have h6 := Same.new (o := .lst []) n5 _ _ h5
    generalize upd H5 p5 (.lst []) = H6 at s6 h6 ⊢
    refine ⟨_, rfl, ite2 (fun c => ?_) (fun c => ?_)⟩
    · exact ⟨p4, 6, 0, rfl, ⟨x, y, 0, h6, y0, y1, by decide, by decide⟩, by decide, by decide, by decide, fun H7 b7 => ⟨_, rfl, iteF ⟨⟨_, _, rfl⟩, Same.but s6 hp4 b7⟩⟩⟩
    · exact ⟨p4, 200, 0, rfl, ⟨x, y, 0, h6, y0, y1, by decide, by decide⟩, by decide, by decide, by decide, fun H7 b7 => ⟨_, rfl, iteF ⟨⟨_, _, rfl⟩, Same.but s6 hp4 b7⟩⟩⟩
  · rintro σ H4 ⟨⟨v1, v2, rfl⟩, s4⟩
    exact k H4
end
end SH

namespace SH
open PySem PySem.Spec PyProof.Rows L2
/-! ### the end -/
theorem all_mk {l : PySem.W.OpenLaw} {w : World} {K : PySem.W.Frag} {h : Heap} {mg : Str → Option Value} {fa : Addr} (X : K.In h) (G : h.Ns mainGlobals mg) (hfa : mg "law" = some (.ref fa))
    {f0 f1 f2 f3 f4 f5 f6 f7 f8 f9 f10 f11 f12 f13 f14 f15 f16 f17 f18 f19 : Addr} {od0 an0 od1 an1 od2 an2 od3 an3 od4 an4 od5 an5 od6 an6 od7 an7 od8 an8 od9 an9 od10 an10 od11 an11 od12 an12 od13 an13 od14 an14 od15 an15 od16 an16 od17 an17 od18 an18 od19 an19 : Option Addr} {sl0 sl1 sl2 sl3 sl4 sl5 sl6 sl7 sl8 sl9 sl10 sl11 sl12 sl13 sl14 sl15 sl16 sl17 sl18 sl19 : Array (Option Value)}
    {oc0 kV0 dc0 pm0 cd0 ct0 oc1 kV1 dc1 pm1 cd1 ct1 oc2 kV2 dc2 pm2 cd2 ct2 oc3 kV3 dc3 pm3 cd3 ct3 oc4 kV4 dc4 pm4 cd4 ct4 oc5 kV5 dc5 pm5 cd5 ct5 oc6 kV6 dc6 pm6 cd6 ct6 oc7 kV7 dc7 pm7 cd7 ct7 oc8 kV8 dc8 pm8 cd8 ct8 oc9 kV9 dc9 pm9 cd9 ct9 oc10 kV10 dc10 pm10 cd10 ct10 oc11 kV11 dc11 pm11 cd11 ct11 oc12 kV12 dc12 pm12 cd12 ct12 oc13 kV13 dc13 pm13 cd13 ct13 oc14 kV14 dc14 pm14 cd14 ct14 oc15 kV15 dc15 pm15 cd15 ct15 oc16 kV16 dc16 pm16 cd16 ct16 oc17 kV17 dc17 pm17 cd17 ct17 oc18 kV18 dc18 pm18 cd18 ct18 oc19 kV19 dc19 pm19 cd19 ct19 : Value} {t_MOST_LINES : Tok}
    (a0 : PySem.W.nsIn K mainGlobals "is_integer_from" = some (some (.ref f0)))
    (l0 : K.lookup f0 = some ⟨oc0, od0, .func (PySem.W.fnOf "is_integer_from" "is_integer_from" (defArgs s_is_integer_from) (defBody s_is_integer_from) (defScope s_is_integer_from) .none kV0 dc0 pm0 an0 cd0 ct0), sl0⟩)
    (c0 : PySem.W.codeIn K cd0 "is_integer_from" = true) (k0 : PySem.W.keepIn K (.ref f0) = true)
    (a1 : PySem.W.nsIn K mainGlobals "is_integer_within" = some (some (.ref f1)))
    (l1 : K.lookup f1 = some ⟨oc1, od1, .func (PySem.W.fnOf "is_integer_within" "is_integer_within" (defArgs s_is_integer_within) (defBody s_is_integer_within) (defScope s_is_integer_within) .none kV1 dc1 pm1 an1 cd1 ct1), sl1⟩)
    (c1 : PySem.W.codeIn K cd1 "is_integer_within" = true) (k1 : PySem.W.keepIn K (.ref f1) = true)
    (a2 : PySem.W.nsIn K mainGlobals "is_outline" = some (some (.ref f2)))
    (l2 : K.lookup f2 = some ⟨oc2, od2, .func (PySem.W.fnOf "is_outline" "is_outline" (defArgs s_is_outline) (defBody s_is_outline) (defScope s_is_outline) .none kV2 dc2 pm2 an2 cd2 ct2), sl2⟩)
    (c2 : PySem.W.codeIn K cd2 "is_outline" = true) (k2 : PySem.W.keepIn K (.ref f2) = true)
    (a3 : PySem.W.nsIn K mainGlobals "check_outline" = some (some (.ref f3)))
    (l3 : K.lookup f3 = some ⟨oc3, od3, .func (PySem.W.fnOf "check_outline" "check_outline" (defArgs s_check_outline) (defBody s_check_outline) (defScope s_check_outline) .none kV3 dc3 pm3 an3 cd3 ct3), sl3⟩)
    (c3 : PySem.W.codeIn K cd3 "check_outline" = true) (k3 : PySem.W.keepIn K (.ref f3) = true)
    (a4 : PySem.W.nsIn K mainGlobals "check_line" = some (some (.ref f4)))
    (l4 : K.lookup f4 = some ⟨oc4, od4, .func (PySem.W.fnOf "check_line" "check_line" (defArgs s_check_line) (defBody s_check_line) (defScope s_check_line) .none kV4 dc4 pm4 an4 cd4 ct4), sl4⟩)
    (c4 : PySem.W.codeIn K cd4 "check_line" = true) (k4 : PySem.W.keepIn K (.ref f4) = true)
    (a5 : PySem.W.nsIn K mainGlobals "headings_of" = some (some (.ref f5)))
    (l5 : K.lookup f5 = some ⟨oc5, od5, .func (PySem.W.fnOf "headings_of" "headings_of" (defArgs s_headings_of) (defBody s_headings_of) (defScope s_headings_of) .none kV5 dc5 pm5 an5 cd5 ct5), sl5⟩)
    (c5 : PySem.W.codeIn K cd5 "headings_of" = true) (k5 : PySem.W.keepIn K (.ref f5) = true)
    (a6 : PySem.W.nsIn K mainGlobals "last_of_section" = some (some (.ref f6)))
    (l6 : K.lookup f6 = some ⟨oc6, od6, .func (PySem.W.fnOf "last_of_section" "last_of_section" (defArgs s_last_of_section) (defBody s_last_of_section) (defScope s_last_of_section) .none kV6 dc6 pm6 an6 cd6 ct6), sl6⟩)
    (c6 : PySem.W.codeIn K cd6 "last_of_section" = true) (k6 : PySem.W.keepIn K (.ref f6) = true)
    (a7 : PySem.W.nsIn K mainGlobals "stop_of" = some (some (.ref f7)))
    (l7 : K.lookup f7 = some ⟨oc7, od7, .func (PySem.W.fnOf "stop_of" "stop_of" (defArgs s_stop_of) (defBody s_stop_of) (defScope s_stop_of) .none kV7 dc7 pm7 an7 cd7 ct7), sl7⟩)
    (c7 : PySem.W.codeIn K cd7 "stop_of" = true) (k7 : PySem.W.keepIn K (.ref f7) = true)
    (a8 : PySem.W.nsIn K mainGlobals "headings" = some (some (.ref f8)))
    (l8 : K.lookup f8 = some ⟨oc8, od8, .func (PySem.W.fnOf "headings" "headings" (defArgs s_headings) (defBody s_headings) (defScope s_headings) .none kV8 dc8 pm8 an8 cd8 ct8), sl8⟩)
    (c8 : PySem.W.codeIn K cd8 "headings" = true) (k8 : PySem.W.keepIn K (.ref f8) = true)
    (a9 : PySem.W.nsIn K mainGlobals "section" = some (some (.ref f9)))
    (l9 : K.lookup f9 = some ⟨oc9, od9, .func (PySem.W.fnOf "section" "section" (defArgs s_section) (defBody s_section) (defScope s_section) .none kV9 dc9 pm9 an9 cd9 ct9), sl9⟩)
    (c9 : PySem.W.codeIn K cd9 "section" = true) (k9 : PySem.W.keepIn K (.ref f9) = true)
    (a10 : PySem.W.nsIn K mainGlobals "children" = some (some (.ref f10)))
    (l10 : K.lookup f10 = some ⟨oc10, od10, .func (PySem.W.fnOf "children" "children" (defArgs s_children) (defBody s_children) (defScope s_children) .none kV10 dc10 pm10 an10 cd10 ct10), sl10⟩)
    (c10 : PySem.W.codeIn K cd10 "children" = true) (k10 : PySem.W.keepIn K (.ref f10) = true)
    (a11 : PySem.W.nsIn K mainGlobals "stops" = some (some (.ref f11)))
    (l11 : K.lookup f11 = some ⟨oc11, od11, .func (PySem.W.fnOf "stops" "stops" (defArgs s_stops) (defBody s_stops) (defScope s_stops) .none kV11 dc11 pm11 an11 cd11 ct11), sl11⟩)
    (c11 : PySem.W.codeIn K cd11 "stops" = true) (k11 : PySem.W.keepIn K (.ref f11) = true)
    (a12 : PySem.W.nsIn K mainGlobals "_law_source" = some (some (.ref f12)))
    (l12 : K.lookup f12 = some ⟨oc12, od12, .func (PySem.W.fnOf "_law_source" "_law_source" (defArgs s_law_source) (defBody s_law_source) (defScope s_law_source) .none kV12 dc12 pm12 an12 cd12 ct12), sl12⟩)
    (c12 : PySem.W.codeIn K cd12 "_law_source" = true) (k12 : PySem.W.keepIn K (.ref f12) = true)
    (a13 : PySem.W.nsIn K mainGlobals "_law_draw" = some (some (.ref f13)))
    (l13 : K.lookup f13 = some ⟨oc13, od13, .func (PySem.W.fnOf "_law_draw" "_law_draw" (defArgs s_law_draw) (defBody s_law_draw) (defScope s_law_draw) .none kV13 dc13 pm13 an13 cd13 ct13), sl13⟩)
    (c13 : PySem.W.codeIn K cd13 "_law_draw" = true) (k13 : PySem.W.keepIn K (.ref f13) = true)
    (a14 : PySem.W.nsIn K mainGlobals "_law_depths" = some (some (.ref f14)))
    (l14 : K.lookup f14 = some ⟨oc14, od14, .func (PySem.W.fnOf "_law_depths" "_law_depths" (defArgs s_law_depths) (defBody s_law_depths) (defScope s_law_depths) .none kV14 dc14 pm14 an14 cd14 ct14), sl14⟩)
    (c14 : PySem.W.codeIn K cd14 "_law_depths" = true) (k14 : PySem.W.keepIn K (.ref f14) = true)
    (a15 : PySem.W.nsIn K mainGlobals "_law_bad_depths" = some (some (.ref f15)))
    (l15 : K.lookup f15 = some ⟨oc15, od15, .func (PySem.W.fnOf "_law_bad_depths" "_law_bad_depths" (defArgs s_law_bad_depths) (defBody s_law_bad_depths) (defScope s_law_bad_depths) .none kV15 dc15 pm15 an15 cd15 ct15), sl15⟩)
    (c15 : PySem.W.codeIn K cd15 "_law_bad_depths" = true) (k15 : PySem.W.keepIn K (.ref f15) = true)
    (a16 : PySem.W.nsIn K mainGlobals "_law_name_of" = some (some (.ref f16)))
    (l16 : K.lookup f16 = some ⟨oc16, od16, .func (PySem.W.fnOf "_law_name_of" "_law_name_of" (defArgs s_law_name_of) (defBody s_law_name_of) (defScope s_law_name_of) .none kV16 dc16 pm16 an16 cd16 ct16), sl16⟩)
    (c16 : PySem.W.codeIn K cd16 "_law_name_of" = true) (k16 : PySem.W.keepIn K (.ref f16) = true)
    (a17 : PySem.W.nsIn K mainGlobals "_law_outcome" = some (some (.ref f17)))
    (l17 : K.lookup f17 = some ⟨oc17, od17, .func (PySem.W.fnOf "_law_outcome" "_law_outcome" (defArgs s_law_outcome) (defBody s_law_outcome) (defScope s_law_outcome) .none kV17 dc17 pm17 an17 cd17 ct17), sl17⟩)
    (c17 : PySem.W.codeIn K cd17 "_law_outcome" = true) (k17 : PySem.W.keepIn K (.ref f17) = true)
    (a18 : PySem.W.nsIn K mainGlobals "_law_holds" = some (some (.ref f18)))
    (l18 : K.lookup f18 = some ⟨oc18, od18, .func (PySem.W.fnOf "_law_holds" "_law_holds" (defArgs s_law_holds) (defBody s_law_holds) (defScope s_law_holds) .none kV18 dc18 pm18 an18 cd18 ct18), sl18⟩)
    (c18 : PySem.W.codeIn K cd18 "_law_holds" = true) (k18 : PySem.W.keepIn K (.ref f18) = true)
    (a19 : PySem.W.nsIn K mainGlobals "law" = some (some (.ref f19)))
    (l19 : K.lookup f19 = some ⟨oc19, od19, .func (PySem.W.fnOf "law" "law" (defArgs s_law) (defBody s_law) (defScope s_law) .none kV19 dc19 pm19 an19 cd19 ct19), sl19⟩)
    (c19 : PySem.W.codeIn K cd19 "law" = true) (k19 : PySem.W.keepIn K (.ref f19) = true)
    (z_len : PySem.W.nsIn K mainGlobals "len" = some none)
    (z_range : PySem.W.nsIn K mainGlobals "range" = some none)
    (z_repr : PySem.W.nsIn K mainGlobals "repr" = some none)
    (z_min : PySem.W.nsIn K mainGlobals "min" = some none)
    (z_max : PySem.W.nsIn K mainGlobals "max" = some none)
    (z_int : PySem.W.nsIn K mainGlobals "int" = some none)
    (z_list : PySem.W.nsIn K mainGlobals "list" = some none)
    (z_type : PySem.W.nsIn K mainGlobals "type" = some none)
    (z_bool : PySem.W.nsIn K mainGlobals "bool" = some none)
    (z_tuple : PySem.W.nsIn K mainGlobals "tuple" = some none)
    (z_isinstance : PySem.W.nsIn K mainGlobals "isinstance" = some none)
    (z_enumerate : PySem.W.nsIn K mainGlobals "enumerate" = some none)
    (z_str : PySem.W.nsIn K mainGlobals "str" = some none)
    (z_zip : PySem.W.nsIn K mainGlobals "zip" = some none)
    (z_all : PySem.W.nsIn K mainGlobals "all" = some none)
    (z_any : PySem.W.nsIn K mainGlobals "any" = some none)
    (z_sum : PySem.W.nsIn K mainGlobals "sum" = some none)
    (z_abs : PySem.W.nsIn K mainGlobals "abs" = some none)
    (z_sorted : PySem.W.nsIn K mainGlobals "sorted" = some none)
    (z_set : PySem.W.nsIn K mainGlobals "set" = some none)
    (z_dict : PySem.W.nsIn K mainGlobals "dict" = some none)
    (z_reversed : PySem.W.nsIn K mainGlobals "reversed" = some none)
    (z_divmod : PySem.W.nsIn K mainGlobals "divmod" = some none)
    (m_MOST_LINES : PySem.W.nsIn K mainGlobals "MOST_LINES" = some (some (.int 200 t_MOST_LINES)))
    {C_EmptyHistoryError : Addr} (ea_EmptyHistoryError : PySem.W.nsIn K mainGlobals "EmptyHistoryError" = some (some (.ref C_EmptyHistoryError)))
    {C_EmptyOutlineError : Addr} (ea_EmptyOutlineError : PySem.W.nsIn K mainGlobals "EmptyOutlineError" = some (some (.ref C_EmptyOutlineError)))
    {C_EndError : Addr} (ea_EndError : PySem.W.nsIn K mainGlobals "EndError" = some (some (.ref C_EndError)))
    {C_HiddenLineError : Addr} (ea_HiddenLineError : PySem.W.nsIn K mainGlobals "HiddenLineError" = some (some (.ref C_HiddenLineError)))
    {C_InvalidDepthError : Addr} (ea_InvalidDepthError : PySem.W.nsIn K mainGlobals "InvalidDepthError" = some (some (.ref C_InvalidDepthError)))
    {C_InvalidFoldsError : Addr} (ea_InvalidFoldsError : PySem.W.nsIn K mainGlobals "InvalidFoldsError" = some (some (.ref C_InvalidFoldsError)))
    {C_InvalidHeightError : Addr} (ea_InvalidHeightError : PySem.W.nsIn K mainGlobals "InvalidHeightError" = some (some (.ref C_InvalidHeightError)))
    {C_InvalidNumberError : Addr} (ea_InvalidNumberError : PySem.W.nsIn K mainGlobals "InvalidNumberError" = some (some (.ref C_InvalidNumberError)))
    {C_InvalidObservationsError : Addr} (ea_InvalidObservationsError : PySem.W.nsIn K mainGlobals "InvalidObservationsError" = some (some (.ref C_InvalidObservationsError)))
    {C_InvalidReadingError : Addr} (ea_InvalidReadingError : PySem.W.nsIn K mainGlobals "InvalidReadingError" = some (some (.ref C_InvalidReadingError)))
    {C_InvalidScrollError : Addr} (ea_InvalidScrollError : PySem.W.nsIn K mainGlobals "InvalidScrollError" = some (some (.ref C_InvalidScrollError)))
    {C_InvalidTitleError : Addr} (ea_InvalidTitleError : PySem.W.nsIn K mainGlobals "InvalidTitleError" = some (some (.ref C_InvalidTitleError)))
    {C_TooManyLinesError : Addr} (ea_TooManyLinesError : PySem.W.nsIn K mainGlobals "TooManyLinesError" = some (some (.ref C_TooManyLinesError)))
    {C_InvalidDocumentError : Addr} (ea_InvalidDocumentError : PySem.W.nsIn K mainGlobals "InvalidDocumentError" = some (some (.ref C_InvalidDocumentError)))
    {C_InvalidTextError : Addr} (ea_InvalidTextError : PySem.W.nsIn K mainGlobals "InvalidTextError" = some (some (.ref C_InvalidTextError)))
    {C_TooDeepError : Addr} (ea_TooDeepError : PySem.W.nsIn K mainGlobals "TooDeepError" = some (some (.ref C_TooDeepError)))
    (zn_ValueError : PySem.W.nsIn K mainGlobals "ValueError" = some none)
    {C_InvalidOutlineError : Addr} (ea_InvalidOutlineError : PySem.W.nsIn K mainGlobals "InvalidOutlineError" = some (some (.ref C_InvalidOutlineError))) (eq_InvalidOutlineError : PySem.W.excIn K C_InvalidOutlineError HandSPX.veTail "ValueError.__new__" = true) (ek_InvalidOutlineError : PySem.W.keepIn K (.ref C_InvalidOutlineError) = true)
    (ee_InvalidOutlineError : PySem.W.subIn K (.ref C_InvalidOutlineError) (.type "BaseException") = some true) (et_InvalidOutlineError : PySem.W.typeIn K (.ref C_InvalidOutlineError) = some (.type "type"))
    {C_InvalidLineError : Addr} (ea_InvalidLineError : PySem.W.nsIn K mainGlobals "InvalidLineError" = some (some (.ref C_InvalidLineError))) (eq_InvalidLineError : PySem.W.excIn K C_InvalidLineError HandSPX.veTail "ValueError.__new__" = true) (ek_InvalidLineError : PySem.W.keepIn K (.ref C_InvalidLineError) = true)
    (ee_InvalidLineError : PySem.W.subIn K (.ref C_InvalidLineError) (.type "BaseException") = some true) (et_InvalidLineError : PySem.W.typeIn K (.ref C_InvalidLineError) = some (.type "type"))
    {C_StickyHeadsError : Addr} (ea_StickyHeadsError : PySem.W.nsIn K mainGlobals "StickyHeadsError" = some (some (.ref C_StickyHeadsError))) (eq_StickyHeadsError : PySem.W.excIn K C_StickyHeadsError HandSPX.veTail "ValueError.__new__" = true) (ek_StickyHeadsError : PySem.W.keepIn K (.ref C_StickyHeadsError) = true)
    (ee_StickyHeadsError : PySem.W.subIn K (.ref C_StickyHeadsError) (.type "BaseException") = some true) (et_StickyHeadsError : PySem.W.typeIn K (.ref C_StickyHeadsError) = some (.type "type"))
    (ei_StickyHeadsError : PySem.W.isClsIn K C_StickyHeadsError = true)
    (es_InvalidOutlineError_StickyHeadsError : PySem.W.subIn K (.ref C_InvalidOutlineError) (.ref C_StickyHeadsError) = some true)
    (es_InvalidLineError_StickyHeadsError : PySem.W.subIn K (.ref C_InvalidLineError) (.ref C_StickyHeadsError) = some true)
    (yg_O : PySem.W.findIn K (.ref C_InvalidOutlineError) "__getattribute__" = some (some (.builtin "BaseException.__getattribute__"))) (yh_O : PySem.W.findIn K (.ref C_InvalidOutlineError) "__getattr__" = some none) (yd_O : PySem.W.hasDictIn K C_InvalidOutlineError = true) (ys_O : PySem.W.subIn K (.ref C_InvalidOutlineError) (.type "BaseException") = some true)
    (ya_O : PySem.W.findIn K (.ref C_InvalidOutlineError) "__class__" = some (some (.builtin "object.__class__"))) (ym_O : PySem.W.mroIn K C_InvalidOutlineError (.type "object") = some true) (yk_O : Kits K C_InvalidOutlineError (kitsN C_InvalidOutlineError C_InvalidLineError C_EmptyHistoryError C_EmptyOutlineError C_EndError C_HiddenLineError C_InvalidDepthError C_InvalidFoldsError C_InvalidHeightError C_InvalidNumberError C_InvalidObservationsError C_InvalidReadingError C_InvalidScrollError C_InvalidTitleError C_TooManyLinesError C_InvalidDocumentError C_InvalidTextError C_TooDeepError C_StickyHeadsError true false))
    (yg_L : PySem.W.findIn K (.ref C_InvalidLineError) "__getattribute__" = some (some (.builtin "BaseException.__getattribute__"))) (yh_L : PySem.W.findIn K (.ref C_InvalidLineError) "__getattr__" = some none) (yd_L : PySem.W.hasDictIn K C_InvalidLineError = true) (ys_L : PySem.W.subIn K (.ref C_InvalidLineError) (.type "BaseException") = some true)
    (ya_L : PySem.W.findIn K (.ref C_InvalidLineError) "__class__" = some (some (.builtin "object.__class__"))) (ym_L : PySem.W.mroIn K C_InvalidLineError (.type "object") = some true) (yk_L : Kits K C_InvalidLineError (kitsN C_InvalidOutlineError C_InvalidLineError C_EmptyHistoryError C_EmptyOutlineError C_EndError C_HiddenLineError C_InvalidDepthError C_InvalidFoldsError C_InvalidHeightError C_InvalidNumberError C_InvalidObservationsError C_InvalidReadingError C_InvalidScrollError C_InvalidTitleError C_TooManyLinesError C_InvalidDocumentError C_InvalidTextError C_TooDeepError C_StickyHeadsError false true))
    (y0n : PySem.W.specialIn K (.builtin "object.__class__") "__get__" = some (some (.builtin "getset_descriptor.__get__"))) (y0t : PySem.W.takesIn K (.builtin "object.__class__") = some true)
    : ∃ fd : FuncData, (∀ (s : Shared) (v : Value), BindsTo s fd ⟨[v], []⟩ [("script", v)]) ∧
      ∀ base : Heap, K.In base → base.Ns mainGlobals mg → FnG l.prog w K mg base CX0 8 fa fd ["script"] (sp_law K) := by
  have T : Txt mg := ⟨PySem.W.mg_none_of X G z_len, PySem.W.mg_none_of X G z_range, PySem.W.mg_none_of X G z_repr, PySem.W.mg_none_of X G z_min, PySem.W.mg_none_of X G z_max, PySem.W.mg_none_of X G z_int, PySem.W.mg_none_of X G z_list, PySem.W.mg_none_of X G z_type, PySem.W.mg_none_of X G z_bool, PySem.W.mg_none_of X G z_tuple, PySem.W.mg_none_of X G z_isinstance, PySem.W.mg_none_of X G z_enumerate, PySem.W.mg_none_of X G z_str, PySem.W.mg_none_of X G z_zip, PySem.W.mg_none_of X G z_all, PySem.W.mg_none_of X G z_any, PySem.W.mg_none_of X G z_sum, PySem.W.mg_none_of X G z_abs, PySem.W.mg_none_of X G z_sorted, PySem.W.mg_none_of X G z_set, PySem.W.mg_none_of X G z_dict, PySem.W.mg_none_of X G z_reversed, PySem.W.mg_none_of X G z_divmod⟩
  have c_MOST_LINES := PySem.W.mg_of X G m_MOST_LINES
  have e_InvalidOutlineError : Err K mg "InvalidOutlineError" C_InvalidOutlineError := ⟨PySem.W.mg_of X G ea_InvalidOutlineError, eq_InvalidOutlineError, ek_InvalidOutlineError, ee_InvalidOutlineError, et_InvalidOutlineError⟩
  have e_InvalidLineError : Err K mg "InvalidLineError" C_InvalidLineError := ⟨PySem.W.mg_of X G ea_InvalidLineError, eq_InvalidLineError, ek_InvalidLineError, ee_InvalidLineError, et_InvalidLineError⟩
  have e_StickyHeadsError : Err K mg "StickyHeadsError" C_StickyHeadsError := ⟨PySem.W.mg_of X G ea_StickyHeadsError, eq_StickyHeadsError, ek_StickyHeadsError, ee_StickyHeadsError, et_StickyHeadsError⟩
  have n_ValueError := PySem.W.mg_none_of X G zn_ValueError
  have k_InvalidOutlineError : mg "InvalidOutlineError" = some (.ref C_InvalidOutlineError) := PySem.W.mg_of X G ea_InvalidOutlineError
  have k_InvalidLineError : mg "InvalidLineError" = some (.ref C_InvalidLineError) := PySem.W.mg_of X G ea_InvalidLineError
  have k_EmptyHistoryError : mg "EmptyHistoryError" = some (.ref C_EmptyHistoryError) := PySem.W.mg_of X G ea_EmptyHistoryError
  have k_EmptyOutlineError : mg "EmptyOutlineError" = some (.ref C_EmptyOutlineError) := PySem.W.mg_of X G ea_EmptyOutlineError
  have k_EndError : mg "EndError" = some (.ref C_EndError) := PySem.W.mg_of X G ea_EndError
  have k_HiddenLineError : mg "HiddenLineError" = some (.ref C_HiddenLineError) := PySem.W.mg_of X G ea_HiddenLineError
  have k_InvalidDepthError : mg "InvalidDepthError" = some (.ref C_InvalidDepthError) := PySem.W.mg_of X G ea_InvalidDepthError
  have k_InvalidFoldsError : mg "InvalidFoldsError" = some (.ref C_InvalidFoldsError) := PySem.W.mg_of X G ea_InvalidFoldsError
  have k_InvalidHeightError : mg "InvalidHeightError" = some (.ref C_InvalidHeightError) := PySem.W.mg_of X G ea_InvalidHeightError
  have k_InvalidNumberError : mg "InvalidNumberError" = some (.ref C_InvalidNumberError) := PySem.W.mg_of X G ea_InvalidNumberError
  have k_InvalidObservationsError : mg "InvalidObservationsError" = some (.ref C_InvalidObservationsError) := PySem.W.mg_of X G ea_InvalidObservationsError
  have k_InvalidReadingError : mg "InvalidReadingError" = some (.ref C_InvalidReadingError) := PySem.W.mg_of X G ea_InvalidReadingError
  have k_InvalidScrollError : mg "InvalidScrollError" = some (.ref C_InvalidScrollError) := PySem.W.mg_of X G ea_InvalidScrollError
  have k_InvalidTitleError : mg "InvalidTitleError" = some (.ref C_InvalidTitleError) := PySem.W.mg_of X G ea_InvalidTitleError
  have k_TooManyLinesError : mg "TooManyLinesError" = some (.ref C_TooManyLinesError) := PySem.W.mg_of X G ea_TooManyLinesError
  have k_InvalidDocumentError : mg "InvalidDocumentError" = some (.ref C_InvalidDocumentError) := PySem.W.mg_of X G ea_InvalidDocumentError
  have k_InvalidTextError : mg "InvalidTextError" = some (.ref C_InvalidTextError) := PySem.W.mg_of X G ea_InvalidTextError
  have k_TooDeepError : mg "TooDeepError" = some (.ref C_TooDeepError) := PySem.W.mg_of X G ea_TooDeepError
  have k_StickyHeadsError : mg "StickyHeadsError" = some (.ref C_StickyHeadsError) := PySem.W.mg_of X G ea_StickyHeadsError
  have y_O : ErK K C_InvalidOutlineError (kitsN C_InvalidOutlineError C_InvalidLineError C_EmptyHistoryError C_EmptyOutlineError C_EndError C_HiddenLineError C_InvalidDepthError C_InvalidFoldsError C_InvalidHeightError C_InvalidNumberError C_InvalidObservationsError C_InvalidReadingError C_InvalidScrollError C_InvalidTitleError C_TooManyLinesError C_InvalidDocumentError C_InvalidTextError C_TooDeepError C_StickyHeadsError true false) := ⟨⟨yg_O, yh_O, ys_O, yd_O, ya_O, y0n, y0t, ym_O⟩, yk_O⟩
  have y_L : ErK K C_InvalidLineError (kitsN C_InvalidOutlineError C_InvalidLineError C_EmptyHistoryError C_EmptyOutlineError C_EndError C_HiddenLineError C_InvalidDepthError C_InvalidFoldsError C_InvalidHeightError C_InvalidNumberError C_InvalidObservationsError C_InvalidReadingError C_InvalidScrollError C_InvalidTitleError C_TooManyLinesError C_InvalidDocumentError C_InvalidTextError C_TooDeepError C_StickyHeadsError false true) := ⟨⟨yg_L, yh_L, ys_L, yd_L, ya_L, y0n, y0t, ym_L⟩, yk_L⟩
  have x_O : Catch K C_InvalidOutlineError C_StickyHeadsError true := Catch.of ee_StickyHeadsError ei_StickyHeadsError et_StickyHeadsError es_InvalidOutlineError_StickyHeadsError
  have x_L : Catch K C_InvalidLineError C_StickyHeadsError true := Catch.of ee_StickyHeadsError ei_StickyHeadsError et_StickyHeadsError es_InvalidLineError_StickyHeadsError
  have at_is_integer_from : At K mg "is_integer_from" s_is_integer_from := ⟨f0, _, fun_mk l0 c0 k0, PySem.W.mg_of X G a0⟩
  have at_is_integer_within : At K mg "is_integer_within" s_is_integer_within := ⟨f1, _, fun_mk l1 c1 k1, PySem.W.mg_of X G a1⟩
  have at_is_outline : At K mg "is_outline" s_is_outline := ⟨f2, _, fun_mk l2 c2 k2, PySem.W.mg_of X G a2⟩
  have at_check_outline : At K mg "check_outline" s_check_outline := ⟨f3, _, fun_mk l3 c3 k3, PySem.W.mg_of X G a3⟩
  have at_check_line : At K mg "check_line" s_check_line := ⟨f4, _, fun_mk l4 c4 k4, PySem.W.mg_of X G a4⟩
  have at_headings_of : At K mg "headings_of" s_headings_of := ⟨f5, _, fun_mk l5 c5 k5, PySem.W.mg_of X G a5⟩
  have at_last_of_section : At K mg "last_of_section" s_last_of_section := ⟨f6, _, fun_mk l6 c6 k6, PySem.W.mg_of X G a6⟩
  have at_stop_of : At K mg "stop_of" s_stop_of := ⟨f7, _, fun_mk l7 c7 k7, PySem.W.mg_of X G a7⟩
  have at_headings : At K mg "headings" s_headings := ⟨f8, _, fun_mk l8 c8 k8, PySem.W.mg_of X G a8⟩
  have at_section : At K mg "section" s_section := ⟨f9, _, fun_mk l9 c9 k9, PySem.W.mg_of X G a9⟩
  have at_children : At K mg "children" s_children := ⟨f10, _, fun_mk l10 c10 k10, PySem.W.mg_of X G a10⟩
  have at_stops : At K mg "stops" s_stops := ⟨f11, _, fun_mk l11 c11 k11, PySem.W.mg_of X G a11⟩
  have at_law_source : At K mg "_law_source" s_law_source := ⟨f12, _, fun_mk l12 c12 k12, PySem.W.mg_of X G a12⟩
  have at_law_draw : At K mg "_law_draw" s_law_draw := ⟨f13, _, fun_mk l13 c13 k13, PySem.W.mg_of X G a13⟩
  have at_law_depths : At K mg "_law_depths" s_law_depths := ⟨f14, _, fun_mk l14 c14 k14, PySem.W.mg_of X G a14⟩
  have at_law_bad_depths : At K mg "_law_bad_depths" s_law_bad_depths := ⟨f15, _, fun_mk l15 c15 k15, PySem.W.mg_of X G a15⟩
  have at_law_name_of : At K mg "_law_name_of" s_law_name_of := ⟨f16, _, fun_mk l16 c16 k16, PySem.W.mg_of X G a16⟩
  have at_law_outcome : At K mg "_law_outcome" s_law_outcome := ⟨f17, _, fun_mk l17 c17 k17, PySem.W.mg_of X G a17⟩
  have at_law_holds : At K mg "_law_holds" s_law_holds := ⟨f18, _, fun_mk l18 c18 k18, PySem.W.mg_of X G a18⟩
  have at_law : At K mg "law" s_law := ⟨f19, _, fun_mk l19 c19 k19, PySem.W.mg_of X G a19⟩
  refine ⟨PySem.W.fnOf "law" "law" (defArgs s_law) (defBody s_law) (defScope s_law) .none kV19 dc19 pm19 an19 cd19 ct19, fun s v => .of_eq rfl, fun base _ _ => ?_⟩
  have G_is_integer_from := ok_is_integer_from (P := l.prog) (w := w) (base := base) T at_is_integer_from
  have G_is_integer_within := ok_is_integer_within (P := l.prog) (w := w) (base := base) T at_is_integer_within G_is_integer_from
  have G_is_outline := ok_is_outline (P := l.prog) (w := w) (base := base) T c_MOST_LINES at_is_outline G_is_integer_within
  have G_check_outline := ok_check_outline (P := l.prog) (w := w) (base := base) T e_InvalidOutlineError at_check_outline G_is_outline
  have G_check_line := ok_check_line (P := l.prog) (w := w) (base := base) T e_InvalidLineError at_check_line G_is_integer_within
  have G_headings_of := ok_headings_of (P := l.prog) (w := w) (base := base) T at_headings_of
  have G_last_of_section := ok_last_of_section (P := l.prog) (w := w) (base := base) T at_last_of_section
  have G_stop_of := ok_stop_of (P := l.prog) (w := w) (base := base) T at_stop_of
  have G_headings := ok_headings (P := l.prog) (w := w) (base := base) T at_headings G_check_outline G_check_line G_headings_of
  have G_section := ok_section (P := l.prog) (w := w) (base := base) T at_section G_check_outline G_check_line G_last_of_section
  have G_children := ok_children (P := l.prog) (w := w) (base := base) T at_children G_check_outline G_check_line G_last_of_section
  have G_stops := ok_stops (P := l.prog) (w := w) (base := base) T at_stops G_check_outline G_stop_of
  have G_law_source := ok_law_source (P := l.prog) (w := w) (base := base) T at_law_source
  have G_law_draw := ok_law_draw (P := l.prog) (w := w) (base := base) T at_law_draw
  have G_law_depths := ok_law_depths (P := l.prog) (w := w) (base := base) T at_law_depths G_law_draw
  have G_law_bad_depths := ok_law_bad_depths (P := l.prog) (w := w) (base := base) T at_law_bad_depths (G_law_draw.imp draw_imp)
  have G_law_name_of := ok_law_name_of (P := l.prog) (w := w) (base := base) T n_ValueError k_InvalidOutlineError k_InvalidLineError k_EmptyHistoryError k_EmptyOutlineError k_EndError k_HiddenLineError k_InvalidDepthError k_InvalidFoldsError k_InvalidHeightError k_InvalidNumberError k_InvalidObservationsError k_InvalidReadingError k_InvalidScrollError k_InvalidTitleError k_TooManyLinesError k_InvalidDocumentError k_InvalidTextError k_TooDeepError k_StickyHeadsError at_law_name_of
  have G_law_outcome := ok_law_outcome (P := l.prog) (w := w) (base := base) T e_StickyHeadsError x_O x_L y_O y_L at_law_outcome G_stops G_headings G_section G_children G_law_name_of
  have G_law_holds := ok_law_holds (P := l.prog) (w := w) (base := base) T at_law_holds (G_law_draw.imp draw_imp) (G_law_depths.imp depths_imp) G_law_bad_depths G_law_outcome
  obtain ⟨f, fd, F, m, R, _⟩ := ok_law (P := l.prog) (w := w) (base := base) T at_law G_law_source G_law_holds
  have e1 := m.symm.trans hfa
  cases e1
  have e2 := (PySem.W.mg_of X G a19).symm.trans hfa
  cases e2
  obtain ⟨_, _, _, _, _, _, _, _, _, _, lk, _⟩ := F.ex
  rw [l19] at lk
  cases lk
  exact R
theorem walk {l : PySem.W.OpenLaw} {q : Program} {loose : List Str} {XP : (Str → Option Value) → Heap → Prop} {YP : World → Heap → Prop} {d : DefRec} {K : Params → PySem.W.Frag}
    (hn : l.most = some 63) (hdf : d.params.defaults = []) (hY : ∀ (w : World) (h : Heap), YP w h → (K w.params).In h)
    (F : ∀ (w : World) (mg : Str → Option Value) (fa : Addr) (h : Heap), (K w.params).In h → h.Ns mainGlobals mg → mg d.name = some (.ref fa) →
      ∃ fd : FuncData, (∀ (s : Shared) (u : Value), BindsTo s fd ⟨[u], []⟩ [("script", u)]) ∧ ∀ base : Heap, (K w.params).In base → base.Ns mainGlobals mg →
        FnG l.prog w (K w.params) mg base CX0 8 fa fd ["script"] (sp_law (K w.params))) :
    PySem.W.WalkO q loose XP YP l.row.toRowW d [] (fun f vs => PySem.call f vs) :=
  walkG (n := 63) (k := 8) (x := "script") (CX := fun _ => CX0) (sp := fun w => sp_law (K w.params)) hn (by decide) hdf ⟨rfl, by decide, by decide⟩ hY F
    (fun _ _ a ns hl _ hS => ⟨a, ns, rfl, hS, hl, fun _ => rfl⟩) fun _ _ _ _ _ z => z
end SH
open PySem PySem.W PyProof.Rows
set_option maxRecDepth 100000 in
set_option maxHeartbeats 0 in
theorem PySem.Challenge.cw_stickyheads_k05_errors_of_outlines_holds : PySem.Challenge.rw_stickyheads_k05_errors_of_outlines.Holds := by
  w_on; o_law; k_head; (case hw => w_witness2)
  k_fill
  refine SH.walk (l := PySem.Challenge.rw_stickyheads_k05_errors_of_outlines) rfl rfl (fun w h Y => PySem.W.kIn_of Y) ?F
  case F =>
    intro w mg fa h KX G hmg
    refine' SH.all_mk KX G hmg ?a0 ?l0 ?c0 ?k0 ?a1 ?l1 ?c1 ?k1 ?a2 ?l2 ?c2 ?k2 ?a3 ?l3 ?c3 ?k3 ?a4 ?l4 ?c4 ?k4 ?a5 ?l5 ?c5 ?k5 ?a6 ?l6 ?c6 ?k6 ?a7 ?l7 ?c7 ?k7 ?a8 ?l8 ?c8 ?k8 ?a9 ?l9 ?c9 ?k9 ?a10 ?l10 ?c10 ?k10 ?a11 ?l11 ?c11 ?k11 ?a12 ?l12 ?c12 ?k12 ?a13 ?l13 ?c13 ?k13 ?a14 ?l14 ?c14 ?k14 ?a15 ?l15 ?c15 ?k15 ?a16 ?l16 ?c16 ?k16 ?a17 ?l17 ?c17 ?k17 ?a18 ?l18 ?c18 ?k18 ?a19 ?l19 ?c19 ?k19 ?z_len ?z_range ?z_repr ?z_min ?z_max ?z_int ?z_list ?z_type ?z_bool ?z_tuple ?z_isinstance ?z_enumerate ?z_str ?z_zip ?z_all ?z_any ?z_sum ?z_abs ?z_sorted ?z_set ?z_dict ?z_reversed ?z_divmod ?m_MOST_LINES ?ea_EmptyHistoryError ?ea_EmptyOutlineError ?ea_EndError ?ea_HiddenLineError ?ea_InvalidDepthError ?ea_InvalidFoldsError ?ea_InvalidHeightError ?ea_InvalidNumberError ?ea_InvalidObservationsError ?ea_InvalidReadingError ?ea_InvalidScrollError ?ea_InvalidTitleError ?ea_TooManyLinesError ?ea_InvalidDocumentError ?ea_InvalidTextError ?ea_TooDeepError ?zn_ValueError ?ea_InvalidOutlineError ?eq_InvalidOutlineError ?ek_InvalidOutlineError ?ee_InvalidOutlineError ?et_InvalidOutlineError ?ea_InvalidLineError ?eq_InvalidLineError ?ek_InvalidLineError ?ee_InvalidLineError ?et_InvalidLineError ?ea_StickyHeadsError ?eq_StickyHeadsError ?ek_StickyHeadsError ?ee_StickyHeadsError ?et_StickyHeadsError ?ei_StickyHeadsError ?es_InvalidOutlineError_StickyHeadsError ?es_InvalidLineError_StickyHeadsError ?yg_O ?yh_O ?yd_O ?ys_O ?ya_O ?ym_O ?yk_O ?yg_L ?yh_L ?yd_L ?ys_L ?ya_L ?ym_L ?yk_L ?y0n ?y0t
    (case a0 => k_is); (case l0 => k_is); (case c0 => k_is); (case k0 => k_is); (case a1 => k_is); (case l1 => k_is); (case c1 => k_is); (case k1 => k_is)
    (case a2 => k_is); (case l2 => k_is); (case c2 => k_is); (case k2 => k_is); (case a3 => k_is); (case l3 => k_is); (case c3 => k_is); (case k3 => k_is)
    (case a4 => k_is); (case l4 => k_is); (case c4 => k_is); (case k4 => k_is); (case a5 => k_is); (case l5 => k_is); (case c5 => k_is); (case k5 => k_is)
    (case a6 => k_is); (case l6 => k_is); (case c6 => k_is); (case k6 => k_is); (case a7 => k_is); (case l7 => k_is); (case c7 => k_is); (case k7 => k_is)
    (case a8 => k_is); (case l8 => k_is); (case c8 => k_is); (case k8 => k_is); (case a9 => k_is); (case l9 => k_is); (case c9 => k_is); (case k9 => k_is)
    (case a10 => k_is); (case l10 => k_is); (case c10 => k_is); (case k10 => k_is); (case a11 => k_is); (case l11 => k_is); (case c11 => k_is); (case k11 => k_is)
    (case a12 => k_is); (case l12 => k_is); (case c12 => k_is); (case k12 => k_is); (case a13 => k_is); (case l13 => k_is); (case c13 => k_is); (case k13 => k_is)
    (case a14 => k_is); (case l14 => k_is); (case c14 => k_is); (case k14 => k_is); (case a15 => k_is); (case l15 => k_is); (case c15 => k_is); (case k15 => k_is)
    (case a16 => k_is); (case l16 => k_is); (case c16 => k_is); (case k16 => k_is); (case a17 => k_is); (case l17 => k_is); (case c17 => k_is); (case k17 => k_is)
    (case a18 => k_is); (case l18 => k_is); (case c18 => k_is); (case k18 => k_is); (case a19 => k_is); (case l19 => k_is); (case c19 => k_is); (case k19 => k_is)
    (case z_len => k_is); (case z_range => k_is); (case z_repr => k_is); (case z_min => k_is); (case z_max => k_is); (case z_int => k_is); (case z_list => k_is); (case z_type => k_is)
    (case z_bool => k_is); (case z_tuple => k_is); (case z_isinstance => k_is); (case z_enumerate => k_is); (case z_str => k_is); (case z_zip => k_is); (case z_all => k_is); (case z_any => k_is)
    (case z_sum => k_is); (case z_abs => k_is); (case z_sorted => k_is); (case z_set => k_is); (case z_dict => k_is); (case z_reversed => k_is); (case z_divmod => k_is); (case m_MOST_LINES => k_is)
    (case ea_EmptyHistoryError => k_is); (case ea_EmptyOutlineError => k_is); (case ea_EndError => k_is); (case ea_HiddenLineError => k_is); (case ea_InvalidDepthError => k_is); (case ea_InvalidFoldsError => k_is); (case ea_InvalidHeightError => k_is); (case ea_InvalidNumberError => k_is)
    (case ea_InvalidObservationsError => k_is); (case ea_InvalidReadingError => k_is); (case ea_InvalidScrollError => k_is); (case ea_InvalidTitleError => k_is); (case ea_TooManyLinesError => k_is); (case ea_InvalidDocumentError => k_is); (case ea_InvalidTextError => k_is); (case ea_TooDeepError => k_is)
    (case zn_ValueError => k_is); (case ea_InvalidOutlineError => k_is); (case eq_InvalidOutlineError => kernel_rfl); (case ek_InvalidOutlineError => k_is); (case ee_InvalidOutlineError => k_is); (case et_InvalidOutlineError => k_is); (case ea_InvalidLineError => k_is); (case eq_InvalidLineError => kernel_rfl)
    (case ek_InvalidLineError => k_is); (case ee_InvalidLineError => k_is); (case et_InvalidLineError => k_is); (case ea_StickyHeadsError => k_is); (case eq_StickyHeadsError => kernel_rfl); (case ek_StickyHeadsError => k_is); (case ee_StickyHeadsError => k_is); (case et_StickyHeadsError => k_is)
    (case ei_StickyHeadsError => first | rfl | k_is); (case es_InvalidOutlineError_StickyHeadsError => first | rfl | k_is); (case es_InvalidLineError_StickyHeadsError => first | rfl | k_is); (case yg_O => first | rfl | k_is | kernel_rfl); (case yh_O => first | rfl | k_is | kernel_rfl); (case yd_O => first | rfl | k_is | kernel_rfl); (case ys_O => first | rfl | k_is | kernel_rfl); (case ya_O => first | rfl | k_is | kernel_rfl)
    (case ym_O => first | rfl | k_is | kernel_rfl); (case yk_O => (repeat' (first | exact True.intro | refine And.intro ?_ ?_ | kernel_rfl))); (case yg_L => first | rfl | k_is | kernel_rfl); (case yh_L => first | rfl | k_is | kernel_rfl); (case yd_L => first | rfl | k_is | kernel_rfl); (case ys_L => first | rfl | k_is | kernel_rfl); (case ya_L => first | rfl | k_is | kernel_rfl); (case ym_L => first | rfl | k_is | kernel_rfl)
    (case yk_L => (repeat' (first | exact True.intro | refine And.intro ?_ ?_ | kernel_rfl))); (case y0n => first | rfl | k_is | kernel_rfl); (case y0t => first | rfl | k_is | kernel_rfl)

