import PyProof.Rows.All
import Wide.All
import OpenK.AllK
import Wide.FinOn
import PyProof.EqAt
import PyProof.EqKinds
import PyProof.TupleCall
import PyProof.ReprRoads
import HandS.Base
import HandS.Call
import HandS.List
import HandS.Comp
import HandS.Iter
import HandS.Ends
import HandS.Words
import HandS.WordsList
import PyProof.TypeEq
import PyProof.InstEq
import HandS.IsInst
import HandS.Zip
import HandS.Wide
import HandS.Evl
import HandS.Conv
import HandS.RevRange
import PyProof.ReprLen
import PyProof.Rows.RegStrFacts
import HandS.SetFor
import HandS.Strs
import HandS.SortInts
import PyProof.Rows.SortShellAny
import HandS.Dict
import HandS.Finally
import HandS.Exc
import HandS.TryOnly
import HandS.TryMany
import HandS.ExcOwn
import HandS.CallSlots
import HandS.WordsExc
import HandS.SortKw
import HandS.SortRule
import KE.DataMinMax
import HandS.ExcInit
import HandS.ExcIs
import HandS.ExcField
import HandS.HotCalls
import HandS.ExcValue
import HandS.Style
import HandS.NoneIn
import PySem.Challenge.RW_stickyheads_k46_whole_folds_bring_lines
set_option Elab.async false
set_option linter.all false
set_option maxRecDepth 100000
/-! SH0: calls where no repr is running: the promise of a def under an empty list of guards. -/
namespace SH
open PySem PySem.Spec PyProof.Rows L2

/-- nothing that guards itself (repr and its like) runs around -/
abbrev Quiet (A : Around) : Prop := A.guards = some []

structure FnG (P : Program) (w : World) (K : PySem.W.Frag) (mg : Str → Option Value) (base : Heap)
    (CX : CXT) (k : Nat) (f : Addr) (fd : FuncData) (ps : List Str) (sp : Sp) : Prop where
  arity : ∀ vs H Q E, sp vs H Q E → vs.length = ps.length
  go : ∀ (A : Around) (outer : List Env) (s : Shared) (H : Hp) (args : Args) (us : List Value) (vs : List V)
    (Q : VK) (E : XK), Room k A → Quiet A → Env0 P w K mg base A outer s H →
    BindsTo s fd args (ps.zip us) → Vals vs us → sp vs H Q E →
    codeAny (model P w) A (.call (.ref f) args) (CR CX outer P w H s Q E) s

section
variable {X : Cx} {CX : CXT} {k : Nat} {f : Addr} {fd : FuncData} {ps ks : List Str} {sp : Sp}
  {dvs : List V} {ds : List Value} {E : XK} {x : Str} {p pos : Pos} {e : Expr} {es : List Expr} {t tk : TA}
  {kws : List Keyword} {g : List Value → List Value → List Value} {gV : List V → List V → List V}

theorem endG {pins : List (Addr × Obj)} {σ : L2.St} {H : Hp} {s : Shared} {Q : VK} (I : Inv X pins σ H s)
    (hx : Passes CX X E) : ∀ (r : Result) (s' : Shared), CR CX X.stack X.prog X.w H s Q E r s' →
    (match r with
      | .ok (.ret u) => EP X pins σ Q u s'
      | .ok _ => False
      | .error e => X.xe e s')
  | .error e, s', q => hx pins σ H s e s' I q
  | .ok (.ret _), _, q => I.after q
  | .ok .next, _, q => False.elim q
  | .ok .brk, _, q => False.elim q
  | .ok .cont, _, q => False.elim q

theorem goG {pins : List (Addr × Obj)} {σ : L2.St} {H : Hp} {s : Shared} {Q : VK} {us : List Value} {vs : List V}
    (F : FnG X.prog X.w X.K X.mg X.base CX k f fd ps sp) (room : Room k X.A) (qt : Quiet X.A)
    (hb : Binds X.K fd ps ds) (hd : Vals dvs ds) (hx : Passes CX X E)
    (I : Inv X pins σ H s) (r : Vals vs us) (h : sp (vs ++ dvs) H Q E) :
    wpAny (model X.prog X.w) X.A (call (.ref f) us) (EP X pins σ Q) X.xe s := by
  have rr : Vals (vs ++ dvs) (us ++ ds) := r.append hd
  have hlen : (us ++ ds).length = ps.length := by rw [← rr.length]; exact F.arity _ _ _ _ h
  refine wpAny_call (codeAny_mono (F.go X.A X.stack s H ⟨us, []⟩ (us ++ ds) (vs ++ dvs) Q E room qt
    I.env0 (hb s us I.kIn hlen) rr h) fun r s' hq => ?_)
  have := endG I hx r s' hq
  cases r with
  | error e => exact this
  | ok fl => cases fl with
    | ret u => exact this
    | _ => exact False.elim this

theorem pe_callG (F : FnG X.prog X.w X.K X.mg X.base CX k f fd ps sp) (room : Room k X.A) (qt : Quiet X.A)
    (hg : Gl X x) (hm : X.mg x = some (.ref f)) (hk : PySem.W.keepIn X.K (.ref f) = true)
    (hb : Binds X.K fd ps ds) (hd : Vals dvs ds) (hx : Passes CX X E) (ha : PA X (e :: es) t)
    (hdb : (x == ("__debug__" : Str)) = false := by decide)
    (he : starEach (e :: es) X.env = (false, eval e X.env) :: starEach es X.env := by rfl)
    (hpl : (backTo pos (starEach es X.env)).any (·.1) = false := by rfl) :
    PE X (.Call (.Name x p) (e :: es) [] pos) (tCall sp dvs E t) :=
  ⟨fun pins s σ H Q I h => wpAny_Call_Name_kw (ld_glob I hg hm
    (PySem.W.callWith_K (h₀ := X.base) I.ok.mod.kin hk
      (thn (ha.run pos pins s σ H _ I h) fun us s1 ⟨vs, H1, I1, r, q⟩ =>
        ⟨I1.kIn, goG F room qt hb hd hx I1 r q⟩) he hpl) hdb)⟩

theorem pe_callG0 (F : FnG X.prog X.w X.K X.mg X.base CX k f fd ps sp) (room : Room k X.A) (qt : Quiet X.A)
    (hg : Gl X x) (hm : X.mg x = some (.ref f)) (hk : PySem.W.keepIn X.K (.ref f) = true)
    (hb : Binds X.K fd ps ds) (hd : Vals dvs ds) (hx : Passes CX X E)
    (hdb : (x == ("__debug__" : Str)) = false := by decide) :
    PE X (.Call (.Name x p) [] [] pos) (tCall sp dvs E tNil) :=
  ⟨fun pins s σ H Q I h => wpAny_Call_Name_kw (ld_glob I hg hm
    (PySem.W.callWith_K0 I.kIn hk (goG (us := []) F room qt hb hd hx I .nil h)) hdb)⟩

theorem goGK {pins : List (Addr × Obj)} {σ : L2.St} {H : Hp} {s : Shared} {Q : VK} {us ws : List Value}
    {vs zs : List V} (F : FnG X.prog X.w X.K X.mg X.base CX k f fd ps sp) (room : Room k X.A) (qt : Quiet X.A)
    (hb : KBinds X.K fd ps ks g gV) (hx : Passes CX X E)
    (I : Inv X pins σ H s) (r : Vals vs us) (rz : Vals zs ws) (h : sp (gV vs zs) H Q E) :
    wpAny (model X.prog X.w) X.A (call (.ref f) us (ks.zip ws)) (EP X pins σ Q) X.xe s := by
  have rr := hb.rel r rz
  have hlen : (g us ws).length = ps.length := by rw [← rr.length]; exact F.arity _ _ _ _ h
  refine wpAny_call (codeAny_mono (F.go X.A X.stack s H ⟨us, ks.zip ws⟩ (g us ws) (gV vs zs) Q E room qt
    I.env0 (hb.to s us ws I.kIn hlen) rr h) fun r s' hq => ?_)
  have := endG I hx r s' hq
  cases r with
  | error e => exact this
  | ok fl => cases fl with
    | ret u => exact this
    | _ => exact False.elim this

/-- f(k = v, ..): no argument by position -/
theorem pe_callGK0 (F : FnG X.prog X.w X.K X.mg X.base CX k f fd ps sp) (room : Room k X.A)
    (qt : Quiet X.A) (hg : Gl X x) (hm : X.mg x = some (.ref f)) (hk : PySem.W.keepIn X.K (.ref f) = true)
    (hb : KBinds X.K fd ps ks g gV) (hx : Passes CX X E) (hkw : PK X kws tk)
    (hall : (backToKw pos (keywordEach kws X.env)).all (·.1.isSome) = true := by rfl)
    (hks : (backToKw pos (keywordEach kws X.env)).filterMap (·.1) = ks := by rfl)
    (hdb : (x == ("__debug__" : Str)) = false := by decide)
    (hpl : ((backTo pos (starEach [] X.env)).any (·.1) ||
      (backToKw pos (keywordEach kws X.env)).any (·.1.isNone)) = false := by rfl) :
    PE X (.Call (.Name x p) [] kws pos) (tCallK sp gV E tNil tk) :=
  ⟨fun pins s σ H Q I h => wpAny_Call_Name_kw (ld_glob I hg hm
    (PySem.W.callWith_KW0 (h₀ := X.base) I.ok.mod.kin hk hall
      (thn (hkw.run pos pins s σ H _ I h) fun ws s2 ⟨zs, H2, I2, rz, q2⟩ => ⟨I2.kIn, by
        rw [hks]
        exact goGK (us := []) (vs := []) F room qt hb hx I2 .nil rz q2⟩) hpl) hdb)⟩
end

/-! ### a def of the text, walked where all is quiet -/
section
variable {P : Program} {w : World} {K : PySem.W.Frag} {mg : Str → Option Value} {base : Heap}

theorem FnG.of {CX : CXT} {x qual : Str} {st : Stmt} {f : Addr} {fd : FuncData} {N ps : List Str} {k : Nat} {sp : Sp}
    (F : Fun K x qual st f fd) (S : FnScope N ps (defScope st)) (len : ∀ vs H Q E, sp vs H Q E → vs.length = ps.length)
    (walk : ∀ (cdv : Value) (A : Around) (outer : List Env) (s : Shared) (H : Hp) (vs : List V) (Q : VK) (E : XK),
      Room k (A.deeper (envOfC qual (defScope st) s.heap.objs.size f cdv)) →
      Quiet (A.deeper (envOfC qual (defScope st) s.heap.objs.size f cdv)) → sp vs H Q E →
      ∃ t, PSs (cxOf CX P w K mg base N qual (defScope st) f cdv A outer s H E) (defBody st) t ∧
        t { nx := fun _ H' => Q .non H', rt := Q } (start N vs) H) :
    FnG P w K mg base CX (k + 1) f fd ps sp := by
  obtain ⟨oc, od, kV, doc, pm, an, cdv, ct, osl, rfl, lk, hcd⟩ := F.ex
  refine ⟨len, fun A outer s H args us vs Q E room qt e0 hb r hsp => ?_⟩
  have hl := len _ _ _ _ hsp
  have inK : K.In s.heap := e0.mod.kin.keeps fun b o e => (e0.bs b o e).1
  have lim : s.heap.NoLimit := e0.mod.nolimit.keeps fun b o e => (e0.bs b o e).1
  have kinds : ∀ y ∈ ps.zip us, (defScope st).names.lookup y.1 = some .local ∨
      ((defScope st).names.lookup y.1 = some .cell ∧
        ((cellsFrom (s.heap.objs.size + 1) (defScope st).names []).lookup y.1).isSome = true) := by
    rintro ⟨n, v⟩ hy
    rcases S.par n (List.of_mem_zip hy).1 with z | z
    · exact .inl z
    · exact .inr ⟨z, PySem.W.cellsFrom_some _ _ _ (.inl z)⟩
  refine codeAny_call_function room.depth (inK _ _ lk) rfl S.co S.gen rfl (PySem.W.codeRec_of inK hcd) (hb _ _ _ _ ?_)
  refine wpAny_newFunctionEnv_cells S.kind kinds fun env he s1 ic => ?_
  subst he
  refine ⟨lim.keeps ic.toInCall.keep, codeAny_func ?_⟩
  obtain ⟨t, ht, hq⟩ := walk cdv A outer s H vs Q E (room.deeper _) (by exact qt) hsp
  have I := inv_start (CX := CX) (E := E) (P := P) (w := w) S room.hd e0 hl r ic
  refine wpAny_mono (ht.run [] s1 (start N vs) H _ I hq) (fun fl s' hs => ?_) fun e s' hs => hs
  cases fl with
  | ret u =>
    obtain ⟨v, σ', H', J, rv, q⟩ := hs
    exact ⟨v, H', J.os, J.bare, J.base, J.hok, rv, q⟩
  | next =>
    obtain ⟨σ', H', J, q⟩ := hs
    exact ⟨V.non, H', J.os, J.bare, J.base, J.hok, rfl, q⟩
  | brk => obtain ⟨_, _, _, q⟩ := hs; exact q.elim
  | cont => obtain ⟨_, _, _, q⟩ := hs; exact q.elim

/-- for a def that lets no error out -/
theorem FnG.ok {x qual : Str} {st : Stmt} {f : Addr} {fd : FuncData} {N ps : List Str} {k : Nat} {sp : Sp}
    (F : Fun K x qual st f fd) (S : FnScope N ps (defScope st)) (len : ∀ vs H Q E, sp vs H Q E → vs.length = ps.length)
    (walk : ∀ (cdv : Value) (A : Around) (outer : List Env) (s : Shared) (H : Hp) (vs : List V) (Q : VK) (E : XK),
      Room k (A.deeper (envOfC qual (defScope st) s.heap.objs.size f cdv)) →
      Quiet (A.deeper (envOfC qual (defScope st) s.heap.objs.size f cdv)) → sp vs H Q E →
      ∃ t, PSs (cxOf CX0 P w K mg base N qual (defScope st) f cdv A outer s H E).nox (defBody st) t ∧
        t { nx := fun _ H' => Q .non H', rt := Q } (start N vs) H) :
    FnG P w K mg base CX0 (k + 1) f fd ps sp :=
  FnG.of F S len fun cdv A outer s H vs Q E room qt hsp =>
    let ⟨t, h, q⟩ := walk cdv A outer s H vs Q E room qt hsp
    ⟨t, h.nox, q⟩
theorem FnG.mono {CX : CXT} {j k : Nat} {f : Addr} {fd : FuncData} {ps : List Str} {sp : Sp}
    (F : FnG P w K mg base CX j f fd ps sp) (h : j ≤ k) : FnG P w K mg base CX k f fd ps sp :=
  ⟨F.arity, fun A outer s H args us vs Q E room => F.go A outer s H args us vs Q E (room.mono h)⟩
end

/-! ### the law's own call: nothing runs around it -/
theorem frz_or {H : Hp} (hO : Only H) {b : Addr} {u : HO} (e : H b = some u) : ∃ o xs, u = .frz o (.lst xs) := by
  rcases hO b with z | ⟨o, xs, z⟩
  · rw [z] at e; cases e
  · rw [z] at e; exact ⟨o, xs, (Option.some.inj e).symm⟩

theorem lawG {P : Program} {w : World} {K : PySem.W.Frag} {mg mb : Str → Option Value} {CX : CXT} {k : Nat}
    {fa a : Addr} {fd : FuncData} {x : Str} {sp : Sp} {s₁ : Shared} {vs : List Value} {ns : List Int}
    (inK : K.In s₁.heap) (hns : s₁.heap.Ns mainGlobals mg) (hb : s₁.heap.Ns builtinsNs mb)
    (hbb : ∀ x : Str, x ≠ "__name__" → mb x = bootBuiltins x) (hlim : s₁.heap.NoLimit) (hg : s₁.gens = #[])
    (ha : s₁.heap.get? a = some { cls := .type "list", data := .seq vs.toArray }) (hi : IntsAre vs ns)
    (hl : ns.length ≤ sizeLine) (room : Room k callerA)
    (F : ∀ base : Heap, K.In base → base.Ns mainGlobals mg → FnG P w K mg base CX k fa fd [x] sp)
    (hbind : ∀ (s : Shared) (u : Value), BindsTo s fd ⟨[u], []⟩ [(x, u)])
    (hsp : ∀ H : Hp, Only H → SqL K H a (ns.map V.int) → sp [.ref a] H (fun v _ => v = .bl true) fun _ _ _ => False)
    (hCX : ∀ H e s', CX [] H s₁ (fun _ _ _ => False) e s' → False) :
    codeAny (model P w) callerA (.call (.ref fa) ⟨[.ref a], []⟩)
      (fun r s' => r = .ok (.ret (.bool true)) ∧ OldK s₁.heap s'.heap ∧ s'.os = s₁.os ∧ AllBare s'.gens) s₁ := by
  have rv := vals_ints hi
  have lenV := hi.length
  suffices core : ∀ H : Hp, Only H → SqL K H a (ns.map V.int) → HOk P w H s₁.heap →
      (∀ b o, s₁.heap.get? b = some o → (b ≠ a ∨ (K.lookup b).isSome = true) → H b = none) →
      codeAny (model P w) callerA (.call (.ref fa) ⟨[.ref a], []⟩)
        (fun r s' => r = .ok (.ret (.bool true)) ∧ OldK s₁.heap s'.heap ∧ s'.os = s₁.os ∧ AllBare s'.gens) s₁ by
    cases hk : K.lookup a with
    | some o =>
      have e := inK a o hk
      rw [ha] at e
      cases e
      exact core (fun _ => none) (fun _ => .inl rfl)
        (.inr ⟨_, vs.toArray, _, hk, rfl, rfl, rfl, by rw [List.size_toArray, lenV]; exact hl, by simpa using rv⟩)
        (fun b u z => by have z' : (none : Option HO) = some u := z; cases z') (fun _ _ _ _ => rfl)
    | none =>
      let H1 : Hp := fun b => if b = a then some (.frz { cls := .type "list", data := .seq vs.toArray } (.lst (ns.map V.int))) else none
      have h1a : H1 a = some (.frz { cls := .type "list", data := .seq vs.toArray } (.lst (ns.map V.int))) := if_pos rfl
      have h1n : ∀ b, b ≠ a → H1 b = none := fun b h => if_neg h
      refine core H1 (fun b => ?_) (.inl (.inr ⟨_, h1a⟩)) (fun b u z => ?_) (fun b o _ h => ?_)
      · by_cases hb : b = a
        · subst hb; exact .inr ⟨_, _, h1a⟩
        · exact .inl (h1n b hb)
      · by_cases hb : b = a
        · subst hb
          rw [h1a] at z
          cases z
          exact ⟨ha, by rw [List.length_map]; exact hl, vs, _, rv, ha⟩
        · rw [h1n b hb] at z; cases z
      · rcases h with h | h
        · exact h1n b h
        · by_cases hb : b = a
          · subst hb; rw [hk] at h; cases h
          · exact h1n b hb
  intro H hO hS hok hN
  have down : ∀ {b : Addr} {o : Obj}, s₁.heap.get? b = some o → (b ≠ a ∨ (K.lookup b).isSome = true) →
      (hidT s₁.heap H).get? b = some o := fun e c => hidT_get e (hN _ _ e c)
  have nsK : ∀ {b : Addr} {m : Str → Option Value}, s₁.heap.Ns b m → (hidT s₁.heap H).Ns b m := by
    rintro b m ⟨o, es, ep, e, d, r⟩
    refine ⟨o, es, ep, down e (.inl ?_), d, r⟩
    rintro rfl
    rw [ha] at e
    cases e
    cases d
  have hKb : K.In (hidT s₁.heap H) := fun b o e => down (inK b o e) (.inr (by rw [e]; rfl))
  have hM : Mod K mg (hidT s₁.heap H) := ⟨hKb, nsK hns, ⟨mb, nsK hb, hbb⟩, let ⟨mc, h1, h2⟩ := hlim; ⟨mc, nsK h1, h2⟩⟩
  have e0 : Env0 P w K mg (hidT s₁.heap H) callerA [] s₁ H := ⟨rfl, hM, fun b o e => of_hidT e,
    Nat.le_of_eq (hidT_size _ _), trivial, fun b hb => (List.not_mem_nil hb).elim, hok, AllBare.of_eq hg⟩
  refine codeAny_mono ((F _ hKb (nsK hns)).go callerA [] s₁ H ⟨[.ref a], []⟩ [.ref a] [.ref a] _ _ room rfl e0
    (hbind s₁ (.ref a)) (.cons rfl .nil) (hsp H hO hS)) fun r s' h => ?_
  match r, h with
  | .error e, h => exact (hCX H e s' h).elim
  | .ok .next, h => exact False.elim h
  | .ok .brk, h => exact False.elim h
  | .ok .cont, h => exact False.elim h
  | .ok (.ret u), h =>
    obtain ⟨v, H', os, bare, un, hok', r', q⟩ := h
    obtain rfl : v = .bl true := q
    obtain rfl : u = Value.bool true := r'
    refine ⟨rfl, OldK.of_keep fun b o e => ?_, os, bare⟩
    cases q : H b with
    | none => exact un.keep b o e q (List.not_mem_nil) (by simp)
    | some u =>
      obtain ⟨ob, xs, rfl⟩ := frz_or hO q
      obtain ⟨e1, _⟩ := hok b _ q
      obtain ⟨e2, _⟩ := hok' b _ (un.frzs b ob _ q)
      rw [e] at e1
      cases e1
      exact e2

theorem walkG {l : PySem.W.OpenLaw} {n k : Nat} {q : Program} {loose : List Str} {XP : (Str → Option Value) → Heap → Prop}
    {YP : World → Heap → Prop} {d : DefRec} {K : Params → PySem.W.Frag} {CX : World → CXT} {sp : World → Sp} {x : Str}
    (hn : l.most = some n) (hn2 : n ≤ sizeLine) (hdf : d.params.defaults = []) (room : Room k callerA)
    (hY : ∀ (w : World) (h : Heap), YP w h → (K w.params).In h)
    (F : ∀ (w : World) (mg : Str → Option Value) (fa : Addr) (h : Heap), (K w.params).In h → h.Ns mainGlobals mg →
      mg d.name = some (.ref fa) → ∃ fd : FuncData, (∀ (s : Shared) (u : Value), BindsTo s fd ⟨[u], []⟩ [(x, u)]) ∧
        ∀ base : Heap, (K w.params).In base → base.Ns mainGlobals mg →
          FnG l.prog w (K w.params) mg base (CX w) k fa fd [x] (sp w))
    (hsp : ∀ (w : World) (H : Hp) (a : Addr) (ns : List Int), ns.length ≤ n → Only H →
      SqL (K w.params) H a (ns.map V.int) → sp w [.ref a] H (fun v _ => v = .bl true) fun _ _ _ => False)
    (hCX : ∀ (w : World) (H : Hp) (s : Shared) (e : Value) (s' : Shared),
      CX w [] H s (fun _ _ _ => False) e s' → False) :
    PySem.W.WalkO q loose XP YP l.row.toRowW d [] (fun f vs => PySem.call f vs) := by
  refine Att.attach_call hn hdf fun w s₀ s₁ mg mb fa o pm cd doc a vs ns G Y ho hd hcd hmg hobj hints hlen hg => ?_
  obtain ⟨fd, hb, hF⟩ := F w mg fa _ (hY w _ Y) G.T.g hmg
  exact lawG (hY w _ Y) G.T.g G.T.b G.T.builtins G.T.nolimit hg hobj hints (Nat.le_trans hlen hn2) room hF hb
    (fun H hO hS => hsp w H a ns hlen hO hS) fun H e s' => hCX w H s₁ e s'

end SH

/-! SH1: operations that the layer does not have yet: great powers, repr of data, types compared, enumerate. -/
namespace SH
open PySem PySem.Spec PyProof.Rows L2

section
variable {X : Cx}
/-! ### powers of great numbers -/
def PowC (i j : Int) : Prop := 0 ≤ j ∧ (Builtin.Int.intBits i : Int) * j ≤ 2 ^ 27
theorem op_powG : OpR X (binaryOp .Pow) (rI PowC fun i j => .int (i ^ j.toNat)) :=
  opI fun _ _ _ _ _ _ _ c q => pow_int c.1 c.2 q
theorem cube_ok {i : Int} (h : i.natAbs < 2 ^ 4000) : PowC i 3 := by
  refine ⟨by decide, ?_⟩
  have := intBits_le (k := 4000) h
  have e : (2 : Int) ^ 27 = 134217728 := by decide
  omega
theorem ten_ok {j : Int} (h0 : 0 ≤ j) (h : j ≤ 1000) : PowC 10 j := by
  refine ⟨h0, ?_⟩
  have e1 : Builtin.Int.intBits 10 = 4 := by decide
  have e : (2 : Int) ^ 27 = 134217728 := by decide
  rw [e1]
  omega

/-! ### repr -/
/-- data as it is shown -/
def Shows (K : PySem.W.Frag) (H : Hp) (x : V) (d : PyData) : Prop :=
  Dp K H x d ∧ d.showable = true ∧ d.hasDict = false ∧ d.depth ≤ 60 ∧ d.shown.length ≤ sizeLine
def rRepr (K : PySem.W.Frag) : List V → Hp → VK → Prop := fun xs H Q =>
  ∃ (a : Addr) (d : PyData), xs = [.ref a] ∧ Shows K H (.ref a) d ∧ Q (.str d.shown) H
theorem call_reprR (qt : Quiet X.A) (hu : X.A.units + 64 < cLine) : CallR X (.builtin "repr") (rRepr X.K) := by
  intro pins s σ H xs us Q I r h
  obtain ⟨a, d, rfl, ⟨hd, h1, h2, h3, h4⟩, q⟩ := h
  cases r with
  | cons ra rr =>
    cases rr
    cases ra
    obtain ⟨as, rd⟩ := Dp.reads I d _ (.ref a) hd rfl
    exact repr_of_reads' rd h1 (noDict_hsm' h2) qt (by omega) (fun _ _ e => e)
      (fun h' u tk hk => ⟨.str d.shown, H, I.kept hk, ⟨u, rfl⟩, q⟩) h4
where
  noDict_hsm' {d : PyData} {as : List Addr} (h : d.hasDict = false) : d.hasDict = true → sysModules ∉ as :=
    fun e => by rw [h] at e; cases e

end

/-! ### built-in types compared -/
open Sem (wp)
theorem slot_ty_ne : Slot "type" (cmpInfo .NotEq).2.1 "object.__ne__" :=
  .of (owner := "object") (n := "__ne__") (by rw [typeLookup_type, builtinLookup_eq_fast]; kernel_rfl)
    (by decide +kernel) (by decide +kernel) (by decide +kernel)
    (by first | exact .inl (by decide +kernel) | exact .inr (by decide +kernel)) (by rw [isSubtype_type]; kernel_rfl)
theorem slot_ty_ne_refl : Slot "type" (cmpInfo .NotEq).2.2 "object.__ne__" :=
  .of (owner := "object") (n := "__ne__") (by rw [typeLookup_type, builtinLookup_eq_fast]; kernel_rfl)
    (by decide +kernel) (by decide +kernel) (by decide +kernel)
    (by first | exact .inl (by decide +kernel) | exact .inr (by decide +kernel)) (by rw [isSubtype_type]; kernel_rfl)

section
variable {prog : Program} {w : World} {A : Around} {E : Value → Shared → Prop} {s : Shared} {Q : Value → Shared → Prop}
/-- X.__eq__(Y) of two built-in types -/
theorem sp_eq_ty {a b : String} {R : Option Value → Shared → Prop} (ha : ∀ s' : Shared, s'.TypeIs (.type a) "type")
    (h : (if a = b then R (some (.bool true)) s else R (some .notImplemented) s)) :
    wpAny (model prog w) A (callSpecialIfBound? (.type a) "__eq__" [.type b]) R E s := by
  have slot : Slot "type" ("__eq__" : Str) "object.__eq__" := TypeEq.slot_type_eq
  refine wpAny_callSpecialIfBound?_slot (name := Str.ofString "__eq__") (ha s) slot ?_
  by_cases e : a = b
  · subst e
    rw [if_pos rfl] at h
    exact call_gives slot (ha s) F.entry_object_eq (F.args_object_eq_2 _ _) (TypeEq.object_eq_same rfl (by simp)) h
  · rw [if_neg e] at h
    exact call_gives slot (ha s) F.entry_object_eq (F.args_object_eq_2 _ _)
      (TypeEq.object_eq_other rfl (by simpa using e)) h

theorem call_ne_ty {a b : String} {R : Value → Shared → Prop} (ha : ∀ s' : Shared, s'.TypeIs (.type a) "type")
    (h : (if a = b then R (.bool false) s else R .notImplemented s)) :
    wpAny (model prog w) A (call (.builtin "object.__ne__") [.type a, .type b]) R E s := by
  refine wpAny_call_entry slot_ty_ne (ha s) F.cmpEntry_ne ?_ (F.args_object_ne_2 _ _)
  unfold Builtin.«object.__ne__»
  by_cases e : a = b
  · subst e
    rw [if_pos rfl] at h
    repeat (first | with_reducible refine wpAny_cRoomFor_or (.inl rfl) ?_ | with_reducible refine sp_eq_ty ha ?_ | rw [if_pos rfl] | wp_step)
    exact ⟨_, rfl, h⟩
  · rw [if_neg e] at h
    repeat (first | with_reducible refine wpAny_cRoomFor_or (.inl rfl) ?_ | with_reducible refine sp_eq_ty ha ?_ | rw [if_neg e] | wp_step)
    exact ⟨_, rfl, h⟩

theorem ne_ty_same {a : String} (ha : ∀ s' : Shared, s'.TypeIs (.type a) "type") (h : Q (.bool false) s) :
    wpAny (model prog w) A (compareOp .NotEq (.type a) (.type a)) Q E s := by
  show wpAny _ A (richCompare .NotEq _ _) Q E s
  exact wpAny_richCompare_same (op := .NotEq) (T := "type") (ha s) (ha s) slot_ty_ne
    (call_ne_ty ha (by rw [if_pos rfl]; exact ⟨(by intro e; cases e), h⟩))
end

theorem rc_ne_same_decline {M : Model} {A : Around} {E : Value → Shared → Prop} {s : Shared} {a b : Value} {T id : String}
    {k : Bool} {Q : Value → Shared → Prop} (ha : ∀ s' : Shared, s'.TypeIs a T) (hb : ∀ s' : Shared, s'.TypeIs b T)
    (h1 : Slot T (cmpInfo .NotEq).2.1 id) (h2 : Slot T (cmpInfo .NotEq).2.2 id) (hv : [a, b].any Value.onHeap = false)
    (hk : isSame a b = pure k)
    (hc : wpAny M A (call (.builtin id) [a, b]) (fun v s₁ => v = .notImplemented ∧
      wpAny M A (call (.builtin id) [b, a]) (fun v s₂ => v = .notImplemented ∧ Q (.bool (!k)) s₂) E s₁) E s) :
    wpAny M A (richCompare .NotEq a b) Q E s := by
  rcases hi : cmpInfo CmpOp.NotEq with ⟨sym, f, r⟩
  rw [hi] at h1 h2
  simp only [richCompare, hi, (ha s).oneThing_none]
  try with_reducible refine wpAny_holding ?_
  refine wpAny_bind (wpAny_cRoomFor_or (.inl hv) (wpAny_bind (wpAny_typeOf (ha s) (wpAny_bind (wpAny_typeOf (hb s) ?_)))))
  simp only [bne_self_eq_false, Bool.false_eq_true, if_false, pure_bind, Bool.not_false, if_true]
  refine wpAny_bind (m := tryCompare a _ b) (wpAny_tryCompare_declines (ha s) h1
    (wpAny_mono hc (fun v s₁ q1 => ⟨q1.1, ?_⟩) fun _ _ x => x))
  refine wpAny_bind (m := tryCompare b _ a) (wpAny_tryCompare_declines (hb s₁) h2
    (wpAny_mono q1.2 (fun v s₂ q2 => ⟨q2.1, ?_⟩) fun _ _ x => x))
  exact wpAny_bind (wpAny_rule (wpAny_bind (wpAny_of_eq hk (wpAny_pure q2.2))))

section
variable {prog : Program} {w : World} {A : Around} {E : Value → Shared → Prop} {s : Shared} {Q : Value → Shared → Prop}
theorem ne_ty_other {a b : String} (ha : ∀ s' : Shared, s'.TypeIs (.type a) "type")
    (hb : ∀ s' : Shared, s'.TypeIs (.type b) "type") (ne : a ≠ b) (h : Q (.bool true) s) :
    wpAny (model prog w) A (compareOp .NotEq (.type a) (.type b)) Q E s := by
  show wpAny _ A (richCompare .NotEq _ _) Q E s
  refine rc_ne_same_decline (T := "type") (k := false) ha hb slot_ty_ne slot_ty_ne_refl rfl
    (by rw [isSame_plain rfl]; have : (Value.type a == Value.type b) = false := by simpa using ne
        rw [this]) ?_
  refine call_ne_ty ha ?_
  rw [if_neg ne]
  refine ⟨rfl, call_ne_ty hb ?_⟩
  rw [if_neg (Ne.symm ne)]
  exact ⟨rfl, h⟩
end

/-- the built-in types that a value may have here -/
def tyNames : List String := ["int", "str", "bool", "NoneType", "list", "tuple", "dict", "set", "float"]
theorem ty_meta {n : String} (h : n ∈ tyNames) (s' : Shared) : s'.TypeIs (.type n) "type" := by
  simp only [tyNames, List.mem_cons, List.not_mem_nil, or_false] at h
  rcases h with rfl | rfl | rfl | rfl | rfl | rfl | rfl | rfl | rfl
  · exact TypeEq.meta_int s'
  · exact TypeEq.meta_str s'
  · exact TypeEq.meta_bool s'
  · exact TypeEq.meta_NoneType s'
  · exact TypeEq.meta_list s'
  · exact TypeEq.meta_tuple s'
  · exact TypeEq.meta_dict s'
  · exact TypeEq.meta_set s'
  · exact TypeEq.meta_float s'
def rNeTy : R2 := fun x y H Q => ∃ a b, x = .ty a ∧ y = .ty b ∧ a ∈ tyNames ∧ b ∈ tyNames ∧ Q (.bl (decide (a ≠ b))) H
theorem op_neTy {X : Cx} : OpR X (compareOp .NotEq) rNeTy := by
  intro pins s σ H x y v u Q I rx ry h
  obtain ⟨a, b, rfl, rfl, ha, hb, q⟩ := h
  cases rx
  cases ry
  by_cases e : a = b
  · subst e
    exact ne_ty_same (ty_meta ha) ⟨.bl false, H, I, rfl, by simpa using q⟩
  · exact ne_ty_other (ty_meta ha) (ty_meta hb) e ⟨.bl true, H, I, rfl, by simpa [e] using q⟩

/-! ### for i, x in enumerate(xs) -/
theorem for_enum {K : PySem.W.Frag} {a : Addr} {xs : List V} {g : TG} {tb : TS} {D : Ends} {σ : L2.St} {H : Hp}
    (Pv : Nat → L2.St → Hp → Prop) (h0 : Pv 0 σ H) (hl : ∀ i σ H, i ≤ xs.length → Pv i σ H → SqL K H a xs)
    (hs : ∀ (i : Nat) (x : V) (T : Addr) σ H, xs[i]? = some x → Pv i σ H → H T = none →
      g (.ref T) σ (upd H T (.tup [.int i, x])) fun σ2 H2 => tb { D with nx := Pv (i + 1), ct := Pv (i + 1), bk := D.nx } σ2 H2)
    (hd : ∀ σ H, Pv xs.length σ H → D.nx σ H) :
    ∃ W : Nat → Nat → L2.St → Hp → Prop, (∃ m, W 0 m σ H) ∧ ∀ i m σ H, W i m σ H →
      ((Ite K a).stop i H ∧ D.nx σ H) ∨ ((Ite K a).go i H ∧ ∃ N : L2.St → Hp → Prop,
        (∀ σ' H', N σ' H' → ∃ m', m' < m ∧ W (i + 1) m' σ' H') ∧
        ∀ x H', (Ite K a).yld i H x H' → g x σ H' fun σ2 H2 => tb { D with nx := N, ct := N, bk := D.nx } σ2 H2) := by
  refine ⟨fun i m σ H => m = xs.length - i ∧ i ≤ xs.length ∧ Pv i σ H, ⟨_, rfl, Nat.zero_le _, h0⟩, ?_⟩
  rintro i m σ H ⟨rfl, hi, p⟩
  have hq := hl i σ H hi p
  rcases Nat.lt_or_ge i xs.length with lt | ge
  · refine .inr ⟨⟨xs, xs[i], hq, List.getElem?_eq_getElem lt⟩, Pv (i + 1), fun σ' H' p' => ⟨_, ?_, rfl, lt, p'⟩, ?_⟩
    · omega
    · rintro v H' ⟨T, x, rfl, hT, rfl, f⟩
      exact hs i x T σ H (f xs hq) p hT
  · obtain rfl : i = xs.length := Nat.le_antisymm hi ge
    exact .inl ⟨⟨xs, hq, Nat.le_refl _⟩, hd σ H p⟩
end SH

/-! SH2: defs by name: what stands at a name of the module, calls of it by place and by keyword. -/
namespace SH
open PySem PySem.Spec PyProof.Rows L2

/-- the def `st` stands at the name `x` of the module and keeps the promise `sp` -/
def Has (P : Program) (w : World) (K : PySem.W.Frag) (mg : Str → Option Value) (base : Heap) (CX : CXT) (k : Nat)
    (x : Str) (st : Stmt) (ps : List Str) (sp : Sp) : Prop :=
  ∃ f fd, Fun K x x st f fd ∧ mg x = some (.ref f) ∧ FnG P w K mg base CX k f fd ps sp ∧ L2.Binds K fd ps []
/-- the def `st` stands at the name `x` -/
def At (K : PySem.W.Frag) (mg : Str → Option Value) (x : Str) (st : Stmt) : Prop :=
  ∃ f fd, Fun K x x st f fd ∧ mg x = some (.ref f)

section
variable {X : Cx} {CX : CXT} {k : Nat} {st : Stmt} {ps ks : List Str} {sp : Sp} {E : XK} {x : Str} {p pos : Pos}
  {e : Expr} {es : List Expr} {t tk : TA} {kws : List Keyword}

theorem pe_has (h : Has X.prog X.w X.K X.mg X.base CX k x st ps sp) (room : Room k X.A) (qt : Quiet X.A) (hg : Gl X x)
    (hx : Passes CX X E) (ha : PA X (e :: es) t) (hdb : (x == ("__debug__" : Str)) = false := by decide)
    (he : starEach (e :: es) X.env = (false, eval e X.env) :: starEach es X.env := by rfl)
    (hpl : (backTo pos (starEach es X.env)).any (·.1) = false := by rfl) :
    PE X (.Call (.Name x p) (e :: es) [] pos) (tCall sp [] E t) := by
  obtain ⟨f, fd, F, m, G, b⟩ := h
  exact pe_callG G room qt hg m F.kp b .nil hx ha hdb he hpl

/-- how the keywords' values come to the parameters: by a permutation of places -/
structure KwOk (x : Str) (st : Stmt) (ps ks : List Str) (g : {α : Type} → List α → List α) : Prop where
  to : ∀ (kV doc pm : Value) (an : Option Addr) (cdv ct : Value) (ws : List Value), ws.length = ks.length →
    bindArgs (PySem.W.fnOf x x (defArgs st) (defBody st) (defScope st) .none kV doc pm an cdv ct) ⟨[], ks.zip ws⟩ =
      pure (ps.zip (g ws))
  rel : ∀ {zs : List V} {ws : List Value}, Vals zs ws → Vals (g zs) (g ws)
  len : ∀ (ws : List Value), (g ws).length = ps.length → ws.length = ks.length
  ne : ps.length ≠ 0

def onlyKw (g : {α : Type} → List α → List α) : {α : Type} → List α → List α → List α := fun us ws =>
  match us with
  | [] => g ws
  | _ => []

theorem pe_hasK0 {g : {α : Type} → List α → List α} (h : Has X.prog X.w X.K X.mg X.base CX k x st ps sp)
    (room : Room k X.A) (qt : Quiet X.A) (hg : Gl X x) (kb : KwOk x st ps ks g) (hx : Passes CX X E)
    (hkw : PK X kws tk) (hall : (backToKw pos (keywordEach kws X.env)).all (·.1.isSome) = true := by rfl)
    (hks : (backToKw pos (keywordEach kws X.env)).filterMap (·.1) = ks := by rfl)
    (hdb : (x == ("__debug__" : Str)) = false := by decide)
    (hpl : ((backTo pos (starEach [] X.env)).any (·.1) ||
      (backToKw pos (keywordEach kws X.env)).any (·.1.isNone)) = false := by rfl) :
    PE X (.Call (.Name x p) [] kws pos) (tCallK sp (onlyKw g) E tNil tk) := by
  obtain ⟨f, fd, F, m, G, _⟩ := h
  refine pe_callGK0 G room qt hg m F.kp (g := onlyKw g) ⟨fun s us ws _ hl => ?_, fun {vs us zs ws} r rz => ?_⟩ hx hkw hall hks hdb hpl
  · obtain ⟨oc, od, kV, doc, pm, an, cdv, ct, osl, rfl, lk, hcd⟩ := F.ex
    cases us with
    | nil => exact .of_eq (kb.to kV doc pm an cdv ct ws (kb.len ws hl))
    | cons u us => exact absurd hl.symm kb.ne
  · cases r with
    | nil => exact kb.rel rz
    | cons _ _ => exact .nil
end

section
variable {P : Program} {w : World} {K : PySem.W.Frag} {mg : Str → Option Value} {base : Heap}
/-- THE RULE for a def at a name of the module that lets no error out -/
theorem Has.of {x : Str} {st : Stmt} {N ps : List Str} {k : Nat} {sp : Sp} (at_ : At K mg x st)
    (S : FnScope N ps (defScope st)) (len : ∀ vs H Q E, sp vs H Q E → vs.length = ps.length)
    (bd : ∀ (kV doc pm : Value) (an : Option Addr) (cdv ct : Value) (us : List Value), us.length = ps.length →
      bindArgs (PySem.W.fnOf x x (defArgs st) (defBody st) (defScope st) .none kV doc pm an cdv ct) ⟨us, []⟩ = pure (ps.zip us))
    (walk : ∀ (f : Addr) (cdv : Value) (A : Around) (outer : List Env) (s : Shared) (H : Hp) (vs : List V) (Q : VK) (E : XK),
      Room k (A.deeper (envOfC x (defScope st) s.heap.objs.size f cdv)) →
      Quiet (A.deeper (envOfC x (defScope st) s.heap.objs.size f cdv)) → sp vs H Q E →
      ∃ t, PSs (cxOf CX0 P w K mg base N x (defScope st) f cdv A outer s H E).nox (defBody st) t ∧
        t { nx := fun _ H' => Q .non H', rt := Q } (start N vs) H) :
    Has P w K mg base CX0 (k + 1) x st ps sp := by
  obtain ⟨f, fd, F, m⟩ := at_
  exact ⟨f, fd, F, m, FnG.ok F S len (walk f), F.binds bd⟩
theorem Has.mono {CX : CXT} {j k : Nat} {x : Str} {st : Stmt} {ps : List Str} {sp : Sp}
    (h : Has P w K mg base CX j x st ps sp) (hk : j ≤ k) : Has P w K mg base CX k x st ps sp := by
  obtain ⟨f, fd, F, m, G, b⟩ := h
  exact ⟨f, fd, F, m, G.mono hk, b⟩
end

/-- the built-in names that the module does not shadow -/
structure Txt (mg : Str → Option Value) : Prop where
  len : mg "len" = none
  range : mg "range" = none
  repr : mg "repr" = none
  min : mg "min" = none
  max : mg "max" = none
  tint : mg "int" = none
  tlist : mg "list" = none
  ttype : mg "type" = none
  bool : mg "bool" = none
  tuple : mg "tuple" = none
  isinstance : mg "isinstance" = none
  enumerate : mg "enumerate" = none
  tstr : mg "str" = none
  zip : mg "zip" = none
  all : mg "all" = none
  any : mg "any" = none
  sum : mg "sum" = none
  abs : mg "abs" = none
  sorted : mg "sorted" = none
  set : mg "set" = none
  dict : mg "dict" = none
  reversed : mg "reversed" = none
  divmod : mg "divmod" = none

theorem bnot_t {b : Bool} (h : (!b) = true) : b = false := by cases b <;> first | rfl | cases h
theorem bnot_f {b : Bool} (h : ¬ (!b) = true) : b = true := by cases b <;> first | rfl | exact (h rfl).elim
/-! ### what a caller wants -/
/-- a value comes back, nothing that was tracked has changed -/
def RetV (Q : VK) (H : Hp) (v : V) : Prop := ∀ H', Same H H' → Q v H'
/-- a new list comes back -/
def RetL (Q : VK) (H : Hp) (xs : List V) : Prop := ∀ p H', H p = none → Same H H' → H' p = some (.lst xs) → Q (.ref p) H'
/-- ints as values -/
abbrev iv (ns : List Int) : List V := ns.map V.int
theorem iv_at {ns : List Int} {i : Nat} (h : i < ns.length) : (iv ns)[i]? = some (.int (ns.getD i 0)) := by
  rw [List.getElem?_map, List.getElem?_eq_getElem h, List.getD_eq_getElem?_getD, List.getElem?_eq_getElem h]
  rfl
theorem atI_iv {ns : List Int} {z : Int} (h0 : 0 ≤ z) (h : z < ns.length) : atI (iv ns) z = some (.int (ns.getD z.toNat 0)) := by
  have e : z = ((z.toNat : Nat) : Int) := by omega
  rw [e]
  exact atI_nat (iv_at (by omega))
theorem atI_iv_last {ns : List Int} (h : ns ≠ []) : atI (iv ns) (-1) = some (.int (ns.getD (ns.length - 1) 0)) := by
  have hl : 0 < ns.length := List.length_pos_iff.mpr h
  have e : ixN (iv ns).length (-1) = some (ns.length - 1) := by
    unfold ixN
    rw [if_neg (by omega), if_pos (by rw [List.length_map]; omega), List.length_map]
    congr 1
    omega
  unfold atI
  rw [e]
  exact iv_at (by omega)
theorem Same.new {H : Hp} {p : Addr} {o : HO} (h : H p = none) : Same H (upd H p o) := fun b u e => by
  rw [upd_ne (ne_of_none e h)]; exact e
theorem Same.upd_free {H H' : Hp} {p : Addr} {o : HO} (s : Same H H') (h : H p = none) : Same H (upd H' p o) := fun b u e => by
  rw [upd_ne (ne_of_none e h)]; exact s b u e
/-- all that was tracked but what stands at `a` is as it was -/
def SameBut (a : Addr) (H H' : Hp) : Prop := ∀ b o, H b = some o → b ≠ a → H' b = some o
theorem SameBut.refl {a : Addr} {H : Hp} : SameBut a H H := fun _ _ e _ => e
theorem SameBut.trans {a : Addr} {H H1 H2 : Hp} (p : SameBut a H H1) (q : SameBut a H1 H2) : SameBut a H H2 :=
  fun b o e n => q b o (p b o e n) n
theorem SameBut.of {a : Addr} {H H' : Hp} (p : Same H H') : SameBut a H H' := fun b o e _ => p b o e
theorem SameBut.upd {a : Addr} {H H' : Hp} {o : HO} (p : SameBut a H H') : SameBut a H (upd H' a o) := fun b u e n => by
  rw [upd_ne n]; exact p b u e n
theorem SameBut.new {a p : Addr} {H H' : Hp} {o : HO} (s : SameBut a H H') (h : H' p = none) : SameBut a H (L2.upd H' p o) :=
  fun b u e n => by
    have := s b u e n
    rw [upd_ne (ne_of_none this h)]; exact this
end SH

/-! SH3: comprehensions whose turns make nothing, in words of a function of the turn. -/
namespace SH
open PySem PySem.Spec PyProof.Rows L2

/-- len of a list or a tuple, by the written part K -/
def rLenK (K : PySem.W.Frag) : List V → Hp → VK → Prop := fun xs H Q => ∃ p ys, xs = [.ref p] ∧ (SqL K H p ys ∨ SqT K H p ys) ∧ Q (.int ys.length) H
theorem tYes_go {σ : L2.St} {H : Hp} {f g : Hp → Prop} (h : f H) : tYes σ H fun b H3 => if b = true then f H3 else g H3 := by
  show (if true = true then f H else g H)
  rw [if_pos rfl]
  exact h
/-- a if t else b of two ints, the test's answer known as b -/
theorem if_int {b : Bool} {x y : Int} {H : Hp} {A B : TE} {σ : L2.St} {Q : VK} (ha : ∀ Q' : VK, Q' (.int x) H → A σ H Q')
    (hb : ∀ Q' : VK, Q' (.int y) H → B σ H Q') (h : Q (.int (if b = true then x else y)) H) : if b = true then A σ H Q else B σ H Q := by
  cases b with
  | true => rw [if_pos rfl]; exact ha _ (by simpa using h)
  | false => rw [if_neg Bool.false_ne_true]; exact hb _ (by simpa using h)
/-- which turns give, and what -/
def gives (n : Nat) (keep : Nat → Bool) (val : Nat → V) : List V := ((List.range n).filter keep).map val
theorem gives_succ {n : Nat} {keep : Nat → Bool} {val : Nat → V} : gives (n + 1) keep val =
    if keep n = true then gives n keep val ++ [val n] else gives n keep val := by
  unfold gives
  rw [List.range_succ, List.filter_append, List.map_append]
  by_cases h : keep n = true
  · rw [if_pos h, List.filter_cons, if_pos h]
    rfl
  · rw [if_neg h, List.filter_cons, if_neg h]
    exact List.append_nil _
theorem gives_len (n : Nat) (keep : Nat → Bool) (val : Nat → V) : (gives n keep val).length ≤ n := by
  unfold gives
  rw [List.length_map]
  exact Nat.le_trans (List.length_filter_le _ _) (Nat.le_of_eq List.length_range)
theorem gives_all (n : Nat) (val : Nat → V) : gives n (fun _ => true) val = (List.range n).map val := by
  unfold gives
  rw [List.filter_eq_self.mpr (fun _ _ => rfl)]
/-- a new list comes back, nothing else changes -/
def NewL (Q : VK) (H : Hp) (xs : List V) : Prop := ∀ p, H p = none → Q (.ref p) (upd H p (.lst xs))
theorem small_line {n : Nat} (h : n < 100000) : n < sizeLine := Nat.lt_of_lt_of_le h (by decide)

section
variable {tt : TT} {te : TE} {vs : List Nat} {σ : L2.St} {H : Hp} {D : Addr} {Qd : Hp → Prop}
/-- one turn's end -/
theorem lc_turn {n : Nat} {keep : Nat → Bool} {val : Nat → V} {i : Nat} {σ2 : L2.St} (hi : i < n) (hn : n < 100000)
    (ht : ∀ acc Q, Q (keep i) (upd H D (.lst acc)) → tt σ2 (upd H D (.lst acc)) Q)
    (he : ∀ acc Q, keep i = true → Q (val i) (upd H D (.lst acc)) → te σ2 (upd H D (.lst acc)) Q) :
    tt σ2 (upd H D (.lst (gives i keep val))) fun b H3 => if b = true then te σ2 H3 fun y H4 => ∃ acc, H4 D = some (.lst acc) ∧
      acc.length < sizeLine ∧ upd H4 D (.lst (acc ++ [y])) = upd H D (.lst (gives (i + 1) keep val))
      else H3 = upd H D (.lst (gives (i + 1) keep val)) := by
  refine ht _ _ ?_
  by_cases h : keep i = true
  · rw [h]
    refine iteT (he _ _ h ⟨_, upd_same, small_line (by have := gives_len i keep val; omega), ?_⟩)
    rw [upd_upd, gives_succ, if_pos h]
  · have h' : keep i = false := by cases e : keep i <;> simp_all
    rw [h']
    refine iteF ?_
    rw [gives_succ, if_neg h]

theorem lcR {lo : Int} {n j : Nat} (keep : Nat → Bool) (val : Nat → V) (hn : n < 100000)
    (hw : ∀ x, wipe ((wipe σ vs).set j (some x)) vs = wipe σ vs)
    (ht : ∀ i acc Q, i < n → Q (keep i) (upd H D (.lst acc)) → tt ((wipe σ vs).set j (some (.int (lo + (i : Nat))))) (upd H D (.lst acc)) Q)
    (he : ∀ i acc Q, i < n → keep i = true → Q (val i) (upd H D (.lst acc)) → te ((wipe σ vs).set j (some (.int (lo + (i : Nat))))) (upd H D (.lst acc)) Q)
    (hd : Qd (upd H D (.lst (gives n keep val)))) :
    ∃ W : Nat → Nat → Hp → Prop, (∃ m, W 0 m (upd H D (.lst []))) ∧ ∀ i m H, W i m H →
      ((Itr lo n).stop i H ∧ Qd H) ∨ ((Itr lo n).go i H ∧ ∃ Nx : Hp → Prop, (∀ H', Nx H' → ∃ m', m' < m ∧ W (i + 1) m' H') ∧
        ∀ x H', (Itr lo n).yld i H x H' → gName j x (wipe σ vs) H' fun σ2 H2 => wipe σ2 vs = wipe σ vs ∧ tt σ2 H2 fun b H3 =>
          if b = true then te σ2 H3 fun y H4 => ∃ acc, H4 D = some (.lst acc) ∧ acc.length < sizeLine ∧ Nx (upd H4 D (.lst (acc ++ [y]))) else Nx H3) :=
  lc_range (fun i H2 => H2 = upd H D (.lst (gives i keep val))) rfl
    (fun i H2 hi e => by
      subst e
      exact ⟨hw _, lc_turn hi hn (fun acc Q q => ht i acc Q hi q) (fun acc Q k q => he i acc Q hi k q)⟩)
    (fun H2 e => by subst e; exact hd)

theorem lcL {K : PySem.W.Frag} {a : Addr} {xs : List V} {j : Nat} (keep : Nat → Bool) (val : Nat → V) (hx : SqL K H a xs)
    (hD : H D = none) (hn : xs.length < 100000) (hw : ∀ x, wipe ((wipe σ vs).set j (some x)) vs = wipe σ vs)
    (ht : ∀ i x acc Q, xs[i]? = some x → Q (keep i) (upd H D (.lst acc)) → tt ((wipe σ vs).set j (some x)) (upd H D (.lst acc)) Q)
    (he : ∀ i x acc Q, xs[i]? = some x → keep i = true → Q (val i) (upd H D (.lst acc)) → te ((wipe σ vs).set j (some x)) (upd H D (.lst acc)) Q)
    (hd : Qd (upd H D (.lst (gives xs.length keep val)))) :
    ∃ W : Nat → Nat → Hp → Prop, (∃ m, W 0 m (upd H D (.lst []))) ∧ ∀ i m H, W i m H →
      ((Itl K a).stop i H ∧ Qd H) ∨ ((Itl K a).go i H ∧ ∃ Nx : Hp → Prop, (∀ H', Nx H' → ∃ m', m' < m ∧ W (i + 1) m' H') ∧
        ∀ x H', (Itl K a).yld i H x H' → gName j x (wipe σ vs) H' fun σ2 H2 => wipe σ2 vs = wipe σ vs ∧ tt σ2 H2 fun b H3 =>
          if b = true then te σ2 H3 fun y H4 => ∃ acc, H4 D = some (.lst acc) ∧ acc.length < sizeLine ∧ Nx (upd H4 D (.lst (acc ++ [y]))) else Nx H3) :=
  lc_list (xs := xs) (fun i H2 => H2 = upd H D (.lst (gives i keep val))) rfl
    (fun i H2 hi e => by subst e; exact (Same.new hD).seq hx)
    (fun i x H2 hi e => by
      subst e
      exact ⟨hw _, lc_turn (List.getElem?_eq_some_iff.mp hi).1 hn (fun acc Q q => ht i x acc Q hi q) (fun acc Q k q => he i x acc Q hi k q)⟩)
    (fun H2 e => by subst e; exact hd)

/-- [.. for a, b in zip(xs, ys)], the lists of one length: each turn makes one pair, so the heap is told by an invariant -/
theorem lcZ {K : PySem.W.Frag} {a b : Addr} {xs ys : List V} {g : TG} (hl : xs.length = ys.length) (Pv : Nat → Hp → Prop)
    (h0 : Pv 0 (upd H D (.lst []))) (hq : ∀ i H, Pv i H → SqL K H a xs ∧ SqL K H b ys)
    (hs : ∀ i x y T H, xs[i]? = some x → ys[i]? = some y → Pv i H → H T = none → g (.ref T) (wipe σ vs) (upd H T (.tup [x, y])) fun σ2 H2 =>
      wipe σ2 vs = wipe σ vs ∧ tt σ2 H2 fun b H3 => if b = true then te σ2 H3 fun y H4 => ∃ acc, H4 D = some (.lst acc) ∧
        acc.length < sizeLine ∧ Pv (i + 1) (upd H4 D (.lst (acc ++ [y]))) else Pv (i + 1) H3)
    (hd : ∀ H, Pv xs.length H → Qd H) :
    ∃ W : Nat → Nat → Hp → Prop, (∃ m, W 0 m (upd H D (.lst []))) ∧ ∀ i m H, W i m H →
      ((Itz K a b).stop i H ∧ Qd H) ∨ ((Itz K a b).go i H ∧ ∃ Nx : Hp → Prop, (∀ H', Nx H' → ∃ m', m' < m ∧ W (i + 1) m' H') ∧
        ∀ x H', (Itz K a b).yld i H x H' → g x (wipe σ vs) H' fun σ2 H2 => wipe σ2 vs = wipe σ vs ∧ tt σ2 H2 fun b H3 =>
          if b = true then te σ2 H3 fun y H4 => ∃ acc, H4 D = some (.lst acc) ∧ acc.length < sizeLine ∧ Nx (upd H4 D (.lst (acc ++ [y]))) else Nx H3) := by
  refine ⟨fun i m H => m = xs.length - i ∧ i ≤ xs.length ∧ Pv i H, ⟨_, rfl, Nat.zero_le _, h0⟩, ?_⟩
  rintro i m H ⟨rfl, hi, p⟩
  obtain ⟨qx, qy⟩ := hq i H p
  rcases Nat.lt_or_ge i xs.length with lt | ge
  · have ly : i < ys.length := by omega
    refine .inr ⟨⟨xs, ys, xs[i], ys[i], qx, qy, List.getElem?_eq_getElem lt, List.getElem?_eq_getElem ly⟩, Pv (i + 1),
      fun H' p' => ⟨xs.length - (i + 1), by omega, rfl, lt, p'⟩, ?_⟩
    rintro v H' ⟨T, x, y, rfl, hT, rfl, fx, fy⟩
    exact hs i x y T H (fx xs qx) (fy ys qy) p hT
  · obtain rfl : i = xs.length := Nat.le_antisymm hi ge
    exact .inl ⟨⟨xs, ys, qx, qy, .inl (Nat.le_refl _)⟩, hd H p⟩
end
end SH

/-! SH4: how lists of ints are shown, and compared. -/
namespace SH
open PySem PySem.Spec PyProof.Rows L2

/-- a list of ints as data -/
def dI (ns : List Int) : PyData := .list (ns.map PyData.int)
theorem dp_ints {K : PySem.W.Frag} {H : Hp} : ∀ ns : List Int, DpAll K H (iv ns) (ns.map PyData.int)
  | [] => .nil
  | n :: r => .cons (.int n) (dp_ints r)
theorem dp_dI {K : PySem.W.Frag} {H : Hp} {a : Addr} {ns : List Int} (h : SqL K H a (iv ns)) : Dp K H (.ref a) (dI ns) := .lst h (dp_ints ns)
theorem small_log {v : Int} (h : v.natAbs < 2 ^ 64) : v.natAbs.log2 < 1920 := by
  by_cases e : v.natAbs = 0
  · rw [e]; decide
  · have := (Nat.log2_lt e).mpr h
    omega
theorem show_ints : ∀ {ns : List Int}, (∀ v ∈ ns, v.natAbs < 2 ^ 64) → PyData.showableAll (ns.map PyData.int) = true
  | [], _ => rfl
  | n :: r, h => by
    show (decide (n.natAbs.log2 < 1920) && PyData.showableAll (r.map PyData.int)) = true
    rw [decide_eq_true (small_log (h n List.mem_cons_self)), show_ints fun v hv => h v (List.mem_cons_of_mem _ hv)]
    rfl
theorem dict_ints : ∀ ns : List Int, PyData.hasDictAll (ns.map PyData.int) = false
  | [] => rfl
  | n :: r => by
    show (false || PyData.hasDictAll (r.map PyData.int)) = false
    rw [dict_ints r]
    rfl
theorem depth_ints : ∀ ns : List Int, PyData.depthAll (ns.map PyData.int) = 0
  | [] => rfl
  | n :: r => by
    show max 0 (PyData.depthAll (r.map PyData.int)) = 0
    rw [depth_ints r]
    rfl
theorem shownAll_len : ∀ {ns : List Int}, (∀ v ∈ ns, v.natAbs < 2 ^ 64) → ((PyData.shownAll (ns.map PyData.int)).map (·.length)).sum ≤ 1921 * ns.length ∧
    (PyData.shownAll (ns.map PyData.int)).length = ns.length
  | [], _ => ⟨Nat.le_refl _, rfl⟩
  | n :: r, h => by
    obtain ⟨a, b⟩ := shownAll_len (ns := r) fun v hv => h v (List.mem_cons_of_mem _ hv)
    have := int_text_len_1921 (small_log (h n List.mem_cons_self))
    constructor
    · show (PySem.Str.ofString (toString n)).length + ((PyData.shownAll (r.map PyData.int)).map (·.length)).sum ≤ 1921 * (r.length + 1)
      omega
    · show (PyData.shownAll (r.map PyData.int)).length + 1 = r.length + 1
      omega
theorem shows_ints {K : PySem.W.Frag} {H : Hp} {a : Addr} {ns : List Int} (h : SqL K H a (iv ns)) (hl : ns.length ≤ 1000) (hv : ∀ v ∈ ns, v.natAbs < 2 ^ 64) :
    Shows K H (.ref a) (dI ns) := by
  refine ⟨dp_dI h, show_ints hv, dict_ints ns, ?_, ?_⟩
  · show PyData.depthAll (ns.map PyData.int) + 1 ≤ 60
    rw [depth_ints]
    decide
  · show (listText (PyData.shownAll (ns.map PyData.int))).length ≤ sizeLine
    obtain ⟨a, b⟩ := shownAll_len hv
    have := listText_len_le (PyData.shownAll (ns.map PyData.int))
    have e : sizeLine = 16777216 := by decide
    omega
theorem shaped_dI (ns : List Int) : SeqAt.shaped (dI ns) = true := by
  have c : ∀ ms : List Int, PyData.canLayAll0 (ms.map PyData.int) = true := fun ms => by
    induction ms with
    | nil => rfl
    | cons n r ih => show (true && PyData.canLayAll0 (r.map PyData.int)) = true; rw [ih]; rfl
  unfold SeqAt.shaped
  have d : (dI ns).depth = 1 := by show PyData.depthAll (ns.map PyData.int) + 1 = 1; rw [depth_ints]
  rw [d]
  show (PyData.canLayAll0 (ns.map PyData.int) && decide (1 ≤ 64)) = true
  rw [c]
  rfl
theorem eqv_ints : ∀ ns ms : List Int, PyData.eqvAll (ns.map PyData.int) (ms.map PyData.int) = decide (ns = ms)
  | [], [] => rfl
  | [], _ :: _ => rfl
  | _ :: _, [] => rfl
  | n :: r, m :: q => by
    show ((n == m) && PyData.eqvAll (r.map PyData.int) (q.map PyData.int)) = _
    rw [eqv_ints r q, Bool.eq_iff_iff]
    simp
theorem eqv_dI (ns ms : List Int) : PyData.eqv (dI ns) (dI ms) = decide (ns = ms) := eqv_ints ns ms
/-- two lists of ints compared -/
theorem eqD_ints {K : PySem.W.Frag} {H : Hp} {a b : Addr} {ns ms : List Int} {Q : VK} (ha : SqL K H a (iv ns)) (hb : SqL K H b (iv ms))
    (q : Q (.bl (decide (ns = ms))) H) : rEqD K (.ref a) (.ref b) H Q :=
  ⟨dI ns, dI ms, dp_dI ha, dp_dI hb, shaped_dI ns, shaped_dI ms, by rw [eqv_dI]; exact q⟩
theorem neD_ints {K : PySem.W.Frag} {H : Hp} {a b : Addr} {ns ms : List Int} {Q : VK} (ha : SqL K H a (iv ns)) (hb : SqL K H b (iv ms))
    (q : Q (.bl (!decide (ns = ms))) H) : rNeD K (.ref a) (.ref b) H Q :=
  ⟨dI ns, dI ms, dp_dI ha, dp_dI hb, shaped_dI ns, shaped_dI ms, by rw [eqv_dI]; exact q⟩

theorem iv_snoc (ns : List Int) (d : Int) : iv ns ++ [V.int d] = iv (ns ++ [d]) := by
  unfold iv
  rw [List.map_append]
  rfl
theorem getD_all {xs : List Int} {p : Int → Prop} (h : ∀ v ∈ xs, p v) {z : Int} (h0 : 0 ≤ z) (h1 : z < xs.length) : p (xs.getD z.toNat 0) := by
  have hz : z.toNat < xs.length := by omega
  rw [List.getD_eq_getElem?_getD, List.getElem?_eq_getElem hz]
  exact h _ (List.getElem_mem hz)
/-- range as a list of ints -/
def rg (n : Nat) : List Int := (List.range n).map fun (i : Nat) => (i : Int)
theorem rgV_rg (n : Nat) : rgV 0 (n : Int) = iv (rg n) := by
  unfold rgV rg iv
  rw [List.map_map]
  have e : ((n : Int) - 0).toNat = n := by omega
  rw [e]
  refine List.map_congr_left fun i _ => ?_
  show V.int (0 + (i : Int)) = V.int (i : Int)
  rw [Int.zero_add]
theorem iv_rep (n : Nat) (d : Int) : (List.replicate n [V.int d]).flatten = iv (List.replicate n d) := by
  induction n with
  | zero => rfl
  | succ n ih => rw [List.replicate_succ, List.flatten_cons, ih, List.replicate_succ]; rfl
/-- list + list, each read as it stands -/
def rCatS (K : PySem.W.Frag) : R2 := fun x y H Q => ∃ l b xs zs, x = .ref l ∧ y = .ref b ∧ SqL K H l xs ∧ SqL K H b zs ∧ xs.length + zs.length ≤ sizeLine ∧ NewL Q H (xs ++ zs)
theorem op_catS {X : Cx} : OpR X (binaryOp .Add) (rCatS X.K) := by
  intro pins s σ H x y v u Q I rx ry h
  obtain ⟨l, b, xs, zs, rfl, rfl, hx, hy, hz, q⟩ := h
  cases rx
  cases ry
  obtain ⟨its, r, ⟨o, n, ho, hc, hd, ht⟩, _⟩ := I.list hx
  obtain ⟨its2, r2, ⟨o2, n2, ho2, hc2, hd2, ht2⟩, _⟩ := I.list hy
  have e1 := r.length
  have e2 := r2.length
  obtain ⟨oc, od, dt, sl⟩ := o
  obtain ⟨oc2, od2, dt2, sl2⟩ := o2
  simp only at hc hd ht hc2 hd2 ht2
  subst hc hd ht hc2 hd2 ht2
  have ea : its.toArray ++ its2.toArray = (its ++ its2).toArray := by simp
  refine concat_meets ⟨_, ho, rfl⟩ ⟨_, ho2, rfl⟩ noFill_list_add seq_list_add PySem.F.slot_list_add PySem.F.entry_list_add
    (PySem.F.args_list_add_2 _ _) (list_addW l b its.toArray its2.toArray n n2 none none sl sl2 (by simp only [List.size_toArray]; omega)) ⟨ho, ho2, ?_⟩
  rw [ea]
  exact ⟨.ref _, _, I.lnew (t' := s.toks) (r.append r2) (by rw [List.length_append]; omega), rfl, q _ I.fresh⟩
theorem Same.but {a : Addr} {H0 H H' : Hp} (s : Same H0 H) (n : H0 a = none) (b : SameBut a H H') : Same H0 H' := fun c o e =>
  b c o (s c o e) (ne_of_none e n)
end SH

/-! SH5: a list stored into a slice with open bounds (xs[:] = ys, xs[a:] = ys). -/
namespace SH
open PySem PySem.Spec PyProof.Rows L2
section
variable {prog : Program} {w : World} {A : Around} {E : Value → Shared → Prop} {s : Shared}
theorem store_open {tgt src sl : Addr} {old new : Array Value} {n n2 : Nat} {vl vu : Value} {lo hi : Option Int} {Q : Unit → Shared → Prop}
    (eo : s.heap.get? tgt = some { cls := .type "list", data := .seq old n }) (en : s.heap.get? src = some { cls := .type "list", data := .seq new n2 })
    (ne : tgt ≠ src) (isl : s.heap.IsSliceOf sl vl vu .none) (pl : IsPart vl lo) (pu : IsPart vu hi) (small : old.size + new.size ≤ sizeLine)
    (h : Q () { s with heap := s.heap.update tgt (Obj.mapSeq fun xs => xs.extract 0 (HT.sIx old.size 0 lo) ++ new ++ xs.extract (max (HT.sIx old.size 0 lo) (HT.sIx old.size old.size hi)) xs.size) }) :
    wpAny (model prog w) A (setItem (.ref tgt) (.ref sl) (.ref src)) Q E s := by
  obtain ⟨b1, b2, b3⟩ := slice_bounds lo hi old.size
  have isT := PySem.IsL.isList eo
  have isS := PySem.IsL.isList en
  obtain ⟨os, go, co, fo⟩ := id isl
  have tyS : s.TypeIs (.ref sl) "slice" := ⟨os, go, co⟩
  have li := HT.sIx_le old.size 0 (Nat.zero_le _) lo
  have lj := HT.sIx_le old.size old.size (Nat.le_refl _) hi
  have diff : Builtin.List.listSameRef (.ref tgt) (.ref src) = false := by
    unfold Builtin.List.listSameRef; exact beq_eq_false_iff_ne.mpr ne
  generalize HT.sIx old.size 0 lo = i at *
  generalize HT.sIx old.size old.size hi = j at *
  have mx : (max (i : Int) (j : Int)).toNat = max i j := by omega
  have room : ((fun xs : Array Value => xs.extract 0 i ++ new ++ xs.extract (max i j) xs.size) old).size ≤ sizeLine + 1 := by
    simp only [Array.size_append, Array.size_extract]; omega
  unfold setItem
  try with_reducible refine wpAny_holding ?_
  first | refine wpAny_bind (wpAny_pure ?_) | skip
  refine wpAny_bind (wpAny_sequenceKey isT.typeIs (by decide) ?_)
  refine wpAny_bind (wpAny_callSpecial?_slot (name := Str.ofString "__setitem__") isT.typeIs slot_list_setitem (wpAny_call_entry slot_list_setitem isT.typeIs entry_list_setitem ?_ (args_list_setitem _ _ _)))
  show wpAny _ _ (Builtin.List.listSubscript? (.ref sl) >>= _) _ _ s
  refine wpAny_bind ?_
  unfold Builtin.List.listSubscript?
  refine wpAny_bind (wpAny_specialOf tyS slice_no_index ?_)
  simp only [Option.isNone_none, if_true]
  refine wpAny_pure ?_
  show wpAny _ _ (typeOf (.ref sl) >>= _) _ _ s
  refine wpAny_bind (wpAny_typeOf tyS ?_)
  first | rw [if_neg (by decide)] | refine PySem.W.KFB.if_not (by decide) ?_
  rw [listSliceParts_eq]
  refine wpAny_bind (wpAny_bind (wpAny_field go fo (x := .none) rfl (wpAny_bind (wpAny_listPart .none ?_))))
  rw [if_neg (show ¬ ((rawPart none == rawInt 0) = true) from Bool.false_ne_true)]
  refine wpAny_bind (wpAny_field go fo (x := vl) rfl (wpAny_bind (wpAny_listPart pl ?_)))
  refine wpAny_bind (wpAny_field go fo (x := vu) rfl (wpAny_bind (wpAny_listPart pu (wpAny_pure ?_))))
  first
    | simp only [diff, Bool.false_eq_true, if_false]
    | refine PySem.W.KFB.if_not diff ?_
    | (dsimp only; rw [if_neg (by rw [diff]; exact Bool.false_ne_true)])
  refine wpAny_bind (m := Builtin.List.listAllItems (.ref src) "must assign iterable to extended slice") ?_
  unfold Builtin.List.listAllItems
  refine wpAny_bind (wpAny_typeOf isS.typeIs ?_)
  first | refine PySem.W.KFB.if_so (by decide) ?_ | rw [if_pos (by decide)] | simp only [beq_self_eq_true, Bool.true_or, if_true]
  unfold Builtin.List.listItems
  refine wpAny_bind (wpAny_seqItems en rfl (wpAny_pure ?_))
  refine wpAny_bind (wpAny_bind (wpAny_seqItems eo rfl (wpAny_pure ?_)))
  have bb : sliceBounds lo hi none old.size = ((i : Int), (j : Int), 1) := Prod.ext b1 (Prod.ext b2 b3)
  refine wpAny_bind (wpAny_of_eq ((sliceIndices_raw lo hi none old.size (by simp)).trans (congrArg (pure : Int × Int × Int → Sem (Int × Int × Int)) bb)) ?_)
  show wpAny _ _ (if ((1 : Int) == 1) = true then _ else _) _ _ s
  rw [if_pos (by decide)]
  refine wpAny_bind (wpAny_rule ?_)
  first | simp only [notLongL small, Bool.false_eq_true, if_false] | refine PySem.W.KFB.if_not (notLongL small) ?_
  first | refine wpAny_bind (wpAny_pure ?_) | skip
  show wpAny _ _ (updateSeq tgt (fun xs => xs.extract 0 ((i : Int)).toNat ++ new ++ xs.extract (max (i : Int) (j : Int)).toNat xs.size) >>= _) _ _ s
  rw [mx, Int.toNat_natCast]
  refine wpAny_bind (wpAny_updateSeq (hz := Nat.le_trans (Nat.le_add_right _ _) small) (_hz' := room) eo rfl ?_)
  refine wpAny_bind (wpAny_letGo ?_)
  first
    | exact wpAny_bind (wpAny_pure (wpAny_pure ⟨.none, rfl, wpAny_pure h⟩))
    | exact wpAny_pure ⟨.none, rfl, wpAny_pure h⟩
end
/-- ys stored into xs[lo:hi] -/
def rStore : V → Option Int → Option Int → V → Hp → (Hp → Prop) → Prop := fun o lo hi v H Q => ∃ (l b : Addr) (xs ys : List V), o = .ref l ∧ v = .ref b ∧ l ≠ b ∧ H l = some (.lst xs) ∧ H b = some (.lst ys) ∧
  xs.length + ys.length ≤ sizeLine ∧ Q (upd H l (.lst (xs.take (HT.sIx xs.length 0 lo) ++ ys ++ xs.drop (max (HT.sIx xs.length 0 lo) (HT.sIx xs.length xs.length hi)))))
def gStore (to : TE) (tl th : TO) : TG := fun v σ H Q => to σ H fun o H1 => tl σ H1 fun lo H2 => th σ H2 fun hi H3 => rStore o lo hi v H3 fun H4 => Q σ H4
section
variable {X : Cx} {o : Expr} {to : TE} {lo hi : Option Expr} {tl th : TO} {p2 pos : Pos}
theorem pg_store (ho : PE X o to) (hl : PO X lo tl) (hu : PO X hi th)
    (ha : ∀ v, assign (.Subscript o (.Slice lo hi none p2) pos) X.env v = (do
      let ov ← holding [v] (eval o X.env)
      let iv ← holding [v, ov] (eval (.Slice lo hi none p2) X.env)
      standAt pos
      holding [v, ov, iv] (setItem ov iv v)
      release [iv, v, ov] []) := by intro _; rfl) : PG X (.Subscript o (.Slice lo hi none p2) pos) (gStore to tl th) := by
  refine ⟨fun pins s σ H v u Q I r h => ?_⟩
  rw [ha]
  refine wpAny_bind (wpAny_holding (thn (ho.run pins s σ H _ I h) fun ov s1 ⟨x, H1, I1, r1, q1⟩ => ?_))
  refine wpAny_bind (wpAny_holding (wpAny_Slice (thn (hl.run pins s1 σ H1 _ I1 q1) fun vl s2 ⟨l, H2, I2, pl, q2⟩ => thn (hu.run pins s2 σ H2 _ I2 q2) fun vu s3 ⟨u', H3, I3, pu, q3⟩ => ?_)))
  rw [evalPart_none]
  refine wpAny_pure ?_
  have I4 : Inv X pins σ H3 { s3 with heap := s3.heap.push { cls := .type "slice", data := .fields #[vl, vu, .none] } } := I3.kept (t' := s3.toks) fun b ob q => Heap.get?_push_of_some _ q
  refine wpAny_bind (wpAny_standAt (wpAny_bind (wpAny_holding ?_)))
  obtain ⟨a, b, xs, ys, rfl, rfl, ne, ea, eb, sm, q⟩ := q3
  cases r1
  cases r
  obtain ⟨z, its, n, rr, hl1, e⟩ := I4.lstM ea
  obtain ⟨z2, its2, n2, rr2, hl2, e2⟩ := I4.lstM eb
  have k1 := rr.length
  have k2 := rr2.length
  refine store_open e e2 ne (Heap.IsSliceOf.new ..) pl pu (by rw [List.size_toArray, List.size_toArray]; omega) ?_
  refine wpAny_release ⟨σ, _, ?_, q⟩
  rw [List.size_toArray, ← k1]
  refine I4.lset (its' := its.take (HT.sIx xs.length 0 l) ++ its2 ++ its.drop (max (HT.sIx xs.length 0 l) (HT.sIx xs.length xs.length u'))) (t' := _) ea e ?_ (Vals.append (Vals.append (rr.take _) rr2) (rr.drop _)) ?_
  · exact splice_eq its its2 _ _
  · rw [List.length_append, List.length_append, List.length_take, List.length_drop]
    omega
end
end SH

/-! SH6: comprehensions over enumerate and lists whose turns change nothing that is tracked. -/
namespace SH
open PySem PySem.Spec PyProof.Rows L2
theorem if_any {b : Bool} {A B : TE} {σ : L2.St} {H : Hp} {Q : VK} (Inv : V → Hp → Prop) (ha : b = true → ∀ Q' : VK, (∀ v H', Inv v H' → Q' v H') → A σ H Q')
    (hb : b = false → ∀ Q' : VK, (∀ v H', Inv v H' → Q' v H') → B σ H Q') (h : ∀ v H', Inv v H' → Q v H') : if b = true then A σ H Q else B σ H Q := by
  cases b with
  | true => rw [if_pos rfl]; exact ha rfl Q h
  | false => rw [if_neg Bool.false_ne_true]; exact hb rfl Q h
theorem Same.at {H H' : Hp} {a : Addr} {o : HO} (s : Same H H') (n : H a = none) : Same H (upd H' a o) := fun b u e => by
  rw [upd_ne (ne_of_none e n)]; exact s b u e
theorem while_cut {tc : TT} {tb : TS} {D : Ends} {σ : L2.St} {H : Hp} (Exit : L2.St → Hp → Prop) (main : ∀ σ' H', Exit σ' H' → D.nx σ' H')
    (h : (∀ σ' H', Exit σ' H' → D.nx σ' H') → tWhile tc tb D σ H) : tWhile tc tb D σ H := h main
section
variable {K : PySem.W.Frag} {tt : TT} {te : TE} {vs : List Nat} {σ : L2.St} {H : Hp} {D : Addr} {Qd : Hp → Prop}
/-- a turn's end, the heap told by Same -/
theorem lc_turnS {n : Nat} {keep : Nat → Bool} {val : Nat → V} {i : Nat} {σ2 : L2.St} {H2 : Hp} (hD : H D = none) (hi : i < n) (hn : n < 100000) (s2 : Same H H2)
    (h2 : H2 D = some (.lst (gives i keep val)))
    (ht : ∀ Q : Bool → Hp → Prop, (∀ H3, Same H2 H3 → Q (keep i) H3) → tt σ2 H2 Q)
    (he : ∀ H3, Same H2 H3 → ∀ Q : VK, keep i = true → (∀ H4, Same H3 H4 → Q (val i) H4) → te σ2 H3 Q) :
    tt σ2 H2 fun b H3 => if b = true then te σ2 H3 fun y H4 => ∃ acc, H4 D = some (.lst acc) ∧ acc.length < sizeLine ∧
      (Same H (upd H4 D (.lst (acc ++ [y]))) ∧ (upd H4 D (.lst (acc ++ [y]))) D = some (.lst (gives (i + 1) keep val)))
      else (Same H H3 ∧ H3 D = some (.lst (gives (i + 1) keep val))) := by
  refine ht _ fun H3 s3 => ?_
  by_cases h : keep i = true
  · rw [h]
    refine iteT (he H3 s3 _ h fun H4 s4 => ⟨_, s4 _ _ (s3 _ _ h2), small_line (by have := gives_len i keep val; omega), Same.at ((s2.trans s3).trans s4) hD, ?_⟩)
    rw [upd_same, gives_succ, if_pos h]
  · have h' : keep i = false := by cases e : keep i <;> simp_all
    rw [h']
    refine iteF ⟨s2.trans s3, ?_⟩
    rw [gives_succ, if_neg h]
    exact s3 _ _ h2
/-- [.. for i, x in enumerate(xs) ..] -/
theorem lcEn {a : Addr} {xs : List V} {j1 j2 : Nat} (keep : Nat → Bool) (val : Nat → V) (hx : SqL K H a xs) (hD : H D = none) (hn : xs.length < 100000)
    (hw : ∀ x y, wipe (((wipe σ vs).set j1 (some x)).set j2 (some y)) vs = wipe σ vs)
    (ht : ∀ i x H2 (Q : Bool → Hp → Prop), xs[i]? = some x → Same H H2 → (∀ H3, Same H2 H3 → Q (keep i) H3) → tt (((wipe σ vs).set j1 (some (.int (i : Nat)))).set j2 (some x)) H2 Q)
    (he : ∀ i x H2 (Q : VK), xs[i]? = some x → keep i = true → Same H H2 → (∀ H3, Same H2 H3 → Q (val i) H3) → te (((wipe σ vs).set j1 (some (.int (i : Nat)))).set j2 (some x)) H2 Q)
    (hd : ∀ H', Same H H' → H' D = some (.lst (gives xs.length keep val)) → Qd H') :
    ∃ W : Nat → Nat → Hp → Prop, (∃ m, W 0 m (upd H D (.lst []))) ∧ ∀ i m H, W i m H →
      ((Ite K a).stop i H ∧ Qd H) ∨ ((Ite K a).go i H ∧ ∃ Nx : Hp → Prop, (∀ H', Nx H' → ∃ m', m' < m ∧ W (i + 1) m' H') ∧
        ∀ x H', (Ite K a).yld i H x H' → gTup K 2 (gCons (gName j1) (gCons (gName j2) gNil)) x (wipe σ vs) H' fun σ2 H2 => wipe σ2 vs = wipe σ vs ∧ tt σ2 H2 fun b H3 =>
          if b = true then te σ2 H3 fun y H4 => ∃ acc, H4 D = some (.lst acc) ∧ acc.length < sizeLine ∧ Nx (upd H4 D (.lst (acc ++ [y]))) else Nx H3) := by
  refine ⟨fun i m H' => m = xs.length - i ∧ i ≤ xs.length ∧ Same H H' ∧ H' D = some (.lst (gives i keep val)), ⟨_, rfl, Nat.zero_le _, Same.new hD, upd_same⟩, ?_⟩
  rintro i m H2 ⟨rfl, hi, s2, h2⟩
  have hq := s2.seq hx
  rcases Nat.lt_or_ge i xs.length with lt | ge
  · refine .inr ⟨⟨xs, xs[i], hq, List.getElem?_eq_getElem lt⟩, fun H' => Same H H' ∧ H' D = some (.lst (gives (i + 1) keep val)), fun H' p' => ⟨xs.length - (i + 1), by omega, rfl, lt, p'.1, p'.2⟩, ?_⟩
    rintro v H' ⟨T, x, rfl, hT, rfl, f⟩
    have sT : Same H (upd H2 T (.tup [.int (i : Nat), x])) := s2.trans (Same.new hT)
    have hTD := Same.new (o := .tup [.int (i : Nat), x]) hT _ _ h2
    refine ⟨T, _, rfl, SqT.of upd_same, rfl, _, _, rfl, _, _, rfl, rfl, hw _ _, ?_⟩
    exact lc_turnS hD lt hn sT hTD (fun Q q => ht i x _ Q (f xs hq) sT q) (fun H3 s3 Q k q => he i x H3 Q (f xs hq) k (sT.trans s3) q)
  · obtain rfl : i = xs.length := Nat.le_antisymm hi ge
    exact .inl ⟨⟨xs, hq, Nat.le_refl _⟩, hd H2 s2 h2⟩
/-- [.. for x in xs ..] whose turns may make things -/
theorem lcLn {a : Addr} {xs : List V} {j : Nat} (keep : Nat → Bool) (val : Nat → V) (hx : SqL K H a xs) (hD : H D = none) (hn : xs.length < 100000)
    (hw : ∀ x, wipe ((wipe σ vs).set j (some x)) vs = wipe σ vs)
    (ht : ∀ i x H2 (Q : Bool → Hp → Prop), xs[i]? = some x → Same H H2 → (∀ H3, Same H2 H3 → Q (keep i) H3) → tt ((wipe σ vs).set j (some x)) H2 Q)
    (he : ∀ i x H2 (Q : VK), xs[i]? = some x → keep i = true → Same H H2 → (∀ H3, Same H2 H3 → Q (val i) H3) → te ((wipe σ vs).set j (some x)) H2 Q)
    (hd : ∀ H', Same H H' → H' D = some (.lst (gives xs.length keep val)) → Qd H') :
    ∃ W : Nat → Nat → Hp → Prop, (∃ m, W 0 m (upd H D (.lst []))) ∧ ∀ i m H, W i m H →
      ((Itl K a).stop i H ∧ Qd H) ∨ ((Itl K a).go i H ∧ ∃ Nx : Hp → Prop, (∀ H', Nx H' → ∃ m', m' < m ∧ W (i + 1) m' H') ∧
        ∀ x H', (Itl K a).yld i H x H' → gName j x (wipe σ vs) H' fun σ2 H2 => wipe σ2 vs = wipe σ vs ∧ tt σ2 H2 fun b H3 =>
          if b = true then te σ2 H3 fun y H4 => ∃ acc, H4 D = some (.lst acc) ∧ acc.length < sizeLine ∧ Nx (upd H4 D (.lst (acc ++ [y]))) else Nx H3) :=
  lc_list (xs := xs) (fun i H2 => Same H H2 ∧ H2 D = some (.lst (gives i keep val))) ⟨Same.new hD, upd_same⟩
    (fun i H2 hi e => e.1.seq hx)
    (fun i x H2 hi e => ⟨hw _, lc_turnS hD (List.getElem?_eq_some_iff.mp hi).1 hn e.1 e.2 (fun Q q => ht i x H2 Q hi e.1 q) (fun H3 s3 Q k q => he i x H3 Q hi k (e.1.trans s3) q)⟩)
    (fun H2 e => hd H2 e.1 e.2)
/-- [.. for i in range(lo, lo + n) ..] whose turns may make things -/
theorem lcRn {lo : Int} {n j : Nat} (keep : Nat → Bool) (val : Nat → V) (hD : H D = none) (hn : n < 100000)
    (hw : ∀ x, wipe ((wipe σ vs).set j (some x)) vs = wipe σ vs)
    (ht : ∀ i H2 (Q : Bool → Hp → Prop), i < n → Same H H2 → (∀ H3, Same H2 H3 → Q (keep i) H3) → tt ((wipe σ vs).set j (some (.int (lo + (i : Nat))))) H2 Q)
    (he : ∀ i H2 (Q : VK), i < n → keep i = true → Same H H2 → (∀ H3, Same H2 H3 → Q (val i) H3) → te ((wipe σ vs).set j (some (.int (lo + (i : Nat))))) H2 Q)
    (hd : ∀ H', Same H H' → H' D = some (.lst (gives n keep val)) → Qd H') :
    ∃ W : Nat → Nat → Hp → Prop, (∃ m, W 0 m (upd H D (.lst []))) ∧ ∀ i m H, W i m H →
      ((Itr lo n).stop i H ∧ Qd H) ∨ ((Itr lo n).go i H ∧ ∃ Nx : Hp → Prop, (∀ H', Nx H' → ∃ m', m' < m ∧ W (i + 1) m' H') ∧
        ∀ x H', (Itr lo n).yld i H x H' → gName j x (wipe σ vs) H' fun σ2 H2 => wipe σ2 vs = wipe σ vs ∧ tt σ2 H2 fun b H3 =>
          if b = true then te σ2 H3 fun y H4 => ∃ acc, H4 D = some (.lst acc) ∧ acc.length < sizeLine ∧ Nx (upd H4 D (.lst (acc ++ [y]))) else Nx H3) :=
  lc_range (fun i H2 => Same H H2 ∧ H2 D = some (.lst (gives i keep val))) ⟨Same.new hD, upd_same⟩
    (fun i H2 hi e => ⟨hw _, lc_turnS hD hi hn e.1 e.2 (fun Q q => ht i H2 Q hi e.1 q) (fun H3 s3 Q k q => he i H3 Q hi k (e.1.trans s3) q)⟩)
    (fun H2 e => hd H2 e.1 e.2)
/-- [.. for a, b in zip(xs, ys) ..], lists of any lengths, whose turns may make things -/
theorem lcZn {a b : Addr} {xs ys : List V} {j1 j2 : Nat} (keep : Nat → Bool) (val : Nat → V) (hx : SqL K H a xs) (hy : SqL K H b ys) (hD : H D = none) (hn : xs.length < 100000)
    (hw : ∀ x y, wipe (((wipe σ vs).set j1 (some x)).set j2 (some y)) vs = wipe σ vs)
    (ht : ∀ i x y H2 (Q : Bool → Hp → Prop), xs[i]? = some x → ys[i]? = some y → Same H H2 → (∀ H3, Same H2 H3 → Q (keep i) H3) → tt (((wipe σ vs).set j1 (some x)).set j2 (some y)) H2 Q)
    (he : ∀ i x y H2 (Q : VK), xs[i]? = some x → ys[i]? = some y → keep i = true → Same H H2 → (∀ H3, Same H2 H3 → Q (val i) H3) → te (((wipe σ vs).set j1 (some x)).set j2 (some y)) H2 Q)
    (hd : ∀ H', Same H H' → H' D = some (.lst (gives (min xs.length ys.length) keep val)) → Qd H') :
    ∃ W : Nat → Nat → Hp → Prop, (∃ m, W 0 m (upd H D (.lst []))) ∧ ∀ i m H, W i m H →
      ((Itz K a b).stop i H ∧ Qd H) ∨ ((Itz K a b).go i H ∧ ∃ Nx : Hp → Prop, (∀ H', Nx H' → ∃ m', m' < m ∧ W (i + 1) m' H') ∧
        ∀ x H', (Itz K a b).yld i H x H' → gTup K 2 (gCons (gName j1) (gCons (gName j2) gNil)) x (wipe σ vs) H' fun σ2 H2 => wipe σ2 vs = wipe σ vs ∧ tt σ2 H2 fun b H3 =>
          if b = true then te σ2 H3 fun y H4 => ∃ acc, H4 D = some (.lst acc) ∧ acc.length < sizeLine ∧ Nx (upd H4 D (.lst (acc ++ [y]))) else Nx H3) := by
  refine ⟨fun i m H' => m = min xs.length ys.length - i ∧ i ≤ min xs.length ys.length ∧ Same H H' ∧ H' D = some (.lst (gives i keep val)), ⟨_, rfl, Nat.zero_le _, Same.new hD, upd_same⟩, ?_⟩
  rintro i m H2 ⟨rfl, hi, s2, h2⟩
  have qx := s2.seq hx
  have qy := s2.seq hy
  rcases Nat.lt_or_ge i (min xs.length ys.length) with lt | ge
  · have lx : i < xs.length := by omega
    have ly : i < ys.length := by omega
    refine .inr ⟨⟨xs, ys, xs[i], ys[i], qx, qy, List.getElem?_eq_getElem lx, List.getElem?_eq_getElem ly⟩, fun H' => Same H H' ∧ H' D = some (.lst (gives (i + 1) keep val)),
      fun H' p' => ⟨min xs.length ys.length - (i + 1), by omega, rfl, lt, p'.1, p'.2⟩, ?_⟩
    rintro v H' ⟨T, x, y, rfl, hT, rfl, fx, fy⟩
    have sT : Same H (upd H2 T (.tup [x, y])) := s2.trans (Same.new hT)
    have hTD := Same.new (o := .tup [x, y]) hT _ _ h2
    refine ⟨T, _, rfl, SqT.of upd_same, rfl, _, _, rfl, _, _, rfl, rfl, hw _ _, ?_⟩
    exact lc_turnS hD lx hn sT hTD (fun Q q => ht i x y _ Q (fx xs qx) (fy ys qy) sT q) (fun H3 s3 Q k q => he i x y H3 Q (fx xs qx) (fy ys qy) k (sT.trans s3) q)
  · obtain rfl : i = min xs.length ys.length := Nat.le_antisymm hi ge
    refine .inl ⟨⟨xs, ys, qx, qy, ?_⟩, hd H2 s2 h2⟩
    rcases Nat.le_total xs.length ys.length with c | c
    · exact .inl (by omega)
    · exact .inr (by omega)
end
end SH

/-! SH7: set(xs) of a list of hin, and sorted of such a set, any number of members below the table's bound. -/
namespace SH
open PySem PySem.Spec PyProof.Rows L2
/-- the object that set() makes -/
abbrev setO0 (w : World) : Obj :=
  { cls := .type "set", dict := none, data := .set #[] 0 (.fresh 0 0 (!w.params.followText "set-order")) }
section
variable {P : Program} {w : World} {A : Around} {E : Value → Shared → Prop} {s : Shared}
set_option maxHeartbeats 3200000 in
theorem set_of_list {l : Addr} {xs : Array Value} (ns : List Int) {Q : Value → Shared → Prop} (calm : A.handled = none)
    (isl : s.heap.IsList l xs) (hin : IntsAre xs.toList ns) (few : ns.length + 1 < scanBound)
    (h : ∀ (g : Heap) (tk c : Nat), SetR w g s.heap.objs.size (fun j => decide (j ∈ ns)) c → c ≤ ns.length →
      (∀ b o, s.heap.get? b = some o → g.get? b = some o) →
      Q (.ref s.heap.objs.size) { s with heap := g, toks := tk }) :
    wpAny (model P w) A (call (.type "set") [.ref l]) Q E s := by
  have size : xs.size = ns.length := by rw [← Array.length_toList]; exact IntsAre.length hin
  obtain ⟨_, _, m1⟩ := F.called_set.mro
  have m2 := F.called_set.made
  have m3 := F.called_set.sub
  refine wpAny_call (codeAny_of_tree (show wpAny _ _ (callAny (.type "set") _) _ _ _ from ?_))
  refine wpAny_pure ⟨Code.quiet_builtin _ (by decide +kernel),
    codeAny_builtin F.entry_type_call ?_⟩
  rw [Around.under_plain (weight_type_call_type "set"
    [.ref l] []) rfl]
  have m4 := F.called_set.notType
  have m5 := F.called_set.canCreate
  have m6 := F.typeCall_set_1 (.ref l)
  repeat (any_goals (first | wp_step | assumption))
  refine codeAny_mono (code_set_led1 (.ref l) (E := E)
    (Q₁ := fun ob t => ob = .ref s.heap.objs.size ∧ t = { s with heap := s.heap.push (setO0 w) }) ⟨rfl, rfl⟩)
    fun res t made => ?_
  cases res with
  | error e => exact made
  | ok fl =>
  cases fl with
  | ret ob =>
    obtain ⟨rfl, rfl⟩ := made
    have at0 : (s.heap.push (setO0 w)).get? s.heap.objs.size = some (setO0 w) := Heap.get?_push_size _ rfl
    have ty0 : Shared.TypeIs { s with heap := s.heap.push (setO0 w) } (.ref s.heap.objs.size) "set" := ⟨_, at0, rfl⟩
    have m7 := F.called_set.init.lookup
    have m8 := F.called_set.init.bind (.ref s.heap.objs.size)
    repeat (any_goals (first | wp_step | assumption))
    refine codeAny_mono (codeAny_call_builtin (R := wants (fun r t => r = .none ∧ ∃ g tk c, t = { s with heap := g, toks := tk } ∧
        SetR w g s.heap.objs.size (fun j => decide (j ∈ ns)) c ∧ c ≤ ns.length ∧ ∀ b o, s.heap.get? b = some o → g.get? b = some o) E)
      F.called_set.init.plain F.entry_set_init (check_set_init_1 ty0 ?_)) fun res2 t2 done => ?_
    · obtain ⟨ol, lk, cl, en, dl⟩ := isl
      obtain ⟨c1, d1, x1, sl1⟩ := ol
      simp only at cl dl
      subst cl dl
      have lk' : (s.heap.push (setO0 w)).get? l = some { cls := .type "list", dict := d1, data := .seq xs en, slots := sl1 } :=
        Heap.get?_push_of_some _ lk
      have u1 := F.sub_list_set
      have u2 := F.sub_list_frozenset
      have u3 : (Value.type "list" == Value.type "dict") = false := by decide
      have isl1 : (s.heap.push (setO0 w)).IsList l xs := ⟨_, lk', rfl, en, rfl⟩
      unfold Builtin.«set.__init__» noKeywords
      unfold Builtin.Frozenset.updateFrom
      generalize iterE : pyIter = itf
      wp_walk
      subst iterE
      refine wpAny_pyIter_list isl1 (wpAny_bind (wpAny_runValue ?_))
      have lt : l < s.heap.objs.size := Heap.lt_size lk
      have calm3 : A.in1.in1.in1.handled = none := by simp [calm]
      have sz : (s.heap.push (setO0 w)).objs.size = s.heap.objs.size + 1 := Heap.size_push ..
      have ne1 : l ≠ (s.heap.push (setO0 w)).objs.size := by rw [sz]; exact Nat.ne_of_lt (Nat.lt_succ_of_lt lt)
      have ne2 : s.heap.objs.size ∉ [(s.heap.push (setO0 w)).objs.size, l] := by
        rw [sz]
        simp only [List.mem_cons, List.not_mem_nil, or_false, not_or]
        exact ⟨Nat.ne_of_lt (Nat.lt_succ_self _), Ne.symm (Nat.ne_of_lt lt)⟩
      have vals : ∀ (i : Nat) (v : Value), xs[i]? = some v → ∃ k t, ns[i]? = some k ∧ v = .int k t := fun i v e => by
        have il : i < ns.length := by rw [← size]; exact (Array.getElem?_eq_some_iff.mp e).1
        obtain ⟨t, et⟩ := IntsAre.int_at hin i v (by rw [Array.getElem?_toList]; exact e)
        refine ⟨ns.getD i 0, t, ?_, et⟩
        rw [List.getD_eq_getElem?_getD, List.getElem?_eq_getElem il]
        rfl
      refine set_update_ints ((Walks.list calm3 _ l ne1 xs).toS) s.heap.objs.size ne2 ns size few vals (xs.size - 0) 0 _ (by omega)
        (Nat.zero_le _) ⟨⟨_, Heap.get?_push_size _ rfl, rfl, rfl⟩, isl1.push _⟩ ⟨0, Nat.le_refl 0, ?_⟩ ?_
      · exact setR_new_at (Heap.get?_push_of_some _ at0)
      · intro t c mv cl1 R
        obtain ⟨g, gens, drawn, tk, os⟩ := t
        obtain rfl : gens = s.gens := mv.gens
        obtain rfl : drawn = s.drawn := mv.drawn
        obtain rfl : os = s.os := mv.os
        refine wpAny_pure (show wpAny _ _ (ret Value.none) _ _ _ from ?_)
        rw [size] at cl1
        refine wpAny_pure ⟨rfl, g, tk, c, rfl, R, cl1, fun b o e => mv.heap b o ?_ ?_⟩
        · have lb : b < s.heap.objs.size := Heap.lt_size e
          rw [sz]
          simp only [List.mem_cons, List.not_mem_nil, or_false, not_or]
          exact ⟨Nat.ne_of_lt lb, Nat.ne_of_lt (Nat.lt_succ_of_lt lb)⟩
        · exact Heap.get?_push_of_some _ (Heap.get?_push_of_some _ e)
    · cases res2 with
      | error e => exact done
      | ok fl2 =>
      cases fl2 with
      | ret r =>
        obtain ⟨rfl, g, tk, c, rfl, R, cl1, kp⟩ := done
        repeat (any_goals (first | wp_step | assumption))
        exact h _ _ _ R cl1 kp
      | _ => exact done.elim
  | _ => exact made.elim
theorem set_sorted {a : Addr} {S : Int → Bool} {n : Nat} {Q : Value → Shared → Prop} (R : SetR w s.heap a S n) (calm : A.handled = none)
    (h : ∀ t p (out : Array Value) (c : Nat) (ns : List Int), (∀ b o, s.heap.get? b = some o → t.heap.get? b = some o) → t.gens = s.gens → t.os = s.os →
      s.heap.objs.size ≤ p → t.heap.get? p = some (seqObj "list" out c) → IntsAre out.toList ns → ns.Pairwise (· < ·) →
      (∀ k, k ∈ ns ↔ S k = true) → ns.length = n → Q (.ref p) t) :
    wpAny (model P w) A (call (.builtin "sorted") [.ref a]) Q E s := by
  obtain ⟨ob, es, ep, tb, look, exact', dat, good, dis, mem, bnd, fits, cnt, ris, led⟩ := R
  refine Calls.call_function_entry kind_sorted plain_sorted entry_sorted (args_sorted1 _) ?_
  unfold Builtin.«sorted»
  refine wpAny_bind (m := checkCount "sorted" 1 1 _) (wpAny_pure (wpAny_bind (collect_set (A := A.in1) calm ⟨ob, look, exact'.1, dat⟩ fits bnd ris led
    fun t1 vs kp grow gn osn perm => ?_)))
  have lenV : vs.length = n := by rw [perm.length_eq, List.length_map, Array.length_toList]; exact cnt
  have intsV : IntsAre vs (vs.map Builtin.Re.reRawOf) := ints_of vs fun v hv => by
    obtain ⟨e, he, rfl⟩ := List.mem_map.mp (perm.mem_iff.mp hv)
    obtain ⟨k, tk, x, _⟩ := good e he
    exact ⟨k, tk, x⟩
  have permK : (vs.map Builtin.Re.reRawOf).Perm (es.toList.map keyOf) := by
    have := perm.map Builtin.Re.reRawOf
    rwa [List.map_map] at this
  have small : vs.length ≤ sizeLine := by
    have : scanBound = 4096 := rfl
    rw [lenV, sizeLine_eq]
    omega
  refine wpAny_bind (wpAny_newList ?_ small)
  have look2 : (t1.heap.push (seqObj "list" vs.toArray 0)).get? t1.heap.objs.size = some (seqObj "list" vs.toArray 0) :=
    Heap.get?_push_size _ rfl
  refine wpAny_bind (wpAny_holding (wpAny_call_entry slot_list_sort ⟨_, look2, rfl⟩ entry_list_sort
    (SrtO.list_sort_ord SrtO.swo_int look2 small (fun two => SrtO.ints_sortable intsV two) fun out o1 o2 => ⟨_, rfl, ?_⟩) (args_list_sort _)))
  obtain ⟨k1, k2, k3⟩ := SrtO.ints_out intsV o1 o2
  obtain ⟨c, ec⟩ := sortedHeap_at (vs := vs) (out := out.toArray) look2
  have pn : (out.map SrtO.iv).Perm (es.toList.map keyOf) := k2.trans permK
  refine wpAny_pure ⟨_, rfl, h _ t1.heap.objs.size out.toArray c (out.map SrtO.iv) (fun b u e => ?_) gn osn grow ec k1
    (lt_of_le_nodup _ k3 (pn.nodup_iff.mpr dis)) (fun k => by rw [pn.mem_iff, ← mem k]) ?_⟩
  · have e1 := kp b u e
    have lb : b < t1.heap.objs.size := Heap.lt_size e1
    have lb2 : b ≠ t1.heap.objs.size := Nat.ne_of_lt lb
    show (sortedHeap (t1.heap.push (seqObj "list" vs.toArray 0)) t1.heap.objs.size vs out.toArray).get? b = some u
    rw [sortedHeap_old lb2 (by rw [size_push']; exact Nat.lt_succ_of_lt lb)]
    exact Heap.get?_push_of_some _ e1
  · rw [pn.length_eq, List.length_map, Array.length_toList]
    exact cnt
end
/-- set(xs) -/
def rSetOfI (K : PySem.W.Frag) (w : World) : List V → Hp → VK → Prop := fun xs H Q => ∃ (l : Addr) (ns : List Int), xs = [.ref l] ∧ SqL K H l (iv ns) ∧ ns.length < 4000 ∧
  ∀ a n, H a = none → n ≤ ns.length → Q (.ref a) (upd H a (SetO w a (fun j => decide (j ∈ ns)) n))
theorem cr_setOfI {X : Cx} (hc : X.calm = true) : CallR X (.type "set") (rSetOfI X.K X.w) := by
  intro pins s σ H xs us Q I r h
  obtain ⟨l, ns, rfl, hl, hf, q⟩ := h
  rw [Vals.ref1 r]
  obtain ⟨its, rv, pl, hz⟩ := I.list hl
  have hn : H s.heap.objs.size = none := I.hok.fresh (Nat.le_refl _)
  refine set_of_list (P := X.prog) (w := X.w) ns (I.ok.hd hc) pl.isList (by simpa using ints_of_vals rv) (by have : scanBound = 4096 := rfl; omega) fun g tk c R cl kp => ?_
  exact ⟨.ref s.heap.objs.size, upd H s.heap.objs.size (SetO X.w s.heap.objs.size (fun j => decide (j ∈ ns)) c), I.laid (t' := tk) kp (Nat.le_refl _) (setO_new R), rfl, q _ c hn cl⟩
/-- sorted(found), any number of members -/
def rSortedN (w : World) : List V → Hp → VK → Prop := fun vs H Q => ∃ (a : Addr) (S : Int → Bool) (n : Nat), vs = [V.ref a] ∧ H a = some (SetO w a S n) ∧
  ∀ (ns : List Int) (p : Addr), ns.Pairwise (· < ·) → (∀ k : Int, k ∈ ns ↔ S k = true) → ns.length = n → H p = none → Q (.ref p) (upd H p (.lst (iv ns)))
theorem cr_sortedN {X : Cx} (hc : X.calm = true) : CallR X (.builtin "sorted") (rSortedN X.w) := by
  intro pins s σ H vs us Q I r h
  obtain ⟨a, S, n, rfl, ha, q⟩ := h
  have R := setO_get I ha
  rw [Vals.ref1 r]
  have nb : n < scanBound := by obtain ⟨_, es, _, _, _, _, _, _, _, _, b, _, e, _⟩ := R; omega
  refine set_sorted R (I.ok.hd hc) fun t p out c ns kp gn osn hp look hin asc mem len => ?_
  have small : (iv ns).length ≤ sizeLine := by
    have : scanBound = 4096 := rfl
    rw [List.length_map, len, sizeLine_eq]
    omega
  have hn : H p = none := I.hok.fresh hp
  have J : Inv X pins σ (upd H p (.lst (iv ns))) { s with heap := t.heap, gens := t.gens, drawn := t.drawn, toks := t.toks } :=
    I.call (ch := []) (Un.laid kp hp hn) (I.hok.laid kp hp ⟨small, out.toList, c, vals_of_ints hin, look⟩)
      (by rw [gn]; exact I.bare) (fun _ z => nomatch z)
  have e : t = { s with heap := t.heap, gens := t.gens, drawn := t.drawn, toks := t.toks } := by
    cases t; cases s; cases osn; rfl
  rw [e]
  exact ⟨.ref p, _, J, rfl, q ns p asc mem len hn⟩
end SH

/-! SH8: sorted(xs) of a list of ints, any length below 4000. -/
namespace SH
open PySem PySem.Spec PyProof.Rows L2
def rSortedAny (K : PySem.W.Frag) : List V → Hp → VK → Prop := fun vs H Q => ∃ (a : Addr) (ns : List Int), vs = [V.ref a] ∧ SqL K H a (ns.map V.int) ∧ ns.length < 4000 ∧
  ∀ (ns' : List Int) (p : Addr), ns'.Perm ns → ns'.Pairwise (· ≤ ·) → H p = none → Q (.ref p) (upd H p (.lst (ns'.map V.int)))
section
variable {X : Cx}
theorem cr_sortedAny : CallR X (.builtin "sorted") (rSortedAny X.K) := by
  intro pins s σ H vs us Q I r h
  obtain ⟨a, ns, rfl, hs, h64, q⟩ := h
  obtain ⟨its, rv, hl, _⟩ := I.list hs
  rw [Vals.ref1 r]
  have hi := rv.ints
  have hb : its.length ≤ sizeLine := by rw [hi.length, sizeLine_eq]; omega
  refine PyProof.Rows.sorted_intsAny hl.isList hi hb fun out ns' h1 h2 h3 => ?_
  obtain ⟨ep, he'⟩ := PyProof.Rows.sortedAll_at s.heap its out
  have hlen : (ns'.map V.int).length ≤ sizeLine := by rw [List.length_map, h2.length_eq, sizeLine_eq]; omega
  exact ⟨.ref _, upd H (s.heap.objs.size + 1) (.lst (ns'.map V.int)), I.laid (t' := s.toks) (fun _ _ => PyProof.Rows.sortedAll_old) (Nat.le_succ _) ⟨hlen, out.toList, ep, vals_of_ints h1, he'⟩, rfl, q ns' _ h2 h3 (I.hok.fresh (Nat.le_succ _))⟩
end
end SH

/-! SH9: values of any kind: data that stands in the heap, its repr, its type. -/
namespace SH
open PySem PySem.Spec PyProof.Rows L2

mutual
inductive Dx (H : Hp) : V → PyData → List Addr → Prop
  | non : Dx H .non .none []
  | bl (b : Bool) : Dx H (.bl b) (.bool b) []
  | int (i : Int) : Dx H (.int i) (.int i) []
  | str (x : Str) : Dx H (.str x) (.str x) []
  | lst {a : Addr} {xs : List V} {ds : List PyData} {as : List Addr} : H a = some (.lst xs) → DxAll H xs ds as → Dx H (.ref a) (.list ds) (a :: as)
  | tup {a : Addr} {xs : List V} {ds : List PyData} {as : List Addr} : H a = some (.tup xs) → DxAll H xs ds as → Dx H (.ref a) (.tuple ds) (a :: as)
  | emp {a : Addr} : H a = some (.dK []) → Dx H (.ref a) (.dict []) [a]
inductive DxAll (H : Hp) : List V → List PyData → List Addr → Prop
  | nil : DxAll H [] [] []
  | cons {v : V} {vs : List V} {d : PyData} {ds : List PyData} {as bs : List Addr} : Dx H v d as → DxAll H vs ds bs → DxAll H (v :: vs) (d :: ds) (as ++ bs)
end
mutual
theorem Dx.imp {H H' : Hp} : ∀ {d : PyData} {v : V} {as : List Addr}, Dx H v d as → (∀ a ∈ as, ∀ o, H a = some o → H' a = some o) → Dx H' v d as
  | .none, _, _, h, k => by cases h; exact .non
  | .bool b, _, _, h, k => by cases h; exact .bl b
  | .int i, _, _, h, k => by cases h; exact .int i
  | .str x, _, _, h, k => by cases h; exact .str x
  | .list ds, _, _, h, k => by
    cases h with
    | lst e r => exact .lst (k _ List.mem_cons_self _ e) (DxAll.imp r fun a m => k a (List.mem_cons_of_mem _ m))
  | .tuple ds, _, _, h, k => by
    cases h with
    | tup e r => exact .tup (k _ List.mem_cons_self _ e) (DxAll.imp r fun a m => k a (List.mem_cons_of_mem _ m))
  | .dict _, _, _, h, k => by
    cases h with
    | emp e => exact .emp (k _ List.mem_cons_self _ e)
theorem DxAll.imp {H H' : Hp} : ∀ {ds : List PyData} {vs : List V} {as : List Addr}, DxAll H vs ds as → (∀ a ∈ as, ∀ o, H a = some o → H' a = some o) → DxAll H' vs ds as
  | [], _, _, h, k => by cases h; exact .nil
  | d :: ds, _, _, h, k => by
    cases h with
    | cons h1 h2 => exact .cons (Dx.imp h1 fun a m => k a (List.mem_append_left _ m)) (DxAll.imp h2 fun a m => k a (List.mem_append_right _ m))
end
theorem Dx.same {H H' : Hp} {v : V} {d : PyData} {as : List Addr} (h : Dx H v d as) (s : Same H H') : Dx H' v d as := h.imp fun a _ o e => s a o e
theorem Dx.but {H H' : Hp} {g : Addr} {v : V} {d : PyData} {as : List Addr} (h : Dx H v d as) (s : SameBut g H H') (n : g ∉ as) : Dx H' v d as :=
  h.imp fun a m o e => s a o e fun z => n (z ▸ m)
theorem DxAll.append {H : Hp} : ∀ {xs ys : List V} {ds es : List PyData} {as bs : List Addr}, DxAll H xs ds as → DxAll H ys es bs → DxAll H (xs ++ ys) (ds ++ es) (as ++ bs)
  | _, _, _, _, _, _, .nil, h => h
  | _, _, _, _, _, _, .cons h1 h2, h => by
    rw [List.append_assoc]
    exact .cons h1 (DxAll.append h2 h)
theorem dx_ints {H : Hp} : ∀ ns : List Int, DxAll H (iv ns) (ns.map PyData.int) []
  | [] => .nil
  | n :: r => .cons (as := []) (.int n) (dx_ints r)
theorem dx_one {H : Hp} {v : V} {d : PyData} {as : List Addr} (h : Dx H v d as) : DxAll H [v] [d] as := by
  have := DxAll.cons h .nil
  rwa [List.append_nil] at this
theorem dx_dI {H : Hp} {a : Addr} {ns : List Int} (h : H a = some (.lst (iv ns))) : Dx H (.ref a) (dI ns) [a] := .lst h (dx_ints ns)
theorem DxAll.len {H : Hp} : ∀ {xs : List V} {ds : List PyData} {as : List Addr}, DxAll H xs ds as → xs.length = ds.length
  | _, _, _, .nil => rfl
  | _, _, _, .cons _ h => congrArg (· + 1) h.len
theorem DxAll.at {H : Hp} : ∀ {xs : List V} {ds : List PyData} {as : List Addr} {i : Nat} {x : V}, DxAll H xs ds as → xs[i]? = some x → ∃ d bs, ds[i]? = some d ∧ Dx H x d bs
  | _, _, _, _, _, .nil, e => by simp at e
  | _, _, _, 0, _, .cons h _, e => by simp at e; subst e; exact ⟨_, _, rfl, h⟩
  | _, _, _, i + 1, x, .cons _ t, e => by
    obtain ⟨d, bs, h1, h2⟩ := DxAll.at (i := i) (x := x) t (by simpa using e)
    exact ⟨d, bs, by simpa using h1, h2⟩
section
variable {X : Cx} {pins : List (Addr × Obj)} {σ : L2.St} {H : Hp} {s : Shared}
theorem Dx.fresh (I : Inv X pins σ H s) {a : Addr} {o : HO} (e : H a = some o) : a < s.heap.objs.size := I.hok.lt e
mutual
theorem Dx.reads (I : Inv X pins σ H s) : ∀ (d : PyData) (v : V) (u : Value) (as : List Addr), Dx H v d as → RelV v u → ∃ bs, Reads s.heap u d bs ∧ ∀ b ∈ bs, b ∈ as
  | .none, _, _, _, h, r => by
    cases h
    cases r
    exact ⟨_, Reads.none, fun _ z => z⟩
  | .bool b, _, _, _, h, r => by
    cases h
    cases r
    exact ⟨_, Reads.bool b, fun _ z => z⟩
  | .int i, _, _, _, h, r => by
    cases h
    obtain ⟨t, rfl⟩ := r
    exact ⟨_, Reads.int i t, fun _ z => z⟩
  | .str x, _, _, _, h, r => by
    cases h
    obtain ⟨t, rfl⟩ := r
    exact ⟨_, Reads.str x t, fun _ z => z⟩
  | .list ds, _, _, _, h, r => by
    cases h with
    | lst hs ha =>
      cases r
      obtain ⟨its, rv, ⟨o, n, ho, hc, _, hd⟩, _⟩ := I.list (SqL.of hs)
      obtain ⟨bs, hr, hb⟩ := Dx.readsAll I ds _ its _ ha rv
      refine ⟨_, Reads.list ho hc hd hr, fun b m => ?_⟩
      rcases List.mem_cons.mp m with rfl | m
      · exact List.mem_cons_self
      · exact List.mem_cons_of_mem _ (hb b m)
  | .tuple ds, _, _, _, h, r => by
    cases h with
    | tup hs ha =>
      cases r
      obtain ⟨its, rv, ⟨o, ho, hc, n, hd⟩, _⟩ := I.tuple (SqT.of hs)
      obtain ⟨bs, hr, hb⟩ := Dx.readsAll I ds _ its _ ha rv
      exact ⟨_, Reads.tuple ho hc hd hr, fun b m => List.mem_cons_of_mem _ (hb b m)⟩
  | .dict _, _, _, _, h, r => by
    cases h with
    | emp e =>
      cases r
      obtain ⟨_, _, vs, rel, o, es, ep, ho, ex, hd, _, pr, _⟩ := dk_of I.hok e
      cases rel
      have e0 : es.toList = [] := by
        cases q : es.toList with
        | nil => rfl
        | cons x y => rw [q] at pr; cases pr
      exact ⟨_, Reads.dict (as := []) (bs := []) ho ex.1 hd (by rw [e0]; exact .nil) (by rw [e0]; exact .nil), fun b m => m⟩
theorem Dx.readsAll (I : Inv X pins σ H s) : ∀ (ds : List PyData) (vs : List V) (us : List Value) (as : List Addr), DxAll H vs ds as → Vals vs us → ∃ bs, ReadsAll s.heap us ds bs ∧ ∀ b ∈ bs, b ∈ as
  | [], _, _, _, h, r => by
    cases h
    cases r
    exact ⟨_, ReadsAll.nil, fun _ z => z⟩
  | d :: ds, _, _, _, h, r => by
    cases h with
    | cons h1 h2 =>
      cases r with
      | cons r1 r2 =>
        obtain ⟨as, q1, m1⟩ := Dx.reads I d _ _ _ h1 r1
        obtain ⟨bs, q2, m2⟩ := Dx.readsAll I ds _ _ _ h2 r2
        refine ⟨_, ReadsAll.cons q1 q2, fun b m => ?_⟩
        rcases List.mem_append.mp m with m | m
        · exact List.mem_append_left _ (m1 b m)
        · exact List.mem_append_right _ (m2 b m)
end
end
/-! ### repr of such -/
/-- a value that can be shown, in at most L signs -/
def Fits (n L : Nat) (d : PyData) : Prop := d.showable = true ∧ d.depth ≤ n ∧ d.shown.length ≤ L
def rReprX : List V → Hp → VK → Prop := fun xs H Q =>
  ∃ (x : V) (d : PyData) (as : List Addr), xs = [x] ∧ Dx H x d as ∧ (d.hasDict = true → sysModules ∉ as) ∧ Fits 50 16000000 d ∧ Q (.str d.shown) H
section
variable {X : Cx}
theorem call_reprX (qt : Quiet X.A) (hu : X.A.units + 64 < cLine) : CallR X (.builtin "repr") rReprX := by
  intro pins s σ H xs us Q I r h
  obtain ⟨x, d, as, rfl, hd, hn, ⟨h1, h3, h4⟩, q⟩ := h
  obtain ⟨u, rfl, rx⟩ := vals1 r
  have hz : d.shown.length ≤ sizeLine := Nat.le_trans h4 (by decide)
  obtain ⟨bs, rd, hb⟩ := Dx.reads I d _ _ _ hd rx
  have atom : ∀ (a : Addr), u = .ref a → wpAny (model X.prog X.w) X.A (call (.builtin "repr") [u]) (EP X pins σ Q) X.xe s := fun a e => by
    subst e
    exact repr_of_reads' rd h1 (fun e m => hn e (hb _ m)) qt (by omega) (fun _ _ e => e)
      (fun h' u tk hk => ⟨.str d.shown, H, I.kept hk, ⟨u, rfl⟩, q⟩) hz
  cases hd with
  | non => cases rx; exact PySem.P.repr_of_none ⟨.str _, H, I.tok _, ⟨_, rfl⟩, q⟩
  | bl b => cases rx; exact PySem.P.repr_of_bool ⟨.str _, H, I.tok _, ⟨_, rfl⟩, by cases b <;> exact q⟩
  | int i =>
    obtain ⟨t, rfl⟩ := rx
    exact PySem.P.repr_of_int (of_decide_eq_true h1) ⟨.str _, H, I.tok _, ⟨_, rfl⟩, q⟩
  | str y =>
    obtain ⟨t, rfl⟩ := rx
    exact PySem.P.repr_of_str ⟨.str _, H, I.tok _, ⟨_, rfl⟩, q⟩ hz
  | lst _ _ => exact atom _ rx
  | tup _ _ => exact atom _ rx
  | emp _ => exact atom _ rx
end
/-! ### type(x), isinstance(x, T) -/
/-- the name of the type -/
def tyD : PyData → String
  | .none => "NoneType"
  | .bool _ => "bool"
  | .int _ => "int"
  | .str _ => "str"
  | .list _ => "list"
  | .tuple _ => "tuple"
  | .dict _ => "dict"
theorem Dx.tyX {K : PySem.W.Frag} {H : Hp} {v : V} {d : PyData} {as : List Addr} (h : Dx H v d as) : TyX K H v (.type (tyD d)) := by
  cases h with
  | non => exact .base .non
  | bl b => exact .base (.bl b)
  | int i => exact .base (.int i)
  | str x => exact .base (.str x)
  | lst e _ => exact .base (.lst e)
  | tup e _ => exact .base (.tup e)
  | emp e => exact .base (.dK e)
def rTyX : List V → Hp → VK → Prop := fun xs H Q => ∃ (x : V) (d : PyData) (as : List Addr), xs = [x] ∧ Dx H x d as ∧ Q (.ty (tyD d)) H
section
variable {X : Cx}
theorem call_typeX : CallR X (.type "type") rTyX := by
  intro pins s σ H xs us Q I r h
  obtain ⟨x, d, as, rfl, hd, q⟩ := h
  obtain ⟨u, rfl, rx⟩ := vals1 r
  have nb : ∀ d : PyData, (Value.type (tyD d) == Value.type "builtin_function_or_method") = false := fun d => by cases d <;> (simp only [tyD]; decide +kernel)
  have fin : s.TypeIs u (tyD d) → wpAny (model X.prog X.w) X.A (call (.type "type") [u]) (EP X pins σ Q) X.xe s :=
    fun h1 => call_type_of h1 (nb d) ⟨.ty _, H, I, rfl, q⟩
  cases hd with
  | non => cases rx; exact fin rfl
  | bl b => cases rx; exact fin rfl
  | int i => obtain ⟨t, rfl⟩ := rx; exact fin rfl
  | str y => obtain ⟨t, rfl⟩ := rx; exact fin rfl
  | lst e _ =>
    cases rx
    obtain ⟨its, rv, p, _⟩ := I.list (SqL.of e)
    exact fin p.isList.typeIs
  | tup e _ =>
    cases rx
    obtain ⟨its, rv, p, _⟩ := I.tuple (SqT.of e)
    exact fin p.typeIs
  | emp e =>
    cases rx
    obtain ⟨_, _, vs, rel, o, es, ep, ho, ex, _⟩ := dk_of I.hok e
    exact fin ⟨o, ho, ex.1⟩
/-- isinstance(x, T), T a built-in type -/
def rIsX : List V → Hp → VK → Prop := fun xs H Q => ∃ (x : V) (T : String) (d : PyData) (as : List Addr) (b : Bool), xs = [x, .ty T] ∧ Dx H x d as ∧ kitB (tyD d) T = some b ∧ Q (.bl b) H
theorem call_isX : CallR X (.builtin "isinstance") rIsX := by
  intro pins s σ H xs us Q I r h
  obtain ⟨x, T, d, as, b, rfl, hd, e, q⟩ := h
  exact call_isi pins s σ H _ us Q I r ⟨x, .ty T, _, _, b, rfl, .ty T, hd.tyX, kit_ty e, q⟩
theorem kit_int (d : PyData) : kitB (tyD d) "int" = some (match d with | .int _ => true | .bool _ => true | _ => false) := by
  cases d <;> (simp only [tyD]; decide +kernel)
theorem kit_bool (d : PyData) : kitB (tyD d) "bool" = some (match d with | .bool _ => true | _ => false) := by
  cases d <;> (simp only [tyD]; decide +kernel)
theorem kit_list (d : PyData) : kitB (tyD d) "list" = some (match d with | .list _ => true | _ => false) := by
  cases d <;> (simp only [tyD]; decide +kernel)
/-! ### new lists, known to stand apart from the module table -/
def tLstB (t : TA) : TE := fun σ H Q => t σ H fun xs H1 => xs.length ≤ sizeLine ∧ ∀ p, H1 p = none → p ≠ sysModules → Q (.ref p) (upd H1 p (.lst xs))
theorem pe_lstB {es : List Expr} {pos : Pos} {t : TA} (h : PA X es t) : PE X (.List es pos) (tLstB t) := by
  refine ⟨fun pins s σ H Q I hq => ?_⟩
  refine wpAny_List_spliced (thn (h.run pos pins s σ H _ I hq) fun us s1 ⟨xs, H1, I1, r, z, q⟩ => ⟨by rw [← r.length]; exact z, ?_⟩)
  have hf : H1 s1.heap.objs.size = none := I1.hok.fresh (Nat.le_refl _)
  refine ⟨.ref s1.heap.objs.size, upd H1 s1.heap.objs.size (.lst xs), I1.laid (t' := s1.toks) (fun b u e => Heap.get?_push_of_some _ e) (Nat.le_refl _) ?_, rfl, q _ hf (Nat.ne_of_gt I1.big)⟩
  exact ⟨z, us, 0, r, Heap.get?_push_size _ rfl⟩
def rCatB (K : PySem.W.Frag) : R2 := fun x y H Q => ∃ l b xs zs, x = .ref l ∧ y = .ref b ∧ SqL K H l xs ∧ SqL K H b zs ∧ xs.length + zs.length ≤ sizeLine ∧ ∀ p, H p = none → p ≠ sysModules → Q (.ref p) (upd H p (.lst (xs ++ zs)))
theorem op_catB : OpR X (binaryOp .Add) (rCatB X.K) := by
  intro pins s σ H x y v u Q I rx ry h
  obtain ⟨l, b, xs, zs, rfl, rfl, hx, hy, hz, q⟩ := h
  cases rx
  cases ry
  obtain ⟨its, r, ⟨o, n, ho, hc, hd, ht⟩, _⟩ := I.list hx
  obtain ⟨its2, r2, ⟨o2, n2, ho2, hc2, hd2, ht2⟩, _⟩ := I.list hy
  have e1 := r.length
  have e2 := r2.length
  obtain ⟨oc, od, dt, sl⟩ := o
  obtain ⟨oc2, od2, dt2, sl2⟩ := o2
  simp only at hc hd ht hc2 hd2 ht2
  subst hc hd ht hc2 hd2 ht2
  have ea : its.toArray ++ its2.toArray = (its ++ its2).toArray := by simp
  refine concat_meets ⟨_, ho, rfl⟩ ⟨_, ho2, rfl⟩ noFill_list_add seq_list_add PySem.F.slot_list_add PySem.F.entry_list_add
    (PySem.F.args_list_add_2 _ _) (list_addW l b its.toArray its2.toArray n n2 none none sl sl2 (by simp only [List.size_toArray]; omega)) ⟨ho, ho2, ?_⟩
  rw [ea]
  exact ⟨.ref _, _, I.lnew (t' := s.toks) (r.append r2) (by rw [List.length_append]; omega), rfl, q _ I.fresh (Nat.ne_of_gt I.big)⟩
end

def tDNewB : TE := fun _ H Q => ∀ p, H p = none → p ≠ sysModules → Q (.ref p) (upd H p (.dK []))
theorem pe_dnewB {X : Cx} {pos : Pos} : PE X (.Dict [] [] pos) tDNewB := ⟨fun pins s σ H Q I h =>
  wpAny_Dict_empty ⟨.ref s.heap.objs.size, _, I.laid (a := s.heap.objs.size) (o := .dK []) (t' := s.toks) (fun _ _ q => Heap.get?_push_of_some _ q) (Nat.le_refl _) (dk_empty s.heap I.big), rfl, h _ (I.hok.fresh (Nat.le_refl _)) (Nat.ne_of_gt I.big)⟩⟩
theorem atI_all {xs : List V} {p : V → Prop} (h : ∀ v ∈ xs, p v) {z : Int} (h0 : 0 ≤ z) (h1 : z < xs.length) : ∃ v, atI xs z = some v ∧ p v := by
  have e : z = ((z.toNat : Nat) : Int) := by omega
  have hl : z.toNat < xs.length := by omega
  refine ⟨xs[z.toNat], ?_, h _ (List.getElem_mem hl)⟩
  exact (congrArg (atI xs) e).trans (atI_nat (List.getElem?_eq_getElem hl))
theorem Fits.mono {n m L M : Nat} {d : PyData} (h : Fits n L d) (h1 : n ≤ m) (h2 : L ≤ M) : Fits m M d := ⟨h.1, Nat.le_trans h.2.1 h1, Nat.le_trans h.2.2 h2⟩
theorem small_log' {v : Int} (h : v.natAbs < 2 ^ 1900) : v.natAbs.log2 < 1920 := by
  by_cases e : v.natAbs = 0
  · rw [e]; decide
  · have := (Nat.log2_lt e).mpr h
    omega
theorem fit_int {v : Int} (h : v.natAbs < 2 ^ 1900) : Fits 0 1921 (.int v) := ⟨decide_eq_true (small_log' h), Nat.le_refl _, int_text_len_1921 (small_log' h)⟩
theorem fit_bool (b : Bool) : Fits 0 1921 (.bool b) := ⟨rfl, Nat.le_refl _, by cases b <;> decide⟩
theorem fit_none : Fits 0 1921 .none := ⟨rfl, Nat.le_refl _, by decide⟩
theorem fit_emp : Fits 1 1921 (.dict []) := ⟨rfl, by decide, by decide⟩
theorem fitAll {n L : Nat} : ∀ {ds : List PyData}, (∀ d ∈ ds, Fits n L d) → PyData.showableAll ds = true ∧ PyData.depthAll ds ≤ n ∧ ((PyData.shownAll ds).map (·.length)).sum ≤ L * ds.length ∧ (PyData.shownAll ds).length = ds.length
  | [], _ => ⟨rfl, Nat.zero_le _, Nat.le_refl _, rfl⟩
  | d :: r, h => by
    obtain ⟨a, b, c, e⟩ := fitAll (ds := r) fun v hv => h v (List.mem_cons_of_mem _ hv)
    obtain ⟨f1, f2, f3⟩ := h d List.mem_cons_self
    refine ⟨?_, ?_, ?_, ?_⟩
    · show (d.showable && PyData.showableAll r) = true
      rw [f1, a]; rfl
    · show max d.depth (PyData.depthAll r) ≤ n
      omega
    · show d.shown.length + ((PyData.shownAll r).map (·.length)).sum ≤ L * (r.length + 1)
      rw [Nat.mul_add]
      omega
    · show (PyData.shownAll r).length + 1 = r.length + 1
      omega
theorem fit_list {n L m : Nat} {ds : List PyData} (h : ∀ d ∈ ds, Fits n L d) (hl : ds.length ≤ m) : Fits (n + 1) (m * (L + 2) + 3) (.list ds) := by
  obtain ⟨a, b, c, e⟩ := fitAll h
  refine ⟨a, Nat.succ_le_succ b, ?_⟩
  show (listText (PyData.shownAll ds)).length ≤ _
  have := listText_len_le (PyData.shownAll ds)
  have h1 : L * ds.length + 2 * ds.length ≤ m * (L + 2) := by
    rw [← Nat.add_mul, Nat.mul_comm]
    exact Nat.mul_le_mul_right _ hl
  omega
theorem fit_tup {n L m : Nat} {ds : List PyData} (h : ∀ d ∈ ds, Fits n L d) (hl : ds.length ≤ m) : Fits (n + 1) (m * (L + 2) + 3) (.tuple ds) := by
  obtain ⟨a, b, c, e⟩ := fitAll h
  refine ⟨a, Nat.succ_le_succ b, ?_⟩
  show (tupleText (PyData.shownAll ds)).length ≤ _
  have := tupleText_len_le (PyData.shownAll ds)
  have h1 : L * ds.length + 2 * ds.length ≤ m * (L + 2) := by
    rw [← Nat.add_mul, Nat.mul_comm]
    exact Nat.mul_le_mul_right _ hl
  omega
theorem fit_ints {ns : List Int} (h : ∀ v ∈ ns, v.natAbs < 2 ^ 1900) : ∀ d ∈ ns.map PyData.int, Fits 0 1921 d := fun d hd => by
  obtain ⟨v, hv, rfl⟩ := List.mem_map.mp hd
  exact fit_int (h v hv)
theorem hasDict_app : ∀ xs ys : List PyData, PyData.hasDictAll (xs ++ ys) = (PyData.hasDictAll xs || PyData.hasDictAll ys)
  | [], _ => rfl
  | d :: r, ys => by
    show (d.hasDict || PyData.hasDictAll (r ++ ys)) = (d.hasDict || PyData.hasDictAll r || PyData.hasDictAll ys)
    rw [hasDict_app r ys, Bool.or_assoc]
end SH

/-! SH10: lists of pairs of ints (tuples), and comprehensions over them. -/
namespace SH
open PySem PySem.Spec PyProof.Rows L2

theorem lt1900 {n : Nat} (h : n < 2 ^ 128) : n < 2 ^ 1900 := Nat.lt_of_lt_of_le h (Nat.pow_le_pow_right (by decide) (by decide))
theorem noD {d : PyData} {as : List Addr} (h : d.hasDict = false) : d.hasDict = true → sysModules ∉ as := fun h' => by rw [h] at h'; cases h'
inductive Prs (H : Hp) : List V → List (Int × Int) → Prop
  | nil : Prs H [] []
  | cons {r : Addr} {s l : Int} {vs : List V} {os : List (Int × Int)} : H r = some (.tup [.int s, .int l]) → Prs H vs os → Prs H (.ref r :: vs) ((s, l) :: os)
theorem Prs.len {H : Hp} : ∀ {vs : List V} {os : List (Int × Int)}, Prs H vs os → vs.length = os.length
  | _, _, .nil => rfl
  | _, _, .cons _ h => congrArg (· + 1) h.len
theorem Prs.at {H : Hp} : ∀ {vs : List V} {os : List (Int × Int)} {i : Nat} {x : V}, Prs H vs os → vs[i]? = some x → ∃ r s l, x = .ref r ∧ os[i]? = some (s, l) ∧ H r = some (.tup [.int s, .int l])
  | _, _, _, _, .nil, e => by simp at e
  | _, _, 0, _, .cons h _, e => by simp at e; subst e; exact ⟨_, _, _, rfl, rfl, h⟩
  | _, _, i + 1, x, .cons _ t, e => by
    obtain ⟨r, s, l, h1, h2, h3⟩ := Prs.at (i := i) (x := x) t (by simpa using e)
    exact ⟨r, s, l, h1, by simpa using h2, h3⟩
theorem Prs.imp {H H' : Hp} : ∀ {vs : List V} {os : List (Int × Int)}, Prs H vs os → (∀ r o, H r = some (.tup o) → H' r = some (.tup o)) → Prs H' vs os
  | _, _, .nil, _ => .nil
  | _, _, .cons h t, k => .cons (k _ _ h) (t.imp k)
theorem Prs.same {H H' : Hp} {vs : List V} {os : List (Int × Int)} (h : Prs H vs os) (s : Same H H') : Prs H' vs os := h.imp fun r o e => s _ _ e
theorem Prs.but {H H' : Hp} {g : Addr} {xs : List V} {vs : List V} {os : List (Int × Int)} (h : Prs H vs os) (s : SameBut g H H') (hg : H g = some (.lst xs)) : Prs H' vs os :=
  h.imp fun r o e => s _ _ e (ne_of e hg (by intro z; cases z))
theorem Prs.upd {H : Hp} {g : Addr} {xs : List V} {o : HO} {vs : List V} {os : List (Int × Int)} (h : Prs H vs os) (hg : H g = some (.lst xs)) : Prs (L2.upd H g o) vs os :=
  h.imp fun r q e => by rw [upd_ne (ne_of e hg (by intro z; cases z))]; exact e
theorem Prs.append {H : Hp} : ∀ {vs ws : List V} {os qs : List (Int × Int)}, Prs H vs os → Prs H ws qs → Prs H (vs ++ ws) (os ++ qs)
  | _, _, _, _, .nil, h => h
  | _, _, _, _, .cons h1 h2, h => .cons h1 (h2.append h)
theorem Prs.set {H : Hp} {r : Addr} {s l : Int} (hr : H r = some (.tup [.int s, .int l])) : ∀ {vs : List V} {os : List (Int × Int)} (i : Nat), Prs H vs os → Prs H (vs.set i (.ref r)) (os.set i (s, l))
  | _, _, _, .nil => .nil
  | _, _, 0, .cons _ t => .cons hr t
  | _, _, i + 1, .cons h t => .cons h (Prs.set hr i t)
theorem Prs.take {H : Hp} : ∀ {vs : List V} {os : List (Int × Int)} (i : Nat), Prs H vs os → Prs H (vs.take i) (os.take i)
  | _, _, 0, _ => .nil
  | _, _, i + 1, .nil => .nil
  | _, _, i + 1, .cons h t => .cons h (Prs.take i t)
/-- as data -/
def pD (o : Int × Int) : PyData := .tuple [.int o.1, .int o.2]
theorem Prs.dx {H : Hp} : ∀ {vs : List V} {os : List (Int × Int)}, Prs H vs os → ∃ as, DxAll H vs (os.map pD) as
  | _, _, .nil => ⟨_, .nil⟩
  | _, _, .cons (s := s) (l := l) h t => by
    obtain ⟨as, d⟩ := t.dx
    exact ⟨_, .cons (.tup h (dx_ints [s, l])) d⟩
theorem Prs.dp {K : PySem.W.Frag} {H : Hp} : ∀ {vs : List V} {os : List (Int × Int)}, Prs H vs os → DpAll K H vs (os.map pD)
  | _, _, .nil => .nil
  | _, _, .cons (s := s) (l := l) h t => .cons (.tup (SqT.of h) (dp_ints [s, l])) t.dp
theorem fit_pD {o : Int × Int} (h1 : o.1.natAbs < 2 ^ 1900) (h2 : o.2.natAbs < 2 ^ 1900) : Fits 1 3849 (pD o) :=
  fit_tup (m := 2) (L := 1921) (fun d hd => by
    simp only [List.mem_cons, List.not_mem_nil, or_false] at hd
    rcases hd with rfl | rfl
    · exact fit_int h1
    · exact fit_int h2) (Nat.le_refl _)
theorem noDict_pD : ∀ os : List (Int × Int), PyData.hasDictAll (os.map pD) = false
  | [] => rfl
  | o :: r => by
    show ((pD o).hasDict || PyData.hasDictAll (r.map pD)) = false
    rw [noDict_pD r]
    rfl
theorem lay_pD : ∀ os : List (Int × Int), PyData.canLayAll0 (os.map pD) = true
  | [] => rfl
  | o :: r => by
    show ((pD o).canLay0 && PyData.canLayAll0 (r.map pD)) = true
    rw [lay_pD r]
    rfl
theorem depth_pD : ∀ os : List (Int × Int), PyData.depthAll (os.map pD) ≤ 1
  | [] => by decide
  | o :: r => by
    show max (pD o).depth (PyData.depthAll (r.map pD)) ≤ 1
    have h1 : (pD o).depth = 1 := rfl
    have := depth_pD r
    omega
theorem shaped_pD (os : List (Int × Int)) : SeqAt.shaped (.list (os.map pD)) = true := by
  unfold SeqAt.shaped
  have d : (PyData.list (os.map pD)).depth ≤ 2 := Nat.succ_le_succ (depth_pD os)
  show (PyData.canLayAll0 (os.map pD) && decide ((PyData.list (os.map pD)).depth ≤ 64)) = true
  rw [lay_pD, decide_eq_true (by omega)]
  rfl
section
variable {K : PySem.W.Frag} {tt : TT} {te : TE} {vs : List Nat} {σ : L2.St} {H : Hp} {D : Addr} {Qd : Hp → Prop}
/-- [.. for a, b in pairs ..] -/
theorem lcPn {a : Addr} {xs : List V} {os : List (Int × Int)} {j1 j2 : Nat} (keep : Nat → Bool) (val : Nat → V) (ha : H a = some (.lst xs)) (hp : Prs H xs os) (hD : H D = none) (hn : os.length < 100000)
    (hw : ∀ x y, wipe (((wipe σ vs).set j1 (some x)).set j2 (some y)) vs = wipe σ vs)
    (ht : ∀ i s l H2 (Q : Bool → Hp → Prop), os[i]? = some (s, l) → Same H H2 → (∀ H3, Same H2 H3 → Q (keep i) H3) → tt (((wipe σ vs).set j1 (some (.int s))).set j2 (some (.int l))) H2 Q)
    (he : ∀ i s l H2 (Q : VK), os[i]? = some (s, l) → keep i = true → Same H H2 → (∀ H3, Same H2 H3 → Q (val i) H3) → te (((wipe σ vs).set j1 (some (.int s))).set j2 (some (.int l))) H2 Q)
    (hd : ∀ H', Same H H' → H' D = some (.lst (gives os.length keep val)) → Qd H') :
    ∃ W : Nat → Nat → Hp → Prop, (∃ m, W 0 m (upd H D (.lst []))) ∧ ∀ i m H, W i m H →
      ((Itl K a).stop i H ∧ Qd H) ∨ ((Itl K a).go i H ∧ ∃ Nx : Hp → Prop, (∀ H', Nx H' → ∃ m', m' < m ∧ W (i + 1) m' H') ∧
        ∀ x H', (Itl K a).yld i H x H' → gTup K 2 (gCons (gName j1) (gCons (gName j2) gNil)) x (wipe σ vs) H' fun σ2 H2 => wipe σ2 vs = wipe σ vs ∧ tt σ2 H2 fun b H3 =>
          if b = true then te σ2 H3 fun y H4 => ∃ acc, H4 D = some (.lst acc) ∧ acc.length < sizeLine ∧ Nx (upd H4 D (.lst (acc ++ [y]))) else Nx H3) := by
  have hl := hp.len
  refine lc_list (xs := xs) (fun i H2 => Same H H2 ∧ H2 D = some (.lst (gives i keep val))) ⟨Same.new hD, upd_same⟩
    (fun i H2 hi e => SqL.of (e.1 _ _ ha)) (fun i x H2 hi e => ?_) (fun H2 e => hd H2 e.1 (by rw [← hl]; exact e.2))
  obtain ⟨r, s, l, rfl, ho, hr⟩ := hp.at hi
  refine ⟨r, _, rfl, SqT.of (e.1 _ _ hr), rfl, _, _, rfl, _, _, rfl, rfl, hw _ _, ?_⟩
  have il : i < xs.length := (List.getElem?_eq_some_iff.mp hi).1
  exact lc_turnS hD (by omega) hn e.1 e.2 (fun Q q => ht i s l H2 Q ho e.1 q) (fun H3 s3 Q k q => he i s l H3 Q ho k (e.1.trans s3) q)
end
end SH

/-! SH11: len(set(xs)) with repeats; lists of lists of ints. -/
namespace SH
open PySem PySem.Spec PyProof.Rows L2

theorem met_ok (val : Nat → Int) : ∀ n, (PyProof.Rows.firstMet val n).Nodup ∧ ∀ k, k ∈ PyProof.Rows.firstMet val n ↔ k ∈ (List.range n).map val
  | 0 => ⟨List.nodup_nil, fun k => Iff.rfl⟩
  | n + 1 => by
    obtain ⟨a, b⟩ := met_ok val n
    rw [PyProof.Rows.firstMet_succ]
    have e : ∀ (d : List Int) (v : Int), step_dedup d v = if (d.any (· == v)) = true then d else d ++ [v] := fun d v => rfl
    rw [e]
    by_cases c : (PyProof.Rows.firstMet val n).any (· == val n) = true
    · rw [if_pos c]
      obtain ⟨y, hy, ey⟩ := List.any_eq_true.mp c
      have ey2 : y = val n := eq_of_beq ey
      refine ⟨a, fun k => ?_⟩
      rw [b, List.range_succ, List.map_append, List.mem_append]
      constructor
      · exact .inl
      · rintro (h | h)
        · exact h
        · have : k = val n := by simpa using h
          rw [this, ← ey2]
          exact (b y).mp hy
    · rw [if_neg c]
      have no : val n ∉ PyProof.Rows.firstMet val n := fun h => c (List.any_eq_true.mpr ⟨_, h, by simp⟩)
      refine ⟨?_, fun k => ?_⟩
      · rw [List.nodup_append]
        refine ⟨a, by simp, fun x hx y hy => ?_⟩
        rw [List.mem_singleton.mp hy]
        intro z
        exact no (z ▸ hx)
      · rw [List.mem_append, b, List.range_succ, List.map_append, List.mem_append]
        simp
theorem met_all (ns : List Int) : ∀ k, k ∈ (List.range ns.length).map (fun i => ns.getD i 0) ↔ k ∈ ns := fun k => by
  rw [List.mem_map]
  constructor
  · rintro ⟨i, hi, rfl⟩
    have := List.mem_range.mp hi
    rw [List.getD_eq_getElem?_getD, List.getElem?_eq_getElem this]
    exact List.getElem_mem this
  · intro h
    obtain ⟨i, hi, rfl⟩ := List.getElem_of_mem h
    exact ⟨i, List.mem_range.mpr hi, by rw [List.getD_eq_getElem?_getD, List.getElem?_eq_getElem hi]; rfl⟩
def tLenSetG (K : PySem.W.Frag) (ta : TE) : TE := fun σ H Q => ta σ H fun x H1 => ∃ (l : Addr) (ns : List Int), x = .ref l ∧ SqL K H1 l (iv ns) ∧ ns.length ≤ 4000 ∧
  ∀ d : List Int, d.Nodup → (∀ k, k ∈ d ↔ k ∈ ns) → Q (.int (d.length : Nat)) H1
theorem pe_lenSetG {X : Cx} {a : Expr} {ta : TE} {p p2 q pos : Pos} (hg : Gl X "len") (hm : X.mg "len" = none) (hg2 : Gl X "set") (hm2 : X.mg "set" = none) (ha : PE X a ta) (hc : X.calm = true := by rfl)
    (na : starEach [a] X.env = (false, eval a X.env) :: starEach [] X.env := by rfl) : PE X (.Call (.Name "len" p) [.Call (.Name "set" p2) [a] [] q] [] pos) (tLenSetG X.K ta) := by
  refine ⟨fun pins s σ H Q I h => ?_⟩
  refine Call_ (ld_blt I hg hm boot_len ?_)
  refine PyProof.Rows.callWith_builtin1 (PyProof.Rows.args_cons ?_ rfl) rfl rfl
  refine Call_ (ld_blt I hg2 hm2 boot_set ?_)
  refine PyProof.Rows.callWith_type1 (PyProof.Rows.args_cons (thn (ha.run pins s σ H _ I h) fun v s1 ⟨x, H1, I1, r1, q1⟩ => PyProof.Rows.args_nil ?_) na) na rfl
  obtain ⟨l, ns, rfl, hq, hl, q1⟩ := q1
  cases r1
  obtain ⟨its, r, pl, hz⟩ := I1.list hq
  have hlen : its.toArray.size = ns.length := by rw [List.size_toArray, ← r.length, List.length_map]
  refine call_set_list (I1.ok.hd hc) pl.isList (by simpa using RZ.intsAre_vals r) (by rw [hlen]; unfold scanBound; omega) fun h' tk hS hk => ?_
  refine PyProof.Rows.args_nil ?_
  rw [hlen] at hS
  obtain ⟨m1, m2⟩ := met_ok (fun i => ns.getD i 0) ns.length
  have ml := PyProof.Rows.firstMet_length_le (fun i => ns.getD i 0) ns.length
  generalize PyProof.Rows.firstMet (fun i => ns.getD i 0) ns.length = d at *
  obtain ⟨o, es, ep, t, ho, hex, hd, _, _, _, hf, hn⟩ := hS
  have I2 : Inv X pins σ H1 { s1 with heap := h', toks := tk } := I1.kept fun b o e => hk b o (Heap.lt_size e) e
  exact call_len_set ho hex hd hf (by rw [hn] <;> omega) ⟨.int d.length, H1, I2.tok _, ⟨_, by rw [hn]⟩, q1 d m1 fun k => (m2 k).trans (met_all ns k)⟩

inductive Lsts (H : Hp) : List V → List (List Int) → Prop
  | nil : Lsts H [] []
  | cons {r : Addr} {L : List Int} {vs : List V} {Ls : List (List Int)} : H r = some (.lst (iv L)) → Lsts H vs Ls → Lsts H (.ref r :: vs) (L :: Ls)
theorem Lsts.len {H : Hp} : ∀ {vs : List V} {os : List (List Int)}, Lsts H vs os → vs.length = os.length
  | _, _, .nil => rfl
  | _, _, .cons _ h => congrArg (· + 1) h.len
theorem Lsts.at {H : Hp} : ∀ {vs : List V} {os : List (List Int)} {i : Nat} {x : V}, Lsts H vs os → vs[i]? = some x → ∃ r L, x = .ref r ∧ os[i]? = some L ∧ H r = some (.lst (iv L))
  | _, _, _, _, .nil, e => by simp at e
  | _, _, 0, _, .cons h _, e => by simp at e; subst e; exact ⟨_, _, rfl, rfl, h⟩
  | _, _, i + 1, x, .cons _ t, e => by
    obtain ⟨r, L, h1, h2, h3⟩ := Lsts.at (i := i) (x := x) t (by simpa using e)
    exact ⟨r, L, h1, by simpa using h2, h3⟩
theorem Lsts.same {H H' : Hp} : ∀ {vs : List V} {os : List (List Int)}, Lsts H vs os → Same H H' → Lsts H' vs os
  | _, _, .nil, _ => .nil
  | _, _, .cons h t, k => .cons (k _ _ h) (t.same k)
theorem Lsts.upd {H : Hp} {D : Addr} {o : HO} : ∀ {vs : List V} {os : List (List Int)}, Lsts H vs os → V.ref D ∉ vs → Lsts (L2.upd H D o) vs os
  | _, _, .nil, _ => .nil
  | _, _, .cons (r := r) h t, n => .cons (by rw [upd_ne (fun e => n (by rw [e]; exact List.mem_cons_self))]; exact h) (t.upd fun m => n (List.mem_cons_of_mem _ m))
theorem Lsts.append {H : Hp} : ∀ {vs ws : List V} {os qs : List (List Int)}, Lsts H vs os → Lsts H ws qs → Lsts H (vs ++ ws) (os ++ qs)
  | _, _, _, _, .nil, h => h
  | _, _, _, _, .cons h1 h2, h => .cons h1 (h2.append h)
end SH

/-! SH12: set(xs) of a list of any length, few different members. -/
namespace SH
open PySem PySem.Spec PyProof.Rows L2
theorem nodup_small : ∀ (D : Nat) {ks : List Int}, ks.Nodup → (∀ k ∈ ks, 0 ≤ k ∧ k < D) → ks.length ≤ D
  | 0, ks, _, b => by
    cases ks with
    | nil => exact Nat.le_refl _
    | cons x r => have := b x List.mem_cons_self; omega
  | D + 1, ks, nd, b => by
    have e := nodup_small D (ks := ks.erase (D : Int)) (nd.erase _) fun k hk => by
      have h1 := b k (List.mem_of_mem_erase hk)
      have h2 : k ≠ (D : Int) := fun e => by
        rw [e] at hk
        exact (List.Nodup.not_mem_erase nd) hk
      omega
    have := List.length_erase_le (a := (D : Int)) (l := ks)
    by_cases c : (D : Int) ∈ ks
    · rw [List.length_erase_of_mem c] at e
      omega
    · rw [List.erase_of_not_mem c] at e
      omega
theorem setR_few {w : World} {h : Heap} {a : Addr} {S : Int → Bool} {n D : Nat} (R : SetR w h a S n) (b : ∀ k, S k = true → 0 ≤ k ∧ k < D) : n ≤ D := by
  obtain ⟨o, es, ep, t, _, _, _, _, nd, mem, _, _, e, _⟩ := R
  have := nodup_small D nd fun k hk => b k ((mem k).mpr hk)
  rw [List.length_map, Array.length_toList] at this
  omega
section
variable {P : Program} {w : World} {A : Around} {E : Value → Shared → Prop} {s : Shared}
theorem set_update_few {I : Addr} {fp wr : List Addr} {G : Array GenState → Array GenState → Prop} {n : Nat} {Pv : Nat → Value → Prop} {St : Nat → Shared → Prop} {R : Result → Shared → Prop}
    (W : WalksS P w A.in1 I fp wr G n Pv St) (S : Addr) (nf : S ∉ fp) (ns : List Int) (hn : n = ns.length) (few : ∀ v ∈ ns, 0 ≤ v ∧ v < (1000 : Nat)) (hval : ∀ i v, Pv i v → ∃ k t, ns[i]? = some k ∧ v = .int k t) :
    ∀ (left i : Nat) (s : Shared), n - i = left → i ≤ n → St i s → (∃ c, SetR w s.heap S (fun j => decide (j ∈ ns.take i)) c) →
      (∀ s' c, Moved (S :: wr) G s s' → c ≤ 1000 → SetR w s'.heap S (fun j => decide (j ∈ ns)) c → R (.ok (.ret .none)) s') →
      codeAny (model P w) A (.builtin "set.update.loop" ⟨[.ref S, .ref I], []⟩) R s := by
  have nw : S ∉ wr := fun h => nf (W.sub _ h)
  have up : ∀ b ∈ wr, b ∈ S :: wr := fun b hb => List.mem_cons_of_mem _ hb
  intro left
  induction left with
  | zero =>
    intro i s hk hi st ⟨c, hS⟩ hR
    obtain rfl : i = n := by omega
    refine codeAny_builtin F.entry_set_update_loop ?_
    rw [Around.under_plainId F.plain_set_update_loop _]
    show wpAny _ A.in1 (pyNext (.ref I) >>= _) _ _ s
    refine wpAny_bind (W.done s _ _ st fun s' m => ?_)
    show wpAny _ A.in1 (ret Value.none) _ _ s'
    rw [List.take_of_length_le (by omega)] at hS
    exact wpAny_pure (hR s' c (m.mono up) (setR_few hS fun k hk => few k (of_decide_eq_true hk)) (hS.at fun o e => m.heap S o nw e))
  | succ left ih =>
    intro i s hk hi st ⟨c, hS⟩ hR
    have lt : i < n := by omega
    refine codeAny_builtin F.entry_set_update_loop ?_
    rw [Around.under_plainId F.plain_set_update_loop _]
    show wpAny _ A.in1 (pyNext (.ref I) >>= _) _ _ s
    refine wpAny_bind (W.item i s _ _ lt st fun v s' pv st' m => ?_)
    obtain ⟨z, t, hz, rfl⟩ := hval i v pv
    have S1 : SetR w s'.heap S (fun j => decide (j ∈ ns.take i)) c := hS.at fun o e => m.heap S o nw e
    have cb : c ≤ 1000 := setR_few S1 fun k hk => few k (List.mem_of_mem_take (of_decide_eq_true hk))
    show wpAny _ A.in1 (holding [Value.int z t] (setAdd S (.int z t)) >>= _) _ _ s'
    refine wpAny_bind (wpAny_holding ?_)
    unfold setAdd
    refine wpAny_holding ?_
    refine wpAny_bind ((intKind P w).pyHash (k := z) (intKind_is _ _ _ _) ?_)
    refine setR_add_hashed (s := { s' with toks := s'.toks + 1 }) S1 (by have : scanBound = 4096 := rfl; omega) fun h' oth S2 => ?_
    have S3 : SetR w h' S (fun j => decide (j ∈ ns.take (i + 1))) (if decide (z ∈ ns.take i) = true then c else c + 1) := S2.congr fun j => by
      rw [List.take_add_one, hz]
      simp [List.mem_append]
    refine wpAny_pure ⟨plainId_quiet F.plain_set_update_loop _, ih (i + 1) _ (by omega) lt (W.frame _ s' _ _ st' (Nat.le_succ _) fun b hb o e => ?_) ⟨_, S3⟩ fun s'' c2 m2 c2b SS => ?_⟩
    · rw [oth.2 b (fun h : b = S => nf (by rw [← h]; exact hb))]; exact e
    · refine hR s'' c2 (Moved.trans W.gtrans ((m.mono up).then_heap (Nat.le_succ _) fun b o hb e => ?_) m2) c2b SS
      rw [oth.2 b (fun h : b = S => hb (by rw [h]; exact List.mem_cons_self))]; exact e
set_option maxHeartbeats 3200000 in
theorem set_of_few {l : Addr} {xs : Array Value} (ns : List Int) {Q : Value → Shared → Prop} (calm : A.handled = none)
    (isl : s.heap.IsList l xs) (hin : IntsAre xs.toList ns) (few : ∀ v ∈ ns, 0 ≤ v ∧ v < (1000 : Nat))
    (h : ∀ (g : Heap) (tk c : Nat), SetR w g s.heap.objs.size (fun j => decide (j ∈ ns)) c → c ≤ 1000 →
      (∀ b o, s.heap.get? b = some o → g.get? b = some o) →
      Q (.ref s.heap.objs.size) { s with heap := g, toks := tk }) :
    wpAny (model P w) A (call (.type "set") [.ref l]) Q E s := by
  have size : xs.size = ns.length := by rw [← Array.length_toList]; exact IntsAre.length hin
  obtain ⟨_, _, m1⟩ := F.called_set.mro
  have m2 := F.called_set.made
  have m3 := F.called_set.sub
  refine wpAny_call (codeAny_of_tree (show wpAny _ _ (callAny (.type "set") _) _ _ _ from ?_))
  refine wpAny_pure ⟨Code.quiet_builtin _ (by decide +kernel),
    codeAny_builtin F.entry_type_call ?_⟩
  rw [Around.under_plain (weight_type_call_type "set"
    [.ref l] []) rfl]
  have m4 := F.called_set.notType
  have m5 := F.called_set.canCreate
  have m6 := F.typeCall_set_1 (.ref l)
  repeat (any_goals (first | wp_step | assumption))
  refine codeAny_mono (code_set_led1 (.ref l) (E := E)
    (Q₁ := fun ob t => ob = .ref s.heap.objs.size ∧ t = { s with heap := s.heap.push (setO0 w) }) ⟨rfl, rfl⟩)
    fun res t made => ?_
  cases res with
  | error e => exact made
  | ok fl =>
  cases fl with
  | ret ob =>
    obtain ⟨rfl, rfl⟩ := made
    have at0 : (s.heap.push (setO0 w)).get? s.heap.objs.size = some (setO0 w) := Heap.get?_push_size _ rfl
    have ty0 : Shared.TypeIs { s with heap := s.heap.push (setO0 w) } (.ref s.heap.objs.size) "set" := ⟨_, at0, rfl⟩
    have m7 := F.called_set.init.lookup
    have m8 := F.called_set.init.bind (.ref s.heap.objs.size)
    repeat (any_goals (first | wp_step | assumption))
    refine codeAny_mono (codeAny_call_builtin (R := wants (fun r t => r = .none ∧ ∃ g tk c, t = { s with heap := g, toks := tk } ∧
        SetR w g s.heap.objs.size (fun j => decide (j ∈ ns)) c ∧ c ≤ 1000 ∧ ∀ b o, s.heap.get? b = some o → g.get? b = some o) E)
      F.called_set.init.plain F.entry_set_init (check_set_init_1 ty0 ?_)) fun res2 t2 done => ?_
    · obtain ⟨ol, lk, cl, en, dl⟩ := isl
      obtain ⟨c1, d1, x1, sl1⟩ := ol
      simp only at cl dl
      subst cl dl
      have lk' : (s.heap.push (setO0 w)).get? l = some { cls := .type "list", dict := d1, data := .seq xs en, slots := sl1 } :=
        Heap.get?_push_of_some _ lk
      have u1 := F.sub_list_set
      have u2 := F.sub_list_frozenset
      have u3 : (Value.type "list" == Value.type "dict") = false := by decide
      have isl1 : (s.heap.push (setO0 w)).IsList l xs := ⟨_, lk', rfl, en, rfl⟩
      unfold Builtin.«set.__init__» noKeywords
      unfold Builtin.Frozenset.updateFrom
      generalize iterE : pyIter = itf
      wp_walk
      subst iterE
      refine wpAny_pyIter_list isl1 (wpAny_bind (wpAny_runValue ?_))
      have lt : l < s.heap.objs.size := Heap.lt_size lk
      have calm3 : A.in1.in1.in1.handled = none := by simp [calm]
      have sz : (s.heap.push (setO0 w)).objs.size = s.heap.objs.size + 1 := Heap.size_push ..
      have ne1 : l ≠ (s.heap.push (setO0 w)).objs.size := by rw [sz]; exact Nat.ne_of_lt (Nat.lt_succ_of_lt lt)
      have ne2 : s.heap.objs.size ∉ [(s.heap.push (setO0 w)).objs.size, l] := by
        rw [sz]
        simp only [List.mem_cons, List.not_mem_nil, or_false, not_or]
        exact ⟨Nat.ne_of_lt (Nat.lt_succ_self _), Ne.symm (Nat.ne_of_lt lt)⟩
      have vals : ∀ (i : Nat) (v : Value), xs[i]? = some v → ∃ k t, ns[i]? = some k ∧ v = .int k t := fun i v e => by
        have il : i < ns.length := by rw [← size]; exact (Array.getElem?_eq_some_iff.mp e).1
        obtain ⟨t, et⟩ := IntsAre.int_at hin i v (by rw [Array.getElem?_toList]; exact e)
        refine ⟨ns.getD i 0, t, ?_, et⟩
        rw [List.getD_eq_getElem?_getD, List.getElem?_eq_getElem il]
        rfl
      refine set_update_few ((Walks.list calm3 _ l ne1 xs).toS) s.heap.objs.size ne2 ns size few vals (xs.size - 0) 0 _ (by omega)
        (Nat.zero_le _) ⟨⟨_, Heap.get?_push_size _ rfl, rfl, rfl⟩, isl1.push _⟩ ⟨0, ?_⟩ ?_
      · exact setR_new_at (Heap.get?_push_of_some _ at0)
      · intro t c mv cl1 R
        obtain ⟨g, gens, drawn, tk, os⟩ := t
        obtain rfl : gens = s.gens := mv.gens
        obtain rfl : drawn = s.drawn := mv.drawn
        obtain rfl : os = s.os := mv.os
        refine wpAny_pure (show wpAny _ _ (ret Value.none) _ _ _ from ?_)
        refine wpAny_pure ⟨rfl, g, tk, c, rfl, R, cl1, fun b o e => mv.heap b o ?_ ?_⟩
        · have lb : b < s.heap.objs.size := Heap.lt_size e
          rw [sz]
          simp only [List.mem_cons, List.not_mem_nil, or_false, not_or]
          exact ⟨Nat.ne_of_lt lb, Nat.ne_of_lt (Nat.lt_succ_of_lt lb)⟩
        · exact Heap.get?_push_of_some _ (Heap.get?_push_of_some _ e)
    · cases res2 with
      | error e => exact done
      | ok fl2 =>
      cases fl2 with
      | ret r =>
        obtain ⟨rfl, g, tk, c, rfl, R, cl1, kp⟩ := done
        repeat (any_goals (first | wp_step | assumption))
        exact h _ _ _ R cl1 kp
      | _ => exact done.elim
  | _ => exact made.elim
end
/-- set(xs), few different members -/
def rSetFew (K : PySem.W.Frag) (w : World) : List V → Hp → VK → Prop := fun xs H Q => ∃ (l : Addr) (ns : List Int), xs = [.ref l] ∧ SqL K H l (iv ns) ∧ (∀ v ∈ ns, 0 ≤ v ∧ v < (1000 : Nat)) ∧
  ∀ a n, H a = none → n ≤ 1000 → Q (.ref a) (upd H a (SetO w a (fun j => decide (j ∈ ns)) n))
theorem cr_setFew {X : Cx} (hc : X.calm = true) : CallR X (.type "set") (rSetFew X.K X.w) := by
  intro pins s σ H xs us Q I r h
  obtain ⟨l, ns, rfl, hl, hf, q⟩ := h
  rw [Vals.ref1 r]
  obtain ⟨its, rv, pl, hz⟩ := I.list hl
  have hn : H s.heap.objs.size = none := I.hok.fresh (Nat.le_refl _)
  refine set_of_few (P := X.prog) (w := X.w) ns (I.ok.hd hc) pl.isList (by simpa using ints_of_vals rv) hf fun g tk c R cl kp => ?_
  exact ⟨.ref s.heap.objs.size, upd H s.heap.objs.size (SetO X.w s.heap.objs.size (fun j => decide (j ∈ ns)) c), I.laid (t' := tk) kp (Nat.le_refl _) (setO_new R), rfl, q _ c hn cl⟩
end SH

/-! SH13: d.update(d2) of dicts with keys that are ints or strings. -/
namespace SH
open PySem PySem.Spec PyProof.Rows L2
def rDUpdate : V → List V → Hp → VK → Prop := fun x vs H Q => ∃ (a b : Addr) (kvs more : List (Key × V)), x = .ref a ∧ vs = [.ref b] ∧ H a = some (.dK kvs) ∧ H b = some (.dK more) ∧ a ≠ b ∧ kvs.length + more.length ≤ sizeLine ∧ Q .non (upd H a (.dK (mergeK kvs more)))
theorem mtd_update {X : Cx} : MtR X "dict.update" rDUpdate := by
  intro pins s σ H x vs v us Q I rx rv h
  obtain ⟨a, b, kvs, more, rfl, rfl, ea, eb, ab, hl, q⟩ := h
  obtain rfl : v = Value.ref a := rx
  rw [Vals.ref1 rv]
  obtain ⟨z1, hd1, vs1, rel1, dd1⟩ := dk_of I.hok ea
  obtain ⟨z2, hd2, vs2, rel2, dd2⟩ := dk_of I.hok eb
  refine call_meetsIn PySem.F.slot_dict_update dd1.typeIs PySem.F.entry_dict_update (PySem.F.args_dict_update_2 _ _) (meets_dict_update (mixKind X.prog X.w) a b ab hd2)
    ⟨vs1, vs2, dd1, dd2, by rw [← rel1.length, ← rel2.length]; exact hl, fun h' dd' _ hs => ?_⟩
  have he : ∃ q, h'.get? a = some q := let ⟨q, _, _, hq, _⟩ := dd'; ⟨q, hq⟩
  have hlen : (mergeK kvs more).length ≤ sizeLine := Nat.le_trans (length_mergeK more kvs) (by omega)
  exact ⟨.non, _, d_write (t' := s.toks) I (by rw [ea]; exact True.intro) hs he (dk_new hlen hd1 (KV.merge rel2 rel1) dd'), rfl, q⟩
section
variable {X : Cx} {o : Expr} {to : TE} {e : Expr} {t : TA} {apos cpos : Pos}
theorem pe_dupdate (ho : PE X o to) (ha : PA X [e] t) (hbase : attributeBase o "update" X.env (eval o X.env) = eval o X.env := by rfl) (hline : (apos.endLine == cpos.line) = true := by rfl)
    (hfew : ((backTo cpos (starEach [e] X.env)).all (fun x => !x.1) && (backToKw cpos (keywordEach [] X.env)).all (fun x => x.1.isSome)
      && decide (([e] : List Expr).length + ([] : List Keyword).length + (if ([] : List Keyword).isEmpty then 0 else 1) < 30)) = true := by rfl)
    (hs : starEach [e] X.env = (false, eval e X.env) :: starEach [] X.env := by rfl) (hplain : (backTo cpos (starEach [] X.env)).any (·.1) = false := by rfl) :
    PE X (.Call (.Attribute o "update" apos) [e] [] cpos) (tBM X.K "dict" rDUpdate to t) :=
  pe_bm PySem.F.plainAttrs_dict PySem.F.slot_dict_update PySem.F.type_dict_update mtd_update ho ha hbase hfew hline hs hplain
end
end SH

/-! SH14: defs that raise, under empty guards; raise X('..'); except X. -/
namespace SH
open PySem PySem.Spec PyProof.Rows L2
section
variable {X : Cx} {CX : CXT} {k : Nat} {f : Addr} {fd : FuncData} {st : Stmt} {ps ks : List Str} {sp : Sp} {E : L2.St → XK} {x : Str} {p pos : Pos}
  {e : Expr} {es : List Expr} {t tk : TA} {kws : List Keyword}
theorem goS {pins : List (Addr × Obj)} {σ : L2.St} {H : Hp} {s : Shared} {Q : VK} {us : List Value} {vs : List V}
    (F : FnG X.prog X.w X.K X.mg X.base CX k f fd ps sp) (room : Room k X.A) (qt : Quiet X.A) (hb : Binds X.K fd ps []) (hx : PassesAt CX X σ (E σ))
    (I : Inv X pins σ H s) (r : Vals vs us) (h : sp vs H Q (E σ)) : wpAny (model X.prog X.w) X.A (call (.ref f) us) (EP X pins σ Q) X.xe s := by
  have hl : us.length = ps.length := by rw [← r.length]; exact F.arity _ _ _ _ h
  have b := hb s us I.kIn (by rw [List.append_nil]; exact hl)
  rw [List.append_nil] at b
  refine wpAny_call (codeAny_mono (F.go X.A X.stack s H ⟨us, []⟩ us vs Q (E σ) room qt I.env0 b r h) fun r s' hq => ?_)
  cases r with
  | error e => exact hx pins H s e s' I hq
  | ok fl =>
    cases fl with
    | ret u => exact I.after hq
    | next => exact False.elim hq
    | brk => exact False.elim hq
    | cont => exact False.elim hq
/-- f(e, ..), f a def that may raise: what is raised is wished for at the caller's slots -/
theorem pe_hasS (h : Has X.prog X.w X.K X.mg X.base CX k x st ps sp) (room : Room k X.A) (qt : Quiet X.A) (hg : Gl X x)
    (hx : ∀ σ, PassesAt CX X σ (E σ)) (ha : PA X (e :: es) t) (hdb : (x == ("__debug__" : Str)) = false := by decide)
    (he : starEach (e :: es) X.env = (false, eval e X.env) :: starEach es X.env := by rfl)
    (hpl : (backTo pos (starEach es X.env)).any (·.1) = false := by rfl) :
    PE X (.Call (.Name x p) (e :: es) [] pos) (tCallS sp E t) := by
  obtain ⟨f, fd, F, m, G, b⟩ := h
  refine ⟨fun pins s σ H Q I h => ?_⟩
  refine wpAny_Call_Name_kw (ld_glob I hg m ?_ hdb)
  refine PySem.W.callWith_K (h₀ := X.base) I.ok.mod.kin F.kp (thn (ha.run pos pins s σ H _ I h) fun us s1 ⟨vs, H1, I1, r, q⟩ => ⟨I1.kIn, ?_⟩) he hpl
  exact goS G room qt b (hx σ) I1 r q
end
section
variable {P : Program} {w : World} {K : PySem.W.Frag} {mg : Str → Option Value} {base : Heap}
/-- THE RULE for a def that may raise -/
theorem Has.ofX {x : Str} {st : Stmt} {N ps : List Str} {k : Nat} {sp : Sp} (at_ : At K mg x st)
    (S : FnScope N ps (defScope st)) (len : ∀ vs H Q E, sp vs H Q E → vs.length = ps.length)
    (bd : ∀ (kV doc pm : Value) (an : Option Addr) (cdv ct : Value) (us : List Value), us.length = ps.length →
      bindArgs (PySem.W.fnOf x x (defArgs st) (defBody st) (defScope st) .none kV doc pm an cdv ct) ⟨us, []⟩ = pure (ps.zip us))
    (walk : ∀ (f : Addr) (cdv : Value) (A : Around) (outer : List Env) (s : Shared) (H : Hp) (vs : List V) (Q : VK) (E : XK),
      Room k (A.deeper (envOfC x (defScope st) s.heap.objs.size f cdv)) →
      Quiet (A.deeper (envOfC x (defScope st) s.heap.objs.size f cdv)) → sp vs H Q E →
      ∃ t, PSs (cxOf (L2.CX P w) P w K mg base N x (defScope st) f cdv A outer s H E) (defBody st) t ∧
        t { nx := fun _ H' => Q .non H', rt := Q } (start N vs) H) :
    Has P w K mg base (L2.CX P w) (k + 1) x st ps sp := by
  obtain ⟨f, fd, F, m⟩ := at_
  exact ⟨f, fd, F, m, FnG.of F S len (walk f), F.binds bd⟩
end
/-- an own error class over ValueError, without own __init__, stands at the name x -/
structure Err (K : PySem.W.Frag) (mg : Str → Option Value) (x : Str) (C : Addr) : Prop where
  g : mg x = some (.ref C)
  q : PySem.W.excIn K C HandSPX.veTail "ValueError.__new__" = true
  k : PySem.W.keepIn K (.ref C) = true
  e : PySem.W.subIn K (.ref C) (.type "BaseException") = some true
  t : PySem.W.typeIn K (.ref C) = some (.type "type")
theorem ps_raiseE {X : Cx} {W : WX} {x m : Str} {C : Addr} {j : Nat} {p p2 pos pos' : Pos} (E : Err X.K X.mg x C) (hc : X.calm = true) (tk : Takes X W) (hg : Gl X x)
    (hdb : (x == ("__debug__" : Str)) = false := by decide) :
    PS X (.Raise (some (.Call (.Name x p) [.Constant (.str m) j p2] [] pos)) none pos') (fun _ σ H => W (.ref C) none σ H) :=
  ps_raise hc tk (pmk_own PySem.F.excBase_ValueError E.q E.g E.k (raises_own E.e E.t) hg hdb)
/-- an error of the class at C is what «except S» names, or not -/
structure Catch (K : PySem.W.Frag) (C S : Addr) (b : Bool) : Prop where
  is : PySem.W.exmOne K (.ref C) (.ref S) = some b
theorem Catch.of {K : PySem.W.Frag} {C S : Addr} {b : Bool} (h1 : PySem.W.subIn K (.ref S) (.type "BaseException") = some true) (h2 : PySem.W.isClsIn K S = true) (h3 : PySem.W.typeIn K (.ref S) = some (.type "type")) (h4 : PySem.W.subIn K (.ref C) (.ref S) = some b) : Catch K C S b := by
  refine ⟨?_⟩
  have e1 : (PySem.W.subIn K (.ref S) (.type "BaseException") == some true) = true := by rw [h1] <;> rfl
  have e2 : ((PySem.W.clsIn K S).isSome && PySem.W.typeIn K (.ref S) == some (.type "type")) = true := by
    have h2' : (PySem.W.clsIn K S).isSome = true := h2
    rw [h2', h3] <;> rfl
  show (if (PySem.W.subIn K (.ref S) (.type "BaseException") == some true) = true then (if ((PySem.W.clsIn K S).isSome && PySem.W.typeIn K (.ref S) == some (.type "type")) = true then PySem.W.subIn K (.ref C) (.ref S) else none) else none) = some b
  rw [if_pos e1, if_pos e2]
  exact h4
end SH

/-! SH15: sorted(pairs of ints, reverse=True). -/
namespace SH
open PySem PySem.Spec PyProof.Rows L2
section
variable {X : Cx}
def rSortedPOR (K : PySem.W.Frag) : List V → List V → Hp → VK → Prop := fun vs zs H Q => ∃ (a : Addr) (xs : List V) (k : V → Int × Int), vs = [V.ref a] ∧ zs = [.bl true] ∧ SqL K H a xs ∧ (∀ x ∈ xs, ∃ t, x = V.ref t ∧ H t = some (.tup [.int (k x).1, .int (k x).2])) ∧
  ∀ ys p, SrtO.Srtd (ltP k) ys → ys.Perm xs → H p = none → Q (.ref p) (upd H p (.lst ys.reverse))
theorem cr_sortedPOR : CallRK X (.builtin "sorted") [Str.ofString "reverse"] (rSortedPOR X.K) := by
  intro pins s σ H vs zs us ws Q I r rz h
  obtain ⟨a, xs, k, rfl, rfl, hs, hx, q⟩ := h
  obtain rfl := Vals.ref1 r
  obtain ⟨w1, rfl, e0⟩ := vals1 rz
  obtain rfl : w1 = Value.bool true := e0
  obtain ⟨its, rv, hl, hz⟩ := I.list hs
  obtain ⟨e1, e2⟩ := refs_back rv fun x m => by
    obtain ⟨t, e, _⟩ := hx x m
    exact ⟨t, e⟩
  have hp : ∀ v ∈ its, Srt.IsPair s.heap v (k (backV v)).1 (k (backV v)).2 := fun v hv => by
    obtain ⟨t, rfl⟩ := e2 v hv
    have hm : V.ref t ∈ xs := by rw [e1]; exact List.mem_map.mpr ⟨_, hv, rfl⟩
    obtain ⟨t', e, ht⟩ := hx _ hm
    cases e
    obtain ⟨_, its2, r2, o, ho, hc, n, hd⟩ := I.hok _ _ ht
    obtain ⟨u1, u2, rfl, ri, rj⟩ := vals2 r2
    obtain ⟨t1, rfl⟩ := ri
    obtain ⟨t2, rfl⟩ := rj
    exact ⟨t, o, t1, t2, n, rfl, ho, hc, hd⟩
  have zl : its.length ≤ sizeLine := by rw [← rv.length]; exact hz
  refine SrtR.sorted_ordK (b := true) (fun _ => rfl) (PyProof.Rows.args_sorted_rev _ _) (fun _ => PyProof.Rows.args_list_sort_rev _ _) (SrtO.swo_lex fun u => k (backV u)) hl.isList zl (fun h2 h₁ a' ho keep => SrtO.pairs_sortableO (by omega) (fun v hv => ?_) fun o e => ?_) fun out h1 h2 => ?_
  · obtain ⟨t, o, t1, t2, n, e3, ho', hc, hd⟩ := hp v hv
    exact ⟨t, o, t1, t2, n, e3, (keep _ _ ho').2, hc, hd⟩
  · have e' : some o = some (seqObj "list" its.toArray 0) := e.symm.trans ho
    cases e'
    exact fun z => by
      injection z with z3
      exact absurd z3 (by decide)
  have h2p : out.Perm its := h2.perm.trans (List.reverse_perm _)
  have h3 : ∀ u ∈ out, ∃ a, u = Value.ref a := fun u hu => e2 u (h2p.mem_iff.mp hu)
  have hb : (out.map backV).Perm xs := by
    rw [e1]
    exact h2p.map backV
  obtain ⟨ep, he'⟩ := PyProof.Rows.sortedAll_at s.heap its out.toArray.reverse
  have hlen : (out.map backV).reverse.length ≤ sizeLine := by
    rw [List.length_reverse, hb.length_eq]
    exact hz
  have er : (out.map backV).reverse = out.reverse.map backV := by rw [List.map_reverse]
  have h4 : ∀ u ∈ out.reverse, ∃ a, u = Value.ref a := fun u hu => h3 u (List.mem_reverse.mp hu)
  refine ⟨.ref _, upd H (s.heap.objs.size + 1) (.lst (out.map backV).reverse), I.laid (t' := s.toks) (fun _ _ => PyProof.Rows.sortedAll_old) (Nat.le_succ _) ⟨hlen, out.reverse, ep, ?_, ?_⟩, rfl, q _ _ (SrtO.srtd_map h1) hb (I.hok.fresh (Nat.le_succ _))⟩
  · rw [er]; exact vals_back h4
  · have e0 : out.reverse.toArray = out.toArray.reverse := by simp
    rw [e0]; exact he'
end
end SH

/-! SH16: comprehensions over ranges with a step. -/
namespace SH
open PySem PySem.Spec PyProof.Rows L2
theorem lc_rangeC {lo c : Int} {n : Nat} {g : TG} {tt : TT} {te : TE} {vs : List Nat} {σ : L2.St} {H1 : Hp} {D : Addr} {Qd : Hp → Prop} (Pv : Nat → Hp → Prop) (h0 : Pv 0 (upd H1 D (.lst [])))
    (hs : ∀ i H, i < n → Pv i H → g (.int (lo + (i : Nat) * c)) (wipe σ vs) H fun σ2 H2 => wipe σ2 vs = wipe σ vs ∧ tt σ2 H2 fun b H3 =>
      if b = true then te σ2 H3 fun y H4 => ∃ acc, H4 D = some (.lst acc) ∧ acc.length < sizeLine ∧ Pv (i + 1) (upd H4 D (.lst (acc ++ [y]))) else Pv (i + 1) H3) (hd : ∀ H, Pv n H → Qd H) :
    ∃ W : Nat → Nat → Hp → Prop, (∃ m, W 0 m (upd H1 D (.lst []))) ∧ ∀ i m H, W i m H →
      ((Itc lo c n).stop i H ∧ Qd H) ∨ ((Itc lo c n).go i H ∧ ∃ Nx : Hp → Prop, (∀ H', Nx H' → ∃ m', m' < m ∧ W (i + 1) m' H') ∧ ∀ x H', (Itc lo c n).yld i H x H' → g x (wipe σ vs) H' fun σ2 H2 => wipe σ2 vs = wipe σ vs ∧ tt σ2 H2 fun b H3 =>
        if b = true then te σ2 H3 fun y H4 => ∃ acc, H4 D = some (.lst acc) ∧ acc.length < sizeLine ∧ Nx (upd H4 D (.lst (acc ++ [y]))) else Nx H3) := by
  refine ⟨fun i m H => m = n - i ∧ i ≤ n ∧ Pv i H, ⟨n, by simp, Nat.zero_le _, h0⟩, ?_⟩
  rintro i m H ⟨rfl, hi, p⟩
  by_cases hlt : i < n
  · refine .inr ⟨hlt, Pv (i + 1), fun H' p' => ⟨n - (i + 1), by omega, rfl, hlt, p'⟩, fun x H' y => ?_⟩
    obtain ⟨e, y⟩ := y
    subst e y
    exact hs i _ hlt p
  · have e : i = n := by omega
    subst e
    exact .inl ⟨Nat.le_refl _, hd H p⟩
section
variable {tt : TT} {te : TE} {vs : List Nat} {σ : L2.St} {H : Hp} {D : Addr} {Qd : Hp → Prop}
theorem lcCn {lo c : Int} {n j : Nat} (keep : Nat → Bool) (val : Nat → V) (hD : H D = none) (hn : n < 100000)
    (hw : ∀ x, wipe ((wipe σ vs).set j (some x)) vs = wipe σ vs)
    (ht : ∀ i H2 (Q : Bool → Hp → Prop), i < n → Same H H2 → (∀ H3, Same H2 H3 → Q (keep i) H3) → tt ((wipe σ vs).set j (some (.int (lo + (i : Nat) * c)))) H2 Q)
    (he : ∀ i H2 (Q : VK), i < n → keep i = true → Same H H2 → (∀ H3, Same H2 H3 → Q (val i) H3) → te ((wipe σ vs).set j (some (.int (lo + (i : Nat) * c)))) H2 Q)
    (hd : ∀ H', Same H H' → H' D = some (.lst (gives n keep val)) → Qd H') :
    ∃ W : Nat → Nat → Hp → Prop, (∃ m, W 0 m (upd H D (.lst []))) ∧ ∀ i m H, W i m H →
      ((Itc lo c n).stop i H ∧ Qd H) ∨ ((Itc lo c n).go i H ∧ ∃ Nx : Hp → Prop, (∀ H', Nx H' → ∃ m', m' < m ∧ W (i + 1) m' H') ∧
        ∀ x H', (Itc lo c n).yld i H x H' → gName j x (wipe σ vs) H' fun σ2 H2 => wipe σ2 vs = wipe σ vs ∧ tt σ2 H2 fun b H3 =>
          if b = true then te σ2 H3 fun y H4 => ∃ acc, H4 D = some (.lst acc) ∧ acc.length < sizeLine ∧ Nx (upd H4 D (.lst (acc ++ [y]))) else Nx H3) :=
  lc_rangeC (fun i H2 => Same H H2 ∧ H2 D = some (.lst (gives i keep val))) ⟨Same.new hD, upd_same⟩
    (fun i H2 hi e => ⟨hw _, lc_turnS hD hi hn e.1 e.2 (fun Q q => ht i H2 Q hi e.1 q) (fun H3 s3 Q k q => he i H3 Q hi k (e.1.trans s3) q)⟩)
    (fun H2 e => hd H2 e.1 e.2)
end
theorem rgC_400 {c : Int} (h1 : 1 ≤ c) (h2 : c ≤ 11) : RgC 0 400 c ((399 / c).toNat + 1) := by
  have : c = 1 ∨ c = 2 ∨ c = 3 ∨ c = 4 ∨ c = 5 ∨ c = 6 ∨ c = 7 ∨ c = 8 ∨ c = 9 ∨ c = 10 ∨ c = 11 := by omega
  rcases this with rfl | rfl | rfl | rfl | rfl | rfl | rfl | rfl | rfl | rfl | rfl <;> exact ⟨by decide, by decide, by decide +kernel, by decide +kernel⟩
end SH

/-! SH17: max and min of a tuple of two ints. -/
namespace SH
open PySem PySem.Spec PyProof.Rows L2
section
variable {X : Cx}
def rMaxT (K : PySem.W.Frag) : List V → Hp → VK → Prop := fun vs H Q => ∃ (a : Addr) (x y : Int), vs = [V.ref a] ∧ SqT K H a [.int x, .int y] ∧ Q (.int (if x < y then y else x)) H
theorem cr_maxT (hc : X.calm = true) (hu : X.A.units + 64 < cLine) : CallR X (.builtin "max") (rMaxT X.K) := by
  intro pins s σ H vs us Q I r h
  obtain ⟨a, x, y, rfl, hs, q⟩ := h
  obtain ⟨its, rv, hl, _⟩ := I.tuple hs
  rw [Vals.ref1 r]
  obtain ⟨as, rd⟩ := Dp.readsAll I [.int x, .int y] _ _ (dp_ints [x, y]) rv
  refine PySem.W.max_tuple_data (I.ok.hd hc) hl (by simpa using rd) ⟨fun a ha b hb => ?_, fun a ha => ?_⟩ (by show X.A.units + 1 + 0 < cLine; omega) fun i v h' tk bs hi r hk => ?_
  · simp only [List.mem_cons, List.not_mem_nil, or_false] at ha hb
    rcases ha with rfl | rfl <;> rcases hb with rfl | rfl <;> rfl
  · simp only [List.mem_cons, List.not_mem_nil, or_false] at ha
    rcases ha with rfl | rfl <;> exact fun z => nomatch z
  · have e : PySem.W.maxD (PyData.int x) [PyData.int y] = .int (max x y) := PySem.W.maxD_ints x [y]
    rw [e] at r
    cases r with
    | int _ t =>
      refine ⟨.int _, H, I.kept hk, ⟨_, rfl⟩, ?_⟩
      have e2 : max x y = if x < y then y else x := by split <;> omega
      rw [e2]
      exact q
def rMinT (K : PySem.W.Frag) : List V → Hp → VK → Prop := fun vs H Q => ∃ (a : Addr) (x y : Int), vs = [V.ref a] ∧ SqT K H a [.int x, .int y] ∧ Q (.int (if y < x then y else x)) H
theorem cr_minT (hc : X.calm = true) (hu : X.A.units + 64 < cLine) : CallR X (.builtin "min") (rMinT X.K) := by
  intro pins s σ H vs us Q I r h
  obtain ⟨a, x, y, rfl, hs, q⟩ := h
  obtain ⟨its, rv, hl, _⟩ := I.tuple hs
  rw [Vals.ref1 r]
  obtain ⟨as, rd⟩ := Dp.readsAll I [.int x, .int y] _ _ (dp_ints [x, y]) rv
  refine PySem.W.min_tuple_data (I.ok.hd hc) hl (by simpa using rd) ⟨fun a ha b hb => ?_, fun a ha => ?_⟩ (by show X.A.units + 1 + 0 < cLine; omega) fun i v h' tk bs hi r hk => ?_
  · simp only [List.mem_cons, List.not_mem_nil, or_false] at ha hb
    rcases ha with rfl | rfl <;> rcases hb with rfl | rfl <;> rfl
  · simp only [List.mem_cons, List.not_mem_nil, or_false] at ha
    rcases ha with rfl | rfl <;> exact fun z => nomatch z
  · have e : PySem.W.minD (PyData.int x) [PyData.int y] = .int (min x y) := PySem.W.minD_ints x [y]
    rw [e] at r
    cases r with
    | int _ t =>
      refine ⟨.int _, H, I.kept hk, ⟨_, rfl⟩, ?_⟩
      have e2 : min x y = if y < x then y else x := by split <;> omega
      rw [e2]
      exact q
end
end SH

/-! SH18: errors that are caught and looked at: their context None, kept behind the suite, isinstance of them. -/
namespace SH
open PySem PySem.Spec PyProof.Rows L2
/-- at a: an error of the class cls, its dict at d -/
def ErO (cls : Value) (d : Option Addr) (a : Addr) : HO := .ext fun h => ∃ (oe : Obj) (vs : Array Value), h.get? a = some oe ∧ L2.Zc cls d oe ∧ oe.data = .fields vs
theorem erO_mk {P : Program} {w : World} {H : Hp} {h : Heap} {a : Addr} {cls : Value} {d : Option Addr} {oe : Obj} {vs : Array Value} (e : h.get? a = some oe) (z : L2.Zc cls d oe) (dv : oe.data = .fields vs) : ObjOk P w H h a (ErO cls d a) :=
  ⟨⟨oe, vs, e, z, dv⟩, ⟨oe, e⟩, fun _ _ ⟨o, v, q, r⟩ k => ⟨o, v, k o q, r⟩⟩
section
variable {X : Cx} {pins : List (Addr × Obj)} {σ : L2.St} {H : Hp} {s : Shared}
/-- an error that the suite held is tracked behind it -/
theorem adopt {a : Addr} {oe : Obj} {cls : Value} {d : Option Addr} {vs : Array Value} (ok : X.Ok) (I : Inv (X.suite a ((a, oe) :: (X.pn ++ pins))) [] σ H s) (z : L2.Zc cls d oe) (dv : oe.data = .fields vs)
    (new : X.s_0.heap.get? a = none) (np : ∀ p ∈ X.pn ++ pins, p.1 ≠ a) : Inv X pins σ (upd H a (ErO cls d a)) s := by
  obtain ⟨ha, hn, hl, hf, hc⟩ := I.pin (a, oe) (List.mem_append_left _ List.mem_cons_self)
  have old : ∀ {b : Addr} {o : Obj}, X.s_0.heap.get? b = some o → b ≠ a := fun {b o} q e => by
    rw [e, new] at q; cases q
  have B := I.base
  refine ⟨ok, I.os, I.bare, ⟨B.keep, B.slot, fun b o q n x => ?_, B.there, fun b xs q => ?_, fun b o u q => ?_, fun b ps q => ?_⟩, I.loc, I.cell, ?_, fun x c e => ?_, fun p hp => ?_, ?_, I.len⟩
  · rw [upd_ne (old q)]; exact B.free b o q n x
  · have := B.tups b xs q
    rw [upd_ne (ne_of_none this hn)]; exact this
  · have := B.frzs b o u q
    rw [upd_ne (ne_of_none this hn)]; exact this
  · obtain ⟨m, q2⟩ := B.tbls b ps q
    exact ⟨m, by rw [upd_ne (ne_of_none q2 hn)]; exact q2⟩
  · rw [upd_ne (Ne.symm hl)]; exact I.free
  · have e' : c ≠ a := fun y => by
      obtain ⟨v, o, ho, hd⟩ := I.cell x c e
      rw [y, ha] at ho
      cases ho
      exact hc v hd
    rw [upd_ne e']
    exact I.freeC x c e
  · obtain ⟨e1, e2, e3⟩ := I.pin p (by rw [List.append_nil]; exact List.mem_cons_of_mem _ hp)
    exact ⟨e1, by rw [upd_ne (np p hp)]; exact e2, e3⟩
  · exact HOk.laidN I.hok (fun _ _ q => q) hn (erO_mk ha z dv)
end
/-- what a clause that takes all that the body may raise wishes: slot i is the clause's name, and behind the suite the error is tracked -/
def wE (K : PySem.W.Frag) (c : Value) (i : Nat) (ts : Addr → Value → Option Addr → TS) (D : Ends) : WX := fun cls d σ H => PySem.W.exmOne K cls c = some true ∧ ∀ a, H a = none →
  ts a cls d { nx := fun τ G => D.nx (τ.set i none) (upd G a (ErO cls d a)), bk := fun τ G => D.bk (τ.set i none) (upd G a (ErO cls d a)), ct := fun τ G => D.ct (τ.set i none) (upd G a (ErO cls d a)), rt := fun v G => D.rt v (upd G a (ErO cls d a)) } (σ.set i (some (.ref a))) H
section
variable {X : Cx} {x n : Str} {c : Value} {i : Nat} {body suite : List Stmt} {b₀ : Stmt} {np pos pos' : Pos} {tb : WX → TS} {ts : Addr → Value → Option Addr → TS}
/-- try: body / except x as n: suite, where the clause takes all that the body may raise -/
theorem ps_tryE (hs : X.stack = X.env :: X.outer) (hf : X.env.frame = some X.env.locals) (hex : X.ex = []) (hN : X.N.Nodup) (hi : X.N[i]? = some n) (hln : X.env.kindOf n = some .local) (hc : Names X x c)
    (hb : ∀ (W : WX) (pn : List (Addr × Obj)) (xe : Value → Shared → Prop), L2N.Takes (X.tr pn xe) W → PassesOwn (model X.prog X.w) X.A X.env xe → PSs (X.tr pn xe) body (tb W))
    (hsu : ∀ (a : Addr) (oe : Obj) (cls : Value) (d : Option Addr) (pn : List (Addr × Obj)), L2N.Zn cls d oe → (∃ vs, oe.data = .fields vs) → PSs (X.suite a ((a, oe) :: pn)) (b₀ :: suite) (ts a cls d)) :
    PS X (.Try body [.ExceptHandler (some (.Name x np)) (some n) (b₀ :: suite) pos'] [] [] pos) (fun D σ H => tb (wE X.K c i ts D) D σ H) := by
  refine ⟨fun pins s σ H D I h => wpAny_Try_except ?_⟩
  have ok := I.ok
  have hfr : X.A.frames = some (X.env :: X.outer) := ok.frames.trans (congrArg some hs)
  refine wpAny_mono ((hb (wE X.K c i ts D) (X.pn ++ pins) _ (fun u s' xx => ?_) PassesOwn.looking).run [] s σ H D (I.toTry _) h) (fun f s1 q => ?_) fun e s1 q => q
  · obtain ⟨a, B, sI, _, τ, G, cls, d, rfl, J0, nb, up, sky, na, os, ag, em, go⟩ := xx
    have J : Inv X pins τ G sI := J0.ofTry ok
    refine L2N.Sky.land L2N.Zn.steady hfr hf (by rw [← hs]; exact sky) fun h3 fl3 up3 => ?_
    obtain ⟨o3, v3, at3, z3, d3⟩ := fl3.there
    -- a stands apart from the frames, and was not there before
    have nfr : a ∉ frs X.stack := fun hm => by
      rw [hs] at hm
      obtain ⟨_, o', e', hnf⟩ := fl3.2.2.1.mem hm
      rw [at3] at e'
      cases e'
      exact hnf _ d3
    have nI : sI.heap.get? a = none := by
      cases q : sI.heap.get? a with
      | none => rfl
      | some o =>
        have := nb a o q nfr
        rw [fl3.2.1] at this
        cases this
    have n0 : X.s_0.heap.get? a = none := by
      cases q : X.s_0.heap.get? a with
      | none => rfl
      | some o =>
        obtain ⟨o', q'⟩ := J.base.there a o q (by rw [hex]; exact List.not_mem_nil)
        rw [nI] at q'
        cases q'
    have nL : a ≠ X.env.locals := fun z => nfr (by rw [hs]; exact List.mem_filterMap.mpr ⟨X.env, List.mem_cons_self, by rw [hf, z]⟩)
    have nF : a ∉ X.fs := fun hm => nfr (by
      rw [hs]
      obtain ⟨e, he, q⟩ := List.mem_filterMap.mp hm
      exact List.mem_filterMap.mpr ⟨e, List.mem_cons_of_mem _ he, q⟩)
    have np' : ∀ p ∈ X.pn ++ pins, p.1 ≠ a := fun p hp z => by
      have := (J.pin p hp).1
      rw [z, nI] at this
      cases this
    have L3 : Inv X pins τ G { s' with heap := h3 } := J.landed nb fl3.1 (up.trans up3) os ag
    have S3 := L3.suite at3 d3 na nL nF
    have ty : PySem.W.Looks (model X.prog X.w) h3 (typeOf (.ref a)) cls := fun A Q E s k q => wpAny_typeOf_ref (k _ _ at3) (by rw [z3.1]; exact q)
    have named : ∀ {Q E : Value → Shared → Prop}, Q c { s' with heap := h3 } → wpAny (model X.prog X.w) (X.A.mark (some (.ref a))) (eval (.Name x np) X.env) Q E { s' with heap := h3 } := fun {Q E} q => by
      rcases hc with ⟨g, db, m | ⟨m, bv, nn⟩⟩
      · exact ld_glob (X := X.suite a ((a, o3) :: (X.pn ++ pins))) S3 g m q db
      · exact ld_blt (X := X.suite a ((a, o3) :: (X.pn ++ pins))) S3 g m bv q nn db
    refine wpAny_handleBy_cons (codeAny_handlers_test (named ((PySem.W.exm_one (M := model X.prog X.w) L3.kIn ty em).here ?_))) (fun q => by cases q)
    refine codeAny_handlers_suite_as (HandSPX.lands_againZ fl3 fun h4 fl4 up4 => ?_)
    obtain ⟨o4, v4, at4, z4, d4⟩ := fl4.there
    have L4 : Inv X pins τ G { s' with heap := h4 } := J.landed nb fl4.1 ((up.trans up3).trans up4) os ag
    have S4 := L4.suite at4 d4 na nL nF
    refine store_ok (X := X.suite a ((a, o4) :: (X.pn ++ pins))) (v := .ref a) S4 hN hi (.inl hln) rfl (fun s5 S5 => ?_) (.inr hln)
    refine wpAny_mono ((hsu a o4 cls d (X.pn ++ pins) z4 ⟨_, d4⟩).run [] s5 _ G _ S5 (go a na)) (fun f s6 q => ?_) fun _ _ z => False.elim z
    have out : ∀ {τ6 : L2.St} {G6 : Hp} {Q : Shared → Prop}, Inv (X.suite a ((a, o4) :: (X.pn ++ pins))) [] τ6 G6 s6 → (∀ s7, Inv X pins (τ6.set i none) (upd G6 a (ErO cls d a)) s7 → Q s7) →
        wpAny (model X.prog X.w) X.A (do bindName X.env n .none; unbindBehindTheSuite X.env n pos') (fun _ s7 => Q s7) X.xe s6 := fun S6 hq => gone_ok (adopt ok S6 z4.zc d4 n0 np') hN hi hln hq
    cases f with
    | ret u => obtain ⟨v6, τ6, G6, S6, r6, q6⟩ := q; exact out S6 fun s7 J7 => ⟨_, _, _, J7, r6, q6⟩
    | next => obtain ⟨τ6, G6, S6, q6⟩ := q; exact out S6 fun s7 J7 => ⟨_, _, J7, q6⟩
    | brk => obtain ⟨τ6, G6, S6, q6⟩ := q; exact out S6 fun s7 J7 => ⟨_, _, J7, q6⟩
    | cont => obtain ⟨τ6, G6, S6, q6⟩ := q; exact out S6 fun s7 J7 => ⟨_, _, J7, q6⟩
  · cases f with
    | ret u => obtain ⟨v, τ, G, J, r, q⟩ := q; exact ⟨v, τ, G, J.ofTry ok, r, q⟩
    | next => obtain ⟨τ, G, J, q⟩ := q; exact wpAny_execs_nil ⟨τ, G, J.ofTry ok, q⟩
    | brk => obtain ⟨τ, G, J, q⟩ := q; exact ⟨τ, G, J.ofTry ok, q⟩
    | cont => obtain ⟨τ, G, J, q⟩ := q; exact ⟨τ, G, J.ofTry ok, q⟩
end
section
variable {K : PySem.W.Frag} {tt : TT} {te : TE} {vs : List Nat} {σ : L2.St} {H : Hp} {D : Addr} {Qd : Hp → Prop}
theorem Same.sqT {H H' : Hp} {a : Addr} {xs : List V} (e : Same H H') (h : SqT K H a xs) : SqT K H' a xs :=
  h.imp (fun q => q.imp (fun z => e _ _ z) (fun ⟨o, z⟩ => ⟨o, e _ _ z⟩)) id
/-- [.. for x in t ..], t a tuple -/
theorem lcTn {a : Addr} {xs : List V} {j : Nat} (keep : Nat → Bool) (val : Nat → V) (hx : SqT K H a xs) (hD : H D = none) (hn : xs.length < 100000)
    (hw : ∀ x, wipe ((wipe σ vs).set j (some x)) vs = wipe σ vs)
    (ht : ∀ i x H2 (Q : Bool → Hp → Prop), xs[i]? = some x → Same H H2 → (∀ H3, Same H2 H3 → Q (keep i) H3) → tt ((wipe σ vs).set j (some x)) H2 Q)
    (he : ∀ i x H2 (Q : VK), xs[i]? = some x → keep i = true → Same H H2 → (∀ H3, Same H2 H3 → Q (val i) H3) → te ((wipe σ vs).set j (some x)) H2 Q)
    (hd : ∀ H', Same H H' → H' D = some (.lst (gives xs.length keep val)) → Qd H') :
    ∃ W : Nat → Nat → Hp → Prop, (∃ m, W 0 m (upd H D (.lst []))) ∧ ∀ i m H, W i m H →
      ((Itt K a).stop i H ∧ Qd H) ∨ ((Itt K a).go i H ∧ ∃ Nx : Hp → Prop, (∀ H', Nx H' → ∃ m', m' < m ∧ W (i + 1) m' H') ∧
        ∀ x H', (Itt K a).yld i H x H' → gName j x (wipe σ vs) H' fun σ2 H2 => wipe σ2 vs = wipe σ vs ∧ tt σ2 H2 fun b H3 =>
          if b = true then te σ2 H3 fun y H4 => ∃ acc, H4 D = some (.lst acc) ∧ acc.length < sizeLine ∧ Nx (upd H4 D (.lst (acc ++ [y]))) else Nx H3) :=
  lc_tup (xs := xs) (fun i H2 => Same H H2 ∧ H2 D = some (.lst (gives i keep val))) ⟨Same.new hD, upd_same⟩
    (fun i H2 hi e => Same.sqT e.1 hx)
    (fun i x H2 hi e => ⟨hw _, lc_turnS hD (List.getElem?_eq_some_iff.mp hi).1 hn e.1 e.2 (fun Q q => ht i x H2 Q hi e.1 q) (fun H3 s3 Q k q => he i x H3 Q hi k (e.1.trans s3) q)⟩)
    (fun H2 e => hd H2 e.1 e.2)
end
end SH

namespace SH
open PySem PySem.Spec PyProof.Rows L2
def topS (i : Nat) : Stmt := PySem.Challenge.pw_stickyheads_k46_whole_folds_bring_lines.main.body.getD i (.Pass ⟨0, 0, 0, 0⟩)
abbrev s_is_integer_from : Stmt := topS 8
abbrev N_is_integer_from : List Str := ["value", "least"]
abbrev P_is_integer_from : List Str := ["value", "least"]
theorem sc_is_integer_from : FnScope N_is_integer_from P_is_integer_from (defScope s_is_integer_from) := ⟨rfl, rfl, rfl, by decide +kernel, rfl, by decide +kernel, by decide +kernel⟩
abbrev s_is_integer_within : Stmt := topS 9
abbrev N_is_integer_within : List Str := ["value", "least", "greatest"]
abbrev P_is_integer_within : List Str := ["value", "least", "greatest"]
theorem sc_is_integer_within : FnScope N_is_integer_within P_is_integer_within (defScope s_is_integer_within) := ⟨rfl, rfl, rfl, by decide +kernel, rfl, by decide +kernel, by decide +kernel⟩
abbrev s_is_outline : Stmt := topS 13
abbrev N_is_outline : List Str := ["value", "greatest", "depth"]
abbrev P_is_outline : List Str := ["value"]
theorem sc_is_outline : FnScope N_is_outline P_is_outline (defScope s_is_outline) := ⟨rfl, rfl, rfl, by decide +kernel, rfl, by decide +kernel, by decide +kernel⟩
abbrev s_check_outline : Stmt := topS 14
abbrev N_check_outline : List Str := ["outline"]
abbrev P_check_outline : List Str := ["outline"]
theorem sc_check_outline : FnScope N_check_outline P_check_outline (defScope s_check_outline) := ⟨rfl, rfl, rfl, by decide +kernel, rfl, by decide +kernel, by decide +kernel⟩
abbrev s_stop_of : Stmt := topS 16
abbrev N_stop_of : List Str := ["outline", "line"]
abbrev P_stop_of : List Str := ["outline", "line"]
theorem sc_stop_of : FnScope N_stop_of P_stop_of (defScope s_stop_of) := ⟨rfl, rfl, rfl, by decide +kernel, rfl, by decide +kernel, by decide +kernel⟩

/-! ### outlines as lists of ints -/
def okFrom : Int → List Int → Bool
  | _, [] => true
  | g, d :: r => decide (0 ≤ d) && decide (d ≤ g) && okFrom (d + 1) r
def isO (ns : List Int) : Bool := decide (1 ≤ ns.length) && decide (ns.length ≤ 200) && okFrom 0 ns
/-- the greatest depth that may stand at place i -/
def gAt (ns : List Int) : Nat → Int
  | 0 => 0
  | i + 1 => ns.getD i 0 + 1
theorem okFrom_drop {ns : List Int} {i : Nat} (h : i < ns.length) (g : Int) : okFrom g (ns.drop i) =
    (decide (0 ≤ ns.getD i 0) && decide (ns.getD i 0 ≤ g) && okFrom (ns.getD i 0 + 1) (ns.drop (i + 1))) := by
  rw [List.drop_eq_getElem_cons h, List.getD_eq_getElem?_getD, List.getElem?_eq_getElem h]
  rfl
theorem okFrom_at {ns : List Int} : ∀ {g : Int} {i : Nat}, okFrom g ns = true → i < ns.length →
    0 ≤ ns.getD i 0 ∧ (∀ j, i = j + 1 → ns.getD i 0 ≤ ns.getD j 0 + 1) ∧ (i = 0 → ns.getD i 0 ≤ g) := by
  induction ns with
  | nil => intro g i _ h; exact absurd h (Nat.not_lt_zero _)
  | cons d r ih =>
    intro g i h hi
    simp only [okFrom, Bool.and_eq_true, decide_eq_true_eq] at h
    cases i with
    | zero => exact ⟨h.1.1, fun j e => by omega, fun _ => h.1.2⟩
    | succ i =>
      have hi' : i < r.length := Nat.lt_of_succ_lt_succ hi
      obtain ⟨a, b, c⟩ := ih (i := i) h.2 hi'
      refine ⟨a, fun j e => ?_, fun e => by omega⟩
      obtain rfl : i = j := by omega
      cases i with
      | zero => exact c rfl
      | succ i => exact b i rfl
theorem okFrom_of {ns : List Int} : ∀ {g : Int}, (∀ i, i < ns.length → 0 ≤ ns.getD i 0 ∧ (∀ j, i = j + 1 → ns.getD i 0 ≤ ns.getD j 0 + 1) ∧ (i = 0 → ns.getD i 0 ≤ g)) → okFrom g ns = true := by
  induction ns with
  | nil => intro g _; rfl
  | cons d r ih =>
    intro g h
    simp only [okFrom, Bool.and_eq_true, decide_eq_true_eq]
    obtain ⟨a, _, c⟩ := h 0 (Nat.zero_lt_succ _)
    refine ⟨⟨a, c rfl⟩, ih fun i hi => ?_⟩
    obtain ⟨a', b', _⟩ := h (i + 1) (Nat.succ_lt_succ hi)
    refine ⟨a', fun j e => ?_, fun e => ?_⟩
    · subst e
      exact b' (j + 1) rfl
    · subst e
      exact b' 0 rfl
theorem isO_iff {ns : List Int} : isO ns = true ↔ 1 ≤ ns.length ∧ ns.length ≤ 200 ∧ okFrom 0 ns = true := by
  unfold isO
  rw [Bool.and_eq_true, Bool.and_eq_true, decide_eq_true_eq, decide_eq_true_eq, and_assoc]

section
variable {P : Program} {w : World} {K : PySem.W.Frag} {mg : Str → Option Value} {base : Heap}

/-- an int is at least -/
def sp_from : Sp := fun vs H Q _ => ∃ v a : Int, vs = [.int v, .int a] ∧ Q (.bl (decide (a ≤ v))) H
theorem ok_is_integer_from (T : Txt mg) (h : At K mg "is_integer_from" s_is_integer_from) :
    Has P w K mg base CX0 1 "is_integer_from" s_is_integer_from P_is_integer_from sp_from := by
  refine Has.of h sc_is_integer_from (fun vs H Q E h => ?_) (fun _ _ _ _ _ _ us hl => match us, hl with | [_, _], _ => rfl) (fun f cdv A outer s H vs Q E room qt h => ?_)
  · obtain ⟨v, a, rfl, _⟩ := h; rfl
  obtain ⟨v, a, rfl, k⟩ := h
  refine ⟨_, (pss_one (ps_ret (pe_and (pe_callB call_isi (by rfl) T.isinstance (by decide +kernel) (pa_cons (pv 0) (pa_cons (pe_bltn (v := .ty "int") (u := .type "int") (by rfl) T.tint (by decide +kernel) rfl) pa_nil))) (pe_and (pe_not (pe_callB call_isi (by rfl) T.isinstance (by decide +kernel) (pa_cons (pv 0) (pa_cons (pe_bltn (v := .ty "bool") (u := .type "bool") (by rfl) T.bool (by decide +kernel) rfl) pa_nil)))) (pe_one (pe_cmpR op_ge (pv 0) (pv 1) (nomark _))))))), ?_⟩
  refine ⟨_, rfl, .int v, .ty "int", .type "int", .type "int", true, rfl, .ty _, .base (.int v), kit_ty (by decide +kernel), _, rfl, iteT ?_⟩
  refine ⟨_, rfl, .int v, .ty "bool", .type "int", .type "bool", false, rfl, .ty _, .base (.int v), kit_ty (by decide +kernel), _, rfl, _, rfl, iteT ?_⟩
  exact ⟨_, rfl, _, rfl, _, _, rfl, rfl, k⟩

/-- an int is within: least <= value <= greatest -/
def sp_within : Sp := fun vs H Q _ => ∃ v a b : Int, vs = [.int v, .int a, .int b] ∧ Q (.bl (decide (a ≤ v) && decide (v ≤ b))) H
theorem ok_is_integer_within (T : Txt mg) (h : At K mg "is_integer_within" s_is_integer_within)
    (g_is_integer_from : Has P w K mg base CX0 1 "is_integer_from" s_is_integer_from P_is_integer_from sp_from) :
    Has P w K mg base CX0 2 "is_integer_within" s_is_integer_within P_is_integer_within sp_within := by
  refine Has.of h sc_is_integer_within (fun vs H Q E h => ?_) (fun _ _ _ _ _ _ us hl => match us, hl with | [_, _, _], _ => rfl) (fun f cdv A outer s H vs Q E room qt h => ?_)
  · obtain ⟨v, a, b, rfl, _⟩ := h; rfl
  obtain ⟨v, a, b, rfl, k⟩ := h
  refine ⟨_, (pss_one (ps_ret (pe_and (pe_has g_is_integer_from (room.mono (by decide)) qt (by rfl) pass0 (pa_cons (pv 0) (pa_cons (pv 1) pa_nil))) (pe_one (pe_cmpR op_le (pv 0) (pv 2) (nomark _)))))), ?_⟩
  refine ⟨_, rfl, _, rfl, v, a, rfl, _, rfl, ?_⟩
  by_cases c : a ≤ v
  · rw [decide_eq_true c] at k ⊢
    rw [Bool.true_and] at k
    exact iteT ⟨_, rfl, _, rfl, _, _, rfl, rfl, k⟩
  · rw [decide_eq_false c] at k ⊢
    rw [Bool.false_and] at k
    exact iteF k

/-- a list of ints: is it an outline -/
def sp_is_outline : Sp := fun vs H Q _ => ∃ (a : Addr) (ns : List Int), vs = [.ref a] ∧ H a = some (.lst (iv ns)) ∧ Q (.bl (isO ns)) H
theorem ok_is_outline {t : Tok} (T : Txt mg) (c_MOST_LINES : mg "MOST_LINES" = some (.int 200 t)) (h : At K mg "is_outline" s_is_outline)
    (g_is_integer_within : Has P w K mg base CX0 2 "is_integer_within" s_is_integer_within P_is_integer_within sp_within) :
    Has P w K mg base CX0 3 "is_outline" s_is_outline P_is_outline sp_is_outline := by
  refine Has.of h sc_is_outline (fun vs H Q E h => ?_) (fun _ _ _ _ _ _ us hl => match us, hl with | [_], _ => rfl) (fun f cdv A outer s H vs Q E room qt h => ?_)
  · obtain ⟨v, a, rfl, _⟩ := h; rfl
  obtain ⟨a, ns, rfl, ha, k⟩ := h
  refine ⟨_, (pss_cons (ps_if (PW.pt (pw_or (pt_cmpR op_neTy (pe_callTy RZ.call_type4 (by rfl) T.ttype (by decide +kernel) (pa_cons (pv 0) pa_nil)) (pe_bltn (v := .ty "list") (u := .type "list") (by rfl) T.tlist (by decide +kernel) rfl) (nomark _)) (pw_or1 (pt_not (pt_chain op_le op_le pe_int (pe_callB call_len_seq (by rfl) T.len (by decide +kernel) (pa_cons (pv 0) pa_nil)) (pe_glob (v := .int 200) rfl c_MOST_LINES ⟨_, rfl⟩))))))
        (pss_one (ps_ret pe_bl))
        pss_nil)
      (pss_cons (ps_set (i := 1) sc_is_outline.nd rfl (Or.inl rfl) pe_int)
      (pss_cons (ps_for PassesOwn.never rfl (pi_list (pv 0)) (pg_name (i := 2) sc_is_outline.nd rfl (Or.inl rfl) (hf := Or.inl rfl))
        (pss_cons (ps_if (pt_not (pt_val (pe_has g_is_integer_within (room.mono (by decide)) qt (by rfl) pass0 (pa_cons (pv 2) (pa_cons pe_int (pa_cons (pv 1) pa_nil))))))
          (pss_one (ps_ret pe_bl))
          pss_nil)
        (pss_one (ps_set (i := 1) sc_is_outline.nd rfl (Or.inl rfl) (pe_op op_add (pv 2) pe_int)))))
      (pss_one (ps_ret pe_bl))))), ?_⟩
  have el : (iv ns).length = ns.length := List.length_map _
  -- type(value) != list or not 1 <= len(value) <= MOST_LINES
  refine ⟨_, rfl, .ref a, "list", rfl, .lst ha, _, _, rfl, rfl, by decide, by decide, _, rfl, ?_⟩
  refine iteF ⟨_, rfl, _, _, rfl, .inl (SqL.of ha), _, _, rfl, rfl, _, rfl, ?_⟩
  have no : isO ns = false → Q (.bl false) H := fun e => by rw [← e]; exact k
  refine ite2 (fun c => ?_) (fun c => ?_)
  · have c1 := of_decide_eq_true c
    refine ⟨_, _, rfl, rfl, _, rfl, ite2 (fun d => ?_) (fun d => ?_)⟩
    · refine no ?_
      have d1 : ¬ ns.length ≤ 200 := fun z => by rw [decide_eq_true (by omega)] at d; cases d
      unfold isO
      rw [decide_eq_false d1, Bool.and_false, Bool.false_and]
    · have d1 : ns.length ≤ 200 := by
        by_cases z : ns.length ≤ 200
        · exact z
        · exact (d (by rw [decide_eq_false (by omega)]; rfl)).elim
      have e0 : isO ns = okFrom 0 ns := by
        unfold isO
        rw [decide_eq_true (by omega), decide_eq_true d1, Bool.true_and, Bool.true_and]
      rw [e0] at k
      -- greatest = 0; for depth in value
      refine ⟨_, rfl, a, rfl, ⟨_, SqL.of ha⟩, for_list (K := K) (a := a) (xs := iv ns)
        (fun i σ H2 => H2 = H ∧ (∃ v, σ = [some (.ref a), some (.int (gAt ns i)), v]) ∧ okFrom (gAt ns i) (ns.drop i) = okFrom 0 ns)
        ⟨rfl, ⟨_, rfl⟩, rfl⟩ (fun i σ H2 _ q => by rw [q.1]; exact SqL.of ha) ?_ ?_⟩
      · rintro i x σ H2 hi ⟨rfl, ⟨v, rfl⟩, q⟩
        have hl : i < ns.length := by have := (List.getElem?_eq_some_iff.mp hi).1; rwa [List.length_map] at this
        rw [iv_at hl] at hi
        cases hi
        rw [okFrom_drop hl] at q
        -- if not is_integer_within(depth, 0, greatest)
        refine ⟨_, rfl, _, rfl, _, _, _, rfl, _, rfl, ite2 (fun d => ?_) (fun d => ?_)⟩
        · rw [bnot_t d, Bool.false_and] at q
          rw [← q] at k
          exact k
        · rw [bnot_f d, Bool.true_and] at q
          exact ⟨_, rfl, _, _, rfl, rfl, rfl, ⟨_, rfl⟩, q⟩
      · rintro σ H2 ⟨rfl, ⟨v, rfl⟩, q⟩
        rw [el, List.drop_length] at q
        rw [← q] at k
        exact k
  · refine ⟨_, rfl, iteT (no ?_)⟩
    have c1 : ¬ 1 ≤ ns.length := fun z => c (decide_eq_true (by omega))
    unfold isO
    rw [decide_eq_false c1, Bool.false_and, Bool.false_and]

/-- an outline: nothing is raised -/
def sp_check_outline : Sp := fun vs H Q _ => ∃ (a : Addr) (ns : List Int), vs = [.ref a] ∧ H a = some (.lst (iv ns)) ∧ isO ns = true ∧ Q .non H
theorem ok_check_outline (T : Txt mg) (h : At K mg "check_outline" s_check_outline)
    (g_is_outline : Has P w K mg base CX0 3 "is_outline" s_is_outline P_is_outline sp_is_outline) :
    Has P w K mg base CX0 4 "check_outline" s_check_outline P_check_outline sp_check_outline := by
  refine Has.of h sc_check_outline (fun vs H Q E h => ?_) (fun _ _ _ _ _ _ us hl => match us, hl with | [_], _ => rfl) (fun f cdv A outer s H vs Q E room qt h => ?_)
  · obtain ⟨v, a, rfl, _⟩ := h; rfl
  obtain ⟨a, ns, rfl, ha, ho, k⟩ := h
  refine ⟨_, (pss_one (ps_if (pt_not (pt_val (pe_has g_is_outline (room.mono (by decide)) qt (by rfl) pass0 (pa_cons (pv 0) pa_nil))))
        (pss_one ps_never)
        pss_nil)), ?_⟩
  refine ⟨_, rfl, a, ns, rfl, ha, _, rfl, ?_⟩
  rw [ho]
  exact iteF k

/-- the stop of a line -/
def sp_stop_of (K : PySem.W.Frag) : Sp := fun vs H Q _ => ∃ (a : Addr) (ns : List Int) (i : Int), vs = [.ref a, .int i] ∧ SqL K H a (iv ns) ∧ 0 ≤ i ∧ i < ns.length ∧ Q (.int (i - ns.getD i.toNat 0)) H
theorem ok_stop_of (T : Txt mg) (h : At K mg "stop_of" s_stop_of) :
    Has P w K mg base CX0 1 "stop_of" s_stop_of P_stop_of (sp_stop_of K) := by
  refine Has.of h sc_stop_of (fun vs H Q E h => ?_) (fun _ _ _ _ _ _ us hl => match us, hl with | [_, _], _ => rfl) (fun f cdv A outer s H vs Q E room qt h => ?_)
  · obtain ⟨v, a, i, rfl, _⟩ := h; rfl
  obtain ⟨a, ns, i, rfl, ha, h0, h1, k⟩ := h
  refine ⟨_, (pss_one (ps_ret (pe_op op_sub (pv 1) (pe_ix ix_list (pv 0) (pv 1) (fun _ _ => rfl))))), ?_⟩
  exact ⟨_, rfl, _, rfl, _, rfl, _, _, _, _, rfl, rfl, ha, atI_iv h0 h1, _, _, rfl, rfl, k⟩
end
theorem okFrom_snoc {ns : List Int} {d : Int} : ∀ {g : Int}, okFrom g ns = true → 0 ≤ d → (ns = [] → d ≤ g) → (ns ≠ [] → d ≤ ns.getD (ns.length - 1) 0 + 1) → okFrom g (ns ++ [d]) = true := by
  induction ns with
  | nil => intro g _ h0 h1 _; simp only [List.nil_append, okFrom, Bool.and_eq_true, decide_eq_true_eq, and_true]; exact ⟨h0, h1 rfl⟩
  | cons e r ih =>
    intro g h h0 _ h2
    simp only [okFrom, Bool.and_eq_true, decide_eq_true_eq, List.cons_append] at h ⊢
    refine ⟨h.1, ih h.2 h0 (fun er => ?_) fun er => ?_⟩
    · subst er
      exact h2 (by simp)
    · have := h2 (by simp)
      cases r with
      | nil => exact absurd rfl er
      | cons f r => exact this
theorem okFrom_le {ns : List Int} : ∀ {g : Int} {i : Nat}, okFrom g ns = true → i < ns.length → ns.getD i 0 ≤ g + i := by
  induction ns with
  | nil => intro g i _ h; exact absurd h (Nat.not_lt_zero _)
  | cons d r ih =>
    intro g i h hi
    simp only [okFrom, Bool.and_eq_true, decide_eq_true_eq] at h
    cases i with
    | zero => show d ≤ g + ((0 : Nat) : Int); omega
    | succ i =>
      have := ih (i := i) h.2 (Nat.lt_of_succ_lt_succ hi)
      show r.getD i 0 ≤ g + ((i + 1 : Nat) : Int)
      omega
/-! ### headings, top lines, views as lists of ints -/
/-- the headings found from line k on upwards, the next wanted depth being w -/
def headsL (ns : List Int) : Nat → Int → List Int
  | 0, _ => []
  | k + 1, w => if ns.getD k 0 = w then headsL ns k (w - 1) ++ [(k : Int)] else headsL ns k w
def headsOf (ns : List Int) (i : Nat) : List Int := headsL ns i (ns.getD i 0 - 1)
theorem headsL_len (ns : List Int) : ∀ (k : Nat) (w : Int), (headsL ns k w).length ≤ k
  | 0, _ => Nat.le_refl _
  | k + 1, w => by
    unfold headsL
    split
    · rw [List.length_append]
      exact Nat.succ_le_succ (headsL_len ns k _)
    · exact Nat.le_succ_of_le (headsL_len ns k _)
theorem headsL_mem {ns : List Int} : ∀ {k : Nat} {w v : Int}, v ∈ headsL ns k w → 0 ≤ v ∧ v < k
  | k + 1, w, v, h => by
    unfold headsL at h
    split at h
    · rcases List.mem_append.mp h with h | h
      · have := headsL_mem h; omega
      · have := List.mem_singleton.mp h; omega
    · have := headsL_mem h; omega
def stopAt (ns : List Int) (i : Nat) : Int := (i : Int) - ns.getD i 0
def lastStop (ns : List Int) : Int := stopAt ns (ns.length - 1)
/-- t is the top line at s -/
def IsTop (ns : List Int) (s : Int) (t : Nat) : Prop := t < ns.length ∧ s ≤ stopAt ns t ∧ ∀ j, j < t → stopAt ns j < s
theorem IsTop.uniq {ns : List Int} {s : Int} {t u : Nat} (a : IsTop ns s t) (b : IsTop ns s u) : t = u := by
  rcases Nat.lt_trichotomy t u with h | h | h
  · have := b.2.2 t h; have := a.2.1; omega
  · exact h
  · have := a.2.2 u h; have := b.2.1; omega
theorem top_ex {ns : List Int} {s : Int} : ∀ n, n < ns.length → s ≤ stopAt ns n → ∃ t, t ≤ n ∧ IsTop ns s t
  | 0, h, q => ⟨0, Nat.le_refl _, h, q, fun j hj => absurd hj (Nat.not_lt_zero _)⟩
  | n + 1, h, q => by
    by_cases e : ∃ j, j ≤ n ∧ s ≤ stopAt ns j
    · obtain ⟨j, hj, ej⟩ := e
      obtain ⟨t, ht, it⟩ := top_ex j (by omega) ej
      exact ⟨t, by omega, it⟩
    · refine ⟨n + 1, Nat.le_refl _, h, q, fun j hj => ?_⟩
      by_cases z : s ≤ stopAt ns j
      · exact (e ⟨j, by omega, z⟩).elim
      · omega
/-- slices of lists of ints -/
def cutI (l : List Int) (lo hi : Option Int) : List Int := (l.drop (HT.sIx l.length 0 lo)).take (HT.sIx l.length l.length hi - HT.sIx l.length 0 lo)
theorem cutV_iv (l : List Int) (lo hi : Option Int) : cutV (iv l) lo hi = iv (cutI l lo hi) := by
  unfold cutV cutI iv
  rw [List.map_take, List.map_drop, List.length_map]
theorem cutI_len (l : List Int) (lo hi : Option Int) : (cutI l lo hi).length ≤ l.length := by
  unfold cutI
  rw [List.length_take, List.length_drop]
  omega
theorem cutI_to (l : List Int) {n : Int} (h : 0 ≤ n) : cutI l none (some n) = l.take n.toNat := by
  unfold cutI
  have e : n = (n.toNat : Int) := by omega
  rw [e, HT.sIx_none, HT.sIx_nat, List.drop_zero, Nat.sub_zero, Int.toNat_natCast]
  rcases Nat.le_total n.toNat l.length with a | a
  · rw [Nat.min_eq_left a]
  · rw [Nat.min_eq_right a, List.take_length, List.take_of_length_le a]
/-- lo, lo + 1, .. below hi -/
def rg2 (lo hi : Int) : List Int := (List.range (hi - lo).toNat).map fun (i : Nat) => lo + (i : Int)
theorem rgV_rg2 (a b : Int) : rgV a b = iv (rg2 a b) := by
  unfold rgV rg2 iv
  rw [List.map_map]
  rfl
theorem rg2_len (a b : Int) : (rg2 a b).length = (b - a).toNat := by unfold rg2; rw [List.length_map, List.length_range]
def pushedL (ns : List Int) (t : Nat) (s : Int) : List Int := if stopAt ns t - s = 0 then [] else cutI (headsOf ns (t - 1)) (some (-(stopAt ns t - s))) none
def rowsL (ns : List Int) (s : Int) (t : Nat) : List Int := headsOf ns t ++ pushedL ns t s ++ rg2 t ns.length
def viewL (ns : List Int) (h s : Int) (t : Nat) : List Int := (rowsL ns s t).take h.toNat
theorem pushedL_len (ns : List Int) (t : Nat) (s : Int) : (pushedL ns t s).length ≤ t := by
  unfold pushedL
  split
  · exact Nat.zero_le _
  · exact Nat.le_trans (cutI_len _ _ _) (Nat.le_trans (headsL_len _ _ _) (Nat.sub_le _ _))
theorem stopAt_nn {ns : List Int} (h : okFrom 0 ns = true) {i : Nat} (hi : i < ns.length) : 0 ≤ stopAt ns i ∧ stopAt ns i ≤ i := by
  have a := okFrom_le h hi
  have b := (okFrom_at h hi).1
  unfold stopAt
  omega
theorem inV_iv (v : Int) (L : List Int) : inV (.int v) (iv L) = decide (v ∈ L) := by
  unfold inV iv
  rw [Bool.eq_iff_iff, List.any_eq_true]
  constructor
  · rintro ⟨y, hy, e⟩
    obtain ⟨z, hz, rfl⟩ := List.mem_map.mp hy
    have : z = v := by simpa [eqV] using e
    subst this
    exact decide_eq_true hz
  · intro e
    exact ⟨.int v, List.mem_map.mpr ⟨v, of_decide_eq_true e, rfl⟩, by simp [eqV]⟩
theorem flat_iv (L : List Int) : (iv L).all flatV = true := by
  rw [List.all_eq_true]
  intro x hx
  obtain ⟨z, hz, rfl⟩ := List.mem_map.mp hx
  rfl
theorem ite_cut {b : Prop} [Decidable b] {A : Prop} {NX : L2.St → Hp → Prop} {σ : L2.St} {H : Hp} (Inv : L2.St → Hp → Prop)
    (main : ∀ σ' H', Inv σ' H' → NX σ' H') (hA : b → (∀ σ' H', Inv σ' H' → NX σ' H') → A) (hB : ¬b → Inv σ H) : if b then A else NX σ H := by
  by_cases h : b
  · rw [if_pos h]; exact hA h main
  · rw [if_neg h]; exact main _ _ (hB h)
abbrev s_check_height : Stmt := topS 21
abbrev N_check_height : List Str := ["height"]
abbrev P_check_height : List Str := ["height"]
theorem sc_check_height : FnScope N_check_height P_check_height (defScope s_check_height) := ⟨rfl, rfl, rfl, by decide +kernel, rfl, by decide +kernel, by decide +kernel⟩
section
variable {P : Program} {w : World} {K : PySem.W.Frag} {mg : Str → Option Value} {base : Heap}
def sp_check_height : Sp := fun vs H Q _ => ∃ n : Int, vs = [.int n] ∧ 1 ≤ n ∧ n ≤ 400 ∧ Q .non H
theorem ok_check_height {t : Tok} (T : Txt mg) (c_MOST_ROWS : mg "MOST_ROWS" = some (.int 400 t)) (h : At K mg "check_height" s_check_height)
    (g_is_integer_within : Has P w K mg base CX0 2 "is_integer_within" s_is_integer_within P_is_integer_within sp_within) :
    Has P w K mg base CX0 3 "check_height" s_check_height P_check_height sp_check_height := by
  refine Has.of h sc_check_height (fun vs H Q E h => ?_) (fun _ _ _ _ _ _ us hl => match us, hl with | [_], _ => rfl) (fun f cdv A outer s H vs Q E room qt h => ?_)
  · obtain ⟨n, rfl, _⟩ := h; rfl
  obtain ⟨n, rfl, h0, h1, k⟩ := h
  refine ⟨_, (pss_one (ps_if (pt_not (pt_val (pe_has g_is_integer_within (room.mono (by decide)) qt (by rfl) pass0 (pa_cons (pv 0) (pa_cons pe_int (pa_cons (pe_glob (v := .int 400) rfl c_MOST_ROWS ⟨_, rfl⟩) pa_nil))))))
        (pss_one ps_never)
        pss_nil)), ?_⟩
  refine ⟨_, rfl, _, _, _, rfl, _, rfl, ?_⟩
  rw [decide_eq_true h0, decide_eq_true h1]
  exact iteF k
end
abbrev s_greatest_scroll : Stmt := topS 22
abbrev N_greatest_scroll : List Str := ["outline"]
abbrev P_greatest_scroll : List Str := ["outline"]
theorem sc_greatest_scroll : FnScope N_greatest_scroll P_greatest_scroll (defScope s_greatest_scroll) := ⟨rfl, rfl, rfl, by decide +kernel, rfl, by decide +kernel, by decide +kernel⟩
abbrev s_check_scroll : Stmt := topS 23
abbrev N_check_scroll : List Str := ["outline", "scroll"]
abbrev P_check_scroll : List Str := ["outline", "scroll"]
theorem sc_check_scroll : FnScope N_check_scroll P_check_scroll (defScope s_check_scroll) := ⟨rfl, rfl, rfl, by decide +kernel, rfl, by decide +kernel, by decide +kernel⟩
abbrev s_find_top : Stmt := topS 24
abbrev N_find_top : List Str := ["outline", "scroll", "line"]
abbrev P_find_top : List Str := ["outline", "scroll"]
theorem sc_find_top : FnScope N_find_top P_find_top (defScope s_find_top) := ⟨rfl, rfl, rfl, by decide +kernel, rfl, by decide +kernel, by decide +kernel⟩
section
variable {P : Program} {w : World} {K : PySem.W.Frag} {mg : Str → Option Value} {base : Heap}
def sp_greatest_scroll (K : PySem.W.Frag) : Sp := fun vs H Q _ => ∃ (a : Addr) (ns : List Int), vs = [.ref a] ∧ SqL K H a (iv ns) ∧ 1 ≤ ns.length ∧ Q (.int (lastStop ns)) H
theorem ok_greatest_scroll (T : Txt mg) (h : At K mg "greatest_scroll" s_greatest_scroll)
    (g_stop_of : Has P w K mg base CX0 1 "stop_of" s_stop_of P_stop_of (sp_stop_of K)) :
    Has P w K mg base CX0 2 "greatest_scroll" s_greatest_scroll P_greatest_scroll (sp_greatest_scroll K) := by
  refine Has.of h sc_greatest_scroll (fun vs H Q E h => ?_) (fun _ _ _ _ _ _ us hl => match us, hl with | [_], _ => rfl) (fun f cdv A outer s H vs Q E room qt h => ?_)
  · obtain ⟨a, n, rfl, _⟩ := h; rfl
  obtain ⟨a, ns, rfl, ha, hl, k⟩ := h
  refine ⟨_, (pss_one (ps_ret (pe_has g_stop_of (room.mono (by decide)) qt (by rfl) pass0 (pa_cons (pv 0) (pa_cons (pe_op op_sub (pe_callB call_len_seq (by rfl) T.len (by decide +kernel) (pa_cons (pv 0) pa_nil)) pe_int) pa_nil))))), ?_⟩
  have el : (iv ns).length = ns.length := List.length_map _
  refine ⟨_, rfl, _, rfl, a, _, rfl, .inl ha, _, _, rfl, rfl, a, ns, _, rfl, ha, by omega, by omega, ?_⟩
  have e : ((iv ns).length : Int) - 1 - ns.getD (((iv ns).length : Int) - 1).toNat 0 = lastStop ns := by
    rw [el]
    have e1 : ((ns.length : Int) - 1).toNat = ns.length - 1 := by omega
    unfold lastStop stopAt
    rw [e1]
    omega
  rw [e]
  exact k
def sp_check_scroll (K : PySem.W.Frag) : Sp := fun vs H Q _ => ∃ (a : Addr) (ns : List Int) (s : Int), vs = [.ref a, .int s] ∧ SqL K H a (iv ns) ∧ 1 ≤ ns.length ∧ 0 ≤ s ∧ s ≤ lastStop ns ∧ Q .non H
theorem ok_check_scroll (T : Txt mg) (h : At K mg "check_scroll" s_check_scroll)
    (g_is_integer_within : Has P w K mg base CX0 2 "is_integer_within" s_is_integer_within P_is_integer_within sp_within)
    (g_greatest_scroll : Has P w K mg base CX0 2 "greatest_scroll" s_greatest_scroll P_greatest_scroll (sp_greatest_scroll K)) :
    Has P w K mg base CX0 3 "check_scroll" s_check_scroll P_check_scroll (sp_check_scroll K) := by
  refine Has.of h sc_check_scroll (fun vs H Q E h => ?_) (fun _ _ _ _ _ _ us hl => match us, hl with | [_, _], _ => rfl) (fun f cdv A outer s H vs Q E room qt h => ?_)
  · obtain ⟨a, n, t, rfl, _⟩ := h; rfl
  obtain ⟨a, ns, t, rfl, ha, hl, h0, h1, k⟩ := h
  refine ⟨_, (pss_one (ps_if (pt_not (pt_val (pe_has g_is_integer_within (room.mono (by decide)) qt (by rfl) pass0 (pa_cons (pv 1) (pa_cons pe_int (pa_cons (pe_has g_greatest_scroll (room.mono (by decide)) qt (by rfl) pass0 (pa_cons (pv 0) pa_nil)) pa_nil))))))
        (pss_one ps_never)
        pss_nil)), ?_⟩
  refine ⟨_, rfl, _, rfl, a, ns, rfl, ha, hl, _, _, _, rfl, _, rfl, ?_⟩
  rw [decide_eq_true h0, decide_eq_true h1]
  exact iteF k
def sp_find_top (K : PySem.W.Frag) : Sp := fun vs H Q _ => ∃ (a : Addr) (ns : List Int) (s : Int) (t : Nat), vs = [.ref a, .int s] ∧ SqL K H a (iv ns) ∧ IsTop ns s t ∧ Q (.int t) H
theorem ok_find_top (T : Txt mg) (h : At K mg "find_top" s_find_top)
    (g_stop_of : Has P w K mg base CX0 1 "stop_of" s_stop_of P_stop_of (sp_stop_of K)) :
    Has P w K mg base CX0 3 "find_top" s_find_top P_find_top (sp_find_top K) := by
  refine Has.of h sc_find_top (fun vs H Q E h => ?_) (fun _ _ _ _ _ _ us hl => match us, hl with | [_, _], _ => rfl) (fun f cdv A outer s H vs Q E room qt h => ?_)
  · obtain ⟨a, n, z, t, rfl, _⟩ := h; rfl
  obtain ⟨a, ns, z, t, rfl, ha, ⟨t0, t1, t2⟩, k⟩ := h
  refine ⟨_, (pss_cons (ps_set (i := 2) sc_find_top.nd rfl (Or.inl rfl) pe_int)
      (pss_cons (ps_while PassesOwn.never (pt_cmpR op_lt (pe_has g_stop_of (room.mono (by decide)) qt (by rfl) pass0 (pa_cons (pv 0) (pa_cons (pv 2) pa_nil))) (pv 1) (nomark _))
        (pss_one (ps_aug (i := 2) sc_find_top.nd rfl (Or.inl rfl) pe_int ip_add)))
      (pss_one (ps_ret (pv 2))))), ?_⟩
  refine ⟨fun m σ H' => H' = H ∧ ∃ i, i ≤ t ∧ m = t - i ∧ σ = [some (.ref a), some (.int z), some (.int (i : Nat))], ⟨t, rfl, 0, Nat.zero_le _, rfl, rfl⟩, ?_⟩
  rintro m σ H' ⟨rfl, i, it, rfl, rfl⟩
  refine ⟨_, rfl, _, rfl, a, ns, i, rfl, ha, by omega, by omega, _, rfl, _, _, rfl, rfl, _, rfl, ite2 (fun c => ?_) (fun c => ?_)⟩
  · have c1 := of_decide_eq_true c
    rw [Int.toNat_natCast] at c1
    have ne : i ≠ t := fun e => by subst e; unfold stopAt at t1; omega
    refine ⟨fun σ' H2 => H2 = H' ∧ σ' = [some (.ref a), some (.int z), some (.int ((i : Nat) + 1))], fun σ' H'' q => ⟨t - (i + 1), by omega, q.1, i + 1, by omega, rfl, q.2⟩, ?_⟩
    exact ⟨_, rfl, _, _, rfl, rfl, rfl, rfl⟩
  · have c1 : ¬ ((i : Int) - ns.getD (i : Int).toNat 0 < z) := fun q => c (decide_eq_true q)
    rw [Int.toNat_natCast] at c1
    have e : i = t := by
      rcases Nat.lt_or_ge i t with q | q
      · exact (c1 (t2 i q)).elim
      · omega
    subst e
    exact ⟨_, rfl, k⟩
end
abbrev s_headings_of : Stmt := topS 17
abbrev N_headings_of : List Str := ["outline", "line", "found", "wanted", "above"]
abbrev P_headings_of : List Str := ["outline", "line"]
theorem sc_headings_of : FnScope N_headings_of P_headings_of (defScope s_headings_of) := ⟨rfl, rfl, rfl, by decide +kernel, rfl, by decide +kernel, by decide +kernel⟩
section
variable {P : Program} {w : World} {K : PySem.W.Frag} {mg : Str → Option Value} {base : Heap}
def sp_headings_of (K : PySem.W.Frag) : Sp := fun vs H Q _ => ∃ (a : Addr) (ns : List Int) (i : Nat), vs = [.ref a, .int i] ∧ SqL K H a (iv ns) ∧ i < ns.length ∧ ns.length ≤ 1000 ∧ RetL Q H (iv (headsOf ns i))
theorem ok_headings_of (T : Txt mg) (h : At K mg "headings_of" s_headings_of) :
    Has P w K mg base CX0 2 "headings_of" s_headings_of P_headings_of (sp_headings_of K) := by
  refine Has.of h sc_headings_of (fun vs H Q E h => ?_) (fun _ _ _ _ _ _ us hl => match us, hl with | [_, _], _ => rfl) (fun f cdv A outer s H vs Q E room qt h => ?_)
  · obtain ⟨a, n, t, rfl, _⟩ := h; rfl
  obtain ⟨a, ns, i, rfl, ha, hi, hl, k⟩ := h
  refine ⟨_, (pss_cons (ps_set (i := 2) sc_headings_of.nd rfl (Or.inl rfl) (pe_lst pa_nil))
      (pss_cons (ps_set (i := 3) sc_headings_of.nd rfl (Or.inl rfl) (pe_op op_sub (pe_ix ix_list (pv 0) (pv 1) (fun _ _ => rfl)) pe_int))
      (pss_cons (ps_for PassesOwn.never rfl (pi_revR (by rfl) T.reversed (prg_1 (by rfl) T.range (pv 1))) (pg_name (i := 4) sc_headings_of.nd rfl (Or.inl rfl) (hf := Or.inl rfl))
        (pss_one (ps_if (pt_cmpR op_eq (pe_ix ix_list (pv 0) (pv 4) (fun _ _ => rfl)) (pv 3) (nomark _))
          (pss_cons (ps_expr (pe_bm PySem.F.plainAttrs_list PySem.F.slot_list_append PySem.F.type_list_append mt_append (pv 2) (pa_cons (pv 4) pa_nil)))
          (pss_one (ps_aug (i := 3) sc_headings_of.nd rfl (Or.inl rfl) pe_int ip_sub)))
          pss_nil)))
      (pss_cons (ps_expr (pe_bm0 PySem.F.plainAttrs_list PySem.F.slot_list_reverse PySem.F.type_list_reverse mt_reverse (pv 2)))
      (pss_one (ps_ret (pv 2))))))), ?_⟩
  refine ⟨(by decide : 0 ≤ sizeLine), fun p hp => ?_⟩
  have ha' : ∀ o, SqL K (upd H p o) a (iv ns) := fun o => (Same.new hp).seq ha
  refine ⟨_, rfl, _, rfl, a, iv ns, i, _, rfl, rfl, ha' _, atI_iv (by omega) (by omega), _, _, rfl, rfl, ?_⟩
  rw [Int.toNat_natCast]
  refine ⟨_, rfl, i, rfl, by decide, by decide, by omega, by omega, ?_⟩
  refine for_rangeC (n := ((i : Int) - 0).toNat) (fun j σ H2 => ∃ (F : List Int) (w : Int) (v : Option V), σ = [some (.ref a), some (.int i), some (.ref p), some (.int w), v] ∧ H2 = upd H p (.lst (iv F)) ∧
    F.length ≤ j ∧ headsOf ns i = headsL ns (i - j) w ++ F.reverse) ⟨[], _, _, rfl, rfl, Nat.le_refl _, by rw [List.reverse_nil, List.append_nil]; rfl⟩ ?_ ?_
  · rintro j σ H2 hj ⟨F, wd, v, rfl, rfl, hF, e⟩
    have ev : (0 : Int) + ((((i : Int) - 0).toNat : Nat) : Int) - 1 + ((j : Nat) : Int) * (-1) = ((i - (j + 1) : Nat) : Int) := by omega
    obtain ⟨u, eu⟩ : ∃ u, i - (j + 1) = u := ⟨_, rfl⟩
    have ek : i - j = u + 1 := by omega
    rw [ek, headsL] at e
    rw [eu] at ev
    show (tIfS _ _ _) _ (List.set _ 4 (some (.int (0 + ((((i : Int) - 0).toNat : Nat) : Int) - 1 + ((j : Nat) : Int) * (-1))))) _
    rw [ev]
    -- if outline[above] == wanted
    refine ⟨_, rfl, _, rfl, a, iv ns, u, _, rfl, rfl, ha' _, atI_iv (by omega) (by omega), _, rfl, rfl, _, rfl, ite2 (fun c => ?_) (fun c => ?_)⟩
    · have c1 : ns.getD u 0 = wd := by
        have := of_decide_eq_true c
        rw [Int.toNat_natCast] at this
        exact V.int.inj this
      rw [if_pos c1] at e
      refine ⟨_, rfl, .inl ⟨rfl, _, SqL.of upd_same⟩, _, rfl, p, _, _, rfl, rfl, upd_same, small_line (by rw [List.length_map]; omega), ?_⟩
      refine ⟨_, rfl, _, _, rfl, rfl, F ++ [(u : Int)], wd - 1, _, rfl, by rw [upd_upd, iv_snoc], by rw [List.length_append]; show F.length + 1 ≤ j + 1; omega, ?_⟩
      rw [eu, e, List.reverse_append, List.append_assoc]
      rfl
    · have c1 : ¬ ns.getD u 0 = wd := fun q => c (by rw [Int.toNat_natCast, q]; exact decide_eq_true rfl)
      rw [if_neg c1] at e
      exact ⟨F, wd, _, rfl, rfl, by omega, by rw [eu]; exact e⟩
  · rintro σ H2 ⟨F, wd, v, rfl, rfl, hF, e⟩
    have e0 : i - ((i : Int) - 0).toNat = 0 := by omega
    rw [e0, headsL, List.nil_append] at e
    refine ⟨_, rfl, .inl ⟨rfl, _, SqL.of upd_same⟩, p, _, rfl, rfl, upd_same, _, rfl, k p _ hp ?_ ?_⟩
    · rw [upd_upd]
      exact Same.new hp
    · rw [upd_same, e]
      show some (HO.lst (List.map V.int F).reverse) = some (HO.lst (List.map V.int F.reverse))
      rw [List.map_reverse]
end
abbrev s_pushed_headings : Stmt := topS 25
abbrev N_pushed_headings : List Str := ["outline", "top", "scroll", "many"]
abbrev P_pushed_headings : List Str := ["outline", "top", "scroll"]
theorem sc_pushed_headings : FnScope N_pushed_headings P_pushed_headings (defScope s_pushed_headings) := ⟨rfl, rfl, rfl, by decide +kernel, rfl, by decide +kernel, by decide +kernel⟩
abbrev s_find_rows : Stmt := topS 26
abbrev N_find_rows : List Str := ["outline", "height", "scroll", "top", "above", "rows"]
abbrev P_find_rows : List Str := ["outline", "height", "scroll"]
theorem sc_find_rows : FnScope N_find_rows P_find_rows (defScope s_find_rows) := ⟨rfl, rfl, rfl, by decide +kernel, rfl, by decide +kernel, by decide +kernel⟩
abbrev s_view : Stmt := topS 27
abbrev N_view : List Str := ["outline", "height", "scroll"]
abbrev P_view : List Str := ["outline", "height", "scroll"]
theorem sc_view : FnScope N_view P_view (defScope s_view) := ⟨rfl, rfl, rfl, by decide +kernel, rfl, by decide +kernel, by decide +kernel⟩
section
variable {P : Program} {w : World} {K : PySem.W.Frag} {mg : Str → Option Value} {base : Heap}
def sp_pushed_headings (K : PySem.W.Frag) : Sp := fun vs H Q _ => ∃ (a : Addr) (ns : List Int) (t : Nat) (s : Int), vs = [.ref a, .int t, .int s] ∧ SqL K H a (iv ns) ∧ t < ns.length ∧ ns.length ≤ 1000 ∧
  (stopAt ns t - s ≠ 0 → 1 ≤ t) ∧ RetL Q H (iv (pushedL ns t s))
theorem ok_pushed_headings (T : Txt mg) (h : At K mg "pushed_headings" s_pushed_headings)
    (g_stop_of : Has P w K mg base CX0 1 "stop_of" s_stop_of P_stop_of (sp_stop_of K))
    (g_headings_of : Has P w K mg base CX0 2 "headings_of" s_headings_of P_headings_of (sp_headings_of K)) :
    Has P w K mg base CX0 3 "pushed_headings" s_pushed_headings P_pushed_headings (sp_pushed_headings K) := by
  refine Has.of h sc_pushed_headings (fun vs H Q E h => ?_) (fun _ _ _ _ _ _ us hl => match us, hl with | [_, _, _], _ => rfl) (fun f cdv A outer s H vs Q E room qt h => ?_)
  · obtain ⟨a, n, t, z, rfl, _⟩ := h; rfl
  obtain ⟨a, ns, t, z, rfl, ha, ht, hl, h1, k⟩ := h
  refine ⟨_, (pss_cons (ps_set (i := 3) sc_pushed_headings.nd rfl (Or.inl rfl) (pe_op op_sub (pe_has g_stop_of (room.mono (by decide)) qt (by rfl) pass0 (pa_cons (pv 0) (pa_cons (pv 1) pa_nil))) (pv 2)))
      (pss_cons (ps_if (pt_cmpR op_eq (pv 3) pe_int (nomark _))
        (pss_one (ps_ret (pe_lst pa_nil)))
        pss_nil)
      (pss_one (ps_ret (pe_slice sl_list (pe_has g_headings_of (room.mono (by decide)) qt (by rfl) pass0 (pa_cons (pv 0) (pa_cons (pe_op op_sub (pv 1) pe_int) pa_nil))) (po_some (pe_un un_neg (pv 3))) po_none))))), ?_⟩
  refine ⟨_, rfl, _, rfl, a, ns, t, rfl, ha, by omega, by omega, _, rfl, _, _, rfl, rfl, ?_⟩
  rw [Int.toNat_natCast]
  unfold pushedL stopAt at k
  refine ⟨_, rfl, rfl, _, rfl, ite2 (fun c => ?_) (fun c => ?_)⟩
  · have c1 := V.int.inj (of_decide_eq_true c)
    rw [if_pos c1] at k
    exact ⟨(by decide : 0 ≤ sizeLine), fun p hp => k p _ hp (Same.new hp) upd_same⟩
  · have c1 : ¬ ((t : Int) - ns.getD t 0 - z = 0) := fun q => c (decide_eq_true (congrArg V.int q))
    rw [if_neg c1] at k
    have t1 := h1 c1
    refine ⟨_, rfl, _, rfl, _, _, rfl, rfl, a, ns, t - 1, by rw [show ((t - 1 : Nat) : Int) = (t : Int) - 1 by omega]; rfl, ha, by omega, hl, fun p H2 hp s2 h2 => ?_⟩
    refine ⟨_, rfl, _, rfl, _, rfl, p, _, rfl, SqL.of h2, fun q hq => ?_⟩
    rw [cutV_iv]
    exact k q _ (s2.free hq) (s2.trans (Same.new hq)) upd_same
def sp_find_rows (K : PySem.W.Frag) : Sp := fun vs H Q _ => ∃ (a : Addr) (ns : List Int) (n s : Int) (t : Nat), vs = [.ref a, .int n, .int s] ∧ SqL K H a (iv ns) ∧ isO ns = true ∧ 1 ≤ n ∧
  0 ≤ s ∧ IsTop ns s t ∧ RetL Q H (iv (viewL ns n s t))
theorem ok_find_rows (T : Txt mg) (h : At K mg "find_rows" s_find_rows)
    (g_find_top : Has P w K mg base CX0 3 "find_top" s_find_top P_find_top (sp_find_top K))
    (g_headings_of : Has P w K mg base CX0 2 "headings_of" s_headings_of P_headings_of (sp_headings_of K))
    (g_pushed_headings : Has P w K mg base CX0 3 "pushed_headings" s_pushed_headings P_pushed_headings (sp_pushed_headings K)) :
    Has P w K mg base CX0 4 "find_rows" s_find_rows P_find_rows (sp_find_rows K) := by
  refine Has.of h sc_find_rows (fun vs H Q E h => ?_) (fun _ _ _ _ _ _ us hl => match us, hl with | [_, _, _], _ => rfl) (fun f cdv A outer s H vs Q E room qt h => ?_)
  · obtain ⟨a, n, t, z, u, rfl, _⟩ := h; rfl
  obtain ⟨a, ns, n, z, t, rfl, ha, ho, n0, z0, it, k⟩ := h
  obtain ⟨l1, l2, hk⟩ := isO_iff.mp ho
  refine ⟨_, (pss_cons (ps_set (i := 3) sc_find_rows.nd rfl (Or.inl rfl) (pe_has g_find_top (room.mono (by decide)) qt (by rfl) pass0 (pa_cons (pv 0) (pa_cons (pv 2) pa_nil))))
      (pss_cons (ps_set (i := 4) sc_find_rows.nd rfl (Or.inl rfl) (pe_op op_catS (pe_has g_headings_of (room.mono (by decide)) qt (by rfl) pass0 (pa_cons (pv 0) (pa_cons (pv 3) pa_nil))) (pe_has g_pushed_headings (room.mono (by decide)) qt (by rfl) pass0 (pa_cons (pv 0) (pa_cons (pv 3) (pa_cons (pv 2) pa_nil))))))
      (pss_cons (ps_set (i := 5) sc_find_rows.nd rfl (Or.inl rfl) (pe_op op_catS (pv 4) (pe_listRg rfl (by rfl) T.tlist (prg_2 (by rfl) T.range (pv 3) (pe_callB call_len_seq (by rfl) T.len (by decide +kernel) (pa_cons (pv 0) pa_nil))))))
      (pss_one (ps_ret (pe_slice sl_list (pv 5) po_none (po_some (pv 1)))))))), ?_⟩
  refine ⟨_, rfl, _, rfl, a, ns, z, t, rfl, ha, it, ?_⟩
  have t1 : stopAt ns t - z ≠ 0 → 1 ≤ t := fun e => by
    rcases Nat.eq_zero_or_pos t with q | q
    · subst q
      have a0 := (okFrom_at hk (i := 0) (by omega)).1
      have := it.2.1
      unfold stopAt at this e
      omega
    · exact q
  -- above = headings_of(outline, top) + pushed_headings(outline, top, scroll)
  refine ⟨_, rfl, _, rfl, a, ns, t, rfl, ha, it.1, by omega, fun p H2 hp s2 h2 => ?_⟩
  refine ⟨_, rfl, _, rfl, _, rfl, a, ns, t, z, rfl, s2.seq ha, it.1, by omega, t1, fun q H3 hq s3 h3 => ?_⟩
  have q1 := headsL_len ns t (ns.getD t 0 - 1)
  have q2 := pushedL_len ns t z
  have q3 := it.1
  refine ⟨p, q, _, _, rfl, rfl, SqL.of (s3 _ _ h2), SqL.of h3, Nat.le_of_lt (small_line (by rw [List.length_map, List.length_map]; unfold headsOf; omega)), fun r hr => ?_⟩
  have e1 : iv (headsOf ns t) ++ iv (pushedL ns t z) = iv (headsOf ns t ++ pushedL ns t z) := (List.map_append).symm
  rw [e1]
  have s4 : Same H (upd H3 r (.lst (iv (headsOf ns t ++ pushedL ns t z)))) := (s2.trans s3).trans (Same.new hr)
  have h4 : (upd H3 r (.lst (iv (headsOf ns t ++ pushedL ns t z)))) r = some (.lst (iv (headsOf ns t ++ pushedL ns t z))) := upd_same
  generalize upd H3 r (.lst (iv (headsOf ns t ++ pushedL ns t z))) = H4 at s4 h4 ⊢
  -- rows = above + list(range(top, len(outline)))
  refine ⟨_, rfl, _, rfl, _, rfl, a, _, rfl, .inl (s4.seq ha), _, _, rfl, rfl, RgOk.of_le (by omega) (by rw [List.length_map]; omega) (by omega) (by omega), fun u hu => ?_⟩
  rw [rgV_rg2, List.length_map]
  refine ⟨r, u, _, _, rfl, rfl, SqL.of (Same.new hu _ _ h4), SqL.of upd_same, Nat.le_of_lt (small_line (by rw [List.length_map, List.length_map, List.length_append, rg2_len]; unfold headsOf; omega)), fun v hv => ?_⟩
  have e2 : iv (headsOf ns t ++ pushedL ns t z) ++ iv (rg2 t ns.length) = iv (rowsL ns z t) := (List.map_append).symm
  rw [e2]
  refine ⟨_, rfl, _, rfl, _, rfl, v, _, rfl, SqL.of upd_same, fun x hx => ?_⟩
  rw [cutV_iv, cutI_to _ (by omega)]
  have s5 := (s4.trans (Same.new (o := .lst (iv (rg2 t ns.length))) hu)).trans (Same.new (o := .lst (iv (rowsL ns z t))) hv)
  exact k x _ (s5.free hx) (s5.trans (Same.new hx)) upd_same
def sp_view : Sp := fun vs H Q _ => ∃ (a : Addr) (ns : List Int) (n s : Int) (t : Nat), vs = [.ref a, .int n, .int s] ∧ H a = some (.lst (iv ns)) ∧ isO ns = true ∧ 1 ≤ n ∧ n ≤ 400 ∧
  0 ≤ s ∧ s ≤ lastStop ns ∧ IsTop ns s t ∧ RetL Q H (iv (viewL ns n s t))
theorem ok_view (T : Txt mg) (h : At K mg "view" s_view)
    (g_check_outline : Has P w K mg base CX0 4 "check_outline" s_check_outline P_check_outline sp_check_outline)
    (g_check_height : Has P w K mg base CX0 3 "check_height" s_check_height P_check_height sp_check_height)
    (g_check_scroll : Has P w K mg base CX0 3 "check_scroll" s_check_scroll P_check_scroll (sp_check_scroll K))
    (g_find_rows : Has P w K mg base CX0 4 "find_rows" s_find_rows P_find_rows (sp_find_rows K)) :
    Has P w K mg base CX0 5 "view" s_view P_view sp_view := by
  refine Has.of h sc_view (fun vs H Q E h => ?_) (fun _ _ _ _ _ _ us hl => match us, hl with | [_, _, _], _ => rfl) (fun f cdv A outer s H vs Q E room qt h => ?_)
  · obtain ⟨a, n, t, z, u, rfl, _⟩ := h; rfl
  obtain ⟨a, ns, n, z, t, rfl, ha, ho, n0, n1, z0, z1, it, k⟩ := h
  obtain ⟨l1, l2, hk⟩ := isO_iff.mp ho
  refine ⟨_, (pss_cons (ps_expr (pe_has g_check_outline (room.mono (by decide)) qt (by rfl) pass0 (pa_cons (pv 0) pa_nil)))
      (pss_cons (ps_expr (pe_has g_check_height (room.mono (by decide)) qt (by rfl) pass0 (pa_cons (pv 1) pa_nil)))
      (pss_cons (ps_expr (pe_has g_check_scroll (room.mono (by decide)) qt (by rfl) pass0 (pa_cons (pv 0) (pa_cons (pv 2) pa_nil))))
      (pss_one (ps_ret (pe_has g_find_rows (room.mono (by decide)) qt (by rfl) pass0 (pa_cons (pv 0) (pa_cons (pv 1) (pa_cons (pv 2) pa_nil))))))))), ?_⟩
  refine ⟨_, rfl, a, ns, rfl, ha, ho, _, rfl, n, rfl, n0, n1, _, rfl, _, rfl, a, ns, z, rfl, SqL.of ha, l1, z0, z1, ?_⟩
  exact ⟨_, rfl, _, rfl, _, rfl, a, ns, n, z, t, rfl, SqL.of ha, ho, n0, z0, it, k⟩
end
abbrev s_check_line : Stmt := topS 15
abbrev N_check_line : List Str := ["outline", "line"]
abbrev P_check_line : List Str := ["outline", "line"]
theorem sc_check_line : FnScope N_check_line P_check_line (defScope s_check_line) := ⟨rfl, rfl, rfl, by decide +kernel, rfl, by decide +kernel, by decide +kernel⟩
abbrev s_scrolls_for_span : Stmt := topS 28
abbrev N_scrolls_for_span : List Str := ["outline", "height", "first", "last", "greatest", "least"]
abbrev P_scrolls_for_span : List Str := ["outline", "height", "first", "last"]
theorem sc_scrolls_for_span : FnScope N_scrolls_for_span P_scrolls_for_span (defScope s_scrolls_for_span) := ⟨rfl, rfl, rfl, by decide +kernel, rfl, by decide +kernel, by decide +kernel⟩
section
variable {P : Program} {w : World} {K : PySem.W.Frag} {mg : Str → Option Value} {base : Heap}
def sp_check_line (K : PySem.W.Frag) : Sp := fun vs H Q _ => ∃ (a : Addr) (ns : List Int) (i : Int), vs = [.ref a, .int i] ∧ SqL K H a (iv ns) ∧ 0 ≤ i ∧ i < ns.length ∧ Q .non H
theorem ok_check_line (T : Txt mg) (h : At K mg "check_line" s_check_line)
    (g_is_integer_within : Has P w K mg base CX0 2 "is_integer_within" s_is_integer_within P_is_integer_within sp_within) :
    Has P w K mg base CX0 3 "check_line" s_check_line P_check_line (sp_check_line K) := by
  refine Has.of h sc_check_line (fun vs H Q E h => ?_) (fun _ _ _ _ _ _ us hl => match us, hl with | [_, _], _ => rfl) (fun f cdv A outer s H vs Q E room qt h => ?_)
  · obtain ⟨a, n, z, rfl, _⟩ := h; rfl
  obtain ⟨a, ns, z, rfl, ha, z0, z1, k⟩ := h
  refine ⟨_, (pss_one (ps_if (pt_not (pt_val (pe_has g_is_integer_within (room.mono (by decide)) qt (by rfl) pass0 (pa_cons (pv 1) (pa_cons pe_int (pa_cons (pe_op op_sub (pe_callB call_len_seq (by rfl) T.len (by decide +kernel) (pa_cons (pv 0) pa_nil)) pe_int) pa_nil))))))
        (pss_one ps_never)
        pss_nil)), ?_⟩
  refine ⟨_, rfl, _, rfl, a, _, rfl, .inl ha, _, _, rfl, rfl, _, _, _, rfl, _, rfl, ?_⟩
  have el : (iv ns).length = ns.length := List.length_map _
  rw [decide_eq_true z0, decide_eq_true (show z ≤ ((iv ns).length : Int) - 1 by omega)]
  exact iteF k
/-- the scroll positions of lines: a tuple, or None -/
def RetS (Q : VK) (H : Hp) (lo hi : Int) : Prop := (lo > hi → ∀ H', Same H H' → Q .non H') ∧
  (lo ≤ hi → ∀ p H', H p = none → Same H H' → H' p = some (.tup [.int lo, .int hi]) → Q (.ref p) H')
def sp_span (K : PySem.W.Frag) : Sp := fun vs H Q _ => ∃ (a : Addr) (ns : List Int) (n : Int) (i j : Nat), vs = [.ref a, .int n, .int i, .int j] ∧ SqL K H a (iv ns) ∧ i < ns.length ∧
  RetS Q H (if (j : Int) - n + 1 > 0 then (j : Int) - n + 1 else 0) (stopAt ns i)
theorem ok_scrolls_for_span (T : Txt mg) (h : At K mg "scrolls_for_span" s_scrolls_for_span)
    (g_stop_of : Has P w K mg base CX0 1 "stop_of" s_stop_of P_stop_of (sp_stop_of K)) :
    Has P w K mg base CX0 3 "scrolls_for_span" s_scrolls_for_span P_scrolls_for_span (sp_span K) := by
  refine Has.of h sc_scrolls_for_span (fun vs H Q E h => ?_) (fun _ _ _ _ _ _ us hl => match us, hl with | [_, _, _, _], _ => rfl) (fun f cdv A outer s H vs Q E room qt h => ?_)
  · obtain ⟨a, n, z, i, j, rfl, _⟩ := h; rfl
  obtain ⟨a, ns, n, i, j, rfl, ha, hi, k1, k2⟩ := h
  refine ⟨_, (pss_cons (ps_set (i := 4) sc_scrolls_for_span.nd rfl (Or.inl rfl) (pe_has g_stop_of (room.mono (by decide)) qt (by rfl) pass0 (pa_cons (pv 0) (pa_cons (pv 2) pa_nil))))
      (pss_cons (ps_set (i := 5) sc_scrolls_for_span.nd rfl (Or.inl rfl) (pe_callB (call_max2 rfl) (by rfl) T.max (by decide +kernel) (pa_cons pe_int (pa_cons (pe_op op_add (pe_op op_sub (pv 3) (pv 1)) pe_int) pa_nil))))
      (pss_cons (ps_if (pt_cmpR op_gt (pv 5) (pv 4) (nomark _))
        (pss_one (ps_ret pe_non))
        pss_nil)
      (pss_one (ps_ret (pe_tup (pa_cons (pv 5) (pa_cons (pv 4) pa_nil)))))))), ?_⟩
  refine ⟨_, rfl, _, rfl, a, ns, i, rfl, ha, by omega, by omega, ?_⟩
  rw [Int.toNat_natCast]
  refine ⟨_, rfl, _, rfl, _, _, rfl, rfl, _, _, rfl, rfl, _, _, rfl, _, rfl, _, rfl, _, _, rfl, rfl, _, rfl, ite2 (fun c => ?_) (fun c => ?_)⟩
  · exact k1 (of_decide_eq_true c) H (Same.refl H)
  · have c1 := fun q => c (decide_eq_true q)
    exact ⟨_, rfl, _, rfl, (by decide : 2 ≤ sizeLine), fun p hp => k2 (Int.not_lt.mp c1) p _ hp (Same.new hp) upd_same⟩
end
abbrev s_scrolls_for_both : Stmt := topS 29
abbrev N_scrolls_for_both : List Str := ["outline", "height", "line", "other"]
abbrev P_scrolls_for_both : List Str := ["outline", "height", "line", "other"]
theorem sc_scrolls_for_both : FnScope N_scrolls_for_both P_scrolls_for_both (defScope s_scrolls_for_both) := ⟨rfl, rfl, rfl, by decide +kernel, rfl, by decide +kernel, by decide +kernel⟩
section
variable {P : Program} {w : World} {K : PySem.W.Frag} {mg : Str → Option Value} {base : Heap}
def sp_both : Sp := fun vs H Q _ => ∃ (a : Addr) (ns : List Int) (n : Int) (i j : Nat), vs = [.ref a, .int n, .int i, .int j] ∧ H a = some (.lst (iv ns)) ∧ isO ns = true ∧ 1 ≤ n ∧ n ≤ 400 ∧ i < ns.length ∧ j < ns.length ∧
  RetS Q H (if (max i j : Nat) - n + 1 > 0 then ((max i j : Nat) : Int) - n + 1 else 0) (stopAt ns (min i j))
theorem ok_scrolls_for_both (T : Txt mg) (h : At K mg "scrolls_for_both" s_scrolls_for_both)
    (g_check_outline : Has P w K mg base CX0 4 "check_outline" s_check_outline P_check_outline sp_check_outline)
    (g_check_height : Has P w K mg base CX0 3 "check_height" s_check_height P_check_height sp_check_height)
    (g_check_line : Has P w K mg base CX0 3 "check_line" s_check_line P_check_line (sp_check_line K))
    (g_scrolls_for_span : Has P w K mg base CX0 3 "scrolls_for_span" s_scrolls_for_span P_scrolls_for_span (sp_span K)) :
    Has P w K mg base CX0 5 "scrolls_for_both" s_scrolls_for_both P_scrolls_for_both sp_both := by
  refine Has.of h sc_scrolls_for_both (fun vs H Q E h => ?_) (fun _ _ _ _ _ _ us hl => match us, hl with | [_, _, _, _], _ => rfl) (fun f cdv A outer s H vs Q E room qt h => ?_)
  · obtain ⟨a, n, z, i, j, rfl, _⟩ := h; rfl
  obtain ⟨a, ns, n, i, j, rfl, ha, ho, n0, n1, hi, hj, k⟩ := h
  refine ⟨_, (pss_cons (ps_expr (pe_has g_check_outline (room.mono (by decide)) qt (by rfl) pass0 (pa_cons (pv 0) pa_nil)))
      (pss_cons (ps_expr (pe_has g_check_height (room.mono (by decide)) qt (by rfl) pass0 (pa_cons (pv 1) pa_nil)))
      (pss_cons (ps_expr (pe_has g_check_line (room.mono (by decide)) qt (by rfl) pass0 (pa_cons (pv 0) (pa_cons (pv 2) pa_nil))))
      (pss_cons (ps_expr (pe_has g_check_line (room.mono (by decide)) qt (by rfl) pass0 (pa_cons (pv 0) (pa_cons (pv 3) pa_nil))))
      (pss_one (ps_ret (pe_has g_scrolls_for_span (room.mono (by decide)) qt (by rfl) pass0 (pa_cons (pv 0) (pa_cons (pv 1) (pa_cons (pe_callB (call_min2 rfl) (by rfl) T.min (by decide +kernel) (pa_cons (pv 2) (pa_cons (pv 3) pa_nil))) (pa_cons (pe_callB (call_max2 rfl) (by rfl) T.max (by decide +kernel) (pa_cons (pv 2) (pa_cons (pv 3) pa_nil))) pa_nil))))))))))), ?_⟩
  refine ⟨_, rfl, a, ns, rfl, ha, ho, _, rfl, n, rfl, n0, n1, _, rfl, _, rfl, a, ns, i, rfl, SqL.of ha, by omega, by omega, _, rfl, _, rfl, a, ns, j, rfl, SqL.of ha, by omega, by omega, ?_⟩
  have e1 : (if (j : Int) < i then (j : Int) else i) = ((min i j : Nat) : Int) := by split <;> omega
  have e2 : (if (j : Int) > i then (j : Int) else i) = ((max i j : Nat) : Int) := by split <;> omega
  refine ⟨_, rfl, _, rfl, _, rfl, _, rfl, _, _, rfl, _, rfl, _, rfl, _, _, rfl, a, ns, n, min i j, max i j, by rw [e1, e2]; rfl, SqL.of ha, by omega, k⟩
end
end SH

namespace SH
open PySem PySem.Spec PyProof.Rows L2
abbrev s_last_of_section : Stmt := topS 18
abbrev N_last_of_section : List Str := ["outline", "line", "last"]
abbrev P_last_of_section : List Str := ["outline", "line"]
theorem sc_last_of_section : FnScope N_last_of_section P_last_of_section (defScope s_last_of_section) := ⟨rfl, rfl, rfl, by decide +kernel, rfl, by decide +kernel, by decide +kernel⟩
abbrev s_is_ascending_list : Stmt := topS 10
abbrev N_is_ascending_list : List Str := ["value", "greatest", "least", "item"]
abbrev P_is_ascending_list : List Str := ["value", "greatest"]
theorem sc_is_ascending_list : FnScope N_is_ascending_list P_is_ascending_list (defScope s_is_ascending_list) := ⟨rfl, rfl, rfl, by decide +kernel, rfl, by decide +kernel, by decide +kernel⟩
abbrev s_lines_left : Stmt := topS 31
abbrev N_lines_left : List Str := ["outline", "folds", "found", "line"]
abbrev P_lines_left : List Str := ["outline", "folds"]
theorem sc_lines_left : FnScope N_lines_left P_lines_left (defScope s_lines_left) := ⟨rfl, rfl, rfl, by decide +kernel, rfl, by decide +kernel, by decide +kernel⟩
abbrev s_folded_outline : Stmt := topS 32
abbrev N_folded_outline : List Str := ["outline", "folds", "line"]
abbrev P_folded_outline : List Str := ["outline", "folds"]
theorem sc_folded_outline : FnScope N_folded_outline P_folded_outline (defScope s_folded_outline) := ⟨rfl, rfl, rfl, by decide +kernel, rfl, by decide +kernel, by decide +kernel⟩
/-! ### folds -/
/-- t is the last line of the section at i -/
def IsEnd (ns : List Int) (i t : Nat) : Prop := i ≤ t ∧ t < ns.length ∧ (∀ k, i < k → k ≤ t → ns.getD i 0 < ns.getD k 0) ∧ (t + 1 < ns.length → ns.getD (t + 1) 0 ≤ ns.getD i 0)
theorem end_ex {ns : List Int} {i : Nat} (hi : i < ns.length) : ∀ n, ∃ t, IsEnd ns i t ∨ (i ≤ t ∧ t < ns.length ∧ (∀ k, i < k → k ≤ t → ns.getD i 0 < ns.getD k 0) ∧ t = i + n)
  | 0 => ⟨i, .inr ⟨Nat.le_refl _, hi, fun k a b => by omega, rfl⟩⟩
  | n + 1 => by
    obtain ⟨t, h | ⟨a, b, c, e⟩⟩ := end_ex hi n
    · exact ⟨t, .inl h⟩
    · by_cases q : t + 1 < ns.length ∧ ns.getD i 0 < ns.getD (t + 1) 0
      · refine ⟨t + 1, .inr ⟨by omega, q.1, fun k k0 k1 => ?_, by omega⟩⟩
        rcases Nat.lt_or_ge t k with z | z
        · have : k = t + 1 := by omega
          subst this
          exact q.2
        · exact c k k0 z
      · refine ⟨t, .inl ⟨a, b, c, fun z => ?_⟩⟩
        by_cases y : ns.getD i 0 < ns.getD (t + 1) 0
        · exact (q ⟨z, y⟩).elim
        · omega
theorem end_of {ns : List Int} {i : Nat} (hi : i < ns.length) : ∃ t, IsEnd ns i t := by
  obtain ⟨t, h | ⟨a, b, c, e⟩⟩ := end_ex hi ns.length
  · exact ⟨t, h⟩
  · omega
theorem end_uniq {ns : List Int} {i t t' : Nat} (a : IsEnd ns i t) (b : IsEnd ns i t') : t = t' := by
  rcases Nat.lt_trichotomy t t' with c | c | c
  · have := a.2.2.2 (by have := b.2.1; omega)
    have := b.2.2.1 (t + 1) (by have := a.1; omega) c
    omega
  · exact c
  · have := b.2.2.2 (by have := a.2.1; omega)
    have := a.2.2.1 (t' + 1) (by have := b.1; omega) c
    omega
noncomputable def endF (ns : List Int) (i : Nat) : Nat := @dite _ (i < ns.length) (Classical.propDecidable _) (fun h => Classical.choose (end_of h)) (fun _ => i)
theorem endF_is {ns : List Int} {i : Nat} (hi : i < ns.length) : IsEnd ns i (endF ns i) := by
  unfold endF
  rw [dif_pos hi]
  exact Classical.choose_spec (end_of hi)
noncomputable def nextL (ns fs : List Int) (i : Nat) : Nat := if (i : Int) ∈ fs then max (endF ns i) i + 1 else i + 1
theorem nextL_gt (ns fs : List Int) (i : Nat) : i < nextL ns fs i := by unfold nextL; split <;> omega
noncomputable def leftL (ns fs : List Int) (i : Nat) : List Int := if i < ns.length then (i : Int) :: leftL ns fs (nextL ns fs i) else []
termination_by ns.length - i
decreasing_by have := nextL_gt ns fs i; omega
theorem leftL_go {ns fs : List Int} {i : Nat} (hi : i < ns.length) : leftL ns fs i = (i : Int) :: leftL ns fs (nextL ns fs i) := by
  rw [leftL, if_pos hi]
theorem leftL_end {ns fs : List Int} {i : Nat} (hi : ns.length ≤ i) : leftL ns fs i = [] := by
  rw [leftL, if_neg (by omega)]
theorem leftL_mem {ns fs : List Int} {v : Int} {i : Nat} (hv : v ∈ leftL ns fs i) : (i : Int) ≤ v ∧ v < ns.length := by
  induction hm : ns.length - i using Nat.strongRecOn generalizing i with
  | _ m ih =>
    rcases Nat.lt_or_ge i ns.length with c | c
    · rw [leftL_go c] at hv
      have := nextL_gt ns fs i
      rcases List.mem_cons.mp hv with e | e
      · subst e
        omega
      · have := ih (ns.length - nextL ns fs i) (by omega) e rfl
        omega
    · rw [leftL_end c] at hv
      cases hv
theorem leftL_len (ns fs : List Int) (i : Nat) : (leftL ns fs i).length ≤ ns.length - i := by
  induction hm : ns.length - i using Nat.strongRecOn generalizing i with
  | _ m ih =>
    rcases Nat.lt_or_ge i ns.length with c | c
    · rw [leftL_go c, List.length_cons]
      have := nextL_gt ns fs i
      have := ih (ns.length - nextL ns fs i) (by omega) _ rfl
      omega
    · rw [leftL_end c]
      exact Nat.zero_le _
/-- the depths of the lines that are left -/
noncomputable def foldL (ns fs : List Int) : List Int := (leftL ns fs 0).map fun v => ns.getD v.toNat 0
/-- strictly ascending from lo to g -/
def ascB (g : Int) : Int → List Int → Bool
  | _, [] => true
  | lo, x :: r => decide (lo ≤ x) && decide (x ≤ g) && ascB g (x + 1) r
theorem ascB_drop {g : Int} {fs : List Int} {i : Nat} (h : i < fs.length) (lo : Int) : ascB g lo (fs.drop i) =
    (decide (lo ≤ fs.getD i 0) && decide (fs.getD i 0 ≤ g) && ascB g (fs.getD i 0 + 1) (fs.drop (i + 1))) := by
  rw [List.drop_eq_getElem_cons h, List.getD_eq_getElem?_getD, List.getElem?_eq_getElem h]
  rfl
def aAt (fs : List Int) : Nat → Int
  | 0 => 0
  | i + 1 => fs.getD i 0 + 1
section
variable {P : Program} {w : World} {K : PySem.W.Frag} {mg : Str → Option Value} {base : Heap}
def sp_last_of_section (K : PySem.W.Frag) : Sp := fun vs H Q _ => ∃ (a : Addr) (ns : List Int) (i t : Nat), vs = [.ref a, .int i] ∧ SqL K H a (iv ns) ∧ IsEnd ns i t ∧ Q (.int t) H
theorem ok_last_of_section (T : Txt mg) (h : At K mg "last_of_section" s_last_of_section) :
    Has P w K mg base CX0 2 "last_of_section" s_last_of_section P_last_of_section (sp_last_of_section K) := by
  refine Has.of h sc_last_of_section (fun vs H Q E h => ?_) (fun _ _ _ _ _ _ us hl => match us, hl with | [_, _], _ => rfl) (fun f cdv A outer s H vs Q E room qt h => ?_)
  · obtain ⟨a, n, z, t, rfl, _⟩ := h; rfl
  obtain ⟨a, ns, i, t, rfl, ha, ⟨t0, t1, t2, t3⟩, k⟩ := h
  refine ⟨_, (pss_cons (ps_set (i := 2) sc_last_of_section.nd rfl (Or.inl rfl) (pv 1))
      (pss_cons (ps_while PassesOwn.never (PW.pt (pw_and (pt_cmpR op_lt (pe_op op_add (pv 2) pe_int) (pe_callB call_len_seq (by rfl) T.len (by decide +kernel) (pa_cons (pv 0) pa_nil)) (nomark _)) (pw_and1 (pt_cmpR op_gt (pe_ix ix_list (pv 0) (pe_op op_add (pv 2) pe_int) (fun _ _ => rfl)) (pe_ix ix_list (pv 0) (pv 1) (fun _ _ => rfl)) (nomark _)))))
        (pss_one (ps_aug (i := 2) sc_last_of_section.nd rfl (Or.inl rfl) pe_int ip_add)))
      (pss_one (ps_ret (pv 2))))), ?_⟩
  have el : (iv ns).length = ns.length := List.length_map _
  refine ⟨_, rfl, ?_⟩
  refine ⟨fun m σ H' => H' = H ∧ ∃ j : Nat, i ≤ j ∧ j ≤ t ∧ m = t - j ∧ σ = [some (.ref a), some (.int i), some (.int (j : Nat))], ⟨t - i, rfl, i, Nat.le_refl _, t0, rfl, rfl⟩, ?_⟩
  rintro m σ H' ⟨rfl, j, j0, j1, rfl, rfl⟩
  refine ⟨_, rfl, _, _, rfl, rfl, _, rfl, a, _, rfl, .inl ha, _, _, rfl, rfl, _, rfl, ite2 (fun c => ?_) (fun c => iteF ?_)⟩
  · have c1 : j + 1 < ns.length := by have := of_decide_eq_true c; omega
    have ej : (j : Int) + 1 = ((j + 1 : Nat) : Int) := by omega
    refine ⟨_, rfl, _, rfl, _, _, rfl, rfl, a, iv ns, _, _, rfl, rfl, ha, atI_iv (by omega) (by omega), _, rfl, _, rfl, a, iv ns, _, _, rfl, rfl, ha, atI_iv (by omega) (by omega), _, _, rfl, rfl, _, rfl, ite2 (fun c2 => ?_) (fun c2 => ?_)⟩
    · have c3 := of_decide_eq_true c2
      rw [ej, Int.toNat_natCast, Int.toNat_natCast] at c3
      have ne : j ≠ t := fun e => by subst e; have := t3 c1; omega
      refine ⟨fun σ' H2 => H2 = H' ∧ σ' = [some (.ref a), some (.int i), some (.int ((j : Nat) + 1))], fun σ' H'' q => ⟨t - (j + 1), by omega, q.1, j + 1, by omega, by omega, rfl, q.2⟩, ?_⟩
      exact ⟨_, rfl, _, _, rfl, rfl, rfl, rfl⟩
    · have c3 : ¬ (ns.getD i 0 < ns.getD (j + 1) 0) := fun q => c2 (decide_eq_true (by rw [ej, Int.toNat_natCast, Int.toNat_natCast]; exact q))
      have e : j = t := by
        rcases Nat.lt_or_ge j t with q | q
        · exact (c3 (t2 (j + 1) (by omega) (by omega))).elim
        · omega
      subst e
      exact ⟨_, rfl, k⟩
  · have c1 : ¬ (j + 1 < ns.length) := fun q => c (decide_eq_true (by omega))
    have e : j = t := by omega
    subst e
    exact ⟨_, rfl, k⟩
def sp_is_ascending_list : Sp := fun vs H Q _ => ∃ (b : Addr) (fs : List Int) (g : Int), vs = [.ref b, .int g] ∧ H b = some (.lst (iv fs)) ∧ Q (.bl (ascB g 0 fs)) H
theorem ok_is_ascending_list (T : Txt mg) (h : At K mg "is_ascending_list" s_is_ascending_list)
    (g_is_integer_within : Has P w K mg base CX0 2 "is_integer_within" s_is_integer_within P_is_integer_within sp_within) :
    Has P w K mg base CX0 3 "is_ascending_list" s_is_ascending_list P_is_ascending_list sp_is_ascending_list := by
  refine Has.of h sc_is_ascending_list (fun vs H Q E h => ?_) (fun _ _ _ _ _ _ us hl => match us, hl with | [_, _], _ => rfl) (fun f cdv A outer s H vs Q E room qt h => ?_)
  · obtain ⟨v, a, z, rfl, _⟩ := h; rfl
  obtain ⟨a, ns, g, rfl, ha, k⟩ := h
  refine ⟨_, (pss_cons (ps_if (pt_cmpR op_neTy (pe_callTy RZ.call_type4 (by rfl) T.ttype (by decide +kernel) (pa_cons (pv 0) pa_nil)) (pe_bltn (v := .ty "list") (u := .type "list") (by rfl) T.tlist (by decide +kernel) rfl) (nomark _))
        (pss_one (ps_ret pe_bl))
        pss_nil)
      (pss_cons (ps_set (i := 2) sc_is_ascending_list.nd rfl (Or.inl rfl) pe_int)
      (pss_cons (ps_for PassesOwn.never rfl (pi_list (pv 0)) (pg_name (i := 3) sc_is_ascending_list.nd rfl (Or.inl rfl) (hf := Or.inl rfl))
        (pss_cons (ps_if (pt_not (pt_val (pe_has g_is_integer_within (room.mono (by decide)) qt (by rfl) pass0 (pa_cons (pv 3) (pa_cons (pv 2) (pa_cons (pv 1) pa_nil))))))
          (pss_one (ps_ret pe_bl))
          pss_nil)
        (pss_one (ps_set (i := 2) sc_is_ascending_list.nd rfl (Or.inl rfl) (pe_op op_add (pv 3) pe_int)))))
      (pss_one (ps_ret pe_bl))))), ?_⟩
  have el : (iv ns).length = ns.length := List.length_map _
  refine ⟨_, rfl, .ref a, "list", rfl, .lst ha, _, _, rfl, rfl, by decide, by decide, _, rfl, ?_⟩
  refine iteF ⟨_, rfl, a, rfl, ⟨_, SqL.of ha⟩, for_list (K := K) (a := a) (xs := iv ns)
    (fun i σ H2 => H2 = H ∧ (∃ v, σ = [some (.ref a), some (.int g), some (.int (aAt ns i)), v]) ∧ ascB g (aAt ns i) (ns.drop i) = ascB g 0 ns)
    ⟨rfl, ⟨_, rfl⟩, rfl⟩ (fun i σ H2 _ q => by rw [q.1]; exact SqL.of ha) ?_ ?_⟩
  · rintro i x σ H2 hi ⟨rfl, ⟨v, rfl⟩, q⟩
    have hl : i < ns.length := by have := (List.getElem?_eq_some_iff.mp hi).1; rwa [List.length_map] at this
    rw [iv_at hl] at hi
    cases hi
    rw [ascB_drop hl] at q
    refine ⟨_, rfl, _, rfl, _, rfl, _, _, _, rfl, _, rfl, ite2 (fun d => ?_) (fun d => ?_)⟩
    · rw [bnot_t d, Bool.false_and] at q
      rw [← q] at k
      exact k
    · rw [bnot_f d, Bool.true_and] at q
      exact ⟨_, rfl, _, _, rfl, rfl, rfl, ⟨_, rfl⟩, q⟩
  · rintro σ H2 ⟨rfl, ⟨v, rfl⟩, q⟩
    rw [el, List.drop_length] at q
    rw [← q] at k
    exact k
def sp_lines_left : Sp := fun vs H Q _ => ∃ (a b : Addr) (ns fs : List Int), vs = [.ref a, .ref b] ∧ H a = some (.lst (iv ns)) ∧ isO ns = true ∧ H b = some (.lst (iv fs)) ∧ ascB (ns.length - 1) 0 fs = true ∧ RetL Q H (iv (leftL ns fs 0))
theorem ok_lines_left (T : Txt mg) (h : At K mg "lines_left" s_lines_left)
    (g_check_outline : Has P w K mg base CX0 4 "check_outline" s_check_outline P_check_outline sp_check_outline)
    (g_is_ascending_list : Has P w K mg base CX0 3 "is_ascending_list" s_is_ascending_list P_is_ascending_list sp_is_ascending_list)
    (g_last_of_section : Has P w K mg base CX0 2 "last_of_section" s_last_of_section P_last_of_section (sp_last_of_section K)) :
    Has P w K mg base CX0 5 "lines_left" s_lines_left P_lines_left sp_lines_left := by
  refine Has.of h sc_lines_left (fun vs H Q E h => ?_) (fun _ _ _ _ _ _ us hl => match us, hl with | [_, _], _ => rfl) (fun f cdv A outer s H vs Q E room qt h => ?_)
  · obtain ⟨v, a, z, t, rfl, _⟩ := h; rfl
  obtain ⟨a, b, ns, fs, rfl, ha, ho, hb, asc, k⟩ := h
  obtain ⟨l1, l2, hk⟩ := isO_iff.mp ho
  refine ⟨_, (pss_cons (ps_expr (pe_has g_check_outline (room.mono (by decide)) qt (by rfl) pass0 (pa_cons (pv 0) pa_nil)))
      (pss_cons (ps_if (pt_not (pt_val (pe_has g_is_ascending_list (room.mono (by decide)) qt (by rfl) pass0 (pa_cons (pv 1) (pa_cons (pe_op op_sub (pe_callB call_len_seq (by rfl) T.len (by decide +kernel) (pa_cons (pv 0) pa_nil)) pe_int) pa_nil)))))
        (pss_one ps_never)
        pss_nil)
      (pss_cons (ps_set (i := 2) sc_lines_left.nd rfl (Or.inl rfl) (pe_lst pa_nil))
      (pss_cons (ps_set (i := 3) sc_lines_left.nd rfl (Or.inl rfl) pe_int)
      (pss_cons (ps_while PassesOwn.never (pt_cmpR op_lt (pv 3) (pe_callB call_len_seq (by rfl) T.len (by decide +kernel) (pa_cons (pv 0) pa_nil)) (nomark _))
        (pss_cons (ps_expr (pe_bm PySem.F.plainAttrs_list PySem.F.slot_list_append PySem.F.type_list_append mt_append (pv 2) (pa_cons (pv 3) pa_nil)))
        (pss_cons (ps_if (pt_cmpR op_in_seq (pv 3) (pv 1) (by with_unfolding_all rfl))
          (pss_one (ps_set (i := 3) sc_lines_left.nd rfl (Or.inl rfl) (pe_has g_last_of_section (room.mono (by decide)) qt (by rfl) pass0 (pa_cons (pv 0) (pa_cons (pv 3) pa_nil)))))
          pss_nil)
        (pss_one (ps_aug (i := 3) sc_lines_left.nd rfl (Or.inl rfl) pe_int ip_add)))))
      (pss_one (ps_ret (pv 2)))))))), ?_⟩
  have el : (iv ns).length = ns.length := List.length_map _
  refine ⟨_, rfl, a, ns, rfl, ha, ho, ?_⟩
  refine ⟨_, rfl, _, rfl, a, _, rfl, .inl (SqL.of ha), _, _, rfl, rfl, b, fs, _, rfl, hb, ?_⟩
  rw [el, asc]
  refine ⟨_, rfl, iteF ?_⟩
  refine ⟨(by decide : 0 ≤ sizeLine), fun p hp => ?_⟩
  refine ⟨fun m σ H' => ∃ (j : Nat) (F : List Int), F.length ≤ j ∧ leftL ns fs 0 = F ++ leftL ns fs j ∧ H' = upd H p (.lst (iv F)) ∧ m = ns.length - j ∧ σ = [some (.ref a), some (.ref b), some (.ref p), some (.int (j : Nat))],
    ⟨ns.length - 0, 0, [], Nat.le_refl _, rfl, rfl, rfl, rfl⟩, ?_⟩
  rintro m σ H' ⟨j, F, jF, e, rfl, rfl, rfl⟩
  have ha' : ∀ o, SqL K (upd H p o) a (iv ns) := fun o => (Same.new hp).seq (SqL.of ha)
  have hb' : ∀ o, SqL K (upd H p o) b (iv fs) := fun o => (Same.new hp).seq (SqL.of hb)
  refine ⟨_, rfl, _, rfl, a, _, rfl, .inl (ha' _), _, _, rfl, rfl, _, rfl, ite2 (fun c => ?_) (fun c => ?_)⟩
  · have c1 : j < ns.length := by have := of_decide_eq_true c; omega
    have gj := nextL_gt ns fs j
    refine ⟨fun σ' H2 => H2 = upd H p (.lst (iv (F ++ [(j : Int)]))) ∧ σ' = [some (.ref a), some (.ref b), some (.ref p), some (.int (nextL ns fs j : Nat))], fun σ' H'' q => ⟨ns.length - nextL ns fs j, by omega, nextL ns fs j, F ++ [(j : Int)], ?_, ?_, q.1, rfl, q.2⟩, ?_⟩
    · rw [List.length_append]; show F.length + 1 ≤ _; omega
    · rw [e, leftL_go c1, List.append_assoc]; rfl
    refine ⟨_, rfl, .inl ⟨rfl, _, SqL.of upd_same⟩, _, rfl, p, _, _, rfl, rfl, upd_same, small_line (by rw [List.length_map]; omega), ?_⟩
    rw [upd_upd, iv_snoc]
    refine ⟨_, rfl, _, rfl, b, _, rfl, .inl (hb' _), rfl, flat_iv _, _, rfl, ?_⟩
    show if inV (V.int (j : Int)) (iv fs) = true then _ else _
    rw [inV_iv]
    have ef := endF_is c1
    refine ite_cut (fun σ2 H2 => H2 = upd H p (.lst (iv (F ++ [(j : Int)]))) ∧ σ2 = [some (.ref a), some (.ref b), some (.ref p), some (.int ((nextL ns fs j : Nat) - 1 : Int))]) ?_ ?_ ?_
    · rintro σ2 H2 ⟨rfl, rfl⟩
      refine ⟨_, rfl, _, _, rfl, rfl, rfl, ?_⟩
      exact congrArg (fun z => [some (V.ref a), some (V.ref b), some (V.ref p), some (V.int z)]) (by show ((nextL ns fs j : Nat) : Int) - 1 + 1 = _; omega)
    · intro cb main
      have m1 := of_decide_eq_true cb
      refine ⟨_, rfl, _, rfl, a, ns, j, endF ns j, rfl, ha' _, ef, main _ _ ⟨rfl, ?_⟩⟩
      have en : ((nextL ns fs j : Nat) : Int) - 1 = endF ns j := by
        unfold nextL
        rw [if_pos m1]
        have := ef.1
        omega
      rw [en]
      rfl
    · intro cb
      have m1 : ¬ (j : Int) ∈ fs := fun z => cb (decide_eq_true z)
      refine ⟨rfl, ?_⟩
      have en : ((nextL ns fs j : Nat) : Int) - 1 = j := by
        unfold nextL
        rw [if_neg m1]
        omega
      rw [en]
  · have c1 : ns.length ≤ j := by
      rcases Nat.lt_or_ge j ns.length with q | q
      · exact (c (decide_eq_true (by omega))).elim
      · exact q
    rw [leftL_end c1, List.append_nil] at e
    exact ⟨_, rfl, k p _ hp (Same.new hp) (by rw [upd_same, e])⟩
def sp_folded_outline : Sp := fun vs H Q _ => ∃ (a b : Addr) (ns fs : List Int), vs = [.ref a, .ref b] ∧ H a = some (.lst (iv ns)) ∧ isO ns = true ∧ H b = some (.lst (iv fs)) ∧ ascB (ns.length - 1) 0 fs = true ∧ RetL Q H (iv (foldL ns fs))
theorem ok_folded_outline (T : Txt mg) (h : At K mg "folded_outline" s_folded_outline)
    (g_lines_left : Has P w K mg base CX0 5 "lines_left" s_lines_left P_lines_left sp_lines_left) :
    Has P w K mg base CX0 6 "folded_outline" s_folded_outline P_folded_outline sp_folded_outline := by
  refine Has.of h sc_folded_outline (fun vs H Q E h => ?_) (fun _ _ _ _ _ _ us hl => match us, hl with | [_, _], _ => rfl) (fun f cdv A outer s H vs Q E room qt h => ?_)
  · obtain ⟨v, a, z, t, rfl, _⟩ := h; rfl
  obtain ⟨a, b, ns, fs, rfl, ha, ho, hb, asc, k⟩ := h
  obtain ⟨l1, l2, hk⟩ := isO_iff.mp ho
  refine ⟨_, (pss_one (ps_ret (pe_lc (own := [("line", 2)]) (by rfl) sc_folded_outline.nd (pi_list (pe_has g_lines_left (room.mono (by decide)) qt (by rfl) pass0 (pa_cons (pv 0) (pa_cons (pv 1) pa_nil)))) (blkOk_by (own := [("line", 2)]) (N := N_folded_outline) (sc := defScope s_folded_outline) (by decide +kernel)) (fun _ _ _ _ _ => (pg_name (i := 2) sc_folded_outline.nd rfl (Or.inl rfl) (hf := Or.inr rfl))) (fun _ _ _ _ _ => pts_nil) (fun _ _ _ _ _ => (pe_ix (show IxR _ (rIxL K) from by exact ix_list) (pv 0) (pv 2) (fun _ _ => rfl)))))), ?_⟩
  refine ⟨_, rfl, _, rfl, a, b, ns, fs, rfl, ha, ho, hb, asc, fun p H1 hp s1 h1 => ?_⟩
  have ll := leftL_len ns fs 0
  refine ⟨p, rfl, ⟨_, SqL.of h1⟩, fun D hD => lcLn (K := K) (a := p) (xs := iv (leftL ns fs 0)) (fun _ => true) (fun i => V.int (ns.getD ((leftL ns fs 0).getD i 0).toNat 0)) (SqL.of h1) hD (by rw [List.length_map]; omega) (fun x => rfl) (fun i x H2 Q' _ _ qq => qq H2 (Same.refl _)) ?_ ?_⟩
  · intro i x H2 Q' hx _ s2 qq
    have il : i < (leftL ns fs 0).length := by have := (List.getElem?_eq_some_iff.mp hx).1; rwa [List.length_map] at this
    rw [iv_at il] at hx
    cases hx
    have vm : (leftL ns fs 0).getD i 0 ∈ leftL ns fs 0 := by
      rw [List.getD_eq_getElem?_getD, List.getElem?_eq_getElem il]
      exact List.getElem_mem il
    have vb := leftL_mem vm
    exact ⟨_, rfl, _, rfl, a, iv ns, _, _, rfl, rfl, SqL.of (s2 _ _ (s1 _ _ ha)), atI_iv (by omega) vb.2, qq H2 (Same.refl _)⟩
  · intro H2 s2 h2
    have e : gives (iv (leftL ns fs 0)).length (fun _ => true) (fun i => V.int (ns.getD ((leftL ns fs 0).getD i 0).toNat 0)) = iv (foldL ns fs) := by
      rw [gives_all, List.length_map]
      unfold foldL iv
      rw [List.map_map]
      refine List.ext_getElem (by rw [List.length_map, List.length_map, List.length_range]) fun i h1 h2 => ?_
      rw [List.length_map, List.length_range] at h1
      rw [List.getElem_map, List.getElem_map, List.getElem_range, List.getD_eq_getElem?_getD (l := leftL ns fs 0), List.getElem?_eq_getElem h1]
      rfl
    rw [e] at h2
    exact k D _ (s1.free hD) (s1.trans s2) h2
end
end SH

namespace SH
open PySem PySem.Spec PyProof.Rows L2
abbrev s_law_bag : Stmt := topS 36
abbrev N_law_bag : List Str := ["cell", "turn", "size"]
abbrev P_law_bag : List Str := ["cell", "turn"]
theorem sc_law_bag : FnScope N_law_bag P_law_bag (defScope s_law_bag) := ⟨rfl, rfl, rfl, by decide +kernel, rfl, by decide +kernel, by decide +kernel⟩
abbrev s_law_draw : Stmt := topS 37
abbrev N_law_draw : List Str := ["bag", "many", "found", "mixed"]
abbrev P_law_draw : List Str := ["bag", "many"]
theorem sc_law_draw : FnScope N_law_draw P_law_draw (defScope s_law_draw) := ⟨rfl, rfl, rfl, by decide +kernel, rfl, by decide +kernel, by decide +kernel⟩
abbrev s_law_cells : Stmt := topS 38
abbrev N_law_cells : List Str := ["script"]
abbrev P_law_cells : List Str := ["script"]
theorem sc_law_cells : FnScope N_law_cells P_law_cells (defScope s_law_cells) := ⟨rfl, rfl, rfl, by decide +kernel, rfl, by decide +kernel, by decide +kernel⟩
abbrev s_law_rising : Stmt := topS 39
abbrev N_law_rising : List Str := ["bag", "most", "style", "many", "found", "turn", "top", "some"]
abbrev P_law_rising : List Str := ["bag", "most"]
theorem sc_law_rising : FnScope N_law_rising P_law_rising (defScope s_law_rising) := ⟨rfl, rfl, rfl, by decide +kernel, rfl, by decide +kernel, by decide +kernel⟩
abbrev s_law_sized : Stmt := topS 40
abbrev N_law_sized : List Str := ["script", "bag", "small", "great"]
abbrev P_law_sized : List Str := ["script", "bag", "small", "great"]
theorem sc_law_sized : FnScope N_law_sized P_law_sized (defScope s_law_sized) := ⟨rfl, rfl, rfl, by decide +kernel, rfl, by decide +kernel, by decide +kernel⟩
/-- the bag stands at a: [digits, state, number of draws], at most n draws so far -/
def SrcV (n : Int) (H : Hp) (a : Addr) : Prop := ∃ x y z : Int, H a = some (.lst [.int x, .int y, .int z]) ∧ 0 ≤ y ∧ y < 2 ^ 400 ∧ 0 ≤ z ∧ z ≤ n
/-- what stays whatever the pool does -/
def Still (a : Addr) (H : Hp) (p : Hp → Prop) : Prop := ∀ H', SameBut a H H' → p H'
theorem SrcV.mono {n m : Int} {H : Hp} {a : Addr} (s : SrcV n H a) (h : n ≤ m) : SrcV m H a := by
  obtain ⟨x, y, z, e, y0, y1, z0, z1⟩ := s
  exact ⟨x, y, z, e, y0, y1, z0, by omega⟩
theorem SrcV.new {n : Int} {H : Hp} {a p : Addr} {o : HO} (s : SrcV n H a) (h : H p = none) : SrcV n (upd H p o) a := by
  obtain ⟨x, y, z, e, r⟩ := s
  exact ⟨x, y, z, by rw [upd_ne (ne_of_none e h)]; exact e, r⟩
theorem SrcV.upd {n : Int} {H : Hp} {a p : Addr} {o : HO} (s : SrcV n H a) (h : a ≠ p) : SrcV n (upd H p o) a := by
  obtain ⟨x, y, z, e, r⟩ := s
  exact ⟨x, y, z, by rw [upd_ne h]; exact e, r⟩
theorem SrcV.same {n : Int} {H H' : Hp} {a : Addr} (s : SrcV n H a) (h : Same H H') : SrcV n H' a := by
  obtain ⟨x, y, z, e, r⟩ := s
  exact ⟨x, y, z, h _ _ e, r⟩
theorem SrcV.ne {n : Int} {H : Hp} {a p : Addr} (s : SrcV n H a) (h : H p = none) : a ≠ p := by
  obtain ⟨x, y, z, e, r⟩ := s
  exact ne_of_none e h
theorem SrcV.but {n : Int} {g d : Addr} {H H' : Hp} (s : SrcV n H g) (b : SameBut d H H') (h : g ≠ d) : SrcV n H' g := by
  obtain ⟨x, y, z, e, r⟩ := s
  exact ⟨x, y, z, b _ _ e h, r⟩
theorem SameBut.own {a p : Addr} {H H' : Hp} {o : HO} (s : SameBut a H H') (h : H p = none) : SameBut a H (L2.upd H' p o) :=
  fun b u e n => by rw [upd_ne (ne_of_none e h)]; exact s b u e n
theorem SameBut.free {a p : Addr} {H H' : Hp} (s : SameBut a H H') (n : p ≠ a) (h : H' p = none) : H p = none := by
  cases e : H p with
  | none => rfl
  | some o => rw [s p o e n] at h; cases h
section
variable {P : Program} {w : World} {K : PySem.W.Frag} {mg : Str → Option Value} {base : Heap}
theorem pwF18 : (10 : Int) ^ (18 : Int).toNat = 1000000000000000000 := by decide
theorem pwF42 : (10 : Int) ^ (42 : Int).toNat = 1000000000000000000000000000000000000000000 := by decide
theorem pwF39 : (10 : Int) ^ (39 : Int).toNat = 1000000000000000000000000000000000000000 := by decide
theorem pwF37 : (10 : Int) ^ (37 : Int).toNat = 10000000000000000000000000000000000000 := by decide
theorem pow_ok {i j : Int} (h : i.natAbs < 2 ^ 4000) (h0 : 0 ≤ j) (h1 : j ≤ 5) : PowC i j := by
  refine ⟨h0, ?_⟩
  have := intBits_le (k := 4000) h
  have e : (2 : Int) ^ 27 = 134217728 := by decide
  have m : (Builtin.Int.intBits i : Int) * j ≤ 4000 * 5 := Int.mul_le_mul (by omega) h1 h0 (by decide)
  omega
def sp_law_bag : Sp := fun vs H Q _ => ∃ c t : Int, vs = [.int c, .int t] ∧ 0 ≤ t ∧ t ≤ 1000 ∧ ∀ p H', H p = none → Same H H' → SrcV 0 H' p → Q (.ref p) H'
theorem ok_law_bag (T : Txt mg) (h : At K mg "_law_bag" s_law_bag) :
    Has P w K mg base CX0 1 "_law_bag" s_law_bag P_law_bag sp_law_bag := by
  refine Has.of h sc_law_bag (fun vs H Q E h => ?_) (fun _ _ _ _ _ _ us hl => match us, hl with | [_, _], _ => rfl) (fun f cdv A outer s H vs Q E room qt h => ?_)
  · obtain ⟨v, t, rfl, _⟩ := h; rfl
  obtain ⟨c, t, rfl, t0, t1, k⟩ := h
  refine ⟨_, (pss_cons (ps_set (i := 2) sc_law_bag.nd rfl (Or.inl rfl) (pe_callB (call_max2 rfl) (by rfl) T.max (by decide +kernel) (pa_cons (pv 0) (pa_cons (pe_op op_sub pe_int (pv 0)) pa_nil))))
      (pss_one (ps_ret (pe_lst (pa_cons (pe_callB (call_max2 rfl) (by rfl) T.max (by decide +kernel) (pa_cons pe_int (pa_cons (pe_op op_sub (pv 2) (pe_op op_powG pe_int pe_int)) pa_nil))) (pa_cons (pe_op op_mod (pe_op op_add (pe_op op_mul (pv 0) (pe_op op_powG pe_int pe_int)) (pe_op op_mul (pe_op op_powG pe_int pe_int) (pe_op op_add (pv 1) pe_int))) (pe_op op_add (pe_op op_powG pe_int pe_int) pe_int)) (pa_cons pe_int pa_nil))))))), ?_⟩
  refine ⟨_, rfl, _, rfl, _, _, rfl, rfl, _, _, rfl, ?_⟩
  refine ⟨_, rfl, _, _, rfl, rfl, ten_ok (by decide) (by decide), _, _, rfl, rfl, _, _, rfl, ?_⟩
  refine ⟨_, rfl, _, _, rfl, rfl, pow_ok (by omega) (by decide) (by decide), _, _, rfl, rfl, .inr ⟨by decide, by decide⟩, _, _, rfl, rfl, pow_ok (by omega) (by decide) (by decide), _, rfl, _, _, rfl, rfl, _, _, rfl, rfl, .inr ⟨by omega, by omega⟩, _, _, rfl, rfl, _, _, rfl, rfl, ten_ok (by decide) (by decide), _, _, rfl, rfl, _, _, rfl, rfl, ?_, ?_⟩
  · show (0 : Int) < _
    rw [pwF42]; decide
  refine ⟨(by decide : 3 ≤ sizeLine), fun p hp => k p _ hp (Same.new hp) ⟨_, _, _, upd_same, ?_, ?_, by decide, by decide⟩⟩
  · rw [pwF42]; omega
  · rw [pwF42]; omega
def mixF1 (y z : Int) : Int := (y + (z + 1) * 2971215073 ^ (3 : Int).toNat) % (10 ^ (42 : Int).toNat + 63)
theorem mixF1_lt (y z : Int) : 0 ≤ mixF1 y z ∧ mixF1 y z < 2 ^ 150 := by unfold mixF1; rw [pwF42]; omega
def mixF2 (m z : Int) : Int := m ^ (3 : Int).toNat % (10 ^ (39 : Int).toNat + 33) + (z + 1) * 39916801
theorem mixF2_lt (m : Int) {z : Int} (z0 : 0 ≤ z) (z1 : z ≤ 1000000000) : 0 ≤ mixF2 m z ∧ mixF2 m z < 2 ^ 150 := by
  unfold mixF2; rw [pwF39]
  generalize m ^ (3 : Int).toNat = c
  omega
def sp_law_draw : Sp := fun vs H Q _ => ∃ (a : Addr) (n m : Int), vs = [.ref a, .int n] ∧ SrcV m H a ∧ m ≤ 1000000000 ∧ 0 < n ∧ n < 2 ^ 200 ∧
  ∀ r H', 0 ≤ r → r < n → SameBut a H H' → SrcV (m + 1) H' a → Q (.int r) H'
theorem ok_law_draw (T : Txt mg) (h : At K mg "_law_draw" s_law_draw) :
    Has P w K mg base CX0 1 "_law_draw" s_law_draw P_law_draw sp_law_draw := by
  refine Has.of h sc_law_draw (fun vs H Q E h => ?_) (fun _ _ _ _ _ _ us hl => match us, hl with | [_, _], _ => rfl) (fun f cdv A outer s H vs Q E room qt h => ?_)
  · obtain ⟨v, a, m, rfl, _⟩ := h; rfl
  obtain ⟨a, n, m, rfl, ⟨x, y, z, ha, y0, y1, z0, z1⟩, m1, n0, n1, k⟩ := h
  refine ⟨_, (pss_cons (ps_if (pt_cmpR op_gt (pe_ix ix_list (pv 0) pe_int (fun _ _ => rfl)) pe_int (nomark _))
        (pss_cons (ps_set (i := 2) sc_law_draw.nd rfl (Or.inl rfl) (pe_op op_mod (pe_ix ix_list (pv 0) pe_int (fun _ _ => rfl)) (pv 1)))
        (pss_cons (ps_asg (pe_op op_fdivW (pe_ix ix_list (pv 0) pe_int (fun _ _ => rfl)) (pv 1)) (pg_sub (pv 0) pe_int set_list))
        (pss_one (ps_ret (pv 2)))))
        pss_nil)
      (pss_cons (ps_asg (pe_op op_add (pe_ix ix_list (pv 0) pe_int (fun _ _ => rfl)) pe_int) (pg_sub (pv 0) pe_int set_list))
      (pss_cons (ps_set (i := 3) sc_law_draw.nd rfl (Or.inl rfl) (pe_op op_mod (pe_op op_add (pe_ix ix_list (pv 0) pe_int (fun _ _ => rfl)) (pe_op op_mul (pe_ix ix_list (pv 0) pe_int (fun _ _ => rfl)) (pe_op op_powG pe_int pe_int))) (pe_op op_add (pe_op op_powG pe_int pe_int) pe_int)))
      (pss_cons (ps_set (i := 3) sc_law_draw.nd rfl (Or.inl rfl) (pe_op op_add (pe_op op_mod (pe_op op_powG (pv 3) pe_int) (pe_op op_add (pe_op op_powG pe_int pe_int) pe_int)) (pe_op op_mul (pe_ix ix_list (pv 0) pe_int (fun _ _ => rfl)) pe_int)))
      (pss_one (ps_ret (pe_op op_mod (pe_op op_fdivW (pe_op op_mod (pe_op op_powG (pv 3) pe_int) (pe_op op_add (pe_op op_powG pe_int pe_int) pe_int)) pe_int) (pv 1)))))))), ?_⟩
  refine ⟨_, rfl, a, _, 0, _, rfl, rfl, SqL.of ha, rfl, _, _, rfl, rfl, _, rfl, ite2 (fun c => ?_) (fun c => ?_)⟩
  · refine ⟨_, rfl, a, _, 0, _, rfl, rfl, SqL.of ha, rfl, _, rfl, _, _, rfl, rfl, n0, ?_⟩
    refine ⟨_, rfl, a, _, 0, _, rfl, rfl, SqL.of ha, rfl, _, rfl, _, _, rfl, rfl, wide_div n0 (b := 200) (by omega) (by decide) (by decide), _, rfl, a, _, 0, 0, rfl, rfl, ha, rfl, ?_⟩
    exact ⟨_, rfl, k _ _ (Int.emod_nonneg _ (by omega)) (Int.emod_lt_of_pos _ n0) (SameBut.upd .refl) ⟨_, _, _, upd_same, y0, y1, z0, by omega⟩⟩
  · refine ⟨_, rfl, a, _, 2, _, rfl, rfl, SqL.of ha, rfl, _, _, rfl, rfl, _, rfl, a, _, 2, 2, rfl, rfl, ha, rfl, ?_⟩
    have h2 : (upd H a (.lst [.int x, .int y, .int (z + 1)])) a = some (.lst [.int x, .int y, .int (z + 1)]) := upd_same
    refine ⟨_, rfl, a, _, 1, _, rfl, rfl, SqL.of h2, rfl, _, rfl, a, _, 2, _, rfl, rfl, SqL.of h2, rfl, _, _, rfl, rfl, pow_ok (by omega) (by decide) (by decide), _, _, rfl, rfl, .inl ⟨by omega, by omega⟩, _, _, rfl, rfl, _, _, rfl, rfl, ten_ok (by decide) (by decide), _, _, rfl, rfl, _, _, rfl, rfl, ?_, ?_⟩
    · show (0 : Int) < _
      rw [pwF42]; decide
    have t0 := mixF1_lt y z
    refine ⟨_, rfl, _, _, rfl, rfl, pow_ok (i := mixF1 y z) (by omega) (by decide) (by decide), _, _, rfl, rfl, ten_ok (by decide) (by decide), _, _, rfl, rfl, _, _, rfl, rfl, ?_, ?_⟩
    · show (0 : Int) < _
      rw [pwF39]; decide
    have u0 := mixF2_lt (mixF1 y z) z0 (show z ≤ 1000000000 by omega)
    refine ⟨_, rfl, a, _, 2, _, rfl, rfl, SqL.of h2, rfl, _, _, rfl, rfl, .inr ⟨by decide, by decide⟩, _, _, rfl, rfl, ?_⟩
    refine ⟨_, rfl, _, _, rfl, rfl, pow_ok (i := mixF2 (mixF1 y z) z) (by omega) (by decide) (by decide), _, _, rfl, rfl, ten_ok (by decide) (by decide), _, _, rfl, rfl, _, _, rfl, rfl, ?_, ?_⟩
    · show (0 : Int) < _
      rw [pwF37]; decide
    refine ⟨_, _, rfl, rfl, wide_div (by decide) (b := 200) (by decide) (by decide) (by decide), _, rfl, _, _, rfl, rfl, n0, ?_⟩
    exact k _ _ (Int.emod_nonneg _ (by omega)) (Int.emod_lt_of_pos _ n0) (SameBut.upd .refl) ⟨_, _, _, h2, y0, y1, by omega, by omega⟩
/-- an outline of at most `most` lines comes back -/
def sp_law_rising : Sp := fun vs H Q _ => ∃ (a : Addr) (m n : Int), vs = [.ref a, .int m] ∧ SrcV n H a ∧ n ≤ 900000000 ∧ 1 ≤ m ∧ m ≤ 200 ∧
  ∀ (ns : List Int) (p : Addr) (H' : Hp), isO ns = true → (ns.length : Int) ≤ m → H p = none → SameBut a H H' → SrcV (n + 1000) H' a → H' p = some (.lst (iv ns)) → Q (.ref p) H'
theorem ok_law_rising (T : Txt mg) (h : At K mg "_law_rising" s_law_rising)
    (g_law_draw : Has P w K mg base CX0 1 "_law_draw" s_law_draw P_law_draw sp_law_draw) :
    Has P w K mg base CX0 2 "_law_rising" s_law_rising P_law_rising sp_law_rising := by
  refine Has.of h sc_law_rising (fun vs H Q E h => ?_) (fun _ _ _ _ _ _ us hl => match us, hl with | [_, _], _ => rfl) (fun f cdv A outer s H vs Q E room qt h => ?_)
  · obtain ⟨v, a, m, rfl, _⟩ := h; rfl
  obtain ⟨a, m, n, rfl, ha, nb, m0, m1, k⟩ := h
  refine ⟨_, (pss_cons (ps_par (i := 2) (j := 3) rfl sc_law_rising.nd rfl rfl (by decide) rfl rfl (pa_cons (pe_has g_law_draw (room.mono (by decide)) qt (by rfl) pass0 (pa_cons (pv 0) (pa_cons pe_int pa_nil))) (pa_cons (pe_op op_add pe_int (pe_has g_law_draw (room.mono (by decide)) qt (by rfl) pass0 (pa_cons (pv 0) (pa_cons (pv 1) pa_nil)))) pa_nil)) (by rfl))
      (pss_cons (ps_set (i := 4) sc_law_rising.nd rfl (Or.inl rfl) (pe_lst (pa_cons pe_int pa_nil)))
      (pss_cons (ps_for PassesOwn.never rfl (pi_range1 (by rfl) T.range (pa_cons (pe_op op_sub (pv 3) pe_int) pa_nil)) (pg_name (i := 5) sc_law_rising.nd rfl (Or.inl rfl) (hf := Or.inl rfl))
        (pss_cons (ps_set (i := 6) sc_law_rising.nd rfl (Or.inl rfl) (pe_op op_add (pe_ix ix_list (pv 4) (pe_un un_neg pe_int) (fun _ _ => rfl)) pe_int))
        (pss_cons (ps_set (i := 7) sc_law_rising.nd rfl (Or.inl rfl) (pe_lst (pa_cons (pe_has g_law_draw (room.mono (by decide)) qt (by rfl) pass0 (pa_cons (pv 0) (pa_cons (pe_op op_add (pv 6) pe_int) pa_nil))) (pa_cons (pe_op op_sub (pv 6) (pe_callTy call_int1 (by rfl) T.tint (by decide +kernel) (pa_cons (pe_cmpR op_eq (pe_has g_law_draw (room.mono (by decide)) qt (by rfl) pass0 (pa_cons (pv 0) (pa_cons pe_int pa_nil))) pe_int (nomark _)) pa_nil))) (pa_cons (pe_has g_law_draw (room.mono (by decide)) qt (by rfl) pass0 (pa_cons (pv 0) (pa_cons (pe_op op_add (pe_callB (call_min2 rfl) (by rfl) T.min (by decide +kernel) (pa_cons (pv 6) (pa_cons pe_int pa_nil))) pe_int) pa_nil))) pa_nil)))))
        (pss_cons (ps_expr (pe_bm PySem.F.plainAttrs_list PySem.F.slot_list_append PySem.F.type_list_append mt_append (pv 7) (pa_cons (pe_callB (call_max2 rfl) (by rfl) T.max (by decide +kernel) (pa_cons pe_int (pa_cons (pe_op op_sub (pv 6) (pe_has g_law_draw (room.mono (by decide)) qt (by rfl) pass0 (pa_cons (pv 0) (pa_cons pe_int pa_nil)))) pa_nil))) pa_nil)))
        (pss_one (ps_expr (pe_bm PySem.F.plainAttrs_list PySem.F.slot_list_append PySem.F.type_list_append mt_append (pv 4) (pa_cons (pe_callB (call_max2 rfl) (by rfl) T.max (by decide +kernel) (pa_cons pe_int (pa_cons (pe_ix ix_list (pv 7) (pv 2) (fun _ _ => rfl)) pa_nil))) pa_nil))))))))
      (pss_one (ps_ret (pv 4)))))), ?_⟩
  -- style, many
  refine ⟨_, rfl, a, 4, n, rfl, ha, by omega, by decide, by decide, fun st H1 st0 st1 b1 s1 => ?_⟩
  refine ⟨_, rfl, _, rfl, a, m, _, rfl, s1, by omega, by omega, by omega, fun d H1' d0 d1 b1' s1' => ⟨_, _, rfl, rfl, _, _, rfl, ?_⟩⟩
  refine ⟨(by decide : 1 ≤ sizeLine), fun p hp1 => ?_⟩
  have b11 := b1.trans b1'
  have nap : p ≠ a := (s1'.ne hp1).symm
  have hp : H p = none := b11.free nap hp1
  have s2 := s1'.new (o := .lst [.int 0]) hp1
  have b2 : SameBut a H (upd H1' p (.lst [.int 0])) := b11.own hp
  have h2 : (upd H1' p (.lst [.int 0])) p = some (.lst (iv [0])) := upd_same
  generalize upd H1' p (.lst [.int 0]) = H2 at s2 b2 h2 ⊢
  refine ⟨_, rfl, _, _, rfl, rfl, _, rfl, by omega, by omega, for_range (lo := 0) (n := (1 + d - 1).toNat) (fun i σ H7 => (∃ v5 v6 v7, σ = [some (.ref a), some (.int m), some (.int st), some (.int (1 + d)), some (.ref p), v5, v6, v7]) ∧
    ∃ ns : List Int, ns.length = i + 1 ∧ okFrom 0 ns = true ∧ SameBut a H H7 ∧ SrcV (n + 2 + 4 * (i : Int)) H7 a ∧ H7 p = some (.lst (iv ns)))
    ⟨⟨_, _, _, rfl⟩, [0], rfl, rfl, b2, s2.mono (by omega), h2⟩ ?_ ?_⟩
  · rintro i σ H7 hi ⟨⟨v5, v6, v7, rfl⟩, ns, hl, hk, b7, s7, h7p⟩
    have nn : ns ≠ [] := fun e => by subst e; cases hl
    have l0 := (okFrom_at hk (i := ns.length - 1) (by omega)).1
    have l1 := okFrom_le hk (i := ns.length - 1) (by omega)
    refine ⟨_, rfl, _, rfl, p, iv ns, -1, _, rfl, rfl, SqL.of h7p, atI_iv_last nn, _, _, rfl, rfl, ?_⟩
    generalize hla : ns.getD (ns.length - 1) 0 = la at l0 l1 ⊢
    -- some
    refine ⟨_, rfl, _, rfl, _, _, rfl, rfl, a, _, _, rfl, s7, by omega, by omega, by omega, fun e1 H8 x0 x1 b8 s8 => ?_⟩
    refine ⟨_, rfl, _, rfl, a, 5, _, rfl, s8, by omega, by decide, by decide, fun e2 H9 y0 y1 b9 s9 => ⟨rfl, .inr ⟨_, rfl, _, _, rfl, rfl, ?_⟩⟩⟩
    refine ⟨_, rfl, _, rfl, _, _, rfl, _, _, rfl, rfl, a, _, _, rfl, s9, by omega, by split <;> omega, by split <;> omega, fun e3 H10 z0 z1 b10 s10 => ?_⟩
    have z2 : e3 ≤ la + 1 := by revert z1; split <;> omega
    have b710 : SameBut a H H10 := ((b7.trans b8).trans b9).trans b10
    have h10p : H10 p = some (.lst (iv ns)) := b10 _ _ (b9 _ _ (b8 _ _ h7p nap) nap) nap
    refine ⟨(by decide : 3 ≤ sizeLine), fun q1 n1 => ?_⟩
    have nqa : q1 ≠ a := (s10.ne n1).symm
    have nqp : p ≠ q1 := ne_of_none h10p n1
    have hq0 : H q1 = none := b710.free nqa n1
    have h11q : (upd H10 q1 (.lst (iv [e1, la + 1 - (if decide (V.int e2 = V.int 0) = true then 1 else 0), e3]))) q1 = some (.lst (iv [e1, la + 1 - (if decide (V.int e2 = V.int 0) = true then 1 else 0), e3])) := upd_same
    have h11p := Same.new (o := .lst (iv [e1, la + 1 - (if decide (V.int e2 = V.int 0) = true then 1 else 0), e3])) n1 _ _ h10p
    have s11 := s10.new (o := .lst (iv [e1, la + 1 - (if decide (V.int e2 = V.int 0) = true then 1 else 0), e3])) n1
    have b11' : SameBut a H (upd H10 q1 (.lst (iv [e1, la + 1 - (if decide (V.int e2 = V.int 0) = true then 1 else 0), e3]))) := b710.new n1
    -- some.append(max(0, top - _law_draw(bag, 3)))
    refine ⟨_, rfl, .inl ⟨rfl, _, SqL.of h11q⟩, _, rfl, _, rfl, a, 3, _, rfl, s11, by omega, by decide, by decide, fun e4 H12 w0 w1 b12 s12 => ⟨_, _, rfl, rfl, _, _, rfl, ?_⟩⟩
    have h12q := b12 _ _ h11q nqa
    have h12p := b12 _ _ h11p nap
    refine ⟨q1, _, _, rfl, rfl, h12q, small_line (by show 3 < _; decide), ?_⟩
    have h13q : (upd H12 q1 (.lst (iv [e1, la + 1 - (if decide (V.int e2 = V.int 0) = true then 1 else 0), e3] ++ [V.int (if la + 1 - e4 > 0 then la + 1 - e4 else 0)]))) q1 = some (.lst (iv [e1, la + 1 - (if decide (V.int e2 = V.int 0) = true then 1 else 0), e3, if la + 1 - e4 > 0 then la + 1 - e4 else 0])) := upd_same
    have h13p : (upd H12 q1 (.lst (iv [e1, la + 1 - (if decide (V.int e2 = V.int 0) = true then 1 else 0), e3] ++ [V.int (if la + 1 - e4 > 0 then la + 1 - e4 else 0)]))) p = some (.lst (iv ns)) := by rw [upd_ne nqp]; exact h12p
    have b13 : SameBut a H (upd H12 q1 (.lst (iv [e1, la + 1 - (if decide (V.int e2 = V.int 0) = true then 1 else 0), e3] ++ [V.int (if la + 1 - e4 > 0 then la + 1 - e4 else 0)]))) := (b11'.trans b12).own hq0
    have s13 : SrcV (n + 2 + 4 * (i : Int) + 1 + 1 + 1 + 1) (upd H12 q1 (.lst (iv [e1, la + 1 - (if decide (V.int e2 = V.int 0) = true then 1 else 0), e3] ++ [V.int (if la + 1 - e4 > 0 then la + 1 - e4 else 0)]))) a := s12.upd nqa.symm
    have hs : ∀ v ∈ [e1, la + 1 - (if decide (V.int e2 = V.int 0) = true then 1 else 0), e3, if la + 1 - e4 > 0 then la + 1 - e4 else 0], v ≤ la + 1 := fun v hv => by
      simp only [List.mem_cons, List.not_mem_nil, or_false] at hv
      rcases hv with rfl | rfl | rfl | rfl
      · omega
      · split <;> omega
      · exact z2
      · split <;> omega
    have hg := getD_all (p := fun v => v ≤ la + 1) hs st0 (by exact st1)
    refine ⟨_, rfl, .inl ⟨rfl, _, SqL.of h13p⟩, _, rfl, _, rfl, q1, iv [e1, la + 1 - (if decide (V.int e2 = V.int 0) = true then 1 else 0), e3, if la + 1 - e4 > 0 then la + 1 - e4 else 0], st, _, rfl, rfl, SqL.of h13q, atI_iv st0 (by exact st1), _, _, rfl, p, iv ns, _, rfl, rfl, h13p, small_line (by rw [List.length_map]; omega), ?_⟩
    generalize [e1, la + 1 - (if decide (V.int e2 = V.int 0) = true then 1 else 0), e3, if la + 1 - e4 > 0 then la + 1 - e4 else 0].getD st.toNat 0 = x at hg ⊢
    refine ⟨⟨_, _, _, rfl⟩, ns ++ [if x > 0 then x else 0], by rw [List.length_append, hl]; rfl, okFrom_snoc hk (by split <;> omega) (fun e => (nn e).elim) (fun _ => by rw [hla]; split <;> omega), b13.own hp, (s13.upd nap.symm).mono (by omega), by rw [iv_snoc ns]; exact upd_same⟩
  · rintro σ H7 ⟨⟨v5, v6, v7, rfl⟩, ns, hl, hk, b7, s7, h7p⟩
    exact ⟨_, rfl, k ns p _ (isO_iff.mpr ⟨by omega, by omega, hk⟩) (by omega) hp b7 (s7.mono (by omega)) h7p⟩
/-- the cells of a script -/
def sp_law_cells (K : PySem.W.Frag) : Sp := fun vs H Q _ => ∃ (a : Addr) (ns : List Int), vs = [.ref a] ∧ SqL K H a (iv ns) ∧ ns.length ≤ 63 ∧
  ∀ (ms : List Int) (p : Addr) (H' : Hp), ms.length ≤ 8 → H p = none → Same H H' → H' p = some (.lst (iv ms)) → Q (.ref p) H'
theorem ok_law_cells (T : Txt mg) (h : At K mg "_law_cells" s_law_cells) :
    Has P w K mg base CX0 1 "_law_cells" s_law_cells P_law_cells (sp_law_cells K) := by
  refine Has.of h sc_law_cells (fun vs H Q E h => ?_) (fun _ _ _ _ _ _ us hl => match us, hl with | [_], _ => rfl) (fun f cdv A outer s H vs Q E room qt h => ?_)
  · obtain ⟨a, ns, rfl, _⟩ := h; rfl
  obtain ⟨a, ns, rfl, ha, hl, k⟩ := h
  refine ⟨_, (pss_one (ps_ret (pe_op op_catS (pe_lst (pa_cons (pe_callB call_len_seq (by rfl) T.len (by decide +kernel) (pa_cons (pv 0) pa_nil)) pa_nil)) (pe_slice sl_list (pv 0) po_none (po_some pe_int))))), ?_⟩
  refine ⟨_, rfl, a, _, rfl, .inl ha, (by decide : 1 ≤ sizeLine), fun p1 n1 => ?_⟩
  refine ⟨_, rfl, _, rfl, a, _, rfl, (Same.new n1).seq ha, fun p2 n2 => ?_⟩
  rw [cutV_iv]
  have c1 := cutI_to ns (n := 7) (by decide)
  rw [c1]
  refine ⟨p1, p2, _, _, rfl, rfl, SqL.of (Same.new n2 _ _ upd_same), SqL.of upd_same, ?_, fun p3 n3 => ?_⟩
  · rw [show (iv (ns.take (7 : Int).toNat)).length = (ns.take (7 : Int).toNat).length from List.length_map _, List.length_take, sizeLine_eq]
    have : (7 : Int).toNat = 7 := rfl
    show 1 + _ ≤ _
    omega
  · refine k ((((iv ns).length : Int)) :: ns.take (7 : Int).toNat) p3 _ ?_ (((Same.new n1).trans (Same.new n2)).free n3) (((Same.new n1).trans (Same.new n2)).trans (Same.new n3)) upd_same
    rw [List.length_cons, List.length_take]
    have : (7 : Int).toNat = 7 := rfl
    omega
def sp_law_sized (K : PySem.W.Frag) : Sp := fun vs H Q _ => ∃ (b a : Addr) (x y n : Int) (sc : List Int), vs = [.ref b, .ref a, .int x, .int y] ∧ SqL K H b (iv sc) ∧ Still a H (fun H' => SqL K H' b (iv sc)) ∧ SrcV n H a ∧ n ≤ 800000000 ∧ 1 ≤ x ∧ x ≤ 200 ∧ 1 ≤ y ∧ y ≤ 200 ∧
  ∀ (ns : List Int) (p : Addr) (H' : Hp), isO ns = true → H p = none → SameBut a H H' → SrcV (n + 2000) H' a → H' p = some (.lst (iv ns)) → Q (.ref p) H'
theorem ok_law_sized (T : Txt mg) (h : At K mg "_law_sized" s_law_sized)
    (g_law_draw : Has P w K mg base CX0 1 "_law_draw" s_law_draw P_law_draw sp_law_draw)
    (g_law_rising : Has P w K mg base CX0 2 "_law_rising" s_law_rising P_law_rising sp_law_rising) :
    Has P w K mg base CX0 3 "_law_sized" s_law_sized P_law_sized (sp_law_sized K) := by
  refine Has.of h sc_law_sized (fun vs H Q E h => ?_) (fun _ _ _ _ _ _ us hl => match us, hl with | [_, _, _, _], _ => rfl) (fun f cdv A outer s H vs Q E room qt h => ?_)
  · obtain ⟨b, a, x, y, n, sc, rfl, _⟩ := h; rfl
  obtain ⟨b, a, x, y, n, sc, rfl, hb, sb, ha, hn, x0, x1, y0, y1, k⟩ := h
  refine ⟨_, (pss_cons (ps_if (pt_cmpR (op_eqD room.units) (pv 0) (pe_lst pa_nil) (nomark _))
        (pss_one (ps_ret (pe_has g_law_rising (room.mono (by decide)) qt (by rfl) pass0 (pa_cons (pv 1) (pa_cons pe_int pa_nil)))))
        pss_nil)
      (pss_one (ps_ret (pe_has g_law_rising (room.mono (by decide)) qt (by rfl) pass0 (pa_cons (pv 1) (pa_cons (pe_ix ix_list (pe_lst (pa_cons pe_int (pa_cons (pv 2) (pa_cons (pv 3) pa_nil)))) (pe_has g_law_draw (room.mono (by decide)) qt (by rfl) pass0 (pa_cons (pv 1) (pa_cons pe_int pa_nil))) (fun _ _ => rfl)) pa_nil)))))), ?_⟩
  refine ⟨_, rfl, (by decide : 0 ≤ sizeLine), fun q1 n1 => eqD_ints (ns := sc) (ms := []) ((Same.new n1).seq hb) (SqL.of upd_same) ⟨_, rfl, ?_⟩⟩
  have s1 := Same.new (o := .lst []) n1
  have g1 := ha.new (o := .lst []) n1
  generalize upd H q1 (.lst []) = H1 at s1 g1 ⊢
  refine ite2 (fun _ => ?_) (fun _ => ?_)
  · exact ⟨_, rfl, a, 6, n, rfl, g1, by omega, by decide, by decide, fun ns p H' ho _ hp b2 g2 h2 => k ns p H' ho (s1.free hp) ((SameBut.of s1).trans b2) (g2.mono (by omega)) h2⟩
  · refine ⟨_, rfl, _, rfl, _, rfl, (by decide : 3 ≤ sizeLine), fun q2 n2 => ?_⟩
    refine ⟨_, rfl, a, 3, n, rfl, g1.new n2, by omega, by decide, by decide, fun j H4 j0 j1 b4 g4 => ?_⟩
    have nq2 := g1.ne n2
    have hs := getD_all (xs := [8, x, y]) (p := fun v => 1 ≤ v ∧ v ≤ 200) (fun v hv => by
      simp only [List.mem_cons, List.not_mem_nil, or_false] at hv
      rcases hv with rfl | rfl | rfl <;> omega) j0 (by exact j1)
    have b14 : SameBut a H H4 := ((SameBut.of s1).trans (SameBut.of (Same.new n2))).trans b4
    refine ⟨q2, iv [8, x, y], j, _, rfl, rfl, SqL.of (b4 _ _ upd_same nq2.symm), atI_iv j0 (by exact j1), a, _, _, rfl, g4, by omega, hs.1, hs.2, fun ns p H' ho _ hp b5 g5 h5 => ?_⟩
    have npa : p ≠ a := (g4.ne hp).symm
    exact k ns p H' ho (b14.free npa hp) (b14.trans b5) (g5.mono (by omega)) h5
end
end SH

namespace SH
open PySem PySem.Spec PyProof.Rows L2
theorem rg2_mem {a b v : Int} : v ∈ rg2 a b ↔ a ≤ v ∧ v < b := by
  unfold rg2
  rw [List.mem_map]
  constructor
  · rintro ⟨i, hi, rfl⟩
    have := List.mem_range.mp hi
    omega
  · rintro ⟨x, y⟩
    exact ⟨(v - a).toNat, List.mem_range.mpr (by omega), by omega⟩
theorem asc_eq : ∀ {l1 l2 : List Int}, l1.Pairwise (· < ·) → l2.Pairwise (· < ·) → (∀ k : Int, k ∈ l1 ↔ k ∈ l2) → l1 = l2
  | [], [], _, _, _ => rfl
  | [], y :: t, _, _, h => (List.not_mem_nil ((h y).mpr List.mem_cons_self)).elim
  | x :: r, [], _, _, h => (List.not_mem_nil ((h x).mp List.mem_cons_self)).elim
  | x :: r, y :: t, p1, p2, h => by
    obtain ⟨a1, a2⟩ := List.pairwise_cons.mp p1
    obtain ⟨b1, b2⟩ := List.pairwise_cons.mp p2
    have e : x = y := by
      rcases List.mem_cons.mp ((h x).mp List.mem_cons_self) with e | e
      · exact e
      · rcases List.mem_cons.mp ((h y).mpr List.mem_cons_self) with e2 | e2
        · exact e2.symm
        · have := b1 x e
          have := a1 y e2
          omega
    subst e
    rw [asc_eq a2 b2 fun k => ⟨fun q => ?_, fun q => ?_⟩]
    · rcases List.mem_cons.mp ((h k).mp (List.mem_cons_of_mem _ q)) with e | e
      · have := a1 k q
        omega
      · exact e
    · rcases List.mem_cons.mp ((h k).mpr (List.mem_cons_of_mem _ q)) with e | e
      · have := b1 k q
        omega
      · exact e
theorem rg2_asc (a b : Int) : (rg2 a b).Pairwise (· < ·) := by
  unfold rg2
  rw [List.pairwise_map]
  exact List.pairwise_lt_range.imp fun h => by omega
theorem gives_map (ns : List Int) (f : Int → Int) : gives ns.length (fun _ => true) (fun i => V.int (f (ns.getD i 0))) = iv (ns.map f) := by
  rw [gives_all]
  unfold iv
  rw [List.map_map]
  refine List.ext_getElem (by rw [List.length_map, List.length_map, List.length_range]) fun i h1 h2 => ?_
  rw [List.length_map, List.length_range] at h1
  rw [List.getElem_map, List.getElem_map, List.getElem_range, List.getD_eq_getElem?_getD, List.getElem?_eq_getElem h1]
  rfl
theorem heads_asc {ns : List Int} : ∀ {k : Nat} {w : Int}, (headsL ns k w).Pairwise (· < ·)
  | 0, _ => List.Pairwise.nil
  | k + 1, w => by
    unfold headsL
    split
    · rw [List.pairwise_append]
      refine ⟨heads_asc, List.pairwise_singleton _ _, fun a ha b hb => ?_⟩
      rw [List.mem_singleton.mp hb]
      exact (headsL_mem ha).2
    · exact heads_asc
theorem heads_iff {ns : List Int} (h : okFrom 0 ns = true) : ∀ {k : Nat} {w : Int}, k ≤ ns.length → (∀ j, k = j + 1 → w ≤ ns.getD j 0) → ∀ v : Nat,
    ((v : Int) ∈ headsL ns k w ↔ v < k ∧ ns.getD v 0 ≤ w ∧ ∀ j, v < j → j < k → ns.getD v 0 < ns.getD j 0)
  | 0, w, _, _, v => ⟨fun q => (List.not_mem_nil q).elim, fun q => absurd q.1 (Nat.not_lt_zero _)⟩
  | k + 1, w, hk, c, v => by
    have wk := c k rfl
    have st : ∀ j, k = j + 1 → ns.getD k 0 ≤ ns.getD j 0 + 1 := (okFrom_at h (show k < ns.length by omega)).2.1
    unfold headsL
    by_cases e : ns.getD k 0 = w
    · rw [if_pos e, List.mem_append, List.mem_singleton, heads_iff h (k := k) (w := w - 1) (by omega) (fun j q => by have := st j q; omega) v]
      constructor
      · rintro (⟨a, b, d⟩ | q)
        · refine ⟨by omega, by omega, fun j vj jk => ?_⟩
          rcases Nat.lt_or_ge j k with z | z
          · exact d j vj z
          · obtain rfl : j = k := by omega
            omega
        · obtain rfl : v = k := by omega
          exact ⟨by omega, by omega, fun j vj jk => by omega⟩
      · rintro ⟨a, b, d⟩
        rcases Nat.lt_or_ge v k with z | z
        · left
          have := d k z (by omega)
          exact ⟨z, by omega, fun j vj jk => d j vj (by omega)⟩
        · right
          omega
    · rw [if_neg e, heads_iff h (k := k) (w := w) (by omega) (fun j q => by have := st j q; omega) v]
      constructor
      · rintro ⟨a, b, d⟩
        refine ⟨by omega, b, fun j vj jk => ?_⟩
        rcases Nat.lt_or_ge j k with z | z
        · exact d j vj z
        · obtain rfl : j = k := by omega
          omega
      · rintro ⟨a, b, d⟩
        rcases Nat.lt_or_ge v k with z | z
        · exact ⟨z, b, fun j vj jk => d j vj (by omega)⟩
        · obtain rfl : v = k := by omega
          omega
theorem headsOf_iff {ns : List Int} (h : okFrom 0 ns = true) {i : Nat} (hi : i < ns.length) (v : Nat) :
    (v : Int) ∈ headsOf ns i ↔ v < i ∧ ns.getD v 0 < ns.getD i 0 ∧ ∀ j, v < j → j < i → ns.getD v 0 < ns.getD j 0 := by
  unfold headsOf
  rw [heads_iff h (Nat.le_of_lt hi) (fun j q => by have := (okFrom_at h hi).2.1 j q; omega) v]
  exact ⟨fun ⟨a, b, c⟩ => ⟨a, by omega, c⟩, fun ⟨a, b, c⟩ => ⟨a, by omega, c⟩⟩
theorem heads_up {ns : List Int} (h : okFrom 0 ns = true) {t a : Nat} (ta : t ≤ a) (ha : a < ns.length) {v : Nat} (hv : (v : Int) ∈ headsOf ns a) (vt : v < t) : (v : Int) ∈ headsOf ns t := by
  obtain ⟨p, q, r⟩ := (headsOf_iff h ha v).mp hv
  refine (headsOf_iff h (by omega) v).mpr ⟨vt, ?_, fun j vj jt => r j vj (by omega)⟩
  rcases Nat.lt_or_ge t a with z | z
  · exact r t vt z
  · obtain rfl : t = a := by omega
    exact q
theorem leftL_iff {ns fs : List Int} (h : okFrom 0 ns = true) : ∀ (m i : Nat), ns.length - i ≤ m → ∀ v : Nat, ((v : Int) ∈ leftL ns fs i ↔ i ≤ v ∧ v < ns.length ∧ ∀ a : Nat, i ≤ a → (a : Int) ∈ headsOf ns v → (a : Int) ∉ fs)
  | 0, i, hm, v => by
    rw [leftL_end (by omega)]
    exact ⟨fun q => (List.not_mem_nil q).elim, fun q => by omega⟩
  | m + 1, i, hm, v => by
    rcases Nat.lt_or_ge i ns.length with c | c
    · have gt := nextL_gt ns fs i
      rw [leftL_go c, List.mem_cons, leftL_iff h m (nextL ns fs i) (by omega) v]
      by_cases f : (i : Int) ∈ fs
      · have ie := endF_is c
        have en : nextL ns fs i = endF ns i + 1 := by unfold nextL; rw [if_pos f, Nat.max_eq_left ie.1]
        rw [en]
        constructor
        · rintro (q | ⟨q1, q2, q3⟩)
          · obtain rfl : v = i := by omega
            refine ⟨Nat.le_refl _, c, fun a ai am => ?_⟩
            have := (headsL_mem am).2
            omega
          · refine ⟨by have := ie.1; omega, q2, fun a ai am => ?_⟩
            rcases Nat.lt_or_ge (endF ns i) a with z | z
            · exact q3 a z am
            · exfalso
              obtain ⟨p1, p2, p3⟩ := (headsOf_iff h q2 a).mp am
              have da : ns.getD i 0 ≤ ns.getD a 0 := by
                rcases Nat.lt_or_ge i a with y | y
                · exact Int.le_of_lt (ie.2.2.1 a y z)
                · obtain rfl : a = i := by omega
                  exact Int.le_refl _
              have e1 := ie.2.2.2 (by omega)
              rcases Nat.lt_or_ge (endF ns i + 1) v with y | y
              · have := p3 (endF ns i + 1) (by omega) y
                omega
              · obtain rfl : v = endF ns i + 1 := by omega
                omega
        · rintro ⟨q1, q2, q3⟩
          rcases Nat.lt_or_ge (endF ns i) v with z | z
          · exact .inr ⟨z, q2, fun a ai am => q3 a (by have := ie.1; omega) am⟩
          · left
            rcases Nat.lt_or_ge i v with y | y
            · exfalso
              refine q3 i (Nat.le_refl _) ((headsOf_iff h q2 i).mpr ⟨y, ie.2.2.1 v y z, fun j ij jv => ie.2.2.1 j ij (by omega)⟩) f
            · omega
      · have en : nextL ns fs i = i + 1 := by unfold nextL; rw [if_neg f]
        rw [en]
        constructor
        · rintro (q | ⟨q1, q2, q3⟩)
          · obtain rfl : v = i := by omega
            refine ⟨Nat.le_refl _, c, fun a ai am => ?_⟩
            have := (headsL_mem am).2
            omega
          · refine ⟨by omega, q2, fun a ai am => ?_⟩
            rcases Nat.lt_or_ge i a with z | z
            · exact q3 a z am
            · obtain rfl : a = i := by omega
              exact f
        · rintro ⟨q1, q2, q3⟩
          rcases Nat.lt_or_ge i v with z | z
          · exact .inr ⟨z, q2, fun a ai am => q3 a (by omega) am⟩
          · left; omega
    · rw [leftL_end c]
      exact ⟨fun q => (List.not_mem_nil q).elim, fun q => by omega⟩
theorem leftL_asc {ns fs : List Int} : ∀ (m i : Nat), ns.length - i ≤ m → (leftL ns fs i).Pairwise (· < ·)
  | 0, i, hm => by rw [leftL_end (by omega)]; exact List.Pairwise.nil
  | m + 1, i, hm => by
    rcases Nat.lt_or_ge i ns.length with c | c
    · have gt := nextL_gt ns fs i
      rw [leftL_go c, List.pairwise_cons]
      refine ⟨fun v hv => ?_, leftL_asc m _ (by omega)⟩
      have := (leftL_mem hv).1
      omega
    · rw [leftL_end c]; exact List.Pairwise.nil
/-- the lines with no heading among the marks -/
theorem kept_is {ns fs : List Int} (h : okFrom 0 ns = true) : ((List.range ns.length).filter (fun v => decide (∀ a, a ∈ headsOf ns v → a ∉ fs))).map (fun (v : Nat) => (v : Int)) = leftL ns fs 0 := by
  refine asc_eq ?_ (leftL_asc _ 0 (Nat.le_refl _)) fun k => ?_
  · rw [List.pairwise_map]
    exact (List.pairwise_lt_range.filter _).imp fun h => by omega
  · rw [List.mem_map]
    constructor
    · rintro ⟨v, hv, rfl⟩
      obtain ⟨a, b⟩ := List.mem_filter.mp hv
      exact (leftL_iff h _ 0 (Nat.le_refl _) v).mpr ⟨Nat.zero_le _, List.mem_range.mp a, fun x _ hx => of_decide_eq_true b x hx⟩
    · intro hk
      have kb := leftL_mem hk
      obtain ⟨v, rfl⟩ : ∃ v : Nat, k = v := ⟨k.toNat, by omega⟩
      obtain ⟨_, q2, q3⟩ := (leftL_iff h _ 0 (Nat.le_refl _) v).mp hk
      refine ⟨v, List.mem_filter.mpr ⟨List.mem_range.mpr q2, decide_eq_true fun a ha => ?_⟩, rfl⟩
      have ab := headsL_mem ha
      obtain ⟨n, rfl⟩ : ∃ n : Nat, a = n := ⟨a.toNat, by omega⟩
      exact q3 n (Nat.zero_le _) ha
end SH

namespace SH
open PySem PySem.Spec PyProof.Rows L2
theorem gives_filter (xs : List Int) (p : Int → Bool) : gives xs.length (fun i => p (xs.getD i 0)) (fun i => V.int (xs.getD i 0)) = iv (xs.filter p) := by
  have e : xs = (List.range xs.length).map fun i => xs.getD i 0 := by
    refine List.ext_getElem? fun i => ?_
    rw [List.getElem?_map]
    rcases Nat.lt_or_ge i xs.length with h | h
    · rw [List.getElem?_range h, List.getElem?_eq_getElem h]
      show some xs[i] = some (xs.getD i 0)
      rw [List.getD_eq_getElem?_getD, List.getElem?_eq_getElem h]
      rfl
    · rw [List.getElem?_eq_none h, List.getElem?_eq_none (by rw [List.length_range]; exact h)]
      rfl
  unfold gives iv
  have e2 : xs.filter p = ((List.range xs.length).filter (fun i => p (xs.getD i 0))).map fun i => xs.getD i 0 := by
    conv => lhs; rw [e]
    rw [List.filter_map]
    rfl
  rw [e2, List.map_map]
  rfl
abbrev s_law_above : Stmt := topS 41
abbrev N_law_above : List Str := ["depths", "spot", "found", "wanted", "one"]
abbrev P_law_above : List Str := ["depths", "spot"]
theorem sc_law_above : FnScope N_law_above P_law_above (defScope s_law_above) := ⟨rfl, rfl, rfl, by decide +kernel, rfl, by decide +kernel, by decide +kernel⟩
section
variable {P : Program} {w : World} {K : PySem.W.Frag} {mg : Str → Option Value} {base : Heap}
theorem ok_law_above (T : Txt mg) (h : At K mg "_law_above" s_law_above) :
    Has P w K mg base CX0 1 "_law_above" s_law_above P_law_above (sp_headings_of K) := by
  refine Has.of h sc_law_above (fun vs H Q E h => ?_) (fun _ _ _ _ _ _ us hl => match us, hl with | [_, _], _ => rfl) (fun f cdv A outer s H vs Q E room qt h => ?_)
  · obtain ⟨a, n, t, rfl, _⟩ := h; rfl
  obtain ⟨a, ns, i, rfl, ha, hi, hl, k⟩ := h
  refine ⟨_, (pss_cons (ps_par (i := 2) (j := 3) rfl sc_law_above.nd rfl rfl (by decide) rfl rfl (pa_cons (pe_lst pa_nil) (pa_cons (pe_op op_sub (pe_ix ix_list (pv 0) (pv 1) (fun _ _ => rfl)) pe_int) pa_nil)) (by rfl))
      (pss_cons (ps_for PassesOwn.never rfl (pi_range3 (by rfl) T.range (pa_cons (pe_op op_sub (pv 1) pe_int) (pa_cons (pe_un un_neg pe_int) (pa_cons (pe_un un_neg pe_int) pa_nil)))) (pg_name (i := 4) sc_law_above.nd rfl (Or.inl rfl) (hf := Or.inl rfl))
        (pss_one (ps_if (pt_cmpR op_eq (pe_ix ix_list (pv 0) (pv 4) (fun _ _ => rfl)) (pv 3) (nomark _))
          (pss_cons (ps_expr (pe_bm PySem.F.plainAttrs_list PySem.F.slot_list_append PySem.F.type_list_append mt_append (pv 2) (pa_cons (pv 4) pa_nil)))
          (pss_one (ps_set (i := 3) sc_law_above.nd rfl (Or.inl rfl) (pe_op op_sub (pv 3) pe_int))))
          pss_nil)))
      (pss_one (ps_ret (pe_revL (pv 2)))))), ?_⟩
  refine ⟨(by decide : 0 ≤ sizeLine), fun p hp => ?_⟩
  have ha' : ∀ o, SqL K (upd H p o) a (iv ns) := fun o => (Same.new hp).seq ha
  refine ⟨_, rfl, _, rfl, a, iv ns, i, _, rfl, rfl, ha' _, atI_iv (by omega) (by omega), _, _, rfl, rfl, ?_⟩
  rw [Int.toNat_natCast]
  refine ⟨_, _, rfl, ?_⟩
  refine ⟨_, rfl, _, _, rfl, rfl, _, rfl, _, rfl, (i : Int) - 1, -1, -1, i, rfl, ?_, ?_⟩
  · have e := RgC.neg (i := (i : Int) - 1) (j := -1) (by omega) (by omega) (by omega) (by omega)
    have ei : ((i : Int) - 1 - -1).toNat = i := by omega
    rw [ei] at e
    exact e
  refine for_rangeC (n := i) (fun j σ H2 => ∃ (F : List Int) (w : Int) (v : Option V), σ = [some (.ref a), some (.int i), some (.ref p), some (.int w), v] ∧ H2 = upd H p (.lst (iv F)) ∧
    F.length ≤ j ∧ headsOf ns i = headsL ns (i - j) w ++ F.reverse) ⟨[], _, _, rfl, rfl, Nat.le_refl _, by rw [List.reverse_nil, List.append_nil]; rfl⟩ ?_ ?_
  · rintro j σ H2 hj ⟨F, wd, v, rfl, rfl, hF, e⟩
    have ev : (i : Int) - 1 + ((j : Nat) : Int) * (-1) = ((i - (j + 1) : Nat) : Int) := by omega
    obtain ⟨u, eu⟩ : ∃ u, i - (j + 1) = u := ⟨_, rfl⟩
    have ek : i - j = u + 1 := by omega
    rw [ek, headsL] at e
    rw [eu] at ev
    show (tIfS _ _ _) _ (List.set _ 4 (some (.int ((i : Int) - 1 + ((j : Nat) : Int) * (-1))))) _
    rw [ev]
    -- if made[spot] == need
    refine ⟨_, rfl, _, rfl, a, iv ns, u, _, rfl, rfl, ha' _, atI_iv (by omega) (by omega), _, rfl, rfl, _, rfl, ite2 (fun c => ?_) (fun c => ?_)⟩
    · have c1 : ns.getD u 0 = wd := by
        have := of_decide_eq_true c
        rw [Int.toNat_natCast] at this
        exact V.int.inj this
      rw [if_pos c1] at e
      refine ⟨_, rfl, .inl ⟨rfl, _, SqL.of upd_same⟩, _, rfl, p, _, _, rfl, rfl, upd_same, small_line (by rw [List.length_map]; omega), ?_⟩
      refine ⟨_, rfl, _, _, rfl, rfl, F ++ [(u : Int)], wd - 1, _, rfl, by rw [upd_upd, iv_snoc], by rw [List.length_append]; show F.length + 1 ≤ j + 1; omega, ?_⟩
      rw [eu, e, List.reverse_append, List.append_assoc]
      rfl
    · have c1 : ¬ ns.getD u 0 = wd := fun q => c (by rw [Int.toNat_natCast, q]; exact decide_eq_true rfl)
      rw [if_neg c1] at e
      exact ⟨F, wd, _, rfl, rfl, by omega, by rw [eu]; exact e⟩
  · rintro σ H2 ⟨F, wd, v, rfl, rfl, hF, e⟩
    rw [Nat.sub_self, headsL, List.nil_append] at e
    refine ⟨_, rfl, p, _, rfl, SqL.of upd_same, fun q hq => ?_⟩
    refine k q _ ((Same.new hp).free hq) ?_ ?_
    · exact (Same.new hp).trans (Same.new hq)
    · rw [upd_same, e]
      show some (HO.lst (List.map V.int F).reverse) = some (HO.lst (List.map V.int F.reverse))
      rw [List.map_reverse]
end
end SH

namespace SH
open PySem PySem.Spec PyProof.Rows L2
/-! ### sections between two lines -/
theorem in_sec {ns : List Int} (h : okFrom 0 ns = true) {a v : Nat} (hv : v < ns.length) : (a : Int) ∈ headsOf ns v ↔ a < v ∧ v ≤ endF ns a := by
  rw [headsOf_iff h hv]
  constructor
  · rintro ⟨p1, p2, p3⟩
    refine ⟨p1, ?_⟩
    have e := endF_is (ns := ns) (i := a) (by omega)
    rcases Nat.lt_or_ge (endF ns a) v with c | c
    · exfalso
      have q := e.2.2.2 (by omega)
      rcases Nat.lt_or_ge (endF ns a + 1) v with d | d
      · have := p3 _ (by have := e.1; omega) d
        omega
      · have : endF ns a + 1 = v := by omega
        rw [this] at q
        omega
    · exact c
  · rintro ⟨p1, p2⟩
    have e := endF_is (ns := ns) (i := a) (by omega)
    exact ⟨p1, e.2.2.1 v p1 p2, fun j j1 j2 => e.2.2.1 j j1 (by omega)⟩
theorem sec_nest {ns : List Int} {i v : Nat} (hv : v < ns.length) (a : i < v) (b : v ≤ endF ns i) : endF ns v ≤ endF ns i := by
  have ei := endF_is (ns := ns) (i := i) (by omega)
  have ev := endF_is hv
  rcases Nat.lt_or_ge (endF ns i) (endF ns v) with c | c
  · exfalso
    have q1 := ei.2.2.2 (by have := ev.2.1; omega)
    have q2 := ev.2.2.1 (endF ns i + 1) (by omega) (by omega)
    have q3 := ei.2.2.1 v a b
    omega
  · exact c
noncomputable def secL (ns : List Int) (last i : Nat) : List Int := if i < last then (if endF ns i < last then (i : Int) :: secL ns last (max (endF ns i) i + 1) else secL ns last (i + 1)) else []
termination_by last - i
theorem secL_end {ns : List Int} {last i : Nat} (c : last ≤ i) : secL ns last i = [] := by rw [secL, if_neg (by omega)]
theorem secL_in {ns : List Int} {last i : Nat} (hl : last < ns.length) (c : i < last) (d : endF ns i < last) : secL ns last i = (i : Int) :: secL ns last (endF ns i + 1) := by
  have e := endF_is (ns := ns) (i := i) (by omega)
  rw [secL, if_pos c, if_pos d, Nat.max_eq_left e.1]
theorem secL_out {ns : List Int} {last i : Nat} (c : i < last) (d : last ≤ endF ns i) : secL ns last i = secL ns last (i + 1) := by
  rw [secL, if_pos c, if_neg (by omega)]
theorem secL_nat {ns : List Int} {last : Nat} (hl : last < ns.length) : ∀ (m i : Nat), last - i ≤ m → ∀ x ∈ secL ns last i, ∃ v : Nat, x = v ∧ i ≤ v ∧ v < last
  | 0, i, hm, x, hx => by rw [secL_end (by omega)] at hx; cases hx
  | m + 1, i, hm, x, hx => by
    rcases Nat.lt_or_ge i last with c | c
    · have e := endF_is (ns := ns) (i := i) (by omega)
      rcases Nat.lt_or_ge (endF ns i) last with d | d
      · rw [secL_in hl c d] at hx
        rcases List.mem_cons.mp hx with z | z
        · exact ⟨i, z, Nat.le_refl _, c⟩
        · obtain ⟨v, a, b, g⟩ := secL_nat hl m (endF ns i + 1) (by have := e.1; omega) x z
          exact ⟨v, a, by have := e.1; omega, g⟩
      · rw [secL_out c d] at hx
        obtain ⟨v, a, b, g⟩ := secL_nat hl m (i + 1) (by omega) x hx
        exact ⟨v, a, by omega, g⟩
    · rw [secL_end c] at hx; cases hx
theorem secL_asc {ns : List Int} {last : Nat} (hl : last < ns.length) : ∀ (m i : Nat), last - i ≤ m → (secL ns last i).Pairwise (· < ·)
  | 0, i, hm => by rw [secL_end (by omega)]; exact List.Pairwise.nil
  | m + 1, i, hm => by
    rcases Nat.lt_or_ge i last with c | c
    · have e := endF_is (ns := ns) (i := i) (by omega)
      rcases Nat.lt_or_ge (endF ns i) last with d | d
      · rw [secL_in hl c d, List.pairwise_cons]
        refine ⟨fun x hx => ?_, secL_asc hl m _ (by have := e.1; omega)⟩
        obtain ⟨v, rfl, b, _⟩ := secL_nat hl _ _ (Nat.le_refl _) x hx
        have := e.1
        omega
      · rw [secL_out c d]
        exact secL_asc hl m _ (by omega)
    · rw [secL_end c]; exact List.Pairwise.nil
theorem secL_mem {ns : List Int} (h : okFrom 0 ns = true) {last : Nat} (hl : last < ns.length) : ∀ (m i : Nat), last - i ≤ m → ∀ v : Nat, (v : Int) ∈ secL ns last i ↔ i ≤ v ∧ v < last ∧ endF ns v < last ∧ ∀ a : Nat, i ≤ a → (a : Int) ∈ headsOf ns v → last ≤ endF ns a
  | 0, i, hm, v => by
    rw [secL_end (by omega)]
    exact ⟨fun q => (List.not_mem_nil q).elim, fun q => by omega⟩
  | m + 1, i, hm, v => by
    rcases Nat.lt_or_ge i last with c | c
    · have e := endF_is (ns := ns) (i := i) (by omega)
      have e1 := e.1
      rcases Nat.lt_or_ge (endF ns i) last with d | d
      · rw [secL_in hl c d, List.mem_cons, secL_mem h hl m _ (by omega) v]
        constructor
        · rintro (q | ⟨q1, q2, q3, q4⟩)
          · obtain rfl : v = i := by omega
            refine ⟨Nat.le_refl _, c, d, fun a ai am => ?_⟩
            have := (in_sec h (by omega)).mp am
            omega
          · refine ⟨by omega, q2, q3, fun a ai am => ?_⟩
            have am' := (in_sec h (by omega)).mp am
            rcases Nat.lt_or_ge (endF ns i) a with z | z
            · exact q4 a z am
            · exfalso
              rcases Nat.lt_or_ge i a with y | y
              · have := sec_nest (ns := ns) (i := i) (v := a) (by omega) y z
                omega
              · obtain rfl : a = i := by omega
                omega
        · rintro ⟨q1, q2, q3, q4⟩
          rcases Nat.lt_or_ge i v with z | z
          · right
            have nv : endF ns i < v := by
              rcases Nat.lt_or_ge (endF ns i) v with y | y
              · exact y
              · exfalso
                have := q4 i (Nat.le_refl _) ((in_sec h (by omega)).mpr ⟨z, y⟩)
                omega
            exact ⟨nv, q2, q3, fun a ai am => q4 a (by omega) am⟩
          · left; omega
      · rw [secL_out c d, secL_mem h hl m _ (by omega) v]
        constructor
        · rintro ⟨q1, q2, q3, q4⟩
          refine ⟨by omega, q2, q3, fun a ai am => ?_⟩
          rcases Nat.lt_or_ge i a with z | z
          · exact q4 a z am
          · obtain rfl : a = i := by omega
            exact d
        · rintro ⟨q1, q2, q3, q4⟩
          refine ⟨?_, q2, q3, fun a ai am => q4 a (by omega) am⟩
          rcases Nat.lt_or_ge i v with z | z
          · exact z
          · obtain rfl : v = i := by omega
            omega
    · rw [secL_end c]
      exact ⟨fun q => (List.not_mem_nil q).elim, fun q => by omega⟩
theorem secL_len {ns : List Int} {last : Nat} (hl : last < ns.length) : ∀ (m i : Nat), last - i ≤ m → (secL ns last i).length ≤ last - i
  | 0, i, hm => by rw [secL_end (by omega)]; exact Nat.zero_le _
  | m + 1, i, hm => by
    rcases Nat.lt_or_ge i last with c | c
    · have e := endF_is (ns := ns) (i := i) (by omega)
      have e1 := e.1
      rcases Nat.lt_or_ge (endF ns i) last with d | d
      · rw [secL_in hl c d, List.length_cons]
        have := secL_len hl m (endF ns i + 1) (by omega)
        omega
      · rw [secL_out c d]
        have := secL_len hl m (i + 1) (by omega)
        omega
    · rw [secL_end c]; exact Nat.zero_le _
/-- how many lines a fold hides -/
noncomputable def szF (ns : List Int) (v : Int) : Int := (endF ns v.toNat : Int) - v
noncomputable def betL (ns : List Int) (last i : Nat) : List (Int × Int) := (secL ns last i).map fun v => (szF ns v, v)
/-! ### sorted the one way, and the other -/
def leD (p q : Int × Int) : Bool := decide (q.1 < p.1 ∨ (q.1 = p.1 ∧ q.2 ≤ p.2))
theorem leD_iff {p q : Int × Int} : leD p q = true ↔ q.1 < p.1 ∨ (q.1 = p.1 ∧ q.2 ≤ p.2) := decide_eq_true_iff
def dsc (os : List (Int × Int)) : List (Int × Int) := os.mergeSort leD
theorem dsc_perm (os : List (Int × Int)) : (dsc os).Perm os := List.mergeSort_perm _ _
theorem dsc_sorted (os : List (Int × Int)) : (dsc os).Pairwise (fun p q => leD p q = true) := List.pairwise_mergeSort (fun a b c h1 h2 => by
  rw [leD_iff] at h1 h2 ⊢; omega) (fun a b => by
  rw [Bool.or_eq_true, leD_iff, leD_iff]; omega) os
theorem dsc_uniq {os l : List (Int × Int)} (p : l.Perm os) (s : l.Pairwise (fun p q => leD p q = true)) : l = dsc os := by
  refine List.Perm.eq_of_pairwise (le := fun p q => leD p q = true) (fun a b _ _ h1 h2 => ?_) s (dsc_sorted os) (p.trans (dsc_perm os).symm)
  rw [leD_iff] at h1 h2
  exact Prod.ext (by omega) (by omega)
def srt (l : List Int) : List Int := l.mergeSort (fun a b => decide (a ≤ b))
theorem srt_perm (l : List Int) : (srt l).Perm l := List.mergeSort_perm _ _
theorem srt_sorted (l : List Int) : (srt l).Pairwise (· ≤ ·) := by
  refine (List.pairwise_mergeSort (le := fun a b : Int => decide (a ≤ b)) (fun a b c h1 h2 => ?_) (fun a b => ?_) l).imp fun h => of_decide_eq_true h
  · have := of_decide_eq_true h1; have := of_decide_eq_true h2; exact decide_eq_true (by omega)
  · rw [Bool.or_eq_true, decide_eq_true_eq, decide_eq_true_eq]; omega
theorem srt_uniq {l m : List Int} (p : m.Perm l) (s : m.Pairwise (· ≤ ·)) : m = srt l :=
  List.Perm.eq_of_pairwise (le := fun a b : Int => a ≤ b) (fun a b _ _ h1 h2 => by omega) s (srt_sorted l) (p.trans (srt_perm l).symm)
theorem sum_perm {l m : List Int} (p : l.Perm m) : l.sum = m.sum := by
  induction p with
  | nil => rfl
  | cons x _ ih => rw [List.sum_cons, List.sum_cons, ih]
  | swap x y l => rw [List.sum_cons, List.sum_cons, List.sum_cons, List.sum_cons]; omega
  | trans _ _ a b => exact a.trans b
/-! ### how many folds are due -/
def dueZ : Int → List Int → Option Nat
  | e, [] => if e ≤ 0 then some 0 else none
  | e, z :: r => if e ≤ 0 then some 0 else (dueZ (e - z) r).map (· + 1)
theorem due_some : ∀ {zs : List Int} {e : Int} {m : Nat}, dueZ e zs = some m → m ≤ zs.length ∧ e ≤ (zs.take m).sum ∧ ∀ j, j < m → (zs.take j).sum < e
  | [], e, m, h => by
    unfold dueZ at h
    split at h
    · cases h; exact ⟨Nat.le_refl _, by rw [List.take_nil]; assumption, fun j hj => absurd hj (Nat.not_lt_zero _)⟩
    · cases h
  | z :: r, e, m, h => by
    unfold dueZ at h
    split at h
    · cases h; exact ⟨Nat.zero_le _, by assumption, fun j hj => absurd hj (Nat.not_lt_zero _)⟩
    · rename_i c
      cases q : dueZ (e - z) r with
      | none => rw [q] at h; cases h
      | some k =>
        rw [q] at h
        cases h
        obtain ⟨a, b, d⟩ := due_some q
        refine ⟨Nat.succ_le_succ a, ?_, fun j hj => ?_⟩
        · rw [List.take_succ_cons, List.sum_cons]; omega
        · cases j with
          | zero => show (0 : Int) < e; omega
          | succ j => rw [List.take_succ_cons, List.sum_cons]; have := d j (Nat.lt_of_succ_lt_succ hj); omega
theorem due_none : ∀ {zs : List Int} {e : Int}, dueZ e zs = none → ∀ j, (zs.take j).sum < e
  | [], e, h, j => by
    unfold dueZ at h
    split at h
    · cases h
    · rw [List.take_nil]; show (0 : Int) < e; omega
  | z :: r, e, h, j => by
    unfold dueZ at h
    split at h
    · cases h
    · rename_i c
      cases q : dueZ (e - z) r with
      | none =>
        cases j with
        | zero => show (0 : Int) < e; omega
        | succ j => rw [List.take_succ_cons, List.sum_cons]; have := due_none q j; omega
      | some k => rw [q] at h; cases h
def stp (s : List Int × Int) (p : Int × Int) : List Int × Int := if s.2 > 0 then (s.1 ++ [p.2], s.2 - p.1) else s
theorem stp_done : ∀ {L : List (Int × Int)} {s : List Int × Int}, s.2 ≤ 0 → L.foldl stp s = s
  | [], _, _ => rfl
  | p :: r, s, h => by
    have e : stp s p = s := by unfold stp; rw [if_neg (by omega)]
    rw [List.foldl_cons, e]
    exact stp_done h
theorem stp_some : ∀ {L : List (Int × Int)} {fs : List Int} {e : Int} {m : Nat}, dueZ e (L.map (·.1)) = some m → L.foldl stp (fs, e) = (fs ++ (L.take m).map (·.2), e - ((L.map (·.1)).take m).sum) ∧ e - ((L.map (·.1)).take m).sum ≤ 0
  | [], fs, e, m, h => by
    obtain ⟨a, b, _⟩ := due_some h
    obtain rfl : m = 0 := by simpa using a
    refine ⟨by simp, by omega⟩
  | p :: r, fs, e, m, h => by
    rw [List.map_cons] at h
    unfold dueZ at h
    split at h
    · rename_i c
      cases h
      rw [stp_done (by exact c)]
      exact ⟨by simp, by simpa using c⟩
    · rename_i c
      cases q : dueZ (e - p.1) (r.map (·.1)) with
      | none => rw [q] at h; cases h
      | some k =>
        rw [q] at h
        cases h
        obtain ⟨a, b⟩ := stp_some (fs := fs ++ [p.2]) q
        have e1 : stp (fs, e) p = (fs ++ [p.2], e - p.1) := by unfold stp; rw [if_pos (by show e > 0; omega)]
        rw [List.foldl_cons, e1, a]
        refine ⟨?_, ?_⟩
        · rw [List.take_succ_cons, List.map_cons, List.map_cons, List.take_succ_cons, List.sum_cons, List.append_assoc]
          refine Prod.ext rfl ?_
          show e - p.1 - _ = e - (p.1 + _)
          omega
        · rw [List.map_cons, List.take_succ_cons, List.sum_cons]; omega
theorem stp_none : ∀ {L : List (Int × Int)} {fs : List Int} {e : Int}, dueZ e (L.map (·.1)) = none → 0 < (L.foldl stp (fs, e)).2
  | [], fs, e, h => by
    have := due_none h 0
    simpa using this
  | p :: r, fs, e, h => by
    rw [List.map_cons] at h
    unfold dueZ at h
    split at h
    · cases h
    · rename_i c
      cases q : dueZ (e - p.1) (r.map (·.1)) with
      | some k => rw [q] at h; cases h
      | none =>
        have e1 : stp (fs, e) p = (fs ++ [p.2], e - p.1) := by unfold stp; rw [if_pos (by show e > 0; omega)]
        rw [List.foldl_cons, e1]
        exact stp_none q
/-- the folds that are told: none, or the lines in ascending order -/
noncomputable def shwR (ns : List Int) (h : Int) (f t : Nat) : Option (List Int) :=
  match dueZ ((t : Int) - f + 1 - (h - ns.getD f 0)) ((dsc (betL ns t f)).map (·.1)) with
  | some m => some (srt (((dsc (betL ns t f)).take m).map (·.2)))
  | none => none
def optV : Option (List Int) → PyData
  | none => .none
  | some F => dI F
def RetO (Q : VK) (H : Hp) : Option (List Int) → Prop
  | none => RetV Q H .non
  | some F => RetL Q H (iv F)
end SH

namespace SH
open PySem PySem.Spec PyProof.Rows L2
abbrev s_folds_between : Stmt := topS 33
abbrev N_folds_between : List Str := ["outline", "first", "last", "found", "line", "end"]
abbrev P_folds_between : List Str := ["outline", "first", "last"]
theorem sc_folds_between : FnScope N_folds_between P_folds_between (defScope s_folds_between) := ⟨rfl, rfl, rfl, by decide +kernel, rfl, by decide +kernel, by decide +kernel⟩
section
variable {P : Program} {w : World} {K : PySem.W.Frag} {mg : Str → Option Value} {base : Heap}
def sp_folds_between (K : PySem.W.Frag) : Sp := fun vs H Q _ => ∃ (a : Addr) (ns : List Int) (f t : Nat), vs = [.ref a, .int f, .int t] ∧ SqL K H a (iv ns) ∧ f ≤ t ∧ t < ns.length ∧ ns.length ≤ 200 ∧
  ∀ (p : Addr) (xs : List V) (H' : Hp), H p = none → Same H H' → H' p = some (.lst xs) → Prs H' xs (betL ns t f) → Q (.ref p) H'
theorem ok_folds_between (T : Txt mg) (h : At K mg "folds_between" s_folds_between)
    (g_last_of_section : Has P w K mg base CX0 2 "last_of_section" s_last_of_section P_last_of_section (sp_last_of_section K)) :
    Has P w K mg base CX0 3 "folds_between" s_folds_between P_folds_between (sp_folds_between K) := by
  refine Has.of h sc_folds_between (fun vs H Q E h => ?_) (fun _ _ _ _ _ _ us hl => match us, hl with | [_, _, _], _ => rfl) (fun f cdv A outer s H vs Q E room qt h => ?_)
  · obtain ⟨a, n, f, t, rfl, _⟩ := h; rfl
  obtain ⟨a, ns, f0, t, rfl, ha, ft, tl, l2, k⟩ := h
  refine ⟨_, (pss_cons (ps_set (i := 3) sc_folds_between.nd rfl (Or.inl rfl) (pe_lst pa_nil))
      (pss_cons (ps_set (i := 4) sc_folds_between.nd rfl (Or.inl rfl) (pv 1))
      (pss_cons (ps_while PassesOwn.never (pt_cmpR op_lt (pv 4) (pv 2) (nomark _))
        (pss_cons (ps_set (i := 5) sc_folds_between.nd rfl (Or.inl rfl) (pe_has g_last_of_section (room.mono (by decide)) qt (by rfl) pass0 (pa_cons (pv 0) (pa_cons (pv 4) pa_nil))))
        (pss_cons (ps_if (pt_cmpR op_lt (pv 5) (pv 2) (nomark _))
          (pss_cons (ps_expr (pe_bm PySem.F.plainAttrs_list PySem.F.slot_list_append PySem.F.type_list_append mt_append (pv 3) (pa_cons (pe_tup (pa_cons (pe_op op_sub (pv 5) (pv 4)) (pa_cons (pv 4) pa_nil))) pa_nil)))
          (pss_one (ps_set (i := 4) sc_folds_between.nd rfl (Or.inl rfl) (pv 5))))
          pss_nil)
        (pss_one (ps_aug (i := 4) sc_folds_between.nd rfl (Or.inl rfl) pe_int ip_add)))))
      (pss_one (ps_ret (pv 3)))))), ?_⟩
  refine ⟨(by decide : 0 ≤ sizeLine), fun p hp => ?_⟩
  refine ⟨_, rfl, ?_⟩
  refine ⟨fun m σ H' => Same H H' ∧ ∃ (i : Nat) (v5 : Option V) (xs : List V) (os : List (Int × Int)), f0 ≤ i ∧ i ≤ t ∧ m = t - i ∧ σ = [some (.ref a), some (.int f0), some (.int t), some (.ref p), some (.int (i : Nat)), v5] ∧
      H' p = some (.lst xs) ∧ Prs H' xs os ∧ os ++ betL ns t i = betL ns t f0 ∧ os.length ≤ i,
    ⟨_, Same.new hp, f0, none, [], [], Nat.le_refl _, ft, rfl, rfl, upd_same, .nil, rfl, Nat.zero_le _⟩, ?_⟩
  rintro m σ H' ⟨s1, i, v5, xs, os, fi, it, rfl, rfl, h1, hp1, e, lo⟩
  refine ⟨_, rfl, _, rfl, _, _, rfl, rfl, _, rfl, ite2 (fun c => ?_) (fun c => ?_)⟩
  · have c1 : i < t := by have := of_decide_eq_true c; omega
    have ie := endF_is (ns := ns) (i := i) (by omega)
    have ie1 := ie.1
    refine ⟨fun σ' H2 => Same H H2 ∧ ∃ (j : Nat) (v5 : Option V) (xs : List V) (os : List (Int × Int)), i < j ∧ j ≤ t ∧ σ' = [some (.ref a), some (.int f0), some (.int t), some (.ref p), some (.int (j : Nat)), v5] ∧
      H2 p = some (.lst xs) ∧ Prs H2 xs os ∧ os ++ betL ns t j = betL ns t f0 ∧ os.length ≤ j, ?_, ?_⟩
    · rintro σ' H2 ⟨s2, j, v5, xs, os, ij, jt, rfl, h2, hp2, e2, lo2⟩
      exact ⟨t - j, by omega, s2, j, v5, xs, os, by omega, jt, rfl, rfl, h2, hp2, e2, lo2⟩
    refine ⟨_, rfl, _, rfl, a, ns, i, endF ns i, rfl, s1.seq ha, ie, ?_⟩
    refine ⟨_, rfl, _, rfl, _, _, rfl, rfl, _, rfl, ite2 (fun c2 => ?_) (fun c2 => ?_)⟩
    · have c3 : endF ns i < t := by have := of_decide_eq_true c2; omega
      have eb : betL ns t i = (((endF ns i : Nat) : Int) - i, (i : Int)) :: betL ns t (endF ns i + 1) := by
        unfold betL
        rw [secL_in tl c1 c3, List.map_cons]
        unfold szF
        rw [Int.toNat_natCast]
      refine ⟨_, rfl, .inl ⟨rfl, _, SqL.of h1⟩, _, rfl, _, rfl, _, _, rfl, rfl, _, rfl, (by decide : 2 ≤ sizeLine), fun tt htt => ?_⟩
      have h9 := Same.new (o := .tup [.int (((endF ns i : Nat) : Int) - i), .int (i : Nat)]) htt _ _ h1
      have l8 := hp1.len
      refine ⟨p, _, _, rfl, rfl, h9, small_line (by omega), ?_⟩
      refine ⟨_, rfl, ?_⟩
      refine ⟨_, rfl, _, _, rfl, rfl, fun b u q => ?_, endF ns i + 1, _, _, os ++ [(((endF ns i : Nat) : Int) - i, (i : Int))], by omega, by omega, rfl, upd_same, ?_, ?_, ?_⟩
      · rw [upd_ne (ne_of_none q hp)]
        exact Same.new htt _ _ (s1 _ _ q)
      · exact ((hp1.same (Same.new htt)).append (.cons upd_same .nil)).upd h9
      · rw [← e, eb, List.append_assoc]; rfl
      · rw [List.length_append]; show os.length + 1 ≤ _; omega
    · have c3 : t ≤ endF ns i := by
        rcases Nat.lt_or_ge (endF ns i) t with q | q
        · exact (c2 (decide_eq_true (by omega))).elim
        · exact q
      have eb : betL ns t i = betL ns t (i + 1) := by unfold betL; rw [secL_out c1 c3]
      exact ⟨_, rfl, _, _, rfl, rfl, s1, i + 1, _, xs, os, by omega, by omega, rfl, h1, hp1, by rw [← e, eb], by omega⟩
  · have c1 : t ≤ i := by
      rcases Nat.lt_or_ge i t with q | q
      · exact (c (decide_eq_true (by omega))).elim
      · exact q
    have eb : betL ns t i = [] := by unfold betL; rw [secL_end c1]; rfl
    rw [eb, List.append_nil] at e
    subst e
    exact ⟨_, rfl, k p xs H' hp s1 h1 hp1⟩
end
end SH

namespace SH
open PySem PySem.Spec PyProof.Rows L2
theorem iteT' {b : Bool} {A B : Prop} (e : b = true) (h : A) : if b = true then A else B := by rw [if_pos e]; exact h
theorem iteFb {b : Bool} {A B : Prop} (e : b = false) (h : B) : if b = true then A else B := by rw [e, if_neg Bool.false_ne_true]; exact h
abbrev s_folds_to_show : Stmt := topS 34
abbrev N_folds_to_show : List Str := ["outline", "height", "line", "other", "first", "last", "excess", "folds", "hidden", "folded"]
abbrev P_folds_to_show : List Str := ["outline", "height", "line", "other"]
theorem sc_folds_to_show : FnScope N_folds_to_show P_folds_to_show (defScope s_folds_to_show) := ⟨rfl, rfl, rfl, by decide +kernel, rfl, by decide +kernel, by decide +kernel⟩
def kOf (H : Hp) (x : V) : Int × Int := match x with
  | .ref r => (match H r with | some (.tup [.int a, .int b]) => (a, b) | _ => (0, 0))
  | _ => (0, 0)
theorem kOf_at {H : Hp} {r : Addr} {a b : Int} (h : H r = some (.tup [.int a, .int b])) : kOf H (.ref r) = (a, b) := by
  unfold kOf
  simp only [h]
theorem prs_k {H : Hp} : ∀ {xs : List V} {os : List (Int × Int)}, Prs H xs os → (∀ x ∈ xs, ∃ t, x = V.ref t ∧ H t = some (.tup [.int (kOf H x).1, .int (kOf H x).2])) ∧ xs.map (kOf H) = os
  | _, _, .nil => ⟨fun x hx => (List.not_mem_nil hx).elim, rfl⟩
  | _, _, .cons (r := r) (s := s) (l := l) h t => by
    obtain ⟨a, b⟩ := prs_k t
    have e := kOf_at h
    refine ⟨fun x hx => ?_, by rw [List.map_cons, e, b]⟩
    rcases List.mem_cons.mp hx with z | z
    · subst z; exact ⟨_, rfl, by rw [e]; exact h⟩
    · exact a x z
theorem prs_of {H : Hp} : ∀ {xs : List V}, (∀ x ∈ xs, ∃ t, x = V.ref t ∧ H t = some (.tup [.int (kOf H x).1, .int (kOf H x).2])) → Prs H xs (xs.map (kOf H))
  | [], _ => .nil
  | x :: r, h => by
    obtain ⟨t, rfl, e⟩ := h x List.mem_cons_self
    exact .cons e (prs_of fun y hy => h y (List.mem_cons_of_mem _ hy))
/-- what sorted(.., reverse=True) gives -/
theorem sorted_dsc {H : Hp} {xs ys : List V} {os : List (Int × Int)} (p : Prs H xs os) (s : SrtO.Srtd (ltP (kOf H)) ys) (pm : ys.Perm xs) : Prs H ys.reverse (dsc os) := by
  obtain ⟨a, b⟩ := prs_k p
  have h : ∀ x ∈ ys.reverse, ∃ t, x = V.ref t ∧ H t = some (.tup [.int (kOf H x).1, .int (kOf H x).2]) := fun x hx => a x (pm.mem_iff.mp (List.mem_reverse.mp hx))
  have e : ys.reverse.map (kOf H) = dsc os := by
    refine dsc_uniq ?_ ?_
    · rw [← b]
      exact (((List.reverse_perm ys).trans pm).map _)
    · rw [List.map_reverse, List.pairwise_reverse, List.pairwise_map]
      refine s.imp fun {x y} q => ?_
      have := SrtO.lexB_no.mp q
      rw [leD_iff]
      omega
  rw [← e]
  exact prs_of h
section
variable {P : Program} {w : World} {K : PySem.W.Frag} {mg : Str → Option Value} {base : Heap}
def sp_folds_to_show : Sp := fun vs H Q _ => ∃ (a : Addr) (ns : List Int) (h : Int) (l o : Nat), vs = [.ref a, .int h, .int l, .int o] ∧ H a = some (.lst (iv ns)) ∧ isO ns = true ∧ 1 ≤ h ∧ h ≤ 400 ∧ l < ns.length ∧ o < ns.length ∧ RetO Q H (shwR ns h (min l o) (max l o))
theorem ok_folds_to_show (T : Txt mg) (h : At K mg "folds_to_show" s_folds_to_show)
    (g_check_outline : Has P w K mg base CX0 4 "check_outline" s_check_outline P_check_outline sp_check_outline)
    (g_check_height : Has P w K mg base CX0 3 "check_height" s_check_height P_check_height sp_check_height)
    (g_check_line : Has P w K mg base CX0 3 "check_line" s_check_line P_check_line (sp_check_line K))
    (g_folds_between : Has P w K mg base CX0 3 "folds_between" s_folds_between P_folds_between (sp_folds_between K)) :
    Has P w K mg base CX0 5 "folds_to_show" s_folds_to_show P_folds_to_show sp_folds_to_show := by
  refine Has.of h sc_folds_to_show (fun vs H Q E h => ?_) (fun _ _ _ _ _ _ us hl => match us, hl with | [_, _, _, _], _ => rfl) (fun f cdv A outer s H vs Q E room qt h => ?_)
  · obtain ⟨a, ns, h, l, o, rfl, _⟩ := h; rfl
  obtain ⟨a, ns, hh, l, o, rfl, ha, ho, h0, h1, ll, ol, k⟩ := h
  obtain ⟨l1, l2, hk⟩ := isO_iff.mp ho
  refine ⟨_, (pss_cons (ps_expr (pe_has g_check_outline (room.mono (by decide)) qt (by rfl) pass0 (pa_cons (pv 0) pa_nil)))
      (pss_cons (ps_expr (pe_has g_check_height (room.mono (by decide)) qt (by rfl) pass0 (pa_cons (pv 1) pa_nil)))
      (pss_cons (ps_expr (pe_has g_check_line (room.mono (by decide)) qt (by rfl) pass0 (pa_cons (pv 0) (pa_cons (pv 2) pa_nil))))
      (pss_cons (ps_expr (pe_has g_check_line (room.mono (by decide)) qt (by rfl) pass0 (pa_cons (pv 0) (pa_cons (pv 3) pa_nil))))
      (pss_cons (ps_par (i := 4) (j := 5) rfl sc_folds_to_show.nd rfl rfl (by decide) rfl rfl (pa_cons (pe_callB (call_min2 rfl) (by rfl) T.min (by decide +kernel) (pa_cons (pv 2) (pa_cons (pv 3) pa_nil))) (pa_cons (pe_callB (call_max2 rfl) (by rfl) T.max (by decide +kernel) (pa_cons (pv 2) (pa_cons (pv 3) pa_nil))) pa_nil)) (by rfl))
      (pss_cons (ps_set (i := 6) sc_folds_to_show.nd rfl (Or.inl rfl) (pe_op op_sub (pe_op op_add (pe_op op_sub (pv 5) (pv 4)) pe_int) (pe_op op_sub (pv 1) (pe_ix ix_list (pv 0) (pv 4) (fun _ _ => rfl)))))
      (pss_cons (ps_set (i := 7) sc_folds_to_show.nd rfl (Or.inl rfl) (pe_lst pa_nil))
      (pss_cons (ps_for PassesOwn.never rfl (pi_list (pe_callBK cr_sortedPOR (by rfl) T.sorted (by decide +kernel) (pa_cons (pe_has g_folds_between (room.mono (by decide)) qt (by rfl) pass0 (pa_cons (pv 0) (pa_cons (pv 4) (pa_cons (pv 5) pa_nil)))) pa_nil) (pk_cons pe_bl pk_nil))) (pg_tup rfl (pgs_cons (pg_name (i := 8) sc_folds_to_show.nd rfl (Or.inl rfl) (hf := Or.inl rfl)) (pgs_cons (pg_name (i := 9) sc_folds_to_show.nd rfl (Or.inl rfl) (hf := Or.inl rfl)) pgs_nil)))
        (pss_one (ps_if (pt_cmpR op_gt (pv 6) pe_int (nomark _))
          (pss_cons (ps_expr (pe_bm PySem.F.plainAttrs_list PySem.F.slot_list_append PySem.F.type_list_append mt_append (pv 7) (pa_cons (pv 9) pa_nil)))
          (pss_one (ps_aug (i := 6) sc_folds_to_show.nd rfl (Or.inl rfl) (pv 8) ip_sub)))
          pss_nil)))
      (pss_one (ps_ret (pe_ifExp (pt_cmpR op_le (pv 6) pe_int (nomark _)) (pe_callB cr_sortedAny (by rfl) T.sorted (by decide +kernel) (pa_cons (pv 7) pa_nil)) pe_non))))))))))), ?_⟩
  have el : (iv ns).length = ns.length := List.length_map _
  refine ⟨_, rfl, a, ns, rfl, ha, ho, ?_⟩
  refine ⟨_, rfl, hh, rfl, h0, h1, ?_⟩
  refine ⟨_, rfl, _, rfl, a, ns, l, rfl, SqL.of ha, by omega, by omega, ?_⟩
  refine ⟨_, rfl, _, rfl, a, ns, o, rfl, SqL.of ha, by omega, by omega, ?_⟩
  refine ⟨_, rfl, _, rfl, _, _, rfl, _, rfl, _, rfl, _, _, rfl, _, _, rfl, ?_⟩
  have e1 : (if (o : Int) < l then (o : Int) else l) = ((min l o : Nat) : Int) := by split <;> omega
  have e2 : (if (o : Int) > l then (o : Int) else l) = ((max l o : Nat) : Int) := by split <;> omega
  rw [e1, e2]
  have ft : min l o ≤ max l o := by omega
  have tl : max l o < ns.length := by omega
  generalize min l o = f0 at ft k ⊢
  generalize max l o = t at ft tl k ⊢
  refine ⟨_, rfl, _, rfl, _, _, rfl, rfl, _, _, rfl, rfl, _, rfl, _, rfl, _, rfl, a, iv ns, f0, _, rfl, rfl, SqL.of ha, atI_iv (by omega) (by omega), _, _, rfl, rfl, _, _, rfl, rfl, ?_⟩
  show gName 6 (V.int ((t : Int) - f0 + 1 - (hh - ns.getD ((f0 : Int)).toNat 0))) _ _ _
  rw [Int.toNat_natCast]
  unfold shwR at k
  generalize (t : Int) - f0 + 1 - (hh - ns.getD f0 0) = ex at k ⊢
  refine ⟨(by decide : 0 ≤ sizeLine), fun q nq => ?_⟩
  have lb := secL_len tl (t - f0) f0 (Nat.le_refl _)
  have lB : (betL ns t f0).length = (secL ns t f0).length := List.length_map _
  refine ⟨_, rfl, _, rfl, _, rfl, a, ns, f0, t, rfl, SqL.of (Same.new nq _ _ ha), ft, tl, l2, fun p xs H1 hp s1 h1 px => ?_⟩
  have h1q := s1 _ _ (upd_same (H := H) (a := q) (o := .lst []))
  have s01 := (Same.new (o := .lst []) nq).trans s1
  obtain ⟨ka, kb⟩ := prs_k px
  refine ⟨p, xs, kOf H1, rfl, rfl, SqL.of h1, ka, fun ys r sd pm hr => ?_⟩
  have pd := sorted_dsc px sd pm
  have lx := px.len
  have ly : ys.reverse.length = (betL ns t f0).length := by rw [List.length_reverse, pm.length_eq, lx]
  have hDl : (dsc (betL ns t f0)).length = (betL ns t f0).length := (dsc_perm _).length_eq
  have h2r := upd_same (H := H1) (a := r) (o := .lst ys.reverse)
  have h2q := Same.new (o := .lst ys.reverse) hr _ _ h1q
  have pd2 := pd.same (Same.new (o := .lst ys.reverse) hr)
  have s02 := s01.trans (Same.new (o := .lst ys.reverse) hr)
  have nrq : q ≠ r := ne_of_none h1q hr
  generalize upd H1 r (.lst ys.reverse) = H2 at h2r h2q pd2 s02 ⊢
  generalize ys.reverse = zs at h2r pd2 ly
  generalize dsc (betL ns t f0) = D at k pd2 hDl
  have hqH : H q = none := nq
  refine ⟨r, rfl, ⟨_, SqL.of h2r⟩, for_list (K := K) (a := r) (xs := zs) (fun i σ H3 => ∃ (v8 v9 : Option V), σ = [some (.ref a), some (.int hh), some (.int l), some (.int o), some (.int f0), some (.int t), some (.int ((D.take i).foldl stp ([], ex)).2), some (.ref q), v8, v9] ∧
      Same H H3 ∧ H3 q = some (.lst (iv ((D.take i).foldl stp ([], ex)).1)) ∧ H3 r = some (.lst zs) ∧ Prs H3 zs D ∧ ((D.take i).foldl stp ([], ex)).1.length ≤ i)
    ⟨none, none, rfl, s02, h2q, h2r, pd2, Nat.le_refl _⟩ (fun i σ H3 _ ⟨_, _, _, _, _, e, _⟩ => SqL.of e) ?_ ?_⟩
  · rintro i x σ H3 hx ⟨v8, v9, rfl, s3, h3q, h3r, p3, li⟩
    obtain ⟨u, s', l', rfl, hD, hu⟩ := p3.at hx
    have et : (D.take (i + 1)).foldl stp ([], ex) = stp ((D.take i).foldl stp ([], ex)) (s', l') := by
      rw [List.take_succ, hD, List.foldl_append]; rfl
    rw [et]
    generalize (D.take i).foldl stp ([], ex) = S at h3q li ⊢
    obtain ⟨fs, e⟩ := S
    refine ⟨u, _, rfl, SqT.of hu, rfl, _, _, rfl, _, _, rfl, rfl, ?_⟩
    refine ⟨_, rfl, _, _, rfl, rfl, _, rfl, ite2 (fun c => ?_) (fun c => ?_)⟩
    · have c1 : e > 0 := of_decide_eq_true c
      have es : stp (fs, e) (s', l') = (fs ++ [l'], e - s') := by unfold stp; rw [if_pos c1]
      rw [es]
      refine ⟨_, rfl, .inl ⟨rfl, _, SqL.of h3q⟩, _, rfl, q, _, _, rfl, rfl, h3q, small_line (by rw [List.length_map]; have : i < zs.length := (List.getElem?_eq_some_iff.mp hx).1; show fs.length < 100000; have : fs.length ≤ i := li; omega), ?_⟩
      refine ⟨_, rfl, _, rfl, _, _, rfl, rfl, _, _, rfl, fun b u' z => ?_, ?_, ?_, p3.upd h3q, ?_⟩
      · rw [upd_ne (ne_of_none z hqH)]; exact s3 _ _ z
      · rw [upd_same, iv_snoc]
      · rw [upd_ne nrq.symm]; exact h3r
      · rw [List.length_append]; show fs.length + 1 ≤ i + 1; have : fs.length ≤ i := li; omega
    · have c1 : ¬ e > 0 := fun z => c (decide_eq_true z)
      have es : stp (fs, e) (s', l') = (fs, e) := by unfold stp; rw [if_neg c1]
      rw [es]
      exact ⟨_, _, rfl, s3, h3q, h3r, p3, by have : fs.length ≤ i := li; show fs.length ≤ i + 1; omega⟩
  · rintro σ H3 ⟨v8, v9, rfl, s3, h3q, h3r, p3, li⟩
    rw [p3.len, List.take_length] at h3q li
    rw [p3.len, List.take_length]
    refine ⟨_, rfl, _, _, rfl, rfl, _, rfl, ?_⟩
    cases q' : dueZ ex (D.map (·.1)) with
    | some m =>
      rw [q'] at k
      obtain ⟨u1, u2⟩ := stp_some (fs := []) q'
      rw [u1, List.nil_append] at h3q li ⊢
      refine iteT' (decide_eq_true u2) ?_
      refine ⟨_, rfl, q, _, rfl, SqL.of h3q, by have : ((D.take m).map (·.2)).length ≤ D.length := li; omega, fun M u pm' asc' hu => ?_⟩
      rw [srt_uniq pm' asc']
      exact k u _ (s3.free hu) (s3.trans (Same.new hu)) upd_same
    | none =>
      rw [q'] at k
      have u1 := stp_none (fs := []) q'
      refine iteFb (decide_eq_false (by omega)) ?_
      exact k _ s3
end
end SH

namespace SH
open PySem PySem.Spec PyProof.Rows L2
noncomputable def szL (ns : List Int) (f t : Nat) : List Int := (dsc (betL ns t f)).map (·.1)
/-! ### the lines that the told folds leave -/
theorem left_run {ns F : List Int} : ∀ (m i e : Nat), e - i ≤ m → i ≤ e → e ≤ ns.length → (∀ j : Nat, i ≤ j → j < e → (j : Int) ∉ F) → ∃ A, leftL ns F i = A ++ leftL ns F e ∧ A.length = e - i
  | 0, i, e, hm, ie, el, _ => ⟨[], by rw [show i = e by omega]; rfl, by rw [List.length_nil]; omega⟩
  | m + 1, i, e, hm, ie, el, hf => by
    rcases Nat.lt_or_ge i e with c | c
    · have en : nextL ns F i = i + 1 := by unfold nextL; rw [if_neg (hf i (Nat.le_refl _) c)]
      obtain ⟨A, a, b⟩ := left_run m (i + 1) e (by omega) (by omega) el (fun j h1 h2 => hf j (by omega) h2)
      exact ⟨(i : Int) :: A, by rw [leftL_go (by omega), en, a]; rfl, by rw [List.length_cons, b]; omega⟩
    · exact ⟨[], by rw [show i = e by omega]; rfl, by rw [List.length_nil]; omega⟩
theorem left_mid {ns F : List Int} (h : okFrom 0 ns = true) {f t : Nat} (tl : t < ns.length) (sub : ∀ x ∈ F, x ∈ secL ns t f) : ∀ (m i : Nat), t - i ≤ m → f ≤ i → i ≤ t →
    ∃ A, leftL ns F i = A ++ leftL ns F t ∧ (A.length : Int) = (t : Int) - i - (((secL ns t i).filter (fun x => decide (x ∈ F))).map (szF ns)).sum
  | 0, i, hm, fi, it => ⟨[], by rw [show i = t by omega]; rfl, by rw [secL_end (by omega)]; show (0 : Int) = _ - _ - 0; omega⟩
  | m + 1, i, hm, fi, it => by
    rcases Nat.lt_or_ge i t with c | c
    · have ie := endF_is (ns := ns) (i := i) (by omega)
      have ie1 := ie.1
      have nosec : ∀ j : Nat, i < j → j ≤ endF ns i → endF ns i < t → (j : Int) ∉ F := fun j ij je d z => by
        have := (secL_mem h tl _ f (Nat.le_refl _) j).mp (sub _ z)
        have := this.2.2.2 i fi ((in_sec h (by omega)).mpr ⟨ij, je⟩)
        omega
      rcases Nat.lt_or_ge (endF ns i) t with d | d
      · obtain ⟨A, a, b⟩ := left_mid h tl sub m (endF ns i + 1) (by omega) (by omega) (by omega)
        rw [secL_in tl c d, List.filter_cons]
        by_cases q : (i : Int) ∈ F
        · have en : nextL ns F i = endF ns i + 1 := by unfold nextL; rw [if_pos q, Nat.max_eq_left ie1]
          refine ⟨(i : Int) :: A, by rw [leftL_go (by omega), en, a]; rfl, ?_⟩
          rw [if_pos (decide_eq_true q), List.map_cons, List.sum_cons, List.length_cons]
          have ez : szF ns (i : Int) = (endF ns i : Int) - i := by unfold szF; rw [Int.toNat_natCast]
          rw [ez]
          omega
        · obtain ⟨B, a2, b2⟩ := left_run (ns := ns) (F := F) _ i (endF ns i + 1) (Nat.le_refl _) (by omega) (by omega) (fun j h1 h2 => by
            rcases Nat.lt_or_ge i j with y | y
            · exact nosec j y (by omega) d
            · rw [show j = i by omega]; exact q)
          refine ⟨B ++ A, by rw [a2, a, List.append_assoc], ?_⟩
          rw [if_neg (by simpa using q), List.length_append, b2]
          omega
      · have q : (i : Int) ∉ F := fun z => by
          have := (secL_mem h tl _ f (Nat.le_refl _) i).mp (sub _ z)
          omega
        have en : nextL ns F i = i + 1 := by unfold nextL; rw [if_neg q]
        obtain ⟨A, a, b⟩ := left_mid h tl sub m (i + 1) (by omega) (by omega) (by omega)
        refine ⟨(i : Int) :: A, by rw [leftL_go (by omega), en, a]; rfl, ?_⟩
        rw [secL_out c d, List.length_cons]
        omega
    · exact ⟨[], by rw [show i = t by omega]; rfl, by rw [secL_end (by omega)]; show (0 : Int) = _ - _ - 0; omega⟩
/-- what is to be known of the folds that are told -/
theorem shw_some {ns : List Int} (h : okFrom 0 ns = true) {hh : Int} {f t : Nat} (ft : f ≤ t) (tl : t < ns.length) {F : List Int} (e : shwR ns hh f t = some F) :
    dueZ ((t : Int) - f + 1 - (hh - ns.getD f 0)) (szL ns f t) = some F.length ∧ F.Pairwise (· < ·) ∧ (∀ x ∈ F, (f : Int) ≤ x ∧ x < t) ∧ F.length ≤ t - f ∧
    ∃ B A, leftL ns F 0 = B ++ (A ++ leftL ns F t) ∧ B.length = f ∧ (∃ A', A ++ leftL ns F t = (f : Int) :: A') ∧ (A.length : Int) + ns.getD f 0 < hh := by
  unfold shwR at e
  cases q : dueZ ((t : Int) - f + 1 - (hh - ns.getD f 0)) ((dsc (betL ns t f)).map (·.1)) with
  | none => rw [q] at e; cases e
  | some m =>
    rw [q] at e
    have e : srt (((dsc (betL ns t f)).take m).map (·.2)) = F := by injection e
    obtain ⟨d1, d2, d3⟩ := due_some q
    rw [List.length_map] at d1
    have pD := dsc_perm (betL ns t f)
    have snd : ((dsc (betL ns t f)).map (·.2)).Perm (secL ns t f) := by
      have := pD.map (·.2)
      have e2 : (betL ns t f).map (·.2) = secL ns t f := by unfold betL; rw [List.map_map]; exact List.map_id _
      rwa [e2] at this
    have pF := srt_perm (((dsc (betL ns t f)).take m).map (·.2))
    rw [e] at pF
    have nd : ((dsc (betL ns t f)).map (·.2)).Nodup := snd.nodup_iff.mpr ((secL_asc tl _ f (Nat.le_refl _)).imp fun h => by omega)
    have ndF : F.Nodup := by
      rw [pF.nodup_iff, List.map_take]
      exact nd.sublist (List.take_sublist _ _)
    have asc : F.Pairwise (· < ·) := by
      have s := srt_sorted (((dsc (betL ns t f)).take m).map (·.2))
      rw [e] at s
      exact (s.and ndF).imp fun {a b} h => by have := h.1; have := h.2; omega
    have sub : ∀ x ∈ F, x ∈ secL ns t f := fun x hx => by
      have := pF.mem_iff.mp hx
      rw [List.map_take] at this
      exact snd.mem_iff.mp (List.mem_of_mem_take this)
    have rng : ∀ x ∈ F, (f : Int) ≤ x ∧ x < t := fun x hx => by
      obtain ⟨v, rfl, a, b⟩ := secL_nat tl _ f (Nat.le_refl _) x (sub x hx)
      omega
    have lF : F.length = m := by rw [pF.length_eq, List.length_map, List.length_take]; omega
    have lS := secL_len tl (t - f) f (Nat.le_refl _)
    have lm : F.length ≤ t - f := by
      have : (dsc (betL ns t f)).length = (secL ns t f).length := by rw [pD.length_eq]; unfold betL; rw [List.length_map]
      omega
    have sumF : (F.map (szF ns)).sum = (((dsc (betL ns t f)).map (·.1)).take m).sum := by
      rw [sum_perm (pF.map (szF ns)), List.map_map, ← List.map_take]
      congr 1
      refine List.map_congr_left fun p hp => ?_
      have := pD.mem_iff.mp (List.mem_of_mem_take hp)
      unfold betL at this
      obtain ⟨v, _, rfl⟩ := List.mem_map.mp this
      rfl
    have fil : (secL ns t f).filter (fun x => decide (x ∈ F)) = F := asc_eq ((secL_asc tl _ f (Nat.le_refl _)).filter _) asc fun k => by
      rw [List.mem_filter, decide_eq_true_eq]
      exact ⟨fun z => z.2, fun z => ⟨sub k z, z⟩⟩
    obtain ⟨B, b1, b2⟩ := left_run (ns := ns) (F := F) _ 0 f (Nat.le_refl _) (Nat.zero_le _) (by omega) (fun j _ jf z => by have := rng _ z; omega)
    obtain ⟨A, a1, a2⟩ := left_mid h tl sub _ f (Nat.le_refl _) (Nat.le_refl _) ft
    rw [fil, sumF] at a2
    refine ⟨by rw [lF]; exact q, asc, rng, lm, B, A, by rw [b1, a1], by omega, ⟨_, by rw [← a1, leftL_go (by omega)]⟩, ?_⟩
    omega
theorem shw_none {ns : List Int} {hh : Int} {f t : Nat} (e : shwR ns hh f t = none) : dueZ ((t : Int) - f + 1 - (hh - ns.getD f 0)) (szL ns f t) = none := by
  unfold shwR at e
  unfold szL
  cases q : dueZ ((t : Int) - f + 1 - (hh - ns.getD f 0)) ((dsc (betL ns t f)).map (·.1)) with
  | none => rfl
  | some m => rw [q] at e; cases e
/-- how many folds are enough -/
def enough (zs : List Int) (ex : Int) : List Int := ((List.range (zs.length + 1)).filter (fun i => decide (ex ≤ (zs.take i).sum))).map (fun (i : Nat) => (i : Int))
theorem enough_some {zs : List Int} {ex : Int} {m : Nat} (h : dueZ ex zs = some m) : (m : Int) ∈ enough zs ex ∧ ∀ y ∈ enough zs ex, (m : Int) ≤ y := by
  obtain ⟨a, b, c⟩ := due_some h
  unfold enough
  refine ⟨List.mem_map.mpr ⟨m, List.mem_filter.mpr ⟨List.mem_range.mpr (by omega), decide_eq_true b⟩, rfl⟩, fun y hy => ?_⟩
  obtain ⟨i, hi, rfl⟩ := List.mem_map.mp hy
  have := of_decide_eq_true (List.mem_filter.mp hi).2
  rcases Nat.lt_or_ge i m with z | z
  · have := c i z; omega
  · omega
theorem enough_none {zs : List Int} {ex : Int} (h : dueZ ex zs = none) : enough zs ex = [] := by
  unfold enough
  rw [List.map_eq_nil_iff, List.filter_eq_nil_iff]
  intro i _
  rw [decide_eq_true_eq]
  have := due_none h i
  omega
theorem gives_enough (zs : List Int) (ex : Int) : gives (zs.length + 1) (fun i => decide (ex ≤ (zs.take i).sum)) (fun i => V.int (i : Nat)) = iv (enough zs ex) := by
  unfold gives enough iv
  rw [List.map_map]
  rfl
end SH

namespace SH
open PySem PySem.Spec PyProof.Rows L2
/-! ### no choice of folds hides more -/
theorem left_at {ns F : List Int} : ∀ (m i x : Nat), ns.length - i ≤ m → (x : Int) ∈ leftL ns F i → ∃ B, leftL ns F i = B ++ leftL ns F x
  | 0, i, x, hm, h => by rw [leftL_end (by omega)] at h; exact (List.not_mem_nil h).elim
  | m + 1, i, x, hm, h => by
    rcases Nat.lt_or_ge i ns.length with c | c
    · have gt := nextL_gt ns F i
      rw [leftL_go c] at h
      rcases List.mem_cons.mp h with e | e
      · exact ⟨[], by rw [show x = i by omega]; rfl⟩
      · obtain ⟨B, b⟩ := left_at m (nextL ns F i) x (by omega) e
        exact ⟨(i : Int) :: B, by rw [leftL_go c, b]; rfl⟩
    · rw [leftL_end c] at h; exact (List.not_mem_nil h).elim
theorem left_sec {ns F : List Int} {i : Nat} (hi : i < ns.length) : ∀ (m j : Nat), endF ns i + 1 - j ≤ m → i ≤ j → j ≤ endF ns i + 1 → ∃ B, leftL ns F j = B ++ leftL ns F (endF ns i + 1) ∧ B.length ≤ endF ns i + 1 - j ∧ (j ≤ endF ns i → 1 ≤ B.length)
  | 0, j, hm, ij, je => ⟨[], by rw [show j = endF ns i + 1 by omega]; rfl, Nat.zero_le _, fun z => by omega⟩
  | m + 1, j, hm, ij, je => by
    rcases Nat.lt_or_ge j (endF ns i + 1) with c | c
    · have ie := endF_is hi
      have nx : nextL ns F j ≤ endF ns i + 1 ∧ j < nextL ns F j := by
        refine ⟨?_, nextL_gt _ _ _⟩
        unfold nextL
        split
        · have jn : endF ns j ≤ endF ns i := by
            rcases Nat.lt_or_ge i j with y | y
            · exact sec_nest (by have := ie.2.1; omega) y (by omega)
            · rw [show j = i by omega]; exact Nat.le_refl _
          omega
        · omega
      obtain ⟨B, b1, b2, b3⟩ := left_sec hi m (nextL ns F j) (by omega) (by omega) nx.1
      refine ⟨(j : Int) :: B, by rw [leftL_go (by have := ie.2.1; omega), b1]; rfl, by rw [List.length_cons]; omega, fun _ => by rw [List.length_cons]; omega⟩
    · exact ⟨[], by rw [show j = endF ns i + 1 by omega]; rfl, Nat.zero_le _, fun z => by omega⟩
/-- is there a fold in the section at x -/
def hitB (ns M : List Int) (e : Int → Int) (x : Int) : Bool := M.any fun a => decide (x ≤ a ∧ a ≤ e x)
theorem hit_iff {ns M : List Int} {e : Int → Int} {x : Int} : hitB ns M e x = true ↔ ∃ a ∈ M, x ≤ a ∧ a ≤ e x := by
  unfold hitB
  rw [List.any_eq_true]
  constructor
  · rintro ⟨a, h, q⟩; exact ⟨a, h, of_decide_eq_true q⟩
  · rintro ⟨a, h, q⟩; exact ⟨a, h, decide_eq_true q⟩
noncomputable def eF (ns : List Int) (x : Int) : Int := (endF ns x.toNat : Int)
theorem left_hit {ns M : List Int} {t : Nat} (tl : t < ns.length) : ∀ (m i : Nat), t - i ≤ m → i ≤ t → (∀ j : Nat, i ≤ j → j < t → t ≤ endF ns j → (j : Int) ∉ M) →
    ∃ A, leftL ns M i = A ++ leftL ns M t ∧ (t : Int) - i - A.length ≤ (((secL ns t i).filter (hitB ns M (eF ns))).map (szF ns)).sum
  | 0, i, hm, it, _ => ⟨[], by rw [show i = t by omega]; rfl, by rw [secL_end (by omega)]; show (t : Int) - i - 0 ≤ 0; omega⟩
  | m + 1, i, hm, it, no => by
    rcases Nat.lt_or_ge i t with c | c
    · have ie := endF_is (ns := ns) (i := i) (by omega)
      have ie1 := ie.1
      rcases Nat.lt_or_ge (endF ns i) t with d | d
      · obtain ⟨A, a1, a2⟩ := left_hit tl m (endF ns i + 1) (by omega) (by omega) (fun j h1 h2 h3 => no j (by omega) h2 h3)
        obtain ⟨B, b1, b2, b3⟩ := left_sec (F := M) (show i < ns.length by omega) _ i (Nat.le_refl _) (Nat.le_refl _) (by omega)
        have b3' := b3 ie1
        refine ⟨B ++ A, by rw [b1, a1, List.append_assoc], ?_⟩
        rw [secL_in tl c d, List.filter_cons, List.length_append]
        have ez : szF ns (i : Int) = (endF ns i : Int) - i := by unfold szF; rw [Int.toNat_natCast]
        by_cases q : hitB ns M (eF ns) (i : Int) = true
        · rw [if_pos q, List.map_cons, List.sum_cons, ez]
          omega
        · rw [if_neg q]
          obtain ⟨B2, c1, c2⟩ := left_run (ns := ns) (F := M) _ i (endF ns i + 1) (Nat.le_refl _) (by omega) (by omega) (fun j h1 h2 z => q (hit_iff.mpr ⟨_, z, by omega, by unfold eF; rw [Int.toNat_natCast]; omega⟩))
          have e : B.length = B2.length := by
            have := congrArg List.length (b1.symm.trans c1)
            rw [List.length_append, List.length_append] at this
            omega
          omega
      · have q : (i : Int) ∉ M := no i (Nat.le_refl _) c d
        have en : nextL ns M i = i + 1 := by unfold nextL; rw [if_neg q]
        obtain ⟨A, a, b⟩ := left_hit tl m (i + 1) (by omega) (by omega) (fun j h1 h2 h3 => no j (by omega) h2 h3)
        refine ⟨(i : Int) :: A, by rw [leftL_go (by omega), en, a]; rfl, ?_⟩
        rw [secL_out c d, List.length_cons]
        omega
    · exact ⟨[], by rw [show i = t by omega]; rfl, by rw [secL_end (by omega)]; show (t : Int) - i - 0 ≤ 0; omega⟩
theorem secL_apart {ns : List Int} {last : Nat} (hl : last < ns.length) : ∀ (m i : Nat), last - i ≤ m → (secL ns last i).Pairwise (fun u v => eF ns u < v)
  | 0, i, hm => by rw [secL_end (by omega)]; exact List.Pairwise.nil
  | m + 1, i, hm => by
    rcases Nat.lt_or_ge i last with c | c
    · have e := endF_is (ns := ns) (i := i) (by omega)
      rcases Nat.lt_or_ge (endF ns i) last with d | d
      · rw [secL_in hl c d, List.pairwise_cons]
        refine ⟨fun x hx => ?_, secL_apart hl m _ (by have := e.1; omega)⟩
        obtain ⟨v, rfl, b, _⟩ := secL_nat hl _ _ (Nat.le_refl _) x hx
        unfold eF
        rw [Int.toNat_natCast]
        omega
      · rw [secL_out c d]
        exact secL_apart hl m _ (by omega)
    · rw [secL_end c]; exact List.Pairwise.nil
theorem pigeon' {α β : Type} [DecidableEq β] {R : α → β → Prop} : ∀ {U : List α} {L : List β}, (∀ u ∈ U, ∃ s ∈ L, R u s) → U.Pairwise (fun u v => ∀ s, R u s → ¬ R v s) → U.length ≤ L.length
  | [], L, _, _ => Nat.zero_le _
  | u :: r, L, h, p => by
    obtain ⟨s, hs, q⟩ := h u List.mem_cons_self
    obtain ⟨p1, p2⟩ := List.pairwise_cons.mp p
    have ih := pigeon' (R := R) (U := r) (L := L.erase s) (fun v hv => by
      obtain ⟨x, hx, qx⟩ := h v (List.mem_cons_of_mem _ hv)
      have ne : x ≠ s := fun e => p1 v hv s q (e ▸ qx)
      exact ⟨x, (List.mem_erase_of_ne ne).mpr hx, qx⟩) p2
    rw [List.length_erase_of_mem hs] at ih
    have := List.length_pos_of_mem hs
    rw [List.length_cons]
    omega
theorem sub_sum : ∀ {zs l : List Int}, zs.Pairwise (fun a b => b ≤ a) → l.Sublist zs → l.sum ≤ (zs.take l.length).sum
  | _, [], _, _ => by show (0 : Int) ≤ 0; omega
  | [], y :: l, _, s => by cases s
  | z :: r, y :: l, p, s => by
    obtain ⟨p1, p2⟩ := List.pairwise_cons.mp p
    rw [List.length_cons, List.take_succ_cons, List.sum_cons, List.sum_cons]
    cases s with
    | cons_cons _ s' =>
      have := sub_sum p2 s'
      omega
    | cons _ s' =>
      have h1 := p1 y (s'.subset List.mem_cons_self)
      have := sub_sum p2 ((List.sublist_cons_self y l).trans s')
      omega
theorem take_mono {zs : List Int} (nn : ∀ z ∈ zs, 0 ≤ z) {a b : Nat} (h : a ≤ b) : (zs.take a).sum ≤ (zs.take b).sum := by
  induction zs generalizing a b with
  | nil => rw [List.take_nil, List.take_nil]; exact Int.le_refl _
  | cons z r ih =>
    have z0 := nn z List.mem_cons_self
    have ih' := fun {a b : Nat} (h : a ≤ b) => ih (fun y hy => nn y (List.mem_cons_of_mem _ hy)) h
    cases a with
    | zero =>
      cases b with
      | zero => exact Int.le_refl _
      | succ b =>
        rw [List.take_succ_cons, List.sum_cons]
        have := ih' (Nat.zero_le b)
        simp only [List.take_zero, List.sum_nil] at this ⊢
        omega
    | succ a =>
      cases b with
      | zero => omega
      | succ b =>
        rw [List.take_succ_cons, List.take_succ_cons, List.sum_cons, List.sum_cons]
        have := ih' (Nat.le_of_succ_le_succ h)
        omega
/-- as many folds as are due, at least -/
theorem due_le {ns M : List Int} (h : okFrom 0 ns = true) {hh : Int} {f t : Nat} (ft : f ≤ t) (tl : t < ns.length) (mf : (f : Int) ∈ leftL ns M 0) (mt : (t : Int) ∈ leftL ns M 0)
    (few : ∀ a b : Nat, (leftL ns M 0)[a]? = some (f : Int) → (leftL ns M 0)[b]? = some (t : Int) → (b : Int) - a + ns.getD f 0 < hh) :
    ∃ m, dueZ ((t : Int) - f + 1 - (hh - ns.getD f 0)) (szL ns f t) = some m ∧ m ≤ M.length := by
  obtain ⟨B, b1⟩ := left_at _ 0 f (Nat.le_refl _) mf
  have no : ∀ j : Nat, f ≤ j → j < t → t ≤ endF ns j → (j : Int) ∉ M := fun j _ jt je => by
    have := ((leftL_iff h _ 0 (Nat.le_refl _) t).mp mt).2.2 j (Nat.zero_le _) ((in_sec h tl).mpr ⟨jt, je⟩)
    exact this
  obtain ⟨A, a1, a2⟩ := left_hit tl _ f (Nat.le_refl _) ft no
  have gf : (leftL ns M 0)[B.length]? = some (f : Int) := by
    rw [b1, List.getElem?_append_right (Nat.le_refl _), Nat.sub_self, leftL_go (by omega)]
    rfl
  have gt : (leftL ns M 0)[B.length + A.length]? = some (t : Int) := by
    rw [b1, a1, List.getElem?_append_right (by omega), List.getElem?_append_right (by omega), show B.length + A.length - B.length - A.length = 0 by omega, leftL_go tl]
    rfl
  have fw := few _ _ gf gt
  generalize hT : (secL ns t f).filter (hitB ns M (eF ns)) = T at a2
  have apart := secL_apart tl _ f (Nat.le_refl _)
  have lT : T.length ≤ M.length := pigeon' (R := fun u a => u ≤ a ∧ a ≤ eF ns u) (fun u hu => by
    rw [← hT] at hu
    obtain ⟨a, q1, q2⟩ := hit_iff.mp (List.mem_filter.mp hu).2
    exact ⟨a, q1, q2⟩) (by
    rw [← hT]
    exact (apart.filter _).imp fun {u v} q s r1 r2 => by omega)
  have nn : ∀ z ∈ szL ns f t, 0 ≤ z := fun z hz => by
    unfold szL at hz
    obtain ⟨p, hp, rfl⟩ := List.mem_map.mp hz
    have := (dsc_perm _).mem_iff.mp hp
    unfold betL at this
    obtain ⟨v, hv, rfl⟩ := List.mem_map.mp this
    obtain ⟨w, rfl, _, wt⟩ := secL_nat tl _ f (Nat.le_refl _) v hv
    show 0 ≤ szF ns (w : Int)
    unfold szF
    rw [Int.toNat_natCast]
    have := (endF_is (ns := ns) (i := w) (by omega)).1
    omega
  have sorted : (szL ns f t).Pairwise (fun a b => b ≤ a) := by
    unfold szL
    rw [List.pairwise_map]
    exact (dsc_sorted _).imp fun {a b} q => by have := leD_iff.mp q; omega
  have pz : ((secL ns t f).map (szF ns)).Perm (szL ns f t) := by
    have e : (secL ns t f).map (szF ns) = (betL ns t f).map (·.1) := by unfold betL; rw [List.map_map]; rfl
    rw [e]
    exact ((dsc_perm _).map _).symm
  have sl : (T.map (szF ns)).Sublist ((secL ns t f).map (szF ns)) := by rw [← hT]; exact List.filter_sublist.map _
  obtain ⟨l', p1, p2⟩ := List.exists_perm_sublist sl pz
  have s1 := sub_sum sorted p2
  have s2 : (T.map (szF ns)).sum = l'.sum := (sum_perm p1).symm
  have s3 : l'.length = T.length := by rw [p1.length_eq, List.length_map]
  rw [s3] at s1
  have s4 := take_mono nn lT
  cases q : dueZ ((t : Int) - f + 1 - (hh - ns.getD f 0)) (szL ns f t) with
  | none =>
    have := due_none q M.length
    omega
  | some m =>
    refine ⟨m, rfl, ?_⟩
    obtain ⟨_, _, d3⟩ := due_some q
    rcases Nat.lt_or_ge M.length m with z | z
    · have := d3 _ z; omega
    · exact z
end SH

namespace SH
open PySem PySem.Spec PyProof.Rows L2
/-! ### folded outlines -/
theorem left_nth {ns F : List Int} : ∀ (j i : Nat) {x : Int}, (leftL ns F i)[j]? = some x → ∃ v : Nat, x = v ∧ v < ns.length ∧ (leftL ns F i).drop j = leftL ns F v
  | 0, i, x, h => by
    rcases Nat.lt_or_ge i ns.length with c | c
    · rw [leftL_go c] at h
      have e : (i : Int) = x := Option.some.inj h
      exact ⟨i, e.symm, c, by rw [List.drop_zero]⟩
    · rw [leftL_end c] at h; cases h
  | j + 1, i, x, h => by
    rcases Nat.lt_or_ge i ns.length with c | c
    · rw [leftL_go c] at h
      obtain ⟨v, a, b, d⟩ := left_nth j (nextL ns F i) (x := x) (by simpa using h)
      exact ⟨v, a, b, by rw [leftL_go c, List.drop_succ_cons]; exact d⟩
    · rw [leftL_end c] at h; cases h
theorem left_step' {ns F : List Int} {i j : Nat} {v : Nat} {y : Int} (h : (leftL ns F i)[j]? = some (v : Int)) (h2 : (leftL ns F i)[j + 1]? = some y) : y = (nextL ns F v : Nat) ∧ nextL ns F v < ns.length := by
  obtain ⟨v', e, b, d⟩ := left_nth j i h
  obtain rfl : v = v' := by omega
  have : ((leftL ns F i).drop j)[1]? = some y := by rw [List.getElem?_drop]; exact h2
  rw [d, leftL_go b] at this
  have h3 : (leftL ns F (nextL ns F v))[0]? = some y := by simpa using this
  rcases Nat.lt_or_ge (nextL ns F v) ns.length with c | c
  · rw [leftL_go c] at h3
    exact ⟨(Option.some.inj h3).symm, c⟩
  · rw [leftL_end c] at h3; cases h3
theorem fold_at {ns F : List Int} {j : Nat} {v : Nat} (h : (leftL ns F 0)[j]? = some (v : Int)) : (foldL ns F).getD j 0 = ns.getD v 0 := by
  unfold foldL
  rw [List.getD_eq_getElem?_getD, List.getElem?_map, h]
  rfl
theorem fold_len (ns F : List Int) : (foldL ns F).length = (leftL ns F 0).length := List.length_map _
theorem left_get {ns F : List Int} {j : Nat} (h : j < (leftL ns F 0).length) : ∃ v : Nat, (leftL ns F 0)[j]? = some (v : Int) ∧ v < ns.length := by
  obtain ⟨v, a, b, _⟩ := left_nth j 0 (List.getElem?_eq_getElem h)
  exact ⟨v, by rw [← a]; exact List.getElem?_eq_getElem h, b⟩
theorem fold_ok {ns F : List Int} (ho : isO ns = true) : isO (foldL ns F) = true := by
  obtain ⟨l1, l2, hk⟩ := isO_iff.mp ho
  have ll := leftL_len ns F 0
  have l0 : 1 ≤ (leftL ns F 0).length := by rw [leftL_go (by omega)]; exact Nat.le_add_left _ _
  refine isO_iff.mpr ⟨by rw [fold_len]; exact l0, by rw [fold_len]; omega, okFrom_of fun i hi => ?_⟩
  rw [fold_len] at hi
  obtain ⟨v, gv, vl⟩ := left_get hi
  have ev := fold_at gv
  have dv := okFrom_at hk vl
  rw [ev]
  refine ⟨dv.1, fun j e => ?_, fun e => ?_⟩
  · subst e
    obtain ⟨u, gu, ul⟩ := left_get (ns := ns) (F := F) (j := j) (by omega)
    rw [fold_at gu]
    obtain ⟨e1, e2⟩ := left_step' gu gv
    have e3 : v = nextL ns F u := by omega
    unfold nextL at e3
    split at e3
    · have ie := endF_is ul
      have := ie.2.2.2 (by have := ie.1; omega)
      have e4 : v = endF ns u + 1 := by have := ie.1; omega
      rw [e4]
      omega
    · rw [e3]
      exact (okFrom_at hk (i := u + 1) (by omega)).2.1 u rfl
  · subst e
    rw [leftL_go (by omega)] at gv
    have : v = 0 := by have : (0 : Int) = v := Option.some.inj gv; omega
    rw [this]
    exact (okFrom_at hk (i := 0) (by omega)).2.2 rfl
theorem heads_left {ns F : List Int} (h : okFrom 0 ns = true) {v w : Nat} (mv : (v : Int) ∈ leftL ns F 0) (vl : v < ns.length) (hw : (w : Int) ∈ headsOf ns v) : (w : Int) ∈ leftL ns F 0 := by
  obtain ⟨wv, ve⟩ := (in_sec h vl).mp hw
  refine (leftL_iff h _ 0 (Nat.le_refl _) w).mpr ⟨Nat.zero_le _, by omega, fun b _ hb => ?_⟩
  obtain ⟨bw, we⟩ := (in_sec h (by omega)).mp hb
  have := sec_nest (ns := ns) (i := b) (v := w) (by omega) bw we
  exact ((leftL_iff h _ 0 (Nat.le_refl _) v).mp mv).2.2 b (Nat.zero_le _) ((in_sec h vl).mpr ⟨by omega, by omega⟩)
theorem left_ix_lt {ns F : List Int} {i j : Nat} {u v : Nat} (gu : (leftL ns F 0)[i]? = some (u : Int)) (gv : (leftL ns F 0)[j]? = some (v : Int)) : i < j ↔ u < v := by
  have asc := leftL_asc (ns := ns) (fs := F) _ 0 (Nat.le_refl _)
  obtain ⟨il, eu⟩ := List.getElem?_eq_some_iff.mp gu
  obtain ⟨jl, ev⟩ := List.getElem?_eq_some_iff.mp gv
  have lt := fun a b al bl c => List.pairwise_iff_getElem.mp asc a b al bl c
  rcases Nat.lt_trichotomy i j with c | c | c
  · have := lt i j il jl c; exact ⟨fun _ => by omega, fun _ => c⟩
  · subst c
    have : (u : Int) = v := by rw [← eu, ← ev]
    exact ⟨fun z => by omega, fun z => by omega⟩
  · have := lt j i jl il c; exact ⟨fun z => by omega, fun z => by omega⟩
/-- lines between a left line and a left line below it are deeper when the left ones among them are -/
theorem between_deep {ns F : List Int} (h : okFrom 0 ns = true) {w v : Nat} (mw : (w : Int) ∈ leftL ns F 0) (wl : w < ns.length) (vl : v < ns.length) (q : ∀ k : Nat, (k : Int) ∈ leftL ns F 0 → w < k → k < v → ns.getD w 0 < ns.getD k 0) :
    ∀ k : Nat, w < k → k < v → ns.getD w 0 < ns.getD k 0 := by
  intro k
  induction k using Nat.strongRecOn with
  | _ k ih =>
    intro wk kv
    by_cases mk : (k : Int) ∈ leftL ns F 0
    · exact q k mk wk kv
    · have nk : ¬ (0 ≤ k ∧ k < ns.length ∧ ∀ a : Nat, 0 ≤ a → (a : Int) ∈ headsOf ns k → (a : Int) ∉ F) := fun z => mk ((leftL_iff h _ 0 (Nat.le_refl _) k).mpr z)
      have : ∃ a : Nat, (a : Int) ∈ headsOf ns k ∧ (a : Int) ∈ F := by
        refine Classical.byContradiction fun n => nk ⟨Nat.zero_le _, by omega, fun a _ ha hf => n ⟨a, ha, hf⟩⟩
      obtain ⟨a, ha, hf⟩ := this
      obtain ⟨ak, ke⟩ := (in_sec h (by omega)).mp ha
      have da := ((endF_is (ns := ns) (i := a) (by omega)).2.2.1 k ak ke)
      rcases Nat.lt_trichotomy a w with c | c | c
      · exfalso
        exact ((leftL_iff h _ 0 (Nat.le_refl _) w).mp mw).2.2 a (Nat.zero_le _) ((in_sec h wl).mpr ⟨c, by omega⟩) hf
      · subst c; exact da
      · have := ih a ak c (by omega)
        omega
theorem fold_heads {ns F : List Int} (ho : isO ns = true) {a v : Nat} (gv : (leftL ns F 0)[a]? = some (v : Int)) : (headsOf (foldL ns F) a).map (fun j => (leftL ns F 0).getD j.toNat 0) = headsOf ns v := by
  obtain ⟨l1, l2, hk⟩ := isO_iff.mp ho
  obtain ⟨_, _, gk⟩ := isO_iff.mp (fold_ok (F := F) ho)
  have al := (List.getElem?_eq_some_iff.mp gv).1
  have vl : v < ns.length := by have := leftL_mem (List.mem_of_getElem? gv); omega
  have aG : a < (foldL ns F).length := by rw [fold_len]; exact al
  have asc := leftL_asc (ns := ns) (fs := F) _ 0 (Nat.le_refl _)
  have gd : ∀ (j : Nat) {u : Nat}, (leftL ns F 0)[j]? = some (u : Int) → (leftL ns F 0).getD j 0 = (u : Int) := fun j u e => by rw [List.getD_eq_getElem?_getD, e]; rfl
  have mem : ∀ w : Nat, (∃ j : Nat, (j : Int) ∈ headsOf (foldL ns F) a ∧ (leftL ns F 0)[j]? = some (w : Int)) ↔ (w : Int) ∈ headsOf ns v := by
    intro w
    constructor
    · rintro ⟨j, hj, gw⟩
      obtain ⟨ja, d1, d2⟩ := (headsOf_iff gk aG j).mp hj
      rw [fold_at gw, fold_at gv] at d1
      have wl : w < ns.length := by have := leftL_mem (List.mem_of_getElem? gw); omega
      have wv := (left_ix_lt gw gv).mp ja
      refine (headsOf_iff hk vl w).mpr ⟨wv, d1, between_deep hk (List.mem_of_getElem? gw) wl vl fun k mk wk kv => ?_⟩
      obtain ⟨b, gb⟩ := List.getElem?_of_mem mk
      have := d2 b ((left_ix_lt gw gb).mpr wk) ((left_ix_lt gb gv).mpr kv)
      rwa [fold_at gw, fold_at gb] at this
    · intro hw
      have mw := heads_left hk (List.mem_of_getElem? gv) vl hw
      obtain ⟨j, gw⟩ := List.getElem?_of_mem mw
      obtain ⟨wv, d1, d2⟩ := (headsOf_iff hk vl w).mp hw
      refine ⟨j, (headsOf_iff gk aG j).mpr ⟨(left_ix_lt gw gv).mpr wv, by rw [fold_at gw, fold_at gv]; exact d1, fun b jb ba => ?_⟩, gw⟩
      obtain ⟨k, gb, _⟩ := left_get (ns := ns) (F := F) (j := b) (by omega)
      rw [fold_at gw, fold_at gb]
      exact d2 k ((left_ix_lt gw gb).mp jb) ((left_ix_lt gb gv).mp ba)
  have hmem := fun {x : Int} (hx : x ∈ headsOf (foldL ns F) a) => headsL_mem hx
  refine asc_eq ?_ heads_asc fun k => ?_
  · rw [List.pairwise_map]
    refine (heads_asc (ns := foldL ns F) (k := a) (w := (foldL ns F).getD a 0 - 1)).imp_of_mem fun {x y} hx hy q => ?_
    have bx := hmem hx
    have byy := hmem hy
    obtain ⟨u, gu, _⟩ := left_get (ns := ns) (F := F) (j := x.toNat) (by omega)
    obtain ⟨z, gz, _⟩ := left_get (ns := ns) (F := F) (j := y.toNat) (by omega)
    rw [gd _ gu, gd _ gz]
    have := (left_ix_lt gu gz).mp (by omega)
    omega
  · rw [List.mem_map]
    constructor
    · rintro ⟨x, hx, rfl⟩
      have bx := hmem hx
      obtain ⟨u, gu, _⟩ := left_get (ns := ns) (F := F) (j := x.toNat) (by omega)
      rw [gd _ gu]
      exact (mem u).mp ⟨x.toNat, by rw [show ((x.toNat : Nat) : Int) = x by omega]; exact hx, gu⟩
    · intro hw
      have bk := headsL_mem hw
      obtain ⟨w, rfl⟩ : ∃ w : Nat, k = w := ⟨k.toNat, by omega⟩
      obtain ⟨j, hj, gw⟩ := (mem w).mpr hw
      exact ⟨j, hj, by rw [Int.toNat_natCast]; exact gd _ gw⟩
theorem left_same {ns F F' : List Int} : ∀ (m i : Nat), ns.length - i ≤ m → (∀ x ∈ leftL ns F i, x ∈ F' ↔ x ∈ F) → leftL ns F' i = leftL ns F i
  | 0, i, hm, _ => by rw [leftL_end (by omega), leftL_end (by omega)]
  | m + 1, i, hm, q => by
    rcases Nat.lt_or_ge i ns.length with c | c
    · have e : nextL ns F' i = nextL ns F i := by
        have := q (i : Int) (by rw [leftL_go c]; exact List.mem_cons_self)
        unfold nextL
        by_cases z : (i : Int) ∈ F
        · rw [if_pos z, if_pos (this.mpr z)]
        · rw [if_neg z, if_neg (fun y => z (this.mp y))]
      have gt := nextL_gt ns F i
      rw [leftL_go c, leftL_go c, e, left_same m (nextL ns F i) (by omega) fun x hx => q x (by rw [leftL_go c]; exact List.mem_cons_of_mem _ hx)]
    · rw [leftL_end c, leftL_end c]
theorem left_filter (ns F : List Int) : leftL ns (F.filter fun x => decide (x ∈ leftL ns F 0)) 0 = leftL ns F 0 :=
  left_same _ 0 (Nat.le_refl _) fun x hx => by
    rw [List.mem_filter, decide_eq_true_eq]
    exact ⟨fun z => z.1, fun z => ⟨z, hx⟩⟩
theorem due_mono {zs : List Int} {e e' : Int} (h : e' ≤ e) {m : Nat} (d : dueZ e zs = some m) : ∃ m', dueZ e' zs = some m' ∧ m' ≤ m := by
  obtain ⟨_, d2, _⟩ := due_some d
  cases q : dueZ e' zs with
  | none => have := due_none q m; omega
  | some m' =>
    refine ⟨m', rfl, ?_⟩
    obtain ⟨_, _, q3⟩ := due_some q
    rcases Nat.lt_or_ge m m' with z | z
    · have := q3 m z; omega
    · exact z
end SH

namespace SH
open PySem PySem.Spec PyProof.Rows L2
theorem eqV_int (x : Int) : eqV (V.int x) (V.int x) = true := by simp [eqV]
theorem ix_iv {L : List Int} (asc : L.Pairwise (· < ·)) {j : Nat} {x : Int} (e : L[j]? = some x) : (iv L)[j]? = some (.int x) ∧ ∀ (m : Nat) (z' : V), m < j → (iv L)[m]? = some z' → eqV z' (.int x) = false := by
  refine ⟨by unfold iv; rw [List.getElem?_map, e]; rfl, fun m z' mj ez => ?_⟩
  unfold iv at ez
  rw [List.getElem?_map] at ez
  obtain ⟨jl, ej⟩ := List.getElem?_eq_some_iff.mp e
  rw [List.getElem?_eq_getElem (by omega)] at ez
  cases ez
  have := List.pairwise_iff_getElem.mp asc m j (by omega) jl mj
  rw [ej] at this
  have ne : ¬ L[m] = x := by omega
  simp [eqV, ne]
theorem perm_two {x y : Int} {M : List Int} (p : M.Perm [x, y]) (s : M.Pairwise (· ≤ ·)) : ∃ u v, M = [u, v] ∧ u ≤ v ∧ (∀ P : Int → Prop, P x → P y → P u ∧ P v) := by
  have l := p.length_eq
  match M, l, p, s with
  | [u, v], _, p, s =>
    have hu := p.mem_iff.mp (List.mem_cons_self (a := u) (l := [v]))
    have hv := p.mem_iff.mp (List.mem_cons_of_mem u (List.mem_cons_self (a := v) (l := [])))
    refine ⟨u, v, rfl, (List.pairwise_cons.mp s).1 v List.mem_cons_self, fun P hx hy => ?_⟩
    simp only [List.mem_cons, List.not_mem_nil, or_false] at hu hv
    refine ⟨?_, ?_⟩
    · rcases hu with rfl | rfl <;> assumption
    · rcases hv with rfl | rfl <;> assumption
abbrev s_law_both : Stmt := topS 42
abbrev N_law_both : List Str := ["depths", "tall", "marks", "pair", "left"]
abbrev P_law_both : List Str := ["depths", "tall", "marks", "pair"]
theorem sc_law_both : FnScope N_law_both P_law_both (defScope s_law_both) := ⟨rfl, rfl, rfl, by decide +kernel, rfl, by decide +kernel, by decide +kernel⟩
theorem ix_uniq {L : List Int} (asc : L.Pairwise (· < ·)) {a b : Nat} {x : Int} (ea : L[a]? = some x) (eb : L[b]? = some x) : a = b := by
  obtain ⟨al, ea⟩ := List.getElem?_eq_some_iff.mp ea
  obtain ⟨bl, eb⟩ := List.getElem?_eq_some_iff.mp eb
  rcases Nat.lt_trichotomy a b with c | c | c
  · have := List.pairwise_iff_getElem.mp asc a b al bl c
    omega
  · exact c
  · have := List.pairwise_iff_getElem.mp asc b a bl al c
    omega
theorem RetS.at {Q : VK} {H H' : Hp} {lo hi : Int} (r : RetS Q H lo hi) (s : Same H H') : RetS Q H' lo hi :=
  ⟨fun c H2 s2 => r.1 c H2 (s.trans s2), fun c p H2 hp s2 => r.2 c p H2 (s.free hp) (s.trans s2)⟩
section
variable {P : Program} {w : World} {K : PySem.W.Frag} {mg : Str → Option Value} {base : Heap}
def sp_law_both (K : PySem.W.Frag) : Sp := fun vs H Q _ => ∃ (a b c : Addr) (ns F : List Int) (hh : Int) (x y : Nat), vs = [.ref a, .int hh, .ref b, .ref c] ∧ H a = some (.lst (iv ns)) ∧ isO ns = true ∧ H b = some (.lst (iv F)) ∧ ascB (ns.length - 1) 0 F = true ∧ H c = some (.tup [.int (x : Nat), .int (y : Nat)]) ∧ 1 ≤ hh ∧ hh ≤ 400 ∧
  (¬ ((x : Int) ∈ leftL ns F 0 ∧ (y : Int) ∈ leftL ns F 0) → RetV Q H .non) ∧
  ∀ i j : Nat, (leftL ns F 0)[i]? = some (x : Int) → (leftL ns F 0)[j]? = some (y : Int) → RetS Q H (if ((max i j : Nat) : Int) - hh + 1 > 0 then ((max i j : Nat) : Int) - hh + 1 else 0) (stopAt (foldL ns F) (min i j))
theorem ok_law_both (T : Txt mg) (h : At K mg "_law_both" s_law_both)
    (g_lines_left : Has P w K mg base CX0 5 "lines_left" s_lines_left P_lines_left sp_lines_left)
    (g_folded_outline : Has P w K mg base CX0 6 "folded_outline" s_folded_outline P_folded_outline sp_folded_outline)
    (g_scrolls_for_both : Has P w K mg base CX0 5 "scrolls_for_both" s_scrolls_for_both P_scrolls_for_both sp_both) :
    Has P w K mg base CX0 7 "_law_both" s_law_both P_law_both (sp_law_both K) := by
  refine Has.of h sc_law_both (fun vs H Q E h => ?_) (fun _ _ _ _ _ _ us hl => match us, hl with | [_, _, _, _], _ => rfl) (fun f cdv A outer s H vs Q E room qt h => ?_)
  · obtain ⟨a, b, c, ns, F, hh, x, y, rfl, _⟩ := h; rfl
  obtain ⟨a, b, c, ns, F, hh, x, y, rfl, ha, ho, hb, aF, hc, h1, h4, k1, k2⟩ := h
  refine ⟨_, (pss_cons (ps_set (i := 4) sc_law_both.nd rfl (Or.inl rfl) (pe_has g_lines_left (room.mono (by decide)) qt (by rfl) pass0 (pa_cons (pv 0) (pa_cons (pv 2) pa_nil))))
      (pss_cons (ps_if (PW.pt (pw_or (pt_cmpR op_notIn_seq (pe_ix ix_tup (pv 3) pe_int (fun _ _ => rfl)) (pv 4) (by with_unfolding_all rfl)) (pw_or1 (pt_cmpR op_notIn_seq (pe_ix ix_tup (pv 3) pe_int (fun _ _ => rfl)) (pv 4) (by with_unfolding_all rfl)))))
        (pss_one (ps_ret pe_non))
        pss_nil)
      (pss_one (ps_ret (pe_has g_scrolls_for_both (room.mono (by decide)) qt (by rfl) pass0 (pa_cons (pe_has g_folded_outline (room.mono (by decide)) qt (by rfl) pass0 (pa_cons (pv 0) (pa_cons (pv 2) pa_nil))) (pa_cons (pv 1) (pa_cons (pe_bm PySem.F.plainAttrs_list PySem.F.slot_list_index PySem.F.type_list_index mt_index (pv 4) (pa_cons (pe_ix ix_tup (pv 3) pe_int (fun _ _ => rfl)) pa_nil)) (pa_cons (pe_bm PySem.F.plainAttrs_list PySem.F.slot_list_index PySem.F.type_list_index mt_index (pv 4) (pa_cons (pe_ix ix_tup (pv 3) pe_int (fun _ _ => rfl)) pa_nil)) pa_nil))))))))), ?_⟩
  refine ⟨_, rfl, _, rfl, a, b, ns, F, rfl, ha, ho, hb, aF, fun le H1 hle s1 hl => ?_⟩
  have ascL := leftL_asc (ns := ns) (fs := F) _ 0 (Nat.le_refl _)
  have h1c := s1 _ _ hc
  have cx : atI [V.int (x : Nat), .int (y : Nat)] 0 = some (.int (x : Nat)) := rfl
  have cy : atI [V.int (x : Nat), .int (y : Nat)] 1 = some (.int (y : Nat)) := rfl
  refine ⟨_, rfl, c, _, 0, _, rfl, rfl, SqT.of h1c, cx, _, rfl, le, _, rfl, .inl (SqL.of hl), rfl, flat_iv _, _, rfl, ?_⟩
  by_cases mx : (x : Int) ∈ leftL ns F 0
  · refine iteFb (by rw [inV_iv, decide_eq_true mx]; rfl) ?_
    refine ⟨_, rfl, c, _, 1, _, rfl, rfl, SqT.of h1c, cy, _, rfl, le, _, rfl, .inl (SqL.of hl), rfl, flat_iv _, _, rfl, ?_⟩
    by_cases my : (y : Int) ∈ leftL ns F 0
    · refine iteFb (by rw [inV_iv, decide_eq_true my]; rfl) ?_
      obtain ⟨i, ei⟩ := List.getElem?_of_mem mx
      obtain ⟨j, ej⟩ := List.getElem?_of_mem my
      have il := (List.getElem?_eq_some_iff.mp ei).1
      have jl := (List.getElem?_eq_some_iff.mp ej).1
      refine ⟨_, rfl, _, rfl, a, b, ns, F, rfl, s1 _ _ ha, ho, s1 _ _ hb, aF, fun fo H2 hfo s2 hf => ?_⟩
      have s12 := s1.trans s2
      have hl2 := s2 _ _ hl
      have hc2 := s2 _ _ h1c
      obtain ⟨t1, t2⟩ := ix_iv ascL ei
      obtain ⟨o1, o2⟩ := ix_iv ascL ej
      refine ⟨_, rfl, _, rfl, .inl ⟨rfl, _, SqL.of hl2⟩, _, rfl, c, _, 0, _, rfl, rfl, SqT.of hc2, cx, le, _, _, _, _, rfl, rfl, SqL.of hl2, rfl, flat_iv _, t1, eqV_int _, t2, ?_⟩
      refine ⟨_, rfl, .inl ⟨rfl, _, SqL.of hl2⟩, _, rfl, c, _, 1, _, rfl, rfl, SqT.of hc2, cy, le, _, _, _, _, rfl, rfl, SqL.of hl2, rfl, flat_iv _, o1, eqV_int _, o2, ?_⟩
      refine ⟨fo, foldL ns F, hh, i, j, rfl, hf, fold_ok ho, h1, h4, by rw [fold_len]; exact il, by rw [fold_len]; exact jl, ?_⟩
      exact (k2 i j ei ej).at s12
    · exact iteT' (by rw [inV_iv, decide_eq_false my]; rfl) (k1 (fun z => my z.2) _ s1)
  · exact iteT' (by rw [inV_iv, decide_eq_false mx]; rfl) (k1 (fun z => mx z.1) _ s1)
end
end SH

namespace SH
open PySem PySem.Spec PyProof.Rows L2
theorem stop_step {o : List Int} (h : okFrom 0 o = true) {i : Nat} (hi : i + 1 < o.length) : stopAt o i ≤ stopAt o (i + 1) := by
  obtain ⟨a, b, c⟩ := okFrom_at h hi
  have := b i rfl
  unfold stopAt
  omega
theorem stop_mono {o : List Int} (h : okFrom 0 o = true) {i : Nat} : ∀ {j : Nat}, i ≤ j → j < o.length → stopAt o i ≤ stopAt o j
  | 0, ij, _ => by obtain rfl : i = 0 := by omega
                   exact Int.le_refl _
  | j + 1, ij, hj => by
    rcases Nat.lt_or_ge i (j + 1) with q | q
    · exact Int.le_trans (stop_mono h (by omega) (by omega)) (stop_step h hj)
    · obtain rfl : i = j + 1 := by omega
      exact Int.le_refl _
theorem asc_of {g : Int} : ∀ {fs : List Int} {lo : Int}, fs.Pairwise (· < ·) → (∀ v ∈ fs, lo ≤ v ∧ v ≤ g) → ascB g lo fs = true
  | [], _, _, _ => rfl
  | x :: r, lo, p, b => by
    obtain ⟨p1, p2⟩ := List.pairwise_cons.mp p
    have b0 := b x List.mem_cons_self
    simp only [ascB, Bool.and_eq_true, decide_eq_true_eq]
    exact ⟨⟨b0.1, b0.2⟩, asc_of p2 fun v hv => ⟨by have := p1 v hv; omega, (b v (List.mem_cons_of_mem _ hv)).2⟩⟩
def ableL (ns : List Int) (f t : Nat) : List Int := ((List.range (t - f)).filter (fun i => !(decide (((f + i : Nat) : Int) ∈ headsOf ns t)))).map (fun i => ((f + i : Nat) : Int))
theorem gives_able (ns : List Int) (f t : Nat) : gives (t - f) (fun i => !(decide (((f + i : Nat) : Int) ∈ headsOf ns t))) (fun i => V.int ((f + i : Nat) : Int)) = iv (ableL ns f t) := by
  unfold gives ableL iv
  rw [List.map_map]
  rfl
theorem able_mem {ns : List Int} (h : okFrom 0 ns = true) {f t : Nat} (tl : t < ns.length) (x : Int) : x ∈ ableL ns f t ↔ ∃ v : Nat, x = v ∧ f ≤ v ∧ v < t ∧ endF ns v < t := by
  unfold ableL
  rw [List.mem_map]
  constructor
  · rintro ⟨i, hi, rfl⟩
    obtain ⟨a, b⟩ := List.mem_filter.mp hi
    have a := List.mem_range.mp a
    refine ⟨f + i, rfl, by omega, by omega, ?_⟩
    have b' : ¬ (((f + i : Nat) : Int) ∈ headsOf ns t) := by simpa using b
    rw [in_sec h tl] at b'
    omega
  · rintro ⟨v, rfl, a, b, c⟩
    refine ⟨v - f, List.mem_filter.mpr ⟨List.mem_range.mpr (by omega), ?_⟩, by omega⟩
    rw [show f + (v - f) = v by omega]
    have : ¬ ((v : Int) ∈ headsOf ns t) := by rw [in_sec h tl]; omega
    simpa using this
theorem able_asc (ns : List Int) (f t : Nat) : (ableL ns f t).Pairwise (· < ·) := by
  unfold ableL
  rw [List.pairwise_map]
  exact (List.pairwise_lt_range.filter _).imp fun h => by omega
theorem able_len (ns : List Int) (f t : Nat) : (ableL ns f t).length ≤ t - f := by
  unfold ableL
  rw [List.length_map]
  have := List.length_filter_le (fun i => !(decide (((f + i : Nat) : Int) ∈ headsOf ns t))) (List.range (t - f))
  rwa [List.length_range] at this
def ShownP (ns F : List Int) (hh : Int) (f t : Nat) : Prop := (f : Int) ∈ leftL ns F 0 ∧ (t : Int) ∈ leftL ns F 0 ∧ ∀ a b : Nat, (leftL ns F 0)[a]? = some (f : Int) → (leftL ns F 0)[b]? = some (t : Int) → (b : Int) - a + ns.getD f 0 < hh
/-- the folds that are told do show both lines -/
theorem shw_shown {ns : List Int} (h : okFrom 0 ns = true) {hh : Int} {f t : Nat} (ft : f ≤ t) (tl : t < ns.length) {F : List Int} (e : shwR ns hh f t = some F) : ShownP ns F hh f t := by
  obtain ⟨dz, asc, rng, lF, B, A, eL, lB, ⟨A', eA⟩, few⟩ := shw_some h ft tl e
  have ascL := leftL_asc (ns := ns) (fs := F) _ 0 (Nat.le_refl _)
  have gt : (leftL ns F 0)[f + A.length]? = some ((t : Nat) : Int) := by
    rw [eL, List.getElem?_append_right (by omega), List.getElem?_append_right (by omega), show f + A.length - B.length - A.length = 0 by omega, leftL_go tl]
    rfl
  have gf : (leftL ns F 0)[f]? = some ((f : Nat) : Int) := by
    rw [eL, eA, List.getElem?_append_right (by omega), show f - B.length = 0 by omega]
    rfl
  refine ⟨List.mem_of_getElem? gf, List.mem_of_getElem? gt, fun a b ea eb => ?_⟩
  rw [ix_uniq ascL ea gf, ix_uniq ascL eb gt]
  omega
theorem shown_due {ns : List Int} (h : okFrom 0 ns = true) {hh : Int} {f t : Nat} (ft : f ≤ t) (tl : t < ns.length) {M : List Int} (s : ShownP ns M hh f t) : ∃ F, shwR ns hh f t = some F ∧ F.length ≤ M.length := by
  obtain ⟨m, e, lm⟩ := due_le h ft tl s.1 s.2.1 s.2.2
  cases q : shwR ns hh f t with
  | none => rw [shw_none q] at e; cases e
  | some F =>
    have := (shw_some h ft tl q).1
    rw [e] at this
    have : m = F.length := by injection this
    exact ⟨F, rfl, by omega⟩
theorem headsL_length {ns : List Int} (h : okFrom 0 ns = true) : ∀ {k : Nat} {w : Int}, k ≤ ns.length → -1 ≤ w → (k = 0 → w = -1) → (∀ j, k = j + 1 → w ≤ ns.getD j 0) →
    ((headsL ns k w).length : Int) = w + 1
  | 0, w, _, _, h0, _ => by
    rw [h0 rfl]
    rfl
  | k + 1, w, hk, hw, _, hj => by
    obtain ⟨a, b, c⟩ := okFrom_at h (i := k) (by omega)
    have q := hj k rfl
    unfold headsL
    by_cases e : ns.getD k 0 = w
    · rw [if_pos e, List.length_append]
      have := headsL_length h (k := k) (w := w - 1) (by omega) (by omega) (fun z => by have := c z; omega) (fun j ej => by have := b j ej; omega)
      show (((headsL ns k (w - 1)).length + 1 : Nat) : Int) = w + 1
      omega
    · rw [if_neg e]
      exact headsL_length h (k := k) (w := w) (by omega) (by omega) (fun z => by have := c z; omega) (fun j ej => by have := b j ej; omega)
theorem headsOf_length {ns : List Int} (h : okFrom 0 ns = true) {i : Nat} (hi : i < ns.length) : ((headsOf ns i).length : Int) = ns.getD i 0 := by
  obtain ⟨a, b, c⟩ := okFrom_at h hi
  have := headsL_length h (k := i) (w := ns.getD i 0 - 1) (by omega) (by omega) (fun z => by have := c z; omega) (fun j ej => by have := b j ej; omega)
  unfold headsOf
  omega
theorem miss_le {ns : List Int} {s : Int} {t : Nat} (h : okFrom 0 ns = true) (it : IsTop ns s t) (h0 : 0 < stopAt ns t - s) (s0 : 0 ≤ s) : 1 ≤ t ∧ stopAt ns t - s ≤ (headsOf ns (t - 1)).length := by
  have ht := it.1
  have t1 : 1 ≤ t := by
    rcases Nat.eq_zero_or_pos t with q | q
    · subst q
      have := (stopAt_nn h ht).2
      omega
    · exact q
  refine ⟨t1, ?_⟩
  rw [headsOf_length h (by omega)]
  have := it.2.2 (t - 1) (by omega)
  have a := (okFrom_at h ht).1
  unfold stopAt at this ⊢
  omega
theorem mem_cutI {l : List Int} {lo hi : Option Int} {v : Int} (h : v ∈ cutI l lo hi) : v ∈ l := List.mem_of_mem_drop (List.mem_of_mem_take h)
theorem cutI_last (l : List Int) {m : Int} (h0 : 0 < m) (h1 : m ≤ l.length) : ((cutI l (some (-m)) none).length : Int) = m := by
  unfold cutI HT.sIx
  simp only
  rw [if_pos (by omega), List.length_take, List.length_drop]
  omega
theorem above_len {ns : List Int} {s : Int} {t : Nat} (h : okFrom 0 ns = true) (it : IsTop ns s t) (s0 : 0 ≤ s) : ((headsOf ns t ++ pushedL ns t s).length : Int) = t - s := by
  have a := headsOf_length h it.1
  have b := it.2.1
  rw [List.length_append]
  unfold pushedL
  by_cases e : stopAt ns t - s = 0
  · rw [if_pos e]
    unfold stopAt at e
    show (((headsOf ns t).length + 0 : Nat) : Int) = t - s
    omega
  · rw [if_neg e]
    obtain ⟨t1, ml⟩ := miss_le h it (by omega) s0
    have c := cutI_last (headsOf ns (t - 1)) (m := stopAt ns t - s) (by omega) ml
    unfold stopAt at c ⊢
    omega
theorem rows_at {ns : List Int} {s : Int} {t a : Nat} (h : okFrom 0 ns = true) (it : IsTop ns s t) (s0 : 0 ≤ s) (ta : t ≤ a) (ha : a < ns.length) : (rowsL ns s t)[((a : Int) - s).toNat]? = some (a : Int) := by
  have al := above_len h it s0
  unfold rowsL
  rw [List.getElem?_append_right (by omega)]
  unfold rg2
  rw [List.getElem?_map, List.getElem?_range (by omega)]
  show some ((t : Int) + _) = _
  congr 1
  omega
abbrev s_law_pair_right : Stmt := topS 43
abbrev N_law_pair_right : List Str := ["bag", "depths", "tall", "pair", "marks", "after", "able", "both", "left", "rows", "spot", "one"]
abbrev P_law_pair_right : List Str := ["bag", "depths", "tall", "pair"]
theorem sc_law_pair_right : FnScope N_law_pair_right P_law_pair_right (defScope s_law_pair_right) := ⟨rfl, rfl, rfl, by decide +kernel, rfl, by decide +kernel, by decide +kernel⟩
/-- the lines as they lie in what is left -/
theorem few_of {ns M : List Int} {hh : Int} {x y i j f t : Nat} (emn : min x y = f) (emx : max x y = t) (ei : (leftL ns M 0)[i]? = some (x : Int)) (ej : (leftL ns M 0)[j]? = some (y : Int)) :
    (leftL ns M 0)[min i j]? = some (f : Int) ∧ (leftL ns M 0)[max i j]? = some (t : Int) ∧
    ((if ((max i j : Nat) : Int) - hh + 1 > 0 then ((max i j : Nat) : Int) - hh + 1 else 0) ≤ stopAt (foldL ns M) (min i j) → ∀ a b : Nat, (leftL ns M 0)[a]? = some (f : Int) → (leftL ns M 0)[b]? = some (t : Int) → (b : Int) - a + ns.getD f 0 < hh) := by
  have asc := leftL_asc (ns := ns) (fs := M) _ 0 (Nat.le_refl _)
  have key : (leftL ns M 0)[min i j]? = some (f : Int) ∧ (leftL ns M 0)[max i j]? = some (t : Int) := by
    have l1 := left_ix_lt ei ej
    have l2 := left_ix_lt ej ei
    rcases Nat.lt_or_ge i j with c | c
    · have := l1.mp c
      rw [Nat.min_eq_left (by omega), Nat.max_eq_right (by omega), ← emn, ← emx, Nat.min_eq_left (by omega), Nat.max_eq_right (by omega)]
      exact ⟨ei, ej⟩
    · have : y ≤ x := by
        rcases Nat.lt_or_ge x y with d | d
        · have := l1.mpr d; omega
        · exact d
      rw [Nat.min_eq_right c, Nat.max_eq_left c, ← emn, ← emx, Nat.min_eq_right this, Nat.max_eq_left this]
      exact ⟨ej, ei⟩
  refine ⟨key.1, key.2, fun c a b ea eb => ?_⟩
  rw [ix_uniq asc ea key.1, ix_uniq asc eb key.2]
  unfold stopAt at c
  rw [fold_at key.1] at c
  split at c <;> omega
theorem gives_but (F : List Int) (z : Int) : gives F.length (fun i => !decide (F.getD i 0 = z)) (fun i => V.int (F.getD i 0)) = iv (F.filter (fun v => !decide (v = z))) := by
  have e : F = (List.range F.length).map (fun i => F.getD i 0) := by
    refine List.ext_getElem (by rw [List.length_map, List.length_range]) fun i h1 h2 => ?_
    rw [List.getElem_map, List.getElem_range, List.getD_eq_getElem?_getD, List.getElem?_eq_getElem h1]
    rfl
  unfold gives iv
  conv => rhs; rw [e]
  rw [List.filter_map, List.map_map]
  rfl
theorem left_nil {ns : List Int} : ∀ (k i : Nat), i + k < ns.length → (leftL ns [] i)[k]? = some ((i + k : Nat) : Int)
  | 0, i, h => by rw [leftL_go (by omega)]; rfl
  | k + 1, i, h => by
    rw [leftL_go (by omega), List.getElem?_cons_succ, show nextL ns [] i = i + 1 by unfold nextL; rw [if_neg List.not_mem_nil], left_nil k (i + 1) (by omega)]
    congr 2
    omega
theorem RetS.of {Q : VK} {H : Hp} {lo hi : Int} (h : ∀ v H', Same H H' → (!decide (v = V.non)) = decide (lo ≤ hi) → Q v H') : RetS Q H lo hi :=
  ⟨fun c H' s => h _ H' s (by rw [decide_eq_true rfl, decide_eq_false (by omega)]; rfl), fun c p H' _ s _ => h _ H' s (by rw [decide_eq_false (fun z => nomatch z), decide_eq_true c]; rfl)⟩
theorem due_nil {e : Int} {zs : List Int} {n : Nat} (h : dueZ e zs = some n) : n = 0 ↔ e ≤ 0 := by
  obtain ⟨a, b, c⟩ := due_some h
  constructor
  · rintro rfl
    simpa using b
  · intro q
    rcases Nat.eq_zero_or_pos n with z | z
    · exact z
    · have := c 0 z
      rw [List.take_zero, List.sum_nil] at this
      omega
section
variable {P : Program} {w : World} {K : PySem.W.Frag} {mg : Str → Option Value} {base : Heap}
def sp_law_pair_right : Sp := fun vs H Q _ => ∃ (g a c : Addr) (ns : List Int) (hh n : Int) (x y : Nat), vs = [.ref g, .ref a, .int hh, .ref c] ∧ SrcV n H g ∧ n ≤ 900000000 ∧ a ≠ g ∧ H a = some (.lst (iv ns)) ∧ isO ns = true ∧ H c = some (.tup [.int (x : Nat), .int (y : Nat)]) ∧ c ≠ g ∧ 1 ≤ hh ∧ hh ≤ 400 ∧ x < ns.length ∧ y < ns.length ∧
  ∀ H', SameBut g H H' → SrcV (n + 10) H' g → Q (.bl true) H'
theorem ok_law_pair_right (T : Txt mg) (h : At K mg "_law_pair_right" s_law_pair_right)
    (g_folds_to_show : Has P w K mg base CX0 5 "folds_to_show" s_folds_to_show P_folds_to_show sp_folds_to_show)
    (g_law_above : Has P w K mg base CX0 1 "_law_above" s_law_above P_law_above (sp_headings_of K))
    (g_law_both : Has P w K mg base CX0 7 "_law_both" s_law_both P_law_both (sp_law_both K))
    (g_lines_left : Has P w K mg base CX0 5 "lines_left" s_lines_left P_lines_left sp_lines_left)
    (g_view : Has P w K mg base CX0 5 "view" s_view P_view sp_view)
    (g_folded_outline : Has P w K mg base CX0 6 "folded_outline" s_folded_outline P_folded_outline sp_folded_outline)
    (g_law_draw : Has P w K mg base CX0 1 "_law_draw" s_law_draw P_law_draw sp_law_draw) :
    Has P w K mg base CX0 8 "_law_pair_right" s_law_pair_right P_law_pair_right sp_law_pair_right := by
  refine Has.of h sc_law_pair_right (fun vs H Q E h => ?_) (fun _ _ _ _ _ _ us hl => match us, hl with | [_, _, _, _], _ => rfl) (fun f cdv Ar outer s H vs Q E room qt h => ?_)
  · obtain ⟨g, a, c, ns, hh, n, x, y, rfl, _⟩ := h; rfl
  obtain ⟨g, a, c, ns, hh, n, x, y, rfl, hg, hn, nag, ha, ho, hc, ncg, h1, h4, xl, yl, k⟩ := h
  obtain ⟨l1, l2, hk⟩ := isO_iff.mp ho
  refine ⟨_, (pss_cons (ps_set (i := 4) sc_law_pair_right.nd rfl (Or.inl rfl) (pe_has g_folds_to_show (room.mono (by decide)) qt (by rfl) pass0 (pa_cons (pv 1) (pa_cons (pv 2) (pa_cons (pe_ix ix_tup (pv 3) pe_int (fun _ _ => rfl)) (pa_cons (pe_ix ix_tup (pv 3) pe_int (fun _ _ => rfl)) pa_nil))))))
      (pss_cons (ps_if (pt_cmpR op_isN (pv 4) pe_non (nomark _))
        (pss_cons (ps_set (i := 5) sc_law_pair_right.nd rfl (Or.inr rfl) (pe_has g_law_above (room.mono (by decide)) qt (by rfl) pass0 (pa_cons (pv 1) (pa_cons (pe_callB (cr_maxT rfl room.units) (by rfl) T.max (by decide +kernel) (pa_cons (pv 3) pa_nil)) pa_nil))))
        (pss_cons (ps_setLc (i := 6) (own := [("spot", 10)]) (by rfl) sc_law_pair_right.nd rfl rfl (sw_true rfl rfl rfl (by decide +kernel)) (pi_range2 (by rfl) T.range (pa_cons (pe_callB (cr_minT rfl room.units) (by rfl) T.min (by decide +kernel) (pa_cons (pv 3) pa_nil)) (pa_cons (pe_callB (cr_maxT rfl room.units) (by rfl) T.max (by decide +kernel) (pa_cons (pv 3) pa_nil)) pa_nil))) (blkOk_by (own := [("spot", 10)]) (N := N_law_pair_right) (sc := defScope s_law_pair_right) (by decide +kernel)) (fun _ _ _ _ _ => (pg_name (i := 10) sc_law_pair_right.nd rfl (Or.inl rfl) (hf := Or.inr rfl))) (fun _ _ _ _ _ => (pts_one (pt_cmpR (show OpR _ _ (rIn K true) from by exact op_notIn_seq) (pv 10) (pv 5) (by with_unfolding_all rfl)))) (fun _ _ _ _ _ => (pv 10)))
        (pss_one (ps_ret (pe_cmpR op_isN (pe_has g_law_both (room.mono (by decide)) qt (by rfl) pass0 (pa_cons (pv 1) (pa_cons (pv 2) (pa_cons (pv 6) (pa_cons (pv 3) pa_nil))))) pe_non (nomark _))))))
        pss_nil)
      (pss_cons (ps_set (i := 7) sc_law_pair_right.nd rfl (Or.inl rfl) (pe_has g_law_both (room.mono (by decide)) qt (by rfl) pass0 (pa_cons (pv 1) (pa_cons (pv 2) (pa_cons (pv 4) (pa_cons (pv 3) pa_nil))))))
      (pss_cons (ps_if (PW.pt (pw_or (pt_cmpR op_isN (pv 7) pe_non (nomark _)) (pw_or1 (pt_cmpR op_ne (pe_cmpR (op_eqD room.units) (pv 4) (pe_lst pa_nil) (nomark _)) (pe_cmpR op_notN (pe_has g_law_both (room.mono (by decide)) qt (by rfl) pass0 (pa_cons (pv 1) (pa_cons (pv 2) (pa_cons (pe_lst pa_nil) (pa_cons (pv 3) pa_nil))))) pe_non (nomark _)) (nomark _)))))
        (pss_one (ps_ret pe_bl))
        pss_nil)
      (pss_cons (ps_set (i := 8) sc_law_pair_right.nd rfl (Or.inr rfl) (pe_has g_lines_left (room.mono (by decide)) qt (by rfl) pass0 (pa_cons (pv 1) (pa_cons (pv 4) pa_nil))))
      (pss_cons (ps_set (i := 9) sc_law_pair_right.nd rfl (Or.inr rfl) (pe_has g_view (room.mono (by decide)) qt (by rfl) pass0 (pa_cons (pe_has g_folded_outline (room.mono (by decide)) qt (by rfl) pass0 (pa_cons (pv 1) (pa_cons (pv 4) pa_nil))) (pa_cons (pv 2) (pa_cons (pe_ix ix_tup (pv 7) (pe_has g_law_draw (room.mono (by decide)) qt (by rfl) pass0 (pa_cons (pv 0) (pa_cons pe_int pa_nil))) (fun _ _ => rfl)) pa_nil)))))
      (pss_cons (ps_if (pt_cmpR (op_neD room.units) (pe_lc (own := [("spot", 10)]) (by rfl) sc_law_pair_right.nd (pi_tup (pv 3)) (blkOk_by (own := [("spot", 10)]) (N := N_law_pair_right) (sc := defScope s_law_pair_right) (by decide +kernel)) (fun _ _ _ _ _ => (pg_name (i := 10) sc_law_pair_right.nd rfl (Or.inl rfl) (hf := Or.inr rfl))) (fun _ _ _ _ _ => (pts_one (pt_cmpR (show OpR _ _ (rIn K true) from by exact op_notIn_seq) (show PE _ _ (tBM K "list" (rIndex K) _ _) from by exact (pe_bm PySem.F.plainAttrs_list PySem.F.slot_list_index PySem.F.type_list_index mt_index (pv 8) (pa_cons (pv 10) pa_nil))) (pv 9) (by with_unfolding_all rfl)))) (fun _ _ _ _ _ => (pv 10))) (pe_lst pa_nil) (nomark _))
        (pss_one (ps_ret pe_bl))
        pss_nil)
      (pss_cons (ps_for PassesOwn.never rfl (pi_list (pe_slice sl_list (pv 4) po_none (po_some pe_int))) (pg_name (i := 10) sc_law_pair_right.nd rfl (Or.inr rfl) (hf := Or.inl rfl))
        (pss_one (ps_if (pt_cmpR op_notN (pe_has g_law_both (room.mono (by decide)) qt (by rfl) pass0 (pa_cons (pv 1) (pa_cons (pv 2) (pa_cons (pe_lc (own := [("one", 11)]) (by rfl) sc_law_pair_right.nd (pi_list (pv 4)) (blkOk_by (own := [("one", 11)]) (N := N_law_pair_right) (sc := defScope s_law_pair_right) (by decide +kernel)) (fun _ _ _ _ _ => (pg_name (i := 11) sc_law_pair_right.nd rfl (Or.inl rfl) (hf := Or.inr rfl))) (fun _ _ _ _ _ => (pts_one (pt_cmpR op_ne (pv 11) (pv 10) (nomark _)))) (fun _ _ _ _ _ => (pv 11))) (pa_cons (pv 3) pa_nil))))) pe_non (nomark _))
          (pss_one (ps_ret pe_bl))
          pss_nil)))
      (pss_one (ps_ret pe_bl)))))))))), ?_⟩
  have cx : atI [V.int (x : Nat), .int (y : Nat)] 0 = some (.int (x : Nat)) := rfl
  have cy : atI [V.int (x : Nat), .int (y : Nat)] 1 = some (.int (y : Nat)) := rfl
  refine ⟨_, rfl, _, rfl, _, rfl, c, _, 0, _, rfl, rfl, SqT.of hc, cx, _, rfl, c, _, 1, _, rfl, rfl, SqT.of hc, cy, a, ns, hh, x, y, rfl, ha, ho, h1, h4, xl, yl, ?_⟩
  obtain ⟨f0, t, emn, emx, ft, tl⟩ : ∃ f t : Nat, min x y = f ∧ max x y = t ∧ f ≤ t ∧ t < ns.length := ⟨_, _, rfl, rfl, by omega, by omega⟩
  have cmax : (if (x : Int) < y then (y : Int) else x) = ((t : Nat) : Int) := by split <;> omega
  have cmin : (if (y : Int) < x then (y : Int) else x) = ((f0 : Nat) : Int) := by split <;> omega
  rw [emn, emx]
  cases eR : shwR ns hh f0 t with
  | none =>
    intro H1 s1
    have hc1 := s1 _ _ hc
    have ha1 := s1 _ _ ha
    refine ⟨_, rfl, rfl, _, rfl, iteT' (by simp) ?_⟩
    refine ⟨_, rfl, _, rfl, c, x, y, rfl, SqT.of hc1, a, ns, t, by rw [cmax]; rfl, SqL.of ha1, tl, by omega, fun q H2 hq s2 h2 => ?_⟩
    have hc2 := s2 _ _ hc1
    refine ⟨_, rfl, c, x, y, rfl, SqT.of hc2, _, rfl, c, x, y, rfl, SqT.of hc2, _, _, rfl, ?_⟩
    rw [cmax, cmin]
    have hl1 : (headsOf ns t).length ≤ 200 := by have := headsL_len ns t (ns.getD t 0 - 1); unfold headsOf; omega
    refine ⟨⟨by omega, by omega, by omega, by omega⟩, fun D hD => ?_⟩
    have en : ((t : Int) - f0).toNat = t - f0 := by omega
    refine lcRn (lo := (f0 : Int)) (n := ((t : Int) - f0).toNat) (fun i => !(decide (((f0 + i : Nat) : Int) ∈ headsOf ns t))) (fun i => V.int ((f0 + i : Nat) : Int)) hD (by omega) (fun x => rfl) ?_ ?_ ?_
    · intro i H3 Q' hi s3 qq
      rw [show (f0 : Int) + (i : Nat) = ((f0 + i : Nat) : Int) by omega]
      refine ⟨_, rfl, _, rfl, q, _, rfl, .inl (SqL.of (s3 _ _ h2)), rfl, flat_iv _, _, rfl, ?_⟩
      show Q' (!(inV (V.int _) (iv _))) H3
      rw [inV_iv]
      exact qq H3 (Same.refl _)
    · intro i H3 Q' hi _ s3 qq
      rw [show (f0 : Int) + (i : Nat) = ((f0 + i : Nat) : Int) by omega]
      exact ⟨_, rfl, qq H3 (Same.refl _)⟩
    intro H3 s3 h3
    rw [en, gives_able] at h3
    have s03 := (s1.trans s2).trans s3
    have aM := fun x => able_mem (f := f0) hk tl x
    have no : ∀ H4, Same H3 H4 → Q (.bl true) H4 := fun H4 s4 => k H4 (SameBut.of (s03.trans s4)) ((hg.same (s03.trans s4)).mono (by omega))
    refine ⟨_, rfl, _, rfl, _, rfl, _, rfl, a, D, c, ns, ableL ns f0 t, hh, x, y, rfl, s03 _ _ ha, ho, h3, asc_of (able_asc ns f0 t) (fun v hv => by
      obtain ⟨w, rfl, _, b2, _⟩ := (aM v).mp hv
      omega), s03 _ _ hc, h1, h4, fun _ H4 s4 => ⟨rfl, by simpa using no H4 s4⟩, fun i j ei ej => ⟨fun _ H4 s4 => ⟨rfl, by simpa using no H4 s4⟩, fun cc => ?_⟩⟩
    exfalso
    obtain ⟨k1, k2, k3⟩ := few_of (hh := hh) emn emx ei ej
    obtain ⟨m, e, _⟩ := due_le hk ft tl (List.mem_of_getElem? k1) (List.mem_of_getElem? k2) (k3 (by omega))
    rw [shw_none eR] at e
    cases e
  | some F =>
    obtain ⟨dz, asc, rng, lF, _⟩ := shw_some hk ft tl eR
    have aF : ascB (ns.length - 1) 0 F = true := asc_of asc fun v hv => by have := rng v hv; omega
    have shp := shw_shown hk ft tl eR
    intro m H1 hm s1 h1
    have hc1 := s1 _ _ hc
    have ha1 := s1 _ _ ha
    refine ⟨_, rfl, rfl, _, rfl, iteFb (by simp) ?_⟩
    obtain ⟨i, ei⟩ := List.getElem?_of_mem (show (x : Int) ∈ leftL ns F 0 by
      rcases Nat.le_total x y with q | q
      · rw [show x = f0 by omega]; exact shp.1
      · rw [show x = t by omega]; exact shp.2.1)
    obtain ⟨j, ej⟩ := List.getElem?_of_mem (show (y : Int) ∈ leftL ns F 0 by
      rcases Nat.le_total x y with q | q
      · rw [show y = t by omega]; exact shp.2.1
      · rw [show y = f0 by omega]; exact shp.1)
    have ascL := leftL_asc (ns := ns) (fs := F) _ 0 (Nat.le_refl _)
    obtain ⟨k1, k2, _⟩ := few_of (hh := hh) emn emx ei ej
    have fo := fold_ok (F := F) ho
    obtain ⟨o1, o2, ok⟩ := isO_iff.mp fo
    have fl := fold_len ns F
    have mil : min i j < (foldL ns F).length := by rw [fl]; exact (List.getElem?_eq_some_iff.mp k1).1
    have mjl : max i j < (foldL ns F).length := by rw [fl]; exact (List.getElem?_eq_some_iff.mp k2).1
    have sf := shp.2.2 _ _ k1 k2
    have es : stopAt (foldL ns F) (min i j) = (min i j : Nat) - ns.getD f0 0 := by unfold stopAt; rw [fold_at k1]
    have snn := stopAt_nn ok mil
    obtain ⟨lo, elo⟩ : ∃ lo : Int, (if ((max i j : Nat) : Int) - hh + 1 > 0 then ((max i j : Nat) : Int) - hh + 1 else 0) = lo := ⟨_, rfl⟩
    have blo : 0 ≤ lo ∧ ((max i j : Nat) : Int) - hh + 1 ≤ lo ∧ lo ≤ stopAt (foldL ns F) (min i j) := by
      rw [← elo]
      split <;> omega
    refine ⟨_, rfl, _, rfl, _, rfl, _, rfl, a, m, c, ns, F, hh, x, y, rfl, ha1, ho, h1, aF, hc1, by assumption, h4, fun z => (z ⟨List.mem_of_getElem? ei, List.mem_of_getElem? ej⟩).elim, fun i' j' ei' ej' => ?_⟩
    cases ix_uniq ascL ei' ei
    cases ix_uniq ascL ej' ej
    rw [elo]
    refine ⟨fun z => by omega, fun _ p H2 hp s2 h2 => ?_⟩
    have s12 := s1.trans s2
    have hc2 := s2 _ _ hc1
    have ha2 := s2 _ _ ha1
    have hm2 := s2 _ _ h1
    refine ⟨_, rfl, rfl, _, rfl, iteFb (by simp) ?_⟩
    refine ⟨_, rfl, (by decide : 0 ≤ sizeLine), fun q1 n1 => eqD_ints (ns := F) (ms := []) (SqL.of (Same.new n1 _ _ hm2)) (SqL.of upd_same) ?_⟩
    have s23 := Same.new (o := .lst []) n1
    generalize upd H2 q1 (.lst []) = H3 at s23 ⊢
    refine ⟨_, rfl, _, rfl, (by decide : 0 ≤ sizeLine), fun q2 n2 => ⟨_, rfl, a, q2, c, ns, [], hh, x, y, rfl, (s23.trans (Same.new n2)) _ _ ha2, ho, upd_same, rfl, (s23.trans (Same.new n2)) _ _ hc2, by assumption, h4, ?_, ?_⟩⟩
    · intro z
      refine (z ⟨?_, ?_⟩).elim
      · have := left_nil (ns := ns) x 0 (by omega)
        rw [Nat.zero_add] at this
        exact List.mem_of_getElem? this
      · have := left_nil (ns := ns) y 0 (by omega)
        rw [Nat.zero_add] at this
        exact List.mem_of_getElem? this
    intro i' j' ei' ej'
    have nf := left_nil (ns := ns) f0 0 (by omega)
    rw [Nat.zero_add] at nf
    have asc0 := leftL_asc (ns := ns) (fs := []) _ 0 (Nat.le_refl _)
    obtain ⟨p1, p2, _⟩ := few_of (hh := hh) emn emx ei' ej'
    have emi := ix_uniq asc0 p1 nf
    have nt := left_nil (ns := ns) t 0 (by omega)
    rw [Nat.zero_add] at nt
    have emj := ix_uniq asc0 p2 nt
    rw [emi, emj]
    have es0 : stopAt (foldL ns []) f0 = (f0 : Nat) - ns.getD f0 0 := by unfold stopAt; rw [fold_at nf]
    have dn := (okFrom_at hk (show f0 < ns.length by omega)).1
    have dl := okFrom_le hk (show f0 < ns.length by omega)
    rw [es0]
    refine RetS.of fun v H4 s4 hv => ?_
    refine ⟨rfl, rfl, _, rfl, iteFb ?_ ?_⟩
    · rw [hv, dec_bl]
      have := due_nil dz
      by_cases z : F = []
      · subst z
        have : decide ((if (t : Int) - hh + 1 > 0 then (t : Int) - hh + 1 else 0) ≤ (f0 : Int) - ns.getD f0 0) = true := decide_eq_true (by have := this.mp rfl; split <;> omega)
        rw [this]
        rfl
      · have : decide ((if (t : Int) - hh + 1 > 0 then (t : Int) - hh + 1 else 0) ≤ (f0 : Int) - ns.getD f0 0) = false := decide_eq_false fun q => z (List.eq_nil_of_length_eq_zero (this.mpr (by split at q <;> omega)))
        rw [this, decide_eq_false z]
        rfl
    have s04 := (s12.trans s23).trans ((Same.new (o := .lst []) n2).trans s4)
    have hc4 := s04 _ _ hc
    have ha4 := s04 _ _ ha
    have hm4 := (s2.trans (s23.trans ((Same.new (o := .lst []) n2).trans s4))) _ _ h1
    refine ⟨_, rfl, _, rfl, a, m, ns, F, rfl, ha4, ho, hm4, aF, fun le H5 hle s5 hl5 => ?_⟩
    refine ⟨_, rfl, _, rfl, a, m, ns, F, rfl, s5 _ _ ha4, ho, s5 _ _ hm4, aF, fun fl' H6 hfl s6 hf6 => ?_⟩
    have s06 := (s04.trans s5).trans s6
    have g6 := hg.same s06
    refine ⟨_, rfl, _, rfl, _, rfl, g, 2, n, rfl, g6, by omega, by decide, by decide, fun d H7 d0 d1 b7 g7 => ?_⟩
    have npg : p ≠ g := ((hg.same s1).ne hp).symm
    have nlg : le ≠ g := ((hg.same s04).ne hle).symm
    have nfg : fl' ≠ g := ((hg.same (s04.trans s5)).ne hfl).symm
    have nmg : m ≠ g := (hg.ne hm).symm
    have hp7 := b7 _ _ (((s23.trans ((Same.new (o := .lst []) n2).trans s4)).trans (s5.trans s6)) _ _ h2) npg
    obtain ⟨sv, esv, sv1, sv2⟩ : ∃ sv : Int, atI [V.int lo, .int (stopAt (foldL ns F) (min i j))] d = some (.int sv) ∧ lo ≤ sv ∧ sv ≤ stopAt (foldL ns F) (min i j) := by
      rcases (show d = 0 ∨ d = 1 by omega) with rfl | rfl
      · exact ⟨lo, rfl, Int.le_refl _, blo.2.2⟩
      · exact ⟨_, rfl, blo.2.2, Int.le_refl _⟩
    obtain ⟨tp, tpi, itp⟩ := top_ex (ns := foldL ns F) (s := sv) (min i j) mil sv2
    have svl : sv ≤ lastStop (foldL ns F) := Int.le_trans sv2 (stop_mono ok (by omega) (by omega))
    refine ⟨p, _, d, _, rfl, rfl, SqT.of hp7, esv, fl', foldL ns F, hh, sv, tp, rfl, b7 _ _ hf6 nfg, fo, by assumption, h4, by omega, svl, itp, fun ro H8 hro s8 h8r => ?_⟩
    have b8 := b7.trans (SameBut.of s8)
    have b08 := (SameBut.of s06).trans b8
    have g8 := g7.same s8
    have hc8 := b08 _ _ hc ncg
    have ha8 := b08 _ _ ha nag
    have hm8 := ((SameBut.of (s2.trans (s23.trans ((Same.new (o := .lst []) n2).trans (s4.trans (s5.trans s6)))))).trans b8) _ _ h1 nmg
    have hl8 := ((SameBut.of s6).trans b8) _ _ hl5 nlg
    have inR : ∀ k : Nat, min i j ≤ k → k ≤ max i j → (k : Int) ∈ viewL (foldL ns F) hh sv tp := fun k ka kb => by
      have at_ := rows_at ok itp (by omega) (show tp ≤ k by omega) (show k < (foldL ns F).length by omega)
      unfold viewL
      refine List.mem_of_getElem? (i := ((k : Int) - sv).toNat) ?_
      rw [List.getElem?_take, if_pos (by omega)]
      exact at_
    refine ⟨_, rfl, c, rfl, ⟨_, SqT.of hc8⟩, fun D hD => lcTn (K := K) (a := c) (xs := [V.int (x : Nat), .int (y : Nat)]) (fun _ => false) (fun _ => V.non) (SqT.of hc8) hD (show 2 < 100000 by decide) (fun x => rfl) ?_ (fun i x H2 Q _ z => by cases z) ?_⟩
    · intro k v H2 Q' hx s2' qq
      have one : ∀ (u ix : Nat), (leftL ns F 0)[ix]? = some (u : Int) → min i j ≤ ix → ix ≤ max i j → tTest (tOp (rIn K true) (tBM K "list" (rIndex K) (tVar 8) (tCons (tVar 10) tNil)) (tVar 9)) (List.set (wipe ((((List.set (L2.start N_law_pair_right [V.ref g, V.ref a, V.int hh, V.ref c]) 4 (some (V.ref m))).set 7 (some (V.ref p))).set 8 (some (V.ref le))).set 9 (some (V.ref ro))) (List.map (fun x => x.snd) [(Str.ofString "spot", 10)])) 10 (some (V.int (u : Nat)))) H2 Q' := fun u ix eu ua ub => by
        obtain ⟨t1, t2⟩ := ix_iv ascL eu
        refine ⟨_, rfl, .inl ⟨rfl, _, SqL.of (s2' _ _ hl8)⟩, _, rfl, le, _, _, _, _, rfl, rfl, SqL.of (s2' _ _ hl8), rfl, flat_iv _, t1, eqV_int _, t2, _, rfl, ro, _, rfl, .inl (SqL.of (s2' _ _ h8r)), rfl, flat_iv _, _, rfl, ?_⟩
        rw [inV_iv, decide_eq_true (inR ix ua ub)]
        exact qq H2 (Same.refl _)
      match k, hx with
      | 0, hx => cases hx; exact one x i ei (by omega) (by omega)
      | 1, hx => cases hx; exact one y j ej (by omega) (by omega)
      | k + 2, hx => cases hx
    intro H9 s9 h9
    have h9' : H9 D = some (.lst (iv [])) := h9
    refine ⟨(by decide : 0 ≤ sizeLine), fun q3 n3 => neD_ints (ns := []) (ms := []) (SqL.of (Same.new n3 _ _ h9')) (SqL.of upd_same) ⟨_, rfl, iteFb (by simp) ?_⟩⟩
    have s9' : Same H8 (upd H9 q3 (.lst [])) := s9.trans (Same.new n3)
    generalize upd H9 q3 (.lst []) = H10 at s9' ⊢
    have hm10 := s9' _ _ hm8
    refine ⟨_, rfl, _, rfl, m, _, rfl, SqL.of hm10, fun u nu => ?_⟩
    rw [cutV_iv]
    have cm : ∀ v ∈ cutI F none (some 12), v ∈ F := fun v hv => mem_cutI hv
    have s11 : Same H8 (upd H10 u (.lst (iv (cutI F none (some 12))))) := s9'.trans (Same.new nu)
    have h11 : (upd H10 u (.lst (iv (cutI F none (some 12))))) u = some (.lst (iv (cutI F none (some 12)))) := upd_same
    generalize upd H10 u (.lst (iv (cutI F none (some 12)))) = H11 at s11 h11 ⊢
    generalize cutI F none (some 12) = C at cm h11 ⊢
    refine ⟨u, rfl, ⟨_, SqL.of h11⟩, for_list (K := K) (a := u) (xs := iv C) (fun _ σ H' => (∃ v5 v6 v10 v11, σ = [some (.ref g), some (.ref a), some (.int hh), some (.ref c), some (.ref m), v5, v6, some (.ref p), some (.ref le), some (.ref ro), v10, v11]) ∧ Same H11 H') ⟨⟨_, _, _, _, rfl⟩, Same.refl _⟩ (fun _ σ H' _ e => SqL.of (e.2 _ _ h11)) ?_ ?_⟩
    rotate_left
    · rintro σ H' ⟨_, s'⟩
      exact k H' (b08.trans (SameBut.of (s11.trans s'))) ((g8.same (s11.trans s')).mono (by omega))
    rintro z v σ H12 hz ⟨⟨v5, v6, v10, v11, rfl⟩, s12'⟩
    have zl : z < C.length := by have := (List.getElem?_eq_some_iff.mp hz).1; rwa [List.length_map] at this
    rw [iv_at zl] at hz
    cases hz
    have zF : C.getD z 0 ∈ F := cm _ (by rw [List.getD_eq_getElem?_getD, List.getElem?_eq_getElem zl]; exact List.getElem_mem zl)
    generalize C.getD z 0 = zz at zF ⊢
    have s8c := s11.trans s12'
    have hm12 := s8c _ _ hm8
    refine ⟨_, rfl, _, rfl, _, rfl, m, rfl, ⟨_, SqL.of hm12⟩, fun D2 hD2 => lcLn (K := K) (a := m) (xs := iv F) (fun i => !decide (F.getD i 0 = zz)) (fun i => V.int (F.getD i 0)) (SqL.of hm12) hD2 (by rw [List.length_map]; omega) (fun x => rfl) ?_ ?_ ?_⟩
    · intro q w Hq Q' hx sq qq
      have ql : q < F.length := by have := (List.getElem?_eq_some_iff.mp hx).1; rwa [List.length_map] at this
      rw [iv_at ql] at hx
      cases hx
      exact ⟨_, rfl, _, rfl, rfl, _, rfl, by rw [show decide (V.int (F.getD q 0) = V.int zz) = decide (F.getD q 0 = zz) by by_cases z : F.getD q 0 = zz <;> simp [z]]; exact qq Hq (Same.refl _)⟩
    · intro q w Hq Q' hx _ sq qq
      have ql : q < F.length := by have := (List.getElem?_eq_some_iff.mp hx).1; rwa [List.length_map] at this
      rw [iv_at ql] at hx
      cases hx
      exact ⟨_, rfl, qq Hq (Same.refl _)⟩
    intro H13 s13 h13
    rw [List.length_map, gives_but] at h13
    have s8d := s8c.trans s13
    have Ml : (F.filter (fun v => !decide (v = zz))).length < F.length := List.length_filter_lt_length_iff_exists.mpr ⟨zz, zF, by simp⟩
    have Mm : ∀ v ∈ F.filter (fun v => !decide (v = zz)), v ∈ F := fun v hv => (List.mem_filter.mp hv).1
    have aM := asc.filter (fun v => !decide (v = zz))
    generalize F.filter (fun v => !decide (v = zz)) = M at h13 Ml Mm aM
    have not : ¬ ShownP ns M hh f0 t := fun sh => by
      obtain ⟨G, eG, lG⟩ := shown_due hk ft tl sh
      rw [eR] at eG
      cases eG
      omega
    refine ⟨_, rfl, a, D2, c, ns, M, hh, x, y, rfl, s8d _ _ ha8, ho, h13, asc_of aM (fun v hv => by have := rng v (Mm v hv); omega), s8d _ _ hc8, by assumption, h4, fun _ H14 s14 => ⟨rfl, _, rfl, iteFb (by simp) ⟨⟨_, _, _, _, rfl⟩, (s12'.trans s13).trans s14⟩⟩, fun i' j' ei' ej' => ⟨fun _ H14 s14 => ⟨rfl, _, rfl, iteFb (by simp) ⟨⟨_, _, _, _, rfl⟩, (s12'.trans s13).trans s14⟩⟩, fun cc => ?_⟩⟩
    obtain ⟨p1, p2, p3⟩ := few_of (hh := hh) emn emx ei' ej'
    exact (not ⟨List.mem_of_getElem? p1, List.mem_of_getElem? p2, p3 cc⟩).elim
end
end SH

namespace SH
open PySem PySem.Spec PyProof.Rows L2
abbrev s_law_right : Stmt := topS 44
abbrev N_law_right : List Str := ["script", "bag", "depths", "turn", "pair", "tall"]
abbrev P_law_right : List Str := ["script", "bag"]
theorem sc_law_right : FnScope N_law_right P_law_right (defScope s_law_right) := ⟨rfl, rfl, rfl, by decide +kernel, rfl, by decide +kernel, by decide +kernel⟩
section
variable {P : Program} {w : World} {K : PySem.W.Frag} {mg : Str → Option Value} {base : Heap}
def sp_law_right (K : PySem.W.Frag) : Sp := fun vs H Q _ => ∃ (b g : Addr) (n : Int) (sc : List Int), vs = [.ref b, .ref g] ∧ SqL K H b (iv sc) ∧ Still g H (fun H' => SqL K H' b (iv sc)) ∧ SrcV n H g ∧ n ≤ 1000 ∧ ∀ H', SameBut g H H' → Q (.bl true) H'
theorem ok_law_right (T : Txt mg) (h : At K mg "_law_right" s_law_right)
    (g_law_sized : Has P w K mg base CX0 3 "_law_sized" s_law_sized P_law_sized (sp_law_sized K))
    (g_law_draw : Has P w K mg base CX0 1 "_law_draw" s_law_draw P_law_draw sp_law_draw)
    (g_law_pair_right : Has P w K mg base CX0 8 "_law_pair_right" s_law_pair_right P_law_pair_right sp_law_pair_right) :
    Has P w K mg base CX0 9 "_law_right" s_law_right P_law_right (sp_law_right K) := by
  refine Has.of h sc_law_right (fun vs H Q E h => ?_) (fun _ _ _ _ _ _ us hl => match us, hl with | [_, _], _ => rfl) (fun f cdv Ar outer s H vs Q E room qt h => ?_)
  · obtain ⟨g, a, n, o, rfl, _⟩ := h; rfl
  obtain ⟨b, g, n, sc, rfl, hb, still, hg, hn, k⟩ := h
  refine ⟨_, (pss_cons (ps_set (i := 2) sc_law_right.nd rfl (Or.inl rfl) (pe_has g_law_sized (room.mono (by decide)) qt (by rfl) pass0 (pa_cons (pv 0) (pa_cons (pv 1) (pa_cons pe_int (pa_cons pe_int pa_nil))))))
      (pss_cons (ps_for PassesOwn.never rfl (pi_range1 (by rfl) T.range (pa_cons pe_int pa_nil)) (pg_name (i := 3) sc_law_right.nd rfl (Or.inl rfl) (hf := Or.inl rfl))
        (pss_cons (ps_set (i := 4) sc_law_right.nd rfl (Or.inl rfl) (pe_tup (pa_cons (pe_has g_law_draw (room.mono (by decide)) qt (by rfl) pass0 (pa_cons (pv 1) (pa_cons (pe_callB call_len_seq (by rfl) T.len (by decide +kernel) (pa_cons (pv 2) pa_nil)) pa_nil))) (pa_cons (pe_has g_law_draw (room.mono (by decide)) qt (by rfl) pass0 (pa_cons (pv 1) (pa_cons (pe_callB call_len_seq (by rfl) T.len (by decide +kernel) (pa_cons (pv 2) pa_nil)) pa_nil))) pa_nil))))
        (pss_cons (ps_set (i := 5) sc_law_right.nd rfl (Or.inl rfl) (pe_op op_add pe_int (pe_has g_law_draw (room.mono (by decide)) qt (by rfl) pass0 (pa_cons (pv 1) (pa_cons (pe_ix ix_list (pe_lst (pa_cons pe_int (pa_cons (pe_callB call_len_seq (by rfl) T.len (by decide +kernel) (pa_cons (pv 2) pa_nil)) (pa_cons pe_int pa_nil)))) (pe_has g_law_draw (room.mono (by decide)) qt (by rfl) pass0 (pa_cons (pv 1) (pa_cons pe_int pa_nil))) (fun _ _ => rfl)) pa_nil)))))
        (pss_one (ps_if (pt_not (pt_val (pe_has g_law_pair_right (room.mono (by decide)) qt (by rfl) pass0 (pa_cons (pv 1) (pa_cons (pv 2) (pa_cons (pv 5) (pa_cons (pv 4) pa_nil)))))))
          (pss_one (ps_ret pe_bl))
          pss_nil)))))
      (pss_one (ps_ret pe_bl)))), ?_⟩
  refine ⟨_, rfl, _, rfl, b, g, 30, 200, n, sc, rfl, hb, still, hg, by omega, by decide, by decide, by decide, by decide, fun ns p H1 ho hp b1 g1 h1 => ?_⟩
  obtain ⟨l1, l2, hk⟩ := isO_iff.mp ho
  have el : (iv ns).length = ns.length := List.length_map _
  have npg : p ≠ g := (hg.ne hp).symm
  refine ⟨_, rfl, by decide, by decide, for_range (lo := 0) (n := (4 : Int).toNat) (fun i σ H8 => (∃ v3 v4 v5, σ = [some (.ref b), some (.ref g), some (.ref p), v3, v4, v5]) ∧ SameBut g H H8 ∧ SrcV (n + 2000 + 20 * (i : Nat)) H8 g ∧ H8 p = some (.lst (iv ns)))
    ⟨⟨_, _, _, rfl⟩, b1, g1.mono (by omega), h1⟩ ?_ (fun σ H8 e => k _ e.2.1)⟩
  rintro i σ H3 hi ⟨⟨v3, v4, v5, rfl⟩, b3, g3, h3⟩
  have i4 : i < 4 := hi
  refine ⟨_, rfl, _, rfl, p, _, rfl, .inl (SqL.of h3), g, _, _, rfl, g3, by omega, by omega, by omega, fun d1 H4 x0 x1 b4 g4 => ?_⟩
  have h4 := b4 _ _ h3 npg
  refine ⟨_, rfl, _, rfl, p, _, rfl, .inl (SqL.of h4), g, _, _, rfl, g4, by omega, by omega, by omega, fun d2 H5 y0 y1 b5 g5 => ⟨(by decide : 2 ≤ sizeLine), fun c nc => ?_⟩⟩
  rw [el] at x1 y1
  obtain ⟨x, rfl⟩ : ∃ f : Nat, d1 = f := ⟨d1.toNat, by omega⟩
  obtain ⟨y, rfl⟩ : ∃ f : Nat, d2 = f := ⟨d2.toNat, by omega⟩
  have b35 := b4.trans b5
  have h5 := b35 _ _ h3 npg
  have s56 := Same.new (o := .tup [V.int (x : Nat), .int (y : Nat)]) nc
  have h6c := upd_same (H := H5) (a := c) (o := .tup [V.int (x : Nat), .int (y : Nat)])
  have ncg : c ≠ g := (g5.ne nc).symm
  have g6 := g5.same s56
  have b6 := (b3.trans b35).trans (SameBut.of s56)
  have h6 := s56 _ _ h5
  refine ⟨_, rfl, _, rfl, p, _, rfl, .inl (SqL.of h6), (by decide : 3 ≤ sizeLine), fun u nu => ?_⟩
  refine ⟨_, rfl, g, 3, _, rfl, g6.new nu, by omega, by decide, by decide, fun j H7 j0 j1 b7 g7 => ?_⟩
  have nug : u ≠ g := (g6.ne nu).symm
  have b67 := (SameBut.of (Same.new (o := .lst [.int 4, .int (iv ns).length, .int 400]) nu)).trans b7
  have h7 := b67 _ _ h6 npg
  have h7c := b67 _ _ h6c ncg
  obtain ⟨lim, elim, lim1, lim2⟩ : ∃ lim : Int, atI [V.int 4, .int (iv ns).length, .int 400] j = some (.int lim) ∧ 0 < lim ∧ lim ≤ 400 := by
    rcases (show j = 0 ∨ j = 1 ∨ j = 2 by omega) with rfl | rfl | rfl
    · exact ⟨4, rfl, by decide, by decide⟩
    · exact ⟨_, rfl, by omega, by omega⟩
    · exact ⟨400, rfl, by decide, by decide⟩
  refine ⟨u, _, j, _, rfl, rfl, SqL.of (b7 _ _ upd_same nug), elim, ?_⟩
  refine ⟨g, lim, _, rfl, g7, by omega, lim1, by omega, fun d3 H8 z0 z1 b8 g8 => ⟨_, _, rfl, rfl, ?_⟩⟩
  have h8 := b8 _ _ h7 npg
  have h8c := b8 _ _ h7c ncg
  have b08 := (b6.trans b67).trans b8
  refine ⟨_, rfl, _, rfl, _, rfl, _, rfl, g, p, c, ns, 1 + d3, _, x, y, rfl, g8, by omega, npg, h8, ho, h8c, ncg, by omega, by omega, by omega, by omega, fun H9 b9 g9 => ?_⟩
  refine ⟨_, rfl, iteF ⟨⟨_, _, _, rfl⟩, b08.trans b9, g9.mono (by omega), b9 _ _ h8 npg⟩⟩
end
end SH

namespace SH
open PySem PySem.Spec PyProof.Rows L2
abbrev s_law : Stmt := topS 45
abbrev N_law : List Str := ["script", "k", "cell"]
abbrev P_law : List Str := ["script"]
theorem sc_law : FnScope N_law P_law (defScope s_law) := ⟨rfl, rfl, rfl, by decide +kernel, rfl, by decide +kernel, by decide +kernel⟩
section
variable {P : Program} {w : World} {K : PySem.W.Frag} {mg : Str → Option Value} {base : Heap}
def sp_law (K : PySem.W.Frag) : Sp := fun vs H Q _ => ∃ (a : Addr) (ns : List Int), vs = [.ref a] ∧ SqL K H a (iv ns) ∧ ns.length ≤ 63 ∧ ∀ H', Q (.bl true) H'
theorem ok_law (T : Txt mg) (h : At K mg "law" s_law)
    (g_law_cells : Has P w K mg base CX0 1 "_law_cells" s_law_cells P_law_cells (sp_law_cells K))
    (g_law_bag : Has P w K mg base CX0 1 "_law_bag" s_law_bag P_law_bag sp_law_bag)
    (g_law_right : Has P w K mg base CX0 9 "_law_right" s_law_right P_law_right (sp_law_right K)) :
    Has P w K mg base CX0 10 "law" s_law P_law (sp_law K) := by
  refine Has.of h sc_law (fun vs H Q E h => ?_) (fun _ _ _ _ _ _ us hl => match us, hl with | [_], _ => rfl) (fun f cdv A outer s H vs Q E room qt h => ?_)
  · obtain ⟨a, ns, rfl, _⟩ := h; rfl
  obtain ⟨a, ns, rfl, ha, hl, k⟩ := h
  refine ⟨_, (pss_cons (ps_for PassesOwn.never rfl (pi_enum (by rfl) T.enumerate (pa_cons (pe_slice sl_list (pe_has g_law_cells (room.mono (by decide)) qt (by rfl) pass0 (pa_cons (pv 0) pa_nil)) po_none (po_some pe_int)) pa_nil)) (pg_tup rfl (pgs_cons (pg_name (i := 1) sc_law.nd rfl (Or.inl rfl) (hf := Or.inl rfl)) (pgs_cons (pg_name (i := 2) sc_law.nd rfl (Or.inl rfl) (hf := Or.inl rfl)) pgs_nil)))
        (pss_one (ps_if (pt_not (pt_val (pe_has g_law_right (room.mono (by decide)) qt (by rfl) pass0 (pa_cons (pv 0) (pa_cons (pe_has g_law_bag (room.mono (by decide)) qt (by rfl) pass0 (pa_cons (pv 2) (pa_cons (pv 1) pa_nil))) pa_nil)))))
          (pss_one (ps_ret pe_bl))
          pss_nil)))
      (pss_one (ps_ret pe_bl))), ?_⟩
  refine ⟨_, rfl, a, ns, rfl, ha, hl, fun ms p H1 lm hp s1 h1 => ?_⟩
  refine ⟨_, rfl, p, _, rfl, SqL.of h1, fun p2 n2 => ?_⟩
  rw [cutV_iv]
  have c1 := cutI_len ms none (some 6)
  have s3 : Same H (upd H1 p2 (.lst (iv (cutI ms none (some 6))))) := s1.trans (Same.new n2)
  have h3 : (upd H1 p2 (.lst (iv (cutI ms none (some 6))))) p2 = some (.lst (iv (cutI ms none (some 6)))) := upd_same
  have lm : (cutI ms none (some 6)).length ≤ 64 := by omega
  generalize upd H1 p2 (.lst (iv (cutI ms none (some 6)))) = H3 at s3 h3 ⊢
  generalize cutI ms none (some 6) = ms at h3 lm ⊢
  refine ⟨p2, _, rfl, SqL.of h3, ?_⟩
  refine for_enum (K := K) (a := p2) (xs := iv ms) (fun i σ H4 => (∃ v1 v2, σ = [some (.ref a), v1, v2]) ∧ Same H3 H4) ⟨⟨_, _, rfl⟩, Same.refl _⟩ (fun i σ H4 _ e => SqL.of (e.2 _ _ h3)) ?_ (fun σ H4 _ => k H4)
  rintro i v Tt σ H4 hi ⟨⟨v1, v2, rfl⟩, s4⟩ hT
  have il : i < ms.length := by have := (List.getElem?_eq_some_iff.mp hi).1; rwa [List.length_map] at this
  rw [iv_at il] at hi
  cases hi
  refine ⟨Tt, _, rfl, SqT.of upd_same, rfl, _, _, rfl, _, _, rfl, rfl, ?_⟩
  refine ⟨_, rfl, _, rfl, _, rfl, _, _, rfl, by omega, by omega, fun g H5 hg s5 g5 => ?_⟩
  have s05 := (s4.trans (Same.new hT)).trans s5
  have hg3 : H3 g = none := (s4.trans (Same.new hT)).free hg
  refine ⟨a, g, 0, ns, rfl, (s3.trans s05).seq ha, fun H' b => (s3.trans (Same.but s05 hg3 b)).seq ha, g5, by decide, fun H6 b6 => ⟨_, rfl, iteF ⟨⟨_, _, rfl⟩, Same.but s05 hg3 b6⟩⟩⟩
end
end SH

namespace SH
open PySem PySem.Spec PyProof.Rows L2
/-! ### the end -/
theorem all_mk {l : PySem.W.OpenLaw} {w : World} {K : PySem.W.Frag} {h : Heap} {mg : Str → Option Value} {fa : Addr} (X : K.In h) (G : h.Ns mainGlobals mg) (hfa : mg "law" = some (.ref fa))
    {f0 f1 f2 f3 f4 f5 f6 f7 f8 f9 f10 f11 f12 f13 f14 f15 f16 f17 f18 f19 f20 f21 f22 f23 f24 f25 f26 f27 f28 f29 f30 f31 : Addr} {od0 an0 od1 an1 od2 an2 od3 an3 od4 an4 od5 an5 od6 an6 od7 an7 od8 an8 od9 an9 od10 an10 od11 an11 od12 an12 od13 an13 od14 an14 od15 an15 od16 an16 od17 an17 od18 an18 od19 an19 od20 an20 od21 an21 od22 an22 od23 an23 od24 an24 od25 an25 od26 an26 od27 an27 od28 an28 od29 an29 od30 an30 od31 an31 : Option Addr} {sl0 sl1 sl2 sl3 sl4 sl5 sl6 sl7 sl8 sl9 sl10 sl11 sl12 sl13 sl14 sl15 sl16 sl17 sl18 sl19 sl20 sl21 sl22 sl23 sl24 sl25 sl26 sl27 sl28 sl29 sl30 sl31 : Array (Option Value)}
    {oc0 kV0 dc0 pm0 cd0 ct0 oc1 kV1 dc1 pm1 cd1 ct1 oc2 kV2 dc2 pm2 cd2 ct2 oc3 kV3 dc3 pm3 cd3 ct3 oc4 kV4 dc4 pm4 cd4 ct4 oc5 kV5 dc5 pm5 cd5 ct5 oc6 kV6 dc6 pm6 cd6 ct6 oc7 kV7 dc7 pm7 cd7 ct7 oc8 kV8 dc8 pm8 cd8 ct8 oc9 kV9 dc9 pm9 cd9 ct9 oc10 kV10 dc10 pm10 cd10 ct10 oc11 kV11 dc11 pm11 cd11 ct11 oc12 kV12 dc12 pm12 cd12 ct12 oc13 kV13 dc13 pm13 cd13 ct13 oc14 kV14 dc14 pm14 cd14 ct14 oc15 kV15 dc15 pm15 cd15 ct15 oc16 kV16 dc16 pm16 cd16 ct16 oc17 kV17 dc17 pm17 cd17 ct17 oc18 kV18 dc18 pm18 cd18 ct18 oc19 kV19 dc19 pm19 cd19 ct19 oc20 kV20 dc20 pm20 cd20 ct20 oc21 kV21 dc21 pm21 cd21 ct21 oc22 kV22 dc22 pm22 cd22 ct22 oc23 kV23 dc23 pm23 cd23 ct23 oc24 kV24 dc24 pm24 cd24 ct24 oc25 kV25 dc25 pm25 cd25 ct25 oc26 kV26 dc26 pm26 cd26 ct26 oc27 kV27 dc27 pm27 cd27 ct27 oc28 kV28 dc28 pm28 cd28 ct28 oc29 kV29 dc29 pm29 cd29 ct29 oc30 kV30 dc30 pm30 cd30 ct30 oc31 kV31 dc31 pm31 cd31 ct31 : Value} {t_MOST_LINES t_MOST_ROWS : Tok}
    (a0 : PySem.W.nsIn K mainGlobals "is_integer_from" = some (some (.ref f0)))
    (l0 : K.lookup f0 = some ⟨oc0, od0, .func (PySem.W.fnOf "is_integer_from" "is_integer_from" (defArgs s_is_integer_from) (defBody s_is_integer_from) (defScope s_is_integer_from) .none kV0 dc0 pm0 an0 cd0 ct0), sl0⟩)
    (c0 : PySem.W.codeIn K cd0 "is_integer_from" = true) (k0 : PySem.W.keepIn K (.ref f0) = true)
    (a1 : PySem.W.nsIn K mainGlobals "is_integer_within" = some (some (.ref f1)))
    (l1 : K.lookup f1 = some ⟨oc1, od1, .func (PySem.W.fnOf "is_integer_within" "is_integer_within" (defArgs s_is_integer_within) (defBody s_is_integer_within) (defScope s_is_integer_within) .none kV1 dc1 pm1 an1 cd1 ct1), sl1⟩)
    (c1 : PySem.W.codeIn K cd1 "is_integer_within" = true) (k1 : PySem.W.keepIn K (.ref f1) = true)
    (a2 : PySem.W.nsIn K mainGlobals "is_outline" = some (some (.ref f2)))
    (l2 : K.lookup f2 = some ⟨oc2, od2, .func (PySem.W.fnOf "is_outline" "is_outline" (defArgs s_is_outline) (defBody s_is_outline) (defScope s_is_outline) .none kV2 dc2 pm2 an2 cd2 ct2), sl2⟩)
    (c2 : PySem.W.codeIn K cd2 "is_outline" = true) (k2 : PySem.W.keepIn K (.ref f2) = true)
    (a3 : PySem.W.nsIn K mainGlobals "check_outline" = some (some (.ref f3)))
    (l3 : K.lookup f3 = some ⟨oc3, od3, .func (PySem.W.fnOf "check_outline" "check_outline" (defArgs s_check_outline) (defBody s_check_outline) (defScope s_check_outline) .none kV3 dc3 pm3 an3 cd3 ct3), sl3⟩)
    (c3 : PySem.W.codeIn K cd3 "check_outline" = true) (k3 : PySem.W.keepIn K (.ref f3) = true)
    (a4 : PySem.W.nsIn K mainGlobals "stop_of" = some (some (.ref f4)))
    (l4 : K.lookup f4 = some ⟨oc4, od4, .func (PySem.W.fnOf "stop_of" "stop_of" (defArgs s_stop_of) (defBody s_stop_of) (defScope s_stop_of) .none kV4 dc4 pm4 an4 cd4 ct4), sl4⟩)
    (c4 : PySem.W.codeIn K cd4 "stop_of" = true) (k4 : PySem.W.keepIn K (.ref f4) = true)
    (a5 : PySem.W.nsIn K mainGlobals "check_height" = some (some (.ref f5)))
    (l5 : K.lookup f5 = some ⟨oc5, od5, .func (PySem.W.fnOf "check_height" "check_height" (defArgs s_check_height) (defBody s_check_height) (defScope s_check_height) .none kV5 dc5 pm5 an5 cd5 ct5), sl5⟩)
    (c5 : PySem.W.codeIn K cd5 "check_height" = true) (k5 : PySem.W.keepIn K (.ref f5) = true)
    (a6 : PySem.W.nsIn K mainGlobals "greatest_scroll" = some (some (.ref f6)))
    (l6 : K.lookup f6 = some ⟨oc6, od6, .func (PySem.W.fnOf "greatest_scroll" "greatest_scroll" (defArgs s_greatest_scroll) (defBody s_greatest_scroll) (defScope s_greatest_scroll) .none kV6 dc6 pm6 an6 cd6 ct6), sl6⟩)
    (c6 : PySem.W.codeIn K cd6 "greatest_scroll" = true) (k6 : PySem.W.keepIn K (.ref f6) = true)
    (a7 : PySem.W.nsIn K mainGlobals "check_scroll" = some (some (.ref f7)))
    (l7 : K.lookup f7 = some ⟨oc7, od7, .func (PySem.W.fnOf "check_scroll" "check_scroll" (defArgs s_check_scroll) (defBody s_check_scroll) (defScope s_check_scroll) .none kV7 dc7 pm7 an7 cd7 ct7), sl7⟩)
    (c7 : PySem.W.codeIn K cd7 "check_scroll" = true) (k7 : PySem.W.keepIn K (.ref f7) = true)
    (a8 : PySem.W.nsIn K mainGlobals "find_top" = some (some (.ref f8)))
    (l8 : K.lookup f8 = some ⟨oc8, od8, .func (PySem.W.fnOf "find_top" "find_top" (defArgs s_find_top) (defBody s_find_top) (defScope s_find_top) .none kV8 dc8 pm8 an8 cd8 ct8), sl8⟩)
    (c8 : PySem.W.codeIn K cd8 "find_top" = true) (k8 : PySem.W.keepIn K (.ref f8) = true)
    (a9 : PySem.W.nsIn K mainGlobals "headings_of" = some (some (.ref f9)))
    (l9 : K.lookup f9 = some ⟨oc9, od9, .func (PySem.W.fnOf "headings_of" "headings_of" (defArgs s_headings_of) (defBody s_headings_of) (defScope s_headings_of) .none kV9 dc9 pm9 an9 cd9 ct9), sl9⟩)
    (c9 : PySem.W.codeIn K cd9 "headings_of" = true) (k9 : PySem.W.keepIn K (.ref f9) = true)
    (a10 : PySem.W.nsIn K mainGlobals "pushed_headings" = some (some (.ref f10)))
    (l10 : K.lookup f10 = some ⟨oc10, od10, .func (PySem.W.fnOf "pushed_headings" "pushed_headings" (defArgs s_pushed_headings) (defBody s_pushed_headings) (defScope s_pushed_headings) .none kV10 dc10 pm10 an10 cd10 ct10), sl10⟩)
    (c10 : PySem.W.codeIn K cd10 "pushed_headings" = true) (k10 : PySem.W.keepIn K (.ref f10) = true)
    (a11 : PySem.W.nsIn K mainGlobals "find_rows" = some (some (.ref f11)))
    (l11 : K.lookup f11 = some ⟨oc11, od11, .func (PySem.W.fnOf "find_rows" "find_rows" (defArgs s_find_rows) (defBody s_find_rows) (defScope s_find_rows) .none kV11 dc11 pm11 an11 cd11 ct11), sl11⟩)
    (c11 : PySem.W.codeIn K cd11 "find_rows" = true) (k11 : PySem.W.keepIn K (.ref f11) = true)
    (a12 : PySem.W.nsIn K mainGlobals "view" = some (some (.ref f12)))
    (l12 : K.lookup f12 = some ⟨oc12, od12, .func (PySem.W.fnOf "view" "view" (defArgs s_view) (defBody s_view) (defScope s_view) .none kV12 dc12 pm12 an12 cd12 ct12), sl12⟩)
    (c12 : PySem.W.codeIn K cd12 "view" = true) (k12 : PySem.W.keepIn K (.ref f12) = true)
    (a13 : PySem.W.nsIn K mainGlobals "check_line" = some (some (.ref f13)))
    (l13 : K.lookup f13 = some ⟨oc13, od13, .func (PySem.W.fnOf "check_line" "check_line" (defArgs s_check_line) (defBody s_check_line) (defScope s_check_line) .none kV13 dc13 pm13 an13 cd13 ct13), sl13⟩)
    (c13 : PySem.W.codeIn K cd13 "check_line" = true) (k13 : PySem.W.keepIn K (.ref f13) = true)
    (a14 : PySem.W.nsIn K mainGlobals "scrolls_for_span" = some (some (.ref f14)))
    (l14 : K.lookup f14 = some ⟨oc14, od14, .func (PySem.W.fnOf "scrolls_for_span" "scrolls_for_span" (defArgs s_scrolls_for_span) (defBody s_scrolls_for_span) (defScope s_scrolls_for_span) .none kV14 dc14 pm14 an14 cd14 ct14), sl14⟩)
    (c14 : PySem.W.codeIn K cd14 "scrolls_for_span" = true) (k14 : PySem.W.keepIn K (.ref f14) = true)
    (a15 : PySem.W.nsIn K mainGlobals "scrolls_for_both" = some (some (.ref f15)))
    (l15 : K.lookup f15 = some ⟨oc15, od15, .func (PySem.W.fnOf "scrolls_for_both" "scrolls_for_both" (defArgs s_scrolls_for_both) (defBody s_scrolls_for_both) (defScope s_scrolls_for_both) .none kV15 dc15 pm15 an15 cd15 ct15), sl15⟩)
    (c15 : PySem.W.codeIn K cd15 "scrolls_for_both" = true) (k15 : PySem.W.keepIn K (.ref f15) = true)
    (a16 : PySem.W.nsIn K mainGlobals "last_of_section" = some (some (.ref f16)))
    (l16 : K.lookup f16 = some ⟨oc16, od16, .func (PySem.W.fnOf "last_of_section" "last_of_section" (defArgs s_last_of_section) (defBody s_last_of_section) (defScope s_last_of_section) .none kV16 dc16 pm16 an16 cd16 ct16), sl16⟩)
    (c16 : PySem.W.codeIn K cd16 "last_of_section" = true) (k16 : PySem.W.keepIn K (.ref f16) = true)
    (a17 : PySem.W.nsIn K mainGlobals "is_ascending_list" = some (some (.ref f17)))
    (l17 : K.lookup f17 = some ⟨oc17, od17, .func (PySem.W.fnOf "is_ascending_list" "is_ascending_list" (defArgs s_is_ascending_list) (defBody s_is_ascending_list) (defScope s_is_ascending_list) .none kV17 dc17 pm17 an17 cd17 ct17), sl17⟩)
    (c17 : PySem.W.codeIn K cd17 "is_ascending_list" = true) (k17 : PySem.W.keepIn K (.ref f17) = true)
    (a18 : PySem.W.nsIn K mainGlobals "lines_left" = some (some (.ref f18)))
    (l18 : K.lookup f18 = some ⟨oc18, od18, .func (PySem.W.fnOf "lines_left" "lines_left" (defArgs s_lines_left) (defBody s_lines_left) (defScope s_lines_left) .none kV18 dc18 pm18 an18 cd18 ct18), sl18⟩)
    (c18 : PySem.W.codeIn K cd18 "lines_left" = true) (k18 : PySem.W.keepIn K (.ref f18) = true)
    (a19 : PySem.W.nsIn K mainGlobals "folded_outline" = some (some (.ref f19)))
    (l19 : K.lookup f19 = some ⟨oc19, od19, .func (PySem.W.fnOf "folded_outline" "folded_outline" (defArgs s_folded_outline) (defBody s_folded_outline) (defScope s_folded_outline) .none kV19 dc19 pm19 an19 cd19 ct19), sl19⟩)
    (c19 : PySem.W.codeIn K cd19 "folded_outline" = true) (k19 : PySem.W.keepIn K (.ref f19) = true)
    (a20 : PySem.W.nsIn K mainGlobals "_law_bag" = some (some (.ref f20)))
    (l20 : K.lookup f20 = some ⟨oc20, od20, .func (PySem.W.fnOf "_law_bag" "_law_bag" (defArgs s_law_bag) (defBody s_law_bag) (defScope s_law_bag) .none kV20 dc20 pm20 an20 cd20 ct20), sl20⟩)
    (c20 : PySem.W.codeIn K cd20 "_law_bag" = true) (k20 : PySem.W.keepIn K (.ref f20) = true)
    (a21 : PySem.W.nsIn K mainGlobals "_law_draw" = some (some (.ref f21)))
    (l21 : K.lookup f21 = some ⟨oc21, od21, .func (PySem.W.fnOf "_law_draw" "_law_draw" (defArgs s_law_draw) (defBody s_law_draw) (defScope s_law_draw) .none kV21 dc21 pm21 an21 cd21 ct21), sl21⟩)
    (c21 : PySem.W.codeIn K cd21 "_law_draw" = true) (k21 : PySem.W.keepIn K (.ref f21) = true)
    (a22 : PySem.W.nsIn K mainGlobals "_law_rising" = some (some (.ref f22)))
    (l22 : K.lookup f22 = some ⟨oc22, od22, .func (PySem.W.fnOf "_law_rising" "_law_rising" (defArgs s_law_rising) (defBody s_law_rising) (defScope s_law_rising) .none kV22 dc22 pm22 an22 cd22 ct22), sl22⟩)
    (c22 : PySem.W.codeIn K cd22 "_law_rising" = true) (k22 : PySem.W.keepIn K (.ref f22) = true)
    (a23 : PySem.W.nsIn K mainGlobals "_law_cells" = some (some (.ref f23)))
    (l23 : K.lookup f23 = some ⟨oc23, od23, .func (PySem.W.fnOf "_law_cells" "_law_cells" (defArgs s_law_cells) (defBody s_law_cells) (defScope s_law_cells) .none kV23 dc23 pm23 an23 cd23 ct23), sl23⟩)
    (c23 : PySem.W.codeIn K cd23 "_law_cells" = true) (k23 : PySem.W.keepIn K (.ref f23) = true)
    (a24 : PySem.W.nsIn K mainGlobals "_law_sized" = some (some (.ref f24)))
    (l24 : K.lookup f24 = some ⟨oc24, od24, .func (PySem.W.fnOf "_law_sized" "_law_sized" (defArgs s_law_sized) (defBody s_law_sized) (defScope s_law_sized) .none kV24 dc24 pm24 an24 cd24 ct24), sl24⟩)
    (c24 : PySem.W.codeIn K cd24 "_law_sized" = true) (k24 : PySem.W.keepIn K (.ref f24) = true)
    (a25 : PySem.W.nsIn K mainGlobals "_law_above" = some (some (.ref f25)))
    (l25 : K.lookup f25 = some ⟨oc25, od25, .func (PySem.W.fnOf "_law_above" "_law_above" (defArgs s_law_above) (defBody s_law_above) (defScope s_law_above) .none kV25 dc25 pm25 an25 cd25 ct25), sl25⟩)
    (c25 : PySem.W.codeIn K cd25 "_law_above" = true) (k25 : PySem.W.keepIn K (.ref f25) = true)
    (a26 : PySem.W.nsIn K mainGlobals "folds_between" = some (some (.ref f26)))
    (l26 : K.lookup f26 = some ⟨oc26, od26, .func (PySem.W.fnOf "folds_between" "folds_between" (defArgs s_folds_between) (defBody s_folds_between) (defScope s_folds_between) .none kV26 dc26 pm26 an26 cd26 ct26), sl26⟩)
    (c26 : PySem.W.codeIn K cd26 "folds_between" = true) (k26 : PySem.W.keepIn K (.ref f26) = true)
    (a27 : PySem.W.nsIn K mainGlobals "folds_to_show" = some (some (.ref f27)))
    (l27 : K.lookup f27 = some ⟨oc27, od27, .func (PySem.W.fnOf "folds_to_show" "folds_to_show" (defArgs s_folds_to_show) (defBody s_folds_to_show) (defScope s_folds_to_show) .none kV27 dc27 pm27 an27 cd27 ct27), sl27⟩)
    (c27 : PySem.W.codeIn K cd27 "folds_to_show" = true) (k27 : PySem.W.keepIn K (.ref f27) = true)
    (a28 : PySem.W.nsIn K mainGlobals "_law_both" = some (some (.ref f28)))
    (l28 : K.lookup f28 = some ⟨oc28, od28, .func (PySem.W.fnOf "_law_both" "_law_both" (defArgs s_law_both) (defBody s_law_both) (defScope s_law_both) .none kV28 dc28 pm28 an28 cd28 ct28), sl28⟩)
    (c28 : PySem.W.codeIn K cd28 "_law_both" = true) (k28 : PySem.W.keepIn K (.ref f28) = true)
    (a29 : PySem.W.nsIn K mainGlobals "_law_pair_right" = some (some (.ref f29)))
    (l29 : K.lookup f29 = some ⟨oc29, od29, .func (PySem.W.fnOf "_law_pair_right" "_law_pair_right" (defArgs s_law_pair_right) (defBody s_law_pair_right) (defScope s_law_pair_right) .none kV29 dc29 pm29 an29 cd29 ct29), sl29⟩)
    (c29 : PySem.W.codeIn K cd29 "_law_pair_right" = true) (k29 : PySem.W.keepIn K (.ref f29) = true)
    (a30 : PySem.W.nsIn K mainGlobals "_law_right" = some (some (.ref f30)))
    (l30 : K.lookup f30 = some ⟨oc30, od30, .func (PySem.W.fnOf "_law_right" "_law_right" (defArgs s_law_right) (defBody s_law_right) (defScope s_law_right) .none kV30 dc30 pm30 an30 cd30 ct30), sl30⟩)
    (c30 : PySem.W.codeIn K cd30 "_law_right" = true) (k30 : PySem.W.keepIn K (.ref f30) = true)
    (a31 : PySem.W.nsIn K mainGlobals "law" = some (some (.ref f31)))
    (l31 : K.lookup f31 = some ⟨oc31, od31, .func (PySem.W.fnOf "law" "law" (defArgs s_law) (defBody s_law) (defScope s_law) .none kV31 dc31 pm31 an31 cd31 ct31), sl31⟩)
    (c31 : PySem.W.codeIn K cd31 "law" = true) (k31 : PySem.W.keepIn K (.ref f31) = true)
    (z_len : PySem.W.nsIn K mainGlobals "len" = some none)
    (z_range : PySem.W.nsIn K mainGlobals "range" = some none)
    (z_repr : PySem.W.nsIn K mainGlobals "repr" = some none)
    (z_min : PySem.W.nsIn K mainGlobals "min" = some none)
    (z_max : PySem.W.nsIn K mainGlobals "max" = some none)
    (z_int : PySem.W.nsIn K mainGlobals "int" = some none)
    (z_list : PySem.W.nsIn K mainGlobals "list" = some none)
    (z_type : PySem.W.nsIn K mainGlobals "type" = some none)
    (z_bool : PySem.W.nsIn K mainGlobals "bool" = some none)
    (z_tuple : PySem.W.nsIn K mainGlobals "tuple" = some none)
    (z_isinstance : PySem.W.nsIn K mainGlobals "isinstance" = some none)
    (z_enumerate : PySem.W.nsIn K mainGlobals "enumerate" = some none)
    (z_str : PySem.W.nsIn K mainGlobals "str" = some none)
    (z_zip : PySem.W.nsIn K mainGlobals "zip" = some none)
    (z_all : PySem.W.nsIn K mainGlobals "all" = some none)
    (z_any : PySem.W.nsIn K mainGlobals "any" = some none)
    (z_sum : PySem.W.nsIn K mainGlobals "sum" = some none)
    (z_abs : PySem.W.nsIn K mainGlobals "abs" = some none)
    (z_sorted : PySem.W.nsIn K mainGlobals "sorted" = some none)
    (z_set : PySem.W.nsIn K mainGlobals "set" = some none)
    (z_dict : PySem.W.nsIn K mainGlobals "dict" = some none)
    (z_reversed : PySem.W.nsIn K mainGlobals "reversed" = some none)
    (z_divmod : PySem.W.nsIn K mainGlobals "divmod" = some none)
    (m_MOST_LINES : PySem.W.nsIn K mainGlobals "MOST_LINES" = some (some (.int 200 t_MOST_LINES)))
    (m_MOST_ROWS : PySem.W.nsIn K mainGlobals "MOST_ROWS" = some (some (.int 400 t_MOST_ROWS)))
    : ∃ fd : FuncData, (∀ (s : Shared) (v : Value), BindsTo s fd ⟨[v], []⟩ [("script", v)]) ∧
      ∀ base : Heap, K.In base → base.Ns mainGlobals mg → FnG l.prog w K mg base CX0 10 fa fd ["script"] (sp_law K) := by
  have T : Txt mg := ⟨PySem.W.mg_none_of X G z_len, PySem.W.mg_none_of X G z_range, PySem.W.mg_none_of X G z_repr, PySem.W.mg_none_of X G z_min, PySem.W.mg_none_of X G z_max, PySem.W.mg_none_of X G z_int, PySem.W.mg_none_of X G z_list, PySem.W.mg_none_of X G z_type, PySem.W.mg_none_of X G z_bool, PySem.W.mg_none_of X G z_tuple, PySem.W.mg_none_of X G z_isinstance, PySem.W.mg_none_of X G z_enumerate, PySem.W.mg_none_of X G z_str, PySem.W.mg_none_of X G z_zip, PySem.W.mg_none_of X G z_all, PySem.W.mg_none_of X G z_any, PySem.W.mg_none_of X G z_sum, PySem.W.mg_none_of X G z_abs, PySem.W.mg_none_of X G z_sorted, PySem.W.mg_none_of X G z_set, PySem.W.mg_none_of X G z_dict, PySem.W.mg_none_of X G z_reversed, PySem.W.mg_none_of X G z_divmod⟩
  have c_MOST_LINES := PySem.W.mg_of X G m_MOST_LINES
  have c_MOST_ROWS := PySem.W.mg_of X G m_MOST_ROWS
  have at_is_integer_from : At K mg "is_integer_from" s_is_integer_from := ⟨f0, _, fun_mk l0 c0 k0, PySem.W.mg_of X G a0⟩
  have at_is_integer_within : At K mg "is_integer_within" s_is_integer_within := ⟨f1, _, fun_mk l1 c1 k1, PySem.W.mg_of X G a1⟩
  have at_is_outline : At K mg "is_outline" s_is_outline := ⟨f2, _, fun_mk l2 c2 k2, PySem.W.mg_of X G a2⟩
  have at_check_outline : At K mg "check_outline" s_check_outline := ⟨f3, _, fun_mk l3 c3 k3, PySem.W.mg_of X G a3⟩
  have at_stop_of : At K mg "stop_of" s_stop_of := ⟨f4, _, fun_mk l4 c4 k4, PySem.W.mg_of X G a4⟩
  have at_check_height : At K mg "check_height" s_check_height := ⟨f5, _, fun_mk l5 c5 k5, PySem.W.mg_of X G a5⟩
  have at_greatest_scroll : At K mg "greatest_scroll" s_greatest_scroll := ⟨f6, _, fun_mk l6 c6 k6, PySem.W.mg_of X G a6⟩
  have at_check_scroll : At K mg "check_scroll" s_check_scroll := ⟨f7, _, fun_mk l7 c7 k7, PySem.W.mg_of X G a7⟩
  have at_find_top : At K mg "find_top" s_find_top := ⟨f8, _, fun_mk l8 c8 k8, PySem.W.mg_of X G a8⟩
  have at_headings_of : At K mg "headings_of" s_headings_of := ⟨f9, _, fun_mk l9 c9 k9, PySem.W.mg_of X G a9⟩
  have at_pushed_headings : At K mg "pushed_headings" s_pushed_headings := ⟨f10, _, fun_mk l10 c10 k10, PySem.W.mg_of X G a10⟩
  have at_find_rows : At K mg "find_rows" s_find_rows := ⟨f11, _, fun_mk l11 c11 k11, PySem.W.mg_of X G a11⟩
  have at_view : At K mg "view" s_view := ⟨f12, _, fun_mk l12 c12 k12, PySem.W.mg_of X G a12⟩
  have at_check_line : At K mg "check_line" s_check_line := ⟨f13, _, fun_mk l13 c13 k13, PySem.W.mg_of X G a13⟩
  have at_scrolls_for_span : At K mg "scrolls_for_span" s_scrolls_for_span := ⟨f14, _, fun_mk l14 c14 k14, PySem.W.mg_of X G a14⟩
  have at_scrolls_for_both : At K mg "scrolls_for_both" s_scrolls_for_both := ⟨f15, _, fun_mk l15 c15 k15, PySem.W.mg_of X G a15⟩
  have at_last_of_section : At K mg "last_of_section" s_last_of_section := ⟨f16, _, fun_mk l16 c16 k16, PySem.W.mg_of X G a16⟩
  have at_is_ascending_list : At K mg "is_ascending_list" s_is_ascending_list := ⟨f17, _, fun_mk l17 c17 k17, PySem.W.mg_of X G a17⟩
  have at_lines_left : At K mg "lines_left" s_lines_left := ⟨f18, _, fun_mk l18 c18 k18, PySem.W.mg_of X G a18⟩
  have at_folded_outline : At K mg "folded_outline" s_folded_outline := ⟨f19, _, fun_mk l19 c19 k19, PySem.W.mg_of X G a19⟩
  have at_law_bag : At K mg "_law_bag" s_law_bag := ⟨f20, _, fun_mk l20 c20 k20, PySem.W.mg_of X G a20⟩
  have at_law_draw : At K mg "_law_draw" s_law_draw := ⟨f21, _, fun_mk l21 c21 k21, PySem.W.mg_of X G a21⟩
  have at_law_rising : At K mg "_law_rising" s_law_rising := ⟨f22, _, fun_mk l22 c22 k22, PySem.W.mg_of X G a22⟩
  have at_law_cells : At K mg "_law_cells" s_law_cells := ⟨f23, _, fun_mk l23 c23 k23, PySem.W.mg_of X G a23⟩
  have at_law_sized : At K mg "_law_sized" s_law_sized := ⟨f24, _, fun_mk l24 c24 k24, PySem.W.mg_of X G a24⟩
  have at_law_above : At K mg "_law_above" s_law_above := ⟨f25, _, fun_mk l25 c25 k25, PySem.W.mg_of X G a25⟩
  have at_folds_between : At K mg "folds_between" s_folds_between := ⟨f26, _, fun_mk l26 c26 k26, PySem.W.mg_of X G a26⟩
  have at_folds_to_show : At K mg "folds_to_show" s_folds_to_show := ⟨f27, _, fun_mk l27 c27 k27, PySem.W.mg_of X G a27⟩
  have at_law_both : At K mg "_law_both" s_law_both := ⟨f28, _, fun_mk l28 c28 k28, PySem.W.mg_of X G a28⟩
  have at_law_pair_right : At K mg "_law_pair_right" s_law_pair_right := ⟨f29, _, fun_mk l29 c29 k29, PySem.W.mg_of X G a29⟩
  have at_law_right : At K mg "_law_right" s_law_right := ⟨f30, _, fun_mk l30 c30 k30, PySem.W.mg_of X G a30⟩
  have at_law : At K mg "law" s_law := ⟨f31, _, fun_mk l31 c31 k31, PySem.W.mg_of X G a31⟩
  refine ⟨PySem.W.fnOf "law" "law" (defArgs s_law) (defBody s_law) (defScope s_law) .none kV31 dc31 pm31 an31 cd31 ct31, fun s v => .of_eq rfl, fun base _ _ => ?_⟩
  have G_is_integer_from := ok_is_integer_from (P := l.prog) (w := w) (base := base) T at_is_integer_from
  have G_is_integer_within := ok_is_integer_within (P := l.prog) (w := w) (base := base) T at_is_integer_within G_is_integer_from
  have G_is_outline := ok_is_outline (P := l.prog) (w := w) (base := base) T c_MOST_LINES at_is_outline G_is_integer_within
  have G_check_outline := ok_check_outline (P := l.prog) (w := w) (base := base) T at_check_outline G_is_outline
  have G_stop_of := ok_stop_of (P := l.prog) (w := w) (base := base) T at_stop_of
  have G_check_height := ok_check_height (P := l.prog) (w := w) (base := base) T c_MOST_ROWS at_check_height G_is_integer_within
  have G_greatest_scroll := ok_greatest_scroll (P := l.prog) (w := w) (base := base) T at_greatest_scroll G_stop_of
  have G_check_scroll := ok_check_scroll (P := l.prog) (w := w) (base := base) T at_check_scroll G_is_integer_within G_greatest_scroll
  have G_find_top := ok_find_top (P := l.prog) (w := w) (base := base) T at_find_top G_stop_of
  have G_headings_of := ok_headings_of (P := l.prog) (w := w) (base := base) T at_headings_of
  have G_pushed_headings := ok_pushed_headings (P := l.prog) (w := w) (base := base) T at_pushed_headings G_stop_of G_headings_of
  have G_find_rows := ok_find_rows (P := l.prog) (w := w) (base := base) T at_find_rows G_find_top G_headings_of G_pushed_headings
  have G_view := ok_view (P := l.prog) (w := w) (base := base) T at_view G_check_outline G_check_height G_check_scroll G_find_rows
  have G_check_line := ok_check_line (P := l.prog) (w := w) (base := base) T at_check_line G_is_integer_within
  have G_scrolls_for_span := ok_scrolls_for_span (P := l.prog) (w := w) (base := base) T at_scrolls_for_span G_stop_of
  have G_scrolls_for_both := ok_scrolls_for_both (P := l.prog) (w := w) (base := base) T at_scrolls_for_both G_check_outline G_check_height G_check_line G_scrolls_for_span
  have G_last_of_section := ok_last_of_section (P := l.prog) (w := w) (base := base) T at_last_of_section
  have G_is_ascending_list := ok_is_ascending_list (P := l.prog) (w := w) (base := base) T at_is_ascending_list G_is_integer_within
  have G_lines_left := ok_lines_left (P := l.prog) (w := w) (base := base) T at_lines_left G_check_outline G_is_ascending_list G_last_of_section
  have G_folded_outline := ok_folded_outline (P := l.prog) (w := w) (base := base) T at_folded_outline G_lines_left
  have G_law_bag := ok_law_bag (P := l.prog) (w := w) (base := base) T at_law_bag
  have G_law_draw := ok_law_draw (P := l.prog) (w := w) (base := base) T at_law_draw
  have G_law_rising := ok_law_rising (P := l.prog) (w := w) (base := base) T at_law_rising G_law_draw
  have G_law_cells := ok_law_cells (P := l.prog) (w := w) (base := base) T at_law_cells
  have G_law_sized := ok_law_sized (P := l.prog) (w := w) (base := base) T at_law_sized G_law_draw G_law_rising
  have G_law_above := ok_law_above (P := l.prog) (w := w) (base := base) T at_law_above
  have G_folds_between := ok_folds_between (P := l.prog) (w := w) (base := base) T at_folds_between G_last_of_section
  have G_folds_to_show := ok_folds_to_show (P := l.prog) (w := w) (base := base) T at_folds_to_show G_check_outline G_check_height G_check_line G_folds_between
  have G_law_both := ok_law_both (P := l.prog) (w := w) (base := base) T at_law_both G_lines_left G_folded_outline G_scrolls_for_both
  have G_law_pair_right := ok_law_pair_right (P := l.prog) (w := w) (base := base) T at_law_pair_right G_folds_to_show G_law_above G_law_both G_lines_left G_view G_folded_outline G_law_draw
  have G_law_right := ok_law_right (P := l.prog) (w := w) (base := base) T at_law_right G_law_sized G_law_draw G_law_pair_right
  obtain ⟨f, fd, F, m, R, _⟩ := ok_law (P := l.prog) (w := w) (base := base) T at_law G_law_cells G_law_bag G_law_right
  have e1 := m.symm.trans hfa
  cases e1
  have e2 := (PySem.W.mg_of X G a31).symm.trans hfa
  cases e2
  obtain ⟨_, _, _, _, _, _, _, _, _, _, lk, _⟩ := F.ex
  rw [l31] at lk
  cases lk
  exact R
theorem walk {l : PySem.W.OpenLaw} {q : Program} {loose : List Str} {XP : (Str → Option Value) → Heap → Prop} {YP : World → Heap → Prop} {d : DefRec} {K : Params → PySem.W.Frag}
    (hn : l.most = some 63) (hdf : d.params.defaults = []) (hY : ∀ (w : World) (h : Heap), YP w h → (K w.params).In h)
    (F : ∀ (w : World) (mg : Str → Option Value) (fa : Addr) (h : Heap), (K w.params).In h → h.Ns mainGlobals mg → mg d.name = some (.ref fa) →
      ∃ fd : FuncData, (∀ (s : Shared) (u : Value), BindsTo s fd ⟨[u], []⟩ [("script", u)]) ∧ ∀ base : Heap, (K w.params).In base → base.Ns mainGlobals mg →
        FnG l.prog w (K w.params) mg base CX0 10 fa fd ["script"] (sp_law (K w.params))) :
    PySem.W.WalkO q loose XP YP l.row.toRowW d [] (fun f vs => PySem.call f vs) :=
  walkG (n := 63) (k := 10) (x := "script") (CX := fun _ => CX0) (sp := fun w => sp_law (K w.params)) hn (by decide) hdf ⟨rfl, by decide, by decide⟩ hY F
    (fun _ _ a ns hl _ hS => ⟨a, ns, rfl, hS, hl, fun _ => rfl⟩) fun _ _ _ _ _ z => z
end SH
open PySem PySem.W PyProof.Rows
set_option maxRecDepth 100000 in
set_option maxHeartbeats 0 in
theorem PySem.Challenge.cw_stickyheads_k46_whole_folds_bring_lines_holds : PySem.Challenge.rw_stickyheads_k46_whole_folds_bring_lines.Holds := by
  w_on; o_law; k_head; (case hw => w_witness2)
  k_fill
  refine SH.walk (l := PySem.Challenge.rw_stickyheads_k46_whole_folds_bring_lines) rfl rfl (fun w h Y => PySem.W.kIn_of Y) ?F
  case F =>
    intro w mg fa h KX G hmg
    refine' SH.all_mk KX G hmg ?a0 ?l0 ?c0 ?k0 ?a1 ?l1 ?c1 ?k1 ?a2 ?l2 ?c2 ?k2 ?a3 ?l3 ?c3 ?k3 ?a4 ?l4 ?c4 ?k4 ?a5 ?l5 ?c5 ?k5 ?a6 ?l6 ?c6 ?k6 ?a7 ?l7 ?c7 ?k7 ?a8 ?l8 ?c8 ?k8 ?a9 ?l9 ?c9 ?k9 ?a10 ?l10 ?c10 ?k10 ?a11 ?l11 ?c11 ?k11 ?a12 ?l12 ?c12 ?k12 ?a13 ?l13 ?c13 ?k13 ?a14 ?l14 ?c14 ?k14 ?a15 ?l15 ?c15 ?k15 ?a16 ?l16 ?c16 ?k16 ?a17 ?l17 ?c17 ?k17 ?a18 ?l18 ?c18 ?k18 ?a19 ?l19 ?c19 ?k19 ?a20 ?l20 ?c20 ?k20 ?a21 ?l21 ?c21 ?k21 ?a22 ?l22 ?c22 ?k22 ?a23 ?l23 ?c23 ?k23 ?a24 ?l24 ?c24 ?k24 ?a25 ?l25 ?c25 ?k25 ?a26 ?l26 ?c26 ?k26 ?a27 ?l27 ?c27 ?k27 ?a28 ?l28 ?c28 ?k28 ?a29 ?l29 ?c29 ?k29 ?a30 ?l30 ?c30 ?k30 ?a31 ?l31 ?c31 ?k31 ?z_len ?z_range ?z_repr ?z_min ?z_max ?z_int ?z_list ?z_type ?z_bool ?z_tuple ?z_isinstance ?z_enumerate ?z_str ?z_zip ?z_all ?z_any ?z_sum ?z_abs ?z_sorted ?z_set ?z_dict ?z_reversed ?z_divmod ?m_MOST_LINES ?m_MOST_ROWS
    (case a0 => k_is); (case l0 => k_is); (case c0 => k_is); (case k0 => k_is); (case a1 => k_is); (case l1 => k_is); (case c1 => k_is); (case k1 => k_is)
    (case a2 => k_is); (case l2 => k_is); (case c2 => k_is); (case k2 => k_is); (case a3 => k_is); (case l3 => k_is); (case c3 => k_is); (case k3 => k_is)
    (case a4 => k_is); (case l4 => k_is); (case c4 => k_is); (case k4 => k_is); (case a5 => k_is); (case l5 => k_is); (case c5 => k_is); (case k5 => k_is)
    (case a6 => k_is); (case l6 => k_is); (case c6 => k_is); (case k6 => k_is); (case a7 => k_is); (case l7 => k_is); (case c7 => k_is); (case k7 => k_is)
    (case a8 => k_is); (case l8 => k_is); (case c8 => k_is); (case k8 => k_is); (case a9 => k_is); (case l9 => k_is); (case c9 => k_is); (case k9 => k_is)
    (case a10 => k_is); (case l10 => k_is); (case c10 => k_is); (case k10 => k_is); (case a11 => k_is); (case l11 => k_is); (case c11 => k_is); (case k11 => k_is)
    (case a12 => k_is); (case l12 => k_is); (case c12 => k_is); (case k12 => k_is); (case a13 => k_is); (case l13 => k_is); (case c13 => k_is); (case k13 => k_is)
    (case a14 => k_is); (case l14 => k_is); (case c14 => k_is); (case k14 => k_is); (case a15 => k_is); (case l15 => k_is); (case c15 => k_is); (case k15 => k_is)
    (case a16 => k_is); (case l16 => k_is); (case c16 => k_is); (case k16 => k_is); (case a17 => k_is); (case l17 => k_is); (case c17 => k_is); (case k17 => k_is)
    (case a18 => k_is); (case l18 => k_is); (case c18 => k_is); (case k18 => k_is); (case a19 => k_is); (case l19 => k_is); (case c19 => k_is); (case k19 => k_is)
    (case a20 => k_is); (case l20 => k_is); (case c20 => k_is); (case k20 => k_is); (case a21 => k_is); (case l21 => k_is); (case c21 => k_is); (case k21 => k_is)
    (case a22 => k_is); (case l22 => k_is); (case c22 => k_is); (case k22 => k_is); (case a23 => k_is); (case l23 => k_is); (case c23 => k_is); (case k23 => k_is)
    (case a24 => k_is); (case l24 => k_is); (case c24 => k_is); (case k24 => k_is); (case a25 => k_is); (case l25 => k_is); (case c25 => k_is); (case k25 => k_is)
    (case a26 => k_is); (case l26 => k_is); (case c26 => k_is); (case k26 => k_is); (case a27 => k_is); (case l27 => k_is); (case c27 => k_is); (case k27 => k_is)
    (case a28 => k_is); (case l28 => k_is); (case c28 => k_is); (case k28 => k_is); (case a29 => k_is); (case l29 => k_is); (case c29 => k_is); (case k29 => k_is)
    (case a30 => k_is); (case l30 => k_is); (case c30 => k_is); (case k30 => k_is); (case a31 => k_is); (case l31 => k_is); (case c31 => k_is); (case k31 => k_is)
    (case z_len => k_is); (case z_range => k_is); (case z_repr => k_is); (case z_min => k_is); (case z_max => k_is); (case z_int => k_is); (case z_list => k_is); (case z_type => k_is)
    (case z_bool => k_is); (case z_tuple => k_is); (case z_isinstance => k_is); (case z_enumerate => k_is); (case z_str => k_is); (case z_zip => k_is); (case z_all => k_is); (case z_any => k_is)
    (case z_sum => k_is); (case z_abs => k_is); (case z_sorted => k_is); (case z_set => k_is); (case z_dict => k_is); (case z_reversed => k_is); (case z_divmod => k_is); (case m_MOST_LINES => k_is)
    (case m_MOST_ROWS => k_is)

