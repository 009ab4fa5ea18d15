import PyProof.Rows.All
import Wide.All
import OpenK.AllK
import Wide.FinOn
import PyProof.EqAt
import PyProof.EqKinds
import PyProof.TupleCall
import PyProof.ReprRoads
import HandS.Base
import HandS.Call
import HandS.List
import HandS.Comp
import HandS.Iter
import HandS.Ends
import HandS.Words
import HandS.WordsList
import PyProof.TypeEq
import PyProof.InstEq
import HandS.IsInst
import HandS.Zip
import HandS.Wide
import HandS.Evl
import HandS.Conv
import HandS.RevRange
import PyProof.ReprLen
import PyProof.Rows.RegStrFacts
import HandS.SetFor
import HandS.Strs
import HandS.SortInts
import PyProof.Rows.SortShellAny
import HandS.Dict
import HandS.Finally
import HandS.Exc
import HandS.TryOnly
import HandS.TryMany
import HandS.ExcOwn
import HandS.CallSlots
import HandS.WordsExc
import HandS.Style
import PySem.Challenge.RW_stickyheads_k55_lists_that_are_no_shorte
set_option Elab.async false
set_option linter.all false
set_option maxRecDepth 100000
/-! SH0: calls where no repr is running: the promise of a def under an empty list of guards. -/
namespace SH
open PySem PySem.Spec PyProof.Rows L2

/-- nothing that guards itself (repr and its like) runs around -/
abbrev Quiet (A : Around) : Prop := A.guards = some []

structure FnG (P : Program) (w : World) (K : PySem.W.Frag) (mg : Str → Option Value) (base : Heap)
    (CX : CXT) (k : Nat) (f : Addr) (fd : FuncData) (ps : List Str) (sp : Sp) : Prop where
  arity : ∀ vs H Q E, sp vs H Q E → vs.length = ps.length
  go : ∀ (A : Around) (outer : List Env) (s : Shared) (H : Hp) (args : Args) (us : List Value) (vs : List V)
    (Q : VK) (E : XK), Room k A → Quiet A → Env0 P w K mg base A outer s H →
    BindsTo s fd args (ps.zip us) → Vals vs us → sp vs H Q E →
    codeAny (model P w) A (.call (.ref f) args) (CR CX outer P w H s Q E) s

section
variable {X : Cx} {CX : CXT} {k : Nat} {f : Addr} {fd : FuncData} {ps ks : List Str} {sp : Sp}
  {dvs : List V} {ds : List Value} {E : XK} {x : Str} {p pos : Pos} {e : Expr} {es : List Expr} {t tk : TA}
  {kws : List Keyword} {g : List Value → List Value → List Value} {gV : List V → List V → List V}

theorem endG {pins : List (Addr × Obj)} {σ : L2.St} {H : Hp} {s : Shared} {Q : VK} (I : Inv X pins σ H s)
    (hx : Passes CX X E) : ∀ (r : Result) (s' : Shared), CR CX X.stack X.prog X.w H s Q E r s' →
    (match r with
      | .ok (.ret u) => EP X pins σ Q u s'
      | .ok _ => False
      | .error e => X.xe e s')
  | .error e, s', q => hx pins σ H s e s' I q
  | .ok (.ret _), _, q => I.after q
  | .ok .next, _, q => False.elim q
  | .ok .brk, _, q => False.elim q
  | .ok .cont, _, q => False.elim q

theorem goG {pins : List (Addr × Obj)} {σ : L2.St} {H : Hp} {s : Shared} {Q : VK} {us : List Value} {vs : List V}
    (F : FnG X.prog X.w X.K X.mg X.base CX k f fd ps sp) (room : Room k X.A) (qt : Quiet X.A)
    (hb : Binds X.K fd ps ds) (hd : Vals dvs ds) (hx : Passes CX X E)
    (I : Inv X pins σ H s) (r : Vals vs us) (h : sp (vs ++ dvs) H Q E) :
    wpAny (model X.prog X.w) X.A (call (.ref f) us) (EP X pins σ Q) X.xe s := by
  have rr : Vals (vs ++ dvs) (us ++ ds) := r.append hd
  have hlen : (us ++ ds).length = ps.length := by rw [← rr.length]; exact F.arity _ _ _ _ h
  refine wpAny_call (codeAny_mono (F.go X.A X.stack s H ⟨us, []⟩ (us ++ ds) (vs ++ dvs) Q E room qt
    I.env0 (hb s us I.kIn hlen) rr h) fun r s' hq => ?_)
  have := endG I hx r s' hq
  cases r with
  | error e => exact this
  | ok fl => cases fl with
    | ret u => exact this
    | _ => exact False.elim this

theorem pe_callG (F : FnG X.prog X.w X.K X.mg X.base CX k f fd ps sp) (room : Room k X.A) (qt : Quiet X.A)
    (hg : Gl X x) (hm : X.mg x = some (.ref f)) (hk : PySem.W.keepIn X.K (.ref f) = true)
    (hb : Binds X.K fd ps ds) (hd : Vals dvs ds) (hx : Passes CX X E) (ha : PA X (e :: es) t)
    (hdb : (x == ("__debug__" : Str)) = false := by decide)
    (he : starEach (e :: es) X.env = (false, eval e X.env) :: starEach es X.env := by rfl)
    (hpl : (backTo pos (starEach es X.env)).any (·.1) = false := by rfl) :
    PE X (.Call (.Name x p) (e :: es) [] pos) (tCall sp dvs E t) :=
  ⟨fun pins s σ H Q I h => wpAny_Call_Name_kw (ld_glob I hg hm
    (PySem.W.callWith_K (h₀ := X.base) I.ok.mod.kin hk
      (thn (ha.run pos pins s σ H _ I h) fun us s1 ⟨vs, H1, I1, r, q⟩ =>
        ⟨I1.kIn, goG F room qt hb hd hx I1 r q⟩) he hpl) hdb)⟩

theorem pe_callG0 (F : FnG X.prog X.w X.K X.mg X.base CX k f fd ps sp) (room : Room k X.A) (qt : Quiet X.A)
    (hg : Gl X x) (hm : X.mg x = some (.ref f)) (hk : PySem.W.keepIn X.K (.ref f) = true)
    (hb : Binds X.K fd ps ds) (hd : Vals dvs ds) (hx : Passes CX X E)
    (hdb : (x == ("__debug__" : Str)) = false := by decide) :
    PE X (.Call (.Name x p) [] [] pos) (tCall sp dvs E tNil) :=
  ⟨fun pins s σ H Q I h => wpAny_Call_Name_kw (ld_glob I hg hm
    (PySem.W.callWith_K0 I.kIn hk (goG (us := []) F room qt hb hd hx I .nil h)) hdb)⟩

theorem goGK {pins : List (Addr × Obj)} {σ : L2.St} {H : Hp} {s : Shared} {Q : VK} {us ws : List Value}
    {vs zs : List V} (F : FnG X.prog X.w X.K X.mg X.base CX k f fd ps sp) (room : Room k X.A) (qt : Quiet X.A)
    (hb : KBinds X.K fd ps ks g gV) (hx : Passes CX X E)
    (I : Inv X pins σ H s) (r : Vals vs us) (rz : Vals zs ws) (h : sp (gV vs zs) H Q E) :
    wpAny (model X.prog X.w) X.A (call (.ref f) us (ks.zip ws)) (EP X pins σ Q) X.xe s := by
  have rr := hb.rel r rz
  have hlen : (g us ws).length = ps.length := by rw [← rr.length]; exact F.arity _ _ _ _ h
  refine wpAny_call (codeAny_mono (F.go X.A X.stack s H ⟨us, ks.zip ws⟩ (g us ws) (gV vs zs) Q E room qt
    I.env0 (hb.to s us ws I.kIn hlen) rr h) fun r s' hq => ?_)
  have := endG I hx r s' hq
  cases r with
  | error e => exact this
  | ok fl => cases fl with
    | ret u => exact this
    | _ => exact False.elim this

/-- f(k = v, ..): no argument by position -/
theorem pe_callGK0 (F : FnG X.prog X.w X.K X.mg X.base CX k f fd ps sp) (room : Room k X.A)
    (qt : Quiet X.A) (hg : Gl X x) (hm : X.mg x = some (.ref f)) (hk : PySem.W.keepIn X.K (.ref f) = true)
    (hb : KBinds X.K fd ps ks g gV) (hx : Passes CX X E) (hkw : PK X kws tk)
    (hall : (backToKw pos (keywordEach kws X.env)).all (·.1.isSome) = true := by rfl)
    (hks : (backToKw pos (keywordEach kws X.env)).filterMap (·.1) = ks := by rfl)
    (hdb : (x == ("__debug__" : Str)) = false := by decide)
    (hpl : ((backTo pos (starEach [] X.env)).any (·.1) ||
      (backToKw pos (keywordEach kws X.env)).any (·.1.isNone)) = false := by rfl) :
    PE X (.Call (.Name x p) [] kws pos) (tCallK sp gV E tNil tk) :=
  ⟨fun pins s σ H Q I h => wpAny_Call_Name_kw (ld_glob I hg hm
    (PySem.W.callWith_KW0 (h₀ := X.base) I.ok.mod.kin hk hall
      (thn (hkw.run pos pins s σ H _ I h) fun ws s2 ⟨zs, H2, I2, rz, q2⟩ => ⟨I2.kIn, by
        rw [hks]
        exact goGK (us := []) (vs := []) F room qt hb hx I2 .nil rz q2⟩) hpl) hdb)⟩
end

/-! ### a def of the text, walked where all is quiet -/
section
variable {P : Program} {w : World} {K : PySem.W.Frag} {mg : Str → Option Value} {base : Heap}

theorem FnG.of {CX : CXT} {x qual : Str} {st : Stmt} {f : Addr} {fd : FuncData} {N ps : List Str} {k : Nat} {sp : Sp}
    (F : Fun K x qual st f fd) (S : FnScope N ps (defScope st)) (len : ∀ vs H Q E, sp vs H Q E → vs.length = ps.length)
    (walk : ∀ (cdv : Value) (A : Around) (outer : List Env) (s : Shared) (H : Hp) (vs : List V) (Q : VK) (E : XK),
      Room k (A.deeper (envOfC qual (defScope st) s.heap.objs.size f cdv)) →
      Quiet (A.deeper (envOfC qual (defScope st) s.heap.objs.size f cdv)) → sp vs H Q E →
      ∃ t, PSs (cxOf CX P w K mg base N qual (defScope st) f cdv A outer s H E) (defBody st) t ∧
        t { nx := fun _ H' => Q .non H', rt := Q } (start N vs) H) :
    FnG P w K mg base CX (k + 1) f fd ps sp := by
  obtain ⟨oc, od, kV, doc, pm, an, cdv, ct, osl, rfl, lk, hcd⟩ := F.ex
  refine ⟨len, fun A outer s H args us vs Q E room qt e0 hb r hsp => ?_⟩
  have hl := len _ _ _ _ hsp
  have inK : K.In s.heap := e0.mod.kin.keeps fun b o e => (e0.bs b o e).1
  have lim : s.heap.NoLimit := e0.mod.nolimit.keeps fun b o e => (e0.bs b o e).1
  have kinds : ∀ y ∈ ps.zip us, (defScope st).names.lookup y.1 = some .local ∨
      ((defScope st).names.lookup y.1 = some .cell ∧
        ((cellsFrom (s.heap.objs.size + 1) (defScope st).names []).lookup y.1).isSome = true) := by
    rintro ⟨n, v⟩ hy
    rcases S.par n (List.of_mem_zip hy).1 with z | z
    · exact .inl z
    · exact .inr ⟨z, PySem.W.cellsFrom_some _ _ _ (.inl z)⟩
  refine codeAny_call_function room.depth (inK _ _ lk) rfl S.co S.gen rfl (PySem.W.codeRec_of inK hcd) (hb _ _ _ _ ?_)
  refine wpAny_newFunctionEnv_cells S.kind kinds fun env he s1 ic => ?_
  subst he
  refine ⟨lim.keeps ic.toInCall.keep, codeAny_func ?_⟩
  obtain ⟨t, ht, hq⟩ := walk cdv A outer s H vs Q E (room.deeper _) (by exact qt) hsp
  have I := inv_start (CX := CX) (E := E) (P := P) (w := w) S room.hd e0 hl r ic
  refine wpAny_mono (ht.run [] s1 (start N vs) H _ I hq) (fun fl s' hs => ?_) fun e s' hs => hs
  cases fl with
  | ret u =>
    obtain ⟨v, σ', H', J, rv, q⟩ := hs
    exact ⟨v, H', J.os, J.bare, J.base, J.hok, rv, q⟩
  | next =>
    obtain ⟨σ', H', J, q⟩ := hs
    exact ⟨V.non, H', J.os, J.bare, J.base, J.hok, rfl, q⟩
  | brk => obtain ⟨_, _, _, q⟩ := hs; exact q.elim
  | cont => obtain ⟨_, _, _, q⟩ := hs; exact q.elim

/-- for a def that lets no error out -/
theorem FnG.ok {x qual : Str} {st : Stmt} {f : Addr} {fd : FuncData} {N ps : List Str} {k : Nat} {sp : Sp}
    (F : Fun K x qual st f fd) (S : FnScope N ps (defScope st)) (len : ∀ vs H Q E, sp vs H Q E → vs.length = ps.length)
    (walk : ∀ (cdv : Value) (A : Around) (outer : List Env) (s : Shared) (H : Hp) (vs : List V) (Q : VK) (E : XK),
      Room k (A.deeper (envOfC qual (defScope st) s.heap.objs.size f cdv)) →
      Quiet (A.deeper (envOfC qual (defScope st) s.heap.objs.size f cdv)) → sp vs H Q E →
      ∃ t, PSs (cxOf CX0 P w K mg base N qual (defScope st) f cdv A outer s H E).nox (defBody st) t ∧
        t { nx := fun _ H' => Q .non H', rt := Q } (start N vs) H) :
    FnG P w K mg base CX0 (k + 1) f fd ps sp :=
  FnG.of F S len fun cdv A outer s H vs Q E room qt hsp =>
    let ⟨t, h, q⟩ := walk cdv A outer s H vs Q E room qt hsp
    ⟨t, h.nox, q⟩
theorem FnG.mono {CX : CXT} {j k : Nat} {f : Addr} {fd : FuncData} {ps : List Str} {sp : Sp}
    (F : FnG P w K mg base CX j f fd ps sp) (h : j ≤ k) : FnG P w K mg base CX k f fd ps sp :=
  ⟨F.arity, fun A outer s H args us vs Q E room => F.go A outer s H args us vs Q E (room.mono h)⟩
end

/-! ### the law's own call: nothing runs around it -/
theorem frz_or {H : Hp} (hO : Only H) {b : Addr} {u : HO} (e : H b = some u) : ∃ o xs, u = .frz o (.lst xs) := by
  rcases hO b with z | ⟨o, xs, z⟩
  · rw [z] at e; cases e
  · rw [z] at e; exact ⟨o, xs, (Option.some.inj e).symm⟩

theorem lawG {P : Program} {w : World} {K : PySem.W.Frag} {mg mb : Str → Option Value} {CX : CXT} {k : Nat}
    {fa a : Addr} {fd : FuncData} {x : Str} {sp : Sp} {s₁ : Shared} {vs : List Value} {ns : List Int}
    (inK : K.In s₁.heap) (hns : s₁.heap.Ns mainGlobals mg) (hb : s₁.heap.Ns builtinsNs mb)
    (hbb : ∀ x : Str, x ≠ "__name__" → mb x = bootBuiltins x) (hlim : s₁.heap.NoLimit) (hg : s₁.gens = #[])
    (ha : s₁.heap.get? a = some { cls := .type "list", data := .seq vs.toArray }) (hi : IntsAre vs ns)
    (hl : ns.length ≤ sizeLine) (room : Room k callerA)
    (F : ∀ base : Heap, K.In base → base.Ns mainGlobals mg → FnG P w K mg base CX k fa fd [x] sp)
    (hbind : ∀ (s : Shared) (u : Value), BindsTo s fd ⟨[u], []⟩ [(x, u)])
    (hsp : ∀ H : Hp, Only H → SqL K H a (ns.map V.int) → sp [.ref a] H (fun v _ => v = .bl true) fun _ _ _ => False)
    (hCX : ∀ H e s', CX [] H s₁ (fun _ _ _ => False) e s' → False) :
    codeAny (model P w) callerA (.call (.ref fa) ⟨[.ref a], []⟩)
      (fun r s' => r = .ok (.ret (.bool true)) ∧ OldK s₁.heap s'.heap ∧ s'.os = s₁.os ∧ AllBare s'.gens) s₁ := by
  have rv := vals_ints hi
  have lenV := hi.length
  suffices core : ∀ H : Hp, Only H → SqL K H a (ns.map V.int) → HOk P w H s₁.heap →
      (∀ b o, s₁.heap.get? b = some o → (b ≠ a ∨ (K.lookup b).isSome = true) → H b = none) →
      codeAny (model P w) callerA (.call (.ref fa) ⟨[.ref a], []⟩)
        (fun r s' => r = .ok (.ret (.bool true)) ∧ OldK s₁.heap s'.heap ∧ s'.os = s₁.os ∧ AllBare s'.gens) s₁ by
    cases hk : K.lookup a with
    | some o =>
      have e := inK a o hk
      rw [ha] at e
      cases e
      exact core (fun _ => none) (fun _ => .inl rfl)
        (.inr ⟨_, vs.toArray, _, hk, rfl, rfl, rfl, by rw [List.size_toArray, lenV]; exact hl, by simpa using rv⟩)
        (fun b u z => by have z' : (none : Option HO) = some u := z; cases z') (fun _ _ _ _ => rfl)
    | none =>
      let H1 : Hp := fun b => if b = a then some (.frz { cls := .type "list", data := .seq vs.toArray } (.lst (ns.map V.int))) else none
      have h1a : H1 a = some (.frz { cls := .type "list", data := .seq vs.toArray } (.lst (ns.map V.int))) := if_pos rfl
      have h1n : ∀ b, b ≠ a → H1 b = none := fun b h => if_neg h
      refine core H1 (fun b => ?_) (.inl (.inr ⟨_, h1a⟩)) (fun b u z => ?_) (fun b o _ h => ?_)
      · by_cases hb : b = a
        · subst hb; exact .inr ⟨_, _, h1a⟩
        · exact .inl (h1n b hb)
      · by_cases hb : b = a
        · subst hb
          rw [h1a] at z
          cases z
          exact ⟨ha, by rw [List.length_map]; exact hl, vs, _, rv, ha⟩
        · rw [h1n b hb] at z; cases z
      · rcases h with h | h
        · exact h1n b h
        · by_cases hb : b = a
          · subst hb; rw [hk] at h; cases h
          · exact h1n b hb
  intro H hO hS hok hN
  have down : ∀ {b : Addr} {o : Obj}, s₁.heap.get? b = some o → (b ≠ a ∨ (K.lookup b).isSome = true) →
      (hidT s₁.heap H).get? b = some o := fun e c => hidT_get e (hN _ _ e c)
  have nsK : ∀ {b : Addr} {m : Str → Option Value}, s₁.heap.Ns b m → (hidT s₁.heap H).Ns b m := by
    rintro b m ⟨o, es, ep, e, d, r⟩
    refine ⟨o, es, ep, down e (.inl ?_), d, r⟩
    rintro rfl
    rw [ha] at e
    cases e
    cases d
  have hKb : K.In (hidT s₁.heap H) := fun b o e => down (inK b o e) (.inr (by rw [e]; rfl))
  have hM : Mod K mg (hidT s₁.heap H) := ⟨hKb, nsK hns, ⟨mb, nsK hb, hbb⟩, let ⟨mc, h1, h2⟩ := hlim; ⟨mc, nsK h1, h2⟩⟩
  have e0 : Env0 P w K mg (hidT s₁.heap H) callerA [] s₁ H := ⟨rfl, hM, fun b o e => of_hidT e,
    Nat.le_of_eq (hidT_size _ _), trivial, fun b hb => (List.not_mem_nil hb).elim, hok, AllBare.of_eq hg⟩
  refine codeAny_mono ((F _ hKb (nsK hns)).go callerA [] s₁ H ⟨[.ref a], []⟩ [.ref a] [.ref a] _ _ room rfl e0
    (hbind s₁ (.ref a)) (.cons rfl .nil) (hsp H hO hS)) fun r s' h => ?_
  match r, h with
  | .error e, h => exact (hCX H e s' h).elim
  | .ok .next, h => exact False.elim h
  | .ok .brk, h => exact False.elim h
  | .ok .cont, h => exact False.elim h
  | .ok (.ret u), h =>
    obtain ⟨v, H', os, bare, un, hok', r', q⟩ := h
    obtain rfl : v = .bl true := q
    obtain rfl : u = Value.bool true := r'
    refine ⟨rfl, OldK.of_keep fun b o e => ?_, os, bare⟩
    cases q : H b with
    | none => exact un.keep b o e q (List.not_mem_nil) (by simp)
    | some u =>
      obtain ⟨ob, xs, rfl⟩ := frz_or hO q
      obtain ⟨e1, _⟩ := hok b _ q
      obtain ⟨e2, _⟩ := hok' b _ (un.frzs b ob _ q)
      rw [e] at e1
      cases e1
      exact e2

theorem walkG {l : PySem.W.OpenLaw} {n k : Nat} {q : Program} {loose : List Str} {XP : (Str → Option Value) → Heap → Prop}
    {YP : World → Heap → Prop} {d : DefRec} {K : Params → PySem.W.Frag} {CX : World → CXT} {sp : World → Sp} {x : Str}
    (hn : l.most = some n) (hn2 : n ≤ sizeLine) (hdf : d.params.defaults = []) (room : Room k callerA)
    (hY : ∀ (w : World) (h : Heap), YP w h → (K w.params).In h)
    (F : ∀ (w : World) (mg : Str → Option Value) (fa : Addr) (h : Heap), (K w.params).In h → h.Ns mainGlobals mg →
      mg d.name = some (.ref fa) → ∃ fd : FuncData, (∀ (s : Shared) (u : Value), BindsTo s fd ⟨[u], []⟩ [(x, u)]) ∧
        ∀ base : Heap, (K w.params).In base → base.Ns mainGlobals mg →
          FnG l.prog w (K w.params) mg base (CX w) k fa fd [x] (sp w))
    (hsp : ∀ (w : World) (H : Hp) (a : Addr) (ns : List Int), ns.length ≤ n → Only H →
      SqL (K w.params) H a (ns.map V.int) → sp w [.ref a] H (fun v _ => v = .bl true) fun _ _ _ => False)
    (hCX : ∀ (w : World) (H : Hp) (s : Shared) (e : Value) (s' : Shared),
      CX w [] H s (fun _ _ _ => False) e s' → False) :
    PySem.W.WalkO q loose XP YP l.row.toRowW d [] (fun f vs => PySem.call f vs) := by
  refine Att.attach_call hn hdf fun w s₀ s₁ mg mb fa o pm cd doc a vs ns G Y ho hd hcd hmg hobj hints hlen hg => ?_
  obtain ⟨fd, hb, hF⟩ := F w mg fa _ (hY w _ Y) G.T.g hmg
  exact lawG (hY w _ Y) G.T.g G.T.b G.T.builtins G.T.nolimit hg hobj hints (Nat.le_trans hlen hn2) room hF hb
    (fun H hO hS => hsp w H a ns hlen hO hS) fun H e s' => hCX w H s₁ e s'

end SH

/-! SH1: operations that the layer does not have yet: great powers, repr of data, types compared, enumerate. -/
namespace SH
open PySem PySem.Spec PyProof.Rows L2

section
variable {X : Cx}
/-! ### powers of great numbers -/
def PowC (i j : Int) : Prop := 0 ≤ j ∧ (Builtin.Int.intBits i : Int) * j ≤ 2 ^ 27
theorem op_powG : OpR X (binaryOp .Pow) (rI PowC fun i j => .int (i ^ j.toNat)) :=
  opI fun _ _ _ _ _ _ _ c q => pow_int c.1 c.2 q
theorem cube_ok {i : Int} (h : i.natAbs < 2 ^ 4000) : PowC i 3 := by
  refine ⟨by decide, ?_⟩
  have := intBits_le (k := 4000) h
  have e : (2 : Int) ^ 27 = 134217728 := by decide
  omega
theorem ten_ok {j : Int} (h0 : 0 ≤ j) (h : j ≤ 1000) : PowC 10 j := by
  refine ⟨h0, ?_⟩
  have e1 : Builtin.Int.intBits 10 = 4 := by decide
  have e : (2 : Int) ^ 27 = 134217728 := by decide
  rw [e1]
  omega

/-! ### repr -/
/-- data as it is shown -/
def Shows (K : PySem.W.Frag) (H : Hp) (x : V) (d : PyData) : Prop :=
  Dp K H x d ∧ d.showable = true ∧ d.hasDict = false ∧ d.depth ≤ 60 ∧ d.shown.length ≤ sizeLine
def rRepr (K : PySem.W.Frag) : List V → Hp → VK → Prop := fun xs H Q =>
  ∃ (a : Addr) (d : PyData), xs = [.ref a] ∧ Shows K H (.ref a) d ∧ Q (.str d.shown) H
theorem call_reprR (qt : Quiet X.A) (hu : X.A.units + 64 < cLine) : CallR X (.builtin "repr") (rRepr X.K) := by
  intro pins s σ H xs us Q I r h
  obtain ⟨a, d, rfl, ⟨hd, h1, h2, h3, h4⟩, q⟩ := h
  cases r with
  | cons ra rr =>
    cases rr
    cases ra
    obtain ⟨as, rd⟩ := Dp.reads I d _ (.ref a) hd rfl
    exact repr_of_reads' rd h1 (noDict_hsm' h2) qt (by omega) (fun _ _ e => e)
      (fun h' u tk hk => ⟨.str d.shown, H, I.kept hk, ⟨u, rfl⟩, q⟩) h4
where
  noDict_hsm' {d : PyData} {as : List Addr} (h : d.hasDict = false) : d.hasDict = true → sysModules ∉ as :=
    fun e => by rw [h] at e; cases e

end

/-! ### built-in types compared -/
open Sem (wp)
theorem slot_ty_ne : Slot "type" (cmpInfo .NotEq).2.1 "object.__ne__" :=
  .of (owner := "object") (n := "__ne__") (by rw [typeLookup_type, builtinLookup_eq_fast]; kernel_rfl)
    (by decide +kernel) (by decide +kernel) (by decide +kernel)
    (by first | exact .inl (by decide +kernel) | exact .inr (by decide +kernel)) (by rw [isSubtype_type]; kernel_rfl)
theorem slot_ty_ne_refl : Slot "type" (cmpInfo .NotEq).2.2 "object.__ne__" :=
  .of (owner := "object") (n := "__ne__") (by rw [typeLookup_type, builtinLookup_eq_fast]; kernel_rfl)
    (by decide +kernel) (by decide +kernel) (by decide +kernel)
    (by first | exact .inl (by decide +kernel) | exact .inr (by decide +kernel)) (by rw [isSubtype_type]; kernel_rfl)

section
variable {prog : Program} {w : World} {A : Around} {E : Value → Shared → Prop} {s : Shared} {Q : Value → Shared → Prop}
/-- X.__eq__(Y) of two built-in types -/
theorem sp_eq_ty {a b : String} {R : Option Value → Shared → Prop} (ha : ∀ s' : Shared, s'.TypeIs (.type a) "type")
    (h : (if a = b then R (some (.bool true)) s else R (some .notImplemented) s)) :
    wpAny (model prog w) A (callSpecialIfBound? (.type a) "__eq__" [.type b]) R E s := by
  have slot : Slot "type" ("__eq__" : Str) "object.__eq__" := TypeEq.slot_type_eq
  refine wpAny_callSpecialIfBound?_slot (name := Str.ofString "__eq__") (ha s) slot ?_
  by_cases e : a = b
  · subst e
    rw [if_pos rfl] at h
    exact call_gives slot (ha s) F.entry_object_eq (F.args_object_eq_2 _ _) (TypeEq.object_eq_same rfl (by simp)) h
  · rw [if_neg e] at h
    exact call_gives slot (ha s) F.entry_object_eq (F.args_object_eq_2 _ _)
      (TypeEq.object_eq_other rfl (by simpa using e)) h

theorem call_ne_ty {a b : String} {R : Value → Shared → Prop} (ha : ∀ s' : Shared, s'.TypeIs (.type a) "type")
    (h : (if a = b then R (.bool false) s else R .notImplemented s)) :
    wpAny (model prog w) A (call (.builtin "object.__ne__") [.type a, .type b]) R E s := by
  refine wpAny_call_entry slot_ty_ne (ha s) F.cmpEntry_ne ?_ (F.args_object_ne_2 _ _)
  unfold Builtin.«object.__ne__»
  by_cases e : a = b
  · subst e
    rw [if_pos rfl] at h
    repeat (first | with_reducible refine wpAny_cRoomFor_or (.inl rfl) ?_ | with_reducible refine sp_eq_ty ha ?_ | rw [if_pos rfl] | wp_step)
    exact ⟨_, rfl, h⟩
  · rw [if_neg e] at h
    repeat (first | with_reducible refine wpAny_cRoomFor_or (.inl rfl) ?_ | with_reducible refine sp_eq_ty ha ?_ | rw [if_neg e] | wp_step)
    exact ⟨_, rfl, h⟩

theorem ne_ty_same {a : String} (ha : ∀ s' : Shared, s'.TypeIs (.type a) "type") (h : Q (.bool false) s) :
    wpAny (model prog w) A (compareOp .NotEq (.type a) (.type a)) Q E s := by
  show wpAny _ A (richCompare .NotEq _ _) Q E s
  exact wpAny_richCompare_same (op := .NotEq) (T := "type") (ha s) (ha s) slot_ty_ne
    (call_ne_ty ha (by rw [if_pos rfl]; exact ⟨(by intro e; cases e), h⟩))
end

theorem rc_ne_same_decline {M : Model} {A : Around} {E : Value → Shared → Prop} {s : Shared} {a b : Value} {T id : String}
    {k : Bool} {Q : Value → Shared → Prop} (ha : ∀ s' : Shared, s'.TypeIs a T) (hb : ∀ s' : Shared, s'.TypeIs b T)
    (h1 : Slot T (cmpInfo .NotEq).2.1 id) (h2 : Slot T (cmpInfo .NotEq).2.2 id) (hv : [a, b].any Value.onHeap = false)
    (hk : isSame a b = pure k)
    (hc : wpAny M A (call (.builtin id) [a, b]) (fun v s₁ => v = .notImplemented ∧
      wpAny M A (call (.builtin id) [b, a]) (fun v s₂ => v = .notImplemented ∧ Q (.bool (!k)) s₂) E s₁) E s) :
    wpAny M A (richCompare .NotEq a b) Q E s := by
  rcases hi : cmpInfo CmpOp.NotEq with ⟨sym, f, r⟩
  rw [hi] at h1 h2
  simp only [richCompare, hi, (ha s).oneThing_none]
  try with_reducible refine wpAny_holding ?_
  refine wpAny_bind (wpAny_cRoomFor_or (.inl hv) (wpAny_bind (wpAny_typeOf (ha s) (wpAny_bind (wpAny_typeOf (hb s) ?_)))))
  simp only [bne_self_eq_false, Bool.false_eq_true, if_false, pure_bind, Bool.not_false, if_true]
  refine wpAny_bind (m := tryCompare a _ b) (wpAny_tryCompare_declines (ha s) h1
    (wpAny_mono hc (fun v s₁ q1 => ⟨q1.1, ?_⟩) fun _ _ x => x))
  refine wpAny_bind (m := tryCompare b _ a) (wpAny_tryCompare_declines (hb s₁) h2
    (wpAny_mono q1.2 (fun v s₂ q2 => ⟨q2.1, ?_⟩) fun _ _ x => x))
  exact wpAny_bind (wpAny_rule (wpAny_bind (wpAny_of_eq hk (wpAny_pure q2.2))))

section
variable {prog : Program} {w : World} {A : Around} {E : Value → Shared → Prop} {s : Shared} {Q : Value → Shared → Prop}
theorem ne_ty_other {a b : String} (ha : ∀ s' : Shared, s'.TypeIs (.type a) "type")
    (hb : ∀ s' : Shared, s'.TypeIs (.type b) "type") (ne : a ≠ b) (h : Q (.bool true) s) :
    wpAny (model prog w) A (compareOp .NotEq (.type a) (.type b)) Q E s := by
  show wpAny _ A (richCompare .NotEq _ _) Q E s
  refine rc_ne_same_decline (T := "type") (k := false) ha hb slot_ty_ne slot_ty_ne_refl rfl
    (by rw [isSame_plain rfl]; have : (Value.type a == Value.type b) = false := by simpa using ne
        rw [this]) ?_
  refine call_ne_ty ha ?_
  rw [if_neg ne]
  refine ⟨rfl, call_ne_ty hb ?_⟩
  rw [if_neg (Ne.symm ne)]
  exact ⟨rfl, h⟩
end

/-- the built-in types that a value may have here -/
def tyNames : List String := ["int", "str", "bool", "NoneType", "list", "tuple", "dict", "set", "float"]
theorem ty_meta {n : String} (h : n ∈ tyNames) (s' : Shared) : s'.TypeIs (.type n) "type" := by
  simp only [tyNames, List.mem_cons, List.not_mem_nil, or_false] at h
  rcases h with rfl | rfl | rfl | rfl | rfl | rfl | rfl | rfl | rfl
  · exact TypeEq.meta_int s'
  · exact TypeEq.meta_str s'
  · exact TypeEq.meta_bool s'
  · exact TypeEq.meta_NoneType s'
  · exact TypeEq.meta_list s'
  · exact TypeEq.meta_tuple s'
  · exact TypeEq.meta_dict s'
  · exact TypeEq.meta_set s'
  · exact TypeEq.meta_float s'
def rNeTy : R2 := fun x y H Q => ∃ a b, x = .ty a ∧ y = .ty b ∧ a ∈ tyNames ∧ b ∈ tyNames ∧ Q (.bl (decide (a ≠ b))) H
theorem op_neTy {X : Cx} : OpR X (compareOp .NotEq) rNeTy := by
  intro pins s σ H x y v u Q I rx ry h
  obtain ⟨a, b, rfl, rfl, ha, hb, q⟩ := h
  cases rx
  cases ry
  by_cases e : a = b
  · subst e
    exact ne_ty_same (ty_meta ha) ⟨.bl false, H, I, rfl, by simpa using q⟩
  · exact ne_ty_other (ty_meta ha) (ty_meta hb) e ⟨.bl true, H, I, rfl, by simpa [e] using q⟩

/-! ### for i, x in enumerate(xs) -/
theorem for_enum {K : PySem.W.Frag} {a : Addr} {xs : List V} {g : TG} {tb : TS} {D : Ends} {σ : L2.St} {H : Hp}
    (Pv : Nat → L2.St → Hp → Prop) (h0 : Pv 0 σ H) (hl : ∀ i σ H, i ≤ xs.length → Pv i σ H → SqL K H a xs)
    (hs : ∀ (i : Nat) (x : V) (T : Addr) σ H, xs[i]? = some x → Pv i σ H → H T = none →
      g (.ref T) σ (upd H T (.tup [.int i, x])) fun σ2 H2 => tb { D with nx := Pv (i + 1), ct := Pv (i + 1), bk := D.nx } σ2 H2)
    (hd : ∀ σ H, Pv xs.length σ H → D.nx σ H) :
    ∃ W : Nat → Nat → L2.St → Hp → Prop, (∃ m, W 0 m σ H) ∧ ∀ i m σ H, W i m σ H →
      ((Ite K a).stop i H ∧ D.nx σ H) ∨ ((Ite K a).go i H ∧ ∃ N : L2.St → Hp → Prop,
        (∀ σ' H', N σ' H' → ∃ m', m' < m ∧ W (i + 1) m' σ' H') ∧
        ∀ x H', (Ite K a).yld i H x H' → g x σ H' fun σ2 H2 => tb { D with nx := N, ct := N, bk := D.nx } σ2 H2) := by
  refine ⟨fun i m σ H => m = xs.length - i ∧ i ≤ xs.length ∧ Pv i σ H, ⟨_, rfl, Nat.zero_le _, h0⟩, ?_⟩
  rintro i m σ H ⟨rfl, hi, p⟩
  have hq := hl i σ H hi p
  rcases Nat.lt_or_ge i xs.length with lt | ge
  · refine .inr ⟨⟨xs, xs[i], hq, List.getElem?_eq_getElem lt⟩, Pv (i + 1), fun σ' H' p' => ⟨_, ?_, rfl, lt, p'⟩, ?_⟩
    · omega
    · rintro v H' ⟨T, x, rfl, hT, rfl, f⟩
      exact hs i x T σ H (f xs hq) p hT
  · obtain rfl : i = xs.length := Nat.le_antisymm hi ge
    exact .inl ⟨⟨xs, hq, Nat.le_refl _⟩, hd σ H p⟩
end SH

/-! SH2: defs by name: what stands at a name of the module, calls of it by place and by keyword. -/
namespace SH
open PySem PySem.Spec PyProof.Rows L2

/-- the def `st` stands at the name `x` of the module and keeps the promise `sp` -/
def Has (P : Program) (w : World) (K : PySem.W.Frag) (mg : Str → Option Value) (base : Heap) (CX : CXT) (k : Nat)
    (x : Str) (st : Stmt) (ps : List Str) (sp : Sp) : Prop :=
  ∃ f fd, Fun K x x st f fd ∧ mg x = some (.ref f) ∧ FnG P w K mg base CX k f fd ps sp ∧ L2.Binds K fd ps []
/-- the def `st` stands at the name `x` -/
def At (K : PySem.W.Frag) (mg : Str → Option Value) (x : Str) (st : Stmt) : Prop :=
  ∃ f fd, Fun K x x st f fd ∧ mg x = some (.ref f)

section
variable {X : Cx} {CX : CXT} {k : Nat} {st : Stmt} {ps ks : List Str} {sp : Sp} {E : XK} {x : Str} {p pos : Pos}
  {e : Expr} {es : List Expr} {t tk : TA} {kws : List Keyword}

theorem pe_has (h : Has X.prog X.w X.K X.mg X.base CX k x st ps sp) (room : Room k X.A) (qt : Quiet X.A) (hg : Gl X x)
    (hx : Passes CX X E) (ha : PA X (e :: es) t) (hdb : (x == ("__debug__" : Str)) = false := by decide)
    (he : starEach (e :: es) X.env = (false, eval e X.env) :: starEach es X.env := by rfl)
    (hpl : (backTo pos (starEach es X.env)).any (·.1) = false := by rfl) :
    PE X (.Call (.Name x p) (e :: es) [] pos) (tCall sp [] E t) := by
  obtain ⟨f, fd, F, m, G, b⟩ := h
  exact pe_callG G room qt hg m F.kp b .nil hx ha hdb he hpl

/-- how the keywords' values come to the parameters: by a permutation of places -/
structure KwOk (x : Str) (st : Stmt) (ps ks : List Str) (g : {α : Type} → List α → List α) : Prop where
  to : ∀ (kV doc pm : Value) (an : Option Addr) (cdv ct : Value) (ws : List Value), ws.length = ks.length →
    bindArgs (PySem.W.fnOf x x (defArgs st) (defBody st) (defScope st) .none kV doc pm an cdv ct) ⟨[], ks.zip ws⟩ =
      pure (ps.zip (g ws))
  rel : ∀ {zs : List V} {ws : List Value}, Vals zs ws → Vals (g zs) (g ws)
  len : ∀ (ws : List Value), (g ws).length = ps.length → ws.length = ks.length
  ne : ps.length ≠ 0

def onlyKw (g : {α : Type} → List α → List α) : {α : Type} → List α → List α → List α := fun us ws =>
  match us with
  | [] => g ws
  | _ => []

theorem pe_hasK0 {g : {α : Type} → List α → List α} (h : Has X.prog X.w X.K X.mg X.base CX k x st ps sp)
    (room : Room k X.A) (qt : Quiet X.A) (hg : Gl X x) (kb : KwOk x st ps ks g) (hx : Passes CX X E)
    (hkw : PK X kws tk) (hall : (backToKw pos (keywordEach kws X.env)).all (·.1.isSome) = true := by rfl)
    (hks : (backToKw pos (keywordEach kws X.env)).filterMap (·.1) = ks := by rfl)
    (hdb : (x == ("__debug__" : Str)) = false := by decide)
    (hpl : ((backTo pos (starEach [] X.env)).any (·.1) ||
      (backToKw pos (keywordEach kws X.env)).any (·.1.isNone)) = false := by rfl) :
    PE X (.Call (.Name x p) [] kws pos) (tCallK sp (onlyKw g) E tNil tk) := by
  obtain ⟨f, fd, F, m, G, _⟩ := h
  refine pe_callGK0 G room qt hg m F.kp (g := onlyKw g) ⟨fun s us ws _ hl => ?_, fun {vs us zs ws} r rz => ?_⟩ hx hkw hall hks hdb hpl
  · obtain ⟨oc, od, kV, doc, pm, an, cdv, ct, osl, rfl, lk, hcd⟩ := F.ex
    cases us with
    | nil => exact .of_eq (kb.to kV doc pm an cdv ct ws (kb.len ws hl))
    | cons u us => exact absurd hl.symm kb.ne
  · cases r with
    | nil => exact kb.rel rz
    | cons _ _ => exact .nil
end

section
variable {P : Program} {w : World} {K : PySem.W.Frag} {mg : Str → Option Value} {base : Heap}
/-- THE RULE for a def at a name of the module that lets no error out -/
theorem Has.of {x : Str} {st : Stmt} {N ps : List Str} {k : Nat} {sp : Sp} (at_ : At K mg x st)
    (S : FnScope N ps (defScope st)) (len : ∀ vs H Q E, sp vs H Q E → vs.length = ps.length)
    (bd : ∀ (kV doc pm : Value) (an : Option Addr) (cdv ct : Value) (us : List Value), us.length = ps.length →
      bindArgs (PySem.W.fnOf x x (defArgs st) (defBody st) (defScope st) .none kV doc pm an cdv ct) ⟨us, []⟩ = pure (ps.zip us))
    (walk : ∀ (f : Addr) (cdv : Value) (A : Around) (outer : List Env) (s : Shared) (H : Hp) (vs : List V) (Q : VK) (E : XK),
      Room k (A.deeper (envOfC x (defScope st) s.heap.objs.size f cdv)) →
      Quiet (A.deeper (envOfC x (defScope st) s.heap.objs.size f cdv)) → sp vs H Q E →
      ∃ t, PSs (cxOf CX0 P w K mg base N x (defScope st) f cdv A outer s H E).nox (defBody st) t ∧
        t { nx := fun _ H' => Q .non H', rt := Q } (start N vs) H) :
    Has P w K mg base CX0 (k + 1) x st ps sp := by
  obtain ⟨f, fd, F, m⟩ := at_
  exact ⟨f, fd, F, m, FnG.ok F S len (walk f), F.binds bd⟩
theorem Has.mono {CX : CXT} {j k : Nat} {x : Str} {st : Stmt} {ps : List Str} {sp : Sp}
    (h : Has P w K mg base CX j x st ps sp) (hk : j ≤ k) : Has P w K mg base CX k x st ps sp := by
  obtain ⟨f, fd, F, m, G, b⟩ := h
  exact ⟨f, fd, F, m, G.mono hk, b⟩
end

/-- the built-in names that the module does not shadow -/
structure Txt (mg : Str → Option Value) : Prop where
  len : mg "len" = none
  range : mg "range" = none
  repr : mg "repr" = none
  min : mg "min" = none
  max : mg "max" = none
  tint : mg "int" = none
  tlist : mg "list" = none
  ttype : mg "type" = none
  bool : mg "bool" = none
  tuple : mg "tuple" = none
  isinstance : mg "isinstance" = none
  enumerate : mg "enumerate" = none
  tstr : mg "str" = none
  zip : mg "zip" = none
  all : mg "all" = none
  any : mg "any" = none
  sum : mg "sum" = none
  abs : mg "abs" = none
  sorted : mg "sorted" = none
  set : mg "set" = none
  dict : mg "dict" = none
  reversed : mg "reversed" = none
  divmod : mg "divmod" = none

theorem bnot_t {b : Bool} (h : (!b) = true) : b = false := by cases b <;> first | rfl | cases h
theorem bnot_f {b : Bool} (h : ¬ (!b) = true) : b = true := by cases b <;> first | rfl | exact (h rfl).elim
/-! ### what a caller wants -/
/-- a value comes back, nothing that was tracked has changed -/
def RetV (Q : VK) (H : Hp) (v : V) : Prop := ∀ H', Same H H' → Q v H'
/-- a new list comes back -/
def RetL (Q : VK) (H : Hp) (xs : List V) : Prop := ∀ p H', H p = none → Same H H' → H' p = some (.lst xs) → Q (.ref p) H'
/-- ints as values -/
abbrev iv (ns : List Int) : List V := ns.map V.int
theorem iv_at {ns : List Int} {i : Nat} (h : i < ns.length) : (iv ns)[i]? = some (.int (ns.getD i 0)) := by
  rw [List.getElem?_map, List.getElem?_eq_getElem h, List.getD_eq_getElem?_getD, List.getElem?_eq_getElem h]
  rfl
theorem atI_iv {ns : List Int} {z : Int} (h0 : 0 ≤ z) (h : z < ns.length) : atI (iv ns) z = some (.int (ns.getD z.toNat 0)) := by
  have e : z = ((z.toNat : Nat) : Int) := by omega
  rw [e]
  exact atI_nat (iv_at (by omega))
theorem atI_iv_last {ns : List Int} (h : ns ≠ []) : atI (iv ns) (-1) = some (.int (ns.getD (ns.length - 1) 0)) := by
  have hl : 0 < ns.length := List.length_pos_iff.mpr h
  have e : ixN (iv ns).length (-1) = some (ns.length - 1) := by
    unfold ixN
    rw [if_neg (by omega), if_pos (by rw [List.length_map]; omega), List.length_map]
    congr 1
    omega
  unfold atI
  rw [e]
  exact iv_at (by omega)
theorem Same.new {H : Hp} {p : Addr} {o : HO} (h : H p = none) : Same H (upd H p o) := fun b u e => by
  rw [upd_ne (ne_of_none e h)]; exact e
theorem Same.upd_free {H H' : Hp} {p : Addr} {o : HO} (s : Same H H') (h : H p = none) : Same H (upd H' p o) := fun b u e => by
  rw [upd_ne (ne_of_none e h)]; exact s b u e
/-- all that was tracked but what stands at `a` is as it was -/
def SameBut (a : Addr) (H H' : Hp) : Prop := ∀ b o, H b = some o → b ≠ a → H' b = some o
theorem SameBut.refl {a : Addr} {H : Hp} : SameBut a H H := fun _ _ e _ => e
theorem SameBut.trans {a : Addr} {H H1 H2 : Hp} (p : SameBut a H H1) (q : SameBut a H1 H2) : SameBut a H H2 :=
  fun b o e n => q b o (p b o e n) n
theorem SameBut.of {a : Addr} {H H' : Hp} (p : Same H H') : SameBut a H H' := fun b o e _ => p b o e
theorem SameBut.upd {a : Addr} {H H' : Hp} {o : HO} (p : SameBut a H H') : SameBut a H (upd H' a o) := fun b u e n => by
  rw [upd_ne n]; exact p b u e n
theorem SameBut.new {a p : Addr} {H H' : Hp} {o : HO} (s : SameBut a H H') (h : H' p = none) : SameBut a H (L2.upd H' p o) :=
  fun b u e n => by
    have := s b u e n
    rw [upd_ne (ne_of_none this h)]; exact this
end SH

/-! SH3: comprehensions whose turns make nothing, in words of a function of the turn. -/
namespace SH
open PySem PySem.Spec PyProof.Rows L2

/-- len of a list or a tuple, by the written part K -/
def rLenK (K : PySem.W.Frag) : List V → Hp → VK → Prop := fun xs H Q => ∃ p ys, xs = [.ref p] ∧ (SqL K H p ys ∨ SqT K H p ys) ∧ Q (.int ys.length) H
theorem tYes_go {σ : L2.St} {H : Hp} {f g : Hp → Prop} (h : f H) : tYes σ H fun b H3 => if b = true then f H3 else g H3 := by
  show (if true = true then f H else g H)
  rw [if_pos rfl]
  exact h
/-- a if t else b of two ints, the test's answer known as b -/
theorem if_int {b : Bool} {x y : Int} {H : Hp} {A B : TE} {σ : L2.St} {Q : VK} (ha : ∀ Q' : VK, Q' (.int x) H → A σ H Q')
    (hb : ∀ Q' : VK, Q' (.int y) H → B σ H Q') (h : Q (.int (if b = true then x else y)) H) : if b = true then A σ H Q else B σ H Q := by
  cases b with
  | true => rw [if_pos rfl]; exact ha _ (by simpa using h)
  | false => rw [if_neg Bool.false_ne_true]; exact hb _ (by simpa using h)
/-- which turns give, and what -/
def gives (n : Nat) (keep : Nat → Bool) (val : Nat → V) : List V := ((List.range n).filter keep).map val
theorem gives_succ {n : Nat} {keep : Nat → Bool} {val : Nat → V} : gives (n + 1) keep val =
    if keep n = true then gives n keep val ++ [val n] else gives n keep val := by
  unfold gives
  rw [List.range_succ, List.filter_append, List.map_append]
  by_cases h : keep n = true
  · rw [if_pos h, List.filter_cons, if_pos h]
    rfl
  · rw [if_neg h, List.filter_cons, if_neg h]
    exact List.append_nil _
theorem gives_len (n : Nat) (keep : Nat → Bool) (val : Nat → V) : (gives n keep val).length ≤ n := by
  unfold gives
  rw [List.length_map]
  exact Nat.le_trans (List.length_filter_le _ _) (Nat.le_of_eq List.length_range)
theorem gives_all (n : Nat) (val : Nat → V) : gives n (fun _ => true) val = (List.range n).map val := by
  unfold gives
  rw [List.filter_eq_self.mpr (fun _ _ => rfl)]
/-- a new list comes back, nothing else changes -/
def NewL (Q : VK) (H : Hp) (xs : List V) : Prop := ∀ p, H p = none → Q (.ref p) (upd H p (.lst xs))
theorem small_line {n : Nat} (h : n < 100000) : n < sizeLine := Nat.lt_of_lt_of_le h (by decide)

section
variable {tt : TT} {te : TE} {vs : List Nat} {σ : L2.St} {H : Hp} {D : Addr} {Qd : Hp → Prop}
/-- one turn's end -/
theorem lc_turn {n : Nat} {keep : Nat → Bool} {val : Nat → V} {i : Nat} {σ2 : L2.St} (hi : i < n) (hn : n < 100000)
    (ht : ∀ acc Q, Q (keep i) (upd H D (.lst acc)) → tt σ2 (upd H D (.lst acc)) Q)
    (he : ∀ acc Q, keep i = true → Q (val i) (upd H D (.lst acc)) → te σ2 (upd H D (.lst acc)) Q) :
    tt σ2 (upd H D (.lst (gives i keep val))) fun b H3 => if b = true then te σ2 H3 fun y H4 => ∃ acc, H4 D = some (.lst acc) ∧
      acc.length < sizeLine ∧ upd H4 D (.lst (acc ++ [y])) = upd H D (.lst (gives (i + 1) keep val))
      else H3 = upd H D (.lst (gives (i + 1) keep val)) := by
  refine ht _ _ ?_
  by_cases h : keep i = true
  · rw [h]
    refine iteT (he _ _ h ⟨_, upd_same, small_line (by have := gives_len i keep val; omega), ?_⟩)
    rw [upd_upd, gives_succ, if_pos h]
  · have h' : keep i = false := by cases e : keep i <;> simp_all
    rw [h']
    refine iteF ?_
    rw [gives_succ, if_neg h]

theorem lcR {lo : Int} {n j : Nat} (keep : Nat → Bool) (val : Nat → V) (hn : n < 100000)
    (hw : ∀ x, wipe ((wipe σ vs).set j (some x)) vs = wipe σ vs)
    (ht : ∀ i acc Q, i < n → Q (keep i) (upd H D (.lst acc)) → tt ((wipe σ vs).set j (some (.int (lo + (i : Nat))))) (upd H D (.lst acc)) Q)
    (he : ∀ i acc Q, i < n → keep i = true → Q (val i) (upd H D (.lst acc)) → te ((wipe σ vs).set j (some (.int (lo + (i : Nat))))) (upd H D (.lst acc)) Q)
    (hd : Qd (upd H D (.lst (gives n keep val)))) :
    ∃ W : Nat → Nat → Hp → Prop, (∃ m, W 0 m (upd H D (.lst []))) ∧ ∀ i m H, W i m H →
      ((Itr lo n).stop i H ∧ Qd H) ∨ ((Itr lo n).go i H ∧ ∃ Nx : Hp → Prop, (∀ H', Nx H' → ∃ m', m' < m ∧ W (i + 1) m' H') ∧
        ∀ x H', (Itr lo n).yld i H x H' → gName j x (wipe σ vs) H' fun σ2 H2 => wipe σ2 vs = wipe σ vs ∧ tt σ2 H2 fun b H3 =>
          if b = true then te σ2 H3 fun y H4 => ∃ acc, H4 D = some (.lst acc) ∧ acc.length < sizeLine ∧ Nx (upd H4 D (.lst (acc ++ [y]))) else Nx H3) :=
  lc_range (fun i H2 => H2 = upd H D (.lst (gives i keep val))) rfl
    (fun i H2 hi e => by
      subst e
      exact ⟨hw _, lc_turn hi hn (fun acc Q q => ht i acc Q hi q) (fun acc Q k q => he i acc Q hi k q)⟩)
    (fun H2 e => by subst e; exact hd)

theorem lcL {K : PySem.W.Frag} {a : Addr} {xs : List V} {j : Nat} (keep : Nat → Bool) (val : Nat → V) (hx : SqL K H a xs)
    (hD : H D = none) (hn : xs.length < 100000) (hw : ∀ x, wipe ((wipe σ vs).set j (some x)) vs = wipe σ vs)
    (ht : ∀ i x acc Q, xs[i]? = some x → Q (keep i) (upd H D (.lst acc)) → tt ((wipe σ vs).set j (some x)) (upd H D (.lst acc)) Q)
    (he : ∀ i x acc Q, xs[i]? = some x → keep i = true → Q (val i) (upd H D (.lst acc)) → te ((wipe σ vs).set j (some x)) (upd H D (.lst acc)) Q)
    (hd : Qd (upd H D (.lst (gives xs.length keep val)))) :
    ∃ W : Nat → Nat → Hp → Prop, (∃ m, W 0 m (upd H D (.lst []))) ∧ ∀ i m H, W i m H →
      ((Itl K a).stop i H ∧ Qd H) ∨ ((Itl K a).go i H ∧ ∃ Nx : Hp → Prop, (∀ H', Nx H' → ∃ m', m' < m ∧ W (i + 1) m' H') ∧
        ∀ x H', (Itl K a).yld i H x H' → gName j x (wipe σ vs) H' fun σ2 H2 => wipe σ2 vs = wipe σ vs ∧ tt σ2 H2 fun b H3 =>
          if b = true then te σ2 H3 fun y H4 => ∃ acc, H4 D = some (.lst acc) ∧ acc.length < sizeLine ∧ Nx (upd H4 D (.lst (acc ++ [y]))) else Nx H3) :=
  lc_list (xs := xs) (fun i H2 => H2 = upd H D (.lst (gives i keep val))) rfl
    (fun i H2 hi e => by subst e; exact (Same.new hD).seq hx)
    (fun i x H2 hi e => by
      subst e
      exact ⟨hw _, lc_turn (List.getElem?_eq_some_iff.mp hi).1 hn (fun acc Q q => ht i x acc Q hi q) (fun acc Q k q => he i x acc Q hi k q)⟩)
    (fun H2 e => by subst e; exact hd)

/-- [.. for a, b in zip(xs, ys)], the lists of one length: each turn makes one pair, so the heap is told by an invariant -/
theorem lcZ {K : PySem.W.Frag} {a b : Addr} {xs ys : List V} {g : TG} (hl : xs.length = ys.length) (Pv : Nat → Hp → Prop)
    (h0 : Pv 0 (upd H D (.lst []))) (hq : ∀ i H, Pv i H → SqL K H a xs ∧ SqL K H b ys)
    (hs : ∀ i x y T H, xs[i]? = some x → ys[i]? = some y → Pv i H → H T = none → g (.ref T) (wipe σ vs) (upd H T (.tup [x, y])) fun σ2 H2 =>
      wipe σ2 vs = wipe σ vs ∧ tt σ2 H2 fun b H3 => if b = true then te σ2 H3 fun y H4 => ∃ acc, H4 D = some (.lst acc) ∧
        acc.length < sizeLine ∧ Pv (i + 1) (upd H4 D (.lst (acc ++ [y]))) else Pv (i + 1) H3)
    (hd : ∀ H, Pv xs.length H → Qd H) :
    ∃ W : Nat → Nat → Hp → Prop, (∃ m, W 0 m (upd H D (.lst []))) ∧ ∀ i m H, W i m H →
      ((Itz K a b).stop i H ∧ Qd H) ∨ ((Itz K a b).go i H ∧ ∃ Nx : Hp → Prop, (∀ H', Nx H' → ∃ m', m' < m ∧ W (i + 1) m' H') ∧
        ∀ x H', (Itz K a b).yld i H x H' → g x (wipe σ vs) H' fun σ2 H2 => wipe σ2 vs = wipe σ vs ∧ tt σ2 H2 fun b H3 =>
          if b = true then te σ2 H3 fun y H4 => ∃ acc, H4 D = some (.lst acc) ∧ acc.length < sizeLine ∧ Nx (upd H4 D (.lst (acc ++ [y]))) else Nx H3) := by
  refine ⟨fun i m H => m = xs.length - i ∧ i ≤ xs.length ∧ Pv i H, ⟨_, rfl, Nat.zero_le _, h0⟩, ?_⟩
  rintro i m H ⟨rfl, hi, p⟩
  obtain ⟨qx, qy⟩ := hq i H p
  rcases Nat.lt_or_ge i xs.length with lt | ge
  · have ly : i < ys.length := by omega
    refine .inr ⟨⟨xs, ys, xs[i], ys[i], qx, qy, List.getElem?_eq_getElem lt, List.getElem?_eq_getElem ly⟩, Pv (i + 1),
      fun H' p' => ⟨xs.length - (i + 1), by omega, rfl, lt, p'⟩, ?_⟩
    rintro v H' ⟨T, x, y, rfl, hT, rfl, fx, fy⟩
    exact hs i x y T H (fx xs qx) (fy ys qy) p hT
  · obtain rfl : i = xs.length := Nat.le_antisymm hi ge
    exact .inl ⟨⟨xs, ys, qx, qy, .inl (Nat.le_refl _)⟩, hd H p⟩
end
end SH

/-! SH4: how lists of ints are shown, and compared. -/
namespace SH
open PySem PySem.Spec PyProof.Rows L2

/-- a list of ints as data -/
def dI (ns : List Int) : PyData := .list (ns.map PyData.int)
theorem dp_ints {K : PySem.W.Frag} {H : Hp} : ∀ ns : List Int, DpAll K H (iv ns) (ns.map PyData.int)
  | [] => .nil
  | n :: r => .cons (.int n) (dp_ints r)
theorem dp_dI {K : PySem.W.Frag} {H : Hp} {a : Addr} {ns : List Int} (h : SqL K H a (iv ns)) : Dp K H (.ref a) (dI ns) := .lst h (dp_ints ns)
theorem small_log {v : Int} (h : v.natAbs < 2 ^ 64) : v.natAbs.log2 < 1920 := by
  by_cases e : v.natAbs = 0
  · rw [e]; decide
  · have := (Nat.log2_lt e).mpr h
    omega
theorem show_ints : ∀ {ns : List Int}, (∀ v ∈ ns, v.natAbs < 2 ^ 64) → PyData.showableAll (ns.map PyData.int) = true
  | [], _ => rfl
  | n :: r, h => by
    show (decide (n.natAbs.log2 < 1920) && PyData.showableAll (r.map PyData.int)) = true
    rw [decide_eq_true (small_log (h n List.mem_cons_self)), show_ints fun v hv => h v (List.mem_cons_of_mem _ hv)]
    rfl
theorem dict_ints : ∀ ns : List Int, PyData.hasDictAll (ns.map PyData.int) = false
  | [] => rfl
  | n :: r => by
    show (false || PyData.hasDictAll (r.map PyData.int)) = false
    rw [dict_ints r]
    rfl
theorem depth_ints : ∀ ns : List Int, PyData.depthAll (ns.map PyData.int) = 0
  | [] => rfl
  | n :: r => by
    show max 0 (PyData.depthAll (r.map PyData.int)) = 0
    rw [depth_ints r]
    rfl
theorem shownAll_len : ∀ {ns : List Int}, (∀ v ∈ ns, v.natAbs < 2 ^ 64) → ((PyData.shownAll (ns.map PyData.int)).map (·.length)).sum ≤ 1921 * ns.length ∧
    (PyData.shownAll (ns.map PyData.int)).length = ns.length
  | [], _ => ⟨Nat.le_refl _, rfl⟩
  | n :: r, h => by
    obtain ⟨a, b⟩ := shownAll_len (ns := r) fun v hv => h v (List.mem_cons_of_mem _ hv)
    have := int_text_len_1921 (small_log (h n List.mem_cons_self))
    constructor
    · show (PySem.Str.ofString (toString n)).length + ((PyData.shownAll (r.map PyData.int)).map (·.length)).sum ≤ 1921 * (r.length + 1)
      omega
    · show (PyData.shownAll (r.map PyData.int)).length + 1 = r.length + 1
      omega
theorem shows_ints {K : PySem.W.Frag} {H : Hp} {a : Addr} {ns : List Int} (h : SqL K H a (iv ns)) (hl : ns.length ≤ 1000) (hv : ∀ v ∈ ns, v.natAbs < 2 ^ 64) :
    Shows K H (.ref a) (dI ns) := by
  refine ⟨dp_dI h, show_ints hv, dict_ints ns, ?_, ?_⟩
  · show PyData.depthAll (ns.map PyData.int) + 1 ≤ 60
    rw [depth_ints]
    decide
  · show (listText (PyData.shownAll (ns.map PyData.int))).length ≤ sizeLine
    obtain ⟨a, b⟩ := shownAll_len hv
    have := listText_len_le (PyData.shownAll (ns.map PyData.int))
    have e : sizeLine = 16777216 := by decide
    omega
theorem shaped_dI (ns : List Int) : SeqAt.shaped (dI ns) = true := by
  have c : ∀ ms : List Int, PyData.canLayAll0 (ms.map PyData.int) = true := fun ms => by
    induction ms with
    | nil => rfl
    | cons n r ih => show (true && PyData.canLayAll0 (r.map PyData.int)) = true; rw [ih]; rfl
  unfold SeqAt.shaped
  have d : (dI ns).depth = 1 := by show PyData.depthAll (ns.map PyData.int) + 1 = 1; rw [depth_ints]
  rw [d]
  show (PyData.canLayAll0 (ns.map PyData.int) && decide (1 ≤ 64)) = true
  rw [c]
  rfl
theorem eqv_ints : ∀ ns ms : List Int, PyData.eqvAll (ns.map PyData.int) (ms.map PyData.int) = decide (ns = ms)
  | [], [] => rfl
  | [], _ :: _ => rfl
  | _ :: _, [] => rfl
  | n :: r, m :: q => by
    show ((n == m) && PyData.eqvAll (r.map PyData.int) (q.map PyData.int)) = _
    rw [eqv_ints r q, Bool.eq_iff_iff]
    simp
theorem eqv_dI (ns ms : List Int) : PyData.eqv (dI ns) (dI ms) = decide (ns = ms) := eqv_ints ns ms
/-- two lists of ints compared -/
theorem eqD_ints {K : PySem.W.Frag} {H : Hp} {a b : Addr} {ns ms : List Int} {Q : VK} (ha : SqL K H a (iv ns)) (hb : SqL K H b (iv ms))
    (q : Q (.bl (decide (ns = ms))) H) : rEqD K (.ref a) (.ref b) H Q :=
  ⟨dI ns, dI ms, dp_dI ha, dp_dI hb, shaped_dI ns, shaped_dI ms, by rw [eqv_dI]; exact q⟩
theorem neD_ints {K : PySem.W.Frag} {H : Hp} {a b : Addr} {ns ms : List Int} {Q : VK} (ha : SqL K H a (iv ns)) (hb : SqL K H b (iv ms))
    (q : Q (.bl (!decide (ns = ms))) H) : rNeD K (.ref a) (.ref b) H Q :=
  ⟨dI ns, dI ms, dp_dI ha, dp_dI hb, shaped_dI ns, shaped_dI ms, by rw [eqv_dI]; exact q⟩

theorem iv_snoc (ns : List Int) (d : Int) : iv ns ++ [V.int d] = iv (ns ++ [d]) := by
  unfold iv
  rw [List.map_append]
  rfl
theorem getD_all {xs : List Int} {p : Int → Prop} (h : ∀ v ∈ xs, p v) {z : Int} (h0 : 0 ≤ z) (h1 : z < xs.length) : p (xs.getD z.toNat 0) := by
  have hz : z.toNat < xs.length := by omega
  rw [List.getD_eq_getElem?_getD, List.getElem?_eq_getElem hz]
  exact h _ (List.getElem_mem hz)
/-- range as a list of ints -/
def rg (n : Nat) : List Int := (List.range n).map fun (i : Nat) => (i : Int)
theorem rgV_rg (n : Nat) : rgV 0 (n : Int) = iv (rg n) := by
  unfold rgV rg iv
  rw [List.map_map]
  have e : ((n : Int) - 0).toNat = n := by omega
  rw [e]
  refine List.map_congr_left fun i _ => ?_
  show V.int (0 + (i : Int)) = V.int (i : Int)
  rw [Int.zero_add]
theorem iv_rep (n : Nat) (d : Int) : (List.replicate n [V.int d]).flatten = iv (List.replicate n d) := by
  induction n with
  | zero => rfl
  | succ n ih => rw [List.replicate_succ, List.flatten_cons, ih, List.replicate_succ]; rfl
/-- list + list, each read as it stands -/
def rCatS (K : PySem.W.Frag) : R2 := fun x y H Q => ∃ l b xs zs, x = .ref l ∧ y = .ref b ∧ SqL K H l xs ∧ SqL K H b zs ∧ xs.length + zs.length ≤ sizeLine ∧ NewL Q H (xs ++ zs)
theorem op_catS {X : Cx} : OpR X (binaryOp .Add) (rCatS X.K) := by
  intro pins s σ H x y v u Q I rx ry h
  obtain ⟨l, b, xs, zs, rfl, rfl, hx, hy, hz, q⟩ := h
  cases rx
  cases ry
  obtain ⟨its, r, ⟨o, n, ho, hc, hd, ht⟩, _⟩ := I.list hx
  obtain ⟨its2, r2, ⟨o2, n2, ho2, hc2, hd2, ht2⟩, _⟩ := I.list hy
  have e1 := r.length
  have e2 := r2.length
  obtain ⟨oc, od, dt, sl⟩ := o
  obtain ⟨oc2, od2, dt2, sl2⟩ := o2
  simp only at hc hd ht hc2 hd2 ht2
  subst hc hd ht hc2 hd2 ht2
  have ea : its.toArray ++ its2.toArray = (its ++ its2).toArray := by simp
  refine concat_meets ⟨_, ho, rfl⟩ ⟨_, ho2, rfl⟩ noFill_list_add seq_list_add PySem.F.slot_list_add PySem.F.entry_list_add
    (PySem.F.args_list_add_2 _ _) (list_addW l b its.toArray its2.toArray n n2 none none sl sl2 (by simp only [List.size_toArray]; omega)) ⟨ho, ho2, ?_⟩
  rw [ea]
  exact ⟨.ref _, _, I.lnew (t' := s.toks) (r.append r2) (by rw [List.length_append]; omega), rfl, q _ I.fresh⟩
theorem Same.but {a : Addr} {H0 H H' : Hp} (s : Same H0 H) (n : H0 a = none) (b : SameBut a H H') : Same H0 H' := fun c o e =>
  b c o (s c o e) (ne_of_none e n)
end SH

/-! SH5: a list stored into a slice with open bounds (xs[:] = ys, xs[a:] = ys). -/
namespace SH
open PySem PySem.Spec PyProof.Rows L2
section
variable {prog : Program} {w : World} {A : Around} {E : Value → Shared → Prop} {s : Shared}
theorem store_open {tgt src sl : Addr} {old new : Array Value} {n n2 : Nat} {vl vu : Value} {lo hi : Option Int} {Q : Unit → Shared → Prop}
    (eo : s.heap.get? tgt = some { cls := .type "list", data := .seq old n }) (en : s.heap.get? src = some { cls := .type "list", data := .seq new n2 })
    (ne : tgt ≠ src) (isl : s.heap.IsSliceOf sl vl vu .none) (pl : IsPart vl lo) (pu : IsPart vu hi) (small : old.size + new.size ≤ sizeLine)
    (h : Q () { s with heap := s.heap.update tgt (Obj.mapSeq fun xs => xs.extract 0 (HT.sIx old.size 0 lo) ++ new ++ xs.extract (max (HT.sIx old.size 0 lo) (HT.sIx old.size old.size hi)) xs.size) }) :
    wpAny (model prog w) A (setItem (.ref tgt) (.ref sl) (.ref src)) Q E s := by
  obtain ⟨b1, b2, b3⟩ := slice_bounds lo hi old.size
  have isT := PySem.IsL.isList eo
  have isS := PySem.IsL.isList en
  obtain ⟨os, go, co, fo⟩ := id isl
  have tyS : s.TypeIs (.ref sl) "slice" := ⟨os, go, co⟩
  have li := HT.sIx_le old.size 0 (Nat.zero_le _) lo
  have lj := HT.sIx_le old.size old.size (Nat.le_refl _) hi
  have diff : Builtin.List.listSameRef (.ref tgt) (.ref src) = false := by
    unfold Builtin.List.listSameRef; exact beq_eq_false_iff_ne.mpr ne
  generalize HT.sIx old.size 0 lo = i at *
  generalize HT.sIx old.size old.size hi = j at *
  have mx : (max (i : Int) (j : Int)).toNat = max i j := by omega
  have room : ((fun xs : Array Value => xs.extract 0 i ++ new ++ xs.extract (max i j) xs.size) old).size ≤ sizeLine + 1 := by
    simp only [Array.size_append, Array.size_extract]; omega
  unfold setItem
  try with_reducible refine wpAny_holding ?_
  first | refine wpAny_bind (wpAny_pure ?_) | skip
  refine wpAny_bind (wpAny_sequenceKey isT.typeIs (by decide) ?_)
  refine wpAny_bind (wpAny_callSpecial?_slot (name := Str.ofString "__setitem__") isT.typeIs slot_list_setitem (wpAny_call_entry slot_list_setitem isT.typeIs entry_list_setitem ?_ (args_list_setitem _ _ _)))
  show wpAny _ _ (Builtin.List.listSubscript? (.ref sl) >>= _) _ _ s
  refine wpAny_bind ?_
  unfold Builtin.List.listSubscript?
  refine wpAny_bind (wpAny_specialOf tyS slice_no_index ?_)
  simp only [Option.isNone_none, if_true]
  refine wpAny_pure ?_
  show wpAny _ _ (typeOf (.ref sl) >>= _) _ _ s
  refine wpAny_bind (wpAny_typeOf tyS ?_)
  first | rw [if_neg (by decide)] | refine PySem.W.KFB.if_not (by decide) ?_
  rw [listSliceParts_eq]
  refine wpAny_bind (wpAny_bind (wpAny_field go fo (x := .none) rfl (wpAny_bind (wpAny_listPart .none ?_))))
  rw [if_neg (show ¬ ((rawPart none == rawInt 0) = true) from Bool.false_ne_true)]
  refine wpAny_bind (wpAny_field go fo (x := vl) rfl (wpAny_bind (wpAny_listPart pl ?_)))
  refine wpAny_bind (wpAny_field go fo (x := vu) rfl (wpAny_bind (wpAny_listPart pu (wpAny_pure ?_))))
  first
    | simp only [diff, Bool.false_eq_true, if_false]
    | refine PySem.W.KFB.if_not diff ?_
    | (dsimp only; rw [if_neg (by rw [diff]; exact Bool.false_ne_true)])
  refine wpAny_bind (m := Builtin.List.listAllItems (.ref src) "must assign iterable to extended slice") ?_
  unfold Builtin.List.listAllItems
  refine wpAny_bind (wpAny_typeOf isS.typeIs ?_)
  first | refine PySem.W.KFB.if_so (by decide) ?_ | rw [if_pos (by decide)] | simp only [beq_self_eq_true, Bool.true_or, if_true]
  unfold Builtin.List.listItems
  refine wpAny_bind (wpAny_seqItems en rfl (wpAny_pure ?_))
  refine wpAny_bind (wpAny_bind (wpAny_seqItems eo rfl (wpAny_pure ?_)))
  have bb : sliceBounds lo hi none old.size = ((i : Int), (j : Int), 1) := Prod.ext b1 (Prod.ext b2 b3)
  refine wpAny_bind (wpAny_of_eq ((sliceIndices_raw lo hi none old.size (by simp)).trans (congrArg (pure : Int × Int × Int → Sem (Int × Int × Int)) bb)) ?_)
  show wpAny _ _ (if ((1 : Int) == 1) = true then _ else _) _ _ s
  rw [if_pos (by decide)]
  refine wpAny_bind (wpAny_rule ?_)
  first | simp only [notLongL small, Bool.false_eq_true, if_false] | refine PySem.W.KFB.if_not (notLongL small) ?_
  first | refine wpAny_bind (wpAny_pure ?_) | skip
  show wpAny _ _ (updateSeq tgt (fun xs => xs.extract 0 ((i : Int)).toNat ++ new ++ xs.extract (max (i : Int) (j : Int)).toNat xs.size) >>= _) _ _ s
  rw [mx, Int.toNat_natCast]
  refine wpAny_bind (wpAny_updateSeq (hz := Nat.le_trans (Nat.le_add_right _ _) small) (_hz' := room) eo rfl ?_)
  refine wpAny_bind (wpAny_letGo ?_)
  first
    | exact wpAny_bind (wpAny_pure (wpAny_pure ⟨.none, rfl, wpAny_pure h⟩))
    | exact wpAny_pure ⟨.none, rfl, wpAny_pure h⟩
end
/-- ys stored into xs[lo:hi] -/
def rStore : V → Option Int → Option Int → V → Hp → (Hp → Prop) → Prop := fun o lo hi v H Q => ∃ (l b : Addr) (xs ys : List V), o = .ref l ∧ v = .ref b ∧ l ≠ b ∧ H l = some (.lst xs) ∧ H b = some (.lst ys) ∧
  xs.length + ys.length ≤ sizeLine ∧ Q (upd H l (.lst (xs.take (HT.sIx xs.length 0 lo) ++ ys ++ xs.drop (max (HT.sIx xs.length 0 lo) (HT.sIx xs.length xs.length hi)))))
def gStore (to : TE) (tl th : TO) : TG := fun v σ H Q => to σ H fun o H1 => tl σ H1 fun lo H2 => th σ H2 fun hi H3 => rStore o lo hi v H3 fun H4 => Q σ H4
section
variable {X : Cx} {o : Expr} {to : TE} {lo hi : Option Expr} {tl th : TO} {p2 pos : Pos}
theorem pg_store (ho : PE X o to) (hl : PO X lo tl) (hu : PO X hi th)
    (ha : ∀ v, assign (.Subscript o (.Slice lo hi none p2) pos) X.env v = (do
      let ov ← holding [v] (eval o X.env)
      let iv ← holding [v, ov] (eval (.Slice lo hi none p2) X.env)
      standAt pos
      holding [v, ov, iv] (setItem ov iv v)
      release [iv, v, ov] []) := by intro _; rfl) : PG X (.Subscript o (.Slice lo hi none p2) pos) (gStore to tl th) := by
  refine ⟨fun pins s σ H v u Q I r h => ?_⟩
  rw [ha]
  refine wpAny_bind (wpAny_holding (thn (ho.run pins s σ H _ I h) fun ov s1 ⟨x, H1, I1, r1, q1⟩ => ?_))
  refine wpAny_bind (wpAny_holding (wpAny_Slice (thn (hl.run pins s1 σ H1 _ I1 q1) fun vl s2 ⟨l, H2, I2, pl, q2⟩ => thn (hu.run pins s2 σ H2 _ I2 q2) fun vu s3 ⟨u', H3, I3, pu, q3⟩ => ?_)))
  rw [evalPart_none]
  refine wpAny_pure ?_
  have I4 : Inv X pins σ H3 { s3 with heap := s3.heap.push { cls := .type "slice", data := .fields #[vl, vu, .none] } } := I3.kept (t' := s3.toks) fun b ob q => Heap.get?_push_of_some _ q
  refine wpAny_bind (wpAny_standAt (wpAny_bind (wpAny_holding ?_)))
  obtain ⟨a, b, xs, ys, rfl, rfl, ne, ea, eb, sm, q⟩ := q3
  cases r1
  cases r
  obtain ⟨z, its, n, rr, hl1, e⟩ := I4.lstM ea
  obtain ⟨z2, its2, n2, rr2, hl2, e2⟩ := I4.lstM eb
  have k1 := rr.length
  have k2 := rr2.length
  refine store_open e e2 ne (Heap.IsSliceOf.new ..) pl pu (by rw [List.size_toArray, List.size_toArray]; omega) ?_
  refine wpAny_release ⟨σ, _, ?_, q⟩
  rw [List.size_toArray, ← k1]
  refine I4.lset (its' := its.take (HT.sIx xs.length 0 l) ++ its2 ++ its.drop (max (HT.sIx xs.length 0 l) (HT.sIx xs.length xs.length u'))) (t' := _) ea e ?_ (Vals.append (Vals.append (rr.take _) rr2) (rr.drop _)) ?_
  · exact splice_eq its its2 _ _
  · rw [List.length_append, List.length_append, List.length_take, List.length_drop]
    omega
end
end SH

/-! SH6: comprehensions over enumerate and lists whose turns change nothing that is tracked. -/
namespace SH
open PySem PySem.Spec PyProof.Rows L2
theorem if_any {b : Bool} {A B : TE} {σ : L2.St} {H : Hp} {Q : VK} (Inv : V → Hp → Prop) (ha : b = true → ∀ Q' : VK, (∀ v H', Inv v H' → Q' v H') → A σ H Q')
    (hb : b = false → ∀ Q' : VK, (∀ v H', Inv v H' → Q' v H') → B σ H Q') (h : ∀ v H', Inv v H' → Q v H') : if b = true then A σ H Q else B σ H Q := by
  cases b with
  | true => rw [if_pos rfl]; exact ha rfl Q h
  | false => rw [if_neg Bool.false_ne_true]; exact hb rfl Q h
theorem Same.at {H H' : Hp} {a : Addr} {o : HO} (s : Same H H') (n : H a = none) : Same H (upd H' a o) := fun b u e => by
  rw [upd_ne (ne_of_none e n)]; exact s b u e
theorem while_cut {tc : TT} {tb : TS} {D : Ends} {σ : L2.St} {H : Hp} (Exit : L2.St → Hp → Prop) (main : ∀ σ' H', Exit σ' H' → D.nx σ' H')
    (h : (∀ σ' H', Exit σ' H' → D.nx σ' H') → tWhile tc tb D σ H) : tWhile tc tb D σ H := h main
section
variable {K : PySem.W.Frag} {tt : TT} {te : TE} {vs : List Nat} {σ : L2.St} {H : Hp} {D : Addr} {Qd : Hp → Prop}
/-- a turn's end, the heap told by Same -/
theorem lc_turnS {n : Nat} {keep : Nat → Bool} {val : Nat → V} {i : Nat} {σ2 : L2.St} {H2 : Hp} (hD : H D = none) (hi : i < n) (hn : n < 100000) (s2 : Same H H2)
    (h2 : H2 D = some (.lst (gives i keep val)))
    (ht : ∀ Q : Bool → Hp → Prop, (∀ H3, Same H2 H3 → Q (keep i) H3) → tt σ2 H2 Q)
    (he : ∀ H3, Same H2 H3 → ∀ Q : VK, keep i = true → (∀ H4, Same H3 H4 → Q (val i) H4) → te σ2 H3 Q) :
    tt σ2 H2 fun b H3 => if b = true then te σ2 H3 fun y H4 => ∃ acc, H4 D = some (.lst acc) ∧ acc.length < sizeLine ∧
      (Same H (upd H4 D (.lst (acc ++ [y]))) ∧ (upd H4 D (.lst (acc ++ [y]))) D = some (.lst (gives (i + 1) keep val)))
      else (Same H H3 ∧ H3 D = some (.lst (gives (i + 1) keep val))) := by
  refine ht _ fun H3 s3 => ?_
  by_cases h : keep i = true
  · rw [h]
    refine iteT (he H3 s3 _ h fun H4 s4 => ⟨_, s4 _ _ (s3 _ _ h2), small_line (by have := gives_len i keep val; omega), Same.at ((s2.trans s3).trans s4) hD, ?_⟩)
    rw [upd_same, gives_succ, if_pos h]
  · have h' : keep i = false := by cases e : keep i <;> simp_all
    rw [h']
    refine iteF ⟨s2.trans s3, ?_⟩
    rw [gives_succ, if_neg h]
    exact s3 _ _ h2
/-- [.. for i, x in enumerate(xs) ..] -/
theorem lcEn {a : Addr} {xs : List V} {j1 j2 : Nat} (keep : Nat → Bool) (val : Nat → V) (hx : SqL K H a xs) (hD : H D = none) (hn : xs.length < 100000)
    (hw : ∀ x y, wipe (((wipe σ vs).set j1 (some x)).set j2 (some y)) vs = wipe σ vs)
    (ht : ∀ i x H2 (Q : Bool → Hp → Prop), xs[i]? = some x → Same H H2 → (∀ H3, Same H2 H3 → Q (keep i) H3) → tt (((wipe σ vs).set j1 (some (.int (i : Nat)))).set j2 (some x)) H2 Q)
    (he : ∀ i x H2 (Q : VK), xs[i]? = some x → keep i = true → Same H H2 → (∀ H3, Same H2 H3 → Q (val i) H3) → te (((wipe σ vs).set j1 (some (.int (i : Nat)))).set j2 (some x)) H2 Q)
    (hd : ∀ H', Same H H' → H' D = some (.lst (gives xs.length keep val)) → Qd H') :
    ∃ W : Nat → Nat → Hp → Prop, (∃ m, W 0 m (upd H D (.lst []))) ∧ ∀ i m H, W i m H →
      ((Ite K a).stop i H ∧ Qd H) ∨ ((Ite K a).go i H ∧ ∃ Nx : Hp → Prop, (∀ H', Nx H' → ∃ m', m' < m ∧ W (i + 1) m' H') ∧
        ∀ x H', (Ite K a).yld i H x H' → gTup K 2 (gCons (gName j1) (gCons (gName j2) gNil)) x (wipe σ vs) H' fun σ2 H2 => wipe σ2 vs = wipe σ vs ∧ tt σ2 H2 fun b H3 =>
          if b = true then te σ2 H3 fun y H4 => ∃ acc, H4 D = some (.lst acc) ∧ acc.length < sizeLine ∧ Nx (upd H4 D (.lst (acc ++ [y]))) else Nx H3) := by
  refine ⟨fun i m H' => m = xs.length - i ∧ i ≤ xs.length ∧ Same H H' ∧ H' D = some (.lst (gives i keep val)), ⟨_, rfl, Nat.zero_le _, Same.new hD, upd_same⟩, ?_⟩
  rintro i m H2 ⟨rfl, hi, s2, h2⟩
  have hq := s2.seq hx
  rcases Nat.lt_or_ge i xs.length with lt | ge
  · refine .inr ⟨⟨xs, xs[i], hq, List.getElem?_eq_getElem lt⟩, fun H' => Same H H' ∧ H' D = some (.lst (gives (i + 1) keep val)), fun H' p' => ⟨xs.length - (i + 1), by omega, rfl, lt, p'.1, p'.2⟩, ?_⟩
    rintro v H' ⟨T, x, rfl, hT, rfl, f⟩
    have sT : Same H (upd H2 T (.tup [.int (i : Nat), x])) := s2.trans (Same.new hT)
    have hTD := Same.new (o := .tup [.int (i : Nat), x]) hT _ _ h2
    refine ⟨T, _, rfl, SqT.of upd_same, rfl, _, _, rfl, _, _, rfl, rfl, hw _ _, ?_⟩
    exact lc_turnS hD lt hn sT hTD (fun Q q => ht i x _ Q (f xs hq) sT q) (fun H3 s3 Q k q => he i x H3 Q (f xs hq) k (sT.trans s3) q)
  · obtain rfl : i = xs.length := Nat.le_antisymm hi ge
    exact .inl ⟨⟨xs, hq, Nat.le_refl _⟩, hd H2 s2 h2⟩
/-- [.. for x in xs ..] whose turns may make things -/
theorem lcLn {a : Addr} {xs : List V} {j : Nat} (keep : Nat → Bool) (val : Nat → V) (hx : SqL K H a xs) (hD : H D = none) (hn : xs.length < 100000)
    (hw : ∀ x, wipe ((wipe σ vs).set j (some x)) vs = wipe σ vs)
    (ht : ∀ i x H2 (Q : Bool → Hp → Prop), xs[i]? = some x → Same H H2 → (∀ H3, Same H2 H3 → Q (keep i) H3) → tt ((wipe σ vs).set j (some x)) H2 Q)
    (he : ∀ i x H2 (Q : VK), xs[i]? = some x → keep i = true → Same H H2 → (∀ H3, Same H2 H3 → Q (val i) H3) → te ((wipe σ vs).set j (some x)) H2 Q)
    (hd : ∀ H', Same H H' → H' D = some (.lst (gives xs.length keep val)) → Qd H') :
    ∃ W : Nat → Nat → Hp → Prop, (∃ m, W 0 m (upd H D (.lst []))) ∧ ∀ i m H, W i m H →
      ((Itl K a).stop i H ∧ Qd H) ∨ ((Itl K a).go i H ∧ ∃ Nx : Hp → Prop, (∀ H', Nx H' → ∃ m', m' < m ∧ W (i + 1) m' H') ∧
        ∀ x H', (Itl K a).yld i H x H' → gName j x (wipe σ vs) H' fun σ2 H2 => wipe σ2 vs = wipe σ vs ∧ tt σ2 H2 fun b H3 =>
          if b = true then te σ2 H3 fun y H4 => ∃ acc, H4 D = some (.lst acc) ∧ acc.length < sizeLine ∧ Nx (upd H4 D (.lst (acc ++ [y]))) else Nx H3) :=
  lc_list (xs := xs) (fun i H2 => Same H H2 ∧ H2 D = some (.lst (gives i keep val))) ⟨Same.new hD, upd_same⟩
    (fun i H2 hi e => e.1.seq hx)
    (fun i x H2 hi e => ⟨hw _, lc_turnS hD (List.getElem?_eq_some_iff.mp hi).1 hn e.1 e.2 (fun Q q => ht i x H2 Q hi e.1 q) (fun H3 s3 Q k q => he i x H3 Q hi k (e.1.trans s3) q)⟩)
    (fun H2 e => hd H2 e.1 e.2)
/-- [.. for i in range(lo, lo + n) ..] whose turns may make things -/
theorem lcRn {lo : Int} {n j : Nat} (keep : Nat → Bool) (val : Nat → V) (hD : H D = none) (hn : n < 100000)
    (hw : ∀ x, wipe ((wipe σ vs).set j (some x)) vs = wipe σ vs)
    (ht : ∀ i H2 (Q : Bool → Hp → Prop), i < n → Same H H2 → (∀ H3, Same H2 H3 → Q (keep i) H3) → tt ((wipe σ vs).set j (some (.int (lo + (i : Nat))))) H2 Q)
    (he : ∀ i H2 (Q : VK), i < n → keep i = true → Same H H2 → (∀ H3, Same H2 H3 → Q (val i) H3) → te ((wipe σ vs).set j (some (.int (lo + (i : Nat))))) H2 Q)
    (hd : ∀ H', Same H H' → H' D = some (.lst (gives n keep val)) → Qd H') :
    ∃ W : Nat → Nat → Hp → Prop, (∃ m, W 0 m (upd H D (.lst []))) ∧ ∀ i m H, W i m H →
      ((Itr lo n).stop i H ∧ Qd H) ∨ ((Itr lo n).go i H ∧ ∃ Nx : Hp → Prop, (∀ H', Nx H' → ∃ m', m' < m ∧ W (i + 1) m' H') ∧
        ∀ x H', (Itr lo n).yld i H x H' → gName j x (wipe σ vs) H' fun σ2 H2 => wipe σ2 vs = wipe σ vs ∧ tt σ2 H2 fun b H3 =>
          if b = true then te σ2 H3 fun y H4 => ∃ acc, H4 D = some (.lst acc) ∧ acc.length < sizeLine ∧ Nx (upd H4 D (.lst (acc ++ [y]))) else Nx H3) :=
  lc_range (fun i H2 => Same H H2 ∧ H2 D = some (.lst (gives i keep val))) ⟨Same.new hD, upd_same⟩
    (fun i H2 hi e => ⟨hw _, lc_turnS hD hi hn e.1 e.2 (fun Q q => ht i H2 Q hi e.1 q) (fun H3 s3 Q k q => he i H3 Q hi k (e.1.trans s3) q)⟩)
    (fun H2 e => hd H2 e.1 e.2)
/-- [.. for a, b in zip(xs, ys) ..], lists of any lengths, whose turns may make things -/
theorem lcZn {a b : Addr} {xs ys : List V} {j1 j2 : Nat} (keep : Nat → Bool) (val : Nat → V) (hx : SqL K H a xs) (hy : SqL K H b ys) (hD : H D = none) (hn : xs.length < 100000)
    (hw : ∀ x y, wipe (((wipe σ vs).set j1 (some x)).set j2 (some y)) vs = wipe σ vs)
    (ht : ∀ i x y H2 (Q : Bool → Hp → Prop), xs[i]? = some x → ys[i]? = some y → Same H H2 → (∀ H3, Same H2 H3 → Q (keep i) H3) → tt (((wipe σ vs).set j1 (some x)).set j2 (some y)) H2 Q)
    (he : ∀ i x y H2 (Q : VK), xs[i]? = some x → ys[i]? = some y → keep i = true → Same H H2 → (∀ H3, Same H2 H3 → Q (val i) H3) → te (((wipe σ vs).set j1 (some x)).set j2 (some y)) H2 Q)
    (hd : ∀ H', Same H H' → H' D = some (.lst (gives (min xs.length ys.length) keep val)) → Qd H') :
    ∃ W : Nat → Nat → Hp → Prop, (∃ m, W 0 m (upd H D (.lst []))) ∧ ∀ i m H, W i m H →
      ((Itz K a b).stop i H ∧ Qd H) ∨ ((Itz K a b).go i H ∧ ∃ Nx : Hp → Prop, (∀ H', Nx H' → ∃ m', m' < m ∧ W (i + 1) m' H') ∧
        ∀ x H', (Itz K a b).yld i H x H' → gTup K 2 (gCons (gName j1) (gCons (gName j2) gNil)) x (wipe σ vs) H' fun σ2 H2 => wipe σ2 vs = wipe σ vs ∧ tt σ2 H2 fun b H3 =>
          if b = true then te σ2 H3 fun y H4 => ∃ acc, H4 D = some (.lst acc) ∧ acc.length < sizeLine ∧ Nx (upd H4 D (.lst (acc ++ [y]))) else Nx H3) := by
  refine ⟨fun i m H' => m = min xs.length ys.length - i ∧ i ≤ min xs.length ys.length ∧ Same H H' ∧ H' D = some (.lst (gives i keep val)), ⟨_, rfl, Nat.zero_le _, Same.new hD, upd_same⟩, ?_⟩
  rintro i m H2 ⟨rfl, hi, s2, h2⟩
  have qx := s2.seq hx
  have qy := s2.seq hy
  rcases Nat.lt_or_ge i (min xs.length ys.length) with lt | ge
  · have lx : i < xs.length := by omega
    have ly : i < ys.length := by omega
    refine .inr ⟨⟨xs, ys, xs[i], ys[i], qx, qy, List.getElem?_eq_getElem lx, List.getElem?_eq_getElem ly⟩, fun H' => Same H H' ∧ H' D = some (.lst (gives (i + 1) keep val)),
      fun H' p' => ⟨min xs.length ys.length - (i + 1), by omega, rfl, lt, p'.1, p'.2⟩, ?_⟩
    rintro v H' ⟨T, x, y, rfl, hT, rfl, fx, fy⟩
    have sT : Same H (upd H2 T (.tup [x, y])) := s2.trans (Same.new hT)
    have hTD := Same.new (o := .tup [x, y]) hT _ _ h2
    refine ⟨T, _, rfl, SqT.of upd_same, rfl, _, _, rfl, _, _, rfl, rfl, hw _ _, ?_⟩
    exact lc_turnS hD lx hn sT hTD (fun Q q => ht i x y _ Q (fx xs qx) (fy ys qy) sT q) (fun H3 s3 Q k q => he i x y H3 Q (fx xs qx) (fy ys qy) k (sT.trans s3) q)
  · obtain rfl : i = min xs.length ys.length := Nat.le_antisymm hi ge
    refine .inl ⟨⟨xs, ys, qx, qy, ?_⟩, hd H2 s2 h2⟩
    rcases Nat.le_total xs.length ys.length with c | c
    · exact .inl (by omega)
    · exact .inr (by omega)
end
end SH

/-! SH7: set(xs) of a list of hin, and sorted of such a set, any number of members below the table's bound. -/
namespace SH
open PySem PySem.Spec PyProof.Rows L2
/-- the object that set() makes -/
abbrev setO0 (w : World) : Obj :=
  { cls := .type "set", dict := none, data := .set #[] 0 (.fresh 0 0 (!w.params.followText "set-order")) }
section
variable {P : Program} {w : World} {A : Around} {E : Value → Shared → Prop} {s : Shared}
set_option maxHeartbeats 3200000 in
theorem set_of_list {l : Addr} {xs : Array Value} (ns : List Int) {Q : Value → Shared → Prop} (calm : A.handled = none)
    (isl : s.heap.IsList l xs) (hin : IntsAre xs.toList ns) (few : ns.length + 1 < scanBound)
    (h : ∀ (g : Heap) (tk c : Nat), SetR w g s.heap.objs.size (fun j => decide (j ∈ ns)) c → c ≤ ns.length →
      (∀ b o, s.heap.get? b = some o → g.get? b = some o) →
      Q (.ref s.heap.objs.size) { s with heap := g, toks := tk }) :
    wpAny (model P w) A (call (.type "set") [.ref l]) Q E s := by
  have size : xs.size = ns.length := by rw [← Array.length_toList]; exact IntsAre.length hin
  obtain ⟨_, _, m1⟩ := F.called_set.mro
  have m2 := F.called_set.made
  have m3 := F.called_set.sub
  refine wpAny_call (codeAny_of_tree (show wpAny _ _ (callAny (.type "set") _) _ _ _ from ?_))
  refine wpAny_pure ⟨Code.quiet_builtin _ (by decide +kernel),
    codeAny_builtin F.entry_type_call ?_⟩
  rw [Around.under_plain (weight_type_call_type "set"
    [.ref l] []) rfl]
  have m4 := F.called_set.notType
  have m5 := F.called_set.canCreate
  have m6 := F.typeCall_set_1 (.ref l)
  repeat (any_goals (first | wp_step | assumption))
  refine codeAny_mono (code_set_led1 (.ref l) (E := E)
    (Q₁ := fun ob t => ob = .ref s.heap.objs.size ∧ t = { s with heap := s.heap.push (setO0 w) }) ⟨rfl, rfl⟩)
    fun res t made => ?_
  cases res with
  | error e => exact made
  | ok fl =>
  cases fl with
  | ret ob =>
    obtain ⟨rfl, rfl⟩ := made
    have at0 : (s.heap.push (setO0 w)).get? s.heap.objs.size = some (setO0 w) := Heap.get?_push_size _ rfl
    have ty0 : Shared.TypeIs { s with heap := s.heap.push (setO0 w) } (.ref s.heap.objs.size) "set" := ⟨_, at0, rfl⟩
    have m7 := F.called_set.init.lookup
    have m8 := F.called_set.init.bind (.ref s.heap.objs.size)
    repeat (any_goals (first | wp_step | assumption))
    refine codeAny_mono (codeAny_call_builtin (R := wants (fun r t => r = .none ∧ ∃ g tk c, t = { s with heap := g, toks := tk } ∧
        SetR w g s.heap.objs.size (fun j => decide (j ∈ ns)) c ∧ c ≤ ns.length ∧ ∀ b o, s.heap.get? b = some o → g.get? b = some o) E)
      F.called_set.init.plain F.entry_set_init (check_set_init_1 ty0 ?_)) fun res2 t2 done => ?_
    · obtain ⟨ol, lk, cl, en, dl⟩ := isl
      obtain ⟨c1, d1, x1, sl1⟩ := ol
      simp only at cl dl
      subst cl dl
      have lk' : (s.heap.push (setO0 w)).get? l = some { cls := .type "list", dict := d1, data := .seq xs en, slots := sl1 } :=
        Heap.get?_push_of_some _ lk
      have u1 := F.sub_list_set
      have u2 := F.sub_list_frozenset
      have u3 : (Value.type "list" == Value.type "dict") = false := by decide
      have isl1 : (s.heap.push (setO0 w)).IsList l xs := ⟨_, lk', rfl, en, rfl⟩
      unfold Builtin.«set.__init__» noKeywords
      unfold Builtin.Frozenset.updateFrom
      generalize iterE : pyIter = itf
      wp_walk
      subst iterE
      refine wpAny_pyIter_list isl1 (wpAny_bind (wpAny_runValue ?_))
      have lt : l < s.heap.objs.size := Heap.lt_size lk
      have calm3 : A.in1.in1.in1.handled = none := by simp [calm]
      have sz : (s.heap.push (setO0 w)).objs.size = s.heap.objs.size + 1 := Heap.size_push ..
      have ne1 : l ≠ (s.heap.push (setO0 w)).objs.size := by rw [sz]; exact Nat.ne_of_lt (Nat.lt_succ_of_lt lt)
      have ne2 : s.heap.objs.size ∉ [(s.heap.push (setO0 w)).objs.size, l] := by
        rw [sz]
        simp only [List.mem_cons, List.not_mem_nil, or_false, not_or]
        exact ⟨Nat.ne_of_lt (Nat.lt_succ_self _), Ne.symm (Nat.ne_of_lt lt)⟩
      have vals : ∀ (i : Nat) (v : Value), xs[i]? = some v → ∃ k t, ns[i]? = some k ∧ v = .int k t := fun i v e => by
        have il : i < ns.length := by rw [← size]; exact (Array.getElem?_eq_some_iff.mp e).1
        obtain ⟨t, et⟩ := IntsAre.int_at hin i v (by rw [Array.getElem?_toList]; exact e)
        refine ⟨ns.getD i 0, t, ?_, et⟩
        rw [List.getD_eq_getElem?_getD, List.getElem?_eq_getElem il]
        rfl
      refine set_update_ints ((Walks.list calm3 _ l ne1 xs).toS) s.heap.objs.size ne2 ns size few vals (xs.size - 0) 0 _ (by omega)
        (Nat.zero_le _) ⟨⟨_, Heap.get?_push_size _ rfl, rfl, rfl⟩, isl1.push _⟩ ⟨0, Nat.le_refl 0, ?_⟩ ?_
      · exact setR_new_at (Heap.get?_push_of_some _ at0)
      · intro t c mv cl1 R
        obtain ⟨g, gens, drawn, tk, os⟩ := t
        obtain rfl : gens = s.gens := mv.gens
        obtain rfl : drawn = s.drawn := mv.drawn
        obtain rfl : os = s.os := mv.os
        refine wpAny_pure (show wpAny _ _ (ret Value.none) _ _ _ from ?_)
        rw [size] at cl1
        refine wpAny_pure ⟨rfl, g, tk, c, rfl, R, cl1, fun b o e => mv.heap b o ?_ ?_⟩
        · have lb : b < s.heap.objs.size := Heap.lt_size e
          rw [sz]
          simp only [List.mem_cons, List.not_mem_nil, or_false, not_or]
          exact ⟨Nat.ne_of_lt lb, Nat.ne_of_lt (Nat.lt_succ_of_lt lb)⟩
        · exact Heap.get?_push_of_some _ (Heap.get?_push_of_some _ e)
    · cases res2 with
      | error e => exact done
      | ok fl2 =>
      cases fl2 with
      | ret r =>
        obtain ⟨rfl, g, tk, c, rfl, R, cl1, kp⟩ := done
        repeat (any_goals (first | wp_step | assumption))
        exact h _ _ _ R cl1 kp
      | _ => exact done.elim
  | _ => exact made.elim
theorem set_sorted {a : Addr} {S : Int → Bool} {n : Nat} {Q : Value → Shared → Prop} (R : SetR w s.heap a S n) (calm : A.handled = none)
    (h : ∀ t p (out : Array Value) (c : Nat) (ns : List Int), (∀ b o, s.heap.get? b = some o → t.heap.get? b = some o) → t.gens = s.gens → t.os = s.os →
      s.heap.objs.size ≤ p → t.heap.get? p = some (seqObj "list" out c) → IntsAre out.toList ns → ns.Pairwise (· < ·) →
      (∀ k, k ∈ ns ↔ S k = true) → ns.length = n → Q (.ref p) t) :
    wpAny (model P w) A (call (.builtin "sorted") [.ref a]) Q E s := by
  obtain ⟨ob, es, ep, tb, look, exact', dat, good, dis, mem, bnd, fits, cnt, ris, led⟩ := R
  refine Calls.call_function_entry kind_sorted plain_sorted entry_sorted (args_sorted1 _) ?_
  unfold Builtin.«sorted»
  refine wpAny_bind (m := checkCount "sorted" 1 1 _) (wpAny_pure (wpAny_bind (collect_set (A := A.in1) calm ⟨ob, look, exact'.1, dat⟩ fits bnd ris led
    fun t1 vs kp grow gn osn perm => ?_)))
  have lenV : vs.length = n := by rw [perm.length_eq, List.length_map, Array.length_toList]; exact cnt
  have intsV : IntsAre vs (vs.map Builtin.Re.reRawOf) := ints_of vs fun v hv => by
    obtain ⟨e, he, rfl⟩ := List.mem_map.mp (perm.mem_iff.mp hv)
    obtain ⟨k, tk, x, _⟩ := good e he
    exact ⟨k, tk, x⟩
  have permK : (vs.map Builtin.Re.reRawOf).Perm (es.toList.map keyOf) := by
    have := perm.map Builtin.Re.reRawOf
    rwa [List.map_map] at this
  have small : vs.length ≤ sizeLine := by
    have : scanBound = 4096 := rfl
    rw [lenV, sizeLine_eq]
    omega
  refine wpAny_bind (wpAny_newList ?_ small)
  have look2 : (t1.heap.push (seqObj "list" vs.toArray 0)).get? t1.heap.objs.size = some (seqObj "list" vs.toArray 0) :=
    Heap.get?_push_size _ rfl
  refine wpAny_bind (wpAny_holding (wpAny_call_entry slot_list_sort ⟨_, look2, rfl⟩ entry_list_sort
    (SrtO.list_sort_ord SrtO.swo_int look2 small (fun two => SrtO.ints_sortable intsV two) fun out o1 o2 => ⟨_, rfl, ?_⟩) (args_list_sort _)))
  obtain ⟨k1, k2, k3⟩ := SrtO.ints_out intsV o1 o2
  obtain ⟨c, ec⟩ := sortedHeap_at (vs := vs) (out := out.toArray) look2
  have pn : (out.map SrtO.iv).Perm (es.toList.map keyOf) := k2.trans permK
  refine wpAny_pure ⟨_, rfl, h _ t1.heap.objs.size out.toArray c (out.map SrtO.iv) (fun b u e => ?_) gn osn grow ec k1
    (lt_of_le_nodup _ k3 (pn.nodup_iff.mpr dis)) (fun k => by rw [pn.mem_iff, ← mem k]) ?_⟩
  · have e1 := kp b u e
    have lb : b < t1.heap.objs.size := Heap.lt_size e1
    have lb2 : b ≠ t1.heap.objs.size := Nat.ne_of_lt lb
    show (sortedHeap (t1.heap.push (seqObj "list" vs.toArray 0)) t1.heap.objs.size vs out.toArray).get? b = some u
    rw [sortedHeap_old lb2 (by rw [size_push']; exact Nat.lt_succ_of_lt lb)]
    exact Heap.get?_push_of_some _ e1
  · rw [pn.length_eq, List.length_map, Array.length_toList]
    exact cnt
end
/-- set(xs) -/
def rSetOfI (K : PySem.W.Frag) (w : World) : List V → Hp → VK → Prop := fun xs H Q => ∃ (l : Addr) (ns : List Int), xs = [.ref l] ∧ SqL K H l (iv ns) ∧ ns.length < 4000 ∧
  ∀ a n, H a = none → n ≤ ns.length → Q (.ref a) (upd H a (SetO w a (fun j => decide (j ∈ ns)) n))
theorem cr_setOfI {X : Cx} (hc : X.calm = true) : CallR X (.type "set") (rSetOfI X.K X.w) := by
  intro pins s σ H xs us Q I r h
  obtain ⟨l, ns, rfl, hl, hf, q⟩ := h
  rw [Vals.ref1 r]
  obtain ⟨its, rv, pl, hz⟩ := I.list hl
  have hn : H s.heap.objs.size = none := I.hok.fresh (Nat.le_refl _)
  refine set_of_list (P := X.prog) (w := X.w) ns (I.ok.hd hc) pl.isList (by simpa using ints_of_vals rv) (by have : scanBound = 4096 := rfl; omega) fun g tk c R cl kp => ?_
  exact ⟨.ref s.heap.objs.size, upd H s.heap.objs.size (SetO X.w s.heap.objs.size (fun j => decide (j ∈ ns)) c), I.laid (t' := tk) kp (Nat.le_refl _) (setO_new R), rfl, q _ c hn cl⟩
/-- sorted(found), any number of members -/
def rSortedN (w : World) : List V → Hp → VK → Prop := fun vs H Q => ∃ (a : Addr) (S : Int → Bool) (n : Nat), vs = [V.ref a] ∧ H a = some (SetO w a S n) ∧
  ∀ (ns : List Int) (p : Addr), ns.Pairwise (· < ·) → (∀ k : Int, k ∈ ns ↔ S k = true) → ns.length = n → H p = none → Q (.ref p) (upd H p (.lst (iv ns)))
theorem cr_sortedN {X : Cx} (hc : X.calm = true) : CallR X (.builtin "sorted") (rSortedN X.w) := by
  intro pins s σ H vs us Q I r h
  obtain ⟨a, S, n, rfl, ha, q⟩ := h
  have R := setO_get I ha
  rw [Vals.ref1 r]
  have nb : n < scanBound := by obtain ⟨_, es, _, _, _, _, _, _, _, _, b, _, e, _⟩ := R; omega
  refine set_sorted R (I.ok.hd hc) fun t p out c ns kp gn osn hp look hin asc mem len => ?_
  have small : (iv ns).length ≤ sizeLine := by
    have : scanBound = 4096 := rfl
    rw [List.length_map, len, sizeLine_eq]
    omega
  have hn : H p = none := I.hok.fresh hp
  have J : Inv X pins σ (upd H p (.lst (iv ns))) { s with heap := t.heap, gens := t.gens, drawn := t.drawn, toks := t.toks } :=
    I.call (ch := []) (Un.laid kp hp hn) (I.hok.laid kp hp ⟨small, out.toList, c, vals_of_ints hin, look⟩)
      (by rw [gn]; exact I.bare) (fun _ z => nomatch z)
  have e : t = { s with heap := t.heap, gens := t.gens, drawn := t.drawn, toks := t.toks } := by
    cases t; cases s; cases osn; rfl
  rw [e]
  exact ⟨.ref p, _, J, rfl, q ns p asc mem len hn⟩
end SH

/-! SH8: sorted(xs) of a list of ints, any length below 4000. -/
namespace SH
open PySem PySem.Spec PyProof.Rows L2
def rSortedAny (K : PySem.W.Frag) : List V → Hp → VK → Prop := fun vs H Q => ∃ (a : Addr) (ns : List Int), vs = [V.ref a] ∧ SqL K H a (ns.map V.int) ∧ ns.length < 4000 ∧
  ∀ (ns' : List Int) (p : Addr), ns'.Perm ns → ns'.Pairwise (· ≤ ·) → H p = none → Q (.ref p) (upd H p (.lst (ns'.map V.int)))
section
variable {X : Cx}
theorem cr_sortedAny : CallR X (.builtin "sorted") (rSortedAny X.K) := by
  intro pins s σ H vs us Q I r h
  obtain ⟨a, ns, rfl, hs, h64, q⟩ := h
  obtain ⟨its, rv, hl, _⟩ := I.list hs
  rw [Vals.ref1 r]
  have hi := rv.ints
  have hb : its.length ≤ sizeLine := by rw [hi.length, sizeLine_eq]; omega
  refine PyProof.Rows.sorted_intsAny hl.isList hi hb fun out ns' h1 h2 h3 => ?_
  obtain ⟨ep, he'⟩ := PyProof.Rows.sortedAll_at s.heap its out
  have hlen : (ns'.map V.int).length ≤ sizeLine := by rw [List.length_map, h2.length_eq, sizeLine_eq]; omega
  exact ⟨.ref _, upd H (s.heap.objs.size + 1) (.lst (ns'.map V.int)), I.laid (t' := s.toks) (fun _ _ => PyProof.Rows.sortedAll_old) (Nat.le_succ _) ⟨hlen, out.toList, ep, vals_of_ints h1, he'⟩, rfl, q ns' _ h2 h3 (I.hok.fresh (Nat.le_succ _))⟩
end
end SH

/-! SH9: values of any kind: data that stands in the heap, its repr, its type. -/
namespace SH
open PySem PySem.Spec PyProof.Rows L2

mutual
inductive Dx (H : Hp) : V → PyData → List Addr → Prop
  | non : Dx H .non .none []
  | bl (b : Bool) : Dx H (.bl b) (.bool b) []
  | int (i : Int) : Dx H (.int i) (.int i) []
  | str (x : Str) : Dx H (.str x) (.str x) []
  | lst {a : Addr} {xs : List V} {ds : List PyData} {as : List Addr} : H a = some (.lst xs) → DxAll H xs ds as → Dx H (.ref a) (.list ds) (a :: as)
  | tup {a : Addr} {xs : List V} {ds : List PyData} {as : List Addr} : H a = some (.tup xs) → DxAll H xs ds as → Dx H (.ref a) (.tuple ds) (a :: as)
  | emp {a : Addr} : H a = some (.dK []) → Dx H (.ref a) (.dict []) [a]
inductive DxAll (H : Hp) : List V → List PyData → List Addr → Prop
  | nil : DxAll H [] [] []
  | cons {v : V} {vs : List V} {d : PyData} {ds : List PyData} {as bs : List Addr} : Dx H v d as → DxAll H vs ds bs → DxAll H (v :: vs) (d :: ds) (as ++ bs)
end
mutual
theorem Dx.imp {H H' : Hp} : ∀ {d : PyData} {v : V} {as : List Addr}, Dx H v d as → (∀ a ∈ as, ∀ o, H a = some o → H' a = some o) → Dx H' v d as
  | .none, _, _, h, k => by cases h; exact .non
  | .bool b, _, _, h, k => by cases h; exact .bl b
  | .int i, _, _, h, k => by cases h; exact .int i
  | .str x, _, _, h, k => by cases h; exact .str x
  | .list ds, _, _, h, k => by
    cases h with
    | lst e r => exact .lst (k _ List.mem_cons_self _ e) (DxAll.imp r fun a m => k a (List.mem_cons_of_mem _ m))
  | .tuple ds, _, _, h, k => by
    cases h with
    | tup e r => exact .tup (k _ List.mem_cons_self _ e) (DxAll.imp r fun a m => k a (List.mem_cons_of_mem _ m))
  | .dict _, _, _, h, k => by
    cases h with
    | emp e => exact .emp (k _ List.mem_cons_self _ e)
theorem DxAll.imp {H H' : Hp} : ∀ {ds : List PyData} {vs : List V} {as : List Addr}, DxAll H vs ds as → (∀ a ∈ as, ∀ o, H a = some o → H' a = some o) → DxAll H' vs ds as
  | [], _, _, h, k => by cases h; exact .nil
  | d :: ds, _, _, h, k => by
    cases h with
    | cons h1 h2 => exact .cons (Dx.imp h1 fun a m => k a (List.mem_append_left _ m)) (DxAll.imp h2 fun a m => k a (List.mem_append_right _ m))
end
theorem Dx.same {H H' : Hp} {v : V} {d : PyData} {as : List Addr} (h : Dx H v d as) (s : Same H H') : Dx H' v d as := h.imp fun a _ o e => s a o e
theorem Dx.but {H H' : Hp} {g : Addr} {v : V} {d : PyData} {as : List Addr} (h : Dx H v d as) (s : SameBut g H H') (n : g ∉ as) : Dx H' v d as :=
  h.imp fun a m o e => s a o e fun z => n (z ▸ m)
theorem DxAll.append {H : Hp} : ∀ {xs ys : List V} {ds es : List PyData} {as bs : List Addr}, DxAll H xs ds as → DxAll H ys es bs → DxAll H (xs ++ ys) (ds ++ es) (as ++ bs)
  | _, _, _, _, _, _, .nil, h => h
  | _, _, _, _, _, _, .cons h1 h2, h => by
    rw [List.append_assoc]
    exact .cons h1 (DxAll.append h2 h)
theorem dx_ints {H : Hp} : ∀ ns : List Int, DxAll H (iv ns) (ns.map PyData.int) []
  | [] => .nil
  | n :: r => .cons (as := []) (.int n) (dx_ints r)
theorem dx_one {H : Hp} {v : V} {d : PyData} {as : List Addr} (h : Dx H v d as) : DxAll H [v] [d] as := by
  have := DxAll.cons h .nil
  rwa [List.append_nil] at this
theorem dx_dI {H : Hp} {a : Addr} {ns : List Int} (h : H a = some (.lst (iv ns))) : Dx H (.ref a) (dI ns) [a] := .lst h (dx_ints ns)
theorem DxAll.len {H : Hp} : ∀ {xs : List V} {ds : List PyData} {as : List Addr}, DxAll H xs ds as → xs.length = ds.length
  | _, _, _, .nil => rfl
  | _, _, _, .cons _ h => congrArg (· + 1) h.len
theorem DxAll.at {H : Hp} : ∀ {xs : List V} {ds : List PyData} {as : List Addr} {i : Nat} {x : V}, DxAll H xs ds as → xs[i]? = some x → ∃ d bs, ds[i]? = some d ∧ Dx H x d bs
  | _, _, _, _, _, .nil, e => by simp at e
  | _, _, _, 0, _, .cons h _, e => by simp at e; subst e; exact ⟨_, _, rfl, h⟩
  | _, _, _, i + 1, x, .cons _ t, e => by
    obtain ⟨d, bs, h1, h2⟩ := DxAll.at (i := i) (x := x) t (by simpa using e)
    exact ⟨d, bs, by simpa using h1, h2⟩
section
variable {X : Cx} {pins : List (Addr × Obj)} {σ : L2.St} {H : Hp} {s : Shared}
theorem Dx.fresh (I : Inv X pins σ H s) {a : Addr} {o : HO} (e : H a = some o) : a < s.heap.objs.size := I.hok.lt e
mutual
theorem Dx.reads (I : Inv X pins σ H s) : ∀ (d : PyData) (v : V) (u : Value) (as : List Addr), Dx H v d as → RelV v u → ∃ bs, Reads s.heap u d bs ∧ ∀ b ∈ bs, b ∈ as
  | .none, _, _, _, h, r => by
    cases h
    cases r
    exact ⟨_, Reads.none, fun _ z => z⟩
  | .bool b, _, _, _, h, r => by
    cases h
    cases r
    exact ⟨_, Reads.bool b, fun _ z => z⟩
  | .int i, _, _, _, h, r => by
    cases h
    obtain ⟨t, rfl⟩ := r
    exact ⟨_, Reads.int i t, fun _ z => z⟩
  | .str x, _, _, _, h, r => by
    cases h
    obtain ⟨t, rfl⟩ := r
    exact ⟨_, Reads.str x t, fun _ z => z⟩
  | .list ds, _, _, _, h, r => by
    cases h with
    | lst hs ha =>
      cases r
      obtain ⟨its, rv, ⟨o, n, ho, hc, _, hd⟩, _⟩ := I.list (SqL.of hs)
      obtain ⟨bs, hr, hb⟩ := Dx.readsAll I ds _ its _ ha rv
      refine ⟨_, Reads.list ho hc hd hr, fun b m => ?_⟩
      rcases List.mem_cons.mp m with rfl | m
      · exact List.mem_cons_self
      · exact List.mem_cons_of_mem _ (hb b m)
  | .tuple ds, _, _, _, h, r => by
    cases h with
    | tup hs ha =>
      cases r
      obtain ⟨its, rv, ⟨o, ho, hc, n, hd⟩, _⟩ := I.tuple (SqT.of hs)
      obtain ⟨bs, hr, hb⟩ := Dx.readsAll I ds _ its _ ha rv
      exact ⟨_, Reads.tuple ho hc hd hr, fun b m => List.mem_cons_of_mem _ (hb b m)⟩
  | .dict _, _, _, _, h, r => by
    cases h with
    | emp e =>
      cases r
      obtain ⟨_, _, vs, rel, o, es, ep, ho, ex, hd, _, pr, _⟩ := dk_of I.hok e
      cases rel
      have e0 : es.toList = [] := by
        cases q : es.toList with
        | nil => rfl
        | cons x y => rw [q] at pr; cases pr
      exact ⟨_, Reads.dict (as := []) (bs := []) ho ex.1 hd (by rw [e0]; exact .nil) (by rw [e0]; exact .nil), fun b m => m⟩
theorem Dx.readsAll (I : Inv X pins σ H s) : ∀ (ds : List PyData) (vs : List V) (us : List Value) (as : List Addr), DxAll H vs ds as → Vals vs us → ∃ bs, ReadsAll s.heap us ds bs ∧ ∀ b ∈ bs, b ∈ as
  | [], _, _, _, h, r => by
    cases h
    cases r
    exact ⟨_, ReadsAll.nil, fun _ z => z⟩
  | d :: ds, _, _, _, h, r => by
    cases h with
    | cons h1 h2 =>
      cases r with
      | cons r1 r2 =>
        obtain ⟨as, q1, m1⟩ := Dx.reads I d _ _ _ h1 r1
        obtain ⟨bs, q2, m2⟩ := Dx.readsAll I ds _ _ _ h2 r2
        refine ⟨_, ReadsAll.cons q1 q2, fun b m => ?_⟩
        rcases List.mem_append.mp m with m | m
        · exact List.mem_append_left _ (m1 b m)
        · exact List.mem_append_right _ (m2 b m)
end
end
/-! ### repr of such -/
/-- a value that can be shown, in at most L signs -/
def Fits (n L : Nat) (d : PyData) : Prop := d.showable = true ∧ d.depth ≤ n ∧ d.shown.length ≤ L
def rReprX : List V → Hp → VK → Prop := fun xs H Q =>
  ∃ (x : V) (d : PyData) (as : List Addr), xs = [x] ∧ Dx H x d as ∧ (d.hasDict = true → sysModules ∉ as) ∧ Fits 50 16000000 d ∧ Q (.str d.shown) H
section
variable {X : Cx}
theorem call_reprX (qt : Quiet X.A) (hu : X.A.units + 64 < cLine) : CallR X (.builtin "repr") rReprX := by
  intro pins s σ H xs us Q I r h
  obtain ⟨x, d, as, rfl, hd, hn, ⟨h1, h3, h4⟩, q⟩ := h
  obtain ⟨u, rfl, rx⟩ := vals1 r
  have hz : d.shown.length ≤ sizeLine := Nat.le_trans h4 (by decide)
  obtain ⟨bs, rd, hb⟩ := Dx.reads I d _ _ _ hd rx
  have atom : ∀ (a : Addr), u = .ref a → wpAny (model X.prog X.w) X.A (call (.builtin "repr") [u]) (EP X pins σ Q) X.xe s := fun a e => by
    subst e
    exact repr_of_reads' rd h1 (fun e m => hn e (hb _ m)) qt (by omega) (fun _ _ e => e)
      (fun h' u tk hk => ⟨.str d.shown, H, I.kept hk, ⟨u, rfl⟩, q⟩) hz
  cases hd with
  | non => cases rx; exact PySem.P.repr_of_none ⟨.str _, H, I.tok _, ⟨_, rfl⟩, q⟩
  | bl b => cases rx; exact PySem.P.repr_of_bool ⟨.str _, H, I.tok _, ⟨_, rfl⟩, by cases b <;> exact q⟩
  | int i =>
    obtain ⟨t, rfl⟩ := rx
    exact PySem.P.repr_of_int (of_decide_eq_true h1) ⟨.str _, H, I.tok _, ⟨_, rfl⟩, q⟩
  | str y =>
    obtain ⟨t, rfl⟩ := rx
    exact PySem.P.repr_of_str ⟨.str _, H, I.tok _, ⟨_, rfl⟩, q⟩ hz
  | lst _ _ => exact atom _ rx
  | tup _ _ => exact atom _ rx
  | emp _ => exact atom _ rx
end
/-! ### type(x), isinstance(x, T) -/
/-- the name of the type -/
def tyD : PyData → String
  | .none => "NoneType"
  | .bool _ => "bool"
  | .int _ => "int"
  | .str _ => "str"
  | .list _ => "list"
  | .tuple _ => "tuple"
  | .dict _ => "dict"
theorem Dx.tyX {K : PySem.W.Frag} {H : Hp} {v : V} {d : PyData} {as : List Addr} (h : Dx H v d as) : TyX K H v (.type (tyD d)) := by
  cases h with
  | non => exact .base .non
  | bl b => exact .base (.bl b)
  | int i => exact .base (.int i)
  | str x => exact .base (.str x)
  | lst e _ => exact .base (.lst e)
  | tup e _ => exact .base (.tup e)
  | emp e => exact .base (.dK e)
def rTyX : List V → Hp → VK → Prop := fun xs H Q => ∃ (x : V) (d : PyData) (as : List Addr), xs = [x] ∧ Dx H x d as ∧ Q (.ty (tyD d)) H
section
variable {X : Cx}
theorem call_typeX : CallR X (.type "type") rTyX := by
  intro pins s σ H xs us Q I r h
  obtain ⟨x, d, as, rfl, hd, q⟩ := h
  obtain ⟨u, rfl, rx⟩ := vals1 r
  have nb : ∀ d : PyData, (Value.type (tyD d) == Value.type "builtin_function_or_method") = false := fun d => by cases d <;> (simp only [tyD]; decide +kernel)
  have fin : s.TypeIs u (tyD d) → wpAny (model X.prog X.w) X.A (call (.type "type") [u]) (EP X pins σ Q) X.xe s :=
    fun h1 => call_type_of h1 (nb d) ⟨.ty _, H, I, rfl, q⟩
  cases hd with
  | non => cases rx; exact fin rfl
  | bl b => cases rx; exact fin rfl
  | int i => obtain ⟨t, rfl⟩ := rx; exact fin rfl
  | str y => obtain ⟨t, rfl⟩ := rx; exact fin rfl
  | lst e _ =>
    cases rx
    obtain ⟨its, rv, p, _⟩ := I.list (SqL.of e)
    exact fin p.isList.typeIs
  | tup e _ =>
    cases rx
    obtain ⟨its, rv, p, _⟩ := I.tuple (SqT.of e)
    exact fin p.typeIs
  | emp e =>
    cases rx
    obtain ⟨_, _, vs, rel, o, es, ep, ho, ex, _⟩ := dk_of I.hok e
    exact fin ⟨o, ho, ex.1⟩
/-- isinstance(x, T), T a built-in type -/
def rIsX : List V → Hp → VK → Prop := fun xs H Q => ∃ (x : V) (T : String) (d : PyData) (as : List Addr) (b : Bool), xs = [x, .ty T] ∧ Dx H x d as ∧ kitB (tyD d) T = some b ∧ Q (.bl b) H
theorem call_isX : CallR X (.builtin "isinstance") rIsX := by
  intro pins s σ H xs us Q I r h
  obtain ⟨x, T, d, as, b, rfl, hd, e, q⟩ := h
  exact call_isi pins s σ H _ us Q I r ⟨x, .ty T, _, _, b, rfl, .ty T, hd.tyX, kit_ty e, q⟩
theorem kit_int (d : PyData) : kitB (tyD d) "int" = some (match d with | .int _ => true | .bool _ => true | _ => false) := by
  cases d <;> (simp only [tyD]; decide +kernel)
theorem kit_bool (d : PyData) : kitB (tyD d) "bool" = some (match d with | .bool _ => true | _ => false) := by
  cases d <;> (simp only [tyD]; decide +kernel)
theorem kit_list (d : PyData) : kitB (tyD d) "list" = some (match d with | .list _ => true | _ => false) := by
  cases d <;> (simp only [tyD]; decide +kernel)
/-! ### new lists, known to stand apart from the module table -/
def tLstB (t : TA) : TE := fun σ H Q => t σ H fun xs H1 => xs.length ≤ sizeLine ∧ ∀ p, H1 p = none → p ≠ sysModules → Q (.ref p) (upd H1 p (.lst xs))
theorem pe_lstB {es : List Expr} {pos : Pos} {t : TA} (h : PA X es t) : PE X (.List es pos) (tLstB t) := by
  refine ⟨fun pins s σ H Q I hq => ?_⟩
  refine wpAny_List_spliced (thn (h.run pos pins s σ H _ I hq) fun us s1 ⟨xs, H1, I1, r, z, q⟩ => ⟨by rw [← r.length]; exact z, ?_⟩)
  have hf : H1 s1.heap.objs.size = none := I1.hok.fresh (Nat.le_refl _)
  refine ⟨.ref s1.heap.objs.size, upd H1 s1.heap.objs.size (.lst xs), I1.laid (t' := s1.toks) (fun b u e => Heap.get?_push_of_some _ e) (Nat.le_refl _) ?_, rfl, q _ hf (Nat.ne_of_gt I1.big)⟩
  exact ⟨z, us, 0, r, Heap.get?_push_size _ rfl⟩
def rCatB (K : PySem.W.Frag) : R2 := fun x y H Q => ∃ l b xs zs, x = .ref l ∧ y = .ref b ∧ SqL K H l xs ∧ SqL K H b zs ∧ xs.length + zs.length ≤ sizeLine ∧ ∀ p, H p = none → p ≠ sysModules → Q (.ref p) (upd H p (.lst (xs ++ zs)))
theorem op_catB : OpR X (binaryOp .Add) (rCatB X.K) := by
  intro pins s σ H x y v u Q I rx ry h
  obtain ⟨l, b, xs, zs, rfl, rfl, hx, hy, hz, q⟩ := h
  cases rx
  cases ry
  obtain ⟨its, r, ⟨o, n, ho, hc, hd, ht⟩, _⟩ := I.list hx
  obtain ⟨its2, r2, ⟨o2, n2, ho2, hc2, hd2, ht2⟩, _⟩ := I.list hy
  have e1 := r.length
  have e2 := r2.length
  obtain ⟨oc, od, dt, sl⟩ := o
  obtain ⟨oc2, od2, dt2, sl2⟩ := o2
  simp only at hc hd ht hc2 hd2 ht2
  subst hc hd ht hc2 hd2 ht2
  have ea : its.toArray ++ its2.toArray = (its ++ its2).toArray := by simp
  refine concat_meets ⟨_, ho, rfl⟩ ⟨_, ho2, rfl⟩ noFill_list_add seq_list_add PySem.F.slot_list_add PySem.F.entry_list_add
    (PySem.F.args_list_add_2 _ _) (list_addW l b its.toArray its2.toArray n n2 none none sl sl2 (by simp only [List.size_toArray]; omega)) ⟨ho, ho2, ?_⟩
  rw [ea]
  exact ⟨.ref _, _, I.lnew (t' := s.toks) (r.append r2) (by rw [List.length_append]; omega), rfl, q _ I.fresh (Nat.ne_of_gt I.big)⟩
end

def tDNewB : TE := fun _ H Q => ∀ p, H p = none → p ≠ sysModules → Q (.ref p) (upd H p (.dK []))
theorem pe_dnewB {X : Cx} {pos : Pos} : PE X (.Dict [] [] pos) tDNewB := ⟨fun pins s σ H Q I h =>
  wpAny_Dict_empty ⟨.ref s.heap.objs.size, _, I.laid (a := s.heap.objs.size) (o := .dK []) (t' := s.toks) (fun _ _ q => Heap.get?_push_of_some _ q) (Nat.le_refl _) (dk_empty s.heap I.big), rfl, h _ (I.hok.fresh (Nat.le_refl _)) (Nat.ne_of_gt I.big)⟩⟩
theorem atI_all {xs : List V} {p : V → Prop} (h : ∀ v ∈ xs, p v) {z : Int} (h0 : 0 ≤ z) (h1 : z < xs.length) : ∃ v, atI xs z = some v ∧ p v := by
  have e : z = ((z.toNat : Nat) : Int) := by omega
  have hl : z.toNat < xs.length := by omega
  refine ⟨xs[z.toNat], ?_, h _ (List.getElem_mem hl)⟩
  exact (congrArg (atI xs) e).trans (atI_nat (List.getElem?_eq_getElem hl))
theorem Fits.mono {n m L M : Nat} {d : PyData} (h : Fits n L d) (h1 : n ≤ m) (h2 : L ≤ M) : Fits m M d := ⟨h.1, Nat.le_trans h.2.1 h1, Nat.le_trans h.2.2 h2⟩
theorem small_log' {v : Int} (h : v.natAbs < 2 ^ 1900) : v.natAbs.log2 < 1920 := by
  by_cases e : v.natAbs = 0
  · rw [e]; decide
  · have := (Nat.log2_lt e).mpr h
    omega
theorem fit_int {v : Int} (h : v.natAbs < 2 ^ 1900) : Fits 0 1921 (.int v) := ⟨decide_eq_true (small_log' h), Nat.le_refl _, int_text_len_1921 (small_log' h)⟩
theorem fit_bool (b : Bool) : Fits 0 1921 (.bool b) := ⟨rfl, Nat.le_refl _, by cases b <;> decide⟩
theorem fit_none : Fits 0 1921 .none := ⟨rfl, Nat.le_refl _, by decide⟩
theorem fit_emp : Fits 1 1921 (.dict []) := ⟨rfl, by decide, by decide⟩
theorem fitAll {n L : Nat} : ∀ {ds : List PyData}, (∀ d ∈ ds, Fits n L d) → PyData.showableAll ds = true ∧ PyData.depthAll ds ≤ n ∧ ((PyData.shownAll ds).map (·.length)).sum ≤ L * ds.length ∧ (PyData.shownAll ds).length = ds.length
  | [], _ => ⟨rfl, Nat.zero_le _, Nat.le_refl _, rfl⟩
  | d :: r, h => by
    obtain ⟨a, b, c, e⟩ := fitAll (ds := r) fun v hv => h v (List.mem_cons_of_mem _ hv)
    obtain ⟨f1, f2, f3⟩ := h d List.mem_cons_self
    refine ⟨?_, ?_, ?_, ?_⟩
    · show (d.showable && PyData.showableAll r) = true
      rw [f1, a]; rfl
    · show max d.depth (PyData.depthAll r) ≤ n
      omega
    · show d.shown.length + ((PyData.shownAll r).map (·.length)).sum ≤ L * (r.length + 1)
      rw [Nat.mul_add]
      omega
    · show (PyData.shownAll r).length + 1 = r.length + 1
      omega
theorem fit_list {n L m : Nat} {ds : List PyData} (h : ∀ d ∈ ds, Fits n L d) (hl : ds.length ≤ m) : Fits (n + 1) (m * (L + 2) + 3) (.list ds) := by
  obtain ⟨a, b, c, e⟩ := fitAll h
  refine ⟨a, Nat.succ_le_succ b, ?_⟩
  show (listText (PyData.shownAll ds)).length ≤ _
  have := listText_len_le (PyData.shownAll ds)
  have h1 : L * ds.length + 2 * ds.length ≤ m * (L + 2) := by
    rw [← Nat.add_mul, Nat.mul_comm]
    exact Nat.mul_le_mul_right _ hl
  omega
theorem fit_tup {n L m : Nat} {ds : List PyData} (h : ∀ d ∈ ds, Fits n L d) (hl : ds.length ≤ m) : Fits (n + 1) (m * (L + 2) + 3) (.tuple ds) := by
  obtain ⟨a, b, c, e⟩ := fitAll h
  refine ⟨a, Nat.succ_le_succ b, ?_⟩
  show (tupleText (PyData.shownAll ds)).length ≤ _
  have := tupleText_len_le (PyData.shownAll ds)
  have h1 : L * ds.length + 2 * ds.length ≤ m * (L + 2) := by
    rw [← Nat.add_mul, Nat.mul_comm]
    exact Nat.mul_le_mul_right _ hl
  omega
theorem fit_ints {ns : List Int} (h : ∀ v ∈ ns, v.natAbs < 2 ^ 1900) : ∀ d ∈ ns.map PyData.int, Fits 0 1921 d := fun d hd => by
  obtain ⟨v, hv, rfl⟩ := List.mem_map.mp hd
  exact fit_int (h v hv)
theorem hasDict_app : ∀ xs ys : List PyData, PyData.hasDictAll (xs ++ ys) = (PyData.hasDictAll xs || PyData.hasDictAll ys)
  | [], _ => rfl
  | d :: r, ys => by
    show (d.hasDict || PyData.hasDictAll (r ++ ys)) = (d.hasDict || PyData.hasDictAll r || PyData.hasDictAll ys)
    rw [hasDict_app r ys, Bool.or_assoc]
end SH

/-! SH10: lists of pairs of ints (tuples), and comprehensions over them. -/
namespace SH
open PySem PySem.Spec PyProof.Rows L2

theorem lt1900 {n : Nat} (h : n < 2 ^ 128) : n < 2 ^ 1900 := Nat.lt_of_lt_of_le h (Nat.pow_le_pow_right (by decide) (by decide))
theorem noD {d : PyData} {as : List Addr} (h : d.hasDict = false) : d.hasDict = true → sysModules ∉ as := fun h' => by rw [h] at h'; cases h'
inductive Prs (H : Hp) : List V → List (Int × Int) → Prop
  | nil : Prs H [] []
  | cons {r : Addr} {s l : Int} {vs : List V} {os : List (Int × Int)} : H r = some (.tup [.int s, .int l]) → Prs H vs os → Prs H (.ref r :: vs) ((s, l) :: os)
theorem Prs.len {H : Hp} : ∀ {vs : List V} {os : List (Int × Int)}, Prs H vs os → vs.length = os.length
  | _, _, .nil => rfl
  | _, _, .cons _ h => congrArg (· + 1) h.len
theorem Prs.at {H : Hp} : ∀ {vs : List V} {os : List (Int × Int)} {i : Nat} {x : V}, Prs H vs os → vs[i]? = some x → ∃ r s l, x = .ref r ∧ os[i]? = some (s, l) ∧ H r = some (.tup [.int s, .int l])
  | _, _, _, _, .nil, e => by simp at e
  | _, _, 0, _, .cons h _, e => by simp at e; subst e; exact ⟨_, _, _, rfl, rfl, h⟩
  | _, _, i + 1, x, .cons _ t, e => by
    obtain ⟨r, s, l, h1, h2, h3⟩ := Prs.at (i := i) (x := x) t (by simpa using e)
    exact ⟨r, s, l, h1, by simpa using h2, h3⟩
theorem Prs.imp {H H' : Hp} : ∀ {vs : List V} {os : List (Int × Int)}, Prs H vs os → (∀ r o, H r = some (.tup o) → H' r = some (.tup o)) → Prs H' vs os
  | _, _, .nil, _ => .nil
  | _, _, .cons h t, k => .cons (k _ _ h) (t.imp k)
theorem Prs.same {H H' : Hp} {vs : List V} {os : List (Int × Int)} (h : Prs H vs os) (s : Same H H') : Prs H' vs os := h.imp fun r o e => s _ _ e
theorem Prs.but {H H' : Hp} {g : Addr} {xs : List V} {vs : List V} {os : List (Int × Int)} (h : Prs H vs os) (s : SameBut g H H') (hg : H g = some (.lst xs)) : Prs H' vs os :=
  h.imp fun r o e => s _ _ e (ne_of e hg (by intro z; cases z))
theorem Prs.upd {H : Hp} {g : Addr} {xs : List V} {o : HO} {vs : List V} {os : List (Int × Int)} (h : Prs H vs os) (hg : H g = some (.lst xs)) : Prs (L2.upd H g o) vs os :=
  h.imp fun r q e => by rw [upd_ne (ne_of e hg (by intro z; cases z))]; exact e
theorem Prs.append {H : Hp} : ∀ {vs ws : List V} {os qs : List (Int × Int)}, Prs H vs os → Prs H ws qs → Prs H (vs ++ ws) (os ++ qs)
  | _, _, _, _, .nil, h => h
  | _, _, _, _, .cons h1 h2, h => .cons h1 (h2.append h)
theorem Prs.set {H : Hp} {r : Addr} {s l : Int} (hr : H r = some (.tup [.int s, .int l])) : ∀ {vs : List V} {os : List (Int × Int)} (i : Nat), Prs H vs os → Prs H (vs.set i (.ref r)) (os.set i (s, l))
  | _, _, _, .nil => .nil
  | _, _, 0, .cons _ t => .cons hr t
  | _, _, i + 1, .cons h t => .cons h (Prs.set hr i t)
theorem Prs.take {H : Hp} : ∀ {vs : List V} {os : List (Int × Int)} (i : Nat), Prs H vs os → Prs H (vs.take i) (os.take i)
  | _, _, 0, _ => .nil
  | _, _, i + 1, .nil => .nil
  | _, _, i + 1, .cons h t => .cons h (Prs.take i t)
/-- as data -/
def pD (o : Int × Int) : PyData := .tuple [.int o.1, .int o.2]
theorem Prs.dx {H : Hp} : ∀ {vs : List V} {os : List (Int × Int)}, Prs H vs os → ∃ as, DxAll H vs (os.map pD) as
  | _, _, .nil => ⟨_, .nil⟩
  | _, _, .cons (s := s) (l := l) h t => by
    obtain ⟨as, d⟩ := t.dx
    exact ⟨_, .cons (.tup h (dx_ints [s, l])) d⟩
theorem Prs.dp {K : PySem.W.Frag} {H : Hp} : ∀ {vs : List V} {os : List (Int × Int)}, Prs H vs os → DpAll K H vs (os.map pD)
  | _, _, .nil => .nil
  | _, _, .cons (s := s) (l := l) h t => .cons (.tup (SqT.of h) (dp_ints [s, l])) t.dp
theorem fit_pD {o : Int × Int} (h1 : o.1.natAbs < 2 ^ 1900) (h2 : o.2.natAbs < 2 ^ 1900) : Fits 1 3849 (pD o) :=
  fit_tup (m := 2) (L := 1921) (fun d hd => by
    simp only [List.mem_cons, List.not_mem_nil, or_false] at hd
    rcases hd with rfl | rfl
    · exact fit_int h1
    · exact fit_int h2) (Nat.le_refl _)
theorem noDict_pD : ∀ os : List (Int × Int), PyData.hasDictAll (os.map pD) = false
  | [] => rfl
  | o :: r => by
    show ((pD o).hasDict || PyData.hasDictAll (r.map pD)) = false
    rw [noDict_pD r]
    rfl
theorem lay_pD : ∀ os : List (Int × Int), PyData.canLayAll0 (os.map pD) = true
  | [] => rfl
  | o :: r => by
    show ((pD o).canLay0 && PyData.canLayAll0 (r.map pD)) = true
    rw [lay_pD r]
    rfl
theorem depth_pD : ∀ os : List (Int × Int), PyData.depthAll (os.map pD) ≤ 1
  | [] => by decide
  | o :: r => by
    show max (pD o).depth (PyData.depthAll (r.map pD)) ≤ 1
    have h1 : (pD o).depth = 1 := rfl
    have := depth_pD r
    omega
theorem shaped_pD (os : List (Int × Int)) : SeqAt.shaped (.list (os.map pD)) = true := by
  unfold SeqAt.shaped
  have d : (PyData.list (os.map pD)).depth ≤ 2 := Nat.succ_le_succ (depth_pD os)
  show (PyData.canLayAll0 (os.map pD) && decide ((PyData.list (os.map pD)).depth ≤ 64)) = true
  rw [lay_pD, decide_eq_true (by omega)]
  rfl
section
variable {K : PySem.W.Frag} {tt : TT} {te : TE} {vs : List Nat} {σ : L2.St} {H : Hp} {D : Addr} {Qd : Hp → Prop}
/-- [.. for a, b in pairs ..] -/
theorem lcPn {a : Addr} {xs : List V} {os : List (Int × Int)} {j1 j2 : Nat} (keep : Nat → Bool) (val : Nat → V) (ha : H a = some (.lst xs)) (hp : Prs H xs os) (hD : H D = none) (hn : os.length < 100000)
    (hw : ∀ x y, wipe (((wipe σ vs).set j1 (some x)).set j2 (some y)) vs = wipe σ vs)
    (ht : ∀ i s l H2 (Q : Bool → Hp → Prop), os[i]? = some (s, l) → Same H H2 → (∀ H3, Same H2 H3 → Q (keep i) H3) → tt (((wipe σ vs).set j1 (some (.int s))).set j2 (some (.int l))) H2 Q)
    (he : ∀ i s l H2 (Q : VK), os[i]? = some (s, l) → keep i = true → Same H H2 → (∀ H3, Same H2 H3 → Q (val i) H3) → te (((wipe σ vs).set j1 (some (.int s))).set j2 (some (.int l))) H2 Q)
    (hd : ∀ H', Same H H' → H' D = some (.lst (gives os.length keep val)) → Qd H') :
    ∃ W : Nat → Nat → Hp → Prop, (∃ m, W 0 m (upd H D (.lst []))) ∧ ∀ i m H, W i m H →
      ((Itl K a).stop i H ∧ Qd H) ∨ ((Itl K a).go i H ∧ ∃ Nx : Hp → Prop, (∀ H', Nx H' → ∃ m', m' < m ∧ W (i + 1) m' H') ∧
        ∀ x H', (Itl K a).yld i H x H' → gTup K 2 (gCons (gName j1) (gCons (gName j2) gNil)) x (wipe σ vs) H' fun σ2 H2 => wipe σ2 vs = wipe σ vs ∧ tt σ2 H2 fun b H3 =>
          if b = true then te σ2 H3 fun y H4 => ∃ acc, H4 D = some (.lst acc) ∧ acc.length < sizeLine ∧ Nx (upd H4 D (.lst (acc ++ [y]))) else Nx H3) := by
  have hl := hp.len
  refine lc_list (xs := xs) (fun i H2 => Same H H2 ∧ H2 D = some (.lst (gives i keep val))) ⟨Same.new hD, upd_same⟩
    (fun i H2 hi e => SqL.of (e.1 _ _ ha)) (fun i x H2 hi e => ?_) (fun H2 e => hd H2 e.1 (by rw [← hl]; exact e.2))
  obtain ⟨r, s, l, rfl, ho, hr⟩ := hp.at hi
  refine ⟨r, _, rfl, SqT.of (e.1 _ _ hr), rfl, _, _, rfl, _, _, rfl, rfl, hw _ _, ?_⟩
  have il : i < xs.length := (List.getElem?_eq_some_iff.mp hi).1
  exact lc_turnS hD (by omega) hn e.1 e.2 (fun Q q => ht i s l H2 Q ho e.1 q) (fun H3 s3 Q k q => he i s l H3 Q ho k (e.1.trans s3) q)
end
end SH

/-! SH11: len(set(xs)) with repeats; lists of lists of ints. -/
namespace SH
open PySem PySem.Spec PyProof.Rows L2

theorem met_ok (val : Nat → Int) : ∀ n, (PyProof.Rows.firstMet val n).Nodup ∧ ∀ k, k ∈ PyProof.Rows.firstMet val n ↔ k ∈ (List.range n).map val
  | 0 => ⟨List.nodup_nil, fun k => Iff.rfl⟩
  | n + 1 => by
    obtain ⟨a, b⟩ := met_ok val n
    rw [PyProof.Rows.firstMet_succ]
    have e : ∀ (d : List Int) (v : Int), step_dedup d v = if (d.any (· == v)) = true then d else d ++ [v] := fun d v => rfl
    rw [e]
    by_cases c : (PyProof.Rows.firstMet val n).any (· == val n) = true
    · rw [if_pos c]
      obtain ⟨y, hy, ey⟩ := List.any_eq_true.mp c
      have ey2 : y = val n := eq_of_beq ey
      refine ⟨a, fun k => ?_⟩
      rw [b, List.range_succ, List.map_append, List.mem_append]
      constructor
      · exact .inl
      · rintro (h | h)
        · exact h
        · have : k = val n := by simpa using h
          rw [this, ← ey2]
          exact (b y).mp hy
    · rw [if_neg c]
      have no : val n ∉ PyProof.Rows.firstMet val n := fun h => c (List.any_eq_true.mpr ⟨_, h, by simp⟩)
      refine ⟨?_, fun k => ?_⟩
      · rw [List.nodup_append]
        refine ⟨a, by simp, fun x hx y hy => ?_⟩
        rw [List.mem_singleton.mp hy]
        intro z
        exact no (z ▸ hx)
      · rw [List.mem_append, b, List.range_succ, List.map_append, List.mem_append]
        simp
theorem met_all (ns : List Int) : ∀ k, k ∈ (List.range ns.length).map (fun i => ns.getD i 0) ↔ k ∈ ns := fun k => by
  rw [List.mem_map]
  constructor
  · rintro ⟨i, hi, rfl⟩
    have := List.mem_range.mp hi
    rw [List.getD_eq_getElem?_getD, List.getElem?_eq_getElem this]
    exact List.getElem_mem this
  · intro h
    obtain ⟨i, hi, rfl⟩ := List.getElem_of_mem h
    exact ⟨i, List.mem_range.mpr hi, by rw [List.getD_eq_getElem?_getD, List.getElem?_eq_getElem hi]; rfl⟩
def tLenSetG (K : PySem.W.Frag) (ta : TE) : TE := fun σ H Q => ta σ H fun x H1 => ∃ (l : Addr) (ns : List Int), x = .ref l ∧ SqL K H1 l (iv ns) ∧ ns.length ≤ 4000 ∧
  ∀ d : List Int, d.Nodup → (∀ k, k ∈ d ↔ k ∈ ns) → Q (.int (d.length : Nat)) H1
theorem pe_lenSetG {X : Cx} {a : Expr} {ta : TE} {p p2 q pos : Pos} (hg : Gl X "len") (hm : X.mg "len" = none) (hg2 : Gl X "set") (hm2 : X.mg "set" = none) (ha : PE X a ta) (hc : X.calm = true := by rfl)
    (na : starEach [a] X.env = (false, eval a X.env) :: starEach [] X.env := by rfl) : PE X (.Call (.Name "len" p) [.Call (.Name "set" p2) [a] [] q] [] pos) (tLenSetG X.K ta) := by
  refine ⟨fun pins s σ H Q I h => ?_⟩
  refine Call_ (ld_blt I hg hm boot_len ?_)
  refine PyProof.Rows.callWith_builtin1 (PyProof.Rows.args_cons ?_ rfl) rfl rfl
  refine Call_ (ld_blt I hg2 hm2 boot_set ?_)
  refine PyProof.Rows.callWith_type1 (PyProof.Rows.args_cons (thn (ha.run pins s σ H _ I h) fun v s1 ⟨x, H1, I1, r1, q1⟩ => PyProof.Rows.args_nil ?_) na) na rfl
  obtain ⟨l, ns, rfl, hq, hl, q1⟩ := q1
  cases r1
  obtain ⟨its, r, pl, hz⟩ := I1.list hq
  have hlen : its.toArray.size = ns.length := by rw [List.size_toArray, ← r.length, List.length_map]
  refine call_set_list (I1.ok.hd hc) pl.isList (by simpa using RZ.intsAre_vals r) (by rw [hlen]; unfold scanBound; omega) fun h' tk hS hk => ?_
  refine PyProof.Rows.args_nil ?_
  rw [hlen] at hS
  obtain ⟨m1, m2⟩ := met_ok (fun i => ns.getD i 0) ns.length
  have ml := PyProof.Rows.firstMet_length_le (fun i => ns.getD i 0) ns.length
  generalize PyProof.Rows.firstMet (fun i => ns.getD i 0) ns.length = d at *
  obtain ⟨o, es, ep, t, ho, hex, hd, _, _, _, hf, hn⟩ := hS
  have I2 : Inv X pins σ H1 { s1 with heap := h', toks := tk } := I1.kept fun b o e => hk b o (Heap.lt_size e) e
  exact call_len_set ho hex hd hf (by rw [hn] <;> omega) ⟨.int d.length, H1, I2.tok _, ⟨_, by rw [hn]⟩, q1 d m1 fun k => (m2 k).trans (met_all ns k)⟩

inductive Lsts (H : Hp) : List V → List (List Int) → Prop
  | nil : Lsts H [] []
  | cons {r : Addr} {L : List Int} {vs : List V} {Ls : List (List Int)} : H r = some (.lst (iv L)) → Lsts H vs Ls → Lsts H (.ref r :: vs) (L :: Ls)
theorem Lsts.len {H : Hp} : ∀ {vs : List V} {os : List (List Int)}, Lsts H vs os → vs.length = os.length
  | _, _, .nil => rfl
  | _, _, .cons _ h => congrArg (· + 1) h.len
theorem Lsts.at {H : Hp} : ∀ {vs : List V} {os : List (List Int)} {i : Nat} {x : V}, Lsts H vs os → vs[i]? = some x → ∃ r L, x = .ref r ∧ os[i]? = some L ∧ H r = some (.lst (iv L))
  | _, _, _, _, .nil, e => by simp at e
  | _, _, 0, _, .cons h _, e => by simp at e; subst e; exact ⟨_, _, rfl, rfl, h⟩
  | _, _, i + 1, x, .cons _ t, e => by
    obtain ⟨r, L, h1, h2, h3⟩ := Lsts.at (i := i) (x := x) t (by simpa using e)
    exact ⟨r, L, h1, by simpa using h2, h3⟩
theorem Lsts.same {H H' : Hp} : ∀ {vs : List V} {os : List (List Int)}, Lsts H vs os → Same H H' → Lsts H' vs os
  | _, _, .nil, _ => .nil
  | _, _, .cons h t, k => .cons (k _ _ h) (t.same k)
theorem Lsts.upd {H : Hp} {D : Addr} {o : HO} : ∀ {vs : List V} {os : List (List Int)}, Lsts H vs os → V.ref D ∉ vs → Lsts (L2.upd H D o) vs os
  | _, _, .nil, _ => .nil
  | _, _, .cons (r := r) h t, n => .cons (by rw [upd_ne (fun e => n (by rw [e]; exact List.mem_cons_self))]; exact h) (t.upd fun m => n (List.mem_cons_of_mem _ m))
theorem Lsts.append {H : Hp} : ∀ {vs ws : List V} {os qs : List (List Int)}, Lsts H vs os → Lsts H ws qs → Lsts H (vs ++ ws) (os ++ qs)
  | _, _, _, _, .nil, h => h
  | _, _, _, _, .cons h1 h2, h => .cons h1 (h2.append h)
end SH

/-! SH12: set(xs) of a list of any length, few different members. -/
namespace SH
open PySem PySem.Spec PyProof.Rows L2
theorem nodup_small : ∀ (D : Nat) {ks : List Int}, ks.Nodup → (∀ k ∈ ks, 0 ≤ k ∧ k < D) → ks.length ≤ D
  | 0, ks, _, b => by
    cases ks with
    | nil => exact Nat.le_refl _
    | cons x r => have := b x List.mem_cons_self; omega
  | D + 1, ks, nd, b => by
    have e := nodup_small D (ks := ks.erase (D : Int)) (nd.erase _) fun k hk => by
      have h1 := b k (List.mem_of_mem_erase hk)
      have h2 : k ≠ (D : Int) := fun e => by
        rw [e] at hk
        exact (List.Nodup.not_mem_erase nd) hk
      omega
    have := List.length_erase_le (a := (D : Int)) (l := ks)
    by_cases c : (D : Int) ∈ ks
    · rw [List.length_erase_of_mem c] at e
      omega
    · rw [List.erase_of_not_mem c] at e
      omega
theorem setR_few {w : World} {h : Heap} {a : Addr} {S : Int → Bool} {n D : Nat} (R : SetR w h a S n) (b : ∀ k, S k = true → 0 ≤ k ∧ k < D) : n ≤ D := by
  obtain ⟨o, es, ep, t, _, _, _, _, nd, mem, _, _, e, _⟩ := R
  have := nodup_small D nd fun k hk => b k ((mem k).mpr hk)
  rw [List.length_map, Array.length_toList] at this
  omega
section
variable {P : Program} {w : World} {A : Around} {E : Value → Shared → Prop} {s : Shared}
theorem set_update_few {I : Addr} {fp wr : List Addr} {G : Array GenState → Array GenState → Prop} {n : Nat} {Pv : Nat → Value → Prop} {St : Nat → Shared → Prop} {R : Result → Shared → Prop}
    (W : WalksS P w A.in1 I fp wr G n Pv St) (S : Addr) (nf : S ∉ fp) (ns : List Int) (hn : n = ns.length) (few : ∀ v ∈ ns, 0 ≤ v ∧ v < (1000 : Nat)) (hval : ∀ i v, Pv i v → ∃ k t, ns[i]? = some k ∧ v = .int k t) :
    ∀ (left i : Nat) (s : Shared), n - i = left → i ≤ n → St i s → (∃ c, SetR w s.heap S (fun j => decide (j ∈ ns.take i)) c) →
      (∀ s' c, Moved (S :: wr) G s s' → c ≤ 1000 → SetR w s'.heap S (fun j => decide (j ∈ ns)) c → R (.ok (.ret .none)) s') →
      codeAny (model P w) A (.builtin "set.update.loop" ⟨[.ref S, .ref I], []⟩) R s := by
  have nw : S ∉ wr := fun h => nf (W.sub _ h)
  have up : ∀ b ∈ wr, b ∈ S :: wr := fun b hb => List.mem_cons_of_mem _ hb
  intro left
  induction left with
  | zero =>
    intro i s hk hi st ⟨c, hS⟩ hR
    obtain rfl : i = n := by omega
    refine codeAny_builtin F.entry_set_update_loop ?_
    rw [Around.under_plainId F.plain_set_update_loop _]
    show wpAny _ A.in1 (pyNext (.ref I) >>= _) _ _ s
    refine wpAny_bind (W.done s _ _ st fun s' m => ?_)
    show wpAny _ A.in1 (ret Value.none) _ _ s'
    rw [List.take_of_length_le (by omega)] at hS
    exact wpAny_pure (hR s' c (m.mono up) (setR_few hS fun k hk => few k (of_decide_eq_true hk)) (hS.at fun o e => m.heap S o nw e))
  | succ left ih =>
    intro i s hk hi st ⟨c, hS⟩ hR
    have lt : i < n := by omega
    refine codeAny_builtin F.entry_set_update_loop ?_
    rw [Around.under_plainId F.plain_set_update_loop _]
    show wpAny _ A.in1 (pyNext (.ref I) >>= _) _ _ s
    refine wpAny_bind (W.item i s _ _ lt st fun v s' pv st' m => ?_)
    obtain ⟨z, t, hz, rfl⟩ := hval i v pv
    have S1 : SetR w s'.heap S (fun j => decide (j ∈ ns.take i)) c := hS.at fun o e => m.heap S o nw e
    have cb : c ≤ 1000 := setR_few S1 fun k hk => few k (List.mem_of_mem_take (of_decide_eq_true hk))
    show wpAny _ A.in1 (holding [Value.int z t] (setAdd S (.int z t)) >>= _) _ _ s'
    refine wpAny_bind (wpAny_holding ?_)
    unfold setAdd
    refine wpAny_holding ?_
    refine wpAny_bind ((intKind P w).pyHash (k := z) (intKind_is _ _ _ _) ?_)
    refine setR_add_hashed (s := { s' with toks := s'.toks + 1 }) S1 (by have : scanBound = 4096 := rfl; omega) fun h' oth S2 => ?_
    have S3 : SetR w h' S (fun j => decide (j ∈ ns.take (i + 1))) (if decide (z ∈ ns.take i) = true then c else c + 1) := S2.congr fun j => by
      rw [List.take_add_one, hz]
      simp [List.mem_append]
    refine wpAny_pure ⟨plainId_quiet F.plain_set_update_loop _, ih (i + 1) _ (by omega) lt (W.frame _ s' _ _ st' (Nat.le_succ _) fun b hb o e => ?_) ⟨_, S3⟩ fun s'' c2 m2 c2b SS => ?_⟩
    · rw [oth.2 b (fun h : b = S => nf (by rw [← h]; exact hb))]; exact e
    · refine hR s'' c2 (Moved.trans W.gtrans ((m.mono up).then_heap (Nat.le_succ _) fun b o hb e => ?_) m2) c2b SS
      rw [oth.2 b (fun h : b = S => hb (by rw [h]; exact List.mem_cons_self))]; exact e
set_option maxHeartbeats 3200000 in
theorem set_of_few {l : Addr} {xs : Array Value} (ns : List Int) {Q : Value → Shared → Prop} (calm : A.handled = none)
    (isl : s.heap.IsList l xs) (hin : IntsAre xs.toList ns) (few : ∀ v ∈ ns, 0 ≤ v ∧ v < (1000 : Nat))
    (h : ∀ (g : Heap) (tk c : Nat), SetR w g s.heap.objs.size (fun j => decide (j ∈ ns)) c → c ≤ 1000 →
      (∀ b o, s.heap.get? b = some o → g.get? b = some o) →
      Q (.ref s.heap.objs.size) { s with heap := g, toks := tk }) :
    wpAny (model P w) A (call (.type "set") [.ref l]) Q E s := by
  have size : xs.size = ns.length := by rw [← Array.length_toList]; exact IntsAre.length hin
  obtain ⟨_, _, m1⟩ := F.called_set.mro
  have m2 := F.called_set.made
  have m3 := F.called_set.sub
  refine wpAny_call (codeAny_of_tree (show wpAny _ _ (callAny (.type "set") _) _ _ _ from ?_))
  refine wpAny_pure ⟨Code.quiet_builtin _ (by decide +kernel),
    codeAny_builtin F.entry_type_call ?_⟩
  rw [Around.under_plain (weight_type_call_type "set"
    [.ref l] []) rfl]
  have m4 := F.called_set.notType
  have m5 := F.called_set.canCreate
  have m6 := F.typeCall_set_1 (.ref l)
  repeat (any_goals (first | wp_step | assumption))
  refine codeAny_mono (code_set_led1 (.ref l) (E := E)
    (Q₁ := fun ob t => ob = .ref s.heap.objs.size ∧ t = { s with heap := s.heap.push (setO0 w) }) ⟨rfl, rfl⟩)
    fun res t made => ?_
  cases res with
  | error e => exact made
  | ok fl =>
  cases fl with
  | ret ob =>
    obtain ⟨rfl, rfl⟩ := made
    have at0 : (s.heap.push (setO0 w)).get? s.heap.objs.size = some (setO0 w) := Heap.get?_push_size _ rfl
    have ty0 : Shared.TypeIs { s with heap := s.heap.push (setO0 w) } (.ref s.heap.objs.size) "set" := ⟨_, at0, rfl⟩
    have m7 := F.called_set.init.lookup
    have m8 := F.called_set.init.bind (.ref s.heap.objs.size)
    repeat (any_goals (first | wp_step | assumption))
    refine codeAny_mono (codeAny_call_builtin (R := wants (fun r t => r = .none ∧ ∃ g tk c, t = { s with heap := g, toks := tk } ∧
        SetR w g s.heap.objs.size (fun j => decide (j ∈ ns)) c ∧ c ≤ 1000 ∧ ∀ b o, s.heap.get? b = some o → g.get? b = some o) E)
      F.called_set.init.plain F.entry_set_init (check_set_init_1 ty0 ?_)) fun res2 t2 done => ?_
    · obtain ⟨ol, lk, cl, en, dl⟩ := isl
      obtain ⟨c1, d1, x1, sl1⟩ := ol
      simp only at cl dl
      subst cl dl
      have lk' : (s.heap.push (setO0 w)).get? l = some { cls := .type "list", dict := d1, data := .seq xs en, slots := sl1 } :=
        Heap.get?_push_of_some _ lk
      have u1 := F.sub_list_set
      have u2 := F.sub_list_frozenset
      have u3 : (Value.type "list" == Value.type "dict") = false := by decide
      have isl1 : (s.heap.push (setO0 w)).IsList l xs := ⟨_, lk', rfl, en, rfl⟩
      unfold Builtin.«set.__init__» noKeywords
      unfold Builtin.Frozenset.updateFrom
      generalize iterE : pyIter = itf
      wp_walk
      subst iterE
      refine wpAny_pyIter_list isl1 (wpAny_bind (wpAny_runValue ?_))
      have lt : l < s.heap.objs.size := Heap.lt_size lk
      have calm3 : A.in1.in1.in1.handled = none := by simp [calm]
      have sz : (s.heap.push (setO0 w)).objs.size = s.heap.objs.size + 1 := Heap.size_push ..
      have ne1 : l ≠ (s.heap.push (setO0 w)).objs.size := by rw [sz]; exact Nat.ne_of_lt (Nat.lt_succ_of_lt lt)
      have ne2 : s.heap.objs.size ∉ [(s.heap.push (setO0 w)).objs.size, l] := by
        rw [sz]
        simp only [List.mem_cons, List.not_mem_nil, or_false, not_or]
        exact ⟨Nat.ne_of_lt (Nat.lt_succ_self _), Ne.symm (Nat.ne_of_lt lt)⟩
      have vals : ∀ (i : Nat) (v : Value), xs[i]? = some v → ∃ k t, ns[i]? = some k ∧ v = .int k t := fun i v e => by
        have il : i < ns.length := by rw [← size]; exact (Array.getElem?_eq_some_iff.mp e).1
        obtain ⟨t, et⟩ := IntsAre.int_at hin i v (by rw [Array.getElem?_toList]; exact e)
        refine ⟨ns.getD i 0, t, ?_, et⟩
        rw [List.getD_eq_getElem?_getD, List.getElem?_eq_getElem il]
        rfl
      refine set_update_few ((Walks.list calm3 _ l ne1 xs).toS) s.heap.objs.size ne2 ns size few vals (xs.size - 0) 0 _ (by omega)
        (Nat.zero_le _) ⟨⟨_, Heap.get?_push_size _ rfl, rfl, rfl⟩, isl1.push _⟩ ⟨0, ?_⟩ ?_
      · exact setR_new_at (Heap.get?_push_of_some _ at0)
      · intro t c mv cl1 R
        obtain ⟨g, gens, drawn, tk, os⟩ := t
        obtain rfl : gens = s.gens := mv.gens
        obtain rfl : drawn = s.drawn := mv.drawn
        obtain rfl : os = s.os := mv.os
        refine wpAny_pure (show wpAny _ _ (ret Value.none) _ _ _ from ?_)
        refine wpAny_pure ⟨rfl, g, tk, c, rfl, R, cl1, fun b o e => mv.heap b o ?_ ?_⟩
        · have lb : b < s.heap.objs.size := Heap.lt_size e
          rw [sz]
          simp only [List.mem_cons, List.not_mem_nil, or_false, not_or]
          exact ⟨Nat.ne_of_lt lb, Nat.ne_of_lt (Nat.lt_succ_of_lt lb)⟩
        · exact Heap.get?_push_of_some _ (Heap.get?_push_of_some _ e)
    · cases res2 with
      | error e => exact done
      | ok fl2 =>
      cases fl2 with
      | ret r =>
        obtain ⟨rfl, g, tk, c, rfl, R, cl1, kp⟩ := done
        repeat (any_goals (first | wp_step | assumption))
        exact h _ _ _ R cl1 kp
      | _ => exact done.elim
  | _ => exact made.elim
end
/-- set(xs), few different members -/
def rSetFew (K : PySem.W.Frag) (w : World) : List V → Hp → VK → Prop := fun xs H Q => ∃ (l : Addr) (ns : List Int), xs = [.ref l] ∧ SqL K H l (iv ns) ∧ (∀ v ∈ ns, 0 ≤ v ∧ v < (1000 : Nat)) ∧
  ∀ a n, H a = none → n ≤ 1000 → Q (.ref a) (upd H a (SetO w a (fun j => decide (j ∈ ns)) n))
theorem cr_setFew {X : Cx} (hc : X.calm = true) : CallR X (.type "set") (rSetFew X.K X.w) := by
  intro pins s σ H xs us Q I r h
  obtain ⟨l, ns, rfl, hl, hf, q⟩ := h
  rw [Vals.ref1 r]
  obtain ⟨its, rv, pl, hz⟩ := I.list hl
  have hn : H s.heap.objs.size = none := I.hok.fresh (Nat.le_refl _)
  refine set_of_few (P := X.prog) (w := X.w) ns (I.ok.hd hc) pl.isList (by simpa using ints_of_vals rv) hf fun g tk c R cl kp => ?_
  exact ⟨.ref s.heap.objs.size, upd H s.heap.objs.size (SetO X.w s.heap.objs.size (fun j => decide (j ∈ ns)) c), I.laid (t' := tk) kp (Nat.le_refl _) (setO_new R), rfl, q _ c hn cl⟩
end SH

/-! SH13: d.update(d2) of dicts with keys that are ints or strings. -/
namespace SH
open PySem PySem.Spec PyProof.Rows L2
def rDUpdate : V → List V → Hp → VK → Prop := fun x vs H Q => ∃ (a b : Addr) (kvs more : List (Key × V)), x = .ref a ∧ vs = [.ref b] ∧ H a = some (.dK kvs) ∧ H b = some (.dK more) ∧ a ≠ b ∧ kvs.length + more.length ≤ sizeLine ∧ Q .non (upd H a (.dK (mergeK kvs more)))
theorem mtd_update {X : Cx} : MtR X "dict.update" rDUpdate := by
  intro pins s σ H x vs v us Q I rx rv h
  obtain ⟨a, b, kvs, more, rfl, rfl, ea, eb, ab, hl, q⟩ := h
  obtain rfl : v = Value.ref a := rx
  rw [Vals.ref1 rv]
  obtain ⟨z1, hd1, vs1, rel1, dd1⟩ := dk_of I.hok ea
  obtain ⟨z2, hd2, vs2, rel2, dd2⟩ := dk_of I.hok eb
  refine call_meetsIn PySem.F.slot_dict_update dd1.typeIs PySem.F.entry_dict_update (PySem.F.args_dict_update_2 _ _) (meets_dict_update (mixKind X.prog X.w) a b ab hd2)
    ⟨vs1, vs2, dd1, dd2, by rw [← rel1.length, ← rel2.length]; exact hl, fun h' dd' _ hs => ?_⟩
  have he : ∃ q, h'.get? a = some q := let ⟨q, _, _, hq, _⟩ := dd'; ⟨q, hq⟩
  have hlen : (mergeK kvs more).length ≤ sizeLine := Nat.le_trans (length_mergeK more kvs) (by omega)
  exact ⟨.non, _, d_write (t' := s.toks) I (by rw [ea]; exact True.intro) hs he (dk_new hlen hd1 (KV.merge rel2 rel1) dd'), rfl, q⟩
section
variable {X : Cx} {o : Expr} {to : TE} {e : Expr} {t : TA} {apos cpos : Pos}
theorem pe_dupdate (ho : PE X o to) (ha : PA X [e] t) (hbase : attributeBase o "update" X.env (eval o X.env) = eval o X.env := by rfl) (hline : (apos.endLine == cpos.line) = true := by rfl)
    (hfew : ((backTo cpos (starEach [e] X.env)).all (fun x => !x.1) && (backToKw cpos (keywordEach [] X.env)).all (fun x => x.1.isSome)
      && decide (([e] : List Expr).length + ([] : List Keyword).length + (if ([] : List Keyword).isEmpty then 0 else 1) < 30)) = true := by rfl)
    (hs : starEach [e] X.env = (false, eval e X.env) :: starEach [] X.env := by rfl) (hplain : (backTo cpos (starEach [] X.env)).any (·.1) = false := by rfl) :
    PE X (.Call (.Attribute o "update" apos) [e] [] cpos) (tBM X.K "dict" rDUpdate to t) :=
  pe_bm PySem.F.plainAttrs_dict PySem.F.slot_dict_update PySem.F.type_dict_update mtd_update ho ha hbase hfew hline hs hplain
end
end SH

/-! SH14: defs that raise, under empty guards; raise X('..'); except X. -/
namespace SH
open PySem PySem.Spec PyProof.Rows L2
section
variable {X : Cx} {CX : CXT} {k : Nat} {f : Addr} {fd : FuncData} {st : Stmt} {ps ks : List Str} {sp : Sp} {E : L2.St → XK} {x : Str} {p pos : Pos}
  {e : Expr} {es : List Expr} {t tk : TA} {kws : List Keyword}
theorem goS {pins : List (Addr × Obj)} {σ : L2.St} {H : Hp} {s : Shared} {Q : VK} {us : List Value} {vs : List V}
    (F : FnG X.prog X.w X.K X.mg X.base CX k f fd ps sp) (room : Room k X.A) (qt : Quiet X.A) (hb : Binds X.K fd ps []) (hx : PassesAt CX X σ (E σ))
    (I : Inv X pins σ H s) (r : Vals vs us) (h : sp vs H Q (E σ)) : wpAny (model X.prog X.w) X.A (call (.ref f) us) (EP X pins σ Q) X.xe s := by
  have hl : us.length = ps.length := by rw [← r.length]; exact F.arity _ _ _ _ h
  have b := hb s us I.kIn (by rw [List.append_nil]; exact hl)
  rw [List.append_nil] at b
  refine wpAny_call (codeAny_mono (F.go X.A X.stack s H ⟨us, []⟩ us vs Q (E σ) room qt I.env0 b r h) fun r s' hq => ?_)
  cases r with
  | error e => exact hx pins H s e s' I hq
  | ok fl =>
    cases fl with
    | ret u => exact I.after hq
    | next => exact False.elim hq
    | brk => exact False.elim hq
    | cont => exact False.elim hq
/-- f(e, ..), f a def that may raise: what is raised is wished for at the caller's slots -/
theorem pe_hasS (h : Has X.prog X.w X.K X.mg X.base CX k x st ps sp) (room : Room k X.A) (qt : Quiet X.A) (hg : Gl X x)
    (hx : ∀ σ, PassesAt CX X σ (E σ)) (ha : PA X (e :: es) t) (hdb : (x == ("__debug__" : Str)) = false := by decide)
    (he : starEach (e :: es) X.env = (false, eval e X.env) :: starEach es X.env := by rfl)
    (hpl : (backTo pos (starEach es X.env)).any (·.1) = false := by rfl) :
    PE X (.Call (.Name x p) (e :: es) [] pos) (tCallS sp E t) := by
  obtain ⟨f, fd, F, m, G, b⟩ := h
  refine ⟨fun pins s σ H Q I h => ?_⟩
  refine wpAny_Call_Name_kw (ld_glob I hg m ?_ hdb)
  refine PySem.W.callWith_K (h₀ := X.base) I.ok.mod.kin F.kp (thn (ha.run pos pins s σ H _ I h) fun us s1 ⟨vs, H1, I1, r, q⟩ => ⟨I1.kIn, ?_⟩) he hpl
  exact goS G room qt b (hx σ) I1 r q
end
section
variable {P : Program} {w : World} {K : PySem.W.Frag} {mg : Str → Option Value} {base : Heap}
/-- THE RULE for a def that may raise -/
theorem Has.ofX {x : Str} {st : Stmt} {N ps : List Str} {k : Nat} {sp : Sp} (at_ : At K mg x st)
    (S : FnScope N ps (defScope st)) (len : ∀ vs H Q E, sp vs H Q E → vs.length = ps.length)
    (bd : ∀ (kV doc pm : Value) (an : Option Addr) (cdv ct : Value) (us : List Value), us.length = ps.length →
      bindArgs (PySem.W.fnOf x x (defArgs st) (defBody st) (defScope st) .none kV doc pm an cdv ct) ⟨us, []⟩ = pure (ps.zip us))
    (walk : ∀ (f : Addr) (cdv : Value) (A : Around) (outer : List Env) (s : Shared) (H : Hp) (vs : List V) (Q : VK) (E : XK),
      Room k (A.deeper (envOfC x (defScope st) s.heap.objs.size f cdv)) →
      Quiet (A.deeper (envOfC x (defScope st) s.heap.objs.size f cdv)) → sp vs H Q E →
      ∃ t, PSs (cxOf (L2.CX P w) P w K mg base N x (defScope st) f cdv A outer s H E) (defBody st) t ∧
        t { nx := fun _ H' => Q .non H', rt := Q } (start N vs) H) :
    Has P w K mg base (L2.CX P w) (k + 1) x st ps sp := by
  obtain ⟨f, fd, F, m⟩ := at_
  exact ⟨f, fd, F, m, FnG.of F S len (walk f), F.binds bd⟩
end
/-- an own error class over ValueError, without own __init__, stands at the name x -/
structure Err (K : PySem.W.Frag) (mg : Str → Option Value) (x : Str) (C : Addr) : Prop where
  g : mg x = some (.ref C)
  q : PySem.W.excIn K C HandSPX.veTail "ValueError.__new__" = true
  k : PySem.W.keepIn K (.ref C) = true
  e : PySem.W.subIn K (.ref C) (.type "BaseException") = some true
  t : PySem.W.typeIn K (.ref C) = some (.type "type")
theorem ps_raiseE {X : Cx} {W : WX} {x m : Str} {C : Addr} {j : Nat} {p p2 pos pos' : Pos} (E : Err X.K X.mg x C) (hc : X.calm = true) (tk : Takes X W) (hg : Gl X x)
    (hdb : (x == ("__debug__" : Str)) = false := by decide) :
    PS X (.Raise (some (.Call (.Name x p) [.Constant (.str m) j p2] [] pos)) none pos') (fun _ σ H => W (.ref C) none σ H) :=
  ps_raise hc tk (pmk_own PySem.F.excBase_ValueError E.q E.g E.k (raises_own E.e E.t) hg hdb)
/-- an error of the class at C is what «except S» names, or not -/
structure Catch (K : PySem.W.Frag) (C S : Addr) (b : Bool) : Prop where
  is : PySem.W.exmOne K (.ref C) (.ref S) = some b
theorem Catch.of {K : PySem.W.Frag} {C S : Addr} {b : Bool} (h1 : PySem.W.subIn K (.ref S) (.type "BaseException") = some true) (h2 : PySem.W.isClsIn K S = true) (h3 : PySem.W.typeIn K (.ref S) = some (.type "type")) (h4 : PySem.W.subIn K (.ref C) (.ref S) = some b) : Catch K C S b := by
  refine ⟨?_⟩
  have e1 : (PySem.W.subIn K (.ref S) (.type "BaseException") == some true) = true := by rw [h1] <;> rfl
  have e2 : ((PySem.W.clsIn K S).isSome && PySem.W.typeIn K (.ref S) == some (.type "type")) = true := by
    have h2' : (PySem.W.clsIn K S).isSome = true := h2
    rw [h2', h3] <;> rfl
  show (if (PySem.W.subIn K (.ref S) (.type "BaseException") == some true) = true then (if ((PySem.W.clsIn K S).isSome && PySem.W.typeIn K (.ref S) == some (.type "type")) = true then PySem.W.subIn K (.ref C) (.ref S) else none) else none) = some b
  rw [if_pos e1, if_pos e2]
  exact h4
end SH

namespace SH
open PySem PySem.Spec PyProof.Rows L2
def topS (i : Nat) : Stmt := PySem.Challenge.pw_stickyheads_k55_lists_that_are_no_shorte.main.body.getD i (.Pass ⟨0, 0, 0, 0⟩)

/-! ### outlines as lists of ints -/
def okFrom : Int → List Int → Bool
  | _, [] => true
  | g, d :: r => decide (0 ≤ d) && decide (d ≤ g) && okFrom (d + 1) r
def isO (ns : List Int) : Bool := decide (1 ≤ ns.length) && decide (ns.length ≤ 200) && okFrom 0 ns
/-- the greatest depth that may stand at place i -/
def gAt (ns : List Int) : Nat → Int
  | 0 => 0
  | i + 1 => ns.getD i 0 + 1
theorem okFrom_drop {ns : List Int} {i : Nat} (h : i < ns.length) (g : Int) : okFrom g (ns.drop i) =
    (decide (0 ≤ ns.getD i 0) && decide (ns.getD i 0 ≤ g) && okFrom (ns.getD i 0 + 1) (ns.drop (i + 1))) := by
  rw [List.drop_eq_getElem_cons h, List.getD_eq_getElem?_getD, List.getElem?_eq_getElem h]
  rfl
theorem okFrom_at {ns : List Int} : ∀ {g : Int} {i : Nat}, okFrom g ns = true → i < ns.length →
    0 ≤ ns.getD i 0 ∧ (∀ j, i = j + 1 → ns.getD i 0 ≤ ns.getD j 0 + 1) ∧ (i = 0 → ns.getD i 0 ≤ g) := by
  induction ns with
  | nil => intro g i _ h; exact absurd h (Nat.not_lt_zero _)
  | cons d r ih =>
    intro g i h hi
    simp only [okFrom, Bool.and_eq_true, decide_eq_true_eq] at h
    cases i with
    | zero => exact ⟨h.1.1, fun j e => by omega, fun _ => h.1.2⟩
    | succ i =>
      have hi' : i < r.length := Nat.lt_of_succ_lt_succ hi
      obtain ⟨a, b, c⟩ := ih (i := i) h.2 hi'
      refine ⟨a, fun j e => ?_, fun e => by omega⟩
      obtain rfl : i = j := by omega
      cases i with
      | zero => exact c rfl
      | succ i => exact b i rfl
theorem okFrom_of {ns : List Int} : ∀ {g : Int}, (∀ i, i < ns.length → 0 ≤ ns.getD i 0 ∧ (∀ j, i = j + 1 → ns.getD i 0 ≤ ns.getD j 0 + 1) ∧ (i = 0 → ns.getD i 0 ≤ g)) → okFrom g ns = true := by
  induction ns with
  | nil => intro g _; rfl
  | cons d r ih =>
    intro g h
    simp only [okFrom, Bool.and_eq_true, decide_eq_true_eq]
    obtain ⟨a, _, c⟩ := h 0 (Nat.zero_lt_succ _)
    refine ⟨⟨a, c rfl⟩, ih fun i hi => ?_⟩
    obtain ⟨a', b', _⟩ := h (i + 1) (Nat.succ_lt_succ hi)
    refine ⟨a', fun j e => ?_, fun e => ?_⟩
    · subst e
      exact b' (j + 1) rfl
    · subst e
      exact b' 0 rfl
theorem isO_iff {ns : List Int} : isO ns = true ↔ 1 ≤ ns.length ∧ ns.length ≤ 200 ∧ okFrom 0 ns = true := by
  unfold isO
  rw [Bool.and_eq_true, Bool.and_eq_true, decide_eq_true_eq, decide_eq_true_eq, and_assoc]

abbrev s_is_integer_from : Stmt := topS 7
abbrev N_is_integer_from : List Str := ["value", "least"]
abbrev P_is_integer_from : List Str := ["value", "least"]
theorem sc_is_integer_from : FnScope N_is_integer_from P_is_integer_from (defScope s_is_integer_from) := ⟨rfl, rfl, rfl, by decide +kernel, rfl, by decide +kernel, by decide +kernel⟩
abbrev s_is_integer_within : Stmt := topS 8
abbrev N_is_integer_within : List Str := ["value", "least", "greatest"]
abbrev P_is_integer_within : List Str := ["value", "least", "greatest"]
theorem sc_is_integer_within : FnScope N_is_integer_within P_is_integer_within (defScope s_is_integer_within) := ⟨rfl, rfl, rfl, by decide +kernel, rfl, by decide +kernel, by decide +kernel⟩
abbrev s_is_outline : Stmt := topS 12
abbrev N_is_outline : List Str := ["value", "greatest", "depth"]
abbrev P_is_outline : List Str := ["value"]
theorem sc_is_outline : FnScope N_is_outline P_is_outline (defScope s_is_outline) := ⟨rfl, rfl, rfl, by decide +kernel, rfl, by decide +kernel, by decide +kernel⟩
/-! ### values of any kind: is it an int within bounds, is it an outline -/
def geD (d : PyData) (a : Int) : Bool := match d with | .int v => decide (a ≤ v) | _ => false
def inD (d : PyData) (a b : Int) : Bool := match d with | .int v => decide (a ≤ v) && decide (v ≤ b) | _ => false
def nextD (d : PyData) : Int := match d with | .int v => v + 1 | _ => 0
def okFromD : Int → List PyData → Bool
  | _, [] => true
  | g, d :: r => inD d 0 g && okFromD (nextD d) r
def isOD (d : PyData) : Bool := match d with | .list ds => decide (1 ≤ ds.length) && decide (ds.length ≤ 200) && okFromD 0 ds | _ => false
theorem okFromD_ints : ∀ (ns : List Int) (g : Int), okFromD g (ns.map PyData.int) = okFrom g ns
  | [], _ => rfl
  | n :: r, g => by
    show (inD (.int n) 0 g && okFromD (nextD (.int n)) (r.map PyData.int)) = _
    rw [okFromD_ints r]
    rfl
theorem isOD_dI (ns : List Int) : isOD (dI ns) = isO ns := by
  show (decide (1 ≤ (ns.map PyData.int).length) && decide ((ns.map PyData.int).length ≤ 200) && okFromD 0 (ns.map PyData.int)) = _
  rw [okFromD_ints, List.length_map]
  rfl
theorem inD_int {d : PyData} {a b : Int} (h : inD d a b = true) : ∃ v, d = .int v ∧ a ≤ v ∧ v ≤ b := by
  cases d with
  | int v =>
    have h' : (decide (a ≤ v) && decide (v ≤ b)) = true := h
    rw [Bool.and_eq_true, decide_eq_true_eq, decide_eq_true_eq] at h'
    exact ⟨v, rfl, h'.1, h'.2⟩
  | _ => exact absurd h Bool.false_ne_true
/-- the greatest depth that may stand at place i -/
def gD (ds : List PyData) : Nat → Int
  | 0 => 0
  | i + 1 => nextD (ds.getD i .none)
theorem okFromD_drop {ds : List PyData} {i : Nat} {d : PyData} (h : ds[i]? = some d) (g : Int) : okFromD g (ds.drop i) = (inD d 0 g && okFromD (nextD d) (ds.drop (i + 1))) := by
  obtain ⟨hl, e⟩ := List.getElem?_eq_some_iff.mp h
  rw [List.drop_eq_getElem_cons hl, e]
  rfl
theorem getD_of {ds : List PyData} {i : Nat} {d : PyData} (h : ds[i]? = some d) : ds.getD i .none = d := by
  rw [List.getD_eq_getElem?_getD, h]
  rfl
section
variable {P : Program} {w : World} {K : PySem.W.Frag} {mg : Str → Option Value} {base : Heap}
def sp_fromX : Sp := fun vs H Q _ => ∃ (x : V) (d : PyData) (as : List Addr) (a : Int), vs = [x, .int a] ∧ Dx H x d as ∧ Q (.bl (geD d a)) H
theorem ok_is_integer_from (T : Txt mg) (h : At K mg "is_integer_from" s_is_integer_from) :
    Has P w K mg base CX0 1 "is_integer_from" s_is_integer_from P_is_integer_from sp_fromX := by
  refine Has.of h sc_is_integer_from (fun vs H Q E h => ?_) (fun _ _ _ _ _ _ us hl => match us, hl with | [_, _], _ => rfl) (fun f cdv A outer s H vs Q E room qt h => ?_)
  · obtain ⟨v, d, as, a, rfl, _⟩ := h; rfl
  obtain ⟨x, d, as, a, rfl, hd, k⟩ := h
  refine ⟨_, (pss_one (ps_ret (pe_and (pe_callB call_isX (by rfl) T.isinstance (by decide +kernel) (pa_cons (pv 0) (pa_cons (pe_bltn (v := .ty "int") (u := .type "int") (by rfl) T.tint (by decide +kernel) rfl) pa_nil))) (pe_and (pe_not (pe_callB call_isX (by rfl) T.isinstance (by decide +kernel) (pa_cons (pv 0) (pa_cons (pe_bltn (v := .ty "bool") (u := .type "bool") (by rfl) T.bool (by decide +kernel) rfl) pa_nil)))) (pe_one (pe_cmpR op_ge (pv 0) (pv 1) (nomark _))))))), ?_⟩
  refine ⟨_, rfl, x, "int", d, as, _, rfl, hd, kit_int d, _, rfl, ?_⟩
  cases hd with
  | int v => exact iteT ⟨_, rfl, .int v, "bool", _, _, _, rfl, .int v, kit_bool _, _, rfl, _, rfl, iteT ⟨_, rfl, _, rfl, _, _, rfl, rfl, k⟩⟩
  | bl b => exact iteT ⟨_, rfl, .bl b, "bool", _, _, _, rfl, .bl b, kit_bool _, _, rfl, _, rfl, iteF k⟩
  | non => exact iteF k
  | str _ => exact iteF k
  | lst _ _ => exact iteF k
  | tup _ _ => exact iteF k
  | emp _ => exact iteF k
def sp_withinX : Sp := fun vs H Q _ => ∃ (x : V) (d : PyData) (as : List Addr) (a b : Int), vs = [x, .int a, .int b] ∧ Dx H x d as ∧ Q (.bl (inD d a b)) H
theorem ok_is_integer_within (T : Txt mg) (h : At K mg "is_integer_within" s_is_integer_within)
    (g_is_integer_from : Has P w K mg base CX0 1 "is_integer_from" s_is_integer_from P_is_integer_from sp_fromX) :
    Has P w K mg base CX0 2 "is_integer_within" s_is_integer_within P_is_integer_within sp_withinX := by
  refine Has.of h sc_is_integer_within (fun vs H Q E h => ?_) (fun _ _ _ _ _ _ us hl => match us, hl with | [_, _, _], _ => rfl) (fun f cdv A outer s H vs Q E room qt h => ?_)
  · obtain ⟨v, d, as, a, b, rfl, _⟩ := h; rfl
  obtain ⟨x, d, as, a, b, rfl, hd, k⟩ := h
  refine ⟨_, (pss_one (ps_ret (pe_and (pe_has g_is_integer_from (room.mono (by decide)) qt (by rfl) pass0 (pa_cons (pv 0) (pa_cons (pv 1) pa_nil))) (pe_one (pe_cmpR op_le (pv 0) (pv 2) (nomark _)))))), ?_⟩
  refine ⟨_, rfl, _, rfl, x, d, as, a, rfl, hd, _, rfl, ?_⟩
  cases hd with
  | int v =>
    show if decide (a ≤ v) = true then _ else _
    have k' : Q (.bl (decide (a ≤ v) && decide (v ≤ b))) H := k
    by_cases c : a ≤ v
    · rw [decide_eq_true c] at k' ⊢
      rw [Bool.true_and] at k'
      exact iteT ⟨_, rfl, _, rfl, _, _, rfl, rfl, k'⟩
    · rw [decide_eq_false c] at k' ⊢
      rw [Bool.false_and] at k'
      exact iteF k'
  | _ => exact iteF k
def sp_is_outlineX : Sp := fun vs H Q _ => ∃ (x : V) (d : PyData) (as : List Addr), vs = [x] ∧ Dx H x d as ∧ Q (.bl (isOD d)) H
theorem ok_is_outline {t : Tok} (T : Txt mg) (c_MOST_LINES : mg "MOST_LINES" = some (.int 200 t)) (h : At K mg "is_outline" s_is_outline)
    (g_is_integer_within : Has P w K mg base CX0 2 "is_integer_within" s_is_integer_within P_is_integer_within sp_withinX) :
    Has P w K mg base CX0 3 "is_outline" s_is_outline P_is_outline sp_is_outlineX := by
  refine Has.of h sc_is_outline (fun vs H Q E h => ?_) (fun _ _ _ _ _ _ us hl => match us, hl with | [_], _ => rfl) (fun f cdv A outer s H vs Q E room qt h => ?_)
  · obtain ⟨v, a, as, rfl, _⟩ := h; rfl
  obtain ⟨x, d, as, rfl, hd, k⟩ := h
  refine ⟨_, (pss_cons (ps_if (PW.pt (pw_or (pt_cmpR op_neTy (pe_callTy call_typeX (by rfl) T.ttype (by decide +kernel) (pa_cons (pv 0) pa_nil)) (pe_bltn (v := .ty "list") (u := .type "list") (by rfl) T.tlist (by decide +kernel) rfl) (nomark _)) (pw_or1 (pt_not (pt_chain op_le op_le pe_int (pe_callB call_len_seq (by rfl) T.len (by decide +kernel) (pa_cons (pv 0) pa_nil)) (pe_glob (v := .int 200) rfl c_MOST_LINES ⟨_, rfl⟩))))))
        (pss_one (ps_ret pe_bl))
        pss_nil)
      (pss_cons (ps_set (i := 1) sc_is_outline.nd rfl (Or.inl rfl) pe_int)
      (pss_cons (ps_for PassesOwn.never rfl (pi_list (pv 0)) (pg_name (i := 2) sc_is_outline.nd rfl (Or.inl rfl) (hf := Or.inl rfl))
        (pss_cons (ps_if (pt_not (pt_val (pe_has g_is_integer_within (room.mono (by decide)) qt (by rfl) pass0 (pa_cons (pv 2) (pa_cons pe_int (pa_cons (pv 1) pa_nil))))))
          (pss_one (ps_ret pe_bl))
          pss_nil)
        (pss_one (ps_set (i := 1) sc_is_outline.nd rfl (Or.inl rfl) (pe_op op_add (pv 2) pe_int)))))
      (pss_one (ps_ret pe_bl))))), ?_⟩
  refine ⟨_, rfl, x, d, as, rfl, hd, _, _, rfl, rfl, ?_⟩
  have other : tyD d ≠ "list" → isOD d = false := fun e => by
    cases d with
    | list ds => exact absurd rfl e
    | _ => rfl
  refine ⟨by cases d <;> (simp only [tyD]; decide), by decide, _, rfl, ite2 (fun c => ?_) (fun c => ?_)⟩
  · rw [other (of_decide_eq_true c)] at k
    exact k
  cases hd with
  | @lst a xs ds as ha hx =>
    have el := hx.len
    refine ⟨_, rfl, _, _, rfl, .inl (SqL.of ha), _, _, rfl, rfl, _, rfl, ?_⟩
    have no : isOD (.list ds) = false → Q (.bl false) H := fun e => by rw [← e]; exact k
    refine ite2 (fun c => ?_) (fun c => ?_)
    · have c1 := of_decide_eq_true c
      refine ⟨_, _, rfl, rfl, _, rfl, ite2 (fun d => ?_) (fun d => ?_)⟩
      · refine no ?_
        have d1 : ¬ ds.length ≤ 200 := fun z => by rw [decide_eq_true (by omega)] at d; cases d
        show (decide (1 ≤ ds.length) && decide (ds.length ≤ 200) && okFromD 0 ds) = false
        rw [decide_eq_false d1, Bool.and_false, Bool.false_and]
      · have d1 : ds.length ≤ 200 := by
          by_cases z : ds.length ≤ 200
          · exact z
          · exact (d (by rw [decide_eq_false (by omega)]; rfl)).elim
        have e0 : isOD (.list ds) = okFromD 0 ds := by
          show (decide (1 ≤ ds.length) && decide (ds.length ≤ 200) && okFromD 0 ds) = _
          rw [decide_eq_true (by omega), decide_eq_true d1, Bool.true_and, Bool.true_and]
        rw [e0] at k
        refine ⟨_, rfl, a, rfl, ⟨_, SqL.of ha⟩, for_list (K := K) (a := a) (xs := xs)
          (fun i σ H2 => H2 = H ∧ (∃ v, σ = [some (.ref a), some (.int (gD ds i)), v]) ∧ okFromD (gD ds i) (ds.drop i) = okFromD 0 ds)
          ⟨rfl, ⟨_, rfl⟩, rfl⟩ (fun i σ H2 _ q => by rw [q.1]; exact SqL.of ha) ?_ ?_⟩
        · rintro i x σ H2 hi ⟨rfl, ⟨v, rfl⟩, q⟩
          obtain ⟨e, bs, he, hxe⟩ := hx.at hi
          rw [okFromD_drop he] at q
          refine ⟨_, rfl, _, rfl, x, e, bs, _, _, rfl, hxe, _, rfl, ite2 (fun d => ?_) (fun d => ?_)⟩
          · rw [bnot_t d, Bool.false_and] at q
            rw [← q] at k
            exact k
          · have d' := bnot_f d
            rw [d', Bool.true_and] at q
            obtain ⟨v, rfl, _, _⟩ := inD_int d'
            cases hxe
            have eg : gD ds (i + 1) = v + 1 := by show nextD (ds.getD i .none) = _; rw [getD_of he]; rfl
            rw [eg]
            exact ⟨_, rfl, _, _, rfl, rfl, rfl, ⟨_, rfl⟩, q⟩
        · rintro σ H2 ⟨rfl, ⟨v, rfl⟩, q⟩
          rw [el, List.drop_length] at q
          rw [← q] at k
          exact k
    · refine ⟨_, rfl, iteT (no ?_)⟩
      have c1 : ¬ 1 ≤ ds.length := fun z => c (decide_eq_true (by omega))
      show (decide (1 ≤ ds.length) && decide (ds.length ≤ 200) && okFromD 0 ds) = false
      rw [decide_eq_false c1, Bool.false_and, Bool.false_and]
  | _ => exact absurd rfl c
end
abbrev s_check_outline : Stmt := topS 13
abbrev N_check_outline : List Str := ["outline"]
abbrev P_check_outline : List Str := ["outline"]
theorem sc_check_outline : FnScope N_check_outline P_check_outline (defScope s_check_outline) := ⟨rfl, rfl, rfl, by decide +kernel, rfl, by decide +kernel, by decide +kernel⟩
abbrev s_stop_of : Stmt := topS 14
abbrev N_stop_of : List Str := ["outline", "line"]
abbrev P_stop_of : List Str := ["outline", "line"]
theorem sc_stop_of : FnScope N_stop_of P_stop_of (defScope s_stop_of) := ⟨rfl, rfl, rfl, by decide +kernel, rfl, by decide +kernel, by decide +kernel⟩
section
variable {P : Program} {w : World} {K : PySem.W.Frag} {mg : Str → Option Value} {base : Heap}
theorem Has.impX {CX : CXT} {k : Nat} {x : Str} {st : Stmt} {ps : List Str} {sp sp' : Sp} (h : Has P w K mg base CX k x st ps sp) (i : ∀ vs H Q E, sp' vs H Q E → sp vs H Q E) :
    Has P w K mg base CX k x st ps sp' := by
  obtain ⟨f, fd, F, m, G, b⟩ := h
  exact ⟨f, fd, F, m, ⟨fun vs H Q E h => G.arity vs H Q E (i vs H Q E h), fun A outer s H args us vs Q E r q e bt v h => G.go A outer s H args us vs Q E r q e bt v (i vs H Q E h)⟩, b⟩
/-- an int is within: least <= value <= greatest -/
def sp_within : Sp := fun vs H Q _ => ∃ v a b : Int, vs = [.int v, .int a, .int b] ∧ Q (.bl (decide (a ≤ v) && decide (v ≤ b))) H
/-- a list of ints: is it an outline -/
def sp_is_outline : Sp := fun vs H Q _ => ∃ (a : Addr) (ns : List Int), vs = [.ref a] ∧ H a = some (.lst (iv ns)) ∧ Q (.bl (isO ns)) H
theorem within_imp : ∀ vs H Q E, sp_within vs H Q E → sp_withinX vs H Q E := by
  rintro vs H Q E ⟨v, a, b, rfl, k⟩
  exact ⟨.int v, .int v, [], a, b, rfl, .int v, k⟩
theorem outline_imp : ∀ vs H Q E, sp_is_outline vs H Q E → sp_is_outlineX vs H Q E := by
  rintro vs H Q E ⟨a, ns, rfl, ha, k⟩
  exact ⟨.ref a, dI ns, [a], rfl, dx_dI ha, by rw [isOD_dI]; exact k⟩
/-- an outline: nothing is raised -/
def sp_check_outline : Sp := fun vs H Q _ => ∃ (a : Addr) (ns : List Int), vs = [.ref a] ∧ H a = some (.lst (iv ns)) ∧ isO ns = true ∧ Q .non H
theorem ok_check_outline (T : Txt mg) (h : At K mg "check_outline" s_check_outline)
    (g_is_outline : Has P w K mg base CX0 3 "is_outline" s_is_outline P_is_outline sp_is_outline) :
    Has P w K mg base CX0 4 "check_outline" s_check_outline P_check_outline sp_check_outline := by
  refine Has.of h sc_check_outline (fun vs H Q E h => ?_) (fun _ _ _ _ _ _ us hl => match us, hl with | [_], _ => rfl) (fun f cdv A outer s H vs Q E room qt h => ?_)
  · obtain ⟨v, a, rfl, _⟩ := h; rfl
  obtain ⟨a, ns, rfl, ha, ho, k⟩ := h
  refine ⟨_, (pss_one (ps_if (pt_not (pt_val (pe_has g_is_outline (room.mono (by decide)) qt (by rfl) pass0 (pa_cons (pv 0) pa_nil))))
        (pss_one ps_never)
        pss_nil)), ?_⟩
  refine ⟨_, rfl, a, ns, rfl, ha, _, rfl, ?_⟩
  rw [ho]
  exact iteF k

/-- the stop of a line -/
def sp_stop_of (K : PySem.W.Frag) : Sp := fun vs H Q _ => ∃ (a : Addr) (ns : List Int) (i : Int), vs = [.ref a, .int i] ∧ SqL K H a (iv ns) ∧ 0 ≤ i ∧ i < ns.length ∧ Q (.int (i - ns.getD i.toNat 0)) H
theorem ok_stop_of (T : Txt mg) (h : At K mg "stop_of" s_stop_of) :
    Has P w K mg base CX0 1 "stop_of" s_stop_of P_stop_of (sp_stop_of K) := by
  refine Has.of h sc_stop_of (fun vs H Q E h => ?_) (fun _ _ _ _ _ _ us hl => match us, hl with | [_, _], _ => rfl) (fun f cdv A outer s H vs Q E room qt h => ?_)
  · obtain ⟨v, a, i, rfl, _⟩ := h; rfl
  obtain ⟨a, ns, i, rfl, ha, h0, h1, k⟩ := h
  refine ⟨_, (pss_one (ps_ret (pe_op op_sub (pv 1) (pe_ix ix_list (pv 0) (pv 1) (fun _ _ => rfl))))), ?_⟩
  exact ⟨_, rfl, _, rfl, _, rfl, _, _, _, _, rfl, rfl, ha, atI_iv h0 h1, _, _, rfl, rfl, k⟩
end
theorem okFrom_snoc {ns : List Int} {d : Int} : ∀ {g : Int}, okFrom g ns = true → 0 ≤ d → (ns = [] → d ≤ g) → (ns ≠ [] → d ≤ ns.getD (ns.length - 1) 0 + 1) → okFrom g (ns ++ [d]) = true := by
  induction ns with
  | nil => intro g _ h0 h1 _; simp only [List.nil_append, okFrom, Bool.and_eq_true, decide_eq_true_eq, and_true]; exact ⟨h0, h1 rfl⟩
  | cons e r ih =>
    intro g h h0 _ h2
    simp only [okFrom, Bool.and_eq_true, decide_eq_true_eq, List.cons_append] at h ⊢
    refine ⟨h.1, ih h.2 h0 (fun er => ?_) fun er => ?_⟩
    · subst er
      exact h2 (by simp)
    · have := h2 (by simp)
      cases r with
      | nil => exact absurd rfl er
      | cons f r => exact this
theorem okFrom_le {ns : List Int} : ∀ {g : Int} {i : Nat}, okFrom g ns = true → i < ns.length → ns.getD i 0 ≤ g + i := by
  induction ns with
  | nil => intro g i _ h; exact absurd h (Nat.not_lt_zero _)
  | cons d r ih =>
    intro g i h hi
    simp only [okFrom, Bool.and_eq_true, decide_eq_true_eq] at h
    cases i with
    | zero => show d ≤ g + ((0 : Nat) : Int); omega
    | succ i =>
      have := ih (i := i) h.2 (Nat.lt_of_succ_lt_succ hi)
      show r.getD i 0 ≤ g + ((i + 1 : Nat) : Int)
      omega
/-! ### headings, top lines, views as lists of ints -/
/-- the headings found from line k on upwards, the next wanted depth being w -/
def headsL (ns : List Int) : Nat → Int → List Int
  | 0, _ => []
  | k + 1, w => if ns.getD k 0 = w then headsL ns k (w - 1) ++ [(k : Int)] else headsL ns k w
def headsOf (ns : List Int) (i : Nat) : List Int := headsL ns i (ns.getD i 0 - 1)
theorem headsL_len (ns : List Int) : ∀ (k : Nat) (w : Int), (headsL ns k w).length ≤ k
  | 0, _ => Nat.le_refl _
  | k + 1, w => by
    unfold headsL
    split
    · rw [List.length_append]
      exact Nat.succ_le_succ (headsL_len ns k _)
    · exact Nat.le_succ_of_le (headsL_len ns k _)
theorem headsL_mem {ns : List Int} : ∀ {k : Nat} {w v : Int}, v ∈ headsL ns k w → 0 ≤ v ∧ v < k
  | k + 1, w, v, h => by
    unfold headsL at h
    split at h
    · rcases List.mem_append.mp h with h | h
      · have := headsL_mem h; omega
      · have := List.mem_singleton.mp h; omega
    · have := headsL_mem h; omega
def stopAt (ns : List Int) (i : Nat) : Int := (i : Int) - ns.getD i 0
def lastStop (ns : List Int) : Int := stopAt ns (ns.length - 1)
/-- t is the top line at s -/
def IsTop (ns : List Int) (s : Int) (t : Nat) : Prop := t < ns.length ∧ s ≤ stopAt ns t ∧ ∀ j, j < t → stopAt ns j < s
theorem IsTop.uniq {ns : List Int} {s : Int} {t u : Nat} (a : IsTop ns s t) (b : IsTop ns s u) : t = u := by
  rcases Nat.lt_trichotomy t u with h | h | h
  · have := b.2.2 t h; have := a.2.1; omega
  · exact h
  · have := a.2.2 u h; have := b.2.1; omega
theorem top_ex {ns : List Int} {s : Int} : ∀ n, n < ns.length → s ≤ stopAt ns n → ∃ t, t ≤ n ∧ IsTop ns s t
  | 0, h, q => ⟨0, Nat.le_refl _, h, q, fun j hj => absurd hj (Nat.not_lt_zero _)⟩
  | n + 1, h, q => by
    by_cases e : ∃ j, j ≤ n ∧ s ≤ stopAt ns j
    · obtain ⟨j, hj, ej⟩ := e
      obtain ⟨t, ht, it⟩ := top_ex j (by omega) ej
      exact ⟨t, by omega, it⟩
    · refine ⟨n + 1, Nat.le_refl _, h, q, fun j hj => ?_⟩
      by_cases z : s ≤ stopAt ns j
      · exact (e ⟨j, by omega, z⟩).elim
      · omega
/-- slices of lists of ints -/
def cutI (l : List Int) (lo hi : Option Int) : List Int := (l.drop (HT.sIx l.length 0 lo)).take (HT.sIx l.length l.length hi - HT.sIx l.length 0 lo)
theorem cutV_iv (l : List Int) (lo hi : Option Int) : cutV (iv l) lo hi = iv (cutI l lo hi) := by
  unfold cutV cutI iv
  rw [List.map_take, List.map_drop, List.length_map]
theorem cutI_len (l : List Int) (lo hi : Option Int) : (cutI l lo hi).length ≤ l.length := by
  unfold cutI
  rw [List.length_take, List.length_drop]
  omega
theorem cutI_to (l : List Int) {n : Int} (h : 0 ≤ n) : cutI l none (some n) = l.take n.toNat := by
  unfold cutI
  have e : n = (n.toNat : Int) := by omega
  rw [e, HT.sIx_none, HT.sIx_nat, List.drop_zero, Nat.sub_zero, Int.toNat_natCast]
  rcases Nat.le_total n.toNat l.length with a | a
  · rw [Nat.min_eq_left a]
  · rw [Nat.min_eq_right a, List.take_length, List.take_of_length_le a]
/-- lo, lo + 1, .. below hi -/
def rg2 (lo hi : Int) : List Int := (List.range (hi - lo).toNat).map fun (i : Nat) => lo + (i : Int)
theorem rgV_rg2 (a b : Int) : rgV a b = iv (rg2 a b) := by
  unfold rgV rg2 iv
  rw [List.map_map]
  rfl
theorem rg2_len (a b : Int) : (rg2 a b).length = (b - a).toNat := by unfold rg2; rw [List.length_map, List.length_range]
def pushedL (ns : List Int) (t : Nat) (s : Int) : List Int := if stopAt ns t - s = 0 then [] else cutI (headsOf ns (t - 1)) (some (-(stopAt ns t - s))) none
def rowsL (ns : List Int) (s : Int) (t : Nat) : List Int := headsOf ns t ++ pushedL ns t s ++ rg2 t ns.length
def viewL (ns : List Int) (h s : Int) (t : Nat) : List Int := (rowsL ns s t).take h.toNat
theorem pushedL_len (ns : List Int) (t : Nat) (s : Int) : (pushedL ns t s).length ≤ t := by
  unfold pushedL
  split
  · exact Nat.zero_le _
  · exact Nat.le_trans (cutI_len _ _ _) (Nat.le_trans (headsL_len _ _ _) (Nat.sub_le _ _))
theorem stopAt_nn {ns : List Int} (h : okFrom 0 ns = true) {i : Nat} (hi : i < ns.length) : 0 ≤ stopAt ns i ∧ stopAt ns i ≤ i := by
  have a := okFrom_le h hi
  have b := (okFrom_at h hi).1
  unfold stopAt
  omega
/-! ### the first lines of pages -/
def nxt (ns : List Int) (h : Int) (i : Nat) : Nat := i + max 1 (h - ns.getD i 0).toNat
def pagesL (ns : List Int) (h : Int) (i : Nat) : List Int := if i < ns.length then (i : Int) :: pagesL ns h (nxt ns h i) else []
termination_by ns.length - i
decreasing_by unfold nxt; omega
/-- all lines from i on are less deep than h -/
def Fit (ns : List Int) (h : Int) (i : Nat) : Prop := ∀ j, i ≤ j → j < ns.length → ns.getD j 0 < h
theorem pagesL_go {ns : List Int} {h : Int} {i : Nat} (hi : i < ns.length) : pagesL ns h i = (i : Int) :: pagesL ns h (nxt ns h i) := by
  rw [pagesL, if_pos hi]
theorem pagesL_end {ns : List Int} {h : Int} {i : Nat} (hi : ns.length ≤ i) : pagesL ns h i = [] := by
  rw [pagesL, if_neg (by omega)]
theorem nxt_gt (ns : List Int) (h : Int) (i : Nat) : i < nxt ns h i := by unfold nxt; omega
theorem nxt_int {ns : List Int} {h : Int} {i : Nat} (f : ns.getD i 0 < h) : ((nxt ns h i : Nat) : Int) = i + (h - ns.getD i 0) := by unfold nxt; omega
theorem pagesL_len (ns : List Int) (h : Int) (i : Nat) : (pagesL ns h i).length ≤ ns.length - i := by
  induction hm : ns.length - i using Nat.strongRecOn generalizing i with
  | _ m ih =>
    rcases Nat.lt_or_ge i ns.length with c | c
    · rw [pagesL_go c, List.length_cons]
      have := nxt_gt ns h i
      have := ih (ns.length - nxt ns h i) (by omega) _ rfl
      omega
    · rw [pagesL_end c]
      exact Nat.zero_le _
theorem pagesL_mem {ns : List Int} {h : Int} {v : Int} {i : Nat} (hv : v ∈ pagesL ns h i) : (i : Int) ≤ v ∧ v < ns.length := by
  induction hm : ns.length - i using Nat.strongRecOn generalizing i with
  | _ m ih =>
    rcases Nat.lt_or_ge i ns.length with c | c
    · rw [pagesL_go c] at hv
      have := nxt_gt ns h i
      rcases List.mem_cons.mp hv with e | e
      · subst e
        omega
      · have := ih (ns.length - nxt ns h i) (by omega) e rfl
        omega
    · rw [pagesL_end c] at hv
      cases hv
abbrev s_check_height : Stmt := topS 17
abbrev N_check_height : List Str := ["height"]
abbrev P_check_height : List Str := ["height"]
theorem sc_check_height : FnScope N_check_height P_check_height (defScope s_check_height) := ⟨rfl, rfl, rfl, by decide +kernel, rfl, by decide +kernel, by decide +kernel⟩
section
variable {P : Program} {w : World} {K : PySem.W.Frag} {mg : Str → Option Value} {base : Heap}
def sp_check_height : Sp := fun vs H Q _ => ∃ n : Int, vs = [.int n] ∧ 1 ≤ n ∧ n ≤ 400 ∧ Q .non H
theorem ok_check_height {t : Tok} (T : Txt mg) (c_MOST_ROWS : mg "MOST_ROWS" = some (.int 400 t)) (h : At K mg "check_height" s_check_height)
    (g_is_integer_within : Has P w K mg base CX0 2 "is_integer_within" s_is_integer_within P_is_integer_within sp_within) :
    Has P w K mg base CX0 3 "check_height" s_check_height P_check_height sp_check_height := by
  refine Has.of h sc_check_height (fun vs H Q E h => ?_) (fun _ _ _ _ _ _ us hl => match us, hl with | [_], _ => rfl) (fun f cdv A outer s H vs Q E room qt h => ?_)
  · obtain ⟨n, rfl, _⟩ := h; rfl
  obtain ⟨n, rfl, h0, h1, k⟩ := h
  refine ⟨_, (pss_one (ps_if (pt_not (pt_val (pe_has g_is_integer_within (room.mono (by decide)) qt (by rfl) pass0 (pa_cons (pv 0) (pa_cons pe_int (pa_cons (pe_glob (v := .int 400) rfl c_MOST_ROWS ⟨_, rfl⟩) pa_nil))))))
        (pss_one ps_never)
        pss_nil)), ?_⟩
  refine ⟨_, rfl, _, _, _, rfl, _, rfl, ?_⟩
  rw [decide_eq_true h0, decide_eq_true h1]
  exact iteF k
end
abbrev s_check_depths : Stmt := topS 21
abbrev N_check_depths : List Str := ["outline", "height", "line", "below"]
abbrev P_check_depths : List Str := ["outline", "height", "line"]
theorem sc_check_depths : FnScope N_check_depths P_check_depths (defScope s_check_depths) := ⟨rfl, rfl, rfl, by decide +kernel, rfl, by decide +kernel, by decide +kernel⟩
section
variable {P : Program} {w : World} {K : PySem.W.Frag} {mg : Str → Option Value} {base : Heap}
def sp_check_depths (K : PySem.W.Frag) : Sp := fun vs H Q _ => ∃ (a : Addr) (ns : List Int) (h : Int) (i : Nat), vs = [.ref a, .int h, .int i] ∧ SqL K H a (iv ns) ∧ ns.length ≤ 1000 ∧ i ≤ 1000 ∧ Fit ns h i ∧ Q .non H
theorem ok_check_depths (T : Txt mg) (h : At K mg "check_depths" s_check_depths) :
    Has P w K mg base CX0 2 "check_depths" s_check_depths P_check_depths (sp_check_depths K) := by
  refine Has.of h sc_check_depths (fun vs H Q E h => ?_) (fun _ _ _ _ _ _ us hl => match us, hl with | [_, _, _], _ => rfl) (fun f cdv A outer s H vs Q E room qt h => ?_)
  · obtain ⟨a, n, z, t, rfl, _⟩ := h; rfl
  obtain ⟨a, ns, hh, i, rfl, ha, hl, il, ft, k⟩ := h
  refine ⟨_, (pss_one (ps_for PassesOwn.never rfl (pi_range2 (by rfl) T.range (pa_cons (pv 2) (pa_cons (pe_callB call_len_seq (by rfl) T.len (by decide +kernel) (pa_cons (pv 0) pa_nil)) pa_nil))) (pg_name (i := 3) sc_check_depths.nd rfl (Or.inl rfl) (hf := Or.inl rfl))
        (pss_one (ps_if (pt_cmpR op_ge (pe_ix ix_list (pv 0) (pv 3) (fun _ _ => rfl)) (pv 1) (nomark _))
          (pss_one ps_never)
          pss_nil)))), ?_⟩
  have el : (iv ns).length = ns.length := List.length_map _
  refine ⟨_, rfl, _, rfl, a, _, rfl, .inl ha, _, _, rfl, ⟨by omega, by omega, by omega, by omega⟩, for_range (lo := i) (n := (((iv ns).length : Int) - i).toNat) (fun j σ H2 => H2 = H ∧ ∃ v, σ = [some (.ref a), some (.int hh), some (.int i), v])
    ⟨rfl, _, rfl⟩ ?_ ?_⟩
  · rintro j σ H2 hj ⟨rfl, v, rfl⟩
    refine ⟨_, rfl, _, rfl, a, iv ns, _, _, rfl, rfl, ha, atI_iv (by omega) (by omega), _, rfl, _, _, rfl, rfl, _, rfl, ite2 (fun c => ?_) (fun c => ⟨rfl, _, rfl⟩)⟩
    have c1 : hh ≤ ns.getD ((i : Int) + (j : Nat)).toNat 0 := of_decide_eq_true c
    have := ft ((i : Int) + (j : Nat)).toNat (by omega) (by omega)
    omega
  · rintro σ H2 ⟨rfl, v, rfl⟩
    exact k
end
abbrev s_check_all_shown : Stmt := topS 22
abbrev N_check_all_shown : List Str := ["outline", "height"]
abbrev P_check_all_shown : List Str := ["outline", "height"]
theorem sc_check_all_shown : FnScope N_check_all_shown P_check_all_shown (defScope s_check_all_shown) := ⟨rfl, rfl, rfl, by decide +kernel, rfl, by decide +kernel, by decide +kernel⟩
section
variable {P : Program} {w : World} {K : PySem.W.Frag} {mg : Str → Option Value} {base : Heap}
def sp_check_all_shown : Sp := fun vs H Q _ => ∃ (a : Addr) (ns : List Int) (h : Int), vs = [.ref a, .int h] ∧ H a = some (.lst (iv ns)) ∧ isO ns = true ∧ 1 ≤ h ∧ h ≤ 400 ∧ Fit ns h 0 ∧ Q .non H
theorem ok_check_all_shown (T : Txt mg) (h : At K mg "check_all_shown" s_check_all_shown)
    (g_check_outline : Has P w K mg base CX0 4 "check_outline" s_check_outline P_check_outline sp_check_outline)
    (g_check_height : Has P w K mg base CX0 3 "check_height" s_check_height P_check_height sp_check_height)
    (g_check_depths : Has P w K mg base CX0 2 "check_depths" s_check_depths P_check_depths (sp_check_depths K)) :
    Has P w K mg base CX0 5 "check_all_shown" s_check_all_shown P_check_all_shown sp_check_all_shown := by
  refine Has.of h sc_check_all_shown (fun vs H Q E h => ?_) (fun _ _ _ _ _ _ us hl => match us, hl with | [_, _], _ => rfl) (fun f cdv A outer s H vs Q E room qt h => ?_)
  · obtain ⟨a, n, z, rfl, _⟩ := h; rfl
  obtain ⟨a, ns, hh, rfl, ha, ho, h0, h1, ft, k⟩ := h
  obtain ⟨l1, l2, hk⟩ := isO_iff.mp ho
  refine ⟨_, (pss_cons (ps_expr (pe_has g_check_outline (room.mono (by decide)) qt (by rfl) pass0 (pa_cons (pv 0) pa_nil)))
      (pss_cons (ps_expr (pe_has g_check_height (room.mono (by decide)) qt (by rfl) pass0 (pa_cons (pv 1) pa_nil)))
      (pss_one (ps_expr (pe_has g_check_depths (room.mono (by decide)) qt (by rfl) pass0 (pa_cons (pv 0) (pa_cons (pv 1) (pa_cons pe_int pa_nil)))))))), ?_⟩
  exact ⟨_, rfl, a, ns, rfl, ha, ho, _, rfl, hh, rfl, h0, h1, _, rfl, _, rfl, a, ns, hh, 0, rfl, SqL.of ha, by omega, by omega, ft, k⟩
end
def IsMax (ns : List Int) (m : Int) : Prop := m ∈ ns ∧ ∀ y, y ∈ ns → y ≤ m
theorem IsMax.uniq {ns : List Int} {m n : Int} (a : IsMax ns m) (b : IsMax ns n) : m = n := Int.le_antisymm (b.2 _ a.1) (a.2 _ b.1)
theorem IsMax.fit {ns : List Int} {m h : Int} (a : IsMax ns m) (q : m < h) (i : Nat) : Fit ns h i := fun j _ hj => by
  have := a.2 (ns.getD j 0) (by rw [List.getD_eq_getElem?_getD, List.getElem?_eq_getElem hj]; exact List.getElem_mem hj)
  omega
theorem max_ex : ∀ {ns : List Int}, 1 ≤ ns.length → ∃ m, IsMax ns m
  | [x], _ => ⟨x, List.mem_cons_self, fun y hy => by rw [List.mem_singleton.mp hy]; exact Int.le_refl _⟩
  | x :: y :: r, _ => by
    obtain ⟨m, h1, h2⟩ := max_ex (ns := y :: r) (by simp)
    rcases Int.le_total m x with c | c
    · exact ⟨x, List.mem_cons_self, fun z hz => by
        rcases List.mem_cons.mp hz with e | e
        · omega
        · exact Int.le_trans (h2 z e) c⟩
    · exact ⟨m, List.mem_cons_of_mem _ h1, fun z hz => by
        rcases List.mem_cons.mp hz with e | e
        · omega
        · exact h2 z e⟩
theorem IsMax.lt {ns : List Int} {m : Int} (h : isO ns = true) (a : IsMax ns m) : 0 ≤ m ∧ m < ns.length := by
  obtain ⟨l1, l2, hk⟩ := isO_iff.mp h
  obtain ⟨i, hi, e⟩ := List.getElem_of_mem a.1
  have q1 := (okFrom_at hk hi).1
  have q2 := okFrom_le hk hi
  rw [List.getD_eq_getElem?_getD, List.getElem?_eq_getElem hi, Option.getD_some, e] at q1 q2
  omega
abbrev s_scrolls_for_span : Stmt := topS 19
abbrev N_scrolls_for_span : List Str := ["outline", "height", "first", "last", "greatest", "least"]
abbrev P_scrolls_for_span : List Str := ["outline", "height", "first", "last"]
theorem sc_scrolls_for_span : FnScope N_scrolls_for_span P_scrolls_for_span (defScope s_scrolls_for_span) := ⟨rfl, rfl, rfl, by decide +kernel, rfl, by decide +kernel, by decide +kernel⟩
section
variable {P : Program} {w : World} {K : PySem.W.Frag} {mg : Str → Option Value} {base : Heap}
/-- the scroll positions of lines: a tuple, or None -/
def RetS (Q : VK) (H : Hp) (lo hi : Int) : Prop := (lo > hi → ∀ H', Same H H' → Q .non H') ∧
  (lo ≤ hi → ∀ p H', H p = none → Same H H' → H' p = some (.tup [.int lo, .int hi]) → Q (.ref p) H')
def sp_span (K : PySem.W.Frag) : Sp := fun vs H Q _ => ∃ (a : Addr) (ns : List Int) (n : Int) (i j : Nat), vs = [.ref a, .int n, .int i, .int j] ∧ SqL K H a (iv ns) ∧ i < ns.length ∧
  RetS Q H (if (j : Int) - n + 1 > 0 then (j : Int) - n + 1 else 0) (stopAt ns i)
theorem ok_scrolls_for_span (T : Txt mg) (h : At K mg "scrolls_for_span" s_scrolls_for_span)
    (g_stop_of : Has P w K mg base CX0 1 "stop_of" s_stop_of P_stop_of (sp_stop_of K)) :
    Has P w K mg base CX0 3 "scrolls_for_span" s_scrolls_for_span P_scrolls_for_span (sp_span K) := by
  refine Has.of h sc_scrolls_for_span (fun vs H Q E h => ?_) (fun _ _ _ _ _ _ us hl => match us, hl with | [_, _, _, _], _ => rfl) (fun f cdv A outer s H vs Q E room qt h => ?_)
  · obtain ⟨a, n, z, i, j, rfl, _⟩ := h; rfl
  obtain ⟨a, ns, n, i, j, rfl, ha, hi, k1, k2⟩ := h
  refine ⟨_, (pss_cons (ps_set (i := 4) sc_scrolls_for_span.nd rfl (Or.inl rfl) (pe_has g_stop_of (room.mono (by decide)) qt (by rfl) pass0 (pa_cons (pv 0) (pa_cons (pv 2) pa_nil))))
      (pss_cons (ps_set (i := 5) sc_scrolls_for_span.nd rfl (Or.inl rfl) (pe_callB (call_max2 rfl) (by rfl) T.max (by decide +kernel) (pa_cons pe_int (pa_cons (pe_op op_add (pe_op op_sub (pv 3) (pv 1)) pe_int) pa_nil))))
      (pss_cons (ps_if (pt_cmpR op_gt (pv 5) (pv 4) (nomark _))
        (pss_one (ps_ret pe_non))
        pss_nil)
      (pss_one (ps_ret (pe_tup (pa_cons (pv 5) (pa_cons (pv 4) pa_nil)))))))), ?_⟩
  refine ⟨_, rfl, _, rfl, a, ns, i, rfl, ha, by omega, by omega, ?_⟩
  rw [Int.toNat_natCast]
  refine ⟨_, rfl, _, rfl, _, _, rfl, rfl, _, _, rfl, rfl, _, _, rfl, _, rfl, _, rfl, _, _, rfl, rfl, _, rfl, ite2 (fun c => ?_) (fun c => ?_)⟩
  · exact k1 (of_decide_eq_true c) H (Same.refl H)
  · have c1 := fun q => c (decide_eq_true q)
    exact ⟨_, rfl, _, rfl, (by decide : 2 ≤ sizeLine), fun p hp => k2 (Int.not_lt.mp c1) p _ hp (Same.new hp) upd_same⟩
end
abbrev s_greatest_scroll : Stmt := topS 18
abbrev N_greatest_scroll : List Str := ["outline"]
abbrev P_greatest_scroll : List Str := ["outline"]
theorem sc_greatest_scroll : FnScope N_greatest_scroll P_greatest_scroll (defScope s_greatest_scroll) := ⟨rfl, rfl, rfl, by decide +kernel, rfl, by decide +kernel, by decide +kernel⟩
section
variable {P : Program} {w : World} {K : PySem.W.Frag} {mg : Str → Option Value} {base : Heap}
def sp_greatest_scroll (K : PySem.W.Frag) : Sp := fun vs H Q _ => ∃ (a : Addr) (ns : List Int), vs = [.ref a] ∧ SqL K H a (iv ns) ∧ 1 ≤ ns.length ∧ Q (.int (lastStop ns)) H
theorem ok_greatest_scroll (T : Txt mg) (h : At K mg "greatest_scroll" s_greatest_scroll)
    (g_stop_of : Has P w K mg base CX0 1 "stop_of" s_stop_of P_stop_of (sp_stop_of K)) :
    Has P w K mg base CX0 2 "greatest_scroll" s_greatest_scroll P_greatest_scroll (sp_greatest_scroll K) := by
  refine Has.of h sc_greatest_scroll (fun vs H Q E h => ?_) (fun _ _ _ _ _ _ us hl => match us, hl with | [_], _ => rfl) (fun f cdv A outer s H vs Q E room qt h => ?_)
  · obtain ⟨a, n, rfl, _⟩ := h; rfl
  obtain ⟨a, ns, rfl, ha, hl, k⟩ := h
  refine ⟨_, (pss_one (ps_ret (pe_has g_stop_of (room.mono (by decide)) qt (by rfl) pass0 (pa_cons (pv 0) (pa_cons (pe_op op_sub (pe_callB call_len_seq (by rfl) T.len (by decide +kernel) (pa_cons (pv 0) pa_nil)) pe_int) pa_nil))))), ?_⟩
  have el : (iv ns).length = ns.length := List.length_map _
  refine ⟨_, rfl, _, rfl, a, _, rfl, .inl ha, _, _, rfl, rfl, a, ns, _, rfl, ha, by omega, by omega, ?_⟩
  have e : ((iv ns).length : Int) - 1 - ns.getD (((iv ns).length : Int) - 1).toNat 0 = lastStop ns := by
    rw [el]
    have e1 : ((ns.length : Int) - 1).toNat = ns.length - 1 := by omega
    unfold lastStop stopAt
    rw [e1]
    omega
  rw [e]
  exact k
end
end SH

namespace SH
open PySem PySem.Spec PyProof.Rows L2
abbrev s_is_ascending_list : Stmt := topS 9
abbrev N_is_ascending_list : List Str := ["value", "greatest", "least", "item"]
abbrev P_is_ascending_list : List Str := ["value", "greatest"]
theorem sc_is_ascending_list : FnScope N_is_ascending_list P_is_ascending_list (defScope s_is_ascending_list) := ⟨rfl, rfl, rfl, by decide +kernel, rfl, by decide +kernel, by decide +kernel⟩
def ascD (g : Int) : Int → List PyData → Bool
  | _, [] => true
  | lo, d :: r => inD d lo g && ascD g (nextD d) r
def ascXD (g : Int) (d : PyData) : Bool := match d with | .list ds => ascD g 0 ds | _ => false
/-- strictly ascending from lo to g -/
def ascB (g : Int) : Int → List Int → Bool
  | _, [] => true
  | lo, x :: r => decide (lo ≤ x) && decide (x ≤ g) && ascB g (x + 1) r
theorem ascD_ints (g : Int) : ∀ (L : List Int) (lo : Int), ascD g lo (L.map PyData.int) = ascB g lo L
  | [], _ => rfl
  | x :: r, lo => by
    show (inD (.int x) lo g && ascD g (x + 1) (r.map PyData.int)) = _
    rw [ascD_ints g r]
    rfl
theorem ascD_iv {g : Int} : ∀ {ds : List PyData} {lo : Int}, ascD g lo ds = true → ∃ L : List Int, ds = L.map PyData.int
  | [], _, _ => ⟨[], rfl⟩
  | d :: r, lo, h => by
    have h' : (inD d lo g && ascD g (nextD d) r) = true := h
    rw [Bool.and_eq_true] at h'
    obtain ⟨v, rfl, _⟩ := inD_int h'.1
    obtain ⟨L, rfl⟩ := ascD_iv h'.2
    exact ⟨v :: L, rfl⟩
theorem dx_iv {H : Hp} : ∀ {L : List Int} {xs : List V} {as : List Addr}, DxAll H xs (L.map PyData.int) as → xs = iv L
  | [], _, _, h => by cases h; rfl
  | x :: r, _, _, h => by
    cases h with
    | cons h1 h2 =>
      cases h1
      rw [dx_iv h2]; rfl
theorem ascB_iff {g : Int} : ∀ {L : List Int} {lo : Int}, ascB g lo L = true ↔ L.Pairwise (· < ·) ∧ ∀ v ∈ L, lo ≤ v ∧ v ≤ g
  | [], _ => ⟨fun _ => ⟨List.Pairwise.nil, fun v hv => (List.not_mem_nil hv).elim⟩, fun _ => rfl⟩
  | x :: r, lo => by
    show (decide (lo ≤ x) && decide (x ≤ g) && ascB g (x + 1) r) = true ↔ _
    rw [Bool.and_eq_true, Bool.and_eq_true, decide_eq_true_eq, decide_eq_true_eq, ascB_iff, List.pairwise_cons]
    constructor
    · rintro ⟨⟨a, b⟩, c, d⟩
      refine ⟨⟨fun y hy => by have := d y hy; omega, c⟩, fun v hv => ?_⟩
      rcases List.mem_cons.mp hv with rfl | hv
      · exact ⟨a, b⟩
      · have := d v hv; omega
    · rintro ⟨⟨a, b⟩, c⟩
      exact ⟨c x List.mem_cons_self, b, fun v hv => ⟨by have := a v hv; omega, (c v (List.mem_cons_of_mem _ hv)).2⟩⟩
def aD (ds : List PyData) : Nat → Int
  | 0 => 0
  | i + 1 => nextD (ds.getD i .none)
theorem ascD_drop {g : Int} {ds : List PyData} {i : Nat} {d : PyData} (h : ds[i]? = some d) (lo : Int) : ascD g lo (ds.drop i) = (inD d lo g && ascD g (nextD d) (ds.drop (i + 1))) := by
  obtain ⟨hl, e⟩ := List.getElem?_eq_some_iff.mp h
  rw [List.drop_eq_getElem_cons hl, e]
  rfl
section
variable {P : Program} {w : World} {K : PySem.W.Frag} {mg : Str → Option Value} {base : Heap}
def sp_ascX : Sp := fun vs H Q _ => ∃ (x : V) (d : PyData) (as : List Addr) (g : Int), vs = [x, .int g] ∧ Dx H x d as ∧ Q (.bl (ascXD g d)) H
def sp_ascI : Sp := fun vs H Q _ => ∃ (b : Addr) (fs : List Int) (g : Int), vs = [.ref b, .int g] ∧ H b = some (.lst (iv fs)) ∧ Q (.bl (ascB g 0 fs)) H
theorem asc_imp : ∀ vs H Q E, sp_ascI vs H Q E → sp_ascX vs H Q E := by
  rintro vs H Q E ⟨b, fs, g, rfl, hb, k⟩
  refine ⟨.ref b, dI fs, [b], g, rfl, dx_dI hb, ?_⟩
  have e : ascXD g (dI fs) = ascB g 0 fs := ascD_ints g fs 0
  rw [e]
  exact k
theorem ok_is_ascending_list (T : Txt mg) (h : At K mg "is_ascending_list" s_is_ascending_list)
    (g_is_integer_within : Has P w K mg base CX0 2 "is_integer_within" s_is_integer_within P_is_integer_within sp_withinX) :
    Has P w K mg base CX0 3 "is_ascending_list" s_is_ascending_list P_is_ascending_list sp_ascX := by
  refine Has.of h sc_is_ascending_list (fun vs H Q E h => ?_) (fun _ _ _ _ _ _ us hl => match us, hl with | [_, _], _ => rfl) (fun f cdv A outer s H vs Q E room qt h => ?_)
  · obtain ⟨v, a, as, z, rfl, _⟩ := h; rfl
  obtain ⟨x, d, as, g, rfl, hd, k⟩ := h
  refine ⟨_, (pss_cons (ps_if (pt_cmpR op_neTy (pe_callTy call_typeX (by rfl) T.ttype (by decide +kernel) (pa_cons (pv 0) pa_nil)) (pe_bltn (v := .ty "list") (u := .type "list") (by rfl) T.tlist (by decide +kernel) rfl) (nomark _))
        (pss_one (ps_ret pe_bl))
        pss_nil)
      (pss_cons (ps_set (i := 2) sc_is_ascending_list.nd rfl (Or.inl rfl) pe_int)
      (pss_cons (ps_for PassesOwn.never rfl (pi_list (pv 0)) (pg_name (i := 3) sc_is_ascending_list.nd rfl (Or.inl rfl) (hf := Or.inl rfl))
        (pss_cons (ps_if (pt_not (pt_val (pe_has g_is_integer_within (room.mono (by decide)) qt (by rfl) pass0 (pa_cons (pv 3) (pa_cons (pv 2) (pa_cons (pv 1) pa_nil))))))
          (pss_one (ps_ret pe_bl))
          pss_nil)
        (pss_one (ps_set (i := 2) sc_is_ascending_list.nd rfl (Or.inl rfl) (pe_op op_add (pv 3) pe_int)))))
      (pss_one (ps_ret pe_bl))))), ?_⟩
  have other : tyD d ≠ "list" → ascXD g d = false := fun e => by
    cases d with
    | list ds => exact absurd rfl e
    | _ => rfl
  refine ⟨_, rfl, x, d, as, rfl, hd, _, _, rfl, rfl, by cases d <;> (simp only [tyD]; decide), by decide, _, rfl, ite2 (fun c => ?_) (fun c => ?_)⟩
  · rw [other (by simpa using c)] at k
    exact k
  cases hd with
  | @lst a xs ds as ha hx =>
    have el := hx.len
    refine ⟨_, rfl, a, rfl, ⟨_, SqL.of ha⟩, for_list (K := K) (a := a) (xs := xs)
      (fun i σ H2 => H2 = H ∧ (∃ v, σ = [some (.ref a), some (.int g), some (.int (aD ds i)), v]) ∧ ascD g (aD ds i) (ds.drop i) = ascD g 0 ds)
      ⟨rfl, ⟨_, rfl⟩, rfl⟩ (fun i σ H2 _ q => by rw [q.1]; exact SqL.of ha) ?_ ?_⟩
    · rintro i x σ H2 hi ⟨rfl, ⟨v, rfl⟩, q⟩
      obtain ⟨e, bs, he, hxe⟩ := hx.at hi
      rw [ascD_drop he] at q
      have k' : Q (.bl (ascD g 0 ds)) H2 := k
      refine ⟨_, rfl, _, rfl, _, rfl, x, e, bs, _, _, rfl, hxe, _, rfl, ite2 (fun d => ?_) (fun d => ?_)⟩
      · rw [bnot_t d, Bool.false_and] at q
        rw [← q] at k'
        exact k'
      · have d' := bnot_f d
        rw [d', Bool.true_and] at q
        obtain ⟨v, rfl, _, _⟩ := inD_int d'
        cases hxe
        have eg : aD ds (i + 1) = v + 1 := by show nextD (ds.getD i .none) = _; rw [getD_of he]; rfl
        rw [eg]
        exact ⟨_, rfl, _, _, rfl, rfl, rfl, ⟨_, rfl⟩, q⟩
    · rintro σ H2 ⟨rfl, ⟨v, rfl⟩, q⟩
      rw [el, List.drop_length] at q
      have k' : Q (.bl (ascD g 0 ds)) H2 := k
      rw [← q] at k'
      exact k'
  | _ => exact absurd (show _ from by first | rfl | decide) c
end
end SH

namespace SH
open PySem PySem.Spec PyProof.Rows L2
abbrev s_is_shown_by : Stmt := topS 23
abbrev N_is_shown_by : List Str := ["outline", "height", "scrolls", "line", "span", "least", "greatest", "scroll"]
abbrev P_is_shown_by : List Str := ["outline", "height", "scrolls", "line"]
theorem sc_is_shown_by : FnScope N_is_shown_by P_is_shown_by (defScope s_is_shown_by) := ⟨rfl, rfl, rfl, by decide +kernel, rfl, by decide +kernel, by decide +kernel⟩
/-- the least scroll position that shows line j -/
def loS (h : Int) (j : Int) : Int := if j - h + 1 > 0 then j - h + 1 else 0
def shB (ns : List Int) (h : Int) (L : List Int) (j : Nat) : Bool := L.any fun s => decide (loS h j ≤ s) && decide (s ≤ stopAt ns j)
theorem gives_ints (L : List Int) (f : Int → V) : gives L.length (fun _ => true) (fun i => f (L.getD i 0)) = L.map f := by
  rw [gives_all]
  refine List.ext_getElem (by rw [List.length_map, List.length_map, List.length_range]) fun i h1 h2 => ?_
  rw [List.length_map, List.length_range] at h1
  rw [List.getElem_map, List.getElem_map, List.getElem_range, List.getD_eq_getElem?_getD, List.getElem?_eq_getElem h1]
  rfl
section
variable {P : Program} {w : World} {K : PySem.W.Frag} {mg : Str → Option Value} {base : Heap}
def sp_is_shown_by : Sp := fun vs H Q _ => ∃ (a b : Addr) (ns L : List Int) (h : Int) (j : Nat), vs = [.ref a, .int h, .ref b, .int j] ∧ H a = some (.lst (iv ns)) ∧ j < ns.length ∧ H b = some (.lst (iv L)) ∧ L.length ≤ 1000 ∧ RetV Q H (.bl (shB ns h L j))
theorem ok_is_shown_by (T : Txt mg) (h : At K mg "is_shown_by" s_is_shown_by)
    (g_scrolls_for_span : Has P w K mg base CX0 3 "scrolls_for_span" s_scrolls_for_span P_scrolls_for_span (sp_span K)) :
    Has P w K mg base CX0 4 "is_shown_by" s_is_shown_by P_is_shown_by sp_is_shown_by := by
  refine Has.of h sc_is_shown_by (fun vs H Q E h => ?_) (fun _ _ _ _ _ _ us hl => match us, hl with | [_, _, _, _], _ => rfl) (fun f cdv A outer s H vs Q E room qt h => ?_)
  · obtain ⟨v, a, as, z, t, u, rfl, _⟩ := h; rfl
  obtain ⟨a, b, ns, L, hh, j, rfl, ha, hj, hb, hl, k⟩ := h
  have el : (iv L).length = L.length := List.length_map _
  refine ⟨_, (pss_cons (ps_set (i := 4) sc_is_shown_by.nd rfl (Or.inl rfl) (pe_has g_scrolls_for_span (room.mono (by decide)) qt (by rfl) pass0 (pa_cons (pv 0) (pa_cons (pv 1) (pa_cons (pv 3) (pa_cons (pv 3) pa_nil))))))
      (pss_cons (ps_if (pt_cmpR op_isN (pv 4) pe_non (nomark _))
        (pss_one (ps_ret pe_bl))
        pss_nil)
      (pss_cons (ps_asg (pv 4) (pg_tup rfl (pgs_cons (pg_name (i := 5) sc_is_shown_by.nd rfl (Or.inr rfl) (hf := Or.inl rfl)) (pgs_cons (pg_name (i := 6) sc_is_shown_by.nd rfl (Or.inr rfl) (hf := Or.inl rfl)) pgs_nil))))
      (pss_one (ps_ret (pe_callB (cr_any rfl) (by rfl) T.any (by decide +kernel) (pa_cons (pe_lc (own := [("scroll", 7)]) (by rfl) sc_is_shown_by.nd (pi_list (pv 2)) (blkOk_by (own := [("scroll", 7)]) (N := N_is_shown_by) (sc := defScope s_is_shown_by) (by decide +kernel)) (fun _ _ _ _ _ => (pg_name (i := 7) sc_is_shown_by.nd rfl (Or.inl rfl) (hf := Or.inr rfl))) (fun _ _ _ _ _ => pts_nil) (fun _ _ _ _ _ => (pe_chain op_le op_le (pv 5) (pv 7) (pv 6)))) pa_nil))))))), ?_⟩
  refine ⟨_, rfl, _, rfl, _, rfl, _, rfl, a, ns, hh, j, j, rfl, SqL.of ha, hj, fun c H2 s2 => ?_, fun c p H2 hp s2 h2 => ?_⟩
  · refine ⟨_, rfl, rfl, _, rfl, ?_⟩
    rw [decide_eq_true rfl]
    refine iteT ?_
    have e : shB ns hh L j = false := by
      unfold shB
      rw [List.any_eq_false]
      intro s _ q
      rw [Bool.and_eq_true, decide_eq_true_eq, decide_eq_true_eq] at q
      unfold loS at q
      omega
    rw [← e]
    exact k H2 s2
  · refine ⟨_, rfl, rfl, _, rfl, iteF ?_⟩
    refine ⟨_, rfl, p, _, rfl, SqT.of h2, rfl, _, _, rfl, _, _, rfl, rfl, ?_⟩
    refine ⟨_, rfl, b, rfl, ⟨_, SqL.of (s2 _ _ hb)⟩, fun D hD => lcLn (K := K) (a := b) (xs := iv L) (fun _ => true) (fun i => V.bl (decide (loS hh j ≤ L.getD i 0) && decide (L.getD i 0 ≤ stopAt ns j))) (SqL.of (s2 _ _ hb)) hD (by omega) (fun x => rfl) (fun i x H3 Q' _ _ qq => qq H3 (Same.refl _)) ?_ ?_⟩
    · intro i x H3 Q' hx _ s3 qq
      have il : i < L.length := by have := (List.getElem?_eq_some_iff.mp hx).1; omega
      rw [iv_at il] at hx
      cases hx
      refine ⟨_, rfl, _, rfl, _, _, rfl, rfl, _, rfl, ?_⟩
      show if decide (loS hh j ≤ L.getD i 0) = true then _ else _
      by_cases c2 : loS hh j ≤ L.getD i 0
      · rw [decide_eq_true c2, Bool.true_and] at qq
        rw [decide_eq_true c2]
        exact iteT ⟨_, rfl, _, _, rfl, rfl, qq H3 (Same.refl _)⟩
      · rw [decide_eq_false c2, Bool.false_and] at qq
        rw [decide_eq_false c2]
        exact iteF (qq H3 (Same.refl _))
    · intro H3 s3 h3
      rw [el, gives_ints L (fun s => V.bl (decide (loS hh j ≤ s) && decide (s ≤ stopAt ns j)))] at h3
      refine ⟨D, L.map (fun s => decide (loS hh j ≤ s) && decide (s ≤ stopAt ns j)), rfl, SqL.of (by rw [List.map_map]; exact h3), ?_⟩
      rw [List.any_map]
      exact k _ (s2.trans s3)
end
end SH

namespace SH
open PySem PySem.Spec PyProof.Rows L2
abbrev s_is_reading : Stmt := topS 24
abbrev N_is_reading : List Str := ["outline", "height", "value", "line"]
abbrev P_is_reading : List Str := ["outline", "height", "value"]
theorem sc_is_reading : FnScope N_is_reading P_is_reading (defScope s_is_reading) := ⟨rfl, rfl, rfl, by decide +kernel, rfl, by decide +kernel, by decide +kernel⟩
def intsD (d : PyData) : List Int := match d with | .list ds => ds.map (fun e => match e with | .int v => v | _ => 0) | _ => []
theorem intsD_dI (L : List Int) : intsD (dI L) = L := by
  show (L.map PyData.int).map _ = L
  rw [List.map_map]
  exact List.map_id L
def readD (ns : List Int) (h : Int) (d : PyData) : Bool := ascXD (lastStop ns) d && (List.range ns.length).all (fun j => shB ns h (intsD d) j)
def apartB (ns : List Int) (h : Int) : List Int → Bool
  | x :: y :: r => decide (stopAt ns x.toNat < loS h y) && apartB ns h (y :: r)
  | _ => true
def witD (ns : List Int) (h : Int) (d : PyData) : Bool := ascXD (ns.length - 1) d && apartB ns h (intsD d)
theorem ascXD_iv {H : Hp} {x : V} {d : PyData} {as : List Addr} {g : Int} (hd : Dx H x d as) (h : ascXD g d = true) : ∃ (b : Addr) (L : List Int), x = .ref b ∧ d = dI L ∧ H b = some (.lst (iv L)) ∧ ascB g 0 L = true := by
  cases hd with
  | @lst a xs ds as ha hx =>
    have h' : ascD g 0 ds = true := h
    obtain ⟨L, rfl⟩ := ascD_iv h'
    rw [dx_iv hx] at ha
    rw [ascD_ints] at h'
    exact ⟨a, L, rfl, rfl, ha, h'⟩
  | _ => exact absurd h Bool.false_ne_true
theorem ascB_len {g : Int} {L : List Int} (h : ascB g 0 L = true) : (L.length : Int) ≤ g + 1 ∨ L = [] := by
  have key : ∀ {L : List Int} {lo : Int}, ascB g lo L = true → L ≠ [] → (L.length : Int) ≤ g + 1 - lo := by
    intro L
    induction L with
    | nil => intro lo _ n; exact (n rfl).elim
    | cons x r ih =>
      intro lo h _
      have h' : (decide (lo ≤ x) && decide (x ≤ g) && ascB g (x + 1) r) = true := h
      rw [Bool.and_eq_true, Bool.and_eq_true, decide_eq_true_eq, decide_eq_true_eq] at h'
      by_cases e : r = []
      · subst e; show ((1 : Nat) : Int) ≤ _; omega
      · have := ih h'.2 e
        show ((r.length + 1 : Nat) : Int) ≤ _
        omega
  by_cases e : L = []
  · exact .inr e
  · have := key h e; exact .inl (by omega)
section
variable {P : Program} {w : World} {K : PySem.W.Frag} {mg : Str → Option Value} {base : Heap}
def sp_is_reading : Sp := fun vs H Q _ => ∃ (a : Addr) (ns : List Int) (h : Int) (x : V) (d : PyData) (as : List Addr), vs = [.ref a, .int h, x] ∧ H a = some (.lst (iv ns)) ∧ isO ns = true ∧ 1 ≤ h ∧ h ≤ 400 ∧ Dx H x d as ∧ RetV Q H (.bl (readD ns h d))
theorem ok_is_reading (T : Txt mg) (h : At K mg "is_reading" s_is_reading)
    (g_check_outline : Has P w K mg base CX0 4 "check_outline" s_check_outline P_check_outline sp_check_outline)
    (g_check_height : Has P w K mg base CX0 3 "check_height" s_check_height P_check_height sp_check_height)
    (g_is_ascending_list : Has P w K mg base CX0 3 "is_ascending_list" s_is_ascending_list P_is_ascending_list sp_ascX)
    (g_greatest_scroll : Has P w K mg base CX0 2 "greatest_scroll" s_greatest_scroll P_greatest_scroll (sp_greatest_scroll K))
    (g_is_shown_by : Has P w K mg base CX0 4 "is_shown_by" s_is_shown_by P_is_shown_by sp_is_shown_by) :
    Has P w K mg base CX0 5 "is_reading" s_is_reading P_is_reading sp_is_reading := by
  refine Has.of h sc_is_reading (fun vs H Q E h => ?_) (fun _ _ _ _ _ _ us hl => match us, hl with | [_, _, _], _ => rfl) (fun f cdv A outer s H vs Q E room qt h => ?_)
  · obtain ⟨v, a, as, z, t, u, rfl, _⟩ := h; rfl
  obtain ⟨a, ns, hh, x, d, as, rfl, ha, ho, h0, h1, hd, k⟩ := h
  obtain ⟨l1, l2, hk⟩ := isO_iff.mp ho
  have elo : (iv ns).length = ns.length := List.length_map _
  refine ⟨_, (pss_cons (ps_expr (pe_has g_check_outline (room.mono (by decide)) qt (by rfl) pass0 (pa_cons (pv 0) pa_nil)))
      (pss_cons (ps_expr (pe_has g_check_height (room.mono (by decide)) qt (by rfl) pass0 (pa_cons (pv 1) pa_nil)))
      (pss_cons (ps_if (pt_not (pt_val (pe_has g_is_ascending_list (room.mono (by decide)) qt (by rfl) pass0 (pa_cons (pv 2) (pa_cons (pe_has g_greatest_scroll (room.mono (by decide)) qt (by rfl) pass0 (pa_cons (pv 0) pa_nil)) pa_nil)))))
        (pss_one (ps_ret pe_bl))
        pss_nil)
      (pss_one (ps_ret (pe_callB (cr_all rfl) (by rfl) T.all (by decide +kernel) (pa_cons (pe_lc (own := [("line", 3)]) (by rfl) sc_is_reading.nd (pi_range1 (by rfl) T.range (pa_cons (pe_callB call_len_seq (by rfl) T.len (by decide +kernel) (pa_cons (pv 0) pa_nil)) pa_nil)) (blkOk_by (own := [("line", 3)]) (N := N_is_reading) (sc := defScope s_is_reading) (by decide +kernel)) (fun _ _ _ _ _ => (pg_name (i := 3) sc_is_reading.nd rfl (Or.inl rfl) (hf := Or.inr rfl))) (fun _ _ _ _ _ => pts_nil) (fun _ _ _ _ _ => (pe_has g_is_shown_by (room.mono (by decide)) qt (by rfl) pass0 (pa_cons (pv 0) (pa_cons (pv 1) (pa_cons (pv 2) (pa_cons (pv 3) pa_nil))))))) pa_nil))))))), ?_⟩
  refine ⟨_, rfl, a, ns, rfl, ha, ho, _, rfl, hh, rfl, h0, h1, ?_⟩
  refine ⟨_, rfl, _, rfl, a, ns, rfl, SqL.of ha, l1, x, d, as, _, rfl, hd, _, rfl, ite2 (fun c => ?_) (fun c => ?_)⟩
  · have e : readD ns hh d = false := by unfold readD; rw [bnot_t c, Bool.false_and]
    rw [e] at k
    exact k H (Same.refl _)
  obtain ⟨b, L, rfl, rfl, hb, asc⟩ := ascXD_iv hd (bnot_f c)
  have e : readD ns hh (dI L) = (List.range ns.length).all (fun j => shB ns hh L j) := by unfold readD; rw [bnot_f c, Bool.true_and, intsD_dI]
  rw [e] at k
  have ls := stopAt_nn hk (i := ns.length - 1) (by omega)
  have lL : L.length ≤ 1000 := by
    rcases ascB_len asc with q | q
    · unfold lastStop at q; omega
    · subst q; exact Nat.zero_le _
  refine ⟨_, rfl, a, _, rfl, .inl (SqL.of ha), _, rfl, by omega, by omega, fun D hD => lcRn (lo := 0) (n := ((iv ns).length : Int).toNat) (fun _ => true) (fun j => V.bl (shB ns hh L j)) hD (by omega) (fun x => rfl) (fun i H3 Q' _ _ qq => qq H3 (Same.refl _)) ?_ ?_⟩
  · intro i H3 Q' hi _ s3 qq
    refine ⟨_, rfl, _, rfl, _, rfl, _, rfl, a, b, ns, L, hh, i, by rw [Int.zero_add]; rfl, s3 _ _ ha, by omega, s3 _ _ hb, lL, qq⟩
  · intro H3 s3 h3
    rw [gives_all, show ((iv ns).length : Int).toNat = ns.length by omega] at h3
    refine ⟨D, (List.range ns.length).map (fun j => shB ns hh L j), rfl, SqL.of (by rw [List.map_map]; exact h3), ?_⟩
    have e2 : ((List.range ns.length).map (fun j => shB ns hh L j)).all id = (List.range ns.length).all (fun j => shB ns hh L j) := by rw [List.all_map]; rfl
    rw [e2]
    exact k _ s3
end
end SH

namespace SH
open PySem PySem.Spec PyProof.Rows L2
theorem stop_step {o : List Int} (h : okFrom 0 o = true) {i : Nat} (hi : i + 1 < o.length) : stopAt o i ≤ stopAt o (i + 1) := by
  obtain ⟨a, b, c⟩ := okFrom_at h hi
  have := b i rfl
  unfold stopAt
  omega
theorem stop_mono {o : List Int} (h : okFrom 0 o = true) {i : Nat} : ∀ {j : Nat}, i ≤ j → j < o.length → stopAt o i ≤ stopAt o j
  | 0, ij, _ => by obtain rfl : i = 0 := by omega
                   exact Int.le_refl _
  | j + 1, ij, hj => by
    rcases Nat.lt_or_ge i (j + 1) with q | q
    · exact Int.le_trans (stop_mono h (by omega) (by omega)) (stop_step h hj)
    · obtain rfl : i = j + 1 := by omega
      exact Int.le_refl _
def eI (o : List Int) (n s : Int) : Int := if s + n < o.length then s + n else o.length
theorem top_le_iff {o : List Int} (h : okFrom 0 o = true) {s : Int} {t k : Nat} (it : IsTop o s t) (hk : k < o.length) : t ≤ k ↔ s ≤ stopAt o k := by
  constructor
  · intro q
    exact Int.le_trans it.2.1 (stop_mono h q hk)
  · intro q
    rcases Nat.lt_or_ge k t with z | z
    · have := it.2.2 k z; omega
    · exact z
/-! ### all sublists; readings by covers -/
def subsL (ns : List Int) : List (List Int) := ns.foldl (fun F x => F ++ F.map (fun L => L ++ [x])) [[]]
theorem subsL_snoc (ns : List Int) (x : Int) : subsL (ns ++ [x]) = subsL ns ++ (subsL ns).map (fun L => L ++ [x]) := by
  unfold subsL
  rw [List.foldl_append]
  rfl
theorem rg_succ (m : Nat) : rg (m + 1) = rg m ++ [(m : Int)] := by
  unfold rg
  rw [List.range_succ, List.map_append]
  rfl
theorem rg_mem {m : Nat} {v : Int} : v ∈ rg m ↔ 0 ≤ v ∧ v < m := by
  unfold rg
  rw [List.mem_map]
  constructor
  · rintro ⟨i, hi, rfl⟩
    have := List.mem_range.mp hi
    show 0 ≤ (i : Int) ∧ (i : Int) < m
    omega
  · rintro ⟨a, b⟩
    exact ⟨v.toNat, List.mem_range.mpr (by omega), by show ((v.toNat : Nat) : Int) = v; omega⟩
theorem subs_len : ∀ m : Nat, (subsL (rg m)).length = 2 ^ m
  | 0 => rfl
  | m + 1 => by
    rw [rg_succ, subsL_snoc, List.length_append, List.length_map, subs_len m, Nat.pow_succ]
    omega
theorem subs_sub : ∀ (m : Nat) {L : List Int}, L ∈ subsL (rg m) → L.length ≤ m ∧ ∀ v ∈ L, 0 ≤ v ∧ v < m
  | 0, L, h => by
    rw [show subsL (rg 0) = [[]] from rfl] at h
    rw [List.mem_singleton.mp h]
    exact ⟨Nat.le_refl _, fun v hv => (List.not_mem_nil hv).elim⟩
  | m + 1, L, h => by
    rw [rg_succ, subsL_snoc] at h
    rcases List.mem_append.mp h with h | h
    · obtain ⟨a, b⟩ := subs_sub m h
      exact ⟨by omega, fun v hv => by have := b v hv; omega⟩
    · obtain ⟨L', hL, rfl⟩ := List.mem_map.mp h
      obtain ⟨a, b⟩ := subs_sub m hL
      refine ⟨by rw [List.length_append]; show _ + 1 ≤ _; omega, fun v hv => ?_⟩
      rcases List.mem_append.mp hv with hv | hv
      · have := b v hv; omega
      · rw [List.mem_singleton.mp hv]; omega
theorem asc_snoc : ∀ {L : List Int} {m : Int}, L.Pairwise (· < ·) → (∀ v ∈ L, v ≤ m) → m ∈ L → ∃ L', L = L' ++ [m] ∧ L'.Pairwise (· < ·) ∧ ∀ v ∈ L', v < m
  | [], _, _, _, h => (List.not_mem_nil h).elim
  | x :: r, m, p, b, h => by
    obtain ⟨p1, p2⟩ := List.pairwise_cons.mp p
    by_cases e : m ∈ r
    · obtain ⟨L', e1, e2, e3⟩ := asc_snoc p2 (fun v hv => b v (List.mem_cons_of_mem _ hv)) e
      refine ⟨x :: L', by rw [e1]; rfl, List.pairwise_cons.mpr ⟨fun y hy => p1 y (by rw [e1]; exact List.mem_append_left _ hy), e2⟩, fun v hv => ?_⟩
      rcases List.mem_cons.mp hv with rfl | hv
      · exact p1 m e
      · exact e3 v hv
    · have ex : m = x := by
        rcases List.mem_cons.mp h with q | q
        · exact q
        · exact (e q).elim
      subst ex
      have er : r = [] := by
        cases r with
        | nil => rfl
        | cons y t =>
          have := p1 y List.mem_cons_self
          have := b y (List.mem_cons_of_mem _ List.mem_cons_self)
          omega
      subst er
      exact ⟨[], rfl, List.Pairwise.nil, fun v hv => (List.not_mem_nil hv).elim⟩
theorem subs_mem : ∀ (m : Nat) {L : List Int}, L.Pairwise (· < ·) → (∀ v ∈ L, 0 ≤ v ∧ v < m) → L ∈ subsL (rg m)
  | 0, L, _, b => by
    cases L with
    | nil => exact List.mem_singleton.mpr rfl
    | cons x r => have := b x List.mem_cons_self; omega
  | m + 1, L, p, b => by
    rw [rg_succ, subsL_snoc, List.mem_append]
    by_cases h : (m : Int) ∈ L
    · obtain ⟨L', rfl, p', b'⟩ := asc_snoc p (fun v hv => by have := b v hv; omega) h
      exact .inr (List.mem_map.mpr ⟨L', subs_mem m p' fun v hv => ⟨(b v (List.mem_append_left _ hv)).1, b' v hv⟩, rfl⟩)
    · exact .inl (subs_mem m p fun v hv => by
        have := b v hv
        have ne : v ≠ m := fun e => h (e ▸ hv)
        omega)
theorem pigeon {α β : Type} [DecidableEq β] {R : α → β → Prop} : ∀ {U : List α} {L : List β}, (∀ u ∈ U, ∃ s ∈ L, R u s) → U.Pairwise (fun u v => ∀ s, R u s → ¬ R v s) → U.length ≤ L.length
  | [], _, _, _ => Nat.zero_le _
  | u :: U, L, h, p => by
    obtain ⟨s, hs, r⟩ := h u List.mem_cons_self
    obtain ⟨p1, p2⟩ := List.pairwise_cons.mp p
    have := pigeon (U := U) (L := L.erase s) (fun v hv => by
      obtain ⟨s', hs', r'⟩ := h v (List.mem_cons_of_mem _ hv)
      have ne : s' ≠ s := fun e => p1 v hv s r (e ▸ r')
      exact ⟨s', (List.mem_erase_of_ne ne).mpr hs', r'⟩) p2
    have e := List.length_erase_of_mem hs
    have : 0 < L.length := List.length_pos_of_mem hs
    show U.length + 1 ≤ L.length
    omega
noncomputable def topF (ns : List Int) (s : Int) : Nat := @dite _ (∃ t, IsTop ns s t) (Classical.propDecidable _) (fun h => Classical.choose h) (fun _ => 0)
theorem topF_is {ns : List Int} {s : Int} {t : Nat} (h : IsTop ns s t) : topF ns s = t := by
  unfold topF
  have e : ∃ t, IsTop ns s t := ⟨t, h⟩
  rw [dif_pos e]
  exact (Classical.choose_spec e).uniq h
theorem top_of {ns : List Int} {s : Int} (l : 1 ≤ ns.length) (h : s ≤ lastStop ns) : IsTop ns s (topF ns s) := by
  obtain ⟨t, _, ht⟩ := top_ex (ns := ns) (s := s) (ns.length - 1) (by omega) h
  rw [topF_is ht]
  exact ht
/-- the line u is shown at the scroll position s -/
def Shows1 (ns : List Int) (h : Int) (u s : Int) : Prop := (topF ns s : Int) ≤ u ∧ u < eI ns h s
/-- all lines are shown -/
def Cov (ns : List Int) (h : Int) (L : List Int) : Prop := ∀ j : Int, 0 ≤ j → j < ns.length → ∃ s ∈ L, Shows1 ns h j s
theorem pages_apart {ns : List Int} {h : Int} : ∀ (m i : Nat), ns.length - i ≤ m → (pagesL ns h i).Pairwise (fun u v => (nxt ns h u.toNat : Int) ≤ v)
  | 0, i, hm => by rw [pagesL_end (by omega)]; exact List.Pairwise.nil
  | m + 1, i, hm => by
    rcases Nat.lt_or_ge i ns.length with c | c
    · rw [pagesL_go c, List.pairwise_cons]
      have := nxt_gt ns h i
      exact ⟨fun v hv => (pagesL_mem hv).1, pages_apart m _ (by omega)⟩
    · rw [pagesL_end c]; exact List.Pairwise.nil
theorem pages_cover {ns : List Int} {h : Int} : ∀ (m i j : Nat), ns.length - i ≤ m → i ≤ j → j < ns.length → ∃ u : Nat, (u : Int) ∈ pagesL ns h i ∧ u ≤ j ∧ j < nxt ns h u
  | 0, i, j, hm, h1, h2 => by omega
  | m + 1, i, j, hm, h1, h2 => by
    have c : i < ns.length := by omega
    rw [pagesL_go c]
    have := nxt_gt ns h i
    rcases Nat.lt_or_ge j (nxt ns h i) with q | q
    · exact ⟨i, List.mem_cons_self, h1, q⟩
    · obtain ⟨u, a, b, d⟩ := pages_cover m (nxt ns h i) j (by omega) q h2
      exact ⟨u, List.mem_cons_of_mem _ a, b, d⟩
theorem shows_stop {ns : List Int} {h : Int} (hk : okFrom 0 ns = true) (l1 : 1 ≤ ns.length) {u : Nat} {s : Int} (hu : u < ns.length) (hs : s ≤ lastStop ns) : (topF ns s : Int) ≤ u ↔ s ≤ stopAt ns u := by
  have := top_le_iff hk (top_of l1 hs) hu
  omega
theorem eI_lt {ns : List Int} {h s u : Int} : u < eI ns h s ↔ u < s + h ∧ u < ns.length := by
  unfold eI
  split <;> omega
/-- a reading has as many views as there are pages, or more -/
theorem cov_low {ns : List Int} {h : Int} (ho : isO ns = true) (ft : Fit ns h 0) {L : List Int} (hL : ∀ s ∈ L, s ≤ lastStop ns) (hc : Cov ns h L) : (pagesL ns h 0).length ≤ L.length := by
  obtain ⟨l1, l2, hk⟩ := isO_iff.mp ho
  refine pigeon (R := fun u s => Shows1 ns h u s ∧ s ≤ lastStop ns ∧ ∃ k : Nat, u = k ∧ k < ns.length) (fun u hu => ?_) ?_
  · have b := pagesL_mem hu
    obtain ⟨s, hs, q⟩ := hc u (by omega) (by omega)
    exact ⟨s, hs, q, hL s hs, u.toNat, by omega, by omega⟩
  · refine (pages_apart _ 0 (Nat.le_refl _)).imp fun {u v} huv s => ?_
    rintro ⟨⟨a1, a2⟩, hs, k, rfl, kl⟩ ⟨⟨b1, b2⟩, _⟩
    rw [Int.toNat_natCast, nxt_int (ft k (Nat.zero_le _) kl)] at huv
    have e1 := (shows_stop (h := h) hk l1 kl hs).mp a1
    have e2 := eI_lt.mp b2
    unfold stopAt at e1
    omega
/-- the stops of the first lines of the pages are a reading -/
theorem cov_pages {ns : List Int} {h : Int} (ho : isO ns = true) (ft : Fit ns h 0) : Cov ns h ((pagesL ns h 0).map fun u => stopAt ns u.toNat) ∧
    ((pagesL ns h 0).map fun u => stopAt ns u.toNat).Pairwise (· < ·) ∧ ∀ s ∈ (pagesL ns h 0).map fun u => stopAt ns u.toNat, 0 ≤ s ∧ s ≤ lastStop ns := by
  obtain ⟨l1, l2, hk⟩ := isO_iff.mp ho
  have stb : ∀ u : Nat, u < ns.length → 0 ≤ stopAt ns u ∧ stopAt ns u ≤ lastStop ns := fun u hu => ⟨(stopAt_nn hk hu).1, stop_mono hk (i := u) (j := ns.length - 1) (by omega) (by omega)⟩
  refine ⟨fun j j0 j1 => ?_, ?_, fun s hs => ?_⟩
  · have jl : j.toNat < ns.length := by omega
    obtain ⟨u, a, b, d⟩ := pages_cover (ns := ns) (h := h) _ 0 j.toNat (Nat.le_refl _) (Nat.zero_le _) jl
    have ul : u < ns.length := by have := pagesL_mem a; omega
    refine ⟨stopAt ns u, List.mem_map.mpr ⟨u, a, by rw [Int.toNat_natCast]⟩, ?_, eI_lt.mpr ⟨?_, j1⟩⟩
    · have := (shows_stop (h := h) hk l1 ul (stb u ul).2).mpr (Int.le_refl _)
      omega
    · have := nxt_int (ft u (Nat.zero_le _) ul)
      unfold stopAt
      omega
  · rw [List.pairwise_map]
    refine List.Pairwise.imp_of_mem (fun {u v} hu hv huv => ?_) (pages_apart (ns := ns) (h := h) _ 0 (Nat.le_refl _))
    have bu := pagesL_mem hu
    have bv := pagesL_mem hv
    obtain ⟨k, rfl⟩ : ∃ k : Nat, u = k := ⟨u.toNat, by omega⟩
    obtain ⟨l, rfl⟩ : ∃ l : Nat, v = l := ⟨v.toNat, by omega⟩
    rw [Int.toNat_natCast, nxt_int (ft k (Nat.zero_le _) (by omega))] at huv
    rw [Int.toNat_natCast, Int.toNat_natCast]
    have := ft l (Nat.zero_le _) (by omega)
    unfold stopAt
    omega
  · obtain ⟨u, hu, rfl⟩ := List.mem_map.mp hs
    have b := pagesL_mem hu
    exact stb _ (by omega)
theorem shB_iff {ns : List Int} {h : Int} {L : List Int} {j : Nat} (hk : okFrom 0 ns = true) (l1 : 1 ≤ ns.length) (hj : j < ns.length) (hL : ∀ s ∈ L, 0 ≤ s ∧ s ≤ lastStop ns) : shB ns h L j = true ↔ ∃ s ∈ L, Shows1 ns h j s := by
  unfold shB
  rw [List.any_eq_true]
  have one : ∀ s, 0 ≤ s → s ≤ lastStop ns → ((decide (loS h j ≤ s) && decide (s ≤ stopAt ns j)) = true ↔ Shows1 ns h j s) := fun s s0 s1 => by
    rw [Bool.and_eq_true, decide_eq_true_eq, decide_eq_true_eq]
    unfold Shows1
    rw [eI_lt, shows_stop (h := h) hk l1 hj s1]
    unfold loS
    constructor
    · rintro ⟨a, b⟩
      refine ⟨b, ?_, by omega⟩
      split at a <;> omega
    · rintro ⟨a, b, _⟩
      refine ⟨?_, a⟩
      split <;> omega
  constructor
  · rintro ⟨s, hs, q⟩
    have := hL s hs
    exact ⟨s, hs, (one s this.1 this.2).mp q⟩
  · rintro ⟨s, hs, q⟩
    have := hL s hs
    exact ⟨s, hs, (one s this.1 this.2).mpr q⟩
theorem read_iff {ns : List Int} {h : Int} {L : List Int} (ho : isO ns = true) : readD ns h (dI L) = true ↔ ascB (lastStop ns) 0 L = true ∧ Cov ns h L := by
  obtain ⟨l1, l2, hk⟩ := isO_iff.mp ho
  unfold readD
  rw [Bool.and_eq_true, show ascXD (lastStop ns) (dI L) = ascB (lastStop ns) 0 L from ascD_ints _ _ _, intsD_dI, List.all_eq_true]
  constructor
  · rintro ⟨a, b⟩
    refine ⟨a, fun j j0 j1 => ?_⟩
    have hL := (ascB_iff.mp a).2
    have := (shB_iff hk l1 (j := j.toNat) (by omega) hL).mp (b _ (List.mem_range.mpr (by omega)))
    rwa [Int.toNat_of_nonneg j0] at this
  · rintro ⟨a, b⟩
    refine ⟨a, fun j hj => ?_⟩
    have hj' := List.mem_range.mp hj
    exact (shB_iff hk l1 hj' (ascB_iff.mp a).2).mpr (b j (by omega) (by omega))
/-! ### shortest readings -/
/-- the furthest scroll position that may come after s -/
def fur (ns : List Int) (h : Int) (s : Nat) : Nat := max (s + 1) (stopAt ns (s + h.toNat)).toNat
/-- how many more views a reading needs after s -/
def leftF (ns : List Int) (h : Int) (s : Nat) : Nat := if s + h.toNat < ns.length then leftF ns h (fur ns h s) + 1 else 0
termination_by ns.length - s
decreasing_by unfold fur; omega
theorem leftF_go {ns : List Int} {h : Int} {s : Nat} (c : s + h.toNat < ns.length) : leftF ns h s = leftF ns h (fur ns h s) + 1 := by
  rw [leftF, if_pos c]
theorem leftF_end {ns : List Int} {h : Int} {s : Nat} (c : ns.length ≤ s + h.toNat) : leftF ns h s = 0 := by
  rw [leftF, if_neg (by omega)]
theorem fur_gt (ns : List Int) (h : Int) (s : Nat) : s < fur ns h s := by unfold fur; omega
theorem fur_int {ns : List Int} {h : Int} {s : Nat} (ft : Fit ns h 0) (h1 : 1 ≤ h) (c : s + h.toNat < ns.length) : ((fur ns h s : Nat) : Int) = stopAt ns (s + h.toNat) := by
  have := ft (s + h.toNat) (Nat.zero_le _) c
  unfold fur stopAt
  omega
theorem fur_mono {ns : List Int} {h : Int} (hk : okFrom 0 ns = true) (ft : Fit ns h 0) (h1 : 1 ≤ h) {a b : Nat} (ab : a ≤ b) (c : b + h.toNat < ns.length) : fur ns h a ≤ fur ns h b := by
  have e1 := fur_int (s := a) ft h1 (by omega)
  have e2 := fur_int (s := b) ft h1 c
  have := stop_mono hk (i := a + h.toNat) (j := b + h.toNat) (by omega) c
  omega
theorem fur_last {ns : List Int} {h : Int} (hk : okFrom 0 ns = true) (ft : Fit ns h 0) (h1 : 1 ≤ h) {s : Nat} (c : s + h.toNat < ns.length) : ((fur ns h s : Nat) : Int) ≤ lastStop ns := by
  rw [fur_int ft h1 c]
  exact stop_mono hk (by omega) (by omega)
theorem left_mono {ns : List Int} {h : Int} (hk : okFrom 0 ns = true) (ft : Fit ns h 0) (h1 : 1 ≤ h) : ∀ (m a b : Nat), ns.length - a ≤ m → a ≤ b → leftF ns h b ≤ leftF ns h a
  | 0, a, b, hm, ab => by
    rw [leftF_end (s := b) (by omega)]
    exact Nat.zero_le _
  | m + 1, a, b, hm, ab => by
    rcases Nat.lt_or_ge (b + h.toNat) ns.length with c | c
    · rw [leftF_go (s := b) c, leftF_go (s := a) (by omega)]
      have := fur_gt ns h a
      exact Nat.succ_le_succ (left_mono hk ft h1 m _ _ (by omega) (fur_mono hk ft h1 ab c))
    · rw [leftF_end (s := b) c]
      exact Nat.zero_le _
/-- the scroll positions that may come next in a shortest reading -/
def folL (ns : List Int) (h : Int) (s : Nat) : List Nat := if s + h.toNat < ns.length then ((List.range (fur ns h s - s)).map fun i => s + 1 + i).filter (fun a => leftF ns h a == leftF ns h (fur ns h s)) else []
theorem fol_mem {ns : List Int} {h : Int} {s a : Nat} : a ∈ folL ns h s ↔ s + h.toNat < ns.length ∧ s < a ∧ a ≤ fur ns h s ∧ leftF ns h a = leftF ns h (fur ns h s) := by
  unfold folL
  by_cases c : s + h.toNat < ns.length
  · rw [if_pos c, List.mem_filter, List.mem_map, beq_iff_eq]
    constructor
    · rintro ⟨⟨i, hi, rfl⟩, e⟩
      have := List.mem_range.mp hi
      exact ⟨c, by omega, by omega, e⟩
    · rintro ⟨_, h1, h2, e⟩
      exact ⟨⟨a - s - 1, List.mem_range.mpr (by omega), by omega⟩, e⟩
  · rw [if_neg c]
    constructor
    · intro h; cases h
    · rintro ⟨q, _⟩; exact (c q).elim
theorem fur_fol {ns : List Int} {h : Int} {s : Nat} (c : s + h.toNat < ns.length) : fur ns h s ∈ folL ns h s := fol_mem.mpr ⟨c, fur_gt _ _ _, Nat.le_refl _, rfl⟩
theorem fol_left {ns : List Int} {h : Int} {s a : Nat} (m : a ∈ folL ns h s) : leftF ns h s = leftF ns h a + 1 := by
  obtain ⟨c, _, _, e⟩ := fol_mem.mp m
  rw [leftF_go c, e]
/-- the followers end with the furthest -/
theorem fol_snoc {ns : List Int} {h : Int} {s : Nat} (c : s + h.toNat < ns.length) : ∃ r, folL ns h s = r ++ [fur ns h s] ∧ ∀ a ∈ r, a < fur ns h s := by
  have g := fur_gt ns h s
  unfold folL
  rw [if_pos c]
  obtain ⟨m, e⟩ : ∃ m, fur ns h s - s = m + 1 := ⟨fur ns h s - s - 1, by omega⟩
  rw [e, List.range_succ, List.map_append, List.filter_append]
  have el : s + 1 + m = fur ns h s := by omega
  refine ⟨_, by rw [List.map_cons, List.map_nil, el, List.filter_cons, if_pos (by rw [beq_iff_eq])]; rfl, fun a ha => ?_⟩
  obtain ⟨ha, _⟩ := List.mem_filter.mp ha
  obtain ⟨i, hi, rfl⟩ := List.mem_map.mp ha
  have := List.mem_range.mp hi
  omega
/-- in how many ways k more views finish a reading after s -/
def wN (ns : List Int) (h : Int) : Nat → Nat → Int
  | 0, _ => 1
  | k + 1, s => ((folL ns h s).map (wN ns h k)).sum
def waysF (ns : List Int) (h : Int) (s : Nat) : Int := wN ns h (leftF ns h s) s
theorem ways_go {ns : List Int} {h : Int} {s : Nat} (c : s + h.toNat < ns.length) : waysF ns h s = ((folL ns h s).map (waysF ns h)).sum := by
  unfold waysF
  rw [leftF_go c]
  show ((folL ns h s).map (wN ns h (leftF ns h (fur ns h s)))).sum = _
  congr 1
  refine List.map_congr_left fun a ha => ?_
  rw [(fol_mem.mp ha).2.2.2]
theorem ways_end {ns : List Int} {h : Int} {s : Nat} (c : ns.length ≤ s + h.toNat) : waysF ns h s = 1 := by
  unfold waysF
  rw [leftF_end c]
  rfl
theorem sum_pos : ∀ {l : List Int}, (∀ v ∈ l, 0 < v) → l ≠ [] → 0 < l.sum
  | [], _, n => (n rfl).elim
  | [v], h, _ => by have := h v List.mem_cons_self; rw [List.sum_cons, List.sum_nil]; omega
  | v :: u :: r, h, _ => by
    have a := h v List.mem_cons_self
    have b := sum_pos (l := u :: r) (fun x hx => h x (List.mem_cons_of_mem _ hx)) (by simp)
    rw [List.sum_cons]; omega
theorem sum_nn : ∀ {l : List Int}, (∀ v ∈ l, 0 ≤ v) → 0 ≤ l.sum
  | [], _ => by decide
  | v :: r, h => by
    have a := h v List.mem_cons_self
    have b := sum_nn (l := r) fun x hx => h x (List.mem_cons_of_mem _ hx)
    rw [List.sum_cons]; omega
theorem ways_pos (ns : List Int) (h : Int) : ∀ (m s : Nat), ns.length - s ≤ m → 0 < waysF ns h s
  | 0, s, hm => by rw [ways_end (by omega)]; decide
  | m + 1, s, hm => by
    rcases Nat.lt_or_ge (s + h.toNat) ns.length with c | c
    · rw [ways_go c]
      refine sum_pos (fun v hv => ?_) fun e => ?_
      · obtain ⟨a, ha, rfl⟩ := List.mem_map.mp hv
        have := (fol_mem.mp ha).2.1
        exact ways_pos ns h m a (by omega)
      · have := fur_fol c
        rw [List.map_eq_nil_iff.mp e] at this
        cases this
    · rw [ways_end c]; decide
theorem ways_gt (ns : List Int) (h : Int) (s : Nat) : 0 < waysF ns h s := ways_pos ns h _ s (Nat.le_refl _)
/-! ### the reading of an index -/
def pick (w : Nat → Int) : List Nat → Int → Nat × Int
  | [], i => (0, i)
  | a :: r, i => if i < w a then (a, i) else pick w r (i - w a)
theorem pick_ok {w : Nat → Int} : ∀ {l : List Nat} {i : Int}, 0 ≤ i → i < (l.map w).sum → (pick w l i).1 ∈ l ∧ 0 ≤ (pick w l i).2 ∧ (pick w l i).2 < w (pick w l i).1
  | [], i, h0, h1 => by rw [List.map_nil, List.sum_nil] at h1; omega
  | a :: r, i, h0, h1 => by
    rw [List.map_cons, List.sum_cons] at h1
    unfold pick
    by_cases c : i < w a
    · rw [if_pos c]; exact ⟨List.mem_cons_self, h0, c⟩
    · rw [if_neg c]
      obtain ⟨m, x⟩ := pick_ok (w := w) (l := r) (i := i - w a) (by omega) (by omega)
      exact ⟨List.mem_cons_of_mem _ m, x⟩
theorem pick_last {w : Nat → Int} {b : Nat} (hb : 0 < w b) : ∀ {l : List Nat}, (∀ a ∈ l, 0 < w a) → pick w (l ++ [b]) (((l ++ [b]).map w).sum - 1) = (b, w b - 1)
  | [], _ => by
    rw [List.nil_append, List.map_cons, List.map_nil, List.sum_cons, List.sum_nil]
    unfold pick
    rw [if_pos (by omega)]
    rw [show w b + 0 - 1 = w b - 1 by omega]
  | a :: r, h => by
    have ih := pick_last hb (l := r) fun x hx => h x (List.mem_cons_of_mem _ hx)
    have nn : 0 < ((r ++ [b]).map w).sum := sum_pos (fun v hv => by
      obtain ⟨x, hx, rfl⟩ := List.mem_map.mp hv
      rcases List.mem_append.mp hx with q | q
      · exact h x (List.mem_cons_of_mem _ q)
      · rw [List.mem_singleton.mp q]; exact hb) (by simp)
    rw [List.cons_append, List.map_cons, List.sum_cons]
    unfold pick
    rw [if_neg (by omega), show w a + ((r ++ [b]).map w).sum - 1 - w a = ((r ++ [b]).map w).sum - 1 by omega]
    exact ih
def nthL (ns : List Int) (h : Int) : Nat → Nat → Int → List Nat
  | 0, _, _ => []
  | k + 1, s, i => (pick (waysF ns h) (folL ns h s) i).1 :: nthL ns h k (pick (waysF ns h) (folL ns h s) i).1 (pick (waysF ns h) (folL ns h s) i).2
def Path (ns : List Int) (h : Int) : Nat → List Nat → Prop
  | s, [] => leftF ns h s = 0
  | s, a :: r => a ∈ folL ns h s ∧ Path ns h a r
theorem left_pos {ns : List Int} {h : Int} {s k : Nat} (e : leftF ns h s = k + 1) : s + h.toNat < ns.length := by
  rcases Nat.lt_or_ge (s + h.toNat) ns.length with c | c
  · exact c
  · rw [leftF_end c] at e; omega
theorem left_zero {ns : List Int} {h : Int} {s : Nat} (e : leftF ns h s = 0) : ns.length ≤ s + h.toNat := by
  rcases Nat.lt_or_ge (s + h.toNat) ns.length with c | c
  · rw [leftF_go c] at e; omega
  · exact c
theorem nth_path {ns : List Int} {h : Int} : ∀ {k s : Nat} {i : Int}, leftF ns h s = k → 0 ≤ i → i < waysF ns h s → Path ns h s (nthL ns h k s i)
  | 0, s, i, e, _, _ => e
  | k + 1, s, i, e, h0, h1 => by
    have c := left_pos e
    rw [ways_go c] at h1
    obtain ⟨m, p0, p1⟩ := pick_ok h0 h1
    have := fol_left m
    exact ⟨m, nth_path (by omega) p0 p1⟩
theorem path_len {ns : List Int} {h : Int} : ∀ {L : List Nat} {s : Nat}, Path ns h s L → L.length = leftF ns h s
  | [], s, p => p.symm
  | a :: r, s, p => by
    rw [List.length_cons, path_len p.2, fol_left p.1]
theorem path_asc {ns : List Int} {h : Int} : ∀ {L : List Nat} {s : Nat}, Path ns h s L → (s :: L).Pairwise (· < ·)
  | [], s, _ => List.pairwise_singleton _ _
  | a :: r, s, p => by
    have ih := path_asc p.2
    have sa := (fol_mem.mp p.1).2.1
    refine List.pairwise_cons.mpr ⟨fun x hx => ?_, ih⟩
    rcases List.mem_cons.mp hx with e | e
    · omega
    · have := (List.pairwise_cons.mp ih).1 x e
      omega
theorem path_last {ns : List Int} {h : Int} (hk : okFrom 0 ns = true) (ft : Fit ns h 0) (h1 : 1 ≤ h) : ∀ {L : List Nat} {s : Nat}, Path ns h s L → ∀ a ∈ L, (a : Int) ≤ lastStop ns
  | [], s, _, a, m => by cases m
  | b :: r, s, p, a, m => by
    rcases List.mem_cons.mp m with e | e
    · subst e
      obtain ⟨c, _, q, _⟩ := fol_mem.mp p.1
      have := fur_last hk ft h1 c
      omega
    · exact path_last hk ft h1 p.2 a e
/-- each line is shown at a position of the path -/
theorem path_cov {ns : List Int} {h : Int} (hk : okFrom 0 ns = true) (ft : Fit ns h 0) (h1 : 1 ≤ h) : ∀ {L : List Nat} {s : Nat}, Path ns h s L → ∀ j, j < ns.length → (s : Int) ≤ stopAt ns j → ∃ a ∈ s :: L, (a : Int) ≤ stopAt ns j ∧ j < a + h.toNat
  | [], s, p, j, hj, q => ⟨s, List.mem_cons_self, q, by have := left_zero p; omega⟩
  | b :: r, s, p, j, hj, q => by
    rcases Nat.lt_or_ge j (s + h.toNat) with c | c
    · exact ⟨s, List.mem_cons_self, q, c⟩
    · obtain ⟨c1, _, b1, _⟩ := fol_mem.mp p.1
      have e := fur_int ft h1 c1
      have := stop_mono hk (i := s + h.toNat) (j := j) c hj
      obtain ⟨a, ha, x⟩ := path_cov hk ft h1 p.2 j hj (by omega)
      exact ⟨a, List.mem_cons_of_mem _ ha, x⟩
/-! ### ranks -/
def rankL (ns : List Int) (h : Int) : Nat → List Nat → Int
  | _, [] => 0
  | s, a :: r => (((folL ns h s).filter (fun x => decide (x < a))).map (waysF ns h)).sum + rankL ns h a r
/-- the last shortest reading after s -/
def furL (ns : List Int) (h : Int) : Nat → Nat → List Nat
  | 0, _ => []
  | k + 1, s => fur ns h s :: furL ns h k (fur ns h s)
theorem furL_path {ns : List Int} {h : Int} : ∀ {k s : Nat}, leftF ns h s = k → Path ns h s (furL ns h k s)
  | 0, s, e => e
  | k + 1, s, e => by
    have c := left_pos e
    have := leftF_go c
    exact ⟨fur_fol c, furL_path (by omega)⟩
theorem furL_rank {ns : List Int} {h : Int} : ∀ {k s : Nat}, leftF ns h s = k → rankL ns h s (furL ns h k s) = waysF ns h s - 1
  | 0, s, e => by rw [ways_end (left_zero e)]; rfl
  | k + 1, s, e => by
    have c := left_pos e
    have lg := leftF_go c
    have ih := furL_rank (ns := ns) (h := h) (k := k) (s := fur ns h s) (by omega)
    show _ + rankL ns h (fur ns h s) (furL ns h k (fur ns h s)) = _
    rw [ih]
    obtain ⟨r, er, lr⟩ := fol_snoc c
    have ws : waysF ns h s = (r.map (waysF ns h)).sum + waysF ns h (fur ns h s) := by
      rw [ways_go c, er, List.map_append, List.sum_append, List.map_cons, List.map_nil, List.sum_cons, List.sum_nil, Int.add_zero]
    have fl : (folL ns h s).filter (fun x => decide (x < fur ns h s)) = r := by
      rw [er, List.filter_append, List.filter_cons, if_neg (by simp), List.filter_nil, List.append_nil]
      exact List.filter_eq_self.mpr fun a ha => decide_eq_true (lr a ha)
    rw [fl]
    omega
theorem nth_last {ns : List Int} {h : Int} : ∀ {k s : Nat}, leftF ns h s = k → nthL ns h k s (waysF ns h s - 1) = furL ns h k s
  | 0, s, e => rfl
  | k + 1, s, e => by
    have c := left_pos e
    have lg := leftF_go c
    obtain ⟨r, er, lr⟩ := fol_snoc c
    have pl := pick_last (w := waysF ns h) (b := fur ns h s) (ways_gt ns h _) (l := r) fun a _ => ways_gt ns h a
    have e1 : pick (waysF ns h) (folL ns h s) (waysF ns h s - 1) = (fur ns h s, waysF ns h (fur ns h s) - 1) := by
      rw [ways_go c, er]; exact pl
    show (pick (waysF ns h) (folL ns h s) (waysF ns h s - 1)).1 :: nthL ns h k _ _ = _
    rw [e1]
    show fur ns h s :: nthL ns h k (fur ns h s) (waysF ns h (fur ns h s) - 1) = _
    rw [nth_last (by omega)]
    rfl
/-- the stops of the pages are the last shortest reading -/
theorem pages_furL {ns : List Int} {h : Int} (hk : okFrom 0 ns = true) (ft : Fit ns h 0) (h1 : 1 ≤ h) : ∀ (m i s : Nat), ns.length - i ≤ m → i < ns.length → stopAt ns i = s →
    (pagesL ns h i).map (fun u => stopAt ns u.toNat) = (s :: furL ns h (leftF ns h s) s).map fun (u : Nat) => (u : Int)
  | 0, i, s, hm, hi, _ => by omega
  | m + 1, i, s, hm, hi, e => by
    have n1 := nxt_int (ft i (Nat.zero_le _) hi)
    have gi := nxt_gt ns h i
    have en : nxt ns h i = s + h.toNat := by unfold stopAt at e; omega
    rw [pagesL_go hi, List.map_cons, List.map_cons, Int.toNat_natCast, e]
    congr 1
    rcases Nat.lt_or_ge (s + h.toNat) ns.length with c | c
    · rw [leftF_go c]
      have := pages_furL hk ft h1 m (nxt ns h i) (fur ns h s) (by omega) (by omega) (by rw [en]; exact (fur_int ft h1 c).symm)
      rw [this]
      rfl
    · rw [leftF_end c, pagesL_end (by omega)]
      rfl
/-! ### readings of exactly j more views -/
def NN (ns : List Int) (h : Int) : Nat → Nat → Int
  | 0, p => if ns.length ≤ p + h.toNat then 1 else 0
  | j + 1, p => if p + h.toNat < ns.length then ((List.range (fur ns h p - p)).map (fun i => NN ns h j (p + 1 + i))).sum else 0
theorem sum_zero {l : List Int} (h : ∀ v ∈ l, v = 0) : l.sum = 0 := by
  induction l with
  | nil => rfl
  | cons a r ih => rw [List.sum_cons, h a List.mem_cons_self, ih fun v hv => h v (List.mem_cons_of_mem _ hv)]; rfl
theorem sum_filter {l : List Nat} {p : Nat → Bool} {f g : Nat → Int} (h1 : ∀ a ∈ l, p a = true → f a = g a) (h0 : ∀ a ∈ l, p a = false → f a = 0) : (l.map f).sum = ((l.filter p).map g).sum := by
  induction l with
  | nil => rfl
  | cons a r ih =>
    have ih := ih (fun b hb => h1 b (List.mem_cons_of_mem _ hb)) (fun b hb => h0 b (List.mem_cons_of_mem _ hb))
    rw [List.map_cons, List.sum_cons, List.filter_cons, ih]
    cases c : p a with
    | true => rw [if_pos rfl, List.map_cons, List.sum_cons, h1 a List.mem_cons_self c]
    | false => rw [if_neg Bool.false_ne_true, h0 a List.mem_cons_self c, Int.zero_add]
/-- no step leaves out more than one view -/
theorem left_step {ns : List Int} {h : Int} (hk : okFrom 0 ns = true) (ft : Fit ns h 0) (h1 : 1 ≤ h) {s a : Nat} (c : s + h.toNat < ns.length) (_ : s < a) (b : a ≤ fur ns h s) : leftF ns h s ≤ leftF ns h a + 1 := by
  rw [leftF_go c]
  have := left_mono hk ft h1 ns.length a (fur ns h s) (by omega) b
  omega
theorem NN_few {ns : List Int} {h : Int} (hk : okFrom 0 ns = true) (ft : Fit ns h 0) (h1 : 1 ≤ h) : ∀ (j s : Nat), j < leftF ns h s → NN ns h j s = 0
  | 0, s, q => by
    unfold NN
    rcases Nat.lt_or_ge (s + h.toNat) ns.length with c | c
    · rw [if_neg (by omega)]
    · rw [leftF_end c] at q; omega
  | j + 1, s, q => by
    unfold NN
    rcases Nat.lt_or_ge (s + h.toNat) ns.length with c | c
    · rw [if_pos c]
      refine sum_zero fun v hv => ?_
      obtain ⟨i, hi, rfl⟩ := List.mem_map.mp hv
      have := List.mem_range.mp hi
      have := left_step hk ft h1 (s := s) (a := s + 1 + i) c (by omega) (by omega)
      exact NN_few hk ft h1 j _ (by omega)
    · rw [if_neg (by omega)]
theorem NN_ways {ns : List Int} {h : Int} (hk : okFrom 0 ns = true) (ft : Fit ns h 0) (h1 : 1 ≤ h) : ∀ (j s : Nat), leftF ns h s = j → NN ns h j s = waysF ns h s
  | 0, s, e => by
    have := left_zero e
    unfold NN
    rw [if_pos this, ways_end this]
  | j + 1, s, e => by
    have c := left_pos e
    have lg := leftF_go c
    rw [ways_go c]
    unfold NN folL
    rw [if_pos c, if_pos c]
    have e1 : ((List.range (fur ns h s - s)).map fun i => NN ns h j (s + 1 + i)) = ((List.range (fur ns h s - s)).map fun i => s + 1 + i).map (NN ns h j) := by rw [List.map_map]; rfl
    rw [e1]
    refine sum_filter (fun a ha q => ?_) fun a ha q => ?_
    · have q := beq_iff_eq.mp q
      exact NN_ways hk ft h1 j a (by omega)
    · obtain ⟨i, hi, rfl⟩ := List.mem_map.mp ha
      have := List.mem_range.mp hi
      have := left_step hk ft h1 (s := s) (a := s + 1 + i) c (by omega) (by omega)
      have q : leftF ns h (s + 1 + i) ≠ leftF ns h (fur ns h s) := fun z => by rw [z, beq_self_eq_true] at q; cases q
      exact NN_few hk ft h1 j _ (by omega)
end SH

namespace SH
open PySem PySem.Spec PyProof.Rows L2
abbrev s_count_views_left : Stmt := topS 26
abbrev N_count_views_left : List Str := ["outline", "height", "left", "scroll"]
abbrev P_count_views_left : List Str := ["outline", "height"]
theorem sc_count_views_left : FnScope N_count_views_left P_count_views_left (defScope s_count_views_left) := ⟨rfl, rfl, rfl, by decide +kernel, rfl, by decide +kernel, by decide +kernel⟩
abbrev s_followers : Stmt := topS 27
abbrev N_followers : List Str := ["outline", "height", "left", "scroll", "furthest", "after"]
abbrev P_followers : List Str := ["outline", "height", "left", "scroll"]
theorem sc_followers : FnScope N_followers P_followers (defScope s_followers) := ⟨rfl, rfl, rfl, by decide +kernel, rfl, by decide +kernel, by decide +kernel⟩
abbrev s_count_ways : Stmt := topS 28
abbrev N_count_ways : List Str := ["outline", "height", "left", "ways", "scroll", "after"]
abbrev P_count_ways : List Str := ["outline", "height", "left"]
theorem sc_count_ways : FnScope N_count_ways P_count_ways (defScope s_count_ways) := ⟨rfl, rfl, rfl, by decide +kernel, rfl, by decide +kernel, by decide +kernel⟩

/-- what is counted for each scroll position -/
def scL (ns : List Int) (f : Nat → Int) : List Int := (List.range ((lastStop ns).toNat + 1)).map f
theorem scL_len (ns : List Int) (f : Nat → Int) : (scL ns f).length = (lastStop ns).toNat + 1 := by unfold scL; rw [List.length_map, List.length_range]
theorem scL_getD {ns : List Int} {f : Nat → Int} {i : Nat} (h : (i : Int) ≤ lastStop ns) : (scL ns f).getD i 0 = f i := by
  rw [List.getD_eq_getElem?_getD]
  unfold scL
  rw [List.getElem?_map, List.getElem?_range (by omega)]
  rfl
theorem ixN_u {n j : Nat} (hj : j < n) : ixN n (j : Int) = some j := by
  unfold ixN
  rw [if_pos (by omega), if_pos (by omega)]
  simp
theorem scL_ext {ns : List Int} {f g : Nat → Int} (h : ∀ i : Nat, f i = g i) : scL ns f = scL ns g := by
  unfold scL
  exact List.map_congr_left fun i _ => h i
theorem scL_set {ns : List Int} {f g : Nat → Int} {u : Nat} {v : Int} (h : ∀ i : Nat, f i = if i = u then v else g i) : (iv (scL ns g)).set u (.int v) = iv (scL ns f) := by
  unfold scL iv
  rw [List.map_map, List.map_map]
  refine List.ext_getElem (by rw [List.length_set, List.length_map, List.length_map]) fun i h1 h2 => ?_
  rw [List.getElem_set, List.getElem_map, List.getElem_map, List.getElem_range]
  show (if u = i then V.int v else V.int (g i)) = V.int (f i)
  rw [h i]
  by_cases c : u = i
  · rw [if_pos c, if_pos c.symm]
  · rw [if_neg c, if_neg (Ne.symm c)]
def leftL (ns : List Int) (h : Int) : List Int := scL ns fun s => ((leftF ns h s : Nat) : Int)
def waysL (ns : List Int) (h : Int) : List Int := scL ns (waysF ns h)
theorem last_bd {ns : List Int} (ho : isO ns = true) : 0 ≤ lastStop ns ∧ lastStop ns < ns.length := by
  obtain ⟨l1, l2, hk⟩ := isO_iff.mp ho
  have := (stopAt_nn hk (i := ns.length - 1) (by omega))
  have := (okFrom_at hk (i := ns.length - 1) (by omega)).1
  unfold lastStop
  unfold stopAt at *
  omega
theorem fit_last {ns : List Int} {h : Int} (ho : isO ns = true) (ft : Fit ns h 0) : (ns.length : Int) - h ≤ lastStop ns := by
  obtain ⟨l1, l2, hk⟩ := isO_iff.mp ho
  have := ft (ns.length - 1) (by omega) (by omega)
  unfold lastStop stopAt
  omega
section
variable {P : Program} {w : World} {K : PySem.W.Frag} {mg : Str → Option Value} {base : Heap}
def sp_count_views_left (K : PySem.W.Frag) : Sp := fun vs H Q _ => ∃ (a : Addr) (ns : List Int) (h : Int), vs = [.ref a, .int h] ∧ SqL K H a (iv ns) ∧ isO ns = true ∧ 1 ≤ h ∧ h ≤ 400 ∧ Fit ns h 0 ∧ RetL Q H (iv (leftL ns h))
theorem ok_count_views_left (T : Txt mg) (h : At K mg "count_views_left" s_count_views_left)
    (g_greatest_scroll : Has P w K mg base CX0 2 "greatest_scroll" s_greatest_scroll P_greatest_scroll (sp_greatest_scroll K))
    (g_stop_of : Has P w K mg base CX0 1 "stop_of" s_stop_of P_stop_of (sp_stop_of K)) :
    Has P w K mg base CX0 3 "count_views_left" s_count_views_left P_count_views_left (sp_count_views_left K) := by
  refine Has.of h sc_count_views_left (fun vs H Q E h => ?_) (fun _ _ _ _ _ _ us hl => match us, hl with | [_, _], _ => rfl) (fun f cdv A outer s H vs Q E room qt h => ?_)
  · obtain ⟨a, n, z, rfl, _⟩ := h; rfl
  obtain ⟨a, ns, hh, rfl, ha, ho, h0, h1, ft, k⟩ := h
  obtain ⟨l1, l2, hk⟩ := isO_iff.mp ho
  have el : (iv ns).length = ns.length := List.length_map _
  have lb := last_bd ho
  have lf := fit_last ho ft
  refine ⟨_, (pss_cons (ps_set (i := 2) sc_count_views_left.nd rfl (Or.inl rfl) (pe_op op_rep (pe_lst (pa_cons pe_int pa_nil)) (pe_op op_add (pe_has g_greatest_scroll (room.mono (by decide)) qt (by rfl) pass0 (pa_cons (pv 0) pa_nil)) pe_int)))
      (pss_cons (ps_for PassesOwn.never rfl (pi_revR (by rfl) T.reversed (prg_1 (by rfl) T.range (pe_op op_sub (pe_callB call_len_seq (by rfl) T.len (by decide +kernel) (pa_cons (pv 0) pa_nil)) (pv 1)))) (pg_name (i := 3) sc_count_views_left.nd rfl (Or.inl rfl) (hf := Or.inl rfl))
        (pss_one (ps_asg (pe_op op_add (pe_ix ix_list (pv 2) (pe_has g_stop_of (room.mono (by decide)) qt (by rfl) pass0 (pa_cons (pv 0) (pa_cons (pe_op op_add (pv 3) (pv 1)) pa_nil))) (fun _ _ => rfl)) pe_int) (pg_sub (pv 2) (pv 3) set_list))))
      (pss_one (ps_ret (pv 2))))), ?_⟩
  refine ⟨(by decide : 1 ≤ sizeLine), fun q nq => ?_⟩
  refine ⟨_, rfl, a, ns, rfl, (Same.new nq).seq ha, l1, _, _, rfl, rfl, q, _, _, rfl, rfl, upd_same, by omega, by omega, Nat.le_of_lt (small_line (by rw [List.length_singleton]; omega)), fun p hp => ?_⟩
  have s2 : Same H (upd (upd H q (.lst [.int 0])) p (.lst (List.replicate (lastStop ns + 1).toNat [V.int 0]).flatten)) := (Same.new nq).trans (Same.new hp)
  have hpH : H p = none := (Same.new nq).free hp
  have h2 : (upd (upd H q (.lst [.int 0])) p (.lst (List.replicate (lastStop ns + 1).toNat [V.int 0]).flatten)) p = some (.lst (iv (scL ns fun _ => 0))) := by
    rw [upd_same, iv_rep]
    unfold scL
    rw [List.map_const', List.length_range]
    congr 4
    omega
  generalize upd (upd H q (.lst [.int 0])) p (.lst (List.replicate (lastStop ns + 1).toNat [V.int 0]).flatten) = H2 at s2 h2 ⊢
  refine ⟨_, rfl, a, _, rfl, .inl (s2.seq ha), _, rfl, _, _, rfl, rfl, _, rfl, by decide, by decide, by omega, by omega, ?_⟩
  generalize eM : (((iv ns).length : Int) - hh - 0).toNat = M
  refine for_rangeC (n := M) (fun j σ H3 => (∃ v, σ = [some (.ref a), some (.int hh), some (.ref p), v]) ∧ Same H H3 ∧ H3 p = some (.lst (iv (scL ns fun s => if M ≤ s + j then ((leftF ns hh s : Nat) : Int) else 0))))
    ⟨⟨_, rfl⟩, s2, ?_⟩ ?_ ?_
  · rw [h2]
    congr 3
    refine scL_ext fun s => ?_
    by_cases c : M ≤ s + 0
    · rw [if_pos c, leftF_end (by omega)]; rfl
    · rw [if_neg c]
  · rintro j σ H3 hj ⟨⟨v, rfl⟩, s3, h3⟩
    obtain ⟨u, eu⟩ : ∃ u, M - (j + 1) = u := ⟨_, rfl⟩
    have ev : (0 : Int) + ((M : Nat) : Int) - 1 + ((j : Nat) : Int) * (-1) = (u : Nat) := by omega
    show (tAsg _ _) _ (List.set _ 3 (some (.int (0 + ((M : Nat) : Int) - 1 + ((j : Nat) : Int) * (-1))))) _
    rw [ev]
    have c : u + hh.toNat < ns.length := by omega
    have ef := fur_int ft h0 c
    have fl := fur_last hk ft h0 c
    refine ⟨_, rfl, _, rfl, _, rfl, _, rfl, _, _, rfl, rfl, a, ns, _, rfl, s3.seq ha, by omega, by omega, ?_⟩
    have e1 : (u : Int) + hh - ns.getD ((u : Int) + hh).toNat 0 = ((fur ns hh u : Nat) : Int) := by
      rw [ef]; unfold stopAt
      have : ((u : Int) + hh).toNat = u + hh.toNat := by omega
      rw [this]; omega
    rw [e1]
    have gu := fur_gt ns hh u
    refine ⟨p, _, _, _, rfl, rfl, SqL.of h3, atI_iv (by omega) (by rw [scL_len]; omega), _, _, rfl, rfl, ?_⟩
    rw [Int.toNat_natCast, scL_getD fl, if_pos (show M ≤ fur ns hh u + j by omega)]
    refine ⟨_, rfl, _, rfl, p, _, u, u, rfl, rfl, h3, ixN_u (by rw [List.length_map, scL_len]; omega), ⟨_, rfl⟩, Same.at s3 hpH, ?_⟩
    rw [upd_same]
    congr 2
    refine scL_set fun s => ?_
    by_cases c2 : s = u
    · subst c2
      rw [if_pos rfl, if_pos (by omega), leftF_go c]
      omega
    · rw [if_neg c2]
      by_cases c3 : M ≤ s + j
      · rw [if_pos c3, if_pos (by omega)]
      · rw [if_neg c3, if_neg (by omega)]
  · rintro σ H3 ⟨⟨v, rfl⟩, s3, h3⟩
    refine ⟨_, rfl, k p _ hpH s3 ?_⟩
    rw [h3]
    congr 3
    exact scL_ext fun s => if_pos (by omega)
/-- ints that are line numbers -/
abbrev nv (L : List Nat) : List Int := L.map fun (i : Nat) => (i : Int)
def sp_followers (K : PySem.W.Frag) : Sp := fun vs H Q _ => ∃ (a b : Addr) (ns : List Int) (h : Int) (s : Nat), vs = [.ref a, .int h, .ref b, .int s] ∧ SqL K H a (iv ns) ∧ H b = some (.lst (iv (leftL ns h))) ∧ isO ns = true ∧ 1 ≤ h ∧ h ≤ 400 ∧ Fit ns h 0 ∧ (s : Int) ≤ lastStop ns ∧ RetL Q H (iv (nv (folL ns h s)))
theorem ok_followers (T : Txt mg) (h : At K mg "followers" s_followers)
    (g_stop_of : Has P w K mg base CX0 1 "stop_of" s_stop_of P_stop_of (sp_stop_of K)) :
    Has P w K mg base CX0 2 "followers" s_followers P_followers (sp_followers K) := by
  refine Has.of h sc_followers (fun vs H Q E h => ?_) (fun _ _ _ _ _ _ us hl => match us, hl with | [_, _, _, _], _ => rfl) (fun f cdv A outer s H vs Q E room qt h => ?_)
  · obtain ⟨a, b, n, z, t, rfl, _⟩ := h; rfl
  obtain ⟨a, b, ns, hh, s, rfl, ha, hb, ho, h0, h1, ft, hs, k⟩ := h
  obtain ⟨l1, l2, hk⟩ := isO_iff.mp ho
  have lb := last_bd ho
  refine ⟨_, (pss_cons (ps_if (pt_cmpR op_eq (pe_ix ix_list (pv 2) (pv 3) (fun _ _ => rfl)) pe_int (nomark _))
        (pss_one (ps_ret (pe_lst pa_nil)))
        pss_nil)
      (pss_cons (ps_set (i := 4) sc_followers.nd rfl (Or.inr rfl) (pe_has g_stop_of (room.mono (by decide)) qt (by rfl) pass0 (pa_cons (pv 0) (pa_cons (pe_op op_add (pv 3) (pv 1)) pa_nil))))
      (pss_one (ps_ret (pe_lc (own := [("after", 5)]) (by rfl) sc_followers.nd (pi_range2 (by rfl) T.range (pa_cons (pe_op op_add (pv 3) pe_int) (pa_cons (pe_op op_add (pv 4) pe_int) pa_nil))) (blkOk_by (own := [("after", 5)]) (N := N_followers) (sc := defScope s_followers) (by decide +kernel)) (fun _ _ _ _ _ => (pg_name (i := 5) sc_followers.nd rfl (Or.inl rfl) (hf := Or.inr rfl))) (fun _ _ _ _ _ => (pts_one (pt_cmpR op_eq (pe_ix (show IxR _ (rIxL K) from by exact ix_list) (pv 2) (pv 5) (fun _ _ => rfl)) (pe_ix (show IxR _ (rIxL K) from by exact ix_list) (pv 2) (pv 4) (fun _ _ => rfl)) (nomark _)))) (fun _ _ _ _ _ => (pv 5))))))), ?_⟩
  refine ⟨_, rfl, _, rfl, b, _, s, _, rfl, rfl, SqL.of hb, atI_iv (by omega) (by unfold leftL; rw [scL_len]; omega), rfl, ?_⟩
  rw [Int.toNat_natCast, show (leftL ns hh).getD s 0 = ((leftF ns hh s : Nat) : Int) from scL_getD hs]
  refine ⟨_, rfl, ite2 (fun c => ?_) (fun c => ?_)⟩
  · have c1 : leftF ns hh s = 0 := by
      have := V.int.inj (of_decide_eq_true c)
      omega
    refine ⟨(by decide : 0 ≤ sizeLine), fun p hp => k p _ hp (Same.new hp) ?_⟩
    rw [upd_same]
    unfold folL
    rw [if_neg (by have := left_zero c1; omega)]
    rfl
  · have c1 : s + hh.toNat < ns.length := by
      rcases Nat.lt_or_ge (s + hh.toNat) ns.length with q | q
      · exact q
      · exact (c (by rw [leftF_end q]; rfl)).elim
    have ef := fur_int ft h0 c1
    have fl := fur_last hk ft h0 c1
    have gu := fur_gt ns hh s
    refine ⟨_, rfl, _, rfl, _, rfl, _, _, rfl, rfl, a, ns, _, rfl, ha, by omega, by omega, ?_⟩
    have e1 : (s : Int) + hh - ns.getD ((s : Int) + hh).toNat 0 = ((fur ns hh s : Nat) : Int) := by
      rw [ef]; unfold stopAt
      have : ((s : Int) + hh).toNat = s + hh.toNat := by omega
      rw [this]; omega
    rw [e1]
    refine ⟨_, rfl, _, _, rfl, rfl, _, rfl, _, _, rfl, rfl, _, _, rfl, ⟨by omega, by omega, by omega, by omega⟩, fun D hD => lcRn (lo := (s : Int) + 1) (n := (((fur ns hh s : Nat) : Int) + 1 - ((s : Int) + 1)).toNat) (fun i => leftF ns hh (s + 1 + i) == leftF ns hh (fur ns hh s)) (fun i => V.int ((s + 1 + i : Nat) : Int)) hD (by omega) (fun x => rfl) ?_ ?_ ?_⟩
    · intro i H2 Q' hi s2 qq
      refine ⟨_, rfl, _, rfl, b, _, _, _, rfl, rfl, SqL.of (s2 _ _ hb), atI_iv (by omega) (by unfold leftL; rw [scL_len]; omega), _, rfl, _, rfl, b, _, _, _, rfl, rfl, SqL.of (s2 _ _ hb), atI_iv (by omega) (by unfold leftL; rw [scL_len]; omega), rfl, ?_⟩
      have ei : ((s : Int) + 1 + (i : Nat)).toNat = s + 1 + i := by omega
      rw [ei, Int.toNat_natCast, show (leftL ns hh).getD (s + 1 + i) 0 = ((leftF ns hh (s + 1 + i) : Nat) : Int) from scL_getD (by omega), show (leftL ns hh).getD (fur ns hh s) 0 = ((leftF ns hh (fur ns hh s) : Nat) : Int) from scL_getD fl]
      have ed : decide (V.int ((leftF ns hh (s + 1 + i) : Nat) : Int) = V.int ((leftF ns hh (fur ns hh s) : Nat) : Int)) = (leftF ns hh (s + 1 + i) == leftF ns hh (fur ns hh s)) := by
        by_cases c2 : leftF ns hh (s + 1 + i) = leftF ns hh (fur ns hh s)
        · rw [c2, decide_eq_true rfl, beq_self_eq_true]
        · rw [decide_eq_false (fun q => c2 (by have := V.int.inj q; omega)), beq_false_of_ne c2]
      refine ⟨_, rfl, ?_⟩
      rw [ed]
      exact qq H2 (Same.refl _)
    · intro i H2 Q' hi hk2 s2 qq
      refine ⟨_, rfl, ?_⟩
      rw [show (s : Int) + 1 + (i : Nat) = ((s + 1 + i : Nat) : Int) by omega]
      exact qq H2 (Same.refl _)
    · intro H2 s2 h2
      refine k D H2 hD s2 ?_
      rw [show (((fur ns hh s : Nat) : Int) + 1 - ((s : Int) + 1)).toNat = fur ns hh s - s by omega] at h2
      rw [h2]
      unfold folL gives
      rw [if_pos c1, List.filter_map]
      simp only [iv, nv, List.map_map]
      rfl
end
end SH

namespace SH
open PySem PySem.Spec PyProof.Rows L2
theorem nv_getD {L : List Nat} {i : Nat} : (nv L).getD i 0 = ((L.getD i 0 : Nat) : Int) := by
  rw [List.getD_eq_getElem?_getD, List.getD_eq_getElem?_getD, List.getElem?_map]
  cases L[i]? with
  | none => rfl
  | some x => rfl
theorem getD_mem {L : List Nat} {i : Nat} (h : i < L.length) : L.getD i 0 ∈ L := by
  rw [List.getD_eq_getElem?_getD, List.getElem?_eq_getElem h]
  exact List.getElem_mem h
theorem nvF (L : List Nat) (f : Nat → Int) : (nv L).map (fun z => V.int (f z.toNat)) = iv (L.map f) := by
  unfold iv
  rw [List.map_map, List.map_map]
  refine List.map_congr_left fun i _ => ?_
  show V.int (f ((i : Nat) : Int).toNat) = V.int (f i)
  rw [Int.toNat_natCast]
theorem fol_len {ns : List Int} {h : Int} (hk : okFrom 0 ns = true) (ft : Fit ns h 0) (h1 : 1 ≤ h) (s : Nat) : (folL ns h s).length ≤ ns.length := by
  unfold folL
  by_cases c : s + h.toNat < ns.length
  · rw [if_pos c]
    refine Nat.le_trans (List.length_filter_le _ _) ?_
    rw [List.length_map, List.length_range]
    have := fur_int ft h1 c
    have := (okFrom_at hk c).1
    unfold stopAt at *
    omega
  · rw [if_neg c]; exact Nat.zero_le _
theorem fol_last {ns : List Int} {h : Int} (hk : okFrom 0 ns = true) (ft : Fit ns h 0) (h1 : 1 ≤ h) {s a : Nat} (m : a ∈ folL ns h s) : (a : Int) ≤ lastStop ns := by
  obtain ⟨c, _, q, _⟩ := fol_mem.mp m
  have := fur_last hk ft h1 c
  omega
section
variable {P : Program} {w : World} {K : PySem.W.Frag} {mg : Str → Option Value} {base : Heap}
def sp_count_ways (K : PySem.W.Frag) : Sp := fun vs H Q _ => ∃ (a b : Addr) (ns : List Int) (h : Int), vs = [.ref a, .int h, .ref b] ∧ SqL K H a (iv ns) ∧ H b = some (.lst (iv (leftL ns h))) ∧ isO ns = true ∧ 1 ≤ h ∧ h ≤ 400 ∧ Fit ns h 0 ∧ RetL Q H (iv (waysL ns h))
theorem ok_count_ways (T : Txt mg) (h : At K mg "count_ways" s_count_ways)
    (g_followers : Has P w K mg base CX0 2 "followers" s_followers P_followers (sp_followers K)) :
    Has P w K mg base CX0 3 "count_ways" s_count_ways P_count_ways (sp_count_ways K) := by
  refine Has.of h sc_count_ways (fun vs H Q E h => ?_) (fun _ _ _ _ _ _ us hl => match us, hl with | [_, _, _], _ => rfl) (fun f cdv A outer s H vs Q E room qt h => ?_)
  · obtain ⟨a, b, n, z, rfl, _⟩ := h; rfl
  obtain ⟨a, b, ns, hh, rfl, ha, hb, ho, h0, h1, ft, k⟩ := h
  obtain ⟨l1, l2, hk⟩ := isO_iff.mp ho
  have el : (iv ns).length = ns.length := List.length_map _
  have ell : (iv (leftL ns hh)).length = (lastStop ns).toNat + 1 := by rw [List.length_map]; exact scL_len _ _
  have lb := last_bd ho
  have lf := fit_last ho ft
  refine ⟨_, (pss_cons (ps_set (i := 3) sc_count_ways.nd rfl (Or.inr rfl) (pe_op op_rep (pe_lst (pa_cons pe_int pa_nil)) (pe_callB call_len_seq (by rfl) T.len (by decide +kernel) (pa_cons (pv 2) pa_nil))))
      (pss_cons (ps_for PassesOwn.never rfl (pi_revR (by rfl) T.reversed (prg_1 (by rfl) T.range (pe_op op_sub (pe_callB call_len_seq (by rfl) T.len (by decide +kernel) (pa_cons (pv 0) pa_nil)) (pv 1)))) (pg_name (i := 4) sc_count_ways.nd rfl (Or.inl rfl) (hf := Or.inl rfl))
        (pss_one (ps_asg (pe_callB (cr_sum rfl) (by rfl) T.sum (by decide +kernel) (pa_cons (pe_lc (own := [("after", 5)]) (by rfl) sc_count_ways.nd (pi_list (pe_has g_followers (room.mono (by decide)) qt (by rfl) pass0 (pa_cons (pv 0) (pa_cons (pv 1) (pa_cons (pv 2) (pa_cons (pv 4) pa_nil)))))) (blkOk_by (own := [("after", 5)]) (N := N_count_ways) (sc := defScope s_count_ways) (by decide +kernel)) (fun _ _ _ _ _ => (pg_name (i := 5) sc_count_ways.nd rfl (Or.inl rfl) (hf := Or.inr rfl))) (fun _ _ _ _ _ => pts_nil) (fun _ _ _ _ _ => (pe_ix (show IxR _ (rIxL K) from by exact ix_list) (pv 3) (pv 5) (fun _ _ => rfl)))) pa_nil)) (pg_sub (pv 3) (pv 4) set_list))))
      (pss_one (ps_ret (pv 3))))), ?_⟩
  refine ⟨(by decide : 1 ≤ sizeLine), fun q nq => ?_⟩
  refine ⟨_, rfl, b, _, rfl, .inl (SqL.of (Same.new nq _ _ hb)), q, _, _, rfl, rfl, upd_same, by omega, by omega, Nat.le_of_lt (small_line (by rw [List.length_singleton]; omega)), fun p hp => ?_⟩
  have s2 : Same H (upd (upd H q (.lst [.int 1])) p (.lst (List.replicate ((iv (leftL ns hh)).length : Int).toNat [V.int 1]).flatten)) := (Same.new nq).trans (Same.new hp)
  have hpH : H p = none := (Same.new nq).free hp
  have h2 : (upd (upd H q (.lst [.int 1])) p (.lst (List.replicate ((iv (leftL ns hh)).length : Int).toNat [V.int 1]).flatten)) p = some (.lst (iv (scL ns fun _ => 1))) := by
    rw [upd_same, iv_rep]
    unfold scL
    rw [List.map_const', List.length_range, ell, Int.toNat_natCast]
  generalize upd (upd H q (.lst [.int 1])) p (.lst (List.replicate ((iv (leftL ns hh)).length : Int).toNat [V.int 1]).flatten) = H2 at s2 h2 ⊢
  refine ⟨_, rfl, a, _, rfl, .inl (s2.seq ha), _, rfl, _, _, rfl, rfl, _, rfl, by decide, by decide, by omega, by omega, ?_⟩
  generalize eM : (((iv ns).length : Int) - hh - 0).toNat = M
  refine for_rangeC (n := M) (fun j σ H3 => (∃ v, σ = [some (.ref a), some (.int hh), some (.ref b), some (.ref p), v, none]) ∧ Same H H3 ∧ H3 p = some (.lst (iv (scL ns fun s => if M ≤ s + j then waysF ns hh s else 1))))
    ⟨⟨_, rfl⟩, s2, ?_⟩ ?_ ?_
  · rw [h2]
    congr 3
    refine scL_ext fun s => ?_
    by_cases c : M ≤ s + 0
    · rw [if_pos c, ways_end (by omega)]
    · rw [if_neg c]
  · rintro j σ H3 hj ⟨⟨v, rfl⟩, s3, h3⟩
    obtain ⟨u, eu⟩ : ∃ u, M - (j + 1) = u := ⟨_, rfl⟩
    have ev : (0 : Int) + ((M : Nat) : Int) - 1 + ((j : Nat) : Int) * (-1) = (u : Nat) := by omega
    show (tAsg _ _) _ (List.set _ 4 (some (.int (0 + ((M : Nat) : Int) - 1 + ((j : Nat) : Int) * (-1))))) _
    rw [ev]
    have c : u + hh.toNat < ns.length := by omega
    have flen := fol_len hk ft h0 u
    refine ⟨_, rfl, _, rfl, _, rfl, _, rfl, a, b, ns, hh, u, rfl, s3.seq ha, s3 _ _ hb, ho, h0, h1, ft, by omega, fun r H4 hr s4 h4 => ?_⟩
    have h4p := s4 _ _ h3
    have hpr : p ≠ r := ne_of_none h3 hr
    refine ⟨r, rfl, ⟨_, SqL.of h4⟩, fun D hD => lcLn (K := K) (a := r) (xs := iv (nv (folL ns hh u))) (fun _ => true) (fun i => V.int (waysF ns hh ((nv (folL ns hh u)).getD i 0).toNat)) (SqL.of h4) hD (by rw [List.length_map, List.length_map]; omega) (fun x => rfl) (fun i x H5 Q' _ _ qq => qq H5 (Same.refl _)) ?_ ?_⟩
    · intro i x H5 Q' hx _ s5 qq
      have il : i < (nv (folL ns hh u)).length := by have := (List.getElem?_eq_some_iff.mp hx).1; rwa [List.length_map] at this
      rw [iv_at il] at hx
      cases hx
      rw [List.length_map] at il
      rw [nv_getD] at qq ⊢
      have mem := getD_mem il
      obtain ⟨_, m1, m2, _⟩ := fol_mem.mp mem
      have m3 := fol_last hk ft h0 mem
      generalize (folL ns hh u).getD i 0 = x at *
      refine ⟨_, rfl, _, rfl, p, _, _, _, rfl, rfl, SqL.of (s5 _ _ h4p), atI_iv (by omega) (by rw [scL_len]; omega), ?_⟩
      rw [Int.toNat_natCast] at qq ⊢
      rw [scL_getD m3, if_pos (show M ≤ x + j by omega)]
      exact qq H5 (Same.refl _)
    · intro H5 s5 h5
      rw [List.length_map, gives_ints (nv (folL ns hh u)) (fun z => V.int (waysF ns hh z.toNat)), nvF] at h5
      refine ⟨D, (folL ns hh u).map (waysF ns hh), rfl, SqL.of h5, ?_⟩
      rw [← ways_go c]
      have h5p := s5 _ _ h4p
      refine ⟨_, rfl, _, rfl, p, _, u, u, rfl, rfl, h5p, ixN_u (by rw [List.length_map, scL_len]; omega), ⟨_, rfl⟩, Same.at ((s3.trans s4).trans s5) hpH, ?_⟩
      rw [upd_same]
      congr 2
      refine scL_set fun s => ?_
      by_cases c2 : s = u
      · subst c2
        rw [if_pos rfl, if_pos (by omega)]
      · rw [if_neg c2]
        by_cases c3 : M ≤ s + j
        · rw [if_pos c3, if_pos (by omega)]
        · rw [if_neg c3, if_neg (by omega)]
  · rintro σ H3 ⟨⟨v, rfl⟩, s3, h3⟩
    refine ⟨_, rfl, k p _ hpH s3 ?_⟩
    rw [h3]
    congr 3
    exact scL_ext fun s => if_pos (by omega)
end
end SH

namespace SH
open PySem PySem.Spec PyProof.Rows L2
theorem cutI_from (l : List Int) {n : Int} (h : 0 ≤ n) : cutI l (some n) none = l.drop n.toNat := by
  unfold cutI
  have e : n = (n.toNat : Int) := by omega
  rw [e, HT.sIx_none, HT.sIx_nat, Int.toNat_natCast]
  rcases Nat.le_total n.toNat l.length with a | a
  · rw [Nat.min_eq_left a, List.take_of_length_le (by rw [List.length_drop]; omega)]
  · rw [Nat.min_eq_right a, List.drop_eq_nil_of_le (Nat.le_refl _), List.drop_eq_nil_of_le a, List.take_nil]
theorem gives_filter (L : List Int) (p : Int → Bool) : gives L.length (fun i => p (L.getD i 0)) (fun i => V.int (L.getD i 0)) = iv (L.filter p) := by
  have key : ∀ n, n ≤ L.length → gives n (fun i => p (L.getD i 0)) (fun i => V.int (L.getD i 0)) = iv ((L.take n).filter p) := by
    intro n
    induction n with
    | zero => intro _; rfl
    | succ n ih =>
      intro hn
      have e : L[n]? = some (L.getD n 0) := by rw [List.getD_eq_getElem?_getD, List.getElem?_eq_getElem (by omega)]; rfl
      rw [gives_succ, ih (by omega), List.take_succ, e]
      generalize L.getD n 0 = x
      show (if p x = true then iv ((L.take n).filter p) ++ [V.int x] else iv ((L.take n).filter p)) = iv ((L.take n ++ [x]).filter p)
      rw [List.filter_append, List.filter_cons]
      by_cases c : p x = true
      · rw [if_pos c, if_pos c, iv_snoc]; rfl
      · rw [if_neg c, if_neg c]; simp
  have := key L.length (Nat.le_refl _)
  rwa [List.take_length] at this
theorem left_le {ns : List Int} {h : Int} : ∀ (m s : Nat), ns.length - s ≤ m → leftF ns h s ≤ m
  | 0, s, hm => by rw [leftF_end (by omega)]; exact Nat.le_refl _
  | m + 1, s, hm => by
    rcases Nat.lt_or_ge (s + h.toNat) ns.length with c | c
    · rw [leftF_go c]
      have := fur_gt ns h s
      exact Nat.succ_le_succ (left_le m _ (by omega))
    · rw [leftF_end c]; exact Nat.zero_le _
def nthR (ns : List Int) (h : Int) (i : Int) : List Nat := 0 :: nthL ns h (leftF ns h 0) 0 i
theorem nv_snoc (F : List Nat) (x : Nat) : nv (F ++ [x]) = nv F ++ [(x : Int)] := by unfold nv; rw [List.map_append]; rfl
theorem atI_snoc (F : List Nat) (x : Nat) : atI (iv (nv (F ++ [x]))) (-1) = some (.int (x : Nat)) := by
  rw [nv_snoc]
  have e := atI_iv_last (ns := nv F ++ [(x : Int)]) (by simp)
  rw [e, List.getD_eq_getElem?_getD]
  congr 2
  rw [List.length_append, List.length_singleton, Nat.add_sub_cancel, List.getElem?_append_right (Nat.le_refl _), Nat.sub_self]
  rfl
theorem sum_drop {w : Nat → Int} {l : List Nat} {t : Nat} (ht : t < l.length) : ((l.drop t).map w).sum = w (l.getD t 0) + ((l.drop (t + 1)).map w).sum := by
  rw [List.drop_eq_getElem_cons ht, List.map_cons, List.sum_cons, List.getD_eq_getElem?_getD, List.getElem?_eq_getElem ht]
  rfl
theorem pick_drop {w : Nat → Int} {l : List Nat} {t : Nat} {r : Int} (ht : t < l.length) : pick w (l.drop t) r = if r < w (l.getD t 0) then (l.getD t 0, r) else pick w (l.drop (t + 1)) (r - w (l.getD t 0)) := by
  rw [List.drop_eq_getElem_cons ht, List.getD_eq_getElem?_getD, List.getElem?_eq_getElem ht]
  rfl
theorem for_zipM {K : PySem.W.Frag} {a b : Addr} {xs ys : List V} {g : TG} {tb : TS} {D : Ends} {σ : L2.St} {H : Hp} (hl : ys.length ≤ xs.length) (Pv : Nat → L2.St → Hp → Prop) (h0 : Pv 0 σ H) (hq : ∀ i σ H, Pv i σ H → SqL K H a xs ∧ SqL K H b ys)
    (hs : ∀ (i : Nat) (x y : V) (T : Addr) (σ : L2.St) (H : Hp), xs[i]? = some x → ys[i]? = some y → Pv i σ H → H T = none → g (.ref T) σ (upd H T (.tup [x, y])) fun σ2 H2 => tb { D with nx := Pv (i + 1), ct := Pv (i + 1), bk := D.nx } σ2 H2) (hd : ∀ σ H, Pv ys.length σ H → D.nx σ H) :
    ∃ W : Nat → Nat → L2.St → Hp → Prop, (∃ m, W 0 m σ H) ∧ ∀ i m σ H, W i m σ H →
      ((Itz K a b).stop i H ∧ D.nx σ H) ∨ ((Itz K a b).go i H ∧ ∃ N : L2.St → Hp → Prop, (∀ σ' H', N σ' H' → ∃ m', m' < m ∧ W (i + 1) m' σ' H') ∧ ∀ v H', (Itz K a b).yld i H v H' → g v σ H' fun σ2 H2 => tb { D with nx := N, ct := N, bk := D.nx } σ2 H2) := by
  refine ⟨fun i m σ H => m = ys.length - i ∧ i ≤ ys.length ∧ Pv i σ H, ⟨ys.length, rfl, Nat.zero_le _, h0⟩, ?_⟩
  rintro i m σ H ⟨rfl, hi, p⟩
  obtain ⟨qx, qy⟩ := hq i σ H p
  by_cases hlt : i < ys.length
  · have hx : xs[i]? = some xs[i] := List.getElem?_eq_getElem (by omega)
    have hy : ys[i]? = some ys[i] := List.getElem?_eq_getElem hlt
    refine .inr ⟨⟨xs, ys, _, _, qx, qy, hx, hy⟩, Pv (i + 1), fun σ' H' p' => ⟨ys.length - (i + 1), by omega, rfl, hlt, p'⟩, fun v H' y => ?_⟩
    obtain ⟨T, x', y', rfl, hT, rfl, f1, f2⟩ := y
    exact hs i x' y' T σ H (f1 xs qx) (f2 ys qy) p hT
  · have e : i = ys.length := by omega
    subst e
    exact .inl ⟨⟨xs, ys, qx, qy, Or.inr (Nat.le_refl _)⟩, hd σ H p⟩
theorem path_read {ns : List Int} {h : Int} (ho : isO ns = true) (ft : Fit ns h 0) (h1 : 1 ≤ h) {L : List Nat} (p : Path ns h 0 L) : readD ns h (dI (nv (0 :: L))) = true := by
  obtain ⟨l1, l2, hk⟩ := isO_iff.mp ho
  have lb := last_bd ho
  have asc := path_asc p
  have last := path_last hk ft h1 p
  unfold readD
  rw [Bool.and_eq_true, show ascXD (lastStop ns) (dI (nv (0 :: L))) = ascB (lastStop ns) 0 (nv (0 :: L)) from ascD_ints _ _ _, intsD_dI, List.all_eq_true]
  refine ⟨ascB_iff.mpr ⟨?_, fun v hv => ?_⟩, fun j hj => ?_⟩
  · unfold nv
    rw [List.pairwise_map]
    exact asc.imp fun {a b} q => by omega
  · obtain ⟨x, hx, rfl⟩ := List.mem_map.mp hv
    rcases List.mem_cons.mp hx with e | e
    · subst e; omega
    · have := last x e; omega
  · have jl := List.mem_range.mp hj
    have s0 := (stopAt_nn hk jl).1
    obtain ⟨a, ha, q1, q2⟩ := path_cov hk ft h1 p j jl (by omega)
    unfold shB
    rw [List.any_eq_true]
    refine ⟨(a : Int), List.mem_map.mpr ⟨a, ha, rfl⟩, ?_⟩
    rw [Bool.and_eq_true, decide_eq_true_eq, decide_eq_true_eq]
    refine ⟨?_, q1⟩
    unfold loS
    split <;> omega
theorem iteFb {b : Bool} {A B : Prop} (e : b = false) (h : B) : if b = true then A else B := by rw [e, if_neg Bool.false_ne_true]; exact h
theorem gives_keep (L : List Int) (p : Int → Bool) (f : Int → Int) : gives L.length (fun i => p (L.getD i 0)) (fun i => V.int (f (L.getD i 0))) = iv ((L.filter p).map f) := by
  have key : ∀ n, n ≤ L.length → gives n (fun i => p (L.getD i 0)) (fun i => V.int (f (L.getD i 0))) = iv (((L.take n).filter p).map f) := by
    intro n
    induction n with
    | zero => intro _; rfl
    | succ n ih =>
      intro hn
      have e : L[n]? = some (L.getD n 0) := by rw [List.getD_eq_getElem?_getD, List.getElem?_eq_getElem (by omega)]; rfl
      rw [gives_succ, ih (by omega), List.take_succ, e]
      generalize L.getD n 0 = x
      show (if p x = true then iv (((L.take n).filter p).map f) ++ [V.int (f x)] else iv (((L.take n).filter p).map f)) = iv (((L.take n ++ [x]).filter p).map f)
      rw [List.filter_append, List.filter_cons, List.map_append]
      by_cases c : p x = true
      · rw [if_pos c, if_pos c, iv_snoc]; rfl
      · rw [if_neg c, if_neg c]; simp
  have := key L.length (Nat.le_refl _)
  rwa [List.take_length] at this
/-- the rank so far, behind i pairs -/
theorem rank_step {ns : List Int} {h : Int} : ∀ (L : List Nat) (s i : Nat), i < L.length → rankL ns h ((s :: L).getD i 0) (L.drop i) =
    (((folL ns h ((s :: L).getD i 0)).filter (fun x => decide (x < L.getD i 0))).map (waysF ns h)).sum + rankL ns h ((s :: L).getD (i + 1) 0) (L.drop (i + 1)) := by
  intro L s i hi
  rw [List.drop_eq_getElem_cons hi]
  have e : L.getD i 0 = L[i] := by rw [List.getD_eq_getElem?_getD, List.getElem?_eq_getElem hi]; rfl
  have e2 : (s :: L).getD (i + 1) 0 = L[i] := e
  rw [e, e2]
  rfl
theorem path_at {ns : List Int} {h : Int} (hk : okFrom 0 ns = true) (ft : Fit ns h 0) (h1 : 1 ≤ h) {L : List Nat} (p : Path ns h 0 L) (l0 : 0 ≤ lastStop ns) (i : Nat) : (((0 :: L).getD i 0 : Nat) : Int) ≤ lastStop ns := by
  rcases Nat.lt_or_ge i (0 :: L).length with c | c
  · have := getD_mem c
    rcases List.mem_cons.mp this with e | e
    · rw [e]; exact l0
    · exact path_last hk ft h1 p _ e
  · rw [List.getD_eq_getElem?_getD, List.getElem?_eq_none c]; exact l0
end SH

namespace SH
open PySem PySem.Spec PyProof.Rows L2
theorem iteT' {b : Bool} {A B : Prop} (e : b = true) (h : A) : if b = true then A else B := by rw [if_pos e]; exact h
abbrev s_rank_shortest : Stmt := topS 29
abbrev N_rank_shortest : List Str := ["outline", "height", "scrolls", "left", "ways", "smaller", "scroll", "chosen", "choices", "after"]
abbrev P_rank_shortest : List Str := ["outline", "height", "scrolls"]
theorem sc_rank_shortest : FnScope N_rank_shortest P_rank_shortest (defScope s_rank_shortest) := ⟨rfl, rfl, rfl, by decide +kernel, rfl, by decide +kernel, by decide +kernel⟩
/-- a reading with as many positions as there must be is a shortest reading -/
theorem path_of {ns : List Int} {h : Int} (hk : okFrom 0 ns = true) (ft : Fit ns h 0) (h1 : 1 ≤ h) : ∀ {Y : List Nat} {s : Nat}, (s :: Y).Pairwise (· < ·) →
    (∀ j, j < ns.length → (s : Int) ≤ stopAt ns j → ∃ a ∈ s :: Y, (a : Int) ≤ stopAt ns j ∧ j < a + h.toNat) → Y.length ≤ leftF ns h s → Path ns h s Y
  | [], s, _, cov, _ => by
    rcases Nat.lt_or_ge (s + h.toNat) ns.length with c | c
    · exfalso
      have gs := fur_gt ns h s
      have e := fur_int ft h1 c
      obtain ⟨a, ha, q1, q2⟩ := cov (s + h.toNat) c (by omega)
      rw [List.mem_singleton.mp ha] at q2
      omega
    · exact leftF_end c
  | b :: r, s, asc, cov, hl => by
    rw [List.length_cons] at hl
    have c : s + h.toNat < ns.length := by
      rcases Nat.lt_or_ge (s + h.toNat) ns.length with c | c
      · exact c
      · rw [leftF_end c] at hl; omega
    obtain ⟨p1, p2⟩ := List.pairwise_cons.mp asc
    have sb := p1 b List.mem_cons_self
    have gs := fur_gt ns h s
    have e := fur_int ft h1 c
    have bf : b ≤ fur ns h s := by
      obtain ⟨a, ha, q1, q2⟩ := cov (s + h.toNat) c (by omega)
      rcases List.mem_cons.mp ha with z | z
      · subst z; omega
      · rcases List.mem_cons.mp z with z | z
        · subst z; omega
        · have := (List.pairwise_cons.mp p2).1 a z
          omega
    have st := left_step hk ft h1 c sb bf
    have ih := path_of hk ft h1 (Y := r) (s := b) p2 (fun j hj q => by
      obtain ⟨a, ha, q1, q2⟩ := cov j hj (by omega)
      rcases List.mem_cons.mp ha with z | z
      · subst z; exact ⟨b, List.mem_cons_self, q, by omega⟩
      · exact ⟨a, z, q1, q2⟩) (by omega)
    have pl := path_len ih
    have lg := leftF_go c
    have lm := left_mono hk ft h1 ns.length b (fur ns h s) (by omega) bf
    exact ⟨fol_mem.mpr ⟨c, sb, bf, by omega⟩, ih⟩
theorem read_list {ns : List Int} {h : Int} {d : PyData} (r : readD ns h d = true) : ∃ X : List Int, d = dI X ∧ ascB (lastStop ns) 0 X = true ∧ ∀ j, j < ns.length → shB ns h X j = true := by
  unfold readD at r
  rw [Bool.and_eq_true, List.all_eq_true] at r
  obtain ⟨r1, r2⟩ := r
  cases d with
  | list ds =>
    have r1' : ascD (lastStop ns) 0 ds = true := r1
    obtain ⟨X, rfl⟩ := ascD_iv r1'
    rw [ascD_ints] at r1'
    refine ⟨X, rfl, r1', fun j hj => ?_⟩
    have := r2 j (List.mem_range.mpr hj)
    rwa [show intsD (PyData.list (X.map PyData.int)) = X from intsD_dI X] at this
  | _ => exact absurd r1 Bool.false_ne_true
theorem short_path {ns : List Int} {h : Int} (ho : isO ns = true) (ft : Fit ns h 0) (h1 : 1 ≤ h) {X : List Int} (a : ascB (lastStop ns) 0 X = true) (cv : ∀ j, j < ns.length → shB ns h X j = true) (hl : X.length = leftF ns h 0 + 1) :
    ∃ L, X = nv (0 :: L) ∧ Path ns h 0 L := by
  obtain ⟨l1, l2, hk⟩ := isO_iff.mp ho
  obtain ⟨asc, bd⟩ := ascB_iff.mp a
  have eX : X = nv (X.map Int.toNat) := by
    unfold nv
    rw [List.map_map]
    conv => lhs; rw [← List.map_id X]
    refine List.map_congr_left fun v hv => ?_
    have := bd v hv
    show v = ((v.toNat : Nat) : Int)
    omega
  generalize X.map Int.toNat = Y at eX
  subst eX
  have ascY : Y.Pairwise (· < ·) := by
    unfold nv at asc
    rw [List.pairwise_map] at asc
    exact asc.imp fun {a b} q => by omega
  have cvY : ∀ j, j < ns.length → ∃ a ∈ Y, (a : Int) ≤ stopAt ns j ∧ j < a + h.toNat := fun j hj => by
    have := cv j hj
    unfold shB at this
    rw [List.any_eq_true] at this
    obtain ⟨v, hv, q⟩ := this
    obtain ⟨z, hz, rfl⟩ := List.mem_map.mp hv
    rw [Bool.and_eq_true, decide_eq_true_eq, decide_eq_true_eq] at q
    refine ⟨z, hz, q.2, ?_⟩
    have q1 := q.1
    unfold loS at q1
    split at q1 <;> omega
  rw [List.length_map] at hl
  cases Y with
  | nil => rw [List.length_nil] at hl; omega
  | cons s L =>
    have d0 := (okFrom_at hk (i := 0) (by omega)).2.2 rfl
    have d1 := (okFrom_at hk (i := 0) (by omega)).1
    obtain ⟨z, hz, q1, q2⟩ := cvY 0 (by omega)
    have s0 : s = 0 := by
      unfold stopAt at q1
      rcases List.mem_cons.mp hz with e | e
      · omega
      · have := (List.pairwise_cons.mp ascY).1 z e; omega
    subst s0
    rw [List.length_cons] at hl
    exact ⟨L, rfl, path_of hk ft h1 ascY (fun j hj _ => cvY j hj) (by omega)⟩
section
variable {P : Program} {w : World} {K : PySem.W.Frag} {mg : Str → Option Value} {base : Heap}
/-- any value: the rank of a shortest reading, or an InvalidReadingError -/
def sp_rankX (C : Addr) : Sp := fun vs H Q E => ∃ (a : Addr) (ns : List Int) (h : Int) (x : V) (d : PyData) (as : List Addr), vs = [.ref a, .int h, x] ∧ H a = some (.lst (iv ns)) ∧ isO ns = true ∧ 1 ≤ h ∧ h ≤ 400 ∧ Fit ns h 0 ∧ Dx H x d as ∧
  (∀ L, d = dI (nv (0 :: L)) → Path ns h 0 L → RetV Q H (.int (rankL ns h 0 L))) ∧ ((¬ ∃ L, d = dI (nv (0 :: L)) ∧ Path ns h 0 L) → ∀ H', Same H H' → E (.ref C) none H')
theorem ok_rank_shortest {C_InvalidReadingError : Addr} (T : Txt mg) (e_InvalidReadingError : Err K mg "InvalidReadingError" C_InvalidReadingError) (h : At K mg "rank_shortest" s_rank_shortest)
    (g_check_all_shown : Has P w K mg base CX0 5 "check_all_shown" s_check_all_shown P_check_all_shown sp_check_all_shown)
    (g_count_views_left : Has P w K mg base CX0 3 "count_views_left" s_count_views_left P_count_views_left (sp_count_views_left K))
    (g_is_reading : Has P w K mg base CX0 5 "is_reading" s_is_reading P_is_reading sp_is_reading)
    (g_count_ways : Has P w K mg base CX0 3 "count_ways" s_count_ways P_count_ways (sp_count_ways K))
    (g_followers : Has P w K mg base CX0 2 "followers" s_followers P_followers (sp_followers K)) :
    Has P w K mg base (L2.CX P w) 6 "rank_shortest" s_rank_shortest P_rank_shortest (sp_rankX C_InvalidReadingError) := by
  refine Has.ofX h sc_rank_shortest (fun vs H Q E h => ?_) (fun _ _ _ _ _ _ us hl => match us, hl with | [_, _, _], _ => rfl) (fun f cdv A outer s H vs Q E room qt h => ?_)
  · obtain ⟨a, n, z, x, d, as, rfl, _⟩ := h; rfl
  obtain ⟨a, ns, hh, x, d, as, rfl, ha, ho, h0, h1, ft, hd, k, ke⟩ := h
  obtain ⟨l1, l2, hk⟩ := isO_iff.mp ho
  have lb := last_bd ho
  have ll := left_le (ns := ns) (h := hh) ns.length 0 (by omega)
  refine ⟨_, (pss_cons (ps_expr (pe_has g_check_all_shown (room.mono (by decide)) qt (by rfl) pass0 (pa_cons (pv 0) (pa_cons (pv 1) pa_nil))))
      (pss_cons (ps_set (i := 3) sc_rank_shortest.nd rfl (Or.inl rfl) (pe_has g_count_views_left (room.mono (by decide)) qt (by rfl) pass0 (pa_cons (pv 0) (pa_cons (pv 1) pa_nil))))
      (pss_cons (ps_if (PW.pt (pw_or (pt_not (pt_val (pe_has g_is_reading (room.mono (by decide)) qt (by rfl) pass0 (pa_cons (pv 0) (pa_cons (pv 1) (pa_cons (pv 2) pa_nil)))))) (pw_or1 (pt_cmpR op_ne (pe_callB call_len_seq (by rfl) T.len (by decide +kernel) (pa_cons (pv 2) pa_nil)) (pe_op op_add (pe_ix ix_list (pv 3) pe_int (fun _ _ => rfl)) pe_int) (nomark _)))))
        (pss_one (ps_raiseE e_InvalidReadingError rfl (takes_of rfl rfl rfl rfl) (by rfl)))
        pss_nil)
      (pss_cons (ps_set (i := 4) sc_rank_shortest.nd rfl (Or.inr rfl) (pe_has g_count_ways (room.mono (by decide)) qt (by rfl) pass0 (pa_cons (pv 0) (pa_cons (pv 1) (pa_cons (pv 3) pa_nil)))))
      (pss_cons (ps_set (i := 5) sc_rank_shortest.nd rfl (Or.inl rfl) pe_int)
      (pss_cons (ps_for (passes_of rfl) rfl (RZ.pi_zipA (by rfl) T.zip (pa_cons (pv 2) (pa_cons (pe_slice sl_list (pv 2) (po_some pe_int) po_none) pa_nil))) (pg_tup rfl (pgs_cons (pg_name (i := 6) sc_rank_shortest.nd rfl (Or.inl rfl) (hf := Or.inl rfl)) (pgs_cons (pg_name (i := 7) sc_rank_shortest.nd rfl (Or.inr rfl) (hf := Or.inl rfl)) pgs_nil)))
        (pss_cons (ps_set (i := 8) sc_rank_shortest.nd rfl (Or.inl rfl) (pe_has g_followers (room.mono (by decide)) qt (by rfl) pass0 (pa_cons (pv 0) (pa_cons (pv 1) (pa_cons (pv 3) (pa_cons (pv 6) pa_nil))))))
        (pss_one (ps_aug (i := 5) sc_rank_shortest.nd rfl (Or.inl rfl) (pe_callB (cr_sum rfl) (by rfl) T.sum (by decide +kernel) (pa_cons (pe_lc (own := [("after", 9)]) (by rfl) sc_rank_shortest.nd (pi_list (pv 8)) (blkOk_by (own := [("after", 9)]) (N := N_rank_shortest) (sc := defScope s_rank_shortest) (by decide +kernel)) (fun _ _ _ _ _ => (pg_name (i := 9) sc_rank_shortest.nd rfl (Or.inl rfl) (hf := Or.inr rfl))) (fun _ _ _ _ _ => (pts_one (pt_cmpR op_lt (pv 9) (pv 7) (nomark _)))) (fun _ _ _ _ _ => (pe_ix (show IxR _ (rIxL K) from by exact ix_list) (pv 4) (pv 9) (fun _ _ => rfl)))) pa_nil)) ip_add))))
      (pss_one (ps_ret (pv 5))))))))), ?_⟩
  refine ⟨_, rfl, _, rfl, a, ns, hh, rfl, ha, ho, h0, h1, ft, ?_⟩
  refine ⟨_, rfl, _, rfl, a, ns, hh, rfl, SqL.of ha, ho, h0, h1, ft, fun l H2 hl s2 h2 => ?_⟩
  refine ⟨_, rfl, _, rfl, _, rfl, a, ns, hh, x, d, as, rfl, s2 _ _ ha, ho, h0, h1, hd.same s2, fun H3 s3 => ?_⟩
  have s03 := s2.trans s3
  refine ⟨_, rfl, ?_⟩
  by_cases r : readD ns hh d = true
  · rw [r]
    obtain ⟨X, rfl, a1, cv⟩ := read_list r
    cases hd with
    | @lst b xs _ bs hb hx =>
    have exs : xs = iv X := dx_iv hx
    subst exs
    have h3b := s03 _ _ hb
    have h3l := s3 _ _ h2
    have eX : (iv X).length = X.length := List.length_map _
    refine iteF ?_
    refine ⟨_, rfl, b, _, rfl, .inl (SqL.of h3b), _, rfl, l, _, 0, _, rfl, rfl, SqL.of h3l, atI_iv (by decide) (by unfold leftL; rw [scL_len]; omega), _, _, rfl, rfl, ?_⟩
    rw [show (leftL ns hh).getD (0 : Int).toNat 0 = ((leftF ns hh 0 : Nat) : Int) from scL_getD (by omega), eX]
    refine ⟨rfl, _, rfl, ?_⟩
    by_cases c : X.length = leftF ns hh 0 + 1
    · obtain ⟨L, rfl, pth⟩ := short_path ho ft h0 a1 cv c
      have pl := path_len pth
      have eL : (iv (nv (0 :: L))).length = L.length + 1 := by rw [List.length_map, List.length_map]; rfl
      refine iteFb (by simp; omega) ?_
      refine ⟨_, rfl, _, rfl, _, rfl, a, l, ns, hh, rfl, SqL.of (s03 _ _ ha), h3l, ho, h0, h1, ft, fun w H4 hw s4 h4 => ?_⟩
      have s04 := s03.trans s4
      have h4b := s04 _ _ hb
      have h4l := s4 _ _ h3l
      refine ⟨_, rfl, _, rfl, _, rfl, b, _, rfl, SqL.of h4b, fun u hu => ?_⟩
      have h5u : (upd H4 u (.lst (cutV (iv (nv (0 :: L))) (some 1) none))) u = some (.lst (iv (nv L))) := by
        rw [upd_same, cutV_iv, cutI_from _ (by decide)]
        rfl
      have s05 := s04.trans (Same.new (o := .lst (cutV (iv (nv (0 :: L))) (some 1) none)) hu)
      have h5l := Same.new (o := .lst (cutV (iv (nv (0 :: L))) (some 1) none)) hu _ _ h4l
      have h5w := Same.new (o := .lst (cutV (iv (nv (0 :: L))) (some 1) none)) hu _ _ h4
      generalize upd H4 u (.lst (cutV (iv (nv (0 :: L))) (some 1) none)) = H5 at h5u s05 h5l h5w ⊢
      have h5b := s05 _ _ hb
      refine ⟨b, u, _, _, rfl, .inl ⟨SqL.of h5b, SqL.of h5u, for_zipM (K := K) (a := b) (b := u) (xs := iv (nv (0 :: L))) (ys := iv (nv L)) (by rw [eL, List.length_map, List.length_map]; omega)
        (fun i σ H6 => (∃ (sm : Int) (v6 v7 v8 : Option V), σ = [some (.ref a), some (.int hh), some (.ref b), some (.ref l), some (.ref w), some (.int sm), v6, v7, v8, none] ∧ sm + rankL ns hh ((0 :: L).getD i 0) (L.drop i) = rankL ns hh 0 L) ∧ Same H5 H6)
        ⟨⟨0, none, none, none, rfl, by rw [Int.zero_add]; rfl⟩, Same.refl _⟩ (fun i σ H6 e => ⟨SqL.of (e.2 _ _ h5b), SqL.of (e.2 _ _ h5u)⟩) ?_ ?_⟩⟩
      · rintro i x y Tt σ H6 hx hy ⟨⟨sm, v6, v7, v8, rfl, er⟩, s6⟩ hT
        have il : i < L.length := by have := (List.getElem?_eq_some_iff.mp hy).1; rwa [List.length_map, List.length_map] at this
        rw [iv_at (by rw [List.length_map]; show i < L.length + 1; omega), nv_getD] at hx
        rw [iv_at (by rw [List.length_map]; exact il), nv_getD] at hy
        cases hx
        cases hy
        have rs := rank_step (ns := ns) (h := hh) L 0 i il
        rw [rs] at er
        have zl := path_at hk ft h0 pth lb.1 i
        generalize (0 :: L).getD i 0 = z at zl er ⊢
        have s7 := s6.trans (Same.new (o := .tup [.int (z : Nat), .int ((L.getD i 0 : Nat) : Int)]) hT)
        refine ⟨Tt, _, rfl, SqT.of upd_same, rfl, _, _, rfl, _, _, rfl, rfl, ?_⟩
        generalize upd H6 Tt (.tup [.int (z : Nat), .int ((L.getD i 0 : Nat) : Int)]) = H7 at s7 ⊢
        refine ⟨_, rfl, _, rfl, _, rfl, _, rfl, a, l, ns, hh, z, rfl, SqL.of (s7 _ _ (s05 _ _ ha)), s7 _ _ h5l, ho, h0, h1, ft, zl, fun c8 H8 hc8 s8 h8 => ?_⟩
        have h8w := s8 _ _ (s7 _ _ h5w)
        have flen := fol_len hk ft h0 z
        generalize L.getD i 0 = ch at *
        refine ⟨_, rfl, _, rfl, c8, rfl, ⟨_, SqL.of h8⟩, fun D hD => lcLn (K := K) (a := c8) (xs := iv (nv (folL ns hh z))) (fun j => decide ((nv (folL ns hh z)).getD j 0 < (ch : Nat))) (fun j => V.int (waysF ns hh ((nv (folL ns hh z)).getD j 0).toNat)) (SqL.of h8) hD (by rw [List.length_map, List.length_map]; omega) (fun x => rfl) ?_ ?_ ?_⟩
        · intro j x H9 Q' hx s9 qq
          have jl : j < (nv (folL ns hh z)).length := by have := (List.getElem?_eq_some_iff.mp hx).1; rwa [List.length_map] at this
          rw [iv_at jl] at hx
          cases hx
          exact ⟨_, rfl, _, rfl, _, _, rfl, rfl, _, rfl, qq H9 (Same.refl _)⟩
        · intro j x H9 Q' hx _ s9 qq
          have jl : j < (nv (folL ns hh z)).length := by have := (List.getElem?_eq_some_iff.mp hx).1; rwa [List.length_map] at this
          rw [iv_at jl] at hx
          cases hx
          rw [List.length_map] at jl
          rw [nv_getD] at qq ⊢
          have mem := getD_mem jl
          have m3 := fol_last hk ft h0 mem
          generalize (folL ns hh z).getD j 0 = x at *
          refine ⟨_, rfl, _, rfl, w, _, _, _, rfl, rfl, SqL.of (s9 _ _ h8w), atI_iv (by omega) (by unfold waysL; rw [scL_len]; omega), ?_⟩
          rw [Int.toNat_natCast] at qq ⊢
          rw [show (waysL ns hh).getD x 0 = waysF ns hh x from scL_getD m3]
          exact qq H9 (Same.refl _)
        · intro H9 s9 h9
          rw [List.length_map, gives_keep (nv (folL ns hh z)) (fun v => decide (v < (ch : Nat))) (fun v => waysF ns hh v.toNat)] at h9
          refine ⟨D, _, rfl, SqL.of h9, _, _, rfl, rfl, ⟨_, _, _, _, rfl, ?_⟩, (s7.trans s8).trans s9⟩
          rw [← er]
          have e1 : ((nv (folL ns hh z)).filter (fun (v : Int) => decide (v < ((ch : Nat) : Int)))).map (fun (v : Int) => waysF ns hh v.toNat) = ((folL ns hh z).filter (fun x => decide (x < ch))).map (waysF ns hh) := by
            unfold nv
            rw [List.filter_map, List.map_map]
            have : ((fun v : Int => decide (v < (ch : Nat))) ∘ fun (i : Nat) => (i : Int)) = fun x => decide (x < ch) := by
              funext x
              show decide ((x : Int) < (ch : Nat)) = decide (x < ch)
              by_cases q : x < ch
              · rw [decide_eq_true q, decide_eq_true (by omega)]
              · rw [decide_eq_false q, decide_eq_false (by omega)]
            rw [this]
            refine List.map_congr_left fun x _ => ?_
            show waysF ns hh ((x : Nat) : Int).toNat = _
            rw [Int.toNat_natCast]
          rw [e1]
          show sm + _ + _ = _
          omega
      · rintro σ H6 ⟨⟨sm, v6, v7, v8, rfl, er⟩, s6⟩
        rw [List.length_map, List.length_map, List.drop_length] at er
        have er' : sm + 0 = rankL ns hh 0 L := er
        rw [Int.add_zero] at er'
        subst er'
        exact ⟨_, rfl, k L rfl pth _ (s05.trans s6)⟩
    · refine iteT' (by simp; omega) (ke ?_ H3 s03)
      rintro ⟨L, e, pth⟩
      have e2 : X = nv (0 :: L) := by rw [← intsD_dI X, e, intsD_dI]
      refine c ?_
      rw [e2, List.length_map, List.length_cons, path_len pth]
  · have r' : readD ns hh d = false := by cases q : readD ns hh d with
      | true => exact (r q).elim
      | false => rfl
    rw [r']
    refine iteT (ke ?_ H3 s03)
    rintro ⟨L, rfl, pth⟩
    exact r (path_read ho ft h0 pth)
end
end SH

namespace SH
open PySem PySem.Spec PyProof.Rows L2
theorem fol_asc (ns : List Int) (h : Int) (s : Nat) : (folL ns h s).Pairwise (· < ·) := by
  unfold folL
  split
  · refine List.Pairwise.filter _ ?_
    rw [List.pairwise_map]
    exact List.pairwise_lt_range.imp fun {a b} q => by omega
  · exact List.Pairwise.nil
theorem pick_at {w : Nat → Int} {b : Nat} {i : Int} (h0 : 0 ≤ i) (h1 : i < w b) (post : List Nat) : ∀ {pre : List Nat}, (∀ a ∈ pre, 0 < w a) → pick w (pre ++ b :: post) ((pre.map w).sum + i) = (b, i)
  | [], _ => by
    rw [List.map_nil, List.sum_nil, Int.zero_add, List.nil_append]
    unfold pick
    rw [if_pos h1]
  | a :: r, h => by
    have ih := pick_at h0 h1 post (pre := r) fun x hx => h x (List.mem_cons_of_mem _ hx)
    have nn : 0 ≤ (r.map w).sum := sum_nn fun v hv => by
      obtain ⟨x, hx, rfl⟩ := List.mem_map.mp hv
      have := h x (List.mem_cons_of_mem _ hx)
      omega
    rw [List.map_cons, List.sum_cons, List.cons_append]
    unfold pick
    rw [if_neg (by omega), show w a + (r.map w).sum + i - w a = (r.map w).sum + i by omega]
    exact ih
theorem pick_spec {w : Nat → Int} : ∀ {l : List Nat} {i : Int}, 0 ≤ i → i < (l.map w).sum → ∃ pre post, l = pre ++ (pick w l i).1 :: post ∧ i = (pre.map w).sum + (pick w l i).2
  | [], i, h0, h1 => by rw [List.map_nil, List.sum_nil] at h1; omega
  | a :: r, i, h0, h1 => by
    rw [List.map_cons, List.sum_cons] at h1
    unfold pick
    by_cases c : i < w a
    · rw [if_pos c]; exact ⟨[], r, rfl, by rw [List.map_nil, List.sum_nil]; omega⟩
    · rw [if_neg c]
      obtain ⟨pre, post, e1, e2⟩ := pick_spec (w := w) (l := r) (i := i - w a) (by omega) (by omega)
      refine ⟨a :: pre, post, ?_, ?_⟩
      · rw [List.cons_append, ← e1]
      · rw [List.map_cons, List.sum_cons]; omega
theorem fol_split {ns : List Int} {h : Int} {s b : Nat} {pre post : List Nat} (e : folL ns h s = pre ++ b :: post) : (folL ns h s).filter (fun x => decide (x < b)) = pre := by
  have asc := fol_asc ns h s
  rw [e] at asc ⊢
  obtain ⟨_, p2, p3⟩ := List.pairwise_append.mp asc
  obtain ⟨q1, _⟩ := List.pairwise_cons.mp p2
  rw [List.filter_append, List.filter_cons, if_neg (by simp)]
  have z : post.filter (fun x => decide (x < b)) = [] := by
    rw [List.filter_eq_nil_iff]
    intro x hx
    have := q1 x hx
    rw [decide_eq_true_eq]
    omega
  rw [z, List.append_nil]
  exact List.filter_eq_self.mpr fun x hx => decide_eq_true (p3 x hx b List.mem_cons_self)
theorem rank_nth {ns : List Int} {h : Int} : ∀ {k s : Nat} {i : Int}, leftF ns h s = k → 0 ≤ i → i < waysF ns h s → rankL ns h s (nthL ns h k s i) = i
  | 0, s, i, e, h0, h1 => by
    rw [ways_end (left_zero e)] at h1
    show (0 : Int) = i
    omega
  | k + 1, s, i, e, h0, h1 => by
    have c := left_pos e
    rw [ways_go c] at h1
    obtain ⟨m, p0, p1⟩ := pick_ok h0 h1
    obtain ⟨pre, post, e1, e2⟩ := pick_spec h0 h1
    have fl := fol_left m
    have ih := rank_nth (ns := ns) (h := h) (k := k) (s := (pick (waysF ns h) (folL ns h s) i).1) (i := (pick (waysF ns h) (folL ns h s) i).2) (by omega) p0 p1
    show (((folL ns h s).filter (fun x => decide (x < (pick (waysF ns h) (folL ns h s) i).1))).map (waysF ns h)).sum + rankL ns h (pick (waysF ns h) (folL ns h s) i).1 (nthL ns h k (pick (waysF ns h) (folL ns h s) i).1 (pick (waysF ns h) (folL ns h s) i).2) = i
    rw [ih, fol_split e1]
    exact e2.symm
theorem nth_rank {ns : List Int} {h : Int} : ∀ {L : List Nat} {s : Nat}, Path ns h s L → 0 ≤ rankL ns h s L ∧ rankL ns h s L < waysF ns h s ∧ nthL ns h (leftF ns h s) s (rankL ns h s L) = L
  | [], s, p => by
    have p' : leftF ns h s = 0 := p
    rw [ways_end (left_zero p'), p']
    exact ⟨Int.le_refl _, Int.zero_lt_one, rfl⟩
  | b :: r, s, p => by
    obtain ⟨m, p2⟩ := p
    obtain ⟨i0, i1, i2⟩ := nth_rank p2
    obtain ⟨pre, post, e⟩ := List.append_of_mem m
    have c := (fol_mem.mp m).1
    have fl := fol_left m
    have er : rankL ns h s (b :: r) = (pre.map (waysF ns h)).sum + rankL ns h b r := by
      show (((folL ns h s).filter (fun x => decide (x < b))).map (waysF ns h)).sum + _ = _
      rw [fol_split e]
    have nn : ∀ l : List Nat, 0 ≤ (l.map (waysF ns h)).sum := fun l => sum_nn fun v hv => by
      obtain ⟨x, hx, rfl⟩ := List.mem_map.mp hv
      have := ways_gt ns h x
      omega
    have pk := pick_at (w := waysF ns h) (b := b) (i := rankL ns h b r) i0 i1 post (pre := pre) fun a _ => ways_gt ns h a
    rw [← e, ← er] at pk
    have ws : waysF ns h s = (pre.map (waysF ns h)).sum + (waysF ns h b + (post.map (waysF ns h)).sum) := by
      rw [ways_go c, e, List.map_append, List.sum_append, List.map_cons, List.sum_cons]
    refine ⟨?_, ?_, ?_⟩
    · have := nn pre; omega
    · have := nn post; omega
    · rw [fl]
      show (pick (waysF ns h) (folL ns h s) (rankL ns h s (b :: r))).1 :: nthL ns h (leftF ns h b) (pick (waysF ns h) (folL ns h s) (rankL ns h s (b :: r))).1 (pick (waysF ns h) (folL ns h s) (rankL ns h s (b :: r))).2 = b :: r
      rw [pk]
      show b :: nthL ns h (leftF ns h b) b (rankL ns h b r) = _
      rw [i2]
abbrev s_law_is_ranked : Stmt := topS 41
abbrev N_law_is_ranked : List Str := ["made", "tall", "thing", "ranked"]
abbrev P_law_is_ranked : List Str := ["made", "tall", "thing"]
theorem sc_law_is_ranked : FnScope N_law_is_ranked P_law_is_ranked (defScope s_law_is_ranked) := ⟨rfl, rfl, rfl, by decide +kernel, rfl, by decide +kernel, by decide +kernel⟩
section
variable {P : Program} {w : World} {K : PySem.W.Frag} {mg : Str → Option Value} {base : Heap}
def IsShort (ns : List Int) (h : Int) (d : PyData) : Prop := ∃ L, d = dI (nv (0 :: L)) ∧ Path ns h 0 L
def sp_ranked : Sp := fun vs H Q _ => ∃ (a : Addr) (ns : List Int) (h : Int) (x : V) (d : PyData) (as : List Addr), vs = [.ref a, .int h, x] ∧ H a = some (.lst (iv ns)) ∧ isO ns = true ∧ 1 ≤ h ∧ h ≤ 400 ∧ Fit ns h 0 ∧ Dx H x d as ∧
  (IsShort ns h d → RetV Q H (.bl true)) ∧ (¬ IsShort ns h d → RetV Q H (.bl false))
theorem ok_law_is_ranked {C_InvalidReadingError : Addr} (T : Txt mg) (e_InvalidReadingError : Err K mg "InvalidReadingError" C_InvalidReadingError) (x_InvalidReadingError_InvalidReadingError : Catch K C_InvalidReadingError C_InvalidReadingError true) (h : At K mg "_law_is_ranked" s_law_is_ranked)
    (g_rank_shortest : Has P w K mg base (L2.CX P w) 6 "rank_shortest" s_rank_shortest P_rank_shortest (sp_rankX C_InvalidReadingError)) :
    Has P w K mg base CX0 7 "_law_is_ranked" s_law_is_ranked P_law_is_ranked sp_ranked := by
  refine Has.of h sc_law_is_ranked (fun vs H Q E h => ?_) (fun _ _ _ _ _ _ us hl => match us, hl with | [_, _, _], _ => rfl) (fun f cdv A outer s H vs Q E room qt h => ?_)
  · obtain ⟨a, n, z, x, d, as, rfl, _⟩ := h; rfl
  obtain ⟨a, ns, hh, x, d, as, rfl, ha, ho, h0, h1, ft, hd, k1, k2⟩ := h
  refine ⟨_, (pss_cons (ps_set (i := 3) sc_law_is_ranked.nd rfl (Or.inl rfl) pe_bl)
      (pss_cons (ps_try_only rfl rfl ⟨by rfl, by decide, Or.inl e_InvalidReadingError.g⟩ takes0 (fun W pn xe tk po =>
        (pss_one (ps_set (i := 3) sc_law_is_ranked.nd rfl (Or.inl rfl) (pe_cmpR op_ge (pe_hasS g_rank_shortest (room.mono (by decide)) qt (by rfl) (fun σ => passAt tk σ) (pa_cons (pv 0) (pa_cons (pv 1) (pa_cons (pv 2) pa_nil)))) pe_int (nomark _))))) (fun a oe cls d pn hz hf =>
        (pss_one (ps_set (i := 3) sc_law_is_ranked.nd rfl (Or.inl rfl) pe_bl))))
      (pss_one (ps_ret (pv 3))))), ?_⟩
  refine ⟨_, rfl, _, rfl, _, rfl, a, ns, hh, x, d, as, rfl, ha, ho, h0, h1, ft, hd, fun L e pth H2 s2 => ?_, fun nx H2 s2 => ?_⟩
  · have r0 := (nth_rank pth).1
    refine ⟨_, _, rfl, rfl, _, rfl, ?_⟩
    show Q (.bl (decide (0 ≤ rankL ns hh 0 L))) H2
    rw [decide_eq_true r0]
    exact k1 ⟨L, e, pth⟩ H2 s2
  · refine ⟨true, x_InvalidReadingError_InvalidReadingError.is, fun _ a0 na => ?_, fun q => Bool.noConfusion q⟩
    exact ⟨_, rfl, k2 nx H2 s2⟩
end
end SH

namespace SH
open PySem PySem.Spec PyProof.Rows L2
theorem ite_cut {b : Prop} [Decidable b] {A : Prop} {NX : L2.St → Hp → Prop} {σ : L2.St} {H : Hp} (Inv : L2.St → Hp → Prop)
    (main : ∀ σ' H', Inv σ' H' → NX σ' H') (hA : b → (∀ σ' H', Inv σ' H' → NX σ' H') → A) (hB : ¬b → Inv σ H) : if b then A else NX σ H := by
  by_cases h : b
  · rw [if_pos h]; exact hA h main
  · rw [if_neg h]; exact main _ _ (hB h)
abbrev s_law_open_source : Stmt := topS 31
abbrev N_law_open_source : List Str := ["script", "k", "cell"]
abbrev P_law_open_source : List Str := ["script", "k"]
theorem sc_law_open_source : FnScope N_law_open_source P_law_open_source (defScope s_law_open_source) := ⟨rfl, rfl, rfl, by decide +kernel, rfl, by decide +kernel, by decide +kernel⟩
abbrev s_law_draw : Stmt := topS 32
abbrev N_law_draw : List Str := ["source", "limit", "digit", "mixed"]
abbrev P_law_draw : List Str := ["source", "limit"]
theorem sc_law_draw : FnScope N_law_draw P_law_draw (defScope s_law_draw) := ⟨rfl, rfl, rfl, by decide +kernel, rfl, by decide +kernel, by decide +kernel⟩
abbrev s_law_made : Stmt := topS 33
abbrev N_law_made : List Str := ["source", "script", "most", "deepest", "size", "style", "made", "top", "some"]
abbrev P_law_made : List Str := ["source", "script", "most", "deepest"]
theorem sc_law_made : FnScope N_law_made P_law_made (defScope s_law_made) := ⟨rfl, rfl, rfl, by decide +kernel, rfl, by decide +kernel, by decide +kernel⟩
abbrev s_law_height : Stmt := topS 34
abbrev N_law_height : List Str := ["source", "made", "least", "more"]
abbrev P_law_height : List Str := ["source", "made"]
theorem sc_law_height : FnScope N_law_height P_law_height (defScope s_law_height) := ⟨rfl, rfl, rfl, by decide +kernel, rfl, by decide +kernel, by decide +kernel⟩
/-- the bag stands at a: [digits, state, number of draws], at most n draws so far -/
def SrcV (n : Int) (H : Hp) (a : Addr) : Prop := ∃ x y z : Int, H a = some (.lst [.int x, .int y, .int z]) ∧ 0 ≤ y ∧ y < 2 ^ 400 ∧ 0 ≤ z ∧ z ≤ n
/-- what stays whatever the pool does -/
def Still (a : Addr) (H : Hp) (p : Hp → Prop) : Prop := ∀ H', SameBut a H H' → p H'
theorem SrcV.mono {n m : Int} {H : Hp} {a : Addr} (s : SrcV n H a) (h : n ≤ m) : SrcV m H a := by
  obtain ⟨x, y, z, e, y0, y1, z0, z1⟩ := s
  exact ⟨x, y, z, e, y0, y1, z0, by omega⟩
theorem SrcV.new {n : Int} {H : Hp} {a p : Addr} {o : HO} (s : SrcV n H a) (h : H p = none) : SrcV n (upd H p o) a := by
  obtain ⟨x, y, z, e, r⟩ := s
  exact ⟨x, y, z, by rw [upd_ne (ne_of_none e h)]; exact e, r⟩
theorem SrcV.upd {n : Int} {H : Hp} {a p : Addr} {o : HO} (s : SrcV n H a) (h : a ≠ p) : SrcV n (upd H p o) a := by
  obtain ⟨x, y, z, e, r⟩ := s
  exact ⟨x, y, z, by rw [upd_ne h]; exact e, r⟩
theorem SrcV.same {n : Int} {H H' : Hp} {a : Addr} (s : SrcV n H a) (h : Same H H') : SrcV n H' a := by
  obtain ⟨x, y, z, e, r⟩ := s
  exact ⟨x, y, z, h _ _ e, r⟩
theorem SrcV.ne {n : Int} {H : Hp} {a p : Addr} (s : SrcV n H a) (h : H p = none) : a ≠ p := by
  obtain ⟨x, y, z, e, r⟩ := s
  exact ne_of_none e h
theorem SrcV.but {n : Int} {g d : Addr} {H H' : Hp} (s : SrcV n H g) (b : SameBut d H H') (h : g ≠ d) : SrcV n H' g := by
  obtain ⟨x, y, z, e, r⟩ := s
  exact ⟨x, y, z, b _ _ e h, r⟩
theorem SameBut.own {a p : Addr} {H H' : Hp} {o : HO} (s : SameBut a H H') (h : H p = none) : SameBut a H (L2.upd H' p o) :=
  fun b u e n => by rw [upd_ne (ne_of_none e h)]; exact s b u e n
theorem SameBut.free {a p : Addr} {H H' : Hp} (s : SameBut a H H') (n : p ≠ a) (h : H' p = none) : H p = none := by
  cases e : H p with
  | none => rfl
  | some o => rw [s p o e n] at h; cases h
section
variable {P : Program} {w : World} {K : PySem.W.Frag} {mg : Str → Option Value} {base : Heap}
theorem pwR18 : (10 : Int) ^ (18 : Int).toNat = 1000000000000000000 := by decide
theorem pwR60 : (10 : Int) ^ (60 : Int).toNat = 1000000000000000000000000000000000000000000000000000000000000 := by decide
def sp_law_open_source (K : PySem.W.Frag) : Sp := fun vs H Q _ => ∃ (a : Addr) (i : Int) (ns : List Int), vs = [.ref a, .int i] ∧ SqL K H a (iv ns) ∧ 0 ≤ i ∧ ∀ p H', H p = none → Same H H' → SrcV 0 H' p → Q (.ref p) H'
theorem ok_law_open_source (T : Txt mg) (h : At K mg "_law_open_source" s_law_open_source) :
    Has P w K mg base CX0 1 "_law_open_source" s_law_open_source P_law_open_source (sp_law_open_source K) := by
  refine Has.of h sc_law_open_source (fun vs H Q E h => ?_) (fun _ _ _ _ _ _ us hl => match us, hl with | [_, _], _ => rfl) (fun f cdv A outer s H vs Q E room qt h => ?_)
  · obtain ⟨v, a, i, rfl, _⟩ := h; rfl
  obtain ⟨a, i, ns, rfl, ha, i0, k⟩ := h
  refine ⟨_, (pss_cons (ps_set (i := 2) sc_law_open_source.nd rfl (Or.inl rfl) pe_int)
      (pss_cons (ps_if (pt_cmpR op_lt (pv 1) (pe_callB call_len_seq (by rfl) T.len (by decide +kernel) (pa_cons (pv 0) pa_nil)) (nomark _))
        (pss_one (ps_set (i := 2) sc_law_open_source.nd rfl (Or.inl rfl) (pe_ix ix_list (pv 0) (pv 1) (fun _ _ => rfl))))
        pss_nil)
      (pss_one (ps_ret (pe_lst (pa_cons (pe_callB (call_max2 rfl) (by rfl) T.max (by decide +kernel) (pa_cons pe_int (pa_cons (pe_op op_sub (pv 2) (pe_op op_powG pe_int pe_int)) pa_nil))) (pa_cons (pe_op op_add (pe_op op_mul (pe_op op_mod (pv 2) (pe_op op_add (pe_op op_powG pe_int pe_int) pe_int)) pe_int) (pe_op op_mod (pv 1) pe_int)) (pa_cons pe_int pa_nil)))))))), ?_⟩
  refine ⟨_, rfl, _, rfl, a, _, rfl, .inl ha, _, _, rfl, rfl, _, rfl, ite_cut (fun σ H2 => ∃ c : Int, σ = [some (.ref a), some (.int i), some (.int c)] ∧ H2 = H) ?_ ?_ ?_⟩
  · rintro σ H2 ⟨c, rfl, rfl⟩
    refine ⟨_, rfl, _, _, rfl, rfl, ten_ok (by decide) (by decide), _, _, rfl, rfl, _, _, rfl, ?_⟩
    refine ⟨_, rfl, _, _, rfl, rfl, ten_ok (by decide) (by decide), _, _, rfl, rfl, _, _, rfl, rfl, ?_, ?_⟩
    · show (0 : Int) < _
      rw [pwR60]; decide
    refine ⟨_, _, rfl, rfl, .inr ⟨by decide, by decide⟩, _, rfl, _, _, rfl, rfl, (by show (0 : Int) < _; decide), _, _, rfl, rfl, ?_⟩
    refine ⟨(by decide : 3 ≤ sizeLine), fun p hp => k p _ hp (Same.new hp) ⟨_, _, _, upd_same, ?_, ?_, by decide, by decide⟩⟩
    · rw [pwR60]; omega
    · rw [pwR60]; omega
  · intro c hN
    have c1 := of_decide_eq_true c
    rw [List.length_map] at c1
    exact ⟨_, rfl, _, rfl, a, iv ns, i, _, rfl, rfl, ha, atI_iv i0 c1, hN _ _ ⟨_, rfl, rfl⟩⟩
  · intro _
    exact ⟨_, rfl, rfl⟩
theorem mixR_lt {z : Int} (z0 : 0 ≤ z) (z1 : z ≤ 1000000000) : 0 ≤ 40503 * (z + 1) * (z + 1) ∧ 40503 * (z + 1) * (z + 1) ≤ 40503000040503 * 1000000001 :=
  ⟨Int.mul_nonneg (by omega) (by omega), Int.mul_le_mul (by omega) (by omega) (by omega) (by decide)⟩
def mixR1 (y z : Int) : Int := (y + 40503 * (z + 1) * (z + 1) + 11) ^ (3 : Int).toNat % 2305843009213693951
theorem mixR1_lt (y z : Int) : 0 ≤ mixR1 y z ∧ mixR1 y z < 2305843009213693951 := by unfold mixR1; omega
def sp_law_draw : Sp := fun vs H Q _ => ∃ (a : Addr) (n m : Int), vs = [.ref a, .int n] ∧ SrcV m H a ∧ m ≤ 1000000000 ∧ 0 < n ∧ n < 2 ^ 200 ∧
  ∀ r H', 0 ≤ r → r < n → SameBut a H H' → SrcV (m + 1) H' a → Q (.int r) H'
theorem ok_law_draw (T : Txt mg) (h : At K mg "_law_draw" s_law_draw) :
    Has P w K mg base CX0 1 "_law_draw" s_law_draw P_law_draw sp_law_draw := by
  refine Has.of h sc_law_draw (fun vs H Q E h => ?_) (fun _ _ _ _ _ _ us hl => match us, hl with | [_, _], _ => rfl) (fun f cdv A outer s H vs Q E room qt h => ?_)
  · obtain ⟨v, a, m, rfl, _⟩ := h; rfl
  obtain ⟨a, n, m, rfl, ⟨x, y, z, ha, y0, y1, z0, z1⟩, m1, n0, n1, k⟩ := h
  refine ⟨_, (pss_cons (ps_if (pt_cmpR op_gt (pe_ix ix_list (pv 0) pe_int (fun _ _ => rfl)) pe_int (nomark _))
        (pss_cons (ps_set (i := 2) sc_law_draw.nd rfl (Or.inl rfl) (pe_op op_mod (pe_ix ix_list (pv 0) pe_int (fun _ _ => rfl)) (pv 1)))
        (pss_cons (ps_asg (pe_op op_fdivW (pe_ix ix_list (pv 0) pe_int (fun _ _ => rfl)) (pv 1)) (pg_sub (pv 0) pe_int set_list))
        (pss_one (ps_ret (pv 2)))))
        pss_nil)
      (pss_cons (ps_asg (pe_op op_add (pe_ix ix_list (pv 0) pe_int (fun _ _ => rfl)) pe_int) (pg_sub (pv 0) pe_int set_list))
      (pss_cons (ps_set (i := 3) sc_law_draw.nd rfl (Or.inl rfl) (pe_op op_mod (pe_op op_powG (pe_op op_add (pe_op op_add (pe_ix ix_list (pv 0) pe_int (fun _ _ => rfl)) (pe_op op_mul (pe_op op_mul pe_int (pe_ix ix_list (pv 0) pe_int (fun _ _ => rfl))) (pe_ix ix_list (pv 0) pe_int (fun _ _ => rfl)))) pe_int) pe_int) pe_int))
      (pss_cons (ps_set (i := 3) sc_law_draw.nd rfl (Or.inl rfl) (pe_op op_mod (pe_op op_powG (pe_op op_add (pv 3) (pe_op op_mul pe_int (pe_ix ix_list (pv 0) pe_int (fun _ _ => rfl)))) pe_int) pe_int))
      (pss_one (ps_ret (pe_op op_mod (pe_op op_fdivW (pv 3) pe_int) (pv 1)))))))), ?_⟩
  refine ⟨_, rfl, a, _, 0, _, rfl, rfl, SqL.of ha, rfl, _, _, rfl, rfl, _, rfl, ite2 (fun c => ?_) (fun c => ?_)⟩
  · refine ⟨_, rfl, a, _, 0, _, rfl, rfl, SqL.of ha, rfl, _, rfl, _, _, rfl, rfl, n0, ?_⟩
    refine ⟨_, rfl, a, _, 0, _, rfl, rfl, SqL.of ha, rfl, _, rfl, _, _, rfl, rfl, wide_div n0 (b := 200) (by omega) (by decide) (by decide), _, rfl, a, _, 0, 0, rfl, rfl, ha, rfl, ?_⟩
    exact ⟨_, rfl, k _ _ (Int.emod_nonneg _ (by omega)) (Int.emod_lt_of_pos _ n0) (SameBut.upd .refl) ⟨_, _, _, upd_same, y0, y1, z0, by omega⟩⟩
  · refine ⟨_, rfl, a, _, 2, _, rfl, rfl, SqL.of ha, rfl, _, _, rfl, rfl, _, rfl, a, _, 2, 2, rfl, rfl, ha, rfl, ?_⟩
    have h2 : (upd H a (.lst [.int x, .int y, .int (z + 1)])) a = some (.lst [.int x, .int y, .int (z + 1)]) := upd_same
    refine ⟨_, rfl, a, _, 1, _, rfl, rfl, SqL.of h2, rfl, _, rfl, a, _, 2, _, rfl, rfl, SqL.of h2, rfl, _, _, rfl, rfl, .inl ⟨by decide, by decide⟩, _, rfl, a, _, 2, _, rfl, rfl, SqL.of h2, rfl, _, _, rfl, rfl, .inr ⟨by omega, by omega⟩, _, _, rfl, rfl, _, _, rfl, rfl, ?_⟩
    have t0 := mixR_lt (z := z) z0 (by omega)
    refine ⟨_, _, rfl, rfl, cube_ok (i := y + 40503 * (z + 1) * (z + 1) + 11) (by omega), _, _, rfl, rfl, (by show (0 : Int) < _; decide), ?_⟩
    have t1 := mixR1_lt y z
    refine ⟨_, rfl, _, rfl, a, _, 2, _, rfl, rfl, SqL.of h2, rfl, _, _, rfl, rfl, .inl ⟨by decide, by decide⟩, _, _, rfl, rfl, ?_⟩
    refine ⟨_, _, rfl, rfl, cube_ok (i := mixR1 y z + 69621 * (z + 1)) (by omega), _, _, rfl, rfl, (by show (0 : Int) < _; decide), ?_⟩
    refine ⟨_, rfl, _, _, rfl, rfl, wide_div (by decide) (b := 200) (by decide) (by decide) (by decide), _, rfl, _, _, rfl, rfl, n0, ?_⟩
    exact k _ _ (Int.emod_nonneg _ (by omega)) (Int.emod_lt_of_pos _ n0) (SameBut.upd .refl) ⟨_, _, _, h2, y0, y1, by omega, by omega⟩
/-- an outline of at most `most` lines comes back -/
def sp_law_made (K : PySem.W.Frag) : Sp := fun vs H Q _ => ∃ (a sc : Addr) (cs : List Int) (m dp n : Int), vs = [.ref a, .ref sc, .int m, .int dp] ∧ SrcV n H a ∧ n ≤ 900000000 ∧ SqL K H sc (iv cs) ∧ (∀ H', SameBut a H H' → SqL K H' sc (iv cs)) ∧ 1 ≤ m ∧ m ≤ 200 ∧ 0 ≤ dp ∧
  ∀ (ns : List Int) (p : Addr) (H' : Hp), isO ns = true → (ns.length : Int) ≤ m → (∀ v ∈ ns, v ≤ dp) → H p = none → p ≠ sysModules → SameBut a H H' → SrcV (n + 1000) H' a → H' p = some (.lst (iv ns)) → Q (.ref p) H'
theorem ok_law_made (T : Txt mg) (h : At K mg "_law_made" s_law_made)
    (g_law_draw : Has P w K mg base CX0 1 "_law_draw" s_law_draw P_law_draw sp_law_draw) :
    Has P w K mg base CX0 2 "_law_made" s_law_made P_law_made (sp_law_made K) := by
  refine Has.of h sc_law_made (fun vs H Q E h => ?_) (fun _ _ _ _ _ _ us hl => match us, hl with | [_, _, _, _], _ => rfl) (fun f cdv A outer s H vs Q E room qt h => ?_)
  · obtain ⟨v, a, cs, m, dp, n, rfl, _⟩ := h; rfl
  obtain ⟨a, sc, cs, m, dp, n, rfl, ha, nb, hsc, hsc', m0, m1, dp0, k⟩ := h
  refine ⟨_, (pss_cons (ps_set (i := 4) sc_law_made.nd rfl (Or.inl rfl) (pe_ix ix_list (pe_lstB (pa_cons (pe_op op_add pe_int (pe_has g_law_draw (room.mono (by decide)) qt (by rfl) pass0 (pa_cons (pv 0) (pa_cons (pe_callB (call_min2 rfl) (by rfl) T.min (by decide +kernel) (pa_cons (pv 2) (pa_cons pe_int pa_nil))) pa_nil)))) (pa_cons (pe_op op_add pe_int (pe_has g_law_draw (room.mono (by decide)) qt (by rfl) pass0 (pa_cons (pv 0) (pa_cons (pv 2) pa_nil)))) (pa_cons (pv 2) pa_nil)))) (pe_has g_law_draw (room.mono (by decide)) qt (by rfl) pass0 (pa_cons (pv 0) (pa_cons pe_int pa_nil))) (fun _ _ => rfl)))
      (pss_cons (ps_set (i := 5) sc_law_made.nd rfl (Or.inl rfl) (pe_has g_law_draw (room.mono (by decide)) qt (by rfl) pass0 (pa_cons (pv 0) (pa_cons pe_int pa_nil))))
      (pss_cons (ps_set (i := 6) sc_law_made.nd rfl (Or.inl rfl) (pe_lstB (pa_cons pe_int pa_nil)))
      (pss_cons (ps_while PassesOwn.never (pt_cmpR op_lt (pe_callB call_len_seq (by rfl) T.len (by decide +kernel) (pa_cons (pv 6) pa_nil)) (pe_ifExp (pt_cmpR (op_eqD room.units) (pv 1) (pe_lstB pa_nil) (nomark _)) (pe_callB (call_min2 rfl) (by rfl) T.min (by decide +kernel) (pa_cons (pv 4) (pa_cons pe_int pa_nil))) (pv 4)) (nomark _))
        (pss_cons (ps_set (i := 7) sc_law_made.nd rfl (Or.inl rfl) (pe_callB (call_min2 rfl) (by rfl) T.min (by decide +kernel) (pa_cons (pe_op op_add (pe_ix ix_list (pv 6) (pe_un un_neg pe_int) (fun _ _ => rfl)) pe_int) (pa_cons (pv 3) pa_nil))))
        (pss_cons (ps_set (i := 8) sc_law_made.nd rfl (Or.inl rfl) (pe_lstB (pa_cons (pe_has g_law_draw (room.mono (by decide)) qt (by rfl) pass0 (pa_cons (pv 0) (pa_cons (pe_op op_add (pv 7) pe_int) pa_nil))) (pa_cons (pv 7) (pa_cons (pe_callB (call_max2 rfl) (by rfl) T.max (by decide +kernel) (pa_cons pe_int (pa_cons (pe_op op_sub (pv 7) (pe_has g_law_draw (room.mono (by decide)) qt (by rfl) pass0 (pa_cons (pv 0) (pa_cons pe_int pa_nil)))) pa_nil))) (pa_cons (pe_ix ix_list (pe_lstB (pa_cons pe_int (pa_cons (pv 7) pa_nil))) (pe_has g_law_draw (room.mono (by decide)) qt (by rfl) pass0 (pa_cons (pv 0) (pa_cons pe_int pa_nil))) (fun _ _ => rfl)) pa_nil))))))
        (pss_one (ps_expr (pe_bm PySem.F.plainAttrs_list PySem.F.slot_list_append PySem.F.type_list_append mt_append (pv 6) (pa_cons (pe_ix ix_list (pe_op op_catB (pv 8) (pe_lstB (pa_cons pe_int pa_nil))) (pv 5) (fun _ _ => rfl)) pa_nil)))))))
      (pss_one (ps_ret (pv 6))))))), ?_⟩
  -- size
  refine ⟨_, rfl, _, rfl, _, _, rfl, a, _, n, rfl, ha, by omega, by split <;> omega, by split <;> omega, fun e1 H1 x0 x1 b1 s1 => ⟨_, _, rfl, rfl, ?_⟩⟩
  refine ⟨_, rfl, _, rfl, a, _, _, rfl, s1, by omega, by omega, by omega, fun e2 H2 y0 y1 b2 s2 => ⟨_, _, rfl, rfl, _, rfl, (by decide : 3 ≤ sizeLine), fun q nq _ => ?_⟩⟩
  have h2q : (upd H2 q (.lst (iv [1 + e1, 1 + e2, m]))) q = some (.lst (iv [1 + e1, 1 + e2, m])) := upd_same
  refine ⟨_, rfl, a, 3, _, rfl, s2.new nq, by omega, by decide, by decide, fun j H3 j0 j1 b3 s3 => ?_⟩
  have nqa : q ≠ a := (s2.ne nq).symm
  have b03 : SameBut a H H3 := ((b1.trans b2).new nq).trans b3
  refine ⟨q, iv [1 + e1, 1 + e2, m], j, _, rfl, rfl, SqL.of (b3 _ _ h2q nqa), atI_iv j0 (by exact j1), ?_⟩
  have hsz : 1 ≤ [1 + e1, 1 + e2, m].getD j.toNat 0 ∧ [1 + e1, 1 + e2, m].getD j.toNat 0 ≤ m := by
    refine getD_all (p := fun v => 1 ≤ v ∧ v ≤ m) (fun v hv => ?_) j0 (by exact j1)
    simp only [List.mem_cons, List.not_mem_nil, or_false] at hv
    rcases hv with rfl | rfl | rfl
    · split at x1 <;> omega
    · omega
    · omega
  generalize [1 + e1, 1 + e2, m].getD j.toNat 0 = size at hsz ⊢
  -- style
  refine ⟨_, rfl, a, 5, _, rfl, s3, by omega, by decide, by decide, fun st H4 p1 q1 b4 s4 => ?_⟩
  have b04 := b03.trans b4
  refine ⟨(by decide : 1 ≤ sizeLine), fun p hp1 psm => ?_⟩
  have nap : p ≠ a := (s4.ne hp1).symm
  have hp : H p = none := b04.free nap hp1
  refine ⟨fun mm σ H7 => ∃ ns : List Int, 1 ≤ ns.length ∧ (ns.length : Int) ≤ size ∧ mm = size.toNat - ns.length ∧ okFrom 0 ns = true ∧ (∀ v ∈ ns, v ≤ dp) ∧ SameBut a H H7 ∧ SrcV (n + 4 + 3 * (ns.length : Int)) H7 a ∧ H7 p = some (.lst (iv ns)) ∧
    ∃ v7 v8, σ = [some (.ref a), some (.ref sc), some (.int m), some (.int dp), some (.int size), some (.int st), some (.ref p), v7, v8],
    ⟨_, [0], Nat.le_refl _, hsz.1, rfl, rfl, fun v hv => by rw [List.mem_singleton.mp hv]; exact dp0, b04.own hp, (s4.new hp1).mono (by omega), upd_same, _, _, rfl⟩, ?_⟩
  rintro mm σ H7 ⟨ns, l1, l2, rfl, hk, hdp, b7, s7, h7p, v7, v8, rfl⟩
  have nn : ns ≠ [] := fun e => by subst e; cases l1
  have l0 := (okFrom_at hk (i := ns.length - 1) (by omega)).1
  have el : (iv ns).length = ns.length := List.length_map _
  refine ⟨_, rfl, p, _, rfl, .inl (SqL.of h7p), _, rfl, (by decide : 0 ≤ sizeLine), fun u1 m1' _ => eqD_ints (ns := cs) (ms := []) ((Same.new m1').seq (hsc' _ b7)) (SqL.of upd_same) ⟨_, rfl, ?_⟩⟩
  have b8 := b7.new (o := .lst []) m1'
  have s8 := s7.new (o := .lst []) m1'
  have h8p := Same.new (o := .lst []) m1' _ _ h7p
  generalize upd H7 u1 (.lst []) = H8 at b8 s8 h8p ⊢
  refine if_any (fun v H9 => ∃ z : Int, v = .int z ∧ z ≤ size ∧ H9 = H8) (fun _ Q' q => ⟨_, rfl, _, _, rfl, q _ _ ⟨_, rfl, by split <;> omega, rfl⟩⟩) (fun _ Q' q => ⟨_, rfl, q _ _ ⟨_, rfl, Int.le_refl _, rfl⟩⟩) ?_
  rintro v H9 ⟨z, rfl, zs, rfl⟩
  refine ⟨_, _, rfl, rfl, _, rfl, ite2 (fun c => ?_) (fun c => ?_)⟩
  · have c1 : (ns.length : Int) < size := by have := of_decide_eq_true c; rw [el] at this; omega
    refine ⟨fun σ' H10 => ∃ dd : Int, okFrom 0 (ns ++ [dd]) = true ∧ dd ≤ dp ∧ SameBut a H H10 ∧ SrcV (n + 4 + 3 * ((ns.length : Int) + 1)) H10 a ∧ H10 p = some (.lst (iv (ns ++ [dd]))) ∧ ∃ v7 v8, σ' = [some (.ref a), some (.ref sc), some (.int m), some (.int dp), some (.int size), some (.int st), some (.ref p), v7, v8], ?_, ?_⟩
    · rintro σ' H10 ⟨dd, x1, x2, x3, x4, x5, v7', v8', x6⟩
      refine ⟨size.toNat - (ns.length + 1), by omega, ns ++ [dd], by rw [List.length_append]; exact Nat.le_add_left _ _, by rw [List.length_append]; show ((ns.length + 1 : Nat) : Int) ≤ _; omega, by rw [List.length_append]; rfl, x1, fun v hv => ?_, x3, ?_, x5, v7', v8', x6⟩
      · rcases List.mem_append.mp hv with e | e
        · exact hdp v e
        · rw [List.mem_singleton.mp e]; exact x2
      · rw [List.length_append]; show SrcV (n + 4 + 3 * ((ns.length + 1 : Nat) : Int)) H10 a; exact x4.mono (by omega)
    -- top
    refine ⟨_, rfl, _, rfl, p, iv ns, -1, _, rfl, rfl, SqL.of h8p, atI_iv_last nn, _, _, rfl, rfl, _, rfl, _, _, rfl, ?_⟩
    generalize hla : ns.getD (ns.length - 1) 0 = la at l0 ⊢
    obtain ⟨t, et, t0, t1, t2⟩ : ∃ r : Int, (if dp < la + 1 then dp else la + 1) = r ∧ 0 ≤ r ∧ r ≤ la + 1 ∧ r ≤ dp := ⟨_, rfl, by split <;> omega, by split <;> omega, by split <;> omega⟩
    have lal : la ≤ 200 := by rw [← hla]; have := okFrom_le hk (i := ns.length - 1) (by omega); omega
    rw [et]
    -- some
    refine ⟨_, rfl, _, rfl, _, _, rfl, rfl, a, _, _, rfl, s8, by omega, by omega, by omega, fun f1 H10 x0 x1 b10 s10 => ?_⟩
    refine ⟨_, rfl, _, rfl, _, rfl, a, 3, _, rfl, s10, by omega, by decide, by decide, fun f2 H11 y0 y1 b11 s11 => ⟨_, _, rfl, rfl, _, _, rfl, ?_⟩⟩
    obtain ⟨mxv, emx, mx0, mx1⟩ : ∃ r : Int, (if t - f2 > 0 then t - f2 else 0) = r ∧ 0 ≤ r ∧ r ≤ t := ⟨_, rfl, by split <;> omega, by split <;> omega⟩
    rw [emx]
    refine ⟨_, rfl, (by decide : 2 ≤ sizeLine), fun q2 n2 _ => ?_⟩
    have s12 := s11.new (o := .lst (iv [0, t])) n2
    refine ⟨_, rfl, a, 2, _, rfl, s12, by omega, by decide, by decide, fun jj H13 j0 j1 b13 s13 => ?_⟩
    have nq2 : q2 ≠ a := (s11.ne n2).symm
    refine ⟨q2, iv [0, t], jj, _, rfl, rfl, SqL.of (b13 _ _ upd_same nq2), atI_iv j0 (by exact j1), (by decide : 4 ≤ sizeLine), fun q3 n3 _ => ?_⟩
    have ht : 0 ≤ [0, t].getD jj.toNat 0 ∧ [0, t].getD jj.toNat 0 ≤ t := by
      refine getD_all (p := fun v => 0 ≤ v ∧ v ≤ t) (fun v hv => ?_) j0 (by exact j1)
      simp only [List.mem_cons, List.not_mem_nil, or_false] at hv
      rcases hv with rfl | rfl <;> omega
    generalize [0, t].getD jj.toNat 0 = f4 at ht ⊢
    have b013 : SameBut a H H13 := (((b8.trans b10).trans b11).new n2).trans b13
    have h13p : H13 p = some (.lst (iv ns)) := b13 _ _ (Same.new n2 _ _ (b11 _ _ (b10 _ _ h8p nap) nap)) nap
    have h14q : (upd H13 q3 (.lst (iv [f1, t, mxv, f4]))) q3 = some (.lst (iv [f1, t, mxv, f4])) := upd_same
    have h14p := Same.new (o := .lst (iv [f1, t, mxv, f4])) n3 _ _ h13p
    have s14 := s13.new (o := .lst (iv [f1, t, mxv, f4])) n3
    have b14 := b013.new (o := .lst (iv [f1, t, mxv, f4])) n3
    refine ⟨_, rfl, .inl ⟨rfl, _, SqL.of h14p⟩, _, rfl, (by decide : 1 ≤ sizeLine), fun q4 n4 _ => ?_⟩
    have h15q := Same.new (o := .lst (iv [0])) n4 _ _ h14q
    have h15p := Same.new (o := .lst (iv [0])) n4 _ _ h14p
    have s15 := s14.new (o := .lst (iv [0])) n4
    have b15 := b14.new (o := .lst (iv [0])) n4
    refine ⟨q3, q4, iv [f1, t, mxv, f4], iv [0], rfl, rfl, SqL.of h15q, SqL.of upd_same, (by decide : 4 + 1 ≤ sizeLine), fun q5 n5 _ => ?_⟩
    have h16p := Same.new (o := .lst (iv [f1, t, mxv, f4, 0])) n5 _ _ h15p
    have s16 := s15.new (o := .lst (iv [f1, t, mxv, f4, 0])) n5
    have b16 := b15.new (o := .lst (iv [f1, t, mxv, f4, 0])) n5
    refine ⟨_, rfl, q5, iv [f1, t, mxv, f4, 0], st, _, rfl, rfl, SqL.of upd_same, atI_iv p1 (by assumption), p, iv ns, _, rfl, rfl, h16p, small_line (by rw [List.length_map]; omega), ?_⟩
    have hd : 0 ≤ [f1, t, mxv, f4, 0].getD st.toNat 0 ∧ [f1, t, mxv, f4, 0].getD st.toNat 0 ≤ t := by
      refine getD_all (p := fun v => 0 ≤ v ∧ v ≤ t) (fun v hv => ?_) p1 (by assumption)
      simp only [List.mem_cons, List.not_mem_nil, or_false] at hv
      rcases hv with rfl | rfl | rfl | rfl | rfl <;> omega
    generalize [f1, t, mxv, f4, 0].getD st.toNat 0 = dd at hd ⊢
    refine ⟨dd, okFrom_snoc hk hd.1 (fun e => (nn e).elim) (fun _ => by rw [hla]; omega), by omega, b16.own hp, (s16.upd nap.symm).mono (by omega), by rw [iv_snoc]; exact upd_same, _, _, rfl⟩
  · exact ⟨_, rfl, k ns p _ (isO_iff.mpr ⟨l1, by omega, hk⟩) (by omega) hdp hp psm b8 (s8.mono (by omega)) h8p⟩
/-- a height that is greater than all depths -/
def sp_law_height (K : PySem.W.Frag) : Sp := fun vs H Q _ => ∃ (a b : Addr) (ns : List Int) (n mx : Int), vs = [.ref a, .ref b] ∧ SrcV n H a ∧ n ≤ 900000000 ∧ H b = some (.lst (iv ns)) ∧ b ≠ a ∧ isO ns = true ∧ IsMax ns mx ∧
  ∀ (r : Int) (H' : Hp), mx < r → r ≤ 400 → SameBut a H H' → SrcV (n + 10) H' a → Q (.int r) H'
theorem ok_law_height (T : Txt mg) (h : At K mg "_law_height" s_law_height)
    (g_law_draw : Has P w K mg base CX0 1 "_law_draw" s_law_draw P_law_draw sp_law_draw) :
    Has P w K mg base CX0 2 "_law_height" s_law_height P_law_height (sp_law_height K) := by
  refine Has.of h sc_law_height (fun vs H Q E h => ?_) (fun _ _ _ _ _ _ us hl => match us, hl with | [_, _], _ => rfl) (fun f cdv A outer s H vs Q E room qt h => ?_)
  · obtain ⟨v, a, m, n, mx, rfl, _⟩ := h; rfl
  obtain ⟨a, b, ns, n, mx, rfl, ha, nb, hb, nba, ho, hmx, k⟩ := h
  obtain ⟨l1, l2, hk⟩ := isO_iff.mp ho
  have mb := hmx.lt ho
  refine ⟨_, (pss_cons (ps_set (i := 2) sc_law_height.nd rfl (Or.inl rfl) (pe_op op_add (pe_callB (cr_max rfl) (by rfl) T.max (by decide +kernel) (pa_cons (pv 1) pa_nil)) pe_int))
      (pss_cons (ps_set (i := 3) sc_law_height.nd rfl (Or.inl rfl) (pe_lst (pa_cons pe_int (pa_cons (pe_has g_law_draw (room.mono (by decide)) qt (by rfl) pass0 (pa_cons (pv 0) (pa_cons pe_int pa_nil))) (pa_cons (pe_has g_law_draw (room.mono (by decide)) qt (by rfl) pass0 (pa_cons (pv 0) (pa_cons pe_int pa_nil))) (pa_cons (pe_has g_law_draw (room.mono (by decide)) qt (by rfl) pass0 (pa_cons (pv 0) (pa_cons (pe_op op_sub pe_int (pv 2)) pa_nil))) pa_nil))))))
      (pss_one (ps_ret (pe_op op_add (pv 2) (pe_ix ix_list (pv 3) (pe_has g_law_draw (room.mono (by decide)) qt (by rfl) pass0 (pa_cons (pv 0) (pa_cons pe_int pa_nil))) (fun _ _ => rfl))))))), ?_⟩
  refine ⟨_, rfl, b, ns, rfl, SqL.of hb, l1, fun m hm hall => ?_⟩
  obtain rfl : m = mx := hmx.uniq ⟨hm, hall⟩ |>.symm
  refine ⟨_, _, rfl, rfl, ?_⟩
  refine ⟨_, rfl, a, 3, n, rfl, ha, by omega, by decide, by decide, fun e1 H1 x0 x1 b1 s1 => ?_⟩
  refine ⟨_, rfl, a, 12, _, rfl, s1, by omega, by decide, by decide, fun e2 H2 y0 y1 b2 s2 => ?_⟩
  refine ⟨_, rfl, _, rfl, _, _, rfl, rfl, a, _, _, rfl, s2, by omega, by omega, by omega, fun e3 H3 z0 z1 b3 s3 => ⟨(by decide : 4 ≤ sizeLine), fun q nq => ?_⟩⟩
  have s4 := s3.new (o := .lst (iv [0, e1, e2, e3])) nq
  have nqa : q ≠ a := (s3.ne nq).symm
  have b04 : SameBut a H (upd H3 q (.lst (iv [0, e1, e2, e3]))) := ((b1.trans b2).trans b3).new nq
  refine ⟨_, rfl, _, rfl, _, rfl, a, 4, _, rfl, s4, by omega, by decide, by decide, fun j H5 j0 j1 b5 s5 => ?_⟩
  refine ⟨q, iv [0, e1, e2, e3], j, _, rfl, rfl, SqL.of (b5 _ _ upd_same nqa), atI_iv j0 (by exact j1), ?_⟩
  have hh : 0 ≤ [0, e1, e2, e3].getD j.toNat 0 ∧ m + 1 + [0, e1, e2, e3].getD j.toNat 0 ≤ 400 := by
    refine getD_all (p := fun v => 0 ≤ v ∧ m + 1 + v ≤ 400) (fun v hv => ?_) j0 (by exact j1)
    simp only [List.mem_cons, List.not_mem_nil, or_false] at hv
    rcases hv with rfl | rfl | rfl | rfl <;> omega
  generalize [0, e1, e2, e3].getD j.toNat 0 = g at hh ⊢
  exact ⟨_, _, rfl, rfl, k _ _ (by omega) hh.2 (b04.trans b5) (s5.mono (by omega))⟩
end
end SH

namespace SH
open PySem PySem.Spec PyProof.Rows L2
abbrev s_law_is_reading : Stmt := topS 35
abbrev N_law_is_reading : List Str := ["made", "tall", "scrolls_here", "left", "scroll"]
abbrev P_law_is_reading : List Str := ["made", "tall", "scrolls_here"]
theorem sc_law_is_reading : FnScope N_law_is_reading P_law_is_reading (defScope s_law_is_reading) := ⟨rfl, rfl, rfl, by decide +kernel, rfl, by decide +kernel, by decide +kernel⟩
abbrev s_law_fewest : Stmt := topS 36
abbrev N_law_fewest : List Str := ["made", "tall", "left", "pages"]
abbrev P_law_fewest : List Str := ["made", "tall"]
theorem sc_law_fewest : FnScope N_law_fewest P_law_fewest (defScope s_law_fewest) := ⟨rfl, rfl, rfl, by decide +kernel, rfl, by decide +kernel, by decide +kernel⟩
/-- is each line shown: the law's own walk -/
def walkR (ns : List Int) (h : Int) : Int → List Int → Bool
  | l, [] => decide ((ns.length : Int) ≤ l)
  | l, v :: r => if l < ns.length ∧ l - ns.getD l.toNat 0 < v then false else walkR ns h (if v + h > l then v + h else l) r
theorem walk_cons (ns : List Int) (h l v : Int) (r : List Int) : walkR ns h l (v :: r) = if l < ns.length ∧ l - ns.getD l.toNat 0 < v then false else walkR ns h (if v + h > l then v + h else l) r := rfl
theorem walk_iff {ns : List Int} {h : Int} (hk : okFrom 0 ns = true) (h1 : 1 ≤ h) : ∀ {X : List Int} {l : Int}, 0 ≤ l → X.Pairwise (· < ·) → (∀ v ∈ X, l ≤ v + h ∧ 0 ≤ v) →
    (walkR ns h l X = true ↔ ∀ j : Nat, l ≤ j → j < ns.length → ∃ v ∈ X, v ≤ stopAt ns j ∧ (j : Int) < v + h)
  | [], l, l0, _, _ => by
    show decide _ = true ↔ _
    rw [decide_eq_true_eq]
    constructor
    · intro q j hj jl; omega
    · intro q
      rcases Int.lt_or_le l ns.length with c | c
      · obtain ⟨v, hv, _⟩ := q l.toNat (by omega) (by omega)
        cases hv
      · exact c
  | v :: r, l, l0, asc, bd => by
    obtain ⟨p1, p2⟩ := List.pairwise_cons.mp asc
    have bv := bd v List.mem_cons_self
    unfold walkR
    by_cases c : l < ns.length ∧ l - ns.getD l.toNat 0 < v
    · rw [if_pos c]
      refine ⟨fun q => absurd q Bool.false_ne_true, fun q => ?_⟩
      obtain ⟨u, hu, q1, q2⟩ := q l.toNat (by omega) (by omega)
      exfalso
      have c2 := c.2
      unfold stopAt at q1
      rcases List.mem_cons.mp hu with e | e
      · omega
      · have := p1 u e; omega
    · rw [if_neg c]
      have e2 : (if v + h > l then v + h else l) = v + h := by split <;> omega
      rw [e2, walk_iff hk h1 (by omega) p2 fun u hu => ⟨by have := p1 u hu; omega, (bd u (List.mem_cons_of_mem _ hu)).2⟩]
      constructor
      · intro q j hj jl
        rcases Int.lt_or_le (j : Int) (v + h) with z | z
        · refine ⟨v, List.mem_cons_self, ?_, z⟩
          have := stop_mono hk (i := l.toNat) (j := j) (by omega) jl
          unfold stopAt at this ⊢
          omega
        · obtain ⟨u, hu, x⟩ := q j z jl
          exact ⟨u, List.mem_cons_of_mem _ hu, x⟩
      · intro q j hj jl
        obtain ⟨u, hu, q1, q2⟩ := q j (by omega) jl
        rcases List.mem_cons.mp hu with e | e
        · omega
        · exact ⟨u, e, q1, q2⟩
section
variable {P : Program} {w : World} {K : PySem.W.Frag} {mg : Str → Option Value} {base : Heap}
def sp_law_is_reading (K : PySem.W.Frag) : Sp := fun vs H Q _ => ∃ (a b : Addr) (ns X : List Int) (h : Int), vs = [.ref a, .int h, .ref b] ∧ SqL K H a (iv ns) ∧ SqL K H b (iv X) ∧ (∀ v ∈ X, 0 ≤ v) ∧ 1 ≤ h ∧ Q (.bl (walkR ns h 0 X)) H
theorem ok_law_is_reading (T : Txt mg) (h : At K mg "_law_is_reading" s_law_is_reading) :
    Has P w K mg base CX0 1 "_law_is_reading" s_law_is_reading P_law_is_reading (sp_law_is_reading K) := by
  refine Has.of h sc_law_is_reading (fun vs H Q E h => ?_) (fun _ _ _ _ _ _ us hl => match us, hl with | [_, _, _], _ => rfl) (fun f cdv A outer s H vs Q E room qt h => ?_)
  · obtain ⟨a, b, n, z, x, rfl, _⟩ := h; rfl
  obtain ⟨a, b, ns, X, hh, rfl, ha, hb, bd, h1, k⟩ := h
  have el : (iv ns).length = ns.length := List.length_map _
  refine ⟨_, (pss_cons (ps_set (i := 3) sc_law_is_reading.nd rfl (Or.inl rfl) pe_int)
      (pss_cons (ps_for PassesOwn.never rfl (pi_list (pv 2)) (pg_name (i := 4) sc_law_is_reading.nd rfl (Or.inl rfl) (hf := Or.inl rfl))
        (pss_cons (ps_if (PW.pt (pw_and (pt_cmpR op_lt (pv 3) (pe_callB call_len_seq (by rfl) T.len (by decide +kernel) (pa_cons (pv 0) pa_nil)) (nomark _)) (pw_and1 (pt_cmpR op_lt (pe_op op_sub (pv 3) (pe_ix ix_list (pv 0) (pv 3) (fun _ _ => rfl))) (pv 4) (nomark _)))))
          (pss_one (ps_ret pe_bl))
          pss_nil)
        (pss_one (ps_set (i := 3) sc_law_is_reading.nd rfl (Or.inl rfl) (pe_callB (call_max2 rfl) (by rfl) T.max (by decide +kernel) (pa_cons (pv 3) (pa_cons (pe_op op_add (pv 4) (pv 1)) pa_nil)))))))
      (pss_one (ps_ret (pe_cmpR op_ge (pv 3) (pe_callB call_len_seq (by rfl) T.len (by decide +kernel) (pa_cons (pv 0) pa_nil)) (nomark _)))))), ?_⟩
  refine ⟨_, rfl, b, rfl, ⟨_, hb⟩, for_list (K := K) (a := b) (xs := iv X) (fun i σ H2 => H2 = H ∧ ∃ (l : Int) (v : Option V), σ = [some (.ref a), some (.int hh), some (.ref b), some (.int l), v] ∧ 0 ≤ l ∧ walkR ns hh l (X.drop i) = walkR ns hh 0 X)
    ⟨rfl, 0, _, rfl, by decide, rfl⟩ (fun i σ H2 _ e => by rw [e.1]; exact hb) ?_ ?_⟩
  · rintro i x σ H2 hx ⟨rfl, l, v, rfl, l0, e⟩
    have il : i < X.length := by have := (List.getElem?_eq_some_iff.mp hx).1; rwa [List.length_map] at this
    rw [iv_at il] at hx
    cases hx
    have ed : X.drop i = X.getD i 0 :: X.drop (i + 1) := by rw [List.drop_eq_getElem_cons il, List.getD_eq_getElem?_getD, List.getElem?_eq_getElem il]; rfl
    have bx : 0 ≤ X.getD i 0 := bd _ (by rw [List.getD_eq_getElem?_getD, List.getElem?_eq_getElem il]; exact List.getElem_mem il)
    rw [ed, walk_cons] at e
    generalize X.getD i 0 = x at e bx ⊢
    refine ⟨_, rfl, _, rfl, a, _, rfl, .inl ha, _, _, rfl, rfl, _, rfl, ?_⟩
    by_cases c : l < ns.length
    · refine iteT' (decide_eq_true (by omega)) ?_
      refine ⟨_, rfl, _, rfl, _, rfl, a, _, l, _, rfl, rfl, ha, atI_iv l0 (by omega), _, _, rfl, rfl, _, rfl, _, _, rfl, rfl, _, rfl, ite2 (fun d => ?_) (fun d => ?_)⟩
      · have d1 := of_decide_eq_true d
        rw [if_pos ⟨c, d1⟩] at e
        rw [← e] at k
        exact k
      · have d1 : ¬ (l - ns.getD l.toNat 0 < x) := fun z => d (decide_eq_true z)
        rw [if_neg (fun z => d1 z.2)] at e
        exact ⟨_, rfl, _, rfl, _, rfl, _, _, rfl, rfl, _, _, rfl, rfl, _, _, rfl, by split <;> omega, e⟩
    · refine iteFb (decide_eq_false (by omega)) ?_
      rw [if_neg (fun z => c z.1)] at e
      exact ⟨_, rfl, _, rfl, _, rfl, _, _, rfl, rfl, _, _, rfl, rfl, _, _, rfl, by split <;> omega, e⟩
  · rintro σ H2 ⟨rfl, l, v, rfl, l0, e⟩
    rw [List.length_map, List.drop_length] at e
    refine ⟨_, rfl, _, rfl, a, _, rfl, .inl ha, _, _, rfl, rfl, ?_⟩
    show Q (.bl (decide (((iv ns).length : Int) ≤ l))) _
    rw [el]
    rw [← e] at k
    exact k
def sp_law_fewest (K : PySem.W.Frag) : Sp := fun vs H Q _ => ∃ (a : Addr) (ns : List Int) (h : Int), vs = [.ref a, .int h] ∧ SqL K H a (iv ns) ∧ Fit ns h 0 ∧ RetV Q H (.int (pagesL ns h 0).length)
theorem ok_law_fewest (T : Txt mg) (h : At K mg "_law_fewest" s_law_fewest) :
    Has P w K mg base CX0 1 "_law_fewest" s_law_fewest P_law_fewest (sp_law_fewest K) := by
  refine Has.of h sc_law_fewest (fun vs H Q E h => ?_) (fun _ _ _ _ _ _ us hl => match us, hl with | [_, _], _ => rfl) (fun f cdv A outer s H vs Q E room qt h => ?_)
  · obtain ⟨a, n, z, rfl, _⟩ := h; rfl
  obtain ⟨a, ns, hh, rfl, ha, ft, k⟩ := h
  have el : (iv ns).length = ns.length := List.length_map _
  refine ⟨_, (pss_cons (ps_asg (pe_tup (pa_cons pe_int (pa_cons pe_int pa_nil))) (pg_tup rfl (pgs_cons (pg_name (i := 2) sc_law_fewest.nd rfl (Or.inl rfl) (hf := Or.inl rfl)) (pgs_cons (pg_name (i := 3) sc_law_fewest.nd rfl (Or.inl rfl) (hf := Or.inl rfl)) pgs_nil))))
      (pss_cons (ps_while PassesOwn.never (pt_cmpR op_lt (pv 2) (pe_callB call_len_seq (by rfl) T.len (by decide +kernel) (pa_cons (pv 0) pa_nil)) (nomark _))
        (pss_one (ps_par (i := 2) (j := 3) rfl sc_law_fewest.nd rfl rfl (by decide) rfl rfl (pa_cons (pe_op op_sub (pe_op op_add (pv 2) (pv 1)) (pe_ix ix_list (pv 0) (pv 2) (fun _ _ => rfl))) (pa_cons (pe_op op_add (pv 3) pe_int) pa_nil)) (by rfl))))
      (pss_one (ps_ret (pv 3))))), ?_⟩
  refine ⟨(by decide : 2 ≤ sizeLine), fun q nq => ⟨q, _, rfl, SqT.of upd_same, rfl, _, _, rfl, _, _, rfl, rfl, ?_⟩⟩
  refine ⟨fun m σ H' => Same H H' ∧ ∃ (i c : Nat), m = ns.length - i ∧ σ = [some (.ref a), some (.int hh), some (.int (i : Nat)), some (.int (c : Nat))] ∧ c + (pagesL ns hh i).length = (pagesL ns hh 0).length,
    ⟨_, Same.new nq, 0, 0, rfl, rfl, by omega⟩, ?_⟩
  rintro m σ H' ⟨sh, i, c, rfl, rfl, e⟩
  refine ⟨_, rfl, _, rfl, a, _, rfl, .inl (sh.seq ha), _, _, rfl, rfl, _, rfl, ite2 (fun d => ?_) (fun d => ?_)⟩
  · have d1 : i < ns.length := by have := of_decide_eq_true d; omega
    have fi := ft i (Nat.zero_le _) d1
    have ei := nxt_int fi
    have gi := nxt_gt ns hh i
    rw [pagesL_go d1, List.length_cons] at e
    refine ⟨fun σ' H2 => H2 = H' ∧ σ' = [some (.ref a), some (.int hh), some (.int (nxt ns hh i : Nat)), some (.int ((c + 1 : Nat) : Int))], fun σ' H2 q => ⟨ns.length - nxt ns hh i, by omega, by rw [q.1]; exact sh, nxt ns hh i, c + 1, rfl, q.2, by omega⟩, ?_⟩
    refine ⟨_, rfl, _, rfl, _, _, rfl, rfl, _, rfl, _, rfl, a, _, i, _, rfl, rfl, sh.seq ha, atI_iv (by omega) (by omega), _, _, rfl, rfl, _, rfl, _, _, rfl, rfl, _, _, rfl, rfl, ?_⟩
    have e2 : (i : Int) + hh - ns.getD ((i : Nat) : Int).toNat 0 = ((nxt ns hh i : Nat) : Int) := by rw [Int.toNat_natCast]; omega
    exact congrArg (fun z => [some (V.ref a), some (V.int hh), some (V.int z), some (V.int ((c + 1 : Nat) : Int))]) e2
  · have d1 : ns.length ≤ i := by
      rcases Nat.lt_or_ge i ns.length with q | q
      · exact (d (decide_eq_true (by omega))).elim
      · exact q
    rw [pagesL_end d1] at e
    have e2 : c = (pagesL ns hh 0).length := by rw [← e]; rfl
    rw [← e2] at k
    exact ⟨_, rfl, k _ sh⟩
end
end SH

namespace SH
open PySem PySem.Spec PyProof.Rows L2
abbrev s_law_pages : Stmt := topS 37
abbrev N_law_pages : List Str := ["made", "tall", "found", "line"]
abbrev P_law_pages : List Str := ["made", "tall"]
theorem sc_law_pages : FnScope N_law_pages P_law_pages (defScope s_law_pages) := ⟨rfl, rfl, rfl, by decide +kernel, rfl, by decide +kernel, by decide +kernel⟩
abbrev s_law_drawn : Stmt := topS 38
abbrev N_law_drawn : List Str := ["source", "made", "tall", "pages", "found", "line", "some", "other"]
abbrev P_law_drawn : List Str := ["source", "made", "tall"]
theorem sc_law_drawn : FnScope N_law_drawn P_law_drawn (defScope s_law_drawn) := ⟨rfl, rfl, rfl, by decide +kernel, rfl, by decide +kernel, by decide +kernel⟩
def pgN (ns : List Int) (h : Int) (l : Nat) : Int := ((pagesL ns h l).length : Nat)
/-- f of each place below n -/
def tabL (n : Nat) (f : Nat → Int) : List Int := (List.range n).map f
theorem tabL_len (n : Nat) (f : Nat → Int) : (tabL n f).length = n := by unfold tabL; rw [List.length_map, List.length_range]
theorem tabL_getD {n : Nat} {f : Nat → Int} {i : Nat} (h : i < n) : (tabL n f).getD i 0 = f i := by
  rw [List.getD_eq_getElem?_getD]
  unfold tabL
  rw [List.getElem?_map, List.getElem?_range h]
  rfl
theorem tabL_ext {n : Nat} {f g : Nat → Int} (h : ∀ i : Nat, i < n → f i = g i) : tabL n f = tabL n g := by
  unfold tabL
  exact List.map_congr_left fun i hi => h i (List.mem_range.mp hi)
theorem tabL_set {n : Nat} {f g : Nat → Int} {u : Nat} {v : Int} (h : ∀ i : Nat, f i = if i = u then v else g i) : (iv (tabL n g)).set u (.int v) = iv (tabL n f) := by
  unfold tabL iv
  rw [List.map_map, List.map_map]
  refine List.ext_getElem (by rw [List.length_set, List.length_map, List.length_map]) fun i h1 h2 => ?_
  rw [List.getElem_set, List.getElem_map, List.getElem_map, List.getElem_range]
  show (if u = i then V.int v else V.int (g i)) = V.int (f i)
  rw [h i]
  by_cases c : u = i
  · rw [if_pos c, if_pos c.symm]
  · rw [if_neg c, if_neg (Ne.symm c)]
theorem pg_go {ns : List Int} {h : Int} {l : Nat} (c : l < ns.length) : pgN ns h l = 1 + pgN ns h (nxt ns h l) := by
  unfold pgN
  rw [pagesL_go c, List.length_cons]
  omega
theorem pg_end {ns : List Int} {h : Int} {l : Nat} (c : ns.length ≤ l) : pgN ns h l = 0 := by
  unfold pgN
  rw [pagesL_end c]
  rfl
/-- the pages from the line below a view -/
theorem pg_left {ns : List Int} {h : Int} (hk : okFrom 0 ns = true) (ft : Fit ns h 0) (h1 : 1 ≤ h) (s : Nat) : pgN ns h (s + h.toNat) = (leftF ns h s : Nat) := by
  rcases Nat.lt_or_ge (s + h.toNat) ns.length with c | c
  · have e := pages_furL hk ft h1 ns.length (s + h.toNat) (fur ns h s) (by omega) c (fur_int ft h1 c).symm
    have := congrArg List.length e
    rw [List.length_map, List.length_map, List.length_cons, path_len (furL_path (ns := ns) (h := h) rfl)] at this
    unfold pgN
    rw [this, leftF_go c]
  · rw [pg_end c, leftF_end c]; rfl
section
variable {P : Program} {w : World} {K : PySem.W.Frag} {mg : Str → Option Value} {base : Heap}
def sp_law_pages (K : PySem.W.Frag) : Sp := fun vs H Q _ => ∃ (a : Addr) (ns : List Int) (h : Int), vs = [.ref a, .int h] ∧ SqL K H a (iv ns) ∧ isO ns = true ∧ 1 ≤ h ∧ h ≤ 400 ∧ Fit ns h 0 ∧ RetL Q H (iv (tabL (ns.length + h.toNat + 1) (pgN ns h)))
theorem ok_law_pages (T : Txt mg) (h : At K mg "_law_pages" s_law_pages) :
    Has P w K mg base CX0 1 "_law_pages" s_law_pages P_law_pages (sp_law_pages K) := by
  refine Has.of h sc_law_pages (fun vs H Q E h => ?_) (fun _ _ _ _ _ _ us hl => match us, hl with | [_, _], _ => rfl) (fun f cdv A outer s H vs Q E room qt h => ?_)
  · obtain ⟨a, n, z, rfl, _⟩ := h; rfl
  obtain ⟨a, ns, hh, rfl, ha, ho, h0, h1, ft, k⟩ := h
  obtain ⟨l1, l2, hk⟩ := isO_iff.mp ho
  have el : (iv ns).length = ns.length := List.length_map _
  refine ⟨_, (pss_cons (ps_set (i := 2) sc_law_pages.nd rfl (Or.inl rfl) (pe_op op_rep (pe_lst (pa_cons pe_int pa_nil)) (pe_op op_add (pe_op op_add (pe_callB call_len_seq (by rfl) T.len (by decide +kernel) (pa_cons (pv 0) pa_nil)) (pv 1)) pe_int)))
      (pss_cons (ps_for PassesOwn.never rfl (pi_range3 (by rfl) T.range (pa_cons (pe_op op_sub (pe_callB call_len_seq (by rfl) T.len (by decide +kernel) (pa_cons (pv 0) pa_nil)) pe_int) (pa_cons (pe_un un_neg pe_int) (pa_cons (pe_un un_neg pe_int) pa_nil)))) (pg_name (i := 3) sc_law_pages.nd rfl (Or.inl rfl) (hf := Or.inl rfl))
        (pss_one (ps_asg (pe_op op_add pe_int (pe_ix ix_list (pv 2) (pe_op op_sub (pe_op op_add (pv 3) (pv 1)) (pe_ix ix_list (pv 0) (pv 3) (fun _ _ => rfl))) (fun _ _ => rfl))) (pg_sub (pv 2) (pv 3) set_list))))
      (pss_one (ps_ret (pv 2))))), ?_⟩
  refine ⟨(by decide : 1 ≤ sizeLine), fun q nq => ?_⟩
  refine ⟨_, rfl, a, _, rfl, .inl ((Same.new nq).seq ha), _, rfl, _, _, rfl, rfl, _, _, rfl, rfl, q, _, _, rfl, rfl, upd_same, by omega, by omega, Nat.le_of_lt (small_line (by rw [List.length_singleton]; omega)), fun p hp => ?_⟩
  have eN : (((iv ns).length : Int) + hh + 1).toNat = ns.length + hh.toNat + 1 := by omega
  rw [eN]
  have s2 : Same H (upd (upd H q (.lst [.int 0])) p (.lst (List.replicate (ns.length + hh.toNat + 1) [V.int 0]).flatten)) := (Same.new nq).trans (Same.new hp)
  have hpH : H p = none := (Same.new nq).free hp
  have h2 : (upd (upd H q (.lst [.int 0])) p (.lst (List.replicate (ns.length + hh.toNat + 1) [V.int 0]).flatten)) p = some (.lst (iv (tabL (ns.length + hh.toNat + 1) fun _ => 0))) := by
    rw [upd_same, iv_rep]
    unfold tabL
    rw [List.map_const', List.length_range]
  generalize upd (upd H q (.lst [.int 0])) p (.lst (List.replicate (ns.length + hh.toNat + 1) [V.int 0]).flatten) = H2 at s2 h2 ⊢
  refine ⟨_, rfl, a, _, rfl, .inl (s2.seq ha), _, _, rfl, rfl, _, rfl, _, rfl, ((iv ns).length : Int) - 1, -1, -1, ns.length, rfl, ?_, ?_⟩
  · have e := RgC.neg (i := ((iv ns).length : Int) - 1) (j := -1) (by omega) (by omega) (by omega) (by omega)
    have ei : (((iv ns).length : Int) - 1 - -1).toNat = ns.length := by omega
    rw [ei] at e
    exact e
  refine for_rangeC (n := ns.length) (fun j σ H3 => (∃ v, σ = [some (.ref a), some (.int hh), some (.ref p), v]) ∧ Same H H3 ∧ H3 p = some (.lst (iv (tabL (ns.length + hh.toNat + 1) fun l => if ns.length ≤ l + j then pgN ns hh l else 0))))
    ⟨⟨_, rfl⟩, s2, ?_⟩ ?_ ?_
  · rw [h2]
    congr 3
    refine tabL_ext fun l _ => ?_
    by_cases c : ns.length ≤ l + 0
    · rw [if_pos c, pg_end (by omega)]
    · rw [if_neg c]
  · rintro j σ H3 hj ⟨⟨v, rfl⟩, s3, h3⟩
    obtain ⟨u, eu⟩ : ∃ u, ns.length - (j + 1) = u := ⟨_, rfl⟩
    have ev : ((iv ns).length : Int) - 1 + ((j : Nat) : Int) * (-1) = (u : Nat) := by omega
    show (tAsg _ _) _ (List.set _ 3 (some (.int (((iv ns).length : Int) - 1 + ((j : Nat) : Int) * (-1))))) _
    rw [ev]
    have c : u < ns.length := by omega
    have fu := ft u (Nat.zero_le _) c
    have d0 := (okFrom_at hk c).1
    have ei := nxt_int fu
    have gi := nxt_gt ns hh u
    refine ⟨_, rfl, _, rfl, _, rfl, _, _, rfl, rfl, _, rfl, _, rfl, a, _, u, _, rfl, rfl, s3.seq ha, atI_iv (by omega) (by omega), _, _, rfl, rfl, ?_⟩
    rw [Int.toNat_natCast]
    have e2 : (u : Int) + hh - ns.getD u 0 = ((nxt ns hh u : Nat) : Int) := by omega
    have nl : nxt ns hh u < ns.length + hh.toNat + 1 := by omega
    refine ⟨p, _, ((nxt ns hh u : Nat) : Int), _, rfl, congrArg V.int e2, SqL.of h3, atI_iv (by omega) (by rw [tabL_len]; omega), _, _, rfl, rfl, ?_⟩
    rw [Int.toNat_natCast, tabL_getD nl, if_pos (show ns.length ≤ nxt ns hh u + j by omega)]
    refine ⟨_, rfl, _, rfl, p, _, u, u, rfl, rfl, h3, ixN_u (by rw [List.length_map, tabL_len]; omega), ⟨_, rfl⟩, Same.at s3 hpH, ?_⟩
    rw [upd_same]
    congr 2
    refine tabL_set fun l => ?_
    by_cases c2 : l = u
    · subst c2
      rw [if_pos rfl, if_pos (by omega), pg_go c]
    · rw [if_neg c2]
      by_cases c3 : ns.length ≤ l + j
      · rw [if_pos c3, if_pos (by omega)]
      · rw [if_neg c3, if_neg (by omega)]
  · rintro σ H3 ⟨⟨v, rfl⟩, s3, h3⟩
    refine ⟨_, rfl, k p _ hpH s3 ?_⟩
    rw [h3]
    congr 3
    exact tabL_ext fun l _ => if_pos (by omega)
/-- a shortest reading, drawn -/
def sp_law_drawn : Sp := fun vs H Q _ => ∃ (g a : Addr) (ns : List Int) (h n : Int), vs = [.ref g, .ref a, .int h] ∧ SrcV n H g ∧ n ≤ 900000000 ∧ H a = some (.lst (iv ns)) ∧ a ≠ g ∧ isO ns = true ∧ 1 ≤ h ∧ h ≤ 400 ∧ Fit ns h 0 ∧
  ∀ (L : List Nat) (p : Addr) (H' : Hp), Path ns h 0 L → H p = none → SameBut g H H' → SrcV (n + 1000) H' g → H' p = some (.lst (iv (nv (0 :: L)))) → Q (.ref p) H'
theorem ok_law_drawn (T : Txt mg) (h : At K mg "_law_drawn" s_law_drawn)
    (g_law_pages : Has P w K mg base CX0 1 "_law_pages" s_law_pages P_law_pages (sp_law_pages K))
    (g_law_draw : Has P w K mg base CX0 1 "_law_draw" s_law_draw P_law_draw sp_law_draw) :
    Has P w K mg base CX0 2 "_law_drawn" s_law_drawn P_law_drawn sp_law_drawn := by
  refine Has.of h sc_law_drawn (fun vs H Q E h => ?_) (fun _ _ _ _ _ _ us hl => match us, hl with | [_, _, _], _ => rfl) (fun f cdv A outer s H vs Q E room qt h => ?_)
  · obtain ⟨g, a, n, z, t, rfl, _⟩ := h; rfl
  obtain ⟨g, a, ns, hh, n, rfl, hg, nb, ha, nag, ho, h0, h1, ft, k⟩ := h
  obtain ⟨l1, l2, hk⟩ := isO_iff.mp ho
  have lb := last_bd ho
  have el : (iv ns).length = ns.length := List.length_map _
  have ll := left_le (ns := ns) (h := hh) ns.length 0 (by omega)
  refine ⟨_, (pss_cons (ps_set (i := 3) sc_law_drawn.nd rfl (Or.inr rfl) (pe_has g_law_pages (room.mono (by decide)) qt (by rfl) pass0 (pa_cons (pv 1) (pa_cons (pv 2) pa_nil))))
      (pss_cons (ps_set (i := 4) sc_law_drawn.nd rfl (Or.inl rfl) (pe_lst (pa_cons pe_int pa_nil)))
      (pss_cons (ps_while PassesOwn.never (pt_cmpR op_lt (pe_op op_add (pe_ix ix_list (pv 4) (pe_un un_neg pe_int) (fun _ _ => rfl)) (pv 2)) (pe_callB call_len_seq (by rfl) T.len (by decide +kernel) (pa_cons (pv 1) pa_nil)) (nomark _))
        (pss_cons (ps_set (i := 5) sc_law_drawn.nd rfl (Or.inr rfl) (pe_op op_add (pe_ix ix_list (pv 4) (pe_un un_neg pe_int) (fun _ _ => rfl)) (pv 2)))
        (pss_cons (ps_setLc (i := 6) (own := [("other", 7)]) (by rfl) sc_law_drawn.nd rfl rfl (sw_true rfl rfl rfl (by decide +kernel)) (pi_range2 (by rfl) T.range (pa_cons (pe_op op_add (pe_ix ix_list (pv 4) (pe_un un_neg pe_int) (fun _ _ => rfl)) pe_int) (pa_cons (pe_op op_add (pe_op op_sub (pv 5) (pe_ix ix_list (pv 1) (pv 5) (fun _ _ => rfl))) pe_int) pa_nil))) (blkOk_by (own := [("other", 7)]) (N := N_law_drawn) (sc := defScope s_law_drawn) (by decide +kernel)) (fun _ _ _ _ _ => (pg_name (i := 7) sc_law_drawn.nd rfl (Or.inl rfl) (hf := Or.inr rfl))) (fun _ _ _ _ _ => (pts_one (pt_cmpR op_lt (pe_ix (show IxR _ (rIxL K) from by exact ix_list) (pv 3) (pe_op op_add (pv 7) (pv 2)) (fun _ _ => rfl)) (pe_ix (show IxR _ (rIxL K) from by exact ix_list) (pv 3) (pv 5) (fun _ _ => rfl)) (nomark _)))) (fun _ _ _ _ _ => (pv 7)))
        (pss_one (ps_expr (pe_bm PySem.F.plainAttrs_list PySem.F.slot_list_append PySem.F.type_list_append mt_append (pv 4) (pa_cons (pe_ix ix_list (pv 6) (pe_has g_law_draw (room.mono (by decide)) qt (by rfl) pass0 (pa_cons (pv 0) (pa_cons (pe_callB call_len_seq (by rfl) T.len (by decide +kernel) (pa_cons (pv 6) pa_nil)) pa_nil))) (fun _ _ => rfl)) pa_nil)))))))
      (pss_one (ps_ret (pv 4)))))), ?_⟩
  refine ⟨_, rfl, _, rfl, a, ns, hh, rfl, SqL.of ha, ho, h0, h1, ft, fun b H2 hb s2 h2 => ?_⟩
  refine ⟨(by decide : 1 ≤ sizeLine), fun p hp => ?_⟩
  have g2 := hg.same s2
  have npg : p ≠ g := (g2.ne hp).symm
  have nbp : b ≠ p := ne_of_none h2 hp
  have nbg : b ≠ g := fun e => (hg.ne hb) e.symm
  have hpH : H p = none := s2.free hp
  refine ⟨fun m σ H' => ∃ (F : List Nat) (z : Nat) (v5 v6 : Option V), σ = [some (.ref g), some (.ref a), some (.int hh), some (.ref b), some (.ref p), v5, v6, none] ∧ leftF ns hh z = m ∧ F.length + m ≤ 200 ∧ (z : Int) ≤ lastStop ns ∧
      (∀ R, Path ns hh z R → ∃ L, F ++ z :: R = 0 :: L ∧ Path ns hh 0 L) ∧ SameBut g H H' ∧ SrcV (n + (F.length : Int)) H' g ∧ H' b = some (.lst (iv (tabL (ns.length + hh.toNat + 1) (pgN ns hh)))) ∧ H' p = some (.lst (iv (nv (F ++ [z])))),
    ⟨_, [], 0, _, _, rfl, rfl, by show 0 + _ ≤ 200; omega, lb.1, fun R hR => ⟨R, rfl, hR⟩, (SameBut.of s2).own hpH, (g2.new hp).mono (by show n ≤ n + ((0 : Nat) : Int); omega), by rw [upd_ne nbp]; exact h2, upd_same⟩, ?_⟩
  rintro m σ H3 ⟨F, z, v5, v6, rfl, em, fl, zl, pth, b3, g3, h3b, h3p⟩
  have h3a := b3 _ _ ha nag
  refine ⟨_, rfl, _, rfl, p, _, -1, _, rfl, rfl, SqL.of h3p, atI_snoc F z, _, rfl, _, _, rfl, rfl, _, rfl, a, _, rfl, .inl (SqL.of h3a), _, _, rfl, rfl, _, rfl, ite2 (fun c => ?_) (fun c => ?_)⟩
  · have c1 : z + hh.toNat < ns.length := by have := of_decide_eq_true c; omega
    obtain ⟨m', rfl⟩ : ∃ m', m = m' + 1 := ⟨m - 1, by have := leftF_go c1; omega⟩
    have gz := fur_gt ns hh z
    have fi := fur_int ft h0 c1
    have fll := fur_last hk ft h0 c1
    have dl := ft (z + hh.toNat) (Nat.zero_le _) c1
    have d0 := (okFrom_at hk c1).1
    have ix : ((z : Int) + hh).toNat = z + hh.toNat := by omega
    have ix2 : ns.getD ((z : Int) + hh).toNat 0 = ns.getD (z + hh.toNat) 0 := by rw [ix]
    have flen := fol_len hk ft h0 z
    refine ⟨fun σ' H' => ∃ (z' : Nat) (v5 v6 : Option V), σ' = [some (.ref g), some (.ref a), some (.int hh), some (.ref b), some (.ref p), v5, v6, none] ∧ z' ∈ folL ns hh z ∧ SameBut g H H' ∧ SrcV (n + (F.length : Int) + 1) H' g ∧ H' b = some (.lst (iv (tabL (ns.length + hh.toNat + 1) (pgN ns hh)))) ∧ H' p = some (.lst (iv (nv (F ++ [z] ++ [z'])))), ?_, ?_⟩
    · rintro σ' H' ⟨z', w5, w6, rfl, zm, b4, g4, h4b, h4p⟩
      have e1 := fol_left zm
      refine ⟨m', Nat.lt_succ_self _, F ++ [z], z', w5, w6, rfl, by omega, by rw [List.length_append, List.length_singleton]; omega, fol_last hk ft h0 zm, fun R hR => ?_, b4, g4.mono (by rw [List.length_append, List.length_singleton]; omega), h4b, h4p⟩
      obtain ⟨L, eL, pL⟩ := pth (z' :: R) ⟨zm, hR⟩
      exact ⟨L, by rw [← eL, List.append_assoc]; rfl, pL⟩
    refine ⟨_, rfl, _, rfl, p, _, -1, _, rfl, rfl, SqL.of h3p, atI_snoc F z, _, rfl, _, _, rfl, rfl, ?_⟩
    refine ⟨_, rfl, _, rfl, p, _, -1, _, rfl, rfl, SqL.of h3p, atI_snoc F z, _, _, rfl, rfl, _, rfl, _, rfl, _, rfl, a, _, _, _, rfl, rfl, SqL.of h3a, atI_iv (by omega) (by omega), _, _, rfl, rfl, _, _, rfl, rfl, _, _, rfl, ⟨by omega, by omega, by omega, by omega⟩, fun D hD => ?_⟩
    have en : ((z : Int) + hh - ns.getD ((z : Int) + hh).toNat 0 + 1 - ((z : Int) + 1)).toNat = fur ns hh z - z := by
      rw [ix2]; unfold stopAt at fi; omega
    have pz : pgN ns hh (z + hh.toNat) = ((leftF ns hh z : Nat) : Int) := pg_left hk ft h0 z
    refine lcRn (lo := (z : Int) + 1) (n := ((z : Int) + hh - ns.getD ((z : Int) + hh).toNat 0 + 1 - ((z : Int) + 1)).toNat) (fun i => leftF ns hh (z + 1 + i) == leftF ns hh (fur ns hh z)) (fun i => V.int ((z + 1 + i : Nat) : Int)) hD (by omega) (fun x => rfl) ?_ ?_ ?_
    · intro i H4 Q' hi s4 qq
      rw [en] at hi
      have h4b := s4 _ _ h3b
      have stp := left_step hk ft h0 (s := z) (a := z + 1 + i) c1 (by omega) (by omega)
      have lmn := left_mono hk ft h0 ns.length (z + 1 + i) (fur ns hh z) (by omega) (by omega)
      have lg := leftF_go c1
      have ei : ((z : Int) + 1 + (i : Nat) + hh).toNat = z + 1 + i + hh.toNat := by omega
      refine ⟨_, rfl, _, rfl, _, rfl, _, _, rfl, rfl, b, _, _, _, rfl, rfl, SqL.of h4b, atI_iv (by omega) (by rw [tabL_len]; omega), _, rfl, _, rfl, b, _, _, _, rfl, rfl, SqL.of h4b, atI_iv (by omega) (by rw [tabL_len]; omega), _, _, rfl, rfl, ?_⟩
      rw [ei, ix, tabL_getD (by omega), tabL_getD (by omega), pz, pg_left hk ft h0 (z + 1 + i)]
      have ed : decide (((leftF ns hh (z + 1 + i) : Nat) : Int) < ((leftF ns hh z : Nat) : Int)) = (leftF ns hh (z + 1 + i) == leftF ns hh (fur ns hh z)) := by
        by_cases c2 : leftF ns hh (z + 1 + i) = leftF ns hh (fur ns hh z)
        · rw [c2, beq_self_eq_true, decide_eq_true (by omega)]
        · rw [beq_false_of_ne c2, decide_eq_false (by omega)]
      refine ⟨_, rfl, ?_⟩
      rw [ed]
      exact qq H4 (Same.refl _)
    · intro i H4 Q' hi _ s4 qq
      refine ⟨_, rfl, ?_⟩
      rw [show (z : Int) + 1 + (i : Nat) = ((z + 1 + i : Nat) : Int) by omega]
      exact qq H4 (Same.refl _)
    · intro H4 s4 h4
      rw [en] at h4
      have h4D : H4 D = some (.lst (iv (nv (folL ns hh z)))) := by
        rw [h4]
        unfold folL gives
        rw [if_pos c1, List.filter_map]
        simp only [iv, nv, List.map_map]
        rfl
      have h4p := s4 _ _ h3p
      have g4 := g3.same s4
      have nDg : D ≠ g := (g3.ne hD).symm
      have lpos : 0 < (folL ns hh z).length := List.length_pos_of_mem (fur_fol c1)
      have efl : (iv (nv (folL ns hh z))).length = (folL ns hh z).length := by rw [List.length_map, List.length_map]
      refine ⟨_, rfl, .inl ⟨rfl, _, SqL.of h4p⟩, _, rfl, _, rfl, _, rfl, D, _, rfl, .inl (SqL.of h4D), g, _, _, rfl, g4, by omega, by omega, by omega, fun d H5 d0 d1 b5 g5 => ?_⟩
      have h5D := b5 _ _ h4D nDg
      have h5p := b5 _ _ h4p npg
      have dl2 : d.toNat < (folL ns hh z).length := by omega
      refine ⟨D, _, d, _, rfl, rfl, SqL.of h5D, atI_iv d0 (by rw [List.length_map]; omega), p, _, _, rfl, rfl, h5p, small_line (by rw [List.length_map, List.length_map, List.length_append, List.length_singleton]; omega), ?_⟩
      rw [nv_getD]
      have mem := getD_mem dl2
      generalize (folL ns hh z).getD d.toNat 0 = z' at mem ⊢
      refine ⟨z', _, _, rfl, mem, ((b3.trans (SameBut.of s4)).trans b5).own hpH, (g5.upd npg.symm).mono (by omega), ?_, ?_⟩
      · rw [upd_ne nbp]; exact b5 _ _ (s4 _ _ h3b) nbg
      · rw [upd_same, nv_snoc (F ++ [z]), iv_snoc]
  · have c1 : ns.length ≤ z + hh.toNat := by
      rcases Nat.lt_or_ge (z + hh.toNat) ns.length with q | q
      · exact (c (decide_eq_true (by omega))).elim
      · exact q
    obtain ⟨L, eL, pL⟩ := pth [] (leftF_end c1)
    refine ⟨_, rfl, k L p _ pL hpH b3 (g3.mono (by omega)) ?_⟩
    rw [h3p, eL]
end
end SH

namespace SH
open PySem PySem.Spec PyProof.Rows L2
theorem asc_eq : ∀ {l1 l2 : List Int}, l1.Pairwise (· < ·) → l2.Pairwise (· < ·) → (∀ k : Int, k ∈ l1 ↔ k ∈ l2) → l1 = l2
  | [], [], _, _, _ => rfl
  | [], y :: t, _, _, h => (List.not_mem_nil ((h y).mpr List.mem_cons_self)).elim
  | x :: r, [], _, _, h => (List.not_mem_nil ((h x).mp List.mem_cons_self)).elim
  | x :: r, y :: t, p1, p2, h => by
    obtain ⟨a1, a2⟩ := List.pairwise_cons.mp p1
    obtain ⟨b1, b2⟩ := List.pairwise_cons.mp p2
    have e : x = y := by
      rcases List.mem_cons.mp ((h x).mp List.mem_cons_self) with e | e
      · exact e
      · rcases List.mem_cons.mp ((h y).mpr List.mem_cons_self) with e2 | e2
        · exact e2.symm
        · have := b1 x e
          have := a1 y e2
          omega
    subst e
    rw [asc_eq a2 b2 fun k => ⟨fun q => ?_, fun q => ?_⟩]
    · rcases List.mem_cons.mp ((h k).mp (List.mem_cons_of_mem _ q)) with e | e
      · have := a1 k q
        omega
      · exact e
    · rcases List.mem_cons.mp ((h k).mpr (List.mem_cons_of_mem _ q)) with e | e
      · have := b1 k q
        omega
      · exact e
theorem ones_iff (n : Nat) (keep : Nat → Bool) : ∃ L : List Int, gives n keep (fun _ => V.int 1) = iv L ∧ (L = [] ↔ ∀ i, i < n → keep i = false) := by
  induction n with
  | zero => exact ⟨[], rfl, fun _ i hi => absurd hi (Nat.not_lt_zero _), fun _ => rfl⟩
  | succ n ih =>
    obtain ⟨L, e, q⟩ := ih
    rw [gives_succ]
    cases c : keep n with
    | false =>
      refine ⟨L, by simpa using e, ?_⟩
      rw [q]
      constructor
      · intro h i hi
        rcases Nat.lt_or_ge i n with z | z
        · exact h i z
        · obtain rfl : i = n := by omega
          exact c
      · exact fun h i hi => h i (by omega)
    | true =>
      refine ⟨L ++ [1], by rw [e, iv_snoc]; rfl, ?_⟩
      constructor
      · intro h
        simp at h
      · intro h
        have := h n (Nat.lt_succ_self _)
        rw [c] at this
        cases this
abbrev s_law_is_shortest : Stmt := topS 39
abbrev N_law_is_shortest : List Str := ["made", "tall", "thing", "last", "one"]
abbrev P_law_is_shortest : List Str := ["made", "tall", "thing"]
theorem sc_law_is_shortest : FnScope N_law_is_shortest P_law_is_shortest (defScope s_law_is_shortest) := ⟨rfl, rfl, rfl, by decide +kernel, rfl, by decide +kernel, by decide +kernel⟩
def oddD (d : PyData) : Bool := match d with | .int _ => false | _ => true
theorem ints_of : ∀ {ds : List PyData}, (∀ i, i < ds.length → oddD (ds.getD i .none) = false) → ∃ L : List Int, ds = L.map PyData.int
  | [], _ => ⟨[], rfl⟩
  | d :: r, h => by
    obtain ⟨L, rfl⟩ := ints_of (ds := r) fun i hi => h (i + 1) (Nat.succ_lt_succ hi)
    have := h 0 (Nat.succ_pos _)
    cases d with
    | int v => exact ⟨v :: L, rfl⟩
    | _ => exact Bool.noConfusion (show true = false from this)
theorem short_ints {ns : List Int} {h : Int} {d : PyData} (s : IsShort ns h d) : ∃ X : List Int, d = dI X ∧ IsShort ns h (dI X) := by
  obtain ⟨L, rfl, p⟩ := s
  exact ⟨_, rfl, L, rfl, p⟩
theorem short_odd {ns : List Int} {h : Int} {ds : List PyData} {i : Nat} (hi : i < ds.length) (o : oddD (ds.getD i .none) = true) : ¬ IsShort ns h (.list ds) := by
  rintro ⟨L, e, _⟩
  have e' : ds = (nv (0 :: L)).map PyData.int := by injection e
  subst e'
  rw [List.length_map] at hi
  rw [List.getD_eq_getElem?_getD, List.getElem?_map, List.getElem?_eq_getElem hi] at o
  cases o
theorem pages_len {ns : List Int} {h : Int} (ho : isO ns = true) (ft : Fit ns h 0) (h1 : 1 ≤ h) : (pagesL ns h 0).length = leftF ns h 0 + 1 := by
  obtain ⟨l1, l2, hk⟩ := isO_iff.mp ho
  have d0 := okFrom_at hk (i := 0) (by omega)
  have s0 : stopAt ns 0 = ((0 : Nat) : Int) := by
    have := d0.2.2 rfl
    unfold stopAt
    omega
  have e := pages_furL hk ft h1 ns.length 0 0 (by omega) (by omega) s0
  have := congrArg List.length e
  rw [List.length_map, List.length_map, List.length_cons, path_len (furL_path (ns := ns) (h := h) rfl)] at this
  exact this
/-- a list of ints is a shortest reading when .. -/
theorem short_asc {ns : List Int} {h : Int} (ho : isO ns = true) (ft : Fit ns h 0) (h1 : 1 ≤ h) {X : List Int} (s : IsShort ns h (dI X)) : ascB (lastStop ns) 0 X = true ∧ X.length = leftF ns h 0 + 1 ∧ walkR ns h 0 X = true := by
  obtain ⟨l1, l2, hk⟩ := isO_iff.mp ho
  obtain ⟨L, e, p⟩ := s
  have e2 : X = nv (0 :: L) := by rw [← intsD_dI X, e, intsD_dI]
  subst e2
  have r := path_read ho ft h1 p
  unfold readD at r
  rw [Bool.and_eq_true, show ascXD (lastStop ns) (dI (nv (0 :: L))) = ascB (lastStop ns) 0 (nv (0 :: L)) from ascD_ints _ _ _] at r
  have a := r.1
  obtain ⟨asc, bd⟩ := ascB_iff.mp a
  refine ⟨a, by rw [List.length_map, List.length_cons, path_len p], (walk_iff hk h1 (Int.le_refl 0) asc fun v hv => by have := bd v hv; omega).mpr fun j _ jl => ?_⟩
  have s0 := (stopAt_nn hk jl).1
  obtain ⟨b, hb, q1, q2⟩ := path_cov hk ft h1 p j jl (by omega)
  exact ⟨_, List.mem_map.mpr ⟨b, hb, rfl⟩, q1, by omega⟩
theorem short_iff {ns : List Int} {h : Int} (ho : isO ns = true) (ft : Fit ns h 0) (h1 : 1 ≤ h) {X : List Int} (a : ascB (lastStop ns) 0 X = true) :
    (X.length = leftF ns h 0 + 1 ∧ walkR ns h 0 X = true) ↔ IsShort ns h (dI X) := by
  obtain ⟨l1, l2, hk⟩ := isO_iff.mp ho
  obtain ⟨asc, bd⟩ := ascB_iff.mp a
  constructor
  · rintro ⟨hl, wk⟩
    have cv := (walk_iff hk h1 (Int.le_refl 0) asc fun v hv => by have := bd v hv; omega).mp wk
    obtain ⟨L, e, p⟩ := short_path ho ft h1 a (fun j hj => by
      obtain ⟨v, hv, q1, q2⟩ := cv j (by omega) hj
      unfold shB
      rw [List.any_eq_true]
      refine ⟨v, hv, ?_⟩
      rw [Bool.and_eq_true, decide_eq_true_eq, decide_eq_true_eq]
      have := bd v hv
      refine ⟨?_, q1⟩
      unfold loS
      split <;> omega) hl
    exact ⟨L, congrArg dI e, p⟩
  · intro s
    exact (short_asc ho ft h1 s).2
section
variable {P : Program} {w : World} {K : PySem.W.Frag} {mg : Str → Option Value} {base : Heap}
def sp_is_short : Sp := fun vs H Q _ => ∃ (a : Addr) (ns : List Int) (h : Int) (x : V) (d : PyData) (as : List Addr), vs = [.ref a, .int h, x] ∧ H a = some (.lst (iv ns)) ∧ isO ns = true ∧ 1 ≤ h ∧ h ≤ 400 ∧ Fit ns h 0 ∧ Dx H x d as ∧ (∀ ds, d = .list ds → ds.length ≤ 1000) ∧
  (IsShort ns h d → RetV Q H (.bl true)) ∧ (¬ IsShort ns h d → RetV Q H (.bl false))
theorem ok_law_is_shortest (T : Txt mg) (h : At K mg "_law_is_shortest" s_law_is_shortest)
    (g_law_fewest : Has P w K mg base CX0 1 "_law_fewest" s_law_fewest P_law_fewest (sp_law_fewest K))
    (g_law_is_reading : Has P w K mg base CX0 1 "_law_is_reading" s_law_is_reading P_law_is_reading (sp_law_is_reading K)) :
    Has P w K mg base CX0 2 "_law_is_shortest" s_law_is_shortest P_law_is_shortest sp_is_short := by
  refine Has.of h sc_law_is_shortest (fun vs H Q E h => ?_) (fun _ _ _ _ _ _ us hl => match us, hl with | [_, _, _], _ => rfl) (fun f cdv A outer s H vs Q E room qt h => ?_)
  · obtain ⟨a, ns, h, x, d, as, rfl, _⟩ := h; rfl
  obtain ⟨a, ns, hh, x, d, as, rfl, ha, ho, h0, h1, ft, hd, hl, k1, k2⟩ := h
  obtain ⟨l1, l2, hk⟩ := isO_iff.mp ho
  have eln : (iv ns).length = ns.length := List.length_map _
  refine ⟨_, (pss_cons (ps_if (pt_not (pt_val (pe_callB call_isX (by rfl) T.isinstance (by decide +kernel) (pa_cons (pv 2) (pa_cons (pe_bltn (v := .ty "list") (u := .type "list") (by rfl) T.tlist (by decide +kernel) rfl) pa_nil)))))
        (pss_one (ps_ret pe_bl))
        pss_nil)
      (pss_cons (ps_if (pt_cmpR (op_neD room.units) (pe_lc (own := [("one", 4)]) (by rfl) sc_law_is_shortest.nd (pi_list (pv 2)) (blkOk_by (own := [("one", 4)]) (N := N_law_is_shortest) (sc := defScope s_law_is_shortest) (by decide +kernel)) (fun _ _ _ _ _ => (pg_name (i := 4) sc_law_is_shortest.nd rfl (Or.inl rfl) (hf := Or.inr rfl))) (fun _ _ _ _ _ => (pts_one (PW.pt (pw_or (pt_not (pt_val (pe_callB call_isX (by rfl) T.isinstance (by decide +kernel) (pa_cons (pv 4) (pa_cons (pe_bltn (v := .ty "int") (u := .type "int") (by rfl) T.tint (by decide +kernel) rfl) pa_nil))))) (pw_or1 (pt_val (pe_callB call_isX (by rfl) T.isinstance (by decide +kernel) (pa_cons (pv 4) (pa_cons (pe_bltn (v := .ty "bool") (u := .type "bool") (by rfl) T.bool (by decide +kernel) rfl) pa_nil))))))))) (fun _ _ _ _ _ => pe_int)) (pe_lst pa_nil) (nomark _))
        (pss_one (ps_ret pe_bl))
        pss_nil)
      (pss_cons (ps_set (i := 3) sc_law_is_shortest.nd rfl (Or.inr rfl) (pe_op op_sub (pe_op op_sub (pe_callB call_len_seq (by rfl) T.len (by decide +kernel) (pa_cons (pv 0) pa_nil)) pe_int) (pe_ix ix_list (pv 0) (pe_un un_neg pe_int) (fun _ _ => rfl))))
      (pss_cons (ps_if (PW.pt (pw_or (pt_cmpR (op_neD room.units) (pe_callB (cr_sortedN rfl) (by rfl) T.sorted (by decide +kernel) (pa_cons (pe_callTy (cr_setOfI rfl) (by rfl) T.set (by decide +kernel) (pa_cons (pv 2) pa_nil)) pa_nil)) (pv 2) (nomark _)) (pw_or1 (pt_cmpR (op_neD room.units) (pe_lc (own := [("one", 4)]) (by rfl) sc_law_is_shortest.nd (pi_list (pv 2)) (blkOk_by (own := [("one", 4)]) (N := N_law_is_shortest) (sc := defScope s_law_is_shortest) (by decide +kernel)) (fun _ _ _ _ _ => (pg_name (i := 4) sc_law_is_shortest.nd rfl (Or.inl rfl) (hf := Or.inr rfl))) (fun _ _ _ _ _ => (pts_one (pt_not (pt_chain op_le op_le pe_int (pv 4) (pv 3))))) (fun _ _ _ _ _ => pe_int)) (pe_lst pa_nil) (nomark _)))))
        (pss_one (ps_ret pe_bl))
        pss_nil)
      (pss_one (ps_ret (pe_and (pe_cmpR op_eq (pe_callB call_len_seq (by rfl) T.len (by decide +kernel) (pa_cons (pv 2) pa_nil)) (pe_has g_law_fewest (room.mono (by decide)) qt (by rfl) pass0 (pa_cons (pv 0) (pa_cons (pv 1) pa_nil))) (nomark _)) (pe_one (pe_has g_law_is_reading (room.mono (by decide)) qt (by rfl) pass0 (pa_cons (pv 0) (pa_cons (pv 1) (pa_cons (pv 2) pa_nil)))))))))))), ?_⟩
  refine ⟨_, rfl, x, "list", d, as, _, rfl, hd, kit_list d, _, rfl, ?_⟩
  cases hd with
  | @lst p xs ds as hp hx =>
    refine iteF ?_
    have ld := hl ds rfl
    have lx := hx.len
    refine ⟨_, rfl, p, rfl, ⟨_, SqL.of hp⟩, fun D hD => lcLn (xs := xs) (fun i => oddD (ds.getD i .none)) (fun _ => .int 1) (SqL.of hp) hD (by omega) (fun _ => rfl) ?_ ?_ ?_⟩
    · intro i y H2 Q' hi s2 q2
      obtain ⟨e, bs, he, hye⟩ := hx.at hi
      have ee : ds.getD i .none = e := by rw [List.getD_eq_getElem?_getD, he]; rfl
      rw [ee] at q2
      have hy2 := hye.same s2
      refine ⟨_, rfl, y, "int", e, bs, _, rfl, hy2, kit_int e, _, rfl, ?_⟩
      cases e with
      | int v => exact iteF ⟨_, rfl, y, "bool", _, bs, _, rfl, hy2, kit_bool _, _, rfl, q2 _ (Same.refl _)⟩
      | bool b => exact iteF ⟨_, rfl, y, "bool", _, bs, _, rfl, hy2, kit_bool _, _, rfl, q2 _ (Same.refl _)⟩
      | none => exact iteT (q2 _ (Same.refl _))
      | str b => exact iteT (q2 _ (Same.refl _))
      | list b => exact iteT (q2 _ (Same.refl _))
      | tuple b => exact iteT (q2 _ (Same.refl _))
      | dict b => exact iteT (q2 _ (Same.refl _))
    · intro i y H2 Q' hi _ s2 q2
      exact q2 _ (Same.refl _)
    intro H2 s2 h2
    obtain ⟨L1, e1, iff1⟩ := ones_iff xs.length (fun i => oddD (ds.getD i .none))
    rw [e1] at h2
    refine ⟨(by decide : 0 ≤ sizeLine), fun u1 n1 => neD_ints (ns := L1) (ms := []) (SqL.of (Same.new n1 _ _ h2)) (SqL.of upd_same) ⟨_, rfl, ite2 (fun c => ?_) (fun c => ?_)⟩⟩
    · have c1 : ¬ L1 = [] := by simpa using c
      rw [iff1] at c1
      obtain ⟨i, hi, hc⟩ : ∃ i, i < xs.length ∧ ¬ oddD (ds.getD i .none) = false := by
        refine Classical.byContradiction fun n => c1 fun i hi => ?_
        exact Classical.byContradiction fun z => n ⟨i, hi, z⟩
      exact k2 (short_odd (i := i) (by omega) (by simpa using hc)) _ (s2.trans (Same.new n1))
    have c1 : L1 = [] := by simpa using c
    obtain ⟨X, rfl⟩ := ints_of (fun i hi => iff1.mp c1 i (by omega))
    obtain rfl : xs = iv X := dx_iv hx
    have s02 := s2.trans (Same.new (o := .lst []) n1)
    generalize upd H2 u1 (.lst []) = H3 at s02 ⊢
    rw [List.length_map] at ld
    have elL : (iv X).length = X.length := List.length_map _
    have hp3 := s02 _ _ hp
    have ha3 := s02 _ _ ha
    -- last
    have nn : ns ≠ [] := by intro z; rw [z] at l1; exact absurd l1 (by decide)
    refine ⟨_, rfl, a, _, rfl, .inl (SqL.of ha3), _, _, rfl, rfl, _, rfl, _, rfl, a, iv ns, -1, _, rfl, rfl, SqL.of ha3, atI_iv_last nn, _, _, rfl, rfl, ?_⟩
    have eLs : ((iv ns).length : Int) - 1 - ns.getD (ns.length - 1) 0 = lastStop ns := by
      rw [eln]
      show _ = ((ns.length - 1 : Nat) : Int) - ns.getD (ns.length - 1) 0
      omega
    show gName 3 (V.int (((iv ns).length : Int) - 1 - ns.getD (ns.length - 1) 0)) _ _ _
    rw [eLs]
    -- ascending
    refine ⟨_, rfl, p, X, rfl, SqL.of hp3, by omega, fun u n hu hn => ⟨u, _, n, rfl, upd_same, fun Ms pp asc mem len hpp => ?_⟩⟩
    have s05 := (s02.trans (Same.new (o := SetO (cxOf CX0 P w K mg base N_law_is_shortest "_law_is_shortest" (defScope s_law_is_shortest) f cdv A outer s H E).nox.w u (fun j => decide (j ∈ X)) n) hu)).trans (Same.new (o := .lst (iv Ms)) hpp)
    have m5 := upd_same (H := upd H3 u (SetO (cxOf CX0 P w K mg base N_law_is_shortest "_law_is_shortest" (defScope s_law_is_shortest) f cdv A outer s H E).nox.w u (fun j => decide (j ∈ X)) n)) (a := pp) (o := .lst (iv Ms))
    refine ⟨_, rfl, neD_ints (ns := Ms) (ms := X) (SqL.of m5) (SqL.of (s05 _ _ hp)) ⟨_, rfl, ?_⟩⟩
    have mem2 : ∀ k : Int, k ∈ Ms ↔ k ∈ X := fun k => by rw [mem k]; exact decide_eq_true_iff
    have pwi : X = Ms ↔ X.Pairwise (· < ·) := ⟨fun e => by rw [e]; exact asc, fun pw => asc_eq pw asc fun k => (mem2 k).symm⟩
    have no : ascB (lastStop ns) 0 X = false → ¬ IsShort ns hh (.list (X.map PyData.int)) := fun e q => by
      have := (short_asc ho ft h0 (X := X) q).1
      rw [e] at this
      exact Bool.false_ne_true this
    generalize upd (upd H3 u (SetO (cxOf CX0 P w K mg base N_law_is_shortest "_law_is_shortest" (defScope s_law_is_shortest) f cdv A outer s H E).nox.w u (fun j => decide (j ∈ X)) n)) pp (.lst (iv Ms)) = H6 at s05 ⊢
    clear m5
    refine ite2 (fun c => ?_) (fun c => ?_)
    · refine k2 (no ?_) _ s05
      have c1 : ¬ Ms = X := by simpa using c
      cases cc : ascB (lastStop ns) 0 X with
      | false => rfl
      | true => exact (c1 (pwi.mpr (ascB_iff.mp cc).1).symm).elim
    have c3 : Ms = X := by simpa using c
    have pw := pwi.mp c3.symm
    have hp6 := s05 _ _ hp
    have ha6 := s05 _ _ ha
    -- all are scroll positions
    refine ⟨_, rfl, p, rfl, ⟨_, SqL.of hp6⟩, fun D hD => lcLn (xs := iv X) (fun i => !(decide (0 ≤ X.getD i 0) && decide (X.getD i 0 ≤ lastStop ns))) (fun _ => .int 1) (SqL.of hp6) hD (by omega) (fun _ => rfl) ?_ ?_ ?_⟩
    · intro i y H4 Q' hi s4 q4
      have il : i < X.length := by have := (List.getElem?_eq_some_iff.mp hi).1; rwa [elL] at this
      rw [iv_at il] at hi
      cases hi
      generalize X.getD i 0 = v at q4 ⊢
      refine ⟨_, rfl, _, _, rfl, rfl, _, rfl, ite2 (fun c => ?_) (fun c => ?_)⟩
      · have c1 := of_decide_eq_true c
        rw [decide_eq_true c1, Bool.true_and] at q4
        exact ⟨_, rfl, _, _, rfl, rfl, _, rfl, q4 _ (Same.refl _)⟩
      · have c1 : ¬ 0 ≤ v := fun z => c (decide_eq_true z)
        rw [decide_eq_false c1, Bool.false_and] at q4
        exact ⟨_, rfl, q4 _ (Same.refl _)⟩
    · intro i y H4 Q' hi _ s4 q4
      exact q4 _ (Same.refl _)
    intro H4 s4 h4
    obtain ⟨L2, e2, iff2⟩ := ones_iff (iv X).length (fun i => !(decide (0 ≤ X.getD i 0) && decide (X.getD i 0 ≤ lastStop ns)))
    rw [e2] at h4
    refine ⟨(by decide : 0 ≤ sizeLine), fun u2 n2 => neD_ints (ns := L2) (ms := []) (SqL.of (Same.new n2 _ _ h4)) (SqL.of upd_same) ⟨_, rfl, ite2 (fun c => ?_) (fun c => ?_)⟩⟩
    · refine k2 (no ?_) _ ((s05.trans s4).trans (Same.new n2))
      have c1 : ¬ L2 = [] := by simpa using c
      rw [iff2] at c1
      obtain ⟨i, hi, hc⟩ : ∃ i, i < (iv X).length ∧ ¬ (!(decide (0 ≤ X.getD i 0) && decide (X.getD i 0 ≤ lastStop ns))) = false := by
        refine Classical.byContradiction fun n => c1 fun i hi => ?_
        exact Classical.byContradiction fun z => n ⟨i, hi, z⟩
      cases cc : ascB (lastStop ns) 0 X with
      | false => rfl
      | true =>
        exfalso
        have gm : X.getD i 0 ∈ X := by rw [List.getD_eq_getElem?_getD, List.getElem?_eq_getElem (by omega)]; exact List.getElem_mem _
        have := (ascB_iff.mp cc).2 _ gm
        rw [decide_eq_true (by omega), decide_eq_true (by omega)] at hc
        exact hc rfl
    have c2 : L2 = [] := by simpa using c
    have inr : ∀ v ∈ X, 0 ≤ v ∧ v ≤ lastStop ns := fun v hv => by
      obtain ⟨i, hi, rfl⟩ := List.getElem_of_mem hv
      have := iff2.mp c2 i (by omega)
      rw [List.getD_eq_getElem?_getD, List.getElem?_eq_getElem hi, Option.getD_some] at this
      simpa using this
    have s06 := (s05.trans s4).trans (Same.new (o := .lst []) n2)
    generalize upd H4 u2 (.lst []) = H7 at s06 ⊢
    have asB : ascB (lastStop ns) 0 X = true := ascB_iff.mpr ⟨pw, inr⟩
    have si := short_iff ho ft h0 asB
    have hp7 := s06 _ _ hp
    have ha7 := s06 _ _ ha
    have pgl := pages_len ho ft h0
    refine ⟨_, rfl, p, _, rfl, .inl (SqL.of hp7), _, rfl, _, rfl, a, ns, hh, rfl, SqL.of ha7, ft, fun H8 s8 => ?_⟩
    refine ⟨rfl, _, rfl, ?_⟩
    have eq : (V.int ((iv X).length : Nat) = V.int ((pagesL ns hh 0).length : Nat)) ↔ X.length = leftF ns hh 0 + 1 := by
      rw [elL, pgl]
      constructor
      · intro z; injection z with z; omega
      · intro z; rw [z]
    refine ite2 (fun c => ?_) (fun c => ?_)
    · have c1 := eq.mp (of_decide_eq_true c)
      refine ⟨_, rfl, _, rfl, _, rfl, a, p, ns, X, hh, rfl, SqL.of (s8 _ _ ha7), SqL.of (s8 _ _ hp7), (fun v hv => (inr v hv).1), h0, ?_⟩
      cases wk : walkR ns hh 0 X with
      | true => exact k1 (si.mp ⟨c1, wk⟩) _ (s06.trans s8)
      | false => exact k2 (fun z => by rw [(si.mpr z).2] at wk; cases wk) _ (s06.trans s8)
    · have c1 : ¬ X.length = leftF ns hh 0 + 1 := fun z => c (decide_eq_true (eq.mpr z))
      exact k2 (fun z => c1 (si.mpr z).1) _ (s06.trans s8)
  | _ => exact iteT (k2 (fun ⟨_, e, _⟩ => by cases e) _ (Same.refl _))
end
end SH

namespace SH
open PySem PySem.Spec PyProof.Rows L2
def noDict (d : PyData) (h : d.hasDict = false) (as : List Addr) : d.hasDict = true → sysModules ∉ as := fun h' => by rw [h] at h'; cases h'
theorem cut_to {L : List Int} {t : Nat} (h : t ≤ L.length) : L2.cutV (iv L) none (some (t : Int)) = iv (L.take t) := by
  have e : (iv L).length = L.length := List.length_map _
  unfold L2.cutV
  rw [e, HT.sIx_none, HT.sIx_nat, Nat.min_eq_left h, List.drop_zero, Nat.sub_zero]
  unfold iv
  rw [List.map_take]
theorem cut_from {L : List Int} (t : Nat) : L2.cutV (iv L) (some ((t : Int) + 1)) none = iv (L.drop (t + 1)) := by
  rw [cutV_iv, cutI_from _ (by omega), show ((t : Int) + 1).toNat = t + 1 by omega]
theorem cut_at {L : List Int} (t : Nat) : L2.cutV (iv L) (some (t : Int)) none = iv (L.drop t) := by
  rw [cutV_iv, cutI_from _ (by omega), Int.toNat_natCast]
theorem gives_map (ns : List Int) (f : Int → Int) : gives ns.length (fun _ => true) (fun i => V.int (f (ns.getD i 0))) = iv (ns.map f) := by
  rw [gives_all]
  unfold iv
  rw [List.map_map]
  refine List.ext_getElem (by simp) fun i h1 h2 => ?_
  simp only [List.getElem_map, List.getElem_range, Function.comp_apply]
  rw [List.getD_eq_getElem?_getD, List.getElem?_eq_getElem (by simpa using h2)]
  rfl
/-- a value that can be shown, apart from the pool -/
def GoodG (H : Hp) (g : Addr) (x : V) : Prop := ∃ d as, Dx H x d as ∧ (∀ ds, d = .list ds → ds.length ≤ 1000) ∧ Fits 40 2000000 d ∧ (d.hasDict = true → sysModules ∉ as) ∧ g ∉ as
theorem GoodG.same {H H' : Hp} {g : Addr} {x : V} (h : GoodG H g x) (s : Same H H') : GoodG H' g x := by
  obtain ⟨d, as, a, b⟩ := h
  exact ⟨d, as, a.same s, b⟩
theorem GoodG.but {H H' : Hp} {g : Addr} {x : V} (h : GoodG H g x) (s : SameBut g H H') : GoodG H' g x := by
  obtain ⟨d, as, a, b, c, e, f⟩ := h
  exact ⟨d, as, a.but s f, b, c, e, f⟩
theorem bound_lt {v : Int} (h : v.natAbs < 2 ^ 128) : v.natAbs < 2 ^ 1900 := Nat.lt_of_lt_of_le h (Nat.pow_le_pow_right (by decide) (by decide))
theorem GoodG.ints {H : Hp} {g p : Addr} {ms : List Int} (e : H p = some (.lst (iv ms))) (n : p ≠ g) (l : ms.length ≤ 1000) (b : ∀ v ∈ ms, v.natAbs < 2 ^ 128) : GoodG H g (.ref p) :=
  ⟨_, _, dx_dI e, fun ds he => by cases he; rw [List.length_map]; exact l, (fit_list (fit_ints fun v hv => bound_lt (b v hv)) (by rw [List.length_map]; exact l)).mono (by decide) (by decide), noDict _ (by
    show PyData.hasDictAll (ms.map PyData.int) = false
    exact dict_ints _) _, fun z => n (List.mem_singleton.mp z).symm⟩
theorem GoodG.tup {H : Hp} {g p : Addr} {ms : List Int} (e : H p = some (.tup (iv ms))) (n : p ≠ g) (l : ms.length ≤ 1000) (b : ∀ v ∈ ms, v.natAbs < 2 ^ 128) : GoodG H g (.ref p) :=
  ⟨_, _, .tup e (dx_ints ms), (fun ds he => nomatch he), (fit_tup (fit_ints fun v hv => bound_lt (b v hv)) (by rw [List.length_map]; exact l)).mono (by decide) (by decide), noDict _ (by
    show PyData.hasDictAll (ms.map PyData.int) = false
    exact dict_ints _) _, fun z => n (List.mem_singleton.mp z).symm⟩
theorem GoodG.nest {H : Hp} {g q b : Addr} {ms : List Int} (e : H q = some (.lst [.ref b])) (hb : H b = some (.lst (iv ms))) (n : q ≠ g) (n2 : b ≠ g) (l : ms.length ≤ 400) (bd : ∀ v ∈ ms, v.natAbs < 2 ^ 128) : GoodG H g (.ref q) :=
  ⟨_, _, .lst e (dx_one (dx_dI hb)), fun ds he => (by cases he; exact (by decide : 1 ≤ 1000)), (fit_list (n := 1) (L := 400 * (1921 + 2) + 3) (m := 1) (fun d hd => by
    rw [List.mem_singleton.mp hd]
    exact fit_list (fit_ints fun v hv => bound_lt (bd v hv)) (by rw [List.length_map]; exact l)) (Nat.le_refl _)).mono (by decide) (by decide), noDict _ (by
    show (PyData.hasDictAll (ms.map PyData.int) || false) = false
    rw [dict_ints]; rfl) _, fun z => by
    rcases List.mem_cons.mp z with z | z
    · exact n z.symm
    · exact n2 (List.mem_singleton.mp z).symm⟩
/-- a value that stands in a list -/
def OddG (H : Hp) (g : Addr) (x : V) : Prop := ∃ d as, Dx H x d as ∧ Fits 1 1926 d ∧ d.hasDict = false ∧ g ∉ as
theorem OddG.same {H H' : Hp} {g : Addr} {x : V} (h : OddG H g x) (s : Same H H') : OddG H' g x := by
  obtain ⟨d, as, a, b⟩ := h
  exact ⟨d, as, a.same s, b⟩
theorem GoodG.mid {H : Hp} {g p : Addr} {A B : List Int} {x : V} (h : OddG H g x) (e : H p = some (.lst (iv A ++ [x] ++ iv B))) (n : p ≠ g) (l : A.length + B.length ≤ 900) (ba : ∀ v ∈ A, v.natAbs < 2 ^ 128) (bb : ∀ v ∈ B, v.natAbs < 2 ^ 128) : GoodG H g (.ref p) := by
  obtain ⟨d, as, h1, h2, h3, h4⟩ := h
  have hx := ((dx_ints (H := H) A).append (dx_one h1)).append (dx_ints B)
  refine ⟨_, _, .lst e hx, fun ds he => ?_, (fit_list (n := 1) (L := 1926) (m := 901) (fun y hy => ?_) ?_).mono (by decide) (by decide), noDict _ ?_ _, fun z => ?_⟩
  · cases he
    rw [List.length_append, List.length_append, List.length_map, List.length_map]
    show _ + 1 + _ ≤ 1000
    omega
  · rcases List.mem_append.mp hy with hy | hy
    · rcases List.mem_append.mp hy with hy | hy
      · exact (fit_ints (fun v hv => bound_lt (ba v hv)) y hy).mono (by decide) (by decide)
      · rw [List.mem_singleton.mp hy]; exact h2
    · exact (fit_ints (fun v hv => bound_lt (bb v hv)) y hy).mono (by decide) (by decide)
  · rw [List.length_append, List.length_append, List.length_map, List.length_map]
    show _ + 1 + _ ≤ 901
    omega
  · show PyData.hasDictAll (A.map PyData.int ++ [d] ++ B.map PyData.int) = false
    rw [hasDict_app, hasDict_app, dict_ints, dict_ints, Bool.or_false, Bool.false_or]
    show (d.hasDict || false) = false
    rw [h3]
    rfl
  · rw [List.append_nil, List.nil_append] at z
    rcases List.mem_cons.mp z with m | m
    · exact n m.symm
    · exact h4 m
/-- the state while values are made -/
structure Kp (H0 H : Hp) (g b : Addr) (L : List Int) (n : Int) (o : V) (its : List V) (ps : List (Addr × List V)) : Prop where
  sb : SameBut g H0 H
  sv : SrcV n H g
  hb : H b = some (.lst (iv L))
  od : OddG H g o
  gw : ∀ x ∈ its, GoodG H g x
  ls : ∀ x ∈ ps, H x.1 = some (.lst x.2)
theorem Kp.new {H0 H : Hp} {g b p : Addr} {L : List Int} {n : Int} {o : V} {its : List V} {ps : List (Addr × List V)} {h : HO} (k : Kp H0 H g b L n o its ps) (e : H p = none) : Kp H0 (upd H p h) g b L n o its ps :=
  ⟨k.sb.new e, k.sv.new e, Same.new e _ _ k.hb, k.od.same (Same.new e), fun x hx => (k.gw x hx).same (Same.new e), fun x hx => Same.new e _ _ (k.ls x hx)⟩
theorem Kp.same {H0 H H' : Hp} {g b : Addr} {L : List Int} {n : Int} {o : V} {its : List V} {ps : List (Addr × List V)} (k : Kp H0 H g b L n o its ps) (e : Same H H') : Kp H0 H' g b L n o its ps :=
  ⟨k.sb.trans (SameBut.of e), k.sv.same e, e _ _ k.hb, k.od.same e, fun x hx => (k.gw x hx).same e, fun x hx => e _ _ (k.ls x hx)⟩
theorem Kp.add {H0 H : Hp} {g b : Addr} {L : List Int} {n : Int} {o x : V} {its : List V} {ps : List (Addr × List V)} (k : Kp H0 H g b L n o its ps) (h : GoodG H g x) : Kp H0 H g b L n o (x :: its) ps :=
  ⟨k.sb, k.sv, k.hb, k.od, fun y hy => by
    rcases List.mem_cons.mp hy with rfl | hy
    · exact h
    · exact k.gw y hy, k.ls⟩
theorem Kp.keep {H0 H : Hp} {g b p : Addr} {L : List Int} {n : Int} {o : V} {its xs : List V} {ps : List (Addr × List V)} (k : Kp H0 H g b L n o its ps) (h : H p = some (.lst xs)) : Kp H0 H g b L n o its ((p, xs) :: ps) :=
  ⟨k.sb, k.sv, k.hb, k.od, k.gw, fun y hy => by
    rcases List.mem_cons.mp hy with rfl | hy
    · exact h
    · exact k.ls y hy⟩
theorem Kp.ng {H0 H : Hp} {g b p : Addr} {L : List Int} {n : Int} {o : V} {its : List V} {ps : List (Addr × List V)} (k : Kp H0 H g b L n o its ps) (e : H p = none) : p ≠ g := (k.sv.ne e).symm
abbrev s_law_near : Stmt := topS 40
abbrev N_law_near : List Str := ["source", "made", "reading", "at", "size", "odd", "one", "some"]
abbrev P_law_near : List Str := ["source", "made", "reading"]
theorem sc_law_near : FnScope N_law_near P_law_near (defScope s_law_near) := ⟨rfl, rfl, rfl, by decide +kernel, rfl, by decide +kernel, by decide +kernel⟩
theorem rg_len (m : Nat) : (rg m).length = m := by unfold rg; rw [List.length_map, List.length_range]
theorem str_fit : ∀ i : Fin 200, (PyData.str (toString (i.val : Int))).shown.length ≤ 1000 := by decide +kernel
section
variable {P : Program} {w : World} {K : PySem.W.Frag} {mg : Str → Option Value} {base : Heap}
def sp_law_near : Sp := fun vs H Q _ => ∃ (g p b : Addr) (ns L : List Int) (n : Int), vs = [.ref g, .ref p, .ref b] ∧ SrcV n H g ∧ n ≤ 900000000 ∧ p ≠ g ∧ b ≠ g ∧ H p = some (.lst (iv ns)) ∧ 1 ≤ ns.length ∧ ns.length ≤ 200 ∧ H b = some (.lst (iv L)) ∧ 1 ≤ L.length ∧ L.length ≤ 300 ∧ (∀ v ∈ L, 0 ≤ v ∧ v < 200) ∧
  ∀ x H', SameBut g H H' → SrcV (n + 4) H' g → GoodG H' g x → Q x H'
theorem ok_law_near (T : Txt mg) (h : At K mg "_law_near" s_law_near)
    (g_law_draw : Has P w K mg base CX0 1 "_law_draw" s_law_draw P_law_draw sp_law_draw) :
    Has P w K mg base CX0 2 "_law_near" s_law_near P_law_near sp_law_near := by
  refine Has.of h sc_law_near (fun vs H Q E h => ?_) (fun _ _ _ _ _ _ us hl => match us, hl with | [_, _, _], _ => rfl) (fun f cdv A outer s H vs Q E room qt h => ?_)
  · obtain ⟨g, p, b, ns, L, n, rfl, _⟩ := h; rfl
  obtain ⟨g, p, b, ns, L, n, rfl, hg, hn, npg, nbg, hp, l1, l2, hb, hl1, hl, bd, k⟩ := h
  have elL : (iv L).length = L.length := List.length_map _
  have eln : (iv ns).length = ns.length := List.length_map _
  have nb : ∀ v ∈ L, v.natAbs < 2 ^ 128 := fun v hv => by have := bd v hv; omega
  refine ⟨_, (pss_cons (ps_par (i := 3) (j := 4) rfl sc_law_near.nd rfl rfl (by decide) rfl rfl (pa_cons (pe_has g_law_draw (room.mono (by decide)) qt (by rfl) pass0 (pa_cons (pv 0) (pa_cons (pe_callB call_len_seq (by rfl) T.len (by decide +kernel) (pa_cons (pv 2) pa_nil)) pa_nil))) (pa_cons (pe_callB call_len_seq (by rfl) T.len (by decide +kernel) (pa_cons (pv 1) pa_nil)) pa_nil)) (by rfl))
      (pss_cons (ps_set (i := 5) sc_law_near.nd rfl (Or.inl rfl) (pe_lstB (pa_cons (pe_op op_add (pe_ix ix_list (pv 2) (pv 3) (fun _ _ => rfl)) pe_int) (pa_cons (pe_op op_sub (pe_ix ix_list (pv 2) (pv 3) (fun _ _ => rfl)) pe_int) (pa_cons (pe_op op_add (pe_ix ix_list (pv 2) (pv 3) (fun _ _ => rfl)) pe_int) (pa_cons (pv 4) (pa_cons (pe_un un_neg pe_int) (pa_cons pe_non (pa_cons (pe_callTy call_str_int (by rfl) T.tstr (by decide +kernel) (pa_cons (pe_ix ix_list (pv 2) (pv 3) (fun _ _ => rfl)) pa_nil)) (pa_cons (pe_callTy call_bool1 (by rfl) T.bool (by decide +kernel) (pa_cons (pe_ix ix_list (pv 2) (pv 3) (fun _ _ => rfl)) pa_nil)) pa_nil))))))))))
      (pss_cons (ps_set (i := 5) sc_law_near.nd rfl (Or.inl rfl) (pe_op op_catB (pv 5) (pe_lstB (pa_cons (pe_lstB (pa_cons (pe_ix ix_list (pv 2) (pv 3) (fun _ _ => rfl)) pa_nil)) (pa_cons (pe_op op_powG pe_int pe_int) (pa_cons (pe_op op_sub pe_int (pe_op op_powG pe_int pe_int)) pa_nil))))))
      (pss_cons (ps_set (i := 6) sc_law_near.nd rfl (Or.inl rfl) (pe_ix ix_list (pv 5) (pe_has g_law_draw (room.mono (by decide)) qt (by rfl) pass0 (pa_cons (pv 0) (pa_cons pe_int pa_nil))) (fun _ _ => rfl)))
      (pss_cons (ps_set (i := 7) sc_law_near.nd rfl (Or.inl rfl) (pe_lstB (pa_cons (pe_op op_catB (pe_op op_catB (pe_slice sl_list (pv 2) po_none (po_some (pv 3))) (pe_lstB (pa_cons (pv 6) pa_nil))) (pe_slice sl_list (pv 2) (po_some (pe_op op_add (pv 3) pe_int)) po_none)) (pa_cons (pe_op op_catB (pe_slice sl_list (pv 2) po_none (po_some (pv 3))) (pe_slice sl_list (pv 2) (po_some (pe_op op_add (pv 3) pe_int)) po_none)) (pa_cons (pe_tupleOf (by rfl) T.tuple (pv 2)) pa_nil)))))
      (pss_cons (ps_set (i := 7) sc_law_near.nd rfl (Or.inl rfl) (pe_op op_catB (pv 7) (pe_lstB (pa_cons (pe_op op_catB (pe_op op_catB (pe_slice sl_list (pv 2) po_none (po_some (pv 3))) (pe_lstB (pa_cons (pe_ix ix_list (pv 2) (pv 3) (fun _ _ => rfl)) pa_nil))) (pe_slice sl_list (pv 2) (po_some (pv 3)) po_none)) (pa_cons (pe_revL (pv 2)) (pa_cons (pe_callB (cr_sortedN rfl) (by rfl) T.sorted (by decide +kernel) (pa_cons (pe_callTy (cr_setOfI rfl) (by rfl) T.set (by decide +kernel) (pa_cons (pe_op op_catB (pv 2) (pe_lstB (pa_cons (pe_op op_fdiv (pv 4) pe_int) pa_nil))) pa_nil)) pa_nil)) pa_nil))))))
      (pss_cons (ps_set (i := 7) sc_law_near.nd rfl (Or.inl rfl) (pe_op op_catB (pv 7) (pe_lstB (pa_cons (pe_lstB pa_nil) (pa_cons pe_non (pa_cons pe_int (pa_cons pe_str (pa_cons pe_dnewB (pa_cons (pe_lstB (pa_cons (pv 2) pa_nil)) (pa_cons (pe_listRg rfl (by rfl) T.tlist (prg_1 (by rfl) T.range (pv 4))) pa_nil))))))))))
      (pss_one (ps_ret (pe_ix ix_list (pv 7) (pe_ix ix_list (pe_lstB (pa_cons (pe_has g_law_draw (room.mono (by decide)) qt (by rfl) pass0 (pa_cons (pv 0) (pa_cons pe_int pa_nil))) (pa_cons pe_int pa_nil))) (pe_has g_law_draw (room.mono (by decide)) qt (by rfl) pass0 (pa_cons (pv 0) (pa_cons pe_int pa_nil))) (fun _ _ => rfl)) (fun _ _ => rfl))))))))))), ?_⟩
  refine ⟨_, rfl, _, rfl, b, _, rfl, .inl (SqL.of hb), g, _, _, rfl, hg, by omega, by omega, by omega, fun at_ H1 a0 a1 b1 g1 => ?_⟩
  rw [elL] at a1
  obtain ⟨t, rfl⟩ : ∃ t : Nat, at_ = t := ⟨at_.toNat, by omega⟩
  have hb1 := b1 _ _ hb nbg
  have hp1 := b1 _ _ hp npg
  refine ⟨_, rfl, p, _, rfl, .inl (SqL.of hp1), _, _, rfl, ?_⟩
  have hat : atI (iv L) (t : Int) = some (.int (L.getD t 0)) := atI_iv a0 a1
  have br := bd (L.getD t 0) (by rw [List.getD_eq_getElem?_getD, List.getElem?_eq_getElem (by omega)]; exact List.getElem_mem _)
  generalize eR : L.getD t 0 = r at hat br
  have tL : t < L.length := by omega
  -- odd
  refine ⟨_, rfl, _, rfl, b, iv L, t, _, rfl, rfl, SqL.of hb1, hat, _, _, rfl, rfl, ?_⟩
  refine ⟨_, rfl, _, rfl, b, iv L, t, _, rfl, rfl, SqL.of hb1, hat, _, _, rfl, rfl, ?_⟩
  refine ⟨_, rfl, _, rfl, b, iv L, t, _, rfl, rfl, SqL.of hb1, hat, _, _, rfl, rfl, ?_⟩
  refine ⟨_, rfl, _, rfl, _, rfl, _, rfl, b, iv L, t, _, rfl, rfl, SqL.of hb1, hat, r, rfl, Nat.lt_of_lt_of_le (small_log' (bound_lt (nb r (by rw [← eR, List.getD_eq_getElem?_getD, List.getElem?_eq_getElem tL]; exact List.getElem_mem _)))) (by decide), ?_⟩
  refine ⟨_, rfl, _, rfl, b, iv L, t, _, rfl, rfl, SqL.of hb1, hat, .inl ⟨r, rfl, (by decide : 8 ≤ sizeLine), fun r0 m0 w0 => ?_⟩⟩
  have g2 : SrcV (n + 1) (upd H1 r0 (.lst [.int (r + 1), .int (r - 1), .int (r + 2), .int (iv ns).length, .int (-1), .non, .str (toString r), .bl (r != 0)])) g := g1.new m0
  have b2 : SameBut g H (upd H1 r0 (.lst [.int (r + 1), .int (r - 1), .int (r + 2), .int (iv ns).length, .int (-1), .non, .str (toString r), .bl (r != 0)])) := b1.new m0
  have hb2 := Same.new (o := .lst [.int (r + 1), .int (r - 1), .int (r + 2), .int (iv ns).length, .int (-1), .non, .str (toString r), .bl (r != 0)]) m0 _ _ hb1
  have f2 := upd_same (H := H1) (a := r0) (o := .lst [.int (r + 1), .int (r - 1), .int (r + 2), .int (iv ns).length, .int (-1), .non, .str (toString r), .bl (r != 0)])
  generalize upd H1 r0 (.lst [.int (r + 1), .int (r - 1), .int (r + 2), .int (iv ns).length, .int (-1), .non, .str (toString r), .bl (r != 0)]) = H2 at g2 b2 hb2 f2 ⊢
  refine ⟨_, rfl, _, rfl, _, rfl, b, iv L, t, _, rfl, rfl, SqL.of hb2, hat, (by decide : 1 ≤ sizeLine), fun r1 m1 w1 => ⟨_, _, rfl, rfl, ten_ok (by decide) (by decide), _, _, rfl, rfl, ten_ok (by decide) (by decide), _, _, rfl, rfl, ?_⟩⟩
  refine ⟨(by decide : 3 ≤ sizeLine), fun r2 m2 w2 => ⟨r0, r2, _, _, rfl, rfl, SqL.of (Same.new m2 _ _ (Same.new m1 _ _ f2)), SqL.of upd_same, (by decide : 8 + 3 ≤ sizeLine), fun r3 m3 w3 => ?_⟩⟩
  have n1g : r1 ≠ g := (g2.ne m1).symm
  have n3g : r3 ≠ g := (((g2.new m1).new m2).ne m3).symm
  refine ⟨_, rfl, _, rfl, g, 11, _, rfl, ((g2.new m1).new m2).new m3, by omega, by decide, by decide, fun j H3 j0 j1 b3 g3 => ?_⟩
  have e1 := b3 _ _ (Same.new m3 _ _ (Same.new m2 _ _ (upd_same (H := H2) (a := r1) (o := .lst [.int r])))) n1g
  have e3 := b3 _ _ upd_same n3g
  have b03 : SameBut g H H3 := (((b2.new m1).new m2).new m3).trans b3
  have hb3 := b3 _ _ (Same.new m3 _ _ (Same.new m2 _ _ (Same.new m1 _ _ hb2))) nbg
  have p30 : (10 : Int) ^ (30 : Int).toNat = 1000000000000000000000000000000 := by decide
  have rb : ∀ z : Int, r ≤ z + 200 → z ≤ r + 200 → z.natAbs < 2 ^ 1900 := fun z q1 q2 => bound_lt (by omega)
  have iz : ∀ z : Int, z.natAbs < 2 ^ 1900 → OddG H3 g (.int z) := fun z hz => ⟨_, _, .int _, (fit_int hz).mono (by decide) (by decide), rfl, List.not_mem_nil⟩
  have hod : ∀ x ∈ [V.int (r + 1), .int (r - 1), .int (r + 2), .int (iv ns).length, .int (-1), .non, .str (toString r), .bl (r != 0)] ++ [V.ref r1, .int (10 ^ (30 : Int).toNat), .int (0 - 10 ^ (30 : Int).toNat)], OddG H3 g x := fun x hx => by
    have f1 : ∀ {d : PyData}, Fits 0 1921 d → Fits 1 1926 d := fun h => h.mono (by decide) (by decide)
    have one : Fits 1 1926 (.list [.int r]) := fit_list (m := 1) (L := 1921) (fun d hd => by rw [List.mem_singleton.mp hd]; exact fit_int (rb r (by omega) (by omega))) (Nat.le_refl _)
    simp only [List.mem_append, List.mem_cons, List.not_mem_nil, or_false] at hx
    rcases hx with (rfl | rfl | rfl | rfl | rfl | rfl | rfl | rfl) | (rfl | rfl | rfl)
    · exact iz _ (rb _ (by omega) (by omega))
    · exact iz _ (rb _ (by omega) (by omega))
    · exact iz _ (rb _ (by omega) (by omega))
    · exact iz _ (rb _ (by omega) (by omega))
    · exact iz _ (rb _ (by omega) (by omega))
    · exact ⟨_, _, .non, f1 fit_none, rfl, List.not_mem_nil⟩
    · refine ⟨_, _, .str _, ⟨rfl, Nat.zero_le _, ?_⟩, rfl, List.not_mem_nil⟩
      have := str_fit ⟨r.toNat, by omega⟩
      rw [show (((⟨r.toNat, by omega⟩ : Fin 200).val : Nat) : Int) = r from by show ((r.toNat : Nat) : Int) = r; omega] at this
      exact Nat.le_trans this (by decide)
    · exact ⟨_, _, .bl _, f1 (fit_bool _), rfl, List.not_mem_nil⟩
    · exact ⟨_, _, .lst e1 (dx_ints [r]), one, rfl, fun z => n1g (List.mem_singleton.mp z).symm⟩
    · exact iz _ (by rw [p30]; exact bound_lt (by decide))
    · exact iz _ (by rw [p30]; exact bound_lt (by decide))
  obtain ⟨odd, hat2, hodd⟩ := atI_all hod j0 (by exact j1)
  refine ⟨r3, _, j, odd, rfl, rfl, SqL.of e3, hat2, ?_⟩
  have kp : Kp H H3 g b L (n + 1 + 1) odd [.ref b] [] := ⟨b03, g3, hb3, hodd, fun x hx => by
    rw [List.mem_singleton.mp hx]
    exact GoodG.ints hb3 nbg (by omega) nb, fun x hx => (List.not_mem_nil hx).elim⟩
  clear e1 e3 hat2 hod b3 g3 m1 m2 b03 hb3 hodd iz
  have tl : t ≤ L.length := by omega
  have lA : (L.take t).length = t := by rw [List.length_take]; omega
  have lB : (L.drop (t + 1)).length = L.length - (t + 1) := List.length_drop
  have lC : (L.drop t).length = L.length - t := List.length_drop
  have nA : ∀ v ∈ L.take t, v.natAbs < 2 ^ 128 := fun v hv => nb v (List.mem_of_mem_take hv)
  have nB : ∀ v ∈ L.drop (t + 1), v.natAbs < 2 ^ 128 := fun v hv => nb v (List.mem_of_mem_drop hv)
  have nC : ∀ v ∈ L.drop t, v.natAbs < 2 ^ 128 := fun v hv => nb v (List.mem_of_mem_drop hv)
  have eA : (iv (L.take t)).length = t := by rw [List.length_map, lA]
  have eB : (iv (L.drop (t + 1))).length = L.length - (t + 1) := by rw [List.length_map, lB]
  have eC : (iv (L.drop t)).length = L.length - t := by rw [List.length_map, lC]
  -- reading[:at] + [one] + reading[at + 1:]
  refine ⟨_, rfl, _, rfl, _, rfl, b, _, rfl, SqL.of kp.hb, fun p4 i4 => ?_⟩
  rw [cut_to tl]
  refine ⟨_, rfl, (by decide : 1 ≤ sizeLine), fun p5 i5 z5 => ⟨p4, p5, _, _, rfl, rfl, SqL.of (Same.new i5 _ _ upd_same), SqL.of upd_same, Nat.le_of_lt (small_line (by rw [eA]; show t + 1 < 100000; omega)), fun p6 i6 z6 => ?_⟩⟩
  have kp := ((kp.new (h := .lst (iv (L.take t))) i4).new (h := .lst [odd]) i5).new (h := .lst (iv (L.take t) ++ [odd])) i6
  have f6 := upd_same (H := upd (upd H3 p4 (.lst (iv (L.take t)))) p5 (.lst [odd])) (a := p6) (o := .lst (iv (L.take t) ++ [odd]))
  generalize upd (upd (upd H3 p4 (.lst (iv (L.take t)))) p5 (.lst [odd])) p6 (.lst (iv (L.take t) ++ [odd])) = H5 at kp f6 ⊢
  refine ⟨_, rfl, _, rfl, _, _, rfl, rfl, _, rfl, b, _, rfl, SqL.of kp.hb, fun p7 i7 => ?_⟩
  rw [cut_from t]
  refine ⟨p6, p7, _, _, rfl, rfl, SqL.of (Same.new i7 _ _ f6), SqL.of upd_same, Nat.le_of_lt (small_line (by rw [List.length_append, eA, eB]; show t + 1 + _ < 100000; omega)), fun p8 i8 z8 => ?_⟩
  have n8 := (kp.new (h := .lst (iv (L.drop (t + 1)))) i7).ng i8
  have kp := (kp.new (h := .lst (iv (L.drop (t + 1)))) i7).new (h := .lst (iv (L.take t) ++ [odd] ++ iv (L.drop (t + 1)))) i8
  have kp := kp.add (GoodG.mid kp.od upd_same n8 (by omega) nA nB)
  generalize upd (upd H5 p7 (.lst (iv (L.drop (t + 1))))) p8 (.lst (iv (L.take t) ++ [odd] ++ iv (L.drop (t + 1)))) = H6 at kp ⊢
  -- reading[:at] + reading[at + 1:]
  refine ⟨_, rfl, _, rfl, _, rfl, b, _, rfl, SqL.of kp.hb, fun p1 i1 => ?_⟩
  rw [cut_to tl]
  refine ⟨_, rfl, _, rfl, _, _, rfl, rfl, _, rfl, b, _, rfl, SqL.of (kp.new i1).hb, fun p2 i2 => ?_⟩
  rw [cut_from t]
  refine ⟨p1, p2, _, _, rfl, rfl, SqL.of (Same.new i2 _ _ upd_same), SqL.of upd_same, Nat.le_of_lt (small_line (by rw [eA, eB]; omega)), fun p3 i3 z3 => ?_⟩
  rw [show iv (L.take t) ++ iv (L.drop (t + 1)) = iv (L.take t ++ L.drop (t + 1)) from (List.map_append).symm]
  have kp := (((kp.new (h := .lst (iv (L.take t))) i1).new (h := .lst (iv (L.drop (t + 1)))) i2).new (h := .lst (iv (L.take t ++ L.drop (t + 1)))) i3).add (GoodG.ints (p := p3) upd_same ((((kp.new i1).new i2)).ng i3) (by rw [List.length_append]; omega) fun v hv => by
    rcases List.mem_append.mp hv with hv | hv
    · exact nA v hv
    · exact nB v hv)
  generalize upd (upd (upd H6 p1 (.lst (iv (L.take t)))) p2 (.lst (iv (L.drop (t + 1))))) p3 (.lst (iv (L.take t ++ L.drop (t + 1)))) = H4 at kp ⊢
  -- tuple(reading)
  refine ⟨_, rfl, .inl ⟨b, _, rfl, SqL.of kp.hb, fun q9 k9 => ⟨(by decide : 3 ≤ sizeLine), fun q12 k12 y12 => ?_⟩⟩⟩
  have kp := (kp.new (h := .tup (iv L)) k9).add (GoodG.tup (p := q9) upd_same (kp.ng k9) (by omega) nb)
  have kp := (kp.new (h := .lst [.ref p8, .ref p3, .ref q9]) k12).keep (p := q12) upd_same
  generalize upd (upd H4 q9 (.tup (iv L))) q12 (.lst [.ref p8, .ref p3, .ref q9]) = H8 at kp ⊢
  -- reading[:at] + [reading[at]] + reading[at:]
  refine ⟨_, rfl, _, rfl, _, rfl, _, rfl, b, _, rfl, SqL.of kp.hb, fun q1 k1 => ?_⟩
  rw [cut_to tl]
  refine ⟨_, rfl, _, rfl, b, iv L, t, _, rfl, rfl, SqL.of (kp.new k1).hb, hat, (by decide : 1 ≤ sizeLine), fun q2 k2 y2 => ⟨q1, q2, _, _, rfl, rfl, SqL.of (Same.new k2 _ _ upd_same), SqL.of upd_same, Nat.le_of_lt (small_line (by rw [eA]; show t + 1 < 100000; omega)), fun q3 k3 y3 => ?_⟩⟩
  rw [show iv (L.take t) ++ [V.int r] = iv (L.take t ++ [r]) from iv_snoc ..]
  have kp := ((kp.new (h := .lst (iv (L.take t))) k1).new (h := .lst [.int r]) k2).new (h := .lst (iv (L.take t ++ [r]))) k3
  have f3 := upd_same (H := upd (upd H8 q1 (.lst (iv (L.take t)))) q2 (.lst [.int r])) (a := q3) (o := .lst (iv (L.take t ++ [r])))
  generalize upd (upd (upd H8 q1 (.lst (iv (L.take t)))) q2 (.lst [.int r])) q3 (.lst (iv (L.take t ++ [r]))) = H9 at kp f3 ⊢
  refine ⟨_, rfl, _, rfl, _, rfl, b, _, rfl, SqL.of kp.hb, fun q4 k4 => ?_⟩
  rw [cut_at t]
  refine ⟨q3, q4, _, _, rfl, rfl, SqL.of (Same.new k4 _ _ f3), SqL.of upd_same, Nat.le_of_lt (small_line (by rw [eC, List.length_map, List.length_append, lA]; show t + 1 + _ < 100000; omega)), fun q5 k5 y5 => ?_⟩
  rw [show iv (L.take t ++ [r]) ++ iv (L.drop t) = iv (L.take t ++ [r] ++ L.drop t) from (List.map_append).symm]
  have n5 := (kp.new (h := .lst (iv (L.drop t))) k4).ng k5
  have kp := (kp.new (h := .lst (iv (L.drop t))) k4).new (h := .lst (iv (L.take t ++ [r] ++ L.drop t))) k5
  have kp := kp.add (GoodG.ints (p := q5) upd_same n5 (by rw [List.length_append, List.length_append, lA, lC]; show t + 1 + _ ≤ 1000; omega) fun v hv => by
    rcases List.mem_append.mp hv with hv | hv
    · rcases List.mem_append.mp hv with hv | hv
      · exact nA v hv
      · rw [List.mem_singleton.mp hv]; omega
    · exact nC v hv)
  generalize upd (upd H9 q4 (.lst (iv (L.drop t)))) q5 (.lst (iv (L.take t ++ [r] ++ L.drop t))) = H10 at kp ⊢
  clear f3
  -- reading[::-1]
  refine ⟨_, rfl, b, _, rfl, SqL.of kp.hb, fun q6 k6 => ?_⟩
  rw [show (iv L).reverse = iv L.reverse from (List.map_reverse).symm]
  have kp := (kp.new (h := .lst (iv L.reverse)) k6).add (GoodG.ints (p := q6) upd_same (kp.ng k6) (by rw [List.length_reverse]; omega) fun v hv => nb v (List.mem_reverse.mp hv))
  generalize upd H10 q6 (.lst (iv L.reverse)) = H11 at kp ⊢
  -- sorted(set(reading + [size // 2]))
  refine ⟨_, rfl, _, rfl, _, _, rfl, rfl, ⟨by decide, by decide⟩, (by decide : 1 ≤ sizeLine), fun p9 i9 z9 => ⟨b, p9, _, _, rfl, rfl, SqL.of (kp.new i9).hb, SqL.of upd_same, Nat.le_of_lt (small_line (by rw [elL]; show L.length + 1 < 100000; omega)), fun p10 i10 z10 => ?_⟩⟩
  have kp := (kp.new (h := .lst [.int (((iv ns).length : Int) / 2)]) i9).new (h := .lst (iv L ++ [.int (((iv ns).length : Int) / 2)])) i10
  have f10 := upd_same (H := upd H11 p9 (.lst [.int (((iv ns).length : Int) / 2)])) (a := p10) (o := .lst (iv L ++ [.int (((iv ns).length : Int) / 2)]))
  generalize upd (upd H11 p9 (.lst [.int (((iv ns).length : Int) / 2)])) p10 (.lst (iv L ++ [.int (((iv ns).length : Int) / 2)])) = H12 at kp f10 ⊢
  have hz : (0 : Int) ≤ ((iv ns).length : Int) / 2 ∧ ((iv ns).length : Int) / 2 ≤ 200 := by rw [eln]; omega
  generalize ((iv ns).length : Int) / 2 = z at hz f10
  rw [show iv L ++ [V.int z] = iv (L ++ [z]) from iv_snoc ..] at f10
  have l10 : (L ++ [z]).length = L.length + 1 := by rw [List.length_append]; rfl
  refine ⟨p10, L ++ [z], rfl, SqL.of f10, by omega, fun u cn hu hn => ⟨u, _, cn, rfl, upd_same, fun M p11 asc mem lM i11 => ?_⟩⟩
  have kp := kp.new (h := SetO (cxOf CX0 P w K mg base N_law_near "_law_near" (defScope s_law_near) f cdv A outer s H E).nox.w u (fun j => decide (j ∈ L ++ [z])) cn) hu
  generalize upd H12 u (SetO (cxOf CX0 P w K mg base N_law_near "_law_near" (defScope s_law_near) f cdv A outer s H E).nox.w u (fun j => decide (j ∈ L ++ [z])) cn) = H13 at kp i11 ⊢
  have n11 := kp.ng i11
  have kp := (kp.new (h := .lst (iv M)) i11).add (GoodG.ints (p := p11) upd_same n11 (by omega) fun v hv => by
    have := of_decide_eq_true ((mem v).mp hv)
    rcases List.mem_append.mp this with hv | hv
    · exact nb v hv
    · rw [List.mem_singleton.mp hv]; omega)
  refine ⟨(by decide : 3 ≤ sizeLine), fun p12 i12 z12 => ?_⟩
  have kp := (kp.new (h := .lst [.ref q5, .ref q6, .ref p11]) i12)
  have f12 := upd_same (H := upd H13 p11 (.lst (iv M))) (a := p12) (o := .lst [.ref q5, .ref q6, .ref p11])
  generalize upd (upd H13 p11 (.lst (iv M))) p12 (.lst [.ref q5, .ref q6, .ref p11]) = H14 at kp f12 ⊢
  refine ⟨q12, p12, _, _, rfl, rfl, SqL.of (kp.ls _ List.mem_cons_self), SqL.of f12, (by decide : 3 + 3 ≤ sizeLine), fun q13 k13 y13 => ?_⟩
  have kp := (kp.new (h := .lst ([.ref p8, .ref p3, .ref q9] ++ [.ref q5, .ref q6, .ref p11])) k13).keep (p := q13) upd_same
  generalize upd H14 q13 (.lst ([.ref p8, .ref p3, .ref q9] ++ [.ref q5, .ref q6, .ref p11])) = H15 at kp ⊢
  clear f10 f12
  -- [], None, 0, '0', {}, [reading], list(range(size))
  refine ⟨_, rfl, (by decide : 0 ≤ sizeLine), fun v1 j1 x1 => fun v2 j2 x2 => ⟨_, rfl, (by decide : 1 ≤ sizeLine), fun v3 j3 x3 => ?_⟩⟩
  have kp := (kp.new (h := .lst []) j1).add (GoodG.ints (p := v1) (ms := []) upd_same (kp.ng j1) (by decide) fun v hv => (List.not_mem_nil hv).elim)
  have kp := kp.add (x := .non) ⟨_, _, .non, (fun ds he => nomatch he), fit_none.mono (by decide) (by decide), noDict _ rfl _, List.not_mem_nil⟩
  have kp := kp.add (x := .int 0) ⟨_, _, .int _, (fun ds he => nomatch he), (fit_int (by decide)).mono (by decide) (by decide), noDict _ rfl _, List.not_mem_nil⟩
  have kp := kp.add (x := .str "0") ⟨_, _, .str _, (fun ds he => nomatch he), Fits.mono (n := 0) (L := 1921) ⟨rfl, by decide, by decide +kernel⟩ (by decide) (by decide), noDict _ rfl _, List.not_mem_nil⟩
  have kp := (kp.new (h := .dK []) j2).add (x := .ref v2) ⟨_, _, .emp upd_same, (fun ds he => nomatch he), fit_emp.mono (by decide) (by decide), fun _ z => x2 (List.mem_singleton.mp z).symm, fun z => kp.ng j2 (List.mem_singleton.mp z).symm⟩
  have n3 := kp.ng j3
  have kp := kp.new (h := .lst [.ref b]) j3
  have kp := kp.add (GoodG.nest (q := v3) upd_same kp.hb n3 nbg (by omega) nb)
  generalize upd (upd (upd H15 v1 (.lst [])) v2 (.dK [])) v3 (.lst [.ref b]) = H16 at kp ⊢
  refine ⟨_, rfl, _, rfl, RgOk.of_le (by decide) (by omega) (by decide) (by omega), fun v4 j4 => ?_⟩
  rw [eln, rgV_rg]
  have kp := (kp.new (h := .lst (iv (rg ns.length))) j4).add (GoodG.ints (p := v4) upd_same (kp.ng j4) (by rw [rg_len]; omega) fun v hv => by have := rg_mem.mp hv; omega)
  generalize upd H16 v4 (.lst (iv (rg ns.length))) = H17 at kp ⊢
  refine ⟨(by decide : 7 ≤ sizeLine), fun v5 j5 x5 => ?_⟩
  have kp := kp.new (h := .lst [.ref v1, .non, .int 0, .str "0", .ref v2, .ref v3, .ref v4]) j5
  have f5 := upd_same (H := H17) (a := v5) (o := .lst [.ref v1, .non, .int 0, .str "0", .ref v2, .ref v3, .ref v4])
  generalize upd H17 v5 (.lst [.ref v1, .non, .int 0, .str "0", .ref v2, .ref v3, .ref v4]) = H18 at kp f5 ⊢
  refine ⟨q13, v5, _, _, rfl, rfl, SqL.of (kp.ls _ List.mem_cons_self), SqL.of f5, (by decide : 6 + 7 ≤ sizeLine), fun v6 j6 x6 => ?_⟩
  have n6 := kp.ng j6
  have kp := (kp.new (h := .lst (([.ref p8, .ref p3, .ref q9] ++ [.ref q5, .ref q6, .ref p11]) ++ [.ref v1, .non, .int 0, .str "0", .ref v2, .ref v3, .ref v4])) j6).keep (p := v6) upd_same
  generalize upd H18 v6 _ = H19 at kp ⊢
  -- the choice
  refine ⟨_, rfl, _, rfl, g, 13, _, rfl, kp.sv, by omega, by decide, by decide, fun e H20 e0 e1 b4 g4 => ⟨(by decide : 2 ≤ sizeLine), fun v7 j7 x7 => ?_⟩⟩
  have h4 := b4 _ _ (kp.ls _ List.mem_cons_self) n6
  refine ⟨_, rfl, g, 2, _, rfl, g4.new j7, by omega, by decide, by decide, fun c H21 c0 c1 b5 g5 => ?_⟩
  have n7 := (g4.ne j7).symm
  have h5 := b5 _ _ (Same.new (o := .lst (iv [e, 0])) j7 _ _ h4) n6
  have h57 := b5 _ _ (upd_same (H := H20) (a := v7) (o := .lst (iv [e, 0]))) n7
  refine ⟨v7, iv [e, 0], c, _, rfl, rfl, SqL.of h57, atI_iv c0 (by exact c1), ?_⟩
  have bj : 0 ≤ ([e, 0] : List Int).getD c.toNat 0 ∧ ([e, 0] : List Int).getD c.toNat 0 < 13 :=
    getD_all (xs := [e, 0]) (p := fun v => 0 ≤ v ∧ v < 13) (fun v hv => by
      simp only [List.mem_cons, List.not_mem_nil, or_false] at hv
      rcases hv with rfl | rfl <;> omega) c0 (by exact c1)
  generalize ([e, 0] : List Int).getD c.toNat 0 = y at bj ⊢
  have b45 := (b4.new j7).trans b5
  have all : ∀ x ∈ ([V.ref p8, .ref p3, .ref q9] ++ [V.ref q5, .ref q6, .ref p11]) ++ [V.ref v1, .non, .int 0, .str "0", .ref v2, .ref v3, .ref v4], GoodG H21 g x := fun x hx => (kp.gw x (by
    simp only [List.mem_append, List.mem_cons, List.not_mem_nil, or_false] at hx ⊢
    rcases hx with ((h | h | h) | (h | h | h)) | (h | h | h | h | h | h | h) <;> simp [h])).but b45
  obtain ⟨x, hat, hx⟩ := atI_all all bj.1 (by exact bj.2)
  exact ⟨v6, _, y, x, rfl, rfl, SqL.of h5, hat, k x H21 (kp.sb.trans b45) (g5.mono (by omega)) hx⟩
end
end SH

namespace SH
open PySem PySem.Spec PyProof.Rows L2
abbrev s_law : Stmt := topS 42
abbrev N_law : List Str := ["script", "k", "source", "turn", "made", "tall", "step", "reading", "thing", "kept"]
abbrev P_law : List Str := ["script"]
theorem sc_law : FnScope N_law P_law (defScope s_law) := ⟨rfl, rfl, rfl, by decide +kernel, rfl, by decide +kernel, by decide +kernel⟩
theorem both {p : Prop} {Q : VK} {H : Hp} (h : ∀ c : Bool, (c = true ↔ p) → RetV Q H (.bl c)) : (p → RetV Q H (.bl true)) ∧ (¬ p → RetV Q H (.bl false)) :=
  ⟨fun z => h true ⟨fun _ => z, fun _ => rfl⟩, fun z => h false ⟨fun q => Bool.noConfusion q, fun q => (z q).elim⟩⟩
theorem show_two {H : Hp} {q p : Addr} {x : V} {ns : List Int} {d : PyData} {as : List Addr} (e : H q = some (.lst [.ref p, x])) (hp : H p = some (.lst (iv ns))) (l : ns.length ≤ 200) (b : ∀ v ∈ ns, v.natAbs < 2 ^ 128) (dx : Dx H x d as) (fd : Fits 40 2000000 d) (md : d.hasDict = true → sysModules ∉ as) (np : p ≠ sysModules) (nq : q ≠ sysModules) :
    Dx H (.ref q) (.list [dI ns, d]) (q :: ([p] ++ as)) ∧ ((PyData.list [dI ns, d]).hasDict = true → sysModules ∉ q :: ([p] ++ as)) ∧ Fits 50 16000000 (.list [dI ns, d]) := by
  refine ⟨.lst e ((dx_one (dx_dI hp)).append (dx_one dx)), fun h z => ?_, (fit_list (n := 40) (L := 2000000) (m := 2) (fun y hy => ?_) (Nat.le_refl _)).mono (by decide) (by decide)⟩
  · have h1 : (PyData.hasDictAll (ns.map PyData.int) || (d.hasDict || false)) = true := h
    rw [dict_ints, Bool.false_or, Bool.or_false] at h1
    rcases List.mem_cons.mp z with z | z
    · exact nq z.symm
    · rcases List.mem_append.mp z with z | z
      · exact np (List.mem_singleton.mp z).symm
      · exact md h1 z
  · simp only [List.mem_cons, List.not_mem_nil, or_false] at hy
    rcases hy with rfl | rfl
    · exact (fit_list (fit_ints fun v hv => bound_lt (b v hv)) (by rw [List.length_map]; exact l)).mono (by decide) (by decide)
    · exact fd
section
variable {P : Program} {w : World} {K : PySem.W.Frag} {mg : Str → Option Value} {base : Heap}
def sp_law (K : PySem.W.Frag) : Sp := fun vs H Q _ => ∃ (a : Addr) (ns : List Int), vs = [.ref a] ∧ SqL K H a (iv ns) ∧ ns.length ≤ 63 ∧ ∀ H', Q (.bl true) H'
theorem ok_law (T : Txt mg) (h : At K mg "law" s_law)
    (g_law_open_source : Has P w K mg base CX0 1 "_law_open_source" s_law_open_source P_law_open_source (sp_law_open_source K))
    (g_law_draw : Has P w K mg base CX0 1 "_law_draw" s_law_draw P_law_draw sp_law_draw)
    (g_law_made : Has P w K mg base CX0 2 "_law_made" s_law_made P_law_made (sp_law_made K))
    (g_law_height : Has P w K mg base CX0 2 "_law_height" s_law_height P_law_height (sp_law_height K))
    (g_law_drawn : Has P w K mg base CX0 2 "_law_drawn" s_law_drawn P_law_drawn sp_law_drawn)
    (g_law_near : Has P w K mg base CX0 2 "_law_near" s_law_near P_law_near sp_law_near)
    (g_law_is_ranked : Has P w K mg base CX0 7 "_law_is_ranked" s_law_is_ranked P_law_is_ranked sp_ranked)
    (g_law_is_shortest : Has P w K mg base CX0 2 "_law_is_shortest" s_law_is_shortest P_law_is_shortest sp_is_short) :
    Has P w K mg base CX0 8 "law" s_law P_law (sp_law K) := by
  refine Has.of h sc_law (fun vs H Q E h => ?_) (fun _ _ _ _ _ _ us hl => match us, hl with | [_], _ => rfl) (fun f cdv A outer s H vs Q E room qt h => ?_)
  · obtain ⟨a, ns, rfl, _⟩ := h; rfl
  obtain ⟨a, cs, rfl, ha, hl, k⟩ := h
  refine ⟨_, (pss_cons (ps_for PassesOwn.never rfl (pi_range1 (by rfl) T.range (pa_cons (pe_callB (call_max2 rfl) (by rfl) T.max (by decide +kernel) (pa_cons pe_int (pa_cons (pe_callB (call_min2 rfl) (by rfl) T.min (by decide +kernel) (pa_cons pe_int (pa_cons (pe_callB call_len_seq (by rfl) T.len (by decide +kernel) (pa_cons (pv 0) pa_nil)) pa_nil))) pa_nil))) pa_nil)) (pg_name (i := 1) sc_law.nd rfl (Or.inl rfl) (hf := Or.inl rfl))
        (pss_cons (ps_set (i := 2) sc_law.nd rfl (Or.inl rfl) (pe_has g_law_open_source (room.mono (by decide)) qt (by rfl) pass0 (pa_cons (pv 0) (pa_cons (pv 1) pa_nil))))
        (pss_one (ps_for PassesOwn.never rfl (pi_range1 (by rfl) T.range (pa_cons pe_int pa_nil)) (pg_name (i := 3) sc_law.nd rfl (Or.inl rfl) (hf := Or.inl rfl))
          (pss_cons (ps_set (i := 4) sc_law.nd rfl (Or.inl rfl) (pe_has g_law_made (room.mono (by decide)) qt (by rfl) pass0 (pa_cons (pv 2) (pa_cons (pv 0) (pa_cons (pe_ix ix_list (pe_lstB (pa_cons pe_int (pa_cons pe_int pa_nil))) (pe_callTy call_int1 (by rfl) T.tint (by decide +kernel) (pa_cons (pe_cmpR op_eq (pv 3) pe_int (nomark _)) pa_nil)) (fun _ _ => rfl)) (pa_cons (pe_ix ix_list (pe_lstB (pa_cons pe_int (pa_cons pe_int (pa_cons pe_int pa_nil)))) (pe_has g_law_draw (room.mono (by decide)) qt (by rfl) pass0 (pa_cons (pv 2) (pa_cons pe_int pa_nil))) (fun _ _ => rfl)) pa_nil))))))
          (pss_cons (ps_set (i := 5) sc_law.nd rfl (Or.inl rfl) (pe_has g_law_height (room.mono (by decide)) qt (by rfl) pass0 (pa_cons (pv 2) (pa_cons (pv 4) pa_nil))))
          (pss_one (ps_for PassesOwn.never rfl (pi_range1 (by rfl) T.range (pa_cons pe_int pa_nil)) (pg_name (i := 6) sc_law.nd rfl (Or.inl rfl) (hf := Or.inl rfl))
            (pss_cons (ps_set (i := 7) sc_law.nd rfl (Or.inl rfl) (pe_has g_law_drawn (room.mono (by decide)) qt (by rfl) pass0 (pa_cons (pv 2) (pa_cons (pv 4) (pa_cons (pv 5) pa_nil)))))
            (pss_cons (ps_set (i := 8) sc_law.nd rfl (Or.inl rfl) (pe_has g_law_near (room.mono (by decide)) qt (by rfl) pass0 (pa_cons (pv 2) (pa_cons (pv 4) (pa_cons (pv 7) pa_nil)))))
            (pss_cons (ps_set (i := 9) sc_law.nd rfl (Or.inl rfl) (pe_callB (call_reprX qt room.units) (by rfl) T.repr (by decide +kernel) (pa_cons (pe_lstB (pa_cons (pv 4) (pa_cons (pv 8) pa_nil))) pa_nil)))
            (pss_cons (ps_if (pt_cmpR op_ne (pe_has g_law_is_ranked (room.mono (by decide)) qt (by rfl) pass0 (pa_cons (pv 4) (pa_cons (pv 5) (pa_cons (pv 8) pa_nil)))) (pe_has g_law_is_shortest (room.mono (by decide)) qt (by rfl) pass0 (pa_cons (pv 4) (pa_cons (pv 5) (pa_cons (pv 8) pa_nil)))) (nomark _))
              (pss_one (ps_ret pe_bl))
              pss_nil)
            (pss_one (ps_if (PW.pt (pw_or (pt_not (pt_val (pe_has g_law_is_ranked (room.mono (by decide)) qt (by rfl) pass0 (pa_cons (pv 4) (pa_cons (pv 5) (pa_cons (pv 7) pa_nil)))))) (pw_or1 (pt_cmpR op_ne (pe_callB (call_reprX qt room.units) (by rfl) T.repr (by decide +kernel) (pa_cons (pe_lstB (pa_cons (pv 4) (pa_cons (pv 8) pa_nil))) pa_nil)) (pv 9) (nomark _)))))
              (pss_one (ps_ret pe_bl))
              pss_nil))))))))))))))
      (pss_one (ps_ret pe_bl))), ?_⟩
  have el : (iv cs).length = cs.length := List.length_map _
  refine ⟨_, rfl, a, _, rfl, .inl ha, _, _, rfl, _, _, rfl, ?_⟩
  generalize eN : (if (if ((iv cs).length : Int) < 5 then ((iv cs).length : Int) else 5) > 1 then (if ((iv cs).length : Int) < 5 then ((iv cs).length : Int) else 5) else 1) = N
  have N1 : 0 ≤ N ∧ N ≤ 6 := by rw [← eN]; split <;> split <;> omega
  refine ⟨_, rfl, by omega, by omega, for_range (lo := 0) (n := N.toNat) (fun i σ H1 => (∃ v1 v2 v3 v4 v5 v6 v7 v8 v9, σ = [some (.ref a), v1, v2, v3, v4, v5, v6, v7, v8, v9]) ∧ Same H H1)
    ⟨⟨_, _, _, _, _, _, _, _, _, rfl⟩, Same.refl H⟩ ?_ (fun σ H1 _ => k H1)⟩
  rintro i σ H1 hi ⟨⟨v1, v2, v3, v4, v5, v6, v7, v8, v9, rfl⟩, s1⟩
  refine ⟨_, rfl, _, rfl, a, _, cs, rfl, s1.seq ha, by omega, fun g H2 hg s2 g2 => ?_⟩
  have s02 := s1.trans s2
  have hgH : H g = none := s1.free hg
  refine ⟨_, rfl, by decide, by decide, for_range (lo := 0) (n := (3 : Int).toNat) (fun t σ H8 => (∃ v3 v4 v5 v6 v7 v8 v9, σ = [some (.ref a), some (.int (0 + (i : Nat))), some (.ref g), v3, v4, v5, v6, v7, v8, v9]) ∧ Same H H8 ∧ SrcV (100000 * (t : Nat)) H8 g)
    ⟨⟨_, _, _, _, _, _, _, rfl⟩, s02, g2.mono (by omega)⟩ ?_ (fun σ H8 e => ?_)⟩
  rotate_left
  · obtain ⟨⟨v3, v4, v5, v6, v7, v8, v9, rfl⟩, s8, _⟩ := e
    exact ⟨⟨_, _, _, _, _, _, _, _, _, rfl⟩, s8⟩
  rintro t σ H3 ht ⟨⟨v3, v4, v5, v6, v7, v8, v9, rfl⟩, s3, g3⟩
  have t3 : t < 3 := ht
  -- made
  refine ⟨_, rfl, _, rfl, (by decide : 2 ≤ sizeLine), fun q nq _ => ?_⟩
  obtain ⟨bb, ebb⟩ : ∃ bb : Bool, (decide (V.int (0 + (t : Nat)) = V.int 0)) = bb := ⟨_, rfl⟩
  refine ⟨_, rfl, rfl, .inr ⟨_, rfl, ?_⟩⟩
  have bj0 : (0 : Int) ≤ (if (decide (V.int (0 + (t : Nat)) = V.int 0)) = true then 1 else 0) ∧ ((if (decide (V.int (0 + (t : Nat)) = V.int 0)) = true then 1 else 0) : Int) < 2 := by split <;> decide
  generalize ((if (decide (V.int (0 + (t : Nat)) = V.int 0)) = true then 1 else 0) : Int) = c at bj0 ⊢
  refine ⟨q, iv [60, 200], c, _, rfl, rfl, SqL.of upd_same, atI_iv bj0.1 (by exact bj0.2), ?_⟩
  have bm : 1 ≤ ([60, 200] : List Int).getD c.toNat 0 ∧ ([60, 200] : List Int).getD c.toNat 0 ≤ 200 := getD_all (xs := [60, 200]) (p := fun v => 1 ≤ v ∧ v ≤ 200) (fun v hv => by
    simp only [List.mem_cons, List.not_mem_nil, or_false] at hv
    rcases hv with rfl | rfl <;> omega) bj0.1 (by exact bj0.2)
  generalize ([60, 200] : List Int).getD c.toNat 0 = most at bm ⊢
  refine ⟨(by decide : 3 ≤ sizeLine), fun q2 nq2 _ => ?_⟩
  refine ⟨_, rfl, g, 3, _, rfl, (g3.new nq).new nq2, by omega, by decide, by decide, fun j H4 j0 j1 b4 g4 => ?_⟩
  have nqg := ((g3.new nq).ne nq2)
  have s4 : Same H H4 := Same.but ((s3.trans (Same.new nq)).trans (Same.new nq2)) hgH b4
  refine ⟨q2, iv [3, 12, 199], j, _, rfl, rfl, SqL.of (b4 _ _ upd_same nqg.symm), atI_iv j0 (by exact j1), ?_⟩
  have hs : 0 ≤ ([3, 12, 199] : List Int).getD j.toNat 0 := getD_all (xs := [3, 12, 199]) (p := fun v => 0 ≤ v) (fun v hv => by
    simp only [List.mem_cons, List.not_mem_nil, or_false] at hv
    rcases hv with rfl | rfl | rfl <;> omega) j0 (by exact j1)
  generalize ([3, 12, 199] : List Int).getD j.toNat 0 = dp at hs ⊢
  refine ⟨g, a, cs, most, dp, _, rfl, g4, by omega, s4.seq ha, fun H' b => (Same.but s4 hgH b).seq ha, bm.1, bm.2, hs, fun ns p H12 ho ol hdp hp12 psm b12 g12 h12 => ?_⟩
  obtain ⟨l1, l2, hk⟩ := isO_iff.mp ho
  have s12 := Same.but s4 hgH b12
  have npg : p ≠ g := (g4.ne hp12).symm
  have hpH : H p = none := s4.free hp12
  obtain ⟨mx, hmx⟩ := max_ex l1
  have mb := hmx.lt ho
  refine ⟨_, rfl, _, rfl, g, p, ns, _, mx, rfl, g12, by omega, h12, npg, ho, hmx, fun hh H13 r0 r1 b13 g13 => ?_⟩
  have h13 := b13 _ _ h12 npg
  have s13 := Same.but s12 hgH b13
  have ft := hmx.fit (show mx < hh by omega) 0
  have hh1 : 1 ≤ hh := by omega
  have lb := last_bd ho
  refine ⟨_, rfl, by decide, by decide, for_range (lo := 0) (n := (6 : Int).toNat) (fun u σ H8 => (∃ v6 v7 v8 v9, σ = [some (.ref a), some (.int (0 + (i : Nat))), some (.ref g), some (.int (0 + (t : Nat))), some (.ref p), some (.int hh), v6, v7, v8, v9]) ∧ Same H H8 ∧ SrcV (100000 * (t : Nat) + 2000 + 2000 * (u : Nat)) H8 g ∧ H8 p = some (.lst (iv ns)))
    ⟨⟨_, _, _, _, rfl⟩, s13, g13.mono (by omega), h13⟩ ?_ (fun σ H8 e => ?_)⟩
  rotate_left
  · obtain ⟨⟨v6, v7, v8, v9, rfl⟩, s8, g8, _⟩ := e
    exact ⟨⟨_, _, _, _, _, _, _, rfl⟩, s8, g8.mono (by
      show 100000 * (t : Int) + 2000 + 2000 * 6 ≤ 100000 * ((t + 1 : Nat) : Int)
      omega)⟩
  rintro u σ H14 hu ⟨⟨v6, v7, v8, v9, rfl⟩, s14, g14, h14⟩
  have u6 : u < 6 := hu
  refine ⟨_, rfl, _, rfl, _, rfl, g, p, ns, hh, _, rfl, g14, by omega, h14, npg, ho, hh1, r1, ft, fun L rd H15 pth hrd b15 g15 h15 => ?_⟩
  have nrg : rd ≠ g := (g14.ne hrd).symm
  have h15p := b15 _ _ h14 npg
  have s15 := Same.but s14 hgH b15
  have pl := path_len pth
  have ll := left_le (ns := ns) (h := hh) ns.length 0 (by omega)
  have last := path_last hk ft hh1 pth
  have eL : (nv (0 :: L)).length = L.length + 1 := by rw [List.length_map]; rfl
  have pb : ∀ v ∈ nv (0 :: L), 0 ≤ v ∧ v < 200 := fun v hv => by
    obtain ⟨z, hz, rfl⟩ := List.mem_map.mp hv
    rcases List.mem_cons.mp hz with e | e
    · subst e; omega
    · have := last z e; omega
  refine ⟨_, rfl, _, rfl, _, rfl, g, p, rd, ns, nv (0 :: L), _, rfl, g15, by omega, npg, nrg, h15p, l1, l2, h15, by omega, by omega, pb, fun x H16 b16 g16 gx => ?_⟩
  obtain ⟨d, as, dx, ld, fd, md, nd⟩ := gx
  have h16 := b16 _ _ h15p npg
  have h16r := b16 _ _ h15 nrg
  have s16 := Same.but s15 hgH b16
  have nb : ∀ v ∈ ns, v.natAbs < 2 ^ 128 := fun v hv => by
    obtain ⟨z, hz, rfl⟩ := List.getElem_of_mem hv
    have q1 := okFrom_at hk hz
    have q2 := okFrom_le hk hz
    rw [List.getD_eq_getElem?_getD, List.getElem?_eq_getElem hz] at q1 q2
    have q1' : 0 ≤ ns[z] := q1.1
    have q2' : ns[z] ≤ 0 + (z : Int) := q2
    omega
  refine ⟨_, rfl, _, rfl, (by decide : 2 ≤ sizeLine), fun k1 n1 w1 => ?_⟩
  obtain ⟨t1, t2, t3⟩ := show_two (H := upd H16 k1 (.lst [.ref p, x])) upd_same (Same.new n1 _ _ h16) l2 nb (dx.same (Same.new n1)) fd md psm w1
  refine ⟨_, _, _, rfl, t1, t2, t3, ?_⟩
  have s17 := s16.trans (Same.new (o := .lst [.ref p, x]) n1)
  have h17 := Same.new (o := .lst [.ref p, x]) n1 _ _ h16
  have h17r := Same.new (o := .lst [.ref p, x]) n1 _ _ h16r
  have g17 := g16.new (o := .lst [.ref p, x]) n1
  have dx17 := dx.same (Same.new (o := .lst [.ref p, x]) n1)
  clear t1
  generalize upd H16 k1 (.lst [.ref p, x]) = H17 at s17 h17 h17r g17 dx17 ⊢
  -- the two tell the same
  refine ⟨_, rfl, _, rfl, _, rfl, p, ns, hh, x, d, as, rfl, h17, ho, hh1, r1, ft, dx17, both fun c1 f1 H18 s18 => ?_⟩
  refine ⟨_, rfl, _, rfl, _, rfl, p, ns, hh, x, d, as, rfl, s18 _ _ h17, ho, hh1, r1, ft, dx17.same s18, ld, both fun c2 f2 H19 s19 => ?_⟩
  have ec : c1 = c2 := by rw [Bool.eq_iff_iff, f1, f2]
  subst ec
  have s179 := s18.trans s19
  refine ⟨rfl, _, rfl, iteFb (by simp) ?_⟩
  refine ⟨_, rfl, _, rfl, _, rfl, p, ns, hh, .ref rd, _, _, rfl, s179 _ _ h17, ho, hh1, r1, ft, dx_dI (s179 _ _ h17r), both fun c3 f3 H20 s20 => ?_⟩
  obtain rfl : c3 = true := f3.mpr ⟨L, rfl, pth⟩
  have s1720 := s179.trans s20
  refine ⟨_, rfl, iteFb (by simp) ?_⟩
  refine ⟨_, rfl, _, rfl, (by decide : 2 ≤ sizeLine), fun k2 n2 w2 => ?_⟩
  obtain ⟨u1, u2, u3⟩ := show_two (H := upd H20 k2 (.lst [.ref p, x])) upd_same (Same.new n2 _ _ (s1720 _ _ h17)) l2 nb ((dx17.same s1720).same (Same.new n2)) fd md psm w2
  refine ⟨_, _, _, rfl, u1, u2, u3, _, rfl, rfl, _, rfl, iteFb (by simp) ?_⟩
  have s1721 := s1720.trans (Same.new (o := .lst [.ref p, x]) n2)
  exact ⟨⟨_, _, _, _, rfl⟩, s17.trans s1721, (g17.same s1721).mono (by omega), s1721 _ _ h17⟩
end
end SH

namespace SH
open PySem PySem.Spec PyProof.Rows L2
/-! ### the end -/
theorem all_mk {l : PySem.W.OpenLaw} {w : World} {K : PySem.W.Frag} {h : Heap} {mg : Str → Option Value} {fa : Addr} (X : K.In h) (G : h.Ns mainGlobals mg) (hfa : mg "law" = some (.ref fa))
    {f0 f1 f2 f3 f4 f5 f6 f7 f8 f9 f10 f11 f12 f13 f14 f15 f16 f17 f18 f19 f20 f21 f22 f23 f24 f25 f26 f27 f28 : Addr} {od0 an0 od1 an1 od2 an2 od3 an3 od4 an4 od5 an5 od6 an6 od7 an7 od8 an8 od9 an9 od10 an10 od11 an11 od12 an12 od13 an13 od14 an14 od15 an15 od16 an16 od17 an17 od18 an18 od19 an19 od20 an20 od21 an21 od22 an22 od23 an23 od24 an24 od25 an25 od26 an26 od27 an27 od28 an28 : Option Addr} {sl0 sl1 sl2 sl3 sl4 sl5 sl6 sl7 sl8 sl9 sl10 sl11 sl12 sl13 sl14 sl15 sl16 sl17 sl18 sl19 sl20 sl21 sl22 sl23 sl24 sl25 sl26 sl27 sl28 : Array (Option Value)}
    {oc0 kV0 dc0 pm0 cd0 ct0 oc1 kV1 dc1 pm1 cd1 ct1 oc2 kV2 dc2 pm2 cd2 ct2 oc3 kV3 dc3 pm3 cd3 ct3 oc4 kV4 dc4 pm4 cd4 ct4 oc5 kV5 dc5 pm5 cd5 ct5 oc6 kV6 dc6 pm6 cd6 ct6 oc7 kV7 dc7 pm7 cd7 ct7 oc8 kV8 dc8 pm8 cd8 ct8 oc9 kV9 dc9 pm9 cd9 ct9 oc10 kV10 dc10 pm10 cd10 ct10 oc11 kV11 dc11 pm11 cd11 ct11 oc12 kV12 dc12 pm12 cd12 ct12 oc13 kV13 dc13 pm13 cd13 ct13 oc14 kV14 dc14 pm14 cd14 ct14 oc15 kV15 dc15 pm15 cd15 ct15 oc16 kV16 dc16 pm16 cd16 ct16 oc17 kV17 dc17 pm17 cd17 ct17 oc18 kV18 dc18 pm18 cd18 ct18 oc19 kV19 dc19 pm19 cd19 ct19 oc20 kV20 dc20 pm20 cd20 ct20 oc21 kV21 dc21 pm21 cd21 ct21 oc22 kV22 dc22 pm22 cd22 ct22 oc23 kV23 dc23 pm23 cd23 ct23 oc24 kV24 dc24 pm24 cd24 ct24 oc25 kV25 dc25 pm25 cd25 ct25 oc26 kV26 dc26 pm26 cd26 ct26 oc27 kV27 dc27 pm27 cd27 ct27 oc28 kV28 dc28 pm28 cd28 ct28 : Value} {t_MOST_LINES t_MOST_ROWS : Tok}
    (a0 : PySem.W.nsIn K mainGlobals "is_integer_from" = some (some (.ref f0)))
    (l0 : K.lookup f0 = some ⟨oc0, od0, .func (PySem.W.fnOf "is_integer_from" "is_integer_from" (defArgs s_is_integer_from) (defBody s_is_integer_from) (defScope s_is_integer_from) .none kV0 dc0 pm0 an0 cd0 ct0), sl0⟩)
    (c0 : PySem.W.codeIn K cd0 "is_integer_from" = true) (k0 : PySem.W.keepIn K (.ref f0) = true)
    (a1 : PySem.W.nsIn K mainGlobals "is_integer_within" = some (some (.ref f1)))
    (l1 : K.lookup f1 = some ⟨oc1, od1, .func (PySem.W.fnOf "is_integer_within" "is_integer_within" (defArgs s_is_integer_within) (defBody s_is_integer_within) (defScope s_is_integer_within) .none kV1 dc1 pm1 an1 cd1 ct1), sl1⟩)
    (c1 : PySem.W.codeIn K cd1 "is_integer_within" = true) (k1 : PySem.W.keepIn K (.ref f1) = true)
    (a2 : PySem.W.nsIn K mainGlobals "is_outline" = some (some (.ref f2)))
    (l2 : K.lookup f2 = some ⟨oc2, od2, .func (PySem.W.fnOf "is_outline" "is_outline" (defArgs s_is_outline) (defBody s_is_outline) (defScope s_is_outline) .none kV2 dc2 pm2 an2 cd2 ct2), sl2⟩)
    (c2 : PySem.W.codeIn K cd2 "is_outline" = true) (k2 : PySem.W.keepIn K (.ref f2) = true)
    (a3 : PySem.W.nsIn K mainGlobals "check_outline" = some (some (.ref f3)))
    (l3 : K.lookup f3 = some ⟨oc3, od3, .func (PySem.W.fnOf "check_outline" "check_outline" (defArgs s_check_outline) (defBody s_check_outline) (defScope s_check_outline) .none kV3 dc3 pm3 an3 cd3 ct3), sl3⟩)
    (c3 : PySem.W.codeIn K cd3 "check_outline" = true) (k3 : PySem.W.keepIn K (.ref f3) = true)
    (a4 : PySem.W.nsIn K mainGlobals "stop_of" = some (some (.ref f4)))
    (l4 : K.lookup f4 = some ⟨oc4, od4, .func (PySem.W.fnOf "stop_of" "stop_of" (defArgs s_stop_of) (defBody s_stop_of) (defScope s_stop_of) .none kV4 dc4 pm4 an4 cd4 ct4), sl4⟩)
    (c4 : PySem.W.codeIn K cd4 "stop_of" = true) (k4 : PySem.W.keepIn K (.ref f4) = true)
    (a5 : PySem.W.nsIn K mainGlobals "check_height" = some (some (.ref f5)))
    (l5 : K.lookup f5 = some ⟨oc5, od5, .func (PySem.W.fnOf "check_height" "check_height" (defArgs s_check_height) (defBody s_check_height) (defScope s_check_height) .none kV5 dc5 pm5 an5 cd5 ct5), sl5⟩)
    (c5 : PySem.W.codeIn K cd5 "check_height" = true) (k5 : PySem.W.keepIn K (.ref f5) = true)
    (a6 : PySem.W.nsIn K mainGlobals "check_depths" = some (some (.ref f6)))
    (l6 : K.lookup f6 = some ⟨oc6, od6, .func (PySem.W.fnOf "check_depths" "check_depths" (defArgs s_check_depths) (defBody s_check_depths) (defScope s_check_depths) .none kV6 dc6 pm6 an6 cd6 ct6), sl6⟩)
    (c6 : PySem.W.codeIn K cd6 "check_depths" = true) (k6 : PySem.W.keepIn K (.ref f6) = true)
    (a7 : PySem.W.nsIn K mainGlobals "check_all_shown" = some (some (.ref f7)))
    (l7 : K.lookup f7 = some ⟨oc7, od7, .func (PySem.W.fnOf "check_all_shown" "check_all_shown" (defArgs s_check_all_shown) (defBody s_check_all_shown) (defScope s_check_all_shown) .none kV7 dc7 pm7 an7 cd7 ct7), sl7⟩)
    (c7 : PySem.W.codeIn K cd7 "check_all_shown" = true) (k7 : PySem.W.keepIn K (.ref f7) = true)
    (a8 : PySem.W.nsIn K mainGlobals "scrolls_for_span" = some (some (.ref f8)))
    (l8 : K.lookup f8 = some ⟨oc8, od8, .func (PySem.W.fnOf "scrolls_for_span" "scrolls_for_span" (defArgs s_scrolls_for_span) (defBody s_scrolls_for_span) (defScope s_scrolls_for_span) .none kV8 dc8 pm8 an8 cd8 ct8), sl8⟩)
    (c8 : PySem.W.codeIn K cd8 "scrolls_for_span" = true) (k8 : PySem.W.keepIn K (.ref f8) = true)
    (a9 : PySem.W.nsIn K mainGlobals "greatest_scroll" = some (some (.ref f9)))
    (l9 : K.lookup f9 = some ⟨oc9, od9, .func (PySem.W.fnOf "greatest_scroll" "greatest_scroll" (defArgs s_greatest_scroll) (defBody s_greatest_scroll) (defScope s_greatest_scroll) .none kV9 dc9 pm9 an9 cd9 ct9), sl9⟩)
    (c9 : PySem.W.codeIn K cd9 "greatest_scroll" = true) (k9 : PySem.W.keepIn K (.ref f9) = true)
    (a10 : PySem.W.nsIn K mainGlobals "is_ascending_list" = some (some (.ref f10)))
    (l10 : K.lookup f10 = some ⟨oc10, od10, .func (PySem.W.fnOf "is_ascending_list" "is_ascending_list" (defArgs s_is_ascending_list) (defBody s_is_ascending_list) (defScope s_is_ascending_list) .none kV10 dc10 pm10 an10 cd10 ct10), sl10⟩)
    (c10 : PySem.W.codeIn K cd10 "is_ascending_list" = true) (k10 : PySem.W.keepIn K (.ref f10) = true)
    (a11 : PySem.W.nsIn K mainGlobals "is_shown_by" = some (some (.ref f11)))
    (l11 : K.lookup f11 = some ⟨oc11, od11, .func (PySem.W.fnOf "is_shown_by" "is_shown_by" (defArgs s_is_shown_by) (defBody s_is_shown_by) (defScope s_is_shown_by) .none kV11 dc11 pm11 an11 cd11 ct11), sl11⟩)
    (c11 : PySem.W.codeIn K cd11 "is_shown_by" = true) (k11 : PySem.W.keepIn K (.ref f11) = true)
    (a12 : PySem.W.nsIn K mainGlobals "is_reading" = some (some (.ref f12)))
    (l12 : K.lookup f12 = some ⟨oc12, od12, .func (PySem.W.fnOf "is_reading" "is_reading" (defArgs s_is_reading) (defBody s_is_reading) (defScope s_is_reading) .none kV12 dc12 pm12 an12 cd12 ct12), sl12⟩)
    (c12 : PySem.W.codeIn K cd12 "is_reading" = true) (k12 : PySem.W.keepIn K (.ref f12) = true)
    (a13 : PySem.W.nsIn K mainGlobals "count_views_left" = some (some (.ref f13)))
    (l13 : K.lookup f13 = some ⟨oc13, od13, .func (PySem.W.fnOf "count_views_left" "count_views_left" (defArgs s_count_views_left) (defBody s_count_views_left) (defScope s_count_views_left) .none kV13 dc13 pm13 an13 cd13 ct13), sl13⟩)
    (c13 : PySem.W.codeIn K cd13 "count_views_left" = true) (k13 : PySem.W.keepIn K (.ref f13) = true)
    (a14 : PySem.W.nsIn K mainGlobals "followers" = some (some (.ref f14)))
    (l14 : K.lookup f14 = some ⟨oc14, od14, .func (PySem.W.fnOf "followers" "followers" (defArgs s_followers) (defBody s_followers) (defScope s_followers) .none kV14 dc14 pm14 an14 cd14 ct14), sl14⟩)
    (c14 : PySem.W.codeIn K cd14 "followers" = true) (k14 : PySem.W.keepIn K (.ref f14) = true)
    (a15 : PySem.W.nsIn K mainGlobals "count_ways" = some (some (.ref f15)))
    (l15 : K.lookup f15 = some ⟨oc15, od15, .func (PySem.W.fnOf "count_ways" "count_ways" (defArgs s_count_ways) (defBody s_count_ways) (defScope s_count_ways) .none kV15 dc15 pm15 an15 cd15 ct15), sl15⟩)
    (c15 : PySem.W.codeIn K cd15 "count_ways" = true) (k15 : PySem.W.keepIn K (.ref f15) = true)
    (a16 : PySem.W.nsIn K mainGlobals "rank_shortest" = some (some (.ref f16)))
    (l16 : K.lookup f16 = some ⟨oc16, od16, .func (PySem.W.fnOf "rank_shortest" "rank_shortest" (defArgs s_rank_shortest) (defBody s_rank_shortest) (defScope s_rank_shortest) .none kV16 dc16 pm16 an16 cd16 ct16), sl16⟩)
    (c16 : PySem.W.codeIn K cd16 "rank_shortest" = true) (k16 : PySem.W.keepIn K (.ref f16) = true)
    (a17 : PySem.W.nsIn K mainGlobals "_law_is_ranked" = some (some (.ref f17)))
    (l17 : K.lookup f17 = some ⟨oc17, od17, .func (PySem.W.fnOf "_law_is_ranked" "_law_is_ranked" (defArgs s_law_is_ranked) (defBody s_law_is_ranked) (defScope s_law_is_ranked) .none kV17 dc17 pm17 an17 cd17 ct17), sl17⟩)
    (c17 : PySem.W.codeIn K cd17 "_law_is_ranked" = true) (k17 : PySem.W.keepIn K (.ref f17) = true)
    (a18 : PySem.W.nsIn K mainGlobals "_law_open_source" = some (some (.ref f18)))
    (l18 : K.lookup f18 = some ⟨oc18, od18, .func (PySem.W.fnOf "_law_open_source" "_law_open_source" (defArgs s_law_open_source) (defBody s_law_open_source) (defScope s_law_open_source) .none kV18 dc18 pm18 an18 cd18 ct18), sl18⟩)
    (c18 : PySem.W.codeIn K cd18 "_law_open_source" = true) (k18 : PySem.W.keepIn K (.ref f18) = true)
    (a19 : PySem.W.nsIn K mainGlobals "_law_draw" = some (some (.ref f19)))
    (l19 : K.lookup f19 = some ⟨oc19, od19, .func (PySem.W.fnOf "_law_draw" "_law_draw" (defArgs s_law_draw) (defBody s_law_draw) (defScope s_law_draw) .none kV19 dc19 pm19 an19 cd19 ct19), sl19⟩)
    (c19 : PySem.W.codeIn K cd19 "_law_draw" = true) (k19 : PySem.W.keepIn K (.ref f19) = true)
    (a20 : PySem.W.nsIn K mainGlobals "_law_made" = some (some (.ref f20)))
    (l20 : K.lookup f20 = some ⟨oc20, od20, .func (PySem.W.fnOf "_law_made" "_law_made" (defArgs s_law_made) (defBody s_law_made) (defScope s_law_made) .none kV20 dc20 pm20 an20 cd20 ct20), sl20⟩)
    (c20 : PySem.W.codeIn K cd20 "_law_made" = true) (k20 : PySem.W.keepIn K (.ref f20) = true)
    (a21 : PySem.W.nsIn K mainGlobals "_law_height" = some (some (.ref f21)))
    (l21 : K.lookup f21 = some ⟨oc21, od21, .func (PySem.W.fnOf "_law_height" "_law_height" (defArgs s_law_height) (defBody s_law_height) (defScope s_law_height) .none kV21 dc21 pm21 an21 cd21 ct21), sl21⟩)
    (c21 : PySem.W.codeIn K cd21 "_law_height" = true) (k21 : PySem.W.keepIn K (.ref f21) = true)
    (a22 : PySem.W.nsIn K mainGlobals "_law_is_reading" = some (some (.ref f22)))
    (l22 : K.lookup f22 = some ⟨oc22, od22, .func (PySem.W.fnOf "_law_is_reading" "_law_is_reading" (defArgs s_law_is_reading) (defBody s_law_is_reading) (defScope s_law_is_reading) .none kV22 dc22 pm22 an22 cd22 ct22), sl22⟩)
    (c22 : PySem.W.codeIn K cd22 "_law_is_reading" = true) (k22 : PySem.W.keepIn K (.ref f22) = true)
    (a23 : PySem.W.nsIn K mainGlobals "_law_fewest" = some (some (.ref f23)))
    (l23 : K.lookup f23 = some ⟨oc23, od23, .func (PySem.W.fnOf "_law_fewest" "_law_fewest" (defArgs s_law_fewest) (defBody s_law_fewest) (defScope s_law_fewest) .none kV23 dc23 pm23 an23 cd23 ct23), sl23⟩)
    (c23 : PySem.W.codeIn K cd23 "_law_fewest" = true) (k23 : PySem.W.keepIn K (.ref f23) = true)
    (a24 : PySem.W.nsIn K mainGlobals "_law_pages" = some (some (.ref f24)))
    (l24 : K.lookup f24 = some ⟨oc24, od24, .func (PySem.W.fnOf "_law_pages" "_law_pages" (defArgs s_law_pages) (defBody s_law_pages) (defScope s_law_pages) .none kV24 dc24 pm24 an24 cd24 ct24), sl24⟩)
    (c24 : PySem.W.codeIn K cd24 "_law_pages" = true) (k24 : PySem.W.keepIn K (.ref f24) = true)
    (a25 : PySem.W.nsIn K mainGlobals "_law_drawn" = some (some (.ref f25)))
    (l25 : K.lookup f25 = some ⟨oc25, od25, .func (PySem.W.fnOf "_law_drawn" "_law_drawn" (defArgs s_law_drawn) (defBody s_law_drawn) (defScope s_law_drawn) .none kV25 dc25 pm25 an25 cd25 ct25), sl25⟩)
    (c25 : PySem.W.codeIn K cd25 "_law_drawn" = true) (k25 : PySem.W.keepIn K (.ref f25) = true)
    (a26 : PySem.W.nsIn K mainGlobals "_law_is_shortest" = some (some (.ref f26)))
    (l26 : K.lookup f26 = some ⟨oc26, od26, .func (PySem.W.fnOf "_law_is_shortest" "_law_is_shortest" (defArgs s_law_is_shortest) (defBody s_law_is_shortest) (defScope s_law_is_shortest) .none kV26 dc26 pm26 an26 cd26 ct26), sl26⟩)
    (c26 : PySem.W.codeIn K cd26 "_law_is_shortest" = true) (k26 : PySem.W.keepIn K (.ref f26) = true)
    (a27 : PySem.W.nsIn K mainGlobals "_law_near" = some (some (.ref f27)))
    (l27 : K.lookup f27 = some ⟨oc27, od27, .func (PySem.W.fnOf "_law_near" "_law_near" (defArgs s_law_near) (defBody s_law_near) (defScope s_law_near) .none kV27 dc27 pm27 an27 cd27 ct27), sl27⟩)
    (c27 : PySem.W.codeIn K cd27 "_law_near" = true) (k27 : PySem.W.keepIn K (.ref f27) = true)
    (a28 : PySem.W.nsIn K mainGlobals "law" = some (some (.ref f28)))
    (l28 : K.lookup f28 = some ⟨oc28, od28, .func (PySem.W.fnOf "law" "law" (defArgs s_law) (defBody s_law) (defScope s_law) .none kV28 dc28 pm28 an28 cd28 ct28), sl28⟩)
    (c28 : PySem.W.codeIn K cd28 "law" = true) (k28 : PySem.W.keepIn K (.ref f28) = true)
    (z_len : PySem.W.nsIn K mainGlobals "len" = some none)
    (z_range : PySem.W.nsIn K mainGlobals "range" = some none)
    (z_repr : PySem.W.nsIn K mainGlobals "repr" = some none)
    (z_min : PySem.W.nsIn K mainGlobals "min" = some none)
    (z_max : PySem.W.nsIn K mainGlobals "max" = some none)
    (z_int : PySem.W.nsIn K mainGlobals "int" = some none)
    (z_list : PySem.W.nsIn K mainGlobals "list" = some none)
    (z_type : PySem.W.nsIn K mainGlobals "type" = some none)
    (z_bool : PySem.W.nsIn K mainGlobals "bool" = some none)
    (z_tuple : PySem.W.nsIn K mainGlobals "tuple" = some none)
    (z_isinstance : PySem.W.nsIn K mainGlobals "isinstance" = some none)
    (z_enumerate : PySem.W.nsIn K mainGlobals "enumerate" = some none)
    (z_str : PySem.W.nsIn K mainGlobals "str" = some none)
    (z_zip : PySem.W.nsIn K mainGlobals "zip" = some none)
    (z_all : PySem.W.nsIn K mainGlobals "all" = some none)
    (z_any : PySem.W.nsIn K mainGlobals "any" = some none)
    (z_sum : PySem.W.nsIn K mainGlobals "sum" = some none)
    (z_abs : PySem.W.nsIn K mainGlobals "abs" = some none)
    (z_sorted : PySem.W.nsIn K mainGlobals "sorted" = some none)
    (z_set : PySem.W.nsIn K mainGlobals "set" = some none)
    (z_dict : PySem.W.nsIn K mainGlobals "dict" = some none)
    (z_reversed : PySem.W.nsIn K mainGlobals "reversed" = some none)
    (z_divmod : PySem.W.nsIn K mainGlobals "divmod" = some none)
    (m_MOST_LINES : PySem.W.nsIn K mainGlobals "MOST_LINES" = some (some (.int 200 t_MOST_LINES)))
    (m_MOST_ROWS : PySem.W.nsIn K mainGlobals "MOST_ROWS" = some (some (.int 400 t_MOST_ROWS)))
    {C_InvalidReadingError : Addr} (ea_InvalidReadingError : PySem.W.nsIn K mainGlobals "InvalidReadingError" = some (some (.ref C_InvalidReadingError))) (eq_InvalidReadingError : PySem.W.excIn K C_InvalidReadingError HandSPX.veTail "ValueError.__new__" = true) (ek_InvalidReadingError : PySem.W.keepIn K (.ref C_InvalidReadingError) = true)
    (ee_InvalidReadingError : PySem.W.subIn K (.ref C_InvalidReadingError) (.type "BaseException") = some true) (et_InvalidReadingError : PySem.W.typeIn K (.ref C_InvalidReadingError) = some (.type "type"))
    (ei_InvalidReadingError : PySem.W.isClsIn K C_InvalidReadingError = true)
    (es_InvalidReadingError_InvalidReadingError : PySem.W.subIn K (.ref C_InvalidReadingError) (.ref C_InvalidReadingError) = some true)
    : ∃ fd : FuncData, (∀ (s : Shared) (v : Value), BindsTo s fd ⟨[v], []⟩ [("script", v)]) ∧
      ∀ base : Heap, K.In base → base.Ns mainGlobals mg → FnG l.prog w K mg base CX0 8 fa fd ["script"] (sp_law K) := by
  have T : Txt mg := ⟨PySem.W.mg_none_of X G z_len, PySem.W.mg_none_of X G z_range, PySem.W.mg_none_of X G z_repr, PySem.W.mg_none_of X G z_min, PySem.W.mg_none_of X G z_max, PySem.W.mg_none_of X G z_int, PySem.W.mg_none_of X G z_list, PySem.W.mg_none_of X G z_type, PySem.W.mg_none_of X G z_bool, PySem.W.mg_none_of X G z_tuple, PySem.W.mg_none_of X G z_isinstance, PySem.W.mg_none_of X G z_enumerate, PySem.W.mg_none_of X G z_str, PySem.W.mg_none_of X G z_zip, PySem.W.mg_none_of X G z_all, PySem.W.mg_none_of X G z_any, PySem.W.mg_none_of X G z_sum, PySem.W.mg_none_of X G z_abs, PySem.W.mg_none_of X G z_sorted, PySem.W.mg_none_of X G z_set, PySem.W.mg_none_of X G z_dict, PySem.W.mg_none_of X G z_reversed, PySem.W.mg_none_of X G z_divmod⟩
  have c_MOST_LINES := PySem.W.mg_of X G m_MOST_LINES
  have c_MOST_ROWS := PySem.W.mg_of X G m_MOST_ROWS
  have e_InvalidReadingError : Err K mg "InvalidReadingError" C_InvalidReadingError := ⟨PySem.W.mg_of X G ea_InvalidReadingError, eq_InvalidReadingError, ek_InvalidReadingError, ee_InvalidReadingError, et_InvalidReadingError⟩
  have x_InvalidReadingError_InvalidReadingError : Catch K C_InvalidReadingError C_InvalidReadingError true := Catch.of ee_InvalidReadingError ei_InvalidReadingError et_InvalidReadingError es_InvalidReadingError_InvalidReadingError
  have at_is_integer_from : At K mg "is_integer_from" s_is_integer_from := ⟨f0, _, fun_mk l0 c0 k0, PySem.W.mg_of X G a0⟩
  have at_is_integer_within : At K mg "is_integer_within" s_is_integer_within := ⟨f1, _, fun_mk l1 c1 k1, PySem.W.mg_of X G a1⟩
  have at_is_outline : At K mg "is_outline" s_is_outline := ⟨f2, _, fun_mk l2 c2 k2, PySem.W.mg_of X G a2⟩
  have at_check_outline : At K mg "check_outline" s_check_outline := ⟨f3, _, fun_mk l3 c3 k3, PySem.W.mg_of X G a3⟩
  have at_stop_of : At K mg "stop_of" s_stop_of := ⟨f4, _, fun_mk l4 c4 k4, PySem.W.mg_of X G a4⟩
  have at_check_height : At K mg "check_height" s_check_height := ⟨f5, _, fun_mk l5 c5 k5, PySem.W.mg_of X G a5⟩
  have at_check_depths : At K mg "check_depths" s_check_depths := ⟨f6, _, fun_mk l6 c6 k6, PySem.W.mg_of X G a6⟩
  have at_check_all_shown : At K mg "check_all_shown" s_check_all_shown := ⟨f7, _, fun_mk l7 c7 k7, PySem.W.mg_of X G a7⟩
  have at_scrolls_for_span : At K mg "scrolls_for_span" s_scrolls_for_span := ⟨f8, _, fun_mk l8 c8 k8, PySem.W.mg_of X G a8⟩
  have at_greatest_scroll : At K mg "greatest_scroll" s_greatest_scroll := ⟨f9, _, fun_mk l9 c9 k9, PySem.W.mg_of X G a9⟩
  have at_is_ascending_list : At K mg "is_ascending_list" s_is_ascending_list := ⟨f10, _, fun_mk l10 c10 k10, PySem.W.mg_of X G a10⟩
  have at_is_shown_by : At K mg "is_shown_by" s_is_shown_by := ⟨f11, _, fun_mk l11 c11 k11, PySem.W.mg_of X G a11⟩
  have at_is_reading : At K mg "is_reading" s_is_reading := ⟨f12, _, fun_mk l12 c12 k12, PySem.W.mg_of X G a12⟩
  have at_count_views_left : At K mg "count_views_left" s_count_views_left := ⟨f13, _, fun_mk l13 c13 k13, PySem.W.mg_of X G a13⟩
  have at_followers : At K mg "followers" s_followers := ⟨f14, _, fun_mk l14 c14 k14, PySem.W.mg_of X G a14⟩
  have at_count_ways : At K mg "count_ways" s_count_ways := ⟨f15, _, fun_mk l15 c15 k15, PySem.W.mg_of X G a15⟩
  have at_rank_shortest : At K mg "rank_shortest" s_rank_shortest := ⟨f16, _, fun_mk l16 c16 k16, PySem.W.mg_of X G a16⟩
  have at_law_is_ranked : At K mg "_law_is_ranked" s_law_is_ranked := ⟨f17, _, fun_mk l17 c17 k17, PySem.W.mg_of X G a17⟩
  have at_law_open_source : At K mg "_law_open_source" s_law_open_source := ⟨f18, _, fun_mk l18 c18 k18, PySem.W.mg_of X G a18⟩
  have at_law_draw : At K mg "_law_draw" s_law_draw := ⟨f19, _, fun_mk l19 c19 k19, PySem.W.mg_of X G a19⟩
  have at_law_made : At K mg "_law_made" s_law_made := ⟨f20, _, fun_mk l20 c20 k20, PySem.W.mg_of X G a20⟩
  have at_law_height : At K mg "_law_height" s_law_height := ⟨f21, _, fun_mk l21 c21 k21, PySem.W.mg_of X G a21⟩
  have at_law_is_reading : At K mg "_law_is_reading" s_law_is_reading := ⟨f22, _, fun_mk l22 c22 k22, PySem.W.mg_of X G a22⟩
  have at_law_fewest : At K mg "_law_fewest" s_law_fewest := ⟨f23, _, fun_mk l23 c23 k23, PySem.W.mg_of X G a23⟩
  have at_law_pages : At K mg "_law_pages" s_law_pages := ⟨f24, _, fun_mk l24 c24 k24, PySem.W.mg_of X G a24⟩
  have at_law_drawn : At K mg "_law_drawn" s_law_drawn := ⟨f25, _, fun_mk l25 c25 k25, PySem.W.mg_of X G a25⟩
  have at_law_is_shortest : At K mg "_law_is_shortest" s_law_is_shortest := ⟨f26, _, fun_mk l26 c26 k26, PySem.W.mg_of X G a26⟩
  have at_law_near : At K mg "_law_near" s_law_near := ⟨f27, _, fun_mk l27 c27 k27, PySem.W.mg_of X G a27⟩
  have at_law : At K mg "law" s_law := ⟨f28, _, fun_mk l28 c28 k28, PySem.W.mg_of X G a28⟩
  refine ⟨PySem.W.fnOf "law" "law" (defArgs s_law) (defBody s_law) (defScope s_law) .none kV28 dc28 pm28 an28 cd28 ct28, fun s v => .of_eq rfl, fun base _ _ => ?_⟩
  have G_is_integer_from := ok_is_integer_from (P := l.prog) (w := w) (base := base) T at_is_integer_from
  have G_is_integer_within := ok_is_integer_within (P := l.prog) (w := w) (base := base) T at_is_integer_within G_is_integer_from
  have G_is_outline := ok_is_outline (P := l.prog) (w := w) (base := base) T c_MOST_LINES at_is_outline G_is_integer_within
  have G_check_outline := ok_check_outline (P := l.prog) (w := w) (base := base) T at_check_outline (G_is_outline.impX outline_imp)
  have G_stop_of := ok_stop_of (P := l.prog) (w := w) (base := base) T at_stop_of
  have G_check_height := ok_check_height (P := l.prog) (w := w) (base := base) T c_MOST_ROWS at_check_height (G_is_integer_within.impX within_imp)
  have G_check_depths := ok_check_depths (P := l.prog) (w := w) (base := base) T at_check_depths
  have G_check_all_shown := ok_check_all_shown (P := l.prog) (w := w) (base := base) T at_check_all_shown G_check_outline G_check_height G_check_depths
  have G_scrolls_for_span := ok_scrolls_for_span (P := l.prog) (w := w) (base := base) T at_scrolls_for_span G_stop_of
  have G_greatest_scroll := ok_greatest_scroll (P := l.prog) (w := w) (base := base) T at_greatest_scroll G_stop_of
  have G_is_ascending_list := ok_is_ascending_list (P := l.prog) (w := w) (base := base) T at_is_ascending_list G_is_integer_within
  have G_is_shown_by := ok_is_shown_by (P := l.prog) (w := w) (base := base) T at_is_shown_by G_scrolls_for_span
  have G_is_reading := ok_is_reading (P := l.prog) (w := w) (base := base) T at_is_reading G_check_outline G_check_height G_is_ascending_list G_greatest_scroll G_is_shown_by
  have G_count_views_left := ok_count_views_left (P := l.prog) (w := w) (base := base) T at_count_views_left G_greatest_scroll G_stop_of
  have G_followers := ok_followers (P := l.prog) (w := w) (base := base) T at_followers G_stop_of
  have G_count_ways := ok_count_ways (P := l.prog) (w := w) (base := base) T at_count_ways G_followers
  have G_rank_shortest := ok_rank_shortest (P := l.prog) (w := w) (base := base) T e_InvalidReadingError at_rank_shortest G_check_all_shown G_count_views_left G_is_reading G_count_ways G_followers
  have G_law_is_ranked := ok_law_is_ranked (P := l.prog) (w := w) (base := base) T e_InvalidReadingError x_InvalidReadingError_InvalidReadingError at_law_is_ranked G_rank_shortest
  have G_law_open_source := ok_law_open_source (P := l.prog) (w := w) (base := base) T at_law_open_source
  have G_law_draw := ok_law_draw (P := l.prog) (w := w) (base := base) T at_law_draw
  have G_law_made := ok_law_made (P := l.prog) (w := w) (base := base) T at_law_made G_law_draw
  have G_law_height := ok_law_height (P := l.prog) (w := w) (base := base) T at_law_height G_law_draw
  have G_law_is_reading := ok_law_is_reading (P := l.prog) (w := w) (base := base) T at_law_is_reading
  have G_law_fewest := ok_law_fewest (P := l.prog) (w := w) (base := base) T at_law_fewest
  have G_law_pages := ok_law_pages (P := l.prog) (w := w) (base := base) T at_law_pages
  have G_law_drawn := ok_law_drawn (P := l.prog) (w := w) (base := base) T at_law_drawn G_law_pages G_law_draw
  have G_law_is_shortest := ok_law_is_shortest (P := l.prog) (w := w) (base := base) T at_law_is_shortest G_law_fewest G_law_is_reading
  have G_law_near := ok_law_near (P := l.prog) (w := w) (base := base) T at_law_near G_law_draw
  obtain ⟨f, fd, F, m, R, _⟩ := ok_law (P := l.prog) (w := w) (base := base) T at_law G_law_open_source G_law_draw G_law_made G_law_height G_law_drawn G_law_near G_law_is_ranked G_law_is_shortest
  have e1 := m.symm.trans hfa
  cases e1
  have e2 := (PySem.W.mg_of X G a28).symm.trans hfa
  cases e2
  obtain ⟨_, _, _, _, _, _, _, _, _, _, lk, _⟩ := F.ex
  rw [l28] at lk
  cases lk
  exact R
theorem walk {l : PySem.W.OpenLaw} {q : Program} {loose : List Str} {XP : (Str → Option Value) → Heap → Prop} {YP : World → Heap → Prop} {d : DefRec} {K : Params → PySem.W.Frag}
    (hn : l.most = some 63) (hdf : d.params.defaults = []) (hY : ∀ (w : World) (h : Heap), YP w h → (K w.params).In h)
    (F : ∀ (w : World) (mg : Str → Option Value) (fa : Addr) (h : Heap), (K w.params).In h → h.Ns mainGlobals mg → mg d.name = some (.ref fa) →
      ∃ fd : FuncData, (∀ (s : Shared) (u : Value), BindsTo s fd ⟨[u], []⟩ [("script", u)]) ∧ ∀ base : Heap, (K w.params).In base → base.Ns mainGlobals mg →
        FnG l.prog w (K w.params) mg base CX0 8 fa fd ["script"] (sp_law (K w.params))) :
    PySem.W.WalkO q loose XP YP l.row.toRowW d [] (fun f vs => PySem.call f vs) :=
  walkG (n := 63) (k := 8) (x := "script") (CX := fun _ => CX0) (sp := fun w => sp_law (K w.params)) hn (by decide) hdf ⟨rfl, by decide, by decide⟩ hY F
    (fun _ _ a ns hl _ hS => ⟨a, ns, rfl, hS, hl, fun _ => rfl⟩) fun _ _ _ _ _ z => z
end SH
open PySem PySem.W PyProof.Rows
set_option maxRecDepth 100000 in
set_option maxHeartbeats 0 in
theorem PySem.Challenge.cw_stickyheads_k55_lists_that_are_no_shorte_holds : PySem.Challenge.rw_stickyheads_k55_lists_that_are_no_shorte.Holds := by
  w_on; o_law; k_head; (case hw => w_witness2)
  k_fill
  refine SH.walk (l := PySem.Challenge.rw_stickyheads_k55_lists_that_are_no_shorte) rfl rfl (fun w h Y => PySem.W.kIn_of Y) ?F
  case F =>
    intro w mg fa h KX G hmg
    refine' SH.all_mk KX G hmg ?a0 ?l0 ?c0 ?k0 ?a1 ?l1 ?c1 ?k1 ?a2 ?l2 ?c2 ?k2 ?a3 ?l3 ?c3 ?k3 ?a4 ?l4 ?c4 ?k4 ?a5 ?l5 ?c5 ?k5 ?a6 ?l6 ?c6 ?k6 ?a7 ?l7 ?c7 ?k7 ?a8 ?l8 ?c8 ?k8 ?a9 ?l9 ?c9 ?k9 ?a10 ?l10 ?c10 ?k10 ?a11 ?l11 ?c11 ?k11 ?a12 ?l12 ?c12 ?k12 ?a13 ?l13 ?c13 ?k13 ?a14 ?l14 ?c14 ?k14 ?a15 ?l15 ?c15 ?k15 ?a16 ?l16 ?c16 ?k16 ?a17 ?l17 ?c17 ?k17 ?a18 ?l18 ?c18 ?k18 ?a19 ?l19 ?c19 ?k19 ?a20 ?l20 ?c20 ?k20 ?a21 ?l21 ?c21 ?k21 ?a22 ?l22 ?c22 ?k22 ?a23 ?l23 ?c23 ?k23 ?a24 ?l24 ?c24 ?k24 ?a25 ?l25 ?c25 ?k25 ?a26 ?l26 ?c26 ?k26 ?a27 ?l27 ?c27 ?k27 ?a28 ?l28 ?c28 ?k28 ?z_len ?z_range ?z_repr ?z_min ?z_max ?z_int ?z_list ?z_type ?z_bool ?z_tuple ?z_isinstance ?z_enumerate ?z_str ?z_zip ?z_all ?z_any ?z_sum ?z_abs ?z_sorted ?z_set ?z_dict ?z_reversed ?z_divmod ?m_MOST_LINES ?m_MOST_ROWS ?ea_InvalidReadingError ?eq_InvalidReadingError ?ek_InvalidReadingError ?ee_InvalidReadingError ?et_InvalidReadingError ?ei_InvalidReadingError ?es_InvalidReadingError_InvalidReadingError
    (case a0 => k_is); (case l0 => k_is); (case c0 => k_is); (case k0 => k_is); (case a1 => k_is); (case l1 => k_is); (case c1 => k_is); (case k1 => k_is)
    (case a2 => k_is); (case l2 => k_is); (case c2 => k_is); (case k2 => k_is); (case a3 => k_is); (case l3 => k_is); (case c3 => k_is); (case k3 => k_is)
    (case a4 => k_is); (case l4 => k_is); (case c4 => k_is); (case k4 => k_is); (case a5 => k_is); (case l5 => k_is); (case c5 => k_is); (case k5 => k_is)
    (case a6 => k_is); (case l6 => k_is); (case c6 => k_is); (case k6 => k_is); (case a7 => k_is); (case l7 => k_is); (case c7 => k_is); (case k7 => k_is)
    (case a8 => k_is); (case l8 => k_is); (case c8 => k_is); (case k8 => k_is); (case a9 => k_is); (case l9 => k_is); (case c9 => k_is); (case k9 => k_is)
    (case a10 => k_is); (case l10 => k_is); (case c10 => k_is); (case k10 => k_is); (case a11 => k_is); (case l11 => k_is); (case c11 => k_is); (case k11 => k_is)
    (case a12 => k_is); (case l12 => k_is); (case c12 => k_is); (case k12 => k_is); (case a13 => k_is); (case l13 => k_is); (case c13 => k_is); (case k13 => k_is)
    (case a14 => k_is); (case l14 => k_is); (case c14 => k_is); (case k14 => k_is); (case a15 => k_is); (case l15 => k_is); (case c15 => k_is); (case k15 => k_is)
    (case a16 => k_is); (case l16 => k_is); (case c16 => k_is); (case k16 => k_is); (case a17 => k_is); (case l17 => k_is); (case c17 => k_is); (case k17 => k_is)
    (case a18 => k_is); (case l18 => k_is); (case c18 => k_is); (case k18 => k_is); (case a19 => k_is); (case l19 => k_is); (case c19 => k_is); (case k19 => k_is)
    (case a20 => k_is); (case l20 => k_is); (case c20 => k_is); (case k20 => k_is); (case a21 => k_is); (case l21 => k_is); (case c21 => k_is); (case k21 => k_is)
    (case a22 => k_is); (case l22 => k_is); (case c22 => k_is); (case k22 => k_is); (case a23 => k_is); (case l23 => k_is); (case c23 => k_is); (case k23 => k_is)
    (case a24 => k_is); (case l24 => k_is); (case c24 => k_is); (case k24 => k_is); (case a25 => k_is); (case l25 => k_is); (case c25 => k_is); (case k25 => k_is)
    (case a26 => k_is); (case l26 => k_is); (case c26 => k_is); (case k26 => k_is); (case a27 => k_is); (case l27 => k_is); (case c27 => k_is); (case k27 => k_is)
    (case a28 => k_is); (case l28 => k_is); (case c28 => k_is); (case k28 => k_is); (case z_len => k_is); (case z_range => k_is); (case z_repr => k_is); (case z_min => k_is)
    (case z_max => k_is); (case z_int => k_is); (case z_list => k_is); (case z_type => k_is); (case z_bool => k_is); (case z_tuple => k_is); (case z_isinstance => k_is); (case z_enumerate => k_is)
    (case z_str => k_is); (case z_zip => k_is); (case z_all => k_is); (case z_any => k_is); (case z_sum => k_is); (case z_abs => k_is); (case z_sorted => k_is); (case z_set => k_is)
    (case z_dict => k_is); (case z_reversed => k_is); (case z_divmod => k_is); (case m_MOST_LINES => k_is); (case m_MOST_ROWS => k_is); (case ea_InvalidReadingError => k_is); (case eq_InvalidReadingError => kernel_rfl); (case ek_InvalidReadingError => k_is)
    (case ee_InvalidReadingError => k_is); (case et_InvalidReadingError => k_is); (case ei_InvalidReadingError => first | rfl | k_is); (case es_InvalidReadingError_InvalidReadingError => first | rfl | k_is)

