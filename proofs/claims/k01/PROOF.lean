import PyProof.Rows.All
import Wide.All
import OpenK.AllK
import Wide.FinOn
import PyProof.EqAt
import PyProof.EqKinds
import PyProof.TupleCall
import PyProof.ReprRoads
import HandS.Base
import HandS.Call
import HandS.List
import HandS.Comp
import HandS.Iter
import HandS.Ends
import HandS.Words
import HandS.WordsList
import PyProof.TypeEq
import PyProof.InstEq
import HandS.IsInst
import HandS.Zip
import HandS.Wide
import HandS.Evl
import HandS.Conv
import HandS.RevRange
import PyProof.ReprLen
import PyProof.Rows.RegStrFacts
import HandS.SetFor
import HandS.Strs
import HandS.SortInts
import PyProof.Rows.SortShellAny
import HandS.Dict
import HandS.Style
import HandS.More
import PySem.Challenge.RW_stickyheads_k01_outlines_recognized
set_option Elab.async false
set_option linter.all false
set_option maxRecDepth 100000
/-! SH0: calls where no repr is running: the promise of a def under an empty list of guards. -/
namespace SH
open PySem PySem.Spec PyProof.Rows L2

/-- nothing that guards itself (repr and its like) runs around -/
abbrev Quiet (A : Around) : Prop := A.guards = some []

structure FnG (P : Program) (w : World) (K : PySem.W.Frag) (mg : Str → Option Value) (base : Heap)
    (CX : CXT) (k : Nat) (f : Addr) (fd : FuncData) (ps : List Str) (sp : Sp) : Prop where
  arity : ∀ vs H Q E, sp vs H Q E → vs.length = ps.length
  go : ∀ (A : Around) (outer : List Env) (s : Shared) (H : Hp) (args : Args) (us : List Value) (vs : List V)
    (Q : VK) (E : XK), Room k A → Quiet A → Env0 P w K mg base A outer s H →
    BindsTo s fd args (ps.zip us) → Vals vs us → sp vs H Q E →
    codeAny (model P w) A (.call (.ref f) args) (CR CX outer P w H s Q E) s

section
variable {X : Cx} {CX : CXT} {k : Nat} {f : Addr} {fd : FuncData} {ps ks : List Str} {sp : Sp}
  {dvs : List V} {ds : List Value} {E : XK} {x : Str} {p pos : Pos} {e : Expr} {es : List Expr} {t tk : TA}
  {kws : List Keyword} {g : List Value → List Value → List Value} {gV : List V → List V → List V}

theorem endG {pins : List (Addr × Obj)} {σ : L2.St} {H : Hp} {s : Shared} {Q : VK} (I : Inv X pins σ H s)
    (hx : Passes CX X E) : ∀ (r : Result) (s' : Shared), CR CX X.stack X.prog X.w H s Q E r s' →
    (match r with
      | .ok (.ret u) => EP X pins σ Q u s'
      | .ok _ => False
      | .error e => X.xe e s')
  | .error e, s', q => hx pins σ H s e s' I q
  | .ok (.ret _), _, q => I.after q
  | .ok .next, _, q => False.elim q
  | .ok .brk, _, q => False.elim q
  | .ok .cont, _, q => False.elim q

theorem goG {pins : List (Addr × Obj)} {σ : L2.St} {H : Hp} {s : Shared} {Q : VK} {us : List Value} {vs : List V}
    (F : FnG X.prog X.w X.K X.mg X.base CX k f fd ps sp) (room : Room k X.A) (qt : Quiet X.A)
    (hb : Binds X.K fd ps ds) (hd : Vals dvs ds) (hx : Passes CX X E)
    (I : Inv X pins σ H s) (r : Vals vs us) (h : sp (vs ++ dvs) H Q E) :
    wpAny (model X.prog X.w) X.A (call (.ref f) us) (EP X pins σ Q) X.xe s := by
  have rr : Vals (vs ++ dvs) (us ++ ds) := r.append hd
  have hlen : (us ++ ds).length = ps.length := by rw [← rr.length]; exact F.arity _ _ _ _ h
  refine wpAny_call (codeAny_mono (F.go X.A X.stack s H ⟨us, []⟩ (us ++ ds) (vs ++ dvs) Q E room qt
    I.env0 (hb s us I.kIn hlen) rr h) fun r s' hq => ?_)
  have := endG I hx r s' hq
  cases r with
  | error e => exact this
  | ok fl => cases fl with
    | ret u => exact this
    | _ => exact False.elim this

theorem pe_callG (F : FnG X.prog X.w X.K X.mg X.base CX k f fd ps sp) (room : Room k X.A) (qt : Quiet X.A)
    (hg : Gl X x) (hm : X.mg x = some (.ref f)) (hk : PySem.W.keepIn X.K (.ref f) = true)
    (hb : Binds X.K fd ps ds) (hd : Vals dvs ds) (hx : Passes CX X E) (ha : PA X (e :: es) t)
    (hdb : (x == ("__debug__" : Str)) = false := by decide)
    (he : starEach (e :: es) X.env = (false, eval e X.env) :: starEach es X.env := by rfl)
    (hpl : (backTo pos (starEach es X.env)).any (·.1) = false := by rfl) :
    PE X (.Call (.Name x p) (e :: es) [] pos) (tCall sp dvs E t) :=
  ⟨fun pins s σ H Q I h => wpAny_Call_Name_kw (ld_glob I hg hm
    (PySem.W.callWith_K (h₀ := X.base) I.ok.mod.kin hk
      (thn (ha.run pos pins s σ H _ I h) fun us s1 ⟨vs, H1, I1, r, q⟩ =>
        ⟨I1.kIn, goG F room qt hb hd hx I1 r q⟩) he hpl) hdb)⟩

theorem pe_callG0 (F : FnG X.prog X.w X.K X.mg X.base CX k f fd ps sp) (room : Room k X.A) (qt : Quiet X.A)
    (hg : Gl X x) (hm : X.mg x = some (.ref f)) (hk : PySem.W.keepIn X.K (.ref f) = true)
    (hb : Binds X.K fd ps ds) (hd : Vals dvs ds) (hx : Passes CX X E)
    (hdb : (x == ("__debug__" : Str)) = false := by decide) :
    PE X (.Call (.Name x p) [] [] pos) (tCall sp dvs E tNil) :=
  ⟨fun pins s σ H Q I h => wpAny_Call_Name_kw (ld_glob I hg hm
    (PySem.W.callWith_K0 I.kIn hk (goG (us := []) F room qt hb hd hx I .nil h)) hdb)⟩

theorem goGK {pins : List (Addr × Obj)} {σ : L2.St} {H : Hp} {s : Shared} {Q : VK} {us ws : List Value}
    {vs zs : List V} (F : FnG X.prog X.w X.K X.mg X.base CX k f fd ps sp) (room : Room k X.A) (qt : Quiet X.A)
    (hb : KBinds X.K fd ps ks g gV) (hx : Passes CX X E)
    (I : Inv X pins σ H s) (r : Vals vs us) (rz : Vals zs ws) (h : sp (gV vs zs) H Q E) :
    wpAny (model X.prog X.w) X.A (call (.ref f) us (ks.zip ws)) (EP X pins σ Q) X.xe s := by
  have rr := hb.rel r rz
  have hlen : (g us ws).length = ps.length := by rw [← rr.length]; exact F.arity _ _ _ _ h
  refine wpAny_call (codeAny_mono (F.go X.A X.stack s H ⟨us, ks.zip ws⟩ (g us ws) (gV vs zs) Q E room qt
    I.env0 (hb.to s us ws I.kIn hlen) rr h) fun r s' hq => ?_)
  have := endG I hx r s' hq
  cases r with
  | error e => exact this
  | ok fl => cases fl with
    | ret u => exact this
    | _ => exact False.elim this

/-- f(k = v, ..): no argument by position -/
theorem pe_callGK0 (F : FnG X.prog X.w X.K X.mg X.base CX k f fd ps sp) (room : Room k X.A)
    (qt : Quiet X.A) (hg : Gl X x) (hm : X.mg x = some (.ref f)) (hk : PySem.W.keepIn X.K (.ref f) = true)
    (hb : KBinds X.K fd ps ks g gV) (hx : Passes CX X E) (hkw : PK X kws tk)
    (hall : (backToKw pos (keywordEach kws X.env)).all (·.1.isSome) = true := by rfl)
    (hks : (backToKw pos (keywordEach kws X.env)).filterMap (·.1) = ks := by rfl)
    (hdb : (x == ("__debug__" : Str)) = false := by decide)
    (hpl : ((backTo pos (starEach [] X.env)).any (·.1) ||
      (backToKw pos (keywordEach kws X.env)).any (·.1.isNone)) = false := by rfl) :
    PE X (.Call (.Name x p) [] kws pos) (tCallK sp gV E tNil tk) :=
  ⟨fun pins s σ H Q I h => wpAny_Call_Name_kw (ld_glob I hg hm
    (PySem.W.callWith_KW0 (h₀ := X.base) I.ok.mod.kin hk hall
      (thn (hkw.run pos pins s σ H _ I h) fun ws s2 ⟨zs, H2, I2, rz, q2⟩ => ⟨I2.kIn, by
        rw [hks]
        exact goGK (us := []) (vs := []) F room qt hb hx I2 .nil rz q2⟩) hpl) hdb)⟩
end

/-! ### a def of the text, walked where all is quiet -/
section
variable {P : Program} {w : World} {K : PySem.W.Frag} {mg : Str → Option Value} {base : Heap}

theorem FnG.of {CX : CXT} {x qual : Str} {st : Stmt} {f : Addr} {fd : FuncData} {N ps : List Str} {k : Nat} {sp : Sp}
    (F : Fun K x qual st f fd) (S : FnScope N ps (defScope st)) (len : ∀ vs H Q E, sp vs H Q E → vs.length = ps.length)
    (walk : ∀ (cdv : Value) (A : Around) (outer : List Env) (s : Shared) (H : Hp) (vs : List V) (Q : VK) (E : XK),
      Room k (A.deeper (envOfC qual (defScope st) s.heap.objs.size f cdv)) →
      Quiet (A.deeper (envOfC qual (defScope st) s.heap.objs.size f cdv)) → sp vs H Q E →
      ∃ t, PSs (cxOf CX P w K mg base N qual (defScope st) f cdv A outer s H E) (defBody st) t ∧
        t { nx := fun _ H' => Q .non H', rt := Q } (start N vs) H) :
    FnG P w K mg base CX (k + 1) f fd ps sp := by
  obtain ⟨oc, od, kV, doc, pm, an, cdv, ct, osl, rfl, lk, hcd⟩ := F.ex
  refine ⟨len, fun A outer s H args us vs Q E room qt e0 hb r hsp => ?_⟩
  have hl := len _ _ _ _ hsp
  have inK : K.In s.heap := e0.mod.kin.keeps fun b o e => (e0.bs b o e).1
  have lim : s.heap.NoLimit := e0.mod.nolimit.keeps fun b o e => (e0.bs b o e).1
  have kinds : ∀ y ∈ ps.zip us, (defScope st).names.lookup y.1 = some .local ∨
      ((defScope st).names.lookup y.1 = some .cell ∧
        ((cellsFrom (s.heap.objs.size + 1) (defScope st).names []).lookup y.1).isSome = true) := by
    rintro ⟨n, v⟩ hy
    rcases S.par n (List.of_mem_zip hy).1 with z | z
    · exact .inl z
    · exact .inr ⟨z, PySem.W.cellsFrom_some _ _ _ (.inl z)⟩
  refine codeAny_call_function room.depth (inK _ _ lk) rfl S.co S.gen rfl (PySem.W.codeRec_of inK hcd) (hb _ _ _ _ ?_)
  refine wpAny_newFunctionEnv_cells S.kind kinds fun env he s1 ic => ?_
  subst he
  refine ⟨lim.keeps ic.toInCall.keep, codeAny_func ?_⟩
  obtain ⟨t, ht, hq⟩ := walk cdv A outer s H vs Q E (room.deeper _) (by exact qt) hsp
  have I := inv_start (CX := CX) (E := E) (P := P) (w := w) S room.hd e0 hl r ic
  refine wpAny_mono (ht.run [] s1 (start N vs) H _ I hq) (fun fl s' hs => ?_) fun e s' hs => hs
  cases fl with
  | ret u =>
    obtain ⟨v, σ', H', J, rv, q⟩ := hs
    exact ⟨v, H', J.os, J.bare, J.base, J.hok, rv, q⟩
  | next =>
    obtain ⟨σ', H', J, q⟩ := hs
    exact ⟨V.non, H', J.os, J.bare, J.base, J.hok, rfl, q⟩
  | brk => obtain ⟨_, _, _, q⟩ := hs; exact q.elim
  | cont => obtain ⟨_, _, _, q⟩ := hs; exact q.elim

/-- for a def that lets no error out -/
theorem FnG.ok {x qual : Str} {st : Stmt} {f : Addr} {fd : FuncData} {N ps : List Str} {k : Nat} {sp : Sp}
    (F : Fun K x qual st f fd) (S : FnScope N ps (defScope st)) (len : ∀ vs H Q E, sp vs H Q E → vs.length = ps.length)
    (walk : ∀ (cdv : Value) (A : Around) (outer : List Env) (s : Shared) (H : Hp) (vs : List V) (Q : VK) (E : XK),
      Room k (A.deeper (envOfC qual (defScope st) s.heap.objs.size f cdv)) →
      Quiet (A.deeper (envOfC qual (defScope st) s.heap.objs.size f cdv)) → sp vs H Q E →
      ∃ t, PSs (cxOf CX0 P w K mg base N qual (defScope st) f cdv A outer s H E).nox (defBody st) t ∧
        t { nx := fun _ H' => Q .non H', rt := Q } (start N vs) H) :
    FnG P w K mg base CX0 (k + 1) f fd ps sp :=
  FnG.of F S len fun cdv A outer s H vs Q E room qt hsp =>
    let ⟨t, h, q⟩ := walk cdv A outer s H vs Q E room qt hsp
    ⟨t, h.nox, q⟩
theorem FnG.mono {CX : CXT} {j k : Nat} {f : Addr} {fd : FuncData} {ps : List Str} {sp : Sp}
    (F : FnG P w K mg base CX j f fd ps sp) (h : j ≤ k) : FnG P w K mg base CX k f fd ps sp :=
  ⟨F.arity, fun A outer s H args us vs Q E room => F.go A outer s H args us vs Q E (room.mono h)⟩
end

/-! ### the law's own call: nothing runs around it -/
theorem frz_or {H : Hp} (hO : Only H) {b : Addr} {u : HO} (e : H b = some u) : ∃ o xs, u = .frz o (.lst xs) := by
  rcases hO b with z | ⟨o, xs, z⟩
  · rw [z] at e; cases e
  · rw [z] at e; exact ⟨o, xs, (Option.some.inj e).symm⟩

theorem lawG {P : Program} {w : World} {K : PySem.W.Frag} {mg mb : Str → Option Value} {CX : CXT} {k : Nat}
    {fa a : Addr} {fd : FuncData} {x : Str} {sp : Sp} {s₁ : Shared} {vs : List Value} {ns : List Int}
    (inK : K.In s₁.heap) (hns : s₁.heap.Ns mainGlobals mg) (hb : s₁.heap.Ns builtinsNs mb)
    (hbb : ∀ x : Str, x ≠ "__name__" → mb x = bootBuiltins x) (hlim : s₁.heap.NoLimit) (hg : s₁.gens = #[])
    (ha : s₁.heap.get? a = some { cls := .type "list", data := .seq vs.toArray }) (hi : IntsAre vs ns)
    (hl : ns.length ≤ sizeLine) (room : Room k callerA)
    (F : ∀ base : Heap, K.In base → base.Ns mainGlobals mg → FnG P w K mg base CX k fa fd [x] sp)
    (hbind : ∀ (s : Shared) (u : Value), BindsTo s fd ⟨[u], []⟩ [(x, u)])
    (hsp : ∀ H : Hp, Only H → SqL K H a (ns.map V.int) → sp [.ref a] H (fun v _ => v = .bl true) fun _ _ _ => False)
    (hCX : ∀ H e s', CX [] H s₁ (fun _ _ _ => False) e s' → False) :
    codeAny (model P w) callerA (.call (.ref fa) ⟨[.ref a], []⟩)
      (fun r s' => r = .ok (.ret (.bool true)) ∧ OldK s₁.heap s'.heap ∧ s'.os = s₁.os ∧ AllBare s'.gens) s₁ := by
  have rv := vals_ints hi
  have lenV := hi.length
  suffices core : ∀ H : Hp, Only H → SqL K H a (ns.map V.int) → HOk P w H s₁.heap →
      (∀ b o, s₁.heap.get? b = some o → (b ≠ a ∨ (K.lookup b).isSome = true) → H b = none) →
      codeAny (model P w) callerA (.call (.ref fa) ⟨[.ref a], []⟩)
        (fun r s' => r = .ok (.ret (.bool true)) ∧ OldK s₁.heap s'.heap ∧ s'.os = s₁.os ∧ AllBare s'.gens) s₁ by
    cases hk : K.lookup a with
    | some o =>
      have e := inK a o hk
      rw [ha] at e
      cases e
      exact core (fun _ => none) (fun _ => .inl rfl)
        (.inr ⟨_, vs.toArray, _, hk, rfl, rfl, rfl, by rw [List.size_toArray, lenV]; exact hl, by simpa using rv⟩)
        (fun b u z => by have z' : (none : Option HO) = some u := z; cases z') (fun _ _ _ _ => rfl)
    | none =>
      let H1 : Hp := fun b => if b = a then some (.frz { cls := .type "list", data := .seq vs.toArray } (.lst (ns.map V.int))) else none
      have h1a : H1 a = some (.frz { cls := .type "list", data := .seq vs.toArray } (.lst (ns.map V.int))) := if_pos rfl
      have h1n : ∀ b, b ≠ a → H1 b = none := fun b h => if_neg h
      refine core H1 (fun b => ?_) (.inl (.inr ⟨_, h1a⟩)) (fun b u z => ?_) (fun b o _ h => ?_)
      · by_cases hb : b = a
        · subst hb; exact .inr ⟨_, _, h1a⟩
        · exact .inl (h1n b hb)
      · by_cases hb : b = a
        · subst hb
          rw [h1a] at z
          cases z
          exact ⟨ha, by rw [List.length_map]; exact hl, vs, _, rv, ha⟩
        · rw [h1n b hb] at z; cases z
      · rcases h with h | h
        · exact h1n b h
        · by_cases hb : b = a
          · subst hb; rw [hk] at h; cases h
          · exact h1n b hb
  intro H hO hS hok hN
  have down : ∀ {b : Addr} {o : Obj}, s₁.heap.get? b = some o → (b ≠ a ∨ (K.lookup b).isSome = true) →
      (hidT s₁.heap H).get? b = some o := fun e c => hidT_get e (hN _ _ e c)
  have nsK : ∀ {b : Addr} {m : Str → Option Value}, s₁.heap.Ns b m → (hidT s₁.heap H).Ns b m := by
    rintro b m ⟨o, es, ep, e, d, r⟩
    refine ⟨o, es, ep, down e (.inl ?_), d, r⟩
    rintro rfl
    rw [ha] at e
    cases e
    cases d
  have hKb : K.In (hidT s₁.heap H) := fun b o e => down (inK b o e) (.inr (by rw [e]; rfl))
  have hM : Mod K mg (hidT s₁.heap H) := ⟨hKb, nsK hns, ⟨mb, nsK hb, hbb⟩, let ⟨mc, h1, h2⟩ := hlim; ⟨mc, nsK h1, h2⟩⟩
  have e0 : Env0 P w K mg (hidT s₁.heap H) callerA [] s₁ H := ⟨rfl, hM, fun b o e => of_hidT e,
    Nat.le_of_eq (hidT_size _ _), trivial, fun b hb => (List.not_mem_nil hb).elim, hok, AllBare.of_eq hg⟩
  refine codeAny_mono ((F _ hKb (nsK hns)).go callerA [] s₁ H ⟨[.ref a], []⟩ [.ref a] [.ref a] _ _ room rfl e0
    (hbind s₁ (.ref a)) (.cons rfl .nil) (hsp H hO hS)) fun r s' h => ?_
  match r, h with
  | .error e, h => exact (hCX H e s' h).elim
  | .ok .next, h => exact False.elim h
  | .ok .brk, h => exact False.elim h
  | .ok .cont, h => exact False.elim h
  | .ok (.ret u), h =>
    obtain ⟨v, H', os, bare, un, hok', r', q⟩ := h
    obtain rfl : v = .bl true := q
    obtain rfl : u = Value.bool true := r'
    refine ⟨rfl, OldK.of_keep fun b o e => ?_, os, bare⟩
    cases q : H b with
    | none => exact un.keep b o e q (List.not_mem_nil) (by simp)
    | some u =>
      obtain ⟨ob, xs, rfl⟩ := frz_or hO q
      obtain ⟨e1, _⟩ := hok b _ q
      obtain ⟨e2, _⟩ := hok' b _ (un.frzs b ob _ q)
      rw [e] at e1
      cases e1
      exact e2

theorem walkG {l : PySem.W.OpenLaw} {n k : Nat} {q : Program} {loose : List Str} {XP : (Str → Option Value) → Heap → Prop}
    {YP : World → Heap → Prop} {d : DefRec} {K : Params → PySem.W.Frag} {CX : World → CXT} {sp : World → Sp} {x : Str}
    (hn : l.most = some n) (hn2 : n ≤ sizeLine) (hdf : d.params.defaults = []) (room : Room k callerA)
    (hY : ∀ (w : World) (h : Heap), YP w h → (K w.params).In h)
    (F : ∀ (w : World) (mg : Str → Option Value) (fa : Addr) (h : Heap), (K w.params).In h → h.Ns mainGlobals mg →
      mg d.name = some (.ref fa) → ∃ fd : FuncData, (∀ (s : Shared) (u : Value), BindsTo s fd ⟨[u], []⟩ [(x, u)]) ∧
        ∀ base : Heap, (K w.params).In base → base.Ns mainGlobals mg →
          FnG l.prog w (K w.params) mg base (CX w) k fa fd [x] (sp w))
    (hsp : ∀ (w : World) (H : Hp) (a : Addr) (ns : List Int), ns.length ≤ n → Only H →
      SqL (K w.params) H a (ns.map V.int) → sp w [.ref a] H (fun v _ => v = .bl true) fun _ _ _ => False)
    (hCX : ∀ (w : World) (H : Hp) (s : Shared) (e : Value) (s' : Shared),
      CX w [] H s (fun _ _ _ => False) e s' → False) :
    PySem.W.WalkO q loose XP YP l.row.toRowW d [] (fun f vs => PySem.call f vs) := by
  refine Att.attach_call hn hdf fun w s₀ s₁ mg mb fa o pm cd doc a vs ns G Y ho hd hcd hmg hobj hints hlen hg => ?_
  obtain ⟨fd, hb, hF⟩ := F w mg fa _ (hY w _ Y) G.T.g hmg
  exact lawG (hY w _ Y) G.T.g G.T.b G.T.builtins G.T.nolimit hg hobj hints (Nat.le_trans hlen hn2) room hF hb
    (fun H hO hS => hsp w H a ns hlen hO hS) fun H e s' => hCX w H s₁ e s'

end SH

/-! SH1: operations that the layer does not have yet: great powers, repr of data, types compared, enumerate. -/
namespace SH
open PySem PySem.Spec PyProof.Rows L2

section
variable {X : Cx}
/-! ### powers of great numbers -/
def PowC (i j : Int) : Prop := 0 ≤ j ∧ (Builtin.Int.intBits i : Int) * j ≤ 2 ^ 27
theorem op_powG : OpR X (binaryOp .Pow) (rI PowC fun i j => .int (i ^ j.toNat)) :=
  opI fun _ _ _ _ _ _ _ c q => pow_int c.1 c.2 q
theorem cube_ok {i : Int} (h : i.natAbs < 2 ^ 4000) : PowC i 3 := by
  refine ⟨by decide, ?_⟩
  have := intBits_le (k := 4000) h
  have e : (2 : Int) ^ 27 = 134217728 := by decide
  omega
theorem ten_ok {j : Int} (h0 : 0 ≤ j) (h : j ≤ 1000) : PowC 10 j := by
  refine ⟨h0, ?_⟩
  have e1 : Builtin.Int.intBits 10 = 4 := by decide
  have e : (2 : Int) ^ 27 = 134217728 := by decide
  rw [e1]
  omega

/-! ### repr -/
/-- data as it is shown -/
def Shows (K : PySem.W.Frag) (H : Hp) (x : V) (d : PyData) : Prop :=
  Dp K H x d ∧ d.showable = true ∧ d.hasDict = false ∧ d.depth ≤ 60 ∧ d.shown.length ≤ sizeLine
def rRepr (K : PySem.W.Frag) : List V → Hp → VK → Prop := fun xs H Q =>
  ∃ (a : Addr) (d : PyData), xs = [.ref a] ∧ Shows K H (.ref a) d ∧ Q (.str d.shown) H
theorem call_reprR (qt : Quiet X.A) (hu : X.A.units + 64 < cLine) : CallR X (.builtin "repr") (rRepr X.K) := by
  intro pins s σ H xs us Q I r h
  obtain ⟨a, d, rfl, ⟨hd, h1, h2, h3, h4⟩, q⟩ := h
  cases r with
  | cons ra rr =>
    cases rr
    cases ra
    obtain ⟨as, rd⟩ := Dp.reads I d _ (.ref a) hd rfl
    exact repr_of_reads' rd h1 (noDict_hsm' h2) qt (by omega) (fun _ _ e => e)
      (fun h' u tk hk => ⟨.str d.shown, H, I.kept hk, ⟨u, rfl⟩, q⟩) h4
where
  noDict_hsm' {d : PyData} {as : List Addr} (h : d.hasDict = false) : d.hasDict = true → sysModules ∉ as :=
    fun e => by rw [h] at e; cases e

end

/-! ### built-in types compared -/
open Sem (wp)
theorem slot_ty_ne : Slot "type" (cmpInfo .NotEq).2.1 "object.__ne__" :=
  .of (owner := "object") (n := "__ne__") (by rw [typeLookup_type, builtinLookup_eq_fast]; kernel_rfl)
    (by decide +kernel) (by decide +kernel) (by decide +kernel)
    (by first | exact .inl (by decide +kernel) | exact .inr (by decide +kernel)) (by rw [isSubtype_type]; kernel_rfl)
theorem slot_ty_ne_refl : Slot "type" (cmpInfo .NotEq).2.2 "object.__ne__" :=
  .of (owner := "object") (n := "__ne__") (by rw [typeLookup_type, builtinLookup_eq_fast]; kernel_rfl)
    (by decide +kernel) (by decide +kernel) (by decide +kernel)
    (by first | exact .inl (by decide +kernel) | exact .inr (by decide +kernel)) (by rw [isSubtype_type]; kernel_rfl)

section
variable {prog : Program} {w : World} {A : Around} {E : Value → Shared → Prop} {s : Shared} {Q : Value → Shared → Prop}
/-- X.__eq__(Y) of two built-in types -/
theorem sp_eq_ty {a b : String} {R : Option Value → Shared → Prop} (ha : ∀ s' : Shared, s'.TypeIs (.type a) "type")
    (h : (if a = b then R (some (.bool true)) s else R (some .notImplemented) s)) :
    wpAny (model prog w) A (callSpecialIfBound? (.type a) "__eq__" [.type b]) R E s := by
  have slot : Slot "type" ("__eq__" : Str) "object.__eq__" := TypeEq.slot_type_eq
  refine wpAny_callSpecialIfBound?_slot (name := Str.ofString "__eq__") (ha s) slot ?_
  by_cases e : a = b
  · subst e
    rw [if_pos rfl] at h
    exact call_gives slot (ha s) F.entry_object_eq (F.args_object_eq_2 _ _) (TypeEq.object_eq_same rfl (by simp)) h
  · rw [if_neg e] at h
    exact call_gives slot (ha s) F.entry_object_eq (F.args_object_eq_2 _ _)
      (TypeEq.object_eq_other rfl (by simpa using e)) h

theorem call_ne_ty {a b : String} {R : Value → Shared → Prop} (ha : ∀ s' : Shared, s'.TypeIs (.type a) "type")
    (h : (if a = b then R (.bool false) s else R .notImplemented s)) :
    wpAny (model prog w) A (call (.builtin "object.__ne__") [.type a, .type b]) R E s := by
  refine wpAny_call_entry slot_ty_ne (ha s) F.cmpEntry_ne ?_ (F.args_object_ne_2 _ _)
  unfold Builtin.«object.__ne__»
  by_cases e : a = b
  · subst e
    rw [if_pos rfl] at h
    repeat (first | with_reducible refine wpAny_cRoomFor_or (.inl rfl) ?_ | with_reducible refine sp_eq_ty ha ?_ | rw [if_pos rfl] | wp_step)
    exact ⟨_, rfl, h⟩
  · rw [if_neg e] at h
    repeat (first | with_reducible refine wpAny_cRoomFor_or (.inl rfl) ?_ | with_reducible refine sp_eq_ty ha ?_ | rw [if_neg e] | wp_step)
    exact ⟨_, rfl, h⟩

theorem ne_ty_same {a : String} (ha : ∀ s' : Shared, s'.TypeIs (.type a) "type") (h : Q (.bool false) s) :
    wpAny (model prog w) A (compareOp .NotEq (.type a) (.type a)) Q E s := by
  show wpAny _ A (richCompare .NotEq _ _) Q E s
  exact wpAny_richCompare_same (op := .NotEq) (T := "type") (ha s) (ha s) slot_ty_ne
    (call_ne_ty ha (by rw [if_pos rfl]; exact ⟨(by intro e; cases e), h⟩))
end

theorem rc_ne_same_decline {M : Model} {A : Around} {E : Value → Shared → Prop} {s : Shared} {a b : Value} {T id : String}
    {k : Bool} {Q : Value → Shared → Prop} (ha : ∀ s' : Shared, s'.TypeIs a T) (hb : ∀ s' : Shared, s'.TypeIs b T)
    (h1 : Slot T (cmpInfo .NotEq).2.1 id) (h2 : Slot T (cmpInfo .NotEq).2.2 id) (hv : [a, b].any Value.onHeap = false)
    (hk : isSame a b = pure k)
    (hc : wpAny M A (call (.builtin id) [a, b]) (fun v s₁ => v = .notImplemented ∧
      wpAny M A (call (.builtin id) [b, a]) (fun v s₂ => v = .notImplemented ∧ Q (.bool (!k)) s₂) E s₁) E s) :
    wpAny M A (richCompare .NotEq a b) Q E s := by
  rcases hi : cmpInfo CmpOp.NotEq with ⟨sym, f, r⟩
  rw [hi] at h1 h2
  simp only [richCompare, hi, (ha s).oneThing_none]
  try with_reducible refine wpAny_holding ?_
  refine wpAny_bind (wpAny_cRoomFor_or (.inl hv) (wpAny_bind (wpAny_typeOf (ha s) (wpAny_bind (wpAny_typeOf (hb s) ?_)))))
  simp only [bne_self_eq_false, Bool.false_eq_true, if_false, pure_bind, Bool.not_false, if_true]
  refine wpAny_bind (m := tryCompare a _ b) (wpAny_tryCompare_declines (ha s) h1
    (wpAny_mono hc (fun v s₁ q1 => ⟨q1.1, ?_⟩) fun _ _ x => x))
  refine wpAny_bind (m := tryCompare b _ a) (wpAny_tryCompare_declines (hb s₁) h2
    (wpAny_mono q1.2 (fun v s₂ q2 => ⟨q2.1, ?_⟩) fun _ _ x => x))
  exact wpAny_bind (wpAny_rule (wpAny_bind (wpAny_of_eq hk (wpAny_pure q2.2))))

section
variable {prog : Program} {w : World} {A : Around} {E : Value → Shared → Prop} {s : Shared} {Q : Value → Shared → Prop}
theorem ne_ty_other {a b : String} (ha : ∀ s' : Shared, s'.TypeIs (.type a) "type")
    (hb : ∀ s' : Shared, s'.TypeIs (.type b) "type") (ne : a ≠ b) (h : Q (.bool true) s) :
    wpAny (model prog w) A (compareOp .NotEq (.type a) (.type b)) Q E s := by
  show wpAny _ A (richCompare .NotEq _ _) Q E s
  refine rc_ne_same_decline (T := "type") (k := false) ha hb slot_ty_ne slot_ty_ne_refl rfl
    (by rw [isSame_plain rfl]; have : (Value.type a == Value.type b) = false := by simpa using ne
        rw [this]) ?_
  refine call_ne_ty ha ?_
  rw [if_neg ne]
  refine ⟨rfl, call_ne_ty hb ?_⟩
  rw [if_neg (Ne.symm ne)]
  exact ⟨rfl, h⟩
end

/-- the built-in types that a value may have here -/
def tyNames : List String := ["int", "str", "bool", "NoneType", "list", "tuple", "dict", "set", "float"]
theorem ty_meta {n : String} (h : n ∈ tyNames) (s' : Shared) : s'.TypeIs (.type n) "type" := by
  simp only [tyNames, List.mem_cons, List.not_mem_nil, or_false] at h
  rcases h with rfl | rfl | rfl | rfl | rfl | rfl | rfl | rfl | rfl
  · exact TypeEq.meta_int s'
  · exact TypeEq.meta_str s'
  · exact TypeEq.meta_bool s'
  · exact TypeEq.meta_NoneType s'
  · exact TypeEq.meta_list s'
  · exact TypeEq.meta_tuple s'
  · exact TypeEq.meta_dict s'
  · exact TypeEq.meta_set s'
  · exact TypeEq.meta_float s'
def rNeTy : R2 := fun x y H Q => ∃ a b, x = .ty a ∧ y = .ty b ∧ a ∈ tyNames ∧ b ∈ tyNames ∧ Q (.bl (decide (a ≠ b))) H
theorem op_neTy {X : Cx} : OpR X (compareOp .NotEq) rNeTy := by
  intro pins s σ H x y v u Q I rx ry h
  obtain ⟨a, b, rfl, rfl, ha, hb, q⟩ := h
  cases rx
  cases ry
  by_cases e : a = b
  · subst e
    exact ne_ty_same (ty_meta ha) ⟨.bl false, H, I, rfl, by simpa using q⟩
  · exact ne_ty_other (ty_meta ha) (ty_meta hb) e ⟨.bl true, H, I, rfl, by simpa [e] using q⟩

/-! ### for i, x in enumerate(xs) -/
theorem for_enum {K : PySem.W.Frag} {a : Addr} {xs : List V} {g : TG} {tb : TS} {D : Ends} {σ : L2.St} {H : Hp}
    (Pv : Nat → L2.St → Hp → Prop) (h0 : Pv 0 σ H) (hl : ∀ i σ H, i ≤ xs.length → Pv i σ H → SqL K H a xs)
    (hs : ∀ (i : Nat) (x : V) (T : Addr) σ H, xs[i]? = some x → Pv i σ H → H T = none →
      g (.ref T) σ (upd H T (.tup [.int i, x])) fun σ2 H2 => tb { D with nx := Pv (i + 1), ct := Pv (i + 1), bk := D.nx } σ2 H2)
    (hd : ∀ σ H, Pv xs.length σ H → D.nx σ H) :
    ∃ W : Nat → Nat → L2.St → Hp → Prop, (∃ m, W 0 m σ H) ∧ ∀ i m σ H, W i m σ H →
      ((Ite K a).stop i H ∧ D.nx σ H) ∨ ((Ite K a).go i H ∧ ∃ N : L2.St → Hp → Prop,
        (∀ σ' H', N σ' H' → ∃ m', m' < m ∧ W (i + 1) m' σ' H') ∧
        ∀ x H', (Ite K a).yld i H x H' → g x σ H' fun σ2 H2 => tb { D with nx := N, ct := N, bk := D.nx } σ2 H2) := by
  refine ⟨fun i m σ H => m = xs.length - i ∧ i ≤ xs.length ∧ Pv i σ H, ⟨_, rfl, Nat.zero_le _, h0⟩, ?_⟩
  rintro i m σ H ⟨rfl, hi, p⟩
  have hq := hl i σ H hi p
  rcases Nat.lt_or_ge i xs.length with lt | ge
  · refine .inr ⟨⟨xs, xs[i], hq, List.getElem?_eq_getElem lt⟩, Pv (i + 1), fun σ' H' p' => ⟨_, ?_, rfl, lt, p'⟩, ?_⟩
    · omega
    · rintro v H' ⟨T, x, rfl, hT, rfl, f⟩
      exact hs i x T σ H (f xs hq) p hT
  · obtain rfl : i = xs.length := Nat.le_antisymm hi ge
    exact .inl ⟨⟨xs, hq, Nat.le_refl _⟩, hd σ H p⟩
end SH

/-! SH2: defs by name: what stands at a name of the module, calls of it by place and by keyword. -/
namespace SH
open PySem PySem.Spec PyProof.Rows L2

/-- the def `st` stands at the name `x` of the module and keeps the promise `sp` -/
def Has (P : Program) (w : World) (K : PySem.W.Frag) (mg : Str → Option Value) (base : Heap) (CX : CXT) (k : Nat)
    (x : Str) (st : Stmt) (ps : List Str) (sp : Sp) : Prop :=
  ∃ f fd, Fun K x x st f fd ∧ mg x = some (.ref f) ∧ FnG P w K mg base CX k f fd ps sp ∧ L2.Binds K fd ps []
/-- the def `st` stands at the name `x` -/
def At (K : PySem.W.Frag) (mg : Str → Option Value) (x : Str) (st : Stmt) : Prop :=
  ∃ f fd, Fun K x x st f fd ∧ mg x = some (.ref f)

section
variable {X : Cx} {CX : CXT} {k : Nat} {st : Stmt} {ps ks : List Str} {sp : Sp} {E : XK} {x : Str} {p pos : Pos}
  {e : Expr} {es : List Expr} {t tk : TA} {kws : List Keyword}

theorem pe_has (h : Has X.prog X.w X.K X.mg X.base CX k x st ps sp) (room : Room k X.A) (qt : Quiet X.A) (hg : Gl X x)
    (hx : Passes CX X E) (ha : PA X (e :: es) t) (hdb : (x == ("__debug__" : Str)) = false := by decide)
    (he : starEach (e :: es) X.env = (false, eval e X.env) :: starEach es X.env := by rfl)
    (hpl : (backTo pos (starEach es X.env)).any (·.1) = false := by rfl) :
    PE X (.Call (.Name x p) (e :: es) [] pos) (tCall sp [] E t) := by
  obtain ⟨f, fd, F, m, G, b⟩ := h
  exact pe_callG G room qt hg m F.kp b .nil hx ha hdb he hpl

/-- how the keywords' values come to the parameters: by a permutation of places -/
structure KwOk (x : Str) (st : Stmt) (ps ks : List Str) (g : {α : Type} → List α → List α) : Prop where
  to : ∀ (kV doc pm : Value) (an : Option Addr) (cdv ct : Value) (ws : List Value), ws.length = ks.length →
    bindArgs (PySem.W.fnOf x x (defArgs st) (defBody st) (defScope st) .none kV doc pm an cdv ct) ⟨[], ks.zip ws⟩ =
      pure (ps.zip (g ws))
  rel : ∀ {zs : List V} {ws : List Value}, Vals zs ws → Vals (g zs) (g ws)
  len : ∀ (ws : List Value), (g ws).length = ps.length → ws.length = ks.length
  ne : ps.length ≠ 0

def onlyKw (g : {α : Type} → List α → List α) : {α : Type} → List α → List α → List α := fun us ws =>
  match us with
  | [] => g ws
  | _ => []

theorem pe_hasK0 {g : {α : Type} → List α → List α} (h : Has X.prog X.w X.K X.mg X.base CX k x st ps sp)
    (room : Room k X.A) (qt : Quiet X.A) (hg : Gl X x) (kb : KwOk x st ps ks g) (hx : Passes CX X E)
    (hkw : PK X kws tk) (hall : (backToKw pos (keywordEach kws X.env)).all (·.1.isSome) = true := by rfl)
    (hks : (backToKw pos (keywordEach kws X.env)).filterMap (·.1) = ks := by rfl)
    (hdb : (x == ("__debug__" : Str)) = false := by decide)
    (hpl : ((backTo pos (starEach [] X.env)).any (·.1) ||
      (backToKw pos (keywordEach kws X.env)).any (·.1.isNone)) = false := by rfl) :
    PE X (.Call (.Name x p) [] kws pos) (tCallK sp (onlyKw g) E tNil tk) := by
  obtain ⟨f, fd, F, m, G, _⟩ := h
  refine pe_callGK0 G room qt hg m F.kp (g := onlyKw g) ⟨fun s us ws _ hl => ?_, fun {vs us zs ws} r rz => ?_⟩ hx hkw hall hks hdb hpl
  · obtain ⟨oc, od, kV, doc, pm, an, cdv, ct, osl, rfl, lk, hcd⟩ := F.ex
    cases us with
    | nil => exact .of_eq (kb.to kV doc pm an cdv ct ws (kb.len ws hl))
    | cons u us => exact absurd hl.symm kb.ne
  · cases r with
    | nil => exact kb.rel rz
    | cons _ _ => exact .nil
end

section
variable {P : Program} {w : World} {K : PySem.W.Frag} {mg : Str → Option Value} {base : Heap}
/-- THE RULE for a def at a name of the module that lets no error out -/
theorem Has.of {x : Str} {st : Stmt} {N ps : List Str} {k : Nat} {sp : Sp} (at_ : At K mg x st)
    (S : FnScope N ps (defScope st)) (len : ∀ vs H Q E, sp vs H Q E → vs.length = ps.length)
    (bd : ∀ (kV doc pm : Value) (an : Option Addr) (cdv ct : Value) (us : List Value), us.length = ps.length →
      bindArgs (PySem.W.fnOf x x (defArgs st) (defBody st) (defScope st) .none kV doc pm an cdv ct) ⟨us, []⟩ = pure (ps.zip us))
    (walk : ∀ (f : Addr) (cdv : Value) (A : Around) (outer : List Env) (s : Shared) (H : Hp) (vs : List V) (Q : VK) (E : XK),
      Room k (A.deeper (envOfC x (defScope st) s.heap.objs.size f cdv)) →
      Quiet (A.deeper (envOfC x (defScope st) s.heap.objs.size f cdv)) → sp vs H Q E →
      ∃ t, PSs (cxOf CX0 P w K mg base N x (defScope st) f cdv A outer s H E).nox (defBody st) t ∧
        t { nx := fun _ H' => Q .non H', rt := Q } (start N vs) H) :
    Has P w K mg base CX0 (k + 1) x st ps sp := by
  obtain ⟨f, fd, F, m⟩ := at_
  exact ⟨f, fd, F, m, FnG.ok F S len (walk f), F.binds bd⟩
theorem Has.mono {CX : CXT} {j k : Nat} {x : Str} {st : Stmt} {ps : List Str} {sp : Sp}
    (h : Has P w K mg base CX j x st ps sp) (hk : j ≤ k) : Has P w K mg base CX k x st ps sp := by
  obtain ⟨f, fd, F, m, G, b⟩ := h
  exact ⟨f, fd, F, m, G.mono hk, b⟩
end

/-- the built-in names that the module does not shadow -/
structure Txt (mg : Str → Option Value) : Prop where
  len : mg "len" = none
  range : mg "range" = none
  repr : mg "repr" = none
  min : mg "min" = none
  max : mg "max" = none
  tint : mg "int" = none
  tlist : mg "list" = none
  ttype : mg "type" = none
  bool : mg "bool" = none
  tuple : mg "tuple" = none
  isinstance : mg "isinstance" = none
  enumerate : mg "enumerate" = none
  tstr : mg "str" = none
  zip : mg "zip" = none
  all : mg "all" = none
  any : mg "any" = none
  sum : mg "sum" = none
  abs : mg "abs" = none
  sorted : mg "sorted" = none
  set : mg "set" = none
  dict : mg "dict" = none
  reversed : mg "reversed" = none
  divmod : mg "divmod" = none

theorem bnot_t {b : Bool} (h : (!b) = true) : b = false := by cases b <;> first | rfl | cases h
theorem bnot_f {b : Bool} (h : ¬ (!b) = true) : b = true := by cases b <;> first | rfl | exact (h rfl).elim
/-! ### what a caller wants -/
/-- a value comes back, nothing that was tracked has changed -/
def RetV (Q : VK) (H : Hp) (v : V) : Prop := ∀ H', Same H H' → Q v H'
/-- a new list comes back -/
def RetL (Q : VK) (H : Hp) (xs : List V) : Prop := ∀ p H', H p = none → Same H H' → H' p = some (.lst xs) → Q (.ref p) H'
/-- ints as values -/
abbrev iv (ns : List Int) : List V := ns.map V.int
theorem iv_at {ns : List Int} {i : Nat} (h : i < ns.length) : (iv ns)[i]? = some (.int (ns.getD i 0)) := by
  rw [List.getElem?_map, List.getElem?_eq_getElem h, List.getD_eq_getElem?_getD, List.getElem?_eq_getElem h]
  rfl
theorem atI_iv {ns : List Int} {z : Int} (h0 : 0 ≤ z) (h : z < ns.length) : atI (iv ns) z = some (.int (ns.getD z.toNat 0)) := by
  have e : z = ((z.toNat : Nat) : Int) := by omega
  rw [e]
  exact atI_nat (iv_at (by omega))
theorem atI_iv_last {ns : List Int} (h : ns ≠ []) : atI (iv ns) (-1) = some (.int (ns.getD (ns.length - 1) 0)) := by
  have hl : 0 < ns.length := List.length_pos_iff.mpr h
  have e : ixN (iv ns).length (-1) = some (ns.length - 1) := by
    unfold ixN
    rw [if_neg (by omega), if_pos (by rw [List.length_map]; omega), List.length_map]
    congr 1
    omega
  unfold atI
  rw [e]
  exact iv_at (by omega)
theorem Same.new {H : Hp} {p : Addr} {o : HO} (h : H p = none) : Same H (upd H p o) := fun b u e => by
  rw [upd_ne (ne_of_none e h)]; exact e
theorem Same.upd_free {H H' : Hp} {p : Addr} {o : HO} (s : Same H H') (h : H p = none) : Same H (upd H' p o) := fun b u e => by
  rw [upd_ne (ne_of_none e h)]; exact s b u e
/-- all that was tracked but what stands at `a` is as it was -/
def SameBut (a : Addr) (H H' : Hp) : Prop := ∀ b o, H b = some o → b ≠ a → H' b = some o
theorem SameBut.refl {a : Addr} {H : Hp} : SameBut a H H := fun _ _ e _ => e
theorem SameBut.trans {a : Addr} {H H1 H2 : Hp} (p : SameBut a H H1) (q : SameBut a H1 H2) : SameBut a H H2 :=
  fun b o e n => q b o (p b o e n) n
theorem SameBut.of {a : Addr} {H H' : Hp} (p : Same H H') : SameBut a H H' := fun b o e _ => p b o e
theorem SameBut.upd {a : Addr} {H H' : Hp} {o : HO} (p : SameBut a H H') : SameBut a H (upd H' a o) := fun b u e n => by
  rw [upd_ne n]; exact p b u e n
theorem SameBut.new {a p : Addr} {H H' : Hp} {o : HO} (s : SameBut a H H') (h : H' p = none) : SameBut a H (L2.upd H' p o) :=
  fun b u e n => by
    have := s b u e n
    rw [upd_ne (ne_of_none this h)]; exact this
end SH

/-! SH3: comprehensions whose turns make nothing, in words of a function of the turn. -/
namespace SH
open PySem PySem.Spec PyProof.Rows L2

/-- len of a list or a tuple, by the written part K -/
def rLenK (K : PySem.W.Frag) : List V → Hp → VK → Prop := fun xs H Q => ∃ p ys, xs = [.ref p] ∧ (SqL K H p ys ∨ SqT K H p ys) ∧ Q (.int ys.length) H
theorem tYes_go {σ : L2.St} {H : Hp} {f g : Hp → Prop} (h : f H) : tYes σ H fun b H3 => if b = true then f H3 else g H3 := by
  show (if true = true then f H else g H)
  rw [if_pos rfl]
  exact h
/-- a if t else b of two ints, the test's answer known as b -/
theorem if_int {b : Bool} {x y : Int} {H : Hp} {A B : TE} {σ : L2.St} {Q : VK} (ha : ∀ Q' : VK, Q' (.int x) H → A σ H Q')
    (hb : ∀ Q' : VK, Q' (.int y) H → B σ H Q') (h : Q (.int (if b = true then x else y)) H) : if b = true then A σ H Q else B σ H Q := by
  cases b with
  | true => rw [if_pos rfl]; exact ha _ (by simpa using h)
  | false => rw [if_neg Bool.false_ne_true]; exact hb _ (by simpa using h)
/-- which turns give, and what -/
def gives (n : Nat) (keep : Nat → Bool) (val : Nat → V) : List V := ((List.range n).filter keep).map val
theorem gives_succ {n : Nat} {keep : Nat → Bool} {val : Nat → V} : gives (n + 1) keep val =
    if keep n = true then gives n keep val ++ [val n] else gives n keep val := by
  unfold gives
  rw [List.range_succ, List.filter_append, List.map_append]
  by_cases h : keep n = true
  · rw [if_pos h, List.filter_cons, if_pos h]
    rfl
  · rw [if_neg h, List.filter_cons, if_neg h]
    exact List.append_nil _
theorem gives_len (n : Nat) (keep : Nat → Bool) (val : Nat → V) : (gives n keep val).length ≤ n := by
  unfold gives
  rw [List.length_map]
  exact Nat.le_trans (List.length_filter_le _ _) (Nat.le_of_eq List.length_range)
theorem gives_all (n : Nat) (val : Nat → V) : gives n (fun _ => true) val = (List.range n).map val := by
  unfold gives
  rw [List.filter_eq_self.mpr (fun _ _ => rfl)]
/-- a new list comes back, nothing else changes -/
def NewL (Q : VK) (H : Hp) (xs : List V) : Prop := ∀ p, H p = none → Q (.ref p) (upd H p (.lst xs))
theorem small_line {n : Nat} (h : n < 100000) : n < sizeLine := Nat.lt_of_lt_of_le h (by decide)

section
variable {tt : TT} {te : TE} {vs : List Nat} {σ : L2.St} {H : Hp} {D : Addr} {Qd : Hp → Prop}
/-- one turn's end -/
theorem lc_turn {n : Nat} {keep : Nat → Bool} {val : Nat → V} {i : Nat} {σ2 : L2.St} (hi : i < n) (hn : n < 100000)
    (ht : ∀ acc Q, Q (keep i) (upd H D (.lst acc)) → tt σ2 (upd H D (.lst acc)) Q)
    (he : ∀ acc Q, keep i = true → Q (val i) (upd H D (.lst acc)) → te σ2 (upd H D (.lst acc)) Q) :
    tt σ2 (upd H D (.lst (gives i keep val))) fun b H3 => if b = true then te σ2 H3 fun y H4 => ∃ acc, H4 D = some (.lst acc) ∧
      acc.length < sizeLine ∧ upd H4 D (.lst (acc ++ [y])) = upd H D (.lst (gives (i + 1) keep val))
      else H3 = upd H D (.lst (gives (i + 1) keep val)) := by
  refine ht _ _ ?_
  by_cases h : keep i = true
  · rw [h]
    refine iteT (he _ _ h ⟨_, upd_same, small_line (by have := gives_len i keep val; omega), ?_⟩)
    rw [upd_upd, gives_succ, if_pos h]
  · have h' : keep i = false := by cases e : keep i <;> simp_all
    rw [h']
    refine iteF ?_
    rw [gives_succ, if_neg h]

theorem lcR {lo : Int} {n j : Nat} (keep : Nat → Bool) (val : Nat → V) (hn : n < 100000)
    (hw : ∀ x, wipe ((wipe σ vs).set j (some x)) vs = wipe σ vs)
    (ht : ∀ i acc Q, i < n → Q (keep i) (upd H D (.lst acc)) → tt ((wipe σ vs).set j (some (.int (lo + (i : Nat))))) (upd H D (.lst acc)) Q)
    (he : ∀ i acc Q, i < n → keep i = true → Q (val i) (upd H D (.lst acc)) → te ((wipe σ vs).set j (some (.int (lo + (i : Nat))))) (upd H D (.lst acc)) Q)
    (hd : Qd (upd H D (.lst (gives n keep val)))) :
    ∃ W : Nat → Nat → Hp → Prop, (∃ m, W 0 m (upd H D (.lst []))) ∧ ∀ i m H, W i m H →
      ((Itr lo n).stop i H ∧ Qd H) ∨ ((Itr lo n).go i H ∧ ∃ Nx : Hp → Prop, (∀ H', Nx H' → ∃ m', m' < m ∧ W (i + 1) m' H') ∧
        ∀ x H', (Itr lo n).yld i H x H' → gName j x (wipe σ vs) H' fun σ2 H2 => wipe σ2 vs = wipe σ vs ∧ tt σ2 H2 fun b H3 =>
          if b = true then te σ2 H3 fun y H4 => ∃ acc, H4 D = some (.lst acc) ∧ acc.length < sizeLine ∧ Nx (upd H4 D (.lst (acc ++ [y]))) else Nx H3) :=
  lc_range (fun i H2 => H2 = upd H D (.lst (gives i keep val))) rfl
    (fun i H2 hi e => by
      subst e
      exact ⟨hw _, lc_turn hi hn (fun acc Q q => ht i acc Q hi q) (fun acc Q k q => he i acc Q hi k q)⟩)
    (fun H2 e => by subst e; exact hd)

theorem lcL {K : PySem.W.Frag} {a : Addr} {xs : List V} {j : Nat} (keep : Nat → Bool) (val : Nat → V) (hx : SqL K H a xs)
    (hD : H D = none) (hn : xs.length < 100000) (hw : ∀ x, wipe ((wipe σ vs).set j (some x)) vs = wipe σ vs)
    (ht : ∀ i x acc Q, xs[i]? = some x → Q (keep i) (upd H D (.lst acc)) → tt ((wipe σ vs).set j (some x)) (upd H D (.lst acc)) Q)
    (he : ∀ i x acc Q, xs[i]? = some x → keep i = true → Q (val i) (upd H D (.lst acc)) → te ((wipe σ vs).set j (some x)) (upd H D (.lst acc)) Q)
    (hd : Qd (upd H D (.lst (gives xs.length keep val)))) :
    ∃ W : Nat → Nat → Hp → Prop, (∃ m, W 0 m (upd H D (.lst []))) ∧ ∀ i m H, W i m H →
      ((Itl K a).stop i H ∧ Qd H) ∨ ((Itl K a).go i H ∧ ∃ Nx : Hp → Prop, (∀ H', Nx H' → ∃ m', m' < m ∧ W (i + 1) m' H') ∧
        ∀ x H', (Itl K a).yld i H x H' → gName j x (wipe σ vs) H' fun σ2 H2 => wipe σ2 vs = wipe σ vs ∧ tt σ2 H2 fun b H3 =>
          if b = true then te σ2 H3 fun y H4 => ∃ acc, H4 D = some (.lst acc) ∧ acc.length < sizeLine ∧ Nx (upd H4 D (.lst (acc ++ [y]))) else Nx H3) :=
  lc_list (xs := xs) (fun i H2 => H2 = upd H D (.lst (gives i keep val))) rfl
    (fun i H2 hi e => by subst e; exact (Same.new hD).seq hx)
    (fun i x H2 hi e => by
      subst e
      exact ⟨hw _, lc_turn (List.getElem?_eq_some_iff.mp hi).1 hn (fun acc Q q => ht i x acc Q hi q) (fun acc Q k q => he i x acc Q hi k q)⟩)
    (fun H2 e => by subst e; exact hd)

/-- [.. for a, b in zip(xs, ys)], the lists of one length: each turn makes one pair, so the heap is told by an invariant -/
theorem lcZ {K : PySem.W.Frag} {a b : Addr} {xs ys : List V} {g : TG} (hl : xs.length = ys.length) (Pv : Nat → Hp → Prop)
    (h0 : Pv 0 (upd H D (.lst []))) (hq : ∀ i H, Pv i H → SqL K H a xs ∧ SqL K H b ys)
    (hs : ∀ i x y T H, xs[i]? = some x → ys[i]? = some y → Pv i H → H T = none → g (.ref T) (wipe σ vs) (upd H T (.tup [x, y])) fun σ2 H2 =>
      wipe σ2 vs = wipe σ vs ∧ tt σ2 H2 fun b H3 => if b = true then te σ2 H3 fun y H4 => ∃ acc, H4 D = some (.lst acc) ∧
        acc.length < sizeLine ∧ Pv (i + 1) (upd H4 D (.lst (acc ++ [y]))) else Pv (i + 1) H3)
    (hd : ∀ H, Pv xs.length H → Qd H) :
    ∃ W : Nat → Nat → Hp → Prop, (∃ m, W 0 m (upd H D (.lst []))) ∧ ∀ i m H, W i m H →
      ((Itz K a b).stop i H ∧ Qd H) ∨ ((Itz K a b).go i H ∧ ∃ Nx : Hp → Prop, (∀ H', Nx H' → ∃ m', m' < m ∧ W (i + 1) m' H') ∧
        ∀ x H', (Itz K a b).yld i H x H' → g x (wipe σ vs) H' fun σ2 H2 => wipe σ2 vs = wipe σ vs ∧ tt σ2 H2 fun b H3 =>
          if b = true then te σ2 H3 fun y H4 => ∃ acc, H4 D = some (.lst acc) ∧ acc.length < sizeLine ∧ Nx (upd H4 D (.lst (acc ++ [y]))) else Nx H3) := by
  refine ⟨fun i m H => m = xs.length - i ∧ i ≤ xs.length ∧ Pv i H, ⟨_, rfl, Nat.zero_le _, h0⟩, ?_⟩
  rintro i m H ⟨rfl, hi, p⟩
  obtain ⟨qx, qy⟩ := hq i H p
  rcases Nat.lt_or_ge i xs.length with lt | ge
  · have ly : i < ys.length := by omega
    refine .inr ⟨⟨xs, ys, xs[i], ys[i], qx, qy, List.getElem?_eq_getElem lt, List.getElem?_eq_getElem ly⟩, Pv (i + 1),
      fun H' p' => ⟨xs.length - (i + 1), by omega, rfl, lt, p'⟩, ?_⟩
    rintro v H' ⟨T, x, y, rfl, hT, rfl, fx, fy⟩
    exact hs i x y T H (fx xs qx) (fy ys qy) p hT
  · obtain rfl : i = xs.length := Nat.le_antisymm hi ge
    exact .inl ⟨⟨xs, ys, qx, qy, .inl (Nat.le_refl _)⟩, hd H p⟩
end
end SH

/-! SH4: how lists of ints are shown, and compared. -/
namespace SH
open PySem PySem.Spec PyProof.Rows L2

/-- a list of ints as data -/
def dI (ns : List Int) : PyData := .list (ns.map PyData.int)
theorem dp_ints {K : PySem.W.Frag} {H : Hp} : ∀ ns : List Int, DpAll K H (iv ns) (ns.map PyData.int)
  | [] => .nil
  | n :: r => .cons (.int n) (dp_ints r)
theorem dp_dI {K : PySem.W.Frag} {H : Hp} {a : Addr} {ns : List Int} (h : SqL K H a (iv ns)) : Dp K H (.ref a) (dI ns) := .lst h (dp_ints ns)
theorem small_log {v : Int} (h : v.natAbs < 2 ^ 64) : v.natAbs.log2 < 1920 := by
  by_cases e : v.natAbs = 0
  · rw [e]; decide
  · have := (Nat.log2_lt e).mpr h
    omega
theorem show_ints : ∀ {ns : List Int}, (∀ v ∈ ns, v.natAbs < 2 ^ 64) → PyData.showableAll (ns.map PyData.int) = true
  | [], _ => rfl
  | n :: r, h => by
    show (decide (n.natAbs.log2 < 1920) && PyData.showableAll (r.map PyData.int)) = true
    rw [decide_eq_true (small_log (h n List.mem_cons_self)), show_ints fun v hv => h v (List.mem_cons_of_mem _ hv)]
    rfl
theorem dict_ints : ∀ ns : List Int, PyData.hasDictAll (ns.map PyData.int) = false
  | [] => rfl
  | n :: r => by
    show (false || PyData.hasDictAll (r.map PyData.int)) = false
    rw [dict_ints r]
    rfl
theorem depth_ints : ∀ ns : List Int, PyData.depthAll (ns.map PyData.int) = 0
  | [] => rfl
  | n :: r => by
    show max 0 (PyData.depthAll (r.map PyData.int)) = 0
    rw [depth_ints r]
    rfl
theorem shownAll_len : ∀ {ns : List Int}, (∀ v ∈ ns, v.natAbs < 2 ^ 64) → ((PyData.shownAll (ns.map PyData.int)).map (·.length)).sum ≤ 1921 * ns.length ∧
    (PyData.shownAll (ns.map PyData.int)).length = ns.length
  | [], _ => ⟨Nat.le_refl _, rfl⟩
  | n :: r, h => by
    obtain ⟨a, b⟩ := shownAll_len (ns := r) fun v hv => h v (List.mem_cons_of_mem _ hv)
    have := int_text_len_1921 (small_log (h n List.mem_cons_self))
    constructor
    · show (PySem.Str.ofString (toString n)).length + ((PyData.shownAll (r.map PyData.int)).map (·.length)).sum ≤ 1921 * (r.length + 1)
      omega
    · show (PyData.shownAll (r.map PyData.int)).length + 1 = r.length + 1
      omega
theorem shows_ints {K : PySem.W.Frag} {H : Hp} {a : Addr} {ns : List Int} (h : SqL K H a (iv ns)) (hl : ns.length ≤ 1000) (hv : ∀ v ∈ ns, v.natAbs < 2 ^ 64) :
    Shows K H (.ref a) (dI ns) := by
  refine ⟨dp_dI h, show_ints hv, dict_ints ns, ?_, ?_⟩
  · show PyData.depthAll (ns.map PyData.int) + 1 ≤ 60
    rw [depth_ints]
    decide
  · show (listText (PyData.shownAll (ns.map PyData.int))).length ≤ sizeLine
    obtain ⟨a, b⟩ := shownAll_len hv
    have := listText_len_le (PyData.shownAll (ns.map PyData.int))
    have e : sizeLine = 16777216 := by decide
    omega
theorem shaped_dI (ns : List Int) : SeqAt.shaped (dI ns) = true := by
  have c : ∀ ms : List Int, PyData.canLayAll0 (ms.map PyData.int) = true := fun ms => by
    induction ms with
    | nil => rfl
    | cons n r ih => show (true && PyData.canLayAll0 (r.map PyData.int)) = true; rw [ih]; rfl
  unfold SeqAt.shaped
  have d : (dI ns).depth = 1 := by show PyData.depthAll (ns.map PyData.int) + 1 = 1; rw [depth_ints]
  rw [d]
  show (PyData.canLayAll0 (ns.map PyData.int) && decide (1 ≤ 64)) = true
  rw [c]
  rfl
theorem eqv_ints : ∀ ns ms : List Int, PyData.eqvAll (ns.map PyData.int) (ms.map PyData.int) = decide (ns = ms)
  | [], [] => rfl
  | [], _ :: _ => rfl
  | _ :: _, [] => rfl
  | n :: r, m :: q => by
    show ((n == m) && PyData.eqvAll (r.map PyData.int) (q.map PyData.int)) = _
    rw [eqv_ints r q, Bool.eq_iff_iff]
    simp
theorem eqv_dI (ns ms : List Int) : PyData.eqv (dI ns) (dI ms) = decide (ns = ms) := eqv_ints ns ms
/-- two lists of ints compared -/
theorem eqD_ints {K : PySem.W.Frag} {H : Hp} {a b : Addr} {ns ms : List Int} {Q : VK} (ha : SqL K H a (iv ns)) (hb : SqL K H b (iv ms))
    (q : Q (.bl (decide (ns = ms))) H) : rEqD K (.ref a) (.ref b) H Q :=
  ⟨dI ns, dI ms, dp_dI ha, dp_dI hb, shaped_dI ns, shaped_dI ms, by rw [eqv_dI]; exact q⟩
theorem neD_ints {K : PySem.W.Frag} {H : Hp} {a b : Addr} {ns ms : List Int} {Q : VK} (ha : SqL K H a (iv ns)) (hb : SqL K H b (iv ms))
    (q : Q (.bl (!decide (ns = ms))) H) : rNeD K (.ref a) (.ref b) H Q :=
  ⟨dI ns, dI ms, dp_dI ha, dp_dI hb, shaped_dI ns, shaped_dI ms, by rw [eqv_dI]; exact q⟩

theorem iv_snoc (ns : List Int) (d : Int) : iv ns ++ [V.int d] = iv (ns ++ [d]) := by
  unfold iv
  rw [List.map_append]
  rfl
theorem getD_all {xs : List Int} {p : Int → Prop} (h : ∀ v ∈ xs, p v) {z : Int} (h0 : 0 ≤ z) (h1 : z < xs.length) : p (xs.getD z.toNat 0) := by
  have hz : z.toNat < xs.length := by omega
  rw [List.getD_eq_getElem?_getD, List.getElem?_eq_getElem hz]
  exact h _ (List.getElem_mem hz)
/-- range as a list of ints -/
def rg (n : Nat) : List Int := (List.range n).map fun (i : Nat) => (i : Int)
theorem rgV_rg (n : Nat) : rgV 0 (n : Int) = iv (rg n) := by
  unfold rgV rg iv
  rw [List.map_map]
  have e : ((n : Int) - 0).toNat = n := by omega
  rw [e]
  refine List.map_congr_left fun i _ => ?_
  show V.int (0 + (i : Int)) = V.int (i : Int)
  rw [Int.zero_add]
theorem iv_rep (n : Nat) (d : Int) : (List.replicate n [V.int d]).flatten = iv (List.replicate n d) := by
  induction n with
  | zero => rfl
  | succ n ih => rw [List.replicate_succ, List.flatten_cons, ih, List.replicate_succ]; rfl
/-- list + list, each read as it stands -/
def rCatS (K : PySem.W.Frag) : R2 := fun x y H Q => ∃ l b xs zs, x = .ref l ∧ y = .ref b ∧ SqL K H l xs ∧ SqL K H b zs ∧ xs.length + zs.length ≤ sizeLine ∧ NewL Q H (xs ++ zs)
theorem op_catS {X : Cx} : OpR X (binaryOp .Add) (rCatS X.K) := by
  intro pins s σ H x y v u Q I rx ry h
  obtain ⟨l, b, xs, zs, rfl, rfl, hx, hy, hz, q⟩ := h
  cases rx
  cases ry
  obtain ⟨its, r, ⟨o, n, ho, hc, hd, ht⟩, _⟩ := I.list hx
  obtain ⟨its2, r2, ⟨o2, n2, ho2, hc2, hd2, ht2⟩, _⟩ := I.list hy
  have e1 := r.length
  have e2 := r2.length
  obtain ⟨oc, od, dt, sl⟩ := o
  obtain ⟨oc2, od2, dt2, sl2⟩ := o2
  simp only at hc hd ht hc2 hd2 ht2
  subst hc hd ht hc2 hd2 ht2
  have ea : its.toArray ++ its2.toArray = (its ++ its2).toArray := by simp
  refine concat_meets ⟨_, ho, rfl⟩ ⟨_, ho2, rfl⟩ noFill_list_add seq_list_add PySem.F.slot_list_add PySem.F.entry_list_add
    (PySem.F.args_list_add_2 _ _) (list_addW l b its.toArray its2.toArray n n2 none none sl sl2 (by simp only [List.size_toArray]; omega)) ⟨ho, ho2, ?_⟩
  rw [ea]
  exact ⟨.ref _, _, I.lnew (t' := s.toks) (r.append r2) (by rw [List.length_append]; omega), rfl, q _ I.fresh⟩
theorem Same.but {a : Addr} {H0 H H' : Hp} (s : Same H0 H) (n : H0 a = none) (b : SameBut a H H') : Same H0 H' := fun c o e =>
  b c o (s c o e) (ne_of_none e n)
end SH

/-! SH5: a list stored into a slice with open bounds (xs[:] = ys, xs[a:] = ys). -/
namespace SH
open PySem PySem.Spec PyProof.Rows L2
section
variable {prog : Program} {w : World} {A : Around} {E : Value → Shared → Prop} {s : Shared}
theorem store_open {tgt src sl : Addr} {old new : Array Value} {n n2 : Nat} {vl vu : Value} {lo hi : Option Int} {Q : Unit → Shared → Prop}
    (eo : s.heap.get? tgt = some { cls := .type "list", data := .seq old n }) (en : s.heap.get? src = some { cls := .type "list", data := .seq new n2 })
    (ne : tgt ≠ src) (isl : s.heap.IsSliceOf sl vl vu .none) (pl : IsPart vl lo) (pu : IsPart vu hi) (small : old.size + new.size ≤ sizeLine)
    (h : Q () { s with heap := s.heap.update tgt (Obj.mapSeq fun xs => xs.extract 0 (HT.sIx old.size 0 lo) ++ new ++ xs.extract (max (HT.sIx old.size 0 lo) (HT.sIx old.size old.size hi)) xs.size) }) :
    wpAny (model prog w) A (setItem (.ref tgt) (.ref sl) (.ref src)) Q E s := by
  obtain ⟨b1, b2, b3⟩ := slice_bounds lo hi old.size
  have isT := PySem.IsL.isList eo
  have isS := PySem.IsL.isList en
  obtain ⟨os, go, co, fo⟩ := id isl
  have tyS : s.TypeIs (.ref sl) "slice" := ⟨os, go, co⟩
  have li := HT.sIx_le old.size 0 (Nat.zero_le _) lo
  have lj := HT.sIx_le old.size old.size (Nat.le_refl _) hi
  have diff : Builtin.List.listSameRef (.ref tgt) (.ref src) = false := by
    unfold Builtin.List.listSameRef; exact beq_eq_false_iff_ne.mpr ne
  generalize HT.sIx old.size 0 lo = i at *
  generalize HT.sIx old.size old.size hi = j at *
  have mx : (max (i : Int) (j : Int)).toNat = max i j := by omega
  have room : ((fun xs : Array Value => xs.extract 0 i ++ new ++ xs.extract (max i j) xs.size) old).size ≤ sizeLine + 1 := by
    simp only [Array.size_append, Array.size_extract]; omega
  unfold setItem
  try with_reducible refine wpAny_holding ?_
  first | refine wpAny_bind (wpAny_pure ?_) | skip
  refine wpAny_bind (wpAny_sequenceKey isT.typeIs (by decide) ?_)
  refine wpAny_bind (wpAny_callSpecial?_slot (name := Str.ofString "__setitem__") isT.typeIs slot_list_setitem (wpAny_call_entry slot_list_setitem isT.typeIs entry_list_setitem ?_ (args_list_setitem _ _ _)))
  show wpAny _ _ (Builtin.List.listSubscript? (.ref sl) >>= _) _ _ s
  refine wpAny_bind ?_
  unfold Builtin.List.listSubscript?
  refine wpAny_bind (wpAny_specialOf tyS slice_no_index ?_)
  simp only [Option.isNone_none, if_true]
  refine wpAny_pure ?_
  show wpAny _ _ (typeOf (.ref sl) >>= _) _ _ s
  refine wpAny_bind (wpAny_typeOf tyS ?_)
  first | rw [if_neg (by decide)] | refine PySem.W.KFB.if_not (by decide) ?_
  rw [listSliceParts_eq]
  refine wpAny_bind (wpAny_bind (wpAny_field go fo (x := .none) rfl (wpAny_bind (wpAny_listPart .none ?_))))
  rw [if_neg (show ¬ ((rawPart none == rawInt 0) = true) from Bool.false_ne_true)]
  refine wpAny_bind (wpAny_field go fo (x := vl) rfl (wpAny_bind (wpAny_listPart pl ?_)))
  refine wpAny_bind (wpAny_field go fo (x := vu) rfl (wpAny_bind (wpAny_listPart pu (wpAny_pure ?_))))
  first
    | simp only [diff, Bool.false_eq_true, if_false]
    | refine PySem.W.KFB.if_not diff ?_
    | (dsimp only; rw [if_neg (by rw [diff]; exact Bool.false_ne_true)])
  refine wpAny_bind (m := Builtin.List.listAllItems (.ref src) "must assign iterable to extended slice") ?_
  unfold Builtin.List.listAllItems
  refine wpAny_bind (wpAny_typeOf isS.typeIs ?_)
  first | refine PySem.W.KFB.if_so (by decide) ?_ | rw [if_pos (by decide)] | simp only [beq_self_eq_true, Bool.true_or, if_true]
  unfold Builtin.List.listItems
  refine wpAny_bind (wpAny_seqItems en rfl (wpAny_pure ?_))
  refine wpAny_bind (wpAny_bind (wpAny_seqItems eo rfl (wpAny_pure ?_)))
  have bb : sliceBounds lo hi none old.size = ((i : Int), (j : Int), 1) := Prod.ext b1 (Prod.ext b2 b3)
  refine wpAny_bind (wpAny_of_eq ((sliceIndices_raw lo hi none old.size (by simp)).trans (congrArg (pure : Int × Int × Int → Sem (Int × Int × Int)) bb)) ?_)
  show wpAny _ _ (if ((1 : Int) == 1) = true then _ else _) _ _ s
  rw [if_pos (by decide)]
  refine wpAny_bind (wpAny_rule ?_)
  first | simp only [notLongL small, Bool.false_eq_true, if_false] | refine PySem.W.KFB.if_not (notLongL small) ?_
  first | refine wpAny_bind (wpAny_pure ?_) | skip
  show wpAny _ _ (updateSeq tgt (fun xs => xs.extract 0 ((i : Int)).toNat ++ new ++ xs.extract (max (i : Int) (j : Int)).toNat xs.size) >>= _) _ _ s
  rw [mx, Int.toNat_natCast]
  refine wpAny_bind (wpAny_updateSeq (hz := Nat.le_trans (Nat.le_add_right _ _) small) (_hz' := room) eo rfl ?_)
  refine wpAny_bind (wpAny_letGo ?_)
  first
    | exact wpAny_bind (wpAny_pure (wpAny_pure ⟨.none, rfl, wpAny_pure h⟩))
    | exact wpAny_pure ⟨.none, rfl, wpAny_pure h⟩
end
/-- ys stored into xs[lo:hi] -/
def rStore : V → Option Int → Option Int → V → Hp → (Hp → Prop) → Prop := fun o lo hi v H Q => ∃ (l b : Addr) (xs ys : List V), o = .ref l ∧ v = .ref b ∧ l ≠ b ∧ H l = some (.lst xs) ∧ H b = some (.lst ys) ∧
  xs.length + ys.length ≤ sizeLine ∧ Q (upd H l (.lst (xs.take (HT.sIx xs.length 0 lo) ++ ys ++ xs.drop (max (HT.sIx xs.length 0 lo) (HT.sIx xs.length xs.length hi)))))
def gStore (to : TE) (tl th : TO) : TG := fun v σ H Q => to σ H fun o H1 => tl σ H1 fun lo H2 => th σ H2 fun hi H3 => rStore o lo hi v H3 fun H4 => Q σ H4
section
variable {X : Cx} {o : Expr} {to : TE} {lo hi : Option Expr} {tl th : TO} {p2 pos : Pos}
theorem pg_store (ho : PE X o to) (hl : PO X lo tl) (hu : PO X hi th)
    (ha : ∀ v, assign (.Subscript o (.Slice lo hi none p2) pos) X.env v = (do
      let ov ← holding [v] (eval o X.env)
      let iv ← holding [v, ov] (eval (.Slice lo hi none p2) X.env)
      standAt pos
      holding [v, ov, iv] (setItem ov iv v)
      release [iv, v, ov] []) := by intro _; rfl) : PG X (.Subscript o (.Slice lo hi none p2) pos) (gStore to tl th) := by
  refine ⟨fun pins s σ H v u Q I r h => ?_⟩
  rw [ha]
  refine wpAny_bind (wpAny_holding (thn (ho.run pins s σ H _ I h) fun ov s1 ⟨x, H1, I1, r1, q1⟩ => ?_))
  refine wpAny_bind (wpAny_holding (wpAny_Slice (thn (hl.run pins s1 σ H1 _ I1 q1) fun vl s2 ⟨l, H2, I2, pl, q2⟩ => thn (hu.run pins s2 σ H2 _ I2 q2) fun vu s3 ⟨u', H3, I3, pu, q3⟩ => ?_)))
  rw [evalPart_none]
  refine wpAny_pure ?_
  have I4 : Inv X pins σ H3 { s3 with heap := s3.heap.push { cls := .type "slice", data := .fields #[vl, vu, .none] } } := I3.kept (t' := s3.toks) fun b ob q => Heap.get?_push_of_some _ q
  refine wpAny_bind (wpAny_standAt (wpAny_bind (wpAny_holding ?_)))
  obtain ⟨a, b, xs, ys, rfl, rfl, ne, ea, eb, sm, q⟩ := q3
  cases r1
  cases r
  obtain ⟨z, its, n, rr, hl1, e⟩ := I4.lstM ea
  obtain ⟨z2, its2, n2, rr2, hl2, e2⟩ := I4.lstM eb
  have k1 := rr.length
  have k2 := rr2.length
  refine store_open e e2 ne (Heap.IsSliceOf.new ..) pl pu (by rw [List.size_toArray, List.size_toArray]; omega) ?_
  refine wpAny_release ⟨σ, _, ?_, q⟩
  rw [List.size_toArray, ← k1]
  refine I4.lset (its' := its.take (HT.sIx xs.length 0 l) ++ its2 ++ its.drop (max (HT.sIx xs.length 0 l) (HT.sIx xs.length xs.length u'))) (t' := _) ea e ?_ (Vals.append (Vals.append (rr.take _) rr2) (rr.drop _)) ?_
  · exact splice_eq its its2 _ _
  · rw [List.length_append, List.length_append, List.length_take, List.length_drop]
    omega
end
end SH

/-! SH6: comprehensions over enumerate and lists whose turns change nothing that is tracked. -/
namespace SH
open PySem PySem.Spec PyProof.Rows L2
theorem if_any {b : Bool} {A B : TE} {σ : L2.St} {H : Hp} {Q : VK} (Inv : V → Hp → Prop) (ha : b = true → ∀ Q' : VK, (∀ v H', Inv v H' → Q' v H') → A σ H Q')
    (hb : b = false → ∀ Q' : VK, (∀ v H', Inv v H' → Q' v H') → B σ H Q') (h : ∀ v H', Inv v H' → Q v H') : if b = true then A σ H Q else B σ H Q := by
  cases b with
  | true => rw [if_pos rfl]; exact ha rfl Q h
  | false => rw [if_neg Bool.false_ne_true]; exact hb rfl Q h
theorem Same.at {H H' : Hp} {a : Addr} {o : HO} (s : Same H H') (n : H a = none) : Same H (upd H' a o) := fun b u e => by
  rw [upd_ne (ne_of_none e n)]; exact s b u e
theorem while_cut {tc : TT} {tb : TS} {D : Ends} {σ : L2.St} {H : Hp} (Exit : L2.St → Hp → Prop) (main : ∀ σ' H', Exit σ' H' → D.nx σ' H')
    (h : (∀ σ' H', Exit σ' H' → D.nx σ' H') → tWhile tc tb D σ H) : tWhile tc tb D σ H := h main
section
variable {K : PySem.W.Frag} {tt : TT} {te : TE} {vs : List Nat} {σ : L2.St} {H : Hp} {D : Addr} {Qd : Hp → Prop}
/-- a turn's end, the heap told by Same -/
theorem lc_turnS {n : Nat} {keep : Nat → Bool} {val : Nat → V} {i : Nat} {σ2 : L2.St} {H2 : Hp} (hD : H D = none) (hi : i < n) (hn : n < 100000) (s2 : Same H H2)
    (h2 : H2 D = some (.lst (gives i keep val)))
    (ht : ∀ Q : Bool → Hp → Prop, (∀ H3, Same H2 H3 → Q (keep i) H3) → tt σ2 H2 Q)
    (he : ∀ H3, Same H2 H3 → ∀ Q : VK, keep i = true → (∀ H4, Same H3 H4 → Q (val i) H4) → te σ2 H3 Q) :
    tt σ2 H2 fun b H3 => if b = true then te σ2 H3 fun y H4 => ∃ acc, H4 D = some (.lst acc) ∧ acc.length < sizeLine ∧
      (Same H (upd H4 D (.lst (acc ++ [y]))) ∧ (upd H4 D (.lst (acc ++ [y]))) D = some (.lst (gives (i + 1) keep val)))
      else (Same H H3 ∧ H3 D = some (.lst (gives (i + 1) keep val))) := by
  refine ht _ fun H3 s3 => ?_
  by_cases h : keep i = true
  · rw [h]
    refine iteT (he H3 s3 _ h fun H4 s4 => ⟨_, s4 _ _ (s3 _ _ h2), small_line (by have := gives_len i keep val; omega), Same.at ((s2.trans s3).trans s4) hD, ?_⟩)
    rw [upd_same, gives_succ, if_pos h]
  · have h' : keep i = false := by cases e : keep i <;> simp_all
    rw [h']
    refine iteF ⟨s2.trans s3, ?_⟩
    rw [gives_succ, if_neg h]
    exact s3 _ _ h2
/-- [.. for i, x in enumerate(xs) ..] -/
theorem lcEn {a : Addr} {xs : List V} {j1 j2 : Nat} (keep : Nat → Bool) (val : Nat → V) (hx : SqL K H a xs) (hD : H D = none) (hn : xs.length < 100000)
    (hw : ∀ x y, wipe (((wipe σ vs).set j1 (some x)).set j2 (some y)) vs = wipe σ vs)
    (ht : ∀ i x H2 (Q : Bool → Hp → Prop), xs[i]? = some x → Same H H2 → (∀ H3, Same H2 H3 → Q (keep i) H3) → tt (((wipe σ vs).set j1 (some (.int (i : Nat)))).set j2 (some x)) H2 Q)
    (he : ∀ i x H2 (Q : VK), xs[i]? = some x → keep i = true → Same H H2 → (∀ H3, Same H2 H3 → Q (val i) H3) → te (((wipe σ vs).set j1 (some (.int (i : Nat)))).set j2 (some x)) H2 Q)
    (hd : ∀ H', Same H H' → H' D = some (.lst (gives xs.length keep val)) → Qd H') :
    ∃ W : Nat → Nat → Hp → Prop, (∃ m, W 0 m (upd H D (.lst []))) ∧ ∀ i m H, W i m H →
      ((Ite K a).stop i H ∧ Qd H) ∨ ((Ite K a).go i H ∧ ∃ Nx : Hp → Prop, (∀ H', Nx H' → ∃ m', m' < m ∧ W (i + 1) m' H') ∧
        ∀ x H', (Ite K a).yld i H x H' → gTup K 2 (gCons (gName j1) (gCons (gName j2) gNil)) x (wipe σ vs) H' fun σ2 H2 => wipe σ2 vs = wipe σ vs ∧ tt σ2 H2 fun b H3 =>
          if b = true then te σ2 H3 fun y H4 => ∃ acc, H4 D = some (.lst acc) ∧ acc.length < sizeLine ∧ Nx (upd H4 D (.lst (acc ++ [y]))) else Nx H3) := by
  refine ⟨fun i m H' => m = xs.length - i ∧ i ≤ xs.length ∧ Same H H' ∧ H' D = some (.lst (gives i keep val)), ⟨_, rfl, Nat.zero_le _, Same.new hD, upd_same⟩, ?_⟩
  rintro i m H2 ⟨rfl, hi, s2, h2⟩
  have hq := s2.seq hx
  rcases Nat.lt_or_ge i xs.length with lt | ge
  · refine .inr ⟨⟨xs, xs[i], hq, List.getElem?_eq_getElem lt⟩, fun H' => Same H H' ∧ H' D = some (.lst (gives (i + 1) keep val)), fun H' p' => ⟨xs.length - (i + 1), by omega, rfl, lt, p'.1, p'.2⟩, ?_⟩
    rintro v H' ⟨T, x, rfl, hT, rfl, f⟩
    have sT : Same H (upd H2 T (.tup [.int (i : Nat), x])) := s2.trans (Same.new hT)
    have hTD := Same.new (o := .tup [.int (i : Nat), x]) hT _ _ h2
    refine ⟨T, _, rfl, SqT.of upd_same, rfl, _, _, rfl, _, _, rfl, rfl, hw _ _, ?_⟩
    exact lc_turnS hD lt hn sT hTD (fun Q q => ht i x _ Q (f xs hq) sT q) (fun H3 s3 Q k q => he i x H3 Q (f xs hq) k (sT.trans s3) q)
  · obtain rfl : i = xs.length := Nat.le_antisymm hi ge
    exact .inl ⟨⟨xs, hq, Nat.le_refl _⟩, hd H2 s2 h2⟩
/-- [.. for x in xs ..] whose turns may make things -/
theorem lcLn {a : Addr} {xs : List V} {j : Nat} (keep : Nat → Bool) (val : Nat → V) (hx : SqL K H a xs) (hD : H D = none) (hn : xs.length < 100000)
    (hw : ∀ x, wipe ((wipe σ vs).set j (some x)) vs = wipe σ vs)
    (ht : ∀ i x H2 (Q : Bool → Hp → Prop), xs[i]? = some x → Same H H2 → (∀ H3, Same H2 H3 → Q (keep i) H3) → tt ((wipe σ vs).set j (some x)) H2 Q)
    (he : ∀ i x H2 (Q : VK), xs[i]? = some x → keep i = true → Same H H2 → (∀ H3, Same H2 H3 → Q (val i) H3) → te ((wipe σ vs).set j (some x)) H2 Q)
    (hd : ∀ H', Same H H' → H' D = some (.lst (gives xs.length keep val)) → Qd H') :
    ∃ W : Nat → Nat → Hp → Prop, (∃ m, W 0 m (upd H D (.lst []))) ∧ ∀ i m H, W i m H →
      ((Itl K a).stop i H ∧ Qd H) ∨ ((Itl K a).go i H ∧ ∃ Nx : Hp → Prop, (∀ H', Nx H' → ∃ m', m' < m ∧ W (i + 1) m' H') ∧
        ∀ x H', (Itl K a).yld i H x H' → gName j x (wipe σ vs) H' fun σ2 H2 => wipe σ2 vs = wipe σ vs ∧ tt σ2 H2 fun b H3 =>
          if b = true then te σ2 H3 fun y H4 => ∃ acc, H4 D = some (.lst acc) ∧ acc.length < sizeLine ∧ Nx (upd H4 D (.lst (acc ++ [y]))) else Nx H3) :=
  lc_list (xs := xs) (fun i H2 => Same H H2 ∧ H2 D = some (.lst (gives i keep val))) ⟨Same.new hD, upd_same⟩
    (fun i H2 hi e => e.1.seq hx)
    (fun i x H2 hi e => ⟨hw _, lc_turnS hD (List.getElem?_eq_some_iff.mp hi).1 hn e.1 e.2 (fun Q q => ht i x H2 Q hi e.1 q) (fun H3 s3 Q k q => he i x H3 Q hi k (e.1.trans s3) q)⟩)
    (fun H2 e => hd H2 e.1 e.2)
/-- [.. for i in range(lo, lo + n) ..] whose turns may make things -/
theorem lcRn {lo : Int} {n j : Nat} (keep : Nat → Bool) (val : Nat → V) (hD : H D = none) (hn : n < 100000)
    (hw : ∀ x, wipe ((wipe σ vs).set j (some x)) vs = wipe σ vs)
    (ht : ∀ i H2 (Q : Bool → Hp → Prop), i < n → Same H H2 → (∀ H3, Same H2 H3 → Q (keep i) H3) → tt ((wipe σ vs).set j (some (.int (lo + (i : Nat))))) H2 Q)
    (he : ∀ i H2 (Q : VK), i < n → keep i = true → Same H H2 → (∀ H3, Same H2 H3 → Q (val i) H3) → te ((wipe σ vs).set j (some (.int (lo + (i : Nat))))) H2 Q)
    (hd : ∀ H', Same H H' → H' D = some (.lst (gives n keep val)) → Qd H') :
    ∃ W : Nat → Nat → Hp → Prop, (∃ m, W 0 m (upd H D (.lst []))) ∧ ∀ i m H, W i m H →
      ((Itr lo n).stop i H ∧ Qd H) ∨ ((Itr lo n).go i H ∧ ∃ Nx : Hp → Prop, (∀ H', Nx H' → ∃ m', m' < m ∧ W (i + 1) m' H') ∧
        ∀ x H', (Itr lo n).yld i H x H' → gName j x (wipe σ vs) H' fun σ2 H2 => wipe σ2 vs = wipe σ vs ∧ tt σ2 H2 fun b H3 =>
          if b = true then te σ2 H3 fun y H4 => ∃ acc, H4 D = some (.lst acc) ∧ acc.length < sizeLine ∧ Nx (upd H4 D (.lst (acc ++ [y]))) else Nx H3) :=
  lc_range (fun i H2 => Same H H2 ∧ H2 D = some (.lst (gives i keep val))) ⟨Same.new hD, upd_same⟩
    (fun i H2 hi e => ⟨hw _, lc_turnS hD hi hn e.1 e.2 (fun Q q => ht i H2 Q hi e.1 q) (fun H3 s3 Q k q => he i H3 Q hi k (e.1.trans s3) q)⟩)
    (fun H2 e => hd H2 e.1 e.2)
/-- [.. for a, b in zip(xs, ys) ..], lists of any lengths, whose turns may make things -/
theorem lcZn {a b : Addr} {xs ys : List V} {j1 j2 : Nat} (keep : Nat → Bool) (val : Nat → V) (hx : SqL K H a xs) (hy : SqL K H b ys) (hD : H D = none) (hn : xs.length < 100000)
    (hw : ∀ x y, wipe (((wipe σ vs).set j1 (some x)).set j2 (some y)) vs = wipe σ vs)
    (ht : ∀ i x y H2 (Q : Bool → Hp → Prop), xs[i]? = some x → ys[i]? = some y → Same H H2 → (∀ H3, Same H2 H3 → Q (keep i) H3) → tt (((wipe σ vs).set j1 (some x)).set j2 (some y)) H2 Q)
    (he : ∀ i x y H2 (Q : VK), xs[i]? = some x → ys[i]? = some y → keep i = true → Same H H2 → (∀ H3, Same H2 H3 → Q (val i) H3) → te (((wipe σ vs).set j1 (some x)).set j2 (some y)) H2 Q)
    (hd : ∀ H', Same H H' → H' D = some (.lst (gives (min xs.length ys.length) keep val)) → Qd H') :
    ∃ W : Nat → Nat → Hp → Prop, (∃ m, W 0 m (upd H D (.lst []))) ∧ ∀ i m H, W i m H →
      ((Itz K a b).stop i H ∧ Qd H) ∨ ((Itz K a b).go i H ∧ ∃ Nx : Hp → Prop, (∀ H', Nx H' → ∃ m', m' < m ∧ W (i + 1) m' H') ∧
        ∀ x H', (Itz K a b).yld i H x H' → gTup K 2 (gCons (gName j1) (gCons (gName j2) gNil)) x (wipe σ vs) H' fun σ2 H2 => wipe σ2 vs = wipe σ vs ∧ tt σ2 H2 fun b H3 =>
          if b = true then te σ2 H3 fun y H4 => ∃ acc, H4 D = some (.lst acc) ∧ acc.length < sizeLine ∧ Nx (upd H4 D (.lst (acc ++ [y]))) else Nx H3) := by
  refine ⟨fun i m H' => m = min xs.length ys.length - i ∧ i ≤ min xs.length ys.length ∧ Same H H' ∧ H' D = some (.lst (gives i keep val)), ⟨_, rfl, Nat.zero_le _, Same.new hD, upd_same⟩, ?_⟩
  rintro i m H2 ⟨rfl, hi, s2, h2⟩
  have qx := s2.seq hx
  have qy := s2.seq hy
  rcases Nat.lt_or_ge i (min xs.length ys.length) with lt | ge
  · have lx : i < xs.length := by omega
    have ly : i < ys.length := by omega
    refine .inr ⟨⟨xs, ys, xs[i], ys[i], qx, qy, List.getElem?_eq_getElem lx, List.getElem?_eq_getElem ly⟩, fun H' => Same H H' ∧ H' D = some (.lst (gives (i + 1) keep val)),
      fun H' p' => ⟨min xs.length ys.length - (i + 1), by omega, rfl, lt, p'.1, p'.2⟩, ?_⟩
    rintro v H' ⟨T, x, y, rfl, hT, rfl, fx, fy⟩
    have sT : Same H (upd H2 T (.tup [x, y])) := s2.trans (Same.new hT)
    have hTD := Same.new (o := .tup [x, y]) hT _ _ h2
    refine ⟨T, _, rfl, SqT.of upd_same, rfl, _, _, rfl, _, _, rfl, rfl, hw _ _, ?_⟩
    exact lc_turnS hD lx hn sT hTD (fun Q q => ht i x y _ Q (fx xs qx) (fy ys qy) sT q) (fun H3 s3 Q k q => he i x y H3 Q (fx xs qx) (fy ys qy) k (sT.trans s3) q)
  · obtain rfl : i = min xs.length ys.length := Nat.le_antisymm hi ge
    refine .inl ⟨⟨xs, ys, qx, qy, ?_⟩, hd H2 s2 h2⟩
    rcases Nat.le_total xs.length ys.length with c | c
    · exact .inl (by omega)
    · exact .inr (by omega)
end
end SH

/-! SH7: set(xs) of a list of hin, and sorted of such a set, any number of members below the table's bound. -/
namespace SH
open PySem PySem.Spec PyProof.Rows L2
/-- the object that set() makes -/
abbrev setO0 (w : World) : Obj :=
  { cls := .type "set", dict := none, data := .set #[] 0 (.fresh 0 0 (!w.params.followText "set-order")) }
section
variable {P : Program} {w : World} {A : Around} {E : Value → Shared → Prop} {s : Shared}
set_option maxHeartbeats 3200000 in
theorem set_of_list {l : Addr} {xs : Array Value} (ns : List Int) {Q : Value → Shared → Prop} (calm : A.handled = none)
    (isl : s.heap.IsList l xs) (hin : IntsAre xs.toList ns) (few : ns.length + 1 < scanBound)
    (h : ∀ (g : Heap) (tk c : Nat), SetR w g s.heap.objs.size (fun j => decide (j ∈ ns)) c → c ≤ ns.length →
      (∀ b o, s.heap.get? b = some o → g.get? b = some o) →
      Q (.ref s.heap.objs.size) { s with heap := g, toks := tk }) :
    wpAny (model P w) A (call (.type "set") [.ref l]) Q E s := by
  have size : xs.size = ns.length := by rw [← Array.length_toList]; exact IntsAre.length hin
  obtain ⟨_, _, m1⟩ := F.called_set.mro
  have m2 := F.called_set.made
  have m3 := F.called_set.sub
  refine wpAny_call (codeAny_of_tree (show wpAny _ _ (callAny (.type "set") _) _ _ _ from ?_))
  refine wpAny_pure ⟨Code.quiet_builtin _ (by decide +kernel),
    codeAny_builtin F.entry_type_call ?_⟩
  rw [Around.under_plain (weight_type_call_type "set"
    [.ref l] []) rfl]
  have m4 := F.called_set.notType
  have m5 := F.called_set.canCreate
  have m6 := F.typeCall_set_1 (.ref l)
  repeat (any_goals (first | wp_step | assumption))
  refine codeAny_mono (code_set_led1 (.ref l) (E := E)
    (Q₁ := fun ob t => ob = .ref s.heap.objs.size ∧ t = { s with heap := s.heap.push (setO0 w) }) ⟨rfl, rfl⟩)
    fun res t made => ?_
  cases res with
  | error e => exact made
  | ok fl =>
  cases fl with
  | ret ob =>
    obtain ⟨rfl, rfl⟩ := made
    have at0 : (s.heap.push (setO0 w)).get? s.heap.objs.size = some (setO0 w) := Heap.get?_push_size _ rfl
    have ty0 : Shared.TypeIs { s with heap := s.heap.push (setO0 w) } (.ref s.heap.objs.size) "set" := ⟨_, at0, rfl⟩
    have m7 := F.called_set.init.lookup
    have m8 := F.called_set.init.bind (.ref s.heap.objs.size)
    repeat (any_goals (first | wp_step | assumption))
    refine codeAny_mono (codeAny_call_builtin (R := wants (fun r t => r = .none ∧ ∃ g tk c, t = { s with heap := g, toks := tk } ∧
        SetR w g s.heap.objs.size (fun j => decide (j ∈ ns)) c ∧ c ≤ ns.length ∧ ∀ b o, s.heap.get? b = some o → g.get? b = some o) E)
      F.called_set.init.plain F.entry_set_init (check_set_init_1 ty0 ?_)) fun res2 t2 done => ?_
    · obtain ⟨ol, lk, cl, en, dl⟩ := isl
      obtain ⟨c1, d1, x1, sl1⟩ := ol
      simp only at cl dl
      subst cl dl
      have lk' : (s.heap.push (setO0 w)).get? l = some { cls := .type "list", dict := d1, data := .seq xs en, slots := sl1 } :=
        Heap.get?_push_of_some _ lk
      have u1 := F.sub_list_set
      have u2 := F.sub_list_frozenset
      have u3 : (Value.type "list" == Value.type "dict") = false := by decide
      have isl1 : (s.heap.push (setO0 w)).IsList l xs := ⟨_, lk', rfl, en, rfl⟩
      unfold Builtin.«set.__init__» noKeywords
      unfold Builtin.Frozenset.updateFrom
      generalize iterE : pyIter = itf
      wp_walk
      subst iterE
      refine wpAny_pyIter_list isl1 (wpAny_bind (wpAny_runValue ?_))
      have lt : l < s.heap.objs.size := Heap.lt_size lk
      have calm3 : A.in1.in1.in1.handled = none := by simp [calm]
      have sz : (s.heap.push (setO0 w)).objs.size = s.heap.objs.size + 1 := Heap.size_push ..
      have ne1 : l ≠ (s.heap.push (setO0 w)).objs.size := by rw [sz]; exact Nat.ne_of_lt (Nat.lt_succ_of_lt lt)
      have ne2 : s.heap.objs.size ∉ [(s.heap.push (setO0 w)).objs.size, l] := by
        rw [sz]
        simp only [List.mem_cons, List.not_mem_nil, or_false, not_or]
        exact ⟨Nat.ne_of_lt (Nat.lt_succ_self _), Ne.symm (Nat.ne_of_lt lt)⟩
      have vals : ∀ (i : Nat) (v : Value), xs[i]? = some v → ∃ k t, ns[i]? = some k ∧ v = .int k t := fun i v e => by
        have il : i < ns.length := by rw [← size]; exact (Array.getElem?_eq_some_iff.mp e).1
        obtain ⟨t, et⟩ := IntsAre.int_at hin i v (by rw [Array.getElem?_toList]; exact e)
        refine ⟨ns.getD i 0, t, ?_, et⟩
        rw [List.getD_eq_getElem?_getD, List.getElem?_eq_getElem il]
        rfl
      refine set_update_ints ((Walks.list calm3 _ l ne1 xs).toS) s.heap.objs.size ne2 ns size few vals (xs.size - 0) 0 _ (by omega)
        (Nat.zero_le _) ⟨⟨_, Heap.get?_push_size _ rfl, rfl, rfl⟩, isl1.push _⟩ ⟨0, Nat.le_refl 0, ?_⟩ ?_
      · exact setR_new_at (Heap.get?_push_of_some _ at0)
      · intro t c mv cl1 R
        obtain ⟨g, gens, drawn, tk, os⟩ := t
        obtain rfl : gens = s.gens := mv.gens
        obtain rfl : drawn = s.drawn := mv.drawn
        obtain rfl : os = s.os := mv.os
        refine wpAny_pure (show wpAny _ _ (ret Value.none) _ _ _ from ?_)
        rw [size] at cl1
        refine wpAny_pure ⟨rfl, g, tk, c, rfl, R, cl1, fun b o e => mv.heap b o ?_ ?_⟩
        · have lb : b < s.heap.objs.size := Heap.lt_size e
          rw [sz]
          simp only [List.mem_cons, List.not_mem_nil, or_false, not_or]
          exact ⟨Nat.ne_of_lt lb, Nat.ne_of_lt (Nat.lt_succ_of_lt lb)⟩
        · exact Heap.get?_push_of_some _ (Heap.get?_push_of_some _ e)
    · cases res2 with
      | error e => exact done
      | ok fl2 =>
      cases fl2 with
      | ret r =>
        obtain ⟨rfl, g, tk, c, rfl, R, cl1, kp⟩ := done
        repeat (any_goals (first | wp_step | assumption))
        exact h _ _ _ R cl1 kp
      | _ => exact done.elim
  | _ => exact made.elim
theorem set_sorted {a : Addr} {S : Int → Bool} {n : Nat} {Q : Value → Shared → Prop} (R : SetR w s.heap a S n) (calm : A.handled = none)
    (h : ∀ t p (out : Array Value) (c : Nat) (ns : List Int), (∀ b o, s.heap.get? b = some o → t.heap.get? b = some o) → t.gens = s.gens → t.os = s.os →
      s.heap.objs.size ≤ p → t.heap.get? p = some (seqObj "list" out c) → IntsAre out.toList ns → ns.Pairwise (· < ·) →
      (∀ k, k ∈ ns ↔ S k = true) → ns.length = n → Q (.ref p) t) :
    wpAny (model P w) A (call (.builtin "sorted") [.ref a]) Q E s := by
  obtain ⟨ob, es, ep, tb, look, exact', dat, good, dis, mem, bnd, fits, cnt, ris, led⟩ := R
  refine Calls.call_function_entry kind_sorted plain_sorted entry_sorted (args_sorted1 _) ?_
  unfold Builtin.«sorted»
  refine wpAny_bind (m := checkCount "sorted" 1 1 _) (wpAny_pure (wpAny_bind (collect_set (A := A.in1) calm ⟨ob, look, exact'.1, dat⟩ fits bnd ris led
    fun t1 vs kp grow gn osn perm => ?_)))
  have lenV : vs.length = n := by rw [perm.length_eq, List.length_map, Array.length_toList]; exact cnt
  have intsV : IntsAre vs (vs.map Builtin.Re.reRawOf) := ints_of vs fun v hv => by
    obtain ⟨e, he, rfl⟩ := List.mem_map.mp (perm.mem_iff.mp hv)
    obtain ⟨k, tk, x, _⟩ := good e he
    exact ⟨k, tk, x⟩
  have permK : (vs.map Builtin.Re.reRawOf).Perm (es.toList.map keyOf) := by
    have := perm.map Builtin.Re.reRawOf
    rwa [List.map_map] at this
  have small : vs.length ≤ sizeLine := by
    have : scanBound = 4096 := rfl
    rw [lenV, sizeLine_eq]
    omega
  refine wpAny_bind (wpAny_newList ?_ small)
  have look2 : (t1.heap.push (seqObj "list" vs.toArray 0)).get? t1.heap.objs.size = some (seqObj "list" vs.toArray 0) :=
    Heap.get?_push_size _ rfl
  refine wpAny_bind (wpAny_holding (wpAny_call_entry slot_list_sort ⟨_, look2, rfl⟩ entry_list_sort
    (SrtO.list_sort_ord SrtO.swo_int look2 small (fun two => SrtO.ints_sortable intsV two) fun out o1 o2 => ⟨_, rfl, ?_⟩) (args_list_sort _)))
  obtain ⟨k1, k2, k3⟩ := SrtO.ints_out intsV o1 o2
  obtain ⟨c, ec⟩ := sortedHeap_at (vs := vs) (out := out.toArray) look2
  have pn : (out.map SrtO.iv).Perm (es.toList.map keyOf) := k2.trans permK
  refine wpAny_pure ⟨_, rfl, h _ t1.heap.objs.size out.toArray c (out.map SrtO.iv) (fun b u e => ?_) gn osn grow ec k1
    (lt_of_le_nodup _ k3 (pn.nodup_iff.mpr dis)) (fun k => by rw [pn.mem_iff, ← mem k]) ?_⟩
  · have e1 := kp b u e
    have lb : b < t1.heap.objs.size := Heap.lt_size e1
    have lb2 : b ≠ t1.heap.objs.size := Nat.ne_of_lt lb
    show (sortedHeap (t1.heap.push (seqObj "list" vs.toArray 0)) t1.heap.objs.size vs out.toArray).get? b = some u
    rw [sortedHeap_old lb2 (by rw [size_push']; exact Nat.lt_succ_of_lt lb)]
    exact Heap.get?_push_of_some _ e1
  · rw [pn.length_eq, List.length_map, Array.length_toList]
    exact cnt
end
/-- set(xs) -/
def rSetOfI (K : PySem.W.Frag) (w : World) : List V → Hp → VK → Prop := fun xs H Q => ∃ (l : Addr) (ns : List Int), xs = [.ref l] ∧ SqL K H l (iv ns) ∧ ns.length < 4000 ∧
  ∀ a n, H a = none → n ≤ ns.length → Q (.ref a) (upd H a (SetO w a (fun j => decide (j ∈ ns)) n))
theorem cr_setOfI {X : Cx} (hc : X.calm = true) : CallR X (.type "set") (rSetOfI X.K X.w) := by
  intro pins s σ H xs us Q I r h
  obtain ⟨l, ns, rfl, hl, hf, q⟩ := h
  rw [Vals.ref1 r]
  obtain ⟨its, rv, pl, hz⟩ := I.list hl
  have hn : H s.heap.objs.size = none := I.hok.fresh (Nat.le_refl _)
  refine set_of_list (P := X.prog) (w := X.w) ns (I.ok.hd hc) pl.isList (by simpa using ints_of_vals rv) (by have : scanBound = 4096 := rfl; omega) fun g tk c R cl kp => ?_
  exact ⟨.ref s.heap.objs.size, upd H s.heap.objs.size (SetO X.w s.heap.objs.size (fun j => decide (j ∈ ns)) c), I.laid (t' := tk) kp (Nat.le_refl _) (setO_new R), rfl, q _ c hn cl⟩
/-- sorted(found), any number of members -/
def rSortedN (w : World) : List V → Hp → VK → Prop := fun vs H Q => ∃ (a : Addr) (S : Int → Bool) (n : Nat), vs = [V.ref a] ∧ H a = some (SetO w a S n) ∧
  ∀ (ns : List Int) (p : Addr), ns.Pairwise (· < ·) → (∀ k : Int, k ∈ ns ↔ S k = true) → ns.length = n → H p = none → Q (.ref p) (upd H p (.lst (iv ns)))
theorem cr_sortedN {X : Cx} (hc : X.calm = true) : CallR X (.builtin "sorted") (rSortedN X.w) := by
  intro pins s σ H vs us Q I r h
  obtain ⟨a, S, n, rfl, ha, q⟩ := h
  have R := setO_get I ha
  rw [Vals.ref1 r]
  have nb : n < scanBound := by obtain ⟨_, es, _, _, _, _, _, _, _, _, b, _, e, _⟩ := R; omega
  refine set_sorted R (I.ok.hd hc) fun t p out c ns kp gn osn hp look hin asc mem len => ?_
  have small : (iv ns).length ≤ sizeLine := by
    have : scanBound = 4096 := rfl
    rw [List.length_map, len, sizeLine_eq]
    omega
  have hn : H p = none := I.hok.fresh hp
  have J : Inv X pins σ (upd H p (.lst (iv ns))) { s with heap := t.heap, gens := t.gens, drawn := t.drawn, toks := t.toks } :=
    I.call (ch := []) (Un.laid kp hp hn) (I.hok.laid kp hp ⟨small, out.toList, c, vals_of_ints hin, look⟩)
      (by rw [gn]; exact I.bare) (fun _ z => nomatch z)
  have e : t = { s with heap := t.heap, gens := t.gens, drawn := t.drawn, toks := t.toks } := by
    cases t; cases s; cases osn; rfl
  rw [e]
  exact ⟨.ref p, _, J, rfl, q ns p asc mem len hn⟩
end SH

/-! SH8: sorted(xs) of a list of ints, any length below 4000. -/
namespace SH
open PySem PySem.Spec PyProof.Rows L2
def rSortedAny (K : PySem.W.Frag) : List V → Hp → VK → Prop := fun vs H Q => ∃ (a : Addr) (ns : List Int), vs = [V.ref a] ∧ SqL K H a (ns.map V.int) ∧ ns.length < 4000 ∧
  ∀ (ns' : List Int) (p : Addr), ns'.Perm ns → ns'.Pairwise (· ≤ ·) → H p = none → Q (.ref p) (upd H p (.lst (ns'.map V.int)))
section
variable {X : Cx}
theorem cr_sortedAny : CallR X (.builtin "sorted") (rSortedAny X.K) := by
  intro pins s σ H vs us Q I r h
  obtain ⟨a, ns, rfl, hs, h64, q⟩ := h
  obtain ⟨its, rv, hl, _⟩ := I.list hs
  rw [Vals.ref1 r]
  have hi := rv.ints
  have hb : its.length ≤ sizeLine := by rw [hi.length, sizeLine_eq]; omega
  refine PyProof.Rows.sorted_intsAny hl.isList hi hb fun out ns' h1 h2 h3 => ?_
  obtain ⟨ep, he'⟩ := PyProof.Rows.sortedAll_at s.heap its out
  have hlen : (ns'.map V.int).length ≤ sizeLine := by rw [List.length_map, h2.length_eq, sizeLine_eq]; omega
  exact ⟨.ref _, upd H (s.heap.objs.size + 1) (.lst (ns'.map V.int)), I.laid (t' := s.toks) (fun _ _ => PyProof.Rows.sortedAll_old) (Nat.le_succ _) ⟨hlen, out.toList, ep, vals_of_ints h1, he'⟩, rfl, q ns' _ h2 h3 (I.hok.fresh (Nat.le_succ _))⟩
end
end SH

/-! SH9: values of any kind: data that stands in the heap, its repr, its type. -/
namespace SH
open PySem PySem.Spec PyProof.Rows L2

mutual
inductive Dx (H : Hp) : V → PyData → List Addr → Prop
  | non : Dx H .non .none []
  | bl (b : Bool) : Dx H (.bl b) (.bool b) []
  | int (i : Int) : Dx H (.int i) (.int i) []
  | str (x : Str) : Dx H (.str x) (.str x) []
  | lst {a : Addr} {xs : List V} {ds : List PyData} {as : List Addr} : H a = some (.lst xs) → DxAll H xs ds as → Dx H (.ref a) (.list ds) (a :: as)
  | tup {a : Addr} {xs : List V} {ds : List PyData} {as : List Addr} : H a = some (.tup xs) → DxAll H xs ds as → Dx H (.ref a) (.tuple ds) (a :: as)
  | emp {a : Addr} : H a = some (.dK []) → Dx H (.ref a) (.dict []) [a]
inductive DxAll (H : Hp) : List V → List PyData → List Addr → Prop
  | nil : DxAll H [] [] []
  | cons {v : V} {vs : List V} {d : PyData} {ds : List PyData} {as bs : List Addr} : Dx H v d as → DxAll H vs ds bs → DxAll H (v :: vs) (d :: ds) (as ++ bs)
end
mutual
theorem Dx.imp {H H' : Hp} : ∀ {d : PyData} {v : V} {as : List Addr}, Dx H v d as → (∀ a ∈ as, ∀ o, H a = some o → H' a = some o) → Dx H' v d as
  | .none, _, _, h, k => by cases h; exact .non
  | .bool b, _, _, h, k => by cases h; exact .bl b
  | .int i, _, _, h, k => by cases h; exact .int i
  | .str x, _, _, h, k => by cases h; exact .str x
  | .list ds, _, _, h, k => by
    cases h with
    | lst e r => exact .lst (k _ List.mem_cons_self _ e) (DxAll.imp r fun a m => k a (List.mem_cons_of_mem _ m))
  | .tuple ds, _, _, h, k => by
    cases h with
    | tup e r => exact .tup (k _ List.mem_cons_self _ e) (DxAll.imp r fun a m => k a (List.mem_cons_of_mem _ m))
  | .dict _, _, _, h, k => by
    cases h with
    | emp e => exact .emp (k _ List.mem_cons_self _ e)
theorem DxAll.imp {H H' : Hp} : ∀ {ds : List PyData} {vs : List V} {as : List Addr}, DxAll H vs ds as → (∀ a ∈ as, ∀ o, H a = some o → H' a = some o) → DxAll H' vs ds as
  | [], _, _, h, k => by cases h; exact .nil
  | d :: ds, _, _, h, k => by
    cases h with
    | cons h1 h2 => exact .cons (Dx.imp h1 fun a m => k a (List.mem_append_left _ m)) (DxAll.imp h2 fun a m => k a (List.mem_append_right _ m))
end
theorem Dx.same {H H' : Hp} {v : V} {d : PyData} {as : List Addr} (h : Dx H v d as) (s : Same H H') : Dx H' v d as := h.imp fun a _ o e => s a o e
theorem Dx.but {H H' : Hp} {g : Addr} {v : V} {d : PyData} {as : List Addr} (h : Dx H v d as) (s : SameBut g H H') (n : g ∉ as) : Dx H' v d as :=
  h.imp fun a m o e => s a o e fun z => n (z ▸ m)
theorem DxAll.append {H : Hp} : ∀ {xs ys : List V} {ds es : List PyData} {as bs : List Addr}, DxAll H xs ds as → DxAll H ys es bs → DxAll H (xs ++ ys) (ds ++ es) (as ++ bs)
  | _, _, _, _, _, _, .nil, h => h
  | _, _, _, _, _, _, .cons h1 h2, h => by
    rw [List.append_assoc]
    exact .cons h1 (DxAll.append h2 h)
theorem dx_ints {H : Hp} : ∀ ns : List Int, DxAll H (iv ns) (ns.map PyData.int) []
  | [] => .nil
  | n :: r => .cons (as := []) (.int n) (dx_ints r)
theorem dx_one {H : Hp} {v : V} {d : PyData} {as : List Addr} (h : Dx H v d as) : DxAll H [v] [d] as := by
  have := DxAll.cons h .nil
  rwa [List.append_nil] at this
theorem dx_dI {H : Hp} {a : Addr} {ns : List Int} (h : H a = some (.lst (iv ns))) : Dx H (.ref a) (dI ns) [a] := .lst h (dx_ints ns)
theorem DxAll.len {H : Hp} : ∀ {xs : List V} {ds : List PyData} {as : List Addr}, DxAll H xs ds as → xs.length = ds.length
  | _, _, _, .nil => rfl
  | _, _, _, .cons _ h => congrArg (· + 1) h.len
theorem DxAll.at {H : Hp} : ∀ {xs : List V} {ds : List PyData} {as : List Addr} {i : Nat} {x : V}, DxAll H xs ds as → xs[i]? = some x → ∃ d bs, ds[i]? = some d ∧ Dx H x d bs
  | _, _, _, _, _, .nil, e => by simp at e
  | _, _, _, 0, _, .cons h _, e => by simp at e; subst e; exact ⟨_, _, rfl, h⟩
  | _, _, _, i + 1, x, .cons _ t, e => by
    obtain ⟨d, bs, h1, h2⟩ := DxAll.at (i := i) (x := x) t (by simpa using e)
    exact ⟨d, bs, by simpa using h1, h2⟩
section
variable {X : Cx} {pins : List (Addr × Obj)} {σ : L2.St} {H : Hp} {s : Shared}
theorem Dx.fresh (I : Inv X pins σ H s) {a : Addr} {o : HO} (e : H a = some o) : a < s.heap.objs.size := I.hok.lt e
mutual
theorem Dx.reads (I : Inv X pins σ H s) : ∀ (d : PyData) (v : V) (u : Value) (as : List Addr), Dx H v d as → RelV v u → ∃ bs, Reads s.heap u d bs ∧ ∀ b ∈ bs, b ∈ as
  | .none, _, _, _, h, r => by
    cases h
    cases r
    exact ⟨_, Reads.none, fun _ z => z⟩
  | .bool b, _, _, _, h, r => by
    cases h
    cases r
    exact ⟨_, Reads.bool b, fun _ z => z⟩
  | .int i, _, _, _, h, r => by
    cases h
    obtain ⟨t, rfl⟩ := r
    exact ⟨_, Reads.int i t, fun _ z => z⟩
  | .str x, _, _, _, h, r => by
    cases h
    obtain ⟨t, rfl⟩ := r
    exact ⟨_, Reads.str x t, fun _ z => z⟩
  | .list ds, _, _, _, h, r => by
    cases h with
    | lst hs ha =>
      cases r
      obtain ⟨its, rv, ⟨o, n, ho, hc, _, hd⟩, _⟩ := I.list (SqL.of hs)
      obtain ⟨bs, hr, hb⟩ := Dx.readsAll I ds _ its _ ha rv
      refine ⟨_, Reads.list ho hc hd hr, fun b m => ?_⟩
      rcases List.mem_cons.mp m with rfl | m
      · exact List.mem_cons_self
      · exact List.mem_cons_of_mem _ (hb b m)
  | .tuple ds, _, _, _, h, r => by
    cases h with
    | tup hs ha =>
      cases r
      obtain ⟨its, rv, ⟨o, ho, hc, n, hd⟩, _⟩ := I.tuple (SqT.of hs)
      obtain ⟨bs, hr, hb⟩ := Dx.readsAll I ds _ its _ ha rv
      exact ⟨_, Reads.tuple ho hc hd hr, fun b m => List.mem_cons_of_mem _ (hb b m)⟩
  | .dict _, _, _, _, h, r => by
    cases h with
    | emp e =>
      cases r
      obtain ⟨_, _, vs, rel, o, es, ep, ho, ex, hd, _, pr, _⟩ := dk_of I.hok e
      cases rel
      have e0 : es.toList = [] := by
        cases q : es.toList with
        | nil => rfl
        | cons x y => rw [q] at pr; cases pr
      exact ⟨_, Reads.dict (as := []) (bs := []) ho ex.1 hd (by rw [e0]; exact .nil) (by rw [e0]; exact .nil), fun b m => m⟩
theorem Dx.readsAll (I : Inv X pins σ H s) : ∀ (ds : List PyData) (vs : List V) (us : List Value) (as : List Addr), DxAll H vs ds as → Vals vs us → ∃ bs, ReadsAll s.heap us ds bs ∧ ∀ b ∈ bs, b ∈ as
  | [], _, _, _, h, r => by
    cases h
    cases r
    exact ⟨_, ReadsAll.nil, fun _ z => z⟩
  | d :: ds, _, _, _, h, r => by
    cases h with
    | cons h1 h2 =>
      cases r with
      | cons r1 r2 =>
        obtain ⟨as, q1, m1⟩ := Dx.reads I d _ _ _ h1 r1
        obtain ⟨bs, q2, m2⟩ := Dx.readsAll I ds _ _ _ h2 r2
        refine ⟨_, ReadsAll.cons q1 q2, fun b m => ?_⟩
        rcases List.mem_append.mp m with m | m
        · exact List.mem_append_left _ (m1 b m)
        · exact List.mem_append_right _ (m2 b m)
end
end
/-! ### repr of such -/
/-- a value that can be shown, in at most L signs -/
def Fit (n L : Nat) (d : PyData) : Prop := d.showable = true ∧ d.depth ≤ n ∧ d.shown.length ≤ L
def rReprX : List V → Hp → VK → Prop := fun xs H Q =>
  ∃ (x : V) (d : PyData) (as : List Addr), xs = [x] ∧ Dx H x d as ∧ (d.hasDict = true → sysModules ∉ as) ∧ Fit 50 16000000 d ∧ Q (.str d.shown) H
section
variable {X : Cx}
theorem call_reprX (qt : Quiet X.A) (hu : X.A.units + 64 < cLine) : CallR X (.builtin "repr") rReprX := by
  intro pins s σ H xs us Q I r h
  obtain ⟨x, d, as, rfl, hd, hn, ⟨h1, h3, h4⟩, q⟩ := h
  obtain ⟨u, rfl, rx⟩ := vals1 r
  have hz : d.shown.length ≤ sizeLine := Nat.le_trans h4 (by decide)
  obtain ⟨bs, rd, hb⟩ := Dx.reads I d _ _ _ hd rx
  have atom : ∀ (a : Addr), u = .ref a → wpAny (model X.prog X.w) X.A (call (.builtin "repr") [u]) (EP X pins σ Q) X.xe s := fun a e => by
    subst e
    exact repr_of_reads' rd h1 (fun e m => hn e (hb _ m)) qt (by omega) (fun _ _ e => e)
      (fun h' u tk hk => ⟨.str d.shown, H, I.kept hk, ⟨u, rfl⟩, q⟩) hz
  cases hd with
  | non => cases rx; exact PySem.P.repr_of_none ⟨.str _, H, I.tok _, ⟨_, rfl⟩, q⟩
  | bl b => cases rx; exact PySem.P.repr_of_bool ⟨.str _, H, I.tok _, ⟨_, rfl⟩, by cases b <;> exact q⟩
  | int i =>
    obtain ⟨t, rfl⟩ := rx
    exact PySem.P.repr_of_int (of_decide_eq_true h1) ⟨.str _, H, I.tok _, ⟨_, rfl⟩, q⟩
  | str y =>
    obtain ⟨t, rfl⟩ := rx
    exact PySem.P.repr_of_str ⟨.str _, H, I.tok _, ⟨_, rfl⟩, q⟩ hz
  | lst _ _ => exact atom _ rx
  | tup _ _ => exact atom _ rx
  | emp _ => exact atom _ rx
end
/-! ### type(x), isinstance(x, T) -/
/-- the name of the type -/
def tyD : PyData → String
  | .none => "NoneType"
  | .bool _ => "bool"
  | .int _ => "int"
  | .str _ => "str"
  | .list _ => "list"
  | .tuple _ => "tuple"
  | .dict _ => "dict"
theorem Dx.tyX {K : PySem.W.Frag} {H : Hp} {v : V} {d : PyData} {as : List Addr} (h : Dx H v d as) : TyX K H v (.type (tyD d)) := by
  cases h with
  | non => exact .base .non
  | bl b => exact .base (.bl b)
  | int i => exact .base (.int i)
  | str x => exact .base (.str x)
  | lst e _ => exact .base (.lst e)
  | tup e _ => exact .base (.tup e)
  | emp e => exact .base (.dK e)
def rTyX : List V → Hp → VK → Prop := fun xs H Q => ∃ (x : V) (d : PyData) (as : List Addr), xs = [x] ∧ Dx H x d as ∧ Q (.ty (tyD d)) H
section
variable {X : Cx}
theorem call_typeX : CallR X (.type "type") rTyX := by
  intro pins s σ H xs us Q I r h
  obtain ⟨x, d, as, rfl, hd, q⟩ := h
  obtain ⟨u, rfl, rx⟩ := vals1 r
  have nb : ∀ d : PyData, (Value.type (tyD d) == Value.type "builtin_function_or_method") = false := fun d => by cases d <;> (simp only [tyD]; decide +kernel)
  have fin : s.TypeIs u (tyD d) → wpAny (model X.prog X.w) X.A (call (.type "type") [u]) (EP X pins σ Q) X.xe s :=
    fun h1 => call_type_of h1 (nb d) ⟨.ty _, H, I, rfl, q⟩
  cases hd with
  | non => cases rx; exact fin rfl
  | bl b => cases rx; exact fin rfl
  | int i => obtain ⟨t, rfl⟩ := rx; exact fin rfl
  | str y => obtain ⟨t, rfl⟩ := rx; exact fin rfl
  | lst e _ =>
    cases rx
    obtain ⟨its, rv, p, _⟩ := I.list (SqL.of e)
    exact fin p.isList.typeIs
  | tup e _ =>
    cases rx
    obtain ⟨its, rv, p, _⟩ := I.tuple (SqT.of e)
    exact fin p.typeIs
  | emp e =>
    cases rx
    obtain ⟨_, _, vs, rel, o, es, ep, ho, ex, _⟩ := dk_of I.hok e
    exact fin ⟨o, ho, ex.1⟩
/-- isinstance(x, T), T a built-in type -/
def rIsX : List V → Hp → VK → Prop := fun xs H Q => ∃ (x : V) (T : String) (d : PyData) (as : List Addr) (b : Bool), xs = [x, .ty T] ∧ Dx H x d as ∧ kitB (tyD d) T = some b ∧ Q (.bl b) H
theorem call_isX : CallR X (.builtin "isinstance") rIsX := by
  intro pins s σ H xs us Q I r h
  obtain ⟨x, T, d, as, b, rfl, hd, e, q⟩ := h
  exact call_isi pins s σ H _ us Q I r ⟨x, .ty T, _, _, b, rfl, .ty T, hd.tyX, kit_ty e, q⟩
theorem kit_int (d : PyData) : kitB (tyD d) "int" = some (match d with | .int _ => true | .bool _ => true | _ => false) := by
  cases d <;> (simp only [tyD]; decide +kernel)
theorem kit_bool (d : PyData) : kitB (tyD d) "bool" = some (match d with | .bool _ => true | _ => false) := by
  cases d <;> (simp only [tyD]; decide +kernel)
theorem kit_list (d : PyData) : kitB (tyD d) "list" = some (match d with | .list _ => true | _ => false) := by
  cases d <;> (simp only [tyD]; decide +kernel)
/-! ### new lists, known to stand apart from the module table -/
def tLstB (t : TA) : TE := fun σ H Q => t σ H fun xs H1 => xs.length ≤ sizeLine ∧ ∀ p, H1 p = none → p ≠ sysModules → Q (.ref p) (upd H1 p (.lst xs))
theorem pe_lstB {es : List Expr} {pos : Pos} {t : TA} (h : PA X es t) : PE X (.List es pos) (tLstB t) := by
  refine ⟨fun pins s σ H Q I hq => ?_⟩
  refine wpAny_List_spliced (thn (h.run pos pins s σ H _ I hq) fun us s1 ⟨xs, H1, I1, r, z, q⟩ => ⟨by rw [← r.length]; exact z, ?_⟩)
  have hf : H1 s1.heap.objs.size = none := I1.hok.fresh (Nat.le_refl _)
  refine ⟨.ref s1.heap.objs.size, upd H1 s1.heap.objs.size (.lst xs), I1.laid (t' := s1.toks) (fun b u e => Heap.get?_push_of_some _ e) (Nat.le_refl _) ?_, rfl, q _ hf (Nat.ne_of_gt I1.big)⟩
  exact ⟨z, us, 0, r, Heap.get?_push_size _ rfl⟩
def rCatB (K : PySem.W.Frag) : R2 := fun x y H Q => ∃ l b xs zs, x = .ref l ∧ y = .ref b ∧ SqL K H l xs ∧ SqL K H b zs ∧ xs.length + zs.length ≤ sizeLine ∧ ∀ p, H p = none → p ≠ sysModules → Q (.ref p) (upd H p (.lst (xs ++ zs)))
theorem op_catB : OpR X (binaryOp .Add) (rCatB X.K) := by
  intro pins s σ H x y v u Q I rx ry h
  obtain ⟨l, b, xs, zs, rfl, rfl, hx, hy, hz, q⟩ := h
  cases rx
  cases ry
  obtain ⟨its, r, ⟨o, n, ho, hc, hd, ht⟩, _⟩ := I.list hx
  obtain ⟨its2, r2, ⟨o2, n2, ho2, hc2, hd2, ht2⟩, _⟩ := I.list hy
  have e1 := r.length
  have e2 := r2.length
  obtain ⟨oc, od, dt, sl⟩ := o
  obtain ⟨oc2, od2, dt2, sl2⟩ := o2
  simp only at hc hd ht hc2 hd2 ht2
  subst hc hd ht hc2 hd2 ht2
  have ea : its.toArray ++ its2.toArray = (its ++ its2).toArray := by simp
  refine concat_meets ⟨_, ho, rfl⟩ ⟨_, ho2, rfl⟩ noFill_list_add seq_list_add PySem.F.slot_list_add PySem.F.entry_list_add
    (PySem.F.args_list_add_2 _ _) (list_addW l b its.toArray its2.toArray n n2 none none sl sl2 (by simp only [List.size_toArray]; omega)) ⟨ho, ho2, ?_⟩
  rw [ea]
  exact ⟨.ref _, _, I.lnew (t' := s.toks) (r.append r2) (by rw [List.length_append]; omega), rfl, q _ I.fresh (Nat.ne_of_gt I.big)⟩
end

def tDNewB : TE := fun _ H Q => ∀ p, H p = none → p ≠ sysModules → Q (.ref p) (upd H p (.dK []))
theorem pe_dnewB {X : Cx} {pos : Pos} : PE X (.Dict [] [] pos) tDNewB := ⟨fun pins s σ H Q I h =>
  wpAny_Dict_empty ⟨.ref s.heap.objs.size, _, I.laid (a := s.heap.objs.size) (o := .dK []) (t' := s.toks) (fun _ _ q => Heap.get?_push_of_some _ q) (Nat.le_refl _) (dk_empty s.heap I.big), rfl, h _ (I.hok.fresh (Nat.le_refl _)) (Nat.ne_of_gt I.big)⟩⟩
theorem atI_all {xs : List V} {p : V → Prop} (h : ∀ v ∈ xs, p v) {z : Int} (h0 : 0 ≤ z) (h1 : z < xs.length) : ∃ v, atI xs z = some v ∧ p v := by
  have e : z = ((z.toNat : Nat) : Int) := by omega
  have hl : z.toNat < xs.length := by omega
  refine ⟨xs[z.toNat], ?_, h _ (List.getElem_mem hl)⟩
  exact (congrArg (atI xs) e).trans (atI_nat (List.getElem?_eq_getElem hl))
theorem Fit.mono {n m L M : Nat} {d : PyData} (h : Fit n L d) (h1 : n ≤ m) (h2 : L ≤ M) : Fit m M d := ⟨h.1, Nat.le_trans h.2.1 h1, Nat.le_trans h.2.2 h2⟩
theorem small_log' {v : Int} (h : v.natAbs < 2 ^ 1900) : v.natAbs.log2 < 1920 := by
  by_cases e : v.natAbs = 0
  · rw [e]; decide
  · have := (Nat.log2_lt e).mpr h
    omega
theorem fit_int {v : Int} (h : v.natAbs < 2 ^ 1900) : Fit 0 1921 (.int v) := ⟨decide_eq_true (small_log' h), Nat.le_refl _, int_text_len_1921 (small_log' h)⟩
theorem fit_bool (b : Bool) : Fit 0 1921 (.bool b) := ⟨rfl, Nat.le_refl _, by cases b <;> decide⟩
theorem fit_none : Fit 0 1921 .none := ⟨rfl, Nat.le_refl _, by decide⟩
theorem fit_emp : Fit 1 1921 (.dict []) := ⟨rfl, by decide, by decide⟩
theorem fitAll {n L : Nat} : ∀ {ds : List PyData}, (∀ d ∈ ds, Fit n L d) → PyData.showableAll ds = true ∧ PyData.depthAll ds ≤ n ∧ ((PyData.shownAll ds).map (·.length)).sum ≤ L * ds.length ∧ (PyData.shownAll ds).length = ds.length
  | [], _ => ⟨rfl, Nat.zero_le _, Nat.le_refl _, rfl⟩
  | d :: r, h => by
    obtain ⟨a, b, c, e⟩ := fitAll (ds := r) fun v hv => h v (List.mem_cons_of_mem _ hv)
    obtain ⟨f1, f2, f3⟩ := h d List.mem_cons_self
    refine ⟨?_, ?_, ?_, ?_⟩
    · show (d.showable && PyData.showableAll r) = true
      rw [f1, a]; rfl
    · show max d.depth (PyData.depthAll r) ≤ n
      omega
    · show d.shown.length + ((PyData.shownAll r).map (·.length)).sum ≤ L * (r.length + 1)
      rw [Nat.mul_add]
      omega
    · show (PyData.shownAll r).length + 1 = r.length + 1
      omega
theorem fit_list {n L m : Nat} {ds : List PyData} (h : ∀ d ∈ ds, Fit n L d) (hl : ds.length ≤ m) : Fit (n + 1) (m * (L + 2) + 3) (.list ds) := by
  obtain ⟨a, b, c, e⟩ := fitAll h
  refine ⟨a, Nat.succ_le_succ b, ?_⟩
  show (listText (PyData.shownAll ds)).length ≤ _
  have := listText_len_le (PyData.shownAll ds)
  have h1 : L * ds.length + 2 * ds.length ≤ m * (L + 2) := by
    rw [← Nat.add_mul, Nat.mul_comm]
    exact Nat.mul_le_mul_right _ hl
  omega
theorem fit_tup {n L m : Nat} {ds : List PyData} (h : ∀ d ∈ ds, Fit n L d) (hl : ds.length ≤ m) : Fit (n + 1) (m * (L + 2) + 3) (.tuple ds) := by
  obtain ⟨a, b, c, e⟩ := fitAll h
  refine ⟨a, Nat.succ_le_succ b, ?_⟩
  show (tupleText (PyData.shownAll ds)).length ≤ _
  have := tupleText_len_le (PyData.shownAll ds)
  have h1 : L * ds.length + 2 * ds.length ≤ m * (L + 2) := by
    rw [← Nat.add_mul, Nat.mul_comm]
    exact Nat.mul_le_mul_right _ hl
  omega
theorem fit_ints {ns : List Int} (h : ∀ v ∈ ns, v.natAbs < 2 ^ 1900) : ∀ d ∈ ns.map PyData.int, Fit 0 1921 d := fun d hd => by
  obtain ⟨v, hv, rfl⟩ := List.mem_map.mp hd
  exact fit_int (h v hv)
theorem hasDict_app : ∀ xs ys : List PyData, PyData.hasDictAll (xs ++ ys) = (PyData.hasDictAll xs || PyData.hasDictAll ys)
  | [], _ => rfl
  | d :: r, ys => by
    show (d.hasDict || PyData.hasDictAll (r ++ ys)) = (d.hasDict || PyData.hasDictAll r || PyData.hasDictAll ys)
    rw [hasDict_app r ys, Bool.or_assoc]
end SH

namespace SH
open PySem PySem.Spec PyProof.Rows L2
def topS (i : Nat) : Stmt := PySem.Challenge.pw_stickyheads_k01_outlines_recognized.main.body.getD i (.Pass ⟨0, 0, 0, 0⟩)

/-! ### outlines as lists of ints -/
def okFrom : Int → List Int → Bool
  | _, [] => true
  | g, d :: r => decide (0 ≤ d) && decide (d ≤ g) && okFrom (d + 1) r
def isO (ns : List Int) : Bool := decide (1 ≤ ns.length) && decide (ns.length ≤ 200) && okFrom 0 ns
/-- the greatest depth that may stand at place i -/
def gAt (ns : List Int) : Nat → Int
  | 0 => 0
  | i + 1 => ns.getD i 0 + 1
theorem okFrom_drop {ns : List Int} {i : Nat} (h : i < ns.length) (g : Int) : okFrom g (ns.drop i) =
    (decide (0 ≤ ns.getD i 0) && decide (ns.getD i 0 ≤ g) && okFrom (ns.getD i 0 + 1) (ns.drop (i + 1))) := by
  rw [List.drop_eq_getElem_cons h, List.getD_eq_getElem?_getD, List.getElem?_eq_getElem h]
  rfl
theorem okFrom_at {ns : List Int} : ∀ {g : Int} {i : Nat}, okFrom g ns = true → i < ns.length →
    0 ≤ ns.getD i 0 ∧ (∀ j, i = j + 1 → ns.getD i 0 ≤ ns.getD j 0 + 1) ∧ (i = 0 → ns.getD i 0 ≤ g) := by
  induction ns with
  | nil => intro g i _ h; exact absurd h (Nat.not_lt_zero _)
  | cons d r ih =>
    intro g i h hi
    simp only [okFrom, Bool.and_eq_true, decide_eq_true_eq] at h
    cases i with
    | zero => exact ⟨h.1.1, fun j e => by omega, fun _ => h.1.2⟩
    | succ i =>
      have hi' : i < r.length := Nat.lt_of_succ_lt_succ hi
      obtain ⟨a, b, c⟩ := ih (i := i) h.2 hi'
      refine ⟨a, fun j e => ?_, fun e => by omega⟩
      obtain rfl : i = j := by omega
      cases i with
      | zero => exact c rfl
      | succ i => exact b i rfl
theorem okFrom_of {ns : List Int} : ∀ {g : Int}, (∀ i, i < ns.length → 0 ≤ ns.getD i 0 ∧ (∀ j, i = j + 1 → ns.getD i 0 ≤ ns.getD j 0 + 1) ∧ (i = 0 → ns.getD i 0 ≤ g)) → okFrom g ns = true := by
  induction ns with
  | nil => intro g _; rfl
  | cons d r ih =>
    intro g h
    simp only [okFrom, Bool.and_eq_true, decide_eq_true_eq]
    obtain ⟨a, _, c⟩ := h 0 (Nat.zero_lt_succ _)
    refine ⟨⟨a, c rfl⟩, ih fun i hi => ?_⟩
    obtain ⟨a', b', _⟩ := h (i + 1) (Nat.succ_lt_succ hi)
    refine ⟨a', fun j e => ?_, fun e => ?_⟩
    · subst e
      exact b' (j + 1) rfl
    · subst e
      exact b' 0 rfl
theorem isO_iff {ns : List Int} : isO ns = true ↔ 1 ≤ ns.length ∧ ns.length ≤ 200 ∧ okFrom 0 ns = true := by
  unfold isO
  rw [Bool.and_eq_true, Bool.and_eq_true, decide_eq_true_eq, decide_eq_true_eq, and_assoc]

abbrev s_is_integer_from : Stmt := topS 1
abbrev N_is_integer_from : List Str := ["value", "least"]
abbrev P_is_integer_from : List Str := ["value", "least"]
theorem sc_is_integer_from : FnScope N_is_integer_from P_is_integer_from (defScope s_is_integer_from) := ⟨rfl, rfl, rfl, by decide +kernel, rfl, by decide +kernel, by decide +kernel⟩
abbrev s_is_integer_within : Stmt := topS 2
abbrev N_is_integer_within : List Str := ["value", "least", "greatest"]
abbrev P_is_integer_within : List Str := ["value", "least", "greatest"]
theorem sc_is_integer_within : FnScope N_is_integer_within P_is_integer_within (defScope s_is_integer_within) := ⟨rfl, rfl, rfl, by decide +kernel, rfl, by decide +kernel, by decide +kernel⟩
abbrev s_is_outline : Stmt := topS 5
abbrev N_is_outline : List Str := ["value", "greatest", "depth"]
abbrev P_is_outline : List Str := ["value"]
theorem sc_is_outline : FnScope N_is_outline P_is_outline (defScope s_is_outline) := ⟨rfl, rfl, rfl, by decide +kernel, rfl, by decide +kernel, by decide +kernel⟩
/-! ### values of any kind: is it an int within bounds, is it an outline -/
def geD (d : PyData) (a : Int) : Bool := match d with | .int v => decide (a ≤ v) | _ => false
def inD (d : PyData) (a b : Int) : Bool := match d with | .int v => decide (a ≤ v) && decide (v ≤ b) | _ => false
def nextD (d : PyData) : Int := match d with | .int v => v + 1 | _ => 0
def okFromD : Int → List PyData → Bool
  | _, [] => true
  | g, d :: r => inD d 0 g && okFromD (nextD d) r
def isOD (d : PyData) : Bool := match d with | .list ds => decide (1 ≤ ds.length) && decide (ds.length ≤ 200) && okFromD 0 ds | _ => false
theorem okFromD_ints : ∀ (ns : List Int) (g : Int), okFromD g (ns.map PyData.int) = okFrom g ns
  | [], _ => rfl
  | n :: r, g => by
    show (inD (.int n) 0 g && okFromD (nextD (.int n)) (r.map PyData.int)) = _
    rw [okFromD_ints r]
    rfl
theorem isOD_dI (ns : List Int) : isOD (dI ns) = isO ns := by
  show (decide (1 ≤ (ns.map PyData.int).length) && decide ((ns.map PyData.int).length ≤ 200) && okFromD 0 (ns.map PyData.int)) = _
  rw [okFromD_ints, List.length_map]
  rfl
theorem inD_int {d : PyData} {a b : Int} (h : inD d a b = true) : ∃ v, d = .int v ∧ a ≤ v ∧ v ≤ b := by
  cases d with
  | int v =>
    have h' : (decide (a ≤ v) && decide (v ≤ b)) = true := h
    rw [Bool.and_eq_true, decide_eq_true_eq, decide_eq_true_eq] at h'
    exact ⟨v, rfl, h'.1, h'.2⟩
  | _ => exact absurd h Bool.false_ne_true
/-- the greatest depth that may stand at place i -/
def gD (ds : List PyData) : Nat → Int
  | 0 => 0
  | i + 1 => nextD (ds.getD i .none)
theorem okFromD_drop {ds : List PyData} {i : Nat} {d : PyData} (h : ds[i]? = some d) (g : Int) : okFromD g (ds.drop i) = (inD d 0 g && okFromD (nextD d) (ds.drop (i + 1))) := by
  obtain ⟨hl, e⟩ := List.getElem?_eq_some_iff.mp h
  rw [List.drop_eq_getElem_cons hl, e]
  rfl
theorem getD_of {ds : List PyData} {i : Nat} {d : PyData} (h : ds[i]? = some d) : ds.getD i .none = d := by
  rw [List.getD_eq_getElem?_getD, h]
  rfl
section
variable {P : Program} {w : World} {K : PySem.W.Frag} {mg : Str → Option Value} {base : Heap}
def sp_fromX : Sp := fun vs H Q _ => ∃ (x : V) (d : PyData) (as : List Addr) (a : Int), vs = [x, .int a] ∧ Dx H x d as ∧ Q (.bl (geD d a)) H
theorem ok_is_integer_from (T : Txt mg) (h : At K mg "is_integer_from" s_is_integer_from) :
    Has P w K mg base CX0 1 "is_integer_from" s_is_integer_from P_is_integer_from sp_fromX := by
  refine Has.of h sc_is_integer_from (fun vs H Q E h => ?_) (fun _ _ _ _ _ _ us hl => match us, hl with | [_, _], _ => rfl) (fun f cdv A outer s H vs Q E room qt h => ?_)
  · obtain ⟨v, d, as, a, rfl, _⟩ := h; rfl
  obtain ⟨x, d, as, a, rfl, hd, k⟩ := h
  refine ⟨_, (pss_one (ps_ret (pe_and (pe_callB call_isX (by rfl) T.isinstance (by decide +kernel) (pa_cons (pv 0) (pa_cons (pe_bltn (v := .ty "int") (u := .type "int") (by rfl) T.tint (by decide +kernel) rfl) pa_nil))) (pe_and (pe_not (pe_callB call_isX (by rfl) T.isinstance (by decide +kernel) (pa_cons (pv 0) (pa_cons (pe_bltn (v := .ty "bool") (u := .type "bool") (by rfl) T.bool (by decide +kernel) rfl) pa_nil)))) (pe_one (pe_cmpR op_ge (pv 0) (pv 1) (nomark _))))))), ?_⟩
  refine ⟨_, rfl, x, "int", d, as, _, rfl, hd, kit_int d, _, rfl, ?_⟩
  cases hd with
  | int v => exact iteT ⟨_, rfl, .int v, "bool", _, _, _, rfl, .int v, kit_bool _, _, rfl, _, rfl, iteT ⟨_, rfl, _, rfl, _, _, rfl, rfl, k⟩⟩
  | bl b => exact iteT ⟨_, rfl, .bl b, "bool", _, _, _, rfl, .bl b, kit_bool _, _, rfl, _, rfl, iteF k⟩
  | non => exact iteF k
  | str _ => exact iteF k
  | lst _ _ => exact iteF k
  | tup _ _ => exact iteF k
  | emp _ => exact iteF k
def sp_withinX : Sp := fun vs H Q _ => ∃ (x : V) (d : PyData) (as : List Addr) (a b : Int), vs = [x, .int a, .int b] ∧ Dx H x d as ∧ Q (.bl (inD d a b)) H
theorem ok_is_integer_within (T : Txt mg) (h : At K mg "is_integer_within" s_is_integer_within)
    (g_is_integer_from : Has P w K mg base CX0 1 "is_integer_from" s_is_integer_from P_is_integer_from sp_fromX) :
    Has P w K mg base CX0 2 "is_integer_within" s_is_integer_within P_is_integer_within sp_withinX := by
  refine Has.of h sc_is_integer_within (fun vs H Q E h => ?_) (fun _ _ _ _ _ _ us hl => match us, hl with | [_, _, _], _ => rfl) (fun f cdv A outer s H vs Q E room qt h => ?_)
  · obtain ⟨v, d, as, a, b, rfl, _⟩ := h; rfl
  obtain ⟨x, d, as, a, b, rfl, hd, k⟩ := h
  refine ⟨_, (pss_one (ps_ret (pe_and (pe_has g_is_integer_from (room.mono (by decide)) qt (by rfl) pass0 (pa_cons (pv 0) (pa_cons (pv 1) pa_nil))) (pe_one (pe_cmpR op_le (pv 0) (pv 2) (nomark _)))))), ?_⟩
  refine ⟨_, rfl, _, rfl, x, d, as, a, rfl, hd, _, rfl, ?_⟩
  cases hd with
  | int v =>
    show if decide (a ≤ v) = true then _ else _
    have k' : Q (.bl (decide (a ≤ v) && decide (v ≤ b))) H := k
    by_cases c : a ≤ v
    · rw [decide_eq_true c] at k' ⊢
      rw [Bool.true_and] at k'
      exact iteT ⟨_, rfl, _, rfl, _, _, rfl, rfl, k'⟩
    · rw [decide_eq_false c] at k' ⊢
      rw [Bool.false_and] at k'
      exact iteF k'
  | _ => exact iteF k
def sp_is_outlineX : Sp := fun vs H Q _ => ∃ (x : V) (d : PyData) (as : List Addr), vs = [x] ∧ Dx H x d as ∧ Q (.bl (isOD d)) H
theorem ok_is_outline {t : Tok} (T : Txt mg) (c_MOST_LINES : mg "MOST_LINES" = some (.int 200 t)) (h : At K mg "is_outline" s_is_outline)
    (g_is_integer_within : Has P w K mg base CX0 2 "is_integer_within" s_is_integer_within P_is_integer_within sp_withinX) :
    Has P w K mg base CX0 3 "is_outline" s_is_outline P_is_outline sp_is_outlineX := by
  refine Has.of h sc_is_outline (fun vs H Q E h => ?_) (fun _ _ _ _ _ _ us hl => match us, hl with | [_], _ => rfl) (fun f cdv A outer s H vs Q E room qt h => ?_)
  · obtain ⟨v, a, as, rfl, _⟩ := h; rfl
  obtain ⟨x, d, as, rfl, hd, k⟩ := h
  refine ⟨_, (pss_cons (ps_if (PW.pt (pw_or (pt_cmpR op_neTy (pe_callTy call_typeX (by rfl) T.ttype (by decide +kernel) (pa_cons (pv 0) pa_nil)) (pe_bltn (v := .ty "list") (u := .type "list") (by rfl) T.tlist (by decide +kernel) rfl) (nomark _)) (pw_or1 (pt_not (pt_chain op_le op_le pe_int (pe_callB call_len_seq (by rfl) T.len (by decide +kernel) (pa_cons (pv 0) pa_nil)) (pe_glob (v := .int 200) rfl c_MOST_LINES ⟨_, rfl⟩))))))
        (pss_one (ps_ret pe_bl))
        pss_nil)
      (pss_cons (ps_set (i := 1) sc_is_outline.nd rfl (Or.inl rfl) pe_int)
      (pss_cons (ps_for PassesOwn.never rfl (pi_list (pv 0)) (pg_name (i := 2) sc_is_outline.nd rfl (Or.inl rfl) (hf := Or.inl rfl))
        (pss_cons (ps_if (pt_not (pt_val (pe_has g_is_integer_within (room.mono (by decide)) qt (by rfl) pass0 (pa_cons (pv 2) (pa_cons pe_int (pa_cons (pv 1) pa_nil))))))
          (pss_one (ps_ret pe_bl))
          pss_nil)
        (pss_one (ps_set (i := 1) sc_is_outline.nd rfl (Or.inl rfl) (pe_op op_add (pv 2) pe_int)))))
      (pss_one (ps_ret pe_bl))))), ?_⟩
  refine ⟨_, rfl, x, d, as, rfl, hd, _, _, rfl, rfl, ?_⟩
  have other : tyD d ≠ "list" → isOD d = false := fun e => by
    cases d with
    | list ds => exact absurd rfl e
    | _ => rfl
  refine ⟨by cases d <;> (simp only [tyD]; decide), by decide, _, rfl, ite2 (fun c => ?_) (fun c => ?_)⟩
  · rw [other (of_decide_eq_true c)] at k
    exact k
  cases hd with
  | @lst a xs ds as ha hx =>
    have el := hx.len
    refine ⟨_, rfl, _, _, rfl, .inl (SqL.of ha), _, _, rfl, rfl, _, rfl, ?_⟩
    have no : isOD (.list ds) = false → Q (.bl false) H := fun e => by rw [← e]; exact k
    refine ite2 (fun c => ?_) (fun c => ?_)
    · have c1 := of_decide_eq_true c
      refine ⟨_, _, rfl, rfl, _, rfl, ite2 (fun d => ?_) (fun d => ?_)⟩
      · refine no ?_
        have d1 : ¬ ds.length ≤ 200 := fun z => by rw [decide_eq_true (by omega)] at d; cases d
        show (decide (1 ≤ ds.length) && decide (ds.length ≤ 200) && okFromD 0 ds) = false
        rw [decide_eq_false d1, Bool.and_false, Bool.false_and]
      · have d1 : ds.length ≤ 200 := by
          by_cases z : ds.length ≤ 200
          · exact z
          · exact (d (by rw [decide_eq_false (by omega)]; rfl)).elim
        have e0 : isOD (.list ds) = okFromD 0 ds := by
          show (decide (1 ≤ ds.length) && decide (ds.length ≤ 200) && okFromD 0 ds) = _
          rw [decide_eq_true (by omega), decide_eq_true d1, Bool.true_and, Bool.true_and]
        rw [e0] at k
        refine ⟨_, rfl, a, rfl, ⟨_, SqL.of ha⟩, for_list (K := K) (a := a) (xs := xs)
          (fun i σ H2 => H2 = H ∧ (∃ v, σ = [some (.ref a), some (.int (gD ds i)), v]) ∧ okFromD (gD ds i) (ds.drop i) = okFromD 0 ds)
          ⟨rfl, ⟨_, rfl⟩, rfl⟩ (fun i σ H2 _ q => by rw [q.1]; exact SqL.of ha) ?_ ?_⟩
        · rintro i x σ H2 hi ⟨rfl, ⟨v, rfl⟩, q⟩
          obtain ⟨e, bs, he, hxe⟩ := hx.at hi
          rw [okFromD_drop he] at q
          refine ⟨_, rfl, _, rfl, x, e, bs, _, _, rfl, hxe, _, rfl, ite2 (fun d => ?_) (fun d => ?_)⟩
          · rw [bnot_t d, Bool.false_and] at q
            rw [← q] at k
            exact k
          · have d' := bnot_f d
            rw [d', Bool.true_and] at q
            obtain ⟨v, rfl, _, _⟩ := inD_int d'
            cases hxe
            have eg : gD ds (i + 1) = v + 1 := by show nextD (ds.getD i .none) = _; rw [getD_of he]; rfl
            rw [eg]
            exact ⟨_, rfl, _, _, rfl, rfl, rfl, ⟨_, rfl⟩, q⟩
        · rintro σ H2 ⟨rfl, ⟨v, rfl⟩, q⟩
          rw [el, List.drop_length] at q
          rw [← q] at k
          exact k
    · refine ⟨_, rfl, iteT (no ?_)⟩
      have c1 : ¬ 1 ≤ ds.length := fun z => c (decide_eq_true (by omega))
      show (decide (1 ≤ ds.length) && decide (ds.length ≤ 200) && okFromD 0 ds) = false
      rw [decide_eq_false c1, Bool.false_and, Bool.false_and]
  | _ => exact absurd rfl c
end
theorem okFrom_snoc {ns : List Int} {d : Int} : ∀ {g : Int}, okFrom g ns = true → 0 ≤ d → (ns = [] → d ≤ g) → (ns ≠ [] → d ≤ ns.getD (ns.length - 1) 0 + 1) → okFrom g (ns ++ [d]) = true := by
  induction ns with
  | nil => intro g _ h0 h1 _; simp only [List.nil_append, okFrom, Bool.and_eq_true, decide_eq_true_eq, and_true]; exact ⟨h0, h1 rfl⟩
  | cons e r ih =>
    intro g h h0 _ h2
    simp only [okFrom, Bool.and_eq_true, decide_eq_true_eq, List.cons_append] at h ⊢
    refine ⟨h.1, ih h.2 h0 (fun er => ?_) fun er => ?_⟩
    · subst er
      exact h2 (by simp)
    · have := h2 (by simp)
      cases r with
      | nil => exact absurd rfl er
      | cons f r => exact this
theorem okFrom_le {ns : List Int} : ∀ {g : Int} {i : Nat}, okFrom g ns = true → i < ns.length → ns.getD i 0 ≤ g + i := by
  induction ns with
  | nil => intro g i _ h; exact absurd h (Nat.not_lt_zero _)
  | cons d r ih =>
    intro g i h hi
    simp only [okFrom, Bool.and_eq_true, decide_eq_true_eq] at h
    cases i with
    | zero => show d ≤ g + ((0 : Nat) : Int); omega
    | succ i =>
      have := ih (i := i) h.2 (Nat.lt_of_succ_lt_succ hi)
      show r.getD i 0 ≤ g + ((i + 1 : Nat) : Int)
      omega
/-! ### headings, top lines, views as lists of ints -/
/-- the headings found from line k on upwards, the next wanted depth being w -/
def headsL (ns : List Int) : Nat → Int → List Int
  | 0, _ => []
  | k + 1, w => if ns.getD k 0 = w then headsL ns k (w - 1) ++ [(k : Int)] else headsL ns k w
def headsOf (ns : List Int) (i : Nat) : List Int := headsL ns i (ns.getD i 0 - 1)
theorem headsL_len (ns : List Int) : ∀ (k : Nat) (w : Int), (headsL ns k w).length ≤ k
  | 0, _ => Nat.le_refl _
  | k + 1, w => by
    unfold headsL
    split
    · rw [List.length_append]
      exact Nat.succ_le_succ (headsL_len ns k _)
    · exact Nat.le_succ_of_le (headsL_len ns k _)
theorem headsL_mem {ns : List Int} : ∀ {k : Nat} {w v : Int}, v ∈ headsL ns k w → 0 ≤ v ∧ v < k
  | k + 1, w, v, h => by
    unfold headsL at h
    split at h
    · rcases List.mem_append.mp h with h | h
      · have := headsL_mem h; omega
      · have := List.mem_singleton.mp h; omega
    · have := headsL_mem h; omega
def stopAt (ns : List Int) (i : Nat) : Int := (i : Int) - ns.getD i 0
def lastStop (ns : List Int) : Int := stopAt ns (ns.length - 1)
/-- t is the top line at s -/
def IsTop (ns : List Int) (s : Int) (t : Nat) : Prop := t < ns.length ∧ s ≤ stopAt ns t ∧ ∀ j, j < t → stopAt ns j < s
theorem IsTop.uniq {ns : List Int} {s : Int} {t u : Nat} (a : IsTop ns s t) (b : IsTop ns s u) : t = u := by
  rcases Nat.lt_trichotomy t u with h | h | h
  · have := b.2.2 t h; have := a.2.1; omega
  · exact h
  · have := a.2.2 u h; have := b.2.1; omega
theorem top_ex {ns : List Int} {s : Int} : ∀ n, n < ns.length → s ≤ stopAt ns n → ∃ t, t ≤ n ∧ IsTop ns s t
  | 0, h, q => ⟨0, Nat.le_refl _, h, q, fun j hj => absurd hj (Nat.not_lt_zero _)⟩
  | n + 1, h, q => by
    by_cases e : ∃ j, j ≤ n ∧ s ≤ stopAt ns j
    · obtain ⟨j, hj, ej⟩ := e
      obtain ⟨t, ht, it⟩ := top_ex j (by omega) ej
      exact ⟨t, by omega, it⟩
    · refine ⟨n + 1, Nat.le_refl _, h, q, fun j hj => ?_⟩
      by_cases z : s ≤ stopAt ns j
      · exact (e ⟨j, by omega, z⟩).elim
      · omega
/-- slices of lists of ints -/
def cutI (l : List Int) (lo hi : Option Int) : List Int := (l.drop (HT.sIx l.length 0 lo)).take (HT.sIx l.length l.length hi - HT.sIx l.length 0 lo)
theorem cutV_iv (l : List Int) (lo hi : Option Int) : cutV (iv l) lo hi = iv (cutI l lo hi) := by
  unfold cutV cutI iv
  rw [List.map_take, List.map_drop, List.length_map]
theorem cutI_len (l : List Int) (lo hi : Option Int) : (cutI l lo hi).length ≤ l.length := by
  unfold cutI
  rw [List.length_take, List.length_drop]
  omega
theorem cutI_to (l : List Int) {n : Int} (h : 0 ≤ n) : cutI l none (some n) = l.take n.toNat := by
  unfold cutI
  have e : n = (n.toNat : Int) := by omega
  rw [e, HT.sIx_none, HT.sIx_nat, List.drop_zero, Nat.sub_zero, Int.toNat_natCast]
  rcases Nat.le_total n.toNat l.length with a | a
  · rw [Nat.min_eq_left a]
  · rw [Nat.min_eq_right a, List.take_length, List.take_of_length_le a]
/-- lo, lo + 1, .. below hi -/
def rg2 (lo hi : Int) : List Int := (List.range (hi - lo).toNat).map fun (i : Nat) => lo + (i : Int)
theorem rgV_rg2 (a b : Int) : rgV a b = iv (rg2 a b) := by
  unfold rgV rg2 iv
  rw [List.map_map]
  rfl
theorem rg2_len (a b : Int) : (rg2 a b).length = (b - a).toNat := by unfold rg2; rw [List.length_map, List.length_range]
def pushedL (ns : List Int) (t : Nat) (s : Int) : List Int := if stopAt ns t - s = 0 then [] else cutI (headsOf ns (t - 1)) (some (-(stopAt ns t - s))) none
def rowsL (ns : List Int) (s : Int) (t : Nat) : List Int := headsOf ns t ++ pushedL ns t s ++ rg2 t ns.length
def viewL (ns : List Int) (h s : Int) (t : Nat) : List Int := (rowsL ns s t).take h.toNat
theorem pushedL_len (ns : List Int) (t : Nat) (s : Int) : (pushedL ns t s).length ≤ t := by
  unfold pushedL
  split
  · exact Nat.zero_le _
  · exact Nat.le_trans (cutI_len _ _ _) (Nat.le_trans (headsL_len _ _ _) (Nat.sub_le _ _))
theorem stopAt_nn {ns : List Int} (h : okFrom 0 ns = true) {i : Nat} (hi : i < ns.length) : 0 ≤ stopAt ns i ∧ stopAt ns i ≤ i := by
  have a := okFrom_le h hi
  have b := (okFrom_at h hi).1
  unfold stopAt
  omega
theorem cutI_from (l : List Int) {n : Int} (h : 0 ≤ n) : cutI l (some n) none = l.drop n.toNat := by
  unfold cutI
  have e : n = (n.toNat : Int) := by omega
  rw [e, HT.sIx_none, HT.sIx_nat, Int.toNat_natCast]
  rcases Nat.le_total n.toNat l.length with a | a
  · rw [Nat.min_eq_left a, List.take_of_length_le (by rw [List.length_drop]; omega)]
  · rw [Nat.min_eq_right a, List.drop_eq_nil_of_le (Nat.le_refl _), List.drop_eq_nil_of_le a, List.take_nil]
theorem gives_filter (L : List Int) (p : Int → Bool) : gives L.length (fun i => p (L.getD i 0)) (fun i => V.int (L.getD i 0)) = iv (L.filter p) := by
  have key : ∀ n, n ≤ L.length → gives n (fun i => p (L.getD i 0)) (fun i => V.int (L.getD i 0)) = iv ((L.take n).filter p) := by
    intro n
    induction n with
    | zero => intro _; rfl
    | succ n ih =>
      intro hn
      have e : L[n]? = some (L.getD n 0) := by rw [List.getD_eq_getElem?_getD, List.getElem?_eq_getElem (by omega)]; rfl
      rw [gives_succ, ih (by omega), List.take_succ, e]
      generalize L.getD n 0 = x
      show (if p x = true then iv ((L.take n).filter p) ++ [V.int x] else iv ((L.take n).filter p)) = iv ((L.take n ++ [x]).filter p)
      rw [List.filter_append, List.filter_cons]
      by_cases c : p x = true
      · rw [if_pos c, if_pos c, iv_snoc]; rfl
      · rw [if_neg c, if_neg c]; simp
  have := key L.length (Nat.le_refl _)
  rwa [List.take_length] at this
end SH

namespace SH
open PySem PySem.Spec PyProof.Rows L2
abbrev s_law_source : Stmt := topS 7
abbrev N_law_source : List Str := ["cell", "k"]
abbrev P_law_source : List Str := ["cell", "k"]
theorem sc_law_source : FnScope N_law_source P_law_source (defScope s_law_source) := ⟨rfl, rfl, rfl, by decide +kernel, rfl, by decide +kernel, by decide +kernel⟩
abbrev s_law_draw : Stmt := topS 8
abbrev N_law_draw : List Str := ["source", "count", "digit", "mixed"]
abbrev P_law_draw : List Str := ["source", "count"]
theorem sc_law_draw : FnScope N_law_draw P_law_draw (defScope s_law_draw) := ⟨rfl, rfl, rfl, by decide +kernel, rfl, by decide +kernel, by decide +kernel⟩
abbrev s_law_depths : Stmt := topS 9
abbrev N_law_depths : List Str := ["source", "most", "style", "size", "found", "step", "last", "next_ones"]
abbrev P_law_depths : List Str := ["source", "most"]
theorem sc_law_depths : FnScope N_law_depths P_law_depths (defScope s_law_depths) := ⟨rfl, rfl, rfl, by decide +kernel, rfl, by decide +kernel, by decide +kernel⟩
section
variable {P : Program} {w : World} {K : PySem.W.Frag} {mg : Str → Option Value} {base : Heap}
/-! ### the generator: [digits, seed, count] -/
def sp_law_source : Sp := fun vs H Q _ => ∃ c k : Int, vs = [.int c, .int k] ∧ 0 ≤ k ∧ k ≤ 1000 ∧
  ∀ x y : Int, 0 ≤ y → y < 2 ^ 200 → NewL Q H [.int x, .int y, .int 0]
theorem pow37 : (10 : Int) ^ (37 : Int).toNat = 10000000000000000000000000000000000000 := by decide
theorem pow18 : (10 : Int) ^ (18 : Int).toNat = 1000000000000000000 := by decide
theorem pow36 : (10 : Int) ^ (36 : Int).toNat = 1000000000000000000000000000000000000 := by decide
theorem pow38 : (10 : Int) ^ (38 : Int).toNat = 100000000000000000000000000000000000000 := by decide
theorem ok_law_source (T : Txt mg) (h : At K mg "_law_source" s_law_source) :
    Has P w K mg base CX0 2 "_law_source" s_law_source P_law_source sp_law_source := by
  refine Has.of h sc_law_source (fun vs H Q E h => ?_) (fun _ _ _ _ _ _ us hl => match us, hl with | [_, _], _ => rfl) (fun f cdv A outer s H vs Q E room qt h => ?_)
  · obtain ⟨v, a, rfl, _⟩ := h; rfl
  obtain ⟨c, i, rfl, i0, i1, k⟩ := h
  refine ⟨_, (pss_one (ps_ret (pe_lst (pa_cons (pe_callB (call_max2 rfl) (by rfl) T.max (by decide +kernel) (pa_cons pe_int (pa_cons (pe_op op_sub (pv 0) (pe_op op_powG pe_int pe_int)) pa_nil))) (pa_cons (pe_op op_add (pe_op op_mul (pe_op op_mod (pv 0) (pe_op op_add (pe_op op_powG pe_int pe_int) pe_int)) pe_int) (pv 1)) (pa_cons pe_int pa_nil)))))), ?_⟩
  refine ⟨_, rfl, _, _, rfl, rfl, ten_ok (by decide) (by decide), _, _, rfl, rfl, _, _, rfl, ?_⟩
  refine ⟨_, rfl, _, _, rfl, rfl, ten_ok (by decide) (by decide), _, _, rfl, rfl, _, _, rfl, rfl, ?_, _, _, rfl, rfl, .inr ⟨by decide, by decide⟩, _, rfl, _, _, rfl, rfl, ?_⟩
  · show (0 : Int) < _
    rw [pow37]; decide
  refine ⟨(by decide : 3 ≤ sizeLine), fun p hp => k _ _ ?_ ?_ p hp⟩
  · rw [pow37]; omega
  · rw [pow37]; omega

/-- a draw from count: the list at a is changed, its seed stays, its count grows by one at most -/
def sp_law_draw : Sp := fun vs H Q _ => ∃ (a : Addr) (n x y z : Int), vs = [.ref a, .int n] ∧ H a = some (.lst [.int x, .int y, .int z]) ∧
  0 < n ∧ n < 1073741824 ∧ 0 ≤ y ∧ y < 2 ^ 200 ∧ 0 ≤ z ∧ z ≤ 1000000000 ∧
  ∀ r x' z' : Int, 0 ≤ r → r < n → z ≤ z' → z' ≤ z + 1 → Q (.int r) (upd H a (.lst [.int x', .int y, .int z']))
theorem ok_law_draw (T : Txt mg) (h : At K mg "_law_draw" s_law_draw) :
    Has P w K mg base CX0 2 "_law_draw" s_law_draw P_law_draw sp_law_draw := by
  refine Has.of h sc_law_draw (fun vs H Q E h => ?_) (fun _ _ _ _ _ _ us hl => match us, hl with | [_, _], _ => rfl) (fun f cdv A outer s H vs Q E room qt h => ?_)
  · obtain ⟨v, a, x, y, z, rfl, _⟩ := h; rfl
  obtain ⟨a, n, x, y, z, rfl, ha, n0, n1, y0, y1, z0, z1, k⟩ := h
  refine ⟨_, (pss_cons (ps_if (pt_cmpR op_gt (pe_ix ix_list (pv 0) pe_int (fun _ _ => rfl)) pe_int (nomark _))
        (pss_cons (ps_set (i := 2) sc_law_draw.nd rfl (Or.inl rfl) (pe_op op_mod (pe_ix ix_list (pv 0) pe_int (fun _ _ => rfl)) (pv 1)))
        (pss_cons (ps_asg (pe_op op_fdiv (pe_ix ix_list (pv 0) pe_int (fun _ _ => rfl)) (pv 1)) (pg_sub (pv 0) pe_int set_list))
        (pss_one (ps_ret (pv 2)))))
        pss_nil)
      (pss_cons (ps_asg (pe_op op_add (pe_ix ix_list (pv 0) pe_int (fun _ _ => rfl)) pe_int) (pg_sub (pv 0) pe_int set_list))
      (pss_cons (ps_set (i := 3) sc_law_draw.nd rfl (Or.inl rfl) (pe_op op_mod (pe_op op_powG (pe_op op_add (pe_ix ix_list (pv 0) pe_int (fun _ _ => rfl)) (pe_op op_mul pe_int (pe_ix ix_list (pv 0) pe_int (fun _ _ => rfl)))) pe_int) (pe_op op_add (pe_op op_powG pe_int pe_int) pe_int)))
      (pss_cons (ps_set (i := 3) sc_law_draw.nd rfl (Or.inl rfl) (pe_op op_mod (pe_op op_powG (pe_op op_add (pv 3) (pe_op op_mul pe_int (pe_ix ix_list (pv 0) pe_int (fun _ _ => rfl)))) pe_int) (pe_op op_add (pe_op op_powG pe_int pe_int) pe_int)))
      (pss_one (ps_ret (pe_op op_mod (pe_op op_fdiv (pv 3) pe_int) (pv 1)))))))), ?_⟩
  refine ⟨_, rfl, a, _, 0, _, rfl, rfl, SqL.of ha, rfl, _, _, rfl, rfl, _, rfl, ite2 (fun c => ?_) (fun c => ?_)⟩
  · refine ⟨_, rfl, a, _, 0, _, rfl, rfl, SqL.of ha, rfl, _, rfl, _, _, rfl, rfl, n0, ?_⟩
    refine ⟨_, rfl, a, _, 0, _, rfl, rfl, SqL.of ha, rfl, _, rfl, _, _, rfl, rfl, ⟨n0, n1⟩, _, rfl, a, _, 0, 0, rfl, rfl, ha, rfl, ?_⟩
    exact ⟨_, rfl, k _ _ _ (Int.emod_nonneg _ (by omega)) (Int.emod_lt_of_pos _ n0) (by omega) (by omega)⟩
  · refine ⟨_, rfl, a, _, 2, _, rfl, rfl, SqL.of ha, rfl, _, _, rfl, rfl, _, rfl, a, _, 2, 2, rfl, rfl, ha, rfl, ?_⟩
    -- mixed = (source[1] + 900236 * source[2]) ** 3 % (10 ** 36 + 67)
    have h2 : (upd H a (.lst [.int x, .int y, .int (z + 1)])) a = some (.lst [.int x, .int y, .int (z + 1)]) := upd_same
    refine ⟨_, rfl, a, _, 1, _, rfl, rfl, SqL.of h2, rfl, _, rfl, a, _, 2, _, rfl, rfl, SqL.of h2, rfl, _, _, rfl, rfl, .inl ⟨by decide, by decide⟩, _, _, rfl, rfl, _, _, rfl, rfl, ?_, ?_⟩
    · exact cube_ok (by omega)
    refine ⟨_, _, rfl, rfl, ten_ok (by decide) (by decide), _, _, rfl, rfl, _, _, rfl, rfl, ?_, ?_⟩
    · show (0 : Int) < _
      rw [pow36]; decide
    -- mixed = (mixed + 41 * source[2]) ** 3 % (10 ** 38 + 133)
    have e36 : 0 ≤ (y + 900236 * (z + 1)) ^ (3 : Int).toNat % (10 ^ (36 : Int).toNat + 67) ∧ (y + 900236 * (z + 1)) ^ (3 : Int).toNat % (10 ^ (36 : Int).toNat + 67) < 2 ^ 200 := by
      rw [pow36]; omega
    refine ⟨_, rfl, _, rfl, a, _, 2, _, rfl, rfl, SqL.of h2, rfl, _, _, rfl, rfl, .inl ⟨by decide, by decide⟩, _, _, rfl, rfl, _, _, rfl, rfl, ?_, ?_⟩
    · exact cube_ok (by omega)
    refine ⟨_, _, rfl, rfl, ten_ok (by decide) (by decide), _, _, rfl, rfl, _, _, rfl, rfl, ?_, ?_⟩
    · show (0 : Int) < _
      rw [pow38]; decide
    refine ⟨_, rfl, _, _, rfl, rfl, ⟨by decide, by decide⟩, _, rfl, _, _, rfl, rfl, n0, ?_⟩
    exact k _ _ _ (Int.emod_nonneg _ (by omega)) (Int.emod_lt_of_pos _ n0) (by omega) (by omega)
end
section
variable {P : Program} {w : World} {K : PySem.W.Frag} {mg : Str → Option Value} {base : Heap}
def sp_law_depths : Sp := fun vs H Q _ => ∃ (a : Addr) (m x y z : Int), vs = [.ref a, .int m] ∧ H a = some (.lst [.int x, .int y, .int z]) ∧
  1 ≤ m ∧ m ≤ 200 ∧ 0 ≤ y ∧ y < 2 ^ 200 ∧ 0 ≤ z ∧ z ≤ 100000000 ∧
  ∀ (ns : List Int) (x' z' : Int) (p : Addr) (H' : Hp), isO ns = true → (ns.length : Int) ≤ m → z ≤ z' → z' ≤ z + 1000 → H p = none → SameBut a H H' →
    H' a = some (.lst [.int x', .int y, .int z']) → H' p = some (.lst (iv ns)) → Q (.ref p) H'
theorem ok_law_depths (T : Txt mg) (h : At K mg "_law_depths" s_law_depths)
    (g_law_draw : Has P w K mg base CX0 2 "_law_draw" s_law_draw P_law_draw sp_law_draw) :
    Has P w K mg base CX0 3 "_law_depths" s_law_depths P_law_depths sp_law_depths := by
  refine Has.of h sc_law_depths (fun vs H Q E h => ?_) (fun _ _ _ _ _ _ us hl => match us, hl with | [_, _], _ => rfl) (fun f cdv A outer s H vs Q E room qt h => ?_)
  · obtain ⟨v, a, x, y, z, rfl, _⟩ := h; rfl
  obtain ⟨a, m, x, y, z, rfl, ha, m0, m1, y0, y1, z0, z1, k⟩ := h
  refine ⟨_, (pss_cons (ps_set (i := 2) sc_law_depths.nd rfl (Or.inl rfl) (pe_has g_law_draw (room.mono (by decide)) qt (by rfl) pass0 (pa_cons (pv 0) (pa_cons pe_int pa_nil))))
      (pss_cons (ps_set (i := 3) sc_law_depths.nd rfl (Or.inl rfl) (pe_op op_add pe_int (pe_ix ix_list (pe_lst (pa_cons (pe_has g_law_draw (room.mono (by decide)) qt (by rfl) pass0 (pa_cons (pv 0) (pa_cons (pv 1) pa_nil))) (pa_cons (pe_op op_sub (pv 1) pe_int) (pa_cons (pe_has g_law_draw (room.mono (by decide)) qt (by rfl) pass0 (pa_cons (pv 0) (pa_cons (pe_callB (call_min2 rfl) (by rfl) T.min (by decide +kernel) (pa_cons pe_int (pa_cons (pv 1) pa_nil))) pa_nil))) pa_nil)))) (pe_has g_law_draw (room.mono (by decide)) qt (by rfl) pass0 (pa_cons (pv 0) (pa_cons pe_int pa_nil))) (fun _ _ => rfl))))
      (pss_cons (ps_set (i := 4) sc_law_depths.nd rfl (Or.inl rfl) (pe_lst (pa_cons pe_int pa_nil)))
      (pss_cons (ps_for PassesOwn.never rfl (pi_range1 (by rfl) T.range (pa_cons (pe_op op_sub (pv 3) pe_int) pa_nil)) (pg_name (i := 5) sc_law_depths.nd rfl (Or.inl rfl) (hf := Or.inl rfl))
        (pss_cons (ps_set (i := 6) sc_law_depths.nd rfl (Or.inl rfl) (pe_ix ix_list (pv 4) (pe_un un_neg pe_int) (fun _ _ => rfl)))
        (pss_cons (ps_set (i := 7) sc_law_depths.nd rfl (Or.inl rfl) (pe_lst (pa_cons (pe_has g_law_draw (room.mono (by decide)) qt (by rfl) pass0 (pa_cons (pv 0) (pa_cons (pe_op op_add (pv 6) pe_int) pa_nil))) (pa_cons (pe_op op_add (pv 6) pe_int) (pa_cons pe_int (pa_cons (pe_callB (call_max2 rfl) (by rfl) T.max (by decide +kernel) (pa_cons pe_int (pa_cons (pe_op op_sub (pe_op op_add (pv 6) pe_int) (pe_has g_law_draw (room.mono (by decide)) qt (by rfl) pass0 (pa_cons (pv 0) (pa_cons pe_int pa_nil)))) pa_nil))) pa_nil))))))
        (pss_one (ps_expr (pe_bm PySem.F.plainAttrs_list PySem.F.slot_list_append PySem.F.type_list_append mt_append (pv 4) (pa_cons (pe_ix ix_list (pv 7) (pv 2) (fun _ _ => rfl)) pa_nil)))))))
      (pss_one (ps_ret (pv 4))))))), ?_⟩
  -- style = _law_draw(source, 4)
  refine ⟨_, rfl, a, 4, x, y, z, rfl, ha, by decide, by decide, y0, y1, z0, by omega, fun st x1 z1 s0 s1 u1 v1 => ?_⟩
  -- size = 1 + [.., .., ..][..]
  refine ⟨_, rfl, _, rfl, a, m, x1, y, z1, rfl, upd_same, by omega, by omega, y0, y1, by omega, by omega, fun d1 x2 z2 p1 q1 u2 v2 => ?_⟩
  refine ⟨_, rfl, _, _, rfl, rfl, _, rfl, _, rfl, _, _, rfl, a, _, x2, y, z2, rfl, upd_same, ?_, ?_, y0, y1, by omega, by omega, fun d3 x3 z3 p3 q3 u3 v3 => ?_⟩
  · split <;> omega
  · split <;> omega
  refine ⟨(by decide : 3 ≤ sizeLine), fun q hq => ?_⟩
  have na : a ≠ q := fun e => by subst e; rw [upd_same] at hq; cases hq
  -- [..][_law_draw(source, 3)]
  refine ⟨_, rfl, a, 3, x3, y, z3, rfl, (by rw [upd_ne na]; exact upd_same), by decide, by decide, y0, y1, by omega, by omega, fun j x4 z4 p4 q4 u4 v4 => ?_⟩
  refine ⟨q, iv [d1, m - 1, d3], j, _, rfl, rfl, SqL.of (by rw [upd_ne na.symm]; exact upd_same), atI_iv p4 (by exact q4), _, _, rfl, rfl, ?_⟩
  have hs : 0 ≤ [d1, m - 1, d3].getD j.toNat 0 ∧ [d1, m - 1, d3].getD j.toNat 0 < m := by
    refine getD_all (p := fun v => 0 ≤ v ∧ v < m) (fun v hv => ?_) p4 (by exact q4)
    simp only [List.mem_cons, List.not_mem_nil, or_false] at hv
    rcases hv with rfl | rfl | rfl
    · omega
    · omega
    · split at q3 <;> omega
  generalize [d1, m - 1, d3].getD j.toNat 0 = sz at hs ⊢
  -- found = [0]
  refine ⟨(by decide : 1 ≤ sizeLine), fun p hp => ?_⟩
  have nap : p ≠ a := fun e => by subst e; rw [upd_same] at hp; cases hp
  have hpH : H p = none := by
    rw [upd_ne nap] at hp
    by_cases e : p = q
    · subst e; rw [upd_same] at hp; cases hp
    · rwa [upd_ne e, upd_ne nap, upd_ne nap, upd_ne nap] at hp
  have hqH : H q = none := by rwa [upd_ne na.symm, upd_ne na.symm, upd_ne na.symm] at hq
  -- for step in range(size - 1)
  refine ⟨_, rfl, _, _, rfl, rfl, _, rfl, by omega, by omega, for_range (lo := 0) (n := (1 + sz - 1).toNat)
    (fun i σ H2 => (∃ v5 v6 v7, σ = [some (.ref a), some (.int m), some (.int st), some (.int (1 + sz)), some (.ref p), v5, v6, v7]) ∧
      ∃ (ns : List Int) (x' z' : Int), ns.length = i + 1 ∧ okFrom 0 ns = true ∧ z4 ≤ z' ∧ z' ≤ z4 + 2 * i ∧ SameBut a H H2 ∧
        H2 a = some (.lst [.int x', .int y, .int z']) ∧ H2 p = some (.lst (iv ns)))
    ⟨⟨_, _, _, rfl⟩, [0], x4, z4, rfl, rfl, by omega, by omega, ?_, ?_, upd_same⟩ ?_ ?_⟩
  · intro b o e n
    have nb : b ≠ p := ne_of_none e hpH
    have nq : b ≠ q := ne_of_none e hqH
    rw [upd_ne nb, upd_ne n, upd_ne nq, upd_ne n, upd_ne n, upd_ne n]
    exact e
  · rw [upd_ne nap.symm]; exact upd_same
  · rintro i σ H2 hi ⟨⟨v5, v6, v7, rfl⟩, ns, x', z', hl, hk, b1, b2, sb, h2a, h2p⟩
    have nn : ns ≠ [] := fun e => by subst e; cases hl
    have l0 := (okFrom_at hk (i := ns.length - 1) (by omega)).1
    have l1 := okFrom_le hk (i := ns.length - 1) (by omega)
    -- last = found[-1]
    refine ⟨_, rfl, _, rfl, p, iv ns, -1, _, rfl, rfl, SqL.of h2p, atI_iv_last nn, ?_⟩
    generalize hla : ns.getD (ns.length - 1) 0 = la at l0 l1 ⊢
    -- next_ones = [..]
    refine ⟨_, rfl, _, rfl, _, _, rfl, rfl, a, _, x', y, z', rfl, h2a, by omega, by omega, y0, y1, by omega, by omega, fun e1 x5 z5 p5 q5 u5 v5' => ?_⟩
    refine ⟨_, rfl, _, _, rfl, rfl, _, rfl, _, _, rfl, rfl, _, rfl, a, 3, x5, y, z5, rfl, upd_same, by decide, by decide, y0, y1, by omega, by omega, fun e4 x6 z6 p6 q6 u6 v6' => ?_⟩
    refine ⟨_, _, rfl, rfl, _, _, rfl, (by decide : 4 ≤ sizeLine), fun r hr => ?_⟩
    have nra : r ≠ a := fun e => by subst e; rw [upd_same] at hr; cases hr
    rw [upd_ne nra, upd_ne nra] at hr
    have nrp : p ≠ r := ne_of_none h2p hr
    -- found.append(next_ones[style])
    refine ⟨_, rfl, .inl ⟨rfl, iv ns, SqL.of (by rw [upd_ne nrp, upd_ne nap, upd_ne nap]; exact h2p)⟩, ?_⟩
    refine ⟨_, rfl, _, rfl, r, iv [e1, la + 1, 0, if la + 1 - e4 > 0 then la + 1 - e4 else 0], st, _, rfl, rfl, SqL.of upd_same, atI_iv s0 (by exact s1), ?_⟩
    have hd : 0 ≤ [e1, la + 1, 0, if la + 1 - e4 > 0 then la + 1 - e4 else 0].getD st.toNat 0 ∧ [e1, la + 1, 0, if la + 1 - e4 > 0 then la + 1 - e4 else 0].getD st.toNat 0 ≤ la + 1 := by
      refine getD_all (p := fun v => 0 ≤ v ∧ v ≤ la + 1) (fun v hv => ?_) s0 (by exact s1)
      simp only [List.mem_cons, List.not_mem_nil, or_false] at hv
      rcases hv with rfl | rfl | rfl | rfl
      · omega
      · omega
      · omega
      · split <;> omega
    generalize [e1, la + 1, 0, if la + 1 - e4 > 0 then la + 1 - e4 else 0].getD st.toNat 0 = d at hd ⊢
    refine ⟨p, iv ns, .int d, rfl, rfl, (by rw [upd_ne nrp, upd_ne nap, upd_ne nap]; exact h2p), small_line (by rw [List.length_map]; omega), ?_⟩
    refine ⟨⟨_, _, _, rfl⟩, ns ++ [d], x6, z6, by rw [List.length_append, hl]; rfl, okFrom_snoc hk hd.1 (fun e => (nn e).elim) (fun _ => by rw [hla]; exact hd.2), by omega, by omega, ?_, ?_, ?_⟩
    · intro b o e n
      have nb : b ≠ p := ne_of_none e hpH
      have nr : b ≠ r := ne_of_none (sb b o e n) hr
      rw [upd_ne nb, upd_ne nr, upd_ne n, upd_ne n]
      exact sb b o e n
    · rw [upd_ne nap.symm, upd_ne nra.symm]; exact upd_same
    · rw [iv_snoc]; exact upd_same
  · rintro σ H2 ⟨⟨v5, v6, v7, rfl⟩, ns, x', z', hl, hk, b1, b2, sb, h2a, h2p⟩
    refine ⟨_, rfl, k ns x' z' p H2 ?_ ?_ ?_ ?_ hpH sb h2a h2p⟩
    · exact isO_iff.mpr ⟨by omega, by omega, hk⟩
    all_goals omega
end
theorem isO_vals {ns : List Int} (h : isO ns = true) : ∀ v ∈ ns, v.natAbs < 2 ^ 64 := by
  obtain ⟨h1, h2, h3⟩ := isO_iff.mp h
  intro v hv
  obtain ⟨i, hi, rfl⟩ := List.getElem_of_mem hv
  have a := (okFrom_at h3 hi).1
  have b := okFrom_le h3 hi
  rw [List.getD_eq_getElem?_getD, List.getElem?_eq_getElem hi, Option.getD_some] at a b
  omega
theorem SameBut.own {a p : Addr} {H H' : Hp} {o : HO} (s : SameBut a H H') (h : H p = none) : SameBut a H (L2.upd H' p o) :=
  fun b u e n => by rw [upd_ne (ne_of_none e h)]; exact s b u e n
theorem SameBut.two {g d : Addr} {H H1 H2 : Hp} (b : SameBut g H H1) (c : SameBut d H1 H2) (h : H d = none) : SameBut g H H2 :=
  fun x o e n => c x o (b x o e n) (ne_of_none e h)
theorem SameBut.free {a p : Addr} {H H' : Hp} (s : SameBut a H H') (n : p ≠ a) (h : H' p = none) : H p = none := by
  cases e : H p with
  | none => rfl
  | some o => rw [s p o e n] at h; cases h
/-! ### the generator told by bounds -/
def SrcA (H : Hp) (a : Addr) (B : Int) : Prop := ∃ x y z : Int, H a = some (.lst [.int x, .int y, .int z]) ∧ 0 ≤ y ∧ y < 2 ^ 200 ∧ 0 ≤ z ∧ z ≤ B
theorem SrcA.new {H : Hp} {a p : Addr} {B : Int} {o : HO} (s : SrcA H a B) (h : H p = none) : SrcA (upd H p o) a B := by
  obtain ⟨x, y, z, e, q⟩ := s
  exact ⟨x, y, z, by rw [upd_ne (ne_of_none e h)]; exact e, q⟩
theorem SrcA.same {H H' : Hp} {a : Addr} {B : Int} (s : SrcA H a B) (h : Same H H') : SrcA H' a B := by
  obtain ⟨x, y, z, e, q⟩ := s
  exact ⟨x, y, z, h _ _ e, q⟩
theorem SrcA.ne {H : Hp} {a p : Addr} {B : Int} (s : SrcA H a B) (h : H p = none) : a ≠ p := by
  obtain ⟨x, y, z, e, q⟩ := s
  exact ne_of_none e h
theorem SrcA.le {H : Hp} {a : Addr} {B C : Int} (s : SrcA H a B) (h : B ≤ C) : SrcA H a C := by
  obtain ⟨x, y, z, e, y0, y1, z0, z1⟩ := s
  exact ⟨x, y, z, e, y0, y1, z0, by omega⟩
theorem SrcA.upd_ne {H : Hp} {a p : Addr} {B : Int} {o : HO} (s : SrcA H a B) (h : a ≠ p) : SrcA (upd H p o) a B := by
  obtain ⟨x, y, z, e, q⟩ := s
  exact ⟨x, y, z, by rw [L2.upd_ne h]; exact e, q⟩
section
variable {P : Program} {w : World} {K : PySem.W.Frag} {mg : Str → Option Value} {base : Heap}
theorem Has.imp {CX : CXT} {k : Nat} {x : Str} {st : Stmt} {ps : List Str} {sp sp' : Sp} (h : Has P w K mg base CX k x st ps sp) (i : ∀ vs H Q E, sp' vs H Q E → sp vs H Q E) :
    Has P w K mg base CX k x st ps sp' := by
  obtain ⟨f, fd, F, m, G, b⟩ := h
  exact ⟨f, fd, F, m, ⟨fun vs H Q E h => G.arity vs H Q E (i vs H Q E h), fun A outer s H args us vs Q E r q e bt v h => G.go A outer s H args us vs Q E r q e bt v (i vs H Q E h)⟩, b⟩
def sp_drawA : Sp := fun vs H Q _ => ∃ (a : Addr) (n B : Int), vs = [.ref a, .int n] ∧ SrcA H a B ∧ 0 < n ∧ n < 1073741824 ∧ B ≤ 1000000000 ∧
  ∀ r H', 0 ≤ r → r < n → SameBut a H H' → SrcA H' a (B + 1) → Q (.int r) H'
theorem draw_imp : ∀ vs H Q E, sp_drawA vs H Q E → sp_law_draw vs H Q E := by
  rintro vs H Q E ⟨a, n, B, rfl, ⟨x, y, z, e, y0, y1, z0, z1⟩, n0, n1, hB, k⟩
  exact ⟨a, n, x, y, z, rfl, e, n0, n1, y0, y1, z0, by omega, fun r x' z' r0 r1 h0 h1 => k r _ r0 r1 (SameBut.upd SameBut.refl) ⟨x', y, z', upd_same, y0, y1, by omega, by omega⟩⟩
def sp_depthsA : Sp := fun vs H Q _ => ∃ (a : Addr) (m B : Int), vs = [.ref a, .int m] ∧ SrcA H a B ∧ 1 ≤ m ∧ m ≤ 200 ∧ B ≤ 100000000 ∧
  ∀ (ns : List Int) (p : Addr) (H' : Hp), isO ns = true → (ns.length : Int) ≤ m → H p = none → SameBut a H H' → SrcA H' a (B + 1000) → H' p = some (.lst (iv ns)) → Q (.ref p) H'
theorem depths_imp : ∀ vs H Q E, sp_depthsA vs H Q E → sp_law_depths vs H Q E := by
  rintro vs H Q E ⟨a, m, B, rfl, ⟨x, y, z, e, y0, y1, z0, z1⟩, n0, n1, hB, k⟩
  exact ⟨a, m, x, y, z, rfl, e, n0, n1, y0, y1, z0, by omega, fun ns x' z' p H' ho hl h0 h1 hp b ha hpp => k ns p H' ho hl hp b ⟨x', y, z', ha, y0, y1, by omega, by omega⟩ hpp⟩
end
end SH

namespace SH
open PySem PySem.Spec PyProof.Rows L2
abbrev s_law_is_right : Stmt := topS 12
abbrev N_law_is_right : List Str := ["value", "k", "depth"]
abbrev P_law_is_right : List Str := ["value"]
theorem sc_law_is_right : FnScope N_law_is_right P_law_is_right (defScope s_law_is_right) := ⟨rfl, rfl, rfl, by decide +kernel, rfl, by decide +kernel, by decide +kernel⟩
theorem inD_out {d : PyData} {g : Int} (h : inD d 0 g = false) : (∃ v, d = .int v ∧ (v < 0 ∨ (0 ≤ v ∧ g < v))) ∨ (∀ v, d ≠ .int v) := by
  cases d with
  | int v =>
    have h' : (decide (0 ≤ v) && decide (v ≤ g)) = false := h
    rcases Int.lt_or_le v 0 with c | c
    · exact .inl ⟨v, rfl, .inl c⟩
    · rw [decide_eq_true c, Bool.true_and, decide_eq_false_iff_not] at h'
      exact .inl ⟨v, rfl, .inr ⟨c, by omega⟩⟩
  | _ => exact .inr fun v e => nomatch e
section
variable {P : Program} {w : World} {K : PySem.W.Frag} {mg : Str → Option Value} {base : Heap}
def sp_law_is_right : Sp := fun vs H Q _ => ∃ (x : V) (d : PyData) (as : List Addr), vs = [x] ∧ Dx H x d as ∧ RetV Q H (.bl (isOD d))
theorem ok_law_is_right (T : Txt mg) (h : At K mg "_law_is_right" s_law_is_right) :
    Has P w K mg base CX0 1 "_law_is_right" s_law_is_right P_law_is_right sp_law_is_right := by
  refine Has.of h sc_law_is_right (fun vs H Q E h => ?_) (fun _ _ _ _ _ _ us hl => match us, hl with | [_], _ => rfl) (fun f cdv A outer s H vs Q E room qt h => ?_)
  · obtain ⟨v, a, as, rfl, _⟩ := h; rfl
  obtain ⟨x, d, as, rfl, hd, k⟩ := h
  refine ⟨_, (pss_cons (ps_if (PW.pt (pw_or (pt_not (pt_val (pe_callB call_isX (by rfl) T.isinstance (by decide +kernel) (pa_cons (pv 0) (pa_cons (pe_bltn (v := .ty "list") (u := .type "list") (by rfl) T.tlist (by decide +kernel) rfl) pa_nil))))) (pw_or (pt_cmpR op_eq (pe_callB call_len_seq (by rfl) T.len (by decide +kernel) (pa_cons (pv 0) pa_nil)) pe_int (nomark _)) (pw_or1 (pt_cmpR op_gt (pe_callB call_len_seq (by rfl) T.len (by decide +kernel) (pa_cons (pv 0) pa_nil)) pe_int (nomark _))))))
        (pss_one (ps_ret pe_bl))
        pss_nil)
      (pss_cons (ps_for PassesOwn.never rfl (pi_enum (by rfl) T.enumerate (pa_cons (pv 0) pa_nil)) (pg_tup rfl (pgs_cons (pg_name (i := 1) sc_law_is_right.nd rfl (Or.inl rfl) (hf := Or.inl rfl)) (pgs_cons (pg_name (i := 2) sc_law_is_right.nd rfl (Or.inl rfl) (hf := Or.inl rfl)) pgs_nil)))
        (pss_cons (ps_if (PW.pt (pw_or (pt_not (pt_val (pe_callB call_isX (by rfl) T.isinstance (by decide +kernel) (pa_cons (pv 2) (pa_cons (pe_bltn (v := .ty "int") (u := .type "int") (by rfl) T.tint (by decide +kernel) rfl) pa_nil))))) (pw_or (pt_val (pe_callB call_isX (by rfl) T.isinstance (by decide +kernel) (pa_cons (pv 2) (pa_cons (pe_bltn (v := .ty "bool") (u := .type "bool") (by rfl) T.bool (by decide +kernel) rfl) pa_nil)))) (pw_or1 (pt_cmpR op_lt (pv 2) pe_int (nomark _))))))
          (pss_one (ps_ret pe_bl))
          pss_nil)
        (pss_one (ps_if (pt_cmpR op_gt (pv 2) (pe_ifExp (pt_cmpR op_eq (pv 1) pe_int (nomark _)) pe_int (pe_op op_add (pe_ix ix_list (pv 0) (pe_op op_sub (pv 1) pe_int) (fun _ _ => rfl)) pe_int)) (nomark _))
          (pss_one (ps_ret pe_bl))
          pss_nil))))
      (pss_one (ps_ret pe_bl)))), ?_⟩
  refine ⟨_, rfl, x, "list", d, as, _, rfl, hd, kit_list d, _, rfl, ?_⟩
  cases hd with
  | @lst a xs ds as ha hx =>
    have el := hx.len
    have no : isOD (.list ds) = false → Q (.bl false) H := fun e => by rw [← e]; exact k H (Same.refl _)
    refine iteF ⟨_, rfl, a, _, rfl, .inl (SqL.of ha), rfl, _, rfl, ite2 (fun c => ?_) (fun c => ?_)⟩
    · have c1 := V.int.inj (of_decide_eq_true c)
      refine no ?_
      show (decide (1 ≤ ds.length) && decide (ds.length ≤ 200) && okFromD 0 ds) = false
      rw [decide_eq_false (by omega), Bool.false_and, Bool.false_and]
    have c1 : xs.length ≠ 0 := fun z => c (decide_eq_true (congrArg V.int (by rw [z]; rfl)))
    refine ⟨_, rfl, a, _, rfl, .inl (SqL.of ha), _, _, rfl, rfl, _, rfl, ite2 (fun c2 => ?_) (fun c2 => ?_)⟩
    · have c3 := of_decide_eq_true c2
      refine no ?_
      show (decide (1 ≤ ds.length) && decide (ds.length ≤ 200) && okFromD 0 ds) = false
      rw [decide_eq_false (p := ds.length ≤ 200) (by omega), Bool.and_false, Bool.false_and]
    have c3 : ds.length ≤ 200 := by
      by_cases z : ds.length ≤ 200
      · exact z
      · exact (c2 (decide_eq_true (by omega))).elim
    have e0 : isOD (.list ds) = okFromD 0 ds := by
      show (decide (1 ≤ ds.length) && decide (ds.length ≤ 200) && okFromD 0 ds) = _
      rw [decide_eq_true (by omega), decide_eq_true c3, Bool.true_and, Bool.true_and]
    rw [e0] at k
    refine ⟨_, rfl, a, xs, rfl, SqL.of ha, ?_⟩
    refine for_enum (K := K) (a := a) (xs := xs) (fun i σ H4 => (∃ v1 v2, σ = [some (.ref a), v1, v2]) ∧ Same H H4 ∧ okFromD (gD ds i) (ds.drop i) = okFromD 0 ds ∧ (0 < i → ∃ v, ds[i - 1]? = some (.int v) ∧ xs[i - 1]? = some (.int v)))
      ⟨⟨_, _, rfl⟩, Same.refl _, rfl, fun z => absurd z (Nat.lt_irrefl _)⟩ (fun i σ H4 _ q => SqL.of (q.2.1 _ _ ha)) ?_ ?_
    · rintro i x Tt σ H4 hi ⟨⟨v1, v2, rfl⟩, s4, q, pr⟩ hT
      obtain ⟨e, bs, he, hxe⟩ := hx.at hi
      have il : i < xs.length := (List.getElem?_eq_some_iff.mp hi).1
      rw [okFromD_drop he] at q
      have sT : Same H (upd H4 Tt (.tup [.int i, x])) := s4.trans (Same.new hT)
      refine ⟨Tt, _, rfl, SqT.of upd_same, rfl, _, _, rfl, _, _, rfl, rfl, ?_⟩
      generalize upd H4 Tt (.tup [.int i, x]) = H5 at sT ⊢
      have hx5 := hxe.same sT
      have out : inD e 0 (gD ds i) = false → Q (.bl false) H5 := fun z => by
        rw [z, Bool.false_and] at q
        rw [← q] at k
        exact k H5 sT
      refine ⟨_, rfl, x, "int", e, bs, _, rfl, hx5, kit_int e, _, rfl, ?_⟩
      cases e with
      | int v =>
        cases hx5
        refine iteF ⟨_, rfl, .int v, "bool", .int v, [], _, rfl, .int v, kit_bool _, _, rfl, iteF ⟨_, rfl, _, _, rfl, rfl, _, rfl, ite2 (fun c => ?_) (fun c => ?_)⟩⟩
        · have c4 := of_decide_eq_true c
          refine out ?_
          show (decide (0 ≤ v) && decide (v ≤ gD ds i)) = false
          rw [decide_eq_false (by omega), Bool.false_and]
        have c4 : 0 ≤ v := by
          by_cases z : 0 ≤ v
          · exact z
          · exact (c (decide_eq_true (by omega))).elim
        have fin : (if decide (gD ds i < v) = true then Q (.bl false) H5 else (∃ v1 v2 : Option V, [some (V.ref a), some (.int i), some (.int v)] = [some (.ref a), v1, v2]) ∧ Same H H5 ∧ okFromD (gD ds (i + 1)) (ds.drop (i + 1)) = okFromD 0 ds ∧ (0 < i + 1 → ∃ v, ds[i + 1 - 1]? = some (.int v) ∧ xs[i + 1 - 1]? = some (.int v))) := by
          refine ite2 (fun c => ?_) (fun c => ?_)
          · have c5 := of_decide_eq_true c
            refine out ?_
            show (decide (0 ≤ v) && decide (v ≤ gD ds i)) = false
            rw [decide_eq_false (p := v ≤ _) (by omega), Bool.and_false]
          · have c5 : v ≤ gD ds i := by
              by_cases z : v ≤ gD ds i
              · exact z
              · exact (c (decide_eq_true (by omega))).elim
            have eg : gD ds (i + 1) = v + 1 := by show nextD (ds.getD i .none) = _; rw [getD_of he]; rfl
            have en : inD (.int v) 0 (gD ds i) = true := by
              show (decide (0 ≤ v) && decide (v ≤ gD ds i)) = true
              rw [decide_eq_true c4, decide_eq_true c5]; rfl
            rw [en, Bool.true_and] at q
            exact ⟨⟨_, _, rfl⟩, sT, by rw [eg]; exact q, fun _ => ⟨v, he, by cases hxe; exact hi⟩⟩
        refine ⟨_, rfl, _, rfl, rfl, _, rfl, ite2 (fun c => ?_) (fun c => ?_)⟩
        · have c5 := V.int.inj (of_decide_eq_true c)
          have i0 : i = 0 := by omega
          subst i0
          exact ⟨_, _, rfl, rfl, _, rfl, fin⟩
        · have i0 : i ≠ 0 := fun z => c (decide_eq_true (congrArg V.int (by rw [z]; rfl)))
          obtain ⟨u, hu1, hu2⟩ := pr (by omega)
          have eg : gD ds i = u + 1 := by
            obtain ⟨j, rfl⟩ : ∃ j, i = j + 1 := ⟨i - 1, by omega⟩
            show nextD (ds.getD j .none) = _
            rw [getD_of (show ds[j]? = _ from hu1)]; rfl
          rw [eg] at fin
          refine ⟨_, rfl, _, rfl, _, _, rfl, rfl, a, xs, _, _, rfl, rfl, SqL.of (sT _ _ ha), (by rw [show ((i : Int) - 1) = ((i - 1 : Nat) : Int) by omega]; exact atI_nat hu2), _, _, rfl, rfl, _, _, rfl, rfl, _, rfl, fin⟩
      | bool b =>
        cases hx5
        exact iteF ⟨_, rfl, .bl b, "bool", .bool b, [], _, rfl, .bl b, kit_bool _, _, rfl, iteT (out rfl)⟩
      | _ => exact iteT (out rfl)
    · rintro σ H4 ⟨⟨v1, v2, rfl⟩, s4, q, pr⟩
      rw [el, List.drop_length] at q
      rw [← q] at k
      exact k H4 s4
  | _ => exact iteT (k H (Same.refl _))
end
end SH

namespace SH
open PySem PySem.Spec PyProof.Rows L2
abbrev s_law_checked : Stmt := topS 13
abbrev N_law_checked : List Str := ["value", "before", "result"]
abbrev P_law_checked : List Str := ["value"]
theorem sc_law_checked : FnScope N_law_checked P_law_checked (defScope s_law_checked) := ⟨rfl, rfl, rfl, by decide +kernel, rfl, by decide +kernel, by decide +kernel⟩
section
variable {P : Program} {w : World} {K : PySem.W.Frag} {mg : Str → Option Value} {base : Heap}
/-- a value that the law may ask for -/
def Askable (H : Hp) (x : V) (d : PyData) : Prop := ∃ as, Dx H x d as ∧ (d.hasDict = true → sysModules ∉ as) ∧ Fit 50 16000000 d
def sp_law_checked : Sp := fun vs H Q _ => ∃ (x : V) (d : PyData), vs = [x] ∧ Askable H x d ∧ RetV Q H (.bl true)
theorem ok_law_checked (T : Txt mg) (h : At K mg "_law_checked" s_law_checked)
    (g_is_outline : Has P w K mg base CX0 3 "is_outline" s_is_outline P_is_outline sp_is_outlineX)
    (g_law_is_right : Has P w K mg base CX0 1 "_law_is_right" s_law_is_right P_law_is_right sp_law_is_right) :
    Has P w K mg base CX0 4 "_law_checked" s_law_checked P_law_checked sp_law_checked := by
  refine Has.of h sc_law_checked (fun vs H Q E h => ?_) (fun _ _ _ _ _ _ us hl => match us, hl with | [_], _ => rfl) (fun f cdv A outer s H vs Q E room qt h => ?_)
  · obtain ⟨x, d, rfl, _⟩ := h; rfl
  obtain ⟨x, d, rfl, ⟨as, hd, hn, hf⟩, k⟩ := h
  refine ⟨_, (pss_cons (ps_set (i := 1) sc_law_checked.nd rfl (Or.inl rfl) (pe_callB (call_reprX qt room.units) (by rfl) T.repr (by decide +kernel) (pa_cons (pv 0) pa_nil)))
      (pss_cons (ps_set (i := 2) sc_law_checked.nd rfl (Or.inl rfl) (pe_has g_is_outline (room.mono (by decide)) qt (by rfl) pass0 (pa_cons (pv 0) pa_nil)))
      (pss_one (ps_ret (pe_and (pe_callB call_isX (by rfl) T.isinstance (by decide +kernel) (pa_cons (pv 2) (pa_cons (pe_bltn (v := .ty "bool") (u := .type "bool") (by rfl) T.bool (by decide +kernel) rfl) pa_nil))) (pe_and (pe_cmpR op_eq (pv 2) (pe_has g_law_is_right (room.mono (by decide)) qt (by rfl) pass0 (pa_cons (pv 0) pa_nil)) (nomark _)) (pe_one (pe_cmpR op_eq (pe_callB (call_reprX qt room.units) (by rfl) T.repr (by decide +kernel) (pa_cons (pv 0) pa_nil)) (pv 1) (nomark _))))))))), ?_⟩
  refine ⟨_, rfl, x, d, as, rfl, hd, hn, hf, _, rfl, x, d, as, rfl, hd, ?_⟩
  refine ⟨_, rfl, .bl (isOD d), "bool", .bool (isOD d), [], _, rfl, .bl _, kit_bool _, _, rfl, iteT ?_⟩
  refine ⟨_, rfl, _, rfl, x, d, as, rfl, hd, fun H2 s2 => ⟨rfl, _, rfl, ?_⟩⟩
  rw [decide_eq_true (rfl : V.bl (isOD d) = V.bl (isOD d))]
  exact iteT ⟨_, rfl, x, d, as, rfl, hd.same s2, hn, hf, _, rfl, rfl, by rw [decide_eq_true (rfl : V.str d.shown = V.str d.shown)]; exact k H2 s2⟩
end
end SH

namespace SH
open PySem PySem.Spec PyProof.Rows L2
abbrev s_law_bad_depths : Stmt := topS 11
abbrev N_law_bad_depths : List Str := ["source", "depths", "at", "before", "odd", "some"]
abbrev P_law_bad_depths : List Str := ["source", "depths"]
theorem sc_law_bad_depths : FnScope N_law_bad_depths P_law_bad_depths (defScope s_law_bad_depths) := ⟨rfl, rfl, rfl, by decide +kernel, rfl, by decide +kernel, by decide +kernel⟩
/-- the state while values are made: the pool at g, the depths at a -/
structure Stg (H H' : Hp) (g a : Addr) (ns : List Int) (B : Int) : Prop where
  b : SameBut g H H'
  g : SrcA H' g B
  a : H' a = some (.lst (iv ns))
theorem Stg.new {H H' : Hp} {g a p : Addr} {ns : List Int} {B : Int} {o : HO} (s : Stg H H' g a ns B) (h : H' p = none) : Stg H (upd H' p o) g a ns B :=
  ⟨s.b.new h, s.g.new h, Same.new h _ _ s.a⟩
theorem Stg.draw {H H' H2 : Hp} {g a : Addr} {ns : List Int} {B C : Int} (s : Stg H H' g a ns B) (n : a ≠ g) (b : SameBut g H' H2) (h : SrcA H2 g C) : Stg H H2 g a ns C :=
  ⟨s.b.trans b, h, b _ _ s.a n⟩
theorem Stg.ng {H H' : Hp} {g a p : Addr} {ns : List Int} {B : Int} (s : Stg H H' g a ns B) (h : H' p = none) : p ≠ g := (s.g.ne h).symm
theorem getD_snoc (ns : List Int) (x : Int) : (ns ++ [x]).getD ns.length 0 = x := by
  rw [List.getD_eq_getElem?_getD, List.getElem?_append_right (Nat.le_refl _), Nat.sub_self]
  rfl
theorem getD_app {ns ms : List Int} {i : Nat} (h : i < ns.length) : (ns ++ ms).getD i 0 = ns.getD i 0 := by
  rw [List.getD_eq_getElem?_getD, List.getElem?_append_left h, List.getD_eq_getElem?_getD]
theorem lt1900 {n : Nat} (h : n < 2 ^ 128) : n < 2 ^ 1900 := Nat.lt_of_lt_of_le h (Nat.pow_le_pow_right (by decide) (by decide))
theorem iv_app (xs ys : List Int) : iv xs ++ iv ys = iv (xs ++ ys) := (List.map_append).symm
theorem okFromD_all {ds : List PyData} (h : okFromD 0 ds = true) : ∀ i, i ≤ ds.length → okFromD (gD ds i) (ds.drop i) = true
  | 0, _ => h
  | i + 1, hi => by
    have e : ds[i]? = some (ds.getD i .none) := by rw [List.getD_eq_getElem?_getD, List.getElem?_eq_getElem (by omega)]; rfl
    have := okFromD_all h i (by omega)
    rw [okFromD_drop e, Bool.and_eq_true] at this
    exact this.2
theorem okFromD_at {ds : List PyData} (h : okFromD 0 ds = true) {i : Nat} {d : PyData} (e : ds[i]? = some d) : inD d 0 (gD ds i) = true := by
  have hl := (List.getElem?_eq_some_iff.mp e).1
  have := okFromD_all h i (by omega)
  rw [okFromD_drop e, Bool.and_eq_true] at this
  exact this.1
/-- an outline with one place that does not fit -/
theorem wrong_at {ns : List Int} {t : Nat} {d : PyData} {be : Int} (tl : t < ns.length) (hbe : be + 1 = gAt ns t) (hd : ∀ v, d = .int v → v < 0 ∨ be + 1 < v) :
    isOD (.list ((ns.take t).map PyData.int ++ [d] ++ (ns.drop (t + 1)).map PyData.int)) = false := by
  have lt : ((ns.take t).map PyData.int).length = t := by rw [List.length_map, List.length_take]; omega
  have e : ((ns.take t).map PyData.int ++ [d] ++ (ns.drop (t + 1)).map PyData.int)[t]? = some d := by
    rw [List.append_assoc, List.getElem?_append_right (by omega), lt, Nat.sub_self]
    rfl
  have eg : gD ((ns.take t).map PyData.int ++ [d] ++ (ns.drop (t + 1)).map PyData.int) t = be + 1 := by
    rw [hbe]
    cases t with
    | zero => rfl
    | succ j =>
      show nextD (List.getD _ j .none) = ns.getD j 0 + 1
      have : ((ns.take (j + 1)).map PyData.int ++ [d] ++ (ns.drop (j + 1 + 1)).map PyData.int)[j]? = some (.int (ns.getD j 0)) := by
        rw [List.append_assoc, List.getElem?_append_left (by omega), List.getElem?_map, List.getElem?_take_of_lt (by omega), List.getElem?_eq_getElem (by omega), List.getD_eq_getElem?_getD, List.getElem?_eq_getElem (by omega)]
        rfl
      rw [getD_of this]
      rfl
  cases c : isOD (.list ((ns.take t).map PyData.int ++ [d] ++ (ns.drop (t + 1)).map PyData.int)) with
  | false => rfl
  | true =>
    have c1 : (decide (1 ≤ _) && decide (_ ≤ 200) && okFromD 0 ((ns.take t).map PyData.int ++ [d] ++ (ns.drop (t + 1)).map PyData.int)) = true := c
    rw [Bool.and_eq_true] at c1
    have c2 := okFromD_at c1.2 e
    rw [eg] at c2
    obtain ⟨v, rfl, v0, v1⟩ := inD_int c2
    rcases hd v rfl with z | z <;> omega
section
variable {P : Program} {w : World} {K : PySem.W.Frag} {mg : Str → Option Value} {base : Heap}
/-- a value that is no depth after `be` -/
def OddV (H : Hp) (g : Addr) (be : Int) (x : V) : Prop := ∃ d as, Dx H x d as ∧ (∀ v, d = .int v → v < 0 ∨ be + 1 < v) ∧ Fit 1 1926 d ∧ (d.hasDict = true → sysModules ∉ as) ∧ g ∉ as
def WrongV (H : Hp) (x : V) : Prop := ∃ d as, Dx H x d as ∧ isOD d = false ∧ Fit 50 16000000 d ∧ (d.hasDict = true → sysModules ∉ as)
def WrongG (H : Hp) (g : Addr) (x : V) : Prop := ∃ d as, Dx H x d as ∧ isOD d = false ∧ Fit 50 16000000 d ∧ (d.hasDict = true → sysModules ∉ as) ∧ g ∉ as
theorem WrongG.same {H H' : Hp} {g : Addr} {x : V} (h : WrongG H g x) (s : Same H H') : WrongG H' g x := by
  obtain ⟨d, as, a, b⟩ := h
  exact ⟨d, as, a.same s, b⟩
theorem WrongG.but {H H' : Hp} {g : Addr} {x : V} (h : WrongG H g x) (s : SameBut g H H') : WrongG H' g x := by
  obtain ⟨d, as, a, b, c, e, f⟩ := h
  exact ⟨d, as, a.but s f, b, c, e, f⟩
theorem WrongG.ints {H : Hp} {g p : Addr} {ms : List Int} (e : H p = some (.lst (iv ms))) (n : p ≠ g) (h : isO ms = false) (l : ms.length ≤ 1000) (b : ∀ v ∈ ms, v.natAbs < 2 ^ 128) : WrongG H g (.ref p) :=
  ⟨_, _, dx_dI e, by rw [isOD_dI]; exact h, (fit_list (fit_ints fun v hv => lt1900 (b v hv)) (by rw [List.length_map]; exact l)).mono (by decide) (by decide), (fun z => by
    have z' : PyData.hasDictAll (ms.map PyData.int) = true := z
    rw [dict_ints] at z'; cases z'), fun z => n (List.mem_singleton.mp z).symm⟩
def WL (H : Hp) (g : Addr) (L : List V) : Prop := ∀ x ∈ L, WrongG H g x
theorem WL.same {H H' : Hp} {g : Addr} {L : List V} (h : WL H g L) (s : Same H H') : WL H' g L := fun x hx => (h x hx).same s
theorem WL.snoc {H : Hp} {g : Addr} {L : List V} {x : V} (h : WL H g L) (w : WrongG H g x) : WL H g (L ++ [x]) := fun y hy => by
  rcases List.mem_append.mp hy with hy | hy
  · exact h y hy
  · rw [List.mem_singleton.mp hy]; exact w
theorem noD {d : PyData} {as : List Addr} (h : d.hasDict = false) : d.hasDict = true → sysModules ∉ as := fun h' => by rw [h] at h'; cases h'
def sp_law_bad_depths : Sp := fun vs H Q _ => ∃ (g a : Addr) (ns : List Int) (B : Int), vs = [.ref g, .ref a] ∧ SrcA H g B ∧ B ≤ 200000000 ∧ a ≠ g ∧ H a = some (.lst (iv ns)) ∧ isO ns = true ∧
  ∀ (x : V) (H' : Hp), SameBut g H H' → SrcA H' g (B + 3) → WrongV H' x → Q x H'
theorem ok_law_bad_depths (T : Txt mg) (h : At K mg "_law_bad_depths" s_law_bad_depths)
    (g_law_draw : Has P w K mg base CX0 2 "_law_draw" s_law_draw P_law_draw sp_drawA) :
    Has P w K mg base CX0 3 "_law_bad_depths" s_law_bad_depths P_law_bad_depths sp_law_bad_depths := by
  refine Has.of h sc_law_bad_depths (fun vs H Q E h => ?_) (fun _ _ _ _ _ _ us hl => match us, hl with | [_, _], _ => rfl) (fun f cdv A outer s H vs Q E room qt h => ?_)
  · obtain ⟨v, a, n, B, rfl, _⟩ := h; rfl
  obtain ⟨g, a, ns, B, rfl, hg, hB, nag, ha, ho, k⟩ := h
  obtain ⟨l1, l2, hk⟩ := isO_iff.mp ho
  have el : (iv ns).length = ns.length := List.length_map _
  refine ⟨_, (pss_cons (ps_set (i := 2) sc_law_bad_depths.nd rfl (Or.inl rfl) (pe_has g_law_draw (room.mono (by decide)) qt (by rfl) pass0 (pa_cons (pv 0) (pa_cons (pe_callB call_len_seq (by rfl) T.len (by decide +kernel) (pa_cons (pv 1) pa_nil)) pa_nil))))
      (pss_cons (ps_set (i := 3) sc_law_bad_depths.nd rfl (Or.inl rfl) (pe_ix ix_list (pe_op op_catB (pe_lstB (pa_cons (pe_un un_neg pe_int) pa_nil)) (pv 1)) (pv 2) (fun _ _ => rfl)))
      (pss_cons (ps_set (i := 4) sc_law_bad_depths.nd rfl (Or.inl rfl) (pe_ix ix_list (pe_lstB (pa_cons (pe_un un_neg pe_int) (pa_cons (pe_op op_add (pv 3) pe_int) (pa_cons (pe_op op_add (pe_op op_add (pv 3) pe_int) (pe_op op_powG pe_int pe_int)) (pa_cons pe_bl (pa_cons pe_bl (pa_cons pe_non (pa_cons pe_str (pa_cons (pe_lstB (pa_cons pe_int pa_nil)) (pa_cons (pe_tup (pa_cons pe_int pa_nil)) (pa_cons pe_dnewB pa_nil))))))))))) (pe_has g_law_draw (room.mono (by decide)) qt (by rfl) pass0 (pa_cons (pv 0) (pa_cons pe_int pa_nil))) (fun _ _ => rfl)))
      (pss_cons (ps_set (i := 5) sc_law_bad_depths.nd rfl (Or.inl rfl) (pe_lstB (pa_cons (pe_op op_catB (pe_op op_catB (pe_slice sl_list (pv 1) po_none (po_some (pv 2))) (pe_lstB (pa_cons (pv 4) pa_nil))) (pe_slice sl_list (pv 1) (po_some (pe_op op_add (pv 2) pe_int)) po_none)) (pa_cons (pe_tupleOf (by rfl) T.tuple (pv 1)) (pa_cons (pe_lstB pa_nil) (pa_cons (pe_op op_catB (pv 1) (pe_lstB (pa_cons (pe_op op_add (pe_ix ix_list (pv 1) (pe_un un_neg pe_int) (fun _ _ => rfl)) pe_int) pa_nil))) (pa_cons (pe_op op_catB (pe_lstB (pa_cons pe_int pa_nil)) (pv 1)) pa_nil)))))))
      (pss_cons (ps_set (i := 5) sc_law_bad_depths.nd rfl (Or.inl rfl) (pe_op op_catB (pv 5) (pe_lstB (pa_cons (pe_op op_rep (pe_lstB (pa_cons pe_int pa_nil)) pe_int) (pa_cons (pe_listRg rfl (by rfl) T.tlist (prg_1 (by rfl) T.range pe_int)) (pa_cons (pe_lstB (pa_cons (pv 1) pa_nil)) (pa_cons pe_non (pa_cons pe_int (pa_cons pe_str (pa_cons pe_dnewB (pa_cons pe_bl (pa_cons (pe_lstB (pa_cons pe_non pa_nil)) (pa_cons (pe_lstB (pa_cons pe_str pa_nil)) pa_nil)))))))))))))
      (pss_one (ps_ret (pe_ix ix_list (pv 5) (pe_callB (call_max2 rfl) (by rfl) T.max (by decide +kernel) (pa_cons pe_int (pa_cons (pe_op op_sub (pe_has g_law_draw (room.mono (by decide)) qt (by rfl) pass0 (pa_cons (pv 0) (pa_cons pe_int pa_nil))) pe_int) pa_nil))) (fun _ _ => rfl))))))))), ?_⟩
  have st0 : Stg H H g a ns B := ⟨SameBut.refl, hg, ha⟩
  refine ⟨_, rfl, _, rfl, a, _, rfl, .inl (SqL.of ha), g, _, _, rfl, hg, by omega, by omega, by omega, fun at_ H1 a0 a1 b1 g1 => ?_⟩
  have st1 := st0.draw nag b1 g1
  rw [el] at a1
  obtain ⟨t, rfl⟩ : ∃ t : Nat, at_ = t := ⟨at_.toNat, by omega⟩
  have tl : t < ns.length := by omega
  -- before
  refine ⟨_, rfl, (by decide : 1 ≤ sizeLine), fun q1 n1 _ => ⟨_, rfl, q1, a, _, _, rfl, rfl, SqL.of upd_same, SqL.of (st1.new n1).a, Nat.le_of_lt (small_line (by rw [el]; show 1 + ns.length < 100000; omega)), fun q2 n2 _ => ?_⟩⟩
  have st2 := (st1.new (o := .lst [.int (-1)]) n1).new (o := .lst ([.int (-1)] ++ iv ns)) n2
  refine ⟨_, rfl, q2, iv (-1 :: ns), t, _, rfl, rfl, SqL.of upd_same, atI_iv (by omega) (by rw [List.length_cons]; omega), ?_⟩
  rw [Int.toNat_natCast]
  have hbe : (-1 :: ns).getD t 0 + 1 = gAt ns t := by
    cases t with
    | zero => rfl
    | succ j => rfl
  have hbb : -1 ≤ (-1 :: ns).getD t 0 ∧ (-1 :: ns).getD t 0 ≤ 200 := by
    cases t with
    | zero => exact ⟨Int.le_refl _, (by decide : (-1 : Int) ≤ 200)⟩
    | succ j =>
      have := (okFrom_at hk (i := j) (by omega)).1
      have := okFrom_le hk (i := j) (by omega)
      show -1 ≤ ns.getD j 0 ∧ ns.getD j 0 ≤ 200
      omega
  generalize (-1 :: ns).getD t 0 = be at hbe hbb ⊢
  generalize upd (upd H1 q1 (.lst [.int (-1)])) q2 (.lst ([.int (-1)] ++ iv ns)) = H2 at st2 ⊢
  -- odd
  refine ⟨_, rfl, _, rfl, _, _, rfl, rfl, _, rfl, _, _, rfl, rfl, _, _, rfl, rfl, ten_ok (by decide) (by decide), _, _, rfl, rfl, (by decide : 1 ≤ sizeLine), fun r1 m1 w1 => ?_⟩
  refine ⟨(by decide : 1 ≤ sizeLine), fun r2 m2 => fun r3 m3 w3 => ⟨(by decide : 10 ≤ sizeLine), fun r4 m4 _ => ?_⟩⟩
  have sa := st2.new (o := .lst [.int 0]) m1
  have sb := sa.new (o := .tup [.int 0]) m2
  have sc := sb.new (o := .dK []) m3
  refine ⟨_, rfl, g, 10, _, rfl, (sc.new m4).g, by decide, by decide, by omega, fun j H3 j0 j1 b3 g3 => ?_⟩
  have e1 := b3 _ _ (Same.new m4 _ _ (Same.new m3 _ _ (Same.new m2 _ _ (upd_same (H := H2) (a := r1) (o := .lst [.int 0]))))) (st2.ng m1)
  have e2 := b3 _ _ (Same.new m4 _ _ (Same.new m3 _ _ (upd_same (a := r2) (o := .tup [.int 0])))) (sa.ng m2)
  have e3 := b3 _ _ (Same.new m4 _ _ (upd_same (a := r3) (o := .dK []))) (sb.ng m3)
  have e4 := b3 _ _ upd_same (sc.ng m4)
  have st3 := (sc.new m4).draw nag b3 g3
  have hod : ∀ x ∈ [V.int (-1), .int (be + 2), .int (be + 2 + 10 ^ (30 : Int).toNat), .bl true, .bl false, .non, .str "0", .ref r1, .ref r2, .ref r3], OddV H3 g be x := fun x hx => by
    have f1 : ∀ {d : PyData}, Fit 0 1921 d → Fit 1 1926 d := fun h => h.mono (by decide) (by decide)
    have p30 : (10 : Int) ^ (30 : Int).toNat = 1000000000000000000000000000000 := by decide
    have one : Fit 1 1926 (.list [.int 0]) := fit_list (m := 1) (L := 1921) (fun d hd => by rw [List.mem_singleton.mp hd]; exact fit_int (lt1900 (by decide))) (Nat.le_refl _)
    have one' : Fit 1 1926 (.tuple [.int 0]) := fit_tup (m := 1) (L := 1921) (fun d hd => by rw [List.mem_singleton.mp hd]; exact fit_int (lt1900 (by decide))) (Nat.le_refl _)
    have no : ∀ {d : PyData}, d.hasDict = false → ∀ as : List Addr, d.hasDict = true → sysModules ∉ as := fun h as h' => by rw [h] at h'; cases h'
    simp only [List.mem_cons, List.not_mem_nil, or_false] at hx
    rcases hx with rfl | rfl | rfl | rfl | rfl | rfl | rfl | rfl | rfl | rfl
    · exact ⟨_, _, .int _, fun v e => by cases e; exact .inl (by decide), f1 (fit_int (lt1900 (by decide))), no rfl _, List.not_mem_nil⟩
    · exact ⟨_, _, .int _, fun v e => by cases e; exact .inr (by omega), f1 (fit_int (lt1900 (by omega))), no rfl _, List.not_mem_nil⟩
    · refine ⟨_, _, .int _, fun v e => by cases e; exact .inr (by rw [p30]; omega), f1 (fit_int ?_), no rfl _, List.not_mem_nil⟩
      rw [p30]
      exact lt1900 (by omega)
    · exact ⟨_, _, .bl _, (fun v e => nomatch e), f1 (fit_bool _), no rfl _, List.not_mem_nil⟩
    · exact ⟨_, _, .bl _, (fun v e => nomatch e), f1 (fit_bool _), no rfl _, List.not_mem_nil⟩
    · exact ⟨_, _, .non, (fun v e => nomatch e), f1 fit_none, no rfl _, List.not_mem_nil⟩
    · exact ⟨_, _, .str _, (fun v e => nomatch e), ⟨rfl, by decide, by decide +kernel⟩, no rfl _, List.not_mem_nil⟩
    · exact ⟨_, _, .lst e1 (dx_ints [0]), (fun v e => nomatch e), one, no rfl _, fun z => st2.ng m1 (List.mem_singleton.mp z).symm⟩
    · exact ⟨_, _, .tup e2 (dx_ints [0]), (fun v e => nomatch e), one', no rfl _, fun z => sa.ng m2 (List.mem_singleton.mp z).symm⟩
    · exact ⟨_, _, .emp e3, (fun v e => nomatch e), fit_emp.mono (by decide) (by decide), fun _ z => w3 (List.mem_singleton.mp z).symm, fun z => sb.ng m3 (List.mem_singleton.mp z).symm⟩
  obtain ⟨odd, hat, hodd⟩ := atI_all hod j0 (by exact j1)
  refine ⟨r4, _, j, odd, rfl, rfl, SqL.of e4, hat, ?_⟩
  clear e1 e2 e3 e4 hat hod b3 g3 sa sb sc m1 m2 m3 m4
  -- some
  refine ⟨_, rfl, _, rfl, _, rfl, a, _, rfl, SqL.of st3.a, fun p1 i1 => ?_⟩
  rw [cutV_iv, cutI_to _ (by omega), Int.toNat_natCast]
  have lt1 : (iv (ns.take t)).length ≤ 200 := by rw [List.length_map, List.length_take]; omega
  refine ⟨_, rfl, (by decide : 1 ≤ sizeLine), fun p2 i2 _ => ⟨p1, p2, _, _, rfl, rfl, SqL.of (Same.new i2 _ _ upd_same), SqL.of upd_same, Nat.le_of_lt (small_line (by show (iv (ns.take t)).length + 1 < 100000; omega)), fun p3 i3 _ => ?_⟩⟩
  have st4 := ((st3.new i1).new i2).new (o := .lst (iv (ns.take t) ++ [odd])) i3
  have od4 : OddV (upd (upd (upd H3 p1 (.lst (iv (ns.take t)))) p2 (.lst [odd])) p3 (.lst (iv (ns.take t) ++ [odd]))) g be odd := by
    obtain ⟨d, as, h1, h2⟩ := hodd
    exact ⟨d, as, ((h1.same (Same.new i1)).same (Same.new i2)).same (Same.new (o := .lst (iv (ns.take t) ++ [odd])) i3), h2⟩
  have f3 := upd_same (H := upd (upd H3 p1 (.lst (iv (ns.take t)))) p2 (.lst [odd])) (a := p3) (o := .lst (iv (ns.take t) ++ [odd]))
  generalize upd (upd (upd H3 p1 (.lst (iv (ns.take t)))) p2 (.lst [odd])) p3 (.lst (iv (ns.take t) ++ [odd])) = H4 at st4 od4 f3 ⊢
  refine ⟨_, rfl, _, rfl, _, _, rfl, rfl, _, rfl, a, _, rfl, SqL.of st4.a, fun p4 i4 => ?_⟩
  rw [cutV_iv, cutI_from _ (by omega), show ((t : Int) + 1).toNat = t + 1 by omega]
  have lt2 : (iv (ns.drop (t + 1))).length ≤ 200 := by rw [List.length_map, List.length_drop]; omega
  refine ⟨p3, p4, _, _, rfl, rfl, SqL.of (Same.new i4 _ _ f3), SqL.of upd_same, Nat.le_of_lt (small_line (by rw [List.length_append]; show (iv (ns.take t)).length + 1 + _ < 100000; omega)), fun p5 i5 z5 => ?_⟩
  have st5 := (st4.new i4).new (o := .lst (iv (ns.take t) ++ [odd] ++ iv (ns.drop (t + 1)))) i5
  have w0 : WrongG (upd (upd H4 p4 (.lst (iv (ns.drop (t + 1))))) p5 (.lst (iv (ns.take t) ++ [odd] ++ iv (ns.drop (t + 1))))) g (.ref p5) := by
    obtain ⟨d, as, h1, h2, h3, h4, h5⟩ := od4
    have hx := ((dx_ints (H := upd (upd H4 p4 (.lst (iv (ns.drop (t + 1))))) p5 (.lst (iv (ns.take t) ++ [odd] ++ iv (ns.drop (t + 1))))) (ns.take t)).append (dx_one ((h1.same (Same.new i4)).same (Same.new i5)))).append (dx_ints (ns.drop (t + 1)))
    refine ⟨_, _, .lst upd_same hx, wrong_at tl hbe h2, (fit_list (n := 1) (L := 1926) (m := 401) (fun e he => ?_) ?_).mono (by decide) (by decide), fun z => ?_, fun z => ?_⟩
    · have iO := isO_vals ho
      rcases List.mem_append.mp he with he | he
      · rcases List.mem_append.mp he with he | he
        · exact (fit_ints (fun v hv => lt1900 (by have := iO v (List.mem_of_mem_take hv); omega)) e he).mono (by decide) (by decide)
        · rw [List.mem_singleton.mp he]; exact h3
      · exact (fit_ints (fun v hv => lt1900 (by have := iO v (List.mem_of_mem_drop hv); omega)) e he).mono (by decide) (by decide)
    · rw [List.length_append, List.length_append, List.length_map, List.length_map]
      rw [List.length_map] at lt1 lt2
      show _ + 1 + _ ≤ 401
      omega
    · rw [List.append_nil, List.nil_append]
      have z' : PyData.hasDictAll ((ns.take t).map PyData.int ++ [d] ++ (ns.drop (t + 1)).map PyData.int) = true := z
      rw [hasDict_app, hasDict_app, dict_ints, dict_ints, Bool.or_false, Bool.false_or] at z'
      have z2 : (d.hasDict || false) = true := z'
      rw [Bool.or_false] at z2
      intro m
      rcases List.mem_cons.mp m with m | m
      · exact z5 m.symm
      · exact h4 z2 m
    · rw [List.append_nil, List.nil_append] at z
      rcases List.mem_cons.mp z with m | m
      · exact (st4.new (o := .lst (iv (ns.drop (t + 1)))) i4).ng i5 m.symm
      · exact h5 m
  generalize upd (upd H4 p4 (.lst (iv (ns.drop (t + 1))))) p5 (.lst (iv (ns.take t) ++ [odd] ++ iv (ns.drop (t + 1)))) = H5 at st5 w0 ⊢
  -- tuple(depths)
  refine ⟨_, rfl, .inl ⟨a, _, rfl, SqL.of st5.a, fun p6 i6 => ?_⟩⟩
  have st6 := st5.new (o := .tup (iv ns)) i6
  have w0 := w0.same (Same.new (o := .tup (iv ns)) i6)
  have iO := isO_vals ho
  have fitO : Fit 1 (200 * (1921 + 2) + 3) (dI ns) := fit_list (fit_ints fun v hv => lt1900 (by have := iO v hv; omega)) (by rw [List.length_map]; omega)
  have w1 : WrongG (upd H5 p6 (.tup (iv ns))) g (.ref p6) := ⟨_, _, .tup upd_same (dx_ints ns), rfl, (fit_tup (fit_ints fun v hv => lt1900 (by have := iO v hv; omega)) (by rw [List.length_map]; exact l2)).mono (by decide) (by decide), (fun z => by
    have z' : PyData.hasDictAll (ns.map PyData.int) = true := z
    rw [dict_ints] at z'; cases z'), fun z => st5.ng i6 (List.mem_singleton.mp z).symm⟩
  generalize upd H5 p6 (.tup (iv ns)) = H6 at st6 w0 w1 ⊢
  -- []
  refine ⟨(by decide : 0 ≤ sizeLine), fun p7 i7 _ => ?_⟩
  have st7 := st6.new (o := .lst []) i7
  have w0 := w0.same (Same.new (o := .lst []) i7)
  have w1 := w1.same (Same.new (o := .lst []) i7)
  have w2 : WrongG (upd H6 p7 (.lst [])) g (.ref p7) := WrongG.ints (ms := []) upd_same (st6.ng i7) rfl (by decide) (fun v hv => (List.not_mem_nil hv).elim)
  generalize upd H6 p7 (.lst []) = H7 at st7 w0 w1 w2 ⊢
  have wl : WL H7 g [V.ref p5, .ref p6, .ref p7] := fun x hx => by
    simp only [List.mem_cons, List.not_mem_nil, or_false] at hx
    rcases hx with rfl | rfl | rfl
    · exact w0
    · exact w1
    · exact w2
  clear w0 w1 w2
  have nn : ns ≠ [] := fun e => by rw [e] at l1; exact absurd l1 (by decide)
  have lb := okFrom_le hk (i := ns.length - 1) (by omega)
  have la := (okFrom_at hk (i := ns.length - 1) (by omega)).1
  refine ⟨_, rfl, _, rfl, _, rfl, a, iv ns, -1, _, rfl, rfl, SqL.of st7.a, atI_iv_last nn, _, _, rfl, rfl, (by decide : 1 ≤ sizeLine), fun p8 i8 _ => ⟨a, p8, _, _, rfl, rfl, SqL.of (st7.new i8).a, SqL.of upd_same, Nat.le_of_lt (small_line (by rw [el]; show ns.length + 1 < 100000; omega)), fun p9 i9 _ => ?_⟩⟩
  rw [iv_snoc] at *
  have st9 := (st7.new i8).new (o := .lst (iv (ns ++ [ns.getD (ns.length - 1) 0 + 2]))) i9
  have wl := (wl.same (Same.new i8)).same (Same.new (o := .lst (iv (ns ++ [ns.getD (ns.length - 1) 0 + 2]))) i9)
  have w3 : WrongG (upd (upd H7 p8 (.lst [.int (ns.getD (ns.length - 1) 0 + 2)])) p9 (.lst (iv (ns ++ [ns.getD (ns.length - 1) 0 + 2])))) g (.ref p9) := by
    refine WrongG.ints upd_same ((st7.new i8).ng i9) ?_ (by rw [List.length_append]; show ns.length + 1 ≤ 1000; omega) (fun v hv => ?_)
    · cases c : isO (ns ++ [ns.getD (ns.length - 1) 0 + 2]) with
      | false => rfl
      | true =>
        obtain ⟨_, _, c3⟩ := isO_iff.mp c
        have := (okFrom_at c3 (i := ns.length) (by rw [List.length_append]; show ns.length < ns.length + 1; omega)).2.1 (ns.length - 1) (by omega)
        rw [getD_snoc, getD_app (by omega)] at this
        omega
    · rcases List.mem_append.mp hv with hv | hv
      · have := iO v hv; omega
      · rw [List.mem_singleton.mp hv]; omega
  have wl := wl.snoc w3
  generalize upd (upd H7 p8 (.lst [.int (ns.getD (ns.length - 1) 0 + 2)])) p9 (.lst (iv (ns ++ [ns.getD (ns.length - 1) 0 + 2]))) = H9 at st9 wl ⊢
  -- [1] + depths
  refine ⟨(by decide : 1 ≤ sizeLine), fun p10 i10 _ => ⟨_, rfl, p10, a, _, _, rfl, rfl, SqL.of upd_same, SqL.of (st9.new i10).a, Nat.le_of_lt (small_line (by rw [el]; show 1 + ns.length < 100000; omega)), fun p11 i11 _ => ?_⟩⟩
  have st11 := (st9.new i10).new (o := .lst ([.int 1] ++ iv ns)) i11
  have wl := (wl.same (Same.new i10)).same (Same.new (o := .lst ([.int 1] ++ iv ns)) i11)
  have w4 : WrongG (upd (upd H9 p10 (.lst [.int 1])) p11 (.lst ([.int 1] ++ iv ns))) g (.ref p11) := by
    refine WrongG.ints (ms := 1 :: ns) upd_same ((st9.new i10).ng i11) ?_ (by rw [List.length_cons]; omega) (fun v hv => ?_)
    · show (decide (1 ≤ (1 :: ns).length) && decide ((1 :: ns).length ≤ 200) && (decide ((0 : Int) ≤ 1) && decide ((1 : Int) ≤ 0) && okFrom (1 + 1) ns)) = false
      rw [decide_eq_false (p := (1 : Int) ≤ 0) (by decide), Bool.and_false, Bool.false_and, Bool.and_false]
    · rcases List.mem_cons.mp hv with rfl | hv
      · decide
      · have := iO v hv; omega
  have wl := wl.snoc w4
  generalize upd (upd H9 p10 (.lst [.int 1])) p11 (.lst ([.int 1] ++ iv ns)) = H11 at st11 wl ⊢
  refine ⟨(by decide : 5 ≤ sizeLine), fun p12 i12 _ => ?_⟩
  have st12 := st11.new (o := .lst [.ref p5, .ref p6, .ref p7, .ref p9, .ref p11]) i12
  have wl := wl.same (Same.new (o := .lst [.ref p5, .ref p6, .ref p7, .ref p9, .ref p11]) i12)
  have f12 := upd_same (H := H11) (a := p12) (o := .lst [.ref p5, .ref p6, .ref p7, .ref p9, .ref p11])
  generalize upd H11 p12 (.lst [.ref p5, .ref p6, .ref p7, .ref p9, .ref p11]) = H12 at st12 wl f12 ⊢
  -- some + [..]
  refine ⟨_, rfl, (by decide : 1 ≤ sizeLine), fun s1 k1 _ => ⟨s1, 201, [.int 0], rfl, rfl, upd_same, by decide, by decide, by decide, fun s2 k2 => ?_⟩⟩
  rw [iv_rep]
  have st13 := (st12.new k1).new (o := .lst (iv (List.replicate (201 : Int).toNat 0))) k2
  have wl := (wl.same (Same.new k1)).same (Same.new (o := .lst (iv (List.replicate (201 : Int).toNat 0))) k2)
  have f12 := Same.new (o := .lst (iv (List.replicate (201 : Int).toNat 0))) k2 _ _ (Same.new k1 _ _ f12)
  have wl := wl.snoc (WrongG.ints (g := g) (upd_same (a := s2) (o := .lst (iv (List.replicate (201 : Int).toNat 0)))) ((st12.new k1).ng k2) (by decide) (by decide) (fun v hv => by rw [List.eq_of_mem_replicate hv]; decide))
  generalize upd (upd H12 s1 (.lst [.int 0])) s2 (.lst (iv (List.replicate (201 : Int).toNat 0))) = H13 at st13 wl f12 ⊢
  refine ⟨_, rfl, RgOk.of_le (by decide) (by decide) (by decide) (by decide), fun s3 k3 => ?_⟩
  rw [show rgV 0 201 = iv (rg 201) from rgV_rg 201]
  have st14 := st13.new (o := .lst (iv (rg 201))) k3
  have wl := wl.same (Same.new (o := .lst (iv (rg 201))) k3)
  have f12 := Same.new (o := .lst (iv (rg 201))) k3 _ _ f12
  have wl := wl.snoc (WrongG.ints (g := g) (upd_same (a := s3) (o := .lst (iv (rg 201)))) (st13.ng k3) (by decide) (by decide) (fun v hv => by
    obtain ⟨q, hq, rfl⟩ := List.mem_map.mp hv
    have := List.mem_range.mp hq
    show (q : Int).natAbs < 2 ^ 128
    omega))
  generalize upd H13 s3 (.lst (iv (rg 201))) = H14 at st14 wl f12 ⊢
  -- [depths]
  refine ⟨_, rfl, (by decide : 1 ≤ sizeLine), fun s4 k4 z4 => ?_⟩
  have st15 := st14.new (o := .lst [.ref a]) k4
  have wl := wl.same (Same.new (o := .lst [.ref a]) k4)
  have f12 := Same.new (o := .lst [.ref a]) k4 _ _ f12
  have w7 : WrongG (upd H14 s4 (.lst [.ref a])) g (.ref s4) := by
    refine ⟨_, _, .lst upd_same (dx_one (dx_dI st15.a)), rfl, (fit_list (n := 1) (L := 200 * (1921 + 2) + 3) (m := 1) (fun d hd => by rw [List.mem_singleton.mp hd]; exact fitO) (Nat.le_refl _)).mono (by decide) (by decide), noD ?_, fun z => ?_⟩
    · show (PyData.hasDictAll (ns.map PyData.int) || false) = false
      rw [dict_ints]; rfl
    · rcases List.mem_cons.mp z with m | m
      · exact st14.ng k4 m.symm
      · exact nag (List.mem_singleton.mp m).symm
  have wl := wl.snoc w7
  generalize upd H14 s4 (.lst [.ref a]) = H15 at st15 wl f12 ⊢
  -- None, 0, '0', {}, True
  have f1 : ∀ {d : PyData}, Fit 0 1921 d → Fit 50 16000000 d := fun h => h.mono (by decide) (by decide)
  have wl := ((wl.snoc ⟨_, _, .non, rfl, f1 fit_none, noD rfl, List.not_mem_nil⟩).snoc ⟨_, _, .int 0, rfl, f1 (fit_int (lt1900 (by decide))), noD rfl, List.not_mem_nil⟩).snoc ⟨_, _, .str "0", rfl, ⟨rfl, by decide, by decide +kernel⟩, noD rfl, List.not_mem_nil⟩
  refine fun s5 k5 z5' => ?_
  have st16 := st15.new (o := .dK []) k5
  have wl := wl.same (Same.new (o := .dK []) k5)
  have f12 := Same.new (o := .dK []) k5 _ _ f12
  have wl := wl.snoc ⟨_, _, .emp (upd_same (a := s5) (o := .dK [])), rfl, fit_emp.mono (by decide) (by decide), fun _ z => z5' (List.mem_singleton.mp z).symm, fun z => st15.ng k5 (List.mem_singleton.mp z).symm⟩
  have wl := wl.snoc ⟨_, _, .bl true, rfl, f1 (fit_bool _), noD rfl, List.not_mem_nil⟩
  generalize upd H15 s5 (.dK []) = H16 at st16 wl f12 ⊢
  refine ⟨(by decide : 1 ≤ sizeLine), fun s6 k6 _ => ?_⟩
  have st17 := st16.new (o := .lst [.non]) k6
  have wl := wl.same (Same.new (o := .lst [.non]) k6)
  have f12 := Same.new (o := .lst [.non]) k6 _ _ f12
  have wl := wl.snoc ⟨_, _, .lst (upd_same (a := s6) (o := .lst [.non])) (dx_one .non), rfl, ⟨rfl, by decide, by decide +kernel⟩, noD rfl, fun z => st16.ng k6 (List.mem_singleton.mp z).symm⟩
  generalize upd H16 s6 (.lst [.non]) = H17 at st17 wl f12 ⊢
  refine ⟨(by decide : 1 ≤ sizeLine), fun s7 k7 _ => ?_⟩
  have st18 := st17.new (o := .lst [.str "0"]) k7
  have wl := wl.same (Same.new (o := .lst [.str "0"]) k7)
  have f12 := Same.new (o := .lst [.str "0"]) k7 _ _ f12
  have wl := wl.snoc ⟨_, _, .lst (upd_same (a := s7) (o := .lst [.str "0"])) (dx_one (.str _)), rfl, ⟨rfl, by decide, by decide +kernel⟩, noD rfl, fun z => st17.ng k7 (List.mem_singleton.mp z).symm⟩
  generalize upd H17 s7 (.lst [.str "0"]) = H18 at st18 wl f12 ⊢
  refine ⟨(by decide : 10 ≤ sizeLine), fun s8 k8 _ => ⟨p12, s8, _, _, rfl, rfl, SqL.of (Same.new k8 _ _ f12), SqL.of upd_same, (show 5 + 10 ≤ sizeLine by decide), fun s9 k9 _ => ?_⟩⟩
  have st19 := (st18.new k8).new (o := .lst ([.ref p5, .ref p6, .ref p7, .ref p9, .ref p11] ++ [.ref s2, .ref s3, .ref s4, .non, .int 0, .str "0", .ref s5, .bl true, .ref s6, .ref s7])) k9
  have wl := (wl.same (Same.new k8)).same (Same.new (o := .lst ([.ref p5, .ref p6, .ref p7, .ref p9, .ref p11] ++ [.ref s2, .ref s3, .ref s4, .non, .int 0, .str "0", .ref s5, .bl true, .ref s6, .ref s7])) k9)
  have ng9 := (st18.new (o := .lst [.ref s2, .ref s3, .ref s4, .non, .int 0, .str "0", .ref s5, .bl true, .ref s6, .ref s7]) k8).ng k9
  have f19 := upd_same (H := upd H18 s8 (.lst [.ref s2, .ref s3, .ref s4, .non, .int 0, .str "0", .ref s5, .bl true, .ref s6, .ref s7])) (a := s9) (o := .lst ([.ref p5, .ref p6, .ref p7, .ref p9, .ref p11] ++ [.ref s2, .ref s3, .ref s4, .non, .int 0, .str "0", .ref s5, .bl true, .ref s6, .ref s7]))
  generalize upd (upd H18 s8 (.lst [.ref s2, .ref s3, .ref s4, .non, .int 0, .str "0", .ref s5, .bl true, .ref s6, .ref s7])) s9 (.lst ([.ref p5, .ref p6, .ref p7, .ref p9, .ref p11] ++ [.ref s2, .ref s3, .ref s4, .non, .int 0, .str "0", .ref s5, .bl true, .ref s6, .ref s7])) = H19 at st19 wl f19 ⊢
  -- the choice
  refine ⟨_, rfl, _, rfl, g, 26, _, rfl, st19.g, by decide, by decide, by omega, fun d H20 d0 d1 b20 g20 => ⟨_, _, rfl, rfl, _, _, rfl, ?_⟩⟩
  obtain ⟨x, hat, hx⟩ := atI_all (xs := [.ref p5, .ref p6, .ref p7, .ref p9, .ref p11] ++ [.ref s2, .ref s3, .ref s4, .non, .int 0, .str "0", .ref s5, .bl true, .ref s6, .ref s7]) (p := WrongG H20 g) (fun y hy => (wl y hy).but b20) (z := if d - 11 > 0 then d - 11 else 0) (by split <;> omega) (by show _ < (15 : Int); split <;> omega)
  refine ⟨s9, _, _, x, rfl, rfl, SqL.of (b20 _ _ f19 ng9), hat, k x H20 (st19.b.trans b20) (by have := g20; exact this.le (by omega)) ?_⟩
  obtain ⟨d, as, h1, h2, h3, h4, _⟩ := hx
  exact ⟨d, as, h1, h2, h3, h4⟩
end
end SH

namespace SH
open PySem PySem.Spec PyProof.Rows L2
abbrev s_law_holds : Stmt := topS 14
abbrev N_law_holds : List Str := ["source", "most", "depths", "step", "wrong", "at", "to", "kind"]
abbrev P_law_holds : List Str := ["source", "most"]
theorem sc_law_holds : FnScope N_law_holds P_law_holds (defScope s_law_holds) := ⟨rfl, rfl, rfl, by decide +kernel, rfl, by decide +kernel, by decide +kernel⟩
theorem ite_cut3 {b : Prop} [Decidable b] {t e : TS} {D : Ends} {σ : L2.St} {H : Hp} (Inv : L2.St → Hp → Prop) (hN : ∀ σ H, Inv σ H → D.nx σ H)
    (h1 : b → (∀ σ H, Inv σ H → D.nx σ H) → t D σ H) (h2 : ¬b → (∀ σ H, Inv σ H → D.nx σ H) → e D σ H) : if b then t D σ H else e D σ H := by
  by_cases c : b
  · rw [if_pos c]; exact h1 c hN
  · rw [if_neg c]; exact h2 c hN
theorem map_erase {α β : Type} (f : α → β) : ∀ (xs : List α) (k : Nat), (xs.eraseIdx k).map f = (xs.map f).eraseIdx k
  | [], _ => rfl
  | _ :: _, 0 => rfl
  | x :: r, k + 1 => congrArg (f x :: ·) (map_erase f r k)
theorem iv_get {ms : List Int} {i : Nat} (h : i < ms.length) : (iv ms)[i]? = some (.int (ms.getD i 0)) := iv_at h
section
variable {P : Program} {w : World} {K : PySem.W.Frag} {mg : Str → Option Value} {base : Heap}
def sp_law_holds : Sp := fun vs H Q _ => ∃ (g : Addr) (m B : Int), vs = [.ref g, .int m] ∧ SrcA H g B ∧ B ≤ 1000 ∧ 1 ≤ m ∧ m ≤ 200 ∧ ∀ H', SameBut g H H' → Q (.bl true) H'
theorem ok_law_holds (T : Txt mg) (h : At K mg "_law_holds" s_law_holds)
    (g_law_draw : Has P w K mg base CX0 2 "_law_draw" s_law_draw P_law_draw sp_drawA)
    (g_law_depths : Has P w K mg base CX0 3 "_law_depths" s_law_depths P_law_depths sp_depthsA)
    (g_law_bad_depths : Has P w K mg base CX0 3 "_law_bad_depths" s_law_bad_depths P_law_bad_depths sp_law_bad_depths)
    (g_law_is_right : Has P w K mg base CX0 1 "_law_is_right" s_law_is_right P_law_is_right sp_law_is_right)
    (g_law_checked : Has P w K mg base CX0 4 "_law_checked" s_law_checked P_law_checked sp_law_checked)
    (g_is_outline : Has P w K mg base CX0 3 "is_outline" s_is_outline P_is_outline sp_is_outlineX) :
    Has P w K mg base CX0 6 "_law_holds" s_law_holds P_law_holds sp_law_holds := by
  refine Has.of h sc_law_holds (fun vs H Q E h => ?_) (fun _ _ _ _ _ _ us hl => match us, hl with | [_, _], _ => rfl) (fun f cdv A outer s H vs Q E room qt h => ?_)
  · obtain ⟨v, a, B, rfl, _⟩ := h; rfl
  obtain ⟨g, m, B, rfl, hg, hB, m0, m1, k⟩ := h
  refine ⟨_, (pss_cons (ps_set (i := 2) sc_law_holds.nd rfl (Or.inl rfl) (pe_has g_law_depths (room.mono (by decide)) qt (by rfl) pass0 (pa_cons (pv 0) (pa_cons (pv 1) pa_nil))))
      (pss_cons (ps_if (PW.pt (pw_or (pt_not (pt_val (pe_has g_law_is_right (room.mono (by decide)) qt (by rfl) pass0 (pa_cons (pv 2) pa_nil)))) (pw_or1 (pt_not (pt_val (pe_has g_law_checked (room.mono (by decide)) qt (by rfl) pass0 (pa_cons (pv 2) pa_nil)))))))
        (pss_one (ps_ret pe_bl))
        pss_nil)
      (pss_cons (ps_for PassesOwn.never rfl (pi_range1 (by rfl) T.range (pa_cons pe_int pa_nil)) (pg_name (i := 3) sc_law_holds.nd rfl (Or.inl rfl) (hf := Or.inl rfl))
        (pss_cons (ps_set (i := 4) sc_law_holds.nd rfl (Or.inl rfl) (pe_has g_law_bad_depths (room.mono (by decide)) qt (by rfl) pass0 (pa_cons (pv 0) (pa_cons (pv 2) pa_nil))))
        (pss_one (ps_if (PW.pt (pw_or (pt_val (pe_has g_law_is_right (room.mono (by decide)) qt (by rfl) pass0 (pa_cons (pv 4) pa_nil))) (pw_or1 (pt_not (pt_val (pe_has g_law_checked (room.mono (by decide)) qt (by rfl) pass0 (pa_cons (pv 4) pa_nil)))))))
          (pss_one (ps_ret pe_bl))
          pss_nil))))
      (pss_cons (ps_for PassesOwn.never rfl (pi_range1 (by rfl) T.range (pa_cons pe_int pa_nil)) (pg_name (i := 3) sc_law_holds.nd rfl (Or.inl rfl) (hf := Or.inl rfl))
        (pss_cons (ps_par (i := 5) (j := 6) rfl sc_law_holds.nd rfl rfl (by decide) rfl rfl (pa_cons (pe_has g_law_draw (room.mono (by decide)) qt (by rfl) pass0 (pa_cons (pv 0) (pa_cons (pe_callB call_len_seq (by rfl) T.len (by decide +kernel) (pa_cons (pv 2) pa_nil)) pa_nil))) (pa_cons (pe_has g_law_draw (room.mono (by decide)) qt (by rfl) pass0 (pa_cons (pv 0) (pa_cons (pe_callB call_len_seq (by rfl) T.len (by decide +kernel) (pa_cons (pv 2) pa_nil)) pa_nil))) pa_nil)) (by rfl))
        (pss_cons (ps_set (i := 7) sc_law_holds.nd rfl (Or.inl rfl) (pe_has g_law_draw (room.mono (by decide)) qt (by rfl) pass0 (pa_cons (pv 0) (pa_cons pe_int pa_nil))))
        (pss_cons (ps_if (pt_cmpR op_eq (pv 7) pe_int (nomark _))
          (pss_one (ps_asg (pe_has g_law_draw (room.mono (by decide)) qt (by rfl) pass0 (pa_cons (pv 0) (pa_cons (pe_op op_add (pe_ix ix_list (pv 2) (pv 5) (fun _ _ => rfl)) pe_int) pa_nil))) (pg_sub (pv 2) (pv 5) set_list)))
          (pss_one (ps_if (pt_cmpR op_eq (pv 7) pe_int (nomark _))
            (pss_one (ps_expr (pe_bm PySem.F.plainAttrs_list PySem.F.slot_list_insert PySem.F.type_list_insert mt_insert (pv 2) (pa_cons (pv 5) (pa_cons (pe_bm PySem.F.plainAttrs_list PySem.F.slot_list_pop PySem.F.type_list_pop mt_popAt (pv 2) (pa_cons (pv 6) pa_nil)) pa_nil)))))
            (pss_one (ps_if (PW.pt (pw_and (pt_cmpR op_eq (pv 7) pe_int (nomark _)) (pw_and1 (pt_cmpR op_gt (pe_callB call_len_seq (by rfl) T.len (by decide +kernel) (pa_cons (pv 2) pa_nil)) pe_int (nomark _)))))
              (pss_one (ps_expr (pe_bm PySem.F.plainAttrs_list PySem.F.slot_list_pop PySem.F.type_list_pop mt_popAt (pv 2) (pa_cons (pv 5) pa_nil))))
              (pss_one (ps_if (pt_cmpR op_lt (pe_callB call_len_seq (by rfl) T.len (by decide +kernel) (pa_cons (pv 2) pa_nil)) pe_int (nomark _))
                (pss_one (ps_expr (pe_bm PySem.F.plainAttrs_list PySem.F.slot_list_insert PySem.F.type_list_insert mt_insert (pv 2) (pa_cons (pv 5) (pa_cons (pe_ix ix_list (pv 2) (pv 6) (fun _ _ => rfl)) pa_nil)))))
                pss_nil)))))))
        (pss_one (ps_if (pt_not (pt_val (pe_has g_law_checked (room.mono (by decide)) qt (by rfl) pass0 (pa_cons (pv 2) pa_nil))))
          (pss_one (ps_ret pe_bl))
          pss_nil))))))
      (pss_one (ps_ret (pe_and (pe_cmpR op_isBl (pe_has g_is_outline (room.mono (by decide)) qt (by rfl) pass0 (pa_cons (pe_op op_rep (pe_lst (pa_cons pe_int pa_nil)) pe_int) pa_nil)) pe_bl (nomark _)) (pe_one (pe_cmpR op_isBl (pe_has g_is_outline (room.mono (by decide)) qt (by rfl) pass0 (pa_cons (pe_listRg rfl (by rfl) T.tlist (prg_1 (by rfl) T.range pe_int)) pa_nil)) pe_bl (nomark _)))))))))), ?_⟩
  refine ⟨_, rfl, _, rfl, g, m, B, rfl, hg, m0, m1, by omega, fun ns p H1 ho hm hp b1 g1 h1 => ?_⟩
  have npg : p ≠ g := (hg.ne hp).symm
  have askI : ∀ {H' : Hp} {ms : List Int}, H' p = some (.lst (iv ms)) → ms.length ≤ 1000 → (∀ v ∈ ms, v.natAbs < 2 ^ 128) → Askable H' (.ref p) (dI ms) := fun e l b =>
    ⟨_, dx_dI e, noD (by show PyData.hasDictAll _ = false; rw [dict_ints]), (fit_list (fit_ints fun v hv => lt1900 (b v hv)) (by rw [List.length_map]; exact l)).mono (by decide) (by decide)⟩
  obtain ⟨l1, l2, hk⟩ := isO_iff.mp ho
  have iO := isO_vals ho
  -- if not _law_is_right(depths) or not _law_checked(depths)
  refine ⟨_, rfl, .ref p, dI ns, _, rfl, dx_dI h1, fun H2 s2 => ?_⟩
  rw [isOD_dI, ho]
  refine ⟨_, rfl, iteF ⟨_, rfl, .ref p, dI ns, rfl, askI (s2 _ _ h1) (by omega) (fun v hv => by have := iO v hv; omega), fun H3 s3 => ⟨_, rfl, iteF ?_⟩⟩⟩
  have b3 := b1.trans (SameBut.of (s2.trans s3))
  have g3 := g1.same (s2.trans s3)
  have h3 := (s2.trans s3) _ _ h1
  clear h1 g1 b1 s2 s3
  -- the wrong ones
  refine ⟨5, rfl, by decide, by decide, for_range (lo := 0) (n := 5) (fun i σ H2 => (∃ v3 v4 v5 v6 v7, σ = [some (.ref g), some (.int m), some (.ref p), v3, v4, v5, v6, v7]) ∧ SameBut g H H2 ∧ SrcA H2 g (B + 1000 + 3 * (i : Nat)) ∧ H2 p = some (.lst (iv ns)))
    ⟨⟨_, _, _, _, _, rfl⟩, b3, g3.le (by omega), h3⟩ ?_ ?_⟩
  · rintro i σ H4 hi ⟨⟨v3, v4, v5, v6, v7, rfl⟩, b4, g4, h4⟩
    refine ⟨_, rfl, _, rfl, g, p, ns, _, rfl, g4, by omega, npg, h4, ho, fun x H5 b5 g5 wr => ?_⟩
    obtain ⟨d, as, hd, hnot, hf, hn⟩ := wr
    refine ⟨_, rfl, x, d, as, rfl, hd, fun H6 s6 => ?_⟩
    rw [hnot]
    refine ⟨_, rfl, iteF ⟨_, rfl, x, d, rfl, ⟨as, hd.same s6, hn, hf⟩, fun H7 s7 => ⟨_, rfl, iteF ?_⟩⟩⟩
    exact ⟨⟨_, _, _, _, _, rfl⟩, (b4.trans b5).trans (SameBut.of (s6.trans s7)), ((g5.same (s6.trans s7))).le (by omega), (s6.trans s7) _ _ (b5 _ _ h4 npg)⟩
  clear b3 g3 h3
  rintro σ H4 ⟨⟨v3, v4, v5, v6, v7, rfl⟩, b4, g4, h4⟩
  -- the changed ones
  refine ⟨6, rfl, by decide, by decide, for_range (lo := 0) (n := 6) (fun i σ H2 => (∃ v3 v4 v5 v6 v7, σ = [some (.ref g), some (.int m), some (.ref p), v3, v4, v5, v6, v7]) ∧ SameBut g H H2 ∧ SrcA H2 g (B + 1100 + 4 * (i : Nat)) ∧
      ∃ ms : List Int, 1 ≤ ms.length ∧ ms.length ≤ 200 ∧ (∀ v ∈ ms, 0 ≤ v ∧ v ≤ 300 + 3 * (i : Nat)) ∧ H2 p = some (.lst (iv ms)))
    ⟨⟨_, _, _, _, _, rfl⟩, b4, g4.le (by omega), ns, l1, l2, fun v hv => ?_, h4⟩ ?_ ?_⟩
  · obtain ⟨i, hi, rfl⟩ := List.getElem_of_mem hv
    have a := (okFrom_at hk hi).1
    have b := okFrom_le hk hi
    rw [List.getD_eq_getElem?_getD, List.getElem?_eq_getElem hi, Option.getD_some] at a b
    omega
  · clear b4 g4 h4
    rintro i σ H4 hi ⟨⟨v3, v4, v5, v6, v7, rfl⟩, b4, g4, ms, n1, n2, hv, h4⟩
    have el : (iv ms).length = ms.length := List.length_map _
    refine ⟨_, rfl, _, rfl, p, _, rfl, .inl (SqL.of h4), g, _, _, rfl, g4, by omega, by omega, by omega, fun at_ H5 a0 a1 b5 g5 => ?_⟩
    have h5 := b5 _ _ h4 npg
    refine ⟨_, rfl, _, rfl, p, _, rfl, .inl (SqL.of h5), g, _, _, rfl, g5, by omega, by omega, by omega, fun to_ H6 t0 t1 b6 g6 => ⟨_, _, rfl, ?_⟩⟩
    have h6 := b6 _ _ h5 npg
    refine ⟨_, rfl, g, 4, _, rfl, g6, by decide, by decide, by omega, fun kd H7 d0 d1 b7 g7 => ?_⟩
    have h7 := b7 _ _ h6 npg
    have b47 := ((b4.trans b5).trans b6).trans b7
    rw [el] at a1 t1
    clear h4 h5 h6 b4 g4 b5 g5 b6 g6 b7
    refine ⟨_, rfl, rfl, _, rfl, ite_cut3 (fun σ H8 => (∃ v3 v4, σ = [some (.ref g), some (.int m), some (.ref p), v3, v4, some (.int at_), some (.int to_), some (.int kd)]) ∧ SameBut g H H8 ∧ SrcA H8 g (B + 1100 + 4 * (i : Nat) + 4) ∧ ∃ ms : List Int, 1 ≤ ms.length ∧ ms.length ≤ 200 ∧ (∀ v ∈ ms, 0 ≤ v ∧ v ≤ 300 + 3 * (i : Nat) + 3) ∧ H8 p = some (.lst (iv ms))) ?_ ?_ ?_⟩
    · rintro σ H8 ⟨⟨v3, v4, rfl⟩, b8, g8, ms, n1, n2, hv, h8⟩
      refine ⟨_, rfl, .ref p, dI ms, rfl, askI h8 (by omega) (fun v hv' => by have := hv v hv'; omega), fun H9 s9 => ⟨_, rfl, iteF ?_⟩⟩
      exact ⟨⟨_, _, _, _, _, rfl⟩, b8.trans (SameBut.of s9), (g8.same s9).le (by omega), ms, n1, n2, fun v hv' => by have := hv v hv'; omega, s9 _ _ h8⟩
    · intro c main
      refine ⟨_, rfl, _, rfl, _, rfl, p, iv ms, at_, _, rfl, rfl, SqL.of h7, atI_iv a0 (by omega), _, _, rfl, rfl, ?_⟩
      have va := getD_all (xs := ms) (p := fun v => 0 ≤ v ∧ v ≤ 300 + 3 * (i : Nat)) hv a0 (by omega)
      refine ⟨g, _, _, rfl, g7, by omega, by omega, by omega, fun nv H8 y0 y1 b8 g8 => ⟨_, rfl, _, rfl, p, iv ms, at_, at_.toNat, rfl, rfl, b8 _ _ h7 npg, ?_, ?_⟩⟩
      · unfold ixN; rw [if_pos a0, if_pos (by rw [el]; omega)]
      · refine main _ _ ⟨⟨_, _, rfl⟩, (b47.trans b8).own hp, (g8.upd_ne npg.symm).le (by omega), ms.set at_.toNat nv, by rw [List.length_set]; exact n1, by rw [List.length_set]; exact n2, fun v hv' => ?_, ?_⟩
        · rcases List.mem_or_eq_of_mem_set hv' with z | z
          · have := hv v z; omega
          · subst z; omega
        · rw [upd_same]; unfold iv; rw [List.map_set]
    · intro c main
      refine ⟨_, rfl, rfl, _, rfl, ite2 (fun c1 => ?_) (fun c1 => ?_)⟩
      · -- insert(at, pop(to))
        have tt : to_.toNat < ms.length := by omega
        refine ⟨_, rfl, .inl ⟨rfl, iv ms, SqL.of h7⟩, _, rfl, _, rfl, .inl ⟨rfl, iv ms, SqL.of h7⟩, _, rfl, p, iv ms, to_, to_.toNat, _, rfl, rfl, h7, by omega, by omega, seqIndex_of t0 (by omega), iv_at tt, ?_⟩
        refine ⟨p, _, at_, _, rfl, rfl, upd_same, ?_, a0, by omega, ?_⟩
        · have := List.length_eraseIdx_le (iv ms) to_.toNat
          exact small_line (by omega)
        · rw [upd_upd]
          refine main _ _ ⟨⟨_, _, rfl⟩, b47.own hp, (g7.upd_ne npg.symm).le (by omega), (ms.eraseIdx to_.toNat).take at_.toNat ++ [ms.getD to_.toNat 0] ++ (ms.eraseIdx to_.toNat).drop at_.toNat, ?_, ?_, fun v hv' => ?_, ?_⟩
          · simp only [List.length_append, List.length_take, List.length_drop, List.length_cons, List.length_nil]; omega
          · have := List.length_eraseIdx_of_lt tt
            simp only [List.length_append, List.length_take, List.length_drop, List.length_cons, List.length_nil]; omega
          · have ve : v ∈ ms := by
              rcases List.mem_append.mp hv' with z | z
              · rcases List.mem_append.mp z with z | z
                · exact List.mem_of_mem_eraseIdx (List.mem_of_mem_take z)
                · rw [List.mem_singleton.mp z, List.getD_eq_getElem?_getD, List.getElem?_eq_getElem tt]
                  exact List.getElem_mem tt
              · exact List.mem_of_mem_eraseIdx (List.mem_of_mem_drop z)
            have := hv v ve
            omega
          · rw [upd_same]
            unfold iv
            rw [List.map_append, List.map_append, List.map_take, List.map_drop, map_erase]
            rfl
      · refine ⟨_, rfl, rfl, _, rfl, ite2 (fun c2 => ?_) (fun c2 => ?_)⟩
        · refine ⟨_, rfl, p, _, rfl, .inl (SqL.of h7), _, _, rfl, rfl, _, rfl, ite2 (fun c3 => ?_) (fun c3 => ?_)⟩
          · -- pop(at)
            have c4 := of_decide_eq_true c3
            have ta : at_.toNat < ms.length := by omega
            refine ⟨_, rfl, .inl ⟨rfl, iv ms, SqL.of h7⟩, _, rfl, p, iv ms, at_, at_.toNat, _, rfl, rfl, h7, by omega, by omega, seqIndex_of a0 (by omega), iv_at ta, ?_⟩
            have le := List.length_eraseIdx_of_lt ta
            refine main _ _ ⟨⟨_, _, rfl⟩, b47.own hp, (g7.upd_ne npg.symm).le (by omega), ms.eraseIdx at_.toNat, by omega, by omega, fun v hv' => by have := hv v (List.mem_of_mem_eraseIdx hv'); omega, ?_⟩
            rw [upd_same]; unfold iv; rw [map_erase]
          · refine ⟨_, rfl, p, _, rfl, .inl (SqL.of h7), _, _, rfl, rfl, _, rfl, ite2 (fun c5 => ?_) (fun c5 => ?_)⟩
            · have c6 := of_decide_eq_true c5
              have tt : to_.toNat < ms.length := by omega
              refine ⟨_, rfl, .inl ⟨rfl, iv ms, SqL.of h7⟩, _, rfl, _, rfl, _, rfl, p, iv ms, to_, _, rfl, rfl, SqL.of h7, atI_iv t0 (by omega), p, _, at_, _, rfl, rfl, h7, small_line (by omega), a0, by omega, ?_⟩
              refine main _ _ ⟨⟨_, _, rfl⟩, b47.own hp, (g7.upd_ne npg.symm).le (by omega), ms.take at_.toNat ++ [ms.getD to_.toNat 0] ++ ms.drop at_.toNat, ?_, ?_, fun v hv' => ?_, ?_⟩
              · simp only [List.length_append, List.length_take, List.length_drop, List.length_cons, List.length_nil]; omega
              · simp only [List.length_append, List.length_take, List.length_drop, List.length_cons, List.length_nil]; omega
              · have ve : v ∈ ms := by
                  rcases List.mem_append.mp hv' with z | z
                  · rcases List.mem_append.mp z with z | z
                    · exact List.mem_of_mem_take z
                    · rw [List.mem_singleton.mp z, List.getD_eq_getElem?_getD, List.getElem?_eq_getElem tt]
                      exact List.getElem_mem tt
                  · exact List.mem_of_mem_drop z
                have := hv v ve
                omega
              · rw [upd_same]
                unfold iv
                rw [List.map_append, List.map_append, List.map_take, List.map_drop]
                rfl
            · exact main _ _ ⟨⟨_, _, rfl⟩, b47, g7.le (by omega), ms, n1, n2, fun v hv' => by have := hv v hv'; omega, h7⟩
        · refine ⟨_, rfl, p, _, rfl, .inl (SqL.of h7), _, _, rfl, rfl, _, rfl, ite2 (fun c5 => ?_) (fun c5 => ?_)⟩
          · have c6 := of_decide_eq_true c5
            have tt : to_.toNat < ms.length := by omega
            refine ⟨_, rfl, .inl ⟨rfl, iv ms, SqL.of h7⟩, _, rfl, _, rfl, _, rfl, p, iv ms, to_, _, rfl, rfl, SqL.of h7, atI_iv t0 (by omega), p, _, at_, _, rfl, rfl, h7, small_line (by omega), a0, by omega, ?_⟩
            refine main _ _ ⟨⟨_, _, rfl⟩, b47.own hp, (g7.upd_ne npg.symm).le (by omega), ms.take at_.toNat ++ [ms.getD to_.toNat 0] ++ ms.drop at_.toNat, ?_, ?_, fun v hv' => ?_, ?_⟩
            · simp only [List.length_append, List.length_take, List.length_drop, List.length_cons, List.length_nil]; omega
            · simp only [List.length_append, List.length_take, List.length_drop, List.length_cons, List.length_nil]; omega
            · have ve : v ∈ ms := by
                rcases List.mem_append.mp hv' with z | z
                · rcases List.mem_append.mp z with z | z
                  · exact List.mem_of_mem_take z
                  · rw [List.mem_singleton.mp z, List.getD_eq_getElem?_getD, List.getElem?_eq_getElem tt]
                    exact List.getElem_mem tt
                · exact List.mem_of_mem_drop z
              have := hv v ve
              omega
            · rw [upd_same]
              unfold iv
              rw [List.map_append, List.map_append, List.map_take, List.map_drop]
              rfl
          · exact main _ _ ⟨⟨_, _, rfl⟩, b47, g7.le (by omega), ms, n1, n2, fun v hv' => by have := hv v hv'; omega, h7⟩
  · clear b4 g4 h4
    rintro σ H4 ⟨⟨v3, v4, v5, v6, v7, rfl⟩, b4, g4, ms, n1, n2, hv, h4⟩
    have e200 : isOD (dI (List.replicate 200 0)) = true := by rw [isOD_dI]; decide
    have er : isOD (dI (rg 200)) = true := by rw [isOD_dI]; decide
    refine ⟨(by decide : 1 ≤ sizeLine), fun s1 k1 => ⟨s1, 200, [.int 0], rfl, rfl, upd_same, by decide, by decide, by decide, fun s2 k2 => ?_⟩⟩
    rw [iv_rep]
    refine ⟨.ref s2, dI (List.replicate 200 0), _, rfl, dx_dI upd_same, ?_⟩
    rw [e200]
    refine ⟨true, true, rfl, rfl, _, rfl, iteT ?_⟩
    refine ⟨_, rfl, RgOk.of_le (by decide) (by decide) (by decide) (by decide), fun s3 k3 => ?_⟩
    rw [show rgV 0 200 = iv (rg 200) from rgV_rg 200]
    refine ⟨.ref s3, dI (rg 200), _, rfl, dx_dI upd_same, ?_⟩
    rw [er]
    exact ⟨true, true, rfl, rfl, k _ (((b4.new k1).new k2).new k3)⟩
end
end SH

namespace SH
open PySem PySem.Spec PyProof.Rows L2
abbrev s_law : Stmt := topS 15
abbrev N_law : List Str := ["script", "k", "cell"]
abbrev P_law : List Str := ["script"]
theorem sc_law : FnScope N_law P_law (defScope s_law) := ⟨rfl, rfl, rfl, by decide +kernel, rfl, by decide +kernel, by decide +kernel⟩
section
variable {P : Program} {w : World} {K : PySem.W.Frag} {mg : Str → Option Value} {base : Heap}
theorem cut_ints (ns : List Int) (lo hi : Option Int) : ∃ ms : List Int, cutV (iv ns) lo hi = iv ms ∧ ms.length ≤ ns.length := by
  refine ⟨(ns.drop (HT.sIx (iv ns).length 0 lo)).take (HT.sIx (iv ns).length (iv ns).length hi - HT.sIx (iv ns).length 0 lo), ?_, ?_⟩
  · unfold cutV iv
    rw [List.map_take, List.map_drop]
  · rw [List.length_take, List.length_drop]
    omega
/-- the law's promise -/
def sp_law (K : PySem.W.Frag) : Sp := fun vs H Q _ => ∃ (a : Addr) (ns : List Int), vs = [.ref a] ∧ SqL K H a (iv ns) ∧ ns.length ≤ 63 ∧ ∀ H', Q (.bl true) H'
theorem ok_law (T : Txt mg) (h : At K mg "law" s_law)
    (g_law_source : Has P w K mg base CX0 2 "_law_source" s_law_source P_law_source sp_law_source)
    (g_law_holds : Has P w K mg base CX0 6 "_law_holds" s_law_holds P_law_holds sp_law_holds) :
    Has P w K mg base CX0 7 "law" s_law P_law (sp_law K) := by
  refine Has.of h sc_law (fun vs H Q E h => ?_) (fun _ _ _ _ _ _ us hl => match us, hl with | [_], _ => rfl) (fun f cdv A outer s H vs Q E room qt h => ?_)
  · obtain ⟨a, ns, rfl, _⟩ := h; rfl
  obtain ⟨a, ns, rfl, ha, hl, k⟩ := h
  refine ⟨_, (pss_cons (ps_for PassesOwn.never rfl (pi_enum (by rfl) T.enumerate (pa_cons (pe_slice sl_list (pe_op op_catS (pv 0) (pe_lst (pa_cons pe_int pa_nil))) po_none (po_some (pe_callB (call_max2 rfl) (by rfl) T.max (by decide +kernel) (pa_cons pe_int (pa_cons (pe_callB (call_min2 rfl) (by rfl) T.min (by decide +kernel) (pa_cons (pe_callB call_len_seq (by rfl) T.len (by decide +kernel) (pa_cons (pv 0) pa_nil)) (pa_cons pe_int pa_nil))) pa_nil))))) pa_nil)) (pg_tup rfl (pgs_cons (pg_name (i := 1) sc_law.nd rfl (Or.inl rfl) (hf := Or.inl rfl)) (pgs_cons (pg_name (i := 2) sc_law.nd rfl (Or.inl rfl) (hf := Or.inl rfl)) pgs_nil)))
        (pss_one (ps_if (pt_not (pt_val (pe_has g_law_holds (room.mono (by decide)) qt (by rfl) pass0 (pa_cons (pe_has g_law_source (room.mono (by decide)) qt (by rfl) pass0 (pa_cons (pv 2) (pa_cons (pv 1) pa_nil))) (pa_cons (pe_ifExp (pt_cmpR (op_eqD room.units) (pv 0) (pe_lst pa_nil) (nomark _)) pe_int pe_int) pa_nil)))))
          (pss_one (ps_ret pe_bl))
          pss_nil)))
      (pss_one (ps_ret pe_bl))), ?_⟩
  -- (script + [0])[:max(1, min(len(script), 16))]
  refine ⟨_, rfl, (by decide : 1 ≤ sizeLine), fun p1 n1 => ⟨a, p1, iv ns, [.int 0], rfl, rfl, (Same.new n1).seq ha, SqL.of upd_same, Nat.le_of_lt (small_line (by rw [List.length_map]; show ns.length + 1 < 100000; omega)), fun p2 n2 => ?_⟩⟩
  have s2 : Same H (upd (upd H p1 (.lst [.int 0])) p2 (.lst (iv ns ++ [.int 0]))) := (Same.new n1).trans (Same.new n2)
  have h2 : (upd (upd H p1 (.lst [.int 0])) p2 (.lst (iv ns ++ [.int 0]))) p2 = some (.lst (iv (ns ++ [0]))) := by rw [upd_same, iv_snoc]
  generalize upd (upd H p1 (.lst [.int 0])) p2 (.lst (iv ns ++ [.int 0])) = H2 at s2 h2 ⊢
  refine ⟨_, rfl, a, _, rfl, .inl (s2.seq ha), _, _, rfl, _, _, rfl, _, rfl, p2, _, rfl, SqL.of h2, fun p3 n3 => ?_⟩
  obtain ⟨ms, em, lm⟩ := cut_ints (ns ++ [0]) none (some (if (if (16 : Int) < ((iv ns).length : Int) then 16 else ((iv ns).length : Int)) > 1 then (if (16 : Int) < ((iv ns).length : Int) then 16 else ((iv ns).length : Int)) else 1))
  rw [List.length_append] at lm
  have lm' : ms.length ≤ 64 := by have : ([0] : List Int).length = 1 := rfl; omega
  have s3 : Same H (upd H2 p3 (.lst (iv ms))) := s2.trans (Same.new n3)
  have h3 : (upd H2 p3 (.lst (iv ms))) p3 = some (.lst (iv ms)) := upd_same
  refine ⟨p3, iv ms, rfl, SqL.of (by rw [em]; exact h3), ?_⟩
  rw [em]
  generalize upd H2 p3 (.lst (iv ms)) = H3 at s3 h3 ⊢
  refine for_enum (K := K) (a := p3) (xs := iv ms) (fun i σ H4 => (∃ v1 v2, σ = [some (.ref a), v1, v2]) ∧ Same H3 H4) ⟨⟨_, _, rfl⟩, Same.refl _⟩ (fun i σ H4 _ e => SqL.of (e.2 _ _ h3)) ?_ ?_
  · rintro i v Tt σ H4 hi ⟨⟨v1, v2, rfl⟩, s4⟩ hT
    have il : i < ms.length := by have := (List.getElem?_eq_some_iff.mp hi).1; rwa [List.length_map] at this
    rw [iv_at il] at hi
    cases hi
    refine ⟨Tt, _, rfl, SqT.of upd_same, rfl, _, _, rfl, _, _, rfl, rfl, ?_⟩
    -- if not _law_holds(_law_source(cell, k), 6 if script == [] else 200)
    refine ⟨_, rfl, _, rfl, _, _, rfl, by omega, by omega, fun x y y0 y1 p4 n4 => ?_⟩
    have s5 : Same H3 (upd (upd H4 Tt (.tup [.int (i : Nat), .int (ms.getD i 0)])) p4 (.lst [.int x, .int y, .int 0])) := (s4.trans (Same.new hT)).trans (Same.new n4)
    have h5 : (upd (upd H4 Tt (.tup [.int (i : Nat), .int (ms.getD i 0)])) p4 (.lst [.int x, .int y, .int 0])) p4 = some (.lst [.int x, .int y, .int 0]) := upd_same
    have hp4 : H3 p4 = none := (s4.trans (Same.new hT)).free n4
    generalize upd (upd H4 Tt (.tup [.int (i : Nat), .int (ms.getD i 0)])) p4 (.lst [.int x, .int y, .int 0]) = H5 at s5 h5 ⊢
    refine ⟨_, rfl, (by decide : 0 ≤ sizeLine), fun p5 n5 => eqD_ints (ns := ns) (ms := []) ((Same.new n5).seq ((s3.trans s5).seq ha)) (SqL.of upd_same) ?_⟩
    have s6 : Same H3 (upd H5 p5 (.lst [])) := s5.trans (Same.new n5)
    have h6 := Same.new (o := .lst []) n5 _ _ h5
    generalize upd H5 p5 (.lst []) = H6 at s6 h6 ⊢
    refine ⟨_, rfl, ite2 (fun c => ?_) (fun c => ?_)⟩
    · exact ⟨p4, 6, 0, rfl, ⟨x, y, 0, h6, y0, y1, by decide, by decide⟩, by decide, by decide, by decide, fun H7 b7 => ⟨_, rfl, iteF ⟨⟨_, _, rfl⟩, Same.but s6 hp4 b7⟩⟩⟩
    · exact ⟨p4, 200, 0, rfl, ⟨x, y, 0, h6, y0, y1, by decide, by decide⟩, by decide, by decide, by decide, fun H7 b7 => ⟨_, rfl, iteF ⟨⟨_, _, rfl⟩, Same.but s6 hp4 b7⟩⟩⟩
  · rintro σ H4 ⟨⟨v1, v2, rfl⟩, s4⟩
    exact k H4
end
end SH

namespace SH
open PySem PySem.Spec PyProof.Rows L2
/-! ### the end -/
theorem all_mk {l : PySem.W.OpenLaw} {w : World} {K : PySem.W.Frag} {h : Heap} {mg : Str → Option Value} {fa : Addr} (X : K.In h) (G : h.Ns mainGlobals mg) (hfa : mg "law" = some (.ref fa))
    {f0 f1 f2 f3 f4 f5 f6 f7 f8 f9 f10 : Addr} {od0 an0 od1 an1 od2 an2 od3 an3 od4 an4 od5 an5 od6 an6 od7 an7 od8 an8 od9 an9 od10 an10 : Option Addr} {sl0 sl1 sl2 sl3 sl4 sl5 sl6 sl7 sl8 sl9 sl10 : Array (Option Value)}
    {oc0 kV0 dc0 pm0 cd0 ct0 oc1 kV1 dc1 pm1 cd1 ct1 oc2 kV2 dc2 pm2 cd2 ct2 oc3 kV3 dc3 pm3 cd3 ct3 oc4 kV4 dc4 pm4 cd4 ct4 oc5 kV5 dc5 pm5 cd5 ct5 oc6 kV6 dc6 pm6 cd6 ct6 oc7 kV7 dc7 pm7 cd7 ct7 oc8 kV8 dc8 pm8 cd8 ct8 oc9 kV9 dc9 pm9 cd9 ct9 oc10 kV10 dc10 pm10 cd10 ct10 : Value} {t_MOST_LINES : Tok}
    (a0 : PySem.W.nsIn K mainGlobals "is_integer_from" = some (some (.ref f0)))
    (l0 : K.lookup f0 = some ⟨oc0, od0, .func (PySem.W.fnOf "is_integer_from" "is_integer_from" (defArgs s_is_integer_from) (defBody s_is_integer_from) (defScope s_is_integer_from) .none kV0 dc0 pm0 an0 cd0 ct0), sl0⟩)
    (c0 : PySem.W.codeIn K cd0 "is_integer_from" = true) (k0 : PySem.W.keepIn K (.ref f0) = true)
    (a1 : PySem.W.nsIn K mainGlobals "is_integer_within" = some (some (.ref f1)))
    (l1 : K.lookup f1 = some ⟨oc1, od1, .func (PySem.W.fnOf "is_integer_within" "is_integer_within" (defArgs s_is_integer_within) (defBody s_is_integer_within) (defScope s_is_integer_within) .none kV1 dc1 pm1 an1 cd1 ct1), sl1⟩)
    (c1 : PySem.W.codeIn K cd1 "is_integer_within" = true) (k1 : PySem.W.keepIn K (.ref f1) = true)
    (a2 : PySem.W.nsIn K mainGlobals "is_outline" = some (some (.ref f2)))
    (l2 : K.lookup f2 = some ⟨oc2, od2, .func (PySem.W.fnOf "is_outline" "is_outline" (defArgs s_is_outline) (defBody s_is_outline) (defScope s_is_outline) .none kV2 dc2 pm2 an2 cd2 ct2), sl2⟩)
    (c2 : PySem.W.codeIn K cd2 "is_outline" = true) (k2 : PySem.W.keepIn K (.ref f2) = true)
    (a3 : PySem.W.nsIn K mainGlobals "_law_source" = some (some (.ref f3)))
    (l3 : K.lookup f3 = some ⟨oc3, od3, .func (PySem.W.fnOf "_law_source" "_law_source" (defArgs s_law_source) (defBody s_law_source) (defScope s_law_source) .none kV3 dc3 pm3 an3 cd3 ct3), sl3⟩)
    (c3 : PySem.W.codeIn K cd3 "_law_source" = true) (k3 : PySem.W.keepIn K (.ref f3) = true)
    (a4 : PySem.W.nsIn K mainGlobals "_law_draw" = some (some (.ref f4)))
    (l4 : K.lookup f4 = some ⟨oc4, od4, .func (PySem.W.fnOf "_law_draw" "_law_draw" (defArgs s_law_draw) (defBody s_law_draw) (defScope s_law_draw) .none kV4 dc4 pm4 an4 cd4 ct4), sl4⟩)
    (c4 : PySem.W.codeIn K cd4 "_law_draw" = true) (k4 : PySem.W.keepIn K (.ref f4) = true)
    (a5 : PySem.W.nsIn K mainGlobals "_law_depths" = some (some (.ref f5)))
    (l5 : K.lookup f5 = some ⟨oc5, od5, .func (PySem.W.fnOf "_law_depths" "_law_depths" (defArgs s_law_depths) (defBody s_law_depths) (defScope s_law_depths) .none kV5 dc5 pm5 an5 cd5 ct5), sl5⟩)
    (c5 : PySem.W.codeIn K cd5 "_law_depths" = true) (k5 : PySem.W.keepIn K (.ref f5) = true)
    (a6 : PySem.W.nsIn K mainGlobals "_law_is_right" = some (some (.ref f6)))
    (l6 : K.lookup f6 = some ⟨oc6, od6, .func (PySem.W.fnOf "_law_is_right" "_law_is_right" (defArgs s_law_is_right) (defBody s_law_is_right) (defScope s_law_is_right) .none kV6 dc6 pm6 an6 cd6 ct6), sl6⟩)
    (c6 : PySem.W.codeIn K cd6 "_law_is_right" = true) (k6 : PySem.W.keepIn K (.ref f6) = true)
    (a7 : PySem.W.nsIn K mainGlobals "_law_checked" = some (some (.ref f7)))
    (l7 : K.lookup f7 = some ⟨oc7, od7, .func (PySem.W.fnOf "_law_checked" "_law_checked" (defArgs s_law_checked) (defBody s_law_checked) (defScope s_law_checked) .none kV7 dc7 pm7 an7 cd7 ct7), sl7⟩)
    (c7 : PySem.W.codeIn K cd7 "_law_checked" = true) (k7 : PySem.W.keepIn K (.ref f7) = true)
    (a8 : PySem.W.nsIn K mainGlobals "_law_bad_depths" = some (some (.ref f8)))
    (l8 : K.lookup f8 = some ⟨oc8, od8, .func (PySem.W.fnOf "_law_bad_depths" "_law_bad_depths" (defArgs s_law_bad_depths) (defBody s_law_bad_depths) (defScope s_law_bad_depths) .none kV8 dc8 pm8 an8 cd8 ct8), sl8⟩)
    (c8 : PySem.W.codeIn K cd8 "_law_bad_depths" = true) (k8 : PySem.W.keepIn K (.ref f8) = true)
    (a9 : PySem.W.nsIn K mainGlobals "_law_holds" = some (some (.ref f9)))
    (l9 : K.lookup f9 = some ⟨oc9, od9, .func (PySem.W.fnOf "_law_holds" "_law_holds" (defArgs s_law_holds) (defBody s_law_holds) (defScope s_law_holds) .none kV9 dc9 pm9 an9 cd9 ct9), sl9⟩)
    (c9 : PySem.W.codeIn K cd9 "_law_holds" = true) (k9 : PySem.W.keepIn K (.ref f9) = true)
    (a10 : PySem.W.nsIn K mainGlobals "law" = some (some (.ref f10)))
    (l10 : K.lookup f10 = some ⟨oc10, od10, .func (PySem.W.fnOf "law" "law" (defArgs s_law) (defBody s_law) (defScope s_law) .none kV10 dc10 pm10 an10 cd10 ct10), sl10⟩)
    (c10 : PySem.W.codeIn K cd10 "law" = true) (k10 : PySem.W.keepIn K (.ref f10) = true)
    (z_len : PySem.W.nsIn K mainGlobals "len" = some none)
    (z_range : PySem.W.nsIn K mainGlobals "range" = some none)
    (z_repr : PySem.W.nsIn K mainGlobals "repr" = some none)
    (z_min : PySem.W.nsIn K mainGlobals "min" = some none)
    (z_max : PySem.W.nsIn K mainGlobals "max" = some none)
    (z_int : PySem.W.nsIn K mainGlobals "int" = some none)
    (z_list : PySem.W.nsIn K mainGlobals "list" = some none)
    (z_type : PySem.W.nsIn K mainGlobals "type" = some none)
    (z_bool : PySem.W.nsIn K mainGlobals "bool" = some none)
    (z_tuple : PySem.W.nsIn K mainGlobals "tuple" = some none)
    (z_isinstance : PySem.W.nsIn K mainGlobals "isinstance" = some none)
    (z_enumerate : PySem.W.nsIn K mainGlobals "enumerate" = some none)
    (z_str : PySem.W.nsIn K mainGlobals "str" = some none)
    (z_zip : PySem.W.nsIn K mainGlobals "zip" = some none)
    (z_all : PySem.W.nsIn K mainGlobals "all" = some none)
    (z_any : PySem.W.nsIn K mainGlobals "any" = some none)
    (z_sum : PySem.W.nsIn K mainGlobals "sum" = some none)
    (z_abs : PySem.W.nsIn K mainGlobals "abs" = some none)
    (z_sorted : PySem.W.nsIn K mainGlobals "sorted" = some none)
    (z_set : PySem.W.nsIn K mainGlobals "set" = some none)
    (z_dict : PySem.W.nsIn K mainGlobals "dict" = some none)
    (z_reversed : PySem.W.nsIn K mainGlobals "reversed" = some none)
    (z_divmod : PySem.W.nsIn K mainGlobals "divmod" = some none)
    (m_MOST_LINES : PySem.W.nsIn K mainGlobals "MOST_LINES" = some (some (.int 200 t_MOST_LINES)))
    : ∃ fd : FuncData, (∀ (s : Shared) (v : Value), BindsTo s fd ⟨[v], []⟩ [("script", v)]) ∧
      ∀ base : Heap, K.In base → base.Ns mainGlobals mg → FnG l.prog w K mg base CX0 7 fa fd ["script"] (sp_law K) := by
  have T : Txt mg := ⟨PySem.W.mg_none_of X G z_len, PySem.W.mg_none_of X G z_range, PySem.W.mg_none_of X G z_repr, PySem.W.mg_none_of X G z_min, PySem.W.mg_none_of X G z_max, PySem.W.mg_none_of X G z_int, PySem.W.mg_none_of X G z_list, PySem.W.mg_none_of X G z_type, PySem.W.mg_none_of X G z_bool, PySem.W.mg_none_of X G z_tuple, PySem.W.mg_none_of X G z_isinstance, PySem.W.mg_none_of X G z_enumerate, PySem.W.mg_none_of X G z_str, PySem.W.mg_none_of X G z_zip, PySem.W.mg_none_of X G z_all, PySem.W.mg_none_of X G z_any, PySem.W.mg_none_of X G z_sum, PySem.W.mg_none_of X G z_abs, PySem.W.mg_none_of X G z_sorted, PySem.W.mg_none_of X G z_set, PySem.W.mg_none_of X G z_dict, PySem.W.mg_none_of X G z_reversed, PySem.W.mg_none_of X G z_divmod⟩
  have c_MOST_LINES := PySem.W.mg_of X G m_MOST_LINES
  have at_is_integer_from : At K mg "is_integer_from" s_is_integer_from := ⟨f0, _, fun_mk l0 c0 k0, PySem.W.mg_of X G a0⟩
  have at_is_integer_within : At K mg "is_integer_within" s_is_integer_within := ⟨f1, _, fun_mk l1 c1 k1, PySem.W.mg_of X G a1⟩
  have at_is_outline : At K mg "is_outline" s_is_outline := ⟨f2, _, fun_mk l2 c2 k2, PySem.W.mg_of X G a2⟩
  have at_law_source : At K mg "_law_source" s_law_source := ⟨f3, _, fun_mk l3 c3 k3, PySem.W.mg_of X G a3⟩
  have at_law_draw : At K mg "_law_draw" s_law_draw := ⟨f4, _, fun_mk l4 c4 k4, PySem.W.mg_of X G a4⟩
  have at_law_depths : At K mg "_law_depths" s_law_depths := ⟨f5, _, fun_mk l5 c5 k5, PySem.W.mg_of X G a5⟩
  have at_law_is_right : At K mg "_law_is_right" s_law_is_right := ⟨f6, _, fun_mk l6 c6 k6, PySem.W.mg_of X G a6⟩
  have at_law_checked : At K mg "_law_checked" s_law_checked := ⟨f7, _, fun_mk l7 c7 k7, PySem.W.mg_of X G a7⟩
  have at_law_bad_depths : At K mg "_law_bad_depths" s_law_bad_depths := ⟨f8, _, fun_mk l8 c8 k8, PySem.W.mg_of X G a8⟩
  have at_law_holds : At K mg "_law_holds" s_law_holds := ⟨f9, _, fun_mk l9 c9 k9, PySem.W.mg_of X G a9⟩
  have at_law : At K mg "law" s_law := ⟨f10, _, fun_mk l10 c10 k10, PySem.W.mg_of X G a10⟩
  refine ⟨PySem.W.fnOf "law" "law" (defArgs s_law) (defBody s_law) (defScope s_law) .none kV10 dc10 pm10 an10 cd10 ct10, fun s v => .of_eq rfl, fun base _ _ => ?_⟩
  have G_is_integer_from := ok_is_integer_from (P := l.prog) (w := w) (base := base) T at_is_integer_from
  have G_is_integer_within := ok_is_integer_within (P := l.prog) (w := w) (base := base) T at_is_integer_within G_is_integer_from
  have G_is_outline := ok_is_outline (P := l.prog) (w := w) (base := base) T c_MOST_LINES at_is_outline G_is_integer_within
  have G_law_source := ok_law_source (P := l.prog) (w := w) (base := base) T at_law_source
  have G_law_draw := ok_law_draw (P := l.prog) (w := w) (base := base) T at_law_draw
  have G_law_depths := ok_law_depths (P := l.prog) (w := w) (base := base) T at_law_depths G_law_draw
  have G_law_is_right := ok_law_is_right (P := l.prog) (w := w) (base := base) T at_law_is_right
  have G_law_checked := ok_law_checked (P := l.prog) (w := w) (base := base) T at_law_checked G_is_outline G_law_is_right
  have G_law_bad_depths := ok_law_bad_depths (P := l.prog) (w := w) (base := base) T at_law_bad_depths (G_law_draw.imp draw_imp)
  have G_law_holds := ok_law_holds (P := l.prog) (w := w) (base := base) T at_law_holds (G_law_draw.imp draw_imp) (G_law_depths.imp depths_imp) G_law_bad_depths G_law_is_right G_law_checked G_is_outline
  obtain ⟨f, fd, F, m, R, _⟩ := ok_law (P := l.prog) (w := w) (base := base) T at_law G_law_source G_law_holds
  have e1 := m.symm.trans hfa
  cases e1
  have e2 := (PySem.W.mg_of X G a10).symm.trans hfa
  cases e2
  obtain ⟨_, _, _, _, _, _, _, _, _, _, lk, _⟩ := F.ex
  rw [l10] at lk
  cases lk
  exact R
theorem walk {l : PySem.W.OpenLaw} {q : Program} {loose : List Str} {XP : (Str → Option Value) → Heap → Prop} {YP : World → Heap → Prop} {d : DefRec} {K : Params → PySem.W.Frag}
    (hn : l.most = some 63) (hdf : d.params.defaults = []) (hY : ∀ (w : World) (h : Heap), YP w h → (K w.params).In h)
    (F : ∀ (w : World) (mg : Str → Option Value) (fa : Addr) (h : Heap), (K w.params).In h → h.Ns mainGlobals mg → mg d.name = some (.ref fa) →
      ∃ fd : FuncData, (∀ (s : Shared) (u : Value), BindsTo s fd ⟨[u], []⟩ [("script", u)]) ∧ ∀ base : Heap, (K w.params).In base → base.Ns mainGlobals mg →
        FnG l.prog w (K w.params) mg base CX0 7 fa fd ["script"] (sp_law (K w.params))) :
    PySem.W.WalkO q loose XP YP l.row.toRowW d [] (fun f vs => PySem.call f vs) :=
  walkG (n := 63) (k := 7) (x := "script") (CX := fun _ => CX0) (sp := fun w => sp_law (K w.params)) hn (by decide) hdf ⟨rfl, by decide, by decide⟩ hY F
    (fun _ _ a ns hl _ hS => ⟨a, ns, rfl, hS, hl, fun _ => rfl⟩) fun _ _ _ _ _ z => z
end SH
open PySem PySem.W PyProof.Rows
set_option maxRecDepth 100000 in
set_option maxHeartbeats 0 in
theorem PySem.Challenge.cw_stickyheads_k01_outlines_recognized_holds : PySem.Challenge.rw_stickyheads_k01_outlines_recognized.Holds := by
  w_on; o_law; k_head; (case hw => w_witness2)
  k_fill
  refine SH.walk (l := PySem.Challenge.rw_stickyheads_k01_outlines_recognized) rfl rfl (fun w h Y => PySem.W.kIn_of Y) ?F
  case F =>
    intro w mg fa h KX G hmg
    refine' SH.all_mk KX G hmg ?a0 ?l0 ?c0 ?k0 ?a1 ?l1 ?c1 ?k1 ?a2 ?l2 ?c2 ?k2 ?a3 ?l3 ?c3 ?k3 ?a4 ?l4 ?c4 ?k4 ?a5 ?l5 ?c5 ?k5 ?a6 ?l6 ?c6 ?k6 ?a7 ?l7 ?c7 ?k7 ?a8 ?l8 ?c8 ?k8 ?a9 ?l9 ?c9 ?k9 ?a10 ?l10 ?c10 ?k10 ?z_len ?z_range ?z_repr ?z_min ?z_max ?z_int ?z_list ?z_type ?z_bool ?z_tuple ?z_isinstance ?z_enumerate ?z_str ?z_zip ?z_all ?z_any ?z_sum ?z_abs ?z_sorted ?z_set ?z_dict ?z_reversed ?z_divmod ?m_MOST_LINES
    (case a0 => k_is); (case l0 => k_is); (case c0 => k_is); (case k0 => k_is); (case a1 => k_is); (case l1 => k_is); (case c1 => k_is); (case k1 => k_is)
    (case a2 => k_is); (case l2 => k_is); (case c2 => k_is); (case k2 => k_is); (case a3 => k_is); (case l3 => k_is); (case c3 => k_is); (case k3 => k_is)
    (case a4 => k_is); (case l4 => k_is); (case c4 => k_is); (case k4 => k_is); (case a5 => k_is); (case l5 => k_is); (case c5 => k_is); (case k5 => k_is)
    (case a6 => k_is); (case l6 => k_is); (case c6 => k_is); (case k6 => k_is); (case a7 => k_is); (case l7 => k_is); (case c7 => k_is); (case k7 => k_is)
    (case a8 => k_is); (case l8 => k_is); (case c8 => k_is); (case k8 => k_is); (case a9 => k_is); (case l9 => k_is); (case c9 => k_is); (case k9 => k_is)
    (case a10 => k_is); (case l10 => k_is); (case c10 => k_is); (case k10 => k_is); (case z_len => k_is); (case z_range => k_is); (case z_repr => k_is); (case z_min => k_is)
    (case z_max => k_is); (case z_int => k_is); (case z_list => k_is); (case z_type => k_is); (case z_bool => k_is); (case z_tuple => k_is); (case z_isinstance => k_is); (case z_enumerate => k_is)
    (case z_str => k_is); (case z_zip => k_is); (case z_all => k_is); (case z_any => k_is); (case z_sum => k_is); (case z_abs => k_is); (case z_sorted => k_is); (case z_set => k_is)
    (case z_dict => k_is); (case z_reversed => k_is); (case z_divmod => k_is); (case m_MOST_LINES => k_is)

