import PyProof.Rows.All
import Wide.All
import OpenK.AllK
import Wide.FinOn
import PyProof.EqAt
import PyProof.EqKinds
import PyProof.TupleCall
import PyProof.ReprRoads
import HandS.Base
import HandS.Call
import HandS.List
import HandS.Comp
import HandS.Iter
import HandS.Ends
import HandS.Words
import HandS.WordsList
import PyProof.TypeEq
import PyProof.InstEq
import HandS.IsInst
import HandS.Zip
import HandS.Wide
import HandS.Evl
import HandS.Conv
import HandS.RevRange
import PyProof.ReprLen
import PyProof.Rows.RegStrFacts
import HandS.SetFor
import HandS.Strs
import HandS.SortInts
import PyProof.Rows.SortShellAny
import HandS.Style
import PySem.Challenge.RW_stickyheads_k40_lines_left_by_folds
set_option Elab.async false
set_option linter.all false
set_option maxRecDepth 100000
/-! SH0: calls where no repr is running: the promise of a def under an empty list of guards. -/
namespace SH
open PySem PySem.Spec PyProof.Rows L2

/-- nothing that guards itself (repr and its like) runs around -/
abbrev Quiet (A : Around) : Prop := A.guards = some []

structure FnG (P : Program) (w : World) (K : PySem.W.Frag) (mg : Str → Option Value) (base : Heap)
    (CX : CXT) (k : Nat) (f : Addr) (fd : FuncData) (ps : List Str) (sp : Sp) : Prop where
  arity : ∀ vs H Q E, sp vs H Q E → vs.length = ps.length
  go : ∀ (A : Around) (outer : List Env) (s : Shared) (H : Hp) (args : Args) (us : List Value) (vs : List V)
    (Q : VK) (E : XK), Room k A → Quiet A → Env0 P w K mg base A outer s H →
    BindsTo s fd args (ps.zip us) → Vals vs us → sp vs H Q E →
    codeAny (model P w) A (.call (.ref f) args) (CR CX outer P w H s Q E) s

section
variable {X : Cx} {CX : CXT} {k : Nat} {f : Addr} {fd : FuncData} {ps ks : List Str} {sp : Sp}
  {dvs : List V} {ds : List Value} {E : XK} {x : Str} {p pos : Pos} {e : Expr} {es : List Expr} {t tk : TA}
  {kws : List Keyword} {g : List Value → List Value → List Value} {gV : List V → List V → List V}

theorem endG {pins : List (Addr × Obj)} {σ : L2.St} {H : Hp} {s : Shared} {Q : VK} (I : Inv X pins σ H s)
    (hx : Passes CX X E) : ∀ (r : Result) (s' : Shared), CR CX X.stack X.prog X.w H s Q E r s' →
    (match r with
      | .ok (.ret u) => EP X pins σ Q u s'
      | .ok _ => False
      | .error e => X.xe e s')
  | .error e, s', q => hx pins σ H s e s' I q
  | .ok (.ret _), _, q => I.after q
  | .ok .next, _, q => False.elim q
  | .ok .brk, _, q => False.elim q
  | .ok .cont, _, q => False.elim q

theorem goG {pins : List (Addr × Obj)} {σ : L2.St} {H : Hp} {s : Shared} {Q : VK} {us : List Value} {vs : List V}
    (F : FnG X.prog X.w X.K X.mg X.base CX k f fd ps sp) (room : Room k X.A) (qt : Quiet X.A)
    (hb : Binds X.K fd ps ds) (hd : Vals dvs ds) (hx : Passes CX X E)
    (I : Inv X pins σ H s) (r : Vals vs us) (h : sp (vs ++ dvs) H Q E) :
    wpAny (model X.prog X.w) X.A (call (.ref f) us) (EP X pins σ Q) X.xe s := by
  have rr : Vals (vs ++ dvs) (us ++ ds) := r.append hd
  have hlen : (us ++ ds).length = ps.length := by rw [← rr.length]; exact F.arity _ _ _ _ h
  refine wpAny_call (codeAny_mono (F.go X.A X.stack s H ⟨us, []⟩ (us ++ ds) (vs ++ dvs) Q E room qt
    I.env0 (hb s us I.kIn hlen) rr h) fun r s' hq => ?_)
  have := endG I hx r s' hq
  cases r with
  | error e => exact this
  | ok fl => cases fl with
    | ret u => exact this
    | _ => exact False.elim this

theorem pe_callG (F : FnG X.prog X.w X.K X.mg X.base CX k f fd ps sp) (room : Room k X.A) (qt : Quiet X.A)
    (hg : Gl X x) (hm : X.mg x = some (.ref f)) (hk : PySem.W.keepIn X.K (.ref f) = true)
    (hb : Binds X.K fd ps ds) (hd : Vals dvs ds) (hx : Passes CX X E) (ha : PA X (e :: es) t)
    (hdb : (x == ("__debug__" : Str)) = false := by decide)
    (he : starEach (e :: es) X.env = (false, eval e X.env) :: starEach es X.env := by rfl)
    (hpl : (backTo pos (starEach es X.env)).any (·.1) = false := by rfl) :
    PE X (.Call (.Name x p) (e :: es) [] pos) (tCall sp dvs E t) :=
  ⟨fun pins s σ H Q I h => wpAny_Call_Name_kw (ld_glob I hg hm
    (PySem.W.callWith_K (h₀ := X.base) I.ok.mod.kin hk
      (thn (ha.run pos pins s σ H _ I h) fun us s1 ⟨vs, H1, I1, r, q⟩ =>
        ⟨I1.kIn, goG F room qt hb hd hx I1 r q⟩) he hpl) hdb)⟩

theorem pe_callG0 (F : FnG X.prog X.w X.K X.mg X.base CX k f fd ps sp) (room : Room k X.A) (qt : Quiet X.A)
    (hg : Gl X x) (hm : X.mg x = some (.ref f)) (hk : PySem.W.keepIn X.K (.ref f) = true)
    (hb : Binds X.K fd ps ds) (hd : Vals dvs ds) (hx : Passes CX X E)
    (hdb : (x == ("__debug__" : Str)) = false := by decide) :
    PE X (.Call (.Name x p) [] [] pos) (tCall sp dvs E tNil) :=
  ⟨fun pins s σ H Q I h => wpAny_Call_Name_kw (ld_glob I hg hm
    (PySem.W.callWith_K0 I.kIn hk (goG (us := []) F room qt hb hd hx I .nil h)) hdb)⟩

theorem goGK {pins : List (Addr × Obj)} {σ : L2.St} {H : Hp} {s : Shared} {Q : VK} {us ws : List Value}
    {vs zs : List V} (F : FnG X.prog X.w X.K X.mg X.base CX k f fd ps sp) (room : Room k X.A) (qt : Quiet X.A)
    (hb : KBinds X.K fd ps ks g gV) (hx : Passes CX X E)
    (I : Inv X pins σ H s) (r : Vals vs us) (rz : Vals zs ws) (h : sp (gV vs zs) H Q E) :
    wpAny (model X.prog X.w) X.A (call (.ref f) us (ks.zip ws)) (EP X pins σ Q) X.xe s := by
  have rr := hb.rel r rz
  have hlen : (g us ws).length = ps.length := by rw [← rr.length]; exact F.arity _ _ _ _ h
  refine wpAny_call (codeAny_mono (F.go X.A X.stack s H ⟨us, ks.zip ws⟩ (g us ws) (gV vs zs) Q E room qt
    I.env0 (hb.to s us ws I.kIn hlen) rr h) fun r s' hq => ?_)
  have := endG I hx r s' hq
  cases r with
  | error e => exact this
  | ok fl => cases fl with
    | ret u => exact this
    | _ => exact False.elim this

/-- f(k = v, ..): no argument by position -/
theorem pe_callGK0 (F : FnG X.prog X.w X.K X.mg X.base CX k f fd ps sp) (room : Room k X.A)
    (qt : Quiet X.A) (hg : Gl X x) (hm : X.mg x = some (.ref f)) (hk : PySem.W.keepIn X.K (.ref f) = true)
    (hb : KBinds X.K fd ps ks g gV) (hx : Passes CX X E) (hkw : PK X kws tk)
    (hall : (backToKw pos (keywordEach kws X.env)).all (·.1.isSome) = true := by rfl)
    (hks : (backToKw pos (keywordEach kws X.env)).filterMap (·.1) = ks := by rfl)
    (hdb : (x == ("__debug__" : Str)) = false := by decide)
    (hpl : ((backTo pos (starEach [] X.env)).any (·.1) ||
      (backToKw pos (keywordEach kws X.env)).any (·.1.isNone)) = false := by rfl) :
    PE X (.Call (.Name x p) [] kws pos) (tCallK sp gV E tNil tk) :=
  ⟨fun pins s σ H Q I h => wpAny_Call_Name_kw (ld_glob I hg hm
    (PySem.W.callWith_KW0 (h₀ := X.base) I.ok.mod.kin hk hall
      (thn (hkw.run pos pins s σ H _ I h) fun ws s2 ⟨zs, H2, I2, rz, q2⟩ => ⟨I2.kIn, by
        rw [hks]
        exact goGK (us := []) (vs := []) F room qt hb hx I2 .nil rz q2⟩) hpl) hdb)⟩
end

/-! ### a def of the text, walked where all is quiet -/
section
variable {P : Program} {w : World} {K : PySem.W.Frag} {mg : Str → Option Value} {base : Heap}

theorem FnG.of {CX : CXT} {x qual : Str} {st : Stmt} {f : Addr} {fd : FuncData} {N ps : List Str} {k : Nat} {sp : Sp}
    (F : Fun K x qual st f fd) (S : FnScope N ps (defScope st)) (len : ∀ vs H Q E, sp vs H Q E → vs.length = ps.length)
    (walk : ∀ (cdv : Value) (A : Around) (outer : List Env) (s : Shared) (H : Hp) (vs : List V) (Q : VK) (E : XK),
      Room k (A.deeper (envOfC qual (defScope st) s.heap.objs.size f cdv)) →
      Quiet (A.deeper (envOfC qual (defScope st) s.heap.objs.size f cdv)) → sp vs H Q E →
      ∃ t, PSs (cxOf CX P w K mg base N qual (defScope st) f cdv A outer s H E) (defBody st) t ∧
        t { nx := fun _ H' => Q .non H', rt := Q } (start N vs) H) :
    FnG P w K mg base CX (k + 1) f fd ps sp := by
  obtain ⟨oc, od, kV, doc, pm, an, cdv, ct, osl, rfl, lk, hcd⟩ := F.ex
  refine ⟨len, fun A outer s H args us vs Q E room qt e0 hb r hsp => ?_⟩
  have hl := len _ _ _ _ hsp
  have inK : K.In s.heap := e0.mod.kin.keeps fun b o e => (e0.bs b o e).1
  have lim : s.heap.NoLimit := e0.mod.nolimit.keeps fun b o e => (e0.bs b o e).1
  have kinds : ∀ y ∈ ps.zip us, (defScope st).names.lookup y.1 = some .local ∨
      ((defScope st).names.lookup y.1 = some .cell ∧
        ((cellsFrom (s.heap.objs.size + 1) (defScope st).names []).lookup y.1).isSome = true) := by
    rintro ⟨n, v⟩ hy
    rcases S.par n (List.of_mem_zip hy).1 with z | z
    · exact .inl z
    · exact .inr ⟨z, PySem.W.cellsFrom_some _ _ _ (.inl z)⟩
  refine codeAny_call_function room.depth (inK _ _ lk) rfl S.co S.gen rfl (PySem.W.codeRec_of inK hcd) (hb _ _ _ _ ?_)
  refine wpAny_newFunctionEnv_cells S.kind kinds fun env he s1 ic => ?_
  subst he
  refine ⟨lim.keeps ic.toInCall.keep, codeAny_func ?_⟩
  obtain ⟨t, ht, hq⟩ := walk cdv A outer s H vs Q E (room.deeper _) (by exact qt) hsp
  have I := inv_start (CX := CX) (E := E) (P := P) (w := w) S room.hd e0 hl r ic
  refine wpAny_mono (ht.run [] s1 (start N vs) H _ I hq) (fun fl s' hs => ?_) fun e s' hs => hs
  cases fl with
  | ret u =>
    obtain ⟨v, σ', H', J, rv, q⟩ := hs
    exact ⟨v, H', J.os, J.bare, J.base, J.hok, rv, q⟩
  | next =>
    obtain ⟨σ', H', J, q⟩ := hs
    exact ⟨V.non, H', J.os, J.bare, J.base, J.hok, rfl, q⟩
  | brk => obtain ⟨_, _, _, q⟩ := hs; exact q.elim
  | cont => obtain ⟨_, _, _, q⟩ := hs; exact q.elim

/-- for a def that lets no error out -/
theorem FnG.ok {x qual : Str} {st : Stmt} {f : Addr} {fd : FuncData} {N ps : List Str} {k : Nat} {sp : Sp}
    (F : Fun K x qual st f fd) (S : FnScope N ps (defScope st)) (len : ∀ vs H Q E, sp vs H Q E → vs.length = ps.length)
    (walk : ∀ (cdv : Value) (A : Around) (outer : List Env) (s : Shared) (H : Hp) (vs : List V) (Q : VK) (E : XK),
      Room k (A.deeper (envOfC qual (defScope st) s.heap.objs.size f cdv)) →
      Quiet (A.deeper (envOfC qual (defScope st) s.heap.objs.size f cdv)) → sp vs H Q E →
      ∃ t, PSs (cxOf CX0 P w K mg base N qual (defScope st) f cdv A outer s H E).nox (defBody st) t ∧
        t { nx := fun _ H' => Q .non H', rt := Q } (start N vs) H) :
    FnG P w K mg base CX0 (k + 1) f fd ps sp :=
  FnG.of F S len fun cdv A outer s H vs Q E room qt hsp =>
    let ⟨t, h, q⟩ := walk cdv A outer s H vs Q E room qt hsp
    ⟨t, h.nox, q⟩
theorem FnG.mono {CX : CXT} {j k : Nat} {f : Addr} {fd : FuncData} {ps : List Str} {sp : Sp}
    (F : FnG P w K mg base CX j f fd ps sp) (h : j ≤ k) : FnG P w K mg base CX k f fd ps sp :=
  ⟨F.arity, fun A outer s H args us vs Q E room => F.go A outer s H args us vs Q E (room.mono h)⟩
end

/-! ### the law's own call: nothing runs around it -/
theorem frz_or {H : Hp} (hO : Only H) {b : Addr} {u : HO} (e : H b = some u) : ∃ o xs, u = .frz o (.lst xs) := by
  rcases hO b with z | ⟨o, xs, z⟩
  · rw [z] at e; cases e
  · rw [z] at e; exact ⟨o, xs, (Option.some.inj e).symm⟩

theorem lawG {P : Program} {w : World} {K : PySem.W.Frag} {mg mb : Str → Option Value} {CX : CXT} {k : Nat}
    {fa a : Addr} {fd : FuncData} {x : Str} {sp : Sp} {s₁ : Shared} {vs : List Value} {ns : List Int}
    (inK : K.In s₁.heap) (hns : s₁.heap.Ns mainGlobals mg) (hb : s₁.heap.Ns builtinsNs mb)
    (hbb : ∀ x : Str, x ≠ "__name__" → mb x = bootBuiltins x) (hlim : s₁.heap.NoLimit) (hg : s₁.gens = #[])
    (ha : s₁.heap.get? a = some { cls := .type "list", data := .seq vs.toArray }) (hi : IntsAre vs ns)
    (hl : ns.length ≤ sizeLine) (room : Room k callerA)
    (F : ∀ base : Heap, K.In base → base.Ns mainGlobals mg → FnG P w K mg base CX k fa fd [x] sp)
    (hbind : ∀ (s : Shared) (u : Value), BindsTo s fd ⟨[u], []⟩ [(x, u)])
    (hsp : ∀ H : Hp, Only H → SqL K H a (ns.map V.int) → sp [.ref a] H (fun v _ => v = .bl true) fun _ _ _ => False)
    (hCX : ∀ H e s', CX [] H s₁ (fun _ _ _ => False) e s' → False) :
    codeAny (model P w) callerA (.call (.ref fa) ⟨[.ref a], []⟩)
      (fun r s' => r = .ok (.ret (.bool true)) ∧ OldK s₁.heap s'.heap ∧ s'.os = s₁.os ∧ AllBare s'.gens) s₁ := by
  have rv := vals_ints hi
  have lenV := hi.length
  suffices core : ∀ H : Hp, Only H → SqL K H a (ns.map V.int) → HOk P w H s₁.heap →
      (∀ b o, s₁.heap.get? b = some o → (b ≠ a ∨ (K.lookup b).isSome = true) → H b = none) →
      codeAny (model P w) callerA (.call (.ref fa) ⟨[.ref a], []⟩)
        (fun r s' => r = .ok (.ret (.bool true)) ∧ OldK s₁.heap s'.heap ∧ s'.os = s₁.os ∧ AllBare s'.gens) s₁ by
    cases hk : K.lookup a with
    | some o =>
      have e := inK a o hk
      rw [ha] at e
      cases e
      exact core (fun _ => none) (fun _ => .inl rfl)
        (.inr ⟨_, vs.toArray, _, hk, rfl, rfl, rfl, by rw [List.size_toArray, lenV]; exact hl, by simpa using rv⟩)
        (fun b u z => by have z' : (none : Option HO) = some u := z; cases z') (fun _ _ _ _ => rfl)
    | none =>
      let H1 : Hp := fun b => if b = a then some (.frz { cls := .type "list", data := .seq vs.toArray } (.lst (ns.map V.int))) else none
      have h1a : H1 a = some (.frz { cls := .type "list", data := .seq vs.toArray } (.lst (ns.map V.int))) := if_pos rfl
      have h1n : ∀ b, b ≠ a → H1 b = none := fun b h => if_neg h
      refine core H1 (fun b => ?_) (.inl (.inr ⟨_, h1a⟩)) (fun b u z => ?_) (fun b o _ h => ?_)
      · by_cases hb : b = a
        · subst hb; exact .inr ⟨_, _, h1a⟩
        · exact .inl (h1n b hb)
      · by_cases hb : b = a
        · subst hb
          rw [h1a] at z
          cases z
          exact ⟨ha, by rw [List.length_map]; exact hl, vs, _, rv, ha⟩
        · rw [h1n b hb] at z; cases z
      · rcases h with h | h
        · exact h1n b h
        · by_cases hb : b = a
          · subst hb; rw [hk] at h; cases h
          · exact h1n b hb
  intro H hO hS hok hN
  have down : ∀ {b : Addr} {o : Obj}, s₁.heap.get? b = some o → (b ≠ a ∨ (K.lookup b).isSome = true) →
      (hidT s₁.heap H).get? b = some o := fun e c => hidT_get e (hN _ _ e c)
  have nsK : ∀ {b : Addr} {m : Str → Option Value}, s₁.heap.Ns b m → (hidT s₁.heap H).Ns b m := by
    rintro b m ⟨o, es, ep, e, d, r⟩
    refine ⟨o, es, ep, down e (.inl ?_), d, r⟩
    rintro rfl
    rw [ha] at e
    cases e
    cases d
  have hKb : K.In (hidT s₁.heap H) := fun b o e => down (inK b o e) (.inr (by rw [e]; rfl))
  have hM : Mod K mg (hidT s₁.heap H) := ⟨hKb, nsK hns, ⟨mb, nsK hb, hbb⟩, let ⟨mc, h1, h2⟩ := hlim; ⟨mc, nsK h1, h2⟩⟩
  have e0 : Env0 P w K mg (hidT s₁.heap H) callerA [] s₁ H := ⟨rfl, hM, fun b o e => of_hidT e,
    Nat.le_of_eq (hidT_size _ _), trivial, fun b hb => (List.not_mem_nil hb).elim, hok, AllBare.of_eq hg⟩
  refine codeAny_mono ((F _ hKb (nsK hns)).go callerA [] s₁ H ⟨[.ref a], []⟩ [.ref a] [.ref a] _ _ room rfl e0
    (hbind s₁ (.ref a)) (.cons rfl .nil) (hsp H hO hS)) fun r s' h => ?_
  match r, h with
  | .error e, h => exact (hCX H e s' h).elim
  | .ok .next, h => exact False.elim h
  | .ok .brk, h => exact False.elim h
  | .ok .cont, h => exact False.elim h
  | .ok (.ret u), h =>
    obtain ⟨v, H', os, bare, un, hok', r', q⟩ := h
    obtain rfl : v = .bl true := q
    obtain rfl : u = Value.bool true := r'
    refine ⟨rfl, OldK.of_keep fun b o e => ?_, os, bare⟩
    cases q : H b with
    | none => exact un.keep b o e q (List.not_mem_nil) (by simp)
    | some u =>
      obtain ⟨ob, xs, rfl⟩ := frz_or hO q
      obtain ⟨e1, _⟩ := hok b _ q
      obtain ⟨e2, _⟩ := hok' b _ (un.frzs b ob _ q)
      rw [e] at e1
      cases e1
      exact e2

theorem walkG {l : PySem.W.OpenLaw} {n k : Nat} {q : Program} {loose : List Str} {XP : (Str → Option Value) → Heap → Prop}
    {YP : World → Heap → Prop} {d : DefRec} {K : Params → PySem.W.Frag} {CX : World → CXT} {sp : World → Sp} {x : Str}
    (hn : l.most = some n) (hn2 : n ≤ sizeLine) (hdf : d.params.defaults = []) (room : Room k callerA)
    (hY : ∀ (w : World) (h : Heap), YP w h → (K w.params).In h)
    (F : ∀ (w : World) (mg : Str → Option Value) (fa : Addr) (h : Heap), (K w.params).In h → h.Ns mainGlobals mg →
      mg d.name = some (.ref fa) → ∃ fd : FuncData, (∀ (s : Shared) (u : Value), BindsTo s fd ⟨[u], []⟩ [(x, u)]) ∧
        ∀ base : Heap, (K w.params).In base → base.Ns mainGlobals mg →
          FnG l.prog w (K w.params) mg base (CX w) k fa fd [x] (sp w))
    (hsp : ∀ (w : World) (H : Hp) (a : Addr) (ns : List Int), ns.length ≤ n → Only H →
      SqL (K w.params) H a (ns.map V.int) → sp w [.ref a] H (fun v _ => v = .bl true) fun _ _ _ => False)
    (hCX : ∀ (w : World) (H : Hp) (s : Shared) (e : Value) (s' : Shared),
      CX w [] H s (fun _ _ _ => False) e s' → False) :
    PySem.W.WalkO q loose XP YP l.row.toRowW d [] (fun f vs => PySem.call f vs) := by
  refine Att.attach_call hn hdf fun w s₀ s₁ mg mb fa o pm cd doc a vs ns G Y ho hd hcd hmg hobj hints hlen hg => ?_
  obtain ⟨fd, hb, hF⟩ := F w mg fa _ (hY w _ Y) G.T.g hmg
  exact lawG (hY w _ Y) G.T.g G.T.b G.T.builtins G.T.nolimit hg hobj hints (Nat.le_trans hlen hn2) room hF hb
    (fun H hO hS => hsp w H a ns hlen hO hS) fun H e s' => hCX w H s₁ e s'

end SH

/-! SH1: operations that the layer does not have yet: great powers, repr of data, types compared, enumerate. -/
namespace SH
open PySem PySem.Spec PyProof.Rows L2

section
variable {X : Cx}
/-! ### powers of great numbers -/
def PowC (i j : Int) : Prop := 0 ≤ j ∧ (Builtin.Int.intBits i : Int) * j ≤ 2 ^ 27
theorem op_powG : OpR X (binaryOp .Pow) (rI PowC fun i j => .int (i ^ j.toNat)) :=
  opI fun _ _ _ _ _ _ _ c q => pow_int c.1 c.2 q
theorem cube_ok {i : Int} (h : i.natAbs < 2 ^ 4000) : PowC i 3 := by
  refine ⟨by decide, ?_⟩
  have := intBits_le (k := 4000) h
  have e : (2 : Int) ^ 27 = 134217728 := by decide
  omega
theorem ten_ok {j : Int} (h0 : 0 ≤ j) (h : j ≤ 1000) : PowC 10 j := by
  refine ⟨h0, ?_⟩
  have e1 : Builtin.Int.intBits 10 = 4 := by decide
  have e : (2 : Int) ^ 27 = 134217728 := by decide
  rw [e1]
  omega

/-! ### repr -/
/-- data as it is shown -/
def Shows (K : PySem.W.Frag) (H : Hp) (x : V) (d : PyData) : Prop :=
  Dp K H x d ∧ d.showable = true ∧ d.hasDict = false ∧ d.depth ≤ 60 ∧ d.shown.length ≤ sizeLine
def rRepr (K : PySem.W.Frag) : List V → Hp → VK → Prop := fun xs H Q =>
  ∃ (a : Addr) (d : PyData), xs = [.ref a] ∧ Shows K H (.ref a) d ∧ Q (.str d.shown) H
theorem call_reprR (qt : Quiet X.A) (hu : X.A.units + 64 < cLine) : CallR X (.builtin "repr") (rRepr X.K) := by
  intro pins s σ H xs us Q I r h
  obtain ⟨a, d, rfl, ⟨hd, h1, h2, h3, h4⟩, q⟩ := h
  cases r with
  | cons ra rr =>
    cases rr
    cases ra
    obtain ⟨as, rd⟩ := Dp.reads I d _ (.ref a) hd rfl
    exact repr_of_reads' rd h1 (noDict_hsm' h2) qt (by omega) (fun _ _ e => e)
      (fun h' u tk hk => ⟨.str d.shown, H, I.kept hk, ⟨u, rfl⟩, q⟩) h4
where
  noDict_hsm' {d : PyData} {as : List Addr} (h : d.hasDict = false) : d.hasDict = true → sysModules ∉ as :=
    fun e => by rw [h] at e; cases e

end

/-! ### built-in types compared -/
open Sem (wp)
theorem slot_ty_ne : Slot "type" (cmpInfo .NotEq).2.1 "object.__ne__" :=
  .of (owner := "object") (n := "__ne__") (by rw [typeLookup_type, builtinLookup_eq_fast]; kernel_rfl)
    (by decide +kernel) (by decide +kernel) (by decide +kernel)
    (by first | exact .inl (by decide +kernel) | exact .inr (by decide +kernel)) (by rw [isSubtype_type]; kernel_rfl)
theorem slot_ty_ne_refl : Slot "type" (cmpInfo .NotEq).2.2 "object.__ne__" :=
  .of (owner := "object") (n := "__ne__") (by rw [typeLookup_type, builtinLookup_eq_fast]; kernel_rfl)
    (by decide +kernel) (by decide +kernel) (by decide +kernel)
    (by first | exact .inl (by decide +kernel) | exact .inr (by decide +kernel)) (by rw [isSubtype_type]; kernel_rfl)

section
variable {prog : Program} {w : World} {A : Around} {E : Value → Shared → Prop} {s : Shared} {Q : Value → Shared → Prop}
/-- X.__eq__(Y) of two built-in types -/
theorem sp_eq_ty {a b : String} {R : Option Value → Shared → Prop} (ha : ∀ s' : Shared, s'.TypeIs (.type a) "type")
    (h : (if a = b then R (some (.bool true)) s else R (some .notImplemented) s)) :
    wpAny (model prog w) A (callSpecialIfBound? (.type a) "__eq__" [.type b]) R E s := by
  have slot : Slot "type" ("__eq__" : Str) "object.__eq__" := TypeEq.slot_type_eq
  refine wpAny_callSpecialIfBound?_slot (name := Str.ofString "__eq__") (ha s) slot ?_
  by_cases e : a = b
  · subst e
    rw [if_pos rfl] at h
    exact call_gives slot (ha s) F.entry_object_eq (F.args_object_eq_2 _ _) (TypeEq.object_eq_same rfl (by simp)) h
  · rw [if_neg e] at h
    exact call_gives slot (ha s) F.entry_object_eq (F.args_object_eq_2 _ _)
      (TypeEq.object_eq_other rfl (by simpa using e)) h

theorem call_ne_ty {a b : String} {R : Value → Shared → Prop} (ha : ∀ s' : Shared, s'.TypeIs (.type a) "type")
    (h : (if a = b then R (.bool false) s else R .notImplemented s)) :
    wpAny (model prog w) A (call (.builtin "object.__ne__") [.type a, .type b]) R E s := by
  refine wpAny_call_entry slot_ty_ne (ha s) F.cmpEntry_ne ?_ (F.args_object_ne_2 _ _)
  unfold Builtin.«object.__ne__»
  by_cases e : a = b
  · subst e
    rw [if_pos rfl] at h
    repeat (first | with_reducible refine wpAny_cRoomFor_or (.inl rfl) ?_ | with_reducible refine sp_eq_ty ha ?_ | rw [if_pos rfl] | wp_step)
    exact ⟨_, rfl, h⟩
  · rw [if_neg e] at h
    repeat (first | with_reducible refine wpAny_cRoomFor_or (.inl rfl) ?_ | with_reducible refine sp_eq_ty ha ?_ | rw [if_neg e] | wp_step)
    exact ⟨_, rfl, h⟩

theorem ne_ty_same {a : String} (ha : ∀ s' : Shared, s'.TypeIs (.type a) "type") (h : Q (.bool false) s) :
    wpAny (model prog w) A (compareOp .NotEq (.type a) (.type a)) Q E s := by
  show wpAny _ A (richCompare .NotEq _ _) Q E s
  exact wpAny_richCompare_same (op := .NotEq) (T := "type") (ha s) (ha s) slot_ty_ne
    (call_ne_ty ha (by rw [if_pos rfl]; exact ⟨(by intro e; cases e), h⟩))
end

theorem rc_ne_same_decline {M : Model} {A : Around} {E : Value → Shared → Prop} {s : Shared} {a b : Value} {T id : String}
    {k : Bool} {Q : Value → Shared → Prop} (ha : ∀ s' : Shared, s'.TypeIs a T) (hb : ∀ s' : Shared, s'.TypeIs b T)
    (h1 : Slot T (cmpInfo .NotEq).2.1 id) (h2 : Slot T (cmpInfo .NotEq).2.2 id) (hv : [a, b].any Value.onHeap = false)
    (hk : isSame a b = pure k)
    (hc : wpAny M A (call (.builtin id) [a, b]) (fun v s₁ => v = .notImplemented ∧
      wpAny M A (call (.builtin id) [b, a]) (fun v s₂ => v = .notImplemented ∧ Q (.bool (!k)) s₂) E s₁) E s) :
    wpAny M A (richCompare .NotEq a b) Q E s := by
  rcases hi : cmpInfo CmpOp.NotEq with ⟨sym, f, r⟩
  rw [hi] at h1 h2
  simp only [richCompare, hi, (ha s).oneThing_none]
  try with_reducible refine wpAny_holding ?_
  refine wpAny_bind (wpAny_cRoomFor_or (.inl hv) (wpAny_bind (wpAny_typeOf (ha s) (wpAny_bind (wpAny_typeOf (hb s) ?_)))))
  simp only [bne_self_eq_false, Bool.false_eq_true, if_false, pure_bind, Bool.not_false, if_true]
  refine wpAny_bind (m := tryCompare a _ b) (wpAny_tryCompare_declines (ha s) h1
    (wpAny_mono hc (fun v s₁ q1 => ⟨q1.1, ?_⟩) fun _ _ x => x))
  refine wpAny_bind (m := tryCompare b _ a) (wpAny_tryCompare_declines (hb s₁) h2
    (wpAny_mono q1.2 (fun v s₂ q2 => ⟨q2.1, ?_⟩) fun _ _ x => x))
  exact wpAny_bind (wpAny_rule (wpAny_bind (wpAny_of_eq hk (wpAny_pure q2.2))))

section
variable {prog : Program} {w : World} {A : Around} {E : Value → Shared → Prop} {s : Shared} {Q : Value → Shared → Prop}
theorem ne_ty_other {a b : String} (ha : ∀ s' : Shared, s'.TypeIs (.type a) "type")
    (hb : ∀ s' : Shared, s'.TypeIs (.type b) "type") (ne : a ≠ b) (h : Q (.bool true) s) :
    wpAny (model prog w) A (compareOp .NotEq (.type a) (.type b)) Q E s := by
  show wpAny _ A (richCompare .NotEq _ _) Q E s
  refine rc_ne_same_decline (T := "type") (k := false) ha hb slot_ty_ne slot_ty_ne_refl rfl
    (by rw [isSame_plain rfl]; have : (Value.type a == Value.type b) = false := by simpa using ne
        rw [this]) ?_
  refine call_ne_ty ha ?_
  rw [if_neg ne]
  refine ⟨rfl, call_ne_ty hb ?_⟩
  rw [if_neg (Ne.symm ne)]
  exact ⟨rfl, h⟩
end

/-- the built-in types that a value may have here -/
def tyNames : List String := ["int", "str", "bool", "NoneType", "list", "tuple", "dict", "set", "float"]
theorem ty_meta {n : String} (h : n ∈ tyNames) (s' : Shared) : s'.TypeIs (.type n) "type" := by
  simp only [tyNames, List.mem_cons, List.not_mem_nil, or_false] at h
  rcases h with rfl | rfl | rfl | rfl | rfl | rfl | rfl | rfl | rfl
  · exact TypeEq.meta_int s'
  · exact TypeEq.meta_str s'
  · exact TypeEq.meta_bool s'
  · exact TypeEq.meta_NoneType s'
  · exact TypeEq.meta_list s'
  · exact TypeEq.meta_tuple s'
  · exact TypeEq.meta_dict s'
  · exact TypeEq.meta_set s'
  · exact TypeEq.meta_float s'
def rNeTy : R2 := fun x y H Q => ∃ a b, x = .ty a ∧ y = .ty b ∧ a ∈ tyNames ∧ b ∈ tyNames ∧ Q (.bl (decide (a ≠ b))) H
theorem op_neTy {X : Cx} : OpR X (compareOp .NotEq) rNeTy := by
  intro pins s σ H x y v u Q I rx ry h
  obtain ⟨a, b, rfl, rfl, ha, hb, q⟩ := h
  cases rx
  cases ry
  by_cases e : a = b
  · subst e
    exact ne_ty_same (ty_meta ha) ⟨.bl false, H, I, rfl, by simpa using q⟩
  · exact ne_ty_other (ty_meta ha) (ty_meta hb) e ⟨.bl true, H, I, rfl, by simpa [e] using q⟩

/-! ### for i, x in enumerate(xs) -/
theorem for_enum {K : PySem.W.Frag} {a : Addr} {xs : List V} {g : TG} {tb : TS} {D : Ends} {σ : L2.St} {H : Hp}
    (Pv : Nat → L2.St → Hp → Prop) (h0 : Pv 0 σ H) (hl : ∀ i σ H, i ≤ xs.length → Pv i σ H → SqL K H a xs)
    (hs : ∀ (i : Nat) (x : V) (T : Addr) σ H, xs[i]? = some x → Pv i σ H → H T = none →
      g (.ref T) σ (upd H T (.tup [.int i, x])) fun σ2 H2 => tb { D with nx := Pv (i + 1), ct := Pv (i + 1), bk := D.nx } σ2 H2)
    (hd : ∀ σ H, Pv xs.length σ H → D.nx σ H) :
    ∃ W : Nat → Nat → L2.St → Hp → Prop, (∃ m, W 0 m σ H) ∧ ∀ i m σ H, W i m σ H →
      ((Ite K a).stop i H ∧ D.nx σ H) ∨ ((Ite K a).go i H ∧ ∃ N : L2.St → Hp → Prop,
        (∀ σ' H', N σ' H' → ∃ m', m' < m ∧ W (i + 1) m' σ' H') ∧
        ∀ x H', (Ite K a).yld i H x H' → g x σ H' fun σ2 H2 => tb { D with nx := N, ct := N, bk := D.nx } σ2 H2) := by
  refine ⟨fun i m σ H => m = xs.length - i ∧ i ≤ xs.length ∧ Pv i σ H, ⟨_, rfl, Nat.zero_le _, h0⟩, ?_⟩
  rintro i m σ H ⟨rfl, hi, p⟩
  have hq := hl i σ H hi p
  rcases Nat.lt_or_ge i xs.length with lt | ge
  · refine .inr ⟨⟨xs, xs[i], hq, List.getElem?_eq_getElem lt⟩, Pv (i + 1), fun σ' H' p' => ⟨_, ?_, rfl, lt, p'⟩, ?_⟩
    · omega
    · rintro v H' ⟨T, x, rfl, hT, rfl, f⟩
      exact hs i x T σ H (f xs hq) p hT
  · obtain rfl : i = xs.length := Nat.le_antisymm hi ge
    exact .inl ⟨⟨xs, hq, Nat.le_refl _⟩, hd σ H p⟩
end SH

/-! SH2: defs by name: what stands at a name of the module, calls of it by place and by keyword. -/
namespace SH
open PySem PySem.Spec PyProof.Rows L2

/-- the def `st` stands at the name `x` of the module and keeps the promise `sp` -/
def Has (P : Program) (w : World) (K : PySem.W.Frag) (mg : Str → Option Value) (base : Heap) (CX : CXT) (k : Nat)
    (x : Str) (st : Stmt) (ps : List Str) (sp : Sp) : Prop :=
  ∃ f fd, Fun K x x st f fd ∧ mg x = some (.ref f) ∧ FnG P w K mg base CX k f fd ps sp ∧ L2.Binds K fd ps []
/-- the def `st` stands at the name `x` -/
def At (K : PySem.W.Frag) (mg : Str → Option Value) (x : Str) (st : Stmt) : Prop :=
  ∃ f fd, Fun K x x st f fd ∧ mg x = some (.ref f)

section
variable {X : Cx} {CX : CXT} {k : Nat} {st : Stmt} {ps ks : List Str} {sp : Sp} {E : XK} {x : Str} {p pos : Pos}
  {e : Expr} {es : List Expr} {t tk : TA} {kws : List Keyword}

theorem pe_has (h : Has X.prog X.w X.K X.mg X.base CX k x st ps sp) (room : Room k X.A) (qt : Quiet X.A) (hg : Gl X x)
    (hx : Passes CX X E) (ha : PA X (e :: es) t) (hdb : (x == ("__debug__" : Str)) = false := by decide)
    (he : starEach (e :: es) X.env = (false, eval e X.env) :: starEach es X.env := by rfl)
    (hpl : (backTo pos (starEach es X.env)).any (·.1) = false := by rfl) :
    PE X (.Call (.Name x p) (e :: es) [] pos) (tCall sp [] E t) := by
  obtain ⟨f, fd, F, m, G, b⟩ := h
  exact pe_callG G room qt hg m F.kp b .nil hx ha hdb he hpl

/-- how the keywords' values come to the parameters: by a permutation of places -/
structure KwOk (x : Str) (st : Stmt) (ps ks : List Str) (g : {α : Type} → List α → List α) : Prop where
  to : ∀ (kV doc pm : Value) (an : Option Addr) (cdv ct : Value) (ws : List Value), ws.length = ks.length →
    bindArgs (PySem.W.fnOf x x (defArgs st) (defBody st) (defScope st) .none kV doc pm an cdv ct) ⟨[], ks.zip ws⟩ =
      pure (ps.zip (g ws))
  rel : ∀ {zs : List V} {ws : List Value}, Vals zs ws → Vals (g zs) (g ws)
  len : ∀ (ws : List Value), (g ws).length = ps.length → ws.length = ks.length
  ne : ps.length ≠ 0

def onlyKw (g : {α : Type} → List α → List α) : {α : Type} → List α → List α → List α := fun us ws =>
  match us with
  | [] => g ws
  | _ => []

theorem pe_hasK0 {g : {α : Type} → List α → List α} (h : Has X.prog X.w X.K X.mg X.base CX k x st ps sp)
    (room : Room k X.A) (qt : Quiet X.A) (hg : Gl X x) (kb : KwOk x st ps ks g) (hx : Passes CX X E)
    (hkw : PK X kws tk) (hall : (backToKw pos (keywordEach kws X.env)).all (·.1.isSome) = true := by rfl)
    (hks : (backToKw pos (keywordEach kws X.env)).filterMap (·.1) = ks := by rfl)
    (hdb : (x == ("__debug__" : Str)) = false := by decide)
    (hpl : ((backTo pos (starEach [] X.env)).any (·.1) ||
      (backToKw pos (keywordEach kws X.env)).any (·.1.isNone)) = false := by rfl) :
    PE X (.Call (.Name x p) [] kws pos) (tCallK sp (onlyKw g) E tNil tk) := by
  obtain ⟨f, fd, F, m, G, _⟩ := h
  refine pe_callGK0 G room qt hg m F.kp (g := onlyKw g) ⟨fun s us ws _ hl => ?_, fun {vs us zs ws} r rz => ?_⟩ hx hkw hall hks hdb hpl
  · obtain ⟨oc, od, kV, doc, pm, an, cdv, ct, osl, rfl, lk, hcd⟩ := F.ex
    cases us with
    | nil => exact .of_eq (kb.to kV doc pm an cdv ct ws (kb.len ws hl))
    | cons u us => exact absurd hl.symm kb.ne
  · cases r with
    | nil => exact kb.rel rz
    | cons _ _ => exact .nil
end

section
variable {P : Program} {w : World} {K : PySem.W.Frag} {mg : Str → Option Value} {base : Heap}
/-- THE RULE for a def at a name of the module that lets no error out -/
theorem Has.of {x : Str} {st : Stmt} {N ps : List Str} {k : Nat} {sp : Sp} (at_ : At K mg x st)
    (S : FnScope N ps (defScope st)) (len : ∀ vs H Q E, sp vs H Q E → vs.length = ps.length)
    (bd : ∀ (kV doc pm : Value) (an : Option Addr) (cdv ct : Value) (us : List Value), us.length = ps.length →
      bindArgs (PySem.W.fnOf x x (defArgs st) (defBody st) (defScope st) .none kV doc pm an cdv ct) ⟨us, []⟩ = pure (ps.zip us))
    (walk : ∀ (f : Addr) (cdv : Value) (A : Around) (outer : List Env) (s : Shared) (H : Hp) (vs : List V) (Q : VK) (E : XK),
      Room k (A.deeper (envOfC x (defScope st) s.heap.objs.size f cdv)) →
      Quiet (A.deeper (envOfC x (defScope st) s.heap.objs.size f cdv)) → sp vs H Q E →
      ∃ t, PSs (cxOf CX0 P w K mg base N x (defScope st) f cdv A outer s H E).nox (defBody st) t ∧
        t { nx := fun _ H' => Q .non H', rt := Q } (start N vs) H) :
    Has P w K mg base CX0 (k + 1) x st ps sp := by
  obtain ⟨f, fd, F, m⟩ := at_
  exact ⟨f, fd, F, m, FnG.ok F S len (walk f), F.binds bd⟩
theorem Has.mono {CX : CXT} {j k : Nat} {x : Str} {st : Stmt} {ps : List Str} {sp : Sp}
    (h : Has P w K mg base CX j x st ps sp) (hk : j ≤ k) : Has P w K mg base CX k x st ps sp := by
  obtain ⟨f, fd, F, m, G, b⟩ := h
  exact ⟨f, fd, F, m, G.mono hk, b⟩
end

/-- the built-in names that the module does not shadow -/
structure Txt (mg : Str → Option Value) : Prop where
  len : mg "len" = none
  range : mg "range" = none
  repr : mg "repr" = none
  min : mg "min" = none
  max : mg "max" = none
  tint : mg "int" = none
  tlist : mg "list" = none
  ttype : mg "type" = none
  bool : mg "bool" = none
  tuple : mg "tuple" = none
  isinstance : mg "isinstance" = none
  enumerate : mg "enumerate" = none
  tstr : mg "str" = none
  zip : mg "zip" = none
  all : mg "all" = none
  any : mg "any" = none
  sum : mg "sum" = none
  abs : mg "abs" = none
  sorted : mg "sorted" = none
  set : mg "set" = none
  dict : mg "dict" = none
  reversed : mg "reversed" = none
  divmod : mg "divmod" = none

theorem bnot_t {b : Bool} (h : (!b) = true) : b = false := by cases b <;> first | rfl | cases h
theorem bnot_f {b : Bool} (h : ¬ (!b) = true) : b = true := by cases b <;> first | rfl | exact (h rfl).elim
/-! ### what a caller wants -/
/-- a value comes back, nothing that was tracked has changed -/
def RetV (Q : VK) (H : Hp) (v : V) : Prop := ∀ H', Same H H' → Q v H'
/-- a new list comes back -/
def RetL (Q : VK) (H : Hp) (xs : List V) : Prop := ∀ p H', H p = none → Same H H' → H' p = some (.lst xs) → Q (.ref p) H'
/-- ints as values -/
abbrev iv (ns : List Int) : List V := ns.map V.int
theorem iv_at {ns : List Int} {i : Nat} (h : i < ns.length) : (iv ns)[i]? = some (.int (ns.getD i 0)) := by
  rw [List.getElem?_map, List.getElem?_eq_getElem h, List.getD_eq_getElem?_getD, List.getElem?_eq_getElem h]
  rfl
theorem atI_iv {ns : List Int} {z : Int} (h0 : 0 ≤ z) (h : z < ns.length) : atI (iv ns) z = some (.int (ns.getD z.toNat 0)) := by
  have e : z = ((z.toNat : Nat) : Int) := by omega
  rw [e]
  exact atI_nat (iv_at (by omega))
theorem atI_iv_last {ns : List Int} (h : ns ≠ []) : atI (iv ns) (-1) = some (.int (ns.getD (ns.length - 1) 0)) := by
  have hl : 0 < ns.length := List.length_pos_iff.mpr h
  have e : ixN (iv ns).length (-1) = some (ns.length - 1) := by
    unfold ixN
    rw [if_neg (by omega), if_pos (by rw [List.length_map]; omega), List.length_map]
    congr 1
    omega
  unfold atI
  rw [e]
  exact iv_at (by omega)
theorem Same.new {H : Hp} {p : Addr} {o : HO} (h : H p = none) : Same H (upd H p o) := fun b u e => by
  rw [upd_ne (ne_of_none e h)]; exact e
theorem Same.upd_free {H H' : Hp} {p : Addr} {o : HO} (s : Same H H') (h : H p = none) : Same H (upd H' p o) := fun b u e => by
  rw [upd_ne (ne_of_none e h)]; exact s b u e
/-- all that was tracked but what stands at `a` is as it was -/
def SameBut (a : Addr) (H H' : Hp) : Prop := ∀ b o, H b = some o → b ≠ a → H' b = some o
theorem SameBut.refl {a : Addr} {H : Hp} : SameBut a H H := fun _ _ e _ => e
theorem SameBut.trans {a : Addr} {H H1 H2 : Hp} (p : SameBut a H H1) (q : SameBut a H1 H2) : SameBut a H H2 :=
  fun b o e n => q b o (p b o e n) n
theorem SameBut.of {a : Addr} {H H' : Hp} (p : Same H H') : SameBut a H H' := fun b o e _ => p b o e
theorem SameBut.upd {a : Addr} {H H' : Hp} {o : HO} (p : SameBut a H H') : SameBut a H (upd H' a o) := fun b u e n => by
  rw [upd_ne n]; exact p b u e n
theorem SameBut.new {a p : Addr} {H H' : Hp} {o : HO} (s : SameBut a H H') (h : H' p = none) : SameBut a H (L2.upd H' p o) :=
  fun b u e n => by
    have := s b u e n
    rw [upd_ne (ne_of_none this h)]; exact this
end SH

/-! SH3: comprehensions whose turns make nothing, in words of a function of the turn. -/
namespace SH
open PySem PySem.Spec PyProof.Rows L2

/-- len of a list or a tuple, by the written part K -/
def rLenK (K : PySem.W.Frag) : List V → Hp → VK → Prop := fun xs H Q => ∃ p ys, xs = [.ref p] ∧ (SqL K H p ys ∨ SqT K H p ys) ∧ Q (.int ys.length) H
theorem tYes_go {σ : L2.St} {H : Hp} {f g : Hp → Prop} (h : f H) : tYes σ H fun b H3 => if b = true then f H3 else g H3 := by
  show (if true = true then f H else g H)
  rw [if_pos rfl]
  exact h
/-- a if t else b of two ints, the test's answer known as b -/
theorem if_int {b : Bool} {x y : Int} {H : Hp} {A B : TE} {σ : L2.St} {Q : VK} (ha : ∀ Q' : VK, Q' (.int x) H → A σ H Q')
    (hb : ∀ Q' : VK, Q' (.int y) H → B σ H Q') (h : Q (.int (if b = true then x else y)) H) : if b = true then A σ H Q else B σ H Q := by
  cases b with
  | true => rw [if_pos rfl]; exact ha _ (by simpa using h)
  | false => rw [if_neg Bool.false_ne_true]; exact hb _ (by simpa using h)
/-- which turns give, and what -/
def gives (n : Nat) (keep : Nat → Bool) (val : Nat → V) : List V := ((List.range n).filter keep).map val
theorem gives_succ {n : Nat} {keep : Nat → Bool} {val : Nat → V} : gives (n + 1) keep val =
    if keep n = true then gives n keep val ++ [val n] else gives n keep val := by
  unfold gives
  rw [List.range_succ, List.filter_append, List.map_append]
  by_cases h : keep n = true
  · rw [if_pos h, List.filter_cons, if_pos h]
    rfl
  · rw [if_neg h, List.filter_cons, if_neg h]
    exact List.append_nil _
theorem gives_len (n : Nat) (keep : Nat → Bool) (val : Nat → V) : (gives n keep val).length ≤ n := by
  unfold gives
  rw [List.length_map]
  exact Nat.le_trans (List.length_filter_le _ _) (Nat.le_of_eq List.length_range)
theorem gives_all (n : Nat) (val : Nat → V) : gives n (fun _ => true) val = (List.range n).map val := by
  unfold gives
  rw [List.filter_eq_self.mpr (fun _ _ => rfl)]
/-- a new list comes back, nothing else changes -/
def NewL (Q : VK) (H : Hp) (xs : List V) : Prop := ∀ p, H p = none → Q (.ref p) (upd H p (.lst xs))
theorem small_line {n : Nat} (h : n < 100000) : n < sizeLine := Nat.lt_of_lt_of_le h (by decide)

section
variable {tt : TT} {te : TE} {vs : List Nat} {σ : L2.St} {H : Hp} {D : Addr} {Qd : Hp → Prop}
/-- one turn's end -/
theorem lc_turn {n : Nat} {keep : Nat → Bool} {val : Nat → V} {i : Nat} {σ2 : L2.St} (hi : i < n) (hn : n < 100000)
    (ht : ∀ acc Q, Q (keep i) (upd H D (.lst acc)) → tt σ2 (upd H D (.lst acc)) Q)
    (he : ∀ acc Q, keep i = true → Q (val i) (upd H D (.lst acc)) → te σ2 (upd H D (.lst acc)) Q) :
    tt σ2 (upd H D (.lst (gives i keep val))) fun b H3 => if b = true then te σ2 H3 fun y H4 => ∃ acc, H4 D = some (.lst acc) ∧
      acc.length < sizeLine ∧ upd H4 D (.lst (acc ++ [y])) = upd H D (.lst (gives (i + 1) keep val))
      else H3 = upd H D (.lst (gives (i + 1) keep val)) := by
  refine ht _ _ ?_
  by_cases h : keep i = true
  · rw [h]
    refine iteT (he _ _ h ⟨_, upd_same, small_line (by have := gives_len i keep val; omega), ?_⟩)
    rw [upd_upd, gives_succ, if_pos h]
  · have h' : keep i = false := by cases e : keep i <;> simp_all
    rw [h']
    refine iteF ?_
    rw [gives_succ, if_neg h]

theorem lcR {lo : Int} {n j : Nat} (keep : Nat → Bool) (val : Nat → V) (hn : n < 100000)
    (hw : ∀ x, wipe ((wipe σ vs).set j (some x)) vs = wipe σ vs)
    (ht : ∀ i acc Q, i < n → Q (keep i) (upd H D (.lst acc)) → tt ((wipe σ vs).set j (some (.int (lo + (i : Nat))))) (upd H D (.lst acc)) Q)
    (he : ∀ i acc Q, i < n → keep i = true → Q (val i) (upd H D (.lst acc)) → te ((wipe σ vs).set j (some (.int (lo + (i : Nat))))) (upd H D (.lst acc)) Q)
    (hd : Qd (upd H D (.lst (gives n keep val)))) :
    ∃ W : Nat → Nat → Hp → Prop, (∃ m, W 0 m (upd H D (.lst []))) ∧ ∀ i m H, W i m H →
      ((Itr lo n).stop i H ∧ Qd H) ∨ ((Itr lo n).go i H ∧ ∃ Nx : Hp → Prop, (∀ H', Nx H' → ∃ m', m' < m ∧ W (i + 1) m' H') ∧
        ∀ x H', (Itr lo n).yld i H x H' → gName j x (wipe σ vs) H' fun σ2 H2 => wipe σ2 vs = wipe σ vs ∧ tt σ2 H2 fun b H3 =>
          if b = true then te σ2 H3 fun y H4 => ∃ acc, H4 D = some (.lst acc) ∧ acc.length < sizeLine ∧ Nx (upd H4 D (.lst (acc ++ [y]))) else Nx H3) :=
  lc_range (fun i H2 => H2 = upd H D (.lst (gives i keep val))) rfl
    (fun i H2 hi e => by
      subst e
      exact ⟨hw _, lc_turn hi hn (fun acc Q q => ht i acc Q hi q) (fun acc Q k q => he i acc Q hi k q)⟩)
    (fun H2 e => by subst e; exact hd)

theorem lcL {K : PySem.W.Frag} {a : Addr} {xs : List V} {j : Nat} (keep : Nat → Bool) (val : Nat → V) (hx : SqL K H a xs)
    (hD : H D = none) (hn : xs.length < 100000) (hw : ∀ x, wipe ((wipe σ vs).set j (some x)) vs = wipe σ vs)
    (ht : ∀ i x acc Q, xs[i]? = some x → Q (keep i) (upd H D (.lst acc)) → tt ((wipe σ vs).set j (some x)) (upd H D (.lst acc)) Q)
    (he : ∀ i x acc Q, xs[i]? = some x → keep i = true → Q (val i) (upd H D (.lst acc)) → te ((wipe σ vs).set j (some x)) (upd H D (.lst acc)) Q)
    (hd : Qd (upd H D (.lst (gives xs.length keep val)))) :
    ∃ W : Nat → Nat → Hp → Prop, (∃ m, W 0 m (upd H D (.lst []))) ∧ ∀ i m H, W i m H →
      ((Itl K a).stop i H ∧ Qd H) ∨ ((Itl K a).go i H ∧ ∃ Nx : Hp → Prop, (∀ H', Nx H' → ∃ m', m' < m ∧ W (i + 1) m' H') ∧
        ∀ x H', (Itl K a).yld i H x H' → gName j x (wipe σ vs) H' fun σ2 H2 => wipe σ2 vs = wipe σ vs ∧ tt σ2 H2 fun b H3 =>
          if b = true then te σ2 H3 fun y H4 => ∃ acc, H4 D = some (.lst acc) ∧ acc.length < sizeLine ∧ Nx (upd H4 D (.lst (acc ++ [y]))) else Nx H3) :=
  lc_list (xs := xs) (fun i H2 => H2 = upd H D (.lst (gives i keep val))) rfl
    (fun i H2 hi e => by subst e; exact (Same.new hD).seq hx)
    (fun i x H2 hi e => by
      subst e
      exact ⟨hw _, lc_turn (List.getElem?_eq_some_iff.mp hi).1 hn (fun acc Q q => ht i x acc Q hi q) (fun acc Q k q => he i x acc Q hi k q)⟩)
    (fun H2 e => by subst e; exact hd)

/-- [.. for a, b in zip(xs, ys)], the lists of one length: each turn makes one pair, so the heap is told by an invariant -/
theorem lcZ {K : PySem.W.Frag} {a b : Addr} {xs ys : List V} {g : TG} (hl : xs.length = ys.length) (Pv : Nat → Hp → Prop)
    (h0 : Pv 0 (upd H D (.lst []))) (hq : ∀ i H, Pv i H → SqL K H a xs ∧ SqL K H b ys)
    (hs : ∀ i x y T H, xs[i]? = some x → ys[i]? = some y → Pv i H → H T = none → g (.ref T) (wipe σ vs) (upd H T (.tup [x, y])) fun σ2 H2 =>
      wipe σ2 vs = wipe σ vs ∧ tt σ2 H2 fun b H3 => if b = true then te σ2 H3 fun y H4 => ∃ acc, H4 D = some (.lst acc) ∧
        acc.length < sizeLine ∧ Pv (i + 1) (upd H4 D (.lst (acc ++ [y]))) else Pv (i + 1) H3)
    (hd : ∀ H, Pv xs.length H → Qd H) :
    ∃ W : Nat → Nat → Hp → Prop, (∃ m, W 0 m (upd H D (.lst []))) ∧ ∀ i m H, W i m H →
      ((Itz K a b).stop i H ∧ Qd H) ∨ ((Itz K a b).go i H ∧ ∃ Nx : Hp → Prop, (∀ H', Nx H' → ∃ m', m' < m ∧ W (i + 1) m' H') ∧
        ∀ x H', (Itz K a b).yld i H x H' → g x (wipe σ vs) H' fun σ2 H2 => wipe σ2 vs = wipe σ vs ∧ tt σ2 H2 fun b H3 =>
          if b = true then te σ2 H3 fun y H4 => ∃ acc, H4 D = some (.lst acc) ∧ acc.length < sizeLine ∧ Nx (upd H4 D (.lst (acc ++ [y]))) else Nx H3) := by
  refine ⟨fun i m H => m = xs.length - i ∧ i ≤ xs.length ∧ Pv i H, ⟨_, rfl, Nat.zero_le _, h0⟩, ?_⟩
  rintro i m H ⟨rfl, hi, p⟩
  obtain ⟨qx, qy⟩ := hq i H p
  rcases Nat.lt_or_ge i xs.length with lt | ge
  · have ly : i < ys.length := by omega
    refine .inr ⟨⟨xs, ys, xs[i], ys[i], qx, qy, List.getElem?_eq_getElem lt, List.getElem?_eq_getElem ly⟩, Pv (i + 1),
      fun H' p' => ⟨xs.length - (i + 1), by omega, rfl, lt, p'⟩, ?_⟩
    rintro v H' ⟨T, x, y, rfl, hT, rfl, fx, fy⟩
    exact hs i x y T H (fx xs qx) (fy ys qy) p hT
  · obtain rfl : i = xs.length := Nat.le_antisymm hi ge
    exact .inl ⟨⟨xs, ys, qx, qy, .inl (Nat.le_refl _)⟩, hd H p⟩
end
end SH

/-! SH4: how lists of ints are shown, and compared. -/
namespace SH
open PySem PySem.Spec PyProof.Rows L2

/-- a list of ints as data -/
def dI (ns : List Int) : PyData := .list (ns.map PyData.int)
theorem dp_ints {K : PySem.W.Frag} {H : Hp} : ∀ ns : List Int, DpAll K H (iv ns) (ns.map PyData.int)
  | [] => .nil
  | n :: r => .cons (.int n) (dp_ints r)
theorem dp_dI {K : PySem.W.Frag} {H : Hp} {a : Addr} {ns : List Int} (h : SqL K H a (iv ns)) : Dp K H (.ref a) (dI ns) := .lst h (dp_ints ns)
theorem small_log {v : Int} (h : v.natAbs < 2 ^ 64) : v.natAbs.log2 < 1920 := by
  by_cases e : v.natAbs = 0
  · rw [e]; decide
  · have := (Nat.log2_lt e).mpr h
    omega
theorem show_ints : ∀ {ns : List Int}, (∀ v ∈ ns, v.natAbs < 2 ^ 64) → PyData.showableAll (ns.map PyData.int) = true
  | [], _ => rfl
  | n :: r, h => by
    show (decide (n.natAbs.log2 < 1920) && PyData.showableAll (r.map PyData.int)) = true
    rw [decide_eq_true (small_log (h n List.mem_cons_self)), show_ints fun v hv => h v (List.mem_cons_of_mem _ hv)]
    rfl
theorem dict_ints : ∀ ns : List Int, PyData.hasDictAll (ns.map PyData.int) = false
  | [] => rfl
  | n :: r => by
    show (false || PyData.hasDictAll (r.map PyData.int)) = false
    rw [dict_ints r]
    rfl
theorem depth_ints : ∀ ns : List Int, PyData.depthAll (ns.map PyData.int) = 0
  | [] => rfl
  | n :: r => by
    show max 0 (PyData.depthAll (r.map PyData.int)) = 0
    rw [depth_ints r]
    rfl
theorem shownAll_len : ∀ {ns : List Int}, (∀ v ∈ ns, v.natAbs < 2 ^ 64) → ((PyData.shownAll (ns.map PyData.int)).map (·.length)).sum ≤ 1921 * ns.length ∧
    (PyData.shownAll (ns.map PyData.int)).length = ns.length
  | [], _ => ⟨Nat.le_refl _, rfl⟩
  | n :: r, h => by
    obtain ⟨a, b⟩ := shownAll_len (ns := r) fun v hv => h v (List.mem_cons_of_mem _ hv)
    have := int_text_len_1921 (small_log (h n List.mem_cons_self))
    constructor
    · show (PySem.Str.ofString (toString n)).length + ((PyData.shownAll (r.map PyData.int)).map (·.length)).sum ≤ 1921 * (r.length + 1)
      omega
    · show (PyData.shownAll (r.map PyData.int)).length + 1 = r.length + 1
      omega
theorem shows_ints {K : PySem.W.Frag} {H : Hp} {a : Addr} {ns : List Int} (h : SqL K H a (iv ns)) (hl : ns.length ≤ 1000) (hv : ∀ v ∈ ns, v.natAbs < 2 ^ 64) :
    Shows K H (.ref a) (dI ns) := by
  refine ⟨dp_dI h, show_ints hv, dict_ints ns, ?_, ?_⟩
  · show PyData.depthAll (ns.map PyData.int) + 1 ≤ 60
    rw [depth_ints]
    decide
  · show (listText (PyData.shownAll (ns.map PyData.int))).length ≤ sizeLine
    obtain ⟨a, b⟩ := shownAll_len hv
    have := listText_len_le (PyData.shownAll (ns.map PyData.int))
    have e : sizeLine = 16777216 := by decide
    omega
theorem shaped_dI (ns : List Int) : SeqAt.shaped (dI ns) = true := by
  have c : ∀ ms : List Int, PyData.canLayAll0 (ms.map PyData.int) = true := fun ms => by
    induction ms with
    | nil => rfl
    | cons n r ih => show (true && PyData.canLayAll0 (r.map PyData.int)) = true; rw [ih]; rfl
  unfold SeqAt.shaped
  have d : (dI ns).depth = 1 := by show PyData.depthAll (ns.map PyData.int) + 1 = 1; rw [depth_ints]
  rw [d]
  show (PyData.canLayAll0 (ns.map PyData.int) && decide (1 ≤ 64)) = true
  rw [c]
  rfl
theorem eqv_ints : ∀ ns ms : List Int, PyData.eqvAll (ns.map PyData.int) (ms.map PyData.int) = decide (ns = ms)
  | [], [] => rfl
  | [], _ :: _ => rfl
  | _ :: _, [] => rfl
  | n :: r, m :: q => by
    show ((n == m) && PyData.eqvAll (r.map PyData.int) (q.map PyData.int)) = _
    rw [eqv_ints r q, Bool.eq_iff_iff]
    simp
theorem eqv_dI (ns ms : List Int) : PyData.eqv (dI ns) (dI ms) = decide (ns = ms) := eqv_ints ns ms
/-- two lists of ints compared -/
theorem eqD_ints {K : PySem.W.Frag} {H : Hp} {a b : Addr} {ns ms : List Int} {Q : VK} (ha : SqL K H a (iv ns)) (hb : SqL K H b (iv ms))
    (q : Q (.bl (decide (ns = ms))) H) : rEqD K (.ref a) (.ref b) H Q :=
  ⟨dI ns, dI ms, dp_dI ha, dp_dI hb, shaped_dI ns, shaped_dI ms, by rw [eqv_dI]; exact q⟩
theorem neD_ints {K : PySem.W.Frag} {H : Hp} {a b : Addr} {ns ms : List Int} {Q : VK} (ha : SqL K H a (iv ns)) (hb : SqL K H b (iv ms))
    (q : Q (.bl (!decide (ns = ms))) H) : rNeD K (.ref a) (.ref b) H Q :=
  ⟨dI ns, dI ms, dp_dI ha, dp_dI hb, shaped_dI ns, shaped_dI ms, by rw [eqv_dI]; exact q⟩

theorem iv_snoc (ns : List Int) (d : Int) : iv ns ++ [V.int d] = iv (ns ++ [d]) := by
  unfold iv
  rw [List.map_append]
  rfl
theorem getD_all {xs : List Int} {p : Int → Prop} (h : ∀ v ∈ xs, p v) {z : Int} (h0 : 0 ≤ z) (h1 : z < xs.length) : p (xs.getD z.toNat 0) := by
  have hz : z.toNat < xs.length := by omega
  rw [List.getD_eq_getElem?_getD, List.getElem?_eq_getElem hz]
  exact h _ (List.getElem_mem hz)
/-- range as a list of ints -/
def rg (n : Nat) : List Int := (List.range n).map fun (i : Nat) => (i : Int)
theorem rgV_rg (n : Nat) : rgV 0 (n : Int) = iv (rg n) := by
  unfold rgV rg iv
  rw [List.map_map]
  have e : ((n : Int) - 0).toNat = n := by omega
  rw [e]
  refine List.map_congr_left fun i _ => ?_
  show V.int (0 + (i : Int)) = V.int (i : Int)
  rw [Int.zero_add]
theorem iv_rep (n : Nat) (d : Int) : (List.replicate n [V.int d]).flatten = iv (List.replicate n d) := by
  induction n with
  | zero => rfl
  | succ n ih => rw [List.replicate_succ, List.flatten_cons, ih, List.replicate_succ]; rfl
/-- list + list, each read as it stands -/
def rCatS (K : PySem.W.Frag) : R2 := fun x y H Q => ∃ l b xs zs, x = .ref l ∧ y = .ref b ∧ SqL K H l xs ∧ SqL K H b zs ∧ xs.length + zs.length ≤ sizeLine ∧ NewL Q H (xs ++ zs)
theorem op_catS {X : Cx} : OpR X (binaryOp .Add) (rCatS X.K) := by
  intro pins s σ H x y v u Q I rx ry h
  obtain ⟨l, b, xs, zs, rfl, rfl, hx, hy, hz, q⟩ := h
  cases rx
  cases ry
  obtain ⟨its, r, ⟨o, n, ho, hc, hd, ht⟩, _⟩ := I.list hx
  obtain ⟨its2, r2, ⟨o2, n2, ho2, hc2, hd2, ht2⟩, _⟩ := I.list hy
  have e1 := r.length
  have e2 := r2.length
  obtain ⟨oc, od, dt, sl⟩ := o
  obtain ⟨oc2, od2, dt2, sl2⟩ := o2
  simp only at hc hd ht hc2 hd2 ht2
  subst hc hd ht hc2 hd2 ht2
  have ea : its.toArray ++ its2.toArray = (its ++ its2).toArray := by simp
  refine concat_meets ⟨_, ho, rfl⟩ ⟨_, ho2, rfl⟩ noFill_list_add seq_list_add PySem.F.slot_list_add PySem.F.entry_list_add
    (PySem.F.args_list_add_2 _ _) (list_addW l b its.toArray its2.toArray n n2 none none sl sl2 (by simp only [List.size_toArray]; omega)) ⟨ho, ho2, ?_⟩
  rw [ea]
  exact ⟨.ref _, _, I.lnew (t' := s.toks) (r.append r2) (by rw [List.length_append]; omega), rfl, q _ I.fresh⟩
theorem Same.but {a : Addr} {H0 H H' : Hp} (s : Same H0 H) (n : H0 a = none) (b : SameBut a H H') : Same H0 H' := fun c o e =>
  b c o (s c o e) (ne_of_none e n)
end SH

/-! SH5: a list stored into a slice with open bounds (xs[:] = ys, xs[a:] = ys). -/
namespace SH
open PySem PySem.Spec PyProof.Rows L2
section
variable {prog : Program} {w : World} {A : Around} {E : Value → Shared → Prop} {s : Shared}
theorem store_open {tgt src sl : Addr} {old new : Array Value} {n n2 : Nat} {vl vu : Value} {lo hi : Option Int} {Q : Unit → Shared → Prop}
    (eo : s.heap.get? tgt = some { cls := .type "list", data := .seq old n }) (en : s.heap.get? src = some { cls := .type "list", data := .seq new n2 })
    (ne : tgt ≠ src) (isl : s.heap.IsSliceOf sl vl vu .none) (pl : IsPart vl lo) (pu : IsPart vu hi) (small : old.size + new.size ≤ sizeLine)
    (h : Q () { s with heap := s.heap.update tgt (Obj.mapSeq fun xs => xs.extract 0 (HT.sIx old.size 0 lo) ++ new ++ xs.extract (max (HT.sIx old.size 0 lo) (HT.sIx old.size old.size hi)) xs.size) }) :
    wpAny (model prog w) A (setItem (.ref tgt) (.ref sl) (.ref src)) Q E s := by
  obtain ⟨b1, b2, b3⟩ := slice_bounds lo hi old.size
  have isT := PySem.IsL.isList eo
  have isS := PySem.IsL.isList en
  obtain ⟨os, go, co, fo⟩ := id isl
  have tyS : s.TypeIs (.ref sl) "slice" := ⟨os, go, co⟩
  have li := HT.sIx_le old.size 0 (Nat.zero_le _) lo
  have lj := HT.sIx_le old.size old.size (Nat.le_refl _) hi
  have diff : Builtin.List.listSameRef (.ref tgt) (.ref src) = false := by
    unfold Builtin.List.listSameRef; exact beq_eq_false_iff_ne.mpr ne
  generalize HT.sIx old.size 0 lo = i at *
  generalize HT.sIx old.size old.size hi = j at *
  have mx : (max (i : Int) (j : Int)).toNat = max i j := by omega
  have room : ((fun xs : Array Value => xs.extract 0 i ++ new ++ xs.extract (max i j) xs.size) old).size ≤ sizeLine + 1 := by
    simp only [Array.size_append, Array.size_extract]; omega
  unfold setItem
  try with_reducible refine wpAny_holding ?_
  first | refine wpAny_bind (wpAny_pure ?_) | skip
  refine wpAny_bind (wpAny_sequenceKey isT.typeIs (by decide) ?_)
  refine wpAny_bind (wpAny_callSpecial?_slot (name := Str.ofString "__setitem__") isT.typeIs slot_list_setitem (wpAny_call_entry slot_list_setitem isT.typeIs entry_list_setitem ?_ (args_list_setitem _ _ _)))
  show wpAny _ _ (Builtin.List.listSubscript? (.ref sl) >>= _) _ _ s
  refine wpAny_bind ?_
  unfold Builtin.List.listSubscript?
  refine wpAny_bind (wpAny_specialOf tyS slice_no_index ?_)
  simp only [Option.isNone_none, if_true]
  refine wpAny_pure ?_
  show wpAny _ _ (typeOf (.ref sl) >>= _) _ _ s
  refine wpAny_bind (wpAny_typeOf tyS ?_)
  first | rw [if_neg (by decide)] | refine PySem.W.KFB.if_not (by decide) ?_
  rw [listSliceParts_eq]
  refine wpAny_bind (wpAny_bind (wpAny_field go fo (x := .none) rfl (wpAny_bind (wpAny_listPart .none ?_))))
  rw [if_neg (show ¬ ((rawPart none == rawInt 0) = true) from Bool.false_ne_true)]
  refine wpAny_bind (wpAny_field go fo (x := vl) rfl (wpAny_bind (wpAny_listPart pl ?_)))
  refine wpAny_bind (wpAny_field go fo (x := vu) rfl (wpAny_bind (wpAny_listPart pu (wpAny_pure ?_))))
  first
    | simp only [diff, Bool.false_eq_true, if_false]
    | refine PySem.W.KFB.if_not diff ?_
    | (dsimp only; rw [if_neg (by rw [diff]; exact Bool.false_ne_true)])
  refine wpAny_bind (m := Builtin.List.listAllItems (.ref src) "must assign iterable to extended slice") ?_
  unfold Builtin.List.listAllItems
  refine wpAny_bind (wpAny_typeOf isS.typeIs ?_)
  first | refine PySem.W.KFB.if_so (by decide) ?_ | rw [if_pos (by decide)] | simp only [beq_self_eq_true, Bool.true_or, if_true]
  unfold Builtin.List.listItems
  refine wpAny_bind (wpAny_seqItems en rfl (wpAny_pure ?_))
  refine wpAny_bind (wpAny_bind (wpAny_seqItems eo rfl (wpAny_pure ?_)))
  have bb : sliceBounds lo hi none old.size = ((i : Int), (j : Int), 1) := Prod.ext b1 (Prod.ext b2 b3)
  refine wpAny_bind (wpAny_of_eq ((sliceIndices_raw lo hi none old.size (by simp)).trans (congrArg (pure : Int × Int × Int → Sem (Int × Int × Int)) bb)) ?_)
  show wpAny _ _ (if ((1 : Int) == 1) = true then _ else _) _ _ s
  rw [if_pos (by decide)]
  refine wpAny_bind (wpAny_rule ?_)
  first | simp only [notLongL small, Bool.false_eq_true, if_false] | refine PySem.W.KFB.if_not (notLongL small) ?_
  first | refine wpAny_bind (wpAny_pure ?_) | skip
  show wpAny _ _ (updateSeq tgt (fun xs => xs.extract 0 ((i : Int)).toNat ++ new ++ xs.extract (max (i : Int) (j : Int)).toNat xs.size) >>= _) _ _ s
  rw [mx, Int.toNat_natCast]
  refine wpAny_bind (wpAny_updateSeq (hz := Nat.le_trans (Nat.le_add_right _ _) small) (_hz' := room) eo rfl ?_)
  refine wpAny_bind (wpAny_letGo ?_)
  first
    | exact wpAny_bind (wpAny_pure (wpAny_pure ⟨.none, rfl, wpAny_pure h⟩))
    | exact wpAny_pure ⟨.none, rfl, wpAny_pure h⟩
end
/-- ys stored into xs[lo:hi] -/
def rStore : V → Option Int → Option Int → V → Hp → (Hp → Prop) → Prop := fun o lo hi v H Q => ∃ (l b : Addr) (xs ys : List V), o = .ref l ∧ v = .ref b ∧ l ≠ b ∧ H l = some (.lst xs) ∧ H b = some (.lst ys) ∧
  xs.length + ys.length ≤ sizeLine ∧ Q (upd H l (.lst (xs.take (HT.sIx xs.length 0 lo) ++ ys ++ xs.drop (max (HT.sIx xs.length 0 lo) (HT.sIx xs.length xs.length hi)))))
def gStore (to : TE) (tl th : TO) : TG := fun v σ H Q => to σ H fun o H1 => tl σ H1 fun lo H2 => th σ H2 fun hi H3 => rStore o lo hi v H3 fun H4 => Q σ H4
section
variable {X : Cx} {o : Expr} {to : TE} {lo hi : Option Expr} {tl th : TO} {p2 pos : Pos}
theorem pg_store (ho : PE X o to) (hl : PO X lo tl) (hu : PO X hi th)
    (ha : ∀ v, assign (.Subscript o (.Slice lo hi none p2) pos) X.env v = (do
      let ov ← holding [v] (eval o X.env)
      let iv ← holding [v, ov] (eval (.Slice lo hi none p2) X.env)
      standAt pos
      holding [v, ov, iv] (setItem ov iv v)
      release [iv, v, ov] []) := by intro _; rfl) : PG X (.Subscript o (.Slice lo hi none p2) pos) (gStore to tl th) := by
  refine ⟨fun pins s σ H v u Q I r h => ?_⟩
  rw [ha]
  refine wpAny_bind (wpAny_holding (thn (ho.run pins s σ H _ I h) fun ov s1 ⟨x, H1, I1, r1, q1⟩ => ?_))
  refine wpAny_bind (wpAny_holding (wpAny_Slice (thn (hl.run pins s1 σ H1 _ I1 q1) fun vl s2 ⟨l, H2, I2, pl, q2⟩ => thn (hu.run pins s2 σ H2 _ I2 q2) fun vu s3 ⟨u', H3, I3, pu, q3⟩ => ?_)))
  rw [evalPart_none]
  refine wpAny_pure ?_
  have I4 : Inv X pins σ H3 { s3 with heap := s3.heap.push { cls := .type "slice", data := .fields #[vl, vu, .none] } } := I3.kept (t' := s3.toks) fun b ob q => Heap.get?_push_of_some _ q
  refine wpAny_bind (wpAny_standAt (wpAny_bind (wpAny_holding ?_)))
  obtain ⟨a, b, xs, ys, rfl, rfl, ne, ea, eb, sm, q⟩ := q3
  cases r1
  cases r
  obtain ⟨z, its, n, rr, hl1, e⟩ := I4.lstM ea
  obtain ⟨z2, its2, n2, rr2, hl2, e2⟩ := I4.lstM eb
  have k1 := rr.length
  have k2 := rr2.length
  refine store_open e e2 ne (Heap.IsSliceOf.new ..) pl pu (by rw [List.size_toArray, List.size_toArray]; omega) ?_
  refine wpAny_release ⟨σ, _, ?_, q⟩
  rw [List.size_toArray, ← k1]
  refine I4.lset (its' := its.take (HT.sIx xs.length 0 l) ++ its2 ++ its.drop (max (HT.sIx xs.length 0 l) (HT.sIx xs.length xs.length u'))) (t' := _) ea e ?_ (Vals.append (Vals.append (rr.take _) rr2) (rr.drop _)) ?_
  · exact splice_eq its its2 _ _
  · rw [List.length_append, List.length_append, List.length_take, List.length_drop]
    omega
end
end SH

/-! SH6: comprehensions over enumerate and lists whose turns change nothing that is tracked. -/
namespace SH
open PySem PySem.Spec PyProof.Rows L2
theorem if_any {b : Bool} {A B : TE} {σ : L2.St} {H : Hp} {Q : VK} (Inv : V → Hp → Prop) (ha : b = true → ∀ Q' : VK, (∀ v H', Inv v H' → Q' v H') → A σ H Q')
    (hb : b = false → ∀ Q' : VK, (∀ v H', Inv v H' → Q' v H') → B σ H Q') (h : ∀ v H', Inv v H' → Q v H') : if b = true then A σ H Q else B σ H Q := by
  cases b with
  | true => rw [if_pos rfl]; exact ha rfl Q h
  | false => rw [if_neg Bool.false_ne_true]; exact hb rfl Q h
theorem Same.at {H H' : Hp} {a : Addr} {o : HO} (s : Same H H') (n : H a = none) : Same H (upd H' a o) := fun b u e => by
  rw [upd_ne (ne_of_none e n)]; exact s b u e
theorem while_cut {tc : TT} {tb : TS} {D : Ends} {σ : L2.St} {H : Hp} (Exit : L2.St → Hp → Prop) (main : ∀ σ' H', Exit σ' H' → D.nx σ' H')
    (h : (∀ σ' H', Exit σ' H' → D.nx σ' H') → tWhile tc tb D σ H) : tWhile tc tb D σ H := h main
section
variable {K : PySem.W.Frag} {tt : TT} {te : TE} {vs : List Nat} {σ : L2.St} {H : Hp} {D : Addr} {Qd : Hp → Prop}
/-- a turn's end, the heap told by Same -/
theorem lc_turnS {n : Nat} {keep : Nat → Bool} {val : Nat → V} {i : Nat} {σ2 : L2.St} {H2 : Hp} (hD : H D = none) (hi : i < n) (hn : n < 100000) (s2 : Same H H2)
    (h2 : H2 D = some (.lst (gives i keep val)))
    (ht : ∀ Q : Bool → Hp → Prop, (∀ H3, Same H2 H3 → Q (keep i) H3) → tt σ2 H2 Q)
    (he : ∀ H3, Same H2 H3 → ∀ Q : VK, keep i = true → (∀ H4, Same H3 H4 → Q (val i) H4) → te σ2 H3 Q) :
    tt σ2 H2 fun b H3 => if b = true then te σ2 H3 fun y H4 => ∃ acc, H4 D = some (.lst acc) ∧ acc.length < sizeLine ∧
      (Same H (upd H4 D (.lst (acc ++ [y]))) ∧ (upd H4 D (.lst (acc ++ [y]))) D = some (.lst (gives (i + 1) keep val)))
      else (Same H H3 ∧ H3 D = some (.lst (gives (i + 1) keep val))) := by
  refine ht _ fun H3 s3 => ?_
  by_cases h : keep i = true
  · rw [h]
    refine iteT (he H3 s3 _ h fun H4 s4 => ⟨_, s4 _ _ (s3 _ _ h2), small_line (by have := gives_len i keep val; omega), Same.at ((s2.trans s3).trans s4) hD, ?_⟩)
    rw [upd_same, gives_succ, if_pos h]
  · have h' : keep i = false := by cases e : keep i <;> simp_all
    rw [h']
    refine iteF ⟨s2.trans s3, ?_⟩
    rw [gives_succ, if_neg h]
    exact s3 _ _ h2
/-- [.. for i, x in enumerate(xs) ..] -/
theorem lcEn {a : Addr} {xs : List V} {j1 j2 : Nat} (keep : Nat → Bool) (val : Nat → V) (hx : SqL K H a xs) (hD : H D = none) (hn : xs.length < 100000)
    (hw : ∀ x y, wipe (((wipe σ vs).set j1 (some x)).set j2 (some y)) vs = wipe σ vs)
    (ht : ∀ i x H2 (Q : Bool → Hp → Prop), xs[i]? = some x → Same H H2 → (∀ H3, Same H2 H3 → Q (keep i) H3) → tt (((wipe σ vs).set j1 (some (.int (i : Nat)))).set j2 (some x)) H2 Q)
    (he : ∀ i x H2 (Q : VK), xs[i]? = some x → keep i = true → Same H H2 → (∀ H3, Same H2 H3 → Q (val i) H3) → te (((wipe σ vs).set j1 (some (.int (i : Nat)))).set j2 (some x)) H2 Q)
    (hd : ∀ H', Same H H' → H' D = some (.lst (gives xs.length keep val)) → Qd H') :
    ∃ W : Nat → Nat → Hp → Prop, (∃ m, W 0 m (upd H D (.lst []))) ∧ ∀ i m H, W i m H →
      ((Ite K a).stop i H ∧ Qd H) ∨ ((Ite K a).go i H ∧ ∃ Nx : Hp → Prop, (∀ H', Nx H' → ∃ m', m' < m ∧ W (i + 1) m' H') ∧
        ∀ x H', (Ite K a).yld i H x H' → gTup K 2 (gCons (gName j1) (gCons (gName j2) gNil)) x (wipe σ vs) H' fun σ2 H2 => wipe σ2 vs = wipe σ vs ∧ tt σ2 H2 fun b H3 =>
          if b = true then te σ2 H3 fun y H4 => ∃ acc, H4 D = some (.lst acc) ∧ acc.length < sizeLine ∧ Nx (upd H4 D (.lst (acc ++ [y]))) else Nx H3) := by
  refine ⟨fun i m H' => m = xs.length - i ∧ i ≤ xs.length ∧ Same H H' ∧ H' D = some (.lst (gives i keep val)), ⟨_, rfl, Nat.zero_le _, Same.new hD, upd_same⟩, ?_⟩
  rintro i m H2 ⟨rfl, hi, s2, h2⟩
  have hq := s2.seq hx
  rcases Nat.lt_or_ge i xs.length with lt | ge
  · refine .inr ⟨⟨xs, xs[i], hq, List.getElem?_eq_getElem lt⟩, fun H' => Same H H' ∧ H' D = some (.lst (gives (i + 1) keep val)), fun H' p' => ⟨xs.length - (i + 1), by omega, rfl, lt, p'.1, p'.2⟩, ?_⟩
    rintro v H' ⟨T, x, rfl, hT, rfl, f⟩
    have sT : Same H (upd H2 T (.tup [.int (i : Nat), x])) := s2.trans (Same.new hT)
    have hTD := Same.new (o := .tup [.int (i : Nat), x]) hT _ _ h2
    refine ⟨T, _, rfl, SqT.of upd_same, rfl, _, _, rfl, _, _, rfl, rfl, hw _ _, ?_⟩
    exact lc_turnS hD lt hn sT hTD (fun Q q => ht i x _ Q (f xs hq) sT q) (fun H3 s3 Q k q => he i x H3 Q (f xs hq) k (sT.trans s3) q)
  · obtain rfl : i = xs.length := Nat.le_antisymm hi ge
    exact .inl ⟨⟨xs, hq, Nat.le_refl _⟩, hd H2 s2 h2⟩
/-- [.. for x in xs ..] whose turns may make things -/
theorem lcLn {a : Addr} {xs : List V} {j : Nat} (keep : Nat → Bool) (val : Nat → V) (hx : SqL K H a xs) (hD : H D = none) (hn : xs.length < 100000)
    (hw : ∀ x, wipe ((wipe σ vs).set j (some x)) vs = wipe σ vs)
    (ht : ∀ i x H2 (Q : Bool → Hp → Prop), xs[i]? = some x → Same H H2 → (∀ H3, Same H2 H3 → Q (keep i) H3) → tt ((wipe σ vs).set j (some x)) H2 Q)
    (he : ∀ i x H2 (Q : VK), xs[i]? = some x → keep i = true → Same H H2 → (∀ H3, Same H2 H3 → Q (val i) H3) → te ((wipe σ vs).set j (some x)) H2 Q)
    (hd : ∀ H', Same H H' → H' D = some (.lst (gives xs.length keep val)) → Qd H') :
    ∃ W : Nat → Nat → Hp → Prop, (∃ m, W 0 m (upd H D (.lst []))) ∧ ∀ i m H, W i m H →
      ((Itl K a).stop i H ∧ Qd H) ∨ ((Itl K a).go i H ∧ ∃ Nx : Hp → Prop, (∀ H', Nx H' → ∃ m', m' < m ∧ W (i + 1) m' H') ∧
        ∀ x H', (Itl K a).yld i H x H' → gName j x (wipe σ vs) H' fun σ2 H2 => wipe σ2 vs = wipe σ vs ∧ tt σ2 H2 fun b H3 =>
          if b = true then te σ2 H3 fun y H4 => ∃ acc, H4 D = some (.lst acc) ∧ acc.length < sizeLine ∧ Nx (upd H4 D (.lst (acc ++ [y]))) else Nx H3) :=
  lc_list (xs := xs) (fun i H2 => Same H H2 ∧ H2 D = some (.lst (gives i keep val))) ⟨Same.new hD, upd_same⟩
    (fun i H2 hi e => e.1.seq hx)
    (fun i x H2 hi e => ⟨hw _, lc_turnS hD (List.getElem?_eq_some_iff.mp hi).1 hn e.1 e.2 (fun Q q => ht i x H2 Q hi e.1 q) (fun H3 s3 Q k q => he i x H3 Q hi k (e.1.trans s3) q)⟩)
    (fun H2 e => hd H2 e.1 e.2)
/-- [.. for i in range(lo, lo + n) ..] whose turns may make things -/
theorem lcRn {lo : Int} {n j : Nat} (keep : Nat → Bool) (val : Nat → V) (hD : H D = none) (hn : n < 100000)
    (hw : ∀ x, wipe ((wipe σ vs).set j (some x)) vs = wipe σ vs)
    (ht : ∀ i H2 (Q : Bool → Hp → Prop), i < n → Same H H2 → (∀ H3, Same H2 H3 → Q (keep i) H3) → tt ((wipe σ vs).set j (some (.int (lo + (i : Nat))))) H2 Q)
    (he : ∀ i H2 (Q : VK), i < n → keep i = true → Same H H2 → (∀ H3, Same H2 H3 → Q (val i) H3) → te ((wipe σ vs).set j (some (.int (lo + (i : Nat))))) H2 Q)
    (hd : ∀ H', Same H H' → H' D = some (.lst (gives n keep val)) → Qd H') :
    ∃ W : Nat → Nat → Hp → Prop, (∃ m, W 0 m (upd H D (.lst []))) ∧ ∀ i m H, W i m H →
      ((Itr lo n).stop i H ∧ Qd H) ∨ ((Itr lo n).go i H ∧ ∃ Nx : Hp → Prop, (∀ H', Nx H' → ∃ m', m' < m ∧ W (i + 1) m' H') ∧
        ∀ x H', (Itr lo n).yld i H x H' → gName j x (wipe σ vs) H' fun σ2 H2 => wipe σ2 vs = wipe σ vs ∧ tt σ2 H2 fun b H3 =>
          if b = true then te σ2 H3 fun y H4 => ∃ acc, H4 D = some (.lst acc) ∧ acc.length < sizeLine ∧ Nx (upd H4 D (.lst (acc ++ [y]))) else Nx H3) :=
  lc_range (fun i H2 => Same H H2 ∧ H2 D = some (.lst (gives i keep val))) ⟨Same.new hD, upd_same⟩
    (fun i H2 hi e => ⟨hw _, lc_turnS hD hi hn e.1 e.2 (fun Q q => ht i H2 Q hi e.1 q) (fun H3 s3 Q k q => he i H3 Q hi k (e.1.trans s3) q)⟩)
    (fun H2 e => hd H2 e.1 e.2)
/-- [.. for a, b in zip(xs, ys) ..], lists of any lengths, whose turns may make things -/
theorem lcZn {a b : Addr} {xs ys : List V} {j1 j2 : Nat} (keep : Nat → Bool) (val : Nat → V) (hx : SqL K H a xs) (hy : SqL K H b ys) (hD : H D = none) (hn : xs.length < 100000)
    (hw : ∀ x y, wipe (((wipe σ vs).set j1 (some x)).set j2 (some y)) vs = wipe σ vs)
    (ht : ∀ i x y H2 (Q : Bool → Hp → Prop), xs[i]? = some x → ys[i]? = some y → Same H H2 → (∀ H3, Same H2 H3 → Q (keep i) H3) → tt (((wipe σ vs).set j1 (some x)).set j2 (some y)) H2 Q)
    (he : ∀ i x y H2 (Q : VK), xs[i]? = some x → ys[i]? = some y → keep i = true → Same H H2 → (∀ H3, Same H2 H3 → Q (val i) H3) → te (((wipe σ vs).set j1 (some x)).set j2 (some y)) H2 Q)
    (hd : ∀ H', Same H H' → H' D = some (.lst (gives (min xs.length ys.length) keep val)) → Qd H') :
    ∃ W : Nat → Nat → Hp → Prop, (∃ m, W 0 m (upd H D (.lst []))) ∧ ∀ i m H, W i m H →
      ((Itz K a b).stop i H ∧ Qd H) ∨ ((Itz K a b).go i H ∧ ∃ Nx : Hp → Prop, (∀ H', Nx H' → ∃ m', m' < m ∧ W (i + 1) m' H') ∧
        ∀ x H', (Itz K a b).yld i H x H' → gTup K 2 (gCons (gName j1) (gCons (gName j2) gNil)) x (wipe σ vs) H' fun σ2 H2 => wipe σ2 vs = wipe σ vs ∧ tt σ2 H2 fun b H3 =>
          if b = true then te σ2 H3 fun y H4 => ∃ acc, H4 D = some (.lst acc) ∧ acc.length < sizeLine ∧ Nx (upd H4 D (.lst (acc ++ [y]))) else Nx H3) := by
  refine ⟨fun i m H' => m = min xs.length ys.length - i ∧ i ≤ min xs.length ys.length ∧ Same H H' ∧ H' D = some (.lst (gives i keep val)), ⟨_, rfl, Nat.zero_le _, Same.new hD, upd_same⟩, ?_⟩
  rintro i m H2 ⟨rfl, hi, s2, h2⟩
  have qx := s2.seq hx
  have qy := s2.seq hy
  rcases Nat.lt_or_ge i (min xs.length ys.length) with lt | ge
  · have lx : i < xs.length := by omega
    have ly : i < ys.length := by omega
    refine .inr ⟨⟨xs, ys, xs[i], ys[i], qx, qy, List.getElem?_eq_getElem lx, List.getElem?_eq_getElem ly⟩, fun H' => Same H H' ∧ H' D = some (.lst (gives (i + 1) keep val)),
      fun H' p' => ⟨min xs.length ys.length - (i + 1), by omega, rfl, lt, p'.1, p'.2⟩, ?_⟩
    rintro v H' ⟨T, x, y, rfl, hT, rfl, fx, fy⟩
    have sT : Same H (upd H2 T (.tup [x, y])) := s2.trans (Same.new hT)
    have hTD := Same.new (o := .tup [x, y]) hT _ _ h2
    refine ⟨T, _, rfl, SqT.of upd_same, rfl, _, _, rfl, _, _, rfl, rfl, hw _ _, ?_⟩
    exact lc_turnS hD lx hn sT hTD (fun Q q => ht i x y _ Q (fx xs qx) (fy ys qy) sT q) (fun H3 s3 Q k q => he i x y H3 Q (fx xs qx) (fy ys qy) k (sT.trans s3) q)
  · obtain rfl : i = min xs.length ys.length := Nat.le_antisymm hi ge
    refine .inl ⟨⟨xs, ys, qx, qy, ?_⟩, hd H2 s2 h2⟩
    rcases Nat.le_total xs.length ys.length with c | c
    · exact .inl (by omega)
    · exact .inr (by omega)
end
end SH

/-! SH7: set(xs) of a list of hin, and sorted of such a set, any number of members below the table's bound. -/
namespace SH
open PySem PySem.Spec PyProof.Rows L2
/-- the object that set() makes -/
abbrev setO0 (w : World) : Obj :=
  { cls := .type "set", dict := none, data := .set #[] 0 (.fresh 0 0 (!w.params.followText "set-order")) }
section
variable {P : Program} {w : World} {A : Around} {E : Value → Shared → Prop} {s : Shared}
set_option maxHeartbeats 3200000 in
theorem set_of_list {l : Addr} {xs : Array Value} (ns : List Int) {Q : Value → Shared → Prop} (calm : A.handled = none)
    (isl : s.heap.IsList l xs) (hin : IntsAre xs.toList ns) (few : ns.length + 1 < scanBound)
    (h : ∀ (g : Heap) (tk c : Nat), SetR w g s.heap.objs.size (fun j => decide (j ∈ ns)) c → c ≤ ns.length →
      (∀ b o, s.heap.get? b = some o → g.get? b = some o) →
      Q (.ref s.heap.objs.size) { s with heap := g, toks := tk }) :
    wpAny (model P w) A (call (.type "set") [.ref l]) Q E s := by
  have size : xs.size = ns.length := by rw [← Array.length_toList]; exact IntsAre.length hin
  obtain ⟨_, _, m1⟩ := F.called_set.mro
  have m2 := F.called_set.made
  have m3 := F.called_set.sub
  refine wpAny_call (codeAny_of_tree (show wpAny _ _ (callAny (.type "set") _) _ _ _ from ?_))
  refine wpAny_pure ⟨Code.quiet_builtin _ (by decide +kernel),
    codeAny_builtin F.entry_type_call ?_⟩
  rw [Around.under_plain (weight_type_call_type "set"
    [.ref l] []) rfl]
  have m4 := F.called_set.notType
  have m5 := F.called_set.canCreate
  have m6 := F.typeCall_set_1 (.ref l)
  repeat (any_goals (first | wp_step | assumption))
  refine codeAny_mono (code_set_led1 (.ref l) (E := E)
    (Q₁ := fun ob t => ob = .ref s.heap.objs.size ∧ t = { s with heap := s.heap.push (setO0 w) }) ⟨rfl, rfl⟩)
    fun res t made => ?_
  cases res with
  | error e => exact made
  | ok fl =>
  cases fl with
  | ret ob =>
    obtain ⟨rfl, rfl⟩ := made
    have at0 : (s.heap.push (setO0 w)).get? s.heap.objs.size = some (setO0 w) := Heap.get?_push_size _ rfl
    have ty0 : Shared.TypeIs { s with heap := s.heap.push (setO0 w) } (.ref s.heap.objs.size) "set" := ⟨_, at0, rfl⟩
    have m7 := F.called_set.init.lookup
    have m8 := F.called_set.init.bind (.ref s.heap.objs.size)
    repeat (any_goals (first | wp_step | assumption))
    refine codeAny_mono (codeAny_call_builtin (R := wants (fun r t => r = .none ∧ ∃ g tk c, t = { s with heap := g, toks := tk } ∧
        SetR w g s.heap.objs.size (fun j => decide (j ∈ ns)) c ∧ c ≤ ns.length ∧ ∀ b o, s.heap.get? b = some o → g.get? b = some o) E)
      F.called_set.init.plain F.entry_set_init (check_set_init_1 ty0 ?_)) fun res2 t2 done => ?_
    · obtain ⟨ol, lk, cl, en, dl⟩ := isl
      obtain ⟨c1, d1, x1, sl1⟩ := ol
      simp only at cl dl
      subst cl dl
      have lk' : (s.heap.push (setO0 w)).get? l = some { cls := .type "list", dict := d1, data := .seq xs en, slots := sl1 } :=
        Heap.get?_push_of_some _ lk
      have u1 := F.sub_list_set
      have u2 := F.sub_list_frozenset
      have u3 : (Value.type "list" == Value.type "dict") = false := by decide
      have isl1 : (s.heap.push (setO0 w)).IsList l xs := ⟨_, lk', rfl, en, rfl⟩
      unfold Builtin.«set.__init__» noKeywords
      unfold Builtin.Frozenset.updateFrom
      generalize iterE : pyIter = itf
      wp_walk
      subst iterE
      refine wpAny_pyIter_list isl1 (wpAny_bind (wpAny_runValue ?_))
      have lt : l < s.heap.objs.size := Heap.lt_size lk
      have calm3 : A.in1.in1.in1.handled = none := by simp [calm]
      have sz : (s.heap.push (setO0 w)).objs.size = s.heap.objs.size + 1 := Heap.size_push ..
      have ne1 : l ≠ (s.heap.push (setO0 w)).objs.size := by rw [sz]; exact Nat.ne_of_lt (Nat.lt_succ_of_lt lt)
      have ne2 : s.heap.objs.size ∉ [(s.heap.push (setO0 w)).objs.size, l] := by
        rw [sz]
        simp only [List.mem_cons, List.not_mem_nil, or_false, not_or]
        exact ⟨Nat.ne_of_lt (Nat.lt_succ_self _), Ne.symm (Nat.ne_of_lt lt)⟩
      have vals : ∀ (i : Nat) (v : Value), xs[i]? = some v → ∃ k t, ns[i]? = some k ∧ v = .int k t := fun i v e => by
        have il : i < ns.length := by rw [← size]; exact (Array.getElem?_eq_some_iff.mp e).1
        obtain ⟨t, et⟩ := IntsAre.int_at hin i v (by rw [Array.getElem?_toList]; exact e)
        refine ⟨ns.getD i 0, t, ?_, et⟩
        rw [List.getD_eq_getElem?_getD, List.getElem?_eq_getElem il]
        rfl
      refine set_update_ints ((Walks.list calm3 _ l ne1 xs).toS) s.heap.objs.size ne2 ns size few vals (xs.size - 0) 0 _ (by omega)
        (Nat.zero_le _) ⟨⟨_, Heap.get?_push_size _ rfl, rfl, rfl⟩, isl1.push _⟩ ⟨0, Nat.le_refl 0, ?_⟩ ?_
      · exact setR_new_at (Heap.get?_push_of_some _ at0)
      · intro t c mv cl1 R
        obtain ⟨g, gens, drawn, tk, os⟩ := t
        obtain rfl : gens = s.gens := mv.gens
        obtain rfl : drawn = s.drawn := mv.drawn
        obtain rfl : os = s.os := mv.os
        refine wpAny_pure (show wpAny _ _ (ret Value.none) _ _ _ from ?_)
        rw [size] at cl1
        refine wpAny_pure ⟨rfl, g, tk, c, rfl, R, cl1, fun b o e => mv.heap b o ?_ ?_⟩
        · have lb : b < s.heap.objs.size := Heap.lt_size e
          rw [sz]
          simp only [List.mem_cons, List.not_mem_nil, or_false, not_or]
          exact ⟨Nat.ne_of_lt lb, Nat.ne_of_lt (Nat.lt_succ_of_lt lb)⟩
        · exact Heap.get?_push_of_some _ (Heap.get?_push_of_some _ e)
    · cases res2 with
      | error e => exact done
      | ok fl2 =>
      cases fl2 with
      | ret r =>
        obtain ⟨rfl, g, tk, c, rfl, R, cl1, kp⟩ := done
        repeat (any_goals (first | wp_step | assumption))
        exact h _ _ _ R cl1 kp
      | _ => exact done.elim
  | _ => exact made.elim
theorem set_sorted {a : Addr} {S : Int → Bool} {n : Nat} {Q : Value → Shared → Prop} (R : SetR w s.heap a S n) (calm : A.handled = none)
    (h : ∀ t p (out : Array Value) (c : Nat) (ns : List Int), (∀ b o, s.heap.get? b = some o → t.heap.get? b = some o) → t.gens = s.gens → t.os = s.os →
      s.heap.objs.size ≤ p → t.heap.get? p = some (seqObj "list" out c) → IntsAre out.toList ns → ns.Pairwise (· < ·) →
      (∀ k, k ∈ ns ↔ S k = true) → ns.length = n → Q (.ref p) t) :
    wpAny (model P w) A (call (.builtin "sorted") [.ref a]) Q E s := by
  obtain ⟨ob, es, ep, tb, look, exact', dat, good, dis, mem, bnd, fits, cnt, ris, led⟩ := R
  refine Calls.call_function_entry kind_sorted plain_sorted entry_sorted (args_sorted1 _) ?_
  unfold Builtin.«sorted»
  refine wpAny_bind (m := checkCount "sorted" 1 1 _) (wpAny_pure (wpAny_bind (collect_set (A := A.in1) calm ⟨ob, look, exact'.1, dat⟩ fits bnd ris led
    fun t1 vs kp grow gn osn perm => ?_)))
  have lenV : vs.length = n := by rw [perm.length_eq, List.length_map, Array.length_toList]; exact cnt
  have intsV : IntsAre vs (vs.map Builtin.Re.reRawOf) := ints_of vs fun v hv => by
    obtain ⟨e, he, rfl⟩ := List.mem_map.mp (perm.mem_iff.mp hv)
    obtain ⟨k, tk, x, _⟩ := good e he
    exact ⟨k, tk, x⟩
  have permK : (vs.map Builtin.Re.reRawOf).Perm (es.toList.map keyOf) := by
    have := perm.map Builtin.Re.reRawOf
    rwa [List.map_map] at this
  have small : vs.length ≤ sizeLine := by
    have : scanBound = 4096 := rfl
    rw [lenV, sizeLine_eq]
    omega
  refine wpAny_bind (wpAny_newList ?_ small)
  have look2 : (t1.heap.push (seqObj "list" vs.toArray 0)).get? t1.heap.objs.size = some (seqObj "list" vs.toArray 0) :=
    Heap.get?_push_size _ rfl
  refine wpAny_bind (wpAny_holding (wpAny_call_entry slot_list_sort ⟨_, look2, rfl⟩ entry_list_sort
    (SrtO.list_sort_ord SrtO.swo_int look2 small (fun two => SrtO.ints_sortable intsV two) fun out o1 o2 => ⟨_, rfl, ?_⟩) (args_list_sort _)))
  obtain ⟨k1, k2, k3⟩ := SrtO.ints_out intsV o1 o2
  obtain ⟨c, ec⟩ := sortedHeap_at (vs := vs) (out := out.toArray) look2
  have pn : (out.map SrtO.iv).Perm (es.toList.map keyOf) := k2.trans permK
  refine wpAny_pure ⟨_, rfl, h _ t1.heap.objs.size out.toArray c (out.map SrtO.iv) (fun b u e => ?_) gn osn grow ec k1
    (lt_of_le_nodup _ k3 (pn.nodup_iff.mpr dis)) (fun k => by rw [pn.mem_iff, ← mem k]) ?_⟩
  · have e1 := kp b u e
    have lb : b < t1.heap.objs.size := Heap.lt_size e1
    have lb2 : b ≠ t1.heap.objs.size := Nat.ne_of_lt lb
    show (sortedHeap (t1.heap.push (seqObj "list" vs.toArray 0)) t1.heap.objs.size vs out.toArray).get? b = some u
    rw [sortedHeap_old lb2 (by rw [size_push']; exact Nat.lt_succ_of_lt lb)]
    exact Heap.get?_push_of_some _ e1
  · rw [pn.length_eq, List.length_map, Array.length_toList]
    exact cnt
end
/-- set(xs) -/
def rSetOfI (K : PySem.W.Frag) (w : World) : List V → Hp → VK → Prop := fun xs H Q => ∃ (l : Addr) (ns : List Int), xs = [.ref l] ∧ SqL K H l (iv ns) ∧ ns.length < 4000 ∧
  ∀ a n, H a = none → n ≤ ns.length → Q (.ref a) (upd H a (SetO w a (fun j => decide (j ∈ ns)) n))
theorem cr_setOfI {X : Cx} (hc : X.calm = true) : CallR X (.type "set") (rSetOfI X.K X.w) := by
  intro pins s σ H xs us Q I r h
  obtain ⟨l, ns, rfl, hl, hf, q⟩ := h
  rw [Vals.ref1 r]
  obtain ⟨its, rv, pl, hz⟩ := I.list hl
  have hn : H s.heap.objs.size = none := I.hok.fresh (Nat.le_refl _)
  refine set_of_list (P := X.prog) (w := X.w) ns (I.ok.hd hc) pl.isList (by simpa using ints_of_vals rv) (by have : scanBound = 4096 := rfl; omega) fun g tk c R cl kp => ?_
  exact ⟨.ref s.heap.objs.size, upd H s.heap.objs.size (SetO X.w s.heap.objs.size (fun j => decide (j ∈ ns)) c), I.laid (t' := tk) kp (Nat.le_refl _) (setO_new R), rfl, q _ c hn cl⟩
/-- sorted(found), any number of members -/
def rSortedN (w : World) : List V → Hp → VK → Prop := fun vs H Q => ∃ (a : Addr) (S : Int → Bool) (n : Nat), vs = [V.ref a] ∧ H a = some (SetO w a S n) ∧
  ∀ (ns : List Int) (p : Addr), ns.Pairwise (· < ·) → (∀ k : Int, k ∈ ns ↔ S k = true) → ns.length = n → H p = none → Q (.ref p) (upd H p (.lst (iv ns)))
theorem cr_sortedN {X : Cx} (hc : X.calm = true) : CallR X (.builtin "sorted") (rSortedN X.w) := by
  intro pins s σ H vs us Q I r h
  obtain ⟨a, S, n, rfl, ha, q⟩ := h
  have R := setO_get I ha
  rw [Vals.ref1 r]
  have nb : n < scanBound := by obtain ⟨_, es, _, _, _, _, _, _, _, _, b, _, e, _⟩ := R; omega
  refine set_sorted R (I.ok.hd hc) fun t p out c ns kp gn osn hp look hin asc mem len => ?_
  have small : (iv ns).length ≤ sizeLine := by
    have : scanBound = 4096 := rfl
    rw [List.length_map, len, sizeLine_eq]
    omega
  have hn : H p = none := I.hok.fresh hp
  have J : Inv X pins σ (upd H p (.lst (iv ns))) { s with heap := t.heap, gens := t.gens, drawn := t.drawn, toks := t.toks } :=
    I.call (ch := []) (Un.laid kp hp hn) (I.hok.laid kp hp ⟨small, out.toList, c, vals_of_ints hin, look⟩)
      (by rw [gn]; exact I.bare) (fun _ z => nomatch z)
  have e : t = { s with heap := t.heap, gens := t.gens, drawn := t.drawn, toks := t.toks } := by
    cases t; cases s; cases osn; rfl
  rw [e]
  exact ⟨.ref p, _, J, rfl, q ns p asc mem len hn⟩
end SH

/-! SH8: sorted(xs) of a list of ints, any length below 4000. -/
namespace SH
open PySem PySem.Spec PyProof.Rows L2
def rSortedAny (K : PySem.W.Frag) : List V → Hp → VK → Prop := fun vs H Q => ∃ (a : Addr) (ns : List Int), vs = [V.ref a] ∧ SqL K H a (ns.map V.int) ∧ ns.length < 4000 ∧
  ∀ (ns' : List Int) (p : Addr), ns'.Perm ns → ns'.Pairwise (· ≤ ·) → H p = none → Q (.ref p) (upd H p (.lst (ns'.map V.int)))
section
variable {X : Cx}
theorem cr_sortedAny : CallR X (.builtin "sorted") (rSortedAny X.K) := by
  intro pins s σ H vs us Q I r h
  obtain ⟨a, ns, rfl, hs, h64, q⟩ := h
  obtain ⟨its, rv, hl, _⟩ := I.list hs
  rw [Vals.ref1 r]
  have hi := rv.ints
  have hb : its.length ≤ sizeLine := by rw [hi.length, sizeLine_eq]; omega
  refine PyProof.Rows.sorted_intsAny hl.isList hi hb fun out ns' h1 h2 h3 => ?_
  obtain ⟨ep, he'⟩ := PyProof.Rows.sortedAll_at s.heap its out
  have hlen : (ns'.map V.int).length ≤ sizeLine := by rw [List.length_map, h2.length_eq, sizeLine_eq]; omega
  exact ⟨.ref _, upd H (s.heap.objs.size + 1) (.lst (ns'.map V.int)), I.laid (t' := s.toks) (fun _ _ => PyProof.Rows.sortedAll_old) (Nat.le_succ _) ⟨hlen, out.toList, ep, vals_of_ints h1, he'⟩, rfl, q ns' _ h2 h3 (I.hok.fresh (Nat.le_succ _))⟩
end
end SH

namespace SH
open PySem PySem.Spec PyProof.Rows L2
def topS (i : Nat) : Stmt := PySem.Challenge.pw_stickyheads_k40_lines_left_by_folds.main.body.getD i (.Pass ⟨0, 0, 0, 0⟩)
abbrev s_is_integer_from : Stmt := topS 5
abbrev N_is_integer_from : List Str := ["value", "least"]
abbrev P_is_integer_from : List Str := ["value", "least"]
theorem sc_is_integer_from : FnScope N_is_integer_from P_is_integer_from (defScope s_is_integer_from) := ⟨rfl, rfl, rfl, by decide +kernel, rfl, by decide +kernel, by decide +kernel⟩
abbrev s_is_integer_within : Stmt := topS 6
abbrev N_is_integer_within : List Str := ["value", "least", "greatest"]
abbrev P_is_integer_within : List Str := ["value", "least", "greatest"]
theorem sc_is_integer_within : FnScope N_is_integer_within P_is_integer_within (defScope s_is_integer_within) := ⟨rfl, rfl, rfl, by decide +kernel, rfl, by decide +kernel, by decide +kernel⟩
abbrev s_is_outline : Stmt := topS 10
abbrev N_is_outline : List Str := ["value", "greatest", "depth"]
abbrev P_is_outline : List Str := ["value"]
theorem sc_is_outline : FnScope N_is_outline P_is_outline (defScope s_is_outline) := ⟨rfl, rfl, rfl, by decide +kernel, rfl, by decide +kernel, by decide +kernel⟩
abbrev s_check_outline : Stmt := topS 11
abbrev N_check_outline : List Str := ["outline"]
abbrev P_check_outline : List Str := ["outline"]
theorem sc_check_outline : FnScope N_check_outline P_check_outline (defScope s_check_outline) := ⟨rfl, rfl, rfl, by decide +kernel, rfl, by decide +kernel, by decide +kernel⟩

/-! ### outlines as lists of ints -/
def okFrom : Int → List Int → Bool
  | _, [] => true
  | g, d :: r => decide (0 ≤ d) && decide (d ≤ g) && okFrom (d + 1) r
def isO (ns : List Int) : Bool := decide (1 ≤ ns.length) && decide (ns.length ≤ 200) && okFrom 0 ns
/-- the greatest depth that may stand at place i -/
def gAt (ns : List Int) : Nat → Int
  | 0 => 0
  | i + 1 => ns.getD i 0 + 1
theorem okFrom_drop {ns : List Int} {i : Nat} (h : i < ns.length) (g : Int) : okFrom g (ns.drop i) =
    (decide (0 ≤ ns.getD i 0) && decide (ns.getD i 0 ≤ g) && okFrom (ns.getD i 0 + 1) (ns.drop (i + 1))) := by
  rw [List.drop_eq_getElem_cons h, List.getD_eq_getElem?_getD, List.getElem?_eq_getElem h]
  rfl
theorem okFrom_at {ns : List Int} : ∀ {g : Int} {i : Nat}, okFrom g ns = true → i < ns.length →
    0 ≤ ns.getD i 0 ∧ (∀ j, i = j + 1 → ns.getD i 0 ≤ ns.getD j 0 + 1) ∧ (i = 0 → ns.getD i 0 ≤ g) := by
  induction ns with
  | nil => intro g i _ h; exact absurd h (Nat.not_lt_zero _)
  | cons d r ih =>
    intro g i h hi
    simp only [okFrom, Bool.and_eq_true, decide_eq_true_eq] at h
    cases i with
    | zero => exact ⟨h.1.1, fun j e => by omega, fun _ => h.1.2⟩
    | succ i =>
      have hi' : i < r.length := Nat.lt_of_succ_lt_succ hi
      obtain ⟨a, b, c⟩ := ih (i := i) h.2 hi'
      refine ⟨a, fun j e => ?_, fun e => by omega⟩
      obtain rfl : i = j := by omega
      cases i with
      | zero => exact c rfl
      | succ i => exact b i rfl
theorem okFrom_of {ns : List Int} : ∀ {g : Int}, (∀ i, i < ns.length → 0 ≤ ns.getD i 0 ∧ (∀ j, i = j + 1 → ns.getD i 0 ≤ ns.getD j 0 + 1) ∧ (i = 0 → ns.getD i 0 ≤ g)) → okFrom g ns = true := by
  induction ns with
  | nil => intro g _; rfl
  | cons d r ih =>
    intro g h
    simp only [okFrom, Bool.and_eq_true, decide_eq_true_eq]
    obtain ⟨a, _, c⟩ := h 0 (Nat.zero_lt_succ _)
    refine ⟨⟨a, c rfl⟩, ih fun i hi => ?_⟩
    obtain ⟨a', b', _⟩ := h (i + 1) (Nat.succ_lt_succ hi)
    refine ⟨a', fun j e => ?_, fun e => ?_⟩
    · subst e
      exact b' (j + 1) rfl
    · subst e
      exact b' 0 rfl
theorem isO_iff {ns : List Int} : isO ns = true ↔ 1 ≤ ns.length ∧ ns.length ≤ 200 ∧ okFrom 0 ns = true := by
  unfold isO
  rw [Bool.and_eq_true, Bool.and_eq_true, decide_eq_true_eq, decide_eq_true_eq, and_assoc]

section
variable {P : Program} {w : World} {K : PySem.W.Frag} {mg : Str → Option Value} {base : Heap}

/-- an int is at least -/
def sp_from : Sp := fun vs H Q _ => ∃ v a : Int, vs = [.int v, .int a] ∧ Q (.bl (decide (a ≤ v))) H
theorem ok_is_integer_from (T : Txt mg) (h : At K mg "is_integer_from" s_is_integer_from) :
    Has P w K mg base CX0 1 "is_integer_from" s_is_integer_from P_is_integer_from sp_from := by
  refine Has.of h sc_is_integer_from (fun vs H Q E h => ?_) (fun _ _ _ _ _ _ us hl => match us, hl with | [_, _], _ => rfl) (fun f cdv A outer s H vs Q E room qt h => ?_)
  · obtain ⟨v, a, rfl, _⟩ := h; rfl
  obtain ⟨v, a, rfl, k⟩ := h
  refine ⟨_, (pss_one (ps_ret (pe_and (pe_callB call_isi (by rfl) T.isinstance (by decide +kernel) (pa_cons (pv 0) (pa_cons (pe_bltn (v := .ty "int") (u := .type "int") (by rfl) T.tint (by decide +kernel) rfl) pa_nil))) (pe_and (pe_not (pe_callB call_isi (by rfl) T.isinstance (by decide +kernel) (pa_cons (pv 0) (pa_cons (pe_bltn (v := .ty "bool") (u := .type "bool") (by rfl) T.bool (by decide +kernel) rfl) pa_nil)))) (pe_one (pe_cmpR op_ge (pv 0) (pv 1) (nomark _))))))), ?_⟩
  refine ⟨_, rfl, .int v, .ty "int", .type "int", .type "int", true, rfl, .ty _, .base (.int v), kit_ty (by decide +kernel), _, rfl, iteT ?_⟩
  refine ⟨_, rfl, .int v, .ty "bool", .type "int", .type "bool", false, rfl, .ty _, .base (.int v), kit_ty (by decide +kernel), _, rfl, _, rfl, iteT ?_⟩
  exact ⟨_, rfl, _, rfl, _, _, rfl, rfl, k⟩

/-- an int is within: least <= value <= greatest -/
def sp_within : Sp := fun vs H Q _ => ∃ v a b : Int, vs = [.int v, .int a, .int b] ∧ Q (.bl (decide (a ≤ v) && decide (v ≤ b))) H
theorem ok_is_integer_within (T : Txt mg) (h : At K mg "is_integer_within" s_is_integer_within)
    (g_is_integer_from : Has P w K mg base CX0 1 "is_integer_from" s_is_integer_from P_is_integer_from sp_from) :
    Has P w K mg base CX0 2 "is_integer_within" s_is_integer_within P_is_integer_within sp_within := by
  refine Has.of h sc_is_integer_within (fun vs H Q E h => ?_) (fun _ _ _ _ _ _ us hl => match us, hl with | [_, _, _], _ => rfl) (fun f cdv A outer s H vs Q E room qt h => ?_)
  · obtain ⟨v, a, b, rfl, _⟩ := h; rfl
  obtain ⟨v, a, b, rfl, k⟩ := h
  refine ⟨_, (pss_one (ps_ret (pe_and (pe_has g_is_integer_from (room.mono (by decide)) qt (by rfl) pass0 (pa_cons (pv 0) (pa_cons (pv 1) pa_nil))) (pe_one (pe_cmpR op_le (pv 0) (pv 2) (nomark _)))))), ?_⟩
  refine ⟨_, rfl, _, rfl, v, a, rfl, _, rfl, ?_⟩
  by_cases c : a ≤ v
  · rw [decide_eq_true c] at k ⊢
    rw [Bool.true_and] at k
    exact iteT ⟨_, rfl, _, rfl, _, _, rfl, rfl, k⟩
  · rw [decide_eq_false c] at k ⊢
    rw [Bool.false_and] at k
    exact iteF k

/-- a list of ints: is it an outline -/
def sp_is_outline : Sp := fun vs H Q _ => ∃ (a : Addr) (ns : List Int), vs = [.ref a] ∧ H a = some (.lst (iv ns)) ∧ Q (.bl (isO ns)) H
theorem ok_is_outline {t : Tok} (T : Txt mg) (c_MOST_LINES : mg "MOST_LINES" = some (.int 200 t)) (h : At K mg "is_outline" s_is_outline)
    (g_is_integer_within : Has P w K mg base CX0 2 "is_integer_within" s_is_integer_within P_is_integer_within sp_within) :
    Has P w K mg base CX0 3 "is_outline" s_is_outline P_is_outline sp_is_outline := by
  refine Has.of h sc_is_outline (fun vs H Q E h => ?_) (fun _ _ _ _ _ _ us hl => match us, hl with | [_], _ => rfl) (fun f cdv A outer s H vs Q E room qt h => ?_)
  · obtain ⟨v, a, rfl, _⟩ := h; rfl
  obtain ⟨a, ns, rfl, ha, k⟩ := h
  refine ⟨_, (pss_cons (ps_if (PW.pt (pw_or (pt_cmpR op_neTy (pe_callTy RZ.call_type4 (by rfl) T.ttype (by decide +kernel) (pa_cons (pv 0) pa_nil)) (pe_bltn (v := .ty "list") (u := .type "list") (by rfl) T.tlist (by decide +kernel) rfl) (nomark _)) (pw_or1 (pt_not (pt_chain op_le op_le pe_int (pe_callB call_len_seq (by rfl) T.len (by decide +kernel) (pa_cons (pv 0) pa_nil)) (pe_glob (v := .int 200) rfl c_MOST_LINES ⟨_, rfl⟩))))))
        (pss_one (ps_ret pe_bl))
        pss_nil)
      (pss_cons (ps_set (i := 1) sc_is_outline.nd rfl (Or.inl rfl) pe_int)
      (pss_cons (ps_for PassesOwn.never rfl (pi_list (pv 0)) (pg_name (i := 2) sc_is_outline.nd rfl (Or.inl rfl) (hf := Or.inl rfl))
        (pss_cons (ps_if (pt_not (pt_val (pe_has g_is_integer_within (room.mono (by decide)) qt (by rfl) pass0 (pa_cons (pv 2) (pa_cons pe_int (pa_cons (pv 1) pa_nil))))))
          (pss_one (ps_ret pe_bl))
          pss_nil)
        (pss_one (ps_set (i := 1) sc_is_outline.nd rfl (Or.inl rfl) (pe_op op_add (pv 2) pe_int)))))
      (pss_one (ps_ret pe_bl))))), ?_⟩
  have el : (iv ns).length = ns.length := List.length_map _
  -- type(value) != list or not 1 <= len(value) <= MOST_LINES
  refine ⟨_, rfl, .ref a, "list", rfl, .lst ha, _, _, rfl, rfl, by decide, by decide, _, rfl, ?_⟩
  refine iteF ⟨_, rfl, _, _, rfl, .inl (SqL.of ha), _, _, rfl, rfl, _, rfl, ?_⟩
  have no : isO ns = false → Q (.bl false) H := fun e => by rw [← e]; exact k
  refine ite2 (fun c => ?_) (fun c => ?_)
  · have c1 := of_decide_eq_true c
    refine ⟨_, _, rfl, rfl, _, rfl, ite2 (fun d => ?_) (fun d => ?_)⟩
    · refine no ?_
      have d1 : ¬ ns.length ≤ 200 := fun z => by rw [decide_eq_true (by omega)] at d; cases d
      unfold isO
      rw [decide_eq_false d1, Bool.and_false, Bool.false_and]
    · have d1 : ns.length ≤ 200 := by
        by_cases z : ns.length ≤ 200
        · exact z
        · exact (d (by rw [decide_eq_false (by omega)]; rfl)).elim
      have e0 : isO ns = okFrom 0 ns := by
        unfold isO
        rw [decide_eq_true (by omega), decide_eq_true d1, Bool.true_and, Bool.true_and]
      rw [e0] at k
      -- greatest = 0; for depth in value
      refine ⟨_, rfl, a, rfl, ⟨_, SqL.of ha⟩, for_list (K := K) (a := a) (xs := iv ns)
        (fun i σ H2 => H2 = H ∧ (∃ v, σ = [some (.ref a), some (.int (gAt ns i)), v]) ∧ okFrom (gAt ns i) (ns.drop i) = okFrom 0 ns)
        ⟨rfl, ⟨_, rfl⟩, rfl⟩ (fun i σ H2 _ q => by rw [q.1]; exact SqL.of ha) ?_ ?_⟩
      · rintro i x σ H2 hi ⟨rfl, ⟨v, rfl⟩, q⟩
        have hl : i < ns.length := by have := (List.getElem?_eq_some_iff.mp hi).1; rwa [List.length_map] at this
        rw [iv_at hl] at hi
        cases hi
        rw [okFrom_drop hl] at q
        -- if not is_integer_within(depth, 0, greatest)
        refine ⟨_, rfl, _, rfl, _, _, _, rfl, _, rfl, ite2 (fun d => ?_) (fun d => ?_)⟩
        · rw [bnot_t d, Bool.false_and] at q
          rw [← q] at k
          exact k
        · rw [bnot_f d, Bool.true_and] at q
          exact ⟨_, rfl, _, _, rfl, rfl, rfl, ⟨_, rfl⟩, q⟩
      · rintro σ H2 ⟨rfl, ⟨v, rfl⟩, q⟩
        rw [el, List.drop_length] at q
        rw [← q] at k
        exact k
  · refine ⟨_, rfl, iteT (no ?_)⟩
    have c1 : ¬ 1 ≤ ns.length := fun z => c (decide_eq_true (by omega))
    unfold isO
    rw [decide_eq_false c1, Bool.false_and, Bool.false_and]

/-- an outline: nothing is raised -/
def sp_check_outline : Sp := fun vs H Q _ => ∃ (a : Addr) (ns : List Int), vs = [.ref a] ∧ H a = some (.lst (iv ns)) ∧ isO ns = true ∧ Q .non H
theorem ok_check_outline (T : Txt mg) (h : At K mg "check_outline" s_check_outline)
    (g_is_outline : Has P w K mg base CX0 3 "is_outline" s_is_outline P_is_outline sp_is_outline) :
    Has P w K mg base CX0 4 "check_outline" s_check_outline P_check_outline sp_check_outline := by
  refine Has.of h sc_check_outline (fun vs H Q E h => ?_) (fun _ _ _ _ _ _ us hl => match us, hl with | [_], _ => rfl) (fun f cdv A outer s H vs Q E room qt h => ?_)
  · obtain ⟨v, a, rfl, _⟩ := h; rfl
  obtain ⟨a, ns, rfl, ha, ho, k⟩ := h
  refine ⟨_, (pss_one (ps_if (pt_not (pt_val (pe_has g_is_outline (room.mono (by decide)) qt (by rfl) pass0 (pa_cons (pv 0) pa_nil))))
        (pss_one ps_never)
        pss_nil)), ?_⟩
  refine ⟨_, rfl, a, ns, rfl, ha, _, rfl, ?_⟩
  rw [ho]
  exact iteF k

end
theorem okFrom_snoc {ns : List Int} {d : Int} : ∀ {g : Int}, okFrom g ns = true → 0 ≤ d → (ns = [] → d ≤ g) → (ns ≠ [] → d ≤ ns.getD (ns.length - 1) 0 + 1) → okFrom g (ns ++ [d]) = true := by
  induction ns with
  | nil => intro g _ h0 h1 _; simp only [List.nil_append, okFrom, Bool.and_eq_true, decide_eq_true_eq, and_true]; exact ⟨h0, h1 rfl⟩
  | cons e r ih =>
    intro g h h0 _ h2
    simp only [okFrom, Bool.and_eq_true, decide_eq_true_eq, List.cons_append] at h ⊢
    refine ⟨h.1, ih h.2 h0 (fun er => ?_) fun er => ?_⟩
    · subst er
      exact h2 (by simp)
    · have := h2 (by simp)
      cases r with
      | nil => exact absurd rfl er
      | cons f r => exact this
theorem okFrom_le {ns : List Int} : ∀ {g : Int} {i : Nat}, okFrom g ns = true → i < ns.length → ns.getD i 0 ≤ g + i := by
  induction ns with
  | nil => intro g i _ h; exact absurd h (Nat.not_lt_zero _)
  | cons d r ih =>
    intro g i h hi
    simp only [okFrom, Bool.and_eq_true, decide_eq_true_eq] at h
    cases i with
    | zero => show d ≤ g + ((0 : Nat) : Int); omega
    | succ i =>
      have := ih (i := i) h.2 (Nat.lt_of_succ_lt_succ hi)
      show r.getD i 0 ≤ g + ((i + 1 : Nat) : Int)
      omega
/-! ### headings, top lines, views as lists of ints -/
/-- the headings found from line k on upwards, the next wanted depth being w -/
def headsL (ns : List Int) : Nat → Int → List Int
  | 0, _ => []
  | k + 1, w => if ns.getD k 0 = w then headsL ns k (w - 1) ++ [(k : Int)] else headsL ns k w
def headsOf (ns : List Int) (i : Nat) : List Int := headsL ns i (ns.getD i 0 - 1)
theorem headsL_len (ns : List Int) : ∀ (k : Nat) (w : Int), (headsL ns k w).length ≤ k
  | 0, _ => Nat.le_refl _
  | k + 1, w => by
    unfold headsL
    split
    · rw [List.length_append]
      exact Nat.succ_le_succ (headsL_len ns k _)
    · exact Nat.le_succ_of_le (headsL_len ns k _)
theorem headsL_mem {ns : List Int} : ∀ {k : Nat} {w v : Int}, v ∈ headsL ns k w → 0 ≤ v ∧ v < k
  | k + 1, w, v, h => by
    unfold headsL at h
    split at h
    · rcases List.mem_append.mp h with h | h
      · have := headsL_mem h; omega
      · have := List.mem_singleton.mp h; omega
    · have := headsL_mem h; omega
def stopAt (ns : List Int) (i : Nat) : Int := (i : Int) - ns.getD i 0
def lastStop (ns : List Int) : Int := stopAt ns (ns.length - 1)
/-- t is the top line at s -/
def IsTop (ns : List Int) (s : Int) (t : Nat) : Prop := t < ns.length ∧ s ≤ stopAt ns t ∧ ∀ j, j < t → stopAt ns j < s
theorem IsTop.uniq {ns : List Int} {s : Int} {t u : Nat} (a : IsTop ns s t) (b : IsTop ns s u) : t = u := by
  rcases Nat.lt_trichotomy t u with h | h | h
  · have := b.2.2 t h; have := a.2.1; omega
  · exact h
  · have := a.2.2 u h; have := b.2.1; omega
theorem top_ex {ns : List Int} {s : Int} : ∀ n, n < ns.length → s ≤ stopAt ns n → ∃ t, t ≤ n ∧ IsTop ns s t
  | 0, h, q => ⟨0, Nat.le_refl _, h, q, fun j hj => absurd hj (Nat.not_lt_zero _)⟩
  | n + 1, h, q => by
    by_cases e : ∃ j, j ≤ n ∧ s ≤ stopAt ns j
    · obtain ⟨j, hj, ej⟩ := e
      obtain ⟨t, ht, it⟩ := top_ex j (by omega) ej
      exact ⟨t, by omega, it⟩
    · refine ⟨n + 1, Nat.le_refl _, h, q, fun j hj => ?_⟩
      by_cases z : s ≤ stopAt ns j
      · exact (e ⟨j, by omega, z⟩).elim
      · omega
/-- slices of lists of ints -/
def cutI (l : List Int) (lo hi : Option Int) : List Int := (l.drop (HT.sIx l.length 0 lo)).take (HT.sIx l.length l.length hi - HT.sIx l.length 0 lo)
theorem cutV_iv (l : List Int) (lo hi : Option Int) : cutV (iv l) lo hi = iv (cutI l lo hi) := by
  unfold cutV cutI iv
  rw [List.map_take, List.map_drop, List.length_map]
theorem cutI_len (l : List Int) (lo hi : Option Int) : (cutI l lo hi).length ≤ l.length := by
  unfold cutI
  rw [List.length_take, List.length_drop]
  omega
theorem cutI_to (l : List Int) {n : Int} (h : 0 ≤ n) : cutI l none (some n) = l.take n.toNat := by
  unfold cutI
  have e : n = (n.toNat : Int) := by omega
  rw [e, HT.sIx_none, HT.sIx_nat, List.drop_zero, Nat.sub_zero, Int.toNat_natCast]
  rcases Nat.le_total n.toNat l.length with a | a
  · rw [Nat.min_eq_left a]
  · rw [Nat.min_eq_right a, List.take_length, List.take_of_length_le a]
/-- lo, lo + 1, .. below hi -/
def rg2 (lo hi : Int) : List Int := (List.range (hi - lo).toNat).map fun (i : Nat) => lo + (i : Int)
theorem rgV_rg2 (a b : Int) : rgV a b = iv (rg2 a b) := by
  unfold rgV rg2 iv
  rw [List.map_map]
  rfl
theorem rg2_len (a b : Int) : (rg2 a b).length = (b - a).toNat := by unfold rg2; rw [List.length_map, List.length_range]
def pushedL (ns : List Int) (t : Nat) (s : Int) : List Int := if stopAt ns t - s = 0 then [] else cutI (headsOf ns (t - 1)) (some (-(stopAt ns t - s))) none
def rowsL (ns : List Int) (s : Int) (t : Nat) : List Int := headsOf ns t ++ pushedL ns t s ++ rg2 t ns.length
def viewL (ns : List Int) (h s : Int) (t : Nat) : List Int := (rowsL ns s t).take h.toNat
theorem pushedL_len (ns : List Int) (t : Nat) (s : Int) : (pushedL ns t s).length ≤ t := by
  unfold pushedL
  split
  · exact Nat.zero_le _
  · exact Nat.le_trans (cutI_len _ _ _) (Nat.le_trans (headsL_len _ _ _) (Nat.sub_le _ _))
theorem stopAt_nn {ns : List Int} (h : okFrom 0 ns = true) {i : Nat} (hi : i < ns.length) : 0 ≤ stopAt ns i ∧ stopAt ns i ≤ i := by
  have a := okFrom_le h hi
  have b := (okFrom_at h hi).1
  unfold stopAt
  omega
theorem inV_iv (v : Int) (L : List Int) : inV (.int v) (iv L) = decide (v ∈ L) := by
  unfold inV iv
  rw [Bool.eq_iff_iff, List.any_eq_true]
  constructor
  · rintro ⟨y, hy, e⟩
    obtain ⟨z, hz, rfl⟩ := List.mem_map.mp hy
    have : z = v := by simpa [eqV] using e
    subst this
    exact decide_eq_true hz
  · intro e
    exact ⟨.int v, List.mem_map.mpr ⟨v, of_decide_eq_true e, rfl⟩, by simp [eqV]⟩
theorem flat_iv (L : List Int) : (iv L).all flatV = true := by
  rw [List.all_eq_true]
  intro x hx
  obtain ⟨z, hz, rfl⟩ := List.mem_map.mp hx
  rfl
theorem ite_cut {b : Prop} [Decidable b] {A : Prop} {NX : L2.St → Hp → Prop} {σ : L2.St} {H : Hp} (Inv : L2.St → Hp → Prop)
    (main : ∀ σ' H', Inv σ' H' → NX σ' H') (hA : b → (∀ σ' H', Inv σ' H' → NX σ' H') → A) (hB : ¬b → Inv σ H) : if b then A else NX σ H := by
  by_cases h : b
  · rw [if_pos h]; exact hA h main
  · rw [if_neg h]; exact main _ _ (hB h)
end SH

namespace SH
open PySem PySem.Spec PyProof.Rows L2
abbrev s_last_of_section : Stmt := topS 12
abbrev N_last_of_section : List Str := ["outline", "line", "last"]
abbrev P_last_of_section : List Str := ["outline", "line"]
theorem sc_last_of_section : FnScope N_last_of_section P_last_of_section (defScope s_last_of_section) := ⟨rfl, rfl, rfl, by decide +kernel, rfl, by decide +kernel, by decide +kernel⟩
abbrev s_is_ascending_list : Stmt := topS 7
abbrev N_is_ascending_list : List Str := ["value", "greatest", "least", "item"]
abbrev P_is_ascending_list : List Str := ["value", "greatest"]
theorem sc_is_ascending_list : FnScope N_is_ascending_list P_is_ascending_list (defScope s_is_ascending_list) := ⟨rfl, rfl, rfl, by decide +kernel, rfl, by decide +kernel, by decide +kernel⟩
abbrev s_lines_left : Stmt := topS 14
abbrev N_lines_left : List Str := ["outline", "folds", "found", "line"]
abbrev P_lines_left : List Str := ["outline", "folds"]
theorem sc_lines_left : FnScope N_lines_left P_lines_left (defScope s_lines_left) := ⟨rfl, rfl, rfl, by decide +kernel, rfl, by decide +kernel, by decide +kernel⟩
abbrev s_folded_outline : Stmt := topS 15
abbrev N_folded_outline : List Str := ["outline", "folds", "line"]
abbrev P_folded_outline : List Str := ["outline", "folds"]
theorem sc_folded_outline : FnScope N_folded_outline P_folded_outline (defScope s_folded_outline) := ⟨rfl, rfl, rfl, by decide +kernel, rfl, by decide +kernel, by decide +kernel⟩
/-! ### folds -/
/-- t is the last line of the section at i -/
def IsEnd (ns : List Int) (i t : Nat) : Prop := i ≤ t ∧ t < ns.length ∧ (∀ k, i < k → k ≤ t → ns.getD i 0 < ns.getD k 0) ∧ (t + 1 < ns.length → ns.getD (t + 1) 0 ≤ ns.getD i 0)
theorem end_ex {ns : List Int} {i : Nat} (hi : i < ns.length) : ∀ n, ∃ t, IsEnd ns i t ∨ (i ≤ t ∧ t < ns.length ∧ (∀ k, i < k → k ≤ t → ns.getD i 0 < ns.getD k 0) ∧ t = i + n)
  | 0 => ⟨i, .inr ⟨Nat.le_refl _, hi, fun k a b => by omega, rfl⟩⟩
  | n + 1 => by
    obtain ⟨t, h | ⟨a, b, c, e⟩⟩ := end_ex hi n
    · exact ⟨t, .inl h⟩
    · by_cases q : t + 1 < ns.length ∧ ns.getD i 0 < ns.getD (t + 1) 0
      · refine ⟨t + 1, .inr ⟨by omega, q.1, fun k k0 k1 => ?_, by omega⟩⟩
        rcases Nat.lt_or_ge t k with z | z
        · have : k = t + 1 := by omega
          subst this
          exact q.2
        · exact c k k0 z
      · refine ⟨t, .inl ⟨a, b, c, fun z => ?_⟩⟩
        by_cases y : ns.getD i 0 < ns.getD (t + 1) 0
        · exact (q ⟨z, y⟩).elim
        · omega
theorem end_of {ns : List Int} {i : Nat} (hi : i < ns.length) : ∃ t, IsEnd ns i t := by
  obtain ⟨t, h | ⟨a, b, c, e⟩⟩ := end_ex hi ns.length
  · exact ⟨t, h⟩
  · omega
theorem end_uniq {ns : List Int} {i t t' : Nat} (a : IsEnd ns i t) (b : IsEnd ns i t') : t = t' := by
  rcases Nat.lt_trichotomy t t' with c | c | c
  · have := a.2.2.2 (by have := b.2.1; omega)
    have := b.2.2.1 (t + 1) (by have := a.1; omega) c
    omega
  · exact c
  · have := b.2.2.2 (by have := a.2.1; omega)
    have := a.2.2.1 (t' + 1) (by have := b.1; omega) c
    omega
noncomputable def endF (ns : List Int) (i : Nat) : Nat := @dite _ (i < ns.length) (Classical.propDecidable _) (fun h => Classical.choose (end_of h)) (fun _ => i)
theorem endF_is {ns : List Int} {i : Nat} (hi : i < ns.length) : IsEnd ns i (endF ns i) := by
  unfold endF
  rw [dif_pos hi]
  exact Classical.choose_spec (end_of hi)
noncomputable def nextL (ns fs : List Int) (i : Nat) : Nat := if (i : Int) ∈ fs then max (endF ns i) i + 1 else i + 1
theorem nextL_gt (ns fs : List Int) (i : Nat) : i < nextL ns fs i := by unfold nextL; split <;> omega
noncomputable def leftL (ns fs : List Int) (i : Nat) : List Int := if i < ns.length then (i : Int) :: leftL ns fs (nextL ns fs i) else []
termination_by ns.length - i
decreasing_by have := nextL_gt ns fs i; omega
theorem leftL_go {ns fs : List Int} {i : Nat} (hi : i < ns.length) : leftL ns fs i = (i : Int) :: leftL ns fs (nextL ns fs i) := by
  rw [leftL, if_pos hi]
theorem leftL_end {ns fs : List Int} {i : Nat} (hi : ns.length ≤ i) : leftL ns fs i = [] := by
  rw [leftL, if_neg (by omega)]
theorem leftL_mem {ns fs : List Int} {v : Int} {i : Nat} (hv : v ∈ leftL ns fs i) : (i : Int) ≤ v ∧ v < ns.length := by
  induction hm : ns.length - i using Nat.strongRecOn generalizing i with
  | _ m ih =>
    rcases Nat.lt_or_ge i ns.length with c | c
    · rw [leftL_go c] at hv
      have := nextL_gt ns fs i
      rcases List.mem_cons.mp hv with e | e
      · subst e
        omega
      · have := ih (ns.length - nextL ns fs i) (by omega) e rfl
        omega
    · rw [leftL_end c] at hv
      cases hv
theorem leftL_len (ns fs : List Int) (i : Nat) : (leftL ns fs i).length ≤ ns.length - i := by
  induction hm : ns.length - i using Nat.strongRecOn generalizing i with
  | _ m ih =>
    rcases Nat.lt_or_ge i ns.length with c | c
    · rw [leftL_go c, List.length_cons]
      have := nextL_gt ns fs i
      have := ih (ns.length - nextL ns fs i) (by omega) _ rfl
      omega
    · rw [leftL_end c]
      exact Nat.zero_le _
/-- the depths of the lines that are left -/
noncomputable def foldL (ns fs : List Int) : List Int := (leftL ns fs 0).map fun v => ns.getD v.toNat 0
/-- strictly ascending from lo to g -/
def ascB (g : Int) : Int → List Int → Bool
  | _, [] => true
  | lo, x :: r => decide (lo ≤ x) && decide (x ≤ g) && ascB g (x + 1) r
theorem ascB_drop {g : Int} {fs : List Int} {i : Nat} (h : i < fs.length) (lo : Int) : ascB g lo (fs.drop i) =
    (decide (lo ≤ fs.getD i 0) && decide (fs.getD i 0 ≤ g) && ascB g (fs.getD i 0 + 1) (fs.drop (i + 1))) := by
  rw [List.drop_eq_getElem_cons h, List.getD_eq_getElem?_getD, List.getElem?_eq_getElem h]
  rfl
def aAt (fs : List Int) : Nat → Int
  | 0 => 0
  | i + 1 => fs.getD i 0 + 1
section
variable {P : Program} {w : World} {K : PySem.W.Frag} {mg : Str → Option Value} {base : Heap}
def sp_last_of_section (K : PySem.W.Frag) : Sp := fun vs H Q _ => ∃ (a : Addr) (ns : List Int) (i t : Nat), vs = [.ref a, .int i] ∧ SqL K H a (iv ns) ∧ IsEnd ns i t ∧ Q (.int t) H
theorem ok_last_of_section (T : Txt mg) (h : At K mg "last_of_section" s_last_of_section) :
    Has P w K mg base CX0 2 "last_of_section" s_last_of_section P_last_of_section (sp_last_of_section K) := by
  refine Has.of h sc_last_of_section (fun vs H Q E h => ?_) (fun _ _ _ _ _ _ us hl => match us, hl with | [_, _], _ => rfl) (fun f cdv A outer s H vs Q E room qt h => ?_)
  · obtain ⟨a, n, z, t, rfl, _⟩ := h; rfl
  obtain ⟨a, ns, i, t, rfl, ha, ⟨t0, t1, t2, t3⟩, k⟩ := h
  refine ⟨_, (pss_cons (ps_set (i := 2) sc_last_of_section.nd rfl (Or.inl rfl) (pv 1))
      (pss_cons (ps_while PassesOwn.never (PW.pt (pw_and (pt_cmpR op_lt (pe_op op_add (pv 2) pe_int) (pe_callB call_len_seq (by rfl) T.len (by decide +kernel) (pa_cons (pv 0) pa_nil)) (nomark _)) (pw_and1 (pt_cmpR op_gt (pe_ix ix_list (pv 0) (pe_op op_add (pv 2) pe_int) (fun _ _ => rfl)) (pe_ix ix_list (pv 0) (pv 1) (fun _ _ => rfl)) (nomark _)))))
        (pss_one (ps_aug (i := 2) sc_last_of_section.nd rfl (Or.inl rfl) pe_int ip_add)))
      (pss_one (ps_ret (pv 2))))), ?_⟩
  have el : (iv ns).length = ns.length := List.length_map _
  refine ⟨_, rfl, ?_⟩
  refine ⟨fun m σ H' => H' = H ∧ ∃ j : Nat, i ≤ j ∧ j ≤ t ∧ m = t - j ∧ σ = [some (.ref a), some (.int i), some (.int (j : Nat))], ⟨t - i, rfl, i, Nat.le_refl _, t0, rfl, rfl⟩, ?_⟩
  rintro m σ H' ⟨rfl, j, j0, j1, rfl, rfl⟩
  refine ⟨_, rfl, _, _, rfl, rfl, _, rfl, a, _, rfl, .inl ha, _, _, rfl, rfl, _, rfl, ite2 (fun c => ?_) (fun c => iteF ?_)⟩
  · have c1 : j + 1 < ns.length := by have := of_decide_eq_true c; omega
    have ej : (j : Int) + 1 = ((j + 1 : Nat) : Int) := by omega
    refine ⟨_, rfl, _, rfl, _, _, rfl, rfl, a, iv ns, _, _, rfl, rfl, ha, atI_iv (by omega) (by omega), _, rfl, _, rfl, a, iv ns, _, _, rfl, rfl, ha, atI_iv (by omega) (by omega), _, _, rfl, rfl, _, rfl, ite2 (fun c2 => ?_) (fun c2 => ?_)⟩
    · have c3 := of_decide_eq_true c2
      rw [ej, Int.toNat_natCast, Int.toNat_natCast] at c3
      have ne : j ≠ t := fun e => by subst e; have := t3 c1; omega
      refine ⟨fun σ' H2 => H2 = H' ∧ σ' = [some (.ref a), some (.int i), some (.int ((j : Nat) + 1))], fun σ' H'' q => ⟨t - (j + 1), by omega, q.1, j + 1, by omega, by omega, rfl, q.2⟩, ?_⟩
      exact ⟨_, rfl, _, _, rfl, rfl, rfl, rfl⟩
    · have c3 : ¬ (ns.getD i 0 < ns.getD (j + 1) 0) := fun q => c2 (decide_eq_true (by rw [ej, Int.toNat_natCast, Int.toNat_natCast]; exact q))
      have e : j = t := by
        rcases Nat.lt_or_ge j t with q | q
        · exact (c3 (t2 (j + 1) (by omega) (by omega))).elim
        · omega
      subst e
      exact ⟨_, rfl, k⟩
  · have c1 : ¬ (j + 1 < ns.length) := fun q => c (decide_eq_true (by omega))
    have e : j = t := by omega
    subst e
    exact ⟨_, rfl, k⟩
def sp_is_ascending_list : Sp := fun vs H Q _ => ∃ (b : Addr) (fs : List Int) (g : Int), vs = [.ref b, .int g] ∧ H b = some (.lst (iv fs)) ∧ Q (.bl (ascB g 0 fs)) H
theorem ok_is_ascending_list (T : Txt mg) (h : At K mg "is_ascending_list" s_is_ascending_list)
    (g_is_integer_within : Has P w K mg base CX0 2 "is_integer_within" s_is_integer_within P_is_integer_within sp_within) :
    Has P w K mg base CX0 3 "is_ascending_list" s_is_ascending_list P_is_ascending_list sp_is_ascending_list := by
  refine Has.of h sc_is_ascending_list (fun vs H Q E h => ?_) (fun _ _ _ _ _ _ us hl => match us, hl with | [_, _], _ => rfl) (fun f cdv A outer s H vs Q E room qt h => ?_)
  · obtain ⟨v, a, z, rfl, _⟩ := h; rfl
  obtain ⟨a, ns, g, rfl, ha, k⟩ := h
  refine ⟨_, (pss_cons (ps_if (pt_cmpR op_neTy (pe_callTy RZ.call_type4 (by rfl) T.ttype (by decide +kernel) (pa_cons (pv 0) pa_nil)) (pe_bltn (v := .ty "list") (u := .type "list") (by rfl) T.tlist (by decide +kernel) rfl) (nomark _))
        (pss_one (ps_ret pe_bl))
        pss_nil)
      (pss_cons (ps_set (i := 2) sc_is_ascending_list.nd rfl (Or.inl rfl) pe_int)
      (pss_cons (ps_for PassesOwn.never rfl (pi_list (pv 0)) (pg_name (i := 3) sc_is_ascending_list.nd rfl (Or.inl rfl) (hf := Or.inl rfl))
        (pss_cons (ps_if (pt_not (pt_val (pe_has g_is_integer_within (room.mono (by decide)) qt (by rfl) pass0 (pa_cons (pv 3) (pa_cons (pv 2) (pa_cons (pv 1) pa_nil))))))
          (pss_one (ps_ret pe_bl))
          pss_nil)
        (pss_one (ps_set (i := 2) sc_is_ascending_list.nd rfl (Or.inl rfl) (pe_op op_add (pv 3) pe_int)))))
      (pss_one (ps_ret pe_bl))))), ?_⟩
  have el : (iv ns).length = ns.length := List.length_map _
  refine ⟨_, rfl, .ref a, "list", rfl, .lst ha, _, _, rfl, rfl, by decide, by decide, _, rfl, ?_⟩
  refine iteF ⟨_, rfl, a, rfl, ⟨_, SqL.of ha⟩, for_list (K := K) (a := a) (xs := iv ns)
    (fun i σ H2 => H2 = H ∧ (∃ v, σ = [some (.ref a), some (.int g), some (.int (aAt ns i)), v]) ∧ ascB g (aAt ns i) (ns.drop i) = ascB g 0 ns)
    ⟨rfl, ⟨_, rfl⟩, rfl⟩ (fun i σ H2 _ q => by rw [q.1]; exact SqL.of ha) ?_ ?_⟩
  · rintro i x σ H2 hi ⟨rfl, ⟨v, rfl⟩, q⟩
    have hl : i < ns.length := by have := (List.getElem?_eq_some_iff.mp hi).1; rwa [List.length_map] at this
    rw [iv_at hl] at hi
    cases hi
    rw [ascB_drop hl] at q
    refine ⟨_, rfl, _, rfl, _, rfl, _, _, _, rfl, _, rfl, ite2 (fun d => ?_) (fun d => ?_)⟩
    · rw [bnot_t d, Bool.false_and] at q
      rw [← q] at k
      exact k
    · rw [bnot_f d, Bool.true_and] at q
      exact ⟨_, rfl, _, _, rfl, rfl, rfl, ⟨_, rfl⟩, q⟩
  · rintro σ H2 ⟨rfl, ⟨v, rfl⟩, q⟩
    rw [el, List.drop_length] at q
    rw [← q] at k
    exact k
def sp_lines_left : Sp := fun vs H Q _ => ∃ (a b : Addr) (ns fs : List Int), vs = [.ref a, .ref b] ∧ H a = some (.lst (iv ns)) ∧ isO ns = true ∧ H b = some (.lst (iv fs)) ∧ ascB (ns.length - 1) 0 fs = true ∧ RetL Q H (iv (leftL ns fs 0))
theorem ok_lines_left (T : Txt mg) (h : At K mg "lines_left" s_lines_left)
    (g_check_outline : Has P w K mg base CX0 4 "check_outline" s_check_outline P_check_outline sp_check_outline)
    (g_is_ascending_list : Has P w K mg base CX0 3 "is_ascending_list" s_is_ascending_list P_is_ascending_list sp_is_ascending_list)
    (g_last_of_section : Has P w K mg base CX0 2 "last_of_section" s_last_of_section P_last_of_section (sp_last_of_section K)) :
    Has P w K mg base CX0 5 "lines_left" s_lines_left P_lines_left sp_lines_left := by
  refine Has.of h sc_lines_left (fun vs H Q E h => ?_) (fun _ _ _ _ _ _ us hl => match us, hl with | [_, _], _ => rfl) (fun f cdv A outer s H vs Q E room qt h => ?_)
  · obtain ⟨v, a, z, t, rfl, _⟩ := h; rfl
  obtain ⟨a, b, ns, fs, rfl, ha, ho, hb, asc, k⟩ := h
  obtain ⟨l1, l2, hk⟩ := isO_iff.mp ho
  refine ⟨_, (pss_cons (ps_expr (pe_has g_check_outline (room.mono (by decide)) qt (by rfl) pass0 (pa_cons (pv 0) pa_nil)))
      (pss_cons (ps_if (pt_not (pt_val (pe_has g_is_ascending_list (room.mono (by decide)) qt (by rfl) pass0 (pa_cons (pv 1) (pa_cons (pe_op op_sub (pe_callB call_len_seq (by rfl) T.len (by decide +kernel) (pa_cons (pv 0) pa_nil)) pe_int) pa_nil)))))
        (pss_one ps_never)
        pss_nil)
      (pss_cons (ps_set (i := 2) sc_lines_left.nd rfl (Or.inl rfl) (pe_lst pa_nil))
      (pss_cons (ps_set (i := 3) sc_lines_left.nd rfl (Or.inl rfl) pe_int)
      (pss_cons (ps_while PassesOwn.never (pt_cmpR op_lt (pv 3) (pe_callB call_len_seq (by rfl) T.len (by decide +kernel) (pa_cons (pv 0) pa_nil)) (nomark _))
        (pss_cons (ps_expr (pe_bm PySem.F.plainAttrs_list PySem.F.slot_list_append PySem.F.type_list_append mt_append (pv 2) (pa_cons (pv 3) pa_nil)))
        (pss_cons (ps_if (pt_cmpR op_in_seq (pv 3) (pv 1) (by with_unfolding_all rfl))
          (pss_one (ps_set (i := 3) sc_lines_left.nd rfl (Or.inl rfl) (pe_has g_last_of_section (room.mono (by decide)) qt (by rfl) pass0 (pa_cons (pv 0) (pa_cons (pv 3) pa_nil)))))
          pss_nil)
        (pss_one (ps_aug (i := 3) sc_lines_left.nd rfl (Or.inl rfl) pe_int ip_add)))))
      (pss_one (ps_ret (pv 2)))))))), ?_⟩
  have el : (iv ns).length = ns.length := List.length_map _
  refine ⟨_, rfl, a, ns, rfl, ha, ho, ?_⟩
  refine ⟨_, rfl, _, rfl, a, _, rfl, .inl (SqL.of ha), _, _, rfl, rfl, b, fs, _, rfl, hb, ?_⟩
  rw [el, asc]
  refine ⟨_, rfl, iteF ?_⟩
  refine ⟨(by decide : 0 ≤ sizeLine), fun p hp => ?_⟩
  refine ⟨fun m σ H' => ∃ (j : Nat) (F : List Int), F.length ≤ j ∧ leftL ns fs 0 = F ++ leftL ns fs j ∧ H' = upd H p (.lst (iv F)) ∧ m = ns.length - j ∧ σ = [some (.ref a), some (.ref b), some (.ref p), some (.int (j : Nat))],
    ⟨ns.length - 0, 0, [], Nat.le_refl _, rfl, rfl, rfl, rfl⟩, ?_⟩
  rintro m σ H' ⟨j, F, jF, e, rfl, rfl, rfl⟩
  have ha' : ∀ o, SqL K (upd H p o) a (iv ns) := fun o => (Same.new hp).seq (SqL.of ha)
  have hb' : ∀ o, SqL K (upd H p o) b (iv fs) := fun o => (Same.new hp).seq (SqL.of hb)
  refine ⟨_, rfl, _, rfl, a, _, rfl, .inl (ha' _), _, _, rfl, rfl, _, rfl, ite2 (fun c => ?_) (fun c => ?_)⟩
  · have c1 : j < ns.length := by have := of_decide_eq_true c; omega
    have gj := nextL_gt ns fs j
    refine ⟨fun σ' H2 => H2 = upd H p (.lst (iv (F ++ [(j : Int)]))) ∧ σ' = [some (.ref a), some (.ref b), some (.ref p), some (.int (nextL ns fs j : Nat))], fun σ' H'' q => ⟨ns.length - nextL ns fs j, by omega, nextL ns fs j, F ++ [(j : Int)], ?_, ?_, q.1, rfl, q.2⟩, ?_⟩
    · rw [List.length_append]; show F.length + 1 ≤ _; omega
    · rw [e, leftL_go c1, List.append_assoc]; rfl
    refine ⟨_, rfl, .inl ⟨rfl, _, SqL.of upd_same⟩, _, rfl, p, _, _, rfl, rfl, upd_same, small_line (by rw [List.length_map]; omega), ?_⟩
    rw [upd_upd, iv_snoc]
    refine ⟨_, rfl, _, rfl, b, _, rfl, .inl (hb' _), rfl, flat_iv _, _, rfl, ?_⟩
    show if inV (V.int (j : Int)) (iv fs) = true then _ else _
    rw [inV_iv]
    have ef := endF_is c1
    refine ite_cut (fun σ2 H2 => H2 = upd H p (.lst (iv (F ++ [(j : Int)]))) ∧ σ2 = [some (.ref a), some (.ref b), some (.ref p), some (.int ((nextL ns fs j : Nat) - 1 : Int))]) ?_ ?_ ?_
    · rintro σ2 H2 ⟨rfl, rfl⟩
      refine ⟨_, rfl, _, _, rfl, rfl, rfl, ?_⟩
      exact congrArg (fun z => [some (V.ref a), some (V.ref b), some (V.ref p), some (V.int z)]) (by show ((nextL ns fs j : Nat) : Int) - 1 + 1 = _; omega)
    · intro cb main
      have m1 := of_decide_eq_true cb
      refine ⟨_, rfl, _, rfl, a, ns, j, endF ns j, rfl, ha' _, ef, main _ _ ⟨rfl, ?_⟩⟩
      have en : ((nextL ns fs j : Nat) : Int) - 1 = endF ns j := by
        unfold nextL
        rw [if_pos m1]
        have := ef.1
        omega
      rw [en]
      rfl
    · intro cb
      have m1 : ¬ (j : Int) ∈ fs := fun z => cb (decide_eq_true z)
      refine ⟨rfl, ?_⟩
      have en : ((nextL ns fs j : Nat) : Int) - 1 = j := by
        unfold nextL
        rw [if_neg m1]
        omega
      rw [en]
  · have c1 : ns.length ≤ j := by
      rcases Nat.lt_or_ge j ns.length with q | q
      · exact (c (decide_eq_true (by omega))).elim
      · exact q
    rw [leftL_end c1, List.append_nil] at e
    exact ⟨_, rfl, k p _ hp (Same.new hp) (by rw [upd_same, e])⟩
def sp_folded_outline : Sp := fun vs H Q _ => ∃ (a b : Addr) (ns fs : List Int), vs = [.ref a, .ref b] ∧ H a = some (.lst (iv ns)) ∧ isO ns = true ∧ H b = some (.lst (iv fs)) ∧ ascB (ns.length - 1) 0 fs = true ∧ RetL Q H (iv (foldL ns fs))
theorem ok_folded_outline (T : Txt mg) (h : At K mg "folded_outline" s_folded_outline)
    (g_lines_left : Has P w K mg base CX0 5 "lines_left" s_lines_left P_lines_left sp_lines_left) :
    Has P w K mg base CX0 6 "folded_outline" s_folded_outline P_folded_outline sp_folded_outline := by
  refine Has.of h sc_folded_outline (fun vs H Q E h => ?_) (fun _ _ _ _ _ _ us hl => match us, hl with | [_, _], _ => rfl) (fun f cdv A outer s H vs Q E room qt h => ?_)
  · obtain ⟨v, a, z, t, rfl, _⟩ := h; rfl
  obtain ⟨a, b, ns, fs, rfl, ha, ho, hb, asc, k⟩ := h
  obtain ⟨l1, l2, hk⟩ := isO_iff.mp ho
  refine ⟨_, (pss_one (ps_ret (pe_lc (own := [("line", 2)]) (by rfl) sc_folded_outline.nd (pi_list (pe_has g_lines_left (room.mono (by decide)) qt (by rfl) pass0 (pa_cons (pv 0) (pa_cons (pv 1) pa_nil)))) (blkOk_by (own := [("line", 2)]) (N := N_folded_outline) (sc := defScope s_folded_outline) (by decide +kernel)) (fun _ _ _ _ _ => (pg_name (i := 2) sc_folded_outline.nd rfl (Or.inl rfl) (hf := Or.inr rfl))) (fun _ _ _ _ _ => pts_nil) (fun _ _ _ _ _ => (pe_ix (show IxR _ (rIxL K) from by exact ix_list) (pv 0) (pv 2) (fun _ _ => rfl)))))), ?_⟩
  refine ⟨_, rfl, _, rfl, a, b, ns, fs, rfl, ha, ho, hb, asc, fun p H1 hp s1 h1 => ?_⟩
  have ll := leftL_len ns fs 0
  refine ⟨p, rfl, ⟨_, SqL.of h1⟩, fun D hD => lcLn (K := K) (a := p) (xs := iv (leftL ns fs 0)) (fun _ => true) (fun i => V.int (ns.getD ((leftL ns fs 0).getD i 0).toNat 0)) (SqL.of h1) hD (by rw [List.length_map]; omega) (fun x => rfl) (fun i x H2 Q' _ _ qq => qq H2 (Same.refl _)) ?_ ?_⟩
  · intro i x H2 Q' hx _ s2 qq
    have il : i < (leftL ns fs 0).length := by have := (List.getElem?_eq_some_iff.mp hx).1; rwa [List.length_map] at this
    rw [iv_at il] at hx
    cases hx
    have vm : (leftL ns fs 0).getD i 0 ∈ leftL ns fs 0 := by
      rw [List.getD_eq_getElem?_getD, List.getElem?_eq_getElem il]
      exact List.getElem_mem il
    have vb := leftL_mem vm
    exact ⟨_, rfl, _, rfl, a, iv ns, _, _, rfl, rfl, SqL.of (s2 _ _ (s1 _ _ ha)), atI_iv (by omega) vb.2, qq H2 (Same.refl _)⟩
  · intro H2 s2 h2
    have e : gives (iv (leftL ns fs 0)).length (fun _ => true) (fun i => V.int (ns.getD ((leftL ns fs 0).getD i 0).toNat 0)) = iv (foldL ns fs) := by
      rw [gives_all, List.length_map]
      unfold foldL iv
      rw [List.map_map]
      refine List.ext_getElem (by rw [List.length_map, List.length_map, List.length_range]) fun i h1 h2 => ?_
      rw [List.length_map, List.length_range] at h1
      rw [List.getElem_map, List.getElem_map, List.getElem_range, List.getD_eq_getElem?_getD (l := leftL ns fs 0), List.getElem?_eq_getElem h1]
      rfl
    rw [e] at h2
    exact k D _ (s1.free hD) (s1.trans s2) h2
end
end SH

namespace SH
open PySem PySem.Spec PyProof.Rows L2
abbrev s_law_bag : Stmt := topS 17
abbrev N_law_bag : List Str := ["cell", "turn", "size"]
abbrev P_law_bag : List Str := ["cell", "turn"]
theorem sc_law_bag : FnScope N_law_bag P_law_bag (defScope s_law_bag) := ⟨rfl, rfl, rfl, by decide +kernel, rfl, by decide +kernel, by decide +kernel⟩
abbrev s_law_draw : Stmt := topS 18
abbrev N_law_draw : List Str := ["bag", "many", "found", "mixed"]
abbrev P_law_draw : List Str := ["bag", "many"]
theorem sc_law_draw : FnScope N_law_draw P_law_draw (defScope s_law_draw) := ⟨rfl, rfl, rfl, by decide +kernel, rfl, by decide +kernel, by decide +kernel⟩
abbrev s_law_cells : Stmt := topS 19
abbrev N_law_cells : List Str := ["script"]
abbrev P_law_cells : List Str := ["script"]
theorem sc_law_cells : FnScope N_law_cells P_law_cells (defScope s_law_cells) := ⟨rfl, rfl, rfl, by decide +kernel, rfl, by decide +kernel, by decide +kernel⟩
abbrev s_law_rising : Stmt := topS 20
abbrev N_law_rising : List Str := ["bag", "most", "style", "many", "found", "turn", "top", "some"]
abbrev P_law_rising : List Str := ["bag", "most"]
theorem sc_law_rising : FnScope N_law_rising P_law_rising (defScope s_law_rising) := ⟨rfl, rfl, rfl, by decide +kernel, rfl, by decide +kernel, by decide +kernel⟩
abbrev s_law_sized : Stmt := topS 21
abbrev N_law_sized : List Str := ["script", "bag", "small", "great"]
abbrev P_law_sized : List Str := ["script", "bag", "small", "great"]
theorem sc_law_sized : FnScope N_law_sized P_law_sized (defScope s_law_sized) := ⟨rfl, rfl, rfl, by decide +kernel, rfl, by decide +kernel, by decide +kernel⟩
/-- the bag stands at a: [digits, state, number of draws], at most n draws so far -/
def SrcV (n : Int) (H : Hp) (a : Addr) : Prop := ∃ x y z : Int, H a = some (.lst [.int x, .int y, .int z]) ∧ 0 ≤ y ∧ y < 2 ^ 400 ∧ 0 ≤ z ∧ z ≤ n
/-- what stays whatever the pool does -/
def Still (a : Addr) (H : Hp) (p : Hp → Prop) : Prop := ∀ H', SameBut a H H' → p H'
theorem SrcV.mono {n m : Int} {H : Hp} {a : Addr} (s : SrcV n H a) (h : n ≤ m) : SrcV m H a := by
  obtain ⟨x, y, z, e, y0, y1, z0, z1⟩ := s
  exact ⟨x, y, z, e, y0, y1, z0, by omega⟩
theorem SrcV.new {n : Int} {H : Hp} {a p : Addr} {o : HO} (s : SrcV n H a) (h : H p = none) : SrcV n (upd H p o) a := by
  obtain ⟨x, y, z, e, r⟩ := s
  exact ⟨x, y, z, by rw [upd_ne (ne_of_none e h)]; exact e, r⟩
theorem SrcV.upd {n : Int} {H : Hp} {a p : Addr} {o : HO} (s : SrcV n H a) (h : a ≠ p) : SrcV n (upd H p o) a := by
  obtain ⟨x, y, z, e, r⟩ := s
  exact ⟨x, y, z, by rw [upd_ne h]; exact e, r⟩
theorem SrcV.same {n : Int} {H H' : Hp} {a : Addr} (s : SrcV n H a) (h : Same H H') : SrcV n H' a := by
  obtain ⟨x, y, z, e, r⟩ := s
  exact ⟨x, y, z, h _ _ e, r⟩
theorem SrcV.ne {n : Int} {H : Hp} {a p : Addr} (s : SrcV n H a) (h : H p = none) : a ≠ p := by
  obtain ⟨x, y, z, e, r⟩ := s
  exact ne_of_none e h
theorem SrcV.but {n : Int} {g d : Addr} {H H' : Hp} (s : SrcV n H g) (b : SameBut d H H') (h : g ≠ d) : SrcV n H' g := by
  obtain ⟨x, y, z, e, r⟩ := s
  exact ⟨x, y, z, b _ _ e h, r⟩
theorem SameBut.own {a p : Addr} {H H' : Hp} {o : HO} (s : SameBut a H H') (h : H p = none) : SameBut a H (L2.upd H' p o) :=
  fun b u e n => by rw [upd_ne (ne_of_none e h)]; exact s b u e n
theorem SameBut.free {a p : Addr} {H H' : Hp} (s : SameBut a H H') (n : p ≠ a) (h : H' p = none) : H p = none := by
  cases e : H p with
  | none => rfl
  | some o => rw [s p o e n] at h; cases h
section
variable {P : Program} {w : World} {K : PySem.W.Frag} {mg : Str → Option Value} {base : Heap}
theorem pwF18 : (10 : Int) ^ (18 : Int).toNat = 1000000000000000000 := by decide
theorem pwF42 : (10 : Int) ^ (42 : Int).toNat = 1000000000000000000000000000000000000000000 := by decide
theorem pwF39 : (10 : Int) ^ (39 : Int).toNat = 1000000000000000000000000000000000000000 := by decide
theorem pwF37 : (10 : Int) ^ (37 : Int).toNat = 10000000000000000000000000000000000000 := by decide
theorem pow_ok {i j : Int} (h : i.natAbs < 2 ^ 4000) (h0 : 0 ≤ j) (h1 : j ≤ 5) : PowC i j := by
  refine ⟨h0, ?_⟩
  have := intBits_le (k := 4000) h
  have e : (2 : Int) ^ 27 = 134217728 := by decide
  have m : (Builtin.Int.intBits i : Int) * j ≤ 4000 * 5 := Int.mul_le_mul (by omega) h1 h0 (by decide)
  omega
def sp_law_bag : Sp := fun vs H Q _ => ∃ c t : Int, vs = [.int c, .int t] ∧ 0 ≤ t ∧ t ≤ 1000 ∧ ∀ p H', H p = none → Same H H' → SrcV 0 H' p → Q (.ref p) H'
theorem ok_law_bag (T : Txt mg) (h : At K mg "_law_bag" s_law_bag) :
    Has P w K mg base CX0 1 "_law_bag" s_law_bag P_law_bag sp_law_bag := by
  refine Has.of h sc_law_bag (fun vs H Q E h => ?_) (fun _ _ _ _ _ _ us hl => match us, hl with | [_, _], _ => rfl) (fun f cdv A outer s H vs Q E room qt h => ?_)
  · obtain ⟨v, t, rfl, _⟩ := h; rfl
  obtain ⟨c, t, rfl, t0, t1, k⟩ := h
  refine ⟨_, (pss_cons (ps_set (i := 2) sc_law_bag.nd rfl (Or.inl rfl) (pe_callB (call_max2 rfl) (by rfl) T.max (by decide +kernel) (pa_cons (pv 0) (pa_cons (pe_op op_sub pe_int (pv 0)) pa_nil))))
      (pss_one (ps_ret (pe_lst (pa_cons (pe_callB (call_max2 rfl) (by rfl) T.max (by decide +kernel) (pa_cons pe_int (pa_cons (pe_op op_sub (pv 2) (pe_op op_powG pe_int pe_int)) pa_nil))) (pa_cons (pe_op op_mod (pe_op op_add (pe_op op_mul (pv 0) (pe_op op_powG pe_int pe_int)) (pe_op op_mul (pe_op op_powG pe_int pe_int) (pe_op op_add (pv 1) pe_int))) (pe_op op_add (pe_op op_powG pe_int pe_int) pe_int)) (pa_cons pe_int pa_nil))))))), ?_⟩
  refine ⟨_, rfl, _, rfl, _, _, rfl, rfl, _, _, rfl, ?_⟩
  refine ⟨_, rfl, _, _, rfl, rfl, ten_ok (by decide) (by decide), _, _, rfl, rfl, _, _, rfl, ?_⟩
  refine ⟨_, rfl, _, _, rfl, rfl, pow_ok (by omega) (by decide) (by decide), _, _, rfl, rfl, .inr ⟨by decide, by decide⟩, _, _, rfl, rfl, pow_ok (by omega) (by decide) (by decide), _, rfl, _, _, rfl, rfl, _, _, rfl, rfl, .inr ⟨by omega, by omega⟩, _, _, rfl, rfl, _, _, rfl, rfl, ten_ok (by decide) (by decide), _, _, rfl, rfl, _, _, rfl, rfl, ?_, ?_⟩
  · show (0 : Int) < _
    rw [pwF42]; decide
  refine ⟨(by decide : 3 ≤ sizeLine), fun p hp => k p _ hp (Same.new hp) ⟨_, _, _, upd_same, ?_, ?_, by decide, by decide⟩⟩
  · rw [pwF42]; omega
  · rw [pwF42]; omega
def mixF1 (y z : Int) : Int := (y + (z + 1) * 2971215073 ^ (3 : Int).toNat) % (10 ^ (42 : Int).toNat + 63)
theorem mixF1_lt (y z : Int) : 0 ≤ mixF1 y z ∧ mixF1 y z < 2 ^ 150 := by unfold mixF1; rw [pwF42]; omega
def mixF2 (m z : Int) : Int := m ^ (3 : Int).toNat % (10 ^ (39 : Int).toNat + 33) + (z + 1) * 39916801
theorem mixF2_lt (m : Int) {z : Int} (z0 : 0 ≤ z) (z1 : z ≤ 1000000000) : 0 ≤ mixF2 m z ∧ mixF2 m z < 2 ^ 150 := by
  unfold mixF2; rw [pwF39]
  generalize m ^ (3 : Int).toNat = c
  omega
def sp_law_draw : Sp := fun vs H Q _ => ∃ (a : Addr) (n m : Int), vs = [.ref a, .int n] ∧ SrcV m H a ∧ m ≤ 1000000000 ∧ 0 < n ∧ n < 2 ^ 200 ∧
  ∀ r H', 0 ≤ r → r < n → SameBut a H H' → SrcV (m + 1) H' a → Q (.int r) H'
theorem ok_law_draw (T : Txt mg) (h : At K mg "_law_draw" s_law_draw) :
    Has P w K mg base CX0 1 "_law_draw" s_law_draw P_law_draw sp_law_draw := by
  refine Has.of h sc_law_draw (fun vs H Q E h => ?_) (fun _ _ _ _ _ _ us hl => match us, hl with | [_, _], _ => rfl) (fun f cdv A outer s H vs Q E room qt h => ?_)
  · obtain ⟨v, a, m, rfl, _⟩ := h; rfl
  obtain ⟨a, n, m, rfl, ⟨x, y, z, ha, y0, y1, z0, z1⟩, m1, n0, n1, k⟩ := h
  refine ⟨_, (pss_cons (ps_if (pt_cmpR op_gt (pe_ix ix_list (pv 0) pe_int (fun _ _ => rfl)) pe_int (nomark _))
        (pss_cons (ps_set (i := 2) sc_law_draw.nd rfl (Or.inl rfl) (pe_op op_mod (pe_ix ix_list (pv 0) pe_int (fun _ _ => rfl)) (pv 1)))
        (pss_cons (ps_asg (pe_op op_fdivW (pe_ix ix_list (pv 0) pe_int (fun _ _ => rfl)) (pv 1)) (pg_sub (pv 0) pe_int set_list))
        (pss_one (ps_ret (pv 2)))))
        pss_nil)
      (pss_cons (ps_asg (pe_op op_add (pe_ix ix_list (pv 0) pe_int (fun _ _ => rfl)) pe_int) (pg_sub (pv 0) pe_int set_list))
      (pss_cons (ps_set (i := 3) sc_law_draw.nd rfl (Or.inl rfl) (pe_op op_mod (pe_op op_add (pe_ix ix_list (pv 0) pe_int (fun _ _ => rfl)) (pe_op op_mul (pe_ix ix_list (pv 0) pe_int (fun _ _ => rfl)) (pe_op op_powG pe_int pe_int))) (pe_op op_add (pe_op op_powG pe_int pe_int) pe_int)))
      (pss_cons (ps_set (i := 3) sc_law_draw.nd rfl (Or.inl rfl) (pe_op op_add (pe_op op_mod (pe_op op_powG (pv 3) pe_int) (pe_op op_add (pe_op op_powG pe_int pe_int) pe_int)) (pe_op op_mul (pe_ix ix_list (pv 0) pe_int (fun _ _ => rfl)) pe_int)))
      (pss_one (ps_ret (pe_op op_mod (pe_op op_fdivW (pe_op op_mod (pe_op op_powG (pv 3) pe_int) (pe_op op_add (pe_op op_powG pe_int pe_int) pe_int)) pe_int) (pv 1)))))))), ?_⟩
  refine ⟨_, rfl, a, _, 0, _, rfl, rfl, SqL.of ha, rfl, _, _, rfl, rfl, _, rfl, ite2 (fun c => ?_) (fun c => ?_)⟩
  · refine ⟨_, rfl, a, _, 0, _, rfl, rfl, SqL.of ha, rfl, _, rfl, _, _, rfl, rfl, n0, ?_⟩
    refine ⟨_, rfl, a, _, 0, _, rfl, rfl, SqL.of ha, rfl, _, rfl, _, _, rfl, rfl, wide_div n0 (b := 200) (by omega) (by decide) (by decide), _, rfl, a, _, 0, 0, rfl, rfl, ha, rfl, ?_⟩
    exact ⟨_, rfl, k _ _ (Int.emod_nonneg _ (by omega)) (Int.emod_lt_of_pos _ n0) (SameBut.upd .refl) ⟨_, _, _, upd_same, y0, y1, z0, by omega⟩⟩
  · refine ⟨_, rfl, a, _, 2, _, rfl, rfl, SqL.of ha, rfl, _, _, rfl, rfl, _, rfl, a, _, 2, 2, rfl, rfl, ha, rfl, ?_⟩
    have h2 : (upd H a (.lst [.int x, .int y, .int (z + 1)])) a = some (.lst [.int x, .int y, .int (z + 1)]) := upd_same
    refine ⟨_, rfl, a, _, 1, _, rfl, rfl, SqL.of h2, rfl, _, rfl, a, _, 2, _, rfl, rfl, SqL.of h2, rfl, _, _, rfl, rfl, pow_ok (by omega) (by decide) (by decide), _, _, rfl, rfl, .inl ⟨by omega, by omega⟩, _, _, rfl, rfl, _, _, rfl, rfl, ten_ok (by decide) (by decide), _, _, rfl, rfl, _, _, rfl, rfl, ?_, ?_⟩
    · show (0 : Int) < _
      rw [pwF42]; decide
    have t0 := mixF1_lt y z
    refine ⟨_, rfl, _, _, rfl, rfl, pow_ok (i := mixF1 y z) (by omega) (by decide) (by decide), _, _, rfl, rfl, ten_ok (by decide) (by decide), _, _, rfl, rfl, _, _, rfl, rfl, ?_, ?_⟩
    · show (0 : Int) < _
      rw [pwF39]; decide
    have u0 := mixF2_lt (mixF1 y z) z0 (show z ≤ 1000000000 by omega)
    refine ⟨_, rfl, a, _, 2, _, rfl, rfl, SqL.of h2, rfl, _, _, rfl, rfl, .inr ⟨by decide, by decide⟩, _, _, rfl, rfl, ?_⟩
    refine ⟨_, rfl, _, _, rfl, rfl, pow_ok (i := mixF2 (mixF1 y z) z) (by omega) (by decide) (by decide), _, _, rfl, rfl, ten_ok (by decide) (by decide), _, _, rfl, rfl, _, _, rfl, rfl, ?_, ?_⟩
    · show (0 : Int) < _
      rw [pwF37]; decide
    refine ⟨_, _, rfl, rfl, wide_div (by decide) (b := 200) (by decide) (by decide) (by decide), _, rfl, _, _, rfl, rfl, n0, ?_⟩
    exact k _ _ (Int.emod_nonneg _ (by omega)) (Int.emod_lt_of_pos _ n0) (SameBut.upd .refl) ⟨_, _, _, h2, y0, y1, by omega, by omega⟩
/-- an outline of at most `most` lines comes back -/
def sp_law_rising : Sp := fun vs H Q _ => ∃ (a : Addr) (m n : Int), vs = [.ref a, .int m] ∧ SrcV n H a ∧ n ≤ 900000000 ∧ 1 ≤ m ∧ m ≤ 200 ∧
  ∀ (ns : List Int) (p : Addr) (H' : Hp), isO ns = true → (ns.length : Int) ≤ m → H p = none → SameBut a H H' → SrcV (n + 1000) H' a → H' p = some (.lst (iv ns)) → Q (.ref p) H'
theorem ok_law_rising (T : Txt mg) (h : At K mg "_law_rising" s_law_rising)
    (g_law_draw : Has P w K mg base CX0 1 "_law_draw" s_law_draw P_law_draw sp_law_draw) :
    Has P w K mg base CX0 2 "_law_rising" s_law_rising P_law_rising sp_law_rising := by
  refine Has.of h sc_law_rising (fun vs H Q E h => ?_) (fun _ _ _ _ _ _ us hl => match us, hl with | [_, _], _ => rfl) (fun f cdv A outer s H vs Q E room qt h => ?_)
  · obtain ⟨v, a, m, rfl, _⟩ := h; rfl
  obtain ⟨a, m, n, rfl, ha, nb, m0, m1, k⟩ := h
  refine ⟨_, (pss_cons (ps_par (i := 2) (j := 3) rfl sc_law_rising.nd rfl rfl (by decide) rfl rfl (pa_cons (pe_has g_law_draw (room.mono (by decide)) qt (by rfl) pass0 (pa_cons (pv 0) (pa_cons pe_int pa_nil))) (pa_cons (pe_op op_add pe_int (pe_has g_law_draw (room.mono (by decide)) qt (by rfl) pass0 (pa_cons (pv 0) (pa_cons (pv 1) pa_nil)))) pa_nil)) (by rfl))
      (pss_cons (ps_set (i := 4) sc_law_rising.nd rfl (Or.inl rfl) (pe_lst (pa_cons pe_int pa_nil)))
      (pss_cons (ps_for PassesOwn.never rfl (pi_range1 (by rfl) T.range (pa_cons (pe_op op_sub (pv 3) pe_int) pa_nil)) (pg_name (i := 5) sc_law_rising.nd rfl (Or.inl rfl) (hf := Or.inl rfl))
        (pss_cons (ps_set (i := 6) sc_law_rising.nd rfl (Or.inl rfl) (pe_op op_add (pe_ix ix_list (pv 4) (pe_un un_neg pe_int) (fun _ _ => rfl)) pe_int))
        (pss_cons (ps_set (i := 7) sc_law_rising.nd rfl (Or.inl rfl) (pe_lst (pa_cons (pe_has g_law_draw (room.mono (by decide)) qt (by rfl) pass0 (pa_cons (pv 0) (pa_cons (pe_op op_add (pv 6) pe_int) pa_nil))) (pa_cons (pe_op op_sub (pv 6) (pe_callTy call_int1 (by rfl) T.tint (by decide +kernel) (pa_cons (pe_cmpR op_eq (pe_has g_law_draw (room.mono (by decide)) qt (by rfl) pass0 (pa_cons (pv 0) (pa_cons pe_int pa_nil))) pe_int (nomark _)) pa_nil))) (pa_cons (pe_has g_law_draw (room.mono (by decide)) qt (by rfl) pass0 (pa_cons (pv 0) (pa_cons (pe_op op_add (pe_callB (call_min2 rfl) (by rfl) T.min (by decide +kernel) (pa_cons (pv 6) (pa_cons pe_int pa_nil))) pe_int) pa_nil))) pa_nil)))))
        (pss_cons (ps_expr (pe_bm PySem.F.plainAttrs_list PySem.F.slot_list_append PySem.F.type_list_append mt_append (pv 7) (pa_cons (pe_callB (call_max2 rfl) (by rfl) T.max (by decide +kernel) (pa_cons pe_int (pa_cons (pe_op op_sub (pv 6) (pe_has g_law_draw (room.mono (by decide)) qt (by rfl) pass0 (pa_cons (pv 0) (pa_cons pe_int pa_nil)))) pa_nil))) pa_nil)))
        (pss_one (ps_expr (pe_bm PySem.F.plainAttrs_list PySem.F.slot_list_append PySem.F.type_list_append mt_append (pv 4) (pa_cons (pe_callB (call_max2 rfl) (by rfl) T.max (by decide +kernel) (pa_cons pe_int (pa_cons (pe_ix ix_list (pv 7) (pv 2) (fun _ _ => rfl)) pa_nil))) pa_nil))))))))
      (pss_one (ps_ret (pv 4)))))), ?_⟩
  -- style, many
  refine ⟨_, rfl, a, 4, n, rfl, ha, by omega, by decide, by decide, fun st H1 st0 st1 b1 s1 => ?_⟩
  refine ⟨_, rfl, _, rfl, a, m, _, rfl, s1, by omega, by omega, by omega, fun d H1' d0 d1 b1' s1' => ⟨_, _, rfl, rfl, _, _, rfl, ?_⟩⟩
  refine ⟨(by decide : 1 ≤ sizeLine), fun p hp1 => ?_⟩
  have b11 := b1.trans b1'
  have nap : p ≠ a := (s1'.ne hp1).symm
  have hp : H p = none := b11.free nap hp1
  have s2 := s1'.new (o := .lst [.int 0]) hp1
  have b2 : SameBut a H (upd H1' p (.lst [.int 0])) := b11.own hp
  have h2 : (upd H1' p (.lst [.int 0])) p = some (.lst (iv [0])) := upd_same
  generalize upd H1' p (.lst [.int 0]) = H2 at s2 b2 h2 ⊢
  refine ⟨_, rfl, _, _, rfl, rfl, _, rfl, by omega, by omega, for_range (lo := 0) (n := (1 + d - 1).toNat) (fun i σ H7 => (∃ v5 v6 v7, σ = [some (.ref a), some (.int m), some (.int st), some (.int (1 + d)), some (.ref p), v5, v6, v7]) ∧
    ∃ ns : List Int, ns.length = i + 1 ∧ okFrom 0 ns = true ∧ SameBut a H H7 ∧ SrcV (n + 2 + 4 * (i : Int)) H7 a ∧ H7 p = some (.lst (iv ns)))
    ⟨⟨_, _, _, rfl⟩, [0], rfl, rfl, b2, s2.mono (by omega), h2⟩ ?_ ?_⟩
  · rintro i σ H7 hi ⟨⟨v5, v6, v7, rfl⟩, ns, hl, hk, b7, s7, h7p⟩
    have nn : ns ≠ [] := fun e => by subst e; cases hl
    have l0 := (okFrom_at hk (i := ns.length - 1) (by omega)).1
    have l1 := okFrom_le hk (i := ns.length - 1) (by omega)
    refine ⟨_, rfl, _, rfl, p, iv ns, -1, _, rfl, rfl, SqL.of h7p, atI_iv_last nn, _, _, rfl, rfl, ?_⟩
    generalize hla : ns.getD (ns.length - 1) 0 = la at l0 l1 ⊢
    -- some
    refine ⟨_, rfl, _, rfl, _, _, rfl, rfl, a, _, _, rfl, s7, by omega, by omega, by omega, fun e1 H8 x0 x1 b8 s8 => ?_⟩
    refine ⟨_, rfl, _, rfl, a, 5, _, rfl, s8, by omega, by decide, by decide, fun e2 H9 y0 y1 b9 s9 => ⟨rfl, .inr ⟨_, rfl, _, _, rfl, rfl, ?_⟩⟩⟩
    refine ⟨_, rfl, _, rfl, _, _, rfl, _, _, rfl, rfl, a, _, _, rfl, s9, by omega, by split <;> omega, by split <;> omega, fun e3 H10 z0 z1 b10 s10 => ?_⟩
    have z2 : e3 ≤ la + 1 := by revert z1; split <;> omega
    have b710 : SameBut a H H10 := ((b7.trans b8).trans b9).trans b10
    have h10p : H10 p = some (.lst (iv ns)) := b10 _ _ (b9 _ _ (b8 _ _ h7p nap) nap) nap
    refine ⟨(by decide : 3 ≤ sizeLine), fun q1 n1 => ?_⟩
    have nqa : q1 ≠ a := (s10.ne n1).symm
    have nqp : p ≠ q1 := ne_of_none h10p n1
    have hq0 : H q1 = none := b710.free nqa n1
    have h11q : (upd H10 q1 (.lst (iv [e1, la + 1 - (if decide (V.int e2 = V.int 0) = true then 1 else 0), e3]))) q1 = some (.lst (iv [e1, la + 1 - (if decide (V.int e2 = V.int 0) = true then 1 else 0), e3])) := upd_same
    have h11p := Same.new (o := .lst (iv [e1, la + 1 - (if decide (V.int e2 = V.int 0) = true then 1 else 0), e3])) n1 _ _ h10p
    have s11 := s10.new (o := .lst (iv [e1, la + 1 - (if decide (V.int e2 = V.int 0) = true then 1 else 0), e3])) n1
    have b11' : SameBut a H (upd H10 q1 (.lst (iv [e1, la + 1 - (if decide (V.int e2 = V.int 0) = true then 1 else 0), e3]))) := b710.new n1
    -- some.append(max(0, top - _law_draw(bag, 3)))
    refine ⟨_, rfl, .inl ⟨rfl, _, SqL.of h11q⟩, _, rfl, _, rfl, a, 3, _, rfl, s11, by omega, by decide, by decide, fun e4 H12 w0 w1 b12 s12 => ⟨_, _, rfl, rfl, _, _, rfl, ?_⟩⟩
    have h12q := b12 _ _ h11q nqa
    have h12p := b12 _ _ h11p nap
    refine ⟨q1, _, _, rfl, rfl, h12q, small_line (by show 3 < _; decide), ?_⟩
    have h13q : (upd H12 q1 (.lst (iv [e1, la + 1 - (if decide (V.int e2 = V.int 0) = true then 1 else 0), e3] ++ [V.int (if la + 1 - e4 > 0 then la + 1 - e4 else 0)]))) q1 = some (.lst (iv [e1, la + 1 - (if decide (V.int e2 = V.int 0) = true then 1 else 0), e3, if la + 1 - e4 > 0 then la + 1 - e4 else 0])) := upd_same
    have h13p : (upd H12 q1 (.lst (iv [e1, la + 1 - (if decide (V.int e2 = V.int 0) = true then 1 else 0), e3] ++ [V.int (if la + 1 - e4 > 0 then la + 1 - e4 else 0)]))) p = some (.lst (iv ns)) := by rw [upd_ne nqp]; exact h12p
    have b13 : SameBut a H (upd H12 q1 (.lst (iv [e1, la + 1 - (if decide (V.int e2 = V.int 0) = true then 1 else 0), e3] ++ [V.int (if la + 1 - e4 > 0 then la + 1 - e4 else 0)]))) := (b11'.trans b12).own hq0
    have s13 : SrcV (n + 2 + 4 * (i : Int) + 1 + 1 + 1 + 1) (upd H12 q1 (.lst (iv [e1, la + 1 - (if decide (V.int e2 = V.int 0) = true then 1 else 0), e3] ++ [V.int (if la + 1 - e4 > 0 then la + 1 - e4 else 0)]))) a := s12.upd nqa.symm
    have hs : ∀ v ∈ [e1, la + 1 - (if decide (V.int e2 = V.int 0) = true then 1 else 0), e3, if la + 1 - e4 > 0 then la + 1 - e4 else 0], v ≤ la + 1 := fun v hv => by
      simp only [List.mem_cons, List.not_mem_nil, or_false] at hv
      rcases hv with rfl | rfl | rfl | rfl
      · omega
      · split <;> omega
      · exact z2
      · split <;> omega
    have hg := getD_all (p := fun v => v ≤ la + 1) hs st0 (by exact st1)
    refine ⟨_, rfl, .inl ⟨rfl, _, SqL.of h13p⟩, _, rfl, _, rfl, q1, iv [e1, la + 1 - (if decide (V.int e2 = V.int 0) = true then 1 else 0), e3, if la + 1 - e4 > 0 then la + 1 - e4 else 0], st, _, rfl, rfl, SqL.of h13q, atI_iv st0 (by exact st1), _, _, rfl, p, iv ns, _, rfl, rfl, h13p, small_line (by rw [List.length_map]; omega), ?_⟩
    generalize [e1, la + 1 - (if decide (V.int e2 = V.int 0) = true then 1 else 0), e3, if la + 1 - e4 > 0 then la + 1 - e4 else 0].getD st.toNat 0 = x at hg ⊢
    refine ⟨⟨_, _, _, rfl⟩, ns ++ [if x > 0 then x else 0], by rw [List.length_append, hl]; rfl, okFrom_snoc hk (by split <;> omega) (fun e => (nn e).elim) (fun _ => by rw [hla]; split <;> omega), b13.own hp, (s13.upd nap.symm).mono (by omega), by rw [iv_snoc ns]; exact upd_same⟩
  · rintro σ H7 ⟨⟨v5, v6, v7, rfl⟩, ns, hl, hk, b7, s7, h7p⟩
    exact ⟨_, rfl, k ns p _ (isO_iff.mpr ⟨by omega, by omega, hk⟩) (by omega) hp b7 (s7.mono (by omega)) h7p⟩
/-- the cells of a script -/
def sp_law_cells (K : PySem.W.Frag) : Sp := fun vs H Q _ => ∃ (a : Addr) (ns : List Int), vs = [.ref a] ∧ SqL K H a (iv ns) ∧ ns.length ≤ 63 ∧
  ∀ (ms : List Int) (p : Addr) (H' : Hp), ms.length ≤ 8 → H p = none → Same H H' → H' p = some (.lst (iv ms)) → Q (.ref p) H'
theorem ok_law_cells (T : Txt mg) (h : At K mg "_law_cells" s_law_cells) :
    Has P w K mg base CX0 1 "_law_cells" s_law_cells P_law_cells (sp_law_cells K) := by
  refine Has.of h sc_law_cells (fun vs H Q E h => ?_) (fun _ _ _ _ _ _ us hl => match us, hl with | [_], _ => rfl) (fun f cdv A outer s H vs Q E room qt h => ?_)
  · obtain ⟨a, ns, rfl, _⟩ := h; rfl
  obtain ⟨a, ns, rfl, ha, hl, k⟩ := h
  refine ⟨_, (pss_one (ps_ret (pe_op op_catS (pe_lst (pa_cons (pe_callB call_len_seq (by rfl) T.len (by decide +kernel) (pa_cons (pv 0) pa_nil)) pa_nil)) (pe_slice sl_list (pv 0) po_none (po_some pe_int))))), ?_⟩
  refine ⟨_, rfl, a, _, rfl, .inl ha, (by decide : 1 ≤ sizeLine), fun p1 n1 => ?_⟩
  refine ⟨_, rfl, _, rfl, a, _, rfl, (Same.new n1).seq ha, fun p2 n2 => ?_⟩
  rw [cutV_iv]
  have c1 := cutI_to ns (n := 7) (by decide)
  rw [c1]
  refine ⟨p1, p2, _, _, rfl, rfl, SqL.of (Same.new n2 _ _ upd_same), SqL.of upd_same, ?_, fun p3 n3 => ?_⟩
  · rw [show (iv (ns.take (7 : Int).toNat)).length = (ns.take (7 : Int).toNat).length from List.length_map _, List.length_take, sizeLine_eq]
    have : (7 : Int).toNat = 7 := rfl
    show 1 + _ ≤ _
    omega
  · refine k ((((iv ns).length : Int)) :: ns.take (7 : Int).toNat) p3 _ ?_ (((Same.new n1).trans (Same.new n2)).free n3) (((Same.new n1).trans (Same.new n2)).trans (Same.new n3)) upd_same
    rw [List.length_cons, List.length_take]
    have : (7 : Int).toNat = 7 := rfl
    omega
def sp_law_sized (K : PySem.W.Frag) : Sp := fun vs H Q _ => ∃ (b a : Addr) (x y n : Int) (sc : List Int), vs = [.ref b, .ref a, .int x, .int y] ∧ SqL K H b (iv sc) ∧ Still a H (fun H' => SqL K H' b (iv sc)) ∧ SrcV n H a ∧ n ≤ 800000000 ∧ 1 ≤ x ∧ x ≤ 200 ∧ 1 ≤ y ∧ y ≤ 200 ∧
  ∀ (ns : List Int) (p : Addr) (H' : Hp), isO ns = true → H p = none → SameBut a H H' → SrcV (n + 2000) H' a → H' p = some (.lst (iv ns)) → Q (.ref p) H'
theorem ok_law_sized (T : Txt mg) (h : At K mg "_law_sized" s_law_sized)
    (g_law_draw : Has P w K mg base CX0 1 "_law_draw" s_law_draw P_law_draw sp_law_draw)
    (g_law_rising : Has P w K mg base CX0 2 "_law_rising" s_law_rising P_law_rising sp_law_rising) :
    Has P w K mg base CX0 3 "_law_sized" s_law_sized P_law_sized (sp_law_sized K) := by
  refine Has.of h sc_law_sized (fun vs H Q E h => ?_) (fun _ _ _ _ _ _ us hl => match us, hl with | [_, _, _, _], _ => rfl) (fun f cdv A outer s H vs Q E room qt h => ?_)
  · obtain ⟨b, a, x, y, n, sc, rfl, _⟩ := h; rfl
  obtain ⟨b, a, x, y, n, sc, rfl, hb, sb, ha, hn, x0, x1, y0, y1, k⟩ := h
  refine ⟨_, (pss_cons (ps_if (pt_cmpR (op_eqD room.units) (pv 0) (pe_lst pa_nil) (nomark _))
        (pss_one (ps_ret (pe_has g_law_rising (room.mono (by decide)) qt (by rfl) pass0 (pa_cons (pv 1) (pa_cons pe_int pa_nil)))))
        pss_nil)
      (pss_one (ps_ret (pe_has g_law_rising (room.mono (by decide)) qt (by rfl) pass0 (pa_cons (pv 1) (pa_cons (pe_ix ix_list (pe_lst (pa_cons pe_int (pa_cons (pv 2) (pa_cons (pv 3) pa_nil)))) (pe_has g_law_draw (room.mono (by decide)) qt (by rfl) pass0 (pa_cons (pv 1) (pa_cons pe_int pa_nil))) (fun _ _ => rfl)) pa_nil)))))), ?_⟩
  refine ⟨_, rfl, (by decide : 0 ≤ sizeLine), fun q1 n1 => eqD_ints (ns := sc) (ms := []) ((Same.new n1).seq hb) (SqL.of upd_same) ⟨_, rfl, ?_⟩⟩
  have s1 := Same.new (o := .lst []) n1
  have g1 := ha.new (o := .lst []) n1
  generalize upd H q1 (.lst []) = H1 at s1 g1 ⊢
  refine ite2 (fun _ => ?_) (fun _ => ?_)
  · exact ⟨_, rfl, a, 6, n, rfl, g1, by omega, by decide, by decide, fun ns p H' ho _ hp b2 g2 h2 => k ns p H' ho (s1.free hp) ((SameBut.of s1).trans b2) (g2.mono (by omega)) h2⟩
  · refine ⟨_, rfl, _, rfl, _, rfl, (by decide : 3 ≤ sizeLine), fun q2 n2 => ?_⟩
    refine ⟨_, rfl, a, 3, n, rfl, g1.new n2, by omega, by decide, by decide, fun j H4 j0 j1 b4 g4 => ?_⟩
    have nq2 := g1.ne n2
    have hs := getD_all (xs := [8, x, y]) (p := fun v => 1 ≤ v ∧ v ≤ 200) (fun v hv => by
      simp only [List.mem_cons, List.not_mem_nil, or_false] at hv
      rcases hv with rfl | rfl | rfl <;> omega) j0 (by exact j1)
    have b14 : SameBut a H H4 := ((SameBut.of s1).trans (SameBut.of (Same.new n2))).trans b4
    refine ⟨q2, iv [8, x, y], j, _, rfl, rfl, SqL.of (b4 _ _ upd_same nq2.symm), atI_iv j0 (by exact j1), a, _, _, rfl, g4, by omega, hs.1, hs.2, fun ns p H' ho _ hp b5 g5 h5 => ?_⟩
    have npa : p ≠ a := (g4.ne hp).symm
    exact k ns p H' ho (b14.free npa hp) (b14.trans b5) (g5.mono (by omega)) h5
end
end SH

namespace SH
open PySem PySem.Spec PyProof.Rows L2
theorem rg2_mem {a b v : Int} : v ∈ rg2 a b ↔ a ≤ v ∧ v < b := by
  unfold rg2
  rw [List.mem_map]
  constructor
  · rintro ⟨i, hi, rfl⟩
    have := List.mem_range.mp hi
    omega
  · rintro ⟨x, y⟩
    exact ⟨(v - a).toNat, List.mem_range.mpr (by omega), by omega⟩
theorem asc_eq : ∀ {l1 l2 : List Int}, l1.Pairwise (· < ·) → l2.Pairwise (· < ·) → (∀ k : Int, k ∈ l1 ↔ k ∈ l2) → l1 = l2
  | [], [], _, _, _ => rfl
  | [], y :: t, _, _, h => (List.not_mem_nil ((h y).mpr List.mem_cons_self)).elim
  | x :: r, [], _, _, h => (List.not_mem_nil ((h x).mp List.mem_cons_self)).elim
  | x :: r, y :: t, p1, p2, h => by
    obtain ⟨a1, a2⟩ := List.pairwise_cons.mp p1
    obtain ⟨b1, b2⟩ := List.pairwise_cons.mp p2
    have e : x = y := by
      rcases List.mem_cons.mp ((h x).mp List.mem_cons_self) with e | e
      · exact e
      · rcases List.mem_cons.mp ((h y).mpr List.mem_cons_self) with e2 | e2
        · exact e2.symm
        · have := b1 x e
          have := a1 y e2
          omega
    subst e
    rw [asc_eq a2 b2 fun k => ⟨fun q => ?_, fun q => ?_⟩]
    · rcases List.mem_cons.mp ((h k).mp (List.mem_cons_of_mem _ q)) with e | e
      · have := a1 k q
        omega
      · exact e
    · rcases List.mem_cons.mp ((h k).mpr (List.mem_cons_of_mem _ q)) with e | e
      · have := b1 k q
        omega
      · exact e
theorem rg2_asc (a b : Int) : (rg2 a b).Pairwise (· < ·) := by
  unfold rg2
  rw [List.pairwise_map]
  exact List.pairwise_lt_range.imp fun h => by omega
theorem gives_map (ns : List Int) (f : Int → Int) : gives ns.length (fun _ => true) (fun i => V.int (f (ns.getD i 0))) = iv (ns.map f) := by
  rw [gives_all]
  unfold iv
  rw [List.map_map]
  refine List.ext_getElem (by rw [List.length_map, List.length_map, List.length_range]) fun i h1 h2 => ?_
  rw [List.length_map, List.length_range] at h1
  rw [List.getElem_map, List.getElem_map, List.getElem_range, List.getD_eq_getElem?_getD, List.getElem?_eq_getElem h1]
  rfl
theorem heads_asc {ns : List Int} : ∀ {k : Nat} {w : Int}, (headsL ns k w).Pairwise (· < ·)
  | 0, _ => List.Pairwise.nil
  | k + 1, w => by
    unfold headsL
    split
    · rw [List.pairwise_append]
      refine ⟨heads_asc, List.pairwise_singleton _ _, fun a ha b hb => ?_⟩
      rw [List.mem_singleton.mp hb]
      exact (headsL_mem ha).2
    · exact heads_asc
theorem heads_iff {ns : List Int} (h : okFrom 0 ns = true) : ∀ {k : Nat} {w : Int}, k ≤ ns.length → (∀ j, k = j + 1 → w ≤ ns.getD j 0) → ∀ v : Nat,
    ((v : Int) ∈ headsL ns k w ↔ v < k ∧ ns.getD v 0 ≤ w ∧ ∀ j, v < j → j < k → ns.getD v 0 < ns.getD j 0)
  | 0, w, _, _, v => ⟨fun q => (List.not_mem_nil q).elim, fun q => absurd q.1 (Nat.not_lt_zero _)⟩
  | k + 1, w, hk, c, v => by
    have wk := c k rfl
    have st : ∀ j, k = j + 1 → ns.getD k 0 ≤ ns.getD j 0 + 1 := (okFrom_at h (show k < ns.length by omega)).2.1
    unfold headsL
    by_cases e : ns.getD k 0 = w
    · rw [if_pos e, List.mem_append, List.mem_singleton, heads_iff h (k := k) (w := w - 1) (by omega) (fun j q => by have := st j q; omega) v]
      constructor
      · rintro (⟨a, b, d⟩ | q)
        · refine ⟨by omega, by omega, fun j vj jk => ?_⟩
          rcases Nat.lt_or_ge j k with z | z
          · exact d j vj z
          · obtain rfl : j = k := by omega
            omega
        · obtain rfl : v = k := by omega
          exact ⟨by omega, by omega, fun j vj jk => by omega⟩
      · rintro ⟨a, b, d⟩
        rcases Nat.lt_or_ge v k with z | z
        · left
          have := d k z (by omega)
          exact ⟨z, by omega, fun j vj jk => d j vj (by omega)⟩
        · right
          omega
    · rw [if_neg e, heads_iff h (k := k) (w := w) (by omega) (fun j q => by have := st j q; omega) v]
      constructor
      · rintro ⟨a, b, d⟩
        refine ⟨by omega, b, fun j vj jk => ?_⟩
        rcases Nat.lt_or_ge j k with z | z
        · exact d j vj z
        · obtain rfl : j = k := by omega
          omega
      · rintro ⟨a, b, d⟩
        rcases Nat.lt_or_ge v k with z | z
        · exact ⟨z, b, fun j vj jk => d j vj (by omega)⟩
        · obtain rfl : v = k := by omega
          omega
theorem headsOf_iff {ns : List Int} (h : okFrom 0 ns = true) {i : Nat} (hi : i < ns.length) (v : Nat) :
    (v : Int) ∈ headsOf ns i ↔ v < i ∧ ns.getD v 0 < ns.getD i 0 ∧ ∀ j, v < j → j < i → ns.getD v 0 < ns.getD j 0 := by
  unfold headsOf
  rw [heads_iff h (Nat.le_of_lt hi) (fun j q => by have := (okFrom_at h hi).2.1 j q; omega) v]
  exact ⟨fun ⟨a, b, c⟩ => ⟨a, by omega, c⟩, fun ⟨a, b, c⟩ => ⟨a, by omega, c⟩⟩
theorem heads_up {ns : List Int} (h : okFrom 0 ns = true) {t a : Nat} (ta : t ≤ a) (ha : a < ns.length) {v : Nat} (hv : (v : Int) ∈ headsOf ns a) (vt : v < t) : (v : Int) ∈ headsOf ns t := by
  obtain ⟨p, q, r⟩ := (headsOf_iff h ha v).mp hv
  refine (headsOf_iff h (by omega) v).mpr ⟨vt, ?_, fun j vj jt => r j vj (by omega)⟩
  rcases Nat.lt_or_ge t a with z | z
  · exact r t vt z
  · obtain rfl : t = a := by omega
    exact q
theorem leftL_iff {ns fs : List Int} (h : okFrom 0 ns = true) : ∀ (m i : Nat), ns.length - i ≤ m → ∀ v : Nat, ((v : Int) ∈ leftL ns fs i ↔ i ≤ v ∧ v < ns.length ∧ ∀ a : Nat, i ≤ a → (a : Int) ∈ headsOf ns v → (a : Int) ∉ fs)
  | 0, i, hm, v => by
    rw [leftL_end (by omega)]
    exact ⟨fun q => (List.not_mem_nil q).elim, fun q => by omega⟩
  | m + 1, i, hm, v => by
    rcases Nat.lt_or_ge i ns.length with c | c
    · have gt := nextL_gt ns fs i
      rw [leftL_go c, List.mem_cons, leftL_iff h m (nextL ns fs i) (by omega) v]
      by_cases f : (i : Int) ∈ fs
      · have ie := endF_is c
        have en : nextL ns fs i = endF ns i + 1 := by unfold nextL; rw [if_pos f, Nat.max_eq_left ie.1]
        rw [en]
        constructor
        · rintro (q | ⟨q1, q2, q3⟩)
          · obtain rfl : v = i := by omega
            refine ⟨Nat.le_refl _, c, fun a ai am => ?_⟩
            have := (headsL_mem am).2
            omega
          · refine ⟨by have := ie.1; omega, q2, fun a ai am => ?_⟩
            rcases Nat.lt_or_ge (endF ns i) a with z | z
            · exact q3 a z am
            · exfalso
              obtain ⟨p1, p2, p3⟩ := (headsOf_iff h q2 a).mp am
              have da : ns.getD i 0 ≤ ns.getD a 0 := by
                rcases Nat.lt_or_ge i a with y | y
                · exact Int.le_of_lt (ie.2.2.1 a y z)
                · obtain rfl : a = i := by omega
                  exact Int.le_refl _
              have e1 := ie.2.2.2 (by omega)
              rcases Nat.lt_or_ge (endF ns i + 1) v with y | y
              · have := p3 (endF ns i + 1) (by omega) y
                omega
              · obtain rfl : v = endF ns i + 1 := by omega
                omega
        · rintro ⟨q1, q2, q3⟩
          rcases Nat.lt_or_ge (endF ns i) v with z | z
          · exact .inr ⟨z, q2, fun a ai am => q3 a (by have := ie.1; omega) am⟩
          · left
            rcases Nat.lt_or_ge i v with y | y
            · exfalso
              refine q3 i (Nat.le_refl _) ((headsOf_iff h q2 i).mpr ⟨y, ie.2.2.1 v y z, fun j ij jv => ie.2.2.1 j ij (by omega)⟩) f
            · omega
      · have en : nextL ns fs i = i + 1 := by unfold nextL; rw [if_neg f]
        rw [en]
        constructor
        · rintro (q | ⟨q1, q2, q3⟩)
          · obtain rfl : v = i := by omega
            refine ⟨Nat.le_refl _, c, fun a ai am => ?_⟩
            have := (headsL_mem am).2
            omega
          · refine ⟨by omega, q2, fun a ai am => ?_⟩
            rcases Nat.lt_or_ge i a with z | z
            · exact q3 a z am
            · obtain rfl : a = i := by omega
              exact f
        · rintro ⟨q1, q2, q3⟩
          rcases Nat.lt_or_ge i v with z | z
          · exact .inr ⟨z, q2, fun a ai am => q3 a (by omega) am⟩
          · left; omega
    · rw [leftL_end c]
      exact ⟨fun q => (List.not_mem_nil q).elim, fun q => by omega⟩
theorem leftL_asc {ns fs : List Int} : ∀ (m i : Nat), ns.length - i ≤ m → (leftL ns fs i).Pairwise (· < ·)
  | 0, i, hm => by rw [leftL_end (by omega)]; exact List.Pairwise.nil
  | m + 1, i, hm => by
    rcases Nat.lt_or_ge i ns.length with c | c
    · have gt := nextL_gt ns fs i
      rw [leftL_go c, List.pairwise_cons]
      refine ⟨fun v hv => ?_, leftL_asc m _ (by omega)⟩
      have := (leftL_mem hv).1
      omega
    · rw [leftL_end c]; exact List.Pairwise.nil
/-- the lines with no heading among the marks -/
theorem kept_is {ns fs : List Int} (h : okFrom 0 ns = true) : ((List.range ns.length).filter (fun v => decide (∀ a, a ∈ headsOf ns v → a ∉ fs))).map (fun (v : Nat) => (v : Int)) = leftL ns fs 0 := by
  refine asc_eq ?_ (leftL_asc _ 0 (Nat.le_refl _)) fun k => ?_
  · rw [List.pairwise_map]
    exact (List.pairwise_lt_range.filter _).imp fun h => by omega
  · rw [List.mem_map]
    constructor
    · rintro ⟨v, hv, rfl⟩
      obtain ⟨a, b⟩ := List.mem_filter.mp hv
      exact (leftL_iff h _ 0 (Nat.le_refl _) v).mpr ⟨Nat.zero_le _, List.mem_range.mp a, fun x _ hx => of_decide_eq_true b x hx⟩
    · intro hk
      have kb := leftL_mem hk
      obtain ⟨v, rfl⟩ : ∃ v : Nat, k = v := ⟨k.toNat, by omega⟩
      obtain ⟨_, q2, q3⟩ := (leftL_iff h _ 0 (Nat.le_refl _) v).mp hk
      refine ⟨v, List.mem_filter.mpr ⟨List.mem_range.mpr q2, decide_eq_true fun a ha => ?_⟩, rfl⟩
      have ab := headsL_mem ha
      obtain ⟨n, rfl⟩ : ∃ n : Nat, a = n := ⟨a.toNat, by omega⟩
      exact q3 n (Nat.zero_le _) ha
end SH

namespace SH
open PySem PySem.Spec PyProof.Rows L2
section
def sp_headings_of (K : PySem.W.Frag) : Sp := fun vs H Q _ => ∃ (a : Addr) (ns : List Int) (i : Nat), vs = [.ref a, .int i] ∧ SqL K H a (iv ns) ∧ i < ns.length ∧ ns.length ≤ 1000 ∧ RetL Q H (iv (headsOf ns i))
end
theorem gives_filter (xs : List Int) (p : Int → Bool) : gives xs.length (fun i => p (xs.getD i 0)) (fun i => V.int (xs.getD i 0)) = iv (xs.filter p) := by
  have e : xs = (List.range xs.length).map fun i => xs.getD i 0 := by
    refine List.ext_getElem? fun i => ?_
    rw [List.getElem?_map]
    rcases Nat.lt_or_ge i xs.length with h | h
    · rw [List.getElem?_range h, List.getElem?_eq_getElem h]
      show some xs[i] = some (xs.getD i 0)
      rw [List.getD_eq_getElem?_getD, List.getElem?_eq_getElem h]
      rfl
    · rw [List.getElem?_eq_none h, List.getElem?_eq_none (by rw [List.length_range]; exact h)]
      rfl
  unfold gives iv
  have e2 : xs.filter p = ((List.range xs.length).filter (fun i => p (xs.getD i 0))).map fun i => xs.getD i 0 := by
    conv => lhs; rw [e]
    rw [List.filter_map]
    rfl
  rw [e2, List.map_map]
  rfl
abbrev s_law_above : Stmt := topS 22
abbrev N_law_above : List Str := ["depths", "spot", "found", "wanted", "one"]
abbrev P_law_above : List Str := ["depths", "spot"]
theorem sc_law_above : FnScope N_law_above P_law_above (defScope s_law_above) := ⟨rfl, rfl, rfl, by decide +kernel, rfl, by decide +kernel, by decide +kernel⟩
section
variable {P : Program} {w : World} {K : PySem.W.Frag} {mg : Str → Option Value} {base : Heap}
theorem ok_law_above (T : Txt mg) (h : At K mg "_law_above" s_law_above) :
    Has P w K mg base CX0 1 "_law_above" s_law_above P_law_above (sp_headings_of K) := by
  refine Has.of h sc_law_above (fun vs H Q E h => ?_) (fun _ _ _ _ _ _ us hl => match us, hl with | [_, _], _ => rfl) (fun f cdv A outer s H vs Q E room qt h => ?_)
  · obtain ⟨a, n, t, rfl, _⟩ := h; rfl
  obtain ⟨a, ns, i, rfl, ha, hi, hl, k⟩ := h
  refine ⟨_, (pss_cons (ps_par (i := 2) (j := 3) rfl sc_law_above.nd rfl rfl (by decide) rfl rfl (pa_cons (pe_lst pa_nil) (pa_cons (pe_op op_sub (pe_ix ix_list (pv 0) (pv 1) (fun _ _ => rfl)) pe_int) pa_nil)) (by rfl))
      (pss_cons (ps_for PassesOwn.never rfl (pi_range3 (by rfl) T.range (pa_cons (pe_op op_sub (pv 1) pe_int) (pa_cons (pe_un un_neg pe_int) (pa_cons (pe_un un_neg pe_int) pa_nil)))) (pg_name (i := 4) sc_law_above.nd rfl (Or.inl rfl) (hf := Or.inl rfl))
        (pss_one (ps_if (pt_cmpR op_eq (pe_ix ix_list (pv 0) (pv 4) (fun _ _ => rfl)) (pv 3) (nomark _))
          (pss_cons (ps_expr (pe_bm PySem.F.plainAttrs_list PySem.F.slot_list_append PySem.F.type_list_append mt_append (pv 2) (pa_cons (pv 4) pa_nil)))
          (pss_one (ps_set (i := 3) sc_law_above.nd rfl (Or.inl rfl) (pe_op op_sub (pv 3) pe_int))))
          pss_nil)))
      (pss_one (ps_ret (pe_revL (pv 2)))))), ?_⟩
  refine ⟨(by decide : 0 ≤ sizeLine), fun p hp => ?_⟩
  have ha' : ∀ o, SqL K (upd H p o) a (iv ns) := fun o => (Same.new hp).seq ha
  refine ⟨_, rfl, _, rfl, a, iv ns, i, _, rfl, rfl, ha' _, atI_iv (by omega) (by omega), _, _, rfl, rfl, ?_⟩
  rw [Int.toNat_natCast]
  refine ⟨_, _, rfl, ?_⟩
  refine ⟨_, rfl, _, _, rfl, rfl, _, rfl, _, rfl, (i : Int) - 1, -1, -1, i, rfl, ?_, ?_⟩
  · have e := RgC.neg (i := (i : Int) - 1) (j := -1) (by omega) (by omega) (by omega) (by omega)
    have ei : ((i : Int) - 1 - -1).toNat = i := by omega
    rw [ei] at e
    exact e
  refine for_rangeC (n := i) (fun j σ H2 => ∃ (F : List Int) (w : Int) (v : Option V), σ = [some (.ref a), some (.int i), some (.ref p), some (.int w), v] ∧ H2 = upd H p (.lst (iv F)) ∧
    F.length ≤ j ∧ headsOf ns i = headsL ns (i - j) w ++ F.reverse) ⟨[], _, _, rfl, rfl, Nat.le_refl _, by rw [List.reverse_nil, List.append_nil]; rfl⟩ ?_ ?_
  · rintro j σ H2 hj ⟨F, wd, v, rfl, rfl, hF, e⟩
    have ev : (i : Int) - 1 + ((j : Nat) : Int) * (-1) = ((i - (j + 1) : Nat) : Int) := by omega
    obtain ⟨u, eu⟩ : ∃ u, i - (j + 1) = u := ⟨_, rfl⟩
    have ek : i - j = u + 1 := by omega
    rw [ek, headsL] at e
    rw [eu] at ev
    show (tIfS _ _ _) _ (List.set _ 4 (some (.int ((i : Int) - 1 + ((j : Nat) : Int) * (-1))))) _
    rw [ev]
    -- if made[spot] == need
    refine ⟨_, rfl, _, rfl, a, iv ns, u, _, rfl, rfl, ha' _, atI_iv (by omega) (by omega), _, rfl, rfl, _, rfl, ite2 (fun c => ?_) (fun c => ?_)⟩
    · have c1 : ns.getD u 0 = wd := by
        have := of_decide_eq_true c
        rw [Int.toNat_natCast] at this
        exact V.int.inj this
      rw [if_pos c1] at e
      refine ⟨_, rfl, .inl ⟨rfl, _, SqL.of upd_same⟩, _, rfl, p, _, _, rfl, rfl, upd_same, small_line (by rw [List.length_map]; omega), ?_⟩
      refine ⟨_, rfl, _, _, rfl, rfl, F ++ [(u : Int)], wd - 1, _, rfl, by rw [upd_upd, iv_snoc], by rw [List.length_append]; show F.length + 1 ≤ j + 1; omega, ?_⟩
      rw [eu, e, List.reverse_append, List.append_assoc]
      rfl
    · have c1 : ¬ ns.getD u 0 = wd := fun q => c (by rw [Int.toNat_natCast, q]; exact decide_eq_true rfl)
      rw [if_neg c1] at e
      exact ⟨F, wd, _, rfl, rfl, by omega, by rw [eu]; exact e⟩
  · rintro σ H2 ⟨F, wd, v, rfl, rfl, hF, e⟩
    rw [Nat.sub_self, headsL, List.nil_append] at e
    refine ⟨_, rfl, p, _, rfl, SqL.of upd_same, fun q hq => ?_⟩
    refine k q _ ((Same.new hp).free hq) ?_ ?_
    · exact (Same.new hp).trans (Same.new hq)
    · rw [upd_same, e]
      show some (HO.lst (List.map V.int F).reverse) = some (HO.lst (List.map V.int F.reverse))
      rw [List.map_reverse]
end
abbrev s_law_kept : Stmt := topS 23
abbrev N_law_kept : List Str := ["depths", "marks", "found", "spot", "one"]
abbrev P_law_kept : List Str := ["depths", "marks"]
theorem sc_law_kept : FnScope N_law_kept P_law_kept (defScope s_law_kept) := ⟨rfl, rfl, rfl, by decide +kernel, rfl, by decide +kernel, by decide +kernel⟩
section
variable {P : Program} {w : World} {K : PySem.W.Frag} {mg : Str → Option Value} {base : Heap}
def sp_law_kept : Sp := fun vs H Q _ => ∃ (a b : Addr) (ns fs : List Int), vs = [.ref a, .ref b] ∧ H a = some (.lst (iv ns)) ∧ isO ns = true ∧ H b = some (.lst (iv fs)) ∧ RetL Q H (iv (leftL ns fs 0))
theorem ok_law_kept (T : Txt mg) (h : At K mg "_law_kept" s_law_kept)
    (g_law_above : Has P w K mg base CX0 1 "_law_above" s_law_above P_law_above (sp_headings_of K)) :
    Has P w K mg base CX0 2 "_law_kept" s_law_kept P_law_kept sp_law_kept := by
  refine Has.of h sc_law_kept (fun vs H Q E h => ?_) (fun _ _ _ _ _ _ us hl => match us, hl with | [_, _], _ => rfl) (fun f cdv A outer s H vs Q E room qt h => ?_)
  · obtain ⟨a, b, ns, fs, rfl, _⟩ := h; rfl
  obtain ⟨a, b, ns, fs, rfl, ha, ho, hb, k⟩ := h
  obtain ⟨l1, l2, hk⟩ := isO_iff.mp ho
  have elo : (iv ns).length = ns.length := List.length_map _
  have kk := kept_is (fs := fs) hk
  refine ⟨_, (pss_cons (ps_set (i := 2) sc_law_kept.nd rfl (Or.inl rfl) (pe_lst pa_nil))
      (pss_cons (ps_for PassesOwn.never rfl (pi_range1 (by rfl) T.range (pa_cons (pe_callB call_len_seq (by rfl) T.len (by decide +kernel) (pa_cons (pv 0) pa_nil)) pa_nil)) (pg_name (i := 3) sc_law_kept.nd rfl (Or.inl rfl) (hf := Or.inl rfl))
        (pss_one (ps_if (pt_cmpR (op_eqD room.units) (pe_lc (own := [("one", 4)]) (by rfl) sc_law_kept.nd (pi_list (pe_has g_law_above (room.mono (by decide)) qt (by rfl) pass0 (pa_cons (pv 0) (pa_cons (pv 3) pa_nil)))) (blkOk_by (own := [("one", 4)]) (N := N_law_kept) (sc := defScope s_law_kept) (by decide +kernel)) (fun _ _ _ _ _ => (pg_name (i := 4) sc_law_kept.nd rfl (Or.inl rfl) (hf := Or.inr rfl))) (fun _ _ _ _ _ => (pts_one (pt_cmpR (show OpR _ _ (rIn K false) from by exact op_in_seq) (pv 4) (pv 1) (by with_unfolding_all rfl)))) (fun _ _ _ _ _ => (pv 4))) (pe_lst pa_nil) (nomark _))
          (pss_one (ps_expr (pe_bm PySem.F.plainAttrs_list PySem.F.slot_list_append PySem.F.type_list_append mt_append (pv 2) (pa_cons (pv 3) pa_nil))))
          pss_nil)))
      (pss_one (ps_ret (pv 2))))), ?_⟩
  refine ⟨(by decide : 0 ≤ sizeLine), fun p hp => ?_⟩
  have own : ∀ {H' : Hp} (o : HO), Same H H' → Same H (upd H' p o) := fun o s b u e => by rw [upd_ne (ne_of_none e hp)]; exact s _ _ e
  refine ⟨_, rfl, a, _, rfl, .inl (SqL.of (Same.new hp _ _ ha)), _, rfl, by omega, by omega, for_range (lo := 0) (n := ((iv ns).length : Int).toNat) (fun i σ H' => (∃ v3 v4, σ = [some (.ref a), some (.ref b), some (.ref p), v3, v4]) ∧ Same H H' ∧
      H' p = some (.lst (iv (((List.range i).filter (fun v => decide (∀ a, a ∈ headsOf ns v → a ∉ fs))).map fun (v : Nat) => (v : Int)))))
    ⟨⟨_, _, rfl⟩, Same.new hp, upd_same⟩ ?_ ?_⟩
  · rintro i σ H4 hi ⟨⟨v3, v4, rfl⟩, s4, p4⟩
    have il : i < ns.length := by omega
    have ei : (0 : Int) + (i : Nat) = (i : Nat) := by omega
    have pa4 := s4 _ _ ha
    have hl9 : (headsOf ns i).length ≤ 200 := by have := headsL_len ns i (ns.getD i 0 - 1); unfold headsOf; omega
    have el9 : (iv (headsOf ns i)).length = (headsOf ns i).length := List.length_map _
    refine ⟨_, rfl, _, rfl, a, ns, i, by rw [ei]; rfl, SqL.of pa4, il, by omega, fun q H5 hq s5 h5 => ?_⟩
    refine ⟨q, rfl, ⟨_, SqL.of h5⟩, fun D hD => lcLn (K := K) (a := q) (xs := iv (headsOf ns i)) (fun j => decide ((headsOf ns i).getD j 0 ∈ fs)) (fun j => V.int ((headsOf ns i).getD j 0)) (SqL.of h5) hD (by omega) (fun x => rfl) ?_ ?_ ?_⟩
    · intro j x H2 Q' hx s2 qq
      have jl : j < (headsOf ns i).length := by have := (List.getElem?_eq_some_iff.mp hx).1; omega
      rw [iv_at jl] at hx
      cases hx
      refine ⟨_, rfl, _, rfl, b, _, rfl, .inl (SqL.of (s2 _ _ (s5 _ _ (s4 _ _ hb)))), rfl, flat_iv _, _, rfl, ?_⟩
      show Q' (inV (V.int _) (iv _)) H2
      rw [inV_iv]
      exact qq H2 (Same.refl _)
    · intro j x H2 Q' hx _ s2 qq
      have jl : j < (headsOf ns i).length := by have := (List.getElem?_eq_some_iff.mp hx).1; omega
      rw [iv_at jl] at hx
      cases hx
      exact ⟨_, rfl, qq H2 (Same.refl _)⟩
    intro H6 s6 h6
    rw [el9, gives_filter (headsOf ns i) (fun v => decide (v ∈ fs))] at h6
    have p6 := s6 _ _ (s5 _ _ p4)
    have s46 := (s4.trans s5).trans s6
    refine ⟨(by decide : 0 ≤ sizeLine), fun v2 hv2 => eqD_ints (ns := (headsOf ns i).filter (fun v => decide (v ∈ fs))) (ms := []) (SqL.of (Same.new hv2 _ _ h6)) (SqL.of upd_same) ⟨_, rfl, ite2 (fun c => ?_) (fun c => ?_)⟩⟩
    · have c1 : (headsOf ns i).filter (fun v => decide (v ∈ fs)) = [] := of_decide_eq_true c
      have c2 : ∀ a, a ∈ headsOf ns i → a ∉ fs := fun a ha hf => by
        have : a ∈ (headsOf ns i).filter (fun v => decide (v ∈ fs)) := List.mem_filter.mpr ⟨ha, decide_eq_true hf⟩
        rw [c1] at this
        exact List.not_mem_nil this
      have p7 := Same.new (o := .lst []) hv2 _ _ p6
      refine ⟨_, rfl, .inl ⟨rfl, _, SqL.of p7⟩, _, rfl, p, _, _, rfl, rfl, p7, small_line ?_, ⟨_, _, rfl⟩, own _ (s46.trans (Same.new hv2)), ?_⟩
      · rw [List.length_map, List.length_map]
        have := List.length_filter_le (fun v => decide (∀ a, a ∈ headsOf ns v → a ∉ fs)) (List.range i)
        rw [List.length_range] at this
        omega
      · rw [ei, List.range_succ, List.filter_append, List.filter_cons, if_pos (decide_eq_true c2), List.filter_nil, List.map_append]
        show _ = some (HO.lst (iv (_ ++ [(i : Int)])))
        rw [iv_snoc]
        exact upd_same
    · have c2 : ¬ ∀ a, a ∈ headsOf ns i → a ∉ fs := fun q => c (decide_eq_true (List.filter_eq_nil_iff.mpr fun a ha => by
        rw [decide_eq_true_eq]
        exact q a ha))
      refine ⟨⟨_, _, rfl⟩, s46.trans (Same.new hv2), ?_⟩
      rw [List.range_succ, List.filter_append, List.filter_cons, if_neg (by rw [decide_eq_true_eq]; exact c2), List.filter_nil, List.append_nil]
      exact Same.new hv2 _ _ p6
  · rintro σ H4 ⟨⟨v3, v4, rfl⟩, s4, p4⟩
    have e : ((iv ns).length : Int).toNat = ns.length := by omega
    rw [e, kk] at p4
    exact ⟨_, rfl, k p _ hp s4 p4⟩
end
end SH

namespace SH
open PySem PySem.Spec PyProof.Rows L2
abbrev s_law_places : Stmt := topS 24
abbrev N_law_places : List Str := ["bag", "depths", "odds", "spot"]
abbrev P_law_places : List Str := ["bag", "depths", "odds"]
theorem sc_law_places : FnScope N_law_places P_law_places (defScope s_law_places) := ⟨rfl, rfl, rfl, by decide +kernel, rfl, by decide +kernel, by decide +kernel⟩
theorem asc_of {g : Int} : ∀ {fs : List Int} {lo : Int}, fs.Pairwise (· < ·) → (∀ v ∈ fs, lo ≤ v ∧ v ≤ g) → ascB g lo fs = true
  | [], _, _, _ => rfl
  | x :: r, lo, p, b => by
    obtain ⟨p1, p2⟩ := List.pairwise_cons.mp p
    have b0 := b x List.mem_cons_self
    simp only [ascB, Bool.and_eq_true, decide_eq_true_eq]
    exact ⟨⟨b0.1, b0.2⟩, asc_of p2 fun v hv => ⟨by have := p1 v hv; omega, (b v (List.mem_cons_of_mem _ hv)).2⟩⟩
section
variable {P : Program} {w : World} {K : PySem.W.Frag} {mg : Str → Option Value} {base : Heap}
def sp_law_places : Sp := fun vs H Q _ => ∃ (g a : Addr) (n o : Int) (ns : List Int), vs = [.ref g, .ref a, .int o] ∧ SrcV n H g ∧ n ≤ 900000000 ∧ H a = some (.lst (iv ns)) ∧ a ≠ g ∧ ns.length ≤ 200 ∧ 1 ≤ o ∧ o ≤ 100 ∧
  ∀ (ms : List Int) (p : Addr) (H' : Hp), ms.Pairwise (· < ·) → (∀ v ∈ ms, 0 ≤ v ∧ v < ns.length) → ms.length ≤ ns.length → H p = none → SameBut g H H' → SrcV (n + 200) H' g → H' p = some (.lst (iv ms)) → Q (.ref p) H'
theorem ok_law_places (T : Txt mg) (h : At K mg "_law_places" s_law_places)
    (g_law_draw : Has P w K mg base CX0 1 "_law_draw" s_law_draw P_law_draw sp_law_draw) :
    Has P w K mg base CX0 2 "_law_places" s_law_places P_law_places sp_law_places := by
  refine Has.of h sc_law_places (fun vs H Q E h => ?_) (fun _ _ _ _ _ _ us hl => match us, hl with | [_, _, _], _ => rfl) (fun f cdv A outer s H vs Q E room qt h => ?_)
  · obtain ⟨g, a, n, o, ns, rfl, _⟩ := h; rfl
  obtain ⟨g, a, n, o, ns, rfl, hg, hn, ha, nag, hl, o0, o1, k⟩ := h
  have elo : (iv ns).length = ns.length := List.length_map _
  refine ⟨_, (pss_one (ps_ret (pe_lc (own := [("spot", 3)]) (by rfl) sc_law_places.nd (pi_range1 (by rfl) T.range (pa_cons (pe_callB call_len_seq (by rfl) T.len (by decide +kernel) (pa_cons (pv 1) pa_nil)) pa_nil)) (blkOk_by (own := [("spot", 3)]) (N := N_law_places) (sc := defScope s_law_places) (by decide +kernel)) (fun _ _ _ _ _ => (pg_name (i := 3) sc_law_places.nd rfl (Or.inl rfl) (hf := Or.inr rfl))) (fun _ _ _ _ _ => (pts_one (pt_cmpR op_eq (pe_has g_law_draw (room.mono (by decide)) qt (by rfl) pass0 (pa_cons (pv 0) (pa_cons (pv 2) pa_nil))) pe_int (nomark _)))) (fun _ _ _ _ _ => (pv 3))))), ?_⟩
  refine ⟨_, rfl, a, _, rfl, .inl (SqL.of ha), _, rfl, by omega, by omega, fun D hD => lc_range (lo := 0) (n := ((iv ns).length : Int).toNat) (fun i H9 => SameBut g H H9 ∧ SrcV (n + (i : Int)) H9 g ∧ ∃ hs : List Int, hs.length ≤ i ∧ hs.Pairwise (· < ·) ∧ (∀ v ∈ hs, 0 ≤ v ∧ v < (i : Int)) ∧ H9 D = some (.lst (iv hs)))
    ⟨SameBut.of (Same.new hD), (hg.new hD).mono (by omega), [], Nat.le_refl _, List.Pairwise.nil, (fun v hv => (List.not_mem_nil hv).elim), upd_same⟩ ?_ ?_⟩
  · rintro i H9 hi ⟨b9, g9, hs, hl9, as9, hv9, h9⟩
    have nDg : D ≠ g := (hg.ne hD).symm
    refine ⟨rfl, _, rfl, _, rfl, g, o, _, rfl, g9, by omega, by omega, by omega, fun r H10 r0 r1 b10 g10 => ⟨rfl, _, rfl, ite2 (fun c => ?_) (fun c => ?_)⟩⟩
    · have h10 := b10 _ _ h9 nDg
      refine ⟨_, rfl, _, h10, small_line (by rw [List.length_map]; omega), (b9.trans b10).own hD, (g10.upd nDg.symm).mono (by omega), hs ++ [(0 : Int) + (i : Nat)], by rw [List.length_append]; show _ + 1 ≤ _; omega, ?_, fun v hv => ?_, by rw [iv_snoc]; exact upd_same⟩
      · rw [List.pairwise_append]
        refine ⟨as9, List.pairwise_singleton _ _, fun x hx y hy => ?_⟩
        rw [List.mem_singleton.mp hy]
        have := hv9 x hx
        omega
      · rcases List.mem_append.mp hv with hv | hv
        · have := hv9 v hv; omega
        · have := List.mem_singleton.mp hv; omega
    · exact ⟨b9.trans b10, g10.mono (by omega), hs, by omega, as9, fun v hv => by have := hv9 v hv; omega, b10 _ _ h9 nDg⟩
  · rintro H9 ⟨b9, g9, hs, hl9, as9, hv9, h9⟩
    exact k hs D H9 as9 (fun v hv => by have := hv9 v hv; omega) (by omega) hD b9 (g9.mono (by omega)) h9
end
end SH

namespace SH
open PySem PySem.Spec PyProof.Rows L2
theorem isO_vals {ns : List Int} (h : isO ns = true) : ∀ v ∈ ns, v.natAbs < 2 ^ 64 := by
  obtain ⟨h1, h2, h3⟩ := isO_iff.mp h
  intro v hv
  obtain ⟨i, hi, rfl⟩ := List.getElem_of_mem hv
  have a := (okFrom_at h3 hi).1
  have b := okFrom_le h3 hi
  rw [List.getD_eq_getElem?_getD, List.getElem?_eq_getElem hi, Option.getD_some] at a b
  omega
theorem kb_lines_left : KwOk "lines_left" s_lines_left P_lines_left ["folds", "outline"] (fun {α} ws => match ws with | [x0, x1] => [x1, x0] | _ => []) where
  to := fun _ _ _ _ _ _ ws hl => match ws, hl with | [_, _], _ => rfl
  rel := fun {zs ws} r => match zs, ws, r with
    | _, _, .cons x0 (.cons x1 .nil) => .cons x1 (.cons x0 .nil)
    | _, _, .nil => .nil
    | _, _, .cons _ .nil => .nil
    | _, _, .cons _ (.cons _ (.cons _ _)) => .nil
  len := fun ws h => match ws, h with | [_, _], _ => rfl
  ne := by decide
theorem kb_folded_outline : KwOk "folded_outline" s_folded_outline P_folded_outline ["folds", "outline"] (fun {α} ws => match ws with | [x0, x1] => [x1, x0] | _ => []) where
  to := fun _ _ _ _ _ _ ws hl => match ws, hl with | [_, _], _ => rfl
  rel := fun {zs ws} r => match zs, ws, r with
    | _, _, .cons x0 (.cons x1 .nil) => .cons x1 (.cons x0 .nil)
    | _, _, .nil => .nil
    | _, _, .cons _ .nil => .nil
    | _, _, .cons _ (.cons _ (.cons _ _)) => .nil
  len := fun ws h => match ws, h with | [_, _], _ => rfl
  ne := by decide
abbrev s_law_right : Stmt := topS 25
abbrev N_law_right : List Str := ["script", "bag", "depths", "marks", "turn", "kept", "due", "found", "told", "other", "spot"]
abbrev P_law_right : List Str := ["script", "bag"]
theorem sc_law_right : FnScope N_law_right P_law_right (defScope s_law_right) := ⟨rfl, rfl, rfl, by decide +kernel, rfl, by decide +kernel, by decide +kernel⟩
section
variable {P : Program} {w : World} {K : PySem.W.Frag} {mg : Str → Option Value} {base : Heap}
theorem shows_two {H : Hp} {q x y : Addr} {xs ys : List Int} (h : SqL K H q [.ref x, .ref y]) (hx : SqL K H x (iv xs)) (hy : SqL K H y (iv ys)) (lx : xs.length ≤ 1000) (ly : ys.length ≤ 1000)
    (bx : ∀ v ∈ xs, v.natAbs < 2 ^ 64) (by_ : ∀ v ∈ ys, v.natAbs < 2 ^ 64) : Shows K H (.ref q) (.list [dI xs, dI ys]) := by
  obtain ⟨a1, a2, a3, a4, a5⟩ := shows_ints hx lx bx
  obtain ⟨b1, b2, b3, b4, b5⟩ := shows_ints hy ly by_
  refine ⟨.lst h (.cons a1 (.cons b1 .nil)), ?_, ?_, ?_, ?_⟩
  · show ((dI xs).showable && ((dI ys).showable && true)) = true
    rw [a2, b2]; rfl
  · show ((dI xs).hasDict || ((dI ys).hasDict || false)) = false
    rw [a3, b3]; rfl
  · show max (dI xs).depth (max (dI ys).depth 0) + 1 ≤ 60
    have e1 : (dI xs).depth = 1 := by show PyData.depthAll (xs.map PyData.int) + 1 = 1; rw [depth_ints]
    have e2 : (dI ys).depth = 1 := by show PyData.depthAll (ys.map PyData.int) + 1 = 1; rw [depth_ints]
    rw [e1, e2]
    decide
  · show (listText (PyData.shownAll [dI xs, dI ys])).length ≤ sizeLine
    have := listText_len_le (PyData.shownAll [dI xs, dI ys])
    have e : sizeLine = 16777216 := by decide
    obtain ⟨u1, u2⟩ := shownAll_len bx
    obtain ⟨v1, v2⟩ := shownAll_len by_
    have w1 := listText_len_le (PyData.shownAll (xs.map PyData.int))
    have w2 := listText_len_le (PyData.shownAll (ys.map PyData.int))
    have s : ((PyData.shownAll [dI xs, dI ys]).map (·.length)).sum = (listText (PyData.shownAll (xs.map PyData.int))).length + ((listText (PyData.shownAll (ys.map PyData.int))).length + 0) := rfl
    have l : (PyData.shownAll [dI xs, dI ys]).length = 2 := rfl
    omega
theorem foldL_small {ns fs : List Int} (ho : isO ns = true) : ∀ v ∈ foldL ns fs, v.natAbs < 2 ^ 64 := fun v hv => by
  unfold foldL at hv
  obtain ⟨u, hu, rfl⟩ := List.mem_map.mp hv
  have ub := leftL_mem hu
  obtain ⟨l1, l2, hk⟩ := isO_iff.mp ho
  have a := (okFrom_at hk (i := u.toNat) (by omega)).1
  have b := okFrom_le hk (i := u.toNat) (by omega)
  omega
theorem foldL_len (ns fs : List Int) : (foldL ns fs).length = (leftL ns fs 0).length := List.length_map _
theorem gives_at (ns L : List Int) : gives L.length (fun _ => true) (fun i => V.int (ns.getD (L.getD i 0).toNat 0)) = iv (L.map fun v => ns.getD v.toNat 0) := by
  rw [gives_all]
  unfold iv
  rw [List.map_map]
  refine List.ext_getElem (by rw [List.length_map, List.length_map, List.length_range]) fun i h1 h2 => ?_
  rw [List.length_map, List.length_range] at h1
  rw [List.getElem_map, List.getElem_map, List.getElem_range, List.getD_eq_getElem?_getD (l := L), List.getElem?_eq_getElem h1]
  rfl
theorem two_upd {H Z : Hp} {f t : Addr} {A B : HO} (s : Same H Z) {x : Addr} {u : HO} (h : H x = some u) (nf : x ≠ f) (nt : x ≠ t) : upd (upd Z f A) t B x = some u := by
  rw [upd_ne nt, upd_ne nf]; exact s _ _ h
theorem store_all (xs ys : List Int) : (iv xs).take (HT.sIx (iv xs).length 0 none) ++ iv ys ++ (iv xs).drop (max (HT.sIx (iv xs).length 0 none) (HT.sIx (iv xs).length (iv xs).length none)) = iv ys := by
  rw [HT.sIx_none, HT.sIx_none, Nat.max_eq_right (Nat.zero_le _), List.take_zero, List.drop_length, List.append_nil, List.nil_append]
theorem rep_is (o : Int) (fs : List Int) : (List.replicate (if (!inV (V.int o) (iv fs)) = true then (1 : Int) else 0).toNat [V.int o]).flatten = iv (if o ∈ fs then [] else [o]) := by
  rw [inV_iv]
  by_cases c : o ∈ fs
  · rw [decide_eq_true c, if_pos c]; rfl
  · rw [decide_eq_false c, if_neg c]; rfl
theorem marks_next {fs fs' : List Int} {o N : Int} (as : fs.Pairwise (· < ·)) (bd : ∀ v ∈ fs, 0 ≤ v ∧ v < N) (o0 : 0 ≤ o) (o1 : o < N)
    (perm : fs'.Perm (fs.filter (fun v => !decide (V.int v = V.int o)) ++ (if o ∈ fs then [] else [o]))) (srt : fs'.Pairwise (· ≤ ·)) :
    fs'.Pairwise (· < ·) ∧ (∀ v ∈ fs', 0 ≤ v ∧ v < N) ∧ fs'.length ≤ fs.length + 1 := by
  have no : ∀ v, v ∈ fs.filter (fun v => !decide (V.int v = V.int o)) → v ∈ fs ∧ v ≠ o := fun v hv => by
    obtain ⟨a, b⟩ := List.mem_filter.mp hv
    refine ⟨a, fun e => ?_⟩
    subst e
    rw [decide_eq_true rfl] at b
    cases b
  have sm : ∀ v, v ∈ (if o ∈ fs then [] else [o]) → v = o := fun v hv => by
    split at hv
    · exact (List.not_mem_nil hv).elim
    · exact List.mem_singleton.mp hv
  have nd : (fs.filter (fun v => !decide (V.int v = V.int o)) ++ (if o ∈ fs then [] else [o])).Pairwise (· ≠ ·) := by
    rw [List.pairwise_append]
    refine ⟨(as.filter _).imp fun h => by omega, by split <;> simp, fun x hx y hy => ?_⟩
    rw [sm y hy]
    exact (no x hx).2
  have nh : fs'.Pairwise (· ≠ ·) := perm.nodup_iff.mpr nd
  refine ⟨(srt.and nh).imp fun q => by have := q.1; have := q.2; omega, fun v hv => ?_, ?_⟩
  · rcases List.mem_append.mp (perm.mem_iff.mp hv) with u | u
    · exact bd v (no v u).1
    · rw [sm v u]; exact ⟨o0, o1⟩
  · rw [perm.length_eq, List.length_append]
    have a := List.length_filter_le (fun v => !decide (V.int v = V.int o)) fs
    have b : (if o ∈ fs then ([] : List Int) else [o]).length ≤ 1 := by split <;> simp
    omega
def sp_law_right (K : PySem.W.Frag) : Sp := fun vs H Q _ => ∃ (b g : Addr) (n : Int) (sc : List Int), vs = [.ref b, .ref g] ∧ SqL K H b (iv sc) ∧ Still g H (fun H' => SqL K H' b (iv sc)) ∧ SrcV n H g ∧ n ≤ 1000 ∧ ∀ H', SameBut g H H' → Q (.bl true) H'
set_option maxHeartbeats 4000000 in
theorem ok_law_right (T : Txt mg) (h : At K mg "_law_right" s_law_right)
    (g_law_draw : Has P w K mg base CX0 1 "_law_draw" s_law_draw P_law_draw sp_law_draw)
    (g_law_sized : Has P w K mg base CX0 3 "_law_sized" s_law_sized P_law_sized (sp_law_sized K))
    (g_law_places : Has P w K mg base CX0 2 "_law_places" s_law_places P_law_places sp_law_places)
    (g_law_kept : Has P w K mg base CX0 2 "_law_kept" s_law_kept P_law_kept sp_law_kept)
    (g_lines_left : Has P w K mg base CX0 5 "lines_left" s_lines_left P_lines_left sp_lines_left)
    (g_folded_outline : Has P w K mg base CX0 6 "folded_outline" s_folded_outline P_folded_outline sp_folded_outline) :
    Has P w K mg base CX0 7 "_law_right" s_law_right P_law_right (sp_law_right K) := by
  refine Has.of h sc_law_right (fun vs H Q E h => ?_) (fun _ _ _ _ _ _ us hl => match us, hl with | [_, _], _ => rfl) (fun f cdv A outer s H vs Q E room qt h => ?_)
  · obtain ⟨b, g, n, sc, rfl, _⟩ := h; rfl
  obtain ⟨b, g, n, sc, rfl, hb, sb, hg, hn, k⟩ := h
  refine ⟨_, (pss_cons (ps_set (i := 2) sc_law_right.nd rfl (Or.inr rfl) (pe_has g_law_sized (room.mono (by decide)) qt (by rfl) pass0 (pa_cons (pv 0) (pa_cons (pv 1) (pa_cons pe_int (pa_cons pe_int pa_nil))))))
      (pss_cons (ps_set (i := 3) sc_law_right.nd rfl (Or.inl rfl) (pe_has g_law_places (room.mono (by decide)) qt (by rfl) pass0 (pa_cons (pv 1) (pa_cons (pv 2) (pa_cons (pe_ix ix_list (pe_lst (pa_cons pe_int (pa_cons pe_int (pa_cons pe_int (pa_cons pe_int pa_nil))))) (pe_has g_law_draw (room.mono (by decide)) qt (by rfl) pass0 (pa_cons (pv 1) (pa_cons pe_int pa_nil))) (fun _ _ => rfl)) pa_nil)))))
      (pss_cons (ps_for PassesOwn.never rfl (pi_range1 (by rfl) T.range (pa_cons pe_int pa_nil)) (pg_name (i := 4) sc_law_right.nd rfl (Or.inl rfl) (hf := Or.inl rfl))
        (pss_cons (ps_set (i := 5) sc_law_right.nd rfl (Or.inl rfl) (pe_callB (call_reprR qt room.units) (by rfl) T.repr (by decide +kernel) (pa_cons (pe_lst (pa_cons (pv 2) (pa_cons (pv 3) pa_nil))) pa_nil)))
        (pss_cons (ps_set (i := 6) sc_law_right.nd rfl (Or.inl rfl) (pe_has g_law_kept (room.mono (by decide)) qt (by rfl) pass0 (pa_cons (pv 2) (pa_cons (pv 3) pa_nil))))
        (pss_cons (ps_set (i := 7) sc_law_right.nd rfl (Or.inl rfl) (pe_lst (pa_cons (pe_has g_lines_left (room.mono (by decide)) qt (by rfl) pass0 (pa_cons (pv 2) (pa_cons (pv 3) pa_nil))) (pa_cons (pe_hasK0 g_lines_left (room.mono (by decide)) qt (by rfl) kb_lines_left pass0 (pk_cons (pv 3) (pk_cons (pv 2) pk_nil))) pa_nil))))
        (pss_cons (ps_set (i := 8) sc_law_right.nd rfl (Or.inl rfl) (pe_lst (pa_cons (pe_has g_folded_outline (room.mono (by decide)) qt (by rfl) pass0 (pa_cons (pv 2) (pa_cons (pv 3) pa_nil))) (pa_cons (pe_hasK0 g_folded_outline (room.mono (by decide)) qt (by rfl) kb_folded_outline pass0 (pk_cons (pv 3) (pk_cons (pv 2) pk_nil))) pa_nil))))
        (pss_cons (ps_if (PW.pt (pw_or (pt_cmpR op_ne (pe_callB (call_reprR qt room.units) (by rfl) T.repr (by decide +kernel) (pa_cons (pv 7) pa_nil)) (pe_callB (call_reprR qt room.units) (by rfl) T.repr (by decide +kernel) (pa_cons (pe_lst (pa_cons (pv 6) (pa_cons (pv 6) pa_nil))) pa_nil)) (nomark _)) (pw_or1 (pt_cmpR op_ne (pe_callB (call_reprR qt room.units) (by rfl) T.repr (by decide +kernel) (pa_cons (pv 8) pa_nil)) (pe_callB (call_reprR qt room.units) (by rfl) T.repr (by decide +kernel) (pa_cons (pe_op op_rep (pe_lst (pa_cons (pe_lc (own := [("spot", 10)]) (by rfl) sc_law_right.nd (pi_list (pv 6)) (blkOk_by (own := [("spot", 10)]) (N := N_law_right) (sc := defScope s_law_right) (by decide +kernel)) (fun _ _ _ _ _ => (pg_name (i := 10) sc_law_right.nd rfl (Or.inl rfl) (hf := Or.inr rfl))) (fun _ _ _ _ _ => pts_nil) (fun _ _ _ _ _ => (pe_ix (show IxR _ (rIxL K) from by exact ix_list) (pv 2) (pv 10) (fun _ _ => rfl)))) pa_nil)) pe_int) pa_nil)) (nomark _)))))
          (pss_one (ps_ret pe_bl))
          pss_nil)
        (pss_cons (ps_if (pt_cmpR op_ne (pe_callB (call_reprR qt room.units) (by rfl) T.repr (by decide +kernel) (pa_cons (pe_lst (pa_cons (pv 2) (pa_cons (pv 3) pa_nil))) pa_nil)) (pv 5) (nomark _))
          (pss_one (ps_ret pe_bl))
          pss_nil)
        (pss_cons (ps_expr (pe_bm PySem.F.plainAttrs_list PySem.F.slot_list_append PySem.F.type_list_append mt_append (pe_ix ix_list (pv 7) pe_int (fun _ _ => rfl)) (pa_cons pe_int pa_nil)))
        (pss_cons (ps_expr (pe_bm PySem.F.plainAttrs_list PySem.F.slot_list_append PySem.F.type_list_append mt_append (pe_ix ix_list (pv 8) pe_int (fun _ _ => rfl)) (pa_cons pe_int pa_nil)))
        (pss_cons (ps_if (pt_cmpR op_ne (pe_callB (call_reprR qt room.units) (by rfl) T.repr (by decide +kernel) (pa_cons (pe_lst (pa_cons (pe_has g_lines_left (room.mono (by decide)) qt (by rfl) pass0 (pa_cons (pv 2) (pa_cons (pv 3) pa_nil))) (pa_cons (pe_has g_folded_outline (room.mono (by decide)) qt (by rfl) pass0 (pa_cons (pv 2) (pa_cons (pv 3) pa_nil))) pa_nil))) pa_nil)) (pe_callB (call_reprR qt room.units) (by rfl) T.repr (by decide +kernel) (pa_cons (pe_lst (pa_cons (pe_ix ix_list (pv 7) pe_int (fun _ _ => rfl)) (pa_cons (pe_ix ix_list (pv 8) pe_int (fun _ _ => rfl)) pa_nil))) pa_nil)) (nomark _))
          (pss_one (ps_ret pe_bl))
          pss_nil)
        (pss_cons (ps_set (i := 9) sc_law_right.nd rfl (Or.inr rfl) (pe_has g_law_draw (room.mono (by decide)) qt (by rfl) pass0 (pa_cons (pv 1) (pa_cons (pe_callB call_len_seq (by rfl) T.len (by decide +kernel) (pa_cons (pv 2) pa_nil)) pa_nil))))
        (pss_one (ps_asg (pe_callB cr_sortedAny (by rfl) T.sorted (by decide +kernel) (pa_cons (pe_op op_catS (pe_lc (own := [("spot", 10)]) (by rfl) sc_law_right.nd (pi_list (pv 3)) (blkOk_by (own := [("spot", 10)]) (N := N_law_right) (sc := defScope s_law_right) (by decide +kernel)) (fun _ _ _ _ _ => (pg_name (i := 10) sc_law_right.nd rfl (Or.inl rfl) (hf := Or.inr rfl))) (fun _ _ _ _ _ => (pts_one (pt_cmpR op_ne (pv 10) (pv 9) (nomark _)))) (fun _ _ _ _ _ => (pv 10))) (pe_op op_rep (pe_lst (pa_cons (pv 9) pa_nil)) (pe_callTy call_int1 (by rfl) T.tint (by decide +kernel) (pa_cons (pe_cmpR op_notIn_seq (pv 9) (pv 3) (by with_unfolding_all rfl)) pa_nil)))) pa_nil)) (pg_store (pv 3) po_none po_none))))))))))))))
      (pss_one (ps_ret pe_bl))))), ?_⟩
  refine ⟨_, rfl, _, rfl, b, g, 40, 200, n, sc, rfl, hb, sb, hg, by omega, by decide, by decide, by decide, by decide, fun ns p H1 ho hp b1 g1 h1 => ?_⟩
  obtain ⟨l1, l2, hk⟩ := isO_iff.mp ho
  have elo : (iv ns).length = ns.length := List.length_map _
  have npg : p ≠ g := fun e => by subst e; obtain ⟨_, _, _, e, _⟩ := hg; rw [e] at hp; cases hp
  -- marks
  refine ⟨_, rfl, _, rfl, (by decide : 4 ≤ sizeLine), fun q0 n0 => ?_⟩
  refine ⟨_, rfl, g, 4, _, rfl, g1.new n0, by omega, by decide, by decide, fun j H2 j0 j1 b2 g2 => ?_⟩
  have nq0 := g1.ne n0
  have hs := getD_all (xs := [1, 2, 5, 30]) (p := fun v => 1 ≤ v ∧ v ≤ 100) (fun v hv => by
    simp only [List.mem_cons, List.not_mem_nil, or_false] at hv
    rcases hv with rfl | rfl | rfl | rfl <;> omega) j0 (by exact j1)
  have h2 := b2 _ _ (Same.new (o := .lst [.int 1, .int 2, .int 5, .int 30]) n0 _ _ h1) npg
  have b12 : SameBut g H H2 := (b1.trans (SameBut.of (Same.new n0))).trans b2
  refine ⟨q0, iv [1, 2, 5, 30], j, _, rfl, rfl, SqL.of (b2 _ _ upd_same nq0.symm), atI_iv j0 (by exact j1), g, p, _, _, ns, rfl, g2, by omega, h2, npg, l2, hs.1, hs.2, fun ms mk H3 as3 bd3 ln3 hmk b3 g3 h3 => ?_⟩
  have h3p := b3 _ _ h2 npg
  have b13 := b12.trans b3
  have nmg : mk ≠ g := (g2.ne hmk).symm
  have npm : p ≠ mk := ne_of_none h2 hmk
  have hmkH : H mk = none := b12.free nmg hmk
  refine ⟨3, rfl, by decide, by decide, for_range (lo := 0) (n := 3) (fun i σ H' => (∃ v4 v5 v6 v7 v8 v9 v10, σ = [some (.ref b), some (.ref g), some (.ref p), some (.ref mk), v4, v5, v6, v7, v8, v9, v10]) ∧ SameBut g H H' ∧ SrcV (100000 + (i : Int)) H' g ∧ H' p = some (.lst (iv ns)) ∧
      ∃ fs : List Int, fs.Pairwise (· < ·) ∧ (∀ v ∈ fs, 0 ≤ v ∧ v < ns.length) ∧ fs.length ≤ 200 + i ∧ H' mk = some (.lst (iv fs)))
    ⟨⟨_, _, _, _, _, _, _, rfl⟩, b13, g3.mono (by omega), h3p, ms, as3, bd3, by omega, h3⟩ ?_ ?_⟩
  rotate_left
  · rintro σ H' ⟨⟨v4, v5, v6, v7, v8, v9, v10, rfl⟩, b', _⟩
    exact k H' b'
  clear h3 h3p g3 bd3 as3 ln3 b13 hmk b3
  rintro i σ H3 hi ⟨⟨v4, v5, v6, v7, v8, v9, v10, rfl⟩, b03, g3, p3, fs, as3, bd3, ln3, m3⟩
  have elf : (iv fs).length = fs.length := List.length_map _
  have asc : ascB (ns.length - 1) 0 fs = true := asc_of as3 fun v hv => by have := bd3 v hv; omega
  have nsS := isO_vals ho
  have fsS : ∀ v ∈ fs, v.natAbs < 2 ^ 64 := fun v hv => by have := bd3 v hv; omega
  have lfS : ∀ v ∈ leftL ns fs 0, v.natAbs < 2 ^ 64 := fun v hv => by have := leftL_mem hv; omega
  have foS := foldL_small (fs := fs) ho
  have lfL := leftL_len ns fs 0
  have foL := foldL_len ns fs
  -- kept
  refine ⟨_, rfl, _, rfl, (by decide : 2 ≤ sizeLine), fun q1 n1 => ⟨q1, .list [dI ns, dI fs], rfl, shows_two (SqL.of upd_same) (SqL.of (Same.new n1 _ _ p3)) (SqL.of (Same.new n1 _ _ m3)) (by omega) (by omega) nsS fsS, ?_⟩⟩
  have s4 : Same H3 (upd H3 q1 (.lst [.ref p, .ref mk])) := Same.new n1
  generalize upd H3 q1 (.lst [.ref p, .ref mk]) = H4 at s4 ⊢
  -- due
  refine ⟨_, rfl, _, rfl, p, mk, ns, fs, rfl, s4 _ _ p3, ho, s4 _ _ m3, fun d H5 hd s5 d5 => ?_⟩
  have s35 := s4.trans s5
  -- found
  refine ⟨_, rfl, _, rfl, p, mk, ns, fs, rfl, s35 _ _ p3, ho, s35 _ _ m3, asc, fun f1 H6 hf1 s6 x6 => ?_⟩
  have s36 := s35.trans s6
  refine ⟨_, rfl, _, rfl, p, mk, ns, fs, rfl, s36 _ _ p3, ho, s36 _ _ m3, asc, fun f2 H7 hf2 s7 x7 => ?_⟩
  have s37 := s36.trans s7
  refine ⟨(by decide : 2 ≤ sizeLine), fun q2 n2 => ?_⟩
  have s8 : Same H7 (upd H7 q2 (.lst [.ref f1, .ref f2])) := Same.new n2
  have y8 : (upd H7 q2 (.lst [.ref f1, .ref f2])) q2 = some (.lst [.ref f1, .ref f2]) := upd_same
  generalize upd H7 q2 (.lst [.ref f1, .ref f2]) = H8 at s8 y8 ⊢
  have s38 := s37.trans s8
  -- told
  refine ⟨_, rfl, _, rfl, p, mk, ns, fs, rfl, s38 _ _ p3, ho, s38 _ _ m3, asc, fun t1 H9 ht1 s9 x9 => ?_⟩
  have s39 := s38.trans s9
  refine ⟨_, rfl, _, rfl, p, mk, ns, fs, rfl, s39 _ _ p3, ho, s39 _ _ m3, asc, fun t2 H10 ht2 s10 x10 => ?_⟩
  have s310 := s39.trans s10
  refine ⟨(by decide : 2 ≤ sizeLine), fun q3 n3 => ?_⟩
  have s11 : Same H10 (upd H10 q3 (.lst [.ref t1, .ref t2])) := Same.new n3
  have y11 : (upd H10 q3 (.lst [.ref t1, .ref t2])) q3 = some (.lst [.ref t1, .ref t2]) := upd_same
  generalize upd H10 q3 (.lst [.ref t1, .ref t2]) = H11 at s11 y11 ⊢
  have s911 := s10.trans s11
  have s311 := s39.trans s911
  have f1a := s911 _ _ (s9 _ _ (s8 _ _ (s7 _ _ x6)))
  have f2a := s911 _ _ (s9 _ _ (s8 _ _ x7))
  have q2a := s911 _ _ (s9 _ _ y8)
  have t1a := s911 _ _ x9
  have t2a := s11 _ _ x10
  have da := s911 _ _ (s9 _ _ (s8 _ _ (s7 _ _ (s6 _ _ d5))))
  have pa := s311 _ _ p3
  have ma := s311 _ _ m3
  have ga := g3.same s311
  -- repr(found) != repr([due, due])
  refine ⟨_, rfl, q2, .list [dI (leftL ns fs 0), dI (leftL ns fs 0)], rfl, shows_two (SqL.of q2a) (SqL.of f1a) (SqL.of f2a) (by omega) (by omega) lfS lfS, _, rfl, _, rfl, (by decide : 2 ≤ sizeLine), fun q4 n4 => ⟨q4, .list [dI (leftL ns fs 0), dI (leftL ns fs 0)], rfl, shows_two (SqL.of upd_same) (SqL.of (Same.new n4 _ _ da)) (SqL.of (Same.new n4 _ _ da)) (by omega) (by omega) lfS lfS, rfl, _, rfl, ?_⟩⟩
  rw [decide_eq_true rfl]
  refine iteF ?_
  have s12 : Same H11 (upd H11 q4 (.lst [.ref d, .ref d])) := Same.new n4
  generalize upd H11 q4 (.lst [.ref d, .ref d]) = H12 at s12 ⊢
  -- repr(told) != repr([[..]] * 2)
  refine ⟨_, rfl, q3, .list [dI (foldL ns fs), dI (foldL ns fs)], rfl, shows_two (SqL.of (s12 _ _ y11)) (SqL.of (s12 _ _ t1a)) (SqL.of (s12 _ _ t2a)) (by omega) (by omega) foS foS, ?_⟩
  have ell : (iv (leftL ns fs 0)).length = (leftL ns fs 0).length := List.length_map _
  refine ⟨_, rfl, d, rfl, ⟨_, SqL.of (s12 _ _ da)⟩, fun D hD => lcLn (K := K) (a := d) (xs := iv (leftL ns fs 0)) (fun _ => true) (fun i => V.int (ns.getD ((leftL ns fs 0).getD i 0).toNat 0)) (SqL.of (s12 _ _ da)) hD (by omega) (fun x => rfl) (fun i x H2 Q' _ _ qq => qq H2 (Same.refl _)) ?_ ?_⟩
  · intro i x H2 Q' hx _ s2 qq
    have il : i < (leftL ns fs 0).length := by have := (List.getElem?_eq_some_iff.mp hx).1; omega
    rw [iv_at il] at hx
    cases hx
    have vb := leftL_mem (show (leftL ns fs 0).getD i 0 ∈ leftL ns fs 0 by
      rw [List.getD_eq_getElem?_getD, List.getElem?_eq_getElem il]
      exact List.getElem_mem il)
    exact ⟨_, rfl, _, rfl, p, iv ns, _, _, rfl, rfl, SqL.of (s2 _ _ (s12 _ _ pa)), atI_iv (by omega) vb.2, qq H2 (Same.refl _)⟩
  intro H13 s13 h13
  have h13 : H13 D = some (.lst (iv (foldL ns fs))) := by rw [h13, ell]; exact congrArg (fun z => some (HO.lst z)) (gives_at ns (leftL ns fs 0))
  refine ⟨(by decide : 1 ≤ sizeLine), fun q5 n5 => ⟨q5, 2, _, rfl, rfl, upd_same, by decide, by decide, (by decide : 1 * 2 ≤ sizeLine), fun q6 n6 => ⟨q6, .list [dI (foldL ns fs), dI (foldL ns fs)], rfl, shows_two (x := D) (y := D) (SqL.of upd_same) (SqL.of (Same.new n6 _ _ (Same.new n5 _ _ h13))) (SqL.of (Same.new n6 _ _ (Same.new n5 _ _ h13))) (by omega) (by omega) foS foS, rfl, _, rfl, ?_⟩⟩⟩
  rw [decide_eq_true rfl]
  refine iteF ?_
  -- repr([depths, marks]) != kept
  refine ⟨_, rfl, _, rfl, (by decide : 2 ≤ sizeLine), fun q7 n7 => ?_⟩
  have s14 := (((s12.trans s13).trans (Same.new n5)).trans (Same.new n6)).trans (Same.new (o := .lst [.ref p, .ref mk]) n7)
  refine ⟨q7, .list [dI ns, dI fs], rfl, shows_two (SqL.of upd_same) (SqL.of (s14 _ _ pa)) (SqL.of (s14 _ _ ma)) (by omega) (by omega) nsS fsS, _, rfl, rfl, _, rfl, ?_⟩
  rw [decide_eq_true rfl]
  refine iteF ?_
  have a1 : f2 ≠ f1 := (ne_of_none x6 hf2).symm
  have a2 : f1 ≠ t1 := ne_of_none (s8 _ _ (s7 _ _ x6)) ht1
  have a3 : f2 ≠ t1 := ne_of_none (s8 _ _ x7) ht1
  have a4 : q2 ≠ f1 := (ne_of_none (s7 _ _ x6) n2).symm
  have a5 : q2 ≠ t1 := ne_of_none y8 ht1
  have a6 : q3 ≠ f1 := (ne_of_none (s10 _ _ (s9 _ _ (s8 _ _ (s7 _ _ x6)))) n3).symm
  have a7 : q3 ≠ t1 := (ne_of_none (s10 _ _ x9) n3).symm
  have a8 : t2 ≠ t1 := (ne_of_none x9 ht2).symm
  have a9 : t2 ≠ f1 := (ne_of_none (s9 _ _ (s8 _ _ (s7 _ _ x6))) ht2).symm
  have c1 : p ≠ f1 := ne_of_none (s35 _ _ p3) hf1
  have c2 : p ≠ t1 := ne_of_none (s38 _ _ p3) ht1
  have c3 : mk ≠ f1 := ne_of_none (s35 _ _ m3) hf1
  have c4 : mk ≠ t1 := ne_of_none (s38 _ _ m3) ht1
  have c5 : g ≠ f1 := (g3.same s35).ne hf1
  have c6 : g ≠ t1 := (g3.same s38).ne ht1
  have hf1H : H f1 = none := (b03.trans (SameBut.of s35)).free c5.symm hf1
  have ht1H : H t1 = none := (b03.trans (SameBut.of s38)).free c6.symm ht1
  -- found[0].append(0), told[0].append(0)
  refine ⟨_, rfl, q2, [.ref f1, .ref f2], 0, .ref f1, rfl, rfl, SqL.of (s14 _ _ q2a), rfl, .inl ⟨rfl, _, SqL.of (s14 _ _ f1a)⟩, f1, _, _, rfl, rfl, s14 _ _ f1a, small_line (by rw [List.length_map]; omega), ?_⟩
  refine ⟨_, rfl, q3, [.ref t1, .ref t2], 0, .ref t1, rfl, rfl, SqL.of (by rw [upd_ne a6]; exact s14 _ _ y11), rfl, .inl ⟨rfl, _, SqL.of (by rw [upd_ne a2.symm]; exact s14 _ _ t1a)⟩, t1, _, _, rfl, rfl, (by rw [upd_ne a2.symm]; exact s14 _ _ t1a), small_line (by rw [List.length_map]; omega), ?_⟩
  -- repr([lines_left(..), folded_outline(..)]) != repr([found[1], told[1]])
  refine ⟨_, rfl, _, rfl, p, mk, ns, fs, rfl, two_upd s14 pa c1 c2, ho, two_upd s14 ma c3 c4, asc, fun l1' H15 hl1 s15 z15 => ?_⟩
  have p15 := s15 _ _ (two_upd s14 pa c1 c2)
  have m15 := s15 _ _ (two_upd s14 ma c3 c4)
  have q215 := s15 _ _ (two_upd s14 q2a a4 a5)
  have q315 := s15 _ _ (two_upd s14 y11 a6 a7)
  have f215 := s15 _ _ (two_upd s14 f2a a1 a3)
  have t215 := s15 _ _ (two_upd s14 t2a a9 a8)
  have b15 := (((b03.trans (SameBut.of (s311.trans s14))).own hf1H).own ht1H).trans (SameBut.of s15)
  have g15 := (((ga.same s14).upd c5).upd c6).same s15
  refine ⟨_, rfl, _, rfl, p, mk, ns, fs, rfl, p15, ho, m15, asc, fun l2' H16 hl2 s16 z16 => ⟨(by decide : 2 ≤ sizeLine), fun q8 n8 => ?_⟩⟩
  refine ⟨q8, .list [dI (leftL ns fs 0), dI (foldL ns fs)], rfl, shows_two (SqL.of upd_same) (SqL.of (Same.new n8 _ _ (s16 _ _ z15))) (SqL.of (Same.new n8 _ _ z16)) (by omega) (by omega) lfS foS, ?_⟩
  have s17 := s16.trans (Same.new (o := .lst [.ref l1', .ref l2']) n8)
  refine ⟨_, rfl, q2, [.ref f1, .ref f2], 1, .ref f2, rfl, rfl, SqL.of (s17 _ _ q215), rfl, _, rfl, q3, [.ref t1, .ref t2], 1, .ref t2, rfl, rfl, SqL.of (s17 _ _ q315), rfl, (by decide : 2 ≤ sizeLine), fun q9 n9 => ?_⟩
  refine ⟨q9, .list [dI (leftL ns fs 0), dI (foldL ns fs)], rfl, shows_two (SqL.of upd_same) (SqL.of (Same.new n9 _ _ (s17 _ _ f215))) (SqL.of (Same.new n9 _ _ (s17 _ _ t215))) (by omega) (by omega) lfS foS, rfl, _, rfl, ?_⟩
  rw [decide_eq_true rfl]
  refine iteF ?_
  have s18 := s17.trans (Same.new (o := .lst [.ref f2, .ref t2]) n9)
  generalize upd (upd H16 q8 (.lst [.ref l1', .ref l2'])) q9 (.lst [.ref f2, .ref t2]) = H17 at s18 ⊢
  have p17 := s18 _ _ p15
  have m17 := s18 _ _ m15
  have b17 := b15.trans (SameBut.of s18)
  have g17 := g15.same s18
  -- other
  refine ⟨_, rfl, _, rfl, p, _, rfl, .inl (SqL.of p17), g, _, _, rfl, g17, by omega, by omega, by omega, fun o H18 o0 o1 b18 g18 => ?_⟩
  have p18 := b18 _ _ p17 npg
  have m18 := b18 _ _ m17 nmg
  have b018 := b17.trans b18
  -- marks[:] = sorted(..)
  refine ⟨_, rfl, mk, rfl, ⟨_, SqL.of m18⟩, fun D2 hD2 => lcLn (K := K) (a := mk) (xs := iv fs) (fun i => !decide (V.int (fs.getD i 0) = V.int o)) (fun i => V.int (fs.getD i 0)) (SqL.of m18) hD2 (by omega) (fun x => rfl) ?_ ?_ ?_⟩
  · intro i x H2 Q' hx s2 qq
    have il : i < fs.length := by have := (List.getElem?_eq_some_iff.mp hx).1; omega
    rw [iv_at il] at hx
    cases hx
    exact ⟨_, rfl, _, rfl, rfl, _, rfl, qq H2 (Same.refl _)⟩
  · intro i x H2 Q' hx _ s2 qq
    have il : i < fs.length := by have := (List.getElem?_eq_some_iff.mp hx).1; omega
    rw [iv_at il] at hx
    cases hx
    exact ⟨_, rfl, qq H2 (Same.refl _)⟩
  intro H19 s19 h19
  rw [elf, gives_filter fs (fun v => !decide (V.int v = V.int o))] at h19
  have p19 := s19 _ _ p18
  have m19 := s19 _ _ m18
  have g19 := g18.same s19
  have fl := List.length_filter_le (fun v => !decide (V.int v = V.int o)) fs
  have il3 : ((if o ∈ fs then ([] : List Int) else [o])).length ≤ 1 := by split <;> simp
  refine ⟨_, rfl, (by decide : 1 ≤ sizeLine), fun q10 n10 => ?_⟩
  refine ⟨_, rfl, _, rfl, mk, _, rfl, .inl (SqL.of (Same.new n10 _ _ m19)), rfl, flat_iv _, .inr ⟨_, rfl, q10, _, [.int o], rfl, rfl, upd_same, by split <;> omega, by split <;> omega, ?_, fun w1 hw1 => ?_⟩⟩
  · show 1 * (if (!inV (V.int o) (iv fs)) = true then (1 : Int) else 0).toNat ≤ sizeLine
    have : (if (!inV (V.int o) (iv fs)) = true then (1 : Int) else 0).toNat ≤ 1 := by split <;> decide
    rw [sizeLine_eq]
    omega
  have s20 := (Same.new (o := .lst [.int o]) n10).trans (Same.new (o := .lst ((List.replicate (if (!inV (V.int o) (iv fs)) = true then (1 : Int) else 0).toNat [V.int o]).flatten)) hw1)
  refine ⟨D2, w1, _, (List.replicate (if (!inV (V.int o) (iv fs)) = true then (1 : Int) else 0).toNat [V.int o]).flatten, rfl, rfl, SqL.of (s20 _ _ h19), SqL.of upd_same, by rw [rep_is, List.length_map, List.length_map, sizeLine_eq]; omega, fun q11 n11 => ?_⟩
  rw [rep_is]
  have h11 : ∀ Z : Hp, (upd Z q11 (.lst (iv (fs.filter (fun v => !decide (V.int v = V.int o))) ++ iv (if o ∈ fs then [] else [o])))) q11 = some (.lst (iv (fs.filter (fun v => !decide (V.int v = V.int o)) ++ (if o ∈ fs then [] else [o])))) := fun Z => by
    unfold iv
    rw [List.map_append]
    exact upd_same
  refine ⟨q11, _, rfl, SqL.of (h11 _), by rw [List.length_append]; omega, fun fs' q12 perm srt n12 => ?_⟩
  obtain ⟨as', bd', ln'⟩ := marks_next as3 bd3 o0 (show o < (ns.length : Int) by omega) perm srt
  have s21 := (s20.trans (Same.new n11)).trans (Same.new (o := .lst (iv fs')) n12)
  have m21 := s21 _ _ m19
  have p21 := s21 _ _ p19
  have nm12 : mk ≠ q12 := ne_of_none (((s20.trans (Same.new n11))) _ _ m19) n12
  refine ⟨_, rfl, mk, q12, iv fs, iv fs', rfl, rfl, nm12, m21, upd_same, by rw [List.length_map, List.length_map, sizeLine_eq]; omega, ?_⟩
  rw [store_all]
  exact ⟨⟨_, _, _, _, _, _, _, rfl⟩, (b018.trans (SameBut.of (s19.trans s21))).own hmkH, ((g19.same s21).upd (Ne.symm nmg)).mono (by omega), by rw [upd_ne npm]; exact p21, fs', as', bd', by omega, upd_same⟩
end
end SH

namespace SH
open PySem PySem.Spec PyProof.Rows L2
abbrev s_law : Stmt := topS 26
abbrev N_law : List Str := ["script", "k", "cell"]
abbrev P_law : List Str := ["script"]
theorem sc_law : FnScope N_law P_law (defScope s_law) := ⟨rfl, rfl, rfl, by decide +kernel, rfl, by decide +kernel, by decide +kernel⟩
section
variable {P : Program} {w : World} {K : PySem.W.Frag} {mg : Str → Option Value} {base : Heap}
def sp_law (K : PySem.W.Frag) : Sp := fun vs H Q _ => ∃ (a : Addr) (ns : List Int), vs = [.ref a] ∧ SqL K H a (iv ns) ∧ ns.length ≤ 63 ∧ ∀ H', Q (.bl true) H'
theorem ok_law (T : Txt mg) (h : At K mg "law" s_law)
    (g_law_cells : Has P w K mg base CX0 1 "_law_cells" s_law_cells P_law_cells (sp_law_cells K))
    (g_law_bag : Has P w K mg base CX0 1 "_law_bag" s_law_bag P_law_bag sp_law_bag)
    (g_law_right : Has P w K mg base CX0 7 "_law_right" s_law_right P_law_right (sp_law_right K)) :
    Has P w K mg base CX0 8 "law" s_law P_law (sp_law K) := by
  refine Has.of h sc_law (fun vs H Q E h => ?_) (fun _ _ _ _ _ _ us hl => match us, hl with | [_], _ => rfl) (fun f cdv A outer s H vs Q E room qt h => ?_)
  · obtain ⟨a, ns, rfl, _⟩ := h; rfl
  obtain ⟨a, ns, rfl, ha, hl, k⟩ := h
  refine ⟨_, (pss_cons (ps_for PassesOwn.never rfl (pi_enum (by rfl) T.enumerate (pa_cons (pe_slice sl_list (pe_has g_law_cells (room.mono (by decide)) qt (by rfl) pass0 (pa_cons (pv 0) pa_nil)) po_none (po_some pe_int)) pa_nil)) (pg_tup rfl (pgs_cons (pg_name (i := 1) sc_law.nd rfl (Or.inl rfl) (hf := Or.inl rfl)) (pgs_cons (pg_name (i := 2) sc_law.nd rfl (Or.inl rfl) (hf := Or.inl rfl)) pgs_nil)))
        (pss_one (ps_if (pt_not (pt_val (pe_has g_law_right (room.mono (by decide)) qt (by rfl) pass0 (pa_cons (pv 0) (pa_cons (pe_has g_law_bag (room.mono (by decide)) qt (by rfl) pass0 (pa_cons (pv 2) (pa_cons (pv 1) pa_nil))) pa_nil)))))
          (pss_one (ps_ret pe_bl))
          pss_nil)))
      (pss_one (ps_ret pe_bl))), ?_⟩
  refine ⟨_, rfl, a, ns, rfl, ha, hl, fun ms p H1 lm hp s1 h1 => ?_⟩
  refine ⟨_, rfl, p, _, rfl, SqL.of h1, fun p2 n2 => ?_⟩
  rw [cutV_iv]
  have c1 := cutI_len ms none (some 7)
  have s3 : Same H (upd H1 p2 (.lst (iv (cutI ms none (some 7))))) := s1.trans (Same.new n2)
  have h3 : (upd H1 p2 (.lst (iv (cutI ms none (some 7))))) p2 = some (.lst (iv (cutI ms none (some 7)))) := upd_same
  have lm : (cutI ms none (some 7)).length ≤ 64 := by omega
  generalize upd H1 p2 (.lst (iv (cutI ms none (some 7)))) = H3 at s3 h3 ⊢
  generalize cutI ms none (some 7) = ms at h3 lm ⊢
  refine ⟨p2, _, rfl, SqL.of h3, ?_⟩
  refine for_enum (K := K) (a := p2) (xs := iv ms) (fun i σ H4 => (∃ v1 v2, σ = [some (.ref a), v1, v2]) ∧ Same H3 H4) ⟨⟨_, _, rfl⟩, Same.refl _⟩ (fun i σ H4 _ e => SqL.of (e.2 _ _ h3)) ?_ (fun σ H4 _ => k H4)
  rintro i v Tt σ H4 hi ⟨⟨v1, v2, rfl⟩, s4⟩ hT
  have il : i < ms.length := by have := (List.getElem?_eq_some_iff.mp hi).1; rwa [List.length_map] at this
  rw [iv_at il] at hi
  cases hi
  refine ⟨Tt, _, rfl, SqT.of upd_same, rfl, _, _, rfl, _, _, rfl, rfl, ?_⟩
  refine ⟨_, rfl, _, rfl, _, rfl, _, _, rfl, by omega, by omega, fun g H5 hg s5 g5 => ?_⟩
  have s05 := (s4.trans (Same.new hT)).trans s5
  have hg3 : H3 g = none := (s4.trans (Same.new hT)).free hg
  refine ⟨a, g, 0, ns, rfl, (s3.trans s05).seq ha, fun H' b => (s3.trans (Same.but s05 hg3 b)).seq ha, g5, by decide, fun H6 b6 => ⟨_, rfl, iteF ⟨⟨_, _, rfl⟩, Same.but s05 hg3 b6⟩⟩⟩
end
end SH

namespace SH
open PySem PySem.Spec PyProof.Rows L2
/-! ### the end -/
theorem all_mk {l : PySem.W.OpenLaw} {w : World} {K : PySem.W.Frag} {h : Heap} {mg : Str → Option Value} {fa : Addr} (X : K.In h) (G : h.Ns mainGlobals mg) (hfa : mg "law" = some (.ref fa))
    {f0 f1 f2 f3 f4 f5 f6 f7 f8 f9 f10 f11 f12 f13 f14 f15 f16 f17 : Addr} {od0 an0 od1 an1 od2 an2 od3 an3 od4 an4 od5 an5 od6 an6 od7 an7 od8 an8 od9 an9 od10 an10 od11 an11 od12 an12 od13 an13 od14 an14 od15 an15 od16 an16 od17 an17 : Option Addr} {sl0 sl1 sl2 sl3 sl4 sl5 sl6 sl7 sl8 sl9 sl10 sl11 sl12 sl13 sl14 sl15 sl16 sl17 : Array (Option Value)}
    {oc0 kV0 dc0 pm0 cd0 ct0 oc1 kV1 dc1 pm1 cd1 ct1 oc2 kV2 dc2 pm2 cd2 ct2 oc3 kV3 dc3 pm3 cd3 ct3 oc4 kV4 dc4 pm4 cd4 ct4 oc5 kV5 dc5 pm5 cd5 ct5 oc6 kV6 dc6 pm6 cd6 ct6 oc7 kV7 dc7 pm7 cd7 ct7 oc8 kV8 dc8 pm8 cd8 ct8 oc9 kV9 dc9 pm9 cd9 ct9 oc10 kV10 dc10 pm10 cd10 ct10 oc11 kV11 dc11 pm11 cd11 ct11 oc12 kV12 dc12 pm12 cd12 ct12 oc13 kV13 dc13 pm13 cd13 ct13 oc14 kV14 dc14 pm14 cd14 ct14 oc15 kV15 dc15 pm15 cd15 ct15 oc16 kV16 dc16 pm16 cd16 ct16 oc17 kV17 dc17 pm17 cd17 ct17 : Value} {t_MOST_LINES : Tok}
    (a0 : PySem.W.nsIn K mainGlobals "is_integer_from" = some (some (.ref f0)))
    (l0 : K.lookup f0 = some ⟨oc0, od0, .func (PySem.W.fnOf "is_integer_from" "is_integer_from" (defArgs s_is_integer_from) (defBody s_is_integer_from) (defScope s_is_integer_from) .none kV0 dc0 pm0 an0 cd0 ct0), sl0⟩)
    (c0 : PySem.W.codeIn K cd0 "is_integer_from" = true) (k0 : PySem.W.keepIn K (.ref f0) = true)
    (a1 : PySem.W.nsIn K mainGlobals "is_integer_within" = some (some (.ref f1)))
    (l1 : K.lookup f1 = some ⟨oc1, od1, .func (PySem.W.fnOf "is_integer_within" "is_integer_within" (defArgs s_is_integer_within) (defBody s_is_integer_within) (defScope s_is_integer_within) .none kV1 dc1 pm1 an1 cd1 ct1), sl1⟩)
    (c1 : PySem.W.codeIn K cd1 "is_integer_within" = true) (k1 : PySem.W.keepIn K (.ref f1) = true)
    (a2 : PySem.W.nsIn K mainGlobals "is_outline" = some (some (.ref f2)))
    (l2 : K.lookup f2 = some ⟨oc2, od2, .func (PySem.W.fnOf "is_outline" "is_outline" (defArgs s_is_outline) (defBody s_is_outline) (defScope s_is_outline) .none kV2 dc2 pm2 an2 cd2 ct2), sl2⟩)
    (c2 : PySem.W.codeIn K cd2 "is_outline" = true) (k2 : PySem.W.keepIn K (.ref f2) = true)
    (a3 : PySem.W.nsIn K mainGlobals "check_outline" = some (some (.ref f3)))
    (l3 : K.lookup f3 = some ⟨oc3, od3, .func (PySem.W.fnOf "check_outline" "check_outline" (defArgs s_check_outline) (defBody s_check_outline) (defScope s_check_outline) .none kV3 dc3 pm3 an3 cd3 ct3), sl3⟩)
    (c3 : PySem.W.codeIn K cd3 "check_outline" = true) (k3 : PySem.W.keepIn K (.ref f3) = true)
    (a4 : PySem.W.nsIn K mainGlobals "last_of_section" = some (some (.ref f4)))
    (l4 : K.lookup f4 = some ⟨oc4, od4, .func (PySem.W.fnOf "last_of_section" "last_of_section" (defArgs s_last_of_section) (defBody s_last_of_section) (defScope s_last_of_section) .none kV4 dc4 pm4 an4 cd4 ct4), sl4⟩)
    (c4 : PySem.W.codeIn K cd4 "last_of_section" = true) (k4 : PySem.W.keepIn K (.ref f4) = true)
    (a5 : PySem.W.nsIn K mainGlobals "is_ascending_list" = some (some (.ref f5)))
    (l5 : K.lookup f5 = some ⟨oc5, od5, .func (PySem.W.fnOf "is_ascending_list" "is_ascending_list" (defArgs s_is_ascending_list) (defBody s_is_ascending_list) (defScope s_is_ascending_list) .none kV5 dc5 pm5 an5 cd5 ct5), sl5⟩)
    (c5 : PySem.W.codeIn K cd5 "is_ascending_list" = true) (k5 : PySem.W.keepIn K (.ref f5) = true)
    (a6 : PySem.W.nsIn K mainGlobals "lines_left" = some (some (.ref f6)))
    (l6 : K.lookup f6 = some ⟨oc6, od6, .func (PySem.W.fnOf "lines_left" "lines_left" (defArgs s_lines_left) (defBody s_lines_left) (defScope s_lines_left) .none kV6 dc6 pm6 an6 cd6 ct6), sl6⟩)
    (c6 : PySem.W.codeIn K cd6 "lines_left" = true) (k6 : PySem.W.keepIn K (.ref f6) = true)
    (a7 : PySem.W.nsIn K mainGlobals "folded_outline" = some (some (.ref f7)))
    (l7 : K.lookup f7 = some ⟨oc7, od7, .func (PySem.W.fnOf "folded_outline" "folded_outline" (defArgs s_folded_outline) (defBody s_folded_outline) (defScope s_folded_outline) .none kV7 dc7 pm7 an7 cd7 ct7), sl7⟩)
    (c7 : PySem.W.codeIn K cd7 "folded_outline" = true) (k7 : PySem.W.keepIn K (.ref f7) = true)
    (a8 : PySem.W.nsIn K mainGlobals "_law_bag" = some (some (.ref f8)))
    (l8 : K.lookup f8 = some ⟨oc8, od8, .func (PySem.W.fnOf "_law_bag" "_law_bag" (defArgs s_law_bag) (defBody s_law_bag) (defScope s_law_bag) .none kV8 dc8 pm8 an8 cd8 ct8), sl8⟩)
    (c8 : PySem.W.codeIn K cd8 "_law_bag" = true) (k8 : PySem.W.keepIn K (.ref f8) = true)
    (a9 : PySem.W.nsIn K mainGlobals "_law_draw" = some (some (.ref f9)))
    (l9 : K.lookup f9 = some ⟨oc9, od9, .func (PySem.W.fnOf "_law_draw" "_law_draw" (defArgs s_law_draw) (defBody s_law_draw) (defScope s_law_draw) .none kV9 dc9 pm9 an9 cd9 ct9), sl9⟩)
    (c9 : PySem.W.codeIn K cd9 "_law_draw" = true) (k9 : PySem.W.keepIn K (.ref f9) = true)
    (a10 : PySem.W.nsIn K mainGlobals "_law_rising" = some (some (.ref f10)))
    (l10 : K.lookup f10 = some ⟨oc10, od10, .func (PySem.W.fnOf "_law_rising" "_law_rising" (defArgs s_law_rising) (defBody s_law_rising) (defScope s_law_rising) .none kV10 dc10 pm10 an10 cd10 ct10), sl10⟩)
    (c10 : PySem.W.codeIn K cd10 "_law_rising" = true) (k10 : PySem.W.keepIn K (.ref f10) = true)
    (a11 : PySem.W.nsIn K mainGlobals "_law_cells" = some (some (.ref f11)))
    (l11 : K.lookup f11 = some ⟨oc11, od11, .func (PySem.W.fnOf "_law_cells" "_law_cells" (defArgs s_law_cells) (defBody s_law_cells) (defScope s_law_cells) .none kV11 dc11 pm11 an11 cd11 ct11), sl11⟩)
    (c11 : PySem.W.codeIn K cd11 "_law_cells" = true) (k11 : PySem.W.keepIn K (.ref f11) = true)
    (a12 : PySem.W.nsIn K mainGlobals "_law_sized" = some (some (.ref f12)))
    (l12 : K.lookup f12 = some ⟨oc12, od12, .func (PySem.W.fnOf "_law_sized" "_law_sized" (defArgs s_law_sized) (defBody s_law_sized) (defScope s_law_sized) .none kV12 dc12 pm12 an12 cd12 ct12), sl12⟩)
    (c12 : PySem.W.codeIn K cd12 "_law_sized" = true) (k12 : PySem.W.keepIn K (.ref f12) = true)
    (a13 : PySem.W.nsIn K mainGlobals "_law_above" = some (some (.ref f13)))
    (l13 : K.lookup f13 = some ⟨oc13, od13, .func (PySem.W.fnOf "_law_above" "_law_above" (defArgs s_law_above) (defBody s_law_above) (defScope s_law_above) .none kV13 dc13 pm13 an13 cd13 ct13), sl13⟩)
    (c13 : PySem.W.codeIn K cd13 "_law_above" = true) (k13 : PySem.W.keepIn K (.ref f13) = true)
    (a14 : PySem.W.nsIn K mainGlobals "_law_kept" = some (some (.ref f14)))
    (l14 : K.lookup f14 = some ⟨oc14, od14, .func (PySem.W.fnOf "_law_kept" "_law_kept" (defArgs s_law_kept) (defBody s_law_kept) (defScope s_law_kept) .none kV14 dc14 pm14 an14 cd14 ct14), sl14⟩)
    (c14 : PySem.W.codeIn K cd14 "_law_kept" = true) (k14 : PySem.W.keepIn K (.ref f14) = true)
    (a15 : PySem.W.nsIn K mainGlobals "_law_places" = some (some (.ref f15)))
    (l15 : K.lookup f15 = some ⟨oc15, od15, .func (PySem.W.fnOf "_law_places" "_law_places" (defArgs s_law_places) (defBody s_law_places) (defScope s_law_places) .none kV15 dc15 pm15 an15 cd15 ct15), sl15⟩)
    (c15 : PySem.W.codeIn K cd15 "_law_places" = true) (k15 : PySem.W.keepIn K (.ref f15) = true)
    (a16 : PySem.W.nsIn K mainGlobals "_law_right" = some (some (.ref f16)))
    (l16 : K.lookup f16 = some ⟨oc16, od16, .func (PySem.W.fnOf "_law_right" "_law_right" (defArgs s_law_right) (defBody s_law_right) (defScope s_law_right) .none kV16 dc16 pm16 an16 cd16 ct16), sl16⟩)
    (c16 : PySem.W.codeIn K cd16 "_law_right" = true) (k16 : PySem.W.keepIn K (.ref f16) = true)
    (a17 : PySem.W.nsIn K mainGlobals "law" = some (some (.ref f17)))
    (l17 : K.lookup f17 = some ⟨oc17, od17, .func (PySem.W.fnOf "law" "law" (defArgs s_law) (defBody s_law) (defScope s_law) .none kV17 dc17 pm17 an17 cd17 ct17), sl17⟩)
    (c17 : PySem.W.codeIn K cd17 "law" = true) (k17 : PySem.W.keepIn K (.ref f17) = true)
    (z_len : PySem.W.nsIn K mainGlobals "len" = some none)
    (z_range : PySem.W.nsIn K mainGlobals "range" = some none)
    (z_repr : PySem.W.nsIn K mainGlobals "repr" = some none)
    (z_min : PySem.W.nsIn K mainGlobals "min" = some none)
    (z_max : PySem.W.nsIn K mainGlobals "max" = some none)
    (z_int : PySem.W.nsIn K mainGlobals "int" = some none)
    (z_list : PySem.W.nsIn K mainGlobals "list" = some none)
    (z_type : PySem.W.nsIn K mainGlobals "type" = some none)
    (z_bool : PySem.W.nsIn K mainGlobals "bool" = some none)
    (z_tuple : PySem.W.nsIn K mainGlobals "tuple" = some none)
    (z_isinstance : PySem.W.nsIn K mainGlobals "isinstance" = some none)
    (z_enumerate : PySem.W.nsIn K mainGlobals "enumerate" = some none)
    (z_str : PySem.W.nsIn K mainGlobals "str" = some none)
    (z_zip : PySem.W.nsIn K mainGlobals "zip" = some none)
    (z_all : PySem.W.nsIn K mainGlobals "all" = some none)
    (z_any : PySem.W.nsIn K mainGlobals "any" = some none)
    (z_sum : PySem.W.nsIn K mainGlobals "sum" = some none)
    (z_abs : PySem.W.nsIn K mainGlobals "abs" = some none)
    (z_sorted : PySem.W.nsIn K mainGlobals "sorted" = some none)
    (z_set : PySem.W.nsIn K mainGlobals "set" = some none)
    (z_dict : PySem.W.nsIn K mainGlobals "dict" = some none)
    (z_reversed : PySem.W.nsIn K mainGlobals "reversed" = some none)
    (z_divmod : PySem.W.nsIn K mainGlobals "divmod" = some none)
    (m_MOST_LINES : PySem.W.nsIn K mainGlobals "MOST_LINES" = some (some (.int 200 t_MOST_LINES)))
    : ∃ fd : FuncData, (∀ (s : Shared) (v : Value), BindsTo s fd ⟨[v], []⟩ [("script", v)]) ∧
      ∀ base : Heap, K.In base → base.Ns mainGlobals mg → FnG l.prog w K mg base CX0 8 fa fd ["script"] (sp_law K) := by
  have T : Txt mg := ⟨PySem.W.mg_none_of X G z_len, PySem.W.mg_none_of X G z_range, PySem.W.mg_none_of X G z_repr, PySem.W.mg_none_of X G z_min, PySem.W.mg_none_of X G z_max, PySem.W.mg_none_of X G z_int, PySem.W.mg_none_of X G z_list, PySem.W.mg_none_of X G z_type, PySem.W.mg_none_of X G z_bool, PySem.W.mg_none_of X G z_tuple, PySem.W.mg_none_of X G z_isinstance, PySem.W.mg_none_of X G z_enumerate, PySem.W.mg_none_of X G z_str, PySem.W.mg_none_of X G z_zip, PySem.W.mg_none_of X G z_all, PySem.W.mg_none_of X G z_any, PySem.W.mg_none_of X G z_sum, PySem.W.mg_none_of X G z_abs, PySem.W.mg_none_of X G z_sorted, PySem.W.mg_none_of X G z_set, PySem.W.mg_none_of X G z_dict, PySem.W.mg_none_of X G z_reversed, PySem.W.mg_none_of X G z_divmod⟩
  have c_MOST_LINES := PySem.W.mg_of X G m_MOST_LINES
  have at_is_integer_from : At K mg "is_integer_from" s_is_integer_from := ⟨f0, _, fun_mk l0 c0 k0, PySem.W.mg_of X G a0⟩
  have at_is_integer_within : At K mg "is_integer_within" s_is_integer_within := ⟨f1, _, fun_mk l1 c1 k1, PySem.W.mg_of X G a1⟩
  have at_is_outline : At K mg "is_outline" s_is_outline := ⟨f2, _, fun_mk l2 c2 k2, PySem.W.mg_of X G a2⟩
  have at_check_outline : At K mg "check_outline" s_check_outline := ⟨f3, _, fun_mk l3 c3 k3, PySem.W.mg_of X G a3⟩
  have at_last_of_section : At K mg "last_of_section" s_last_of_section := ⟨f4, _, fun_mk l4 c4 k4, PySem.W.mg_of X G a4⟩
  have at_is_ascending_list : At K mg "is_ascending_list" s_is_ascending_list := ⟨f5, _, fun_mk l5 c5 k5, PySem.W.mg_of X G a5⟩
  have at_lines_left : At K mg "lines_left" s_lines_left := ⟨f6, _, fun_mk l6 c6 k6, PySem.W.mg_of X G a6⟩
  have at_folded_outline : At K mg "folded_outline" s_folded_outline := ⟨f7, _, fun_mk l7 c7 k7, PySem.W.mg_of X G a7⟩
  have at_law_bag : At K mg "_law_bag" s_law_bag := ⟨f8, _, fun_mk l8 c8 k8, PySem.W.mg_of X G a8⟩
  have at_law_draw : At K mg "_law_draw" s_law_draw := ⟨f9, _, fun_mk l9 c9 k9, PySem.W.mg_of X G a9⟩
  have at_law_rising : At K mg "_law_rising" s_law_rising := ⟨f10, _, fun_mk l10 c10 k10, PySem.W.mg_of X G a10⟩
  have at_law_cells : At K mg "_law_cells" s_law_cells := ⟨f11, _, fun_mk l11 c11 k11, PySem.W.mg_of X G a11⟩
  have at_law_sized : At K mg "_law_sized" s_law_sized := ⟨f12, _, fun_mk l12 c12 k12, PySem.W.mg_of X G a12⟩
  have at_law_above : At K mg "_law_above" s_law_above := ⟨f13, _, fun_mk l13 c13 k13, PySem.W.mg_of X G a13⟩
  have at_law_kept : At K mg "_law_kept" s_law_kept := ⟨f14, _, fun_mk l14 c14 k14, PySem.W.mg_of X G a14⟩
  have at_law_places : At K mg "_law_places" s_law_places := ⟨f15, _, fun_mk l15 c15 k15, PySem.W.mg_of X G a15⟩
  have at_law_right : At K mg "_law_right" s_law_right := ⟨f16, _, fun_mk l16 c16 k16, PySem.W.mg_of X G a16⟩
  have at_law : At K mg "law" s_law := ⟨f17, _, fun_mk l17 c17 k17, PySem.W.mg_of X G a17⟩
  refine ⟨PySem.W.fnOf "law" "law" (defArgs s_law) (defBody s_law) (defScope s_law) .none kV17 dc17 pm17 an17 cd17 ct17, fun s v => .of_eq rfl, fun base _ _ => ?_⟩
  have G_is_integer_from := ok_is_integer_from (P := l.prog) (w := w) (base := base) T at_is_integer_from
  have G_is_integer_within := ok_is_integer_within (P := l.prog) (w := w) (base := base) T at_is_integer_within G_is_integer_from
  have G_is_outline := ok_is_outline (P := l.prog) (w := w) (base := base) T c_MOST_LINES at_is_outline G_is_integer_within
  have G_check_outline := ok_check_outline (P := l.prog) (w := w) (base := base) T at_check_outline G_is_outline
  have G_last_of_section := ok_last_of_section (P := l.prog) (w := w) (base := base) T at_last_of_section
  have G_is_ascending_list := ok_is_ascending_list (P := l.prog) (w := w) (base := base) T at_is_ascending_list G_is_integer_within
  have G_lines_left := ok_lines_left (P := l.prog) (w := w) (base := base) T at_lines_left G_check_outline G_is_ascending_list G_last_of_section
  have G_folded_outline := ok_folded_outline (P := l.prog) (w := w) (base := base) T at_folded_outline G_lines_left
  have G_law_bag := ok_law_bag (P := l.prog) (w := w) (base := base) T at_law_bag
  have G_law_draw := ok_law_draw (P := l.prog) (w := w) (base := base) T at_law_draw
  have G_law_rising := ok_law_rising (P := l.prog) (w := w) (base := base) T at_law_rising G_law_draw
  have G_law_cells := ok_law_cells (P := l.prog) (w := w) (base := base) T at_law_cells
  have G_law_sized := ok_law_sized (P := l.prog) (w := w) (base := base) T at_law_sized G_law_draw G_law_rising
  have G_law_above := ok_law_above (P := l.prog) (w := w) (base := base) T at_law_above
  have G_law_kept := ok_law_kept (P := l.prog) (w := w) (base := base) T at_law_kept G_law_above
  have G_law_places := ok_law_places (P := l.prog) (w := w) (base := base) T at_law_places G_law_draw
  have G_law_right := ok_law_right (P := l.prog) (w := w) (base := base) T at_law_right G_law_draw G_law_sized G_law_places G_law_kept G_lines_left G_folded_outline
  obtain ⟨f, fd, F, m, R, _⟩ := ok_law (P := l.prog) (w := w) (base := base) T at_law G_law_cells G_law_bag G_law_right
  have e1 := m.symm.trans hfa
  cases e1
  have e2 := (PySem.W.mg_of X G a17).symm.trans hfa
  cases e2
  obtain ⟨_, _, _, _, _, _, _, _, _, _, lk, _⟩ := F.ex
  rw [l17] at lk
  cases lk
  exact R
theorem walk {l : PySem.W.OpenLaw} {q : Program} {loose : List Str} {XP : (Str → Option Value) → Heap → Prop} {YP : World → Heap → Prop} {d : DefRec} {K : Params → PySem.W.Frag}
    (hn : l.most = some 63) (hdf : d.params.defaults = []) (hY : ∀ (w : World) (h : Heap), YP w h → (K w.params).In h)
    (F : ∀ (w : World) (mg : Str → Option Value) (fa : Addr) (h : Heap), (K w.params).In h → h.Ns mainGlobals mg → mg d.name = some (.ref fa) →
      ∃ fd : FuncData, (∀ (s : Shared) (u : Value), BindsTo s fd ⟨[u], []⟩ [("script", u)]) ∧ ∀ base : Heap, (K w.params).In base → base.Ns mainGlobals mg →
        FnG l.prog w (K w.params) mg base CX0 8 fa fd ["script"] (sp_law (K w.params))) :
    PySem.W.WalkO q loose XP YP l.row.toRowW d [] (fun f vs => PySem.call f vs) :=
  walkG (n := 63) (k := 8) (x := "script") (CX := fun _ => CX0) (sp := fun w => sp_law (K w.params)) hn (by decide) hdf ⟨rfl, by decide, by decide⟩ hY F
    (fun _ _ a ns hl _ hS => ⟨a, ns, rfl, hS, hl, fun _ => rfl⟩) fun _ _ _ _ _ z => z
end SH
open PySem PySem.W PyProof.Rows
set_option maxRecDepth 100000 in
set_option maxHeartbeats 0 in
theorem PySem.Challenge.cw_stickyheads_k40_lines_left_by_folds_holds : PySem.Challenge.rw_stickyheads_k40_lines_left_by_folds.Holds := by
  w_on; o_law; k_head; (case hw => w_witness2)
  k_fill
  refine SH.walk (l := PySem.Challenge.rw_stickyheads_k40_lines_left_by_folds) rfl rfl (fun w h Y => PySem.W.kIn_of Y) ?F
  case F =>
    intro w mg fa h KX G hmg
    refine' SH.all_mk KX G hmg ?a0 ?l0 ?c0 ?k0 ?a1 ?l1 ?c1 ?k1 ?a2 ?l2 ?c2 ?k2 ?a3 ?l3 ?c3 ?k3 ?a4 ?l4 ?c4 ?k4 ?a5 ?l5 ?c5 ?k5 ?a6 ?l6 ?c6 ?k6 ?a7 ?l7 ?c7 ?k7 ?a8 ?l8 ?c8 ?k8 ?a9 ?l9 ?c9 ?k9 ?a10 ?l10 ?c10 ?k10 ?a11 ?l11 ?c11 ?k11 ?a12 ?l12 ?c12 ?k12 ?a13 ?l13 ?c13 ?k13 ?a14 ?l14 ?c14 ?k14 ?a15 ?l15 ?c15 ?k15 ?a16 ?l16 ?c16 ?k16 ?a17 ?l17 ?c17 ?k17 ?z_len ?z_range ?z_repr ?z_min ?z_max ?z_int ?z_list ?z_type ?z_bool ?z_tuple ?z_isinstance ?z_enumerate ?z_str ?z_zip ?z_all ?z_any ?z_sum ?z_abs ?z_sorted ?z_set ?z_dict ?z_reversed ?z_divmod ?m_MOST_LINES
    (case a0 => k_is); (case l0 => k_is); (case c0 => k_is); (case k0 => k_is); (case a1 => k_is); (case l1 => k_is); (case c1 => k_is); (case k1 => k_is)
    (case a2 => k_is); (case l2 => k_is); (case c2 => k_is); (case k2 => k_is); (case a3 => k_is); (case l3 => k_is); (case c3 => k_is); (case k3 => k_is)
    (case a4 => k_is); (case l4 => k_is); (case c4 => k_is); (case k4 => k_is); (case a5 => k_is); (case l5 => k_is); (case c5 => k_is); (case k5 => k_is)
    (case a6 => k_is); (case l6 => k_is); (case c6 => k_is); (case k6 => k_is); (case a7 => k_is); (case l7 => k_is); (case c7 => k_is); (case k7 => k_is)
    (case a8 => k_is); (case l8 => k_is); (case c8 => k_is); (case k8 => k_is); (case a9 => k_is); (case l9 => k_is); (case c9 => k_is); (case k9 => k_is)
    (case a10 => k_is); (case l10 => k_is); (case c10 => k_is); (case k10 => k_is); (case a11 => k_is); (case l11 => k_is); (case c11 => k_is); (case k11 => k_is)
    (case a12 => k_is); (case l12 => k_is); (case c12 => k_is); (case k12 => k_is); (case a13 => k_is); (case l13 => k_is); (case c13 => k_is); (case k13 => k_is)
    (case a14 => k_is); (case l14 => k_is); (case c14 => k_is); (case k14 => k_is); (case a15 => k_is); (case l15 => k_is); (case c15 => k_is); (case k15 => k_is)
    (case a16 => k_is); (case l16 => k_is); (case c16 => k_is); (case k16 => k_is); (case a17 => k_is); (case l17 => k_is); (case c17 => k_is); (case k17 => k_is)
    (case z_len => k_is); (case z_range => k_is); (case z_repr => k_is); (case z_min => k_is); (case z_max => k_is); (case z_int => k_is); (case z_list => k_is); (case z_type => k_is)
    (case z_bool => k_is); (case z_tuple => k_is); (case z_isinstance => k_is); (case z_enumerate => k_is); (case z_str => k_is); (case z_zip => k_is); (case z_all => k_is); (case z_any => k_is)
    (case z_sum => k_is); (case z_abs => k_is); (case z_sorted => k_is); (case z_set => k_is); (case z_dict => k_is); (case z_reversed => k_is); (case z_divmod => k_is); (case m_MOST_LINES => k_is)

