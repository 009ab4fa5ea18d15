import PyProof.Rows.All
import Wide.All
import OpenK.AllK
import Wide.FinOn
import PyProof.EqAt
import PyProof.EqKinds
import PyProof.TupleCall
import PyProof.ReprRoads
import HandS.Base
import HandS.Call
import HandS.List
import HandS.Comp
import HandS.Iter
import HandS.Ends
import HandS.Words
import HandS.WordsList
import PyProof.TypeEq
import PyProof.InstEq
import HandS.IsInst
import HandS.Zip
import HandS.Wide
import HandS.Evl
import HandS.Conv
import HandS.RevRange
import PyProof.ReprLen
import PyProof.Rows.RegStrFacts
import HandS.SetFor
import HandS.Strs
import HandS.SortInts
import PyProof.Rows.SortShellAny
import HandS.Dict
import HandS.Finally
import HandS.Style
import PySem.Challenge.RW_stickyheads_k21_whole_rows_never_go_back
set_option Elab.async false
set_option linter.all false
set_option maxRecDepth 100000
/-! SH0: calls where no repr is running: the promise of a def under an empty list of guards. -/
namespace SH
open PySem PySem.Spec PyProof.Rows L2

/-- nothing that guards itself (repr and its like) runs around -/
abbrev Quiet (A : Around) : Prop := A.guards = some []

structure FnG (P : Program) (w : World) (K : PySem.W.Frag) (mg : Str → Option Value) (base : Heap)
    (CX : CXT) (k : Nat) (f : Addr) (fd : FuncData) (ps : List Str) (sp : Sp) : Prop where
  arity : ∀ vs H Q E, sp vs H Q E → vs.length = ps.length
  go : ∀ (A : Around) (outer : List Env) (s : Shared) (H : Hp) (args : Args) (us : List Value) (vs : List V)
    (Q : VK) (E : XK), Room k A → Quiet A → Env0 P w K mg base A outer s H →
    BindsTo s fd args (ps.zip us) → Vals vs us → sp vs H Q E →
    codeAny (model P w) A (.call (.ref f) args) (CR CX outer P w H s Q E) s

section
variable {X : Cx} {CX : CXT} {k : Nat} {f : Addr} {fd : FuncData} {ps ks : List Str} {sp : Sp}
  {dvs : List V} {ds : List Value} {E : XK} {x : Str} {p pos : Pos} {e : Expr} {es : List Expr} {t tk : TA}
  {kws : List Keyword} {g : List Value → List Value → List Value} {gV : List V → List V → List V}

theorem endG {pins : List (Addr × Obj)} {σ : L2.St} {H : Hp} {s : Shared} {Q : VK} (I : Inv X pins σ H s)
    (hx : Passes CX X E) : ∀ (r : Result) (s' : Shared), CR CX X.stack X.prog X.w H s Q E r s' →
    (match r with
      | .ok (.ret u) => EP X pins σ Q u s'
      | .ok _ => False
      | .error e => X.xe e s')
  | .error e, s', q => hx pins σ H s e s' I q
  | .ok (.ret _), _, q => I.after q
  | .ok .next, _, q => False.elim q
  | .ok .brk, _, q => False.elim q
  | .ok .cont, _, q => False.elim q

theorem goG {pins : List (Addr × Obj)} {σ : L2.St} {H : Hp} {s : Shared} {Q : VK} {us : List Value} {vs : List V}
    (F : FnG X.prog X.w X.K X.mg X.base CX k f fd ps sp) (room : Room k X.A) (qt : Quiet X.A)
    (hb : Binds X.K fd ps ds) (hd : Vals dvs ds) (hx : Passes CX X E)
    (I : Inv X pins σ H s) (r : Vals vs us) (h : sp (vs ++ dvs) H Q E) :
    wpAny (model X.prog X.w) X.A (call (.ref f) us) (EP X pins σ Q) X.xe s := by
  have rr : Vals (vs ++ dvs) (us ++ ds) := r.append hd
  have hlen : (us ++ ds).length = ps.length := by rw [← rr.length]; exact F.arity _ _ _ _ h
  refine wpAny_call (codeAny_mono (F.go X.A X.stack s H ⟨us, []⟩ (us ++ ds) (vs ++ dvs) Q E room qt
    I.env0 (hb s us I.kIn hlen) rr h) fun r s' hq => ?_)
  have := endG I hx r s' hq
  cases r with
  | error e => exact this
  | ok fl => cases fl with
    | ret u => exact this
    | _ => exact False.elim this

theorem pe_callG (F : FnG X.prog X.w X.K X.mg X.base CX k f fd ps sp) (room : Room k X.A) (qt : Quiet X.A)
    (hg : Gl X x) (hm : X.mg x = some (.ref f)) (hk : PySem.W.keepIn X.K (.ref f) = true)
    (hb : Binds X.K fd ps ds) (hd : Vals dvs ds) (hx : Passes CX X E) (ha : PA X (e :: es) t)
    (hdb : (x == ("__debug__" : Str)) = false := by decide)
    (he : starEach (e :: es) X.env = (false, eval e X.env) :: starEach es X.env := by rfl)
    (hpl : (backTo pos (starEach es X.env)).any (·.1) = false := by rfl) :
    PE X (.Call (.Name x p) (e :: es) [] pos) (tCall sp dvs E t) :=
  ⟨fun pins s σ H Q I h => wpAny_Call_Name_kw (ld_glob I hg hm
    (PySem.W.callWith_K (h₀ := X.base) I.ok.mod.kin hk
      (thn (ha.run pos pins s σ H _ I h) fun us s1 ⟨vs, H1, I1, r, q⟩ =>
        ⟨I1.kIn, goG F room qt hb hd hx I1 r q⟩) he hpl) hdb)⟩

theorem pe_callG0 (F : FnG X.prog X.w X.K X.mg X.base CX k f fd ps sp) (room : Room k X.A) (qt : Quiet X.A)
    (hg : Gl X x) (hm : X.mg x = some (.ref f)) (hk : PySem.W.keepIn X.K (.ref f) = true)
    (hb : Binds X.K fd ps ds) (hd : Vals dvs ds) (hx : Passes CX X E)
    (hdb : (x == ("__debug__" : Str)) = false := by decide) :
    PE X (.Call (.Name x p) [] [] pos) (tCall sp dvs E tNil) :=
  ⟨fun pins s σ H Q I h => wpAny_Call_Name_kw (ld_glob I hg hm
    (PySem.W.callWith_K0 I.kIn hk (goG (us := []) F room qt hb hd hx I .nil h)) hdb)⟩

theorem goGK {pins : List (Addr × Obj)} {σ : L2.St} {H : Hp} {s : Shared} {Q : VK} {us ws : List Value}
    {vs zs : List V} (F : FnG X.prog X.w X.K X.mg X.base CX k f fd ps sp) (room : Room k X.A) (qt : Quiet X.A)
    (hb : KBinds X.K fd ps ks g gV) (hx : Passes CX X E)
    (I : Inv X pins σ H s) (r : Vals vs us) (rz : Vals zs ws) (h : sp (gV vs zs) H Q E) :
    wpAny (model X.prog X.w) X.A (call (.ref f) us (ks.zip ws)) (EP X pins σ Q) X.xe s := by
  have rr := hb.rel r rz
  have hlen : (g us ws).length = ps.length := by rw [← rr.length]; exact F.arity _ _ _ _ h
  refine wpAny_call (codeAny_mono (F.go X.A X.stack s H ⟨us, ks.zip ws⟩ (g us ws) (gV vs zs) Q E room qt
    I.env0 (hb.to s us ws I.kIn hlen) rr h) fun r s' hq => ?_)
  have := endG I hx r s' hq
  cases r with
  | error e => exact this
  | ok fl => cases fl with
    | ret u => exact this
    | _ => exact False.elim this

/-- f(k = v, ..): no argument by position -/
theorem pe_callGK0 (F : FnG X.prog X.w X.K X.mg X.base CX k f fd ps sp) (room : Room k X.A)
    (qt : Quiet X.A) (hg : Gl X x) (hm : X.mg x = some (.ref f)) (hk : PySem.W.keepIn X.K (.ref f) = true)
    (hb : KBinds X.K fd ps ks g gV) (hx : Passes CX X E) (hkw : PK X kws tk)
    (hall : (backToKw pos (keywordEach kws X.env)).all (·.1.isSome) = true := by rfl)
    (hks : (backToKw pos (keywordEach kws X.env)).filterMap (·.1) = ks := by rfl)
    (hdb : (x == ("__debug__" : Str)) = false := by decide)
    (hpl : ((backTo pos (starEach [] X.env)).any (·.1) ||
      (backToKw pos (keywordEach kws X.env)).any (·.1.isNone)) = false := by rfl) :
    PE X (.Call (.Name x p) [] kws pos) (tCallK sp gV E tNil tk) :=
  ⟨fun pins s σ H Q I h => wpAny_Call_Name_kw (ld_glob I hg hm
    (PySem.W.callWith_KW0 (h₀ := X.base) I.ok.mod.kin hk hall
      (thn (hkw.run pos pins s σ H _ I h) fun ws s2 ⟨zs, H2, I2, rz, q2⟩ => ⟨I2.kIn, by
        rw [hks]
        exact goGK (us := []) (vs := []) F room qt hb hx I2 .nil rz q2⟩) hpl) hdb)⟩
end

/-! ### a def of the text, walked where all is quiet -/
section
variable {P : Program} {w : World} {K : PySem.W.Frag} {mg : Str → Option Value} {base : Heap}

theorem FnG.of {CX : CXT} {x qual : Str} {st : Stmt} {f : Addr} {fd : FuncData} {N ps : List Str} {k : Nat} {sp : Sp}
    (F : Fun K x qual st f fd) (S : FnScope N ps (defScope st)) (len : ∀ vs H Q E, sp vs H Q E → vs.length = ps.length)
    (walk : ∀ (cdv : Value) (A : Around) (outer : List Env) (s : Shared) (H : Hp) (vs : List V) (Q : VK) (E : XK),
      Room k (A.deeper (envOfC qual (defScope st) s.heap.objs.size f cdv)) →
      Quiet (A.deeper (envOfC qual (defScope st) s.heap.objs.size f cdv)) → sp vs H Q E →
      ∃ t, PSs (cxOf CX P w K mg base N qual (defScope st) f cdv A outer s H E) (defBody st) t ∧
        t { nx := fun _ H' => Q .non H', rt := Q } (start N vs) H) :
    FnG P w K mg base CX (k + 1) f fd ps sp := by
  obtain ⟨oc, od, kV, doc, pm, an, cdv, ct, osl, rfl, lk, hcd⟩ := F.ex
  refine ⟨len, fun A outer s H args us vs Q E room qt e0 hb r hsp => ?_⟩
  have hl := len _ _ _ _ hsp
  have inK : K.In s.heap := e0.mod.kin.keeps fun b o e => (e0.bs b o e).1
  have lim : s.heap.NoLimit := e0.mod.nolimit.keeps fun b o e => (e0.bs b o e).1
  have kinds : ∀ y ∈ ps.zip us, (defScope st).names.lookup y.1 = some .local ∨
      ((defScope st).names.lookup y.1 = some .cell ∧
        ((cellsFrom (s.heap.objs.size + 1) (defScope st).names []).lookup y.1).isSome = true) := by
    rintro ⟨n, v⟩ hy
    rcases S.par n (List.of_mem_zip hy).1 with z | z
    · exact .inl z
    · exact .inr ⟨z, PySem.W.cellsFrom_some _ _ _ (.inl z)⟩
  refine codeAny_call_function room.depth (inK _ _ lk) rfl S.co S.gen rfl (PySem.W.codeRec_of inK hcd) (hb _ _ _ _ ?_)
  refine wpAny_newFunctionEnv_cells S.kind kinds fun env he s1 ic => ?_
  subst he
  refine ⟨lim.keeps ic.toInCall.keep, codeAny_func ?_⟩
  obtain ⟨t, ht, hq⟩ := walk cdv A outer s H vs Q E (room.deeper _) (by exact qt) hsp
  have I := inv_start (CX := CX) (E := E) (P := P) (w := w) S room.hd e0 hl r ic
  refine wpAny_mono (ht.run [] s1 (start N vs) H _ I hq) (fun fl s' hs => ?_) fun e s' hs => hs
  cases fl with
  | ret u =>
    obtain ⟨v, σ', H', J, rv, q⟩ := hs
    exact ⟨v, H', J.os, J.bare, J.base, J.hok, rv, q⟩
  | next =>
    obtain ⟨σ', H', J, q⟩ := hs
    exact ⟨V.non, H', J.os, J.bare, J.base, J.hok, rfl, q⟩
  | brk => obtain ⟨_, _, _, q⟩ := hs; exact q.elim
  | cont => obtain ⟨_, _, _, q⟩ := hs; exact q.elim

/-- for a def that lets no error out -/
theorem FnG.ok {x qual : Str} {st : Stmt} {f : Addr} {fd : FuncData} {N ps : List Str} {k : Nat} {sp : Sp}
    (F : Fun K x qual st f fd) (S : FnScope N ps (defScope st)) (len : ∀ vs H Q E, sp vs H Q E → vs.length = ps.length)
    (walk : ∀ (cdv : Value) (A : Around) (outer : List Env) (s : Shared) (H : Hp) (vs : List V) (Q : VK) (E : XK),
      Room k (A.deeper (envOfC qual (defScope st) s.heap.objs.size f cdv)) →
      Quiet (A.deeper (envOfC qual (defScope st) s.heap.objs.size f cdv)) → sp vs H Q E →
      ∃ t, PSs (cxOf CX0 P w K mg base N qual (defScope st) f cdv A outer s H E).nox (defBody st) t ∧
        t { nx := fun _ H' => Q .non H', rt := Q } (start N vs) H) :
    FnG P w K mg base CX0 (k + 1) f fd ps sp :=
  FnG.of F S len fun cdv A outer s H vs Q E room qt hsp =>
    let ⟨t, h, q⟩ := walk cdv A outer s H vs Q E room qt hsp
    ⟨t, h.nox, q⟩
theorem FnG.mono {CX : CXT} {j k : Nat} {f : Addr} {fd : FuncData} {ps : List Str} {sp : Sp}
    (F : FnG P w K mg base CX j f fd ps sp) (h : j ≤ k) : FnG P w K mg base CX k f fd ps sp :=
  ⟨F.arity, fun A outer s H args us vs Q E room => F.go A outer s H args us vs Q E (room.mono h)⟩
end

/-! ### the law's own call: nothing runs around it -/
theorem frz_or {H : Hp} (hO : Only H) {b : Addr} {u : HO} (e : H b = some u) : ∃ o xs, u = .frz o (.lst xs) := by
  rcases hO b with z | ⟨o, xs, z⟩
  · rw [z] at e; cases e
  · rw [z] at e; exact ⟨o, xs, (Option.some.inj e).symm⟩

theorem lawG {P : Program} {w : World} {K : PySem.W.Frag} {mg mb : Str → Option Value} {CX : CXT} {k : Nat}
    {fa a : Addr} {fd : FuncData} {x : Str} {sp : Sp} {s₁ : Shared} {vs : List Value} {ns : List Int}
    (inK : K.In s₁.heap) (hns : s₁.heap.Ns mainGlobals mg) (hb : s₁.heap.Ns builtinsNs mb)
    (hbb : ∀ x : Str, x ≠ "__name__" → mb x = bootBuiltins x) (hlim : s₁.heap.NoLimit) (hg : s₁.gens = #[])
    (ha : s₁.heap.get? a = some { cls := .type "list", data := .seq vs.toArray }) (hi : IntsAre vs ns)
    (hl : ns.length ≤ sizeLine) (room : Room k callerA)
    (F : ∀ base : Heap, K.In base → base.Ns mainGlobals mg → FnG P w K mg base CX k fa fd [x] sp)
    (hbind : ∀ (s : Shared) (u : Value), BindsTo s fd ⟨[u], []⟩ [(x, u)])
    (hsp : ∀ H : Hp, Only H → SqL K H a (ns.map V.int) → sp [.ref a] H (fun v _ => v = .bl true) fun _ _ _ => False)
    (hCX : ∀ H e s', CX [] H s₁ (fun _ _ _ => False) e s' → False) :
    codeAny (model P w) callerA (.call (.ref fa) ⟨[.ref a], []⟩)
      (fun r s' => r = .ok (.ret (.bool true)) ∧ OldK s₁.heap s'.heap ∧ s'.os = s₁.os ∧ AllBare s'.gens) s₁ := by
  have rv := vals_ints hi
  have lenV := hi.length
  suffices core : ∀ H : Hp, Only H → SqL K H a (ns.map V.int) → HOk P w H s₁.heap →
      (∀ b o, s₁.heap.get? b = some o → (b ≠ a ∨ (K.lookup b).isSome = true) → H b = none) →
      codeAny (model P w) callerA (.call (.ref fa) ⟨[.ref a], []⟩)
        (fun r s' => r = .ok (.ret (.bool true)) ∧ OldK s₁.heap s'.heap ∧ s'.os = s₁.os ∧ AllBare s'.gens) s₁ by
    cases hk : K.lookup a with
    | some o =>
      have e := inK a o hk
      rw [ha] at e
      cases e
      exact core (fun _ => none) (fun _ => .inl rfl)
        (.inr ⟨_, vs.toArray, _, hk, rfl, rfl, rfl, by rw [List.size_toArray, lenV]; exact hl, by simpa using rv⟩)
        (fun b u z => by have z' : (none : Option HO) = some u := z; cases z') (fun _ _ _ _ => rfl)
    | none =>
      let H1 : Hp := fun b => if b = a then some (.frz { cls := .type "list", data := .seq vs.toArray } (.lst (ns.map V.int))) else none
      have h1a : H1 a = some (.frz { cls := .type "list", data := .seq vs.toArray } (.lst (ns.map V.int))) := if_pos rfl
      have h1n : ∀ b, b ≠ a → H1 b = none := fun b h => if_neg h
      refine core H1 (fun b => ?_) (.inl (.inr ⟨_, h1a⟩)) (fun b u z => ?_) (fun b o _ h => ?_)
      · by_cases hb : b = a
        · subst hb; exact .inr ⟨_, _, h1a⟩
        · exact .inl (h1n b hb)
      · by_cases hb : b = a
        · subst hb
          rw [h1a] at z
          cases z
          exact ⟨ha, by rw [List.length_map]; exact hl, vs, _, rv, ha⟩
        · rw [h1n b hb] at z; cases z
      · rcases h with h | h
        · exact h1n b h
        · by_cases hb : b = a
          · subst hb; rw [hk] at h; cases h
          · exact h1n b hb
  intro H hO hS hok hN
  have down : ∀ {b : Addr} {o : Obj}, s₁.heap.get? b = some o → (b ≠ a ∨ (K.lookup b).isSome = true) →
      (hidT s₁.heap H).get? b = some o := fun e c => hidT_get e (hN _ _ e c)
  have nsK : ∀ {b : Addr} {m : Str → Option Value}, s₁.heap.Ns b m → (hidT s₁.heap H).Ns b m := by
    rintro b m ⟨o, es, ep, e, d, r⟩
    refine ⟨o, es, ep, down e (.inl ?_), d, r⟩
    rintro rfl
    rw [ha] at e
    cases e
    cases d
  have hKb : K.In (hidT s₁.heap H) := fun b o e => down (inK b o e) (.inr (by rw [e]; rfl))
  have hM : Mod K mg (hidT s₁.heap H) := ⟨hKb, nsK hns, ⟨mb, nsK hb, hbb⟩, let ⟨mc, h1, h2⟩ := hlim; ⟨mc, nsK h1, h2⟩⟩
  have e0 : Env0 P w K mg (hidT s₁.heap H) callerA [] s₁ H := ⟨rfl, hM, fun b o e => of_hidT e,
    Nat.le_of_eq (hidT_size _ _), trivial, fun b hb => (List.not_mem_nil hb).elim, hok, AllBare.of_eq hg⟩
  refine codeAny_mono ((F _ hKb (nsK hns)).go callerA [] s₁ H ⟨[.ref a], []⟩ [.ref a] [.ref a] _ _ room rfl e0
    (hbind s₁ (.ref a)) (.cons rfl .nil) (hsp H hO hS)) fun r s' h => ?_
  match r, h with
  | .error e, h => exact (hCX H e s' h).elim
  | .ok .next, h => exact False.elim h
  | .ok .brk, h => exact False.elim h
  | .ok .cont, h => exact False.elim h
  | .ok (.ret u), h =>
    obtain ⟨v, H', os, bare, un, hok', r', q⟩ := h
    obtain rfl : v = .bl true := q
    obtain rfl : u = Value.bool true := r'
    refine ⟨rfl, OldK.of_keep fun b o e => ?_, os, bare⟩
    cases q : H b with
    | none => exact un.keep b o e q (List.not_mem_nil) (by simp)
    | some u =>
      obtain ⟨ob, xs, rfl⟩ := frz_or hO q
      obtain ⟨e1, _⟩ := hok b _ q
      obtain ⟨e2, _⟩ := hok' b _ (un.frzs b ob _ q)
      rw [e] at e1
      cases e1
      exact e2

theorem walkG {l : PySem.W.OpenLaw} {n k : Nat} {q : Program} {loose : List Str} {XP : (Str → Option Value) → Heap → Prop}
    {YP : World → Heap → Prop} {d : DefRec} {K : Params → PySem.W.Frag} {CX : World → CXT} {sp : World → Sp} {x : Str}
    (hn : l.most = some n) (hn2 : n ≤ sizeLine) (hdf : d.params.defaults = []) (room : Room k callerA)
    (hY : ∀ (w : World) (h : Heap), YP w h → (K w.params).In h)
    (F : ∀ (w : World) (mg : Str → Option Value) (fa : Addr) (h : Heap), (K w.params).In h → h.Ns mainGlobals mg →
      mg d.name = some (.ref fa) → ∃ fd : FuncData, (∀ (s : Shared) (u : Value), BindsTo s fd ⟨[u], []⟩ [(x, u)]) ∧
        ∀ base : Heap, (K w.params).In base → base.Ns mainGlobals mg →
          FnG l.prog w (K w.params) mg base (CX w) k fa fd [x] (sp w))
    (hsp : ∀ (w : World) (H : Hp) (a : Addr) (ns : List Int), ns.length ≤ n → Only H →
      SqL (K w.params) H a (ns.map V.int) → sp w [.ref a] H (fun v _ => v = .bl true) fun _ _ _ => False)
    (hCX : ∀ (w : World) (H : Hp) (s : Shared) (e : Value) (s' : Shared),
      CX w [] H s (fun _ _ _ => False) e s' → False) :
    PySem.W.WalkO q loose XP YP l.row.toRowW d [] (fun f vs => PySem.call f vs) := by
  refine Att.attach_call hn hdf fun w s₀ s₁ mg mb fa o pm cd doc a vs ns G Y ho hd hcd hmg hobj hints hlen hg => ?_
  obtain ⟨fd, hb, hF⟩ := F w mg fa _ (hY w _ Y) G.T.g hmg
  exact lawG (hY w _ Y) G.T.g G.T.b G.T.builtins G.T.nolimit hg hobj hints (Nat.le_trans hlen hn2) room hF hb
    (fun H hO hS => hsp w H a ns hlen hO hS) fun H e s' => hCX w H s₁ e s'

end SH

/-! SH1: operations that the layer does not have yet: great powers, repr of data, types compared, enumerate. -/
namespace SH
open PySem PySem.Spec PyProof.Rows L2

section
variable {X : Cx}
/-! ### powers of great numbers -/
def PowC (i j : Int) : Prop := 0 ≤ j ∧ (Builtin.Int.intBits i : Int) * j ≤ 2 ^ 27
theorem op_powG : OpR X (binaryOp .Pow) (rI PowC fun i j => .int (i ^ j.toNat)) :=
  opI fun _ _ _ _ _ _ _ c q => pow_int c.1 c.2 q
theorem cube_ok {i : Int} (h : i.natAbs < 2 ^ 4000) : PowC i 3 := by
  refine ⟨by decide, ?_⟩
  have := intBits_le (k := 4000) h
  have e : (2 : Int) ^ 27 = 134217728 := by decide
  omega
theorem ten_ok {j : Int} (h0 : 0 ≤ j) (h : j ≤ 1000) : PowC 10 j := by
  refine ⟨h0, ?_⟩
  have e1 : Builtin.Int.intBits 10 = 4 := by decide
  have e : (2 : Int) ^ 27 = 134217728 := by decide
  rw [e1]
  omega

/-! ### repr -/
/-- data as it is shown -/
def Shows (K : PySem.W.Frag) (H : Hp) (x : V) (d : PyData) : Prop :=
  Dp K H x d ∧ d.showable = true ∧ d.hasDict = false ∧ d.depth ≤ 60 ∧ d.shown.length ≤ sizeLine
def rRepr (K : PySem.W.Frag) : List V → Hp → VK → Prop := fun xs H Q =>
  ∃ (a : Addr) (d : PyData), xs = [.ref a] ∧ Shows K H (.ref a) d ∧ Q (.str d.shown) H
theorem call_reprR (qt : Quiet X.A) (hu : X.A.units + 64 < cLine) : CallR X (.builtin "repr") (rRepr X.K) := by
  intro pins s σ H xs us Q I r h
  obtain ⟨a, d, rfl, ⟨hd, h1, h2, h3, h4⟩, q⟩ := h
  cases r with
  | cons ra rr =>
    cases rr
    cases ra
    obtain ⟨as, rd⟩ := Dp.reads I d _ (.ref a) hd rfl
    exact repr_of_reads' rd h1 (noDict_hsm' h2) qt (by omega) (fun _ _ e => e)
      (fun h' u tk hk => ⟨.str d.shown, H, I.kept hk, ⟨u, rfl⟩, q⟩) h4
where
  noDict_hsm' {d : PyData} {as : List Addr} (h : d.hasDict = false) : d.hasDict = true → sysModules ∉ as :=
    fun e => by rw [h] at e; cases e

end

/-! ### built-in types compared -/
open Sem (wp)
theorem slot_ty_ne : Slot "type" (cmpInfo .NotEq).2.1 "object.__ne__" :=
  .of (owner := "object") (n := "__ne__") (by rw [typeLookup_type, builtinLookup_eq_fast]; kernel_rfl)
    (by decide +kernel) (by decide +kernel) (by decide +kernel)
    (by first | exact .inl (by decide +kernel) | exact .inr (by decide +kernel)) (by rw [isSubtype_type]; kernel_rfl)
theorem slot_ty_ne_refl : Slot "type" (cmpInfo .NotEq).2.2 "object.__ne__" :=
  .of (owner := "object") (n := "__ne__") (by rw [typeLookup_type, builtinLookup_eq_fast]; kernel_rfl)
    (by decide +kernel) (by decide +kernel) (by decide +kernel)
    (by first | exact .inl (by decide +kernel) | exact .inr (by decide +kernel)) (by rw [isSubtype_type]; kernel_rfl)

section
variable {prog : Program} {w : World} {A : Around} {E : Value → Shared → Prop} {s : Shared} {Q : Value → Shared → Prop}
/-- X.__eq__(Y) of two built-in types -/
theorem sp_eq_ty {a b : String} {R : Option Value → Shared → Prop} (ha : ∀ s' : Shared, s'.TypeIs (.type a) "type")
    (h : (if a = b then R (some (.bool true)) s else R (some .notImplemented) s)) :
    wpAny (model prog w) A (callSpecialIfBound? (.type a) "__eq__" [.type b]) R E s := by
  have slot : Slot "type" ("__eq__" : Str) "object.__eq__" := TypeEq.slot_type_eq
  refine wpAny_callSpecialIfBound?_slot (name := Str.ofString "__eq__") (ha s) slot ?_
  by_cases e : a = b
  · subst e
    rw [if_pos rfl] at h
    exact call_gives slot (ha s) F.entry_object_eq (F.args_object_eq_2 _ _) (TypeEq.object_eq_same rfl (by simp)) h
  · rw [if_neg e] at h
    exact call_gives slot (ha s) F.entry_object_eq (F.args_object_eq_2 _ _)
      (TypeEq.object_eq_other rfl (by simpa using e)) h

theorem call_ne_ty {a b : String} {R : Value → Shared → Prop} (ha : ∀ s' : Shared, s'.TypeIs (.type a) "type")
    (h : (if a = b then R (.bool false) s else R .notImplemented s)) :
    wpAny (model prog w) A (call (.builtin "object.__ne__") [.type a, .type b]) R E s := by
  refine wpAny_call_entry slot_ty_ne (ha s) F.cmpEntry_ne ?_ (F.args_object_ne_2 _ _)
  unfold Builtin.«object.__ne__»
  by_cases e : a = b
  · subst e
    rw [if_pos rfl] at h
    repeat (first | with_reducible refine wpAny_cRoomFor_or (.inl rfl) ?_ | with_reducible refine sp_eq_ty ha ?_ | rw [if_pos rfl] | wp_step)
    exact ⟨_, rfl, h⟩
  · rw [if_neg e] at h
    repeat (first | with_reducible refine wpAny_cRoomFor_or (.inl rfl) ?_ | with_reducible refine sp_eq_ty ha ?_ | rw [if_neg e] | wp_step)
    exact ⟨_, rfl, h⟩

theorem ne_ty_same {a : String} (ha : ∀ s' : Shared, s'.TypeIs (.type a) "type") (h : Q (.bool false) s) :
    wpAny (model prog w) A (compareOp .NotEq (.type a) (.type a)) Q E s := by
  show wpAny _ A (richCompare .NotEq _ _) Q E s
  exact wpAny_richCompare_same (op := .NotEq) (T := "type") (ha s) (ha s) slot_ty_ne
    (call_ne_ty ha (by rw [if_pos rfl]; exact ⟨(by intro e; cases e), h⟩))
end

theorem rc_ne_same_decline {M : Model} {A : Around} {E : Value → Shared → Prop} {s : Shared} {a b : Value} {T id : String}
    {k : Bool} {Q : Value → Shared → Prop} (ha : ∀ s' : Shared, s'.TypeIs a T) (hb : ∀ s' : Shared, s'.TypeIs b T)
    (h1 : Slot T (cmpInfo .NotEq).2.1 id) (h2 : Slot T (cmpInfo .NotEq).2.2 id) (hv : [a, b].any Value.onHeap = false)
    (hk : isSame a b = pure k)
    (hc : wpAny M A (call (.builtin id) [a, b]) (fun v s₁ => v = .notImplemented ∧
      wpAny M A (call (.builtin id) [b, a]) (fun v s₂ => v = .notImplemented ∧ Q (.bool (!k)) s₂) E s₁) E s) :
    wpAny M A (richCompare .NotEq a b) Q E s := by
  rcases hi : cmpInfo CmpOp.NotEq with ⟨sym, f, r⟩
  rw [hi] at h1 h2
  simp only [richCompare, hi, (ha s).oneThing_none]
  try with_reducible refine wpAny_holding ?_
  refine wpAny_bind (wpAny_cRoomFor_or (.inl hv) (wpAny_bind (wpAny_typeOf (ha s) (wpAny_bind (wpAny_typeOf (hb s) ?_)))))
  simp only [bne_self_eq_false, Bool.false_eq_true, if_false, pure_bind, Bool.not_false, if_true]
  refine wpAny_bind (m := tryCompare a _ b) (wpAny_tryCompare_declines (ha s) h1
    (wpAny_mono hc (fun v s₁ q1 => ⟨q1.1, ?_⟩) fun _ _ x => x))
  refine wpAny_bind (m := tryCompare b _ a) (wpAny_tryCompare_declines (hb s₁) h2
    (wpAny_mono q1.2 (fun v s₂ q2 => ⟨q2.1, ?_⟩) fun _ _ x => x))
  exact wpAny_bind (wpAny_rule (wpAny_bind (wpAny_of_eq hk (wpAny_pure q2.2))))

section
variable {prog : Program} {w : World} {A : Around} {E : Value → Shared → Prop} {s : Shared} {Q : Value → Shared → Prop}
theorem ne_ty_other {a b : String} (ha : ∀ s' : Shared, s'.TypeIs (.type a) "type")
    (hb : ∀ s' : Shared, s'.TypeIs (.type b) "type") (ne : a ≠ b) (h : Q (.bool true) s) :
    wpAny (model prog w) A (compareOp .NotEq (.type a) (.type b)) Q E s := by
  show wpAny _ A (richCompare .NotEq _ _) Q E s
  refine rc_ne_same_decline (T := "type") (k := false) ha hb slot_ty_ne slot_ty_ne_refl rfl
    (by rw [isSame_plain rfl]; have : (Value.type a == Value.type b) = false := by simpa using ne
        rw [this]) ?_
  refine call_ne_ty ha ?_
  rw [if_neg ne]
  refine ⟨rfl, call_ne_ty hb ?_⟩
  rw [if_neg (Ne.symm ne)]
  exact ⟨rfl, h⟩
end

/-- the built-in types that a value may have here -/
def tyNames : List String := ["int", "str", "bool", "NoneType", "list", "tuple", "dict", "set", "float"]
theorem ty_meta {n : String} (h : n ∈ tyNames) (s' : Shared) : s'.TypeIs (.type n) "type" := by
  simp only [tyNames, List.mem_cons, List.not_mem_nil, or_false] at h
  rcases h with rfl | rfl | rfl | rfl | rfl | rfl | rfl | rfl | rfl
  · exact TypeEq.meta_int s'
  · exact TypeEq.meta_str s'
  · exact TypeEq.meta_bool s'
  · exact TypeEq.meta_NoneType s'
  · exact TypeEq.meta_list s'
  · exact TypeEq.meta_tuple s'
  · exact TypeEq.meta_dict s'
  · exact TypeEq.meta_set s'
  · exact TypeEq.meta_float s'
def rNeTy : R2 := fun x y H Q => ∃ a b, x = .ty a ∧ y = .ty b ∧ a ∈ tyNames ∧ b ∈ tyNames ∧ Q (.bl (decide (a ≠ b))) H
theorem op_neTy {X : Cx} : OpR X (compareOp .NotEq) rNeTy := by
  intro pins s σ H x y v u Q I rx ry h
  obtain ⟨a, b, rfl, rfl, ha, hb, q⟩ := h
  cases rx
  cases ry
  by_cases e : a = b
  · subst e
    exact ne_ty_same (ty_meta ha) ⟨.bl false, H, I, rfl, by simpa using q⟩
  · exact ne_ty_other (ty_meta ha) (ty_meta hb) e ⟨.bl true, H, I, rfl, by simpa [e] using q⟩

/-! ### for i, x in enumerate(xs) -/
theorem for_enum {K : PySem.W.Frag} {a : Addr} {xs : List V} {g : TG} {tb : TS} {D : Ends} {σ : L2.St} {H : Hp}
    (Pv : Nat → L2.St → Hp → Prop) (h0 : Pv 0 σ H) (hl : ∀ i σ H, i ≤ xs.length → Pv i σ H → SqL K H a xs)
    (hs : ∀ (i : Nat) (x : V) (T : Addr) σ H, xs[i]? = some x → Pv i σ H → H T = none →
      g (.ref T) σ (upd H T (.tup [.int i, x])) fun σ2 H2 => tb { D with nx := Pv (i + 1), ct := Pv (i + 1), bk := D.nx } σ2 H2)
    (hd : ∀ σ H, Pv xs.length σ H → D.nx σ H) :
    ∃ W : Nat → Nat → L2.St → Hp → Prop, (∃ m, W 0 m σ H) ∧ ∀ i m σ H, W i m σ H →
      ((Ite K a).stop i H ∧ D.nx σ H) ∨ ((Ite K a).go i H ∧ ∃ N : L2.St → Hp → Prop,
        (∀ σ' H', N σ' H' → ∃ m', m' < m ∧ W (i + 1) m' σ' H') ∧
        ∀ x H', (Ite K a).yld i H x H' → g x σ H' fun σ2 H2 => tb { D with nx := N, ct := N, bk := D.nx } σ2 H2) := by
  refine ⟨fun i m σ H => m = xs.length - i ∧ i ≤ xs.length ∧ Pv i σ H, ⟨_, rfl, Nat.zero_le _, h0⟩, ?_⟩
  rintro i m σ H ⟨rfl, hi, p⟩
  have hq := hl i σ H hi p
  rcases Nat.lt_or_ge i xs.length with lt | ge
  · refine .inr ⟨⟨xs, xs[i], hq, List.getElem?_eq_getElem lt⟩, Pv (i + 1), fun σ' H' p' => ⟨_, ?_, rfl, lt, p'⟩, ?_⟩
    · omega
    · rintro v H' ⟨T, x, rfl, hT, rfl, f⟩
      exact hs i x T σ H (f xs hq) p hT
  · obtain rfl : i = xs.length := Nat.le_antisymm hi ge
    exact .inl ⟨⟨xs, hq, Nat.le_refl _⟩, hd σ H p⟩
end SH

/-! SH2: defs by name: what stands at a name of the module, calls of it by place and by keyword. -/
namespace SH
open PySem PySem.Spec PyProof.Rows L2

/-- the def `st` stands at the name `x` of the module and keeps the promise `sp` -/
def Has (P : Program) (w : World) (K : PySem.W.Frag) (mg : Str → Option Value) (base : Heap) (CX : CXT) (k : Nat)
    (x : Str) (st : Stmt) (ps : List Str) (sp : Sp) : Prop :=
  ∃ f fd, Fun K x x st f fd ∧ mg x = some (.ref f) ∧ FnG P w K mg base CX k f fd ps sp ∧ L2.Binds K fd ps []
/-- the def `st` stands at the name `x` -/
def At (K : PySem.W.Frag) (mg : Str → Option Value) (x : Str) (st : Stmt) : Prop :=
  ∃ f fd, Fun K x x st f fd ∧ mg x = some (.ref f)

section
variable {X : Cx} {CX : CXT} {k : Nat} {st : Stmt} {ps ks : List Str} {sp : Sp} {E : XK} {x : Str} {p pos : Pos}
  {e : Expr} {es : List Expr} {t tk : TA} {kws : List Keyword}

theorem pe_has (h : Has X.prog X.w X.K X.mg X.base CX k x st ps sp) (room : Room k X.A) (qt : Quiet X.A) (hg : Gl X x)
    (hx : Passes CX X E) (ha : PA X (e :: es) t) (hdb : (x == ("__debug__" : Str)) = false := by decide)
    (he : starEach (e :: es) X.env = (false, eval e X.env) :: starEach es X.env := by rfl)
    (hpl : (backTo pos (starEach es X.env)).any (·.1) = false := by rfl) :
    PE X (.Call (.Name x p) (e :: es) [] pos) (tCall sp [] E t) := by
  obtain ⟨f, fd, F, m, G, b⟩ := h
  exact pe_callG G room qt hg m F.kp b .nil hx ha hdb he hpl

/-- how the keywords' values come to the parameters: by a permutation of places -/
structure KwOk (x : Str) (st : Stmt) (ps ks : List Str) (g : {α : Type} → List α → List α) : Prop where
  to : ∀ (kV doc pm : Value) (an : Option Addr) (cdv ct : Value) (ws : List Value), ws.length = ks.length →
    bindArgs (PySem.W.fnOf x x (defArgs st) (defBody st) (defScope st) .none kV doc pm an cdv ct) ⟨[], ks.zip ws⟩ =
      pure (ps.zip (g ws))
  rel : ∀ {zs : List V} {ws : List Value}, Vals zs ws → Vals (g zs) (g ws)
  len : ∀ (ws : List Value), (g ws).length = ps.length → ws.length = ks.length
  ne : ps.length ≠ 0

def onlyKw (g : {α : Type} → List α → List α) : {α : Type} → List α → List α → List α := fun us ws =>
  match us with
  | [] => g ws
  | _ => []

theorem pe_hasK0 {g : {α : Type} → List α → List α} (h : Has X.prog X.w X.K X.mg X.base CX k x st ps sp)
    (room : Room k X.A) (qt : Quiet X.A) (hg : Gl X x) (kb : KwOk x st ps ks g) (hx : Passes CX X E)
    (hkw : PK X kws tk) (hall : (backToKw pos (keywordEach kws X.env)).all (·.1.isSome) = true := by rfl)
    (hks : (backToKw pos (keywordEach kws X.env)).filterMap (·.1) = ks := by rfl)
    (hdb : (x == ("__debug__" : Str)) = false := by decide)
    (hpl : ((backTo pos (starEach [] X.env)).any (·.1) ||
      (backToKw pos (keywordEach kws X.env)).any (·.1.isNone)) = false := by rfl) :
    PE X (.Call (.Name x p) [] kws pos) (tCallK sp (onlyKw g) E tNil tk) := by
  obtain ⟨f, fd, F, m, G, _⟩ := h
  refine pe_callGK0 G room qt hg m F.kp (g := onlyKw g) ⟨fun s us ws _ hl => ?_, fun {vs us zs ws} r rz => ?_⟩ hx hkw hall hks hdb hpl
  · obtain ⟨oc, od, kV, doc, pm, an, cdv, ct, osl, rfl, lk, hcd⟩ := F.ex
    cases us with
    | nil => exact .of_eq (kb.to kV doc pm an cdv ct ws (kb.len ws hl))
    | cons u us => exact absurd hl.symm kb.ne
  · cases r with
    | nil => exact kb.rel rz
    | cons _ _ => exact .nil
end

section
variable {P : Program} {w : World} {K : PySem.W.Frag} {mg : Str → Option Value} {base : Heap}
/-- THE RULE for a def at a name of the module that lets no error out -/
theorem Has.of {x : Str} {st : Stmt} {N ps : List Str} {k : Nat} {sp : Sp} (at_ : At K mg x st)
    (S : FnScope N ps (defScope st)) (len : ∀ vs H Q E, sp vs H Q E → vs.length = ps.length)
    (bd : ∀ (kV doc pm : Value) (an : Option Addr) (cdv ct : Value) (us : List Value), us.length = ps.length →
      bindArgs (PySem.W.fnOf x x (defArgs st) (defBody st) (defScope st) .none kV doc pm an cdv ct) ⟨us, []⟩ = pure (ps.zip us))
    (walk : ∀ (f : Addr) (cdv : Value) (A : Around) (outer : List Env) (s : Shared) (H : Hp) (vs : List V) (Q : VK) (E : XK),
      Room k (A.deeper (envOfC x (defScope st) s.heap.objs.size f cdv)) →
      Quiet (A.deeper (envOfC x (defScope st) s.heap.objs.size f cdv)) → sp vs H Q E →
      ∃ t, PSs (cxOf CX0 P w K mg base N x (defScope st) f cdv A outer s H E).nox (defBody st) t ∧
        t { nx := fun _ H' => Q .non H', rt := Q } (start N vs) H) :
    Has P w K mg base CX0 (k + 1) x st ps sp := by
  obtain ⟨f, fd, F, m⟩ := at_
  exact ⟨f, fd, F, m, FnG.ok F S len (walk f), F.binds bd⟩
theorem Has.mono {CX : CXT} {j k : Nat} {x : Str} {st : Stmt} {ps : List Str} {sp : Sp}
    (h : Has P w K mg base CX j x st ps sp) (hk : j ≤ k) : Has P w K mg base CX k x st ps sp := by
  obtain ⟨f, fd, F, m, G, b⟩ := h
  exact ⟨f, fd, F, m, G.mono hk, b⟩
end

/-- the built-in names that the module does not shadow -/
structure Txt (mg : Str → Option Value) : Prop where
  len : mg "len" = none
  range : mg "range" = none
  repr : mg "repr" = none
  min : mg "min" = none
  max : mg "max" = none
  tint : mg "int" = none
  tlist : mg "list" = none
  ttype : mg "type" = none
  bool : mg "bool" = none
  tuple : mg "tuple" = none
  isinstance : mg "isinstance" = none
  enumerate : mg "enumerate" = none
  tstr : mg "str" = none
  zip : mg "zip" = none
  all : mg "all" = none
  any : mg "any" = none
  sum : mg "sum" = none
  abs : mg "abs" = none
  sorted : mg "sorted" = none
  set : mg "set" = none
  dict : mg "dict" = none
  reversed : mg "reversed" = none
  divmod : mg "divmod" = none

theorem bnot_t {b : Bool} (h : (!b) = true) : b = false := by cases b <;> first | rfl | cases h
theorem bnot_f {b : Bool} (h : ¬ (!b) = true) : b = true := by cases b <;> first | rfl | exact (h rfl).elim
/-! ### what a caller wants -/
/-- a value comes back, nothing that was tracked has changed -/
def RetV (Q : VK) (H : Hp) (v : V) : Prop := ∀ H', Same H H' → Q v H'
/-- a new list comes back -/
def RetL (Q : VK) (H : Hp) (xs : List V) : Prop := ∀ p H', H p = none → Same H H' → H' p = some (.lst xs) → Q (.ref p) H'
/-- ints as values -/
abbrev iv (ns : List Int) : List V := ns.map V.int
theorem iv_at {ns : List Int} {i : Nat} (h : i < ns.length) : (iv ns)[i]? = some (.int (ns.getD i 0)) := by
  rw [List.getElem?_map, List.getElem?_eq_getElem h, List.getD_eq_getElem?_getD, List.getElem?_eq_getElem h]
  rfl
theorem atI_iv {ns : List Int} {z : Int} (h0 : 0 ≤ z) (h : z < ns.length) : atI (iv ns) z = some (.int (ns.getD z.toNat 0)) := by
  have e : z = ((z.toNat : Nat) : Int) := by omega
  rw [e]
  exact atI_nat (iv_at (by omega))
theorem atI_iv_last {ns : List Int} (h : ns ≠ []) : atI (iv ns) (-1) = some (.int (ns.getD (ns.length - 1) 0)) := by
  have hl : 0 < ns.length := List.length_pos_iff.mpr h
  have e : ixN (iv ns).length (-1) = some (ns.length - 1) := by
    unfold ixN
    rw [if_neg (by omega), if_pos (by rw [List.length_map]; omega), List.length_map]
    congr 1
    omega
  unfold atI
  rw [e]
  exact iv_at (by omega)
theorem Same.new {H : Hp} {p : Addr} {o : HO} (h : H p = none) : Same H (upd H p o) := fun b u e => by
  rw [upd_ne (ne_of_none e h)]; exact e
theorem Same.upd_free {H H' : Hp} {p : Addr} {o : HO} (s : Same H H') (h : H p = none) : Same H (upd H' p o) := fun b u e => by
  rw [upd_ne (ne_of_none e h)]; exact s b u e
/-- all that was tracked but what stands at `a` is as it was -/
def SameBut (a : Addr) (H H' : Hp) : Prop := ∀ b o, H b = some o → b ≠ a → H' b = some o
theorem SameBut.refl {a : Addr} {H : Hp} : SameBut a H H := fun _ _ e _ => e
theorem SameBut.trans {a : Addr} {H H1 H2 : Hp} (p : SameBut a H H1) (q : SameBut a H1 H2) : SameBut a H H2 :=
  fun b o e n => q b o (p b o e n) n
theorem SameBut.of {a : Addr} {H H' : Hp} (p : Same H H') : SameBut a H H' := fun b o e _ => p b o e
theorem SameBut.upd {a : Addr} {H H' : Hp} {o : HO} (p : SameBut a H H') : SameBut a H (upd H' a o) := fun b u e n => by
  rw [upd_ne n]; exact p b u e n
theorem SameBut.new {a p : Addr} {H H' : Hp} {o : HO} (s : SameBut a H H') (h : H' p = none) : SameBut a H (L2.upd H' p o) :=
  fun b u e n => by
    have := s b u e n
    rw [upd_ne (ne_of_none this h)]; exact this
end SH

/-! SH3: comprehensions whose turns make nothing, in words of a function of the turn. -/
namespace SH
open PySem PySem.Spec PyProof.Rows L2

/-- len of a list or a tuple, by the written part K -/
def rLenK (K : PySem.W.Frag) : List V → Hp → VK → Prop := fun xs H Q => ∃ p ys, xs = [.ref p] ∧ (SqL K H p ys ∨ SqT K H p ys) ∧ Q (.int ys.length) H
theorem tYes_go {σ : L2.St} {H : Hp} {f g : Hp → Prop} (h : f H) : tYes σ H fun b H3 => if b = true then f H3 else g H3 := by
  show (if true = true then f H else g H)
  rw [if_pos rfl]
  exact h
/-- a if t else b of two ints, the test's answer known as b -/
theorem if_int {b : Bool} {x y : Int} {H : Hp} {A B : TE} {σ : L2.St} {Q : VK} (ha : ∀ Q' : VK, Q' (.int x) H → A σ H Q')
    (hb : ∀ Q' : VK, Q' (.int y) H → B σ H Q') (h : Q (.int (if b = true then x else y)) H) : if b = true then A σ H Q else B σ H Q := by
  cases b with
  | true => rw [if_pos rfl]; exact ha _ (by simpa using h)
  | false => rw [if_neg Bool.false_ne_true]; exact hb _ (by simpa using h)
/-- which turns give, and what -/
def gives (n : Nat) (keep : Nat → Bool) (val : Nat → V) : List V := ((List.range n).filter keep).map val
theorem gives_succ {n : Nat} {keep : Nat → Bool} {val : Nat → V} : gives (n + 1) keep val =
    if keep n = true then gives n keep val ++ [val n] else gives n keep val := by
  unfold gives
  rw [List.range_succ, List.filter_append, List.map_append]
  by_cases h : keep n = true
  · rw [if_pos h, List.filter_cons, if_pos h]
    rfl
  · rw [if_neg h, List.filter_cons, if_neg h]
    exact List.append_nil _
theorem gives_len (n : Nat) (keep : Nat → Bool) (val : Nat → V) : (gives n keep val).length ≤ n := by
  unfold gives
  rw [List.length_map]
  exact Nat.le_trans (List.length_filter_le _ _) (Nat.le_of_eq List.length_range)
theorem gives_all (n : Nat) (val : Nat → V) : gives n (fun _ => true) val = (List.range n).map val := by
  unfold gives
  rw [List.filter_eq_self.mpr (fun _ _ => rfl)]
/-- a new list comes back, nothing else changes -/
def NewL (Q : VK) (H : Hp) (xs : List V) : Prop := ∀ p, H p = none → Q (.ref p) (upd H p (.lst xs))
theorem small_line {n : Nat} (h : n < 100000) : n < sizeLine := Nat.lt_of_lt_of_le h (by decide)

section
variable {tt : TT} {te : TE} {vs : List Nat} {σ : L2.St} {H : Hp} {D : Addr} {Qd : Hp → Prop}
/-- one turn's end -/
theorem lc_turn {n : Nat} {keep : Nat → Bool} {val : Nat → V} {i : Nat} {σ2 : L2.St} (hi : i < n) (hn : n < 100000)
    (ht : ∀ acc Q, Q (keep i) (upd H D (.lst acc)) → tt σ2 (upd H D (.lst acc)) Q)
    (he : ∀ acc Q, keep i = true → Q (val i) (upd H D (.lst acc)) → te σ2 (upd H D (.lst acc)) Q) :
    tt σ2 (upd H D (.lst (gives i keep val))) fun b H3 => if b = true then te σ2 H3 fun y H4 => ∃ acc, H4 D = some (.lst acc) ∧
      acc.length < sizeLine ∧ upd H4 D (.lst (acc ++ [y])) = upd H D (.lst (gives (i + 1) keep val))
      else H3 = upd H D (.lst (gives (i + 1) keep val)) := by
  refine ht _ _ ?_
  by_cases h : keep i = true
  · rw [h]
    refine iteT (he _ _ h ⟨_, upd_same, small_line (by have := gives_len i keep val; omega), ?_⟩)
    rw [upd_upd, gives_succ, if_pos h]
  · have h' : keep i = false := by cases e : keep i <;> simp_all
    rw [h']
    refine iteF ?_
    rw [gives_succ, if_neg h]

theorem lcR {lo : Int} {n j : Nat} (keep : Nat → Bool) (val : Nat → V) (hn : n < 100000)
    (hw : ∀ x, wipe ((wipe σ vs).set j (some x)) vs = wipe σ vs)
    (ht : ∀ i acc Q, i < n → Q (keep i) (upd H D (.lst acc)) → tt ((wipe σ vs).set j (some (.int (lo + (i : Nat))))) (upd H D (.lst acc)) Q)
    (he : ∀ i acc Q, i < n → keep i = true → Q (val i) (upd H D (.lst acc)) → te ((wipe σ vs).set j (some (.int (lo + (i : Nat))))) (upd H D (.lst acc)) Q)
    (hd : Qd (upd H D (.lst (gives n keep val)))) :
    ∃ W : Nat → Nat → Hp → Prop, (∃ m, W 0 m (upd H D (.lst []))) ∧ ∀ i m H, W i m H →
      ((Itr lo n).stop i H ∧ Qd H) ∨ ((Itr lo n).go i H ∧ ∃ Nx : Hp → Prop, (∀ H', Nx H' → ∃ m', m' < m ∧ W (i + 1) m' H') ∧
        ∀ x H', (Itr lo n).yld i H x H' → gName j x (wipe σ vs) H' fun σ2 H2 => wipe σ2 vs = wipe σ vs ∧ tt σ2 H2 fun b H3 =>
          if b = true then te σ2 H3 fun y H4 => ∃ acc, H4 D = some (.lst acc) ∧ acc.length < sizeLine ∧ Nx (upd H4 D (.lst (acc ++ [y]))) else Nx H3) :=
  lc_range (fun i H2 => H2 = upd H D (.lst (gives i keep val))) rfl
    (fun i H2 hi e => by
      subst e
      exact ⟨hw _, lc_turn hi hn (fun acc Q q => ht i acc Q hi q) (fun acc Q k q => he i acc Q hi k q)⟩)
    (fun H2 e => by subst e; exact hd)

theorem lcL {K : PySem.W.Frag} {a : Addr} {xs : List V} {j : Nat} (keep : Nat → Bool) (val : Nat → V) (hx : SqL K H a xs)
    (hD : H D = none) (hn : xs.length < 100000) (hw : ∀ x, wipe ((wipe σ vs).set j (some x)) vs = wipe σ vs)
    (ht : ∀ i x acc Q, xs[i]? = some x → Q (keep i) (upd H D (.lst acc)) → tt ((wipe σ vs).set j (some x)) (upd H D (.lst acc)) Q)
    (he : ∀ i x acc Q, xs[i]? = some x → keep i = true → Q (val i) (upd H D (.lst acc)) → te ((wipe σ vs).set j (some x)) (upd H D (.lst acc)) Q)
    (hd : Qd (upd H D (.lst (gives xs.length keep val)))) :
    ∃ W : Nat → Nat → Hp → Prop, (∃ m, W 0 m (upd H D (.lst []))) ∧ ∀ i m H, W i m H →
      ((Itl K a).stop i H ∧ Qd H) ∨ ((Itl K a).go i H ∧ ∃ Nx : Hp → Prop, (∀ H', Nx H' → ∃ m', m' < m ∧ W (i + 1) m' H') ∧
        ∀ x H', (Itl K a).yld i H x H' → gName j x (wipe σ vs) H' fun σ2 H2 => wipe σ2 vs = wipe σ vs ∧ tt σ2 H2 fun b H3 =>
          if b = true then te σ2 H3 fun y H4 => ∃ acc, H4 D = some (.lst acc) ∧ acc.length < sizeLine ∧ Nx (upd H4 D (.lst (acc ++ [y]))) else Nx H3) :=
  lc_list (xs := xs) (fun i H2 => H2 = upd H D (.lst (gives i keep val))) rfl
    (fun i H2 hi e => by subst e; exact (Same.new hD).seq hx)
    (fun i x H2 hi e => by
      subst e
      exact ⟨hw _, lc_turn (List.getElem?_eq_some_iff.mp hi).1 hn (fun acc Q q => ht i x acc Q hi q) (fun acc Q k q => he i x acc Q hi k q)⟩)
    (fun H2 e => by subst e; exact hd)

/-- [.. for a, b in zip(xs, ys)], the lists of one length: each turn makes one pair, so the heap is told by an invariant -/
theorem lcZ {K : PySem.W.Frag} {a b : Addr} {xs ys : List V} {g : TG} (hl : xs.length = ys.length) (Pv : Nat → Hp → Prop)
    (h0 : Pv 0 (upd H D (.lst []))) (hq : ∀ i H, Pv i H → SqL K H a xs ∧ SqL K H b ys)
    (hs : ∀ i x y T H, xs[i]? = some x → ys[i]? = some y → Pv i H → H T = none → g (.ref T) (wipe σ vs) (upd H T (.tup [x, y])) fun σ2 H2 =>
      wipe σ2 vs = wipe σ vs ∧ tt σ2 H2 fun b H3 => if b = true then te σ2 H3 fun y H4 => ∃ acc, H4 D = some (.lst acc) ∧
        acc.length < sizeLine ∧ Pv (i + 1) (upd H4 D (.lst (acc ++ [y]))) else Pv (i + 1) H3)
    (hd : ∀ H, Pv xs.length H → Qd H) :
    ∃ W : Nat → Nat → Hp → Prop, (∃ m, W 0 m (upd H D (.lst []))) ∧ ∀ i m H, W i m H →
      ((Itz K a b).stop i H ∧ Qd H) ∨ ((Itz K a b).go i H ∧ ∃ Nx : Hp → Prop, (∀ H', Nx H' → ∃ m', m' < m ∧ W (i + 1) m' H') ∧
        ∀ x H', (Itz K a b).yld i H x H' → g x (wipe σ vs) H' fun σ2 H2 => wipe σ2 vs = wipe σ vs ∧ tt σ2 H2 fun b H3 =>
          if b = true then te σ2 H3 fun y H4 => ∃ acc, H4 D = some (.lst acc) ∧ acc.length < sizeLine ∧ Nx (upd H4 D (.lst (acc ++ [y]))) else Nx H3) := by
  refine ⟨fun i m H => m = xs.length - i ∧ i ≤ xs.length ∧ Pv i H, ⟨_, rfl, Nat.zero_le _, h0⟩, ?_⟩
  rintro i m H ⟨rfl, hi, p⟩
  obtain ⟨qx, qy⟩ := hq i H p
  rcases Nat.lt_or_ge i xs.length with lt | ge
  · have ly : i < ys.length := by omega
    refine .inr ⟨⟨xs, ys, xs[i], ys[i], qx, qy, List.getElem?_eq_getElem lt, List.getElem?_eq_getElem ly⟩, Pv (i + 1),
      fun H' p' => ⟨xs.length - (i + 1), by omega, rfl, lt, p'⟩, ?_⟩
    rintro v H' ⟨T, x, y, rfl, hT, rfl, fx, fy⟩
    exact hs i x y T H (fx xs qx) (fy ys qy) p hT
  · obtain rfl : i = xs.length := Nat.le_antisymm hi ge
    exact .inl ⟨⟨xs, ys, qx, qy, .inl (Nat.le_refl _)⟩, hd H p⟩
end
end SH

/-! SH4: how lists of ints are shown, and compared. -/
namespace SH
open PySem PySem.Spec PyProof.Rows L2

/-- a list of ints as data -/
def dI (ns : List Int) : PyData := .list (ns.map PyData.int)
theorem dp_ints {K : PySem.W.Frag} {H : Hp} : ∀ ns : List Int, DpAll K H (iv ns) (ns.map PyData.int)
  | [] => .nil
  | n :: r => .cons (.int n) (dp_ints r)
theorem dp_dI {K : PySem.W.Frag} {H : Hp} {a : Addr} {ns : List Int} (h : SqL K H a (iv ns)) : Dp K H (.ref a) (dI ns) := .lst h (dp_ints ns)
theorem small_log {v : Int} (h : v.natAbs < 2 ^ 64) : v.natAbs.log2 < 1920 := by
  by_cases e : v.natAbs = 0
  · rw [e]; decide
  · have := (Nat.log2_lt e).mpr h
    omega
theorem show_ints : ∀ {ns : List Int}, (∀ v ∈ ns, v.natAbs < 2 ^ 64) → PyData.showableAll (ns.map PyData.int) = true
  | [], _ => rfl
  | n :: r, h => by
    show (decide (n.natAbs.log2 < 1920) && PyData.showableAll (r.map PyData.int)) = true
    rw [decide_eq_true (small_log (h n List.mem_cons_self)), show_ints fun v hv => h v (List.mem_cons_of_mem _ hv)]
    rfl
theorem dict_ints : ∀ ns : List Int, PyData.hasDictAll (ns.map PyData.int) = false
  | [] => rfl
  | n :: r => by
    show (false || PyData.hasDictAll (r.map PyData.int)) = false
    rw [dict_ints r]
    rfl
theorem depth_ints : ∀ ns : List Int, PyData.depthAll (ns.map PyData.int) = 0
  | [] => rfl
  | n :: r => by
    show max 0 (PyData.depthAll (r.map PyData.int)) = 0
    rw [depth_ints r]
    rfl
theorem shownAll_len : ∀ {ns : List Int}, (∀ v ∈ ns, v.natAbs < 2 ^ 64) → ((PyData.shownAll (ns.map PyData.int)).map (·.length)).sum ≤ 1921 * ns.length ∧
    (PyData.shownAll (ns.map PyData.int)).length = ns.length
  | [], _ => ⟨Nat.le_refl _, rfl⟩
  | n :: r, h => by
    obtain ⟨a, b⟩ := shownAll_len (ns := r) fun v hv => h v (List.mem_cons_of_mem _ hv)
    have := int_text_len_1921 (small_log (h n List.mem_cons_self))
    constructor
    · show (PySem.Str.ofString (toString n)).length + ((PyData.shownAll (r.map PyData.int)).map (·.length)).sum ≤ 1921 * (r.length + 1)
      omega
    · show (PyData.shownAll (r.map PyData.int)).length + 1 = r.length + 1
      omega
theorem shows_ints {K : PySem.W.Frag} {H : Hp} {a : Addr} {ns : List Int} (h : SqL K H a (iv ns)) (hl : ns.length ≤ 1000) (hv : ∀ v ∈ ns, v.natAbs < 2 ^ 64) :
    Shows K H (.ref a) (dI ns) := by
  refine ⟨dp_dI h, show_ints hv, dict_ints ns, ?_, ?_⟩
  · show PyData.depthAll (ns.map PyData.int) + 1 ≤ 60
    rw [depth_ints]
    decide
  · show (listText (PyData.shownAll (ns.map PyData.int))).length ≤ sizeLine
    obtain ⟨a, b⟩ := shownAll_len hv
    have := listText_len_le (PyData.shownAll (ns.map PyData.int))
    have e : sizeLine = 16777216 := by decide
    omega
theorem shaped_dI (ns : List Int) : SeqAt.shaped (dI ns) = true := by
  have c : ∀ ms : List Int, PyData.canLayAll0 (ms.map PyData.int) = true := fun ms => by
    induction ms with
    | nil => rfl
    | cons n r ih => show (true && PyData.canLayAll0 (r.map PyData.int)) = true; rw [ih]; rfl
  unfold SeqAt.shaped
  have d : (dI ns).depth = 1 := by show PyData.depthAll (ns.map PyData.int) + 1 = 1; rw [depth_ints]
  rw [d]
  show (PyData.canLayAll0 (ns.map PyData.int) && decide (1 ≤ 64)) = true
  rw [c]
  rfl
theorem eqv_ints : ∀ ns ms : List Int, PyData.eqvAll (ns.map PyData.int) (ms.map PyData.int) = decide (ns = ms)
  | [], [] => rfl
  | [], _ :: _ => rfl
  | _ :: _, [] => rfl
  | n :: r, m :: q => by
    show ((n == m) && PyData.eqvAll (r.map PyData.int) (q.map PyData.int)) = _
    rw [eqv_ints r q, Bool.eq_iff_iff]
    simp
theorem eqv_dI (ns ms : List Int) : PyData.eqv (dI ns) (dI ms) = decide (ns = ms) := eqv_ints ns ms
/-- two lists of ints compared -/
theorem eqD_ints {K : PySem.W.Frag} {H : Hp} {a b : Addr} {ns ms : List Int} {Q : VK} (ha : SqL K H a (iv ns)) (hb : SqL K H b (iv ms))
    (q : Q (.bl (decide (ns = ms))) H) : rEqD K (.ref a) (.ref b) H Q :=
  ⟨dI ns, dI ms, dp_dI ha, dp_dI hb, shaped_dI ns, shaped_dI ms, by rw [eqv_dI]; exact q⟩
theorem neD_ints {K : PySem.W.Frag} {H : Hp} {a b : Addr} {ns ms : List Int} {Q : VK} (ha : SqL K H a (iv ns)) (hb : SqL K H b (iv ms))
    (q : Q (.bl (!decide (ns = ms))) H) : rNeD K (.ref a) (.ref b) H Q :=
  ⟨dI ns, dI ms, dp_dI ha, dp_dI hb, shaped_dI ns, shaped_dI ms, by rw [eqv_dI]; exact q⟩

theorem iv_snoc (ns : List Int) (d : Int) : iv ns ++ [V.int d] = iv (ns ++ [d]) := by
  unfold iv
  rw [List.map_append]
  rfl
theorem getD_all {xs : List Int} {p : Int → Prop} (h : ∀ v ∈ xs, p v) {z : Int} (h0 : 0 ≤ z) (h1 : z < xs.length) : p (xs.getD z.toNat 0) := by
  have hz : z.toNat < xs.length := by omega
  rw [List.getD_eq_getElem?_getD, List.getElem?_eq_getElem hz]
  exact h _ (List.getElem_mem hz)
/-- range as a list of ints -/
def rg (n : Nat) : List Int := (List.range n).map fun (i : Nat) => (i : Int)
theorem rgV_rg (n : Nat) : rgV 0 (n : Int) = iv (rg n) := by
  unfold rgV rg iv
  rw [List.map_map]
  have e : ((n : Int) - 0).toNat = n := by omega
  rw [e]
  refine List.map_congr_left fun i _ => ?_
  show V.int (0 + (i : Int)) = V.int (i : Int)
  rw [Int.zero_add]
theorem iv_rep (n : Nat) (d : Int) : (List.replicate n [V.int d]).flatten = iv (List.replicate n d) := by
  induction n with
  | zero => rfl
  | succ n ih => rw [List.replicate_succ, List.flatten_cons, ih, List.replicate_succ]; rfl
/-- list + list, each read as it stands -/
def rCatS (K : PySem.W.Frag) : R2 := fun x y H Q => ∃ l b xs zs, x = .ref l ∧ y = .ref b ∧ SqL K H l xs ∧ SqL K H b zs ∧ xs.length + zs.length ≤ sizeLine ∧ NewL Q H (xs ++ zs)
theorem op_catS {X : Cx} : OpR X (binaryOp .Add) (rCatS X.K) := by
  intro pins s σ H x y v u Q I rx ry h
  obtain ⟨l, b, xs, zs, rfl, rfl, hx, hy, hz, q⟩ := h
  cases rx
  cases ry
  obtain ⟨its, r, ⟨o, n, ho, hc, hd, ht⟩, _⟩ := I.list hx
  obtain ⟨its2, r2, ⟨o2, n2, ho2, hc2, hd2, ht2⟩, _⟩ := I.list hy
  have e1 := r.length
  have e2 := r2.length
  obtain ⟨oc, od, dt, sl⟩ := o
  obtain ⟨oc2, od2, dt2, sl2⟩ := o2
  simp only at hc hd ht hc2 hd2 ht2
  subst hc hd ht hc2 hd2 ht2
  have ea : its.toArray ++ its2.toArray = (its ++ its2).toArray := by simp
  refine concat_meets ⟨_, ho, rfl⟩ ⟨_, ho2, rfl⟩ noFill_list_add seq_list_add PySem.F.slot_list_add PySem.F.entry_list_add
    (PySem.F.args_list_add_2 _ _) (list_addW l b its.toArray its2.toArray n n2 none none sl sl2 (by simp only [List.size_toArray]; omega)) ⟨ho, ho2, ?_⟩
  rw [ea]
  exact ⟨.ref _, _, I.lnew (t' := s.toks) (r.append r2) (by rw [List.length_append]; omega), rfl, q _ I.fresh⟩
theorem Same.but {a : Addr} {H0 H H' : Hp} (s : Same H0 H) (n : H0 a = none) (b : SameBut a H H') : Same H0 H' := fun c o e =>
  b c o (s c o e) (ne_of_none e n)
end SH

/-! SH5: a list stored into a slice with open bounds (xs[:] = ys, xs[a:] = ys). -/
namespace SH
open PySem PySem.Spec PyProof.Rows L2
section
variable {prog : Program} {w : World} {A : Around} {E : Value → Shared → Prop} {s : Shared}
theorem store_open {tgt src sl : Addr} {old new : Array Value} {n n2 : Nat} {vl vu : Value} {lo hi : Option Int} {Q : Unit → Shared → Prop}
    (eo : s.heap.get? tgt = some { cls := .type "list", data := .seq old n }) (en : s.heap.get? src = some { cls := .type "list", data := .seq new n2 })
    (ne : tgt ≠ src) (isl : s.heap.IsSliceOf sl vl vu .none) (pl : IsPart vl lo) (pu : IsPart vu hi) (small : old.size + new.size ≤ sizeLine)
    (h : Q () { s with heap := s.heap.update tgt (Obj.mapSeq fun xs => xs.extract 0 (HT.sIx old.size 0 lo) ++ new ++ xs.extract (max (HT.sIx old.size 0 lo) (HT.sIx old.size old.size hi)) xs.size) }) :
    wpAny (model prog w) A (setItem (.ref tgt) (.ref sl) (.ref src)) Q E s := by
  obtain ⟨b1, b2, b3⟩ := slice_bounds lo hi old.size
  have isT := PySem.IsL.isList eo
  have isS := PySem.IsL.isList en
  obtain ⟨os, go, co, fo⟩ := id isl
  have tyS : s.TypeIs (.ref sl) "slice" := ⟨os, go, co⟩
  have li := HT.sIx_le old.size 0 (Nat.zero_le _) lo
  have lj := HT.sIx_le old.size old.size (Nat.le_refl _) hi
  have diff : Builtin.List.listSameRef (.ref tgt) (.ref src) = false := by
    unfold Builtin.List.listSameRef; exact beq_eq_false_iff_ne.mpr ne
  generalize HT.sIx old.size 0 lo = i at *
  generalize HT.sIx old.size old.size hi = j at *
  have mx : (max (i : Int) (j : Int)).toNat = max i j := by omega
  have room : ((fun xs : Array Value => xs.extract 0 i ++ new ++ xs.extract (max i j) xs.size) old).size ≤ sizeLine + 1 := by
    simp only [Array.size_append, Array.size_extract]; omega
  unfold setItem
  try with_reducible refine wpAny_holding ?_
  first | refine wpAny_bind (wpAny_pure ?_) | skip
  refine wpAny_bind (wpAny_sequenceKey isT.typeIs (by decide) ?_)
  refine wpAny_bind (wpAny_callSpecial?_slot (name := Str.ofString "__setitem__") isT.typeIs slot_list_setitem (wpAny_call_entry slot_list_setitem isT.typeIs entry_list_setitem ?_ (args_list_setitem _ _ _)))
  show wpAny _ _ (Builtin.List.listSubscript? (.ref sl) >>= _) _ _ s
  refine wpAny_bind ?_
  unfold Builtin.List.listSubscript?
  refine wpAny_bind (wpAny_specialOf tyS slice_no_index ?_)
  simp only [Option.isNone_none, if_true]
  refine wpAny_pure ?_
  show wpAny _ _ (typeOf (.ref sl) >>= _) _ _ s
  refine wpAny_bind (wpAny_typeOf tyS ?_)
  first | rw [if_neg (by decide)] | refine PySem.W.KFB.if_not (by decide) ?_
  rw [listSliceParts_eq]
  refine wpAny_bind (wpAny_bind (wpAny_field go fo (x := .none) rfl (wpAny_bind (wpAny_listPart .none ?_))))
  rw [if_neg (show ¬ ((rawPart none == rawInt 0) = true) from Bool.false_ne_true)]
  refine wpAny_bind (wpAny_field go fo (x := vl) rfl (wpAny_bind (wpAny_listPart pl ?_)))
  refine wpAny_bind (wpAny_field go fo (x := vu) rfl (wpAny_bind (wpAny_listPart pu (wpAny_pure ?_))))
  first
    | simp only [diff, Bool.false_eq_true, if_false]
    | refine PySem.W.KFB.if_not diff ?_
    | (dsimp only; rw [if_neg (by rw [diff]; exact Bool.false_ne_true)])
  refine wpAny_bind (m := Builtin.List.listAllItems (.ref src) "must assign iterable to extended slice") ?_
  unfold Builtin.List.listAllItems
  refine wpAny_bind (wpAny_typeOf isS.typeIs ?_)
  first | refine PySem.W.KFB.if_so (by decide) ?_ | rw [if_pos (by decide)] | simp only [beq_self_eq_true, Bool.true_or, if_true]
  unfold Builtin.List.listItems
  refine wpAny_bind (wpAny_seqItems en rfl (wpAny_pure ?_))
  refine wpAny_bind (wpAny_bind (wpAny_seqItems eo rfl (wpAny_pure ?_)))
  have bb : sliceBounds lo hi none old.size = ((i : Int), (j : Int), 1) := Prod.ext b1 (Prod.ext b2 b3)
  refine wpAny_bind (wpAny_of_eq ((sliceIndices_raw lo hi none old.size (by simp)).trans (congrArg (pure : Int × Int × Int → Sem (Int × Int × Int)) bb)) ?_)
  show wpAny _ _ (if ((1 : Int) == 1) = true then _ else _) _ _ s
  rw [if_pos (by decide)]
  refine wpAny_bind (wpAny_rule ?_)
  first | simp only [notLongL small, Bool.false_eq_true, if_false] | refine PySem.W.KFB.if_not (notLongL small) ?_
  first | refine wpAny_bind (wpAny_pure ?_) | skip
  show wpAny _ _ (updateSeq tgt (fun xs => xs.extract 0 ((i : Int)).toNat ++ new ++ xs.extract (max (i : Int) (j : Int)).toNat xs.size) >>= _) _ _ s
  rw [mx, Int.toNat_natCast]
  refine wpAny_bind (wpAny_updateSeq (hz := Nat.le_trans (Nat.le_add_right _ _) small) (_hz' := room) eo rfl ?_)
  refine wpAny_bind (wpAny_letGo ?_)
  first
    | exact wpAny_bind (wpAny_pure (wpAny_pure ⟨.none, rfl, wpAny_pure h⟩))
    | exact wpAny_pure ⟨.none, rfl, wpAny_pure h⟩
end
/-- ys stored into xs[lo:hi] -/
def rStore : V → Option Int → Option Int → V → Hp → (Hp → Prop) → Prop := fun o lo hi v H Q => ∃ (l b : Addr) (xs ys : List V), o = .ref l ∧ v = .ref b ∧ l ≠ b ∧ H l = some (.lst xs) ∧ H b = some (.lst ys) ∧
  xs.length + ys.length ≤ sizeLine ∧ Q (upd H l (.lst (xs.take (HT.sIx xs.length 0 lo) ++ ys ++ xs.drop (max (HT.sIx xs.length 0 lo) (HT.sIx xs.length xs.length hi)))))
def gStore (to : TE) (tl th : TO) : TG := fun v σ H Q => to σ H fun o H1 => tl σ H1 fun lo H2 => th σ H2 fun hi H3 => rStore o lo hi v H3 fun H4 => Q σ H4
section
variable {X : Cx} {o : Expr} {to : TE} {lo hi : Option Expr} {tl th : TO} {p2 pos : Pos}
theorem pg_store (ho : PE X o to) (hl : PO X lo tl) (hu : PO X hi th)
    (ha : ∀ v, assign (.Subscript o (.Slice lo hi none p2) pos) X.env v = (do
      let ov ← holding [v] (eval o X.env)
      let iv ← holding [v, ov] (eval (.Slice lo hi none p2) X.env)
      standAt pos
      holding [v, ov, iv] (setItem ov iv v)
      release [iv, v, ov] []) := by intro _; rfl) : PG X (.Subscript o (.Slice lo hi none p2) pos) (gStore to tl th) := by
  refine ⟨fun pins s σ H v u Q I r h => ?_⟩
  rw [ha]
  refine wpAny_bind (wpAny_holding (thn (ho.run pins s σ H _ I h) fun ov s1 ⟨x, H1, I1, r1, q1⟩ => ?_))
  refine wpAny_bind (wpAny_holding (wpAny_Slice (thn (hl.run pins s1 σ H1 _ I1 q1) fun vl s2 ⟨l, H2, I2, pl, q2⟩ => thn (hu.run pins s2 σ H2 _ I2 q2) fun vu s3 ⟨u', H3, I3, pu, q3⟩ => ?_)))
  rw [evalPart_none]
  refine wpAny_pure ?_
  have I4 : Inv X pins σ H3 { s3 with heap := s3.heap.push { cls := .type "slice", data := .fields #[vl, vu, .none] } } := I3.kept (t' := s3.toks) fun b ob q => Heap.get?_push_of_some _ q
  refine wpAny_bind (wpAny_standAt (wpAny_bind (wpAny_holding ?_)))
  obtain ⟨a, b, xs, ys, rfl, rfl, ne, ea, eb, sm, q⟩ := q3
  cases r1
  cases r
  obtain ⟨z, its, n, rr, hl1, e⟩ := I4.lstM ea
  obtain ⟨z2, its2, n2, rr2, hl2, e2⟩ := I4.lstM eb
  have k1 := rr.length
  have k2 := rr2.length
  refine store_open e e2 ne (Heap.IsSliceOf.new ..) pl pu (by rw [List.size_toArray, List.size_toArray]; omega) ?_
  refine wpAny_release ⟨σ, _, ?_, q⟩
  rw [List.size_toArray, ← k1]
  refine I4.lset (its' := its.take (HT.sIx xs.length 0 l) ++ its2 ++ its.drop (max (HT.sIx xs.length 0 l) (HT.sIx xs.length xs.length u'))) (t' := _) ea e ?_ (Vals.append (Vals.append (rr.take _) rr2) (rr.drop _)) ?_
  · exact splice_eq its its2 _ _
  · rw [List.length_append, List.length_append, List.length_take, List.length_drop]
    omega
end
end SH

/-! SH6: comprehensions over enumerate and lists whose turns change nothing that is tracked. -/
namespace SH
open PySem PySem.Spec PyProof.Rows L2
theorem if_any {b : Bool} {A B : TE} {σ : L2.St} {H : Hp} {Q : VK} (Inv : V → Hp → Prop) (ha : b = true → ∀ Q' : VK, (∀ v H', Inv v H' → Q' v H') → A σ H Q')
    (hb : b = false → ∀ Q' : VK, (∀ v H', Inv v H' → Q' v H') → B σ H Q') (h : ∀ v H', Inv v H' → Q v H') : if b = true then A σ H Q else B σ H Q := by
  cases b with
  | true => rw [if_pos rfl]; exact ha rfl Q h
  | false => rw [if_neg Bool.false_ne_true]; exact hb rfl Q h
theorem Same.at {H H' : Hp} {a : Addr} {o : HO} (s : Same H H') (n : H a = none) : Same H (upd H' a o) := fun b u e => by
  rw [upd_ne (ne_of_none e n)]; exact s b u e
theorem while_cut {tc : TT} {tb : TS} {D : Ends} {σ : L2.St} {H : Hp} (Exit : L2.St → Hp → Prop) (main : ∀ σ' H', Exit σ' H' → D.nx σ' H')
    (h : (∀ σ' H', Exit σ' H' → D.nx σ' H') → tWhile tc tb D σ H) : tWhile tc tb D σ H := h main
section
variable {K : PySem.W.Frag} {tt : TT} {te : TE} {vs : List Nat} {σ : L2.St} {H : Hp} {D : Addr} {Qd : Hp → Prop}
/-- a turn's end, the heap told by Same -/
theorem lc_turnS {n : Nat} {keep : Nat → Bool} {val : Nat → V} {i : Nat} {σ2 : L2.St} {H2 : Hp} (hD : H D = none) (hi : i < n) (hn : n < 100000) (s2 : Same H H2)
    (h2 : H2 D = some (.lst (gives i keep val)))
    (ht : ∀ Q : Bool → Hp → Prop, (∀ H3, Same H2 H3 → Q (keep i) H3) → tt σ2 H2 Q)
    (he : ∀ H3, Same H2 H3 → ∀ Q : VK, keep i = true → (∀ H4, Same H3 H4 → Q (val i) H4) → te σ2 H3 Q) :
    tt σ2 H2 fun b H3 => if b = true then te σ2 H3 fun y H4 => ∃ acc, H4 D = some (.lst acc) ∧ acc.length < sizeLine ∧
      (Same H (upd H4 D (.lst (acc ++ [y]))) ∧ (upd H4 D (.lst (acc ++ [y]))) D = some (.lst (gives (i + 1) keep val)))
      else (Same H H3 ∧ H3 D = some (.lst (gives (i + 1) keep val))) := by
  refine ht _ fun H3 s3 => ?_
  by_cases h : keep i = true
  · rw [h]
    refine iteT (he H3 s3 _ h fun H4 s4 => ⟨_, s4 _ _ (s3 _ _ h2), small_line (by have := gives_len i keep val; omega), Same.at ((s2.trans s3).trans s4) hD, ?_⟩)
    rw [upd_same, gives_succ, if_pos h]
  · have h' : keep i = false := by cases e : keep i <;> simp_all
    rw [h']
    refine iteF ⟨s2.trans s3, ?_⟩
    rw [gives_succ, if_neg h]
    exact s3 _ _ h2
/-- [.. for i, x in enumerate(xs) ..] -/
theorem lcEn {a : Addr} {xs : List V} {j1 j2 : Nat} (keep : Nat → Bool) (val : Nat → V) (hx : SqL K H a xs) (hD : H D = none) (hn : xs.length < 100000)
    (hw : ∀ x y, wipe (((wipe σ vs).set j1 (some x)).set j2 (some y)) vs = wipe σ vs)
    (ht : ∀ i x H2 (Q : Bool → Hp → Prop), xs[i]? = some x → Same H H2 → (∀ H3, Same H2 H3 → Q (keep i) H3) → tt (((wipe σ vs).set j1 (some (.int (i : Nat)))).set j2 (some x)) H2 Q)
    (he : ∀ i x H2 (Q : VK), xs[i]? = some x → keep i = true → Same H H2 → (∀ H3, Same H2 H3 → Q (val i) H3) → te (((wipe σ vs).set j1 (some (.int (i : Nat)))).set j2 (some x)) H2 Q)
    (hd : ∀ H', Same H H' → H' D = some (.lst (gives xs.length keep val)) → Qd H') :
    ∃ W : Nat → Nat → Hp → Prop, (∃ m, W 0 m (upd H D (.lst []))) ∧ ∀ i m H, W i m H →
      ((Ite K a).stop i H ∧ Qd H) ∨ ((Ite K a).go i H ∧ ∃ Nx : Hp → Prop, (∀ H', Nx H' → ∃ m', m' < m ∧ W (i + 1) m' H') ∧
        ∀ x H', (Ite K a).yld i H x H' → gTup K 2 (gCons (gName j1) (gCons (gName j2) gNil)) x (wipe σ vs) H' fun σ2 H2 => wipe σ2 vs = wipe σ vs ∧ tt σ2 H2 fun b H3 =>
          if b = true then te σ2 H3 fun y H4 => ∃ acc, H4 D = some (.lst acc) ∧ acc.length < sizeLine ∧ Nx (upd H4 D (.lst (acc ++ [y]))) else Nx H3) := by
  refine ⟨fun i m H' => m = xs.length - i ∧ i ≤ xs.length ∧ Same H H' ∧ H' D = some (.lst (gives i keep val)), ⟨_, rfl, Nat.zero_le _, Same.new hD, upd_same⟩, ?_⟩
  rintro i m H2 ⟨rfl, hi, s2, h2⟩
  have hq := s2.seq hx
  rcases Nat.lt_or_ge i xs.length with lt | ge
  · refine .inr ⟨⟨xs, xs[i], hq, List.getElem?_eq_getElem lt⟩, fun H' => Same H H' ∧ H' D = some (.lst (gives (i + 1) keep val)), fun H' p' => ⟨xs.length - (i + 1), by omega, rfl, lt, p'.1, p'.2⟩, ?_⟩
    rintro v H' ⟨T, x, rfl, hT, rfl, f⟩
    have sT : Same H (upd H2 T (.tup [.int (i : Nat), x])) := s2.trans (Same.new hT)
    have hTD := Same.new (o := .tup [.int (i : Nat), x]) hT _ _ h2
    refine ⟨T, _, rfl, SqT.of upd_same, rfl, _, _, rfl, _, _, rfl, rfl, hw _ _, ?_⟩
    exact lc_turnS hD lt hn sT hTD (fun Q q => ht i x _ Q (f xs hq) sT q) (fun H3 s3 Q k q => he i x H3 Q (f xs hq) k (sT.trans s3) q)
  · obtain rfl : i = xs.length := Nat.le_antisymm hi ge
    exact .inl ⟨⟨xs, hq, Nat.le_refl _⟩, hd H2 s2 h2⟩
/-- [.. for x in xs ..] whose turns may make things -/
theorem lcLn {a : Addr} {xs : List V} {j : Nat} (keep : Nat → Bool) (val : Nat → V) (hx : SqL K H a xs) (hD : H D = none) (hn : xs.length < 100000)
    (hw : ∀ x, wipe ((wipe σ vs).set j (some x)) vs = wipe σ vs)
    (ht : ∀ i x H2 (Q : Bool → Hp → Prop), xs[i]? = some x → Same H H2 → (∀ H3, Same H2 H3 → Q (keep i) H3) → tt ((wipe σ vs).set j (some x)) H2 Q)
    (he : ∀ i x H2 (Q : VK), xs[i]? = some x → keep i = true → Same H H2 → (∀ H3, Same H2 H3 → Q (val i) H3) → te ((wipe σ vs).set j (some x)) H2 Q)
    (hd : ∀ H', Same H H' → H' D = some (.lst (gives xs.length keep val)) → Qd H') :
    ∃ W : Nat → Nat → Hp → Prop, (∃ m, W 0 m (upd H D (.lst []))) ∧ ∀ i m H, W i m H →
      ((Itl K a).stop i H ∧ Qd H) ∨ ((Itl K a).go i H ∧ ∃ Nx : Hp → Prop, (∀ H', Nx H' → ∃ m', m' < m ∧ W (i + 1) m' H') ∧
        ∀ x H', (Itl K a).yld i H x H' → gName j x (wipe σ vs) H' fun σ2 H2 => wipe σ2 vs = wipe σ vs ∧ tt σ2 H2 fun b H3 =>
          if b = true then te σ2 H3 fun y H4 => ∃ acc, H4 D = some (.lst acc) ∧ acc.length < sizeLine ∧ Nx (upd H4 D (.lst (acc ++ [y]))) else Nx H3) :=
  lc_list (xs := xs) (fun i H2 => Same H H2 ∧ H2 D = some (.lst (gives i keep val))) ⟨Same.new hD, upd_same⟩
    (fun i H2 hi e => e.1.seq hx)
    (fun i x H2 hi e => ⟨hw _, lc_turnS hD (List.getElem?_eq_some_iff.mp hi).1 hn e.1 e.2 (fun Q q => ht i x H2 Q hi e.1 q) (fun H3 s3 Q k q => he i x H3 Q hi k (e.1.trans s3) q)⟩)
    (fun H2 e => hd H2 e.1 e.2)
/-- [.. for i in range(lo, lo + n) ..] whose turns may make things -/
theorem lcRn {lo : Int} {n j : Nat} (keep : Nat → Bool) (val : Nat → V) (hD : H D = none) (hn : n < 100000)
    (hw : ∀ x, wipe ((wipe σ vs).set j (some x)) vs = wipe σ vs)
    (ht : ∀ i H2 (Q : Bool → Hp → Prop), i < n → Same H H2 → (∀ H3, Same H2 H3 → Q (keep i) H3) → tt ((wipe σ vs).set j (some (.int (lo + (i : Nat))))) H2 Q)
    (he : ∀ i H2 (Q : VK), i < n → keep i = true → Same H H2 → (∀ H3, Same H2 H3 → Q (val i) H3) → te ((wipe σ vs).set j (some (.int (lo + (i : Nat))))) H2 Q)
    (hd : ∀ H', Same H H' → H' D = some (.lst (gives n keep val)) → Qd H') :
    ∃ W : Nat → Nat → Hp → Prop, (∃ m, W 0 m (upd H D (.lst []))) ∧ ∀ i m H, W i m H →
      ((Itr lo n).stop i H ∧ Qd H) ∨ ((Itr lo n).go i H ∧ ∃ Nx : Hp → Prop, (∀ H', Nx H' → ∃ m', m' < m ∧ W (i + 1) m' H') ∧
        ∀ x H', (Itr lo n).yld i H x H' → gName j x (wipe σ vs) H' fun σ2 H2 => wipe σ2 vs = wipe σ vs ∧ tt σ2 H2 fun b H3 =>
          if b = true then te σ2 H3 fun y H4 => ∃ acc, H4 D = some (.lst acc) ∧ acc.length < sizeLine ∧ Nx (upd H4 D (.lst (acc ++ [y]))) else Nx H3) :=
  lc_range (fun i H2 => Same H H2 ∧ H2 D = some (.lst (gives i keep val))) ⟨Same.new hD, upd_same⟩
    (fun i H2 hi e => ⟨hw _, lc_turnS hD hi hn e.1 e.2 (fun Q q => ht i H2 Q hi e.1 q) (fun H3 s3 Q k q => he i H3 Q hi k (e.1.trans s3) q)⟩)
    (fun H2 e => hd H2 e.1 e.2)
/-- [.. for a, b in zip(xs, ys) ..], lists of any lengths, whose turns may make things -/
theorem lcZn {a b : Addr} {xs ys : List V} {j1 j2 : Nat} (keep : Nat → Bool) (val : Nat → V) (hx : SqL K H a xs) (hy : SqL K H b ys) (hD : H D = none) (hn : xs.length < 100000)
    (hw : ∀ x y, wipe (((wipe σ vs).set j1 (some x)).set j2 (some y)) vs = wipe σ vs)
    (ht : ∀ i x y H2 (Q : Bool → Hp → Prop), xs[i]? = some x → ys[i]? = some y → Same H H2 → (∀ H3, Same H2 H3 → Q (keep i) H3) → tt (((wipe σ vs).set j1 (some x)).set j2 (some y)) H2 Q)
    (he : ∀ i x y H2 (Q : VK), xs[i]? = some x → ys[i]? = some y → keep i = true → Same H H2 → (∀ H3, Same H2 H3 → Q (val i) H3) → te (((wipe σ vs).set j1 (some x)).set j2 (some y)) H2 Q)
    (hd : ∀ H', Same H H' → H' D = some (.lst (gives (min xs.length ys.length) keep val)) → Qd H') :
    ∃ W : Nat → Nat → Hp → Prop, (∃ m, W 0 m (upd H D (.lst []))) ∧ ∀ i m H, W i m H →
      ((Itz K a b).stop i H ∧ Qd H) ∨ ((Itz K a b).go i H ∧ ∃ Nx : Hp → Prop, (∀ H', Nx H' → ∃ m', m' < m ∧ W (i + 1) m' H') ∧
        ∀ x H', (Itz K a b).yld i H x H' → gTup K 2 (gCons (gName j1) (gCons (gName j2) gNil)) x (wipe σ vs) H' fun σ2 H2 => wipe σ2 vs = wipe σ vs ∧ tt σ2 H2 fun b H3 =>
          if b = true then te σ2 H3 fun y H4 => ∃ acc, H4 D = some (.lst acc) ∧ acc.length < sizeLine ∧ Nx (upd H4 D (.lst (acc ++ [y]))) else Nx H3) := by
  refine ⟨fun i m H' => m = min xs.length ys.length - i ∧ i ≤ min xs.length ys.length ∧ Same H H' ∧ H' D = some (.lst (gives i keep val)), ⟨_, rfl, Nat.zero_le _, Same.new hD, upd_same⟩, ?_⟩
  rintro i m H2 ⟨rfl, hi, s2, h2⟩
  have qx := s2.seq hx
  have qy := s2.seq hy
  rcases Nat.lt_or_ge i (min xs.length ys.length) with lt | ge
  · have lx : i < xs.length := by omega
    have ly : i < ys.length := by omega
    refine .inr ⟨⟨xs, ys, xs[i], ys[i], qx, qy, List.getElem?_eq_getElem lx, List.getElem?_eq_getElem ly⟩, fun H' => Same H H' ∧ H' D = some (.lst (gives (i + 1) keep val)),
      fun H' p' => ⟨min xs.length ys.length - (i + 1), by omega, rfl, lt, p'.1, p'.2⟩, ?_⟩
    rintro v H' ⟨T, x, y, rfl, hT, rfl, fx, fy⟩
    have sT : Same H (upd H2 T (.tup [x, y])) := s2.trans (Same.new hT)
    have hTD := Same.new (o := .tup [x, y]) hT _ _ h2
    refine ⟨T, _, rfl, SqT.of upd_same, rfl, _, _, rfl, _, _, rfl, rfl, hw _ _, ?_⟩
    exact lc_turnS hD lx hn sT hTD (fun Q q => ht i x y _ Q (fx xs qx) (fy ys qy) sT q) (fun H3 s3 Q k q => he i x y H3 Q (fx xs qx) (fy ys qy) k (sT.trans s3) q)
  · obtain rfl : i = min xs.length ys.length := Nat.le_antisymm hi ge
    refine .inl ⟨⟨xs, ys, qx, qy, ?_⟩, hd H2 s2 h2⟩
    rcases Nat.le_total xs.length ys.length with c | c
    · exact .inl (by omega)
    · exact .inr (by omega)
end
end SH

/-! SH7: set(xs) of a list of hin, and sorted of such a set, any number of members below the table's bound. -/
namespace SH
open PySem PySem.Spec PyProof.Rows L2
/-- the object that set() makes -/
abbrev setO0 (w : World) : Obj :=
  { cls := .type "set", dict := none, data := .set #[] 0 (.fresh 0 0 (!w.params.followText "set-order")) }
section
variable {P : Program} {w : World} {A : Around} {E : Value → Shared → Prop} {s : Shared}
set_option maxHeartbeats 3200000 in
theorem set_of_list {l : Addr} {xs : Array Value} (ns : List Int) {Q : Value → Shared → Prop} (calm : A.handled = none)
    (isl : s.heap.IsList l xs) (hin : IntsAre xs.toList ns) (few : ns.length + 1 < scanBound)
    (h : ∀ (g : Heap) (tk c : Nat), SetR w g s.heap.objs.size (fun j => decide (j ∈ ns)) c → c ≤ ns.length →
      (∀ b o, s.heap.get? b = some o → g.get? b = some o) →
      Q (.ref s.heap.objs.size) { s with heap := g, toks := tk }) :
    wpAny (model P w) A (call (.type "set") [.ref l]) Q E s := by
  have size : xs.size = ns.length := by rw [← Array.length_toList]; exact IntsAre.length hin
  obtain ⟨_, _, m1⟩ := F.called_set.mro
  have m2 := F.called_set.made
  have m3 := F.called_set.sub
  refine wpAny_call (codeAny_of_tree (show wpAny _ _ (callAny (.type "set") _) _ _ _ from ?_))
  refine wpAny_pure ⟨Code.quiet_builtin _ (by decide +kernel),
    codeAny_builtin F.entry_type_call ?_⟩
  rw [Around.under_plain (weight_type_call_type "set"
    [.ref l] []) rfl]
  have m4 := F.called_set.notType
  have m5 := F.called_set.canCreate
  have m6 := F.typeCall_set_1 (.ref l)
  repeat (any_goals (first | wp_step | assumption))
  refine codeAny_mono (code_set_led1 (.ref l) (E := E)
    (Q₁ := fun ob t => ob = .ref s.heap.objs.size ∧ t = { s with heap := s.heap.push (setO0 w) }) ⟨rfl, rfl⟩)
    fun res t made => ?_
  cases res with
  | error e => exact made
  | ok fl =>
  cases fl with
  | ret ob =>
    obtain ⟨rfl, rfl⟩ := made
    have at0 : (s.heap.push (setO0 w)).get? s.heap.objs.size = some (setO0 w) := Heap.get?_push_size _ rfl
    have ty0 : Shared.TypeIs { s with heap := s.heap.push (setO0 w) } (.ref s.heap.objs.size) "set" := ⟨_, at0, rfl⟩
    have m7 := F.called_set.init.lookup
    have m8 := F.called_set.init.bind (.ref s.heap.objs.size)
    repeat (any_goals (first | wp_step | assumption))
    refine codeAny_mono (codeAny_call_builtin (R := wants (fun r t => r = .none ∧ ∃ g tk c, t = { s with heap := g, toks := tk } ∧
        SetR w g s.heap.objs.size (fun j => decide (j ∈ ns)) c ∧ c ≤ ns.length ∧ ∀ b o, s.heap.get? b = some o → g.get? b = some o) E)
      F.called_set.init.plain F.entry_set_init (check_set_init_1 ty0 ?_)) fun res2 t2 done => ?_
    · obtain ⟨ol, lk, cl, en, dl⟩ := isl
      obtain ⟨c1, d1, x1, sl1⟩ := ol
      simp only at cl dl
      subst cl dl
      have lk' : (s.heap.push (setO0 w)).get? l = some { cls := .type "list", dict := d1, data := .seq xs en, slots := sl1 } :=
        Heap.get?_push_of_some _ lk
      have u1 := F.sub_list_set
      have u2 := F.sub_list_frozenset
      have u3 : (Value.type "list" == Value.type "dict") = false := by decide
      have isl1 : (s.heap.push (setO0 w)).IsList l xs := ⟨_, lk', rfl, en, rfl⟩
      unfold Builtin.«set.__init__» noKeywords
      unfold Builtin.Frozenset.updateFrom
      generalize iterE : pyIter = itf
      wp_walk
      subst iterE
      refine wpAny_pyIter_list isl1 (wpAny_bind (wpAny_runValue ?_))
      have lt : l < s.heap.objs.size := Heap.lt_size lk
      have calm3 : A.in1.in1.in1.handled = none := by simp [calm]
      have sz : (s.heap.push (setO0 w)).objs.size = s.heap.objs.size + 1 := Heap.size_push ..
      have ne1 : l ≠ (s.heap.push (setO0 w)).objs.size := by rw [sz]; exact Nat.ne_of_lt (Nat.lt_succ_of_lt lt)
      have ne2 : s.heap.objs.size ∉ [(s.heap.push (setO0 w)).objs.size, l] := by
        rw [sz]
        simp only [List.mem_cons, List.not_mem_nil, or_false, not_or]
        exact ⟨Nat.ne_of_lt (Nat.lt_succ_self _), Ne.symm (Nat.ne_of_lt lt)⟩
      have vals : ∀ (i : Nat) (v : Value), xs[i]? = some v → ∃ k t, ns[i]? = some k ∧ v = .int k t := fun i v e => by
        have il : i < ns.length := by rw [← size]; exact (Array.getElem?_eq_some_iff.mp e).1
        obtain ⟨t, et⟩ := IntsAre.int_at hin i v (by rw [Array.getElem?_toList]; exact e)
        refine ⟨ns.getD i 0, t, ?_, et⟩
        rw [List.getD_eq_getElem?_getD, List.getElem?_eq_getElem il]
        rfl
      refine set_update_ints ((Walks.list calm3 _ l ne1 xs).toS) s.heap.objs.size ne2 ns size few vals (xs.size - 0) 0 _ (by omega)
        (Nat.zero_le _) ⟨⟨_, Heap.get?_push_size _ rfl, rfl, rfl⟩, isl1.push _⟩ ⟨0, Nat.le_refl 0, ?_⟩ ?_
      · exact setR_new_at (Heap.get?_push_of_some _ at0)
      · intro t c mv cl1 R
        obtain ⟨g, gens, drawn, tk, os⟩ := t
        obtain rfl : gens = s.gens := mv.gens
        obtain rfl : drawn = s.drawn := mv.drawn
        obtain rfl : os = s.os := mv.os
        refine wpAny_pure (show wpAny _ _ (ret Value.none) _ _ _ from ?_)
        rw [size] at cl1
        refine wpAny_pure ⟨rfl, g, tk, c, rfl, R, cl1, fun b o e => mv.heap b o ?_ ?_⟩
        · have lb : b < s.heap.objs.size := Heap.lt_size e
          rw [sz]
          simp only [List.mem_cons, List.not_mem_nil, or_false, not_or]
          exact ⟨Nat.ne_of_lt lb, Nat.ne_of_lt (Nat.lt_succ_of_lt lb)⟩
        · exact Heap.get?_push_of_some _ (Heap.get?_push_of_some _ e)
    · cases res2 with
      | error e => exact done
      | ok fl2 =>
      cases fl2 with
      | ret r =>
        obtain ⟨rfl, g, tk, c, rfl, R, cl1, kp⟩ := done
        repeat (any_goals (first | wp_step | assumption))
        exact h _ _ _ R cl1 kp
      | _ => exact done.elim
  | _ => exact made.elim
theorem set_sorted {a : Addr} {S : Int → Bool} {n : Nat} {Q : Value → Shared → Prop} (R : SetR w s.heap a S n) (calm : A.handled = none)
    (h : ∀ t p (out : Array Value) (c : Nat) (ns : List Int), (∀ b o, s.heap.get? b = some o → t.heap.get? b = some o) → t.gens = s.gens → t.os = s.os →
      s.heap.objs.size ≤ p → t.heap.get? p = some (seqObj "list" out c) → IntsAre out.toList ns → ns.Pairwise (· < ·) →
      (∀ k, k ∈ ns ↔ S k = true) → ns.length = n → Q (.ref p) t) :
    wpAny (model P w) A (call (.builtin "sorted") [.ref a]) Q E s := by
  obtain ⟨ob, es, ep, tb, look, exact', dat, good, dis, mem, bnd, fits, cnt, ris, led⟩ := R
  refine Calls.call_function_entry kind_sorted plain_sorted entry_sorted (args_sorted1 _) ?_
  unfold Builtin.«sorted»
  refine wpAny_bind (m := checkCount "sorted" 1 1 _) (wpAny_pure (wpAny_bind (collect_set (A := A.in1) calm ⟨ob, look, exact'.1, dat⟩ fits bnd ris led
    fun t1 vs kp grow gn osn perm => ?_)))
  have lenV : vs.length = n := by rw [perm.length_eq, List.length_map, Array.length_toList]; exact cnt
  have intsV : IntsAre vs (vs.map Builtin.Re.reRawOf) := ints_of vs fun v hv => by
    obtain ⟨e, he, rfl⟩ := List.mem_map.mp (perm.mem_iff.mp hv)
    obtain ⟨k, tk, x, _⟩ := good e he
    exact ⟨k, tk, x⟩
  have permK : (vs.map Builtin.Re.reRawOf).Perm (es.toList.map keyOf) := by
    have := perm.map Builtin.Re.reRawOf
    rwa [List.map_map] at this
  have small : vs.length ≤ sizeLine := by
    have : scanBound = 4096 := rfl
    rw [lenV, sizeLine_eq]
    omega
  refine wpAny_bind (wpAny_newList ?_ small)
  have look2 : (t1.heap.push (seqObj "list" vs.toArray 0)).get? t1.heap.objs.size = some (seqObj "list" vs.toArray 0) :=
    Heap.get?_push_size _ rfl
  refine wpAny_bind (wpAny_holding (wpAny_call_entry slot_list_sort ⟨_, look2, rfl⟩ entry_list_sort
    (SrtO.list_sort_ord SrtO.swo_int look2 small (fun two => SrtO.ints_sortable intsV two) fun out o1 o2 => ⟨_, rfl, ?_⟩) (args_list_sort _)))
  obtain ⟨k1, k2, k3⟩ := SrtO.ints_out intsV o1 o2
  obtain ⟨c, ec⟩ := sortedHeap_at (vs := vs) (out := out.toArray) look2
  have pn : (out.map SrtO.iv).Perm (es.toList.map keyOf) := k2.trans permK
  refine wpAny_pure ⟨_, rfl, h _ t1.heap.objs.size out.toArray c (out.map SrtO.iv) (fun b u e => ?_) gn osn grow ec k1
    (lt_of_le_nodup _ k3 (pn.nodup_iff.mpr dis)) (fun k => by rw [pn.mem_iff, ← mem k]) ?_⟩
  · have e1 := kp b u e
    have lb : b < t1.heap.objs.size := Heap.lt_size e1
    have lb2 : b ≠ t1.heap.objs.size := Nat.ne_of_lt lb
    show (sortedHeap (t1.heap.push (seqObj "list" vs.toArray 0)) t1.heap.objs.size vs out.toArray).get? b = some u
    rw [sortedHeap_old lb2 (by rw [size_push']; exact Nat.lt_succ_of_lt lb)]
    exact Heap.get?_push_of_some _ e1
  · rw [pn.length_eq, List.length_map, Array.length_toList]
    exact cnt
end
/-- set(xs) -/
def rSetOfI (K : PySem.W.Frag) (w : World) : List V → Hp → VK → Prop := fun xs H Q => ∃ (l : Addr) (ns : List Int), xs = [.ref l] ∧ SqL K H l (iv ns) ∧ ns.length < 4000 ∧
  ∀ a n, H a = none → n ≤ ns.length → Q (.ref a) (upd H a (SetO w a (fun j => decide (j ∈ ns)) n))
theorem cr_setOfI {X : Cx} (hc : X.calm = true) : CallR X (.type "set") (rSetOfI X.K X.w) := by
  intro pins s σ H xs us Q I r h
  obtain ⟨l, ns, rfl, hl, hf, q⟩ := h
  rw [Vals.ref1 r]
  obtain ⟨its, rv, pl, hz⟩ := I.list hl
  have hn : H s.heap.objs.size = none := I.hok.fresh (Nat.le_refl _)
  refine set_of_list (P := X.prog) (w := X.w) ns (I.ok.hd hc) pl.isList (by simpa using ints_of_vals rv) (by have : scanBound = 4096 := rfl; omega) fun g tk c R cl kp => ?_
  exact ⟨.ref s.heap.objs.size, upd H s.heap.objs.size (SetO X.w s.heap.objs.size (fun j => decide (j ∈ ns)) c), I.laid (t' := tk) kp (Nat.le_refl _) (setO_new R), rfl, q _ c hn cl⟩
/-- sorted(found), any number of members -/
def rSortedN (w : World) : List V → Hp → VK → Prop := fun vs H Q => ∃ (a : Addr) (S : Int → Bool) (n : Nat), vs = [V.ref a] ∧ H a = some (SetO w a S n) ∧
  ∀ (ns : List Int) (p : Addr), ns.Pairwise (· < ·) → (∀ k : Int, k ∈ ns ↔ S k = true) → ns.length = n → H p = none → Q (.ref p) (upd H p (.lst (iv ns)))
theorem cr_sortedN {X : Cx} (hc : X.calm = true) : CallR X (.builtin "sorted") (rSortedN X.w) := by
  intro pins s σ H vs us Q I r h
  obtain ⟨a, S, n, rfl, ha, q⟩ := h
  have R := setO_get I ha
  rw [Vals.ref1 r]
  have nb : n < scanBound := by obtain ⟨_, es, _, _, _, _, _, _, _, _, b, _, e, _⟩ := R; omega
  refine set_sorted R (I.ok.hd hc) fun t p out c ns kp gn osn hp look hin asc mem len => ?_
  have small : (iv ns).length ≤ sizeLine := by
    have : scanBound = 4096 := rfl
    rw [List.length_map, len, sizeLine_eq]
    omega
  have hn : H p = none := I.hok.fresh hp
  have J : Inv X pins σ (upd H p (.lst (iv ns))) { s with heap := t.heap, gens := t.gens, drawn := t.drawn, toks := t.toks } :=
    I.call (ch := []) (Un.laid kp hp hn) (I.hok.laid kp hp ⟨small, out.toList, c, vals_of_ints hin, look⟩)
      (by rw [gn]; exact I.bare) (fun _ z => nomatch z)
  have e : t = { s with heap := t.heap, gens := t.gens, drawn := t.drawn, toks := t.toks } := by
    cases t; cases s; cases osn; rfl
  rw [e]
  exact ⟨.ref p, _, J, rfl, q ns p asc mem len hn⟩
end SH

/-! SH8: sorted(xs) of a list of ints, any length below 4000. -/
namespace SH
open PySem PySem.Spec PyProof.Rows L2
def rSortedAny (K : PySem.W.Frag) : List V → Hp → VK → Prop := fun vs H Q => ∃ (a : Addr) (ns : List Int), vs = [V.ref a] ∧ SqL K H a (ns.map V.int) ∧ ns.length < 4000 ∧
  ∀ (ns' : List Int) (p : Addr), ns'.Perm ns → ns'.Pairwise (· ≤ ·) → H p = none → Q (.ref p) (upd H p (.lst (ns'.map V.int)))
section
variable {X : Cx}
theorem cr_sortedAny : CallR X (.builtin "sorted") (rSortedAny X.K) := by
  intro pins s σ H vs us Q I r h
  obtain ⟨a, ns, rfl, hs, h64, q⟩ := h
  obtain ⟨its, rv, hl, _⟩ := I.list hs
  rw [Vals.ref1 r]
  have hi := rv.ints
  have hb : its.length ≤ sizeLine := by rw [hi.length, sizeLine_eq]; omega
  refine PyProof.Rows.sorted_intsAny hl.isList hi hb fun out ns' h1 h2 h3 => ?_
  obtain ⟨ep, he'⟩ := PyProof.Rows.sortedAll_at s.heap its out
  have hlen : (ns'.map V.int).length ≤ sizeLine := by rw [List.length_map, h2.length_eq, sizeLine_eq]; omega
  exact ⟨.ref _, upd H (s.heap.objs.size + 1) (.lst (ns'.map V.int)), I.laid (t' := s.toks) (fun _ _ => PyProof.Rows.sortedAll_old) (Nat.le_succ _) ⟨hlen, out.toList, ep, vals_of_ints h1, he'⟩, rfl, q ns' _ h2 h3 (I.hok.fresh (Nat.le_succ _))⟩
end
end SH

/-! SH9: values of any kind: data that stands in the heap, its repr, its type. -/
namespace SH
open PySem PySem.Spec PyProof.Rows L2

mutual
inductive Dx (H : Hp) : V → PyData → List Addr → Prop
  | non : Dx H .non .none []
  | bl (b : Bool) : Dx H (.bl b) (.bool b) []
  | int (i : Int) : Dx H (.int i) (.int i) []
  | str (x : Str) : Dx H (.str x) (.str x) []
  | lst {a : Addr} {xs : List V} {ds : List PyData} {as : List Addr} : H a = some (.lst xs) → DxAll H xs ds as → Dx H (.ref a) (.list ds) (a :: as)
  | tup {a : Addr} {xs : List V} {ds : List PyData} {as : List Addr} : H a = some (.tup xs) → DxAll H xs ds as → Dx H (.ref a) (.tuple ds) (a :: as)
  | emp {a : Addr} : H a = some (.dK []) → Dx H (.ref a) (.dict []) [a]
inductive DxAll (H : Hp) : List V → List PyData → List Addr → Prop
  | nil : DxAll H [] [] []
  | cons {v : V} {vs : List V} {d : PyData} {ds : List PyData} {as bs : List Addr} : Dx H v d as → DxAll H vs ds bs → DxAll H (v :: vs) (d :: ds) (as ++ bs)
end
mutual
theorem Dx.imp {H H' : Hp} : ∀ {d : PyData} {v : V} {as : List Addr}, Dx H v d as → (∀ a ∈ as, ∀ o, H a = some o → H' a = some o) → Dx H' v d as
  | .none, _, _, h, k => by cases h; exact .non
  | .bool b, _, _, h, k => by cases h; exact .bl b
  | .int i, _, _, h, k => by cases h; exact .int i
  | .str x, _, _, h, k => by cases h; exact .str x
  | .list ds, _, _, h, k => by
    cases h with
    | lst e r => exact .lst (k _ List.mem_cons_self _ e) (DxAll.imp r fun a m => k a (List.mem_cons_of_mem _ m))
  | .tuple ds, _, _, h, k => by
    cases h with
    | tup e r => exact .tup (k _ List.mem_cons_self _ e) (DxAll.imp r fun a m => k a (List.mem_cons_of_mem _ m))
  | .dict _, _, _, h, k => by
    cases h with
    | emp e => exact .emp (k _ List.mem_cons_self _ e)
theorem DxAll.imp {H H' : Hp} : ∀ {ds : List PyData} {vs : List V} {as : List Addr}, DxAll H vs ds as → (∀ a ∈ as, ∀ o, H a = some o → H' a = some o) → DxAll H' vs ds as
  | [], _, _, h, k => by cases h; exact .nil
  | d :: ds, _, _, h, k => by
    cases h with
    | cons h1 h2 => exact .cons (Dx.imp h1 fun a m => k a (List.mem_append_left _ m)) (DxAll.imp h2 fun a m => k a (List.mem_append_right _ m))
end
theorem Dx.same {H H' : Hp} {v : V} {d : PyData} {as : List Addr} (h : Dx H v d as) (s : Same H H') : Dx H' v d as := h.imp fun a _ o e => s a o e
theorem Dx.but {H H' : Hp} {g : Addr} {v : V} {d : PyData} {as : List Addr} (h : Dx H v d as) (s : SameBut g H H') (n : g ∉ as) : Dx H' v d as :=
  h.imp fun a m o e => s a o e fun z => n (z ▸ m)
theorem DxAll.append {H : Hp} : ∀ {xs ys : List V} {ds es : List PyData} {as bs : List Addr}, DxAll H xs ds as → DxAll H ys es bs → DxAll H (xs ++ ys) (ds ++ es) (as ++ bs)
  | _, _, _, _, _, _, .nil, h => h
  | _, _, _, _, _, _, .cons h1 h2, h => by
    rw [List.append_assoc]
    exact .cons h1 (DxAll.append h2 h)
theorem dx_ints {H : Hp} : ∀ ns : List Int, DxAll H (iv ns) (ns.map PyData.int) []
  | [] => .nil
  | n :: r => .cons (as := []) (.int n) (dx_ints r)
theorem dx_one {H : Hp} {v : V} {d : PyData} {as : List Addr} (h : Dx H v d as) : DxAll H [v] [d] as := by
  have := DxAll.cons h .nil
  rwa [List.append_nil] at this
theorem dx_dI {H : Hp} {a : Addr} {ns : List Int} (h : H a = some (.lst (iv ns))) : Dx H (.ref a) (dI ns) [a] := .lst h (dx_ints ns)
theorem DxAll.len {H : Hp} : ∀ {xs : List V} {ds : List PyData} {as : List Addr}, DxAll H xs ds as → xs.length = ds.length
  | _, _, _, .nil => rfl
  | _, _, _, .cons _ h => congrArg (· + 1) h.len
theorem DxAll.at {H : Hp} : ∀ {xs : List V} {ds : List PyData} {as : List Addr} {i : Nat} {x : V}, DxAll H xs ds as → xs[i]? = some x → ∃ d bs, ds[i]? = some d ∧ Dx H x d bs
  | _, _, _, _, _, .nil, e => by simp at e
  | _, _, _, 0, _, .cons h _, e => by simp at e; subst e; exact ⟨_, _, rfl, h⟩
  | _, _, _, i + 1, x, .cons _ t, e => by
    obtain ⟨d, bs, h1, h2⟩ := DxAll.at (i := i) (x := x) t (by simpa using e)
    exact ⟨d, bs, by simpa using h1, h2⟩
section
variable {X : Cx} {pins : List (Addr × Obj)} {σ : L2.St} {H : Hp} {s : Shared}
theorem Dx.fresh (I : Inv X pins σ H s) {a : Addr} {o : HO} (e : H a = some o) : a < s.heap.objs.size := I.hok.lt e
mutual
theorem Dx.reads (I : Inv X pins σ H s) : ∀ (d : PyData) (v : V) (u : Value) (as : List Addr), Dx H v d as → RelV v u → ∃ bs, Reads s.heap u d bs ∧ ∀ b ∈ bs, b ∈ as
  | .none, _, _, _, h, r => by
    cases h
    cases r
    exact ⟨_, Reads.none, fun _ z => z⟩
  | .bool b, _, _, _, h, r => by
    cases h
    cases r
    exact ⟨_, Reads.bool b, fun _ z => z⟩
  | .int i, _, _, _, h, r => by
    cases h
    obtain ⟨t, rfl⟩ := r
    exact ⟨_, Reads.int i t, fun _ z => z⟩
  | .str x, _, _, _, h, r => by
    cases h
    obtain ⟨t, rfl⟩ := r
    exact ⟨_, Reads.str x t, fun _ z => z⟩
  | .list ds, _, _, _, h, r => by
    cases h with
    | lst hs ha =>
      cases r
      obtain ⟨its, rv, ⟨o, n, ho, hc, _, hd⟩, _⟩ := I.list (SqL.of hs)
      obtain ⟨bs, hr, hb⟩ := Dx.readsAll I ds _ its _ ha rv
      refine ⟨_, Reads.list ho hc hd hr, fun b m => ?_⟩
      rcases List.mem_cons.mp m with rfl | m
      · exact List.mem_cons_self
      · exact List.mem_cons_of_mem _ (hb b m)
  | .tuple ds, _, _, _, h, r => by
    cases h with
    | tup hs ha =>
      cases r
      obtain ⟨its, rv, ⟨o, ho, hc, n, hd⟩, _⟩ := I.tuple (SqT.of hs)
      obtain ⟨bs, hr, hb⟩ := Dx.readsAll I ds _ its _ ha rv
      exact ⟨_, Reads.tuple ho hc hd hr, fun b m => List.mem_cons_of_mem _ (hb b m)⟩
  | .dict _, _, _, _, h, r => by
    cases h with
    | emp e =>
      cases r
      obtain ⟨_, _, vs, rel, o, es, ep, ho, ex, hd, _, pr, _⟩ := dk_of I.hok e
      cases rel
      have e0 : es.toList = [] := by
        cases q : es.toList with
        | nil => rfl
        | cons x y => rw [q] at pr; cases pr
      exact ⟨_, Reads.dict (as := []) (bs := []) ho ex.1 hd (by rw [e0]; exact .nil) (by rw [e0]; exact .nil), fun b m => m⟩
theorem Dx.readsAll (I : Inv X pins σ H s) : ∀ (ds : List PyData) (vs : List V) (us : List Value) (as : List Addr), DxAll H vs ds as → Vals vs us → ∃ bs, ReadsAll s.heap us ds bs ∧ ∀ b ∈ bs, b ∈ as
  | [], _, _, _, h, r => by
    cases h
    cases r
    exact ⟨_, ReadsAll.nil, fun _ z => z⟩
  | d :: ds, _, _, _, h, r => by
    cases h with
    | cons h1 h2 =>
      cases r with
      | cons r1 r2 =>
        obtain ⟨as, q1, m1⟩ := Dx.reads I d _ _ _ h1 r1
        obtain ⟨bs, q2, m2⟩ := Dx.readsAll I ds _ _ _ h2 r2
        refine ⟨_, ReadsAll.cons q1 q2, fun b m => ?_⟩
        rcases List.mem_append.mp m with m | m
        · exact List.mem_append_left _ (m1 b m)
        · exact List.mem_append_right _ (m2 b m)
end
end
/-! ### repr of such -/
/-- a value that can be shown, in at most L signs -/
def Fits (n L : Nat) (d : PyData) : Prop := d.showable = true ∧ d.depth ≤ n ∧ d.shown.length ≤ L
def rReprX : List V → Hp → VK → Prop := fun xs H Q =>
  ∃ (x : V) (d : PyData) (as : List Addr), xs = [x] ∧ Dx H x d as ∧ (d.hasDict = true → sysModules ∉ as) ∧ Fits 50 16000000 d ∧ Q (.str d.shown) H
section
variable {X : Cx}
theorem call_reprX (qt : Quiet X.A) (hu : X.A.units + 64 < cLine) : CallR X (.builtin "repr") rReprX := by
  intro pins s σ H xs us Q I r h
  obtain ⟨x, d, as, rfl, hd, hn, ⟨h1, h3, h4⟩, q⟩ := h
  obtain ⟨u, rfl, rx⟩ := vals1 r
  have hz : d.shown.length ≤ sizeLine := Nat.le_trans h4 (by decide)
  obtain ⟨bs, rd, hb⟩ := Dx.reads I d _ _ _ hd rx
  have atom : ∀ (a : Addr), u = .ref a → wpAny (model X.prog X.w) X.A (call (.builtin "repr") [u]) (EP X pins σ Q) X.xe s := fun a e => by
    subst e
    exact repr_of_reads' rd h1 (fun e m => hn e (hb _ m)) qt (by omega) (fun _ _ e => e)
      (fun h' u tk hk => ⟨.str d.shown, H, I.kept hk, ⟨u, rfl⟩, q⟩) hz
  cases hd with
  | non => cases rx; exact PySem.P.repr_of_none ⟨.str _, H, I.tok _, ⟨_, rfl⟩, q⟩
  | bl b => cases rx; exact PySem.P.repr_of_bool ⟨.str _, H, I.tok _, ⟨_, rfl⟩, by cases b <;> exact q⟩
  | int i =>
    obtain ⟨t, rfl⟩ := rx
    exact PySem.P.repr_of_int (of_decide_eq_true h1) ⟨.str _, H, I.tok _, ⟨_, rfl⟩, q⟩
  | str y =>
    obtain ⟨t, rfl⟩ := rx
    exact PySem.P.repr_of_str ⟨.str _, H, I.tok _, ⟨_, rfl⟩, q⟩ hz
  | lst _ _ => exact atom _ rx
  | tup _ _ => exact atom _ rx
  | emp _ => exact atom _ rx
end
/-! ### type(x), isinstance(x, T) -/
/-- the name of the type -/
def tyD : PyData → String
  | .none => "NoneType"
  | .bool _ => "bool"
  | .int _ => "int"
  | .str _ => "str"
  | .list _ => "list"
  | .tuple _ => "tuple"
  | .dict _ => "dict"
theorem Dx.tyX {K : PySem.W.Frag} {H : Hp} {v : V} {d : PyData} {as : List Addr} (h : Dx H v d as) : TyX K H v (.type (tyD d)) := by
  cases h with
  | non => exact .base .non
  | bl b => exact .base (.bl b)
  | int i => exact .base (.int i)
  | str x => exact .base (.str x)
  | lst e _ => exact .base (.lst e)
  | tup e _ => exact .base (.tup e)
  | emp e => exact .base (.dK e)
def rTyX : List V → Hp → VK → Prop := fun xs H Q => ∃ (x : V) (d : PyData) (as : List Addr), xs = [x] ∧ Dx H x d as ∧ Q (.ty (tyD d)) H
section
variable {X : Cx}
theorem call_typeX : CallR X (.type "type") rTyX := by
  intro pins s σ H xs us Q I r h
  obtain ⟨x, d, as, rfl, hd, q⟩ := h
  obtain ⟨u, rfl, rx⟩ := vals1 r
  have nb : ∀ d : PyData, (Value.type (tyD d) == Value.type "builtin_function_or_method") = false := fun d => by cases d <;> (simp only [tyD]; decide +kernel)
  have fin : s.TypeIs u (tyD d) → wpAny (model X.prog X.w) X.A (call (.type "type") [u]) (EP X pins σ Q) X.xe s :=
    fun h1 => call_type_of h1 (nb d) ⟨.ty _, H, I, rfl, q⟩
  cases hd with
  | non => cases rx; exact fin rfl
  | bl b => cases rx; exact fin rfl
  | int i => obtain ⟨t, rfl⟩ := rx; exact fin rfl
  | str y => obtain ⟨t, rfl⟩ := rx; exact fin rfl
  | lst e _ =>
    cases rx
    obtain ⟨its, rv, p, _⟩ := I.list (SqL.of e)
    exact fin p.isList.typeIs
  | tup e _ =>
    cases rx
    obtain ⟨its, rv, p, _⟩ := I.tuple (SqT.of e)
    exact fin p.typeIs
  | emp e =>
    cases rx
    obtain ⟨_, _, vs, rel, o, es, ep, ho, ex, _⟩ := dk_of I.hok e
    exact fin ⟨o, ho, ex.1⟩
/-- isinstance(x, T), T a built-in type -/
def rIsX : List V → Hp → VK → Prop := fun xs H Q => ∃ (x : V) (T : String) (d : PyData) (as : List Addr) (b : Bool), xs = [x, .ty T] ∧ Dx H x d as ∧ kitB (tyD d) T = some b ∧ Q (.bl b) H
theorem call_isX : CallR X (.builtin "isinstance") rIsX := by
  intro pins s σ H xs us Q I r h
  obtain ⟨x, T, d, as, b, rfl, hd, e, q⟩ := h
  exact call_isi pins s σ H _ us Q I r ⟨x, .ty T, _, _, b, rfl, .ty T, hd.tyX, kit_ty e, q⟩
theorem kit_int (d : PyData) : kitB (tyD d) "int" = some (match d with | .int _ => true | .bool _ => true | _ => false) := by
  cases d <;> (simp only [tyD]; decide +kernel)
theorem kit_bool (d : PyData) : kitB (tyD d) "bool" = some (match d with | .bool _ => true | _ => false) := by
  cases d <;> (simp only [tyD]; decide +kernel)
theorem kit_list (d : PyData) : kitB (tyD d) "list" = some (match d with | .list _ => true | _ => false) := by
  cases d <;> (simp only [tyD]; decide +kernel)
/-! ### new lists, known to stand apart from the module table -/
def tLstB (t : TA) : TE := fun σ H Q => t σ H fun xs H1 => xs.length ≤ sizeLine ∧ ∀ p, H1 p = none → p ≠ sysModules → Q (.ref p) (upd H1 p (.lst xs))
theorem pe_lstB {es : List Expr} {pos : Pos} {t : TA} (h : PA X es t) : PE X (.List es pos) (tLstB t) := by
  refine ⟨fun pins s σ H Q I hq => ?_⟩
  refine wpAny_List_spliced (thn (h.run pos pins s σ H _ I hq) fun us s1 ⟨xs, H1, I1, r, z, q⟩ => ⟨by rw [← r.length]; exact z, ?_⟩)
  have hf : H1 s1.heap.objs.size = none := I1.hok.fresh (Nat.le_refl _)
  refine ⟨.ref s1.heap.objs.size, upd H1 s1.heap.objs.size (.lst xs), I1.laid (t' := s1.toks) (fun b u e => Heap.get?_push_of_some _ e) (Nat.le_refl _) ?_, rfl, q _ hf (Nat.ne_of_gt I1.big)⟩
  exact ⟨z, us, 0, r, Heap.get?_push_size _ rfl⟩
def rCatB (K : PySem.W.Frag) : R2 := fun x y H Q => ∃ l b xs zs, x = .ref l ∧ y = .ref b ∧ SqL K H l xs ∧ SqL K H b zs ∧ xs.length + zs.length ≤ sizeLine ∧ ∀ p, H p = none → p ≠ sysModules → Q (.ref p) (upd H p (.lst (xs ++ zs)))
theorem op_catB : OpR X (binaryOp .Add) (rCatB X.K) := by
  intro pins s σ H x y v u Q I rx ry h
  obtain ⟨l, b, xs, zs, rfl, rfl, hx, hy, hz, q⟩ := h
  cases rx
  cases ry
  obtain ⟨its, r, ⟨o, n, ho, hc, hd, ht⟩, _⟩ := I.list hx
  obtain ⟨its2, r2, ⟨o2, n2, ho2, hc2, hd2, ht2⟩, _⟩ := I.list hy
  have e1 := r.length
  have e2 := r2.length
  obtain ⟨oc, od, dt, sl⟩ := o
  obtain ⟨oc2, od2, dt2, sl2⟩ := o2
  simp only at hc hd ht hc2 hd2 ht2
  subst hc hd ht hc2 hd2 ht2
  have ea : its.toArray ++ its2.toArray = (its ++ its2).toArray := by simp
  refine concat_meets ⟨_, ho, rfl⟩ ⟨_, ho2, rfl⟩ noFill_list_add seq_list_add PySem.F.slot_list_add PySem.F.entry_list_add
    (PySem.F.args_list_add_2 _ _) (list_addW l b its.toArray its2.toArray n n2 none none sl sl2 (by simp only [List.size_toArray]; omega)) ⟨ho, ho2, ?_⟩
  rw [ea]
  exact ⟨.ref _, _, I.lnew (t' := s.toks) (r.append r2) (by rw [List.length_append]; omega), rfl, q _ I.fresh (Nat.ne_of_gt I.big)⟩
end

def tDNewB : TE := fun _ H Q => ∀ p, H p = none → p ≠ sysModules → Q (.ref p) (upd H p (.dK []))
theorem pe_dnewB {X : Cx} {pos : Pos} : PE X (.Dict [] [] pos) tDNewB := ⟨fun pins s σ H Q I h =>
  wpAny_Dict_empty ⟨.ref s.heap.objs.size, _, I.laid (a := s.heap.objs.size) (o := .dK []) (t' := s.toks) (fun _ _ q => Heap.get?_push_of_some _ q) (Nat.le_refl _) (dk_empty s.heap I.big), rfl, h _ (I.hok.fresh (Nat.le_refl _)) (Nat.ne_of_gt I.big)⟩⟩
theorem atI_all {xs : List V} {p : V → Prop} (h : ∀ v ∈ xs, p v) {z : Int} (h0 : 0 ≤ z) (h1 : z < xs.length) : ∃ v, atI xs z = some v ∧ p v := by
  have e : z = ((z.toNat : Nat) : Int) := by omega
  have hl : z.toNat < xs.length := by omega
  refine ⟨xs[z.toNat], ?_, h _ (List.getElem_mem hl)⟩
  exact (congrArg (atI xs) e).trans (atI_nat (List.getElem?_eq_getElem hl))
theorem Fits.mono {n m L M : Nat} {d : PyData} (h : Fits n L d) (h1 : n ≤ m) (h2 : L ≤ M) : Fits m M d := ⟨h.1, Nat.le_trans h.2.1 h1, Nat.le_trans h.2.2 h2⟩
theorem small_log' {v : Int} (h : v.natAbs < 2 ^ 1900) : v.natAbs.log2 < 1920 := by
  by_cases e : v.natAbs = 0
  · rw [e]; decide
  · have := (Nat.log2_lt e).mpr h
    omega
theorem fit_int {v : Int} (h : v.natAbs < 2 ^ 1900) : Fits 0 1921 (.int v) := ⟨decide_eq_true (small_log' h), Nat.le_refl _, int_text_len_1921 (small_log' h)⟩
theorem fit_bool (b : Bool) : Fits 0 1921 (.bool b) := ⟨rfl, Nat.le_refl _, by cases b <;> decide⟩
theorem fit_none : Fits 0 1921 .none := ⟨rfl, Nat.le_refl _, by decide⟩
theorem fit_emp : Fits 1 1921 (.dict []) := ⟨rfl, by decide, by decide⟩
theorem fitAll {n L : Nat} : ∀ {ds : List PyData}, (∀ d ∈ ds, Fits n L d) → PyData.showableAll ds = true ∧ PyData.depthAll ds ≤ n ∧ ((PyData.shownAll ds).map (·.length)).sum ≤ L * ds.length ∧ (PyData.shownAll ds).length = ds.length
  | [], _ => ⟨rfl, Nat.zero_le _, Nat.le_refl _, rfl⟩
  | d :: r, h => by
    obtain ⟨a, b, c, e⟩ := fitAll (ds := r) fun v hv => h v (List.mem_cons_of_mem _ hv)
    obtain ⟨f1, f2, f3⟩ := h d List.mem_cons_self
    refine ⟨?_, ?_, ?_, ?_⟩
    · show (d.showable && PyData.showableAll r) = true
      rw [f1, a]; rfl
    · show max d.depth (PyData.depthAll r) ≤ n
      omega
    · show d.shown.length + ((PyData.shownAll r).map (·.length)).sum ≤ L * (r.length + 1)
      rw [Nat.mul_add]
      omega
    · show (PyData.shownAll r).length + 1 = r.length + 1
      omega
theorem fit_list {n L m : Nat} {ds : List PyData} (h : ∀ d ∈ ds, Fits n L d) (hl : ds.length ≤ m) : Fits (n + 1) (m * (L + 2) + 3) (.list ds) := by
  obtain ⟨a, b, c, e⟩ := fitAll h
  refine ⟨a, Nat.succ_le_succ b, ?_⟩
  show (listText (PyData.shownAll ds)).length ≤ _
  have := listText_len_le (PyData.shownAll ds)
  have h1 : L * ds.length + 2 * ds.length ≤ m * (L + 2) := by
    rw [← Nat.add_mul, Nat.mul_comm]
    exact Nat.mul_le_mul_right _ hl
  omega
theorem fit_tup {n L m : Nat} {ds : List PyData} (h : ∀ d ∈ ds, Fits n L d) (hl : ds.length ≤ m) : Fits (n + 1) (m * (L + 2) + 3) (.tuple ds) := by
  obtain ⟨a, b, c, e⟩ := fitAll h
  refine ⟨a, Nat.succ_le_succ b, ?_⟩
  show (tupleText (PyData.shownAll ds)).length ≤ _
  have := tupleText_len_le (PyData.shownAll ds)
  have h1 : L * ds.length + 2 * ds.length ≤ m * (L + 2) := by
    rw [← Nat.add_mul, Nat.mul_comm]
    exact Nat.mul_le_mul_right _ hl
  omega
theorem fit_ints {ns : List Int} (h : ∀ v ∈ ns, v.natAbs < 2 ^ 1900) : ∀ d ∈ ns.map PyData.int, Fits 0 1921 d := fun d hd => by
  obtain ⟨v, hv, rfl⟩ := List.mem_map.mp hd
  exact fit_int (h v hv)
theorem hasDict_app : ∀ xs ys : List PyData, PyData.hasDictAll (xs ++ ys) = (PyData.hasDictAll xs || PyData.hasDictAll ys)
  | [], _ => rfl
  | d :: r, ys => by
    show (d.hasDict || PyData.hasDictAll (r ++ ys)) = (d.hasDict || PyData.hasDictAll r || PyData.hasDictAll ys)
    rw [hasDict_app r ys, Bool.or_assoc]
end SH

/-! SH10: lists of pairs of ints (tuples), and comprehensions over them. -/
namespace SH
open PySem PySem.Spec PyProof.Rows L2

theorem lt1900 {n : Nat} (h : n < 2 ^ 128) : n < 2 ^ 1900 := Nat.lt_of_lt_of_le h (Nat.pow_le_pow_right (by decide) (by decide))
theorem noD {d : PyData} {as : List Addr} (h : d.hasDict = false) : d.hasDict = true → sysModules ∉ as := fun h' => by rw [h] at h'; cases h'
inductive Prs (H : Hp) : List V → List (Int × Int) → Prop
  | nil : Prs H [] []
  | cons {r : Addr} {s l : Int} {vs : List V} {os : List (Int × Int)} : H r = some (.tup [.int s, .int l]) → Prs H vs os → Prs H (.ref r :: vs) ((s, l) :: os)
theorem Prs.len {H : Hp} : ∀ {vs : List V} {os : List (Int × Int)}, Prs H vs os → vs.length = os.length
  | _, _, .nil => rfl
  | _, _, .cons _ h => congrArg (· + 1) h.len
theorem Prs.at {H : Hp} : ∀ {vs : List V} {os : List (Int × Int)} {i : Nat} {x : V}, Prs H vs os → vs[i]? = some x → ∃ r s l, x = .ref r ∧ os[i]? = some (s, l) ∧ H r = some (.tup [.int s, .int l])
  | _, _, _, _, .nil, e => by simp at e
  | _, _, 0, _, .cons h _, e => by simp at e; subst e; exact ⟨_, _, _, rfl, rfl, h⟩
  | _, _, i + 1, x, .cons _ t, e => by
    obtain ⟨r, s, l, h1, h2, h3⟩ := Prs.at (i := i) (x := x) t (by simpa using e)
    exact ⟨r, s, l, h1, by simpa using h2, h3⟩
theorem Prs.imp {H H' : Hp} : ∀ {vs : List V} {os : List (Int × Int)}, Prs H vs os → (∀ r o, H r = some (.tup o) → H' r = some (.tup o)) → Prs H' vs os
  | _, _, .nil, _ => .nil
  | _, _, .cons h t, k => .cons (k _ _ h) (t.imp k)
theorem Prs.same {H H' : Hp} {vs : List V} {os : List (Int × Int)} (h : Prs H vs os) (s : Same H H') : Prs H' vs os := h.imp fun r o e => s _ _ e
theorem Prs.but {H H' : Hp} {g : Addr} {xs : List V} {vs : List V} {os : List (Int × Int)} (h : Prs H vs os) (s : SameBut g H H') (hg : H g = some (.lst xs)) : Prs H' vs os :=
  h.imp fun r o e => s _ _ e (ne_of e hg (by intro z; cases z))
theorem Prs.upd {H : Hp} {g : Addr} {xs : List V} {o : HO} {vs : List V} {os : List (Int × Int)} (h : Prs H vs os) (hg : H g = some (.lst xs)) : Prs (L2.upd H g o) vs os :=
  h.imp fun r q e => by rw [upd_ne (ne_of e hg (by intro z; cases z))]; exact e
theorem Prs.append {H : Hp} : ∀ {vs ws : List V} {os qs : List (Int × Int)}, Prs H vs os → Prs H ws qs → Prs H (vs ++ ws) (os ++ qs)
  | _, _, _, _, .nil, h => h
  | _, _, _, _, .cons h1 h2, h => .cons h1 (h2.append h)
theorem Prs.set {H : Hp} {r : Addr} {s l : Int} (hr : H r = some (.tup [.int s, .int l])) : ∀ {vs : List V} {os : List (Int × Int)} (i : Nat), Prs H vs os → Prs H (vs.set i (.ref r)) (os.set i (s, l))
  | _, _, _, .nil => .nil
  | _, _, 0, .cons _ t => .cons hr t
  | _, _, i + 1, .cons h t => .cons h (Prs.set hr i t)
theorem Prs.take {H : Hp} : ∀ {vs : List V} {os : List (Int × Int)} (i : Nat), Prs H vs os → Prs H (vs.take i) (os.take i)
  | _, _, 0, _ => .nil
  | _, _, i + 1, .nil => .nil
  | _, _, i + 1, .cons h t => .cons h (Prs.take i t)
/-- as data -/
def pD (o : Int × Int) : PyData := .tuple [.int o.1, .int o.2]
theorem Prs.dx {H : Hp} : ∀ {vs : List V} {os : List (Int × Int)}, Prs H vs os → ∃ as, DxAll H vs (os.map pD) as
  | _, _, .nil => ⟨_, .nil⟩
  | _, _, .cons (s := s) (l := l) h t => by
    obtain ⟨as, d⟩ := t.dx
    exact ⟨_, .cons (.tup h (dx_ints [s, l])) d⟩
theorem Prs.dp {K : PySem.W.Frag} {H : Hp} : ∀ {vs : List V} {os : List (Int × Int)}, Prs H vs os → DpAll K H vs (os.map pD)
  | _, _, .nil => .nil
  | _, _, .cons (s := s) (l := l) h t => .cons (.tup (SqT.of h) (dp_ints [s, l])) t.dp
theorem fit_pD {o : Int × Int} (h1 : o.1.natAbs < 2 ^ 1900) (h2 : o.2.natAbs < 2 ^ 1900) : Fits 1 3849 (pD o) :=
  fit_tup (m := 2) (L := 1921) (fun d hd => by
    simp only [List.mem_cons, List.not_mem_nil, or_false] at hd
    rcases hd with rfl | rfl
    · exact fit_int h1
    · exact fit_int h2) (Nat.le_refl _)
theorem noDict_pD : ∀ os : List (Int × Int), PyData.hasDictAll (os.map pD) = false
  | [] => rfl
  | o :: r => by
    show ((pD o).hasDict || PyData.hasDictAll (r.map pD)) = false
    rw [noDict_pD r]
    rfl
theorem lay_pD : ∀ os : List (Int × Int), PyData.canLayAll0 (os.map pD) = true
  | [] => rfl
  | o :: r => by
    show ((pD o).canLay0 && PyData.canLayAll0 (r.map pD)) = true
    rw [lay_pD r]
    rfl
theorem depth_pD : ∀ os : List (Int × Int), PyData.depthAll (os.map pD) ≤ 1
  | [] => by decide
  | o :: r => by
    show max (pD o).depth (PyData.depthAll (r.map pD)) ≤ 1
    have h1 : (pD o).depth = 1 := rfl
    have := depth_pD r
    omega
theorem shaped_pD (os : List (Int × Int)) : SeqAt.shaped (.list (os.map pD)) = true := by
  unfold SeqAt.shaped
  have d : (PyData.list (os.map pD)).depth ≤ 2 := Nat.succ_le_succ (depth_pD os)
  show (PyData.canLayAll0 (os.map pD) && decide ((PyData.list (os.map pD)).depth ≤ 64)) = true
  rw [lay_pD, decide_eq_true (by omega)]
  rfl
section
variable {K : PySem.W.Frag} {tt : TT} {te : TE} {vs : List Nat} {σ : L2.St} {H : Hp} {D : Addr} {Qd : Hp → Prop}
/-- [.. for a, b in pairs ..] -/
theorem lcPn {a : Addr} {xs : List V} {os : List (Int × Int)} {j1 j2 : Nat} (keep : Nat → Bool) (val : Nat → V) (ha : H a = some (.lst xs)) (hp : Prs H xs os) (hD : H D = none) (hn : os.length < 100000)
    (hw : ∀ x y, wipe (((wipe σ vs).set j1 (some x)).set j2 (some y)) vs = wipe σ vs)
    (ht : ∀ i s l H2 (Q : Bool → Hp → Prop), os[i]? = some (s, l) → Same H H2 → (∀ H3, Same H2 H3 → Q (keep i) H3) → tt (((wipe σ vs).set j1 (some (.int s))).set j2 (some (.int l))) H2 Q)
    (he : ∀ i s l H2 (Q : VK), os[i]? = some (s, l) → keep i = true → Same H H2 → (∀ H3, Same H2 H3 → Q (val i) H3) → te (((wipe σ vs).set j1 (some (.int s))).set j2 (some (.int l))) H2 Q)
    (hd : ∀ H', Same H H' → H' D = some (.lst (gives os.length keep val)) → Qd H') :
    ∃ W : Nat → Nat → Hp → Prop, (∃ m, W 0 m (upd H D (.lst []))) ∧ ∀ i m H, W i m H →
      ((Itl K a).stop i H ∧ Qd H) ∨ ((Itl K a).go i H ∧ ∃ Nx : Hp → Prop, (∀ H', Nx H' → ∃ m', m' < m ∧ W (i + 1) m' H') ∧
        ∀ x H', (Itl K a).yld i H x H' → gTup K 2 (gCons (gName j1) (gCons (gName j2) gNil)) x (wipe σ vs) H' fun σ2 H2 => wipe σ2 vs = wipe σ vs ∧ tt σ2 H2 fun b H3 =>
          if b = true then te σ2 H3 fun y H4 => ∃ acc, H4 D = some (.lst acc) ∧ acc.length < sizeLine ∧ Nx (upd H4 D (.lst (acc ++ [y]))) else Nx H3) := by
  have hl := hp.len
  refine lc_list (xs := xs) (fun i H2 => Same H H2 ∧ H2 D = some (.lst (gives i keep val))) ⟨Same.new hD, upd_same⟩
    (fun i H2 hi e => SqL.of (e.1 _ _ ha)) (fun i x H2 hi e => ?_) (fun H2 e => hd H2 e.1 (by rw [← hl]; exact e.2))
  obtain ⟨r, s, l, rfl, ho, hr⟩ := hp.at hi
  refine ⟨r, _, rfl, SqT.of (e.1 _ _ hr), rfl, _, _, rfl, _, _, rfl, rfl, hw _ _, ?_⟩
  have il : i < xs.length := (List.getElem?_eq_some_iff.mp hi).1
  exact lc_turnS hD (by omega) hn e.1 e.2 (fun Q q => ht i s l H2 Q ho e.1 q) (fun H3 s3 Q k q => he i s l H3 Q ho k (e.1.trans s3) q)
end
end SH

/-! SH11: len(set(xs)) with repeats; lists of lists of ints. -/
namespace SH
open PySem PySem.Spec PyProof.Rows L2

theorem met_ok (val : Nat → Int) : ∀ n, (PyProof.Rows.firstMet val n).Nodup ∧ ∀ k, k ∈ PyProof.Rows.firstMet val n ↔ k ∈ (List.range n).map val
  | 0 => ⟨List.nodup_nil, fun k => Iff.rfl⟩
  | n + 1 => by
    obtain ⟨a, b⟩ := met_ok val n
    rw [PyProof.Rows.firstMet_succ]
    have e : ∀ (d : List Int) (v : Int), step_dedup d v = if (d.any (· == v)) = true then d else d ++ [v] := fun d v => rfl
    rw [e]
    by_cases c : (PyProof.Rows.firstMet val n).any (· == val n) = true
    · rw [if_pos c]
      obtain ⟨y, hy, ey⟩ := List.any_eq_true.mp c
      have ey2 : y = val n := eq_of_beq ey
      refine ⟨a, fun k => ?_⟩
      rw [b, List.range_succ, List.map_append, List.mem_append]
      constructor
      · exact .inl
      · rintro (h | h)
        · exact h
        · have : k = val n := by simpa using h
          rw [this, ← ey2]
          exact (b y).mp hy
    · rw [if_neg c]
      have no : val n ∉ PyProof.Rows.firstMet val n := fun h => c (List.any_eq_true.mpr ⟨_, h, by simp⟩)
      refine ⟨?_, fun k => ?_⟩
      · rw [List.nodup_append]
        refine ⟨a, by simp, fun x hx y hy => ?_⟩
        rw [List.mem_singleton.mp hy]
        intro z
        exact no (z ▸ hx)
      · rw [List.mem_append, b, List.range_succ, List.map_append, List.mem_append]
        simp
theorem met_all (ns : List Int) : ∀ k, k ∈ (List.range ns.length).map (fun i => ns.getD i 0) ↔ k ∈ ns := fun k => by
  rw [List.mem_map]
  constructor
  · rintro ⟨i, hi, rfl⟩
    have := List.mem_range.mp hi
    rw [List.getD_eq_getElem?_getD, List.getElem?_eq_getElem this]
    exact List.getElem_mem this
  · intro h
    obtain ⟨i, hi, rfl⟩ := List.getElem_of_mem h
    exact ⟨i, List.mem_range.mpr hi, by rw [List.getD_eq_getElem?_getD, List.getElem?_eq_getElem hi]; rfl⟩
def tLenSetG (K : PySem.W.Frag) (ta : TE) : TE := fun σ H Q => ta σ H fun x H1 => ∃ (l : Addr) (ns : List Int), x = .ref l ∧ SqL K H1 l (iv ns) ∧ ns.length ≤ 4000 ∧
  ∀ d : List Int, d.Nodup → (∀ k, k ∈ d ↔ k ∈ ns) → Q (.int (d.length : Nat)) H1
theorem pe_lenSetG {X : Cx} {a : Expr} {ta : TE} {p p2 q pos : Pos} (hg : Gl X "len") (hm : X.mg "len" = none) (hg2 : Gl X "set") (hm2 : X.mg "set" = none) (ha : PE X a ta) (hc : X.calm = true := by rfl)
    (na : starEach [a] X.env = (false, eval a X.env) :: starEach [] X.env := by rfl) : PE X (.Call (.Name "len" p) [.Call (.Name "set" p2) [a] [] q] [] pos) (tLenSetG X.K ta) := by
  refine ⟨fun pins s σ H Q I h => ?_⟩
  refine Call_ (ld_blt I hg hm boot_len ?_)
  refine PyProof.Rows.callWith_builtin1 (PyProof.Rows.args_cons ?_ rfl) rfl rfl
  refine Call_ (ld_blt I hg2 hm2 boot_set ?_)
  refine PyProof.Rows.callWith_type1 (PyProof.Rows.args_cons (thn (ha.run pins s σ H _ I h) fun v s1 ⟨x, H1, I1, r1, q1⟩ => PyProof.Rows.args_nil ?_) na) na rfl
  obtain ⟨l, ns, rfl, hq, hl, q1⟩ := q1
  cases r1
  obtain ⟨its, r, pl, hz⟩ := I1.list hq
  have hlen : its.toArray.size = ns.length := by rw [List.size_toArray, ← r.length, List.length_map]
  refine call_set_list (I1.ok.hd hc) pl.isList (by simpa using RZ.intsAre_vals r) (by rw [hlen]; unfold scanBound; omega) fun h' tk hS hk => ?_
  refine PyProof.Rows.args_nil ?_
  rw [hlen] at hS
  obtain ⟨m1, m2⟩ := met_ok (fun i => ns.getD i 0) ns.length
  have ml := PyProof.Rows.firstMet_length_le (fun i => ns.getD i 0) ns.length
  generalize PyProof.Rows.firstMet (fun i => ns.getD i 0) ns.length = d at *
  obtain ⟨o, es, ep, t, ho, hex, hd, _, _, _, hf, hn⟩ := hS
  have I2 : Inv X pins σ H1 { s1 with heap := h', toks := tk } := I1.kept fun b o e => hk b o (Heap.lt_size e) e
  exact call_len_set ho hex hd hf (by rw [hn] <;> omega) ⟨.int d.length, H1, I2.tok _, ⟨_, by rw [hn]⟩, q1 d m1 fun k => (m2 k).trans (met_all ns k)⟩

inductive Lsts (H : Hp) : List V → List (List Int) → Prop
  | nil : Lsts H [] []
  | cons {r : Addr} {L : List Int} {vs : List V} {Ls : List (List Int)} : H r = some (.lst (iv L)) → Lsts H vs Ls → Lsts H (.ref r :: vs) (L :: Ls)
theorem Lsts.len {H : Hp} : ∀ {vs : List V} {os : List (List Int)}, Lsts H vs os → vs.length = os.length
  | _, _, .nil => rfl
  | _, _, .cons _ h => congrArg (· + 1) h.len
theorem Lsts.at {H : Hp} : ∀ {vs : List V} {os : List (List Int)} {i : Nat} {x : V}, Lsts H vs os → vs[i]? = some x → ∃ r L, x = .ref r ∧ os[i]? = some L ∧ H r = some (.lst (iv L))
  | _, _, _, _, .nil, e => by simp at e
  | _, _, 0, _, .cons h _, e => by simp at e; subst e; exact ⟨_, _, rfl, rfl, h⟩
  | _, _, i + 1, x, .cons _ t, e => by
    obtain ⟨r, L, h1, h2, h3⟩ := Lsts.at (i := i) (x := x) t (by simpa using e)
    exact ⟨r, L, h1, by simpa using h2, h3⟩
theorem Lsts.same {H H' : Hp} : ∀ {vs : List V} {os : List (List Int)}, Lsts H vs os → Same H H' → Lsts H' vs os
  | _, _, .nil, _ => .nil
  | _, _, .cons h t, k => .cons (k _ _ h) (t.same k)
theorem Lsts.upd {H : Hp} {D : Addr} {o : HO} : ∀ {vs : List V} {os : List (List Int)}, Lsts H vs os → V.ref D ∉ vs → Lsts (L2.upd H D o) vs os
  | _, _, .nil, _ => .nil
  | _, _, .cons (r := r) h t, n => .cons (by rw [upd_ne (fun e => n (by rw [e]; exact List.mem_cons_self))]; exact h) (t.upd fun m => n (List.mem_cons_of_mem _ m))
theorem Lsts.append {H : Hp} : ∀ {vs ws : List V} {os qs : List (List Int)}, Lsts H vs os → Lsts H ws qs → Lsts H (vs ++ ws) (os ++ qs)
  | _, _, _, _, .nil, h => h
  | _, _, _, _, .cons h1 h2, h => .cons h1 (h2.append h)
end SH

/-! SH12: set(xs) of a list of any length, few different members. -/
namespace SH
open PySem PySem.Spec PyProof.Rows L2
theorem nodup_small : ∀ (D : Nat) {ks : List Int}, ks.Nodup → (∀ k ∈ ks, 0 ≤ k ∧ k < D) → ks.length ≤ D
  | 0, ks, _, b => by
    cases ks with
    | nil => exact Nat.le_refl _
    | cons x r => have := b x List.mem_cons_self; omega
  | D + 1, ks, nd, b => by
    have e := nodup_small D (ks := ks.erase (D : Int)) (nd.erase _) fun k hk => by
      have h1 := b k (List.mem_of_mem_erase hk)
      have h2 : k ≠ (D : Int) := fun e => by
        rw [e] at hk
        exact (List.Nodup.not_mem_erase nd) hk
      omega
    have := List.length_erase_le (a := (D : Int)) (l := ks)
    by_cases c : (D : Int) ∈ ks
    · rw [List.length_erase_of_mem c] at e
      omega
    · rw [List.erase_of_not_mem c] at e
      omega
theorem setR_few {w : World} {h : Heap} {a : Addr} {S : Int → Bool} {n D : Nat} (R : SetR w h a S n) (b : ∀ k, S k = true → 0 ≤ k ∧ k < D) : n ≤ D := by
  obtain ⟨o, es, ep, t, _, _, _, _, nd, mem, _, _, e, _⟩ := R
  have := nodup_small D nd fun k hk => b k ((mem k).mpr hk)
  rw [List.length_map, Array.length_toList] at this
  omega
section
variable {P : Program} {w : World} {A : Around} {E : Value → Shared → Prop} {s : Shared}
theorem set_update_few {I : Addr} {fp wr : List Addr} {G : Array GenState → Array GenState → Prop} {n : Nat} {Pv : Nat → Value → Prop} {St : Nat → Shared → Prop} {R : Result → Shared → Prop}
    (W : WalksS P w A.in1 I fp wr G n Pv St) (S : Addr) (nf : S ∉ fp) (ns : List Int) (hn : n = ns.length) (few : ∀ v ∈ ns, 0 ≤ v ∧ v < (1000 : Nat)) (hval : ∀ i v, Pv i v → ∃ k t, ns[i]? = some k ∧ v = .int k t) :
    ∀ (left i : Nat) (s : Shared), n - i = left → i ≤ n → St i s → (∃ c, SetR w s.heap S (fun j => decide (j ∈ ns.take i)) c) →
      (∀ s' c, Moved (S :: wr) G s s' → c ≤ 1000 → SetR w s'.heap S (fun j => decide (j ∈ ns)) c → R (.ok (.ret .none)) s') →
      codeAny (model P w) A (.builtin "set.update.loop" ⟨[.ref S, .ref I], []⟩) R s := by
  have nw : S ∉ wr := fun h => nf (W.sub _ h)
  have up : ∀ b ∈ wr, b ∈ S :: wr := fun b hb => List.mem_cons_of_mem _ hb
  intro left
  induction left with
  | zero =>
    intro i s hk hi st ⟨c, hS⟩ hR
    obtain rfl : i = n := by omega
    refine codeAny_builtin F.entry_set_update_loop ?_
    rw [Around.under_plainId F.plain_set_update_loop _]
    show wpAny _ A.in1 (pyNext (.ref I) >>= _) _ _ s
    refine wpAny_bind (W.done s _ _ st fun s' m => ?_)
    show wpAny _ A.in1 (ret Value.none) _ _ s'
    rw [List.take_of_length_le (by omega)] at hS
    exact wpAny_pure (hR s' c (m.mono up) (setR_few hS fun k hk => few k (of_decide_eq_true hk)) (hS.at fun o e => m.heap S o nw e))
  | succ left ih =>
    intro i s hk hi st ⟨c, hS⟩ hR
    have lt : i < n := by omega
    refine codeAny_builtin F.entry_set_update_loop ?_
    rw [Around.under_plainId F.plain_set_update_loop _]
    show wpAny _ A.in1 (pyNext (.ref I) >>= _) _ _ s
    refine wpAny_bind (W.item i s _ _ lt st fun v s' pv st' m => ?_)
    obtain ⟨z, t, hz, rfl⟩ := hval i v pv
    have S1 : SetR w s'.heap S (fun j => decide (j ∈ ns.take i)) c := hS.at fun o e => m.heap S o nw e
    have cb : c ≤ 1000 := setR_few S1 fun k hk => few k (List.mem_of_mem_take (of_decide_eq_true hk))
    show wpAny _ A.in1 (holding [Value.int z t] (setAdd S (.int z t)) >>= _) _ _ s'
    refine wpAny_bind (wpAny_holding ?_)
    unfold setAdd
    refine wpAny_holding ?_
    refine wpAny_bind ((intKind P w).pyHash (k := z) (intKind_is _ _ _ _) ?_)
    refine setR_add_hashed (s := { s' with toks := s'.toks + 1 }) S1 (by have : scanBound = 4096 := rfl; omega) fun h' oth S2 => ?_
    have S3 : SetR w h' S (fun j => decide (j ∈ ns.take (i + 1))) (if decide (z ∈ ns.take i) = true then c else c + 1) := S2.congr fun j => by
      rw [List.take_add_one, hz]
      simp [List.mem_append]
    refine wpAny_pure ⟨plainId_quiet F.plain_set_update_loop _, ih (i + 1) _ (by omega) lt (W.frame _ s' _ _ st' (Nat.le_succ _) fun b hb o e => ?_) ⟨_, S3⟩ fun s'' c2 m2 c2b SS => ?_⟩
    · rw [oth.2 b (fun h : b = S => nf (by rw [← h]; exact hb))]; exact e
    · refine hR s'' c2 (Moved.trans W.gtrans ((m.mono up).then_heap (Nat.le_succ _) fun b o hb e => ?_) m2) c2b SS
      rw [oth.2 b (fun h : b = S => hb (by rw [h]; exact List.mem_cons_self))]; exact e
set_option maxHeartbeats 3200000 in
theorem set_of_few {l : Addr} {xs : Array Value} (ns : List Int) {Q : Value → Shared → Prop} (calm : A.handled = none)
    (isl : s.heap.IsList l xs) (hin : IntsAre xs.toList ns) (few : ∀ v ∈ ns, 0 ≤ v ∧ v < (1000 : Nat))
    (h : ∀ (g : Heap) (tk c : Nat), SetR w g s.heap.objs.size (fun j => decide (j ∈ ns)) c → c ≤ 1000 →
      (∀ b o, s.heap.get? b = some o → g.get? b = some o) →
      Q (.ref s.heap.objs.size) { s with heap := g, toks := tk }) :
    wpAny (model P w) A (call (.type "set") [.ref l]) Q E s := by
  have size : xs.size = ns.length := by rw [← Array.length_toList]; exact IntsAre.length hin
  obtain ⟨_, _, m1⟩ := F.called_set.mro
  have m2 := F.called_set.made
  have m3 := F.called_set.sub
  refine wpAny_call (codeAny_of_tree (show wpAny _ _ (callAny (.type "set") _) _ _ _ from ?_))
  refine wpAny_pure ⟨Code.quiet_builtin _ (by decide +kernel),
    codeAny_builtin F.entry_type_call ?_⟩
  rw [Around.under_plain (weight_type_call_type "set"
    [.ref l] []) rfl]
  have m4 := F.called_set.notType
  have m5 := F.called_set.canCreate
  have m6 := F.typeCall_set_1 (.ref l)
  repeat (any_goals (first | wp_step | assumption))
  refine codeAny_mono (code_set_led1 (.ref l) (E := E)
    (Q₁ := fun ob t => ob = .ref s.heap.objs.size ∧ t = { s with heap := s.heap.push (setO0 w) }) ⟨rfl, rfl⟩)
    fun res t made => ?_
  cases res with
  | error e => exact made
  | ok fl =>
  cases fl with
  | ret ob =>
    obtain ⟨rfl, rfl⟩ := made
    have at0 : (s.heap.push (setO0 w)).get? s.heap.objs.size = some (setO0 w) := Heap.get?_push_size _ rfl
    have ty0 : Shared.TypeIs { s with heap := s.heap.push (setO0 w) } (.ref s.heap.objs.size) "set" := ⟨_, at0, rfl⟩
    have m7 := F.called_set.init.lookup
    have m8 := F.called_set.init.bind (.ref s.heap.objs.size)
    repeat (any_goals (first | wp_step | assumption))
    refine codeAny_mono (codeAny_call_builtin (R := wants (fun r t => r = .none ∧ ∃ g tk c, t = { s with heap := g, toks := tk } ∧
        SetR w g s.heap.objs.size (fun j => decide (j ∈ ns)) c ∧ c ≤ 1000 ∧ ∀ b o, s.heap.get? b = some o → g.get? b = some o) E)
      F.called_set.init.plain F.entry_set_init (check_set_init_1 ty0 ?_)) fun res2 t2 done => ?_
    · obtain ⟨ol, lk, cl, en, dl⟩ := isl
      obtain ⟨c1, d1, x1, sl1⟩ := ol
      simp only at cl dl
      subst cl dl
      have lk' : (s.heap.push (setO0 w)).get? l = some { cls := .type "list", dict := d1, data := .seq xs en, slots := sl1 } :=
        Heap.get?_push_of_some _ lk
      have u1 := F.sub_list_set
      have u2 := F.sub_list_frozenset
      have u3 : (Value.type "list" == Value.type "dict") = false := by decide
      have isl1 : (s.heap.push (setO0 w)).IsList l xs := ⟨_, lk', rfl, en, rfl⟩
      unfold Builtin.«set.__init__» noKeywords
      unfold Builtin.Frozenset.updateFrom
      generalize iterE : pyIter = itf
      wp_walk
      subst iterE
      refine wpAny_pyIter_list isl1 (wpAny_bind (wpAny_runValue ?_))
      have lt : l < s.heap.objs.size := Heap.lt_size lk
      have calm3 : A.in1.in1.in1.handled = none := by simp [calm]
      have sz : (s.heap.push (setO0 w)).objs.size = s.heap.objs.size + 1 := Heap.size_push ..
      have ne1 : l ≠ (s.heap.push (setO0 w)).objs.size := by rw [sz]; exact Nat.ne_of_lt (Nat.lt_succ_of_lt lt)
      have ne2 : s.heap.objs.size ∉ [(s.heap.push (setO0 w)).objs.size, l] := by
        rw [sz]
        simp only [List.mem_cons, List.not_mem_nil, or_false, not_or]
        exact ⟨Nat.ne_of_lt (Nat.lt_succ_self _), Ne.symm (Nat.ne_of_lt lt)⟩
      have vals : ∀ (i : Nat) (v : Value), xs[i]? = some v → ∃ k t, ns[i]? = some k ∧ v = .int k t := fun i v e => by
        have il : i < ns.length := by rw [← size]; exact (Array.getElem?_eq_some_iff.mp e).1
        obtain ⟨t, et⟩ := IntsAre.int_at hin i v (by rw [Array.getElem?_toList]; exact e)
        refine ⟨ns.getD i 0, t, ?_, et⟩
        rw [List.getD_eq_getElem?_getD, List.getElem?_eq_getElem il]
        rfl
      refine set_update_few ((Walks.list calm3 _ l ne1 xs).toS) s.heap.objs.size ne2 ns size few vals (xs.size - 0) 0 _ (by omega)
        (Nat.zero_le _) ⟨⟨_, Heap.get?_push_size _ rfl, rfl, rfl⟩, isl1.push _⟩ ⟨0, ?_⟩ ?_
      · exact setR_new_at (Heap.get?_push_of_some _ at0)
      · intro t c mv cl1 R
        obtain ⟨g, gens, drawn, tk, os⟩ := t
        obtain rfl : gens = s.gens := mv.gens
        obtain rfl : drawn = s.drawn := mv.drawn
        obtain rfl : os = s.os := mv.os
        refine wpAny_pure (show wpAny _ _ (ret Value.none) _ _ _ from ?_)
        refine wpAny_pure ⟨rfl, g, tk, c, rfl, R, cl1, fun b o e => mv.heap b o ?_ ?_⟩
        · have lb : b < s.heap.objs.size := Heap.lt_size e
          rw [sz]
          simp only [List.mem_cons, List.not_mem_nil, or_false, not_or]
          exact ⟨Nat.ne_of_lt lb, Nat.ne_of_lt (Nat.lt_succ_of_lt lb)⟩
        · exact Heap.get?_push_of_some _ (Heap.get?_push_of_some _ e)
    · cases res2 with
      | error e => exact done
      | ok fl2 =>
      cases fl2 with
      | ret r =>
        obtain ⟨rfl, g, tk, c, rfl, R, cl1, kp⟩ := done
        repeat (any_goals (first | wp_step | assumption))
        exact h _ _ _ R cl1 kp
      | _ => exact done.elim
  | _ => exact made.elim
end
/-- set(xs), few different members -/
def rSetFew (K : PySem.W.Frag) (w : World) : List V → Hp → VK → Prop := fun xs H Q => ∃ (l : Addr) (ns : List Int), xs = [.ref l] ∧ SqL K H l (iv ns) ∧ (∀ v ∈ ns, 0 ≤ v ∧ v < (1000 : Nat)) ∧
  ∀ a n, H a = none → n ≤ 1000 → Q (.ref a) (upd H a (SetO w a (fun j => decide (j ∈ ns)) n))
theorem cr_setFew {X : Cx} (hc : X.calm = true) : CallR X (.type "set") (rSetFew X.K X.w) := by
  intro pins s σ H xs us Q I r h
  obtain ⟨l, ns, rfl, hl, hf, q⟩ := h
  rw [Vals.ref1 r]
  obtain ⟨its, rv, pl, hz⟩ := I.list hl
  have hn : H s.heap.objs.size = none := I.hok.fresh (Nat.le_refl _)
  refine set_of_few (P := X.prog) (w := X.w) ns (I.ok.hd hc) pl.isList (by simpa using ints_of_vals rv) hf fun g tk c R cl kp => ?_
  exact ⟨.ref s.heap.objs.size, upd H s.heap.objs.size (SetO X.w s.heap.objs.size (fun j => decide (j ∈ ns)) c), I.laid (t' := tk) kp (Nat.le_refl _) (setO_new R), rfl, q _ c hn cl⟩
end SH

/-! SH13: d.update(d2) of dicts with keys that are ints or strings. -/
namespace SH
open PySem PySem.Spec PyProof.Rows L2
def rDUpdate : V → List V → Hp → VK → Prop := fun x vs H Q => ∃ (a b : Addr) (kvs more : List (Key × V)), x = .ref a ∧ vs = [.ref b] ∧ H a = some (.dK kvs) ∧ H b = some (.dK more) ∧ a ≠ b ∧ kvs.length + more.length ≤ sizeLine ∧ Q .non (upd H a (.dK (mergeK kvs more)))
theorem mtd_update {X : Cx} : MtR X "dict.update" rDUpdate := by
  intro pins s σ H x vs v us Q I rx rv h
  obtain ⟨a, b, kvs, more, rfl, rfl, ea, eb, ab, hl, q⟩ := h
  obtain rfl : v = Value.ref a := rx
  rw [Vals.ref1 rv]
  obtain ⟨z1, hd1, vs1, rel1, dd1⟩ := dk_of I.hok ea
  obtain ⟨z2, hd2, vs2, rel2, dd2⟩ := dk_of I.hok eb
  refine call_meetsIn PySem.F.slot_dict_update dd1.typeIs PySem.F.entry_dict_update (PySem.F.args_dict_update_2 _ _) (meets_dict_update (mixKind X.prog X.w) a b ab hd2)
    ⟨vs1, vs2, dd1, dd2, by rw [← rel1.length, ← rel2.length]; exact hl, fun h' dd' _ hs => ?_⟩
  have he : ∃ q, h'.get? a = some q := let ⟨q, _, _, hq, _⟩ := dd'; ⟨q, hq⟩
  have hlen : (mergeK kvs more).length ≤ sizeLine := Nat.le_trans (length_mergeK more kvs) (by omega)
  exact ⟨.non, _, d_write (t' := s.toks) I (by rw [ea]; exact True.intro) hs he (dk_new hlen hd1 (KV.merge rel2 rel1) dd'), rfl, q⟩
section
variable {X : Cx} {o : Expr} {to : TE} {e : Expr} {t : TA} {apos cpos : Pos}
theorem pe_dupdate (ho : PE X o to) (ha : PA X [e] t) (hbase : attributeBase o "update" X.env (eval o X.env) = eval o X.env := by rfl) (hline : (apos.endLine == cpos.line) = true := by rfl)
    (hfew : ((backTo cpos (starEach [e] X.env)).all (fun x => !x.1) && (backToKw cpos (keywordEach [] X.env)).all (fun x => x.1.isSome)
      && decide (([e] : List Expr).length + ([] : List Keyword).length + (if ([] : List Keyword).isEmpty then 0 else 1) < 30)) = true := by rfl)
    (hs : starEach [e] X.env = (false, eval e X.env) :: starEach [] X.env := by rfl) (hplain : (backTo cpos (starEach [] X.env)).any (·.1) = false := by rfl) :
    PE X (.Call (.Attribute o "update" apos) [e] [] cpos) (tBM X.K "dict" rDUpdate to t) :=
  pe_bm PySem.F.plainAttrs_dict PySem.F.slot_dict_update PySem.F.type_dict_update mtd_update ho ha hbase hfew hline hs hplain
end
end SH

namespace SH
open PySem PySem.Spec PyProof.Rows L2
def topS (i : Nat) : Stmt := PySem.Challenge.pw_stickyheads_k21_whole_rows_never_go_back.main.body.getD i (.Pass ⟨0, 0, 0, 0⟩)
abbrev s_is_integer_from : Stmt := topS 6
abbrev N_is_integer_from : List Str := ["value", "least"]
abbrev P_is_integer_from : List Str := ["value", "least"]
theorem sc_is_integer_from : FnScope N_is_integer_from P_is_integer_from (defScope s_is_integer_from) := ⟨rfl, rfl, rfl, by decide +kernel, rfl, by decide +kernel, by decide +kernel⟩
abbrev s_is_integer_within : Stmt := topS 7
abbrev N_is_integer_within : List Str := ["value", "least", "greatest"]
abbrev P_is_integer_within : List Str := ["value", "least", "greatest"]
theorem sc_is_integer_within : FnScope N_is_integer_within P_is_integer_within (defScope s_is_integer_within) := ⟨rfl, rfl, rfl, by decide +kernel, rfl, by decide +kernel, by decide +kernel⟩
abbrev s_is_outline : Stmt := topS 10
abbrev N_is_outline : List Str := ["value", "greatest", "depth"]
abbrev P_is_outline : List Str := ["value"]
theorem sc_is_outline : FnScope N_is_outline P_is_outline (defScope s_is_outline) := ⟨rfl, rfl, rfl, by decide +kernel, rfl, by decide +kernel, by decide +kernel⟩
abbrev s_check_outline : Stmt := topS 11
abbrev N_check_outline : List Str := ["outline"]
abbrev P_check_outline : List Str := ["outline"]
theorem sc_check_outline : FnScope N_check_outline P_check_outline (defScope s_check_outline) := ⟨rfl, rfl, rfl, by decide +kernel, rfl, by decide +kernel, by decide +kernel⟩
abbrev s_stop_of : Stmt := topS 12
abbrev N_stop_of : List Str := ["outline", "line"]
abbrev P_stop_of : List Str := ["outline", "line"]
theorem sc_stop_of : FnScope N_stop_of P_stop_of (defScope s_stop_of) := ⟨rfl, rfl, rfl, by decide +kernel, rfl, by decide +kernel, by decide +kernel⟩

/-! ### outlines as lists of ints -/
def okFrom : Int → List Int → Bool
  | _, [] => true
  | g, d :: r => decide (0 ≤ d) && decide (d ≤ g) && okFrom (d + 1) r
def isO (ns : List Int) : Bool := decide (1 ≤ ns.length) && decide (ns.length ≤ 200) && okFrom 0 ns
/-- the greatest depth that may stand at place i -/
def gAt (ns : List Int) : Nat → Int
  | 0 => 0
  | i + 1 => ns.getD i 0 + 1
theorem okFrom_drop {ns : List Int} {i : Nat} (h : i < ns.length) (g : Int) : okFrom g (ns.drop i) =
    (decide (0 ≤ ns.getD i 0) && decide (ns.getD i 0 ≤ g) && okFrom (ns.getD i 0 + 1) (ns.drop (i + 1))) := by
  rw [List.drop_eq_getElem_cons h, List.getD_eq_getElem?_getD, List.getElem?_eq_getElem h]
  rfl
theorem okFrom_at {ns : List Int} : ∀ {g : Int} {i : Nat}, okFrom g ns = true → i < ns.length →
    0 ≤ ns.getD i 0 ∧ (∀ j, i = j + 1 → ns.getD i 0 ≤ ns.getD j 0 + 1) ∧ (i = 0 → ns.getD i 0 ≤ g) := by
  induction ns with
  | nil => intro g i _ h; exact absurd h (Nat.not_lt_zero _)
  | cons d r ih =>
    intro g i h hi
    simp only [okFrom, Bool.and_eq_true, decide_eq_true_eq] at h
    cases i with
    | zero => exact ⟨h.1.1, fun j e => by omega, fun _ => h.1.2⟩
    | succ i =>
      have hi' : i < r.length := Nat.lt_of_succ_lt_succ hi
      obtain ⟨a, b, c⟩ := ih (i := i) h.2 hi'
      refine ⟨a, fun j e => ?_, fun e => by omega⟩
      obtain rfl : i = j := by omega
      cases i with
      | zero => exact c rfl
      | succ i => exact b i rfl
theorem okFrom_of {ns : List Int} : ∀ {g : Int}, (∀ i, i < ns.length → 0 ≤ ns.getD i 0 ∧ (∀ j, i = j + 1 → ns.getD i 0 ≤ ns.getD j 0 + 1) ∧ (i = 0 → ns.getD i 0 ≤ g)) → okFrom g ns = true := by
  induction ns with
  | nil => intro g _; rfl
  | cons d r ih =>
    intro g h
    simp only [okFrom, Bool.and_eq_true, decide_eq_true_eq]
    obtain ⟨a, _, c⟩ := h 0 (Nat.zero_lt_succ _)
    refine ⟨⟨a, c rfl⟩, ih fun i hi => ?_⟩
    obtain ⟨a', b', _⟩ := h (i + 1) (Nat.succ_lt_succ hi)
    refine ⟨a', fun j e => ?_, fun e => ?_⟩
    · subst e
      exact b' (j + 1) rfl
    · subst e
      exact b' 0 rfl
theorem isO_iff {ns : List Int} : isO ns = true ↔ 1 ≤ ns.length ∧ ns.length ≤ 200 ∧ okFrom 0 ns = true := by
  unfold isO
  rw [Bool.and_eq_true, Bool.and_eq_true, decide_eq_true_eq, decide_eq_true_eq, and_assoc]

section
variable {P : Program} {w : World} {K : PySem.W.Frag} {mg : Str → Option Value} {base : Heap}

/-- an int is at least -/
def sp_from : Sp := fun vs H Q _ => ∃ v a : Int, vs = [.int v, .int a] ∧ Q (.bl (decide (a ≤ v))) H
theorem ok_is_integer_from (T : Txt mg) (h : At K mg "is_integer_from" s_is_integer_from) :
    Has P w K mg base CX0 1 "is_integer_from" s_is_integer_from P_is_integer_from sp_from := by
  refine Has.of h sc_is_integer_from (fun vs H Q E h => ?_) (fun _ _ _ _ _ _ us hl => match us, hl with | [_, _], _ => rfl) (fun f cdv A outer s H vs Q E room qt h => ?_)
  · obtain ⟨v, a, rfl, _⟩ := h; rfl
  obtain ⟨v, a, rfl, k⟩ := h
  refine ⟨_, (pss_one (ps_ret (pe_and (pe_callB call_isi (by rfl) T.isinstance (by decide +kernel) (pa_cons (pv 0) (pa_cons (pe_bltn (v := .ty "int") (u := .type "int") (by rfl) T.tint (by decide +kernel) rfl) pa_nil))) (pe_and (pe_not (pe_callB call_isi (by rfl) T.isinstance (by decide +kernel) (pa_cons (pv 0) (pa_cons (pe_bltn (v := .ty "bool") (u := .type "bool") (by rfl) T.bool (by decide +kernel) rfl) pa_nil)))) (pe_one (pe_cmpR op_ge (pv 0) (pv 1) (nomark _))))))), ?_⟩
  refine ⟨_, rfl, .int v, .ty "int", .type "int", .type "int", true, rfl, .ty _, .base (.int v), kit_ty (by decide +kernel), _, rfl, iteT ?_⟩
  refine ⟨_, rfl, .int v, .ty "bool", .type "int", .type "bool", false, rfl, .ty _, .base (.int v), kit_ty (by decide +kernel), _, rfl, _, rfl, iteT ?_⟩
  exact ⟨_, rfl, _, rfl, _, _, rfl, rfl, k⟩

/-- an int is within: least <= value <= greatest -/
def sp_within : Sp := fun vs H Q _ => ∃ v a b : Int, vs = [.int v, .int a, .int b] ∧ Q (.bl (decide (a ≤ v) && decide (v ≤ b))) H
theorem ok_is_integer_within (T : Txt mg) (h : At K mg "is_integer_within" s_is_integer_within)
    (g_is_integer_from : Has P w K mg base CX0 1 "is_integer_from" s_is_integer_from P_is_integer_from sp_from) :
    Has P w K mg base CX0 2 "is_integer_within" s_is_integer_within P_is_integer_within sp_within := by
  refine Has.of h sc_is_integer_within (fun vs H Q E h => ?_) (fun _ _ _ _ _ _ us hl => match us, hl with | [_, _, _], _ => rfl) (fun f cdv A outer s H vs Q E room qt h => ?_)
  · obtain ⟨v, a, b, rfl, _⟩ := h; rfl
  obtain ⟨v, a, b, rfl, k⟩ := h
  refine ⟨_, (pss_one (ps_ret (pe_and (pe_has g_is_integer_from (room.mono (by decide)) qt (by rfl) pass0 (pa_cons (pv 0) (pa_cons (pv 1) pa_nil))) (pe_one (pe_cmpR op_le (pv 0) (pv 2) (nomark _)))))), ?_⟩
  refine ⟨_, rfl, _, rfl, v, a, rfl, _, rfl, ?_⟩
  by_cases c : a ≤ v
  · rw [decide_eq_true c] at k ⊢
    rw [Bool.true_and] at k
    exact iteT ⟨_, rfl, _, rfl, _, _, rfl, rfl, k⟩
  · rw [decide_eq_false c] at k ⊢
    rw [Bool.false_and] at k
    exact iteF k

/-- a list of ints: is it an outline -/
def sp_is_outline : Sp := fun vs H Q _ => ∃ (a : Addr) (ns : List Int), vs = [.ref a] ∧ H a = some (.lst (iv ns)) ∧ Q (.bl (isO ns)) H
theorem ok_is_outline {t : Tok} (T : Txt mg) (c_MOST_LINES : mg "MOST_LINES" = some (.int 200 t)) (h : At K mg "is_outline" s_is_outline)
    (g_is_integer_within : Has P w K mg base CX0 2 "is_integer_within" s_is_integer_within P_is_integer_within sp_within) :
    Has P w K mg base CX0 3 "is_outline" s_is_outline P_is_outline sp_is_outline := by
  refine Has.of h sc_is_outline (fun vs H Q E h => ?_) (fun _ _ _ _ _ _ us hl => match us, hl with | [_], _ => rfl) (fun f cdv A outer s H vs Q E room qt h => ?_)
  · obtain ⟨v, a, rfl, _⟩ := h; rfl
  obtain ⟨a, ns, rfl, ha, k⟩ := h
  refine ⟨_, (pss_cons (ps_if (PW.pt (pw_or (pt_cmpR op_neTy (pe_callTy RZ.call_type4 (by rfl) T.ttype (by decide +kernel) (pa_cons (pv 0) pa_nil)) (pe_bltn (v := .ty "list") (u := .type "list") (by rfl) T.tlist (by decide +kernel) rfl) (nomark _)) (pw_or1 (pt_not (pt_chain op_le op_le pe_int (pe_callB call_len_seq (by rfl) T.len (by decide +kernel) (pa_cons (pv 0) pa_nil)) (pe_glob (v := .int 200) rfl c_MOST_LINES ⟨_, rfl⟩))))))
        (pss_one (ps_ret pe_bl))
        pss_nil)
      (pss_cons (ps_set (i := 1) sc_is_outline.nd rfl (Or.inl rfl) pe_int)
      (pss_cons (ps_for PassesOwn.never rfl (pi_list (pv 0)) (pg_name (i := 2) sc_is_outline.nd rfl (Or.inl rfl) (hf := Or.inl rfl))
        (pss_cons (ps_if (pt_not (pt_val (pe_has g_is_integer_within (room.mono (by decide)) qt (by rfl) pass0 (pa_cons (pv 2) (pa_cons pe_int (pa_cons (pv 1) pa_nil))))))
          (pss_one (ps_ret pe_bl))
          pss_nil)
        (pss_one (ps_set (i := 1) sc_is_outline.nd rfl (Or.inl rfl) (pe_op op_add (pv 2) pe_int)))))
      (pss_one (ps_ret pe_bl))))), ?_⟩
  have el : (iv ns).length = ns.length := List.length_map _
  -- type(value) != list or not 1 <= len(value) <= MOST_LINES
  refine ⟨_, rfl, .ref a, "list", rfl, .lst ha, _, _, rfl, rfl, by decide, by decide, _, rfl, ?_⟩
  refine iteF ⟨_, rfl, _, _, rfl, .inl (SqL.of ha), _, _, rfl, rfl, _, rfl, ?_⟩
  have no : isO ns = false → Q (.bl false) H := fun e => by rw [← e]; exact k
  refine ite2 (fun c => ?_) (fun c => ?_)
  · have c1 := of_decide_eq_true c
    refine ⟨_, _, rfl, rfl, _, rfl, ite2 (fun d => ?_) (fun d => ?_)⟩
    · refine no ?_
      have d1 : ¬ ns.length ≤ 200 := fun z => by rw [decide_eq_true (by omega)] at d; cases d
      unfold isO
      rw [decide_eq_false d1, Bool.and_false, Bool.false_and]
    · have d1 : ns.length ≤ 200 := by
        by_cases z : ns.length ≤ 200
        · exact z
        · exact (d (by rw [decide_eq_false (by omega)]; rfl)).elim
      have e0 : isO ns = okFrom 0 ns := by
        unfold isO
        rw [decide_eq_true (by omega), decide_eq_true d1, Bool.true_and, Bool.true_and]
      rw [e0] at k
      -- greatest = 0; for depth in value
      refine ⟨_, rfl, a, rfl, ⟨_, SqL.of ha⟩, for_list (K := K) (a := a) (xs := iv ns)
        (fun i σ H2 => H2 = H ∧ (∃ v, σ = [some (.ref a), some (.int (gAt ns i)), v]) ∧ okFrom (gAt ns i) (ns.drop i) = okFrom 0 ns)
        ⟨rfl, ⟨_, rfl⟩, rfl⟩ (fun i σ H2 _ q => by rw [q.1]; exact SqL.of ha) ?_ ?_⟩
      · rintro i x σ H2 hi ⟨rfl, ⟨v, rfl⟩, q⟩
        have hl : i < ns.length := by have := (List.getElem?_eq_some_iff.mp hi).1; rwa [List.length_map] at this
        rw [iv_at hl] at hi
        cases hi
        rw [okFrom_drop hl] at q
        -- if not is_integer_within(depth, 0, greatest)
        refine ⟨_, rfl, _, rfl, _, _, _, rfl, _, rfl, ite2 (fun d => ?_) (fun d => ?_)⟩
        · rw [bnot_t d, Bool.false_and] at q
          rw [← q] at k
          exact k
        · rw [bnot_f d, Bool.true_and] at q
          exact ⟨_, rfl, _, _, rfl, rfl, rfl, ⟨_, rfl⟩, q⟩
      · rintro σ H2 ⟨rfl, ⟨v, rfl⟩, q⟩
        rw [el, List.drop_length] at q
        rw [← q] at k
        exact k
  · refine ⟨_, rfl, iteT (no ?_)⟩
    have c1 : ¬ 1 ≤ ns.length := fun z => c (decide_eq_true (by omega))
    unfold isO
    rw [decide_eq_false c1, Bool.false_and, Bool.false_and]

/-- an outline: nothing is raised -/
def sp_check_outline : Sp := fun vs H Q _ => ∃ (a : Addr) (ns : List Int), vs = [.ref a] ∧ H a = some (.lst (iv ns)) ∧ isO ns = true ∧ Q .non H
theorem ok_check_outline (T : Txt mg) (h : At K mg "check_outline" s_check_outline)
    (g_is_outline : Has P w K mg base CX0 3 "is_outline" s_is_outline P_is_outline sp_is_outline) :
    Has P w K mg base CX0 4 "check_outline" s_check_outline P_check_outline sp_check_outline := by
  refine Has.of h sc_check_outline (fun vs H Q E h => ?_) (fun _ _ _ _ _ _ us hl => match us, hl with | [_], _ => rfl) (fun f cdv A outer s H vs Q E room qt h => ?_)
  · obtain ⟨v, a, rfl, _⟩ := h; rfl
  obtain ⟨a, ns, rfl, ha, ho, k⟩ := h
  refine ⟨_, (pss_one (ps_if (pt_not (pt_val (pe_has g_is_outline (room.mono (by decide)) qt (by rfl) pass0 (pa_cons (pv 0) pa_nil))))
        (pss_one ps_never)
        pss_nil)), ?_⟩
  refine ⟨_, rfl, a, ns, rfl, ha, _, rfl, ?_⟩
  rw [ho]
  exact iteF k

/-- the stop of a line -/
def sp_stop_of (K : PySem.W.Frag) : Sp := fun vs H Q _ => ∃ (a : Addr) (ns : List Int) (i : Int), vs = [.ref a, .int i] ∧ SqL K H a (iv ns) ∧ 0 ≤ i ∧ i < ns.length ∧ Q (.int (i - ns.getD i.toNat 0)) H
theorem ok_stop_of (T : Txt mg) (h : At K mg "stop_of" s_stop_of) :
    Has P w K mg base CX0 1 "stop_of" s_stop_of P_stop_of (sp_stop_of K) := by
  refine Has.of h sc_stop_of (fun vs H Q E h => ?_) (fun _ _ _ _ _ _ us hl => match us, hl with | [_, _], _ => rfl) (fun f cdv A outer s H vs Q E room qt h => ?_)
  · obtain ⟨v, a, i, rfl, _⟩ := h; rfl
  obtain ⟨a, ns, i, rfl, ha, h0, h1, k⟩ := h
  refine ⟨_, (pss_one (ps_ret (pe_op op_sub (pv 1) (pe_ix ix_list (pv 0) (pv 1) (fun _ _ => rfl))))), ?_⟩
  exact ⟨_, rfl, _, rfl, _, rfl, _, _, _, _, rfl, rfl, ha, atI_iv h0 h1, _, _, rfl, rfl, k⟩
end
theorem okFrom_snoc {ns : List Int} {d : Int} : ∀ {g : Int}, okFrom g ns = true → 0 ≤ d → (ns = [] → d ≤ g) → (ns ≠ [] → d ≤ ns.getD (ns.length - 1) 0 + 1) → okFrom g (ns ++ [d]) = true := by
  induction ns with
  | nil => intro g _ h0 h1 _; simp only [List.nil_append, okFrom, Bool.and_eq_true, decide_eq_true_eq, and_true]; exact ⟨h0, h1 rfl⟩
  | cons e r ih =>
    intro g h h0 _ h2
    simp only [okFrom, Bool.and_eq_true, decide_eq_true_eq, List.cons_append] at h ⊢
    refine ⟨h.1, ih h.2 h0 (fun er => ?_) fun er => ?_⟩
    · subst er
      exact h2 (by simp)
    · have := h2 (by simp)
      cases r with
      | nil => exact absurd rfl er
      | cons f r => exact this
theorem okFrom_le {ns : List Int} : ∀ {g : Int} {i : Nat}, okFrom g ns = true → i < ns.length → ns.getD i 0 ≤ g + i := by
  induction ns with
  | nil => intro g i _ h; exact absurd h (Nat.not_lt_zero _)
  | cons d r ih =>
    intro g i h hi
    simp only [okFrom, Bool.and_eq_true, decide_eq_true_eq] at h
    cases i with
    | zero => show d ≤ g + ((0 : Nat) : Int); omega
    | succ i =>
      have := ih (i := i) h.2 (Nat.lt_of_succ_lt_succ hi)
      show r.getD i 0 ≤ g + ((i + 1 : Nat) : Int)
      omega
/-! ### headings, top lines, views as lists of ints -/
/-- the headings found from line k on upwards, the next wanted depth being w -/
def headsL (ns : List Int) : Nat → Int → List Int
  | 0, _ => []
  | k + 1, w => if ns.getD k 0 = w then headsL ns k (w - 1) ++ [(k : Int)] else headsL ns k w
def headsOf (ns : List Int) (i : Nat) : List Int := headsL ns i (ns.getD i 0 - 1)
theorem headsL_len (ns : List Int) : ∀ (k : Nat) (w : Int), (headsL ns k w).length ≤ k
  | 0, _ => Nat.le_refl _
  | k + 1, w => by
    unfold headsL
    split
    · rw [List.length_append]
      exact Nat.succ_le_succ (headsL_len ns k _)
    · exact Nat.le_succ_of_le (headsL_len ns k _)
theorem headsL_mem {ns : List Int} : ∀ {k : Nat} {w v : Int}, v ∈ headsL ns k w → 0 ≤ v ∧ v < k
  | k + 1, w, v, h => by
    unfold headsL at h
    split at h
    · rcases List.mem_append.mp h with h | h
      · have := headsL_mem h; omega
      · have := List.mem_singleton.mp h; omega
    · have := headsL_mem h; omega
def stopAt (ns : List Int) (i : Nat) : Int := (i : Int) - ns.getD i 0
def lastStop (ns : List Int) : Int := stopAt ns (ns.length - 1)
/-- t is the top line at s -/
def IsTop (ns : List Int) (s : Int) (t : Nat) : Prop := t < ns.length ∧ s ≤ stopAt ns t ∧ ∀ j, j < t → stopAt ns j < s
theorem IsTop.uniq {ns : List Int} {s : Int} {t u : Nat} (a : IsTop ns s t) (b : IsTop ns s u) : t = u := by
  rcases Nat.lt_trichotomy t u with h | h | h
  · have := b.2.2 t h; have := a.2.1; omega
  · exact h
  · have := a.2.2 u h; have := b.2.1; omega
theorem top_ex {ns : List Int} {s : Int} : ∀ n, n < ns.length → s ≤ stopAt ns n → ∃ t, t ≤ n ∧ IsTop ns s t
  | 0, h, q => ⟨0, Nat.le_refl _, h, q, fun j hj => absurd hj (Nat.not_lt_zero _)⟩
  | n + 1, h, q => by
    by_cases e : ∃ j, j ≤ n ∧ s ≤ stopAt ns j
    · obtain ⟨j, hj, ej⟩ := e
      obtain ⟨t, ht, it⟩ := top_ex j (by omega) ej
      exact ⟨t, by omega, it⟩
    · refine ⟨n + 1, Nat.le_refl _, h, q, fun j hj => ?_⟩
      by_cases z : s ≤ stopAt ns j
      · exact (e ⟨j, by omega, z⟩).elim
      · omega
/-- slices of lists of ints -/
def cutI (l : List Int) (lo hi : Option Int) : List Int := (l.drop (HT.sIx l.length 0 lo)).take (HT.sIx l.length l.length hi - HT.sIx l.length 0 lo)
theorem cutV_iv (l : List Int) (lo hi : Option Int) : cutV (iv l) lo hi = iv (cutI l lo hi) := by
  unfold cutV cutI iv
  rw [List.map_take, List.map_drop, List.length_map]
theorem cutI_len (l : List Int) (lo hi : Option Int) : (cutI l lo hi).length ≤ l.length := by
  unfold cutI
  rw [List.length_take, List.length_drop]
  omega
theorem cutI_to (l : List Int) {n : Int} (h : 0 ≤ n) : cutI l none (some n) = l.take n.toNat := by
  unfold cutI
  have e : n = (n.toNat : Int) := by omega
  rw [e, HT.sIx_none, HT.sIx_nat, List.drop_zero, Nat.sub_zero, Int.toNat_natCast]
  rcases Nat.le_total n.toNat l.length with a | a
  · rw [Nat.min_eq_left a]
  · rw [Nat.min_eq_right a, List.take_length, List.take_of_length_le a]
/-- lo, lo + 1, .. below hi -/
def rg2 (lo hi : Int) : List Int := (List.range (hi - lo).toNat).map fun (i : Nat) => lo + (i : Int)
theorem rgV_rg2 (a b : Int) : rgV a b = iv (rg2 a b) := by
  unfold rgV rg2 iv
  rw [List.map_map]
  rfl
theorem rg2_len (a b : Int) : (rg2 a b).length = (b - a).toNat := by unfold rg2; rw [List.length_map, List.length_range]
def pushedL (ns : List Int) (t : Nat) (s : Int) : List Int := if stopAt ns t - s = 0 then [] else cutI (headsOf ns (t - 1)) (some (-(stopAt ns t - s))) none
def rowsL (ns : List Int) (s : Int) (t : Nat) : List Int := headsOf ns t ++ pushedL ns t s ++ rg2 t ns.length
def viewL (ns : List Int) (h s : Int) (t : Nat) : List Int := (rowsL ns s t).take h.toNat
theorem pushedL_len (ns : List Int) (t : Nat) (s : Int) : (pushedL ns t s).length ≤ t := by
  unfold pushedL
  split
  · exact Nat.zero_le _
  · exact Nat.le_trans (cutI_len _ _ _) (Nat.le_trans (headsL_len _ _ _) (Nat.sub_le _ _))
theorem stopAt_nn {ns : List Int} (h : okFrom 0 ns = true) {i : Nat} (hi : i < ns.length) : 0 ≤ stopAt ns i ∧ stopAt ns i ≤ i := by
  have a := okFrom_le h hi
  have b := (okFrom_at h hi).1
  unfold stopAt
  omega
abbrev s_check_height : Stmt := topS 16
abbrev N_check_height : List Str := ["height"]
abbrev P_check_height : List Str := ["height"]
theorem sc_check_height : FnScope N_check_height P_check_height (defScope s_check_height) := ⟨rfl, rfl, rfl, by decide +kernel, rfl, by decide +kernel, by decide +kernel⟩
section
variable {P : Program} {w : World} {K : PySem.W.Frag} {mg : Str → Option Value} {base : Heap}
def sp_check_height : Sp := fun vs H Q _ => ∃ n : Int, vs = [.int n] ∧ 1 ≤ n ∧ n ≤ 400 ∧ Q .non H
theorem ok_check_height {t : Tok} (T : Txt mg) (c_MOST_ROWS : mg "MOST_ROWS" = some (.int 400 t)) (h : At K mg "check_height" s_check_height)
    (g_is_integer_within : Has P w K mg base CX0 2 "is_integer_within" s_is_integer_within P_is_integer_within sp_within) :
    Has P w K mg base CX0 3 "check_height" s_check_height P_check_height sp_check_height := by
  refine Has.of h sc_check_height (fun vs H Q E h => ?_) (fun _ _ _ _ _ _ us hl => match us, hl with | [_], _ => rfl) (fun f cdv A outer s H vs Q E room qt h => ?_)
  · obtain ⟨n, rfl, _⟩ := h; rfl
  obtain ⟨n, rfl, h0, h1, k⟩ := h
  refine ⟨_, (pss_one (ps_if (pt_not (pt_val (pe_has g_is_integer_within (room.mono (by decide)) qt (by rfl) pass0 (pa_cons (pv 0) (pa_cons pe_int (pa_cons (pe_glob (v := .int 400) rfl c_MOST_ROWS ⟨_, rfl⟩) pa_nil))))))
        (pss_one ps_never)
        pss_nil)), ?_⟩
  refine ⟨_, rfl, _, _, _, rfl, _, rfl, ?_⟩
  rw [decide_eq_true h0, decide_eq_true h1]
  exact iteF k
end
abbrev s_greatest_scroll : Stmt := topS 17
abbrev N_greatest_scroll : List Str := ["outline"]
abbrev P_greatest_scroll : List Str := ["outline"]
theorem sc_greatest_scroll : FnScope N_greatest_scroll P_greatest_scroll (defScope s_greatest_scroll) := ⟨rfl, rfl, rfl, by decide +kernel, rfl, by decide +kernel, by decide +kernel⟩
abbrev s_check_scroll : Stmt := topS 18
abbrev N_check_scroll : List Str := ["outline", "scroll"]
abbrev P_check_scroll : List Str := ["outline", "scroll"]
theorem sc_check_scroll : FnScope N_check_scroll P_check_scroll (defScope s_check_scroll) := ⟨rfl, rfl, rfl, by decide +kernel, rfl, by decide +kernel, by decide +kernel⟩
abbrev s_find_top : Stmt := topS 19
abbrev N_find_top : List Str := ["outline", "scroll", "line"]
abbrev P_find_top : List Str := ["outline", "scroll"]
theorem sc_find_top : FnScope N_find_top P_find_top (defScope s_find_top) := ⟨rfl, rfl, rfl, by decide +kernel, rfl, by decide +kernel, by decide +kernel⟩
section
variable {P : Program} {w : World} {K : PySem.W.Frag} {mg : Str → Option Value} {base : Heap}
def sp_greatest_scroll (K : PySem.W.Frag) : Sp := fun vs H Q _ => ∃ (a : Addr) (ns : List Int), vs = [.ref a] ∧ SqL K H a (iv ns) ∧ 1 ≤ ns.length ∧ Q (.int (lastStop ns)) H
theorem ok_greatest_scroll (T : Txt mg) (h : At K mg "greatest_scroll" s_greatest_scroll)
    (g_stop_of : Has P w K mg base CX0 1 "stop_of" s_stop_of P_stop_of (sp_stop_of K)) :
    Has P w K mg base CX0 2 "greatest_scroll" s_greatest_scroll P_greatest_scroll (sp_greatest_scroll K) := by
  refine Has.of h sc_greatest_scroll (fun vs H Q E h => ?_) (fun _ _ _ _ _ _ us hl => match us, hl with | [_], _ => rfl) (fun f cdv A outer s H vs Q E room qt h => ?_)
  · obtain ⟨a, n, rfl, _⟩ := h; rfl
  obtain ⟨a, ns, rfl, ha, hl, k⟩ := h
  refine ⟨_, (pss_one (ps_ret (pe_has g_stop_of (room.mono (by decide)) qt (by rfl) pass0 (pa_cons (pv 0) (pa_cons (pe_op op_sub (pe_callB call_len_seq (by rfl) T.len (by decide +kernel) (pa_cons (pv 0) pa_nil)) pe_int) pa_nil))))), ?_⟩
  have el : (iv ns).length = ns.length := List.length_map _
  refine ⟨_, rfl, _, rfl, a, _, rfl, .inl ha, _, _, rfl, rfl, a, ns, _, rfl, ha, by omega, by omega, ?_⟩
  have e : ((iv ns).length : Int) - 1 - ns.getD (((iv ns).length : Int) - 1).toNat 0 = lastStop ns := by
    rw [el]
    have e1 : ((ns.length : Int) - 1).toNat = ns.length - 1 := by omega
    unfold lastStop stopAt
    rw [e1]
    omega
  rw [e]
  exact k
def sp_check_scroll (K : PySem.W.Frag) : Sp := fun vs H Q _ => ∃ (a : Addr) (ns : List Int) (s : Int), vs = [.ref a, .int s] ∧ SqL K H a (iv ns) ∧ 1 ≤ ns.length ∧ 0 ≤ s ∧ s ≤ lastStop ns ∧ Q .non H
theorem ok_check_scroll (T : Txt mg) (h : At K mg "check_scroll" s_check_scroll)
    (g_is_integer_within : Has P w K mg base CX0 2 "is_integer_within" s_is_integer_within P_is_integer_within sp_within)
    (g_greatest_scroll : Has P w K mg base CX0 2 "greatest_scroll" s_greatest_scroll P_greatest_scroll (sp_greatest_scroll K)) :
    Has P w K mg base CX0 3 "check_scroll" s_check_scroll P_check_scroll (sp_check_scroll K) := by
  refine Has.of h sc_check_scroll (fun vs H Q E h => ?_) (fun _ _ _ _ _ _ us hl => match us, hl with | [_, _], _ => rfl) (fun f cdv A outer s H vs Q E room qt h => ?_)
  · obtain ⟨a, n, t, rfl, _⟩ := h; rfl
  obtain ⟨a, ns, t, rfl, ha, hl, h0, h1, k⟩ := h
  refine ⟨_, (pss_one (ps_if (pt_not (pt_val (pe_has g_is_integer_within (room.mono (by decide)) qt (by rfl) pass0 (pa_cons (pv 1) (pa_cons pe_int (pa_cons (pe_has g_greatest_scroll (room.mono (by decide)) qt (by rfl) pass0 (pa_cons (pv 0) pa_nil)) pa_nil))))))
        (pss_one ps_never)
        pss_nil)), ?_⟩
  refine ⟨_, rfl, _, rfl, a, ns, rfl, ha, hl, _, _, _, rfl, _, rfl, ?_⟩
  rw [decide_eq_true h0, decide_eq_true h1]
  exact iteF k
def sp_find_top (K : PySem.W.Frag) : Sp := fun vs H Q _ => ∃ (a : Addr) (ns : List Int) (s : Int) (t : Nat), vs = [.ref a, .int s] ∧ SqL K H a (iv ns) ∧ IsTop ns s t ∧ Q (.int t) H
theorem ok_find_top (T : Txt mg) (h : At K mg "find_top" s_find_top)
    (g_stop_of : Has P w K mg base CX0 1 "stop_of" s_stop_of P_stop_of (sp_stop_of K)) :
    Has P w K mg base CX0 3 "find_top" s_find_top P_find_top (sp_find_top K) := by
  refine Has.of h sc_find_top (fun vs H Q E h => ?_) (fun _ _ _ _ _ _ us hl => match us, hl with | [_, _], _ => rfl) (fun f cdv A outer s H vs Q E room qt h => ?_)
  · obtain ⟨a, n, z, t, rfl, _⟩ := h; rfl
  obtain ⟨a, ns, z, t, rfl, ha, ⟨t0, t1, t2⟩, k⟩ := h
  refine ⟨_, (pss_cons (ps_set (i := 2) sc_find_top.nd rfl (Or.inl rfl) pe_int)
      (pss_cons (ps_while PassesOwn.never (pt_cmpR op_lt (pe_has g_stop_of (room.mono (by decide)) qt (by rfl) pass0 (pa_cons (pv 0) (pa_cons (pv 2) pa_nil))) (pv 1) (nomark _))
        (pss_one (ps_aug (i := 2) sc_find_top.nd rfl (Or.inl rfl) pe_int ip_add)))
      (pss_one (ps_ret (pv 2))))), ?_⟩
  refine ⟨fun m σ H' => H' = H ∧ ∃ i, i ≤ t ∧ m = t - i ∧ σ = [some (.ref a), some (.int z), some (.int (i : Nat))], ⟨t, rfl, 0, Nat.zero_le _, rfl, rfl⟩, ?_⟩
  rintro m σ H' ⟨rfl, i, it, rfl, rfl⟩
  refine ⟨_, rfl, _, rfl, a, ns, i, rfl, ha, by omega, by omega, _, rfl, _, _, rfl, rfl, _, rfl, ite2 (fun c => ?_) (fun c => ?_)⟩
  · have c1 := of_decide_eq_true c
    rw [Int.toNat_natCast] at c1
    have ne : i ≠ t := fun e => by subst e; unfold stopAt at t1; omega
    refine ⟨fun σ' H2 => H2 = H' ∧ σ' = [some (.ref a), some (.int z), some (.int ((i : Nat) + 1))], fun σ' H'' q => ⟨t - (i + 1), by omega, q.1, i + 1, by omega, rfl, q.2⟩, ?_⟩
    exact ⟨_, rfl, _, _, rfl, rfl, rfl, rfl⟩
  · have c1 : ¬ ((i : Int) - ns.getD (i : Int).toNat 0 < z) := fun q => c (decide_eq_true q)
    rw [Int.toNat_natCast] at c1
    have e : i = t := by
      rcases Nat.lt_or_ge i t with q | q
      · exact (c1 (t2 i q)).elim
      · omega
    subst e
    exact ⟨_, rfl, k⟩
end
abbrev s_top_line : Stmt := topS 20
abbrev N_top_line : List Str := ["outline", "scroll"]
abbrev P_top_line : List Str := ["outline", "scroll"]
theorem sc_top_line : FnScope N_top_line P_top_line (defScope s_top_line) := ⟨rfl, rfl, rfl, by decide +kernel, rfl, by decide +kernel, by decide +kernel⟩
section
variable {P : Program} {w : World} {K : PySem.W.Frag} {mg : Str → Option Value} {base : Heap}
def sp_top_line : Sp := fun vs H Q _ => ∃ (a : Addr) (ns : List Int) (s : Int) (t : Nat), vs = [.ref a, .int s] ∧ H a = some (.lst (iv ns)) ∧ isO ns = true ∧ 0 ≤ s ∧ s ≤ lastStop ns ∧ IsTop ns s t ∧ Q (.int t) H
theorem ok_top_line (T : Txt mg) (h : At K mg "top_line" s_top_line)
    (g_check_outline : Has P w K mg base CX0 4 "check_outline" s_check_outline P_check_outline sp_check_outline)
    (g_check_scroll : Has P w K mg base CX0 3 "check_scroll" s_check_scroll P_check_scroll (sp_check_scroll K))
    (g_find_top : Has P w K mg base CX0 3 "find_top" s_find_top P_find_top (sp_find_top K)) :
    Has P w K mg base CX0 5 "top_line" s_top_line P_top_line sp_top_line := by
  refine Has.of h sc_top_line (fun vs H Q E h => ?_) (fun _ _ _ _ _ _ us hl => match us, hl with | [_, _], _ => rfl) (fun f cdv A outer s H vs Q E room qt h => ?_)
  · obtain ⟨a, n, z, t, rfl, _⟩ := h; rfl
  obtain ⟨a, ns, z, t, rfl, ha, ho, z0, z1, it, k⟩ := h
  refine ⟨_, (pss_cons (ps_expr (pe_has g_check_outline (room.mono (by decide)) qt (by rfl) pass0 (pa_cons (pv 0) pa_nil)))
      (pss_cons (ps_expr (pe_has g_check_scroll (room.mono (by decide)) qt (by rfl) pass0 (pa_cons (pv 0) (pa_cons (pv 1) pa_nil))))
      (pss_one (ps_ret (pe_has g_find_top (room.mono (by decide)) qt (by rfl) pass0 (pa_cons (pv 0) (pa_cons (pv 1) pa_nil))))))), ?_⟩
  exact ⟨_, rfl, a, ns, rfl, ha, ho, _, rfl, _, rfl, a, ns, z, rfl, SqL.of ha, (isO_iff.mp ho).1, z0, z1, _, rfl, _, rfl, a, ns, z, t, rfl, SqL.of ha, it, k⟩
end
abbrev s_headings_of : Stmt := topS 13
abbrev N_headings_of : List Str := ["outline", "line", "found", "wanted", "above"]
abbrev P_headings_of : List Str := ["outline", "line"]
theorem sc_headings_of : FnScope N_headings_of P_headings_of (defScope s_headings_of) := ⟨rfl, rfl, rfl, by decide +kernel, rfl, by decide +kernel, by decide +kernel⟩
section
variable {P : Program} {w : World} {K : PySem.W.Frag} {mg : Str → Option Value} {base : Heap}
def sp_headings_of (K : PySem.W.Frag) : Sp := fun vs H Q _ => ∃ (a : Addr) (ns : List Int) (i : Nat), vs = [.ref a, .int i] ∧ SqL K H a (iv ns) ∧ i < ns.length ∧ ns.length ≤ 1000 ∧ RetL Q H (iv (headsOf ns i))
theorem ok_headings_of (T : Txt mg) (h : At K mg "headings_of" s_headings_of) :
    Has P w K mg base CX0 2 "headings_of" s_headings_of P_headings_of (sp_headings_of K) := by
  refine Has.of h sc_headings_of (fun vs H Q E h => ?_) (fun _ _ _ _ _ _ us hl => match us, hl with | [_, _], _ => rfl) (fun f cdv A outer s H vs Q E room qt h => ?_)
  · obtain ⟨a, n, t, rfl, _⟩ := h; rfl
  obtain ⟨a, ns, i, rfl, ha, hi, hl, k⟩ := h
  refine ⟨_, (pss_cons (ps_set (i := 2) sc_headings_of.nd rfl (Or.inl rfl) (pe_lst pa_nil))
      (pss_cons (ps_set (i := 3) sc_headings_of.nd rfl (Or.inl rfl) (pe_op op_sub (pe_ix ix_list (pv 0) (pv 1) (fun _ _ => rfl)) pe_int))
      (pss_cons (ps_for PassesOwn.never rfl (pi_revR (by rfl) T.reversed (prg_1 (by rfl) T.range (pv 1))) (pg_name (i := 4) sc_headings_of.nd rfl (Or.inl rfl) (hf := Or.inl rfl))
        (pss_one (ps_if (pt_cmpR op_eq (pe_ix ix_list (pv 0) (pv 4) (fun _ _ => rfl)) (pv 3) (nomark _))
          (pss_cons (ps_expr (pe_bm PySem.F.plainAttrs_list PySem.F.slot_list_append PySem.F.type_list_append mt_append (pv 2) (pa_cons (pv 4) pa_nil)))
          (pss_one (ps_aug (i := 3) sc_headings_of.nd rfl (Or.inl rfl) pe_int ip_sub)))
          pss_nil)))
      (pss_cons (ps_expr (pe_bm0 PySem.F.plainAttrs_list PySem.F.slot_list_reverse PySem.F.type_list_reverse mt_reverse (pv 2)))
      (pss_one (ps_ret (pv 2))))))), ?_⟩
  refine ⟨(by decide : 0 ≤ sizeLine), fun p hp => ?_⟩
  have ha' : ∀ o, SqL K (upd H p o) a (iv ns) := fun o => (Same.new hp).seq ha
  refine ⟨_, rfl, _, rfl, a, iv ns, i, _, rfl, rfl, ha' _, atI_iv (by omega) (by omega), _, _, rfl, rfl, ?_⟩
  rw [Int.toNat_natCast]
  refine ⟨_, rfl, i, rfl, by decide, by decide, by omega, by omega, ?_⟩
  refine for_rangeC (n := ((i : Int) - 0).toNat) (fun j σ H2 => ∃ (F : List Int) (w : Int) (v : Option V), σ = [some (.ref a), some (.int i), some (.ref p), some (.int w), v] ∧ H2 = upd H p (.lst (iv F)) ∧
    F.length ≤ j ∧ headsOf ns i = headsL ns (i - j) w ++ F.reverse) ⟨[], _, _, rfl, rfl, Nat.le_refl _, by rw [List.reverse_nil, List.append_nil]; rfl⟩ ?_ ?_
  · rintro j σ H2 hj ⟨F, wd, v, rfl, rfl, hF, e⟩
    have ev : (0 : Int) + ((((i : Int) - 0).toNat : Nat) : Int) - 1 + ((j : Nat) : Int) * (-1) = ((i - (j + 1) : Nat) : Int) := by omega
    obtain ⟨u, eu⟩ : ∃ u, i - (j + 1) = u := ⟨_, rfl⟩
    have ek : i - j = u + 1 := by omega
    rw [ek, headsL] at e
    rw [eu] at ev
    show (tIfS _ _ _) _ (List.set _ 4 (some (.int (0 + ((((i : Int) - 0).toNat : Nat) : Int) - 1 + ((j : Nat) : Int) * (-1))))) _
    rw [ev]
    -- if outline[above] == wanted
    refine ⟨_, rfl, _, rfl, a, iv ns, u, _, rfl, rfl, ha' _, atI_iv (by omega) (by omega), _, rfl, rfl, _, rfl, ite2 (fun c => ?_) (fun c => ?_)⟩
    · have c1 : ns.getD u 0 = wd := by
        have := of_decide_eq_true c
        rw [Int.toNat_natCast] at this
        exact V.int.inj this
      rw [if_pos c1] at e
      refine ⟨_, rfl, .inl ⟨rfl, _, SqL.of upd_same⟩, _, rfl, p, _, _, rfl, rfl, upd_same, small_line (by rw [List.length_map]; omega), ?_⟩
      refine ⟨_, rfl, _, _, rfl, rfl, F ++ [(u : Int)], wd - 1, _, rfl, by rw [upd_upd, iv_snoc], by rw [List.length_append]; show F.length + 1 ≤ j + 1; omega, ?_⟩
      rw [eu, e, List.reverse_append, List.append_assoc]
      rfl
    · have c1 : ¬ ns.getD u 0 = wd := fun q => c (by rw [Int.toNat_natCast, q]; exact decide_eq_true rfl)
      rw [if_neg c1] at e
      exact ⟨F, wd, _, rfl, rfl, by omega, by rw [eu]; exact e⟩
  · rintro σ H2 ⟨F, wd, v, rfl, rfl, hF, e⟩
    have e0 : i - ((i : Int) - 0).toNat = 0 := by omega
    rw [e0, headsL, List.nil_append] at e
    refine ⟨_, rfl, .inl ⟨rfl, _, SqL.of upd_same⟩, p, _, rfl, rfl, upd_same, _, rfl, k p _ hp ?_ ?_⟩
    · rw [upd_upd]
      exact Same.new hp
    · rw [upd_same, e]
      show some (HO.lst (List.map V.int F).reverse) = some (HO.lst (List.map V.int F.reverse))
      rw [List.map_reverse]
end
abbrev s_pushed_headings : Stmt := topS 21
abbrev N_pushed_headings : List Str := ["outline", "top", "scroll", "many"]
abbrev P_pushed_headings : List Str := ["outline", "top", "scroll"]
theorem sc_pushed_headings : FnScope N_pushed_headings P_pushed_headings (defScope s_pushed_headings) := ⟨rfl, rfl, rfl, by decide +kernel, rfl, by decide +kernel, by decide +kernel⟩
abbrev s_find_rows : Stmt := topS 22
abbrev N_find_rows : List Str := ["outline", "height", "scroll", "top", "above", "rows"]
abbrev P_find_rows : List Str := ["outline", "height", "scroll"]
theorem sc_find_rows : FnScope N_find_rows P_find_rows (defScope s_find_rows) := ⟨rfl, rfl, rfl, by decide +kernel, rfl, by decide +kernel, by decide +kernel⟩
abbrev s_view : Stmt := topS 23
abbrev N_view : List Str := ["outline", "height", "scroll"]
abbrev P_view : List Str := ["outline", "height", "scroll"]
theorem sc_view : FnScope N_view P_view (defScope s_view) := ⟨rfl, rfl, rfl, by decide +kernel, rfl, by decide +kernel, by decide +kernel⟩
section
variable {P : Program} {w : World} {K : PySem.W.Frag} {mg : Str → Option Value} {base : Heap}
def sp_pushed_headings (K : PySem.W.Frag) : Sp := fun vs H Q _ => ∃ (a : Addr) (ns : List Int) (t : Nat) (s : Int), vs = [.ref a, .int t, .int s] ∧ SqL K H a (iv ns) ∧ t < ns.length ∧ ns.length ≤ 1000 ∧
  (stopAt ns t - s ≠ 0 → 1 ≤ t) ∧ RetL Q H (iv (pushedL ns t s))
theorem ok_pushed_headings (T : Txt mg) (h : At K mg "pushed_headings" s_pushed_headings)
    (g_stop_of : Has P w K mg base CX0 1 "stop_of" s_stop_of P_stop_of (sp_stop_of K))
    (g_headings_of : Has P w K mg base CX0 2 "headings_of" s_headings_of P_headings_of (sp_headings_of K)) :
    Has P w K mg base CX0 3 "pushed_headings" s_pushed_headings P_pushed_headings (sp_pushed_headings K) := by
  refine Has.of h sc_pushed_headings (fun vs H Q E h => ?_) (fun _ _ _ _ _ _ us hl => match us, hl with | [_, _, _], _ => rfl) (fun f cdv A outer s H vs Q E room qt h => ?_)
  · obtain ⟨a, n, t, z, rfl, _⟩ := h; rfl
  obtain ⟨a, ns, t, z, rfl, ha, ht, hl, h1, k⟩ := h
  refine ⟨_, (pss_cons (ps_set (i := 3) sc_pushed_headings.nd rfl (Or.inl rfl) (pe_op op_sub (pe_has g_stop_of (room.mono (by decide)) qt (by rfl) pass0 (pa_cons (pv 0) (pa_cons (pv 1) pa_nil))) (pv 2)))
      (pss_cons (ps_if (pt_cmpR op_eq (pv 3) pe_int (nomark _))
        (pss_one (ps_ret (pe_lst pa_nil)))
        pss_nil)
      (pss_one (ps_ret (pe_slice sl_list (pe_has g_headings_of (room.mono (by decide)) qt (by rfl) pass0 (pa_cons (pv 0) (pa_cons (pe_op op_sub (pv 1) pe_int) pa_nil))) (po_some (pe_un un_neg (pv 3))) po_none))))), ?_⟩
  refine ⟨_, rfl, _, rfl, a, ns, t, rfl, ha, by omega, by omega, _, rfl, _, _, rfl, rfl, ?_⟩
  rw [Int.toNat_natCast]
  unfold pushedL stopAt at k
  refine ⟨_, rfl, rfl, _, rfl, ite2 (fun c => ?_) (fun c => ?_)⟩
  · have c1 := V.int.inj (of_decide_eq_true c)
    rw [if_pos c1] at k
    exact ⟨(by decide : 0 ≤ sizeLine), fun p hp => k p _ hp (Same.new hp) upd_same⟩
  · have c1 : ¬ ((t : Int) - ns.getD t 0 - z = 0) := fun q => c (decide_eq_true (congrArg V.int q))
    rw [if_neg c1] at k
    have t1 := h1 c1
    refine ⟨_, rfl, _, rfl, _, _, rfl, rfl, a, ns, t - 1, by rw [show ((t - 1 : Nat) : Int) = (t : Int) - 1 by omega]; rfl, ha, by omega, hl, fun p H2 hp s2 h2 => ?_⟩
    refine ⟨_, rfl, _, rfl, _, rfl, p, _, rfl, SqL.of h2, fun q hq => ?_⟩
    rw [cutV_iv]
    exact k q _ (s2.free hq) (s2.trans (Same.new hq)) upd_same
def sp_find_rows (K : PySem.W.Frag) : Sp := fun vs H Q _ => ∃ (a : Addr) (ns : List Int) (n s : Int) (t : Nat), vs = [.ref a, .int n, .int s] ∧ SqL K H a (iv ns) ∧ isO ns = true ∧ 1 ≤ n ∧
  0 ≤ s ∧ IsTop ns s t ∧ RetL Q H (iv (viewL ns n s t))
theorem ok_find_rows (T : Txt mg) (h : At K mg "find_rows" s_find_rows)
    (g_find_top : Has P w K mg base CX0 3 "find_top" s_find_top P_find_top (sp_find_top K))
    (g_headings_of : Has P w K mg base CX0 2 "headings_of" s_headings_of P_headings_of (sp_headings_of K))
    (g_pushed_headings : Has P w K mg base CX0 3 "pushed_headings" s_pushed_headings P_pushed_headings (sp_pushed_headings K)) :
    Has P w K mg base CX0 4 "find_rows" s_find_rows P_find_rows (sp_find_rows K) := by
  refine Has.of h sc_find_rows (fun vs H Q E h => ?_) (fun _ _ _ _ _ _ us hl => match us, hl with | [_, _, _], _ => rfl) (fun f cdv A outer s H vs Q E room qt h => ?_)
  · obtain ⟨a, n, t, z, u, rfl, _⟩ := h; rfl
  obtain ⟨a, ns, n, z, t, rfl, ha, ho, n0, z0, it, k⟩ := h
  obtain ⟨l1, l2, hk⟩ := isO_iff.mp ho
  refine ⟨_, (pss_cons (ps_set (i := 3) sc_find_rows.nd rfl (Or.inl rfl) (pe_has g_find_top (room.mono (by decide)) qt (by rfl) pass0 (pa_cons (pv 0) (pa_cons (pv 2) pa_nil))))
      (pss_cons (ps_set (i := 4) sc_find_rows.nd rfl (Or.inl rfl) (pe_op op_catS (pe_has g_headings_of (room.mono (by decide)) qt (by rfl) pass0 (pa_cons (pv 0) (pa_cons (pv 3) pa_nil))) (pe_has g_pushed_headings (room.mono (by decide)) qt (by rfl) pass0 (pa_cons (pv 0) (pa_cons (pv 3) (pa_cons (pv 2) pa_nil))))))
      (pss_cons (ps_set (i := 5) sc_find_rows.nd rfl (Or.inl rfl) (pe_op op_catS (pv 4) (pe_listRg rfl (by rfl) T.tlist (prg_2 (by rfl) T.range (pv 3) (pe_callB call_len_seq (by rfl) T.len (by decide +kernel) (pa_cons (pv 0) pa_nil))))))
      (pss_one (ps_ret (pe_slice sl_list (pv 5) po_none (po_some (pv 1)))))))), ?_⟩
  refine ⟨_, rfl, _, rfl, a, ns, z, t, rfl, ha, it, ?_⟩
  have t1 : stopAt ns t - z ≠ 0 → 1 ≤ t := fun e => by
    rcases Nat.eq_zero_or_pos t with q | q
    · subst q
      have a0 := (okFrom_at hk (i := 0) (by omega)).1
      have := it.2.1
      unfold stopAt at this e
      omega
    · exact q
  -- above = headings_of(outline, top) + pushed_headings(outline, top, scroll)
  refine ⟨_, rfl, _, rfl, a, ns, t, rfl, ha, it.1, by omega, fun p H2 hp s2 h2 => ?_⟩
  refine ⟨_, rfl, _, rfl, _, rfl, a, ns, t, z, rfl, s2.seq ha, it.1, by omega, t1, fun q H3 hq s3 h3 => ?_⟩
  have q1 := headsL_len ns t (ns.getD t 0 - 1)
  have q2 := pushedL_len ns t z
  have q3 := it.1
  refine ⟨p, q, _, _, rfl, rfl, SqL.of (s3 _ _ h2), SqL.of h3, Nat.le_of_lt (small_line (by rw [List.length_map, List.length_map]; unfold headsOf; omega)), fun r hr => ?_⟩
  have e1 : iv (headsOf ns t) ++ iv (pushedL ns t z) = iv (headsOf ns t ++ pushedL ns t z) := (List.map_append).symm
  rw [e1]
  have s4 : Same H (upd H3 r (.lst (iv (headsOf ns t ++ pushedL ns t z)))) := (s2.trans s3).trans (Same.new hr)
  have h4 : (upd H3 r (.lst (iv (headsOf ns t ++ pushedL ns t z)))) r = some (.lst (iv (headsOf ns t ++ pushedL ns t z))) := upd_same
  generalize upd H3 r (.lst (iv (headsOf ns t ++ pushedL ns t z))) = H4 at s4 h4 ⊢
  -- rows = above + list(range(top, len(outline)))
  refine ⟨_, rfl, _, rfl, _, rfl, a, _, rfl, .inl (s4.seq ha), _, _, rfl, rfl, RgOk.of_le (by omega) (by rw [List.length_map]; omega) (by omega) (by omega), fun u hu => ?_⟩
  rw [rgV_rg2, List.length_map]
  refine ⟨r, u, _, _, rfl, rfl, SqL.of (Same.new hu _ _ h4), SqL.of upd_same, Nat.le_of_lt (small_line (by rw [List.length_map, List.length_map, List.length_append, rg2_len]; unfold headsOf; omega)), fun v hv => ?_⟩
  have e2 : iv (headsOf ns t ++ pushedL ns t z) ++ iv (rg2 t ns.length) = iv (rowsL ns z t) := (List.map_append).symm
  rw [e2]
  refine ⟨_, rfl, _, rfl, _, rfl, v, _, rfl, SqL.of upd_same, fun x hx => ?_⟩
  rw [cutV_iv, cutI_to _ (by omega)]
  have s5 := (s4.trans (Same.new (o := .lst (iv (rg2 t ns.length))) hu)).trans (Same.new (o := .lst (iv (rowsL ns z t))) hv)
  exact k x _ (s5.free hx) (s5.trans (Same.new hx)) upd_same
def sp_view : Sp := fun vs H Q _ => ∃ (a : Addr) (ns : List Int) (n s : Int) (t : Nat), vs = [.ref a, .int n, .int s] ∧ H a = some (.lst (iv ns)) ∧ isO ns = true ∧ 1 ≤ n ∧ n ≤ 400 ∧
  0 ≤ s ∧ s ≤ lastStop ns ∧ IsTop ns s t ∧ RetL Q H (iv (viewL ns n s t))
theorem ok_view (T : Txt mg) (h : At K mg "view" s_view)
    (g_check_outline : Has P w K mg base CX0 4 "check_outline" s_check_outline P_check_outline sp_check_outline)
    (g_check_height : Has P w K mg base CX0 3 "check_height" s_check_height P_check_height sp_check_height)
    (g_check_scroll : Has P w K mg base CX0 3 "check_scroll" s_check_scroll P_check_scroll (sp_check_scroll K))
    (g_find_rows : Has P w K mg base CX0 4 "find_rows" s_find_rows P_find_rows (sp_find_rows K)) :
    Has P w K mg base CX0 5 "view" s_view P_view sp_view := by
  refine Has.of h sc_view (fun vs H Q E h => ?_) (fun _ _ _ _ _ _ us hl => match us, hl with | [_, _, _], _ => rfl) (fun f cdv A outer s H vs Q E room qt h => ?_)
  · obtain ⟨a, n, t, z, u, rfl, _⟩ := h; rfl
  obtain ⟨a, ns, n, z, t, rfl, ha, ho, n0, n1, z0, z1, it, k⟩ := h
  obtain ⟨l1, l2, hk⟩ := isO_iff.mp ho
  refine ⟨_, (pss_cons (ps_expr (pe_has g_check_outline (room.mono (by decide)) qt (by rfl) pass0 (pa_cons (pv 0) pa_nil)))
      (pss_cons (ps_expr (pe_has g_check_height (room.mono (by decide)) qt (by rfl) pass0 (pa_cons (pv 1) pa_nil)))
      (pss_cons (ps_expr (pe_has g_check_scroll (room.mono (by decide)) qt (by rfl) pass0 (pa_cons (pv 0) (pa_cons (pv 2) pa_nil))))
      (pss_one (ps_ret (pe_has g_find_rows (room.mono (by decide)) qt (by rfl) pass0 (pa_cons (pv 0) (pa_cons (pv 1) (pa_cons (pv 2) pa_nil))))))))), ?_⟩
  refine ⟨_, rfl, a, ns, rfl, ha, ho, _, rfl, n, rfl, n0, n1, _, rfl, _, rfl, a, ns, z, rfl, SqL.of ha, l1, z0, z1, ?_⟩
  exact ⟨_, rfl, _, rfl, _, rfl, a, ns, n, z, t, rfl, SqL.of ha, ho, n0, z0, it, k⟩
end
abbrev s_law_source : Stmt := topS 25
abbrev N_law_source : List Str := ["cell", "index"]
abbrev P_law_source : List Str := ["cell", "index"]
theorem sc_law_source : FnScope N_law_source P_law_source (defScope s_law_source) := ⟨rfl, rfl, rfl, by decide +kernel, rfl, by decide +kernel, by decide +kernel⟩
abbrev s_law_draw : Stmt := topS 26
abbrev N_law_draw : List Str := ["source", "count", "digit"]
abbrev P_law_draw : List Str := ["source", "count"]
theorem sc_law_draw : FnScope N_law_draw P_law_draw (defScope s_law_draw) := ⟨rfl, rfl, rfl, by decide +kernel, rfl, by decide +kernel, by decide +kernel⟩
abbrev s_law_outline : Stmt := topS 28
abbrev N_law_outline : List Str := ["source", "script", "most", "size", "style", "made", "k", "top", "some", "rising"]
abbrev P_law_outline : List Str := ["source", "script", "most"]
theorem sc_law_outline : FnScope N_law_outline P_law_outline (defScope s_law_outline) := ⟨rfl, rfl, rfl, by decide +kernel, rfl, by decide +kernel, by decide +kernel⟩
/-- the generator stands at a: [digits, state, number of draws] -/
def SrcB (H : Hp) (a : Addr) : Prop := ∃ x y z : Int, H a = some (.lst [.int x, .int y, .int z]) ∧ 0 ≤ y ∧ y < 2 ^ 400
/-- what stays whatever the generator does -/
def Still (a : Addr) (H : Hp) (p : Hp → Prop) : Prop := ∀ H', SameBut a H H' → p H'
theorem Still.go {a : Addr} {H H' : Hp} {p : Hp → Prop} (s : Still a H p) (b : SameBut a H H') : Still a H' p := fun H2 q => s H2 (b.trans q)
section
variable {P : Program} {w : World} {K : PySem.W.Frag} {mg : Str → Option Value} {base : Heap}
theorem pw38 : (10 : Int) ^ (38 : Int).toNat = 100000000000000000000000000000000000000 := by decide
theorem pw33 : (10 : Int) ^ (33 : Int).toNat = 1000000000000000000000000000000000 := by decide
theorem pw8 : (10 : Int) ^ (8 : Int).toNat = 100000000 := by decide
theorem cube_lt {b : Int} (h0 : 0 ≤ b) (h1 : b < 2 ^ 130) : 0 ≤ b ^ (3 : Int).toNat ∧ b ^ (3 : Int).toNat < 2 ^ 390 := by
  have e : b ^ (3 : Int).toNat = b * b * b := by
    show b ^ 3 = b * b * b
    rw [Int.pow_succ, Int.pow_succ, Int.pow_succ, Int.pow_zero, Int.one_mul]
  rw [e]
  have q0 : 0 ≤ b * b := Int.mul_nonneg h0 h0
  have q1 : b * b ≤ 2 ^ 130 * 2 ^ 130 := Int.mul_le_mul (Int.le_of_lt h1) (Int.le_of_lt h1) h0 (by decide)
  refine ⟨Int.mul_nonneg q0 h0, ?_⟩
  have q2 : b * b * b ≤ 2 ^ 130 * 2 ^ 130 * b := Int.mul_le_mul_of_nonneg_right q1 h0
  have q3 : (2 ^ 130 * 2 ^ 130 * b : Int) < 2 ^ 130 * 2 ^ 130 * 2 ^ 130 := Int.mul_lt_mul_of_pos_left h1 (by decide)
  have q4 : (2 ^ 130 * 2 ^ 130 * 2 ^ 130 : Int) = 2 ^ 390 := by decide
  omega
def sp_law_source : Sp := fun vs H Q _ => ∃ c k : Int, vs = [.int c, .int k] ∧ 0 ≤ k ∧ k ≤ 1000 ∧ ∀ p H', H p = none → Same H H' → SrcB H' p → Q (.ref p) H'
theorem ok_law_source (T : Txt mg) (h : At K mg "_law_source" s_law_source) :
    Has P w K mg base CX0 2 "_law_source" s_law_source P_law_source sp_law_source := by
  refine Has.of h sc_law_source (fun vs H Q E h => ?_) (fun _ _ _ _ _ _ us hl => match us, hl with | [_, _], _ => rfl) (fun f cdv A outer s H vs Q E room qt h => ?_)
  · obtain ⟨v, a, rfl, _⟩ := h; rfl
  obtain ⟨c, i, rfl, i0, i1, k⟩ := h
  refine ⟨_, (pss_one (ps_ret (pe_lst (pa_cons (pe_callB (call_max2 rfl) (by rfl) T.max (by decide +kernel) (pa_cons pe_int (pa_cons (pe_op op_sub (pv 0) (pe_op op_powG pe_int pe_int)) pa_nil))) (pa_cons (pe_op op_add (pe_op op_add (pe_op op_powG (pe_op op_mod (pv 0) (pe_op op_add (pe_op op_powG pe_int pe_int) pe_int)) pe_int) (pe_op op_mul pe_int (pv 1))) pe_int) (pa_cons pe_int pa_nil)))))), ?_⟩
  refine ⟨_, rfl, _, _, rfl, rfl, ten_ok (by decide) (by decide), _, _, rfl, rfl, _, _, rfl, ?_⟩
  refine ⟨_, rfl, _, _, rfl, rfl, ten_ok (by decide) (by decide), _, _, rfl, rfl, _, _, rfl, rfl, ?_, ?_⟩
  · show (0 : Int) < _
    rw [pw38]; decide
  have cb : 0 ≤ c % (10 ^ (38 : Int).toNat + 133) ∧ c % (10 ^ (38 : Int).toNat + 133) < 2 ^ 130 := by rw [pw38]; omega
  refine ⟨_, _, rfl, rfl, cube_ok ?_, ?_⟩
  · generalize c % (10 ^ (38 : Int).toNat + 133) = b at cb
    omega
  refine ⟨_, rfl, _, _, rfl, rfl, .inl ⟨by decide, by decide⟩, _, _, rfl, rfl, _, _, rfl, rfl, (by decide : 3 ≤ sizeLine), fun p hp => k p _ hp (Same.new hp) ⟨_, _, _, upd_same, ?_, ?_⟩⟩
  · have := (cube_lt cb.1 cb.2).1
    generalize (c % (10 ^ (38 : Int).toNat + 133)) ^ (3 : Int).toNat = b at this
    omega
  · have := (cube_lt cb.1 cb.2).2
    generalize (c % (10 ^ (38 : Int).toNat + 133)) ^ (3 : Int).toNat = b at this
    omega
def sp_law_draw : Sp := fun vs H Q _ => ∃ (a : Addr) (n : Int), vs = [.ref a, .int n] ∧ SrcB H a ∧ 0 < n ∧ n < 1073741824 ∧
  ∀ r H', 0 ≤ r → r < n → SameBut a H H' → SrcB H' a → Q (.int r) H'
theorem ok_law_draw (T : Txt mg) (h : At K mg "_law_draw" s_law_draw) :
    Has P w K mg base CX0 2 "_law_draw" s_law_draw P_law_draw sp_law_draw := by
  refine Has.of h sc_law_draw (fun vs H Q E h => ?_) (fun _ _ _ _ _ _ us hl => match us, hl with | [_, _], _ => rfl) (fun f cdv A outer s H vs Q E room qt h => ?_)
  · obtain ⟨v, a, rfl, _⟩ := h; rfl
  obtain ⟨a, n, rfl, ⟨x, y, z, ha, y0, y1⟩, n0, n1, k⟩ := h
  refine ⟨_, (pss_cons (ps_if (pt_cmpR op_gt (pe_ix ix_list (pv 0) pe_int (fun _ _ => rfl)) pe_int (nomark _))
        (pss_cons (ps_set (i := 2) sc_law_draw.nd rfl (Or.inl rfl) (pe_op op_mod (pe_ix ix_list (pv 0) pe_int (fun _ _ => rfl)) (pv 1)))
        (pss_cons (ps_asg (pe_op op_fdiv (pe_ix ix_list (pv 0) pe_int (fun _ _ => rfl)) (pv 1)) (pg_sub (pv 0) pe_int set_list))
        (pss_one (ps_ret (pv 2)))))
        pss_nil)
      (pss_cons (ps_asg (pe_op op_add (pe_ix ix_list (pv 0) pe_int (fun _ _ => rfl)) pe_int) (pg_sub (pv 0) pe_int set_list))
      (pss_cons (ps_asg (pe_op op_mod (pe_op op_add (pe_op op_add (pe_op op_powG (pe_ix ix_list (pv 0) pe_int (fun _ _ => rfl)) pe_int) (pe_op op_mul pe_int (pe_ix ix_list (pv 0) pe_int (fun _ _ => rfl)))) pe_int) (pe_op op_add (pe_op op_powG pe_int pe_int) pe_int)) (pg_sub (pv 0) pe_int set_list))
      (pss_one (ps_ret (pe_op op_mod (pe_op op_fdiv (pe_ix ix_list (pv 0) pe_int (fun _ _ => rfl)) (pe_op op_powG pe_int pe_int)) (pv 1))))))), ?_⟩
  refine ⟨_, rfl, a, _, 0, _, rfl, rfl, SqL.of ha, rfl, _, _, rfl, rfl, _, rfl, ite2 (fun c => ?_) (fun c => ?_)⟩
  · refine ⟨_, rfl, a, _, 0, _, rfl, rfl, SqL.of ha, rfl, _, rfl, _, _, rfl, rfl, n0, ?_⟩
    refine ⟨_, rfl, a, _, 0, _, rfl, rfl, SqL.of ha, rfl, _, rfl, _, _, rfl, rfl, ⟨n0, n1⟩, _, rfl, a, _, 0, 0, rfl, rfl, ha, rfl, ?_⟩
    exact ⟨_, rfl, k _ _ (Int.emod_nonneg _ (by omega)) (Int.emod_lt_of_pos _ n0) (SameBut.upd .refl) ⟨_, _, _, upd_same, y0, y1⟩⟩
  · refine ⟨_, rfl, a, _, 2, _, rfl, rfl, SqL.of ha, rfl, _, _, rfl, rfl, _, rfl, a, _, 2, 2, rfl, rfl, ha, rfl, ?_⟩
    have h2 : (upd H a (.lst [.int x, .int y, .int (z + 1)])) a = some (.lst [.int x, .int y, .int (z + 1)]) := upd_same
    -- source[1] = (source[1] ** 3 + 387420489 * source[2] + 5) % (10 ** 33 + 61)
    refine ⟨_, rfl, a, _, 1, _, rfl, rfl, SqL.of h2, rfl, _, _, rfl, rfl, cube_ok (by omega), _, rfl, a, _, 2, _, rfl, rfl, SqL.of h2, rfl, _, _, rfl, rfl, .inl ⟨by decide, by decide⟩, _, _, rfl, rfl, _, _, rfl, rfl, ?_⟩
    refine ⟨_, _, rfl, rfl, ten_ok (by decide) (by decide), _, _, rfl, rfl, _, _, rfl, rfl, ?_, _, rfl, a, _, 1, 1, rfl, rfl, h2, rfl, ?_⟩
    · show (0 : Int) < _
      rw [pw33]; decide
    have e33 : ∀ v : Int, 0 ≤ v % (10 ^ (33 : Int).toNat + 61) ∧ v % (10 ^ (33 : Int).toNat + 61) < 2 ^ 400 := fun v => by rw [pw33]; omega
    have e3 := e33 (y ^ (3 : Int).toNat + 387420489 * (z + 1) + 5)
    have h3 : (upd (upd H a (.lst [.int x, .int y, .int (z + 1)])) a (.lst [.int x, .int ((y ^ (3 : Int).toNat + 387420489 * (z + 1) + 5) % (10 ^ (33 : Int).toNat + 61)), .int (z + 1)])) a = some (.lst [.int x, .int ((y ^ (3 : Int).toNat + 387420489 * (z + 1) + 5) % (10 ^ (33 : Int).toNat + 61)), .int (z + 1)]) := upd_same
    refine ⟨_, rfl, a, _, 1, _, rfl, rfl, SqL.of h3, rfl, _, _, rfl, rfl, ten_ok (by decide) (by decide), _, _, rfl, rfl, ?_, _, rfl, _, _, rfl, rfl, n0, ?_⟩
    · show CDiv _ _
      rw [pw8]
      exact ⟨by decide, by decide⟩
    exact k _ _ (Int.emod_nonneg _ (by omega)) (Int.emod_lt_of_pos _ n0) (SameBut.upd (SameBut.upd .refl)) ⟨_, _, _, h3, e3⟩
def sp_law_outline (K : PySem.W.Frag) : Sp := fun vs H Q _ => ∃ (a b : Addr) (m : Int) (sns : List Int), vs = [.ref a, .ref b, .int m] ∧ SrcB H a ∧ Still a H (fun H' => SqL K H' b (iv sns)) ∧
  1 ≤ m ∧ m ≤ 200 ∧ ∀ (ns : List Int) (p : Addr) (H' : Hp), isO ns = true → (ns.length : Int) ≤ m ∨ ns.length ≤ 5 → H p = none → SameBut a H H' → SrcB H' a → H' p = some (.lst (iv ns)) → Q (.ref p) H'
theorem ok_law_outline (T : Txt mg) (h : At K mg "_law_outline" s_law_outline)
    (g_law_draw : Has P w K mg base CX0 2 "_law_draw" s_law_draw P_law_draw sp_law_draw) :
    Has P w K mg base CX0 3 "_law_outline" s_law_outline P_law_outline (sp_law_outline K) := by
  refine Has.of h sc_law_outline (fun vs H Q E h => ?_) (fun _ _ _ _ _ _ us hl => match us, hl with | [_, _, _], _ => rfl) (fun f cdv A outer s H vs Q E room qt h => ?_)
  · obtain ⟨v, a, m, z, rfl, _⟩ := h; rfl
  obtain ⟨a, b, m, sns, rfl, ha, hb, m0, m1, k⟩ := h
  refine ⟨_, (pss_cons (ps_set (i := 3) sc_law_outline.nd rfl (Or.inl rfl) (pe_ix ix_list (pe_lst (pa_cons (pe_op op_add pe_int (pe_has g_law_draw (room.mono (by decide)) qt (by rfl) pass0 (pa_cons (pv 0) (pa_cons (pe_callB (call_min2 rfl) (by rfl) T.min (by decide +kernel) (pa_cons (pv 2) (pa_cons pe_int pa_nil))) pa_nil)))) (pa_cons (pe_op op_add pe_int (pe_has g_law_draw (room.mono (by decide)) qt (by rfl) pass0 (pa_cons (pv 0) (pa_cons (pv 2) pa_nil)))) (pa_cons (pv 2) pa_nil)))) (pe_has g_law_draw (room.mono (by decide)) qt (by rfl) pass0 (pa_cons (pv 0) (pa_cons pe_int pa_nil))) (fun _ _ => rfl)))
      (pss_cons (ps_par (i := 4) (j := 5) rfl sc_law_outline.nd rfl rfl (by decide) rfl rfl (pa_cons (pe_has g_law_draw (room.mono (by decide)) qt (by rfl) pass0 (pa_cons (pv 0) (pa_cons pe_int pa_nil))) (pa_cons (pe_lst (pa_cons pe_int pa_nil)) pa_nil)) (by rfl))
      (pss_cons (ps_for PassesOwn.never rfl (pi_range2 (by rfl) T.range (pa_cons pe_int (pa_cons (pe_ifExp (pt_cmpR (op_eqD room.units) (pv 1) (pe_lst pa_nil) (nomark _)) pe_int (pv 3)) pa_nil))) (pg_name (i := 6) sc_law_outline.nd rfl (Or.inl rfl) (hf := Or.inl rfl))
        (pss_cons (ps_set (i := 7) sc_law_outline.nd rfl (Or.inl rfl) (pe_op op_add (pe_ix ix_list (pv 5) (pe_un un_neg pe_int) (fun _ _ => rfl)) pe_int))
        (pss_cons (ps_set (i := 8) sc_law_outline.nd rfl (Or.inl rfl) (pe_has g_law_draw (room.mono (by decide)) qt (by rfl) pass0 (pa_cons (pv 0) (pa_cons (pe_op op_add (pv 7) pe_int) pa_nil))))
        (pss_cons (ps_set (i := 9) sc_law_outline.nd rfl (Or.inl rfl) (pe_ifExp (pt_cmpR op_gt (pe_has g_law_draw (room.mono (by decide)) qt (by rfl) pass0 (pa_cons (pv 0) (pa_cons pe_int pa_nil))) pe_int (nomark _)) (pv 7) (pv 8)))
        (pss_one (ps_expr (pe_bm PySem.F.plainAttrs_list PySem.F.slot_list_append PySem.F.type_list_append mt_append (pv 5) (pa_cons (pe_ix ix_list (pe_lst (pa_cons (pv 8) (pa_cons (pe_callB (call_min2 rfl) (by rfl) T.min (by decide +kernel) (pa_cons (pv 8) (pa_cons pe_int pa_nil))) (pa_cons (pv 9) (pa_cons (pe_callB (call_min2 rfl) (by rfl) T.min (by decide +kernel) (pa_cons (pv 7) (pa_cons (pe_has g_law_draw (room.mono (by decide)) qt (by rfl) pass0 (pa_cons (pv 0) (pa_cons pe_int pa_nil))) pa_nil))) (pa_cons (pe_ifExp (pt_cmpR op_lt (pv 7) pe_int (nomark _)) (pv 7) pe_int) pa_nil)))))) (pv 4) (fun _ _ => rfl)) pa_nil))))))))
      (pss_one (ps_ret (pv 5)))))), ?_⟩
  -- size = [.., .., most][_law_draw(source, 3)]
  refine ⟨_, rfl, _, rfl, _, _, rfl, a, _, rfl, ha, by split <;> omega, by split <;> omega, fun d1 H1 p1 q1 b1 s1 => ⟨_, _, rfl, rfl, ?_⟩⟩
  refine ⟨_, rfl, _, rfl, a, _, rfl, s1, by omega, by omega, fun d2 H2 p2 q2 b2 s2 => ⟨_, _, rfl, rfl, _, rfl, (by decide : 3 ≤ sizeLine), fun q hq => ?_⟩⟩
  have naq : a ≠ q := by obtain ⟨_, _, _, e, _⟩ := s2; exact ne_of_none e hq
  have s2' : ∀ o, SrcB (upd H2 q o) a := fun o => by obtain ⟨x, y, z, e, y0, y1⟩ := s2; exact ⟨x, y, z, by rw [upd_ne naq]; exact e, y0, y1⟩
  refine ⟨_, rfl, a, 3, rfl, s2' _, by decide, by decide, fun j H3 p3 q3 b3 s3 => ?_⟩
  have h3q : H3 q = some (.lst (iv [1 + d1, 1 + d2, m])) := b3 q _ upd_same naq.symm
  refine ⟨q, iv [1 + d1, 1 + d2, m], j, _, rfl, rfl, SqL.of h3q, atI_iv p3 (by exact q3), ?_⟩
  have hs : 1 ≤ [1 + d1, 1 + d2, m].getD j.toNat 0 ∧ [1 + d1, 1 + d2, m].getD j.toNat 0 ≤ m := by
    refine getD_all (p := fun v => 1 ≤ v ∧ v ≤ m) (fun v hv => ?_) p3 (by exact q3)
    simp only [List.mem_cons, List.not_mem_nil, or_false] at hv
    rcases hv with rfl | rfl | rfl
    · split at q1 <;> omega
    · omega
    · omega
  generalize [1 + d1, 1 + d2, m].getD j.toNat 0 = sz at hs ⊢
  have b03 : SameBut a H H3 := fun c o e n => b3 c o (by rw [upd_ne (ne_of_none (b2 c o (b1 c o e n) n) hq)]; exact b2 c o (b1 c o e n) n) n
  -- style, made = _law_draw(source, 5), [0]
  refine ⟨_, rfl, a, 5, rfl, s3, by decide, by decide, fun st H4 p4 q4 b4 s4 => ⟨(by decide : 1 ≤ sizeLine), fun p hp => ⟨_, _, rfl, ?_⟩⟩⟩
  have b04 := b03.trans b4
  have nap : p ≠ a := by obtain ⟨_, _, _, e, _⟩ := s4; exact (ne_of_none e hp).symm
  have hpH : H p = none := by
    cases e : H p with
    | none => rfl
    | some o => rw [b04 p o e nap] at hp; cases hp
  have s4' : SrcB (upd H4 p (.lst [.int 0])) a := by obtain ⟨x, y, z, e, y0, y1⟩ := s4; exact ⟨x, y, z, by rw [upd_ne nap.symm]; exact e, y0, y1⟩
  have b05 : SameBut a H (upd H4 p (.lst [.int 0])) := b04.new hp
  have h5p : (upd H4 p (.lst [.int 0])) p = some (.lst (iv [0])) := upd_same
  generalize upd H4 p (.lst [.int 0]) = H5 at s4' b05 h5p ⊢
  -- for k in range(1, 5 if script == [] else size)
  refine ⟨_, rfl, (by decide : 0 ≤ sizeLine), fun q5 n5 => eqD_ints (ns := sns) (ms := []) (hb _ (b05.new n5)) (SqL.of upd_same) ⟨_, rfl, ?_⟩⟩
  have na5 : a ≠ q5 := by obtain ⟨_, _, _, e, _⟩ := s4'; exact ne_of_none e n5
  have s6 : SrcB (upd H5 q5 (.lst [])) a := by obtain ⟨x, y, z, e, y0, y1⟩ := s4'; exact ⟨x, y, z, by rw [upd_ne na5]; exact e, y0, y1⟩
  have b06 : SameBut a H (upd H5 q5 (.lst [])) := b05.new n5
  have h6p := Same.new (o := .lst []) n5 _ _ h5p
  generalize upd H5 q5 (.lst []) = H6 at s6 b06 h6p ⊢
  refine if_int (x := 5) (y := sz) (fun Q' q => q) (fun Q' q => ⟨_, rfl, q⟩) ?_
  have hn : ∃ n : Int, (if decide (sns = []) = true then 5 else sz) = n ∧ 1 ≤ n ∧ n ≤ 200 ∧ (n ≤ m ∨ n ≤ 5) := ⟨_, rfl, by split <;> omega, by split <;> omega, by split <;> omega⟩
  obtain ⟨n, en, n0, n1, n2⟩ := hn
  rw [en]
  refine ⟨_, _, rfl, ⟨by omega, by omega, by omega, by omega⟩, for_range (lo := 1) (n := (n - 1).toNat) (fun i σ H7 => (∃ v6 v7 v8 v9, σ = [some (.ref a), some (.ref b), some (.int m), some (.int sz), some (.int st), some (.ref p), v6, v7, v8, v9]) ∧
    ∃ ns : List Int, ns.length = i + 1 ∧ okFrom 0 ns = true ∧ SameBut a H H7 ∧ SrcB H7 a ∧ H7 p = some (.lst (iv ns)))
    ⟨⟨_, _, _, _, rfl⟩, [0], rfl, rfl, b06, s6, h6p⟩ ?_ ?_⟩
  · rintro i σ H7 hi ⟨⟨v6, v7, v8, v9, rfl⟩, ns, hl, hk, b7, s7, h7p⟩
    have nn : ns ≠ [] := fun e => by subst e; cases hl
    have l0 := (okFrom_at hk (i := ns.length - 1) (by omega)).1
    have l1 := okFrom_le hk (i := ns.length - 1) (by omega)
    -- top = made[-1] + 1
    refine ⟨_, rfl, _, rfl, p, iv ns, -1, _, rfl, rfl, SqL.of h7p, atI_iv_last nn, _, _, rfl, rfl, ?_⟩
    generalize hla : ns.getD (ns.length - 1) 0 = la at l0 l1 ⊢
    -- some = _law_draw(source, top + 1)
    refine ⟨_, rfl, _, rfl, _, _, rfl, rfl, a, _, rfl, s7, by omega, by omega, fun e1 H8 x0 x1 b8 s8 => ?_⟩
    -- rising
    refine ⟨_, rfl, a, 8, rfl, s8, by decide, by decide, fun e2 H9 y0 y1 b9 s9 => ⟨_, _, rfl, rfl, _, rfl, ?_⟩⟩
    have h9p : H9 p = some (.lst (iv ns)) := b9 _ _ (b8 _ _ h7p nap) nap
    refine if_int (x := la + 1) (y := e1) (fun Q' q => ⟨_, rfl, q⟩) (fun Q' q => ⟨_, rfl, q⟩) ?_
    have hr : ∃ r : Int, (if decide (0 < e2) = true then la + 1 else e1) = r ∧ 0 ≤ r ∧ r ≤ la + 1 := ⟨_, rfl, by split <;> omega, by split <;> omega⟩
    obtain ⟨r, er, r0, r1⟩ := hr
    rw [er]
    -- made.append([..][style])
    refine ⟨_, rfl, .inl ⟨rfl, _, SqL.of h9p⟩, _, rfl, _, rfl, _, _, rfl, _, rfl, _, rfl, _, rfl, a, 4, rfl, s9, by decide, by decide, fun e4 H10 z0 z1 b10 s10 => ⟨_, _, rfl, ?_⟩⟩
    refine ⟨_, rfl, _, _, rfl, rfl, _, rfl, if_int (x := la + 1) (y := 0) (fun Q' q => ⟨_, rfl, q⟩) (fun Q' q => q) ?_⟩
    refine ⟨(by decide : 5 ≤ sizeLine), fun q8 n8 => ?_⟩
    have nq8 : p ≠ q8 := ne_of_none (b10 _ _ h9p nap) n8
    refine ⟨_, rfl, q8, iv [e1, if 1 < e1 then 1 else e1, r, if e4 < la + 1 then e4 else la + 1, if decide (la + 1 < 6) = true then la + 1 else 0], st, _, rfl, rfl, SqL.of upd_same, atI_iv p4 (by exact q4), ?_⟩
    have hd : 0 ≤ [e1, if 1 < e1 then 1 else e1, r, if e4 < la + 1 then e4 else la + 1, if decide (la + 1 < 6) = true then la + 1 else 0].getD st.toNat 0 ∧
        [e1, if 1 < e1 then 1 else e1, r, if e4 < la + 1 then e4 else la + 1, if decide (la + 1 < 6) = true then la + 1 else 0].getD st.toNat 0 ≤ la + 1 := by
      refine getD_all (p := fun v => 0 ≤ v ∧ v ≤ la + 1) (fun v hv => ?_) p4 (by exact q4)
      simp only [List.mem_cons, List.not_mem_nil, or_false] at hv
      rcases hv with rfl | rfl | rfl | rfl | rfl
      · omega
      · split <;> omega
      · omega
      · split <;> omega
      · split <;> omega
    generalize [e1, if 1 < e1 then 1 else e1, r, if e4 < la + 1 then e4 else la + 1, if decide (la + 1 < 6) = true then la + 1 else 0].getD st.toNat 0 = d at hd ⊢
    have h10p : H10 p = some (.lst (iv ns)) := b10 _ _ h9p nap
    refine ⟨p, iv ns, .int d, rfl, rfl, (by rw [upd_ne nq8]; exact h10p), small_line (by rw [List.length_map]; omega), ?_⟩
    have na8 : a ≠ q8 := by obtain ⟨_, _, _, e, _⟩ := s10; exact ne_of_none e n8
    have b710 : SameBut a H H10 := ((b7.trans b8).trans b9).trans b10
    refine ⟨⟨_, _, _, _, rfl⟩, ns ++ [d], by rw [List.length_append, hl]; rfl, okFrom_snoc hk hd.1 (fun e => (nn e).elim) (fun _ => by rw [hla]; exact hd.2), ?_, ?_, by rw [iv_snoc]; exact upd_same⟩
    · intro c o e ne
      have n1 : c ≠ p := ne_of_none e hpH
      have n2 : c ≠ q8 := ne_of_none (b710 c o e ne) n8
      rw [upd_ne n1, upd_ne n2]
      exact b710 c o e ne
    · obtain ⟨x, y, z, e, y0, y1⟩ := s10
      exact ⟨x, y, z, by rw [upd_ne nap.symm, upd_ne na8]; exact e, y0, y1⟩
  · rintro σ H7 ⟨⟨v6, v7, v8, v9, rfl⟩, ns, hl, hk, b7, s7, h7p⟩
    refine ⟨_, rfl, k ns p H7 (isO_iff.mpr ⟨by omega, by omega, hk⟩) (by omega) hpH b7 s7 h7p⟩
end
abbrev s_law_cells : Stmt := topS 27
abbrev N_law_cells : List Str := ["script", "count"]
abbrev P_law_cells : List Str := ["script", "count"]
theorem sc_law_cells : FnScope N_law_cells P_law_cells (defScope s_law_cells) := ⟨rfl, rfl, rfl, by decide +kernel, rfl, by decide +kernel, by decide +kernel⟩
section
variable {P : Program} {w : World} {K : PySem.W.Frag} {mg : Str → Option Value} {base : Heap}
theorem SrcB.new {H : Hp} {a p : Addr} {o : HO} (s : SrcB H a) (h : H p = none) : SrcB (upd H p o) a := by
  obtain ⟨x, y, z, e, y0, y1⟩ := s
  exact ⟨x, y, z, by rw [upd_ne (ne_of_none e h)]; exact e, y0, y1⟩
theorem SrcB.same {H H' : Hp} {a : Addr} (s : SrcB H a) (h : Same H H') : SrcB H' a := by
  obtain ⟨x, y, z, e, y0, y1⟩ := s
  exact ⟨x, y, z, h _ _ e, y0, y1⟩
theorem SrcB.ne {H : Hp} {a p : Addr} (s : SrcB H a) (h : H p = none) : a ≠ p := by
  obtain ⟨x, y, z, e, y0, y1⟩ := s
  exact ne_of_none e h
def sp_law_cells (K : PySem.W.Frag) : Sp := fun vs H Q _ => ∃ (a : Addr) (n : Int) (ns : List Int), vs = [.ref a, .int n] ∧ SqL K H a (iv ns) ∧ ns.length ≤ 63 ∧
  ∀ (ms : List Int) (p : Addr) (H' : Hp), ms.length ≤ 64 → H p = none → Same H H' → H' p = some (.lst (iv ms)) → Q (.ref p) H'
theorem ok_law_cells (T : Txt mg) (h : At K mg "_law_cells" s_law_cells) :
    Has P w K mg base CX0 2 "_law_cells" s_law_cells P_law_cells (sp_law_cells K) := by
  refine Has.of h sc_law_cells (fun vs H Q E h => ?_) (fun _ _ _ _ _ _ us hl => match us, hl with | [_, _], _ => rfl) (fun f cdv A outer s H vs Q E room qt h => ?_)
  · obtain ⟨v, a, n, rfl, _⟩ := h; rfl
  obtain ⟨a, n, ns, rfl, ha, hl, k⟩ := h
  refine ⟨_, (pss_one (ps_ret (pe_op op_catS (pe_slice sl_list (pv 0) po_none (po_some (pv 1))) (pe_op op_rep (pe_lst (pa_cons pe_int pa_nil)) (pe_callTy call_int1 (by rfl) T.tint (by decide +kernel) (pa_cons (pe_cmpR (op_eqD room.units) (pv 0) (pe_lst pa_nil) (nomark _)) pa_nil)))))), ?_⟩
  refine ⟨_, rfl, _, rfl, _, rfl, a, iv ns, rfl, ha, fun p1 n1 => ?_⟩
  rw [cutV_iv]
  have c1 := cutI_len ns none (some n)
  refine ⟨(by decide : 1 ≤ sizeLine), fun p2 n2 => ⟨_, rfl, (by decide : 0 ≤ sizeLine), fun p3 n3 => ?_⟩⟩
  refine eqD_ints (ns := ns) (ms := []) ((((Same.new n1).trans (Same.new n2)).trans (Same.new n3)).seq ha) (SqL.of upd_same) (.inr ⟨_, rfl, ?_⟩)
  have h3 := Same.new (o := .lst []) n3 _ _ (upd_same (H := upd H p1 (.lst (iv (cutI ns none (some n))))) (a := p2) (o := .lst [.int 0]))
  have hk : ∃ m : Nat, (if decide (ns = []) = true then (1 : Int) else 0) = (m : Int) ∧ m ≤ 1 := by
    by_cases e : ns = []
    · exact ⟨1, by rw [if_pos (decide_eq_true e)]; rfl, Nat.le_refl _⟩
    · exact ⟨0, by rw [if_neg (by simpa using e)]; rfl, Nat.zero_le _⟩
  obtain ⟨m, em, m1⟩ := hk
  rw [em]
  refine ⟨p2, m, _, rfl, rfl, h3, by omega, by omega, ?_, fun p4 n4 => ?_⟩
  · show 1 * (m : Int).toNat ≤ sizeLine
    have : (2 : Nat) ≤ sizeLine := by decide
    omega
  rw [Int.toNat_natCast, iv_rep]
  have h1 := Same.new (o := .lst (iv (List.replicate m 0))) n4 _ _ (Same.new (o := .lst []) n3 _ _ (Same.new (o := .lst [.int 0]) n2 _ _ (upd_same (H := H) (a := p1) (o := .lst (iv (cutI ns none (some n)))))))
  have s4 : Same H _ := (((Same.new n1).trans (Same.new n2)).trans (Same.new n3)).trans (Same.new (o := .lst (iv (List.replicate m 0))) n4)
  refine ⟨p1, p4, _, _, rfl, rfl, SqL.of h1, SqL.of upd_same, Nat.le_of_lt (small_line (by rw [List.length_map, List.length_map, List.length_replicate]; omega)), fun p5 n5 => ?_⟩
  refine k (cutI ns none (some n) ++ List.replicate m 0) p5 _ (by rw [List.length_append, List.length_replicate]; omega) (s4.free n5) (s4.trans (Same.new n5)) ?_
  rw [upd_same]
  exact congrArg (fun l => some (HO.lst l)) (List.map_append).symm
end
abbrev s_law_rows : Stmt := topS 29
abbrev N_law_rows : List Str := ["source", "script", "size", "some"]
abbrev P_law_rows : List Str := ["source", "script", "size"]
theorem sc_law_rows : FnScope N_law_rows P_law_rows (defScope s_law_rows) := ⟨rfl, rfl, rfl, by decide +kernel, rfl, by decide +kernel, by decide +kernel⟩
section
variable {P : Program} {w : World} {K : PySem.W.Frag} {mg : Str → Option Value} {base : Heap}
def sp_law_rows : Sp := fun vs H Q _ => ∃ (a b : Addr) (m : Int), vs = [.ref a, .ref b, .int m] ∧ SrcB H a ∧ 1 ≤ m ∧ m ≤ 400 ∧
  ∀ r H', 1 ≤ r → r ≤ 400 → SameBut a H H' → SrcB H' a → Q (.int r) H'
theorem ok_law_rows (T : Txt mg) (h : At K mg "_law_rows" s_law_rows)
    (g_law_draw : Has P w K mg base CX0 2 "_law_draw" s_law_draw P_law_draw sp_law_draw) :
    Has P w K mg base CX0 3 "_law_rows" s_law_rows P_law_rows sp_law_rows := by
  refine Has.of h sc_law_rows (fun vs H Q E h => ?_) (fun _ _ _ _ _ _ us hl => match us, hl with | [_, _, _], _ => rfl) (fun f cdv A outer s H vs Q E room qt h => ?_)
  · obtain ⟨v, a, n, rfl, _⟩ := h; rfl
  obtain ⟨a, b, m, rfl, ha, m0, m1, k⟩ := h
  refine ⟨_, (pss_cons (ps_set (i := 3) sc_law_rows.nd rfl (Or.inl rfl) (pe_lst (pa_cons (pe_op op_add pe_int (pe_has g_law_draw (room.mono (by decide)) qt (by rfl) pass0 (pa_cons (pv 0) (pa_cons pe_int pa_nil)))) (pa_cons (pe_op op_add pe_int (pe_has g_law_draw (room.mono (by decide)) qt (by rfl) pass0 (pa_cons (pv 0) (pa_cons pe_int pa_nil)))) (pa_cons (pe_op op_add pe_int (pe_has g_law_draw (room.mono (by decide)) qt (by rfl) pass0 (pa_cons (pv 0) (pa_cons pe_int pa_nil)))) (pa_cons (pv 2) pa_nil))))))
      (pss_one (ps_ret (pe_ix ix_list (pv 3) (pe_has g_law_draw (room.mono (by decide)) qt (by rfl) pass0 (pa_cons (pv 0) (pa_cons pe_int pa_nil))) (fun _ _ => rfl))))), ?_⟩
  refine ⟨_, rfl, a, 6, rfl, ha, by decide, by decide, fun d1 H1 p1 q1 b1 s1 => ⟨_, _, rfl, rfl, ?_⟩⟩
  refine ⟨_, rfl, a, 40, rfl, s1, by decide, by decide, fun d2 H2 p2 q2 b2 s2 => ⟨_, _, rfl, rfl, ?_⟩⟩
  refine ⟨_, rfl, a, 400, rfl, s2, by decide, by decide, fun d3 H3 p3 q3 b3 s3 => ⟨_, _, rfl, rfl, _, rfl, (by decide : 4 ≤ sizeLine), fun q hq => ?_⟩⟩
  have nq := s3.ne hq
  refine ⟨_, rfl, _, rfl, a, 4, rfl, s3.new hq, by decide, by decide, fun j H4 p4 q4 b4 s4 => ?_⟩
  refine ⟨q, iv [1 + d1, 1 + d2, 1 + d3, m], j, _, rfl, rfl, SqL.of (b4 _ _ upd_same nq.symm), atI_iv p4 (by exact q4), ?_⟩
  have hs : 1 ≤ [1 + d1, 1 + d2, 1 + d3, m].getD j.toNat 0 ∧ [1 + d1, 1 + d2, 1 + d3, m].getD j.toNat 0 ≤ 400 := by
    refine getD_all (p := fun v => 1 ≤ v ∧ v ≤ 400) (fun v hv => ?_) p4 (by exact q4)
    simp only [List.mem_cons, List.not_mem_nil, or_false] at hv
    rcases hv with rfl | rfl | rfl | rfl <;> omega
  exact k _ _ hs.1 hs.2 ((((b1.trans b2).trans b3).trans (SameBut.of (Same.new hq))).trans b4) s4
end
abbrev s_law_last : Stmt := topS 33
abbrev N_law_last : List Str := ["made"]
abbrev P_law_last : List Str := ["made"]
theorem sc_law_last : FnScope N_law_last P_law_last (defScope s_law_last) := ⟨rfl, rfl, rfl, by decide +kernel, rfl, by decide +kernel, by decide +kernel⟩
section
variable {P : Program} {w : World} {K : PySem.W.Frag} {mg : Str → Option Value} {base : Heap}
def sp_law_last (K : PySem.W.Frag) : Sp := fun vs H Q _ => ∃ (a : Addr) (ns : List Int), vs = [.ref a] ∧ SqL K H a (iv ns) ∧ 1 ≤ ns.length ∧ Q (.int (lastStop ns)) H
theorem ok_law_last (T : Txt mg) (h : At K mg "_law_last" s_law_last) :
    Has P w K mg base CX0 2 "_law_last" s_law_last P_law_last (sp_law_last K) := by
  refine Has.of h sc_law_last (fun vs H Q E h => ?_) (fun _ _ _ _ _ _ us hl => match us, hl with | [_], _ => rfl) (fun f cdv A outer s H vs Q E room qt h => ?_)
  · obtain ⟨a, n, rfl, _⟩ := h; rfl
  obtain ⟨a, ns, rfl, ha, hl, k⟩ := h
  refine ⟨_, (pss_one (ps_ret (pe_op op_sub (pe_op op_sub (pe_callB call_len_seq (by rfl) T.len (by decide +kernel) (pa_cons (pv 0) pa_nil)) pe_int) (pe_ix ix_list (pv 0) (pe_un un_neg pe_int) (fun _ _ => rfl))))), ?_⟩
  have nn : ns ≠ [] := fun e => by subst e; exact absurd hl (by decide)
  refine ⟨_, rfl, a, _, rfl, .inl ha, _, _, rfl, rfl, _, rfl, _, rfl, a, iv ns, -1, _, rfl, rfl, ha, atI_iv_last nn, _, _, rfl, rfl, ?_⟩
  have e : ((iv ns).length : Int) - 1 - ns.getD (ns.length - 1) 0 = lastStop ns := by
    rw [List.length_map]
    unfold lastStop stopAt
    omega
  show Q (.int (((iv ns).length : Int) - 1 - ns.getD (ns.length - 1) 0)) H
  rw [e]
  exact k
end
end SH

namespace SH
open PySem PySem.Spec PyProof.Rows L2
theorem headsL_length {ns : List Int} (h : okFrom 0 ns = true) : ∀ {k : Nat} {w : Int}, k ≤ ns.length → -1 ≤ w → (k = 0 → w = -1) → (∀ j, k = j + 1 → w ≤ ns.getD j 0) →
    ((headsL ns k w).length : Int) = w + 1
  | 0, w, _, _, h0, _ => by
    rw [h0 rfl]
    rfl
  | k + 1, w, hk, hw, _, hj => by
    obtain ⟨a, b, c⟩ := okFrom_at h (i := k) (by omega)
    have q := hj k rfl
    unfold headsL
    by_cases e : ns.getD k 0 = w
    · rw [if_pos e, List.length_append]
      have := headsL_length h (k := k) (w := w - 1) (by omega) (by omega) (fun z => by have := c z; omega) (fun j ej => by have := b j ej; omega)
      show (((headsL ns k (w - 1)).length + 1 : Nat) : Int) = w + 1
      omega
    · rw [if_neg e]
      exact headsL_length h (k := k) (w := w) (by omega) (by omega) (fun z => by have := c z; omega) (fun j ej => by have := b j ej; omega)
theorem headsOf_length {ns : List Int} (h : okFrom 0 ns = true) {i : Nat} (hi : i < ns.length) : ((headsOf ns i).length : Int) = ns.getD i 0 := by
  obtain ⟨a, b, c⟩ := okFrom_at h hi
  have := headsL_length h (k := i) (w := ns.getD i 0 - 1) (by omega) (by omega) (fun z => by have := c z; omega) (fun j ej => by have := b j ej; omega)
  unfold headsOf
  omega
theorem miss_le {ns : List Int} {s : Int} {t : Nat} (h : okFrom 0 ns = true) (it : IsTop ns s t) (h0 : 0 < stopAt ns t - s) (s0 : 0 ≤ s) : 1 ≤ t ∧ stopAt ns t - s ≤ (headsOf ns (t - 1)).length := by
  have ht := it.1
  have t1 : 1 ≤ t := by
    rcases Nat.eq_zero_or_pos t with q | q
    · subst q
      have := (stopAt_nn h ht).2
      omega
    · exact q
  refine ⟨t1, ?_⟩
  rw [headsOf_length h (by omega)]
  have := it.2.2 (t - 1) (by omega)
  have a := (okFrom_at h ht).1
  unfold stopAt at this ⊢
  omega
theorem cut_tail (l : List Int) {m : Int} (h0 : 0 < m) (h1 : m ≤ l.length) : cutI l (some ((l.length : Int) - m)) none = cutI l (some (-m)) none := by
  have e : HT.sIx l.length 0 (some ((l.length : Int) - m)) = HT.sIx l.length 0 (some (-m)) := by
    unfold HT.sIx
    simp only
    rw [if_neg (by omega), if_pos (by omega)]
    omega
  unfold cutI
  rw [e]
section
/-- None, or a pair of ints -/
def OV (H : Hp) (v : V) (r : Option (Int × Int)) : Prop := (v = .non ∧ r = none) ∨ ∃ p lo hi, v = .ref p ∧ H p = some (.tup (iv [lo, hi])) ∧ r = some (lo, hi)
theorem OV.same {H H' : Hp} {v : V} {r : Option (Int × Int)} (h : OV H v r) (s : Same H H') : OV H' v r := by
  rcases h with h | ⟨p, lo, hi, e, e2, e3⟩
  · exact .inl h
  · exact .inr ⟨p, lo, hi, e, s _ _ e2, e3⟩
def RetO (Q : VK) (H : Hp) (r : Option (Int × Int)) : Prop := ∀ v H', Same H H' → OV H' v r → Q v H'
end
theorem isO_vals {ns : List Int} (h : isO ns = true) : ∀ v ∈ ns, v.natAbs < 2 ^ 64 := by
  obtain ⟨h1, h2, h3⟩ := isO_iff.mp h
  intro v hv
  obtain ⟨i, hi, rfl⟩ := List.getElem_of_mem hv
  have a := (okFrom_at h3 hi).1
  have b := okFrom_le h3 hi
  rw [List.getD_eq_getElem?_getD, List.getElem?_eq_getElem hi, Option.getD_some] at a b
  omega
theorem SameBut.own {a p : Addr} {H H' : Hp} {o : HO} (s : SameBut a H H') (h : H p = none) : SameBut a H (L2.upd H' p o) :=
  fun b u e n => by rw [upd_ne (ne_of_none e h)]; exact s b u e n
theorem SameBut.two {g d : Addr} {H H1 H2 : Hp} (b : SameBut g H H1) (c : SameBut d H1 H2) (h : H d = none) : SameBut g H H2 :=
  fun x o e n => c x o (b x o e n) (ne_of_none e h)
theorem SrcB.but {g d : Addr} {H H' : Hp} (s : SrcB H g) (b : SameBut d H H') (n : g ≠ d) : SrcB H' g := by
  obtain ⟨x, y, z, e, y0, y1⟩ := s
  exact ⟨x, y, z, b _ _ e n, y0, y1⟩
theorem SameBut.free {a p : Addr} {H H' : Hp} (s : SameBut a H H') (n : p ≠ a) (h : H' p = none) : H p = none := by
  cases e : H p with
  | none => rfl
  | some o => rw [s p o e n] at h; cases h
end SH

namespace SH
open PySem PySem.Spec PyProof.Rows L2
theorem mem_cutI {l : List Int} {lo hi : Option Int} {v : Int} (h : v ∈ cutI l lo hi) : v ∈ l := List.mem_of_mem_drop (List.mem_of_mem_take h)
theorem cutI_last (l : List Int) {m : Int} (h0 : 0 < m) (h1 : m ≤ l.length) : ((cutI l (some (-m)) none).length : Int) = m := by
  unfold cutI HT.sIx
  simp only
  rw [if_pos (by omega), List.length_take, List.length_drop]
  omega
theorem above_len {ns : List Int} {s : Int} {t : Nat} (h : okFrom 0 ns = true) (it : IsTop ns s t) (s0 : 0 ≤ s) : ((headsOf ns t ++ pushedL ns t s).length : Int) = t - s := by
  have a := headsOf_length h it.1
  have b := it.2.1
  rw [List.length_append]
  unfold pushedL
  by_cases e : stopAt ns t - s = 0
  · rw [if_pos e]
    unfold stopAt at e
    show (((headsOf ns t).length + 0 : Nat) : Int) = t - s
    omega
  · rw [if_neg e]
    obtain ⟨t1, ml⟩ := miss_le h it (by omega) s0
    have c := cutI_last (headsOf ns (t - 1)) (m := stopAt ns t - s) (by omega) ml
    unfold stopAt at c ⊢
    omega
theorem above_lt {ns : List Int} {s : Int} {t : Nat} {v : Int} (h : v ∈ headsOf ns t ++ pushedL ns t s) : v < t := by
  rcases List.mem_append.mp h with h | h
  · exact (headsL_mem h).2
  · unfold pushedL at h
    split at h
    · exact absurd h (List.not_mem_nil)
    · have := (headsL_mem (mem_cutI h)).2
      omega
theorem rg2_take (a b : Int) (k : Nat) : (rg2 a b).take k = rg2 a (if a + k < b then a + k else b) := by
  unfold rg2
  rw [← List.map_take, List.take_range]
  congr 2
  split <;> omega
/-- the lines that are shown at and below the top line -/
def endL (ns : List Int) (n s : Int) : Int := if s + n < ns.length then s + n else ns.length
theorem shown_filter {ns : List Int} {n s : Int} {t : Nat} (h : okFrom 0 ns = true) (it : IsTop ns s t) (s0 : 0 ≤ s) (n1 : 1 ≤ n) :
    (viewL ns n s t).filter (fun v => decide ((t : Int) ≤ v)) = rg2 t (endL ns n s) := by
  have al := above_len h it s0
  unfold viewL rowsL
  rw [List.take_append, List.filter_append]
  have e1 : ((headsOf ns t ++ pushedL ns t s).take n.toNat).filter (fun v => decide ((t : Int) ≤ v)) = [] := by
    rw [List.filter_eq_nil_iff]
    intro v hv
    have := above_lt (List.mem_of_mem_take hv)
    simp only [decide_eq_true_eq]
    omega
  rw [e1, List.nil_append, rg2_take, List.filter_eq_self.mpr]
  · have q := it.1
    generalize (headsOf ns t ++ pushedL ns t s).length = m at al ⊢
    unfold endL rg2
    have e : ((if (t : Int) + ((n.toNat - m : Nat) : Int) < ns.length then (t : Int) + ((n.toNat - m : Nat) : Int) else (ns.length : Int)) - t).toNat = ((if s + n < ns.length then s + n else (ns.length : Int)) - t).toNat := by
      split <;> split <;> omega
    rw [e]
  · intro v hv
    unfold rg2 at hv
    obtain ⟨j, _, rfl⟩ := List.mem_map.mp hv
    simp only [decide_eq_true_eq]
    omega
theorem gives_filter (xs : List Int) (p : Int → Bool) : gives xs.length (fun i => p (xs.getD i 0)) (fun i => V.int (xs.getD i 0)) = iv (xs.filter p) := by
  have e : xs = (List.range xs.length).map fun i => xs.getD i 0 := by
    refine List.ext_getElem? fun i => ?_
    rw [List.getElem?_map]
    rcases Nat.lt_or_ge i xs.length with h | h
    · rw [List.getElem?_range h, List.getElem?_eq_getElem h]
      show some xs[i] = some (xs.getD i 0)
      rw [List.getD_eq_getElem?_getD, List.getElem?_eq_getElem h]
      rfl
    · rw [List.getElem?_eq_none h, List.getElem?_eq_none (by rw [List.length_range]; exact h)]
      rfl
  unfold gives iv
  have e2 : xs.filter p = ((List.range xs.length).filter (fun i => p (xs.getD i 0))).map fun i => xs.getD i 0 := by
    conv => lhs; rw [e]
    rw [List.filter_map]
    rfl
  rw [e2, List.map_map]
  rfl
theorem rg2_mem {a b v : Int} : v ∈ rg2 a b ↔ a ≤ v ∧ v < b := by
  unfold rg2
  rw [List.mem_map]
  constructor
  · rintro ⟨i, hi, rfl⟩
    have := List.mem_range.mp hi
    omega
  · rintro ⟨x, y⟩
    exact ⟨(v - a).toNat, List.mem_range.mpr (by omega), by omega⟩
theorem asc_eq : ∀ {l1 l2 : List Int}, l1.Pairwise (· < ·) → l2.Pairwise (· < ·) → (∀ k : Int, k ∈ l1 ↔ k ∈ l2) → l1 = l2
  | [], [], _, _, _ => rfl
  | [], y :: t, _, _, h => (List.not_mem_nil ((h y).mpr List.mem_cons_self)).elim
  | x :: r, [], _, _, h => (List.not_mem_nil ((h x).mp List.mem_cons_self)).elim
  | x :: r, y :: t, p1, p2, h => by
    obtain ⟨a1, a2⟩ := List.pairwise_cons.mp p1
    obtain ⟨b1, b2⟩ := List.pairwise_cons.mp p2
    have e : x = y := by
      rcases List.mem_cons.mp ((h x).mp List.mem_cons_self) with e | e
      · exact e
      · rcases List.mem_cons.mp ((h y).mpr List.mem_cons_self) with e2 | e2
        · exact e2.symm
        · have := b1 x e
          have := a1 y e2
          omega
    subst e
    rw [asc_eq a2 b2 fun k => ⟨fun q => ?_, fun q => ?_⟩]
    · rcases List.mem_cons.mp ((h k).mp (List.mem_cons_of_mem _ q)) with e | e
      · have := a1 k q
        omega
      · exact e
    · rcases List.mem_cons.mp ((h k).mpr (List.mem_cons_of_mem _ q)) with e | e
      · have := b1 k q
        omega
      · exact e
theorem rg2_asc (a b : Int) : (rg2 a b).Pairwise (· < ·) := by
  unfold rg2
  rw [List.pairwise_map]
  exact List.pairwise_lt_range.imp fun h => by omega
theorem gives_map (ns : List Int) (f : Int → Int) : gives ns.length (fun _ => true) (fun i => V.int (f (ns.getD i 0))) = iv (ns.map f) := by
  rw [gives_all]
  unfold iv
  rw [List.map_map]
  refine List.ext_getElem (by rw [List.length_map, List.length_map, List.length_range]) fun i h1 h2 => ?_
  rw [List.length_map, List.length_range] at h1
  rw [List.getElem_map, List.getElem_map, List.getElem_range, List.getD_eq_getElem?_getD, List.getElem?_eq_getElem h1]
  rfl
theorem inV_iv (v : Int) (L : List Int) : inV (.int v) (iv L) = decide (v ∈ L) := by
  unfold inV iv
  rw [Bool.eq_iff_iff, List.any_eq_true]
  constructor
  · rintro ⟨y, hy, e⟩
    obtain ⟨z, hz, rfl⟩ := List.mem_map.mp hy
    have : z = v := by simpa [eqV] using e
    subst this
    exact decide_eq_true hz
  · intro e
    exact ⟨.int v, List.mem_map.mpr ⟨v, of_decide_eq_true e, rfl⟩, by simp [eqV]⟩
theorem flat_iv (L : List Int) : (iv L).all flatV = true := by
  rw [List.all_eq_true]
  intro x hx
  obtain ⟨z, hz, rfl⟩ := List.mem_map.mp hx
  rfl
theorem heads_asc {ns : List Int} : ∀ {k : Nat} {w : Int}, (headsL ns k w).Pairwise (· < ·)
  | 0, _ => List.Pairwise.nil
  | k + 1, w => by
    unfold headsL
    split
    · rw [List.pairwise_append]
      refine ⟨heads_asc, List.pairwise_singleton _ _, fun a ha b hb => ?_⟩
      rw [List.mem_singleton.mp hb]
      exact (headsL_mem ha).2
    · exact heads_asc
theorem heads_iff {ns : List Int} (h : okFrom 0 ns = true) : ∀ {k : Nat} {w : Int}, k ≤ ns.length → (∀ j, k = j + 1 → w ≤ ns.getD j 0) → ∀ v : Nat,
    ((v : Int) ∈ headsL ns k w ↔ v < k ∧ ns.getD v 0 ≤ w ∧ ∀ j, v < j → j < k → ns.getD v 0 < ns.getD j 0)
  | 0, w, _, _, v => ⟨fun q => (List.not_mem_nil q).elim, fun q => absurd q.1 (Nat.not_lt_zero _)⟩
  | k + 1, w, hk, c, v => by
    have wk := c k rfl
    have st : ∀ j, k = j + 1 → ns.getD k 0 ≤ ns.getD j 0 + 1 := (okFrom_at h (show k < ns.length by omega)).2.1
    unfold headsL
    by_cases e : ns.getD k 0 = w
    · rw [if_pos e, List.mem_append, List.mem_singleton, heads_iff h (k := k) (w := w - 1) (by omega) (fun j q => by have := st j q; omega) v]
      constructor
      · rintro (⟨a, b, d⟩ | q)
        · refine ⟨by omega, by omega, fun j vj jk => ?_⟩
          rcases Nat.lt_or_ge j k with z | z
          · exact d j vj z
          · obtain rfl : j = k := by omega
            omega
        · obtain rfl : v = k := by omega
          exact ⟨by omega, by omega, fun j vj jk => by omega⟩
      · rintro ⟨a, b, d⟩
        rcases Nat.lt_or_ge v k with z | z
        · left
          have := d k z (by omega)
          exact ⟨z, by omega, fun j vj jk => d j vj (by omega)⟩
        · right
          omega
    · rw [if_neg e, heads_iff h (k := k) (w := w) (by omega) (fun j q => by have := st j q; omega) v]
      constructor
      · rintro ⟨a, b, d⟩
        refine ⟨by omega, b, fun j vj jk => ?_⟩
        rcases Nat.lt_or_ge j k with z | z
        · exact d j vj z
        · obtain rfl : j = k := by omega
          omega
      · rintro ⟨a, b, d⟩
        rcases Nat.lt_or_ge v k with z | z
        · exact ⟨z, b, fun j vj jk => d j vj (by omega)⟩
        · obtain rfl : v = k := by omega
          omega
theorem headsOf_iff {ns : List Int} (h : okFrom 0 ns = true) {i : Nat} (hi : i < ns.length) (v : Nat) :
    (v : Int) ∈ headsOf ns i ↔ v < i ∧ ns.getD v 0 < ns.getD i 0 ∧ ∀ j, v < j → j < i → ns.getD v 0 < ns.getD j 0 := by
  unfold headsOf
  rw [heads_iff h (Nat.le_of_lt hi) (fun j q => by have := (okFrom_at h hi).2.1 j q; omega) v]
  exact ⟨fun ⟨a, b, c⟩ => ⟨a, by omega, c⟩, fun ⟨a, b, c⟩ => ⟨a, by omega, c⟩⟩
theorem heads_up {ns : List Int} (h : okFrom 0 ns = true) {t a : Nat} (ta : t ≤ a) (ha : a < ns.length) {v : Nat} (hv : (v : Int) ∈ headsOf ns a) (vt : v < t) : (v : Int) ∈ headsOf ns t := by
  obtain ⟨p, q, r⟩ := (headsOf_iff h ha v).mp hv
  refine (headsOf_iff h (by omega) v).mpr ⟨vt, ?_, fun j vj jt => r j vj (by omega)⟩
  rcases Nat.lt_or_ge t a with z | z
  · exact r t vt z
  · obtain rfl : t = a := by omega
    exact q
theorem heads_depth {ns : List Int} (h : okFrom 0 ns = true) : ∀ {k : Nat} {w : Int}, k ≤ ns.length → -1 ≤ w → (k = 0 → w = -1) → (∀ j, k = j + 1 → w ≤ ns.getD j 0) → ∀ (j : Nat) (v : Int),
    (headsL ns k w)[j]? = some v → ns.getD v.toNat 0 = j
  | 0, w, _, _, _, _, j, v, e => by cases e
  | k + 1, w, hk, w0, z0, c, j, v, e => by
    have wk := c k rfl
    have st : ∀ j, k = j + 1 → ns.getD k 0 ≤ ns.getD j 0 + 1 := (okFrom_at h (show k < ns.length by omega)).2.1
    have g0 := okFrom_at h (show k < ns.length by omega)
    unfold headsL at e
    by_cases q : ns.getD k 0 = w
    · rw [if_pos q] at e
      have c1 : ∀ j, k = j + 1 → w - 1 ≤ ns.getD j 0 := fun j y => by have := st j y; omega
      have z1 : k = 0 → w - 1 = -1 := fun y => by have := g0.2.2 y; have := g0.1; omega
      have ll := headsL_length h (k := k) (w := w - 1) (by omega) (by have := g0.1; omega) z1 c1
      rcases Nat.lt_or_ge j (headsL ns k (w - 1)).length with y | y
      · rw [List.getElem?_append_left y] at e
        exact heads_depth h (by omega) (by have := g0.1; omega) z1 c1 j v e
      · rw [List.getElem?_append_right y] at e
        have : j - (headsL ns k (w - 1)).length = 0 := by
          rcases Nat.eq_zero_or_pos (j - (headsL ns k (w - 1)).length) with x | x
          · exact x
          · rw [List.getElem?_eq_none (by simp only [List.length_cons, List.length_nil]; omega)] at e
            cases e
        rw [this] at e
        cases e
        rw [Int.toNat_natCast]
        omega
    · rw [if_neg q] at e
      exact heads_depth h (by omega) w0 (fun y => by have := g0.2.2 y; omega) (fun j y => by have := st j y; omega) j v e
theorem pushed_sub {ns : List Int} {t : Nat} {s v : Int} (hv : v ∈ pushedL ns t s) : v ∈ headsOf ns (t - 1) := by
  unfold pushedL at hv
  split at hv
  · exact (List.not_mem_nil hv).elim
  · exact mem_cutI hv
theorem pushed_asc (ns : List Int) (t : Nat) (s : Int) : (pushedL ns t s).Pairwise (· < ·) := by
  unfold pushedL
  split
  · exact List.Pairwise.nil
  · exact ((heads_asc (ns := ns)).drop).take
theorem pushed_deep {ns : List Int} {t : Nat} {s v : Int} (h : okFrom 0 ns = true) (it : IsTop ns s t) (s0 : 0 ≤ s) (hv : v ∈ pushedL ns t s) : ns.getD t 0 ≤ ns.getD v.toNat 0 := by
  unfold pushedL at hv
  by_cases c : stopAt ns t - s = 0
  · rw [if_pos c] at hv
    exact (List.not_mem_nil hv).elim
  rw [if_neg c] at hv
  have it1 := it.2.1
  obtain ⟨t1, ml⟩ := miss_le h it (by omega) s0
  have hl := headsOf_length h (i := t - 1) (by have := it.1; omega)
  have lt := it.2.2 (t - 1) (by omega)
  unfold cutI at hv
  obtain ⟨j, hj⟩ := List.getElem?_of_mem (List.mem_of_mem_take hv)
  rw [List.getElem?_drop] at hj
  have g0 := okFrom_at h (show t - 1 < ns.length by have := it.1; omega)
  have dd := heads_depth h (k := t - 1) (w := ns.getD (t - 1) 0 - 1) (by have := it.1; omega) (by have := g0.1; omega) (fun y => by have := g0.2.2 y; have := g0.1; omega) (fun j y => by have := g0.2.1 j y; omega) _ _ hj
  rw [dd]
  have e : HT.sIx (headsOf ns (t - 1)).length 0 (some (-(stopAt ns t - s))) = ((headsOf ns (t - 1)).length : Int).toNat - (stopAt ns t - s).toNat := by
    unfold HT.sIx
    simp only
    rw [if_pos (by omega)]
    omega
  rw [e]
  unfold stopAt at *
  omega
theorem above_asc {ns : List Int} {s : Int} {t : Nat} (h : okFrom 0 ns = true) (it : IsTop ns s t) (s0 : 0 ≤ s) : (headsOf ns t ++ pushedL ns t s).Pairwise (· < ·) := by
  rw [List.pairwise_append]
  refine ⟨heads_asc, pushed_asc ns t s, fun x hx y hy => ?_⟩
  have it1 := it.1
  have x1 := headsL_mem hx
  have y0 := pushed_sub hy
  have y1 := headsL_mem y0
  have dy := pushed_deep h it s0 hy
  obtain ⟨xn, rfl⟩ : ∃ n : Nat, x = n := ⟨x.toNat, by omega⟩
  obtain ⟨yn, rfl⟩ : ∃ n : Nat, y = n := ⟨y.toNat, by omega⟩
  rw [Int.toNat_natCast] at dy
  obtain ⟨xa, xb, xc⟩ := (headsOf_iff h it1 xn).mp hx
  obtain ⟨ya, yb, yc⟩ := (headsOf_iff h (show t - 1 < ns.length by omega) yn).mp y0
  rcases Nat.lt_trichotomy xn yn with z | z | z
  · omega
  · subst z; omega
  · exfalso
    rcases Nat.lt_or_ge xn (t - 1) with u | u
    · have := yc xn z u
      omega
    · obtain rfl : xn = t - 1 := by omega
      omega
theorem rows_asc {ns : List Int} {s : Int} {t : Nat} (h : okFrom 0 ns = true) (it : IsTop ns s t) (s0 : 0 ≤ s) : (rowsL ns s t).Pairwise (· < ·) := by
  unfold rowsL
  rw [List.pairwise_append]
  refine ⟨above_asc h it s0, rg2_asc _ _, fun x hx y hy => ?_⟩
  have := above_lt hx
  have := rg2_mem.mp hy
  omega
theorem rows_len {ns : List Int} {s : Int} {t : Nat} (h : okFrom 0 ns = true) (it : IsTop ns s t) (s0 : 0 ≤ s) : ((rowsL ns s t).length : Int) = ns.length - s := by
  have := above_len h it s0
  have := it.1
  unfold rowsL
  rw [List.length_append, rg2_len]
  omega
theorem rows_at {ns : List Int} {s : Int} {t a : Nat} (h : okFrom 0 ns = true) (it : IsTop ns s t) (s0 : 0 ≤ s) (ta : t ≤ a) (ha : a < ns.length) : (rowsL ns s t)[((a : Int) - s).toNat]? = some (a : Int) := by
  have al := above_len h it s0
  unfold rowsL
  rw [List.getElem?_append_right (by omega)]
  unfold rg2
  rw [List.getElem?_map, List.getElem?_range (by omega)]
  show some ((t : Int) + _) = _
  congr 1
  omega
theorem rows_heads {ns : List Int} {s : Int} {t a : Nat} (h : okFrom 0 ns = true) (it : IsTop ns s t) (s0 : 0 ≤ s) (ta : t ≤ a) (ha : a < ns.length) {v : Int} (hv : v ∈ headsOf ns a) : v ∈ (rowsL ns s t).take ((a : Int) - s).toNat := by
  have al := above_len h it s0
  have v1 := headsL_mem hv
  obtain ⟨n, rfl⟩ : ∃ n : Nat, v = n := ⟨v.toNat, by omega⟩
  rcases Nat.lt_or_ge n t with z | z
  · have q := heads_up h ta ha hv z
    unfold rowsL
    rw [List.take_append, List.mem_append]
    left
    rw [List.take_of_length_le (by omega)]
    exact List.mem_append_left _ q
  · have q := rows_at h it s0 z (show n < ns.length by omega)
    have lt : ((n : Int) - s).toNat < ((a : Int) - s).toNat := by
      have : 0 ≤ (t : Int) - s := by omega
      omega
    refine List.mem_of_getElem? (i := ((n : Int) - s).toNat) ?_
    rw [List.getElem?_take, if_pos lt]
    exact q
end SH

namespace SH
open PySem PySem.Spec PyProof.Rows L2
theorem rows_mem {ns : List Int} {s : Int} {t : Nat} {v : Int} : v ∈ rowsL ns s t ↔ v ∈ headsOf ns t ∨ v ∈ pushedL ns t s ∨ (t : Int) ≤ v ∧ v < ns.length := by
  unfold rowsL
  rw [List.mem_append, List.mem_append, rg2_mem, or_assoc]
/-- heads of a later line, or the line itself, are rows -/
theorem rows_of_head {ns : List Int} (h : okFrom 0 ns = true) {s : Int} {t a : Nat} (ta : t ≤ a) (ha : a < ns.length) {v : Int} (hv : v ∈ headsOf ns a) : v ∈ rowsL ns s t := by
  have b := headsL_mem hv
  obtain ⟨v, rfl⟩ : ∃ v' : Nat, v = v' := ⟨v.toNat, by omega⟩
  rcases Nat.lt_or_ge v t with q | q
  · exact rows_mem.mpr (.inl (heads_up h ta ha hv q))
  · exact rows_mem.mpr (.inr (.inr ⟨by omega, by omega⟩))
theorem drop_neg_sub {l : List Int} {m m' : Int} (h0 : 0 < m') (h : m' ≤ m) : ∀ v ∈ cutI l (some (-m')) none, v ∈ cutI l (some (-m)) none := by
  have e : ∀ {x : Int}, 0 < x → cutI l (some (-x)) none = l.drop (l.length - x.toNat) := fun {x} hx => by
    unfold cutI
    rw [HT.sIx_none]
    have : HT.sIx l.length 0 (some (-x)) = l.length - x.toNat := by
      show (if -x < 0 then (-x + (l.length : Int)).toNat else _) = _
      rw [if_pos (by omega)]
      omega
    rw [this, List.take_of_length_le (by rw [List.length_drop]; omega)]
  intro v hv
  rw [e h0] at hv
  rw [e (by omega)]
  obtain ⟨i, hi, rfl⟩ := List.getElem_of_mem hv
  rw [List.length_drop] at hi
  rw [List.getElem_drop]
  refine List.mem_of_getElem? (i := l.length - m'.toNat + i - (l.length - m.toNat)) ?_
  rw [List.getElem?_drop, List.getElem?_eq_getElem (by omega)]
  congr 2
  omega
/-- rows at a greater position are rows before -/
theorem rows_step {ns : List Int} (h : okFrom 0 ns = true) {s s' : Int} {t t' : Nat} (it : IsTop ns s t) (it' : IsTop ns s' t') (ss : s ≤ s') : ∀ v ∈ rowsL ns s' t', v ∈ rowsL ns s t := by
  intro v hv
  have tt : t ≤ t' := by
    rcases Nat.lt_or_ge t' t with q | q
    · have := it.2.2 t' q; have := it'.2.1; omega
    · exact q
  rcases rows_mem.mp hv with q | q | q
  · exact rows_of_head h tt it'.1 q
  · have sub := pushed_sub q
    rcases Nat.lt_or_ge t t' with z | z
    · exact rows_of_head h (show t ≤ t' - 1 by omega) (by have := it'.1; omega) sub
    · obtain rfl : t' = t := by omega
      refine rows_mem.mpr (.inr (.inl ?_))
      unfold pushedL at q ⊢
      split at q
      · cases q
      · have := it'.2.1
        rw [if_neg (by omega)]
        exact drop_neg_sub (by omega) (by omega) v q
  · exact rows_mem.mpr (.inr (.inr ⟨by omega, q.2⟩))
/-- an ascending list within another: its items stand no earlier -/
theorem asc_sub_le : ∀ {X Y : List Int}, X.Pairwise (· < ·) → Y.Pairwise (· < ·) → (∀ v ∈ Y, v ∈ X) → Y.length ≤ X.length ∧ ∀ i, i < Y.length → X.getD i 0 ≤ Y.getD i 0
  | X, [], _, _, _ => ⟨Nat.zero_le _, fun i hi => absurd hi (Nat.not_lt_zero _)⟩
  | [], y :: Y, _, _, s => (List.not_mem_nil (s y List.mem_cons_self)).elim
  | x :: X, y :: Y, px, py, s => by
    obtain ⟨px1, px2⟩ := List.pairwise_cons.mp px
    obtain ⟨py1, py2⟩ := List.pairwise_cons.mp py
    have xy : x ≤ y := by
      rcases List.mem_cons.mp (s y List.mem_cons_self) with e | e
      · omega
      · have := px1 y e; omega
    have s2 : ∀ v ∈ Y, v ∈ X := fun v hv => by
      rcases List.mem_cons.mp (s v (List.mem_cons_of_mem _ hv)) with e | e
      · have := py1 v hv; omega
      · exact e
    obtain ⟨l, q⟩ := asc_sub_le px2 py2 s2
    refine ⟨Nat.succ_le_succ l, fun i hi => ?_⟩
    cases i with
    | zero => exact xy
    | succ i => exact q i (Nat.lt_of_succ_lt_succ hi)
/-- an item of the shorter list stands no later in it -/
theorem asc_sub_take : ∀ {X Y : List Int} {n : Nat} {v : Int}, X.Pairwise (· < ·) → Y.Pairwise (· < ·) → (∀ v ∈ Y, v ∈ X) → v ∈ X.take n → v ∈ Y → v ∈ Y.take n
  | X, Y, 0, v, _, _, _, h, _ => by rw [List.take_zero] at h; cases h
  | [], Y, n + 1, v, _, _, _, h, _ => by rw [List.take_nil] at h; cases h
  | X, [], n + 1, v, _, _, _, _, h => by cases h
  | x :: X, y :: Y, n + 1, v, px, py, s, h, hv => by
    obtain ⟨px1, px2⟩ := List.pairwise_cons.mp px
    obtain ⟨py1, py2⟩ := List.pairwise_cons.mp py
    rw [List.take_succ_cons] at h ⊢
    rcases List.mem_cons.mp hv with e | e
    · rw [e]; exact List.mem_cons_self
    · refine List.mem_cons_of_mem _ ?_
      have yv := py1 v e
      have xy : x ≤ y := by
        rcases List.mem_cons.mp (s y List.mem_cons_self) with e | e
        · omega
        · have := px1 y e; omega
      have s2 : ∀ u ∈ Y, u ∈ X := fun u hu => by
        rcases List.mem_cons.mp (s u (List.mem_cons_of_mem _ hu)) with e | e
        · have := py1 u hu; omega
        · exact e
      rcases List.mem_cons.mp h with e2 | e2
      · omega
      · exact asc_sub_take px2 py2 s2 e2 e
end SH

namespace SH
open PySem PySem.Spec PyProof.Rows L2
abbrev s_law_step_right : Stmt := topS 34
abbrev N_law_step_right : List Str := ["made", "rows", "place", "one", "two", "before", "after"]
abbrev P_law_step_right : List Str := ["made", "rows", "place"]
theorem sc_law_step_right : FnScope N_law_step_right P_law_step_right (defScope s_law_step_right) := ⟨rfl, rfl, rfl, by decide +kernel, rfl, by decide +kernel, by decide +kernel⟩
abbrev s_law_gone_right : Stmt := topS 35
abbrev N_law_gone_right : List Str := ["made", "rows", "places", "gone", "before", "place", "now", "at"]
abbrev P_law_gone_right : List Str := ["made", "rows", "places"]
theorem sc_law_gone_right : FnScope N_law_gone_right P_law_gone_right (defScope s_law_gone_right) := ⟨rfl, rfl, rfl, by decide +kernel, rfl, by decide +kernel, by decide +kernel⟩
theorem ones_iff (n : Nat) (keep : Nat → Bool) : ∃ L : List Int, gives n keep (fun _ => V.int 1) = iv L ∧ ((∀ i, i < n → keep i = false) → L = []) := by
  induction n with
  | zero => exact ⟨[], rfl, fun _ => rfl⟩
  | succ n ih =>
    obtain ⟨L, e, q⟩ := ih
    rw [gives_succ]
    cases c : keep n with
    | false => exact ⟨L, by simpa using e, fun h => q fun i hi => h i (by omega)⟩
    | true =>
      refine ⟨L ++ [1], by rw [e, iv_snoc]; rfl, fun h => ?_⟩
      have := h n (Nat.lt_succ_self _)
      rw [c] at this
      cases this
theorem top_step {ns : List Int} {s : Int} {t : Nat} (h : okFrom 0 ns = true) (it : IsTop ns s t) (s1 : s + 1 ≤ lastStop ns) (l : 1 ≤ ns.length) : ∃ t', IsTop ns (s + 1) t' ∧ t ≤ t' := by
  obtain ⟨t', _, it'⟩ := top_ex (ns := ns) (s := s + 1) (ns.length - 1) (by omega) s1
  refine ⟨t', it', ?_⟩
  rcases Nat.lt_or_ge t' t with q | q
  · have := it.2.2 t' q; have := it'.2.1; omega
  · exact q
theorem take_getD {L : List Int} {n i : Nat} (h : i < (L.take n).length) : (L.take n).getD i 0 = L.getD i 0 := by
  rw [List.length_take] at h
  rw [List.getD_eq_getElem?_getD, List.getElem?_take_of_lt (by omega), List.getD_eq_getElem?_getD]
/-- pairs (line, True) -/
inductive Ents (H : Hp) : List V → List Int → Prop
  | nil : Ents H [] []
  | cons {r : Addr} {v : Int} {vs : List V} {L : List Int} : H r = some (.tup [.int v, .bl true]) → Ents H vs L → Ents H (.ref r :: vs) (v :: L)
theorem Ents.same {H H' : Hp} : ∀ {vs : List V} {os : List Int}, Ents H vs os → Same H H' → Ents H' vs os
  | _, _, .nil, _ => .nil
  | _, _, .cons h t, k => .cons (k _ _ h) (t.same k)
theorem Ents.upd {H : Hp} {D : Addr} {o : HO} : ∀ {vs : List V} {os : List Int}, Ents H vs os → V.ref D ∉ vs → Ents (L2.upd H D o) vs os
  | _, _, .nil, _ => .nil
  | _, _, .cons (r := r) h t, n => .cons (by rw [upd_ne (fun e => n (by rw [e]; exact List.mem_cons_self))]; exact h) (t.upd fun m => n (List.mem_cons_of_mem _ m))
theorem Ents.append {H : Hp} : ∀ {vs ws : List V} {os qs : List Int}, Ents H vs os → Ents H ws qs → Ents H (vs ++ ws) (os ++ qs)
  | _, _, _, _, .nil, h => h
  | _, _, _, _, .cons h1 h2, h => .cons h1 (h2.append h)
def entK (v : Int) : L2.Key × V := (.inl v, .bl true)
theorem Ents.paired {K : PySem.W.Frag} {H : Hp} : ∀ {vs : List V} {L : List Int}, Ents H vs L → ∃ ps : List Addr, vs = ps.map V.ref ∧ Paired (fun p (kv : L2.Key × V) => SqT K H p [kV kv.1, kv.2]) ps (L.map entK)
  | _, _, .nil => ⟨[], rfl, .nil⟩
  | _, _, .cons (r := r) h t => by
    obtain ⟨ps, e, q⟩ := t.paired (K := K)
    exact ⟨r :: ps, by rw [e]; rfl, .cons (SqT.of h) q⟩
theorem key_put {kvs : List (L2.Key × V)} {k : L2.Key} {x : V} : ∀ kv ∈ putK kvs k x, kv.1 = k ∨ ∃ q ∈ kvs, q.1 = kv.1 := by
  intro kv h
  unfold putK at h
  split at h
  · obtain ⟨q, hq, e⟩ := List.mem_map.mp h
    by_cases c : q.1 = k
    · rw [if_pos c] at e; subst e; exact .inl c
    · rw [if_neg c] at e; subst e; exact .inr ⟨q, hq, rfl⟩
  · rcases List.mem_append.mp h with h | h
    · exact .inr ⟨kv, h, rfl⟩
    · rw [List.mem_singleton.mp h]; exact .inl rfl
theorem key_merge : ∀ {more kvs : List (L2.Key × V)}, ∀ kv ∈ mergeK kvs more, (∃ q ∈ more, q.1 = kv.1) ∨ ∃ q ∈ kvs, q.1 = kv.1
  | [], kvs, kv, h => .inr ⟨kv, h, rfl⟩
  | m :: r, kvs, kv, h => by
    rcases key_merge (more := r) (kvs := putK kvs m.1 m.2) kv h with ⟨q, hq, e⟩ | ⟨q, hq, e⟩
    · exact .inl ⟨q, List.mem_cons_of_mem _ hq, e⟩
    · rcases key_put q hq with e2 | ⟨q2, hq2, e2⟩
      · exact .inl ⟨m, List.mem_cons_self, by rw [← e, e2]⟩
      · exact .inr ⟨q2, hq2, by rw [e2, e]⟩
theorem none_list (n : Nat) (val : Nat → V) : ∃ L : List Int, L = [] ∧ gives n (fun _ => false) val = iv [] := by
  refine ⟨[], rfl, ?_⟩
  induction n with
  | zero => rfl
  | succ n ih => rw [gives_succ, ih]; rfl
section
variable {P : Program} {w : World} {K : PySem.W.Frag} {mg : Str → Option Value} {base : Heap}
def sp_law_step_right : Sp := fun vs H Q _ => ∃ (a : Addr) (ns : List Int) (n s : Int), vs = [.ref a, .int n, .int s] ∧ H a = some (.lst (iv ns)) ∧ isO ns = true ∧ 1 ≤ n ∧ n ≤ 400 ∧ 0 ≤ s ∧ s + 1 ≤ lastStop ns ∧ RetV Q H (.bl true)
theorem ok_law_step_right (T : Txt mg) (h : At K mg "_law_step_right" s_law_step_right)
    (g_view : Has P w K mg base CX0 5 "view" s_view P_view sp_view)
    (g_top_line : Has P w K mg base CX0 5 "top_line" s_top_line P_top_line sp_top_line) :
    Has P w K mg base CX0 6 "_law_step_right" s_law_step_right P_law_step_right sp_law_step_right := by
  refine Has.of h sc_law_step_right (fun vs H Q E h => ?_) (fun _ _ _ _ _ _ us hl => match us, hl with | [_, _, _], _ => rfl) (fun f cdv A outer s H vs Q E room qt h => ?_)
  · obtain ⟨a, ns, n, s, rfl, _⟩ := h; rfl
  obtain ⟨a, ns, n, sc, rfl, ha, ho, n0, n1, s0, s1, k⟩ := h
  obtain ⟨l1, l2, hk⟩ := isO_iff.mp ho
  obtain ⟨t, _, it⟩ := top_ex (ns := ns) (s := sc) (ns.length - 1) (by omega) (show sc ≤ stopAt ns (ns.length - 1) by unfold lastStop at s1; omega)
  obtain ⟨t', it', tt⟩ := top_step hk it s1 l1
  have X := rows_asc hk it s0
  have Y := rows_asc hk it' (by omega)
  obtain ⟨ll, le⟩ := asc_sub_le X Y (rows_step hk it it' (by omega))
  refine ⟨_, (pss_cons (ps_par (i := 3) (j := 4) rfl sc_law_step_right.nd rfl rfl (by decide) rfl rfl (pa_cons (pe_has g_view (room.mono (by decide)) qt (by rfl) pass0 (pa_cons (pv 0) (pa_cons (pv 1) (pa_cons (pv 2) pa_nil)))) (pa_cons (pe_has g_view (room.mono (by decide)) qt (by rfl) pass0 (pa_cons (pv 0) (pa_cons (pv 1) (pa_cons (pe_op op_add (pv 2) pe_int) pa_nil)))) pa_nil)) (by rfl))
      (pss_cons (ps_if (PW.pt (pw_or (pt_cmpR op_gt (pe_callB call_len_seq (by rfl) T.len (by decide +kernel) (pa_cons (pv 4) pa_nil)) (pe_callB call_len_seq (by rfl) T.len (by decide +kernel) (pa_cons (pv 3) pa_nil)) (nomark _)) (pw_or1 (pt_cmpR (op_neD room.units) (pe_lc (own := [("before", 5), ("after", 6)]) (g := (gTup K 2 (gCons (gName 5) (gCons (gName 6) gNil)))) (by rfl) sc_law_step_right.nd (pi_zip (by rfl) T.zip (pa_cons (pv 3) (pa_cons (pv 4) pa_nil))) (blkOk_by (own := [("before", 5), ("after", 6)]) (N := N_law_step_right) (sc := defScope s_law_step_right) (by decide +kernel)) (fun _ _ _ _ _ => (pg_tup rfl (pgs_cons (pg_name (i := 5) sc_law_step_right.nd rfl (Or.inl rfl) (hf := Or.inr rfl)) (pgs_cons (pg_name (i := 6) sc_law_step_right.nd rfl (Or.inl rfl) (hf := Or.inr rfl)) pgs_nil)))) (fun _ _ _ _ _ => (pts_one (pt_cmpR op_lt (pv 6) (pv 5) (nomark _)))) (fun _ _ _ _ _ => pe_int)) (pe_lst pa_nil) (nomark _)))))
        (pss_one (ps_ret pe_bl))
        pss_nil)
      (pss_one (ps_ret (pe_cmpR op_le (pe_has g_top_line (room.mono (by decide)) qt (by rfl) pass0 (pa_cons (pv 0) (pa_cons (pv 2) pa_nil))) (pe_has g_top_line (room.mono (by decide)) qt (by rfl) pass0 (pa_cons (pv 0) (pa_cons (pe_op op_add (pv 2) pe_int) pa_nil))) (nomark _)))))), ?_⟩
  have e1 : (iv (viewL ns n sc t)).length = (viewL ns n sc t).length := List.length_map _
  have e2 : (iv (viewL ns n (sc + 1) t')).length = (viewL ns n (sc + 1) t').length := List.length_map _
  have v1 : (viewL ns n sc t).length ≤ 400 := by unfold viewL; rw [List.length_take]; omega
  have v2 : (viewL ns n (sc + 1) t').length ≤ (viewL ns n sc t).length := by unfold viewL; rw [List.length_take, List.length_take]; omega
  have v3 : ∀ i, i < (viewL ns n (sc + 1) t').length → (viewL ns n sc t).getD i 0 ≤ (viewL ns n (sc + 1) t').getD i 0 := fun i hi => by
    have hi2 : i < (viewL ns n sc t).length := by omega
    unfold viewL at hi hi2 ⊢
    rw [take_getD hi, take_getD hi2]
    rw [List.length_take] at hi
    exact le i (by omega)
  refine ⟨_, rfl, _, rfl, _, rfl, a, ns, n, sc, t, rfl, ha, ho, n0, n1, s0, by omega, it, fun p1 H1 hp1 s1' h1 => ?_⟩
  refine ⟨_, rfl, _, rfl, _, rfl, _, _, rfl, rfl, a, ns, n, sc + 1, t', rfl, s1' _ _ ha, ho, n0, n1, by omega, s1, it', fun p2 H2 hp2 s2 h2 => ⟨_, _, rfl, ?_⟩⟩
  have h12 := s2 _ _ h1
  have s02 := s1'.trans s2
  have ha2 := s02 _ _ ha
  generalize viewL ns n sc t = V1 at *
  generalize viewL ns n (sc + 1) t' = V2 at *
  refine ⟨_, rfl, p2, _, rfl, .inl (SqL.of h2), _, rfl, p1, _, rfl, .inl (SqL.of h12), _, _, rfl, rfl, _, rfl, ?_⟩
  rw [e1, e2, decide_eq_false (by omega)]
  refine iteF ?_
  refine ⟨_, rfl, _, rfl, p1, p2, _, _, rfl, SqL.of h12, SqL.of h2, fun D hD => lcZn (K := K) (a := p1) (b := p2) (xs := iv V1) (ys := iv V2) (fun _ => false) (fun _ => V.int 1) (SqL.of h12) (SqL.of h2) hD (by omega) (fun x y => rfl) ?_ ?_ ?_⟩
  · intro i x y H3 Q' hx hy s3 q3
    have il2 : i < V2.length := by have := (List.getElem?_eq_some_iff.mp hy).1; rwa [e2] at this
    have il1 : i < V1.length := by omega
    rw [iv_at il1] at hx
    cases hx
    rw [iv_at il2] at hy
    cases hy
    have := v3 i il2
    refine ⟨_, rfl, _, rfl, _, _, rfl, rfl, _, rfl, ?_⟩
    rw [decide_eq_false (by omega)]
    exact q3 _ (Same.refl _)
  · intro i x y H3 Q' hx hy c _ _
    cases c
  intro H3 s3 h3
  obtain ⟨L, eL, hL⟩ := ones_iff (min (iv V1).length (iv V2).length) (fun _ => false)
  rw [eL, hL (fun _ _ => rfl)] at h3
  refine ⟨(by decide : 0 ≤ sizeLine), fun u hu => neD_ints (ns := []) (ms := []) (SqL.of (Same.new hu _ _ h3)) (SqL.of upd_same) ⟨_, rfl, ?_⟩⟩
  rw [decide_eq_true rfl]
  refine iteF ?_
  have s04 := (s02.trans s3).trans (Same.new (o := .lst []) hu)
  refine ⟨_, rfl, _, rfl, a, ns, sc, t, rfl, s04 _ _ ha, ho, s0, by omega, it, ?_⟩
  refine ⟨_, rfl, _, rfl, _, _, rfl, rfl, a, ns, sc + 1, t', rfl, s04 _ _ ha, ho, by omega, s1, it', _, _, rfl, rfl, ?_⟩
  show Q (.bl (decide ((t : Int) ≤ t'))) _
  rw [decide_eq_true (show (t : Int) ≤ t' by omega)]
  exact k _ s04
def sp_law_gone_right : Sp := fun vs H Q _ => ∃ (a b : Addr) (ns L : List Int) (n : Int), vs = [.ref a, .int n, .ref b] ∧ H a = some (.lst (iv ns)) ∧ isO ns = true ∧ 1 ≤ n ∧ n ≤ 400 ∧ H b = some (.lst (iv L)) ∧ L.length < 60 ∧ (∀ s ∈ L, 0 ≤ s ∧ s ≤ lastStop ns) ∧ RetV Q H (.bl true)
theorem ok_law_gone_right (T : Txt mg) (h : At K mg "_law_gone_right" s_law_gone_right)
    (g_view : Has P w K mg base CX0 5 "view" s_view P_view sp_view) :
    Has P w K mg base CX0 6 "_law_gone_right" s_law_gone_right P_law_gone_right sp_law_gone_right := by
  refine Has.of h sc_law_gone_right (fun vs H Q E h => ?_) (fun _ _ _ _ _ _ us hl => match us, hl with | [_, _, _], _ => rfl) (fun f cdv A outer s H vs Q E room qt h => ?_)
  · obtain ⟨a, b, ns, L, n, rfl, _⟩ := h; rfl
  obtain ⟨a, b, ns, L, n, rfl, ha, ho, n0, n1, hb, lL, bL, k⟩ := h
  obtain ⟨l1, l2, hk⟩ := isO_iff.mp ho
  have elL : (iv L).length = L.length := List.length_map _
  refine ⟨_, (pss_cons (ps_set (i := 3) sc_law_gone_right.nd rfl (Or.inr rfl) pe_dnewK)
      (pss_cons (ps_set (i := 4) sc_law_gone_right.nd rfl (Or.inl rfl) (pe_lst pa_nil))
      (pss_cons (ps_for PassesOwn.never rfl (pi_list (pe_callB cr_sorted (by rfl) T.sorted (by decide +kernel) (pa_cons (pv 2) pa_nil))) (pg_name (i := 5) sc_law_gone_right.nd rfl (Or.inl rfl) (hf := Or.inl rfl))
        (pss_cons (ps_set (i := 6) sc_law_gone_right.nd rfl (Or.inr rfl) (pe_has g_view (room.mono (by decide)) qt (by rfl) pass0 (pa_cons (pv 0) (pa_cons (pv 1) (pa_cons (pv 5) pa_nil)))))
        (pss_cons (ps_if (pt_cmpR (op_neD room.units) (pe_lc (own := [("at", 7)]) (by rfl) sc_law_gone_right.nd (pi_list (pv 6)) (blkOk_by (own := [("at", 7)]) (N := N_law_gone_right) (sc := defScope s_law_gone_right) (by decide +kernel)) (fun _ _ _ _ _ => (pg_name (i := 7) sc_law_gone_right.nd rfl (Or.inl rfl) (hf := Or.inr rfl))) (fun _ _ _ _ _ => (pts_one (pt_cmp (pc_din (hu_of room) (pv 7) (pv 3))))) (fun _ _ _ _ _ => (pv 7))) (pe_lst pa_nil) (nomark _))
          (pss_one (ps_ret pe_bl))
          pss_nil)
        (pss_cons (ps_expr (pe_dupdate (pv 3) (pa_cons (pe_callTy (call_dictP rfl) (by rfl) T.dict (by decide +kernel) (pa_cons (pe_lc (own := [("at", 7)]) (by rfl) sc_law_gone_right.nd (pi_list (pv 4)) (blkOk_by (own := [("at", 7)]) (N := N_law_gone_right) (sc := defScope s_law_gone_right) (by decide +kernel)) (fun _ _ _ _ _ => (pg_name (i := 7) sc_law_gone_right.nd rfl (Or.inl rfl) (hf := Or.inr rfl))) (fun _ _ _ _ _ => (pts_one (pt_cmpR (show OpR _ _ (rIn K true) from by exact op_notIn_seq) (pv 7) (pv 6) (by with_unfolding_all rfl)))) (fun _ _ _ _ _ => (pe_tup (pa_cons (pv 7) (pa_cons pe_bl pa_nil))))) pa_nil)) pa_nil)))
        (pss_one (ps_set (i := 4) sc_law_gone_right.nd rfl (Or.inl rfl) (pv 6)))))))
      (pss_one (ps_ret pe_bl))))), ?_⟩
  intro z hz
  refine ⟨(by decide : 0 ≤ sizeLine), fun b0 hb0 => ?_⟩
  have s2 := (Same.new (o := .dK []) hz).trans (Same.new (o := .lst []) hb0)
  have hz2 := Same.new (o := .lst []) hb0 _ _ (upd_same (H := H) (a := z) (o := .dK []))
  have hb2 := upd_same (H := upd H z (.dK [])) (a := b0) (o := .lst [])
  generalize upd (upd H z (.dK [])) b0 (.lst []) = H2 at s2 hz2 hb2 ⊢
  refine ⟨_, rfl, b, L, rfl, SqL.of (s2 _ _ hb), by omega, fun M p pm asc hp => ?_⟩
  have npz : p ≠ z := fun e => by rw [e] at hp; rw [hp] at hz2; cases hz2
  have bM : ∀ s ∈ M, 0 ≤ s ∧ s ≤ lastStop ns := fun s hs => bL s (pm.mem_iff.mp hs)
  have lM : M.length = L.length := pm.length_eq
  have s3 := s2.trans (Same.new (o := .lst (M.map V.int)) hp)
  have hz3 := Same.new (o := .lst (M.map V.int)) hp _ _ hz2
  have hb3 := Same.new (o := .lst (M.map V.int)) hp _ _ hb2
  have hp3 : (upd H2 p (.lst (M.map V.int))) p = some (.lst (iv M)) := upd_same
  have elM : (iv M).length = M.length := List.length_map _
  generalize upd H2 p (.lst (M.map V.int)) = H3 at s3 hz3 hb3 hp3 ⊢
  refine ⟨p, rfl, ⟨_, SqL.of hp3⟩, ?_⟩
  refine for_list (K := K) (a := p) (xs := iv M) (fun i σ H4 => (∃ (bf : Addr) (Bf : List Int) (kvs : List (L2.Key × V)) (v5 v6 : Option V) (cur : Int), σ = [some (.ref a), some (.int n), some (.ref b), some (.ref z), some (.ref bf), v5, v6, none] ∧ H4 bf = some (.lst (iv Bf)) ∧ Bf.length ≤ 400 ∧ H4 z = some (.dK kvs) ∧ kvs.length ≤ 400 * i ∧
      (∀ j, i ≤ j → j < M.length → cur ≤ M.getD j 0) ∧ (Bf = [] ∧ kvs = [] ∨ ∃ t, 0 ≤ cur ∧ cur ≤ lastStop ns ∧ IsTop ns cur t ∧ Bf = viewL ns n cur t ∧ ∀ kv ∈ kvs, ∃ v : Int, kv.1 = .inl v ∧ v ∉ rowsL ns cur t)) ∧ Same H H4 ∧ H4 p = some (.lst (iv M)))
    ⟨⟨b0, [], [], _, _, 0, rfl, hb3, Nat.zero_le _, hz3, Nat.zero_le _, fun j _ hj => (bM _ (by rw [List.getD_eq_getElem?_getD, List.getElem?_eq_getElem hj]; exact List.getElem_mem _)).1, .inl ⟨rfl, rfl⟩⟩, s3, hp3⟩ (fun i σ H4 _ q => SqL.of q.2.2) ?_ ?_
  · rintro i x σ H4 hi ⟨⟨bf, Bf, kvs, v5, v6, cur, rfl, hbf, lBf, hz4, lk, hcur, inv⟩, s4, hp4⟩
    have il : i < M.length := by have := (List.getElem?_eq_some_iff.mp hi).1; rwa [elM] at this
    rw [iv_at il] at hi
    cases hi
    have cs := hcur i (Nat.le_refl _) il
    have gm : M.getD i 0 ∈ M := by rw [List.getD_eq_getElem?_getD, List.getElem?_eq_getElem il]; exact List.getElem_mem _
    have bs := bM _ gm
    have later : ∀ j, i + 1 ≤ j → j < M.length → M.getD i 0 ≤ M.getD j 0 := fun j ij hj => by
      rw [List.getD_eq_getElem?_getD, List.getElem?_eq_getElem il, List.getD_eq_getElem?_getD, List.getElem?_eq_getElem hj]
      exact (List.pairwise_iff_getElem.mp asc) i j il hj (by omega)
    generalize M.getD i 0 = sc at cs bs later ⊢
    obtain ⟨t, _, it⟩ := top_ex (ns := ns) (s := sc) (ns.length - 1) (by omega) (show sc ≤ stopAt ns (ns.length - 1) by unfold lastStop at bs; omega)
    refine ⟨_, rfl, _, rfl, _, rfl, a, ns, n, sc, t, rfl, s4 _ _ ha, ho, n0, n1, bs.1, bs.2, it, fun q H5 hq s5 h5 => ?_⟩
    have eV : (iv (viewL ns n sc t)).length = (viewL ns n sc t).length := List.length_map _
    have lV : (viewL ns n sc t).length ≤ 400 := by unfold viewL; rw [List.length_take]; omega
    have vin : ∀ v ∈ viewL ns n sc t, v ∈ rowsL ns sc t := fun v hv => List.mem_of_mem_take hv
    have hz5 := s5 _ _ hz4
    have hbf5 := s5 _ _ hbf
    have old : ∀ v : Int, v ∈ rowsL ns sc t → ∀ kv ∈ kvs, kv.1 ≠ .inl v := fun v hv kv hkv e => by
      rcases inv with ⟨_, e2⟩ | ⟨t0, c0, c1, it0, _, gone⟩
      · rw [e2] at hkv; cases hkv
      · obtain ⟨u, eu, nu⟩ := gone kv hkv
        rw [eu] at e
        cases e
        exact nu (rows_step hk it0 it cs v hv)
    -- no line that is gone
    refine ⟨_, rfl, q, rfl, ⟨_, SqL.of h5⟩, fun D hD => lcLn (xs := iv (viewL ns n sc t)) (fun _ => false) (fun j => .int ((viewL ns n sc t).getD j 0)) (SqL.of h5) hD (by omega) (fun _ => rfl) ?_ ?_ ?_⟩
    · intro j x H6 Q' hj s6 q6
      have jl : j < (viewL ns n sc t).length := by have := (List.getElem?_eq_some_iff.mp hj).1; rwa [eV] at this
      rw [iv_at jl] at hj
      cases hj
      have gv := vin _ (show (viewL ns n sc t).getD j 0 ∈ viewL ns n sc t by rw [List.getD_eq_getElem?_getD, List.getElem?_eq_getElem jl]; exact List.getElem_mem _)
      generalize (viewL ns n sc t).getD j 0 = v at gv ⊢
      have no : valV kvs (.inl v) = none := by
        unfold valV
        rw [List.find?_eq_none.mpr fun kv hkv e => old v gv kv hkv (of_decide_eq_true e)]
        rfl
      refine ⟨_, rfl, _, rfl, z, none, rfl, .inl ⟨kvs, .inl v, .inl (s6 _ _ hz5), rfl, no.symm⟩, _, rfl, q6 _ (Same.refl _)⟩
    · intro j x H6 Q' hj c _ _
      cases c
    intro H6 s6 h6
    obtain ⟨L0, eL0, hL0⟩ := none_list (iv (viewL ns n sc t)).length (fun j => V.int ((viewL ns n sc t).getD j 0))
    rw [hL0] at h6
    refine ⟨(by decide : 0 ≤ sizeLine), fun u hu => neD_ints (ns := []) (ms := []) (SqL.of (Same.new hu _ _ h6)) (SqL.of upd_same) ⟨_, rfl, ?_⟩⟩
    rw [decide_eq_true rfl]
    refine iteF ?_
    have s57 := s6.trans (Same.new (o := .lst []) hu)
    have h7 := s57 _ _ h5
    have hz7 := s57 _ _ hz5
    have hbf7 := s57 _ _ hbf5
    have s47 := s5.trans s57
    generalize upd H6 u (.lst []) = H7 at s47 h7 hz7 hbf7 ⊢
    have eB : (iv Bf).length = Bf.length := List.length_map _
    refine ⟨_, rfl, .inr (.inr (.inl ⟨rfl, .inl ⟨kvs, hz7⟩⟩)), ?_⟩
    refine ⟨_, rfl, bf, rfl, ⟨_, SqL.of hbf7⟩, fun D hD => lc_list (K := K) (a := bf) (xs := iv Bf) (fun j H8 => Same H7 H8 ∧ ∃ us, H8 D = some (.lst us) ∧ V.ref D ∉ us ∧ us.length ≤ j ∧ Ents H8 us ((Bf.take j).filter fun v => !decide (v ∈ viewL ns n sc t)))
      ⟨Same.new hD, [], upd_same, List.not_mem_nil, Nat.le_refl _, .nil⟩ (fun j H8 _ e => SqL.of (e.1 _ _ hbf7)) ?_ ?_⟩
    · rintro j x H8 hj ⟨s8, us, hus, nD, lus, hE⟩
      have jl : j < Bf.length := by have := (List.getElem?_eq_some_iff.mp hj).1; rwa [eB] at this
      rw [iv_at jl] at hj
      cases hj
      have ej : Bf[j]? = some (Bf.getD j 0) := by rw [List.getD_eq_getElem?_getD, List.getElem?_eq_getElem jl]; rfl
      generalize Bf.getD j 0 = v at ej ⊢
      refine ⟨rfl, _, rfl, _, rfl, q, _, rfl, .inl (SqL.of (s8 _ _ h7)), rfl, flat_iv _, _, rfl, ?_⟩
      show if (!inV (.int v) (iv (viewL ns n sc t))) = true then _ else _
      rw [inV_iv]
      have et : (Bf.take (j + 1)).filter (fun v => !decide (v ∈ viewL ns n sc t)) = (Bf.take j).filter (fun v => !decide (v ∈ viewL ns n sc t)) ++ if v ∈ viewL ns n sc t then [] else [v] := by
        rw [List.take_succ, ej, List.filter_append]
        by_cases c : v ∈ viewL ns n sc t
        · rw [if_pos c]; simp [c]
        · rw [if_neg c]; simp [c]
      by_cases c : v ∈ viewL ns n sc t
      · rw [if_pos c, List.append_nil] at et
        rw [decide_eq_true c]
        refine iteF ⟨s8, us, hus, nD, by omega, ?_⟩
        rw [et]; exact hE
      · rw [if_neg c] at et
        rw [decide_eq_false c]
        refine iteT ⟨_, rfl, (by decide : 2 ≤ sizeLine), fun T nT => ?_⟩
        have nT2 : T ≠ D := fun e => by rw [e] at nT; exact (ne_of_none hus nT) rfl
        have nD2 : V.ref D ∉ us ++ [V.ref T] := fun m => by
          rcases List.mem_append.mp m with m | m
          · exact nD m
          · exact nT2 (V.ref.inj (List.mem_singleton.mp m)).symm
        refine ⟨us, Same.new nT _ _ hus, small_line (by omega), Same.at (s8.trans (Same.new nT)) hD, us ++ [.ref T], upd_same, nD2, by rw [List.length_append]; show _ + 1 ≤ _; omega, ?_⟩
        rw [et]
        exact ((hE.same (Same.new nT)).append (.cons upd_same .nil)).upd nD2
    · rintro H8 ⟨s8, us, hus, nD, lus, hE⟩
      rw [eB] at lus
      rw [eB, List.take_length] at hE
      obtain ⟨ps, eps, hps⟩ := hE.paired (K := K)
      rw [eps] at hus
      have hz8 := s8 _ _ hz7
      have lE : (Bf.filter fun v => !decide (v ∈ viewL ns n sc t)).length ≤ Bf.length := List.length_filter_le _ _
      have lm := length_mergeK ((Bf.filter fun v => !decide (v ∈ viewL ns n sc t)).map entK) []
      rw [List.length_map] at lm
      refine ⟨D, ps, _, rfl, SqL.of hus, hps, fun p9 hp9 => ?_⟩
      have nz9 : z ≠ p9 := fun e => by rw [← e] at hp9; rw [hp9] at hz8; cases hz8
      have lm2 := length_mergeK (mergeK [] ((Bf.filter fun v => !decide (v ∈ viewL ns n sc t)).map entK)) kvs
      have sl : (16777216 : Nat) = sizeLine := by decide
      have iM : i < 60 := by omega
      refine ⟨z, p9, kvs, _, rfl, rfl, Same.new hp9 _ _ hz8, upd_same, nz9, by simp only [List.length_nil] at lm; omega, ?_⟩
      have nqz : q ≠ z := fun e => by rw [e] at hq; rw [hq] at hz4; cases hz4
      have s89 := s8.trans (Same.new (o := .dK (mergeK [] ((Bf.filter fun v => !decide (v ∈ viewL ns n sc t)).map entK))) hp9)
      refine ⟨_, rfl, ⟨q, viewL ns n sc t, _, _, _, sc, rfl, ?_, lV, upd_same, by simp only [List.length_nil] at lm; omega, later, .inr ⟨t, bs.1, bs.2, it, rfl, ?_⟩⟩, Same.at ((s4.trans s47).trans s89) hz, ?_⟩
      · rw [upd_ne nqz]
        exact s89 _ _ h7
      · intro kv hkv
        rcases key_merge kv hkv with ⟨x, hx, e⟩ | ⟨x, hx, e⟩
        · rcases key_merge x hx with ⟨y, hy, e2⟩ | ⟨y, hy, _⟩
          · obtain ⟨v, hv, rfl⟩ := List.mem_map.mp hy
            obtain ⟨hv1, hv2⟩ := List.mem_filter.mp hv
            refine ⟨v, by rw [← e, ← e2]; rfl, fun hr => ?_⟩
            rcases inv with ⟨e3, _⟩ | ⟨t0, c0, c1, it0, e3, _⟩
            · rw [e3] at hv1; cases hv1
            · rw [e3] at hv1
              have := asc_sub_take (n := n.toNat) (rows_asc hk it0 c0) (rows_asc hk it bs.1) (rows_step hk it0 it cs) hv1 hr
              have c5 : ¬ v ∈ viewL ns n sc t := by simpa using hv2
              exact c5 this
          · cases hy
        · rcases inv with ⟨_, e3⟩ | ⟨t0, c0, c1, it0, _, gone⟩
          · rw [e3] at hx; cases hx
          · obtain ⟨v, ev, nv⟩ := gone x hx
            exact ⟨v, by rw [← e, ev], fun hr => nv (rows_step hk it0 it cs v hr)⟩
      · rw [upd_ne npz]
        exact s89 _ _ (s47 _ _ hp4)
  · rintro σ H4 ⟨⟨bf, Bf, kvs, v5, v6, cur, rfl, _⟩, s4, hp4⟩
    exact k _ s4
end
end SH

namespace SH
open PySem PySem.Spec PyProof.Rows L2
theorem ite_cut {b : Prop} [Decidable b] {A : Prop} {NX : L2.St → Hp → Prop} {σ : L2.St} {H : Hp} (Inv : L2.St → Hp → Prop)
    (main : ∀ σ' H', Inv σ' H' → NX σ' H') (hA : b → (∀ σ' H', Inv σ' H' → NX σ' H') → A) (hB : ¬b → Inv σ H) : if b then A else NX σ H := by
  by_cases h : b
  · rw [if_pos h]; exact hA h main
  · rw [if_neg h]; exact main _ _ (hB h)
abbrev s_law : Stmt := topS 36
abbrev N_law : List Str := ["script", "k", "cell", "source", "turn", "made", "rows", "last", "places", "step", "place"]
abbrev P_law : List Str := ["script"]
theorem sc_law : FnScope N_law P_law (defScope s_law) := ⟨rfl, rfl, rfl, by decide +kernel, rfl, by decide +kernel, by decide +kernel⟩
section
variable {P : Program} {w : World} {K : PySem.W.Frag} {mg : Str → Option Value} {base : Heap}
def sp_law (K : PySem.W.Frag) : Sp := fun vs H Q _ => ∃ (a : Addr) (ns : List Int), vs = [.ref a] ∧ SqL K H a (iv ns) ∧ ns.length ≤ 63 ∧ ∀ H', Q (.bl true) H'
theorem ok_law (T : Txt mg) (h : At K mg "law" s_law)
    (g_law_cells : Has P w K mg base CX0 2 "_law_cells" s_law_cells P_law_cells (sp_law_cells K))
    (g_law_source : Has P w K mg base CX0 2 "_law_source" s_law_source P_law_source sp_law_source)
    (g_law_draw : Has P w K mg base CX0 2 "_law_draw" s_law_draw P_law_draw sp_law_draw)
    (g_law_outline : Has P w K mg base CX0 3 "_law_outline" s_law_outline P_law_outline (sp_law_outline K))
    (g_law_rows : Has P w K mg base CX0 3 "_law_rows" s_law_rows P_law_rows sp_law_rows)
    (g_law_last : Has P w K mg base CX0 2 "_law_last" s_law_last P_law_last (sp_law_last K))
    (g_law_step_right : Has P w K mg base CX0 6 "_law_step_right" s_law_step_right P_law_step_right sp_law_step_right)
    (g_law_gone_right : Has P w K mg base CX0 6 "_law_gone_right" s_law_gone_right P_law_gone_right sp_law_gone_right) :
    Has P w K mg base CX0 7 "law" s_law P_law (sp_law K) := by
  refine Has.of h sc_law (fun vs H Q E h => ?_) (fun _ _ _ _ _ _ us hl => match us, hl with | [_], _ => rfl) (fun f cdv A outer s H vs Q E room qt h => ?_)
  · obtain ⟨a, ns, rfl, _⟩ := h; rfl
  obtain ⟨a, ns, rfl, ha, hl, k⟩ := h
  refine ⟨_, (pss_cons (ps_for PassesOwn.never rfl (pi_enum (by rfl) T.enumerate (pa_cons (pe_has g_law_cells (room.mono (by decide)) qt (by rfl) pass0 (pa_cons (pv 0) (pa_cons pe_int pa_nil))) pa_nil)) (pg_tup rfl (pgs_cons (pg_name (i := 1) sc_law.nd rfl (Or.inl rfl) (hf := Or.inl rfl)) (pgs_cons (pg_name (i := 2) sc_law.nd rfl (Or.inl rfl) (hf := Or.inl rfl)) pgs_nil)))
        (pss_cons (ps_set (i := 3) sc_law.nd rfl (Or.inr rfl) (pe_has g_law_source (room.mono (by decide)) qt (by rfl) pass0 (pa_cons (pv 2) (pa_cons (pv 1) pa_nil))))
        (pss_one (ps_for PassesOwn.never rfl (pi_range1 (by rfl) T.range (pa_cons pe_int pa_nil)) (pg_name (i := 4) sc_law.nd rfl (Or.inl rfl) (hf := Or.inl rfl))
          (pss_cons (ps_set (i := 5) sc_law.nd rfl (Or.inr rfl) (pe_has g_law_outline (room.mono (by decide)) qt (by rfl) pass0 (pa_cons (pv 3) (pa_cons (pv 0) (pa_cons pe_int pa_nil)))))
          (pss_cons (ps_asg (pe_tup (pa_cons (pe_has g_law_rows (room.mono (by decide)) qt (by rfl) pass0 (pa_cons (pv 3) (pa_cons (pv 0) (pa_cons (pe_callB call_len_seq (by rfl) T.len (by decide +kernel) (pa_cons (pv 5) pa_nil)) pa_nil)))) (pa_cons (pe_has g_law_last (room.mono (by decide)) qt (by rfl) pass0 (pa_cons (pv 5) pa_nil)) pa_nil))) (pg_tup rfl (pgs_cons (pg_name (i := 6) sc_law.nd rfl (Or.inr rfl) (hf := Or.inl rfl)) (pgs_cons (pg_name (i := 7) sc_law.nd rfl (Or.inr rfl) (hf := Or.inl rfl)) pgs_nil))))
          (pss_cons (ps_set (i := 8) sc_law.nd rfl (Or.inl rfl) (pe_listRg rfl (by rfl) T.tlist (prg_1 (by rfl) T.range (pv 7))))
          (pss_cons (ps_if (pt_cmpR op_gt (pv 7) pe_int (nomark _))
            (pss_one (ps_set (i := 8) sc_law.nd rfl (Or.inl rfl) (pe_op op_catS (pe_lst (pa_cons pe_int (pa_cons (pe_op op_sub (pv 7) pe_int) pa_nil))) (pe_lc (own := [("step", 9)]) (by rfl) sc_law.nd (pi_range1 (by rfl) T.range (pa_cons pe_int pa_nil)) (blkOk_by (own := [("step", 9)]) (N := N_law) (sc := defScope s_law) (by decide +kernel)) (fun _ _ _ _ _ => (pg_name (i := 9) sc_law.nd rfl (Or.inl rfl) (hf := Or.inr rfl))) (fun _ _ _ _ _ => pts_nil) (fun _ _ _ _ _ => (pe_has g_law_draw (room.mono (by decide)) qt (by rfl) pass0 (pa_cons (pv 3) (pa_cons (pv 7) pa_nil))))))))
            pss_nil)
          (pss_cons (ps_if (pt_cmpR (op_neD room.units) (pe_lc (own := [("place", 10)]) (by rfl) sc_law.nd (pi_list (pv 8)) (blkOk_by (own := [("place", 10)]) (N := N_law) (sc := defScope s_law) (by decide +kernel)) (fun _ _ _ _ _ => (pg_name (i := 10) sc_law.nd rfl (Or.inl rfl) (hf := Or.inr rfl))) (fun _ _ _ _ _ => (pts_one (pt_not (pt_val (pe_has g_law_step_right (room.mono (by decide)) qt (by rfl) pass0 (pa_cons (pv 5) (pa_cons (pv 6) (pa_cons (pv 10) pa_nil)))))))) (fun _ _ _ _ _ => (pv 10))) (pe_lst pa_nil) (nomark _))
            (pss_one (ps_ret pe_bl))
            pss_nil)
          (pss_one (ps_if (pt_not (pt_val (pe_has g_law_gone_right (room.mono (by decide)) qt (by rfl) pass0 (pa_cons (pv 5) (pa_cons (pv 6) (pa_cons (pe_op op_catS (pv 8) (pe_lst (pa_cons (pv 7) pa_nil))) pa_nil))))))
            (pss_one (ps_ret pe_bl))
            pss_nil)))))))))))
      (pss_one (ps_ret pe_bl))), ?_⟩
  refine ⟨_, rfl, a, 8, ns, rfl, ha, hl, fun ms p H3 lm hp s3 h3 => ⟨p, _, rfl, SqL.of h3, ?_⟩⟩
  refine for_enum (K := K) (a := p) (xs := iv ms) (fun i σ H4 => (∃ v1 v2 v3 v4 v5 v6 v7 v8 v9 v10, σ = [some (.ref a), v1, v2, v3, v4, v5, v6, v7, v8, v9, v10]) ∧ Same H3 H4) ⟨⟨_, _, _, _, _, _, _, _, _, _, rfl⟩, Same.refl _⟩ (fun i σ H4 _ e => SqL.of (e.2 _ _ h3)) ?_ (fun σ H4 _ => k H4)
  rintro i v Tt σ H4 hi ⟨⟨v1, v2, v3, v4, v5, v6, v7, v8, v9, v10, rfl⟩, s4⟩ hT
  have il : i < ms.length := by have := (List.getElem?_eq_some_iff.mp hi).1; rwa [List.length_map] at this
  rw [iv_at il] at hi
  cases hi
  refine ⟨Tt, _, rfl, SqT.of upd_same, rfl, _, _, rfl, _, _, rfl, rfl, ?_⟩
  refine ⟨_, rfl, _, rfl, _, _, rfl, by omega, by omega, fun g H5 hg s5 g5 => ?_⟩
  have s05 := (s4.trans (Same.new hT)).trans s5
  have hg3 : H3 g = none := (s4.trans (Same.new hT)).free hg
  refine ⟨2, rfl, by decide, by decide, for_range (lo := 0) (n := 2) (fun j σ H6 => (∃ v4 v5 v6 v7 v8 v9 v10, σ = [some (.ref a), some (.int i), some (.int (ms.getD i 0)), some (.ref g), v4, v5, v6, v7, v8, v9, v10]) ∧ SameBut g H5 H6 ∧ SrcB H6 g)
    ⟨⟨_, _, _, _, _, _, _, rfl⟩, .refl, g5⟩ ?_ (fun σ H6 q => ?_)⟩
  rotate_left
  · obtain ⟨⟨v4, v5, v6, v7, v8, v9, v10, rfl⟩, b6, _⟩ := q
    exact ⟨⟨_, _, _, _, _, _, _, _, _, _, rfl⟩, Same.but s05 hg3 b6⟩
  rintro j σ H6 hj ⟨⟨v4, v5, v6, v7, v8, v9, v10, rfl⟩, b6, g6⟩
  refine ⟨_, rfl, _, rfl, g, a, 200, ns, rfl, g6, fun H' b => (s3.trans (Same.but s05 hg3 (b6.trans b))).seq ha, by decide, by decide, fun o p1 H7 ho lo hp1 b7 g7 h7 => ?_⟩
  have n1g : p1 ≠ g := fun e => by subst e; obtain ⟨_, _, _, e, _⟩ := g6; rw [e] at hp1; cases hp1
  have b67 := b6.trans b7
  obtain ⟨l1, l2, hk⟩ := isO_iff.mp ho
  have el : (iv o).length = o.length := List.length_map _
  refine ⟨_, rfl, _, rfl, _, rfl, p1, _, rfl, .inl (SqL.of h7), g, a, _, rfl, g7, by omega, by omega, fun r H8 r0 r1 b8 g8 => ?_⟩
  have h8 := b8 _ _ h7 n1g
  have b68 := b67.trans b8
  have ls : 0 ≤ lastStop o ∧ lastStop o < 200 := by have := stopAt_nn hk (i := o.length - 1) (by omega); unfold lastStop; omega
  refine ⟨_, rfl, p1, o, rfl, SqL.of h8, l1, (by decide : 2 ≤ sizeLine), fun T nT => ⟨T, _, rfl, SqT.of upd_same, rfl, _, _, rfl, _, _, rfl, rfl, ?_⟩⟩
  have h8 := Same.new (o := .tup [.int r, .int (lastStop o)]) nT _ _ h8
  have b68 := b68.trans (SameBut.of (Same.new (o := .tup [.int r, .int (lastStop o)]) nT))
  have g8 := g8.new (o := .tup [.int r, .int (lastStop o)]) nT
  generalize upd H8 T (.tup [.int r, .int (lastStop o)]) = W8 at h8 b68 g8 ⊢
  -- places
  refine ⟨_, rfl, _, rfl, RgOk.of_le (by omega) (by omega) (by omega) (by omega), fun u hu => ?_⟩
  rw [rgV_rg2]
  have b9 : SameBut g W8 (upd W8 u (.lst (iv (rg2 0 (lastStop o))))) := SameBut.of (Same.new hu)
  have g9 := g8.new (o := .lst (iv (rg2 0 (lastStop o)))) hu
  have u9 : (upd W8 u (.lst (iv (rg2 0 (lastStop o))))) u = some (.lst (iv (rg2 0 (lastStop o)))) := upd_same
  have nug : u ≠ g := (g8.ne hu).symm
  generalize upd W8 u (.lst (iv (rg2 0 (lastStop o)))) = H9 at b9 g9 u9 ⊢
  refine ⟨_, rfl, _, _, rfl, rfl, _, rfl, ite_cut (fun σ2 H2 => ∃ (q : Addr) (ps : List Int) (v9' : Option V), σ2 = [some (.ref a), some (.int i), some (.int (ms.getD i 0)), some (.ref g), some (.int (0 + (j : Nat))), some (.ref p1), some (.int r), some (.int (lastStop o)), some (.ref q), v9', v10] ∧ SameBut g H9 H2 ∧ SrcB H2 g ∧ H2 q = some (.lst (iv ps)) ∧ ps.length ≤ 40 ∧ ∀ v ∈ ps, 0 ≤ v ∧ v < lastStop o) ?_ ?_ ?_⟩
  · rintro σ2 H10 ⟨q, ps, v9', rfl, b10, g10, q10, pl, pb⟩
    have h10 := (b9.trans b10) _ _ h8 n1g
    have elp : (iv ps).length = ps.length := List.length_map _
    refine ⟨_, rfl, q, rfl, ⟨_, SqL.of q10⟩, fun D hD => lcLn (K := K) (a := q) (xs := iv ps) (fun _ => false) (fun _ => V.int 1) (SqL.of q10) hD (by omega) (fun x => rfl) ?_ ?_ ?_⟩
    · intro i x H2 Q' hx s2 qq
      obtain ⟨y, hy, rfl⟩ := List.mem_map.mp (List.mem_of_getElem? hx)
      have yb := pb y hy
      exact ⟨_, rfl, _, rfl, _, rfl, p1, o, r, y, rfl, s2 _ _ h10, ho, r0, r1, yb.1, by omega, fun H3' s3' => ⟨_, rfl, qq H3' s3'⟩⟩
    · intro i x H2 Q' _ e; cases e
    intro H11 s11 h11
    have gn : gives (iv ps).length (fun _ => false) (fun _ => V.int 1) = [] := by
      unfold gives
      rw [List.filter_eq_nil_iff.mpr (fun _ _ => Bool.false_ne_true)]
      rfl
    rw [gn] at h11
    refine ⟨(by decide : 0 ≤ sizeLine), fun v2 hv2 => neD_ints (ns := []) (ms := []) (SqL.of (Same.new hv2 _ _ h11)) (SqL.of upd_same) ⟨_, rfl, ?_⟩⟩
    rw [decide_eq_true rfl]
    have s12 := s11.trans (Same.new (o := .lst []) hv2)
    refine iteF ?_
    have h12 := s12 _ _ h10
    have q12 := s12 _ _ q10
    generalize upd H11 v2 (.lst []) = H12 at s12 h12 q12 ⊢
    refine ⟨_, rfl, _, rfl, _, rfl, _, rfl, (by decide : 1 ≤ sizeLine), fun u13 n13 => ⟨q, u13, _, _, rfl, rfl, SqL.of (Same.new n13 _ _ q12), SqL.of upd_same, Nat.le_of_lt (small_line (by rw [elp]; show _ + 1 < 100000; omega)), fun u14 n14 => ?_⟩⟩
    rw [iv_snoc]
    have s14 := (Same.new (o := .lst [.int (lastStop o)]) n13).trans (Same.new (o := .lst (iv (ps ++ [lastStop o]))) n14)
    have q14 := upd_same (H := upd H12 u13 (.lst [.int (lastStop o)])) (a := u14) (o := .lst (iv (ps ++ [lastStop o])))
    generalize upd (upd H12 u13 (.lst [.int (lastStop o)])) u14 (.lst (iv (ps ++ [lastStop o]))) = H14 at s14 q14 ⊢
    refine ⟨p1, u14, o, ps ++ [lastStop o], r, rfl, s14 _ _ h12, ho, r0, r1, q14, by rw [List.length_append]; show _ + 1 < 60; omega, (fun v hv => ?_), fun H15 s15 => ⟨_, rfl, ?_⟩⟩
    · rcases List.mem_append.mp hv with hv | hv
      · have := pb v hv; omega
      · rw [List.mem_singleton.mp hv]; omega
    have s1215 := (s12.trans s14).trans s15
    exact iteF ⟨⟨_, _, _, _, _, _, _, rfl⟩, ((b68.trans b9).trans b10).trans (SameBut.of s1215), g10.same s1215⟩
  · intro c main
    have c1 := of_decide_eq_true c
    refine ⟨_, rfl, _, _, rfl, rfl, (by decide : 2 ≤ sizeLine), fun q hq => ?_⟩
    have qq0 : (upd H9 q (.lst [V.int 0, V.int (lastStop o - 1)])) q = some (.lst (iv [0, lastStop o - 1])) := upd_same
    have gq := g9.new (o := .lst [V.int 0, V.int (lastStop o - 1)]) hq
    have bq : SameBut g H9 (upd H9 q (.lst [V.int 0, V.int (lastStop o - 1)])) := SameBut.of (Same.new hq)
    have nqg : q ≠ g := (g9.ne hq).symm
    refine ⟨38, rfl, by decide, by decide, fun D hD => lc_range (lo := 0) (n := 38) (fun i H9' => SameBut g (upd H9 q (.lst [V.int 0, V.int (lastStop o - 1)])) H9' ∧ SrcB H9' g ∧ ∃ hs : List Int, hs.length = i ∧ (∀ v ∈ hs, 0 ≤ v ∧ v < lastStop o) ∧ H9' D = some (.lst (iv hs)))
      ⟨SameBut.of (Same.new hD), gq.new hD, [], rfl, (fun v hv => (List.not_mem_nil hv).elim), upd_same⟩ ?_ ?_⟩
    · rintro i' Hx hi' ⟨bx, gx, hs, hlx, hvx, hx⟩
      have nDg : D ≠ g := (gq.ne hD).symm
      refine ⟨rfl, tYes_go ?_⟩
      refine ⟨_, rfl, _, rfl, g, _, rfl, gx, by omega, by omega, fun d H10 d0 d1 b10 g10 => ?_⟩
      have h10 := b10 _ _ hx nDg
      refine ⟨_, h10, small_line (by rw [List.length_map]; omega), (bx.trans b10).own hD, ?_, hs ++ [d], by rw [List.length_append, hlx]; rfl, fun v hv => ?_, by rw [iv_snoc]; exact upd_same⟩
      · obtain ⟨x, y, z, e, y0, y1⟩ := g10
        exact ⟨x, y, z, by rw [upd_ne nDg.symm]; exact e, y0, y1⟩
      · rcases List.mem_append.mp hv with hv | hv
        · exact hvx v hv
        · have := List.mem_singleton.mp hv
          subst this
          omega
    rintro Hx ⟨bx, gx, hs, hlx, hvx, hx⟩
    refine ⟨q, D, _, _, rfl, rfl, SqL.of (bx _ _ qq0 nqg), SqL.of hx, by rw [show (iv hs).length = 38 by rw [List.length_map, hlx], sizeLine_eq]; show 2 + 38 ≤ _; omega, fun x hxn => main _ _ ⟨x, [0, lastStop o - 1] ++ hs, _, rfl, (bq.trans bx).trans (SameBut.of (Same.new hxn)), gx.new hxn, ?_, by rw [List.length_append, hlx]; show 2 + 38 ≤ 40; omega, fun v hv => ?_⟩⟩
    · unfold iv
      rw [List.map_append]
      exact upd_same
    · rcases List.mem_append.mp hv with hv | hv
      · simp only [List.mem_cons, List.not_mem_nil, or_false] at hv
        rcases hv with rfl | rfl <;> omega
      · exact hvx v hv
  · intro c
    have c1 : ¬ lastStop o > 40 := fun z => c (decide_eq_true z)
    exact ⟨u, rg2 0 (lastStop o), _, rfl, .refl, g9, u9, by rw [rg2_len]; omega, fun v hv => by have := rg2_mem.mp hv; omega⟩
end
end SH

namespace SH
open PySem PySem.Spec PyProof.Rows L2
/-! ### the end -/
theorem all_mk {l : PySem.W.OpenLaw} {w : World} {K : PySem.W.Frag} {h : Heap} {mg : Str → Option Value} {fa : Addr} (X : K.In h) (G : h.Ns mainGlobals mg) (hfa : mg "law" = some (.ref fa))
    {f0 f1 f2 f3 f4 f5 f6 f7 f8 f9 f10 f11 f12 f13 f14 f15 f16 f17 f18 f19 f20 f21 f22 : Addr} {od0 an0 od1 an1 od2 an2 od3 an3 od4 an4 od5 an5 od6 an6 od7 an7 od8 an8 od9 an9 od10 an10 od11 an11 od12 an12 od13 an13 od14 an14 od15 an15 od16 an16 od17 an17 od18 an18 od19 an19 od20 an20 od21 an21 od22 an22 : Option Addr} {sl0 sl1 sl2 sl3 sl4 sl5 sl6 sl7 sl8 sl9 sl10 sl11 sl12 sl13 sl14 sl15 sl16 sl17 sl18 sl19 sl20 sl21 sl22 : Array (Option Value)}
    {oc0 kV0 dc0 pm0 cd0 ct0 oc1 kV1 dc1 pm1 cd1 ct1 oc2 kV2 dc2 pm2 cd2 ct2 oc3 kV3 dc3 pm3 cd3 ct3 oc4 kV4 dc4 pm4 cd4 ct4 oc5 kV5 dc5 pm5 cd5 ct5 oc6 kV6 dc6 pm6 cd6 ct6 oc7 kV7 dc7 pm7 cd7 ct7 oc8 kV8 dc8 pm8 cd8 ct8 oc9 kV9 dc9 pm9 cd9 ct9 oc10 kV10 dc10 pm10 cd10 ct10 oc11 kV11 dc11 pm11 cd11 ct11 oc12 kV12 dc12 pm12 cd12 ct12 oc13 kV13 dc13 pm13 cd13 ct13 oc14 kV14 dc14 pm14 cd14 ct14 oc15 kV15 dc15 pm15 cd15 ct15 oc16 kV16 dc16 pm16 cd16 ct16 oc17 kV17 dc17 pm17 cd17 ct17 oc18 kV18 dc18 pm18 cd18 ct18 oc19 kV19 dc19 pm19 cd19 ct19 oc20 kV20 dc20 pm20 cd20 ct20 oc21 kV21 dc21 pm21 cd21 ct21 oc22 kV22 dc22 pm22 cd22 ct22 : Value} {t_MOST_LINES t_MOST_ROWS : Tok}
    (a0 : PySem.W.nsIn K mainGlobals "is_integer_from" = some (some (.ref f0)))
    (l0 : K.lookup f0 = some ⟨oc0, od0, .func (PySem.W.fnOf "is_integer_from" "is_integer_from" (defArgs s_is_integer_from) (defBody s_is_integer_from) (defScope s_is_integer_from) .none kV0 dc0 pm0 an0 cd0 ct0), sl0⟩)
    (c0 : PySem.W.codeIn K cd0 "is_integer_from" = true) (k0 : PySem.W.keepIn K (.ref f0) = true)
    (a1 : PySem.W.nsIn K mainGlobals "is_integer_within" = some (some (.ref f1)))
    (l1 : K.lookup f1 = some ⟨oc1, od1, .func (PySem.W.fnOf "is_integer_within" "is_integer_within" (defArgs s_is_integer_within) (defBody s_is_integer_within) (defScope s_is_integer_within) .none kV1 dc1 pm1 an1 cd1 ct1), sl1⟩)
    (c1 : PySem.W.codeIn K cd1 "is_integer_within" = true) (k1 : PySem.W.keepIn K (.ref f1) = true)
    (a2 : PySem.W.nsIn K mainGlobals "is_outline" = some (some (.ref f2)))
    (l2 : K.lookup f2 = some ⟨oc2, od2, .func (PySem.W.fnOf "is_outline" "is_outline" (defArgs s_is_outline) (defBody s_is_outline) (defScope s_is_outline) .none kV2 dc2 pm2 an2 cd2 ct2), sl2⟩)
    (c2 : PySem.W.codeIn K cd2 "is_outline" = true) (k2 : PySem.W.keepIn K (.ref f2) = true)
    (a3 : PySem.W.nsIn K mainGlobals "check_outline" = some (some (.ref f3)))
    (l3 : K.lookup f3 = some ⟨oc3, od3, .func (PySem.W.fnOf "check_outline" "check_outline" (defArgs s_check_outline) (defBody s_check_outline) (defScope s_check_outline) .none kV3 dc3 pm3 an3 cd3 ct3), sl3⟩)
    (c3 : PySem.W.codeIn K cd3 "check_outline" = true) (k3 : PySem.W.keepIn K (.ref f3) = true)
    (a4 : PySem.W.nsIn K mainGlobals "stop_of" = some (some (.ref f4)))
    (l4 : K.lookup f4 = some ⟨oc4, od4, .func (PySem.W.fnOf "stop_of" "stop_of" (defArgs s_stop_of) (defBody s_stop_of) (defScope s_stop_of) .none kV4 dc4 pm4 an4 cd4 ct4), sl4⟩)
    (c4 : PySem.W.codeIn K cd4 "stop_of" = true) (k4 : PySem.W.keepIn K (.ref f4) = true)
    (a5 : PySem.W.nsIn K mainGlobals "check_height" = some (some (.ref f5)))
    (l5 : K.lookup f5 = some ⟨oc5, od5, .func (PySem.W.fnOf "check_height" "check_height" (defArgs s_check_height) (defBody s_check_height) (defScope s_check_height) .none kV5 dc5 pm5 an5 cd5 ct5), sl5⟩)
    (c5 : PySem.W.codeIn K cd5 "check_height" = true) (k5 : PySem.W.keepIn K (.ref f5) = true)
    (a6 : PySem.W.nsIn K mainGlobals "greatest_scroll" = some (some (.ref f6)))
    (l6 : K.lookup f6 = some ⟨oc6, od6, .func (PySem.W.fnOf "greatest_scroll" "greatest_scroll" (defArgs s_greatest_scroll) (defBody s_greatest_scroll) (defScope s_greatest_scroll) .none kV6 dc6 pm6 an6 cd6 ct6), sl6⟩)
    (c6 : PySem.W.codeIn K cd6 "greatest_scroll" = true) (k6 : PySem.W.keepIn K (.ref f6) = true)
    (a7 : PySem.W.nsIn K mainGlobals "check_scroll" = some (some (.ref f7)))
    (l7 : K.lookup f7 = some ⟨oc7, od7, .func (PySem.W.fnOf "check_scroll" "check_scroll" (defArgs s_check_scroll) (defBody s_check_scroll) (defScope s_check_scroll) .none kV7 dc7 pm7 an7 cd7 ct7), sl7⟩)
    (c7 : PySem.W.codeIn K cd7 "check_scroll" = true) (k7 : PySem.W.keepIn K (.ref f7) = true)
    (a8 : PySem.W.nsIn K mainGlobals "find_top" = some (some (.ref f8)))
    (l8 : K.lookup f8 = some ⟨oc8, od8, .func (PySem.W.fnOf "find_top" "find_top" (defArgs s_find_top) (defBody s_find_top) (defScope s_find_top) .none kV8 dc8 pm8 an8 cd8 ct8), sl8⟩)
    (c8 : PySem.W.codeIn K cd8 "find_top" = true) (k8 : PySem.W.keepIn K (.ref f8) = true)
    (a9 : PySem.W.nsIn K mainGlobals "top_line" = some (some (.ref f9)))
    (l9 : K.lookup f9 = some ⟨oc9, od9, .func (PySem.W.fnOf "top_line" "top_line" (defArgs s_top_line) (defBody s_top_line) (defScope s_top_line) .none kV9 dc9 pm9 an9 cd9 ct9), sl9⟩)
    (c9 : PySem.W.codeIn K cd9 "top_line" = true) (k9 : PySem.W.keepIn K (.ref f9) = true)
    (a10 : PySem.W.nsIn K mainGlobals "headings_of" = some (some (.ref f10)))
    (l10 : K.lookup f10 = some ⟨oc10, od10, .func (PySem.W.fnOf "headings_of" "headings_of" (defArgs s_headings_of) (defBody s_headings_of) (defScope s_headings_of) .none kV10 dc10 pm10 an10 cd10 ct10), sl10⟩)
    (c10 : PySem.W.codeIn K cd10 "headings_of" = true) (k10 : PySem.W.keepIn K (.ref f10) = true)
    (a11 : PySem.W.nsIn K mainGlobals "pushed_headings" = some (some (.ref f11)))
    (l11 : K.lookup f11 = some ⟨oc11, od11, .func (PySem.W.fnOf "pushed_headings" "pushed_headings" (defArgs s_pushed_headings) (defBody s_pushed_headings) (defScope s_pushed_headings) .none kV11 dc11 pm11 an11 cd11 ct11), sl11⟩)
    (c11 : PySem.W.codeIn K cd11 "pushed_headings" = true) (k11 : PySem.W.keepIn K (.ref f11) = true)
    (a12 : PySem.W.nsIn K mainGlobals "find_rows" = some (some (.ref f12)))
    (l12 : K.lookup f12 = some ⟨oc12, od12, .func (PySem.W.fnOf "find_rows" "find_rows" (defArgs s_find_rows) (defBody s_find_rows) (defScope s_find_rows) .none kV12 dc12 pm12 an12 cd12 ct12), sl12⟩)
    (c12 : PySem.W.codeIn K cd12 "find_rows" = true) (k12 : PySem.W.keepIn K (.ref f12) = true)
    (a13 : PySem.W.nsIn K mainGlobals "view" = some (some (.ref f13)))
    (l13 : K.lookup f13 = some ⟨oc13, od13, .func (PySem.W.fnOf "view" "view" (defArgs s_view) (defBody s_view) (defScope s_view) .none kV13 dc13 pm13 an13 cd13 ct13), sl13⟩)
    (c13 : PySem.W.codeIn K cd13 "view" = true) (k13 : PySem.W.keepIn K (.ref f13) = true)
    (a14 : PySem.W.nsIn K mainGlobals "_law_source" = some (some (.ref f14)))
    (l14 : K.lookup f14 = some ⟨oc14, od14, .func (PySem.W.fnOf "_law_source" "_law_source" (defArgs s_law_source) (defBody s_law_source) (defScope s_law_source) .none kV14 dc14 pm14 an14 cd14 ct14), sl14⟩)
    (c14 : PySem.W.codeIn K cd14 "_law_source" = true) (k14 : PySem.W.keepIn K (.ref f14) = true)
    (a15 : PySem.W.nsIn K mainGlobals "_law_draw" = some (some (.ref f15)))
    (l15 : K.lookup f15 = some ⟨oc15, od15, .func (PySem.W.fnOf "_law_draw" "_law_draw" (defArgs s_law_draw) (defBody s_law_draw) (defScope s_law_draw) .none kV15 dc15 pm15 an15 cd15 ct15), sl15⟩)
    (c15 : PySem.W.codeIn K cd15 "_law_draw" = true) (k15 : PySem.W.keepIn K (.ref f15) = true)
    (a16 : PySem.W.nsIn K mainGlobals "_law_outline" = some (some (.ref f16)))
    (l16 : K.lookup f16 = some ⟨oc16, od16, .func (PySem.W.fnOf "_law_outline" "_law_outline" (defArgs s_law_outline) (defBody s_law_outline) (defScope s_law_outline) .none kV16 dc16 pm16 an16 cd16 ct16), sl16⟩)
    (c16 : PySem.W.codeIn K cd16 "_law_outline" = true) (k16 : PySem.W.keepIn K (.ref f16) = true)
    (a17 : PySem.W.nsIn K mainGlobals "_law_cells" = some (some (.ref f17)))
    (l17 : K.lookup f17 = some ⟨oc17, od17, .func (PySem.W.fnOf "_law_cells" "_law_cells" (defArgs s_law_cells) (defBody s_law_cells) (defScope s_law_cells) .none kV17 dc17 pm17 an17 cd17 ct17), sl17⟩)
    (c17 : PySem.W.codeIn K cd17 "_law_cells" = true) (k17 : PySem.W.keepIn K (.ref f17) = true)
    (a18 : PySem.W.nsIn K mainGlobals "_law_rows" = some (some (.ref f18)))
    (l18 : K.lookup f18 = some ⟨oc18, od18, .func (PySem.W.fnOf "_law_rows" "_law_rows" (defArgs s_law_rows) (defBody s_law_rows) (defScope s_law_rows) .none kV18 dc18 pm18 an18 cd18 ct18), sl18⟩)
    (c18 : PySem.W.codeIn K cd18 "_law_rows" = true) (k18 : PySem.W.keepIn K (.ref f18) = true)
    (a19 : PySem.W.nsIn K mainGlobals "_law_last" = some (some (.ref f19)))
    (l19 : K.lookup f19 = some ⟨oc19, od19, .func (PySem.W.fnOf "_law_last" "_law_last" (defArgs s_law_last) (defBody s_law_last) (defScope s_law_last) .none kV19 dc19 pm19 an19 cd19 ct19), sl19⟩)
    (c19 : PySem.W.codeIn K cd19 "_law_last" = true) (k19 : PySem.W.keepIn K (.ref f19) = true)
    (a20 : PySem.W.nsIn K mainGlobals "_law_step_right" = some (some (.ref f20)))
    (l20 : K.lookup f20 = some ⟨oc20, od20, .func (PySem.W.fnOf "_law_step_right" "_law_step_right" (defArgs s_law_step_right) (defBody s_law_step_right) (defScope s_law_step_right) .none kV20 dc20 pm20 an20 cd20 ct20), sl20⟩)
    (c20 : PySem.W.codeIn K cd20 "_law_step_right" = true) (k20 : PySem.W.keepIn K (.ref f20) = true)
    (a21 : PySem.W.nsIn K mainGlobals "_law_gone_right" = some (some (.ref f21)))
    (l21 : K.lookup f21 = some ⟨oc21, od21, .func (PySem.W.fnOf "_law_gone_right" "_law_gone_right" (defArgs s_law_gone_right) (defBody s_law_gone_right) (defScope s_law_gone_right) .none kV21 dc21 pm21 an21 cd21 ct21), sl21⟩)
    (c21 : PySem.W.codeIn K cd21 "_law_gone_right" = true) (k21 : PySem.W.keepIn K (.ref f21) = true)
    (a22 : PySem.W.nsIn K mainGlobals "law" = some (some (.ref f22)))
    (l22 : K.lookup f22 = some ⟨oc22, od22, .func (PySem.W.fnOf "law" "law" (defArgs s_law) (defBody s_law) (defScope s_law) .none kV22 dc22 pm22 an22 cd22 ct22), sl22⟩)
    (c22 : PySem.W.codeIn K cd22 "law" = true) (k22 : PySem.W.keepIn K (.ref f22) = true)
    (z_len : PySem.W.nsIn K mainGlobals "len" = some none)
    (z_range : PySem.W.nsIn K mainGlobals "range" = some none)
    (z_repr : PySem.W.nsIn K mainGlobals "repr" = some none)
    (z_min : PySem.W.nsIn K mainGlobals "min" = some none)
    (z_max : PySem.W.nsIn K mainGlobals "max" = some none)
    (z_int : PySem.W.nsIn K mainGlobals "int" = some none)
    (z_list : PySem.W.nsIn K mainGlobals "list" = some none)
    (z_type : PySem.W.nsIn K mainGlobals "type" = some none)
    (z_bool : PySem.W.nsIn K mainGlobals "bool" = some none)
    (z_tuple : PySem.W.nsIn K mainGlobals "tuple" = some none)
    (z_isinstance : PySem.W.nsIn K mainGlobals "isinstance" = some none)
    (z_enumerate : PySem.W.nsIn K mainGlobals "enumerate" = some none)
    (z_str : PySem.W.nsIn K mainGlobals "str" = some none)
    (z_zip : PySem.W.nsIn K mainGlobals "zip" = some none)
    (z_all : PySem.W.nsIn K mainGlobals "all" = some none)
    (z_any : PySem.W.nsIn K mainGlobals "any" = some none)
    (z_sum : PySem.W.nsIn K mainGlobals "sum" = some none)
    (z_abs : PySem.W.nsIn K mainGlobals "abs" = some none)
    (z_sorted : PySem.W.nsIn K mainGlobals "sorted" = some none)
    (z_set : PySem.W.nsIn K mainGlobals "set" = some none)
    (z_dict : PySem.W.nsIn K mainGlobals "dict" = some none)
    (z_reversed : PySem.W.nsIn K mainGlobals "reversed" = some none)
    (z_divmod : PySem.W.nsIn K mainGlobals "divmod" = some none)
    (m_MOST_LINES : PySem.W.nsIn K mainGlobals "MOST_LINES" = some (some (.int 200 t_MOST_LINES)))
    (m_MOST_ROWS : PySem.W.nsIn K mainGlobals "MOST_ROWS" = some (some (.int 400 t_MOST_ROWS)))
    : ∃ fd : FuncData, (∀ (s : Shared) (v : Value), BindsTo s fd ⟨[v], []⟩ [("script", v)]) ∧
      ∀ base : Heap, K.In base → base.Ns mainGlobals mg → FnG l.prog w K mg base CX0 7 fa fd ["script"] (sp_law K) := by
  have T : Txt mg := ⟨PySem.W.mg_none_of X G z_len, PySem.W.mg_none_of X G z_range, PySem.W.mg_none_of X G z_repr, PySem.W.mg_none_of X G z_min, PySem.W.mg_none_of X G z_max, PySem.W.mg_none_of X G z_int, PySem.W.mg_none_of X G z_list, PySem.W.mg_none_of X G z_type, PySem.W.mg_none_of X G z_bool, PySem.W.mg_none_of X G z_tuple, PySem.W.mg_none_of X G z_isinstance, PySem.W.mg_none_of X G z_enumerate, PySem.W.mg_none_of X G z_str, PySem.W.mg_none_of X G z_zip, PySem.W.mg_none_of X G z_all, PySem.W.mg_none_of X G z_any, PySem.W.mg_none_of X G z_sum, PySem.W.mg_none_of X G z_abs, PySem.W.mg_none_of X G z_sorted, PySem.W.mg_none_of X G z_set, PySem.W.mg_none_of X G z_dict, PySem.W.mg_none_of X G z_reversed, PySem.W.mg_none_of X G z_divmod⟩
  have c_MOST_LINES := PySem.W.mg_of X G m_MOST_LINES
  have c_MOST_ROWS := PySem.W.mg_of X G m_MOST_ROWS
  have at_is_integer_from : At K mg "is_integer_from" s_is_integer_from := ⟨f0, _, fun_mk l0 c0 k0, PySem.W.mg_of X G a0⟩
  have at_is_integer_within : At K mg "is_integer_within" s_is_integer_within := ⟨f1, _, fun_mk l1 c1 k1, PySem.W.mg_of X G a1⟩
  have at_is_outline : At K mg "is_outline" s_is_outline := ⟨f2, _, fun_mk l2 c2 k2, PySem.W.mg_of X G a2⟩
  have at_check_outline : At K mg "check_outline" s_check_outline := ⟨f3, _, fun_mk l3 c3 k3, PySem.W.mg_of X G a3⟩
  have at_stop_of : At K mg "stop_of" s_stop_of := ⟨f4, _, fun_mk l4 c4 k4, PySem.W.mg_of X G a4⟩
  have at_check_height : At K mg "check_height" s_check_height := ⟨f5, _, fun_mk l5 c5 k5, PySem.W.mg_of X G a5⟩
  have at_greatest_scroll : At K mg "greatest_scroll" s_greatest_scroll := ⟨f6, _, fun_mk l6 c6 k6, PySem.W.mg_of X G a6⟩
  have at_check_scroll : At K mg "check_scroll" s_check_scroll := ⟨f7, _, fun_mk l7 c7 k7, PySem.W.mg_of X G a7⟩
  have at_find_top : At K mg "find_top" s_find_top := ⟨f8, _, fun_mk l8 c8 k8, PySem.W.mg_of X G a8⟩
  have at_top_line : At K mg "top_line" s_top_line := ⟨f9, _, fun_mk l9 c9 k9, PySem.W.mg_of X G a9⟩
  have at_headings_of : At K mg "headings_of" s_headings_of := ⟨f10, _, fun_mk l10 c10 k10, PySem.W.mg_of X G a10⟩
  have at_pushed_headings : At K mg "pushed_headings" s_pushed_headings := ⟨f11, _, fun_mk l11 c11 k11, PySem.W.mg_of X G a11⟩
  have at_find_rows : At K mg "find_rows" s_find_rows := ⟨f12, _, fun_mk l12 c12 k12, PySem.W.mg_of X G a12⟩
  have at_view : At K mg "view" s_view := ⟨f13, _, fun_mk l13 c13 k13, PySem.W.mg_of X G a13⟩
  have at_law_source : At K mg "_law_source" s_law_source := ⟨f14, _, fun_mk l14 c14 k14, PySem.W.mg_of X G a14⟩
  have at_law_draw : At K mg "_law_draw" s_law_draw := ⟨f15, _, fun_mk l15 c15 k15, PySem.W.mg_of X G a15⟩
  have at_law_outline : At K mg "_law_outline" s_law_outline := ⟨f16, _, fun_mk l16 c16 k16, PySem.W.mg_of X G a16⟩
  have at_law_cells : At K mg "_law_cells" s_law_cells := ⟨f17, _, fun_mk l17 c17 k17, PySem.W.mg_of X G a17⟩
  have at_law_rows : At K mg "_law_rows" s_law_rows := ⟨f18, _, fun_mk l18 c18 k18, PySem.W.mg_of X G a18⟩
  have at_law_last : At K mg "_law_last" s_law_last := ⟨f19, _, fun_mk l19 c19 k19, PySem.W.mg_of X G a19⟩
  have at_law_step_right : At K mg "_law_step_right" s_law_step_right := ⟨f20, _, fun_mk l20 c20 k20, PySem.W.mg_of X G a20⟩
  have at_law_gone_right : At K mg "_law_gone_right" s_law_gone_right := ⟨f21, _, fun_mk l21 c21 k21, PySem.W.mg_of X G a21⟩
  have at_law : At K mg "law" s_law := ⟨f22, _, fun_mk l22 c22 k22, PySem.W.mg_of X G a22⟩
  refine ⟨PySem.W.fnOf "law" "law" (defArgs s_law) (defBody s_law) (defScope s_law) .none kV22 dc22 pm22 an22 cd22 ct22, fun s v => .of_eq rfl, fun base _ _ => ?_⟩
  have G_is_integer_from := ok_is_integer_from (P := l.prog) (w := w) (base := base) T at_is_integer_from
  have G_is_integer_within := ok_is_integer_within (P := l.prog) (w := w) (base := base) T at_is_integer_within G_is_integer_from
  have G_is_outline := ok_is_outline (P := l.prog) (w := w) (base := base) T c_MOST_LINES at_is_outline G_is_integer_within
  have G_check_outline := ok_check_outline (P := l.prog) (w := w) (base := base) T at_check_outline G_is_outline
  have G_stop_of := ok_stop_of (P := l.prog) (w := w) (base := base) T at_stop_of
  have G_check_height := ok_check_height (P := l.prog) (w := w) (base := base) T c_MOST_ROWS at_check_height G_is_integer_within
  have G_greatest_scroll := ok_greatest_scroll (P := l.prog) (w := w) (base := base) T at_greatest_scroll G_stop_of
  have G_check_scroll := ok_check_scroll (P := l.prog) (w := w) (base := base) T at_check_scroll G_is_integer_within G_greatest_scroll
  have G_find_top := ok_find_top (P := l.prog) (w := w) (base := base) T at_find_top G_stop_of
  have G_top_line := ok_top_line (P := l.prog) (w := w) (base := base) T at_top_line G_check_outline G_check_scroll G_find_top
  have G_headings_of := ok_headings_of (P := l.prog) (w := w) (base := base) T at_headings_of
  have G_pushed_headings := ok_pushed_headings (P := l.prog) (w := w) (base := base) T at_pushed_headings G_stop_of G_headings_of
  have G_find_rows := ok_find_rows (P := l.prog) (w := w) (base := base) T at_find_rows G_find_top G_headings_of G_pushed_headings
  have G_view := ok_view (P := l.prog) (w := w) (base := base) T at_view G_check_outline G_check_height G_check_scroll G_find_rows
  have G_law_source := ok_law_source (P := l.prog) (w := w) (base := base) T at_law_source
  have G_law_draw := ok_law_draw (P := l.prog) (w := w) (base := base) T at_law_draw
  have G_law_outline := ok_law_outline (P := l.prog) (w := w) (base := base) T at_law_outline G_law_draw
  have G_law_cells := ok_law_cells (P := l.prog) (w := w) (base := base) T at_law_cells
  have G_law_rows := ok_law_rows (P := l.prog) (w := w) (base := base) T at_law_rows G_law_draw
  have G_law_last := ok_law_last (P := l.prog) (w := w) (base := base) T at_law_last
  have G_law_step_right := ok_law_step_right (P := l.prog) (w := w) (base := base) T at_law_step_right G_view G_top_line
  have G_law_gone_right := ok_law_gone_right (P := l.prog) (w := w) (base := base) T at_law_gone_right G_view
  obtain ⟨f, fd, F, m, R, _⟩ := ok_law (P := l.prog) (w := w) (base := base) T at_law G_law_cells G_law_source G_law_draw G_law_outline G_law_rows G_law_last G_law_step_right G_law_gone_right
  have e1 := m.symm.trans hfa
  cases e1
  have e2 := (PySem.W.mg_of X G a22).symm.trans hfa
  cases e2
  obtain ⟨_, _, _, _, _, _, _, _, _, _, lk, _⟩ := F.ex
  rw [l22] at lk
  cases lk
  exact R
theorem walk {l : PySem.W.OpenLaw} {q : Program} {loose : List Str} {XP : (Str → Option Value) → Heap → Prop} {YP : World → Heap → Prop} {d : DefRec} {K : Params → PySem.W.Frag}
    (hn : l.most = some 63) (hdf : d.params.defaults = []) (hY : ∀ (w : World) (h : Heap), YP w h → (K w.params).In h)
    (F : ∀ (w : World) (mg : Str → Option Value) (fa : Addr) (h : Heap), (K w.params).In h → h.Ns mainGlobals mg → mg d.name = some (.ref fa) →
      ∃ fd : FuncData, (∀ (s : Shared) (u : Value), BindsTo s fd ⟨[u], []⟩ [("script", u)]) ∧ ∀ base : Heap, (K w.params).In base → base.Ns mainGlobals mg →
        FnG l.prog w (K w.params) mg base CX0 7 fa fd ["script"] (sp_law (K w.params))) :
    PySem.W.WalkO q loose XP YP l.row.toRowW d [] (fun f vs => PySem.call f vs) :=
  walkG (n := 63) (k := 7) (x := "script") (CX := fun _ => CX0) (sp := fun w => sp_law (K w.params)) hn (by decide) hdf ⟨rfl, by decide, by decide⟩ hY F
    (fun _ _ a ns hl _ hS => ⟨a, ns, rfl, hS, hl, fun _ => rfl⟩) fun _ _ _ _ _ z => z
end SH
open PySem PySem.W PyProof.Rows
set_option maxRecDepth 100000 in
set_option maxHeartbeats 0 in
theorem PySem.Challenge.cw_stickyheads_k21_whole_rows_never_go_back_holds : PySem.Challenge.rw_stickyheads_k21_whole_rows_never_go_back.Holds := by
  w_on; o_law; k_head; (case hw => w_witness2)
  k_fill
  refine SH.walk (l := PySem.Challenge.rw_stickyheads_k21_whole_rows_never_go_back) rfl rfl (fun w h Y => PySem.W.kIn_of Y) ?F
  case F =>
    intro w mg fa h KX G hmg
    refine' SH.all_mk KX G hmg ?a0 ?l0 ?c0 ?k0 ?a1 ?l1 ?c1 ?k1 ?a2 ?l2 ?c2 ?k2 ?a3 ?l3 ?c3 ?k3 ?a4 ?l4 ?c4 ?k4 ?a5 ?l5 ?c5 ?k5 ?a6 ?l6 ?c6 ?k6 ?a7 ?l7 ?c7 ?k7 ?a8 ?l8 ?c8 ?k8 ?a9 ?l9 ?c9 ?k9 ?a10 ?l10 ?c10 ?k10 ?a11 ?l11 ?c11 ?k11 ?a12 ?l12 ?c12 ?k12 ?a13 ?l13 ?c13 ?k13 ?a14 ?l14 ?c14 ?k14 ?a15 ?l15 ?c15 ?k15 ?a16 ?l16 ?c16 ?k16 ?a17 ?l17 ?c17 ?k17 ?a18 ?l18 ?c18 ?k18 ?a19 ?l19 ?c19 ?k19 ?a20 ?l20 ?c20 ?k20 ?a21 ?l21 ?c21 ?k21 ?a22 ?l22 ?c22 ?k22 ?z_len ?z_range ?z_repr ?z_min ?z_max ?z_int ?z_list ?z_type ?z_bool ?z_tuple ?z_isinstance ?z_enumerate ?z_str ?z_zip ?z_all ?z_any ?z_sum ?z_abs ?z_sorted ?z_set ?z_dict ?z_reversed ?z_divmod ?m_MOST_LINES ?m_MOST_ROWS
    (case a0 => k_is); (case l0 => k_is); (case c0 => k_is); (case k0 => k_is); (case a1 => k_is); (case l1 => k_is); (case c1 => k_is); (case k1 => k_is)
    (case a2 => k_is); (case l2 => k_is); (case c2 => k_is); (case k2 => k_is); (case a3 => k_is); (case l3 => k_is); (case c3 => k_is); (case k3 => k_is)
    (case a4 => k_is); (case l4 => k_is); (case c4 => k_is); (case k4 => k_is); (case a5 => k_is); (case l5 => k_is); (case c5 => k_is); (case k5 => k_is)
    (case a6 => k_is); (case l6 => k_is); (case c6 => k_is); (case k6 => k_is); (case a7 => k_is); (case l7 => k_is); (case c7 => k_is); (case k7 => k_is)
    (case a8 => k_is); (case l8 => k_is); (case c8 => k_is); (case k8 => k_is); (case a9 => k_is); (case l9 => k_is); (case c9 => k_is); (case k9 => k_is)
    (case a10 => k_is); (case l10 => k_is); (case c10 => k_is); (case k10 => k_is); (case a11 => k_is); (case l11 => k_is); (case c11 => k_is); (case k11 => k_is)
    (case a12 => k_is); (case l12 => k_is); (case c12 => k_is); (case k12 => k_is); (case a13 => k_is); (case l13 => k_is); (case c13 => k_is); (case k13 => k_is)
    (case a14 => k_is); (case l14 => k_is); (case c14 => k_is); (case k14 => k_is); (case a15 => k_is); (case l15 => k_is); (case c15 => k_is); (case k15 => k_is)
    (case a16 => k_is); (case l16 => k_is); (case c16 => k_is); (case k16 => k_is); (case a17 => k_is); (case l17 => k_is); (case c17 => k_is); (case k17 => k_is)
    (case a18 => k_is); (case l18 => k_is); (case c18 => k_is); (case k18 => k_is); (case a19 => k_is); (case l19 => k_is); (case c19 => k_is); (case k19 => k_is)
    (case a20 => k_is); (case l20 => k_is); (case c20 => k_is); (case k20 => k_is); (case a21 => k_is); (case l21 => k_is); (case c21 => k_is); (case k21 => k_is)
    (case a22 => k_is); (case l22 => k_is); (case c22 => k_is); (case k22 => k_is); (case z_len => k_is); (case z_range => k_is); (case z_repr => k_is); (case z_min => k_is)
    (case z_max => k_is); (case z_int => k_is); (case z_list => k_is); (case z_type => k_is); (case z_bool => k_is); (case z_tuple => k_is); (case z_isinstance => k_is); (case z_enumerate => k_is)
    (case z_str => k_is); (case z_zip => k_is); (case z_all => k_is); (case z_any => k_is); (case z_sum => k_is); (case z_abs => k_is); (case z_sorted => k_is); (case z_set => k_is)
    (case z_dict => k_is); (case z_reversed => k_is); (case z_divmod => k_is); (case m_MOST_LINES => k_is); (case m_MOST_ROWS => k_is)

