import PyProof.Rows.All
import Wide.All
import OpenK.AllK
import Wide.FinOn
import HandS.ForMost
import HandS.Wide
import HandS.IsInst
import HandS.Walk
import PyProof.ReprRoads
import PySem.Challenge.RW_joinmore_k00_integers_and_names
set_option Elab.async false
set_option linter.all false
set_option maxRecDepth 100000
/-! Defs that are called where nothing shows itself (no repr runs around them): so repr of a list or a tuple can be told. -/
namespace Gd
open PySem PySem.Spec PyProof.Rows L2
section
variable {P : Program} {w : World} {K : PySem.W.Frag} {mg : Str → Option Value} {base : Heap}
/-- a def's promise, where no repr runs around the call -/
structure FnG (P : Program) (w : World) (K : PySem.W.Frag) (mg : Str → Option Value) (base : Heap) (k : Nat)
    (f : Addr) (fd : FuncData) (ps : List Str) (sp : Sp) : Prop where
  many : ∀ vs H Q E, sp vs H Q E → vs.length = ps.length
  goes : ∀ (A : Around) (out : List Env) (s : Shared) (H : Hp) (ar : Args) (us : List Value) (vs : List V) (Q : VK) (E : XK),
    Room k A → A.guards = some [] → Env0 P w K mg base A out s H → BindsTo s fd ar (ps.zip us) → Vals vs us → sp vs H Q E →
    codeAny (model P w) A (.call (.ref f) ar) (CR CX0 out P w H s Q E) s
theorem FnG.of {k : Nat} {f : Addr} {fd : FuncData} {ps : List Str} {sp : Sp} (F : FnOk P w K mg base CX0 k f fd ps sp) :
    FnG P w K mg base k f fd ps sp :=
  ⟨F.len, fun A out s H ar us vs Q E r _ => F.run A out s H ar us vs Q E r⟩
/-- such a def by its body -/
theorem okG {x qual : Str} {st : Stmt} {f : Addr} {fd : FuncData} {N ps : List Str} {k : Nat} {sp : Sp}
    (F : Fun K x qual st f fd) (S : FnScope N ps (defScope st)) (many : ∀ vs H Q E, sp vs H Q E → vs.length = ps.length)
    (body : ∀ (cdv : Value) (A : Around) (out : List Env) (s : Shared) (H : Hp) (vs : List V) (Q : VK) (E : XK),
      Room k (A.deeper (envOfC qual (defScope st) s.heap.objs.size f cdv)) → A.guards = some [] → sp vs H Q E →
      ∃ t, PSs (cxOf CX0 P w K mg base N qual (defScope st) f cdv A out s H E).nox (defBody st) t ∧
        t { nx := fun _ H' => Q .non H', rt := Q } (start N vs) H) :
    FnG P w K mg base (k + 1) f fd ps sp := by
  obtain ⟨oc, od, kV, doc, pm, an, cdv, ct, osl, rfl, lk, hcd⟩ := F.ex
  refine ⟨many, fun A out s H ar us vs Q E room gu e0 bi r want => ?_⟩
  have n := many _ _ _ _ want
  have inK : K.In s.heap := e0.mod.kin.keeps fun b o e => (e0.bs b o e).1
  have noL : s.heap.NoLimit := e0.mod.nolimit.keeps fun b o e => (e0.bs b o e).1
  have kinds : ∀ y ∈ ps.zip us, (defScope st).names.lookup y.1 = some .local ∨
      ((defScope st).names.lookup y.1 = some .cell ∧ ((cellsFrom (s.heap.objs.size + 1) (defScope st).names []).lookup y.1).isSome = true) := by
    intro ⟨nm, v⟩ hy
    have hin := (List.of_mem_zip hy).1
    cases S.par nm hin with
    | inl q => exact .inl q
    | inr q => exact .inr ⟨q, PySem.W.cellsFrom_some _ _ _ (.inl q)⟩
  refine codeAny_call_function room.depth (inK _ _ lk) rfl S.co S.gen rfl (PySem.W.codeRec_of inK hcd) (bi _ _ _ _ ?_)
  refine wpAny_newFunctionEnv_cells S.kind kinds ?_
  intro env he s1 x
  subst he
  refine ⟨noL.keeps x.toInCall.keep, codeAny_func ?_⟩
  obtain ⟨t, ht, hq⟩ := body cdv A out s H vs Q E (room.deeper _) gu want
  have I : Inv (cxOf CX0 P w K mg base N qual (defScope st) f cdv A out s H E) [] (start N vs) H s1 :=
    inv_start S room.hd e0 n r x
  have over : ∀ {σ' : L2.St} {H' : Hp} {s' : Shared} {v : V} {u : Value},
      Inv (cxOf CX0 P w K mg base N qual (defScope st) f cdv A out s H E) [] σ' H' s' → RelV v u → Q v H' → CE out P w H s Q u s' :=
    fun {σ' H' s' v u} J rv q => ⟨v, H', J.os, J.bare, J.base, J.hok, rv, q⟩
  refine wpAny_mono (ht.nox.run [] s1 (start N vs) H _ I hq) ?_ (fun e s' hs => hs)
  intro fl s' hs
  cases fl with
  | ret u =>
    obtain ⟨v, σ', H', J, rv, q⟩ := hs
    exact over J rv q
  | next =>
    obtain ⟨σ', H', J, q⟩ := hs
    exact over (v := V.non) (u := Value.none) J rfl q
  | brk => exact (hs.choose_spec.choose_spec.2).elim
  | cont => exact (hs.choose_spec.choose_spec.2).elim
end
section
variable {X : Cx} {k : Nat} {f : Addr} {fd : FuncData} {ps : List Str} {sp : Sp} {x : Str} {p pos : Pos} {e : Expr} {es : List Expr} {t : TA}
/-- a call of such a def -/
theorem callG (F : FnG X.prog X.w X.K X.mg X.base k f fd ps sp) (room : Room k X.A) (gu : X.A.guards = some []) (hg : Gl X x)
    (hm : X.mg x = some (.ref f)) (kp : PySem.W.keepIn X.K (.ref f) = true) (hb : Binds X.K fd ps []) (ha : PA X (e :: es) t)
    (nd : (x == ("__debug__" : Str)) = false := by decide)
    (h1 : starEach (e :: es) X.env = (false, eval e X.env) :: starEach es X.env := by rfl)
    (h2 : (backTo pos (starEach es X.env)).any (·.1) = false := by rfl) :
    PE X (.Call (.Name x p) (e :: es) [] pos) (tCall sp [] E0 t) := by
  constructor
  intro pins s σ H Q I h
  refine wpAny_Call_Name_kw (ld_glob I hg hm ?_ nd)
  refine PySem.W.callWith_K (h₀ := X.base) I.ok.mod.kin kp (thn (ha.run pos pins s σ H _ I h) ?_) h1 h2
  rintro us s1 ⟨vs, H1, I1, r, q⟩
  refine ⟨I1.kIn, ?_⟩
  have r2 : Vals (vs ++ []) (us ++ []) := r.append .nil
  have n : (us ++ []).length = ps.length := by
    rw [← r2.length]
    exact F.many _ _ _ _ q
  refine wpAny_call (codeAny_mono (F.goes X.A X.stack s1 H1 ⟨us, []⟩ (us ++ []) (vs ++ []) Q E0 room gu I1.env0 (hb s1 us I1.kIn n) r2 q) ?_)
  intro r s' hq
  cases r with
  | error e => exact hq.elim
  | ok fl =>
    cases fl with
    | ret u => exact I1.after hq
    | next => exact hq.elim
    | brk => exact hq.elim
    | cont => exact hq.elim
/-- repr of a list or a tuple of data -/
def rRepr (K : PySem.W.Frag) : List V → Hp → VK → Prop := fun xs H Q => ∃ a d, xs = [V.ref a] ∧ Dp K H (.ref a) d ∧
  d.showable = true ∧ d.hasDict = false ∧ d.depth ≤ 32 ∧ d.shown.length ≤ sizeLine ∧ Q (.str d.shown) H
theorem call_reprG (gu : X.A.guards = some []) (hu : X.A.units + 64 < cLine) : CallR X (.builtin "repr") (rRepr X.K) := by
  intro pins s σ H xs us Q I r h
  obtain ⟨a, d, rfl, hd, sh, nd, dp, hz, q⟩ := h
  obtain ⟨u, rfl, ru⟩ := vals1 r
  obtain rfl : u = Value.ref a := ru
  obtain ⟨as, rd⟩ := Dp.reads I d _ _ hd rfl
  refine repr_of_reads' rd sh (PyData.noDict_hsm nd) gu (by omega) (fun _ _ e => e) (fun h' u tk hk => ?_) hz
  exact ⟨.str d.shown, H, I.kept hk, ⟨u, rfl⟩, q⟩
/-- ** of any two ints of moderate size -/
theorem op_powW : OpR X (binaryOp .Pow) (rI (fun i j => 0 ≤ j ∧ (Builtin.Int.intBits i : Int) * j ≤ 2 ^ 27) fun i j => .int (i ^ j.toNat)) :=
  opI fun _ _ _ _ _ _ _ hc q => pow_int hc.1 hc.2 q
end
end Gd
namespace Gd
open PySem PySem.Spec PyProof.Rows L2
section
variable {P : Program} {w : World} {K : PySem.W.Frag} {mg mb : Str → Option Value} {k : Nat} {fa a : Addr} {fd : FuncData} {x : Str} {sp : Sp}
  {s1 : Shared} {vs : List Value} {ns : List Int}
/-- what the law's call must end in -/
def EndT (s1 : Shared) (r : Result) (s' : Shared) : Prop :=
  r = .ok (.ret (.bool true)) ∧ OldK s1.heap s'.heap ∧ s'.os = s1.os ∧ AllBare s'.gens
/-- the law's call from an abstract heap H that tracks at most the script -/
theorem enterG (inK : K.In s1.heap) (nsG : s1.heap.Ns mainGlobals mg) (nsB : s1.heap.Ns builtinsNs mb)
    (bb : ∀ y : Str, y ≠ "__name__" → mb y = bootBuiltins y) (noL : s1.heap.NoLimit) (noG : s1.gens = #[])
    (lst : s1.heap.get? a = some { cls := .type "list", data := .seq vs.toArray }) (room : Room k callerA)
    (F : ∀ base : Heap, K.In base → base.Ns mainGlobals mg → FnG P w K mg base k fa fd [x] sp)
    (bi : ∀ (s : Shared) (u : Value), BindsTo s fd ⟨[u], []⟩ [(x, u)])
    {H : Hp} (only : Only H) (want : sp [.ref a] H (fun v _ => v = .bl true) E0)
    (hok : HOk P w H s1.heap) (at_a : ∀ b, H b ≠ none → b = a) (free : H a ≠ none → K.lookup a = none) :
    codeAny (model P w) callerA (.call (.ref fa) ⟨[.ref a], []⟩) (EndT s1) s1 := by
  have noDict : ∀ {b : Addr} {o : Obj} {es : Array DictEntry} {ep : Nat}, s1.heap.get? b = some o → o.data = .dict es ep → H b = none := by
    intro b o es ep e d
    by_cases q : H b = none
    · exact q
    · obtain rfl := at_a b q
      rw [lst] at e
      cases e
      exact absurd (show Data.seq vs.toArray _ = Data.dict es ep from d) (by intro z; cases z)
  have nsH : ∀ {b : Addr} {m : Str → Option Value}, s1.heap.Ns b m → (hidT s1.heap H).Ns b m := by
    rintro b m ⟨o, es, ep, e, d, r⟩
    exact ⟨o, es, ep, hidT_get e (noDict e d), d, r⟩
  have inH : K.In (hidT s1.heap H) := by
    intro b o e
    refine hidT_get (inK b o e) ?_
    by_cases q : H b = none
    · exact q
    · obtain rfl := at_a b q
      rw [free q] at e
      cases e
  have md : Mod K mg (hidT s1.heap H) := by
    obtain ⟨mc, l1, l2⟩ := noL
    exact ⟨inH, nsH nsG, ⟨mb, nsH nsB, bb⟩, ⟨mc, nsH l1, l2⟩⟩
  have e0 : Env0 P w K mg (hidT s1.heap H) callerA [] s1 H :=
    { frames := rfl, mod := md, bs := fun b o e => of_hidT e, bsz := Nat.le_of_eq (hidT_size _ _), funs := trivial,
      frf := fun b hb => (List.not_mem_nil (show b ∈ ([] : List Addr) from hb)).elim, hok := hok, bare := .of_eq noG }
  refine codeAny_mono ((F _ inH (nsH nsG)).goes callerA [] s1 H ⟨[.ref a], []⟩ [.ref a] [.ref a] _ _ room rfl e0 (bi s1 (.ref a)) (.cons rfl .nil) want) ?_
  intro r s' h
  cases r with
  | error e => exact h.elim
  | ok fl =>
    cases fl with
    | next => exact h.elim
    | brk => exact h.elim
    | cont => exact h.elim
    | ret u =>
      obtain ⟨v, H', os, bare, un, hok', r', q⟩ := h
      obtain rfl : v = .bl true := q
      obtain rfl : u = Value.bool true := r'
      refine ⟨rfl, ?_, os, bare⟩
      refine OldK.of_keep fun b o e => ?_
      rcases only b with z | ⟨ob, xs, z⟩
      · exact un.keep b o e z (by intro y; cases (show b ∈ ([] : List Addr) from y)) (by simp)
      · obtain ⟨e1, _⟩ := hok b _ z
        obtain ⟨e2, _⟩ := hok' b _ (un.frzs b ob _ z)
        rw [e] at e1
        cases e1
        exact e2
/-- the law's call -/
theorem lawG (inK : K.In s1.heap) (nsG : s1.heap.Ns mainGlobals mg) (nsB : s1.heap.Ns builtinsNs mb)
    (bb : ∀ y : Str, y ≠ "__name__" → mb y = bootBuiltins y) (noL : s1.heap.NoLimit) (noG : s1.gens = #[])
    (lst : s1.heap.get? a = some { cls := .type "list", data := .seq vs.toArray }) (isI : IntsAre vs ns) (len : ns.length ≤ sizeLine) (room : Room k callerA)
    (F : ∀ base : Heap, K.In base → base.Ns mainGlobals mg → FnG P w K mg base k fa fd [x] sp)
    (bi : ∀ (s : Shared) (u : Value), BindsTo s fd ⟨[u], []⟩ [(x, u)])
    (want : ∀ H : Hp, Only H → SqL K H a (ns.map V.int) → sp [.ref a] H (fun v _ => v = .bl true) E0) :
    codeAny (model P w) callerA (.call (.ref fa) ⟨[.ref a], []⟩) (EndT s1) s1 := by
  have rv := vals_ints isI
  have lv := isI.length
  by_cases hk : K.lookup a = none
  · let fo : HO := .frz { cls := .type "list", data := .seq vs.toArray } (.lst (ns.map V.int))
    have yes : ∀ b, b = a → (fun c => if c = a then some fo else none : Hp) b = some fo := fun b e => if_pos e
    have no : ∀ b, b ≠ a → (fun c => if c = a then some fo else none : Hp) b = none := fun b e => if_neg e
    have on : Only (fun c => if c = a then some fo else none) := by
      intro b
      by_cases hb : b = a
      · exact .inr ⟨_, _, yes b hb⟩
      · exact .inl (no b hb)
    refine enterG inK nsG nsB bb noL noG lst room F bi on (want _ on (.inl (.inr ⟨_, yes a rfl⟩))) ?_ ?_ (fun _ => hk)
    · intro b u z
      by_cases hb : b = a
      · have z' := (yes b hb).symm.trans z
        cases z'
        subst hb
        exact ⟨lst, by rw [List.length_map]; exact len, vs, _, rv, lst⟩
      · rw [no b hb] at z
        cases z
    · intro b z
      by_cases hb : b = a
      · exact hb
      · exact absurd (no b hb) z
  · obtain ⟨o, ho⟩ := Option.ne_none_iff_exists'.mp hk
    have e := inK a o ho
    rw [lst] at e
    cases e
    have on : Only (fun _ => none) := fun _ => .inl rfl
    refine enterG inK nsG nsB bb noL noG lst room F bi on (want _ on ?_) ?_ ?_ ?_
    · exact .inr ⟨_, vs.toArray, _, ho, rfl, rfl, rfl, by rw [List.size_toArray, lv]; exact len, by simpa using rv⟩
    · intro b u z
      cases (show (none : Option HO) = some u from z)
    · intro b z
      exact absurd rfl z
    · intro z
      exact absurd rfl z
end
/-- the end of a law's row -/
theorem walkG {l : PySem.W.OpenLaw} {n k : Nat} {q : Program} {loose : List Str} {XP : (Str → Option Value) → Heap → Prop}
    {YP : World → Heap → Prop} {d : DefRec} {K : Params → PySem.W.Frag} {sp : PySem.W.Frag → Sp} {x : Str}
    (hn : l.most = some n) (hn2 : n ≤ sizeLine) (hdf : d.params.defaults = []) (room : Room k callerA)
    (hY : ∀ (w : World) (h : Heap), YP w h → (K w.params).In h)
    (F : ∀ (w : World) (mg : Str → Option Value) (fa : Addr) (h : Heap), (K w.params).In h → h.Ns mainGlobals mg → mg d.name = some (.ref fa) →
      ∃ fd : FuncData, (∀ (s : Shared) (u : Value), BindsTo s fd ⟨[u], []⟩ [(x, u)]) ∧
        ∀ base : Heap, (K w.params).In base → base.Ns mainGlobals mg → FnG l.prog w (K w.params) mg base k fa fd [x] (sp (K w.params)))
    (want : ∀ (K : PySem.W.Frag) (H : Hp) (a : Addr) (ns : List Int), ns.length ≤ n → Only H → SqL K H a (ns.map V.int) →
      sp K [.ref a] H (fun v _ => v = .bl true) E0) :
    PySem.W.WalkO q loose XP YP l.row.toRowW d [] (fun f vs => PySem.call f vs) := by
  refine Att.attach_call hn hdf ?_
  intro w s0 s1 mg mb fa o pm cd doc a vs ns G Y ho hd hcd hmg lst isI len noG
  obtain ⟨fd, bi, hF⟩ := F w mg fa _ (hY w _ Y) G.T.g hmg
  exact lawG (hY w _ Y) G.T.g G.T.b G.T.builtins G.T.nolimit noG lst isI (Nat.le_trans len hn2) room hF bi (fun H on sq => want _ H a ns len on sq)
end Gd
namespace Gd
open PySem PySem.Spec PyProof.Rows L2
/-- a def of the top: its text, its function object, how it binds, where it stands -/
structure Df (K : PySem.W.Frag) (mg : Str → Option Value) (x : Str) (st : Stmt) (ps : List Str) (f : Addr) (fd : FuncData) : Prop where
  F : Fun K x x st f fd
  b : Binds K fd ps []
  g : mg x = some (.ref f)
theorem Df.mk' {K : PySem.W.Frag} {mg : Str → Option Value} {x : Str} {st : Stmt} {ps : List Str} {f : Addr} {fd : FuncData} (F : Fun K x x st f fd)
    (h : ∀ (kV doc pm : Value) (an : Option Addr) (cdv ct : Value) (us : List Value), us.length = ps.length → bindArgs (PySem.W.fnOf x x (defArgs st) (defBody st) (defScope st) .none kV doc pm an cdv ct) ⟨us, []⟩ = pure (ps.zip us))
    (g : mg x = some (.ref f)) : Df K mg x st ps f fd := ⟨F, F.binds h, g⟩
section
variable {P : Program} {w : World} {K : PySem.W.Frag} {mg : Str → Option Value} {base : Heap} {X : Cx} {k : Nat} {f : Addr} {fd : FuncData} {st : Stmt} {ps : List Str} {sp : Sp} {x : Str} {p pos : Pos} {e : Expr} {es : List Expr} {t : TA}
/-- a call of a def of the top, in short -/
theorem dcall (D : Df X.K X.mg x st ps f fd) (G : FnOk X.prog X.w X.K X.mg X.base CX0 k f fd ps sp) (hr : Room k X.A) (ha : PA X (e :: es) t) (hg : Gl X x := by rfl)
    (hx : Passes CX0 X E0 := by exact pass0) (hdb : (x == ("__debug__" : Str)) = false := by decide) (he : starEach (e :: es) X.env = (false, eval e X.env) :: starEach es X.env := by rfl)
    (hpl : (backTo pos (starEach es X.env)).any (·.1) = false := by rfl) :
    PE X (.Call (.Name x p) (e :: es) [] pos) (tCall sp [] E0 t) := pe_call G hr hg D.g D.F.kp D.b .nil hx ha hdb he hpl
theorem dcallG (D : Df X.K X.mg x st ps f fd) (G : FnG X.prog X.w X.K X.mg X.base k f fd ps sp) (hr : Room k X.A) (gu : X.A.guards = some []) (ha : PA X (e :: es) t) (hg : Gl X x := by rfl)
    (hdb : (x == ("__debug__" : Str)) = false := by decide) (he : starEach (e :: es) X.env = (false, eval e X.env) :: starEach es X.env := by rfl)
    (hpl : (backTo pos (starEach es X.env)).any (·.1) = false := by rfl) :
    PE X (.Call (.Name x p) (e :: es) [] pos) (tCall sp [] E0 t) := callG G hr gu hg D.g D.F.kp D.b ha hdb he hpl
end
/-! heaps -/
/-- all but p stays -/
def Kp (p : Addr) (H H' : Hp) : Prop := ∀ b o, b ≠ p → H b = some o → H' b = some o
theorem Kp.refl (p : Addr) (H : Hp) : Kp p H H := fun _ _ _ h => h
theorem Kp.trans {p : Addr} {H H1 H2 : Hp} (a : Kp p H H1) (b : Kp p H1 H2) : Kp p H H2 := fun c o n h => b c o n (a c o n h)
theorem Kp.upd {p : Addr} {H : Hp} (o : HO) : Kp p H (upd H p o) := fun b u n h => by rw [upd_ne n]; exact h
theorem Same.kp {p : Addr} {H H' : Hp} (a : Same H H') : Kp p H H' := fun b o _ h => a b o h
theorem same_new {H : Hp} {p : Addr} {o : HO} (h : H p = none) : Same H (upd H p o) := fun b u e => by
  rw [upd_ne (ne_of_none e h)]
  exact e
theorem same_new2 {H : Hp} {p : Addr} {o u : HO} (h : H p = none) : Same H (upd (upd H p o) p u) := by
  rw [upd_upd]
  exact same_new h
theorem kp_new {q : Addr} {H : Hp} {p : Addr} {o : HO} (h : H p = none) : Kp q H (upd H p o) := Same.kp (same_new h)
/-- the law's cup: a list of three ints -/
def CupAt (H : Hp) (p : Addr) : Prop := ∃ a b c : Int, H p = some (.lst [.int a, .int b, .int c])
theorem CupAt.same {H H' : Hp} {p : Addr} (h : CupAt H p) (s : Same H H') : CupAt H' p := by
  obtain ⟨a, b, c, e⟩ := h
  exact ⟨a, b, c, s _ _ e⟩
/-- behind a call that may draw of the cup at p -/
structure Drawn (p : Addr) (H H' : Hp) : Prop where
  kp : Kp p H H'
  cup : CupAt H' p
theorem Drawn.trans {p : Addr} {H H1 H2 : Hp} (a : Drawn p H H1) (b : Drawn p H1 H2) : Drawn p H H2 := ⟨a.kp.trans b.kp, b.cup⟩
theorem Drawn.new {p q : Addr} {H H1 : Hp} {o : HO} (a : Drawn p H H1) (h : H1 q = none) : Drawn p H (upd H1 q o) := ⟨a.kp.trans (kp_new h), a.cup.same (same_new h)⟩
theorem Drawn.set {p q : Addr} {H H1 : Hp} {o : HO} (a : Drawn p H H1) (h : H q = none) (n : q ≠ p) : Drawn p H (upd H1 q o) := by
  obtain ⟨x, y, z, e⟩ := a.cup
  exact ⟨fun b u nb hb => by rw [upd_ne (ne_of_none hb h)]; exact a.kp b u nb hb, x, y, z, by rw [upd_ne n.symm]; exact e⟩
theorem Drawn.none {p q : Addr} {H H1 : Hp} (a : Drawn p H H1) (h : H1 q = none) : H q = none ∧ q ≠ p := by
  obtain ⟨x, y, z, e⟩ := a.cup
  have n : q ≠ p := (ne_of_none e h).symm
  refine ⟨?_, n⟩
  cases e2 : H q with
  | none => rfl
  | some o =>
    rw [a.kp _ _ n e2] at h
    cases h
theorem Drawn.here {p : Addr} {H : Hp} (h : CupAt H p) : Drawn p H H := ⟨.refl _ _, h⟩
theorem Drawn.at' {p q : Addr} {H H1 : Hp} {o : HO} (a : Drawn p H H1) (h : H q = some o) (n : q ≠ p) : H1 q = some o := a.kp _ _ n h
theorem Drawn.seq {K : PySem.W.Frag} {p q : Addr} {H H1 : Hp} {xs : List V} (a : Drawn p H H1) (h : SqL K H q xs) (n : q ≠ p) : SqL K H1 q xs := by
  rcases h with (h | ⟨o, h⟩) | h
  · exact .inl (.inl (a.kp _ _ n h))
  · exact .inl (.inr ⟨o, a.kp _ _ n h⟩)
  · exact .inr h
/-- where the ways of a conditional expression end in some int -/
theorem anyI {te : TE} {σ : L2.St} {H : Hp} {Q : VK} (h : ∀ c : Int, Q (.int c) H) (g : ∀ Q' : VK, (∀ c : Int, Q' (.int c) H) → te σ H Q') : te σ H Q := g Q h
end Gd
namespace Gd
open PySem PySem.Spec PyProof.Rows L2
/-! values whose type is told -/
inductive Gv (H : Hp) : V → Prop
  | non : Gv H .non
  | bl (b : Bool) : Gv H (.bl b)
  | int (i : Int) : Gv H (.int i)
  | str (z : Str) (h : z.length ≤ 5000) (k : ∀ c ∈ z.cps.toList, c < 1114112) : Gv H (.str z)
  | lst {a : Addr} {xs : List V} (h : H a = some (.lst xs)) : Gv H (.ref a)
  | tup {a : Addr} {xs : List V} (h : H a = some (.tup xs)) : Gv H (.ref a)
  | dK {a : Addr} {kvs : List (Key × V)} (h : H a = some (.dK kvs)) : Gv H (.ref a)
  | dT {a : Addr} {kvs : List (List Key × V)} (h : H a = some (.dT kvs)) : Gv H (.ref a)
theorem Gv.same {H H' : Hp} {v : V} (g : Gv H v) (s : Same H H') : Gv H' v := by
  cases g with
  | non => exact .non
  | bl b => exact .bl b
  | int i => exact .int i
  | str z h k => exact .str z h k
  | lst h => exact .lst (s _ _ h)
  | tup h => exact .tup (s _ _ h)
  | dK h => exact .dK (s _ _ h)
  | dT h => exact .dT (s _ _ h)
def isInt : V → Bool
  | .int _ => true
  | .bl _ => true
  | _ => false
def isBool : V → Bool
  | .bl _ => true
  | _ => false
def isStr : V → Bool
  | .str _ => true
  | _ => false
theorem kt {K : PySem.W.Frag} {a b : String} {r q : Bool} (h : kitB a b = some r) (e : r = q) : PySem.W.kitOne K (.type a) (.type b) = some q := by
  subst e
  exact kit_ty h
theorem Gv.kit {K : PySem.W.Frag} {H : Hp} {v : V} (g : Gv H v) : (∃ t, TyX K H v t ∧ PySem.W.kitOne K t (.type "int") = some (isInt v)) ∧
    (∃ t, TyX K H v t ∧ PySem.W.kitOne K t (.type "bool") = some (isBool v)) ∧ (∃ t, TyX K H v t ∧ PySem.W.kitOne K t (.type "str") = some (isStr v)) := by
  cases g with
  | non => exact ⟨⟨_, .base .non, kt (r := false) (by decide +kernel) rfl⟩, ⟨_, .base .non, kt (r := false) (by decide +kernel) rfl⟩, ⟨_, .base .non, kt (r := false) (by decide +kernel) rfl⟩⟩
  | bl b => exact ⟨⟨_, .base (.bl b), kt (r := true) (by decide +kernel) rfl⟩, ⟨_, .base (.bl b), kt (r := true) (by decide +kernel) rfl⟩, ⟨_, .base (.bl b), kt (r := false) (by decide +kernel) rfl⟩⟩
  | int i => exact ⟨⟨_, .base (.int i), kt (r := true) (by decide +kernel) rfl⟩, ⟨_, .base (.int i), kt (r := false) (by decide +kernel) rfl⟩, ⟨_, .base (.int i), kt (r := false) (by decide +kernel) rfl⟩⟩
  | str z h k => exact ⟨⟨_, .base (.str z), kt (r := false) (by decide +kernel) rfl⟩, ⟨_, .base (.str z), kt (r := false) (by decide +kernel) rfl⟩, ⟨_, .base (.str z), kt (r := true) (by decide +kernel) rfl⟩⟩
  | lst h => exact ⟨⟨_, .base (.lst h), kt (r := false) (by decide +kernel) rfl⟩, ⟨_, .base (.lst h), kt (r := false) (by decide +kernel) rfl⟩, ⟨_, .base (.lst h), kt (r := false) (by decide +kernel) rfl⟩⟩
  | tup h => exact ⟨⟨_, .base (.tup h), kt (r := false) (by decide +kernel) rfl⟩, ⟨_, .base (.tup h), kt (r := false) (by decide +kernel) rfl⟩, ⟨_, .base (.tup h), kt (r := false) (by decide +kernel) rfl⟩⟩
  | dK h => exact ⟨⟨_, .base (.dK h), kt (r := false) (by decide +kernel) rfl⟩, ⟨_, .base (.dK h), kt (r := false) (by decide +kernel) rfl⟩, ⟨_, .base (.dK h), kt (r := false) (by decide +kernel) rfl⟩⟩
  | dT h => exact ⟨⟨_, .base (.dT h), kt (r := false) (by decide +kernel) rfl⟩, ⟨_, .base (.dT h), kt (r := false) (by decide +kernel) rfl⟩, ⟨_, .base (.dT h), kt (r := false) (by decide +kernel) rfl⟩⟩
/-- a def that tells of one value whether f holds of it -/
def spTells (f : V → Bool) : Sp := fun vs H Q _ => ∃ v, vs = [v] ∧ Gv H v ∧ ∀ H', Same H H' → Q (.bl (f v)) H'
def letters : List Nat := ("abcdefghijklmnopqrstuvwxyz" : Str).cps.toList
def wholeV : V → Bool
  | .int _ => true
  | _ => false
def integerV : V → Bool
  | .int i => decide (-1000000000000000000000000000000000000000000000000000000000000 < i) && decide (i < 1000000000000000000000000000000000000000000000000000000000000)
  | _ => false
def nameV : V → Bool
  | .str z => decide (1 ≤ z.length) && decide (z.length ≤ 8) && z.cps.toList.all (fun c => decide (c ∈ letters))
  | _ => false
theorem take_all {α : Type} {l : List α} {i : Nat} (h : l.length ≤ i) : l.take i = l := List.take_of_length_le h
theorem cps_len (z : Str) : z.cps.toList.length = z.cps.size := Array.length_toList
theorem all_filter {α : Type} (p : α → Bool) : ∀ l : List α, l.all p = (l.filter fun c => !p c).isEmpty
  | [] => rfl
  | x :: r => by
    rw [List.all_cons, List.filter_cons, all_filter p r]
    cases p x <;> rfl
theorem dp_strs {K : PySem.W.Frag} {H : Hp} : ∀ l : List Nat, DpAll K H (l.map fun c => V.str ⟨#[c]⟩) (l.map fun c => PyData.str ⟨#[c]⟩)
  | [] => .nil
  | c :: r => .cons (.str _) (dp_strs r)
theorem shaped_strs : ∀ l : List Nat, (∀ c ∈ l, c < 1114112) → SeqAt.shaped (.list (l.map fun c => PyData.str ⟨#[c]⟩)) = true := by
  intro l h
  have h1 : PyData.canLayAll0 (l.map fun c => PyData.str ⟨#[c]⟩) = true := by
    induction l with
    | nil => rfl
    | cons c r ih =>
      have hc : c < 1114112 := h c (List.mem_cons_self ..)
      have e : PyData.strOk ⟨#[c]⟩ = true := by simp [PyData.strOk, hc]
      show (PyData.strOk ⟨#[c]⟩ && PyData.canLayAll0 (r.map fun c => PyData.str ⟨#[c]⟩)) = true
      rw [e, ih fun d hd => h d (List.mem_cons_of_mem _ hd)]
      rfl
  have h2 : PyData.depthAll (l.map fun c => PyData.str ⟨#[c]⟩) = 0 := by
    clear h h1
    induction l with
    | nil => rfl
    | cons c r ih =>
      show max 0 (PyData.depthAll (r.map fun c => PyData.str ⟨#[c]⟩)) = 0
      rw [ih]
      rfl
  unfold SeqAt.shaped
  show (PyData.canLayAll0 _ && decide (PyData.depthAll _ + 1 ≤ 64)) = true
  rw [h1, h2]
  rfl
/-! texts of known size and signs -/
structure OkT (n : Nat) (z : Str) : Prop where
  len : z.length ≤ n
  cps : ∀ c ∈ z.cps.toList, c < 1114112
theorem len_tl (z : Str) : z.length = z.cps.toList.length := (Array.length_toList).symm
theorem OkT.mono {n m : Nat} {z : Str} (h : OkT n z) (l : n ≤ m) : OkT m z := ⟨Nat.le_trans h.len l, h.cps⟩
theorem OkT.gv {n : Nat} {z : Str} {H : Hp} (h : OkT n z) (l : n ≤ 5000) : Gv H (.str z) := .str z (Nat.le_trans h.len l) h.cps
theorem OkT.cut {n : Nat} {z : Str} (h : OkT n z) (lo hi : Option Int) : OkT n (cutS z lo hi) :=
  ⟨Nat.le_trans (cutS_length _ _ _) h.len, fun c hc => h.cps c (List.mem_of_mem_drop (List.mem_of_mem_take (show c ∈ (z.cps.toList.drop _).take _ from hc)))⟩
theorem OkT.add {n m : Nat} {y z : Str} (h : OkT n y) (k : OkT m z) : OkT (n + m) (y ++ z) := by
  have e : (y ++ z).cps.toList = y.cps.toList ++ z.cps.toList := TL.tl_append y z
  refine ⟨?_, fun c hc => ?_⟩
  · rw [len_tl, e, List.length_append, ← len_tl, ← len_tl]
    exact Nat.add_le_add h.len k.len
  · rw [e] at hc
    rcases List.mem_append.mp hc with hc | hc
    · exact h.cps c hc
    · exact k.cps c hc
theorem join_signs : ∀ cs : List Nat, (Txt.join (Str.ofString "") (cs.map fun c => (⟨#[c]⟩ : Str))).cps.toList = cs := by
  intro cs
  rw [TL.join_eq]
  show TL.tl _ = cs
  rw [TL.tl_join, List.map_map]
  show TL.joinL [] (cs.map fun c => [c]) = cs
  induction cs with
  | nil => rfl
  | cons c r ih =>
    cases r with
    | nil => rfl
    | cons d r =>
      show [c] ++ ([] ++ TL.joinL [] ((d :: r).map fun c => [c])) = c :: d :: r
      rw [ih]
      rfl
theorem okT_join {cs : List Nat} (h : ∀ c ∈ cs, c < 1114112) : OkT cs.length (Txt.join (Str.ofString "") (cs.map fun c => (⟨#[c]⟩ : Str))) := by
  refine ⟨?_, fun c hc => ?_⟩
  · rw [len_tl, join_signs]
    exact Nat.le_refl _
  · rw [join_signs] at hc
    exact h c hc
theorem letters_small : ∀ c ∈ letters, c < 1114112 := by decide +kernel
theorem sum_ones (cs : List Nat) : ((cs.map fun c => (⟨#[c]⟩ : Str)).map (·.length)).sum = cs.length := by
  induction cs with
  | nil => rfl
  | cons c r ih =>
    show 1 + ((r.map fun c => (⟨#[c]⟩ : Str)).map (·.length)).sum = r.length + 1
    rw [ih, Nat.add_comm]
end Gd
namespace K00
open PySem PySem.Spec PyProof.Rows L2 Gd
/-! the text by places -/
def tp (i : Nat) : Stmt := PySem.Challenge.pw_joinmore_k00_integers_and_names.main.body.getD i (.Pass ⟨0, 0, 0, 0⟩)
abbrev s_is_whole : Stmt := tp 4
abbrev n_is_whole : List Str := ["value"]
abbrev p_is_whole : List Str := ["value"]
theorem c_is_whole : FnScope n_is_whole p_is_whole (defScope s_is_whole) := ⟨rfl, rfl, rfl, by decide +kernel, rfl, by decide +kernel, by decide +kernel⟩
abbrev s_is_integer : Stmt := tp 5
abbrev n_is_integer : List Str := ["value"]
abbrev p_is_integer : List Str := ["value"]
theorem c_is_integer : FnScope n_is_integer p_is_integer (defScope s_is_integer) := ⟨rfl, rfl, rfl, by decide +kernel, rfl, by decide +kernel, by decide +kernel⟩
abbrev s_is_name : Stmt := tp 6
abbrev n_is_name : List Str := ["value", "letter"]
abbrev p_is_name : List Str := ["value"]
theorem c_is_name : FnScope n_is_name p_is_name (defScope s_is_name) := ⟨rfl, rfl, rfl, by decide +kernel, rfl, by decide +kernel, by decide +kernel⟩
abbrev s__law_cup : Stmt := tp 8
abbrev n__law_cup : List Str := ["script", "at", "cell", "great", "mixed"]
abbrev p__law_cup : List Str := ["script", "at"]
theorem c__law_cup : FnScope n__law_cup p__law_cup (defScope s__law_cup) := ⟨rfl, rfl, rfl, by decide +kernel, rfl, by decide +kernel, by decide +kernel⟩
abbrev s__law_sip : Stmt := tp 9
abbrev n__law_sip : List Str := ["cup", "total", "found", "one", "two"]
abbrev p__law_sip : List Str := ["cup", "total"]
theorem c__law_sip : FnScope n__law_sip p__law_sip (defScope s__law_sip) := ⟨rfl, rfl, rfl, by decide +kernel, rfl, by decide +kernel, by decide +kernel⟩
abbrev s__law_select : Stmt := tp 10
abbrev n__law_select : List Str := ["cup", "items"]
abbrev p__law_select : List Str := ["cup", "items"]
theorem c__law_select : FnScope n__law_select p__law_select (defScope s__law_select) := ⟨rfl, rfl, rfl, by decide +kernel, rfl, by decide +kernel, by decide +kernel⟩
abbrev s__law_letter : Stmt := tp 11
abbrev n__law_letter : List Str := ["cup"]
abbrev p__law_letter : List Str := ["cup"]
theorem c__law_letter : FnScope n__law_letter p__law_letter (defScope s__law_letter) := ⟨rfl, rfl, rfl, by decide +kernel, rfl, by decide +kernel, by decide +kernel⟩
abbrev s__law_is_name : Stmt := tp 12
abbrev n__law_is_name : List Str := ["value", "sign"]
abbrev p__law_is_name : List Str := ["value"]
theorem c__law_is_name : FnScope n__law_is_name p__law_is_name (defScope s__law_is_name) := ⟨rfl, rfl, rfl, by decide +kernel, rfl, by decide +kernel, by decide +kernel⟩
abbrev s__law_is_short : Stmt := tp 13
abbrev n__law_is_short : List Str := ["value"]
abbrev p__law_is_short : List Str := ["value"]
theorem c__law_is_short : FnScope n__law_is_short p__law_is_short (defScope s__law_is_short) := ⟨rfl, rfl, rfl, by decide +kernel, rfl, by decide +kernel, by decide +kernel⟩
abbrev s__law_numbers : Stmt := tp 14
abbrev n__law_numbers : List Str := ["cup", "cell", "great", "near"]
abbrev p__law_numbers : List Str := ["cup", "cell"]
theorem c__law_numbers : FnScope n__law_numbers p__law_numbers (defScope s__law_numbers) := ⟨rfl, rfl, rfl, by decide +kernel, rfl, by decide +kernel, by decide +kernel⟩
abbrev s__law_texts : Stmt := tp 15
abbrev n__law_texts : List Str := ["cup", "found", "turn", "text", "spot", "odd", "at"]
abbrev p__law_texts : List Str := ["cup"]
theorem c__law_texts : FnScope n__law_texts p__law_texts (defScope s__law_texts) := ⟨rfl, rfl, rfl, by decide +kernel, rfl, by decide +kernel, by decide +kernel⟩
abbrev s__law_cell_right : Stmt := tp 16
abbrev n__law_cell_right : List Str := ["script", "at", "cup", "cell", "values", "turn", "value", "found", "due"]
abbrev p__law_cell_right : List Str := ["script", "at"]
theorem c__law_cell_right : FnScope n__law_cell_right p__law_cell_right (defScope s__law_cell_right) := ⟨rfl, rfl, rfl, by decide +kernel, rfl, by decide +kernel, by decide +kernel⟩
abbrev s_law : Stmt := tp 17
abbrev n_law : List Str := ["script", "at"]
abbrev p_law : List Str := ["script"]
theorem c_law : FnScope n_law p_law (defScope s_law) := ⟨rfl, rfl, rfl, by decide +kernel, rfl, by decide +kernel, by decide +kernel⟩
/-- the built-in names that the program and the law use -/
structure Txt (mg : Str → Option Value) : Prop where
  b_abs : mg "abs" = none
  b_all : mg "all" = none
  b_bool : mg "bool" = none
  b_int : mg "int" = none
  b_isinstance : mg "isinstance" = none
  b_len : mg "len" = none
  b_max : mg "max" = none
  b_min : mg "min" = none
  b_range : mg "range" = none
  b_repr : mg "repr" = none
  b_str : mg "str" = none
  k_MAX_LETTERS : ∃ t, mg "MAX_LETTERS" = some (.int 8 t)
  k__LETTERS : ∃ t, mg "_LETTERS" = some (.str "abcdefghijklmnopqrstuvwxyz" t)
  k__INTEGER_BOUND : ∃ t, mg "_INTEGER_BOUND" = some (.int 1000000000000000000000000000000000000000000000000000000000000 t)
section
variable {P : Program} {w : World} {K : PySem.W.Frag} {mg : Str → Option Value} {base : Heap}
/-! ### draws: _law_cup, _law_sip, _law_select, _law_letter -/
def spCup (K : PySem.W.Frag) : Sp := fun vs H Q _ => ∃ (a : Addr) (ns : List Int) (i : Nat), vs = [.ref a, .int (i : Int)] ∧ SqL K H a (ns.map V.int) ∧
  ∀ p H', Same H H' → H p = none → CupAt H' p → Q (.ref p) H'
theorem ok_cup {a : Addr} {fd : FuncData} (T : Txt mg) (D : Df K mg "_law_cup" s__law_cup p__law_cup a fd) : FnOk P w K mg base CX0 1 a fd p__law_cup (spCup K) := by
  refine D.F.ok c__law_cup (fun vs H Q E h => ?_) (fun cdv A outer s H vs Q E hr h => ?_)
  · obtain ⟨a, ns, i, rfl, _⟩ := h
    rfl
  · obtain ⟨a, ns, i, rfl, hS, q⟩ := h
    have nd := c__law_cup.nd
    refine ⟨_, pss_cons (ps_set (i := 2) nd rfl (.inl rfl) (pe_ifExp (pt_cmpR op_lt (pv 1) (pe_callB call_len_seq (by rfl) T.b_len PySem.boot_len (pa_cons (pv 0) pa_nil)) (nomark _))
        (pe_ix ix_list (pv 0) (pv 1) (fun _ _ => rfl)) (pe_op op_add (pe_op op_mul pe_int (pv 1)) pe_int)))
      (pss_cons (ps_set (i := 3) nd rfl (.inl rfl) (pe_op op_mod (pe_callTy call_int1 (by rfl) T.b_int boot_int (pa_cons (pe_callB call_abs (by rfl) T.b_abs boot_abs (pa_cons (pv 2) pa_nil)) pa_nil))
        (pe_op op_powW (pe_op op_pow pe_int pe_int) pe_int)))
      (pss_cons (ps_set (i := 4) nd rfl (.inl rfl) (pe_op op_add (pe_op op_add (pe_op op_add (pe_op op_mul (pe_op op_mod (pe_callTy call_int1 (by rfl) T.b_int boot_int (pa_cons (pv 3) pa_nil)) pe_int) pe_int) (pe_op op_mul pe_int (pv 1)))
        (pe_op op_mul pe_int (pe_callTy call_int1 (by rfl) T.b_int boot_int (pa_cons (pe_cmpR op_lt (pv 2) pe_int (nomark _)) pa_nil)))) pe_int))
      (pss_one (ps_ret (pe_lst (pa_cons (pe_callB (call_max2 rfl) (by rfl) T.b_max boot_max (pa_cons pe_int (pa_cons (pe_op op_sub (pv 3) (pe_op op_pow pe_int pe_int)) pa_nil)))
        (pa_cons (pe_op op_mod (pe_callTy call_int1 (by rfl) T.b_int boot_int (pa_cons (pv 4) pa_nil)) pe_int) (pa_cons pe_int pa_nil)))))))), ?_⟩
    refine anyI (fun c => ?_) (fun Q' h => ?_)
    · refine ⟨.int c, rfl, c, rfl, .inl ⟨_, rfl, _, _, rfl, rfl, ⟨by decide, by decide, by decide⟩, _, _, rfl, rfl, ⟨by decide, by decide +kernel⟩, _, _, rfl, rfl, (by show (0 : Int) < (10 ^ Int.toNat 41) ^ Int.toNat 14; decide +kernel), ?_⟩⟩
      refine ⟨_, rfl, .inl ⟨_, rfl, _, _, rfl, rfl, (by show (0 : Int) < 2147483171; decide), _, _, rfl, rfl, .inr ⟨by decide, by decide⟩, _, rfl, _, _, rfl, rfl, .inl ⟨by decide, by decide⟩, _, _, rfl, rfl, ?_⟩⟩
      refine ⟨.int c, rfl, _, _, rfl, rfl, .inr ⟨_, rfl, _, _, rfl, rfl, .inl ⟨by decide, by decide⟩, _, _, rfl, rfl, _, _, rfl, rfl, ?_⟩⟩
      refine ⟨_, rfl, _, _, rfl, rfl, ⟨by decide, by decide, by decide⟩, _, _, rfl, rfl, _, _, rfl, _, rfl, .inl ⟨_, rfl, _, _, rfl, rfl, (by show (0 : Int) < 2305843009213693907; decide), (by show 3 ≤ sizeLine; decide), fun p np => ?_⟩⟩
      exact q p _ (same_new np) np ⟨_, _, _, upd_same⟩
    · have hi : (ns.map V.int).length = ns.length := List.length_map ..
      refine ⟨_, rfl, _, rfl, a, _, rfl, .inl hS, _, _, rfl, rfl, _, rfl, ite2 (fun e => ?_) (fun e => ?_)⟩
      · have e1 : (i : Int) < ((ns.map V.int).length : Int) := of_decide_eq_true e
        have e2 : i < ns.length := by omega
        exact ⟨_, rfl, _, rfl, a, _, _, .int ns[i], rfl, rfl, hS, atI_nat (by rw [List.getElem?_map, List.getElem?_eq_getElem e2]; rfl), h _⟩
      · exact ⟨_, rfl, _, _, rfl, rfl, .inl ⟨by decide, by decide⟩, _, _, rfl, rfl, h _⟩
/-- a draw: some int from 0 on below the total; the cup alone changes -/
def spSip : Sp := fun vs H Q _ => ∃ (p : Addr) (n : Int), vs = [.ref p, .int n] ∧ 0 < n ∧ n.natAbs.log2 < 9000 ∧ CupAt H p ∧
  ∀ r a b c : Int, 0 ≤ r → r < n → Q (.int r) (upd H p (.lst [.int a, .int b, .int c]))
theorem ok_sip {a : Addr} {fd : FuncData} (T : Txt mg) (D : Df K mg "_law_sip" s__law_sip p__law_sip a fd) : FnOk P w K mg base CX0 1 a fd p__law_sip spSip := by
  refine D.F.ok c__law_sip (fun vs H Q E h => ?_) (fun cdv A outer s H vs Q E hr h => ?_)
  · obtain ⟨p, n, rfl, _⟩ := h
    rfl
  · obtain ⟨p, n, rfl, hn, hz, ⟨x, y, z, hp⟩, q⟩ := h
    have nd := c__law_sip.nd
    refine ⟨_, pss_cons (ps_if (pt_cmpR op_gt (pe_ix ix_list (pv 0) pe_int (fun _ _ => rfl)) pe_int (nomark _))
        (pss_cons (ps_set (i := 2) nd rfl (.inl rfl) (pe_op op_mod (pe_callTy call_int1 (by rfl) T.b_int boot_int (pa_cons (pe_ix ix_list (pv 0) pe_int (fun _ _ => rfl)) pa_nil)) (pv 1)))
        (pss_cons (ps_asg (pe_op op_fdivW (pe_ix ix_list (pv 0) pe_int (fun _ _ => rfl)) (pv 1)) (pg_sub (pv 0) pe_int set_list))
        (pss_one (ps_ret (pv 2))))) pss_nil)
      (pss_cons (ps_asg (pe_op op_add (pe_ix ix_list (pv 0) pe_int (fun _ _ => rfl)) pe_int) (pg_sub (pv 0) pe_int set_list))
      (pss_cons (ps_set (i := 3) nd rfl (.inl rfl) (pe_op op_mod (pe_callTy call_int1 (by rfl) T.b_int boot_int (pa_cons (pe_op op_add (pe_ix ix_list (pv 0) pe_int (fun _ _ => rfl)) (pe_op op_mul pe_int (pe_ix ix_list (pv 0) pe_int (fun _ _ => rfl)))) pa_nil)) pe_int))
      (pss_cons (ps_set (i := 4) nd rfl (.inl rfl) (pe_op op_add (pe_op op_mul (pe_op op_mod (pe_callTy call_int1 (by rfl) T.b_int boot_int (pa_cons (pe_op op_mul (pv 3) (pv 3)) pa_nil)) pe_int) (pv 3)) (pe_op op_mul pe_int (pe_ix ix_list (pv 0) pe_int (fun _ _ => rfl)))))
      (pss_one (ps_ret (pe_op op_mod (pe_callTy call_int1 (by rfl) T.b_int boot_int (pa_cons (pe_op op_fdivN (pe_op op_mod (pe_callTy call_int1 (by rfl) T.b_int boot_int (pa_cons (pv 4) pa_nil)) pe_int) pe_int) pa_nil)) (pv 1))))))), ?_⟩
    have hS : SqL K H p [.int x, .int y, .int z] := .inl (.inl hp)
    refine ⟨_, rfl, p, _, 0, .int x, rfl, rfl, hS, rfl, x, 0, rfl, rfl, _, rfl, ite2 (fun e => ?_) (fun e => ?_)⟩
    · refine ⟨_, rfl, p, _, 0, .int x, rfl, rfl, hS, rfl, .inl ⟨_, rfl, _, rfl, _, _, rfl, rfl, hn, ?_⟩⟩
      refine ⟨_, rfl, p, _, 0, .int x, rfl, rfl, hS, rfl, _, rfl, _, _, rfl, rfl, ⟨hn, hz⟩, _, rfl, p, _, 0, 0, rfl, rfl, hp, rfl, ?_⟩
      exact ⟨_, rfl, q _ _ _ _ (Int.emod_nonneg _ (by omega)) (Int.emod_lt_of_pos _ hn)⟩
    · refine ⟨_, rfl, p, _, 2, .int z, rfl, rfl, hS, rfl, _, _, rfl, rfl, _, rfl, p, _, 2, 2, rfl, rfl, hp, rfl, ?_⟩
      have hp' : (upd H p (.lst [.int x, .int y, .int (z + 1)])) p = some (.lst [.int x, .int y, .int (z + 1)]) := upd_same
      have hS' : SqL K (upd H p (.lst [.int x, .int y, .int (z + 1)])) p [.int x, .int y, .int (z + 1)] := .inl (.inl hp')
      have l1 : ∀ g : Int, 0 ≤ g % 2305843009213693951 ∧ g % 2305843009213693951 < 2305843009213693951 := fun g => ⟨Int.emod_nonneg _ (by decide), Int.emod_lt_of_pos _ (by decide)⟩
      have l2 : ∀ g : Int, 0 ≤ g % 2305843009213693921 ∧ g % 2305843009213693921 < 2305843009213693921 := fun g => ⟨Int.emod_nonneg _ (by decide), Int.emod_lt_of_pos _ (by decide)⟩
      refine ⟨_, rfl, p, _, 1, .int y, rfl, rfl, hS', rfl, _, rfl, p, _, 2, .int (z + 1), rfl, rfl, hS', rfl, _, _, rfl, rfl, .inl ⟨by decide, by decide⟩, _, _, rfl, rfl, .inl ⟨_, rfl, _, _, rfl, rfl, (by show (0 : Int) < 2305843009213693951; decide), ?_⟩⟩
      have b1 := l1 (y + 1000453 * (z + 1))
      refine ⟨_, rfl, _, rfl, _, _, rfl, rfl, .inl ⟨by omega, by omega⟩, .inl ⟨_, rfl, _, _, rfl, rfl, (by show (0 : Int) < 2305843009213693921; decide), ?_⟩⟩
      refine ⟨_, rfl, _, _, rfl, rfl, .inr ⟨by omega, by omega⟩, _, rfl, p, _, 2, .int (z + 1), rfl, rfl, hS', rfl, _, _, rfl, rfl, .inl ⟨by decide, by decide⟩, _, _, rfl, rfl, ?_⟩
      refine ⟨_, rfl, .inl ⟨_, rfl, _, _, rfl, rfl, (by show (0 : Int) < 2305843009213693907; decide), _, _, rfl, rfl, ⟨by decide, by decide⟩, .inl ⟨_, rfl, _, rfl, _, _, rfl, rfl, hn, ?_⟩⟩⟩
      exact q _ _ _ _ (Int.emod_nonneg _ (by omega)) (Int.emod_lt_of_pos _ hn)
/-- one of the items of a list -/
def spSelect (K : PySem.W.Frag) : Sp := fun vs H Q _ => ∃ (p q : Addr) (xs : List V), vs = [.ref p, .ref q] ∧ CupAt H p ∧ SqL K H q xs ∧ q ≠ p ∧ 0 < xs.length ∧ xs.length ≤ 1000 ∧
  ∀ v H', v ∈ xs → Drawn p H H' → Q v H'
theorem draw_ok {H : Hp} {p : Addr} {a b c : Int} : Drawn p H (upd H p (.lst [.int a, .int b, .int c])) := ⟨.upd _, ⟨a, b, c, upd_same⟩⟩
theorem log_small {n : Nat} (h : n < 2 ^ 200) : n.log2 < 9000 := by
  by_cases h0 : n = 0
  · subst h0
    decide
  · exact Nat.lt_trans ((Nat.log2_lt h0).mpr h) (by decide)
theorem ok_select {a aS : Addr} {fd fdS : FuncData} (T : Txt mg) (D : Df K mg "_law_select" s__law_select p__law_select a fd) (DS : Df K mg "_law_sip" s__law_sip p__law_sip aS fdS) :
    FnOk P w K mg base CX0 2 a fd p__law_select (spSelect K) := by
  have GS : FnOk P w K mg base CX0 1 aS fdS p__law_sip spSip := ok_sip T DS
  refine D.F.ok c__law_select (fun vs H Q E h => ?_) (fun cdv A outer s H vs Q E hr h => ?_)
  · obtain ⟨p, q, xs, rfl, _⟩ := h
    rfl
  · obtain ⟨p, q, xs, rfl, hp, hq, npq, h0, hl, k⟩ := h
    refine ⟨_, pss_one (ps_ret (pe_ix ix_list (pv 1) (dcall DS GS hr (pa_cons (pv 0) (pa_cons (pe_callB call_len_seq (by rfl) T.b_len PySem.boot_len (pa_cons (pv 1) pa_nil)) pa_nil))) (fun _ _ => rfl))), ?_⟩
    refine ⟨_, rfl, _, rfl, _, rfl, q, xs, rfl, .inl hq, p, _, rfl, by omega, log_small (by show xs.length < 2 ^ 200; exact Nat.lt_of_le_of_lt hl (by decide)), hp, fun r a b c r0 rn => ?_⟩
    obtain ⟨j, rfl⟩ := Int.eq_ofNat_of_zero_le r0
    have hj : j < xs.length := by omega
    refine ⟨q, xs, _, xs[j], rfl, rfl, draw_ok.seq hq npq, atI_nat (List.getElem?_eq_getElem hj), ?_⟩
    exact k _ _ (List.getElem_mem hj) draw_ok
/-- a letter -/
def spLetter : Sp := fun vs H Q _ => ∃ (p : Addr), vs = [.ref p] ∧ CupAt H p ∧ ∀ (c : Nat) H', c ∈ ("abcdefghijklmnopqrstuvwxyz" : Str).cps.toList → Drawn p H H' → Q (.str ⟨#[c]⟩) H'
theorem ok_letter {a aS : Addr} {fd fdS : FuncData} (T : Txt mg) (D : Df K mg "_law_letter" s__law_letter p__law_letter a fd) (DS : Df K mg "_law_sip" s__law_sip p__law_sip aS fdS) :
    FnOk P w K mg base CX0 2 a fd p__law_letter spLetter := by
  have GS : FnOk P w K mg base CX0 1 aS fdS p__law_sip spSip := ok_sip T DS
  refine D.F.ok c__law_letter (fun vs H Q E h => ?_) (fun cdv A outer s H vs Q E hr h => ?_)
  · obtain ⟨p, rfl, _⟩ := h
    rfl
  · obtain ⟨p, rfl, hp, k⟩ := h
    refine ⟨_, pss_one (ps_ret (pe_ix ix_str pe_str (dcall DS GS hr (pa_cons (pv 0) (pa_cons pe_int pa_nil))) (fun _ _ => rfl))), ?_⟩
    refine ⟨_, rfl, p, _, rfl, (by show (0 : Int) < 26; decide), (by decide +kernel), hp, fun r a b c r0 rn => ?_⟩
    obtain ⟨j, rfl⟩ := Int.eq_ofNat_of_zero_le r0
    have hz : ("abcdefghijklmnopqrstuvwxyz" : Str).cps.toList.length = 26 := by decide +kernel
    have hj : j < ("abcdefghijklmnopqrstuvwxyz" : Str).cps.toList.length := by omega
    refine ⟨_, _, ("abcdefghijklmnopqrstuvwxyz" : Str).cps.toList[j], rfl, rfl, (by decide +kernel), atI_nat (List.getElem?_eq_getElem hj), ?_⟩
    exact k _ _ (List.getElem_mem hj) draw_ok
/-! ### is_whole, is_integer, is_name -/
theorem ok_whole {a : Addr} {fd : FuncData} (T : Txt mg) (D : Df K mg "is_whole" s_is_whole p_is_whole a fd) : FnOk P w K mg base CX0 1 a fd p_is_whole (spTells wholeV) := by
  refine D.F.ok c_is_whole (fun vs H Q E h => ?_) (fun cdv A outer s H vs Q E hr h => ?_)
  · obtain ⟨v, rfl, _⟩ := h
    rfl
  · obtain ⟨v, rfl, g, q⟩ := h
    obtain ⟨⟨t1, y1, e1⟩, ⟨t2, y2, e2⟩, _⟩ := g.kit (K := K)
    refine ⟨_, pss_one (ps_ret (pe_and (pe_callB call_isi (by rfl) T.b_isinstance boot_isinstance (pa_cons (pv 0) (pa_cons (pe_bltn (v := .ty "int") (by rfl) T.b_int boot_int rfl) pa_nil)))
      (pe_one (pe_not (pe_callB call_isi (by rfl) T.b_isinstance boot_isinstance (pa_cons (pv 0) (pa_cons (pe_bltn (v := .ty "bool") (by rfl) T.b_bool boot_bool rfl) pa_nil))))))), ?_⟩
    refine ⟨v, rfl, v, .ty "int", t1, _, isInt v, rfl, .ty "int", y1, e1, isInt v, rfl, ite2 (fun h1 => ?_) (fun h1 => ?_)⟩
    · refine ⟨v, rfl, v, .ty "bool", t2, _, isBool v, rfl, .ty "bool", y2, e2, isBool v, rfl, ?_⟩
      have e : (!isBool v) = wholeV v := by
        cases v <;> first | rfl | exact absurd (show false = true from h1) Bool.false_ne_true
      rw [e]
      exact q H (.refl _)
    · have e : false = wholeV v := by
        cases v <;> first | rfl | exact absurd rfl h1
      rw [e]
      exact q H (.refl _)
theorem ok_integer {a a1 : Addr} {fd fd1 : FuncData} (T : Txt mg) (D : Df K mg "is_integer" s_is_integer p_is_integer a fd) (D1 : Df K mg "is_whole" s_is_whole p_is_whole a1 fd1) :
    FnOk P w K mg base CX0 2 a fd p_is_integer (spTells integerV) := by
  have G1 : FnOk P w K mg base CX0 1 a1 fd1 p_is_whole (spTells wholeV) := ok_whole T D1
  refine D.F.ok c_is_integer (fun vs H Q E h => ?_) (fun cdv A outer s H vs Q E hr h => ?_)
  · obtain ⟨v, rfl, _⟩ := h
    rfl
  · obtain ⟨v, rfl, g, q⟩ := h
    obtain ⟨t, hB⟩ := T.k__INTEGER_BOUND
    refine ⟨_, pss_one (ps_ret (pe_and (dcall D1 G1 hr (pa_cons (pv 0) pa_nil)) (pe_one (pe_chain op_lt op_lt (pe_un un_neg (pe_glob (v := .int _) (by rfl) hB ⟨_, rfl⟩)) (pv 0) (pe_glob (v := .int _) (by rfl) hB ⟨_, rfl⟩))))), ?_⟩
    refine ⟨v, rfl, v, rfl, g, fun H1 s1 => ⟨wholeV v, rfl, ite2 (fun h1 => ?_) (fun h1 => ?_)⟩⟩
    · cases v with
      | int i =>
        have q1 := q H1 s1
        have e : integerV (.int i) = (decide (-1000000000000000000000000000000000000000000000000000000000000 < i) && decide (i < 1000000000000000000000000000000000000000000000000000000000000)) := rfl
        rw [e] at q1
        refine ⟨_, rfl, _, rfl, _, _, rfl, rfl, _, rfl, ite2 (fun h2 => ?_) (fun h2 => ?_)⟩
        · rw [h2, Bool.true_and] at q1
          exact ⟨_, _, rfl, rfl, q1⟩
        · rw [Bool.eq_false_iff.mpr h2, Bool.false_and] at q1
          exact q1
      | _ => exact absurd (show false = true from h1) Bool.false_ne_true
    · have e : false = integerV v := by
        cases v <;> first | rfl | exact absurd rfl h1
      rw [e]
      exact q H1 s1
theorem ok_name {a : Addr} {fd : FuncData} (T : Txt mg) (D : Df K mg "is_name" s_is_name p_is_name a fd) : FnOk P w K mg base CX0 1 a fd p_is_name (spTells nameV) := by
  refine D.F.ok c_is_name (fun vs H Q E h => ?_) (fun cdv A outer s H vs Q E hr h => ?_)
  · obtain ⟨v, rfl, _⟩ := h
    rfl
  · obtain ⟨v, rfl, g, q⟩ := h
    obtain ⟨_, _, ⟨t1, y1, e1⟩⟩ := g.kit (K := K)
    obtain ⟨t, hL⟩ := T.k__LETTERS
    obtain ⟨u, hM⟩ := T.k_MAX_LETTERS
    have nd := c_is_name.nd
    refine ⟨_, pss_cons (ps_if (PW.pt (pw_or (pt_not (pt_val (pe_callB call_isi (by rfl) T.b_isinstance boot_isinstance (pa_cons (pv 0) (pa_cons (pe_bltn (v := .ty "str") (by rfl) T.b_str boot_str rfl) pa_nil)))))
        (pw_or1 (pt_not (pt_chain op_le op_le pe_int (pe_callB call_len_str (by rfl) T.b_len PySem.boot_len (pa_cons (pv 0) pa_nil)) (pe_glob (v := .int _) (by rfl) hM ⟨_, rfl⟩)))))) (pss_one (ps_ret pe_bl)) pss_nil)
      (pss_one (ps_ret (pe_callB (cr_all rfl) (by rfl) T.b_all boot_all (pa_cons (pe_lc (own := [("letter", 1)]) (g := gName 1) (tt := tYes) rfl nd (pi_str (pv 0)) (blkOk_by (own := [("letter", 1)]) (N := n_is_name) (sc := defScope s_is_name) (by decide +kernel))
        (fun _ _ _ _ _ => pg_name (i := 1) nd rfl (Or.inl rfl)) (fun _ _ _ _ _ => pts_nil) (fun _ _ _ _ _ => pe_cmpR op_in_sign (pv 1) (pe_glob (v := .str _) (by rfl) hL ⟨_, rfl⟩) (by rfl))) pa_nil)))), ?_⟩
    refine ⟨v, rfl, v, .ty "str", t1, _, isStr v, rfl, .ty "str", y1, e1, isStr v, rfl, ite2 (fun h1 => ?_) (fun h1 => ?_)⟩
    · have e : false = nameV v := by
        cases v <;> first | rfl | exact absurd (show false = true from h1) Bool.false_ne_true
      refine iteT ?_
      show Q (.bl false) H
      rw [e]
      exact q H (.refl _)
    · cases g with
      | str z hz hk =>
        have hz2 : z.length ≤ sizeLine := Nat.le_trans hz (by decide)
        have en : nameV (.str z) = (decide (1 ≤ z.length) && decide (z.length ≤ 8) && z.cps.toList.all (fun c => decide (c ∈ letters))) := rfl
        have no : nameV (.str z) = false → Q (.bl false) H := fun e => by
          rw [← e]
          exact q H (.refl _)
        refine ⟨_, rfl, z, rfl, hz2, _, _, rfl, rfl, _, rfl, ite2 (fun h1 => ?_) (fun h1 => ?_)⟩
        · refine ⟨_, _, rfl, rfl, _, rfl, ite2 (fun h2 => ?_) (fun h2 => ?_)⟩
          · refine no ?_
            have h3 : ¬ z.length ≤ 8 := fun z8 => by
              rw [decide_eq_true (show (z.length : Int) ≤ 8 by omega)] at h2
              exact Bool.false_ne_true h2
            rw [en, decide_eq_false h3, Bool.and_false, Bool.false_and]
          · have h3 : z.length ≤ 8 := by
              by_cases z8 : z.length ≤ 8
              · exact z8
              · rw [decide_eq_false (show ¬ (z.length : Int) ≤ 8 by omega)] at h2
                exact absurd rfl h2
            have h0 : 1 ≤ z.length := by
              have := of_decide_eq_true h1
              omega
            refine ⟨_, rfl, z, rfl, fun Ad nA => lc_it walk_str (fun i H2 => H2 = upd H Ad (.lst (((z.cps.toList.take i).map fun c => decide (c ∈ letters)).map V.bl))) rfl (fun _ _ _ _ => trivial) (fun i x H1 H2 hi hP hY => ?_) (fun H1 hP => ?_)⟩
            · obtain ⟨rfl, c, hc, rfl⟩ := hY
              subst hP
              have hc2 : z.cps.toList[i]? = some c := by
                rw [Array.getElem?_toList]
                exact hc
              refine ⟨rfl, ?_⟩
              refine ⟨_, rfl, c, _, rfl, rfl, _, upd_same, ?_, ?_⟩
              · rw [List.length_map, List.length_map, List.length_take]
                have : min i z.cps.toList.length ≤ 8 := Nat.le_trans (Nat.min_le_right _ _) h3
                exact small1000 (by omega)
              · rw [upd_upd, List.take_add_one, hc2, List.map_append, List.map_append]
                rfl
            · subst hP
              refine ⟨Ad, _, rfl, .inl (.inl upd_same), ?_⟩
              have e : nameV (.str z) = ((z.cps.toList.take z.cps.size).map fun c => decide (c ∈ letters)).all id := by
                rw [en, decide_eq_true h0, decide_eq_true h3, take_all (by rw [cps_len]; exact Nat.le_refl _), List.all_map]
                rfl
              rw [← e]
              exact q _ (same_new nA)
        · refine ⟨_, rfl, iteT (no ?_)⟩
          have h3 : ¬ 1 ≤ z.length := fun z8 => h1 (decide_eq_true (by omega))
          rw [en, decide_eq_false h3, Bool.false_and, Bool.false_and]
      | _ => exact absurd rfl h1
/-! ### the law's own tests -/
theorem ok_lname {a : Addr} {fd : FuncData} (T : Txt mg) (D : Df K mg "_law_is_name" s__law_is_name p__law_is_name a fd) : FnOk P w K mg base CX0 1 a fd p__law_is_name (spTells nameV) := by
  refine D.F.ok c__law_is_name (fun vs H Q E h => ?_) (fun cdv A outer s H vs Q E hr h => ?_)
  · obtain ⟨v, rfl, _⟩ := h
    rfl
  · obtain ⟨v, rfl, g, q⟩ := h
    obtain ⟨_, _, ⟨t1, y1, e1⟩⟩ := g.kit (K := K)
    have nd := c__law_is_name.nd
    refine ⟨_, pss_cons (ps_if (PW.pt (pw_or (pt_not (pt_val (pe_callB call_isi (by rfl) T.b_isinstance boot_isinstance (pa_cons (pv 0) (pa_cons (pe_bltn (v := .ty "str") (by rfl) T.b_str boot_str rfl) pa_nil)))))
        (pw_or (pt_cmpR op_eq (pe_callB call_len_str (by rfl) T.b_len PySem.boot_len (pa_cons (pv 0) pa_nil)) pe_int (nomark _)) (pw_or1 (pt_cmpR op_gt (pe_callB call_len_str (by rfl) T.b_len PySem.boot_len (pa_cons (pv 0) pa_nil)) pe_int (nomark _))))))
        (pss_one (ps_ret pe_bl)) pss_nil)
      (pss_one (ps_ret (pe_cmpR (op_eqD hr.units) (pe_lc (own := [("sign", 1)]) (g := gName 1) rfl nd (pi_str (pv 0)) (blkOk_by (own := [("sign", 1)]) (N := n__law_is_name) (sc := defScope s__law_is_name) (by decide +kernel))
        (fun _ _ _ _ _ => pg_name (i := 1) nd rfl (Or.inl rfl)) (fun _ _ _ _ _ => pts_one (pt_cmpR op_notIn_sign (pv 1) pe_str (by rfl))) (fun _ _ _ _ _ => pv 1)) (pe_lst pa_nil) (nomark _)))), ?_⟩
    refine ⟨v, rfl, v, .ty "str", t1, _, isStr v, rfl, .ty "str", y1, e1, isStr v, rfl, ite2 (fun h1 => ?_) (fun h1 => ?_)⟩
    · have e : false = nameV v := by
        cases v <;> first | rfl | exact absurd (show false = true from h1) Bool.false_ne_true
      refine iteT ?_
      show Q (.bl false) H
      rw [e]
      exact q H (.refl _)
    · cases g with
      | str z hz hk =>
        have hz2 : z.length ≤ sizeLine := Nat.le_trans hz (by decide)
        have en : nameV (.str z) = (decide (1 ≤ z.length) && decide (z.length ≤ 8) && z.cps.toList.all (fun c => decide (c ∈ letters))) := rfl
        have no : nameV (.str z) = false → Q (.bl false) H := fun e => by
          rw [← e]
          exact q H (.refl _)
        refine ⟨_, rfl, z, rfl, hz2, rfl, _, rfl, ite2 (fun h1 => ?_) (fun h1 => ?_)⟩
        · refine iteT (no ?_)
          have h0 : V.int (z.length : Int) = V.int 0 := of_decide_eq_true h1
          have h0' : (z.length : Int) = 0 := V.int.inj h0
          rw [en, decide_eq_false (by omega), Bool.false_and, Bool.false_and]
        · have h0 : 1 ≤ z.length := by
            by_cases e : z.length = 0
            · exact absurd (decide_eq_true (by rw [e]; rfl)) h1
            · omega
          refine ⟨_, rfl, z, rfl, hz2, _, _, rfl, rfl, _, rfl, ite2 (fun h2 => ?_) (fun h2 => ?_)⟩
          · have h8 : (8 : Int) < (z.length : Int) := of_decide_eq_true h2
            refine no ?_
            rw [en, decide_eq_false (show ¬ z.length ≤ 8 by omega), Bool.and_false, Bool.false_and]
          · have h8 : z.length ≤ 8 := by
              by_cases e : z.length ≤ 8
              · exact e
              · exact absurd (decide_eq_true (show (8 : Int) < (z.length : Int) by omega)) h2
            let fl : List Nat → List Nat := fun l => l.filter fun c => !decide (c ∈ letters)
            refine ⟨_, rfl, z, rfl, fun Ad nA => lc_it walk_str (fun i H2 => H2 = upd H Ad (.lst ((fl (z.cps.toList.take i)).map fun c => V.str ⟨#[c]⟩))) rfl (fun _ _ _ _ => trivial) (fun i x H1 H2 hi hP hY => ?_) (fun H1 hP => ?_)⟩
            · obtain ⟨rfl, c, hc, rfl⟩ := hY
              subst hP
              have hc2 : z.cps.toList[i]? = some c := by
                rw [Array.getElem?_toList]
                exact hc
              refine ⟨rfl, _, rfl, c, _, rfl, rfl, _, rfl, ite2 (fun h3 => ?_) (fun h3 => ?_)⟩
              · refine ⟨_, rfl, _, upd_same, ?_, ?_⟩
                · rw [List.length_map]
                  have : (fl (z.cps.toList.take i)).length ≤ (z.cps.toList.take i).length := List.length_filter_le _ _
                  have : (z.cps.toList.take i).length ≤ 8 := by
                    rw [List.length_take]
                    exact Nat.le_trans (Nat.min_le_right _ _) h8
                  exact small1000 (by omega)
                · show upd (upd H Ad _) Ad _ = upd H Ad (.lst ((fl (z.cps.toList.take (i + 1))).map fun c => V.str ⟨#[c]⟩))
                  rw [upd_upd, List.take_add_one, hc2]
                  show _ = upd H Ad (.lst (((z.cps.toList.take i ++ [c]).filter fun c => !decide (c ∈ letters)).map fun c => V.str ⟨#[c]⟩))
                  rw [List.filter_append, List.filter_cons_of_pos (p := fun c => !decide (c ∈ letters)) h3, List.map_append]
                  rfl
              · show upd H Ad _ = upd H Ad (.lst ((fl (z.cps.toList.take (i + 1))).map fun c => V.str ⟨#[c]⟩))
                rw [List.take_add_one, hc2]
                show _ = upd H Ad (.lst (((z.cps.toList.take i ++ [c]).filter fun c => !decide (c ∈ letters)).map fun c => V.str ⟨#[c]⟩))
                rw [List.filter_append, List.filter_cons_of_neg (p := fun c => !decide (c ∈ letters)) h3]
                show upd H Ad (.lst ((fl (z.cps.toList.take i)).map _)) = upd H Ad (.lst ((fl (z.cps.toList.take i) ++ []).map _))
                rw [List.append_nil]
            · subst hP
              refine ⟨Nat.zero_le _, fun Bd nB => ?_⟩
              have nAB : Ad ≠ Bd := ne_of_none upd_same nB
              let ks := fl (z.cps.toList.take z.cps.size)
              refine ⟨.list (ks.map fun c => PyData.str ⟨#[c]⟩), .list [], .lst (xs := ks.map fun c => V.str ⟨#[c]⟩) (.inl (.inl (by rw [upd_ne nAB]; exact upd_same))) (dp_strs ks), .lst (.inl (.inl upd_same)) .nil, shaped_strs ks (fun c hc => hk c (List.mem_of_mem_take (List.mem_filter.mp hc).1)), rfl, ?_⟩
              have e : nameV (.str z) = PyData.eqv (.list (ks.map fun c => PyData.str ⟨#[c]⟩)) (.list []) := by
                have e1 : z.cps.toList.all (fun c => decide (c ∈ letters)) = ks.isEmpty := by
                  show _ = (fl (z.cps.toList.take z.cps.size)).isEmpty
                  rw [take_all (by rw [cps_len]; exact Nat.le_refl _)]
                  exact all_filter _ _
                rw [en, decide_eq_true h0, decide_eq_true h8, e1]
                cases ks with
                | nil => rfl
                | cons c r => rfl
              rw [← e]
              exact q _ ((same_new nA).trans (same_new nB))
      | _ => exact absurd rfl h1
theorem ok_short {a : Addr} {fd : FuncData} (T : Txt mg) (D : Df K mg "_law_is_short" s__law_is_short p__law_is_short a fd) : FnOk P w K mg base CX0 1 a fd p__law_is_short (spTells integerV) := by
  refine D.F.ok c__law_is_short (fun vs H Q E h => ?_) (fun cdv A outer s H vs Q E hr h => ?_)
  · obtain ⟨v, rfl, _⟩ := h
    rfl
  · obtain ⟨v, rfl, g, q⟩ := h
    obtain ⟨⟨t1, y1, e1⟩, ⟨t2, y2, e2⟩, _⟩ := g.kit (K := K)
    refine ⟨_, pss_one (ps_ret (pe_and (pe_callB call_isi (by rfl) T.b_isinstance boot_isinstance (pa_cons (pv 0) (pa_cons (pe_bltn (v := .ty "int") (by rfl) T.b_int boot_int rfl) pa_nil)))
      (pe_and (pe_not (pe_callB call_isi (by rfl) T.b_isinstance boot_isinstance (pa_cons (pv 0) (pa_cons (pe_bltn (v := .ty "bool") (by rfl) T.b_bool boot_bool rfl) pa_nil))))
      (pe_and (pe_cmpR op_lt (pe_op op_sub pe_int (pe_op op_pow pe_int pe_int)) (pv 0) (nomark _)) (pe_one (pe_cmpR op_lt (pv 0) (pe_op op_pow pe_int pe_int) (nomark _))))))), ?_⟩
    refine ⟨v, rfl, v, .ty "int", t1, _, isInt v, rfl, .ty "int", y1, e1, isInt v, rfl, ite2 (fun h1 => ?_) (fun h1 => ?_)⟩
    · refine ⟨v, rfl, v, .ty "bool", t2, _, isBool v, rfl, .ty "bool", y2, e2, isBool v, rfl, _, rfl, ite2 (fun h2 => ?_) (fun h2 => ?_)⟩
      · cases v with
        | int i =>
          have q1 := q H (.refl _)
          have e : integerV (.int i) = (decide (-1000000000000000000000000000000000000000000000000000000000000 < i) && decide (i < 1000000000000000000000000000000000000000000000000000000000000)) := rfl
          rw [e] at q1
          refine ⟨_, _, rfl, rfl, ⟨by decide, by decide, by decide⟩, _, _, rfl, rfl, _, rfl, _, _, rfl, rfl, _, rfl, ite2 (fun h3 => ?_) (fun h3 => ?_)⟩
          · have h3' : decide (-1000000000000000000000000000000000000000000000000000000000000 < i) = true := h3
            rw [h3', Bool.true_and] at q1
            exact ⟨_, rfl, _, _, rfl, rfl, ⟨by decide, by decide, by decide⟩, _, _, rfl, rfl, q1⟩
          · have h3' : ¬ decide (-1000000000000000000000000000000000000000000000000000000000000 < i) = true := h3
            rw [Bool.eq_false_iff.mpr h3', Bool.false_and] at q1
            exact q1
        | bl b => exact absurd (show false = true from h2) Bool.false_ne_true
        | _ => exact absurd (show false = true from h1) Bool.false_ne_true
      · have e : false = integerV v := by
          cases v with
          | int i => exact absurd rfl h2
          | _ => rfl
        rw [e]
        exact q H (.refl _)
    · have e : false = integerV v := by
        cases v with
        | int i => exact absurd rfl h1
        | _ => rfl
      rw [e]
      exact q H (.refl _)
/-! ### what the law draws -/
def spNumbers : Sp := fun vs H Q _ => ∃ (p : Addr) (c : Int), vs = [.ref p, .int c] ∧ CupAt H p ∧
  ∀ (q : Addr) (H' : Hp) (ns : List Int), ns.length = 10 → Drawn p H H' → H q = none → q ≠ p → H' q = some (.lst (ns.map V.int)) → Q (.ref q) H'
theorem ok_numbers {a aS : Addr} {fd fdS : FuncData} (T : Txt mg) (D : Df K mg "_law_numbers" s__law_numbers p__law_numbers a fd) (DS : Df K mg "_law_sip" s__law_sip p__law_sip aS fdS) :
    FnOk P w K mg base CX0 2 a fd p__law_numbers spNumbers := by
  have GS : FnOk P w K mg base CX0 1 aS fdS p__law_sip spSip := ok_sip T DS
  refine D.F.ok c__law_numbers (fun vs H Q E h => ?_) (fun cdv A outer s H vs Q E hr h => ?_)
  · obtain ⟨p, c, rfl, _⟩ := h
    rfl
  · obtain ⟨p, c, rfl, hp, k⟩ := h
    have nd := c__law_numbers.nd
    have po : ∀ {X : Cx}, OpR X (binaryOp .Pow) _ := fun {X} => op_pow (X := X)
    refine ⟨_, pss_cons (ps_par (by rfl) nd (i := 2) (j := 3) rfl rfl (by decide) rfl rfl (pa_cons (pe_op op_mod (pe_callTy call_int1 (by rfl) T.b_int boot_int (pa_cons (pv 1) pa_nil)) (pe_op op_mulW (pe_op op_pow pe_int pe_int) (pe_op op_pow pe_int pe_int)))
        (pa_cons (pe_op op_sub (pe_op op_add (pe_op op_pow pe_int pe_int) (dcall DS GS hr (pa_cons (pv 0) (pa_cons pe_int pa_nil)))) pe_int) pa_nil)) (by rfl))
      (pss_one (ps_ret (pe_lst (pa_cons (pv 2) (pa_cons (pe_op op_sub pe_int (pv 2)) (pa_cons (pv 3) (pa_cons (pe_op op_sub pe_int (pv 3)) (pa_cons (pe_op op_pow pe_int pe_int) (pa_cons (pe_op op_sub pe_int (pe_op op_pow pe_int pe_int))
        (pa_cons (pe_op op_sub (pe_op op_pow pe_int pe_int) pe_int) (pa_cons (pe_op op_sub pe_int (pe_op op_pow pe_int pe_int)) (pa_cons pe_int (pa_cons (pe_op op_sub pe_int pe_int) pa_nil))))))))))))), ?_⟩
    have c60 : CPow 10 60 := ⟨by decide, by decide, by decide⟩
    have c30 : CPow 10 30 := ⟨by decide, by decide, by decide⟩
    refine ⟨_, rfl, .inl ⟨_, rfl, _, _, rfl, rfl, c60, _, _, rfl, rfl, c30, _, _, rfl, rfl, (by show Nat.log2 _ + Nat.log2 _ < 1000000; decide +kernel), _, _, rfl, rfl, (by show (0 : Int) < _; decide +kernel), ?_⟩⟩
    refine ⟨_, _, rfl, rfl, c60, _, rfl, p, _, rfl, (by show (0 : Int) < 5; decide), (by decide +kernel), hp, fun r a b d r0 rn => ?_⟩
    refine ⟨_, _, rfl, rfl, _, _, rfl, rfl, _, _, rfl, ?_⟩
    refine ⟨_, rfl, _, rfl, _, _, rfl, rfl, _, rfl, _, rfl, _, _, rfl, rfl, _, _, rfl, rfl, c60, _, _, rfl, rfl, c60, _, _, rfl, rfl, _, _, rfl, rfl, c60, _, _, rfl, rfl, _, _, rfl, rfl, c60, _, _, rfl, rfl, _, _, rfl, rfl, ?_⟩
    refine ⟨(by show 10 ≤ sizeLine; decide), fun q nq => ?_⟩
    have nqp : q ≠ p := (ne_of_none upd_same nq).symm
    refine k q _ [_, _, _, _, _, _, _, _, _, _] rfl (draw_ok.new nq) ?_ nqp upd_same
    rw [upd_ne nqp] at nq
    exact nq
def spTexts : Sp := fun vs H Q _ => ∃ (p : Addr), vs = [.ref p] ∧ CupAt H p ∧
  ∀ (q : Addr) (H' : Hp) (zs : List Str), zs.length = 12 → (∀ z ∈ zs, OkT 100 z) → Drawn p H H' → H q = none → q ≠ p → H' q = some (.lst (zs.map V.str)) → Q (.ref q) H'
def odds : List Str := ["A", "Z", "7", " ", "_", "\n", "@", "?", "`", "{", ".", "*"]
theorem odds_ok : ∀ z ∈ odds, OkT 1 z := by
  intro z hz
  have h : odds.all (fun z => decide (z.length ≤ 1) && z.cps.toList.all fun c => decide (c < 1114112)) = true := by decide +kernel
  have h1 := List.all_eq_true.mp h z hz
  rw [Bool.and_eq_true] at h1
  exact ⟨of_decide_eq_true h1.1, fun c hc => of_decide_eq_true (List.all_eq_true.mp h1.2 c hc)⟩
theorem ok_texts {a aS aE aL : Addr} {fd fdS fdE fdL : FuncData} (T : Txt mg) (D : Df K mg "_law_texts" s__law_texts p__law_texts a fd) (DS : Df K mg "_law_sip" s__law_sip p__law_sip aS fdS)
    (DE : Df K mg "_law_select" s__law_select p__law_select aE fdE) (DL : Df K mg "_law_letter" s__law_letter p__law_letter aL fdL) : FnOk P w K mg base CX0 3 a fd p__law_texts spTexts := by
  have GS : FnOk P w K mg base CX0 1 aS fdS p__law_sip spSip := ok_sip T DS
  have GE : FnOk P w K mg base CX0 2 aE fdE p__law_select (spSelect K) := ok_select T DE DS
  have GL : FnOk P w K mg base CX0 2 aL fdL p__law_letter spLetter := ok_letter T DL DS
  refine D.F.ok c__law_texts (fun vs H Q E h => ?_) (fun cdv A outer s H vs Q E hr h => ?_)
  · obtain ⟨p, rfl, _⟩ := h
    rfl
  · obtain ⟨p, rfl, hp, k⟩ := h
    have nd := c__law_texts.nd
    have hr1 : Room 1 (A.deeper (envOfC "_law_texts" (defScope s__law_texts) s.heap.objs.size a cdv)) := hr.mono (by decide)
    refine ⟨_, pss_cons (ps_set (i := 1) nd rfl (.inl rfl) (pe_lst pa_nil))
      (pss_cons (ps_for PassesOwn.never rfl (pi_range1 rfl T.b_range (pa_cons pe_int pa_nil)) (pg_name (i := 2) nd rfl (Or.inl rfl))
        (pss_cons (ps_set (i := 3) nd rfl (.inl rfl) (pe_join pe_str (pe_lc (own := [("at", 6)]) (g := gName 6) (tt := tYes) rfl nd (pi_range1 rfl T.b_range (pa_cons (dcall DS GS hr1 (pa_cons (pv 0) (pa_cons pe_int pa_nil))) pa_nil))
            (blkOk_by (own := [("at", 6)]) (N := n__law_texts) (sc := defScope s__law_texts) (by decide +kernel)) (fun _ _ _ _ _ => pg_name (i := 6) nd rfl (Or.inl rfl)) (fun _ _ _ _ _ => pts_nil) (fun _ _ _ _ _ => dcall DL GL hr (pa_cons (pv 0) pa_nil)))))
        (pss_cons (ps_set (i := 4) nd rfl (.inl rfl) (dcall DS GS hr1 (pa_cons (pv 0) (pa_cons (pe_op op_add (pe_callB call_len_str (by rfl) T.b_len PySem.boot_len (pa_cons (pv 3) pa_nil)) pe_int) pa_nil))))
        (pss_cons (ps_set (i := 5) nd rfl (.inl rfl) (dcall DE GE hr (pa_cons (pv 0) (pa_cons (pe_lst (pa_cons pe_str (pa_cons pe_str (pa_cons pe_str (pa_cons pe_str (pa_cons pe_str (pa_cons pe_str (pa_cons pe_str (pa_cons pe_str (pa_cons pe_str (pa_cons pe_str (pa_cons pe_str (pa_cons pe_str pa_nil))))))))))))) pa_nil))))
        (pss_one (ps_set (i := 1) nd rfl (.inl rfl) (pe_op op_cat (pv 1) (pe_lst (pa_cons (pv 3) (pa_cons (pe_op op_add_str (pe_op op_add_str (pe_slice sl_str (pv 3) po_none (po_some (pv 4))) (pv 5)) (pe_slice sl_str (pv 3) (po_some (pv 4)) po_none))
          (pa_cons (pe_op op_add_str (pe_op op_add_str (pe_slice sl_str (pv 3) po_none (po_some (pv 4))) (pv 5)) (pe_slice sl_str (pv 3) (po_some (pe_op op_add (pv 4) pe_int)) po_none)) pa_nil)))))))))))
      (pss_one (ps_ret (pv 1)))), ?_⟩
    refine ⟨Nat.zero_le _, fun q nq => ?_⟩
    obtain ⟨ca, cb, cc, hcup⟩ := id hp
    have nqp : q ≠ p := (ne_of_none hcup nq).symm
    refine ⟨4, rfl, by decide, by decide, for_range (n := 4) (fun i σ H3 => ∃ (q : Addr) (zs : List Str) (y2 y3 y4 y5 y6 : Option V), σ = [some (.ref p), some (.ref q), y2, y3, y4, y5, y6] ∧ zs.length = 3 * i ∧ (∀ z ∈ zs, OkT 100 z) ∧ Drawn p H H3 ∧ H q = none ∧ q ≠ p ∧ H3 q = some (.lst (zs.map V.str)))
      ⟨q, [], _, _, _, _, _, rfl, rfl, fun z hz => absurd hz List.not_mem_nil, (Drawn.here hp).new nq, nq, nqp, upd_same⟩ (fun i σ H3 hi hP => ?_) (fun σ H3 hP => ?_)⟩
    · obtain ⟨q, zs, y2, y3, y4, y5, y6, rfl, hz, hok, dr, nq, nqp, hq⟩ := hP
      obtain ⟨cx, cy, cz, hcx⟩ := dr.cup
      refine ⟨⟨_, rfl⟩, ?_⟩
      refine ⟨_, rfl, p, 11, rfl, by decide, by decide +kernel, ⟨cx, cy, cz, hcx⟩, fun r ua ub uc r0 rn => ⟨r, rfl, by omega, by omega, fun Ad nA => ?_⟩⟩
      have dr4 : Drawn p H3 (upd H3 p (.lst [.int ua, .int ub, .int uc])) := draw_ok
      obtain ⟨nA3, nAp⟩ := dr4.none nA
      obtain ⟨nAH, _⟩ := dr.none nA3
      refine lc_range (lo := 0) (n := r.toNat) (fun i H5 => ∃ cs : List Nat, cs.length = i ∧ (∀ c ∈ cs, c < 1114112) ∧ Drawn p H3 H5 ∧ H5 Ad = some (.lst ((cs.map fun c => (⟨#[c]⟩ : Str)).map V.str)))
        ⟨[], rfl, fun c hc => absurd hc List.not_mem_nil, dr4.new nA, upd_same⟩ (fun i H5 hi hP => ?_) (fun H5 hP => ?_)
      · obtain ⟨cs, hl, hcs, d5, hA⟩ := hP
        refine ⟨rfl, ?_⟩
        refine ⟨_, rfl, p, rfl, d5.cup, fun c H6 hc d6 => ⟨_, d6.at' hA nAp, ?_, cs ++ [c], ?_, ?_, ?_, ?_⟩⟩
        · rw [List.length_map, List.length_map]
          exact small1000 (by omega)
        · rw [List.length_append, hl]
          rfl
        · intro e he
          rcases List.mem_append.mp he with he | he
          · exact hcs e he
          · rw [List.mem_singleton.mp he]
            exact letters_small c hc
        · exact (d5.trans d6).set nA3 nAp
        · rw [upd_same, List.map_append, List.map_append]
          rfl
      · obtain ⟨cs, hl, hcs, d5, hA⟩ := hP
        have hj := okT_join hcs
        have hcl : cs.length ≤ 10 := by omega
        refine ⟨_, Ad, cs.map fun c => (⟨#[c]⟩ : Str), rfl, rfl, .inl (.inl (.inl hA)), ?_, ?_⟩
        · rw [sum_ones, List.length_map]
          have : (Str.ofString "").length = 0 := by decide +kernel
          rw [this]
          omega
        · generalize Txt.join (Str.ofString "") (cs.map fun c => (⟨#[c]⟩ : Str)) = tx at hj
          have hx : OkT 10 tx := hj.mono hcl
          have hxs : tx.length ≤ sizeLine := Nat.le_trans hx.len (by decide)
          refine ⟨_, rfl, _, rfl, tx, rfl, hxs, _, _, rfl, rfl, p, _, rfl, by omega, log_small (by have := hx.len; omega), d5.cup, fun r2 va vb vc s0 sn => ?_⟩
          have d6 : Drawn p H3 (upd H5 p (.lst [.int va, .int vb, .int vc])) := d5.trans draw_ok
          refine ⟨_, rfl, (by show 12 ≤ sizeLine; decide), fun Bd nB => ?_⟩
          obtain ⟨nB3, nBp⟩ := d6.none nB
          refine ⟨p, Bd, odds.map V.str, rfl, (d6.new nB).cup, .inl (.inl upd_same), nBp, by decide, by decide, fun v H7 hv d7 => ?_⟩
          obtain ⟨od, hod, rfl⟩ := List.mem_map.mp hv
          have ho := odds_ok od hod
          have d8 : Drawn p H3 H7 := (d6.new nB).trans d7
          have hq7 : H7 q = some (.lst (zs.map V.str)) := d8.at' hq nqp
          have z1 := hx.cut none (some r2)
          have z2 := hx.cut (some r2) none
          have z3 := hx.cut (some (r2 + 1)) none
          have z4 := z1.add ho
          have z5 := z4.add z2
          have z6 := z4.add z3
          have big : 1000 ≤ sizeLine := by decide
          refine ⟨_, rfl, _, rfl, _, rfl, _, rfl, r2, rfl, tx, rfl, hxs, _, rfl, _, _, rfl, rfl, ?_, _, rfl, _, rfl, r2, rfl, tx, rfl, hxs, _, _, rfl, rfl, ?_, _, rfl, _, rfl, r2, rfl, tx, rfl, hxs, _, rfl, _, _, rfl, rfl, ?_, _, rfl, _, rfl, _, _, rfl, rfl, _, rfl, tx, rfl, hxs, _, _, rfl, rfl, ?_, ?_⟩
          · have := z1.len; have := ho.len; omega
          · have := z4.len; have := z2.len; omega
          · have := z1.len; have := ho.len; omega
          · have := z4.len; have := z3.len; omega
          · refine ⟨(by show 3 ≤ sizeLine; decide), fun Cd nC => ?_⟩
            obtain ⟨nC3, nCp⟩ := d8.none nC
            have nCq : q ≠ Cd := ne_of_none hq7 nC
            refine ⟨q, Cd, zs.map V.str, [tx, cutS tx none (some r2) ++ od ++ cutS tx (some r2) none, cutS tx none (some r2) ++ od ++ cutS tx (some (r2 + 1)) none].map V.str, rfl, rfl, by rw [upd_ne nCq]; exact hq7, upd_same, ?_, fun Ed nE => ?_⟩
            · rw [List.length_map, List.length_map, hz]
              show 3 * i + 3 ≤ sizeLine
              omega
            · have d9 := d8.new (o := .lst ([tx, cutS tx none (some r2) ++ od ++ cutS tx (some r2) none, cutS tx none (some r2) ++ od ++ cutS tx (some (r2 + 1)) none].map V.str)) nC
              obtain ⟨nE3, nEp⟩ := d9.none nE
              obtain ⟨nEH, _⟩ := dr.none nE3
              refine ⟨Ed, zs ++ [tx, cutS tx none (some r2) ++ od ++ cutS tx (some r2) none, cutS tx none (some r2) ++ od ++ cutS tx (some (r2 + 1)) none], _, _, _, _, _, rfl, ?_, ?_, dr.trans (d9.new nE), nEH, nEp, ?_⟩
              · rw [List.length_append, hz]
                show 3 * i + 3 = 3 * (i + 1)
                omega
              · intro y hy
                rcases List.mem_append.mp hy with hy | hy
                · exact hok y hy
                · rcases List.mem_cons.mp hy with e | hy
                  · rw [e]; exact hx.mono (by decide)
                  · rcases List.mem_cons.mp hy with e | hy
                    · rw [e]; exact z5.mono (by decide)
                    · rw [List.mem_singleton.mp hy]; exact z6.mono (by decide)
              · rw [upd_same, List.map_append]
    · obtain ⟨q, zs, y2, y3, y4, y5, y6, rfl, hz, hok, dr, nq, nqp, hq⟩ := hP
      exact ⟨_, rfl, k q H3 zs hz hok dr nq nqp hq⟩
/-! ### one cell, and the law -/
def lawLevel : Nat := 5
def spCell (K : PySem.W.Frag) : Sp := fun vs H Q _ => ∃ (a : Addr) (ns : List Int) (i : Nat), vs = [.ref a, .int (i : Int)] ∧ SqL K H a (ns.map V.int) ∧ ∀ H', Same H H' → Q (.bl true) H'
def spLaw (K : PySem.W.Frag) : Sp := fun vs H Q _ => ∃ (a : Addr) (ns : List Int), vs = [.ref a] ∧ SqL K H a (ns.map V.int) ∧ ns.length ≤ 63 ∧ ∀ H', Q (.bl true) H'
theorem all_gv {H : Hp} {ns : List Int} {zs : List Str} {a1 a2 a4 a5 a6 a7 a8 : Addr} (okz : ∀ z ∈ zs, OkT 100 z) (g1 : ∃ xs, H a1 = some (.lst xs)) (g2 : ∃ xs, H a2 = some (.dK xs)) (g4 : ∃ xs, H a4 = some (.tup xs))
    (g5 : ∃ xs, H a5 = some (.tup xs)) (g6 : ∃ xs, H a6 = some (.tup xs)) (g7 : ∃ xs, H a7 = some (.lst xs)) (g8 : ∃ xs, H a8 = some (.dK xs)) :
    ∀ v ∈ (ns.map V.int ++ zs.map V.str) ++ [V.bl true, V.bl false, V.non, V.str "1", V.ref a1, V.ref a2, V.ref a4, V.ref a5, V.ref a6, V.ref a7, V.ref a8, V.str "abcdefgh", V.str "abcdefghi"], Gv H v := by
  intro v hv
  rcases List.mem_append.mp hv with hv | hv
  · rcases List.mem_append.mp hv with hv | hv
    · obtain ⟨n, _, rfl⟩ := List.mem_map.mp hv
      exact .int n
    · obtain ⟨z, hz, rfl⟩ := List.mem_map.mp hv
      exact (okz z hz).gv (by decide)
  · obtain ⟨_, g1⟩ := g1
    obtain ⟨_, g2⟩ := g2
    obtain ⟨_, g4⟩ := g4
    obtain ⟨_, g5⟩ := g5
    obtain ⟨_, g6⟩ := g6
    obtain ⟨_, g7⟩ := g7
    obtain ⟨_, g8⟩ := g8
    simp only [List.mem_cons, List.not_mem_nil, or_false] at hv
    rcases hv with rfl | rfl | rfl | rfl | rfl | rfl | rfl | rfl | rfl | rfl | rfl | rfl | rfl
    · exact .bl _
    · exact .bl _
    · exact .non
    · exact .str _ (by decide +kernel) (by decide +kernel)
    · exact .lst g1
    · exact .dK g2
    · exact .tup g4
    · exact .tup g5
    · exact .tup g6
    · exact .lst g7
    · exact .dK g8
    · exact .str _ (by decide +kernel) (by decide +kernel)
    · exact .str _ (by decide +kernel) (by decide +kernel)
theorem to_end {H H1 H3 Hf : Hp} {p : Addr} (np : H p = none) (s : Same H H1) (d : Kp p H1 H3) (u : Same H3 Hf) : Same H Hf :=
  fun b o hb => u _ _ (d _ _ (ne_of_none hb np) (s _ _ hb))
theorem two_shown (b c : Bool) : (PyData.list [.bool b, .bool c]).shown.length ≤ sizeLine := by
  cases b <;> cases c <;> decide +kernel
theorem ok_cell {a aC aI aW aN aS aE aL aU aT aM aR : Addr} {fd fdC fdI fdW fdN fdS fdE fdL fdU fdT fdM fdR : FuncData} (T : Txt mg) (D : Df K mg "_law_cell_right" s__law_cell_right p__law_cell_right a fd)
    (DC : Df K mg "_law_cup" s__law_cup p__law_cup aC fdC) (DI : Df K mg "is_integer" s_is_integer p_is_integer aI fdI) (DW : Df K mg "is_whole" s_is_whole p_is_whole aW fdW) (DN : Df K mg "is_name" s_is_name p_is_name aN fdN)
    (DS : Df K mg "_law_sip" s__law_sip p__law_sip aS fdS) (DE : Df K mg "_law_select" s__law_select p__law_select aE fdE) (DL : Df K mg "_law_letter" s__law_letter p__law_letter aL fdL)
    (DU : Df K mg "_law_numbers" s__law_numbers p__law_numbers aU fdU) (DT : Df K mg "_law_texts" s__law_texts p__law_texts aT fdT) (DM : Df K mg "_law_is_name" s__law_is_name p__law_is_name aM fdM) (DR : Df K mg "_law_is_short" s__law_is_short p__law_is_short aR fdR) :
    FnG P w K mg base 4 a fd p__law_cell_right (spCell K) := by
  have GC : FnOk P w K mg base CX0 1 aC fdC p__law_cup (spCup K) := ok_cup T DC
  have GI : FnOk P w K mg base CX0 2 aI fdI p_is_integer (spTells integerV) := ok_integer T DI DW
  have GN : FnOk P w K mg base CX0 1 aN fdN p_is_name (spTells nameV) := ok_name T DN
  have GU : FnOk P w K mg base CX0 2 aU fdU p__law_numbers spNumbers := ok_numbers T DU DS
  have GT : FnOk P w K mg base CX0 3 aT fdT p__law_texts spTexts := ok_texts T DT DS DE DL
  have GM : FnOk P w K mg base CX0 1 aM fdM p__law_is_name (spTells nameV) := ok_lname T DM
  have GR : FnOk P w K mg base CX0 1 aR fdR p__law_is_short (spTells integerV) := ok_short T DR
  refine okG D.F c__law_cell_right (fun vs H Q E h => ?_) (fun cdv A outer s H vs Q E hr gu h => ?_)
  · obtain ⟨a, ns, i, rfl, _⟩ := h
    rfl
  · obtain ⟨a, ns, i, rfl, hS, k⟩ := h
    have nd := c__law_cell_right.nd
    have hr1 : Room 1 _ := hr.mono (show 1 ≤ 3 by decide)
    have hr2 : Room 2 _ := hr.mono (show 2 ≤ 3 by decide)
    refine ⟨_, pss_cons (ps_par (by rfl) nd (i := 2) (j := 3) rfl rfl (by decide) rfl rfl (pa_cons (dcall DC GC hr1 (pa_cons (pv 0) (pa_cons (pv 1) pa_nil))) (pa_cons (pe_op op_add (pe_op op_mul pe_int (pv 1)) pe_int) pa_nil)) (by rfl))
      (pss_cons (ps_if (pt_cmpR op_lt (pv 1) (pe_callB call_len_seq (by rfl) T.b_len PySem.boot_len (pa_cons (pv 0) pa_nil)) (nomark _)) (pss_one (ps_set (i := 3) nd rfl (.inl rfl) (pe_ix ix_list (pv 0) (pv 1) (fun _ _ => rfl)))) pss_nil)
      (pss_cons (ps_set (i := 4) nd rfl (.inl rfl) (pe_op op_cat (dcall DU GU hr2 (pa_cons (pv 2) (pa_cons (pv 3) pa_nil))) (dcall DT GT hr (pa_cons (pv 2) pa_nil))))
      (pss_cons (ps_set (i := 4) nd rfl (.inl rfl) (pe_op op_cat (pv 4) (pe_lst (pa_cons pe_bl (pa_cons pe_bl (pa_cons pe_non (pa_cons pe_str (pa_cons (pe_lst pa_nil) (pa_cons pe_dnewK (pa_cons (pe_tup (pa_cons (pe_lst pa_nil) pa_nil)) (pa_cons (pe_tup (pa_cons pe_int pa_nil))
          (pa_cons (pe_tup (pa_cons pe_non pa_nil)) (pa_cons (pe_lst (pa_cons pe_int pa_nil)) (pa_cons (pe_disp (pps_cons pe_str pe_int pps_nil) (by rfl) (by rfl) (fun z => by cases z) (by decide)) (pa_cons pe_str (pa_cons pe_str pa_nil))))))))))))))))
      (pss_cons (ps_for PassesOwn.never rfl (pi_range1 rfl T.b_range (pa_cons pe_int pa_nil)) (pg_name (i := 5) nd rfl (Or.inl rfl))
        (pss_one (ps_for PassesOwn.never rfl (pi_list (pv 4)) (pg_name (i := 6) nd rfl (Or.inl rfl))
          (pss_cons (ps_set (i := 7) nd rfl (.inl rfl) (pe_lst (pa_cons (dcall DI GI hr2 (pa_cons (pv 6) pa_nil)) (pa_cons (dcall DN GN hr1 (pa_cons (pv 6) pa_nil)) pa_nil))))
          (pss_cons (ps_set (i := 8) nd rfl (.inl rfl) (pe_lst (pa_cons (dcall DR GR hr1 (pa_cons (pv 6) pa_nil)) (pa_cons (dcall DM GM hr1 (pa_cons (pv 6) pa_nil)) pa_nil))))
          (pss_one (ps_if (pt_cmpR op_ne (pe_callB (call_reprG gu hr.units) (by rfl) T.b_repr boot_repr (pa_cons (pv 7) pa_nil)) (pe_callB (call_reprG gu hr.units) (by rfl) T.b_repr boot_repr (pa_cons (pv 8) pa_nil)) (nomark _))
            (pss_one (ps_ret pe_bl)) pss_nil)))))))
      (pss_one (ps_ret pe_bl)))))), ?_⟩
    refine ⟨_, rfl, _, rfl, a, ns, i, rfl, hS, fun p H1 s1 np hcup => ?_⟩
    refine ⟨_, rfl, _, _, rfl, rfl, .inl ⟨by decide, by decide⟩, _, _, rfl, rfl, _, _, rfl, ?_⟩
    have hS1 := s1.seq hS
    refine ⟨_, rfl, _, rfl, a, _, rfl, .inl hS1, _, _, rfl, rfl, _, rfl, ite2 (fun e => ?_) (fun e => ?_)⟩
    have e1 : (i : Int) < ((ns.map V.int).length : Int) := of_decide_eq_true e
    have e2 : i < ns.length := by
      rw [List.length_map] at e1
      omega
    refine ⟨_, rfl, _, rfl, a, _, _, .int ns[i], rfl, rfl, hS1, atI_nat (by rw [List.getElem?_map, List.getElem?_eq_getElem e2]; rfl), ?_⟩
    all_goals
      refine ⟨_, rfl, _, rfl, p, _, rfl, hcup, fun q1 H2 ns1 l1 d2 nq1 nq1p hq1 => ?_⟩
      refine ⟨_, rfl, p, rfl, d2.cup, fun q2 H3 zs l2 okz d3 nq2 nq2p hq2 => ?_⟩
      have hq13 := d3.at' hq1 nq1p
      refine ⟨q1, q2, _, _, rfl, rfl, hq13, hq2, by rw [List.length_map, List.length_map, l1, l2]; decide, fun q3 nq3 => ?_⟩
      have d23 := d2.trans d3
      obtain ⟨nq31, nq3p⟩ := d23.none nq3
      refine ⟨_, rfl, Nat.zero_le _, fun a1 n1 a2 n2 => ⟨Nat.zero_le _, fun a3 n3 => ⟨(by show 1 ≤ sizeLine; decide), fun a4 n4 => ⟨(by show 1 ≤ sizeLine; decide), fun a5 n5 => ⟨(by show 1 ≤ sizeLine; decide), fun a6 n6 => ⟨(by show 1 ≤ sizeLine; decide), fun a7 n7 a8 n8 => ?_⟩⟩⟩⟩⟩⟩
      have u0 := same_new (o := HO.lst (ns1.map V.int ++ zs.map V.str)) nq3
      have u1 := same_new (o := HO.lst []) n1
      have u2 := same_new (o := HO.dK []) n2
      have u3 := same_new (o := HO.lst []) n3
      have u4 := same_new (o := HO.tup [V.ref a3]) n4
      have u5 := same_new (o := HO.tup [V.int 0]) n5
      have u6 := same_new (o := HO.tup [V.non]) n6
      have u7 := same_new (o := HO.lst [V.int 1]) n7
      refine ⟨upd_same, [(Sum.inr "a", V.int 1)], rfl, by decide, ?_⟩
      have u8 := same_new2 (o := HO.dK []) (u := HO.dK (mergeK [] [(Sum.inr "a", V.int 1)])) n8
      have nq3' := u1.trans (u2.trans (u3.trans (u4.trans (u5.trans (u6.trans (u7.trans u8))))))
      refine ⟨(by show 13 ≤ sizeLine; decide), fun q4 n4' => ?_⟩
      have u9 := same_new (o := HO.lst [V.bl true, V.bl false, V.non, V.str "1", V.ref a1, V.ref a2, V.ref a4, V.ref a5, V.ref a6, V.ref a7, V.ref a8, V.str "abcdefgh", V.str "abcdefghi"]) n4'
      refine ⟨q3, q4, _, _, rfl, rfl, u9 _ _ (nq3' _ _ upd_same), upd_same, ?_, fun q5 n5' => ?_⟩
      · rw [List.length_append, List.length_map, List.length_map, l1, l2]
        show 10 + 12 + 13 ≤ sizeLine
        decide
      have u10 := same_new (o := HO.lst ((ns1.map V.int ++ zs.map V.str) ++ [V.bl true, V.bl false, V.non, V.str "1", V.ref a1, V.ref a2, V.ref a4, V.ref a5, V.ref a6, V.ref a7, V.ref a8, V.str "abcdefgh", V.str "abcdefghi"])) n5'
      have f8 := u9.trans u10
      have f7 := u8.trans f8
      have f6 := u7.trans f7
      have f5 := u6.trans f6
      have f4 := u5.trans f5
      have f3 := u4.trans f4
      have f2 := u3.trans f3
      have f1 := u2.trans f2
      have allG := all_gv okz ⟨_, f1 _ _ upd_same⟩ ⟨_, f2 _ _ upd_same⟩ ⟨_, f4 _ _ upd_same⟩ ⟨_, f5 _ _ upd_same⟩ ⟨_, f6 _ _ upd_same⟩ ⟨_, f7 _ _ upd_same⟩ ⟨_, f8 _ _ upd_same⟩ (ns := ns1)
      have toEnd := to_end np s1 d23.kp (u0.trans (u1.trans f1))
      refine ⟨2, rfl, by decide, by decide, for_range (n := 2) (fun _ σ H5 => ∃ (y2 y3 y5 y6 y7 y8 : Option V) (xs : List V), σ = [some (.ref a), some (.int (i : Int)), y2, y3, some (.ref q5), y5, y6, y7, y8] ∧ H5 q5 = some (.lst xs) ∧ (∀ v ∈ xs, Gv H5 v) ∧ Same H H5)
        ⟨_, _, _, _, _, _, _, rfl, upd_same, allG, toEnd⟩ (fun j σ H5 hj hP => ?_) (fun σ H5 hP => ?_)⟩
      · obtain ⟨y2, y3, y5, y6, y7, y8, xs, rfl, hV, hG, hE⟩ := hP
        refine ⟨_, rfl, q5, rfl, ⟨_, .inl (.inl hV)⟩, for_list (K := K) (a := q5) (xs := xs) (fun _ σ H6 => ∃ (y2 y3 y5 y6 y7 y8 : Option V), σ = [some (.ref a), some (.int (i : Int)), y2, y3, some (.ref q5), y5, y6, y7, y8] ∧ Same H5 H6)
          ⟨_, _, _, _, _, _, rfl, .refl _⟩ (fun j σ H6 hj hP => ?_) (fun j v σ H6 hv hP => ?_) (fun σ H6 hP => ?_)⟩
        · obtain ⟨z2, z3, z5, z6, z7, z8, rfl, s6⟩ := hP
          exact s6.seq (.inl (.inl hV))
        · obtain ⟨z2, z3, z5, z6, z7, z8, rfl, s6⟩ := hP
          have gv := (hG v (List.mem_of_getElem? hv)).same s6
          refine ⟨_, rfl, v, rfl, gv, fun H7 s7 => ⟨_, rfl, v, rfl, gv.same s7, fun H8 s8 => ⟨(by show 2 ≤ sizeLine; decide), fun F1 nF1 => ?_⟩⟩⟩
          have t1 := same_new (o := HO.lst [V.bl (integerV v), V.bl (nameV v)]) nF1
          have gv9 := (gv.same s7).same (s8.trans t1)
          refine ⟨_, rfl, v, rfl, gv9, fun H9 s9 => ⟨_, rfl, v, rfl, gv9.same s9, fun H10 s10 => ⟨(by show 2 ≤ sizeLine; decide), fun F2 nF2 => ?_⟩⟩⟩
          have t2 := same_new (o := HO.lst [V.bl (integerV v), V.bl (nameV v)]) nF2
          have w := s9.trans (s10.trans t2)
          have dp : ∀ {Hq : Hp} {F : Addr}, Hq F = some (.lst [V.bl (integerV v), V.bl (nameV v)]) → Dp K Hq (.ref F) (.list [.bool (integerV v), .bool (nameV v)]) := fun e => .lst (.inl (.inl e)) (.cons (.bl _) (.cons (.bl _) .nil))
          refine ⟨_, rfl, F1, _, rfl, dp (w _ _ upd_same), rfl, rfl, (by show 1 ≤ 32; decide), two_shown _ _, _, rfl, F2, _, rfl, dp upd_same, rfl, rfl, (by show 1 ≤ 32; decide), two_shown _ _, rfl, _, rfl, ?_⟩
          refine iteNS rfl ?_
          exact ⟨_, _, _, _, _, _, rfl, s6.trans (s7.trans (s8.trans (t1.trans w)))⟩
        · obtain ⟨z2, z3, z5, z6, z7, z8, rfl, s6⟩ := hP
          exact ⟨_, _, _, _, _, _, _, rfl, s6 _ _ hV, fun v hv => (hG v hv).same s6, hE.trans s6⟩
      · obtain ⟨y2, y3, y5, y6, y7, y8, xs, rfl, hV, hG, hE⟩ := hP
        exact k H5 hE
theorem law_ok {a_is_whole a_is_integer a_is_name a__law_cup a__law_sip a__law_select a__law_letter a__law_is_name a__law_is_short a__law_numbers a__law_texts a__law_cell_right a_law : Addr} {f1 f2 f3 f4 f5 f6 f7 f8 f9 f10 f11 f12 f13 : FuncData} (T : Txt mg)
    (D1 : Df K mg "is_whole" s_is_whole p_is_whole a_is_whole f1) (D2 : Df K mg "is_integer" s_is_integer p_is_integer a_is_integer f2) (D3 : Df K mg "is_name" s_is_name p_is_name a_is_name f3) (D4 : Df K mg "_law_cup" s__law_cup p__law_cup a__law_cup f4)
    (D5 : Df K mg "_law_sip" s__law_sip p__law_sip a__law_sip f5) (D6 : Df K mg "_law_select" s__law_select p__law_select a__law_select f6) (D7 : Df K mg "_law_letter" s__law_letter p__law_letter a__law_letter f7) (D8 : Df K mg "_law_is_name" s__law_is_name p__law_is_name a__law_is_name f8)
    (D9 : Df K mg "_law_is_short" s__law_is_short p__law_is_short a__law_is_short f9) (D10 : Df K mg "_law_numbers" s__law_numbers p__law_numbers a__law_numbers f10) (D11 : Df K mg "_law_texts" s__law_texts p__law_texts a__law_texts f11)
    (D12 : Df K mg "_law_cell_right" s__law_cell_right p__law_cell_right a__law_cell_right f12) (D13 : Df K mg "law" s_law p_law a_law f13) : FnG P w K mg base lawLevel a_law f13 p_law (spLaw K) := by
  have GC : FnG P w K mg base 4 a__law_cell_right f12 p__law_cell_right (spCell K) := ok_cell T D12 D4 D2 D1 D3 D5 D6 D7 D10 D11 D8 D9
  refine okG D13.F c_law (fun vs H Q E h => ?_) (fun cdv A outer s H vs Q E hr gu h => ?_)
  · obtain ⟨a, ns, rfl, _⟩ := h
    rfl
  · obtain ⟨a, ns, rfl, hS, hl, k⟩ := h
    have nd := c_law.nd
    obtain ⟨u, hM⟩ := T.k_MAX_LETTERS
    refine ⟨_, pss_cons (ps_if (pt_cmpR op_ne (pe_glob (v := .int _) (by rfl) hM ⟨_, rfl⟩) pe_int (nomark _)) (pss_one (ps_ret pe_bl)) pss_nil)
      (pss_cons (ps_for PassesOwn.never rfl (pi_range1 rfl T.b_range (pa_cons (pe_callB (call_max2 rfl) (by rfl) T.b_max boot_max (pa_cons pe_int (pa_cons (pe_callB (call_min2 rfl) (by rfl) T.b_min boot_min (pa_cons pe_int (pa_cons (pe_callB call_len_seq (by rfl) T.b_len PySem.boot_len (pa_cons (pv 0) pa_nil)) pa_nil))) pa_nil))) pa_nil)) (pg_name (i := 1) nd rfl (Or.inl rfl))
        (pss_one (ps_if (pt_not (pt_val (dcallG D12 GC hr gu (pa_cons (pv 0) (pa_cons (pv 1) pa_nil))))) (pss_one (ps_ret pe_bl)) pss_nil)))
      (pss_one (ps_ret pe_bl))), ?_⟩
    refine ⟨rfl, _, rfl, iteNS rfl ?_⟩
    refine ⟨_, rfl, a, _, rfl, .inl hS, _, _, rfl, _, _, rfl, _, rfl, ?_, ?_, ?_⟩
    · rw [List.length_map]
      split <;> split <;> omega
    · rw [List.length_map]
      split <;> split <;> omega
    refine for_range (fun _ σ H5 => ∃ (y1 : Option V), σ = [some (.ref a), y1] ∧ Same H H5) ⟨_, rfl, .refl _⟩ (fun j σ H5 hj hP => ?_) (fun σ H5 hP => ?_)
    · obtain ⟨y1, rfl, s5⟩ := hP
      refine ⟨_, rfl, _, rfl, a, ns, j, (by show [V.ref a, V.int (0 + (j : Int))] = _; rw [Int.zero_add]), s5.seq hS, fun H6 s6 => ⟨_, rfl, ?_⟩⟩
      exact ⟨_, rfl, s5.trans s6⟩
    · exact k H5
end
/-! what the top has written -/
theorem all_mk {l : PySem.W.OpenLaw} {w : World} {K : PySem.W.Frag} {h : Heap} {mg : Str → Option Value} {fa : Addr} (X : K.In h) (G : h.Ns mainGlobals mg) (hfa : mg "law" = some (.ref fa))
    {a_is_whole : Addr} {od_is_whole an_is_whole : Option Addr} {sl_is_whole : Array (Option Value)} {oc_is_whole kV_is_whole dc_is_whole pm_is_whole cd_is_whole ct_is_whole : Value}
    {a_is_integer : Addr} {od_is_integer an_is_integer : Option Addr} {sl_is_integer : Array (Option Value)} {oc_is_integer kV_is_integer dc_is_integer pm_is_integer cd_is_integer ct_is_integer : Value}
    {a_is_name : Addr} {od_is_name an_is_name : Option Addr} {sl_is_name : Array (Option Value)} {oc_is_name kV_is_name dc_is_name pm_is_name cd_is_name ct_is_name : Value}
    {a__law_cup : Addr} {od__law_cup an__law_cup : Option Addr} {sl__law_cup : Array (Option Value)} {oc__law_cup kV__law_cup dc__law_cup pm__law_cup cd__law_cup ct__law_cup : Value}
    {a__law_sip : Addr} {od__law_sip an__law_sip : Option Addr} {sl__law_sip : Array (Option Value)} {oc__law_sip kV__law_sip dc__law_sip pm__law_sip cd__law_sip ct__law_sip : Value}
    {a__law_select : Addr} {od__law_select an__law_select : Option Addr} {sl__law_select : Array (Option Value)} {oc__law_select kV__law_select dc__law_select pm__law_select cd__law_select ct__law_select : Value}
    {a__law_letter : Addr} {od__law_letter an__law_letter : Option Addr} {sl__law_letter : Array (Option Value)} {oc__law_letter kV__law_letter dc__law_letter pm__law_letter cd__law_letter ct__law_letter : Value}
    {a__law_is_name : Addr} {od__law_is_name an__law_is_name : Option Addr} {sl__law_is_name : Array (Option Value)} {oc__law_is_name kV__law_is_name dc__law_is_name pm__law_is_name cd__law_is_name ct__law_is_name : Value}
    {a__law_is_short : Addr} {od__law_is_short an__law_is_short : Option Addr} {sl__law_is_short : Array (Option Value)} {oc__law_is_short kV__law_is_short dc__law_is_short pm__law_is_short cd__law_is_short ct__law_is_short : Value}
    {a__law_numbers : Addr} {od__law_numbers an__law_numbers : Option Addr} {sl__law_numbers : Array (Option Value)} {oc__law_numbers kV__law_numbers dc__law_numbers pm__law_numbers cd__law_numbers ct__law_numbers : Value}
    {a__law_texts : Addr} {od__law_texts an__law_texts : Option Addr} {sl__law_texts : Array (Option Value)} {oc__law_texts kV__law_texts dc__law_texts pm__law_texts cd__law_texts ct__law_texts : Value}
    {a__law_cell_right : Addr} {od__law_cell_right an__law_cell_right : Option Addr} {sl__law_cell_right : Array (Option Value)} {oc__law_cell_right kV__law_cell_right dc__law_cell_right pm__law_cell_right cd__law_cell_right ct__law_cell_right : Value}
    {a_law : Addr} {od_law an_law : Option Addr} {sl_law : Array (Option Value)} {oc_law kV_law dc_law pm_law cd_law ct_law : Value}
    {t_MAX_LETTERS : Tok}
    {t__LETTERS : Tok}
    {t__INTEGER_BOUND : Tok}
    (h1_is_whole : PySem.W.nsIn K mainGlobals "is_whole" = some (some (.ref a_is_whole)))
    (h2_is_whole : K.lookup a_is_whole = some ⟨oc_is_whole, od_is_whole, .func (PySem.W.fnOf "is_whole" "is_whole" (defArgs s_is_whole) (defBody s_is_whole) (defScope s_is_whole) .none kV_is_whole dc_is_whole pm_is_whole an_is_whole cd_is_whole ct_is_whole), sl_is_whole⟩)
    (h3_is_whole : PySem.W.codeIn K cd_is_whole "is_whole" = true) (h4_is_whole : PySem.W.keepIn K (.ref a_is_whole) = true)
    (h1_is_integer : PySem.W.nsIn K mainGlobals "is_integer" = some (some (.ref a_is_integer)))
    (h2_is_integer : K.lookup a_is_integer = some ⟨oc_is_integer, od_is_integer, .func (PySem.W.fnOf "is_integer" "is_integer" (defArgs s_is_integer) (defBody s_is_integer) (defScope s_is_integer) .none kV_is_integer dc_is_integer pm_is_integer an_is_integer cd_is_integer ct_is_integer), sl_is_integer⟩)
    (h3_is_integer : PySem.W.codeIn K cd_is_integer "is_integer" = true) (h4_is_integer : PySem.W.keepIn K (.ref a_is_integer) = true)
    (h1_is_name : PySem.W.nsIn K mainGlobals "is_name" = some (some (.ref a_is_name)))
    (h2_is_name : K.lookup a_is_name = some ⟨oc_is_name, od_is_name, .func (PySem.W.fnOf "is_name" "is_name" (defArgs s_is_name) (defBody s_is_name) (defScope s_is_name) .none kV_is_name dc_is_name pm_is_name an_is_name cd_is_name ct_is_name), sl_is_name⟩)
    (h3_is_name : PySem.W.codeIn K cd_is_name "is_name" = true) (h4_is_name : PySem.W.keepIn K (.ref a_is_name) = true)
    (h1__law_cup : PySem.W.nsIn K mainGlobals "_law_cup" = some (some (.ref a__law_cup)))
    (h2__law_cup : K.lookup a__law_cup = some ⟨oc__law_cup, od__law_cup, .func (PySem.W.fnOf "_law_cup" "_law_cup" (defArgs s__law_cup) (defBody s__law_cup) (defScope s__law_cup) .none kV__law_cup dc__law_cup pm__law_cup an__law_cup cd__law_cup ct__law_cup), sl__law_cup⟩)
    (h3__law_cup : PySem.W.codeIn K cd__law_cup "_law_cup" = true) (h4__law_cup : PySem.W.keepIn K (.ref a__law_cup) = true)
    (h1__law_sip : PySem.W.nsIn K mainGlobals "_law_sip" = some (some (.ref a__law_sip)))
    (h2__law_sip : K.lookup a__law_sip = some ⟨oc__law_sip, od__law_sip, .func (PySem.W.fnOf "_law_sip" "_law_sip" (defArgs s__law_sip) (defBody s__law_sip) (defScope s__law_sip) .none kV__law_sip dc__law_sip pm__law_sip an__law_sip cd__law_sip ct__law_sip), sl__law_sip⟩)
    (h3__law_sip : PySem.W.codeIn K cd__law_sip "_law_sip" = true) (h4__law_sip : PySem.W.keepIn K (.ref a__law_sip) = true)
    (h1__law_select : PySem.W.nsIn K mainGlobals "_law_select" = some (some (.ref a__law_select)))
    (h2__law_select : K.lookup a__law_select = some ⟨oc__law_select, od__law_select, .func (PySem.W.fnOf "_law_select" "_law_select" (defArgs s__law_select) (defBody s__law_select) (defScope s__law_select) .none kV__law_select dc__law_select pm__law_select an__law_select cd__law_select ct__law_select), sl__law_select⟩)
    (h3__law_select : PySem.W.codeIn K cd__law_select "_law_select" = true) (h4__law_select : PySem.W.keepIn K (.ref a__law_select) = true)
    (h1__law_letter : PySem.W.nsIn K mainGlobals "_law_letter" = some (some (.ref a__law_letter)))
    (h2__law_letter : K.lookup a__law_letter = some ⟨oc__law_letter, od__law_letter, .func (PySem.W.fnOf "_law_letter" "_law_letter" (defArgs s__law_letter) (defBody s__law_letter) (defScope s__law_letter) .none kV__law_letter dc__law_letter pm__law_letter an__law_letter cd__law_letter ct__law_letter), sl__law_letter⟩)
    (h3__law_letter : PySem.W.codeIn K cd__law_letter "_law_letter" = true) (h4__law_letter : PySem.W.keepIn K (.ref a__law_letter) = true)
    (h1__law_is_name : PySem.W.nsIn K mainGlobals "_law_is_name" = some (some (.ref a__law_is_name)))
    (h2__law_is_name : K.lookup a__law_is_name = some ⟨oc__law_is_name, od__law_is_name, .func (PySem.W.fnOf "_law_is_name" "_law_is_name" (defArgs s__law_is_name) (defBody s__law_is_name) (defScope s__law_is_name) .none kV__law_is_name dc__law_is_name pm__law_is_name an__law_is_name cd__law_is_name ct__law_is_name), sl__law_is_name⟩)
    (h3__law_is_name : PySem.W.codeIn K cd__law_is_name "_law_is_name" = true) (h4__law_is_name : PySem.W.keepIn K (.ref a__law_is_name) = true)
    (h1__law_is_short : PySem.W.nsIn K mainGlobals "_law_is_short" = some (some (.ref a__law_is_short)))
    (h2__law_is_short : K.lookup a__law_is_short = some ⟨oc__law_is_short, od__law_is_short, .func (PySem.W.fnOf "_law_is_short" "_law_is_short" (defArgs s__law_is_short) (defBody s__law_is_short) (defScope s__law_is_short) .none kV__law_is_short dc__law_is_short pm__law_is_short an__law_is_short cd__law_is_short ct__law_is_short), sl__law_is_short⟩)
    (h3__law_is_short : PySem.W.codeIn K cd__law_is_short "_law_is_short" = true) (h4__law_is_short : PySem.W.keepIn K (.ref a__law_is_short) = true)
    (h1__law_numbers : PySem.W.nsIn K mainGlobals "_law_numbers" = some (some (.ref a__law_numbers)))
    (h2__law_numbers : K.lookup a__law_numbers = some ⟨oc__law_numbers, od__law_numbers, .func (PySem.W.fnOf "_law_numbers" "_law_numbers" (defArgs s__law_numbers) (defBody s__law_numbers) (defScope s__law_numbers) .none kV__law_numbers dc__law_numbers pm__law_numbers an__law_numbers cd__law_numbers ct__law_numbers), sl__law_numbers⟩)
    (h3__law_numbers : PySem.W.codeIn K cd__law_numbers "_law_numbers" = true) (h4__law_numbers : PySem.W.keepIn K (.ref a__law_numbers) = true)
    (h1__law_texts : PySem.W.nsIn K mainGlobals "_law_texts" = some (some (.ref a__law_texts)))
    (h2__law_texts : K.lookup a__law_texts = some ⟨oc__law_texts, od__law_texts, .func (PySem.W.fnOf "_law_texts" "_law_texts" (defArgs s__law_texts) (defBody s__law_texts) (defScope s__law_texts) .none kV__law_texts dc__law_texts pm__law_texts an__law_texts cd__law_texts ct__law_texts), sl__law_texts⟩)
    (h3__law_texts : PySem.W.codeIn K cd__law_texts "_law_texts" = true) (h4__law_texts : PySem.W.keepIn K (.ref a__law_texts) = true)
    (h1__law_cell_right : PySem.W.nsIn K mainGlobals "_law_cell_right" = some (some (.ref a__law_cell_right)))
    (h2__law_cell_right : K.lookup a__law_cell_right = some ⟨oc__law_cell_right, od__law_cell_right, .func (PySem.W.fnOf "_law_cell_right" "_law_cell_right" (defArgs s__law_cell_right) (defBody s__law_cell_right) (defScope s__law_cell_right) .none kV__law_cell_right dc__law_cell_right pm__law_cell_right an__law_cell_right cd__law_cell_right ct__law_cell_right), sl__law_cell_right⟩)
    (h3__law_cell_right : PySem.W.codeIn K cd__law_cell_right "_law_cell_right" = true) (h4__law_cell_right : PySem.W.keepIn K (.ref a__law_cell_right) = true)
    (h1_law : PySem.W.nsIn K mainGlobals "law" = some (some (.ref a_law)))
    (h2_law : K.lookup a_law = some ⟨oc_law, od_law, .func (PySem.W.fnOf "law" "law" (defArgs s_law) (defBody s_law) (defScope s_law) .none kV_law dc_law pm_law an_law cd_law ct_law), sl_law⟩)
    (h3_law : PySem.W.codeIn K cd_law "law" = true) (h4_law : PySem.W.keepIn K (.ref a_law) = true)
    (z_abs : PySem.W.nsIn K mainGlobals "abs" = some none)
    (z_all : PySem.W.nsIn K mainGlobals "all" = some none)
    (z_bool : PySem.W.nsIn K mainGlobals "bool" = some none)
    (z_int : PySem.W.nsIn K mainGlobals "int" = some none)
    (z_isinstance : PySem.W.nsIn K mainGlobals "isinstance" = some none)
    (z_len : PySem.W.nsIn K mainGlobals "len" = some none)
    (z_max : PySem.W.nsIn K mainGlobals "max" = some none)
    (z_min : PySem.W.nsIn K mainGlobals "min" = some none)
    (z_range : PySem.W.nsIn K mainGlobals "range" = some none)
    (z_repr : PySem.W.nsIn K mainGlobals "repr" = some none)
    (z_str : PySem.W.nsIn K mainGlobals "str" = some none)
    (y_MAX_LETTERS : PySem.W.nsIn K mainGlobals "MAX_LETTERS" = some (some (.int 8 t_MAX_LETTERS)))
    (y__LETTERS : PySem.W.nsIn K mainGlobals "_LETTERS" = some (some (.str "abcdefghijklmnopqrstuvwxyz" t__LETTERS)))
    (y__INTEGER_BOUND : PySem.W.nsIn K mainGlobals "_INTEGER_BOUND" = some (some (.int 1000000000000000000000000000000000000000000000000000000000000 t__INTEGER_BOUND))) :
    ∃ fd : FuncData, (∀ (s : Shared) (v : Value), BindsTo s fd ⟨[v], []⟩ [("script", v)]) ∧ ∀ base : Heap, K.In base → base.Ns mainGlobals mg → FnG l.prog w K mg base lawLevel fa fd ["script"] (spLaw K) := by
  have e := hfa.symm.trans (PySem.W.mg_of X G h1_law)
  cases e
  have T : Txt mg := ⟨PySem.W.mg_none_of X G z_abs, PySem.W.mg_none_of X G z_all, PySem.W.mg_none_of X G z_bool, PySem.W.mg_none_of X G z_int, PySem.W.mg_none_of X G z_isinstance, PySem.W.mg_none_of X G z_len, PySem.W.mg_none_of X G z_max, PySem.W.mg_none_of X G z_min, PySem.W.mg_none_of X G z_range, PySem.W.mg_none_of X G z_repr, PySem.W.mg_none_of X G z_str, ⟨_, PySem.W.mg_of X G y_MAX_LETTERS⟩, ⟨_, PySem.W.mg_of X G y__LETTERS⟩, ⟨_, PySem.W.mg_of X G y__INTEGER_BOUND⟩⟩
  have D_is_whole : Df K mg "is_whole" s_is_whole p_is_whole a_is_whole _ := .mk' (fun_mk (st := s_is_whole) h2_is_whole h3_is_whole h4_is_whole) (fun _ _ _ _ _ _ us hl => match us, hl with | [_], _ => rfl) (PySem.W.mg_of X G h1_is_whole)
  have D_is_integer : Df K mg "is_integer" s_is_integer p_is_integer a_is_integer _ := .mk' (fun_mk (st := s_is_integer) h2_is_integer h3_is_integer h4_is_integer) (fun _ _ _ _ _ _ us hl => match us, hl with | [_], _ => rfl) (PySem.W.mg_of X G h1_is_integer)
  have D_is_name : Df K mg "is_name" s_is_name p_is_name a_is_name _ := .mk' (fun_mk (st := s_is_name) h2_is_name h3_is_name h4_is_name) (fun _ _ _ _ _ _ us hl => match us, hl with | [_], _ => rfl) (PySem.W.mg_of X G h1_is_name)
  have D__law_cup : Df K mg "_law_cup" s__law_cup p__law_cup a__law_cup _ := .mk' (fun_mk (st := s__law_cup) h2__law_cup h3__law_cup h4__law_cup) (fun _ _ _ _ _ _ us hl => match us, hl with | [_, _], _ => rfl) (PySem.W.mg_of X G h1__law_cup)
  have D__law_sip : Df K mg "_law_sip" s__law_sip p__law_sip a__law_sip _ := .mk' (fun_mk (st := s__law_sip) h2__law_sip h3__law_sip h4__law_sip) (fun _ _ _ _ _ _ us hl => match us, hl with | [_, _], _ => rfl) (PySem.W.mg_of X G h1__law_sip)
  have D__law_select : Df K mg "_law_select" s__law_select p__law_select a__law_select _ := .mk' (fun_mk (st := s__law_select) h2__law_select h3__law_select h4__law_select) (fun _ _ _ _ _ _ us hl => match us, hl with | [_, _], _ => rfl) (PySem.W.mg_of X G h1__law_select)
  have D__law_letter : Df K mg "_law_letter" s__law_letter p__law_letter a__law_letter _ := .mk' (fun_mk (st := s__law_letter) h2__law_letter h3__law_letter h4__law_letter) (fun _ _ _ _ _ _ us hl => match us, hl with | [_], _ => rfl) (PySem.W.mg_of X G h1__law_letter)
  have D__law_is_name : Df K mg "_law_is_name" s__law_is_name p__law_is_name a__law_is_name _ := .mk' (fun_mk (st := s__law_is_name) h2__law_is_name h3__law_is_name h4__law_is_name) (fun _ _ _ _ _ _ us hl => match us, hl with | [_], _ => rfl) (PySem.W.mg_of X G h1__law_is_name)
  have D__law_is_short : Df K mg "_law_is_short" s__law_is_short p__law_is_short a__law_is_short _ := .mk' (fun_mk (st := s__law_is_short) h2__law_is_short h3__law_is_short h4__law_is_short) (fun _ _ _ _ _ _ us hl => match us, hl with | [_], _ => rfl) (PySem.W.mg_of X G h1__law_is_short)
  have D__law_numbers : Df K mg "_law_numbers" s__law_numbers p__law_numbers a__law_numbers _ := .mk' (fun_mk (st := s__law_numbers) h2__law_numbers h3__law_numbers h4__law_numbers) (fun _ _ _ _ _ _ us hl => match us, hl with | [_, _], _ => rfl) (PySem.W.mg_of X G h1__law_numbers)
  have D__law_texts : Df K mg "_law_texts" s__law_texts p__law_texts a__law_texts _ := .mk' (fun_mk (st := s__law_texts) h2__law_texts h3__law_texts h4__law_texts) (fun _ _ _ _ _ _ us hl => match us, hl with | [_], _ => rfl) (PySem.W.mg_of X G h1__law_texts)
  have D__law_cell_right : Df K mg "_law_cell_right" s__law_cell_right p__law_cell_right a__law_cell_right _ := .mk' (fun_mk (st := s__law_cell_right) h2__law_cell_right h3__law_cell_right h4__law_cell_right) (fun _ _ _ _ _ _ us hl => match us, hl with | [_, _], _ => rfl) (PySem.W.mg_of X G h1__law_cell_right)
  have D_law : Df K mg "law" s_law p_law fa _ := .mk' (fun_mk (st := s_law) h2_law h3_law h4_law) (fun _ _ _ _ _ _ us hl => match us, hl with | [_], _ => rfl) (PySem.W.mg_of X G h1_law)
  exact ⟨PySem.W.fnOf "law" "law" (defArgs s_law) (defBody s_law) (defScope s_law) .none kV_law dc_law pm_law an_law cd_law ct_law, fun s v => .of_eq rfl, fun base _ _ => law_ok T D_is_whole D_is_integer D_is_name D__law_cup D__law_sip D__law_select D__law_letter D__law_is_name D__law_is_short D__law_numbers D__law_texts D__law_cell_right D_law⟩
end K00
open PySem PySem.W PyProof.Rows
set_option maxRecDepth 100000 in
set_option maxHeartbeats 0 in
theorem PySem.Challenge.cw_joinmore_k00_integers_and_names_holds : PySem.Challenge.rw_joinmore_k00_integers_and_names.Holds := by
  w_on; o_law; k_head; (case hw => w_witness2)
  k_fill
  refine Gd.walkG (l := PySem.Challenge.rw_joinmore_k00_integers_and_names) (n := 63) (k := K00.lawLevel) (x := "script") (sp := K00.spLaw) rfl (by decide) rfl ⟨rfl, by decide, by decide⟩ (fun w h Y => PySem.W.kIn_of Y) ?F (fun K H a ns hl on hS => ⟨a, ns, rfl, hS, hl, fun _ => rfl⟩)
  case F =>
    intro w mg fa h KX G hmg
    refine' K00.all_mk KX G hmg ?h1_is_whole ?h2_is_whole ?h3_is_whole ?h4_is_whole ?h1_is_integer ?h2_is_integer ?h3_is_integer ?h4_is_integer ?h1_is_name ?h2_is_name ?h3_is_name ?h4_is_name ?h1__law_cup ?h2__law_cup ?h3__law_cup ?h4__law_cup ?h1__law_sip ?h2__law_sip ?h3__law_sip ?h4__law_sip ?h1__law_select ?h2__law_select ?h3__law_select ?h4__law_select ?h1__law_letter ?h2__law_letter ?h3__law_letter ?h4__law_letter ?h1__law_is_name ?h2__law_is_name ?h3__law_is_name ?h4__law_is_name ?h1__law_is_short ?h2__law_is_short ?h3__law_is_short ?h4__law_is_short ?h1__law_numbers ?h2__law_numbers ?h3__law_numbers ?h4__law_numbers ?h1__law_texts ?h2__law_texts ?h3__law_texts ?h4__law_texts ?h1__law_cell_right ?h2__law_cell_right ?h3__law_cell_right ?h4__law_cell_right ?h1_law ?h2_law ?h3_law ?h4_law ?z_abs ?z_all ?z_bool ?z_int ?z_isinstance ?z_len ?z_max ?z_min ?z_range ?z_repr ?z_str ?y_MAX_LETTERS ?y__LETTERS ?y__INTEGER_BOUND
    (case h1_is_whole => k_is); (case h2_is_whole => k_is); (case h3_is_whole => k_is); (case h4_is_whole => k_is)
    (case h1_is_integer => k_is); (case h2_is_integer => k_is); (case h3_is_integer => k_is); (case h4_is_integer => k_is)
    (case h1_is_name => k_is); (case h2_is_name => k_is); (case h3_is_name => k_is); (case h4_is_name => k_is)
    (case h1__law_cup => k_is); (case h2__law_cup => k_is); (case h3__law_cup => k_is); (case h4__law_cup => k_is)
    (case h1__law_sip => k_is); (case h2__law_sip => k_is); (case h3__law_sip => k_is); (case h4__law_sip => k_is)
    (case h1__law_select => k_is); (case h2__law_select => k_is); (case h3__law_select => k_is); (case h4__law_select => k_is)
    (case h1__law_letter => k_is); (case h2__law_letter => k_is); (case h3__law_letter => k_is); (case h4__law_letter => k_is)
    (case h1__law_is_name => k_is); (case h2__law_is_name => k_is); (case h3__law_is_name => k_is); (case h4__law_is_name => k_is)
    (case h1__law_is_short => k_is); (case h2__law_is_short => k_is); (case h3__law_is_short => k_is); (case h4__law_is_short => k_is)
    (case h1__law_numbers => k_is); (case h2__law_numbers => k_is); (case h3__law_numbers => k_is); (case h4__law_numbers => k_is)
    (case h1__law_texts => k_is); (case h2__law_texts => k_is); (case h3__law_texts => k_is); (case h4__law_texts => k_is)
    (case h1__law_cell_right => k_is); (case h2__law_cell_right => k_is); (case h3__law_cell_right => k_is); (case h4__law_cell_right => k_is)
    (case h1_law => k_is); (case h2_law => k_is); (case h3_law => k_is); (case h4_law => k_is)
    (case z_abs => k_is); (case z_all => k_is); (case z_bool => k_is); (case z_int => k_is); (case z_isinstance => k_is); (case z_len => k_is)
    (case z_max => k_is); (case z_min => k_is); (case z_range => k_is); (case z_repr => k_is); (case z_str => k_is); (case y_MAX_LETTERS => k_is)
    (case y__LETTERS => k_is); (case y__INTEGER_BOUND => k_is)
