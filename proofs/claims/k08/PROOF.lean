import PyProof.Rows.All
import Wide.All
import OpenK.AllK
import Wide.FinOn
import HandS.ForMost
import HandS.Wide
import HandS.IsInst
import HandS.Walk
import PyProof.ReprRoads
import KE.SortData
import HandS.TupAny
import PyProof.TupleOfSeq
import HandS.ExcValue
import KE.KDictKeyed
import HandS.DictComp
import HandS.Property
import HandS.TupLen
import HandS.Zip
import HandS.NoneIn
import PyProof.Draws
import PyProof.EnumMake
import OpenK.KMeth
import PyProof.ReprText
import PyProof.InstSpecial
import HandS.TupSets
import KE.GoesMore
import KE.GoesEnum
import HandS.Text
import HandS.SetTxt0
import HandS.SetFor
import HandS.Strs
import HandS.Style
import HandS.Deep
import HandS.WideBits
import HandS.Flow
import PySem.Challenge.RW_joinmore_k08_whole_growing_by_pairs
set_option Elab.async false
set_option linter.all false
set_option maxRecDepth 100000
/-! Defs that are called where nothing shows itself (no repr runs around them): so repr of a list or a tuple can be told. -/
namespace Gd
open PySem PySem.Spec PyProof.Rows L2
section
variable {P : Program} {w : World} {K : PySem.W.Frag} {mg : Str → Option Value} {base : Heap}
/-- a def's promise, where no repr runs around the call -/
structure FnG (P : Program) (w : World) (K : PySem.W.Frag) (mg : Str → Option Value) (base : Heap) (k : Nat)
    (f : Addr) (fd : FuncData) (ps : List Str) (sp : Sp) : Prop where
  many : ∀ vs H Q E, sp vs H Q E → vs.length = ps.length
  goes : ∀ (A : Around) (out : List Env) (s : Shared) (H : Hp) (ar : Args) (us : List Value) (vs : List V) (Q : VK) (E : XK),
    Room k A → A.guards = some [] → Env0 P w K mg base A out s H → BindsTo s fd ar (ps.zip us) → Vals vs us → sp vs H Q E →
    codeAny (model P w) A (.call (.ref f) ar) (CR CX0 out P w H s Q E) s
theorem FnG.of {k : Nat} {f : Addr} {fd : FuncData} {ps : List Str} {sp : Sp} (F : FnOk P w K mg base CX0 k f fd ps sp) :
    FnG P w K mg base k f fd ps sp :=
  ⟨F.len, fun A out s H ar us vs Q E r _ => F.run A out s H ar us vs Q E r⟩
/-- such a def by its body -/
theorem okG {x qual : Str} {st : Stmt} {f : Addr} {fd : FuncData} {N ps : List Str} {k : Nat} {sp : Sp}
    (F : Fun K x qual st f fd) (S : FnScope N ps (defScope st)) (many : ∀ vs H Q E, sp vs H Q E → vs.length = ps.length)
    (body : ∀ (cdv : Value) (A : Around) (out : List Env) (s : Shared) (H : Hp) (vs : List V) (Q : VK) (E : XK),
      Room k (A.deeper (envOfC qual (defScope st) s.heap.objs.size f cdv)) → A.guards = some [] → sp vs H Q E →
      ∃ t, PSs (cxOf CX0 P w K mg base N qual (defScope st) f cdv A out s H E).nox (defBody st) t ∧
        t { nx := fun _ H' => Q .non H', rt := Q } (start N vs) H) :
    FnG P w K mg base (k + 1) f fd ps sp := by
  obtain ⟨oc, od, kV, doc, pm, an, cdv, ct, osl, rfl, lk, hcd⟩ := F.ex
  refine ⟨many, fun A out s H ar us vs Q E room gu e0 bi r want => ?_⟩
  have n := many _ _ _ _ want
  have inK : K.In s.heap := e0.mod.kin.keeps fun b o e => (e0.bs b o e).1
  have noL : s.heap.NoLimit := e0.mod.nolimit.keeps fun b o e => (e0.bs b o e).1
  have kinds : ∀ y ∈ ps.zip us, (defScope st).names.lookup y.1 = some .local ∨
      ((defScope st).names.lookup y.1 = some .cell ∧ ((cellsFrom (s.heap.objs.size + 1) (defScope st).names []).lookup y.1).isSome = true) := by
    intro ⟨nm, v⟩ hy
    have hin := (List.of_mem_zip hy).1
    cases S.par nm hin with
    | inl q => exact .inl q
    | inr q => exact .inr ⟨q, PySem.W.cellsFrom_some _ _ _ (.inl q)⟩
  refine codeAny_call_function room.depth (inK _ _ lk) rfl S.co S.gen rfl (PySem.W.codeRec_of inK hcd) (bi _ _ _ _ ?_)
  refine wpAny_newFunctionEnv_cells S.kind kinds ?_
  intro env he s1 x
  subst he
  refine ⟨noL.keeps x.toInCall.keep, codeAny_func ?_⟩
  obtain ⟨t, ht, hq⟩ := body cdv A out s H vs Q E (room.deeper _) gu want
  have I : Inv (cxOf CX0 P w K mg base N qual (defScope st) f cdv A out s H E) [] (start N vs) H s1 :=
    inv_start S room.hd e0 n r x
  have over : ∀ {σ' : L2.St} {H' : Hp} {s' : Shared} {v : V} {u : Value},
      Inv (cxOf CX0 P w K mg base N qual (defScope st) f cdv A out s H E) [] σ' H' s' → RelV v u → Q v H' → CE out P w H s Q u s' :=
    fun {σ' H' s' v u} J rv q => ⟨v, H', J.os, J.bare, J.base, J.hok, rv, q⟩
  refine wpAny_mono (ht.nox.run [] s1 (start N vs) H _ I hq) ?_ (fun e s' hs => hs)
  intro fl s' hs
  cases fl with
  | ret u =>
    obtain ⟨v, σ', H', J, rv, q⟩ := hs
    exact over J rv q
  | next =>
    obtain ⟨σ', H', J, q⟩ := hs
    exact over (v := V.non) (u := Value.none) J rfl q
  | brk => exact (hs.choose_spec.choose_spec.2).elim
  | cont => exact (hs.choose_spec.choose_spec.2).elim
end
section
variable {X : Cx} {k : Nat} {f : Addr} {fd : FuncData} {ps : List Str} {sp : Sp} {x : Str} {p pos : Pos} {e : Expr} {es : List Expr} {t : TA}
/-- a call of such a def -/
theorem callG (F : FnG X.prog X.w X.K X.mg X.base k f fd ps sp) (room : Room k X.A) (gu : X.A.guards = some []) (hg : Gl X x)
    (hm : X.mg x = some (.ref f)) (kp : PySem.W.keepIn X.K (.ref f) = true) (hb : Binds X.K fd ps []) (ha : PA X (e :: es) t)
    (nd : (x == ("__debug__" : Str)) = false := by decide)
    (h1 : starEach (e :: es) X.env = (false, eval e X.env) :: starEach es X.env := by rfl)
    (h2 : (backTo pos (starEach es X.env)).any (·.1) = false := by rfl) :
    PE X (.Call (.Name x p) (e :: es) [] pos) (tCall sp [] E0 t) := by
  constructor
  intro pins s σ H Q I h
  refine wpAny_Call_Name_kw (ld_glob I hg hm ?_ nd)
  refine PySem.W.callWith_K (h₀ := X.base) I.ok.mod.kin kp (thn (ha.run pos pins s σ H _ I h) ?_) h1 h2
  rintro us s1 ⟨vs, H1, I1, r, q⟩
  refine ⟨I1.kIn, ?_⟩
  have r2 : Vals (vs ++ []) (us ++ []) := r.append .nil
  have n : (us ++ []).length = ps.length := by
    rw [← r2.length]
    exact F.many _ _ _ _ q
  refine wpAny_call (codeAny_mono (F.goes X.A X.stack s1 H1 ⟨us, []⟩ (us ++ []) (vs ++ []) Q E0 room gu I1.env0 (hb s1 us I1.kIn n) r2 q) ?_)
  intro r s' hq
  cases r with
  | error e => exact hq.elim
  | ok fl =>
    cases fl with
    | ret u => exact I1.after hq
    | next => exact hq.elim
    | brk => exact hq.elim
    | cont => exact hq.elim
/-- repr of a list or a tuple of data -/
def rRepr (K : PySem.W.Frag) : List V → Hp → VK → Prop := fun xs H Q => ∃ a d, xs = [V.ref a] ∧ Dp K H (.ref a) d ∧
  d.showable = true ∧ d.hasDict = false ∧ d.depth ≤ 32 ∧ d.shown.length ≤ sizeLine ∧ Q (.str d.shown) H
theorem call_reprG (gu : X.A.guards = some []) (hu : X.A.units + 64 < cLine) : CallR X (.builtin "repr") (rRepr X.K) := by
  intro pins s σ H xs us Q I r h
  obtain ⟨a, d, rfl, hd, sh, nd, dp, hz, q⟩ := h
  obtain ⟨u, rfl, ru⟩ := vals1 r
  obtain rfl : u = Value.ref a := ru
  obtain ⟨as, rd⟩ := Dp.reads I d _ _ hd rfl
  refine repr_of_reads' rd sh (PyData.noDict_hsm nd) gu (by omega) (fun _ _ e => e) (fun h' u tk hk => ?_) hz
  exact ⟨.str d.shown, H, I.kept hk, ⟨u, rfl⟩, q⟩
/-- ** of any two ints of moderate size -/
theorem op_powW : OpR X (binaryOp .Pow) (rI (fun i j => 0 ≤ j ∧ (Builtin.Int.intBits i : Int) * j ≤ 2 ^ 27) fun i j => .int (i ^ j.toNat)) :=
  opI fun _ _ _ _ _ _ _ hc q => pow_int hc.1 hc.2 q
end
end Gd
namespace Gd
open PySem PySem.Spec PyProof.Rows L2
section
variable {P : Program} {w : World} {K : PySem.W.Frag} {mg mb : Str → Option Value} {k : Nat} {fa a : Addr} {fd : FuncData} {x : Str} {sp : Sp}
  {s1 : Shared} {vs : List Value} {ns : List Int}
/-- what the law's call must end in -/
def EndT (s1 : Shared) (r : Result) (s' : Shared) : Prop :=
  r = .ok (.ret (.bool true)) ∧ OldK s1.heap s'.heap ∧ s'.os = s1.os ∧ AllBare s'.gens
/-- the law's call from an abstract heap H that tracks at most the script -/
theorem enterG (inK : K.In s1.heap) (nsG : s1.heap.Ns mainGlobals mg) (nsB : s1.heap.Ns builtinsNs mb)
    (bb : ∀ y : Str, y ≠ "__name__" → mb y = bootBuiltins y) (noL : s1.heap.NoLimit) (noG : s1.gens = #[])
    (lst : s1.heap.get? a = some { cls := .type "list", data := .seq vs.toArray }) (room : Room k callerA)
    (F : ∀ base : Heap, K.In base → base.Ns mainGlobals mg → FnG P w K mg base k fa fd [x] sp)
    (bi : ∀ (s : Shared) (u : Value), BindsTo s fd ⟨[u], []⟩ [(x, u)])
    {H : Hp} (only : Only H) (want : sp [.ref a] H (fun v _ => v = .bl true) E0)
    (hok : HOk P w H s1.heap) (at_a : ∀ b, H b ≠ none → b = a) (free : H a ≠ none → K.lookup a = none) :
    codeAny (model P w) callerA (.call (.ref fa) ⟨[.ref a], []⟩) (EndT s1) s1 := by
  have noDict : ∀ {b : Addr} {o : Obj} {es : Array DictEntry} {ep : Nat}, s1.heap.get? b = some o → o.data = .dict es ep → H b = none := by
    intro b o es ep e d
    by_cases q : H b = none
    · exact q
    · obtain rfl := at_a b q
      rw [lst] at e
      cases e
      exact absurd (show Data.seq vs.toArray _ = Data.dict es ep from d) (by intro z; cases z)
  have nsH : ∀ {b : Addr} {m : Str → Option Value}, s1.heap.Ns b m → (hidT s1.heap H).Ns b m := by
    rintro b m ⟨o, es, ep, e, d, r⟩
    exact ⟨o, es, ep, hidT_get e (noDict e d), d, r⟩
  have inH : K.In (hidT s1.heap H) := by
    intro b o e
    refine hidT_get (inK b o e) ?_
    by_cases q : H b = none
    · exact q
    · obtain rfl := at_a b q
      rw [free q] at e
      cases e
  have md : Mod K mg (hidT s1.heap H) := by
    obtain ⟨mc, l1, l2⟩ := noL
    exact ⟨inH, nsH nsG, ⟨mb, nsH nsB, bb⟩, ⟨mc, nsH l1, l2⟩⟩
  have e0 : Env0 P w K mg (hidT s1.heap H) callerA [] s1 H :=
    { frames := rfl, mod := md, bs := fun b o e => of_hidT e, bsz := Nat.le_of_eq (hidT_size _ _), funs := trivial,
      frf := fun b hb => (List.not_mem_nil (show b ∈ ([] : List Addr) from hb)).elim, hok := hok, bare := .of_eq noG }
  refine codeAny_mono ((F _ inH (nsH nsG)).goes callerA [] s1 H ⟨[.ref a], []⟩ [.ref a] [.ref a] _ _ room rfl e0 (bi s1 (.ref a)) (.cons rfl .nil) want) ?_
  intro r s' h
  cases r with
  | error e => exact h.elim
  | ok fl =>
    cases fl with
    | next => exact h.elim
    | brk => exact h.elim
    | cont => exact h.elim
    | ret u =>
      obtain ⟨v, H', os, bare, un, hok', r', q⟩ := h
      obtain rfl : v = .bl true := q
      obtain rfl : u = Value.bool true := r'
      refine ⟨rfl, ?_, os, bare⟩
      refine OldK.of_keep fun b o e => ?_
      rcases only b with z | ⟨ob, xs, z⟩
      · exact un.keep b o e z (by intro y; cases (show b ∈ ([] : List Addr) from y)) (by simp)
      · obtain ⟨e1, _⟩ := hok b _ z
        obtain ⟨e2, _⟩ := hok' b _ (un.frzs b ob _ z)
        rw [e] at e1
        cases e1
        exact e2
/-- the law's call -/
theorem lawG (inK : K.In s1.heap) (nsG : s1.heap.Ns mainGlobals mg) (nsB : s1.heap.Ns builtinsNs mb)
    (bb : ∀ y : Str, y ≠ "__name__" → mb y = bootBuiltins y) (noL : s1.heap.NoLimit) (noG : s1.gens = #[])
    (lst : s1.heap.get? a = some { cls := .type "list", data := .seq vs.toArray }) (isI : IntsAre vs ns) (len : ns.length ≤ sizeLine) (room : Room k callerA)
    (F : ∀ base : Heap, K.In base → base.Ns mainGlobals mg → FnG P w K mg base k fa fd [x] sp)
    (bi : ∀ (s : Shared) (u : Value), BindsTo s fd ⟨[u], []⟩ [(x, u)])
    (want : ∀ H : Hp, Only H → SqL K H a (ns.map V.int) → sp [.ref a] H (fun v _ => v = .bl true) E0) :
    codeAny (model P w) callerA (.call (.ref fa) ⟨[.ref a], []⟩) (EndT s1) s1 := by
  have rv := vals_ints isI
  have lv := isI.length
  by_cases hk : K.lookup a = none
  · let fo : HO := .frz { cls := .type "list", data := .seq vs.toArray } (.lst (ns.map V.int))
    have yes : ∀ b, b = a → (fun c => if c = a then some fo else none : Hp) b = some fo := fun b e => if_pos e
    have no : ∀ b, b ≠ a → (fun c => if c = a then some fo else none : Hp) b = none := fun b e => if_neg e
    have on : Only (fun c => if c = a then some fo else none) := by
      intro b
      by_cases hb : b = a
      · exact .inr ⟨_, _, yes b hb⟩
      · exact .inl (no b hb)
    refine enterG inK nsG nsB bb noL noG lst room F bi on (want _ on (.inl (.inr ⟨_, yes a rfl⟩))) ?_ ?_ (fun _ => hk)
    · intro b u z
      by_cases hb : b = a
      · have z' := (yes b hb).symm.trans z
        cases z'
        subst hb
        exact ⟨lst, by rw [List.length_map]; exact len, vs, _, rv, lst⟩
      · rw [no b hb] at z
        cases z
    · intro b z
      by_cases hb : b = a
      · exact hb
      · exact absurd (no b hb) z
  · obtain ⟨o, ho⟩ := Option.ne_none_iff_exists'.mp hk
    have e := inK a o ho
    rw [lst] at e
    cases e
    have on : Only (fun _ => none) := fun _ => .inl rfl
    refine enterG inK nsG nsB bb noL noG lst room F bi on (want _ on ?_) ?_ ?_ ?_
    · exact .inr ⟨_, vs.toArray, _, ho, rfl, rfl, rfl, by rw [List.size_toArray, lv]; exact len, by simpa using rv⟩
    · intro b u z
      cases (show (none : Option HO) = some u from z)
    · intro b z
      exact absurd rfl z
    · intro z
      exact absurd rfl z
end
/-- the end of a law's row -/
theorem walkG {l : PySem.W.OpenLaw} {n k : Nat} {q : Program} {loose : List Str} {XP : (Str → Option Value) → Heap → Prop}
    {YP : World → Heap → Prop} {d : DefRec} {K : Params → PySem.W.Frag} {sp : PySem.W.Frag → Sp} {x : Str}
    (hn : l.most = some n) (hn2 : n ≤ sizeLine) (hdf : d.params.defaults = []) (room : Room k callerA)
    (hY : ∀ (w : World) (h : Heap), YP w h → (K w.params).In h)
    (F : ∀ (w : World) (mg : Str → Option Value) (fa : Addr) (h : Heap), (K w.params).In h → h.Ns mainGlobals mg → mg d.name = some (.ref fa) →
      ∃ fd : FuncData, (∀ (s : Shared) (u : Value), BindsTo s fd ⟨[u], []⟩ [(x, u)]) ∧
        ∀ base : Heap, (K w.params).In base → base.Ns mainGlobals mg → FnG l.prog w (K w.params) mg base k fa fd [x] (sp (K w.params)))
    (want : ∀ (K : PySem.W.Frag) (H : Hp) (a : Addr) (ns : List Int), ns.length ≤ n → Only H → SqL K H a (ns.map V.int) →
      sp K [.ref a] H (fun v _ => v = .bl true) E0) :
    PySem.W.WalkO q loose XP YP l.row.toRowW d [] (fun f vs => PySem.call f vs) := by
  refine Att.attach_call hn hdf ?_
  intro w s0 s1 mg mb fa o pm cd doc a vs ns G Y ho hd hcd hmg lst isI len noG
  obtain ⟨fd, bi, hF⟩ := F w mg fa _ (hY w _ Y) G.T.g hmg
  exact lawG (hY w _ Y) G.T.g G.T.b G.T.builtins G.T.nolimit noG lst isI (Nat.le_trans len hn2) room hF bi (fun H on sq => want _ H a ns len on sq)
end Gd
namespace Gd
open PySem PySem.Spec PyProof.Rows L2
/-- a def of the top: its text, its function object, how it binds, where it stands -/
structure Df (K : PySem.W.Frag) (mg : Str → Option Value) (x : Str) (st : Stmt) (ps : List Str) (f : Addr) (fd : FuncData) : Prop where
  F : Fun K x x st f fd
  b : Binds K fd ps []
  g : mg x = some (.ref f)
theorem Df.mk' {K : PySem.W.Frag} {mg : Str → Option Value} {x : Str} {st : Stmt} {ps : List Str} {f : Addr} {fd : FuncData} (F : Fun K x x st f fd)
    (h : ∀ (kV doc pm : Value) (an : Option Addr) (cdv ct : Value) (us : List Value), us.length = ps.length → bindArgs (PySem.W.fnOf x x (defArgs st) (defBody st) (defScope st) .none kV doc pm an cdv ct) ⟨us, []⟩ = pure (ps.zip us))
    (g : mg x = some (.ref f)) : Df K mg x st ps f fd := ⟨F, F.binds h, g⟩
section
variable {P : Program} {w : World} {K : PySem.W.Frag} {mg : Str → Option Value} {base : Heap} {X : Cx} {k : Nat} {f : Addr} {fd : FuncData} {st : Stmt} {ps : List Str} {sp : Sp} {x : Str} {p pos : Pos} {e : Expr} {es : List Expr} {t : TA}
/-- a call of a def of the top, in short -/
theorem dcall (D : Df X.K X.mg x st ps f fd) (G : FnOk X.prog X.w X.K X.mg X.base CX0 k f fd ps sp) (hr : Room k X.A) (ha : PA X (e :: es) t) (hg : Gl X x := by rfl)
    (hx : Passes CX0 X E0 := by exact pass0) (hdb : (x == ("__debug__" : Str)) = false := by decide) (he : starEach (e :: es) X.env = (false, eval e X.env) :: starEach es X.env := by rfl)
    (hpl : (backTo pos (starEach es X.env)).any (·.1) = false := by rfl) :
    PE X (.Call (.Name x p) (e :: es) [] pos) (tCall sp [] E0 t) := pe_call G hr hg D.g D.F.kp D.b .nil hx ha hdb he hpl
theorem dcallG (D : Df X.K X.mg x st ps f fd) (G : FnG X.prog X.w X.K X.mg X.base k f fd ps sp) (hr : Room k X.A) (gu : X.A.guards = some []) (ha : PA X (e :: es) t) (hg : Gl X x := by rfl)
    (hdb : (x == ("__debug__" : Str)) = false := by decide) (he : starEach (e :: es) X.env = (false, eval e X.env) :: starEach es X.env := by rfl)
    (hpl : (backTo pos (starEach es X.env)).any (·.1) = false := by rfl) :
    PE X (.Call (.Name x p) (e :: es) [] pos) (tCall sp [] E0 t) := callG G hr gu hg D.g D.F.kp D.b ha hdb he hpl
end
/-! heaps -/
/-- all but p stays -/
def Kp (p : Addr) (H H' : Hp) : Prop := ∀ b o, b ≠ p → H b = some o → H' b = some o
theorem Kp.refl (p : Addr) (H : Hp) : Kp p H H := fun _ _ _ h => h
theorem Kp.trans {p : Addr} {H H1 H2 : Hp} (a : Kp p H H1) (b : Kp p H1 H2) : Kp p H H2 := fun c o n h => b c o n (a c o n h)
theorem Kp.upd {p : Addr} {H : Hp} (o : HO) : Kp p H (upd H p o) := fun b u n h => by rw [upd_ne n]; exact h
theorem Same.kp {p : Addr} {H H' : Hp} (a : Same H H') : Kp p H H' := fun b o _ h => a b o h
theorem same_new {H : Hp} {p : Addr} {o : HO} (h : H p = none) : Same H (upd H p o) := fun b u e => by
  rw [upd_ne (ne_of_none e h)]
  exact e
theorem same_new2 {H : Hp} {p : Addr} {o u : HO} (h : H p = none) : Same H (upd (upd H p o) p u) := by
  rw [upd_upd]
  exact same_new h
theorem kp_new {q : Addr} {H : Hp} {p : Addr} {o : HO} (h : H p = none) : Kp q H (upd H p o) := Same.kp (same_new h)
/-- the law's cup: a list of three ints -/
def CupAt (H : Hp) (p : Addr) : Prop := ∃ a b c : Int, H p = some (.lst [.int a, .int b, .int c])
theorem CupAt.same {H H' : Hp} {p : Addr} (h : CupAt H p) (s : Same H H') : CupAt H' p := by
  obtain ⟨a, b, c, e⟩ := h
  exact ⟨a, b, c, s _ _ e⟩
/-- behind a call that may draw of the cup at p -/
structure Drawn (p : Addr) (H H' : Hp) : Prop where
  kp : Kp p H H'
  cup : CupAt H' p
theorem Drawn.trans {p : Addr} {H H1 H2 : Hp} (a : Drawn p H H1) (b : Drawn p H1 H2) : Drawn p H H2 := ⟨a.kp.trans b.kp, b.cup⟩
theorem Drawn.new {p q : Addr} {H H1 : Hp} {o : HO} (a : Drawn p H H1) (h : H1 q = none) : Drawn p H (upd H1 q o) := ⟨a.kp.trans (kp_new h), a.cup.same (same_new h)⟩
theorem Drawn.set {p q : Addr} {H H1 : Hp} {o : HO} (a : Drawn p H H1) (h : H q = none) (n : q ≠ p) : Drawn p H (upd H1 q o) := by
  obtain ⟨x, y, z, e⟩ := a.cup
  exact ⟨fun b u nb hb => by rw [upd_ne (ne_of_none hb h)]; exact a.kp b u nb hb, x, y, z, by rw [upd_ne n.symm]; exact e⟩
theorem Drawn.none {p q : Addr} {H H1 : Hp} (a : Drawn p H H1) (h : H1 q = none) : H q = none ∧ q ≠ p := by
  obtain ⟨x, y, z, e⟩ := a.cup
  have n : q ≠ p := (ne_of_none e h).symm
  refine ⟨?_, n⟩
  cases e2 : H q with
  | none => rfl
  | some o =>
    rw [a.kp _ _ n e2] at h
    cases h
theorem Drawn.here {p : Addr} {H : Hp} (h : CupAt H p) : Drawn p H H := ⟨.refl _ _, h⟩
theorem Drawn.at' {p q : Addr} {H H1 : Hp} {o : HO} (a : Drawn p H H1) (h : H q = some o) (n : q ≠ p) : H1 q = some o := a.kp _ _ n h
theorem Drawn.seq {K : PySem.W.Frag} {p q : Addr} {H H1 : Hp} {xs : List V} (a : Drawn p H H1) (h : SqL K H q xs) (n : q ≠ p) : SqL K H1 q xs := by
  rcases h with (h | ⟨o, h⟩) | h
  · exact .inl (.inl (a.kp _ _ n h))
  · exact .inl (.inr ⟨o, a.kp _ _ n h⟩)
  · exact .inr h
theorem Drawn.seqT {K : PySem.W.Frag} {p q : Addr} {H H1 : Hp} {xs : List V} (a : Drawn p H H1) (h : SqT K H q xs) (n : q ≠ p) : SqT K H1 q xs := by
  rcases h with (h | ⟨o, h⟩) | h
  · exact .inl (.inl (a.kp _ _ n h))
  · exact .inl (.inr ⟨o, a.kp _ _ n h⟩)
  · exact .inr h
/-- where the ways of a conditional expression end in some int -/
theorem anyI {te : TE} {σ : L2.St} {H : Hp} {Q : VK} (h : ∀ c : Int, Q (.int c) H) (g : ∀ Q' : VK, (∀ c : Int, Q' (.int c) H) → te σ H Q') : te σ H Q := g Q h
end Gd
namespace Gd
open PySem PySem.Spec PyProof.Rows L2
/-! values whose type is told -/
inductive Gv (H : Hp) : V → Prop
  | non : Gv H .non
  | bl (b : Bool) : Gv H (.bl b)
  | int (i : Int) : Gv H (.int i)
  | str (z : Str) (h : z.length ≤ 5000) (k : ∀ c ∈ z.cps.toList, c < 1114112) : Gv H (.str z)
  | lst {a : Addr} {xs : List V} (h : H a = some (.lst xs)) : Gv H (.ref a)
  | tup {a : Addr} {xs : List V} (h : H a = some (.tup xs)) : Gv H (.ref a)
  | dK {a : Addr} {kvs : List (Key × V)} (h : H a = some (.dK kvs)) : Gv H (.ref a)
  | dT {a : Addr} {kvs : List (List Key × V)} (h : H a = some (.dT kvs)) : Gv H (.ref a)
theorem Gv.same {H H' : Hp} {v : V} (g : Gv H v) (s : Same H H') : Gv H' v := by
  cases g with
  | non => exact .non
  | bl b => exact .bl b
  | int i => exact .int i
  | str z h k => exact .str z h k
  | lst h => exact .lst (s _ _ h)
  | tup h => exact .tup (s _ _ h)
  | dK h => exact .dK (s _ _ h)
  | dT h => exact .dT (s _ _ h)
def isInt : V → Bool
  | .int _ => true
  | .bl _ => true
  | _ => false
def isBool : V → Bool
  | .bl _ => true
  | _ => false
def isStr : V → Bool
  | .str _ => true
  | _ => false
theorem kt {K : PySem.W.Frag} {a b : String} {r q : Bool} (h : kitB a b = some r) (e : r = q) : PySem.W.kitOne K (.type a) (.type b) = some q := by
  subst e
  exact kit_ty h
theorem Gv.kit {K : PySem.W.Frag} {H : Hp} {v : V} (g : Gv H v) : (∃ t, TyX K H v t ∧ PySem.W.kitOne K t (.type "int") = some (isInt v)) ∧
    (∃ t, TyX K H v t ∧ PySem.W.kitOne K t (.type "bool") = some (isBool v)) ∧ (∃ t, TyX K H v t ∧ PySem.W.kitOne K t (.type "str") = some (isStr v)) := by
  cases g with
  | non => exact ⟨⟨_, .base .non, kt (r := false) (by decide +kernel) rfl⟩, ⟨_, .base .non, kt (r := false) (by decide +kernel) rfl⟩, ⟨_, .base .non, kt (r := false) (by decide +kernel) rfl⟩⟩
  | bl b => exact ⟨⟨_, .base (.bl b), kt (r := true) (by decide +kernel) rfl⟩, ⟨_, .base (.bl b), kt (r := true) (by decide +kernel) rfl⟩, ⟨_, .base (.bl b), kt (r := false) (by decide +kernel) rfl⟩⟩
  | int i => exact ⟨⟨_, .base (.int i), kt (r := true) (by decide +kernel) rfl⟩, ⟨_, .base (.int i), kt (r := false) (by decide +kernel) rfl⟩, ⟨_, .base (.int i), kt (r := false) (by decide +kernel) rfl⟩⟩
  | str z h k => exact ⟨⟨_, .base (.str z), kt (r := false) (by decide +kernel) rfl⟩, ⟨_, .base (.str z), kt (r := false) (by decide +kernel) rfl⟩, ⟨_, .base (.str z), kt (r := true) (by decide +kernel) rfl⟩⟩
  | lst h => exact ⟨⟨_, .base (.lst h), kt (r := false) (by decide +kernel) rfl⟩, ⟨_, .base (.lst h), kt (r := false) (by decide +kernel) rfl⟩, ⟨_, .base (.lst h), kt (r := false) (by decide +kernel) rfl⟩⟩
  | tup h => exact ⟨⟨_, .base (.tup h), kt (r := false) (by decide +kernel) rfl⟩, ⟨_, .base (.tup h), kt (r := false) (by decide +kernel) rfl⟩, ⟨_, .base (.tup h), kt (r := false) (by decide +kernel) rfl⟩⟩
  | dK h => exact ⟨⟨_, .base (.dK h), kt (r := false) (by decide +kernel) rfl⟩, ⟨_, .base (.dK h), kt (r := false) (by decide +kernel) rfl⟩, ⟨_, .base (.dK h), kt (r := false) (by decide +kernel) rfl⟩⟩
  | dT h => exact ⟨⟨_, .base (.dT h), kt (r := false) (by decide +kernel) rfl⟩, ⟨_, .base (.dT h), kt (r := false) (by decide +kernel) rfl⟩, ⟨_, .base (.dT h), kt (r := false) (by decide +kernel) rfl⟩⟩
/-- a def that tells of one value whether f holds of it -/
def spTells (f : V → Bool) : Sp := fun vs H Q _ => ∃ v, vs = [v] ∧ Gv H v ∧ ∀ H', Same H H' → Q (.bl (f v)) H'
def letters : List Nat := ("abcdefghijklmnopqrstuvwxyz" : Str).cps.toList
def wholeV : V → Bool
  | .int _ => true
  | _ => false
def integerV : V → Bool
  | .int i => decide (-1000000000000000000000000000000000000000000000000000000000000 < i) && decide (i < 1000000000000000000000000000000000000000000000000000000000000)
  | _ => false
def nameV : V → Bool
  | .str z => decide (1 ≤ z.length) && decide (z.length ≤ 8) && z.cps.toList.all (fun c => decide (c ∈ letters))
  | _ => false
theorem take_all {α : Type} {l : List α} {i : Nat} (h : l.length ≤ i) : l.take i = l := List.take_of_length_le h
theorem cps_len (z : Str) : z.cps.toList.length = z.cps.size := Array.length_toList
theorem all_filter {α : Type} (p : α → Bool) : ∀ l : List α, l.all p = (l.filter fun c => !p c).isEmpty
  | [] => rfl
  | x :: r => by
    rw [List.all_cons, List.filter_cons, all_filter p r]
    cases p x <;> rfl
theorem dp_strs {K : PySem.W.Frag} {H : Hp} : ∀ l : List Nat, DpAll K H (l.map fun c => V.str ⟨#[c]⟩) (l.map fun c => PyData.str ⟨#[c]⟩)
  | [] => .nil
  | c :: r => .cons (.str _) (dp_strs r)
theorem shaped_strs : ∀ l : List Nat, (∀ c ∈ l, c < 1114112) → SeqAt.shaped (.list (l.map fun c => PyData.str ⟨#[c]⟩)) = true := by
  intro l h
  have h1 : PyData.canLayAll0 (l.map fun c => PyData.str ⟨#[c]⟩) = true := by
    induction l with
    | nil => rfl
    | cons c r ih =>
      have hc : c < 1114112 := h c (List.mem_cons_self ..)
      have e : PyData.strOk ⟨#[c]⟩ = true := by simp [PyData.strOk, hc]
      show (PyData.strOk ⟨#[c]⟩ && PyData.canLayAll0 (r.map fun c => PyData.str ⟨#[c]⟩)) = true
      rw [e, ih fun d hd => h d (List.mem_cons_of_mem _ hd)]
      rfl
  have h2 : PyData.depthAll (l.map fun c => PyData.str ⟨#[c]⟩) = 0 := by
    clear h h1
    induction l with
    | nil => rfl
    | cons c r ih =>
      show max 0 (PyData.depthAll (r.map fun c => PyData.str ⟨#[c]⟩)) = 0
      rw [ih]
      rfl
  unfold SeqAt.shaped
  show (PyData.canLayAll0 _ && decide (PyData.depthAll _ + 1 ≤ 64)) = true
  rw [h1, h2]
  rfl
/-! texts of known size and signs -/
structure OkT (n : Nat) (z : Str) : Prop where
  len : z.length ≤ n
  cps : ∀ c ∈ z.cps.toList, c < 1114112
theorem len_tl (z : Str) : z.length = z.cps.toList.length := (Array.length_toList).symm
theorem OkT.mono {n m : Nat} {z : Str} (h : OkT n z) (l : n ≤ m) : OkT m z := ⟨Nat.le_trans h.len l, h.cps⟩
theorem OkT.gv {n : Nat} {z : Str} {H : Hp} (h : OkT n z) (l : n ≤ 5000) : Gv H (.str z) := .str z (Nat.le_trans h.len l) h.cps
theorem OkT.cut {n : Nat} {z : Str} (h : OkT n z) (lo hi : Option Int) : OkT n (cutS z lo hi) :=
  ⟨Nat.le_trans (cutS_length _ _ _) h.len, fun c hc => h.cps c (List.mem_of_mem_drop (List.mem_of_mem_take (show c ∈ (z.cps.toList.drop _).take _ from hc)))⟩
theorem OkT.add {n m : Nat} {y z : Str} (h : OkT n y) (k : OkT m z) : OkT (n + m) (y ++ z) := by
  have e : (y ++ z).cps.toList = y.cps.toList ++ z.cps.toList := TL.tl_append y z
  refine ⟨?_, fun c hc => ?_⟩
  · rw [len_tl, e, List.length_append, ← len_tl, ← len_tl]
    exact Nat.add_le_add h.len k.len
  · rw [e] at hc
    rcases List.mem_append.mp hc with hc | hc
    · exact h.cps c hc
    · exact k.cps c hc
theorem join_signs : ∀ cs : List Nat, (Txt.join (Str.ofString "") (cs.map fun c => (⟨#[c]⟩ : Str))).cps.toList = cs := by
  intro cs
  rw [TL.join_eq]
  show TL.tl _ = cs
  rw [TL.tl_join, List.map_map]
  show TL.joinL [] (cs.map fun c => [c]) = cs
  induction cs with
  | nil => rfl
  | cons c r ih =>
    cases r with
    | nil => rfl
    | cons d r =>
      show [c] ++ ([] ++ TL.joinL [] ((d :: r).map fun c => [c])) = c :: d :: r
      rw [ih]
      rfl
theorem okT_join {cs : List Nat} (h : ∀ c ∈ cs, c < 1114112) : OkT cs.length (Txt.join (Str.ofString "") (cs.map fun c => (⟨#[c]⟩ : Str))) := by
  refine ⟨?_, fun c hc => ?_⟩
  · rw [len_tl, join_signs]
    exact Nat.le_refl _
  · rw [join_signs] at hc
    exact h c hc
theorem letters_small : ∀ c ∈ letters, c < 1114112 := by decide +kernel
theorem sum_ones (cs : List Nat) : ((cs.map fun c => (⟨#[c]⟩ : Str)).map (·.length)).sum = cs.length := by
  induction cs with
  | nil => rfl
  | cons c r ih =>
    show 1 + ((r.map fun c => (⟨#[c]⟩ : Str)).map (·.length)).sum = r.length + 1
    rw [ih, Nat.add_comm]
/-- len of a list or a tuple, with the frag told -/
def rLenQ (K : PySem.W.Frag) : List V → Hp → VK → Prop := fun xs H Q => ∃ p ys, xs = [V.ref p] ∧ (SqL K H p ys ∨ SqT K H p ys) ∧ Q (.int ys.length) H
theorem call_lenQ {X : Cx} : CallR X (.builtin "len") (rLenQ X.K) := call_len_seq
end Gd
/-! sorted() of a list of groups: tuples of names, the first one empty (then the sort compares tuple with tuple as a whole) -/
namespace Gd
open PySem PySem.Spec PyProof.Rows L2 PySem.Calls PySem.W PySem.SeqAt
section
variable {M : Model} {A : Around} {E : Value → Shared → Prop} {s : Shared}
theorem read_tup {h : Heap} {v : Value} {ds : List PyData} {as : List Addr} (r : Reads h v (.tuple ds) as) :
    ∃ a o xs n, v = .ref a ∧ h.get? a = some o ∧ o.cls = .type "tuple" ∧ o.data = .seq xs n ∧ ReadsAll h xs.toList ds as := by
  cases r with
  | tuple h1 h2 h3 h4 => exact ⟨_, _, _, _, rfl, h1, h2, h3, h4⟩
/-- the firsts of values that read as tuples -/
theorem firsts_tups : ∀ (vs : List Value) (ds : List (List PyData)) {Q : List (Option Value) → Shared → Prop}, EachIs (fun v d => ∃ as, Reads s.heap v (.tuple d) as) vs ds →
    (∀ os : List (Option Value), os.length = ds.length → (∀ d r, ds = d :: r → d = [] → ∃ ot, os = none :: ot) → Q os s) → wpAny M A (vs.mapM firstOfTuple') Q E s
  | _, _, Q, .nil, k => by
    rw [List.mapM_nil]
    exact wpAny_pure (k [] rfl (fun d r e => nomatch e))
  | v :: vs, d :: ds, Q, .cons ⟨as, r⟩ t, k => by
    obtain ⟨a, o, xs, n, rfl, ho, hc, hd, hr⟩ := read_tup r
    rw [List.mapM_cons]
    refine wpAny_bind ?_
    rw [kas_first_eq]
    refine wpAny_bind (Looks.here (show Looks M s.heap (typeOf (.ref a)) o.cls from (Looks.ld ho).andThen .now) ?_)
    rw [hc, if_neg (by decide)]
    refine wpAny_bind (listItems_at ho hd (wpAny_pure ?_))
    refine wpAny_bind (firsts_tups vs ds (Q := fun bs s' => wpAny M A (pure (xs[0]? :: bs)) Q E s') t (fun os hl _ => wpAny_pure (k _ (by rw [List.length_cons, List.length_cons, hl]) (fun d' r' e ed => ?_))))
    cases e
    subst ed
    cases hr0 : xs.toList with
    | nil =>
      have e0 : xs[0]? = none := by
        rw [← Array.getElem?_toList, hr0]
        rfl
      exact ⟨os, by rw [e0]⟩
    | cons f fr =>
      rw [hr0] at hr
      cases hr
end
section
variable {prog : Program} {w : World} {A : Around} {s : Shared}
theorem oneLt_tups {xs ys : List PyData} {a b : Value} {as bs : List Addr} {E : Value → Shared → Prop} {Q : Bool → Shared → Prop} (ra : Reads s.heap a (.tuple xs) as) (rb : Reads s.heap b (.tuple ys) bs)
    (hal : alikeAll xs ys = true) (hu : A.units + min (PyData.tuple xs).depth (PyData.tuple ys).depth < cLine) (hq : Q (dataLt (.tuple xs) (.tuple ys)) s) : wpAny (model prog w) A (oneLt' true a b) Q E s := by
  obtain ⟨l, o, vs, n, rfl, h1, h2, h3, h4⟩ := read_tup ra
  obtain ⟨l', o', vs', n', rfl, k1, k2, k3, k4⟩ := read_tup rb
  have n1 : vs.size = xs.length := by simpa using ReadsAll.length _ _ _ h4
  have n2 : vs'.size = ys.length := by simpa using ReadsAll.length _ _ _ k4
  rw [dataLt_tuple, ← firstLt_toks xs ys hal, ← n1, ← n2] at hq
  rw [oneLt'_eq, if_pos rfl]
  have up : A.units < cLine := by omega
  have inn : A.in1.units + min (PyData.depthAll xs) (PyData.depthAll ys) < cLine := by
    have e1 : (PyData.tuple xs).depth = PyData.depthAll xs + 1 := rfl
    have e2 : (PyData.tuple ys).depth = PyData.depthAll ys + 1 := rfl
    rw [e1, e2] at hu
    show A.units + 1 + _ < cLine
    omega
  refine wpAny_bind (wpAny_cRoomFor up ?_)
  obtain ⟨oc, od, dt, sl⟩ := o
  obtain ⟨oc', od', dt', sl'⟩ := o'
  simp only at h2 h3 k2 k3
  subst h2 h3 k2 k3
  refine wpAny_bind (wpAny_callSpecialIfBound?_slot (T := "tuple") ⟨_, h1, rfl⟩ F.slot_tuple_lt ?_)
  refine call_meets F.slot_tuple_lt ⟨_, h1, rfl⟩ F.entry_tuple_lt (F.args_tuple_lt_2 _ _) (tuple_ltAt l l' vs vs' n n' od od' sl sl' (pairEq xs ys) (fun j => dataLt (xs.getD j .none) (ys.getD j .none))) ⟨h1, k1, ?_, ?_, ?_⟩
  · intro j j1 j2
    have := eqAt_alikeAll xs ys A.in1 s vs.toList vs'.toList _ _ h4 k4 hal inn j (by simpa using j1) (by simpa using j2)
    simpa using this
  · intro j j1 j2 hj
    have := rcLt_alikeAll xs ys A.in1 s vs.toList vs'.toList _ _ h4 k4 hal inn j (by simpa using j1) (by simpa using j2) hj
    simpa using this
  · exact wpAny_truthy_bool hq
/-- tuples that read as alike data, the first one empty -/
theorem sortsAt_tups {vs : List Value} {xss : List (List PyData)} (e : EachIs (fun v d => ∃ as, Reads s.heap v (.tuple d) as) vs xss) (hal : AllAlike (xss.map .tuple))
    (h0 : ∀ d r, xss = d :: r → d = []) (hu : ∀ d ∈ xss, A.units + (PyData.tuple d).depth < cLine) : SortsAt prog w A s (dataKind s.heap (xss.map .tuple)) vs := by
  have e' : EachIs (fun v d => ∃ as, Reads s.heap v d as) vs (xss.map .tuple) := by
    clear hal h0 hu
    induction e with
    | nil => exact .nil
    | cons h t ih => exact .cons h ih
  refine ⟨fun v hv => ?_, oneType', ?_, fun h2 E Q hq => ?_⟩
  · obtain ⟨d, hd, as, r⟩ := e'.left v hv
    exact ⟨_, dataKind_some hal hd r⟩
  · intro E x y a b Q ha hb hq
    obtain ⟨d, as, hd, ra, rfl⟩ := dataKind_inv ha
    obtain ⟨d', bs, hd', rb, rfl⟩ := dataKind_inv hb
    have al := hal d hd d' hd'
    obtain ⟨xs, hx, rfl⟩ := List.mem_map.mp hd
    obtain ⟨ys, hy, rfl⟩ := List.mem_map.mp hd'
    rw [keyLt'_oneType]
    exact oneLt_tups ra rb (by simpa [alike] using al) (Nat.lt_of_le_of_lt (Nat.add_le_add_left (Nat.min_le_left _ _) _) (hu xs hx)) hq
  · obtain ⟨v1, v2, rest, rfl⟩ : ∃ v1 v2 rest, vs = v1 :: v2 :: rest := by
      match vs, h2 with
      | [], h2 => simp at h2
      | [_], h2 => simp at h2
      | v1 :: v2 :: rest, _ => exact ⟨v1, v2, rest, rfl⟩
    have hT : ∀ v ∈ v1 :: v2 :: rest, Looks (model prog w) s.heap (typeOf v) (.type "tuple") := by
      intro v hv
      obtain ⟨d, hd, as, r⟩ := e.left v hv
      exact looks_reads r
    rw [keyKind'_eq, List.mapM_toArray, map_eq_pure_bind]
    refine wpAny_bind (wpAny_bind (firsts_tups _ xss e (fun os hl hf => wpAny_pure ?_)))
    obtain ⟨d, r, hx⟩ : ∃ d r, xss = d :: r := by
      cases e with
      | cons h t => exact ⟨_, _, rfl⟩
    obtain ⟨ot, ho⟩ := hf d r hx (h0 d r hx)
    subst ho
    rw [if_neg (by simp), if_neg (by simp)]
    rw [oneTypeOnly'_eq, List.mapM_toArray, map_eq_pure_bind]
    refine wpAny_bind (wpAny_bind (wpAny_bind (kas_mapM (r := Value.type "tuple") _ (fun v hv Q' hq => (hT v hv).here hq) (wpAny_pure ?_))))
    have hall : ((List.map (fun _ => Value.type "tuple") (v1 :: v2 :: rest)).toArray.all fun x => x == Value.type "tuple") = true := by
      simp only [List.all_toArray, List.all_map, List.all_eq_true]
      intro _ _
      rfl
    have h1 : (List.map (fun _ => Value.type "tuple") (v1 :: v2 :: rest)).toArray[0]? = some (Value.type "tuple") := by simp
    rw [h1]
    simp only [hall, if_true]
    exact wpAny_pure (wpAny_pure hq)
end
/-! groups as lists of names -/
abbrev Grp := List Str
def encG (g : Grp) : List PyData := g.map PyData.str
/-- Python's order of groups -/
def leG (g h : Grp) : Bool := !dataLt (.tuple (encG h)) (.tuple (encG g))
def leT (t u : Addr × Grp) : Bool := leG t.2 u.2
theorem alike_strs : ∀ xs ys : List Str, alikeAll (xs.map PyData.str) (ys.map PyData.str) = true
  | [], _ => by simp [alikeAll]
  | _ :: _, [] => by simp [alikeAll]
  | x :: xs, y :: ys => by
    show alikeAll (.str x :: xs.map PyData.str) (.str y :: ys.map PyData.str) = true
    rw [alikeAll, alike_strs xs ys]
    simp [alike]
theorem depth_strs : ∀ xs : List Str, PyData.depthAll (xs.map PyData.str) = 0
  | [] => rfl
  | x :: xs => by
    show max 0 (PyData.depthAll (xs.map PyData.str)) = 0
    rw [depth_strs xs]
    rfl
theorem dp_names {K : PySem.W.Frag} {H : Hp} : ∀ g : Grp, DpAll K H (g.map V.str) (encG g)
  | [] => .nil
  | x :: g => .cons (.str x) (dp_names g)
theorem each_to {R : Value → List PyData → Prop} : ∀ {vs : List Value} {ts : List (Addr × Grp)}, EachIs (fun v t => R v (encG t.2)) vs ts → EachIs R vs (ts.map fun t => encG t.2)
  | _, _, .nil => .nil
  | _, _, .cons h t => .cons h (each_to t)
def rSortG (K : PySem.W.Frag) : List V → Hp → VK → Prop := fun vs H Q => ∃ (a : Addr) (ts : List (Addr × Grp)), vs = [.ref a] ∧ SqL K H a (ts.map fun t => V.ref t.1) ∧ (∀ t ∈ ts, SqT K H t.1 (t.2.map V.str)) ∧
  (∀ t r, ts = t :: r → t.2 = []) ∧ ∀ p, H p = none → Q (.ref p) (upd H p (.lst ((ts.mergeSort leT).map fun t => V.ref t.1)))
theorem cr_sortG {X : Cx} (hu : X.A.units + 64 < cLine) : CallR X (.builtin "sorted") (rSortG X.K) := by
  intro pins s σ H vs us Q I r h
  obtain ⟨a, ts, rfl, hs, ht, h0, q⟩ := h
  obtain ⟨its, rv, hl, hz⟩ := I.list hs
  rw [Vals.ref1 r]
  have hits : its = ts.map fun t => Value.ref t.1 := by
    clear hl hz hs h0 q ht r
    revert its
    induction ts with
    | nil =>
      intro its rv
      cases rv
      rfl
    | cons t ts ih =>
      intro its rv
      cases rv with
      | cons r1 r2 =>
        rw [ih _ r2]
        cases r1
        rfl
  have e : EachIs (fun v t => v = Value.ref t.1) its ts := by
    rw [hits]
    clear hl hz hs h0 q ht r rv hits
    induction ts with
    | nil => exact .nil
    | cons t ts ih => exact .cons rfl ih
  have er : EachIs (fun v t => ∃ as, Reads s.heap v (.tuple (encG t.2)) as) its ts := by
    refine (each_mem e).mono fun v t ⟨hv, hm⟩ => ?_
    subst hv
    exact Dp.reads I (.tuple (encG t.2)) (.ref t.1) (.ref t.1) (.tup (ht t hm) (dp_names t.2)) rfl
  have hal : AllAlike (ts.map fun t => PyData.tuple (encG t.2)) := AllAlike.of fun b b' => by
    show alike (.tuple _) (.tuple _) = true
    simp only [alike]
    exact alike_strs _ _
  have er2 : EachIs (fun v t => ∃ as, Reads (sortingHeap (copyHeap s.heap its) (s.heap.objs.size + 1) its) v (.tuple (encG t.2)) as) its ts :=
    er.mono fun _ _ ⟨as, r⟩ => ⟨as, PyProof.Rows.Reads.keeps (fun _ _ => sorting_copy_old) r⟩
  have er3 : EachIs (fun v d => ∃ as, Reads (sortingHeap (copyHeap s.heap its) (s.heap.objs.size + 1) its) v (.tuple d) as) its (ts.map fun t => encG t.2) := each_to er2
  have len : ts.length ≤ sizeLine := by
    rw [List.length_map] at hz
    exact hz
  have mm : (ts.map fun t => encG t.2).map PyData.tuple = ts.map fun t => PyData.tuple (encG t.2) := by
    rw [List.map_map]
    rfl
  have sa := sortsAt_tups (prog := X.prog) (w := X.w) (A := X.A.in1.in1) (s := { s with heap := sortingHeap (copyHeap s.heap its) (s.heap.objs.size + 1) its }) er3 (by rw [mm]; exact hal)
    (fun d r e => by
      cases ts with
      | nil => cases e
      | cons t tr =>
        cases e
        show encG t.2 = []
        rw [h0 t tr rfl]
        rfl)
    (fun d hd => by
      obtain ⟨t, _, rfl⟩ := List.mem_map.mp hd
      have e1 : (PyData.tuple (encG t.2)).depth = PyData.depthAll (encG t.2) + 1 := rfl
      rw [e1, show PyData.depthAll (encG t.2) = 0 from depth_strs t.2]
      show X.A.units + 1 + 1 + (0 + 1) < cLine
      omega)
  rw [mm] at sa
  have out := sortVals_data (h' := sortingHeap (copyHeap s.heap its) (s.heap.objs.size + 1) its) (enc := fun t : Addr × Grp => PyData.tuple (encG t.2)) false e er2 hal
  refine sorted_vals hl.isList sa (by rw [e.length]; exact len) ?_
  generalize sortVals (dataKind (sortingHeap (copyHeap s.heap its) (s.heap.objs.size + 1) its) (ts.map fun t => PyData.tuple (encG t.2))) false its its = res at out
  obtain ⟨ep, he⟩ := PyProof.Rows.sortedAll_at s.heap its res.toArray
  have le : (ts.mergeSort (dataLe false fun t : Addr × Grp => PyData.tuple (encG t.2))) = ts.mergeSort leT := rfl
  rw [le] at out
  have vr : Vals ((ts.mergeSort leT).map fun t => V.ref t.1) res := by
    clear he sa
    generalize ts.mergeSort leT = us at out
    induction out with
    | nil => exact .nil
    | cons h t ih =>
      subst h
      exact .cons rfl ih
  refine ⟨.ref _, upd H (s.heap.objs.size + 1) (.lst ((ts.mergeSort leT).map fun t => V.ref t.1)), I.laid (t' := s.toks) (fun _ _ => PyProof.Rows.sortedAll_old) (Nat.le_succ _) ⟨?_, res, ep, vr, he⟩, rfl, q _ (I.hok.fresh (Nat.le_succ _))⟩
  rw [List.length_map, List.length_mergeSort]
  exact len
/-! the groups of some names -/
def subsFrom : List Grp → List Str → List Grp
  | fs, [] => fs
  | fs, n :: r => subsFrom (fs ++ fs.map (· ++ [n])) r
def groupsOf (ns : List Str) : List Grp := (subsFrom [[]] ns).mergeSort leG
theorem subs_len : ∀ (ns : List Str) (fs : List Grp), (subsFrom fs ns).length = fs.length * 2 ^ ns.length
  | [], fs => by simp [subsFrom]
  | n :: r, fs => by
    rw [subsFrom, subs_len r, List.length_append, List.length_map, List.length_cons, Nat.pow_succ, ← Nat.two_mul, Nat.mul_comm 2, Nat.mul_assoc, Nat.mul_comm 2]
theorem groups_len (ns : List Str) : (groupsOf ns).length = 2 ^ ns.length := by
  rw [groupsOf, List.length_mergeSort, subs_len]
  simp
theorem subs_head : ∀ (ns : List Str) (fs : List Grp), (∃ r, fs = [] :: r) → ∃ r, subsFrom fs ns = [] :: r
  | [], _, h => h
  | n :: r, fs, h => by
    obtain ⟨x, rfl⟩ := h
    exact subs_head r _ ⟨_, rfl⟩
/-- tuples of names at their places -/
def TupsAt (H : Hp) (ts : List (Addr × Grp)) : Prop := ∀ t ∈ ts, H t.1 = some (.tup (t.2.map V.str))
theorem TupsAt.same {H H' : Hp} {ts : List (Addr × Grp)} (h : TupsAt H ts) (s : Same H H') : TupsAt H' ts := fun t m => s _ _ (h t m)
theorem TupsAt.app {H : Hp} {ts us : List (Addr × Grp)} (h : TupsAt H ts) (k : TupsAt H us) : TupsAt H (ts ++ us) := fun t m => by
  rcases List.mem_append.mp m with m | m
  · exact h t m
  · exact k t m
theorem TupsAt.nil {H : Hp} : TupsAt H [] := fun t m => absurd m List.not_mem_nil
theorem TupsAt.one {H : Hp} {a : Addr} {g : Grp} (h : H a = some (.tup (g.map V.str))) : TupsAt H [(a, g)] := fun t m => by
  rw [List.mem_singleton.mp m]
  exact h
theorem TupsAt.sqT {K : PySem.W.Frag} {H : Hp} {ts : List (Addr × Grp)} (h : TupsAt H ts) : ∀ t ∈ ts, SqT K H t.1 (t.2.map V.str) := fun t m => .inl (.inl (h t m))
abbrev refs (ts : List (Addr × Grp)) : List V := ts.map fun t => V.ref t.1
theorem refs_app (ts us : List (Addr × Grp)) : refs (ts ++ us) = refs ts ++ refs us := List.map_append
theorem snd_sort (ts : List (Addr × Grp)) : (ts.mergeSort leT).map (·.2) = (ts.map (·.2)).mergeSort leG := List.map_mergeSort fun _ _ _ _ => rfl
/-! sorted() of a list or a tuple of names -/
section
variable {prog : Program} {w : World} {A : Around} {E : Value → Shared → Prop} {s : Shared} {κ : Heap → PyProof.Rows.KeyKind}
theorem sorted_of_any {b : Addr} {T : String} {o : Obj} {vs : List Value} {n : Nat} {Q : Value → Shared → Prop} (hT : T = "list" ∨ T = "tuple") (ho : s.heap.get? b = some o) (hc : o.cls = .type T) (hd : o.data = .seq vs.toArray n)
    (hL : vs.length ≤ sizeLine) (S : ∀ h1 : Heap, (∀ c u, s.heap.get? c = some u → h1.get? c = some u) → SortsAt prog w A.in1.in1 { s with heap := h1 } (κ h1) vs)
    (h : ∀ (hS : Heap) (p : Addr) (h2 : Heap), (∀ c u, s.heap.get? c = some u → hS.get? c = some u) → s.heap.get? p = none → (∀ c u, s.heap.get? c = some u → h2.get? c = some u) → (∃ ep, h2.get? p = some (seqObj "list" (sortVals (κ hS) false vs vs).toArray ep)) → Q (.ref p) { s with heap := h2 }) :
    wpAny (model prog w) A (call (.builtin "sorted") [.ref b]) Q E s := by
  refine PyProof.Rows.call_function_entry_kw PyProof.Rows.kind_sorted PyProof.Rows.plain_sorted PyProof.Rows.entry_sorted (PyProof.Rows.args_sorted1 _) ?_
  unfold Builtin.«sorted»
  refine wpAny_bind (m := checkCount "sorted" 1 1 _) (wpAny_pure ?_)
  refine wpAny_bind (wpAny_collect_seq b hT ho hc hd (fun h1 k1 => ?_) (by rw [List.size_toArray]; exact hL))
  refine wpAny_bind (wpAny_newList ?_ hL)
  have hp : (h1.push (seqObj "list" vs.toArray 0)).get? h1.objs.size = some (seqObj "list" vs.toArray 0) := Heap.get?_push_size _ rfl
  have le1 : s.heap.get? h1.objs.size = none := by
    cases e : s.heap.get? h1.objs.size with
    | none => rfl
    | some u => exact absurd (Heap.lt_size (k1 _ _ e)) (Nat.lt_irrefl _)
  refine wpAny_bind (wpAny_holding (PyProof.Rows.wpAny_call_entry_kw PyProof.Rows.slot_list_sort ⟨_, hp, rfl⟩ PyProof.Rows.entry_list_sort ?body (PyProof.Rows.args_list_sort _)))
  case body =>
    have kS : ∀ c u, s.heap.get? c = some u → (sortingHeap (h1.push (seqObj "list" vs.toArray 0)) h1.objs.size vs).get? c = some u := fun c u e => by
      have e1 := k1 c u e
      exact sortingHeap_old (Nat.ne_of_lt (Heap.lt_size e1)) (Heap.get?_push_of_some _ e1)
    refine wpAny_mono (list_sort_vals (s := { s with heap := h1.push (seqObj "list" vs.toArray 0) }) (P := fun f s' => f = .done (.ret .none) ∧ s' = { s with heap := PyProof.Rows.sortedHeap (h1.push (seqObj "list" vs.toArray 0)) h1.objs.size vs (sortVals (κ (sortingHeap (h1.push (seqObj "list" vs.toArray 0)) h1.objs.size vs)) false vs vs).toArray }) hp (S _ kS) hL ⟨rfl, rfl⟩) (fun f s' hf => ?_) fun _ _ e => e
    obtain ⟨rfl, rfl⟩ := hf
    refine ⟨_, rfl, wpAny_pure ⟨_, rfl, ?_⟩⟩
    obtain ⟨ep, he⟩ := PyProof.Rows.sortedHeap_at (vs := vs) (out := (sortVals (κ (sortingHeap (h1.push (seqObj "list" vs.toArray 0)) h1.objs.size vs)) false vs vs).toArray) hp
    refine h _ _ _ kS le1 (fun c u e => ?_) ⟨ep, he⟩
    have e1 := k1 c u e
    rw [PyProof.Rows.sortedHeap_old (Nat.ne_of_lt (Heap.lt_size e1)) (by rw [PyProof.Rows.size_push']; exact Nat.lt_succ_of_lt (Heap.lt_size e1))]
    exact Heap.get?_push_of_some _ e1
end
theorem has_obj {P : Program} {w : World} {H : Hp} {h : Heap} {a : Addr} {o : HO} (x : ObjOk P w H h a o) : ∃ u, h.get? a = some u := by
  cases o with
  | lst xs => obtain ⟨_, _, _, _, e⟩ := x; exact ⟨_, e⟩
  | tup xs => obtain ⟨_, _, _, ob, e, _⟩ := x; exact ⟨_, e⟩
  | dK kvs => obtain ⟨_, _, _, _, o, _, _, e, _⟩ := x; exact ⟨_, e⟩
  | dT kvs => obtain ⟨_, _, _, _, o, _, _, e, _⟩ := x; exact ⟨_, e⟩
  | set S n => obtain ⟨o, _, _, _, e, _⟩ := x; exact ⟨_, e⟩
  | ins C dx fs => obtain ⟨_, _, _, e, _⟩ := x; exact ⟨_, e⟩
  | own y => exact x
  | xd fs => obtain ⟨_, ⟨_, _, _, e, _⟩, _⟩ := x; exact ⟨_, e⟩
  | rng lo hi => obtain ⟨_, _, _, e⟩ := x; exact ⟨_, e⟩
  | frz ob u => obtain ⟨e, _⟩ := x; exact ⟨_, e⟩
  | tbl ps => exact ⟨_, (show h.get? a = some _ from x)⟩
  | met f y => exact ⟨_, (show h.get? a = some _ from x)⟩
  | ext φ => obtain ⟨_, e, _⟩ := x; exact e
theorem no_obj {P : Program} {w : World} {H : Hp} {h : Heap} {a : Addr} (x : HOk P w H h) (n : h.get? a = none) : H a = none := by
  cases e : H a with
  | none => rfl
  | some o =>
    obtain ⟨u, hu⟩ := has_obj (x a o e)
    rw [n] at hu
    cases hu
def leS (a b : Str) : Bool := decide (a.cps.toList ≤ b.cps.toList)
theorem leS_eq : dataLe false (fun n : Str => PyData.str n) = leS := dataLe_str fun n => n
def rSortS (K : PySem.W.Frag) : List V → Hp → VK → Prop := fun vs H Q => ∃ (a : Addr) (ns : List Str), vs = [.ref a] ∧ (SqL K H a (ns.map V.str) ∨ SqT K H a (ns.map V.str)) ∧
  ∀ p, H p = none → Q (.ref p) (upd H p (.lst ((ns.mergeSort leS).map V.str)))
theorem cr_sortS {X : Cx} (hu : X.A.units + 64 < cLine) : CallR X (.builtin "sorted") (rSortS X.K) := by
  intro pins s σ H vs us Q I r h
  obtain ⟨a, ns, rfl, hs, q⟩ := h
  have main : ∀ (its : List Value) (T : String) (o : Obj) (n : Nat), Vals (ns.map V.str) its → (T = "list" ∨ T = "tuple") → s.heap.get? a = some o → o.cls = .type T → o.data = .seq its.toArray n → (ns.map V.str).length ≤ sizeLine →
      wpAny (model X.prog X.w) X.A (call (.builtin "sorted") us) (EP X pins σ Q) X.xe s := by
    intro its T o n rv hT ho hc hd hz
    rw [Vals.ref1 r]
    have e : EachIs (fun v x => ∃ t, v = Value.str x t) its ns := by
      clear hd hz hs q r
      revert its
      induction ns with
      | nil =>
        intro its rv
        cases rv
        exact .nil
      | cons x ns ih =>
        intro its rv
        cases rv with
        | cons r1 r2 => exact .cons r1 (ih _ r2)
    have hL : its.length ≤ sizeLine := by
      rw [← rv.length]
      exact hz
    have hal : AllAlike (ns.map fun x => PyData.str x) := AllAlike.of fun _ _ => by simp [alike]
    have hk : Sortable (ns.map fun x => PyData.str x) := Sortable.others fun _ => ⟨by simp, by simp⟩
    have er : ∀ h1 : Heap, EachIs (fun v x => ∃ as, Reads h1 v (.str x) as) its ns := fun h1 => e.mono fun v x ⟨t, hv⟩ => by
      subst hv
      exact ⟨_, .str x t⟩
    have er2 : ∀ h1 : Heap, EachIs (fun v d => ∃ as, Reads h1 v d as) its (ns.map fun x => PyData.str x) := fun h1 => each_map (R := fun v d => ∃ as, Reads h1 v d as) (fun x : Str => PyData.str x) (er h1)
    have sa : ∀ h1 : Heap, (∀ c u, s.heap.get? c = some u → h1.get? c = some u) → SortsAt X.prog X.w X.A.in1.in1 { s with heap := h1 } (dataKind h1 (ns.map fun x => PyData.str x)) its := fun h1 _ =>
      SortsAt.data (s := { s with heap := h1 }) (er2 h1) hal hk fun d hd => by
        obtain ⟨x, _, rfl⟩ := List.mem_map.mp hd
        show X.A.units + 1 + 1 + 0 < cLine
        omega
    refine sorted_of_any (κ := fun h1 => dataKind h1 (ns.map fun x => PyData.str x)) hT ho hc hd hL sa fun hS p h2 kS np k2 ⟨ep, he⟩ => ?_
    have out := sortVals_data (h' := hS) (enc := fun x : Str => PyData.str x) false e (er hS) hal
    rw [leS_eq] at out
    generalize sortVals (dataKind hS (ns.map fun x => PyData.str x)) false its its = res at out he
    have vr : Vals ((ns.mergeSort leS).map V.str) res := by
      clear he sa
      generalize ns.mergeSort leS = zs at out
      induction out with
      | nil => exact .nil
      | cons h t ih => exact .cons h ih
    have hpn : H p = none := no_obj I.hok np
    refine ⟨.ref p, upd H p (.lst ((ns.mergeSort leS).map V.str)), I.laidN (t' := s.toks) k2 np hpn ⟨?_, res, ep, vr, he⟩, rfl, q p hpn⟩
    rw [List.length_map, List.length_mergeSort]
    rw [List.length_map] at hz
    exact hz
  rcases hs with hs | hs
  · obtain ⟨its, rv, hl, hz⟩ := I.list hs
    obtain ⟨o, ho, hc, n, hd⟩ := hl.isList
    exact main its "list" o n rv (.inl rfl) ho hc hd hz
  · obtain ⟨its, rv, ⟨o, ho, hc, n, hd⟩, hz⟩ := I.tuple hs
    exact main its "tuple" o n rv (.inr rfl) ho hc hd hz
end Gd
/-! names in their order -/
namespace Gd
open PySem PySem.Spec PyProof.Rows L2 PySem.W
def ltS (a b : Str) : Prop := a.cps.toList < b.cps.toList
theorem leS_total : TotalLe leS := by
  rw [← leS_eq]
  exact sortLe_total _ _ _
theorem str_ext {a b : Str} (h : a.cps.toList = b.cps.toList) : a = b := by
  obtain ⟨⟨x⟩⟩ := a
  obtain ⟨⟨y⟩⟩ := b
  have e : x = y := h
  rw [e]
theorem ltS_of {a b : Str} (h : leS a b = true) (n : a ≠ b) : ltS a b := by
  have h1 : a.cps.toList ≤ b.cps.toList := of_decide_eq_true h
  by_cases q : a.cps.toList < b.cps.toList
  · exact q
  · exact absurd (str_ext (List.le_antisymm h1 (List.not_lt.mp q))) n
theorem ltS_irrefl (a : Str) : ¬ ltS a a := List.lt_irrefl _
theorem ltS_trans {a b c : Str} (h : ltS a b) (k : ltS b c) : ltS a c := List.lt_trans h k
theorem ltS_ne {a b : Str} (h : ltS a b) : a ≠ b := fun e => by
  subst e
  exact ltS_irrefl _ h
theorem ltS_asymm {a b : Str} (h : ltS a b) : ¬ ltS b a := fun k => ltS_irrefl _ (ltS_trans h k)
theorem sort_asc {ns : List Str} (nd : ns.Nodup) : (ns.mergeSort leS).Pairwise ltS := by
  have h1 : (ns.mergeSort leS).Pairwise (fun a b => leS a b = true) := sort_pairwise leS_total ns
  have h2 : (ns.mergeSort leS).Nodup := (List.mergeSort_perm ns leS).nodup_iff.mpr nd
  exact (h1.and h2).imp fun h => ltS_of h.1 h.2
theorem asc_nodup {ns : List Str} (h : ns.Pairwise ltS) : ns.Nodup := h.imp fun h => ltS_ne h
/-- what ascends is its own sorting -/
theorem asc_sorted {ns : List Str} (h : ns.Pairwise ltS) : ns.mergeSort leS = ns :=
  List.mergeSort_of_pairwise (h.imp fun {a b} q => decide_eq_true (List.le_of_lt q))
theorem sort_perm_asc {ns ms : List Str} (p : ns.Perm ms) (h : ms.Pairwise ltS) : ns.mergeSort leS = ms := by
  have p2 : (ns.mergeSort leS).Perm ms := (List.mergeSort_perm ns leS).trans p
  have h1 : (ns.mergeSort leS).Pairwise ltS := sort_asc (p.nodup_iff.mpr (asc_nodup h))
  exact p2.eq_of_pairwise (fun a b _ _ x y => absurd y (ltS_asymm x)) h1 h
/-- one to m names, ascending -/
structure Nms (m : Nat) (ns : List Str) : Prop where
  pos : 1 ≤ ns.length
  most : ns.length ≤ m
  asc : ns.Pairwise ltS
  nm : ∀ n ∈ ns, nameV (.str n) = true
def unS : V → Str
  | .str z => z
  | _ => Str.empty
theorem unS_map {ys : List V} {zs : List Str} (p : ys.Perm (zs.map V.str)) : ∃ xs : List Str, ys = xs.map V.str ∧ xs.Perm zs := by
  have all : ∀ v ∈ ys, V.str (unS v) = v := fun v hv => by
    obtain ⟨z, _, rfl⟩ := List.mem_map.mp (p.mem_iff.mp hv)
    rfl
  refine ⟨ys.map unS, ?_, ?_⟩
  · rw [List.map_map]
    exact (List.map_id' ys).symm.trans (List.map_congr_left fun v hv => (all v hv).symm)
  · have q := p.map unS
    rw [List.map_map] at q
    exact q.trans (List.Perm.of_eq ((List.map_congr_left fun z _ => rfl).trans (List.map_id' zs)))
theorem cutV_take (xs : List V) (j : Nat) : cutV xs none (some (j : Int)) = xs.take j := by
  unfold cutV
  rw [HT.sIx_none, HT.sIx_nat, List.drop_zero, Nat.sub_zero]
  by_cases h : j ≤ xs.length
  · rw [Nat.min_eq_left h]
  · rw [Nat.min_eq_right (by omega), List.take_length, take_all (by omega)]
end Gd
/-! worths by groups, as a dict whose keys are tuples of names -/
namespace Gd
open PySem PySem.Spec PyProof.Rows L2 PySem.W
def kG (g : Grp) : List Key := g.map Sum.inr
theorem kG_V (g : Grp) : (kG g).map kV = g.map V.str := by
  unfold kG
  rw [List.map_map]
  rfl
theorem kG_inj {g h : Grp} (e : kG g = kG h) : g = h := by
  induction g generalizing h with
  | nil =>
    cases h with
    | nil => rfl
    | cons x r => cases e
  | cons x r ih =>
    cases h with
    | nil => cases e
    | cons y t =>
      have e1 : (Sum.inr x : Key) :: kG r = Sum.inr y :: kG t := e
      injection e1 with e2 e3
      injection e2 with e4
      rw [e4, ih e3]
def wDict (gs : List Grp) (W : Grp → Int) : List (List Key × V) := gs.map fun g => (kG g, V.int (W g))
theorem wDict_len (gs : List Grp) (W : Grp → Int) : (wDict gs W).length = gs.length := List.length_map ..
theorem wDict_in {gs : List Grp} {W : Grp → Int} {g : Grp} (h : g ∈ gs) : valV (wDict gs W) (kG g) = some (.int (W g)) := by
  induction gs with
  | nil => cases h
  | cons x r ih =>
    by_cases e : x = g
    · subst e
      exact valV_pos rfl
    · have hr : g ∈ r := by
        rcases List.mem_cons.mp h with q | q
        · exact absurd q.symm e
        · exact q
      have n : ¬ kG x = kG g := fun z => e (kG_inj z)
      exact (valV_neg (p := (kG x, V.int (W x))) n).trans (ih hr)
theorem wDict_out {gs : List Grp} {W : Grp → Int} {g : Grp} (h : g ∉ gs) : valV (wDict gs W) (kG g) = none := by
  induction gs with
  | nil => rfl
  | cons x r ih =>
    have n : ¬ kG x = kG g := fun z => h (by rw [kG_inj z]; exact List.mem_cons_self ..)
    exact (valV_neg (p := (kG x, V.int (W x))) n).trans (ih fun m => h (List.mem_cons_of_mem _ m))
theorem wDict_congr {gs : List Grp} {W U : Grp → Int} (h : ∀ g ∈ gs, W g = U g) : wDict gs W = wDict gs U :=
  List.map_congr_left fun g m => by rw [h g m]
theorem wDict_app (gs hs : List Grp) (W : Grp → Int) : wDict (gs ++ hs) W = wDict gs W ++ wDict hs W := List.map_append
theorem put_last {l : List (List Key × V)} {k : List Key} (v v' : V) (h : valV l k = none) : putK (l ++ [(k, v)]) k v' = l ++ [(k, v')] := by
  have ha : (l.any fun kv => decide (kv.1 = k)) = false := by
    rw [valV_any, h]
    rfl
  have hn : ∀ p ∈ l, ¬ p.1 = k := fun p m e => by
    have : (l.any fun kv => decide (kv.1 = k)) = true := List.any_eq_true.mpr ⟨p, m, decide_eq_true e⟩
    rw [ha] at this
    cases this
  unfold putK
  rw [if_pos (by rw [List.any_append]; simp), List.map_append]
  have e1 : l.map (fun kv => if kv.1 = k then (kv.1, v') else kv) = l := by
    conv => rhs; rw [← List.map_id' l]
    exact List.map_congr_left fun p m => if_neg (hn p m)
  rw [e1]
  simp
/-- the places of tuples hold, whatever else is written -/
theorem TupsAt.upd {H : Hp} {ts : List (Addr × Grp)} {d : Addr} {o : HO} (h : TupsAt H ts) (n : ∀ xs, H d ≠ some (.tup xs)) : TupsAt (upd H d o) ts := fun t m => by
  have e : t.1 ≠ d := fun z => n _ (z ▸ h t m)
  rw [upd_ne e]
  exact h t m
theorem TupsAt.drawn {p : Addr} {H H' : Hp} {ts : List (Addr × Grp)} (h : TupsAt H ts) (c : CupAt H p) (d : Drawn p H H') : TupsAt H' ts := fun t m => by
  obtain ⟨x, y, z, e⟩ := c
  exact d.kp _ _ (ne_of (h t m) e (by intro q; cases q)) (h t m)
theorem TupsAt.get {H : Hp} {ts : List (Addr × Grp)} (h : TupsAt H ts) {i : Nat} {t : Addr × Grp} (e : ts[i]? = some t) : H t.1 = some (.tup (t.2.map V.str)) := h t (List.mem_of_getElem? e)
/-! groups of names without doubles -/
theorem subs_nodup : ∀ (ns : List Str) (fs : List Grp), ns.Nodup → fs.Nodup → (∀ f ∈ fs, ∀ n ∈ ns, n ∉ f) → (subsFrom fs ns).Nodup
  | [], fs, _, h, _ => h
  | n :: r, fs, hn, h, k => by
    obtain ⟨hnr, hr⟩ := List.nodup_cons.mp hn
    refine subs_nodup r _ hr ?_ ?_
    · refine List.nodup_append.mpr ⟨h, ?_, ?_⟩
      · refine (List.pairwise_map).mpr (h.imp fun {a b} q e => q ?_)
        exact (List.append_inj' e rfl).1
      · intro a ha b hb e
        subst e
        obtain ⟨c, hc, rfl⟩ := List.mem_map.mp hb
        exact k _ ha n (List.mem_cons_self ..) (List.mem_append.mpr (.inr (List.mem_singleton.mpr rfl)))
    · intro f hf m hm
      rcases List.mem_append.mp hf with hf | hf
      · exact k f hf m (List.mem_cons_of_mem _ hm)
      · obtain ⟨c, hc, rfl⟩ := List.mem_map.mp hf
        intro q
        rcases List.mem_append.mp q with q | q
        · exact k c hc m (List.mem_cons_of_mem _ hm) q
        · rw [List.mem_singleton.mp q] at hm
          exact hnr hm
theorem groups_nodup {ns : List Str} (h : ns.Nodup) : (groupsOf ns).Nodup := by
  refine (List.mergeSort_perm _ _).nodup_iff.mpr (subs_nodup ns [[]] h (by simp) fun f hf n _ => ?_)
  rw [List.mem_singleton.mp hf]
  exact List.not_mem_nil
/-- every group's persons are among the names, in their order -/
theorem subs_sub : ∀ (ns : List Str) (fs : List Grp) (g : Grp), g ∈ subsFrom fs ns → ∃ f ∈ fs, ∃ r, r.Sublist ns ∧ g = f ++ r
  | [], fs, g, h => ⟨g, h, [], List.Sublist.refl _, (List.append_nil g).symm⟩
  | n :: ns, fs, g, h => by
    obtain ⟨f, hf, r, hr, rfl⟩ := subs_sub ns _ g h
    rcases List.mem_append.mp hf with hf | hf
    · exact ⟨f, hf, r, hr.cons n, rfl⟩
    · obtain ⟨c, hc, rfl⟩ := List.mem_map.mp hf
      exact ⟨c, hc, n :: r, hr.cons_cons n, by rw [List.append_assoc]; rfl⟩
theorem subs_mem : ∀ (ns : List Str) (fs : List Grp) (f r : Grp), f ∈ fs → r.Sublist ns → f ++ r ∈ subsFrom fs ns
  | [], fs, f, r, hf, hr => by
    rw [List.sublist_nil.mp hr, List.append_nil]
    exact hf
  | n :: ns, fs, f, r, hf, hr => by
    cases hr with
    | cons _ h => exact subs_mem ns _ f r (List.mem_append.mpr (.inl hf)) h
    | cons_cons _ h =>
      rename_i r'
      have := subs_mem ns (fs ++ fs.map (· ++ [n])) (f ++ [n]) r' (List.mem_append.mpr (.inr (List.mem_map.mpr ⟨f, hf, rfl⟩))) h
      rw [List.append_assoc] at this
      exact this
theorem groups_mem {ns : List Str} {g : Grp} : g ∈ groupsOf ns ↔ g.Sublist ns := by
  unfold groupsOf
  rw [(List.mergeSort_perm _ _).mem_iff]
  constructor
  · intro h
    obtain ⟨f, hf, r, hr, rfl⟩ := subs_sub ns _ g h
    rw [List.mem_singleton.mp hf]
    exact hr
  · intro h
    exact subs_mem ns [[]] [] g (List.mem_singleton.mpr rfl) h
theorem letter_small {c : Nat} (h : c ∈ letters) : c < 1114112 := letters_small c h
theorem name_ok {n : Str} (h : nameV (.str n) = true) : OkT 8 n := by
  have e : (decide (1 ≤ n.length) && decide (n.length ≤ 8) && n.cps.toList.all (fun c => decide (c ∈ letters))) = true := h
  rw [Bool.and_eq_true, Bool.and_eq_true] at e
  exact ⟨of_decide_eq_true e.1.2, fun c hc => letters_small c (of_decide_eq_true (List.all_eq_true.mp e.2 c hc))⟩
theorem shaped_texts : ∀ l : List Str, (∀ n ∈ l, ∀ c ∈ n.cps.toList, c < 1114112) → SeqAt.shaped (.list (l.map PyData.str)) = true := by
  intro l h
  have h1 : PyData.canLayAll0 (l.map PyData.str) = true := by
    induction l with
    | nil => rfl
    | cons n r ih =>
      have e : PyData.strOk n = true := by
        unfold PyData.strOk
        rw [← Array.all_toList, List.all_eq_true]
        exact fun c hc => decide_eq_true (h n (List.mem_cons_self ..) c hc)
      show (PyData.strOk n && PyData.canLayAll0 (r.map PyData.str)) = true
      rw [e, ih fun m hm => h m (List.mem_cons_of_mem _ hm)]
      rfl
  unfold SeqAt.shaped
  show (PyData.canLayAll0 _ && decide (PyData.depthAll _ + 1 ≤ 64)) = true
  rw [h1, depth_strs]
  rfl
theorem eqV_str (a b : Str) : eqV (.str a) (.str b) = decide (a = b) := by
  show (a == b) = decide (a = b)
  rw [Bool.eq_iff_iff]
  simp
theorem inV_names (n : Str) (g : Grp) : inV (.str n) (g.map V.str) = decide (n ∈ g) := by
  unfold inV
  induction g with
  | nil => simp
  | cons x r ih =>
    rw [List.map_cons, List.any_cons, ih, eqV_str, Bool.eq_iff_iff]
    simp only [Bool.or_eq_true, decide_eq_true_eq, List.mem_cons]
    constructor
    · intro h
      rcases h with h | h
      · exact .inl h.symm
      · exact .inr h
    · intro h
      rcases h with h | h
      · exact .inl h.symm
      · exact .inr h
theorem flat_names (g : Grp) : (g.map V.str).all flatV = true := by
  rw [List.all_map, List.all_eq_true]
  intro _ _
  rfl
end Gd
/-! dict() of a list of pairs whose keys are tuples -/
namespace Gd
open PySem PySem.Spec PyProof.Rows L2 PySem.Calls
section
variable {prog : Program} {w : World} {A : Around} {E : Value → Shared → Prop}
abbrev TK (prog : Program) (w : World) : HeapKind prog w (List Key) := tupleKind (mixKind prog w)
theorem dictH_ext {h h' : Heap} {S : Addr} {acc : List (List Key × Addr × Value)} (hm : h.DictOfH (TK prog w) S acc) (hS : ∀ o, h.get? S = some o → h'.get? S = some o)
    (hk : ∀ b o items n, h.get? b = some o → o.data = .seq items n → h'.get? b = some o) : h'.DictOfH (TK prog w) S acc := by
  obtain ⟨o, es, ep, ho, hc, hd, he, his, hn⟩ := hm
  exact ⟨o, es, ep, hS _ ho, hc, hd, he, fun x hx => tupleKind_stays.stays hk (his x hx), hn⟩
def mergedH (acc : List (List Key × Addr × Value)) (rest : List (List Key × Addr × Value)) : List (List Key × Addr × Value) := rest.foldl (fun acc q => storedH acc q.1 q.2.1 q.2.2) acc
theorem storedH_len (acc : List (List Key × Addr × Value)) (k : List Key) (a : Addr) (v : Value) : (storedH acc k a v).length ≤ acc.length + 1 := by
  cases e : atKey acc k with
  | none => rw [storedH_new e, List.length_append]; exact Nat.le_refl _
  | some p => rw [storedH_old e, List.length_map]; exact Nat.le_succ _
theorem loopT {R : Result → Shared → Prop} {S I l : Addr} {items : Array Value} {res : Value} (hh : A.handled = none) (hu : A.units + 4 < cLine) (hlI : l ≠ I) (hSI : S ≠ I) (hSl : S ≠ l) :
    ∀ (rest : List (List Key × Addr × Value)) (i : Nat) (acc : List (List Key × Addr × Value)) (ix : Int) (t : Tok) (s : Shared), items.size = i + rest.length → acc.length + rest.length ≤ sizeLine →
      (∀ (j : Nat) (q : List Key × Addr × Value), rest[j]? = some q → ∃ b : Addr, items[i + j]? = some (.ref b) ∧ b ≠ S ∧ b ≠ I ∧ IsTup s.heap b #[.ref q.2.1, q.2.2] ∧ (TK prog w).is s.heap q.1 q.2.1) →
      s.heap.IsListIter I l i → s.heap.IsList l items → s.heap.DictOfH (TK prog w) S acc →
      (∀ h' tk, h'.DictOfH (TK prog w) S (mergedH acc rest) → (∀ b o, b ≠ S → b ≠ I → s.heap.get? b = some o → h'.get? b = some o) → R (.ok (.ret res)) { s with heap := h', toks := tk }) →
      codeAny (model prog w) A (.builtin "dict.update.loop" ⟨[.ref S, .ref I, .int ix t, res], []⟩) R s
  | [], i, acc, ix, t, s, hsz, hln, ht, hit, hl, hm, hR => by
    refine codeAny_builtin ud_entry ?_
    rw [Around.under_plainId ud_plain _]
    show wpAny _ A.in1 (pyNext (.ref I) >>= _) _ _ s
    have hend : items[i]? = none := Array.getElem?_eq_none (Nat.le_of_eq hsz)
    refine wpAny_bind (wpAny_pyNext_list_end (A := A.in1) hh hit hl hend fun h' he => ?_)
    show wpAny _ A.in1 (Builtin.Dict.addKeywords S [] >>= _) _ _ _
    refine wpAny_bind (wpAny_pure (wpAny_pure ?_))
    refine hR h' s.toks (dictH_ext hm (fun o e => he S o hSI e) fun b o xs n e d => he b o ?_ e) (fun b o _ hb e => he b o hb e)
    intro z
    subst z
    obtain ⟨o2, e2, _, d2⟩ := hit
    rw [e] at e2
    cases e2
    rw [d] at d2
    cases d2
  | q :: rest, i, acc, ix, t, s, hsz, hln, ht, hit, hl, hm, hR => by
    obtain ⟨b, hb, hbS, hbI, htup, hk⟩ := ht 0 q rfl
    rw [List.length_cons] at hsz hln
    refine codeAny_builtin ud_entry ?_
    rw [Around.under_plainId ud_plain _]
    show wpAny _ A.in1 (pyNext (.ref I) >>= _) _ _ s
    refine wpAny_bind (wpAny_pyNext_list_item (x := .ref b) hit hl (by simpa using hb) fun h1 hit1 hs1 => ?_)
    have notI : ∀ b o xs n, s.heap.get? b = some o → o.data = Data.seq xs n → b ≠ I := by
      intro b o xs n e d z
      subst z
      obtain ⟨o2, e2, _, d2⟩ := hit
      rw [e] at e2
      cases e2
      rw [d] at d2
      cases d2
    have seq1 : ∀ b o xs n, s.heap.get? b = some o → o.data = Data.seq xs n → h1.get? b = some o := fun b o xs n e d => hs1.extBut b o (notI b o xs n e d) e
    have ht1 : IsTup h1 b #[.ref q.2.1, q.2.2] := htup.extBut hs1.extBut hbI
    have hl1 : h1.IsList l items := hl.extBut hs1.extBut hlI
    have hm1 : h1.DictOfH (TK prog w) S acc := dictH_ext hm (fun o e => hs1.extBut S o hSI e) seq1
    obtain ⟨o, ho, hc, n, hd⟩ := id ht1
    show wpAny _ A.in1 (holding [Value.ref b] _ >>= _) _ _ _
    refine wpAny_bind (wpAny_holding ?_)
    refine wpAny_bind (wpAny_tryCatch ?_)
    unfold Builtin.Dict.pairItems
    refine wpAny_bind (wpAny_typeOf (T := "tuple") ⟨o, ho, hc⟩ ?_)
    rw [if_pos (by first | decide | rfl | simp)]
    refine wpAny_bind (wpAny_seqItems ho hd (wpAny_pure ?_))
    show wpAny _ A.in1 (holding [Value.ref q.2.1, q.2.2] (dictSet S (.ref q.2.1) q.2.2)) _ _ _
    have room : (TK prog w).room A.in1 := by
      show A.units + 1 < cLine
      omega
    refine wpAny_holding (wpAny_dictSet_heap (knd := TK prog w) (k := q.1) room (tupleKind_stays.stays seq1 hk) hm1 (fun h2 hm2 hs2 => ?_) (by omega))
    have notS : ∀ b o xs n, h1.get? b = some o → o.data = Data.seq xs n → b ≠ S := by
      intro b o xs n e d z
      subst z
      obtain ⟨o2, _, _, e2, _, d2, _⟩ := hm1
      rw [e] at e2
      cases e2
      rw [d] at d2
      cases d2
    refine wpAny_pure ⟨plainId_quiet ud_plain _, loopT (items := items) hh hu hlI hSI hSl rest (i + 1) (storedH acc q.1 q.2.1 q.2.2) (ix + 1) 0 _ (show items.size = i + 1 + rest.length by omega) ?_ (fun j q' e => ?_) ?_ ?_ hm2 fun h' tk hd' k => ?_⟩
    · have z := storedH_len acc q.1 q.2.1 q.2.2
      omega
    · obtain ⟨b', hb', hbS', hbI', htup', hk'⟩ := ht (j + 1) q' (by simpa using e)
      refine ⟨b', ?_, hbS', hbI', (htup'.extBut hs1.extBut hbI').extBut hs2.extBut hbS', tupleKind_stays.stays (fun c oc xs n e d => hs2.extBut c oc (notS c oc xs n e d) e) (tupleKind_stays.stays seq1 hk')⟩
      rw [show i + 1 + j = i + (j + 1) by omega]
      exact hb'
    · exact hit1.at fun o' e => hs2.extBut I o' (Ne.symm hSI) e
    · exact hl1.extBut hs2.extBut (Ne.symm hSl)
    · exact hR h' tk hd' fun c oc h3 h4 e => k c oc h3 h4 (hs2.extBut c oc h3 (hs1.extBut c oc h4 e))
theorem dict_pairsT {s : Shared} {l : Addr} {ol : Obj} {items : Array Value} {n : Nat} {prs : List (List Key × Addr × Value)} {Q : Value → Shared → Prop} (hh : A.handled = none) (hu : A.units + 8 < cLine) (hl : s.heap.get? l = some ol) (hc : ol.cls = .type "list") (hd : ol.dict = none)
    (hdat : ol.data = .seq items n) (hsz : items.size = prs.length) (hln : prs.length ≤ sizeLine)
    (ht : ∀ (j : Nat) (q : List Key × Addr × Value), prs[j]? = some q → ∃ b : Addr, items[j]? = some (.ref b) ∧ IsTup s.heap b #[.ref q.2.1, q.2.2] ∧ (TK prog w).is s.heap q.1 q.2.1)
    (h : ∀ h' tk, h'.DictOfH (TK prog w) s.heap.objs.size (mergedH [] prs) → (∀ b o, s.heap.get? b = some o → h'.get? b = some o) → Q (.ref s.heap.objs.size) { s with heap := h', toks := tk }) :
    wpAny (model prog w) A (call (.type "dict") [.ref l]) Q E s := by
  refine callType_codes (Q₁ := fun obj s₁ => obj = .ref s.heap.objs.size ∧ s₁ = { s with heap := s.heap.push { cls := .type "dict", data := .dict #[] } }) PySem.F.kt_called_dict (PySem.F.kt_typeCall_dict_1 _) PySem.F.entry_dict_init (kt_code_dict_new _ ⟨rfl, rfl⟩) ?_
  rintro obj s₁ ⟨rfl, rfl⟩
  have hnew : (s.heap.push { cls := .type "dict", data := .dict #[] }).DictOfH (TK prog w) s.heap.objs.size [] := Heap.DictOfH.new s.heap
  have k0 : ∀ b o, s.heap.get? b = some o → (s.heap.push { cls := .type "dict", data := .dict #[] }).get? b = some o := fun b o e => Heap.get?_push_of_some _ e
  have kt : Shared.TypeIs { s with heap := s.heap.push { cls := .type "dict", data := .dict #[] } } (.ref s.heap.objs.size) "dict" := ⟨_, Heap.get?_push_size _ rfl, rfl⟩
  refine ⟨kt, PySem.F.args_dict_init_2 _ _, ?_⟩
  unfold Builtin.«dict.__init__»
  refine wpAny_bind ?_
  unfold Builtin.Dict.selfAndRest
  refine wpAny_bind (wpAny_notOrdered_dict kt ?_)
  show wpAny _ _ (pure (s.heap.objs.size, [Value.ref l])) _ _ _
  refine wpAny_pure ?_
  show wpAny _ _ (Builtin.Dict.updateFrom "dict.__init__" s.heap.objs.size (.ref l) [] .none) _ _ _
  unfold Builtin.Dict.updateFrom
  refine wpAny_bind (wpAny_typeOf (T := "list") ⟨ol, k0 _ _ hl, hc⟩ ?_)
  rw [if_pos (by first | decide | rfl | simp)]
  refine wpAny_bind (miss_list (k0 _ _ hl) hc hdat hd hh fun h1 tk1 hk1 => ?_)
  rw [if_pos (show (none : Option Value).isNone = true from rfl)]
  refine wpAny_bind (wpAny_rule ?_)
  have hl1 : h1.IsList l items := ⟨ol, hk1 _ _ (k0 _ _ hl), hc, n, hdat⟩
  have hS1 : s.heap.objs.size < h1.objs.size := by
    have e : (s.heap.push { cls := .type "dict", data := .dict #[] }).get? s.heap.objs.size = some { cls := .type "dict", data := .dict #[] } := Heap.get?_push_size _ rfl
    exact Heap.lt_size (hk1 _ _ e)
  refine wpAny_bind (wpAny_pyIter_list hl1 ?_)
  have k2 : ∀ b o, h1.get? b = some o → (h1.push { cls := .type "list_iterator", data := .fields #[.ref l, .int 0 0] }).get? b = some o := fun b o e => Heap.get?_push_of_some _ e
  have hlt : l < s.heap.objs.size := Heap.lt_size hl
  have kk : ∀ b o, s.heap.get? b = some o → (h1.push { cls := .type "list_iterator", data := .fields #[.ref l, .int 0 0] }).get? b = some o := fun b o e => k2 _ _ (hk1 _ _ (k0 _ _ e))
  have key := loopT (prog := prog) (w := w) (A := A.in1) (R := wants (fun r s₂ => r = .none ∧ Q (.ref s.heap.objs.size) s₂) E) (S := s.heap.objs.size) (I := h1.objs.size) (l := l) (items := items) (res := Value.none) hh (by show A.units + 1 + 4 < cLine; omega)
    (Nat.ne_of_lt (Nat.lt_trans hlt hS1)) (Nat.ne_of_lt hS1) (Nat.ne_of_gt hlt) prs 0 [] 0 0
    { s with heap := h1.push { cls := .type "list_iterator", data := .fields #[.ref l, .int 0 0] }, toks := tk1 } (by rw [hsz, Nat.zero_add]) (by rw [List.length_nil, Nat.zero_add]; exact hln)
    (fun j q e => by
      obtain ⟨b, e1, e2, e3⟩ := ht j q e
      have hb : b < s.heap.objs.size := e2.lt
      exact ⟨b, by rw [Nat.zero_add]; exact e1, Nat.ne_of_lt hb, Nat.ne_of_lt (Nat.lt_trans hb hS1), e2.keeps kk, tupleKind_stays.stays (fun b o _ _ e _ => kk b o e) e3⟩)
    ⟨_, Heap.get?_push_size _ rfl, rfl, rfl⟩ (hl1.at fun o e => k2 _ _ e) (dictH_ext hnew (fun o e => k2 _ _ (hk1 _ _ e)) fun b o _ _ e _ => k2 _ _ (hk1 _ _ e))
    (fun h' tk hd' k => ⟨rfl, h h' tk hd' fun b o e => k b o (Nat.ne_of_lt (Heap.lt_size e)) (Nat.ne_of_lt (Nat.lt_trans (Heap.lt_size e) hS1)) (kk b o e)⟩)
  first
    | exact wpAny_pure ⟨plainId_quiet ud_plain _, key⟩
    | exact wpAny_bind (wpAny_pure (wpAny_pure ⟨plainId_quiet ud_plain _, key⟩))
end
def mergeT (kvs more : List (List Key × V)) : List (List Key × V) := more.foldl (fun acc kv => putK acc kv.1 kv.2) kvs
/-- what stands for a list of pairs: the pair's address, the key's, the key, the value -/
structure PairE where
  key : Addr
  ks : List Key
  val : V
def rDictT (K : PySem.W.Frag) : List V → Hp → VK → Prop := fun xs H Q => ∃ (a : Addr) (ps : List Addr) (es : List PairE), xs = [.ref a] ∧ SqL K H a (ps.map V.ref) ∧ Paired (fun p e => H p = some (.tup [.ref e.key, e.val]) ∧ H e.key = some (.tup (e.ks.map kV))) ps es ∧
  ∀ p, H p = none → Q (.ref p) (upd H p (.dT (mergeT [] (es.map fun e => (e.ks, e.val)))))
section
variable {X : Cx}
theorem mergeT_len : ∀ (more kvs : List (List Key × V)), (mergeT kvs more).length ≤ kvs.length + more.length
  | [], kvs => Nat.le_refl _
  | e :: more, kvs => by
    have h1 := mergeT_len more (putK kvs e.1 e.2)
    have h2 := length_putK kvs e.1 e.2
    show (mergeT (putK kvs e.1 e.2) more).length ≤ kvs.length + (more.length + 1)
    omega
theorem call_dictT (hc : X.calm = true) (hu : X.A.units + 64 < cLine) : CallR X (.type "dict") (rDictT X.K) := by
  intro pins s σ H xs us Q I r q
  obtain ⟨a, ps, es, rfl, hq, hp, q⟩ := q
  obtain ⟨its, rv, hl, hz⟩ := I.list hq
  rw [Vals.ref1 r]
  have hits := refs_at rv
  have ex : ∃ prs : List (List Key × Addr × Value), prs.length = ps.length ∧ (∀ (j : Nat) (q : List Key × Addr × Value), prs[j]? = some q → ∃ b : Addr, ps[j]? = some b ∧ IsTup s.heap b #[.ref q.2.1, q.2.2] ∧ (TK X.prog X.w).is s.heap q.1 q.2.1) ∧
      ∀ (kvs : List (List Key × V)) (acc : List (List Key × Addr × Value)), KT H kvs acc → KT H (mergeT kvs (es.map fun e => (e.ks, e.val))) (mergedH acc prs) := by
    clear hq rv hl hz hits q r
    induction hp with
    | nil => exact ⟨[], rfl, fun j q e => by simp at e, fun kvs acc h => h⟩
    | @cons p e ps es h t ih =>
      obtain ⟨prs, i1, i2, i3⟩ := ih
      obtain ⟨h1, h2⟩ := h
      obtain ⟨its, rv, ht, _⟩ := I.tuple (.inl (.inl h1))
      obtain ⟨u, y, ei, ru, ry⟩ := vals2 rv
      subst ei
      obtain rfl : u = Value.ref e.key := ru
      refine ⟨(e.ks, e.key, y) :: prs, by rw [List.length_cons, List.length_cons, i1], fun j q hj => ?_, fun kvs acc hk => i3 _ _ (hk.put e.ks h2 ry)⟩
      cases j with
      | zero =>
        have e' : (e.ks, e.key, y) = q := Option.some.inj hj
        subst e'
        exact ⟨p, rfl, ht, key_of I.hok h2⟩
      | succ j =>
        obtain ⟨b, e1, e2, e3⟩ := i2 j q (by simpa using hj)
        exact ⟨b, by simpa using e1, e2, e3⟩
  obtain ⟨prs, n1, n2, n3⟩ := ex
  obtain ⟨o, n, ho, hcl, hd, hdat⟩ := hl
  rw [List.length_map] at hz
  refine dict_pairsT (prs := prs) (I.ok.hd hc) (by omega) ho hcl hd hdat (by simp [hits, n1]) (by rw [n1]; exact hz) (fun j q' e => ?_) fun h' tk hd' k => ?_
  · obtain ⟨b, e1, e2, e3⟩ := n2 j q' e
    exact ⟨b, by simp [hits, e1], e2, e3⟩
  · have hm : (s.heap.objs.size == sysModules) = false := beq_eq_false_iff_ne.mpr (Nat.ne_of_gt I.big)
    have hlen : (mergeT [] (es.map fun e => (e.ks, e.val))).length ≤ sizeLine := by
      refine Nat.le_trans (mergeT_len _ []) ?_
      rw [List.length_nil, Nat.zero_add, List.length_map, ← hp.length]
      exact hz
    obtain ⟨o', es', ep, p1, p2, p3, p4, _, p6⟩ := hd'
    exact ⟨.ref s.heap.objs.size, upd H s.heap.objs.size (.dT (mergeT [] (es.map fun e => (e.ks, e.val)))), I.laid (t' := tk) k (Nat.le_refl _) (show ObjOk X.prog X.w _ _ _ (.dT (mergeT [] (es.map fun e => (e.ks, e.val)))) from ⟨hlen, hm, mergedH [] prs, (n3 [] [] .nil).keeps (fun b ys e => (upd_ne (ne_of_none e (I.hok.fresh (Nat.le_refl _)))).trans e), o', es', ep, p1, p2, p3, p4, p6⟩), rfl, q _ (I.hok.fresh (Nat.le_refl _))⟩
end
theorem atK_none {kvs : List (List Key × V)} {k : List Key} (h : k ∉ kvs.map (·.1)) : (kvs.any fun kv => decide (kv.1 = k)) = false := by
  rw [List.any_eq_false]
  intro kv hkv
  simp
  intro e
  exact h (List.mem_map.mpr ⟨kv, hkv, e⟩)
theorem mergeT_new : ∀ (more kvs : List (List Key × V)), ((kvs ++ more).map (·.1)).Nodup → mergeT kvs more = kvs ++ more
  | [], kvs, _ => (List.append_nil _).symm
  | e :: more, kvs, h => by
    have h0 : e.1 ∉ kvs.map (·.1) := by
      rw [List.map_append, List.map_cons] at h
      exact fun z => (List.nodup_append.mp h).2.2 _ z _ (List.mem_cons_self ..) rfl
    have p : putK kvs e.1 e.2 = kvs ++ [(e.1, e.2)] := by
      unfold putK
      rw [atK_none h0]
      rfl
    show mergeT (putK kvs e.1 e.2) more = _
    rw [p, mergeT_new more (kvs ++ [(e.1, e.2)]) (by simpa using h)]
    simp
theorem mergeT_self {kvs : List (List Key × V)} (h : (kvs.map (·.1)).Nodup) : mergeT [] kvs = kvs := mergeT_new kvs [] h
/-! pairs of groups and worths, laid out -/
def PrsAt (H : Hp) (l : List (Addr × PairE)) : Prop := ∀ x ∈ l, H x.1 = some (.tup [.ref x.2.key, x.2.val]) ∧ H x.2.key = some (.tup (x.2.ks.map kV))
abbrev prefs (l : List (Addr × PairE)) : List V := l.map fun x => V.ref x.1
abbrev pdata (l : List (Addr × PairE)) : List (List Key × V) := l.map fun x => (x.2.ks, x.2.val)
theorem PrsAt.nil {H : Hp} : PrsAt H [] := fun _ m => nomatch m
theorem PrsAt.same {H H' : Hp} {l : List (Addr × PairE)} (h : PrsAt H l) (s : ∀ b o, H b = some o → H' b = some o) : PrsAt H' l := fun x m => ⟨s _ _ (h x m).1, s _ _ (h x m).2⟩
theorem PrsAt.upd {H : Hp} {l : List (Addr × PairE)} {d : Addr} {o : HO} (h : PrsAt H l) (n : ∀ xs, H d ≠ some (.tup xs)) : PrsAt (upd H d o) l := fun x m => by
  obtain ⟨h1, h2⟩ := h x m
  have e1 : x.1 ≠ d := fun z => n _ (z ▸ h1)
  have e2 : x.2.key ≠ d := fun z => n _ (z ▸ h2)
  rw [upd_ne e1, upd_ne e2]
  exact ⟨h1, h2⟩
theorem PrsAt.snoc {H : Hp} {l : List (Addr × PairE)} {x : Addr × PairE} (h : PrsAt H l) (h1 : H x.1 = some (.tup [.ref x.2.key, x.2.val])) (h2 : H x.2.key = some (.tup (x.2.ks.map kV))) : PrsAt H (l ++ [x]) := fun y m => by
  rcases List.mem_append.mp m with m | m
  · exact h y m
  · rw [List.mem_singleton.mp m]
    exact ⟨h1, h2⟩
theorem PrsAt.paired {H : Hp} : ∀ {l : List (Addr × PairE)}, PrsAt H l → Paired (fun p e => H p = some (.tup [.ref e.key, e.val]) ∧ H e.key = some (.tup (e.ks.map kV))) (l.map (·.1)) (l.map (·.2))
  | [], _ => .nil
  | x :: l, h => .cons (h x (List.mem_cons_self ..)) (PrsAt.paired fun y m => h y (List.mem_cons_of_mem _ m))
theorem wDict_nodup {gs : List Grp} {W : Grp → Int} (h : gs.Nodup) : ((wDict gs W).map (·.1)).Nodup := by
  unfold wDict
  rw [List.map_map]
  exact (List.pairwise_map).mpr (h.imp fun {a b} q e => q (kG_inj e))
def rDictG (K : PySem.W.Frag) : List V → Hp → VK → Prop := fun xs H Q => ∃ (a : Addr) (l : List (Addr × PairE)) (gs : List Grp) (W : Grp → Int), xs = [.ref a] ∧ SqL K H a (prefs l) ∧ PrsAt H l ∧ pdata l = wDict gs W ∧ gs.Nodup ∧
  ∀ p, H p = none → Q (.ref p) (upd H p (.dT (wDict gs W)))
theorem call_dictG {X : Cx} (hc : X.calm = true) (hu : X.A.units + 64 < cLine) : CallR X (.type "dict") (rDictG X.K) := fun pins s σ H xs us Q I r q => by
  obtain ⟨a, l, gs, W, rfl, hq, hp, hd, hn, q⟩ := q
  refine call_dictT hc hu pins s σ H _ us Q I r ⟨a, l.map (·.1), l.map (·.2), rfl, by rw [List.map_map]; exact hq, hp.paired, fun p np => ?_⟩
  have e : mergeT [] ((l.map (·.2)).map fun e => (e.ks, e.val)) = wDict gs W := by
    rw [List.map_map]
    show mergeT [] (pdata l) = _
    rw [hd]
    exact mergeT_self (wDict_nodup hn)
  rw [e]
  exact q p np
theorem prefs_len {l : List (Addr × PairE)} {gs : List Grp} {W : Grp → Int} (h : pdata l = wDict gs W) : (prefs l).length = gs.length := by
  have e : (prefs l).length = (pdata l).length := by rw [List.length_map, List.length_map]
  rw [e, h, wDict_len]
/-- one more pair, just laid, behind the others in the list at L -/
theorem prs_next {H : Hp} {l : List (Addr × PairE)} {gs : List Grp} {W : Grp → Int} {L N b : Addr} {g : Grp} (hL : H L = some (.lst (prefs l))) (h : PrsAt H l) (hd : pdata l = wDict gs W) (hg : H b = some (.tup (g.map V.str))) (nN : H N = none) {x : Int} (hx : x = W g) :
    (upd H N (.tup [V.ref b, .int x])) L = some (.lst (prefs l)) ∧ (upd (upd H N (.tup [V.ref b, .int x])) L (.lst (prefs l ++ [V.ref N]))) L = some (.lst (prefs (l ++ [(N, ⟨b, kG g, .int x⟩)]))) ∧
      PrsAt (upd (upd H N (.tup [V.ref b, .int x])) L (.lst (prefs l ++ [V.ref N]))) (l ++ [(N, ⟨b, kG g, .int x⟩)]) ∧ pdata (l ++ [(N, ⟨b, kG g, .int x⟩)]) = wDict (gs ++ [g]) W := by
  have sN := same_new (o := HO.tup [V.ref b, .int x]) nN
  refine ⟨sN _ _ hL, ?_, ?_, ?_⟩
  · rw [upd_same]
    unfold prefs
    rw [List.map_append]
    rfl
  · refine PrsAt.upd ?_ ?_
    · refine (h.same sN).snoc upd_same ?_
      rw [kG_V]
      exact sN _ _ hg
    · intro xs e
      rw [sN _ _ hL] at e
      cases e
  · subst hx
    unfold pdata
    rw [List.map_append, wDict_app]
    exact congrArg (· ++ _) hd
/-! dicts by names -/
def nDict (ns : List Str) (C : Str → Int) : List (Key × V) := ns.map fun n => (Sum.inr n, V.int (C n))
theorem nDict_len (ns : List Str) (C : Str → Int) : (nDict ns C).length = ns.length := List.length_map ..
theorem nDict_app (as bs : List Str) (C : Str → Int) : nDict (as ++ bs) C = nDict as C ++ nDict bs C := List.map_append
theorem nDict_congr {ns : List Str} {C D : Str → Int} (h : ∀ n ∈ ns, C n = D n) : nDict ns C = nDict ns D := List.map_congr_left fun n m => by rw [h n m]
theorem nDict_in {ns : List Str} {C : Str → Int} {n : Str} (h : n ∈ ns) : valV (nDict ns C) (Sum.inr n) = some (.int (C n)) := by
  induction ns with
  | nil => cases h
  | cons x r ih =>
    by_cases e : x = n
    · subst e
      exact valV_pos rfl
    · have hr : n ∈ r := by
        rcases List.mem_cons.mp h with q | q
        · exact absurd q.symm e
        · exact q
      have z : ¬ (Sum.inr x : Key) = Sum.inr n := fun z => e (Sum.inr.inj z)
      exact (valV_neg (p := ((Sum.inr x : Key), V.int (C x))) z).trans (ih hr)
theorem nDict_out {ns : List Str} {C : Str → Int} {n : Str} (h : n ∉ ns) : valV (nDict ns C) (Sum.inr n) = none := by
  induction ns with
  | nil => rfl
  | cons x r ih =>
    have z : ¬ (Sum.inr x : Key) = Sum.inr n := fun z => h (by rw [Sum.inr.inj z]; exact List.mem_cons_self ..)
    exact (valV_neg (p := ((Sum.inr x : Key), V.int (C x))) z).trans (ih fun m => h (List.mem_cons_of_mem _ m))
theorem mergeK_new : ∀ (more kvs : List (Key × V)), ((kvs ++ more).map (·.1)).Nodup → mergeK kvs more = kvs ++ more
  | [], kvs, _ => (List.append_nil _).symm
  | e :: more, kvs, h => by
    have h0 : e.1 ∉ kvs.map (·.1) := by
      rw [List.map_append, List.map_cons] at h
      exact fun z => (List.nodup_append.mp h).2.2 _ z _ (List.mem_cons_self ..) rfl
    have h1 : (kvs.any fun kv => decide (kv.1 = e.1)) = false := by
      rw [List.any_eq_false]
      intro kv hkv
      simp
      intro z
      exact h0 (List.mem_map.mpr ⟨kv, hkv, z⟩)
    have p : putK kvs e.1 e.2 = kvs ++ [(e.1, e.2)] := by
      unfold putK
      rw [h1]
      rfl
    show mergeK (putK kvs e.1 e.2) more = _
    rw [p, mergeK_new more (kvs ++ [(e.1, e.2)]) (by simpa using h)]
    simp
theorem nDict_nodup {ns : List Str} {C : Str → Int} (h : ns.Nodup) : ((nDict ns C).map (·.1)).Nodup := by
  unfold nDict
  rw [List.map_map]
  exact (List.pairwise_map).mpr (h.imp fun {a b} q e => q (Sum.inr.inj e))
def PrnAt (H : Hp) (l : List (Addr × Str × Int)) : Prop := ∀ x ∈ l, H x.1 = some (.tup [.str x.2.1, .int x.2.2])
abbrev nrefs (l : List (Addr × Str × Int)) : List V := l.map fun x => V.ref x.1
abbrev ndata (l : List (Addr × Str × Int)) : List (Key × V) := l.map fun x => (Sum.inr x.2.1, V.int x.2.2)
theorem PrnAt.nil {H : Hp} : PrnAt H [] := fun _ m => nomatch m
theorem PrnAt.same {H H' : Hp} {l : List (Addr × Str × Int)} (h : PrnAt H l) (s : ∀ b o, H b = some o → H' b = some o) : PrnAt H' l := fun x m => s _ _ (h x m)
theorem prn_upd {H : Hp} {l : List (Addr × Str × Int)} {d : Addr} {o : HO} (h : PrnAt H l) (n : ∀ xs, H d ≠ some (.tup xs)) : PrnAt (upd H d o) l := fun x m => by
  have e1 : x.1 ≠ d := fun z => n _ (z ▸ h x m)
  rw [upd_ne e1]
  exact h x m
theorem prn_paired {K : PySem.W.Frag} {H : Hp} : ∀ {l : List (Addr × Str × Int)}, PrnAt H l → Paired (fun p (kv : Key × V) => SqT K H p [kV kv.1, kv.2]) (l.map (·.1)) (ndata l)
  | [], _ => .nil
  | x :: l, h => .cons (.inl (.inl (h x (List.mem_cons_self ..)))) (prn_paired fun y m => h y (List.mem_cons_of_mem _ m))
theorem nrefs_len {l : List (Addr × Str × Int)} {ns : List Str} {C : Str → Int} (h : ndata l = nDict ns C) : (nrefs l).length = ns.length := by
  have e : (nrefs l).length = (ndata l).length := by rw [List.length_map, List.length_map]
  rw [e, h, nDict_len]
theorem prn_next {H : Hp} {l : List (Addr × Str × Int)} {ns : List Str} {C : Str → Int} {L N : Addr} {n : Str} (hL : H L = some (.lst (nrefs l))) (h : PrnAt H l) (hd : ndata l = nDict ns C) (nN : H N = none) {x : Int} (hx : x = C n) :
    (upd H N (.tup [V.str n, .int x])) L = some (.lst (nrefs l)) ∧ (upd (upd H N (.tup [V.str n, .int x])) L (.lst (nrefs l ++ [V.ref N]))) L = some (.lst (nrefs (l ++ [(N, n, x)]))) ∧
      PrnAt (upd (upd H N (.tup [V.str n, .int x])) L (.lst (nrefs l ++ [V.ref N]))) (l ++ [(N, n, x)]) ∧ ndata (l ++ [(N, n, x)]) = nDict (ns ++ [n]) C := by
  have sN := same_new (o := HO.tup [V.str n, .int x]) nN
  refine ⟨sN _ _ hL, ?_, ?_, ?_⟩
  · rw [upd_same]
    unfold nrefs
    rw [List.map_append]
    rfl
  · refine prn_upd (fun y m => ?_) ?_
    · rcases List.mem_append.mp m with m | m
      · exact sN _ _ (h y m)
      · rw [List.mem_singleton.mp m]
        exact upd_same
    · intro xs e
      rw [sN _ _ hL] at e
      cases e
  · subst hx
    unfold ndata
    rw [List.map_append, nDict_app]
    exact congrArg (· ++ _) hd
def rDictN (K : PySem.W.Frag) : List V → Hp → VK → Prop := fun xs H Q => ∃ (a : Addr) (l : List (Addr × Str × Int)) (ns : List Str) (C : Str → Int), xs = [.ref a] ∧ SqL K H a (nrefs l) ∧ PrnAt H l ∧ ndata l = nDict ns C ∧ ns.Nodup ∧
  ∀ p, H p = none → Q (.ref p) (upd H p (.dK (nDict ns C)))
theorem call_dictN {X : Cx} (hc : X.calm = true) : CallR X (.type "dict") (rDictN X.K) := fun pins s σ H xs us Q I r q => by
  obtain ⟨a, l, ns, C, rfl, hq, hp, hd, hn, q⟩ := q
  refine call_dictP hc pins s σ H _ us Q I r ⟨a, l.map (·.1), ndata l, rfl, by rw [List.map_map]; exact hq, prn_paired hp, fun p np => ?_⟩
  have e : mergeK [] (ndata l) = nDict ns C := by
    rw [hd, mergeK_new (nDict ns C) [] (nDict_nodup hn)]
    rfl
  rw [e]
  exact q p np
theorem nodup_take {α : Type} {l : List α} {i : Nat} {x : α} (nd : l.Nodup) (h : l[i]? = some x) : x ∉ l.take i := by
  intro m
  obtain ⟨hi, e2⟩ := List.getElem?_eq_some_iff.mp h
  obtain ⟨j, hj, e⟩ := List.getElem_of_mem m
  have hji : j < i := by
    rw [List.length_take] at hj
    omega
  rw [List.getElem_take] at e
  have := (List.getElem_inj (h₀ := by omega) (h₁ := hi) nd).mp (e.trans e2.symm)
  omega
theorem str_at {ns : List Str} {i : Nat} {x : V} (h : (ns.map V.str)[i]? = some x) : ∃ n, ns[i]? = some n ∧ x = V.str n := by
  rw [List.getElem?_map] at h
  cases e : ns[i]? with
  | none => rw [e] at h; cases h
  | some n => rw [e] at h; cases h; exact ⟨n, rfl, rfl⟩
theorem refs_at' {ts : List (Addr × Grp)} {gs : List Grp} {i : Nat} {x : V} (h : (refs ts)[i]? = some x) (hts : ts.map (·.2) = gs) : ∃ t, ts[i]? = some t ∧ x = V.ref t.1 ∧ gs[i]? = some t.2 := by
  rw [List.getElem?_map] at h
  cases e : ts[i]? with
  | none => rw [e] at h; cases h
  | some t =>
    rw [e] at h
    cases h
    refine ⟨t, rfl, rfl, ?_⟩
    rw [← hts, List.getElem?_map, e]
    rfl
theorem groups_small {ns : List Str} (h : ns.length ≤ 5) : (groupsOf ns).length ≤ 32 := by
  rw [groups_len]
  exact Nat.le_trans (Nat.pow_le_pow_right (by decide) h) (by decide)
theorem sum_bound {α : Type} (f : α → Int) (b : Int) : ∀ l : List α, (∀ x ∈ l, 0 ≤ f x ∧ f x ≤ b) → 0 ≤ (l.map f).sum ∧ (l.map f).sum ≤ l.length * b
  | [], _ => ⟨Int.le_refl _, by simp⟩
  | x :: l, h => by
    have h1 := h x (List.mem_cons_self ..)
    have h2 := sum_bound f b l fun y m => h y (List.mem_cons_of_mem _ m)
    rw [List.map_cons, List.sum_cons, List.length_cons, Int.natCast_add, Int.add_mul]
    have : ((1 : Nat) : Int) * b = b := by simp
    omega
/-! a plain game: names and worths -/
def plainD (tn wq : Addr) : List (Key × V) := [(Sum.inr ("names" : Str), .ref tn), (Sum.inr ("worths" : Str), .ref wq)]
theorem plain_merge (tn wq : Addr) : mergeK [] (plainD tn wq) = plainD tn wq := by
  refine mergeK_new (plainD tn wq) [] ?_
  show [(Sum.inr ("names" : Str) : Key), Sum.inr ("worths" : Str)].Nodup
  refine List.nodup_cons.mpr ⟨fun h => ?_, List.nodup_cons.mpr ⟨List.not_mem_nil, List.nodup_nil⟩⟩
  have e := Sum.inr.inj (List.mem_singleton.mp h)
  exact absurd e (by decide +kernel)
theorem plain_names (tn wq : Addr) : valV (plainD tn wq) (Sum.inr ("names" : Str)) = some (.ref tn) := valV_pos rfl
theorem plain_worths (tn wq : Addr) : valV (plainD tn wq) (Sum.inr ("worths" : Str)) = some (.ref wq) := by
  have e : ¬ (Sum.inr ("names" : Str) : Key) = Sum.inr ("worths" : Str) := fun h => absurd (Sum.inr.inj h) (by decide +kernel)
  exact (valV_neg (p := ((Sum.inr ("names" : Str) : Key), V.ref tn)) e).trans (valV_pos rfl)
structure PlainAt (H : Hp) (a tn wq : Addr) (ns : List Str) (W : Grp → Int) : Prop where
  d : H a = some (.dK (plainD tn wq))
  n : H tn = some (.tup (ns.map V.str))
  w : H wq = some (.dT (wDict (groupsOf ns) W))
theorem PlainAt.same {H H' : Hp} {a tn wq : Addr} {ns : List Str} {W : Grp → Int} (h : PlainAt H a tn wq ns W) (s : ∀ b o, H b = some o → H' b = some o) : PlainAt H' a tn wq ns W := ⟨s _ _ h.d, s _ _ h.n, s _ _ h.w⟩
theorem PlainAt.drawn {p : Addr} {H H' : Hp} {a tn wq : Addr} {ns : List Str} {W : Grp → Int} (h : PlainAt H a tn wq ns W) (c : CupAt H p) (s : Drawn p H H') : PlainAt H' a tn wq ns W := by
  obtain ⟨x, y, z, e⟩ := c
  exact ⟨s.at' h.d (ne_of h.d e (by intro q; cases q)), s.at' h.n (ne_of h.n e (by intro q; cases q)), s.at' h.w (ne_of h.w e (by intro q; cases q))⟩
/-! a worth written anew -/
def setW (W : Grp → Int) (g : Grp) (x : Int) : Grp → Int := fun h => if h = g then x else W h
theorem setW_same (W : Grp → Int) (g : Grp) (x : Int) : setW W g x g = x := if_pos rfl
theorem setW_ne (W : Grp → Int) {g h : Grp} (x : Int) (n : h ≠ g) : setW W g x h = W h := if_neg n
theorem putK_in {gs : List Grp} {W : Grp → Int} {g : Grp} {x : Int} (h : g ∈ gs) : putK (wDict gs W) (kG g) (.int x) = wDict gs (setW W g x) := by
  have ha : ((wDict gs W).any fun kv => decide (kv.1 = kG g)) = true := by
    rw [valV_any, wDict_in h]
    rfl
  unfold putK
  rw [if_pos ha]
  unfold wDict
  rw [List.map_map]
  refine List.map_congr_left fun b _ => ?_
  show (if kG b = kG g then (kG b, V.int x) else (kG b, V.int (W b))) = (kG b, V.int (setW W g x b))
  by_cases e : b = g
  · subst e
    rw [if_pos rfl, setW_same]
  · rw [if_neg (fun z => e (kG_inj z)), setW_ne _ _ e]
theorem cutV_drop1 (xs : List V) : cutV xs (some 1) none = xs.drop 1 := by
  unfold cutV
  have e : HT.sIx xs.length 0 (some 1) = min 1 xs.length := HT.sIx_nat xs.length 0 1
  rw [e, HT.sIx_none]
  cases xs with
  | nil => rfl
  | cons x r =>
    have : min 1 (x :: r).length = 1 := by
      rw [List.length_cons]
      omega
    rw [this]
    exact List.take_of_length_le (by simp)
theorem wDict_at {gs : List Grp} {W : Grp → Int} {i : Nat} {k : List Key} {v : V} (h : (wDict gs W)[i]? = some (k, v)) : ∃ g, gs[i]? = some g ∧ k = kG g ∧ v = .int (W g) := by
  have e1 : (wDict gs W)[i]? = (gs[i]?).map fun g => (kG g, V.int (W g)) := List.getElem?_map
  rw [e1] at h
  cases e : gs[i]? with
  | none => rw [e] at h; cases h
  | some g => rw [e] at h; cases h; exact ⟨g, rfl, rfl, rfl⟩
/-! a claim behind a statement, chosen in the reading -/
def tMid (t : TS) : TS := fun D σ H => ∃ M : L2.St → Hp → Prop, t { D with nx := M } σ H ∧ ∀ σ' H', M σ' H' → D.nx σ' H'
theorem ps_mid {X : Cx} {st : Stmt} {t : TS} (h : PS X st t) : PS X st (tMid t) := by
  refine ⟨fun pins s σ H D I hw => ?_⟩
  obtain ⟨M, hw, hk⟩ := hw
  refine thn (h.run pins s σ H _ I hw) fun f s1 q => ?_
  cases f with
  | next => obtain ⟨σ', H', I2, e⟩ := q; exact ⟨σ', H', I2, hk _ _ e⟩
  | brk => exact q
  | cont => exact q
  | ret v => exact q
theorem unlock_same {H H' : Hp} {d : Addr} {u : HO} {od : Obj} (hd : H d = some u) (s : Same (upd H d (.frz od u)) H') : Same H (upd H' d u) := fun b o e => by
  by_cases z : b = d
  · subst z
    rw [upd_same]
    exact hd.symm.trans e
  · rw [upd_ne z]
    refine s _ _ ?_
    rw [upd_ne z]
    exact e
def tMidE (te : TE) : TE := fun σ H Q => ∃ M : VK, te σ H M ∧ ∀ v H', M v H' → Q v H'
theorem pe_mid {X : Cx} {e : Expr} {te : TE} (h : PE X e te) : PE X e (tMidE te) := by
  refine ⟨fun pins s σ H Q I hw => ?_⟩
  obtain ⟨M, hw, hk⟩ := hw
  refine thn (h.run pins s σ H _ I hw) fun v s1 q => ?_
  obtain ⟨x, H', I2, r, e⟩ := q
  exact ⟨x, H', I2, r, hk _ _ e⟩
theorem sum_between {α : Type} (f : α → Int) (a b : Int) : ∀ l : List α, (∀ x ∈ l, a ≤ f x ∧ f x ≤ b) → l.length * a ≤ (l.map f).sum ∧ (l.map f).sum ≤ l.length * b
  | [], _ => ⟨by simp, by simp⟩
  | x :: l, h => by
    have h1 := h x (List.mem_cons_self ..)
    have h2 := sum_between f a b l fun y m => h y (List.mem_cons_of_mem _ m)
    rw [List.map_cons, List.sum_cons, List.length_cons, Int.natCast_add, Int.add_mul, Int.add_mul]
    have e1 : ((1 : Nat) : Int) * a = a := by simp
    have e2 : ((1 : Nat) : Int) * b = b := by simp
    omega
section
open PySem.W
theorem mergeSort_head {α : Type} {le : α → α → Bool} {a : α} (h : ∀ x, le a x = true) : ∀ (n : Nat) (l : List α), l.length ≤ n → ∃ r, (a :: l).mergeSort le = a :: r := by
  intro n
  induction n with
  | zero =>
    intro l hl
    have e : l = [] := List.length_eq_zero_iff.mp (by omega)
    subst e
    exact ⟨[], List.mergeSort_singleton a⟩
  | succ n ih =>
    intro l hl
    cases l with
    | nil => exact ⟨[], List.mergeSort_singleton a⟩
    | cons b xs =>
      rw [List.mergeSort]
      simp only [List.MergeSort.Internal.splitInTwo_fst, List.MergeSort.Internal.splitInTwo_snd]
      have e : (a :: b :: xs).take (((a :: b :: xs).length + 1) / 2) = a :: (b :: xs).take (((a :: b :: xs).length + 1) / 2 - 1) := by
        have : ((a :: b :: xs).length + 1) / 2 = (((a :: b :: xs).length + 1) / 2 - 1) + 1 := by
          simp only [List.length_cons]
          omega
        rw [this]
        rfl
      obtain ⟨r, hr⟩ := ih ((b :: xs).take (((a :: b :: xs).length + 1) / 2 - 1)) (by
        simp only [List.length_cons, List.length_take] at hl ⊢
        omega)
      rw [← e] at hr
      rw [hr]
      generalize List.mergeSort _ le = m
      cases m with
      | nil => exact ⟨r, by rw [List.merge_right]⟩
      | cons c m => exact ⟨_, by rw [List.cons_merge_cons, if_pos (h c)]⟩
theorem leG_nil (g : Grp) : leG [] g = true := by
  cases g with
  | nil => rfl
  | cons x r =>
    unfold leG dataLt
    show (!PyProof.Rows.lexLt itemOrd (keyToksAll (PyData.str x :: encG r)) (keyToksAll [])) = true
    rw [keyToksAll, keyToksAll, lex_atom (by intro e; cases e)]
    rfl
theorem groups_head (ns : List Str) : ∃ r, groupsOf ns = [] :: r := by
  obtain ⟨r, e⟩ := subs_head ns [[]] ⟨[], rfl⟩
  unfold groupsOf
  rw [e]
  exact mergeSort_head leG_nil _ r (Nat.le_refl _)
end
theorem groups_tail {ns : List Str} (nd : ns.Nodup) {g : Grp} (h : g ∈ (groupsOf ns).drop 1) : g ∈ groupsOf ns ∧ g ≠ [] := by
  obtain ⟨r, e⟩ := groups_head ns
  have n := groups_nodup nd
  rw [e] at h n ⊢
  have h' : g ∈ r := h
  exact ⟨List.mem_cons_of_mem _ h', fun z => (List.nodup_cons.mp n).1 (z ▸ h')⟩
end Gd
/-! dict comprehensions whose keys may be tuples -/
namespace Gd
open PySem PySem.Spec PyProof.Rows L2
section
variable {X : Cx}
/-- one more entry, the key of either kind -/
theorem put_dict {pins : List (Addr × Obj)} {σ : L2.St} {H H' : Hp} {s : Shared} {E : Value → Shared → Prop} {a : Addr} {y z : V} {u r : Value} {Q : Unit → Shared → Prop} (hu : X.A.units + 1 < cLine) (I : Inv X pins σ H s) (g : DPut H a y z H') (ry : RelV y u) (rz : RelV z r)
    (k : ∀ s', Inv X pins σ H' s' → Q () s') : wpAny (model X.prog X.w) X.A (dictSet a u r) Q E s := by
  rcases g with ⟨kvs, key, e, rfl, l, rfl⟩ | ⟨kvs, key, b, e, rfl, eb, l, rfl⟩
  · exact d_dictSet I e l ry rz k
  · obtain rfl : u = Value.ref b := ry
    obtain ⟨small, nsys, xs, rel, dd⟩ := dt_of I.hok e
    have hl := length_putK kvs key z
    have hx : xs.length ≤ sizeLine := (Paired.length rel).symm ▸ small
    have room : (TK X.prog X.w).room X.A := by
      show X.A.units < cLine
      omega
    refine wpAny_dictSet_heap (hsz := hx) room (key_of I.hok eb) dd fun h' dd' sb => k _ ?_
    obtain ⟨o, es, ep, p1, p2, p3, p4, _, p6⟩ := dd'
    have rel' : KT (upd H a (.dT (putK kvs key z))) (putK kvs key z) (storedH xs key b r) := (rel.put key eb rz).keeps fun c ys ec => (upd_ne (ne_of ec e (fun q => nomatch q))).trans ec
    exact d_write I (by rw [e]; trivial) sb ⟨o, p1⟩ ⟨by omega, nsys, _, rel', o, es, ep, p1, p2, p3, p4, p6⟩
/-- one turn of a comprehension that fills the dict at D -/
def turnX (g : TG) (tt : TT) (tk tv : TE) (vs : List Nat) (σ : L2.St) (D : Addr) (x : V) (H : Hp) (Nx : Hp → Prop) : Prop :=
  g x (wipe σ vs) H fun σ' H1 => wipe σ' vs = wipe σ vs ∧ tt σ' H1 fun b H2 =>
    if b = true then tk σ' H2 fun y H3 => tv σ' H3 fun z H4 => ∃ H5, DPut H4 D y z H5 ∧ Nx H5 else Nx H2
/-- {k: v for target in iter if ..}: o0 is the empty dict of the kind that is wanted -/
def tDx (o0 : HO) (wi : TI) (g : TG) (tt : TT) (tk tv : TE) (vs : List Nat) : TE := fun σ H Q =>
  wi σ H fun J H1 => ∀ D, H1 D = none → ∃ W : Nat → Nat → Hp → Prop, (∃ m, W 0 m (upd H1 D o0)) ∧
    ∀ i m H2, W i m H2 → (J.stop i H2 ∧ Q (.ref D) H2) ∨
      (J.go i H2 ∧ ∃ Nx : Hp → Prop, (∀ H3, Nx H3 → ∃ m', m' < m ∧ W (i + 1) m' H3) ∧ ∀ x H3, J.yld i H2 x H3 → turnX g tt tk tv vs σ D x H3 Nx)
variable {kx vx tg iter : Expr} {ifs : List Expr} {scope : Scope} {pos : Pos} {g : TG} {tt : TT} {tk tv : TE}
/-- the loop of the comprehension's block -/
theorem dx_loop {s0 : Shared} {H0 : Hp} {ce : Env} {fp : List Addr} {it D : Addr} {tn : Nat → Heap → Prop} {J : It} {vs : List Nat} {σ : L2.St} {W : Nat → Nat → Hp → Prop} {Q : Hp → Prop} {R : Result → Shared → Prop} (hu : X.A.units + 1 < cLine) (hc : X.calm = true)
    (T : Turn X.prog X.w X.K tg J fp it tn) (pg : PG (X.blk s0 H0 scope ce fp) tg g) (pt : PTs (X.blk s0 H0 scope ce fp) ifs tt) (pk : PE (X.blk s0 H0 scope ce fp) kx tk) (pe : PE (X.blk s0 H0 scope ce fp) vx tv)
    (turn : ∀ i m H2, W i m H2 → (J.stop i H2 ∧ Q H2) ∨ (J.go i H2 ∧ ∃ Nx : Hp → Prop, (∀ H3, Nx H3 → ∃ m', m' < m ∧ W (i + 1) m' H3) ∧ ∀ x H3, J.yld i H2 x H3 → turnX g tt tk tv vs σ D x H3 Nx))
    (stop : ∀ H' s', Inv (X.blk s0 H0 scope ce fp) [] (wipe σ vs) H' s' → Q H' → R (.ok .next) s') {m0 : Nat} {H4 : Hp} {s4 : Shared} (I4 : Inv (X.blk s0 H0 scope ce fp) [] (wipe σ vs) H4 s4) (t4 : tn 0 s4.heap) (n4 : ∀ b ∈ fp, H4 b = none) (w4 : W 0 m0 H4) :
    codeAny (model X.prog X.w) X.A (.compLoop (.DictComp kx vx [⟨tg, iter, ifs, 0⟩] scope pos) 0 (.ref it) (.ref D) ce) R s4 := by
  have own : ∀ {σ' : L2.St} {H' : Hp} {s' : Shared}, Inv (X.blk s0 H0 scope ce fp) [] σ' H' s' → (∀ b ∈ fp, H' b = none) → ∀ b ∈ fp, FpOk (X.blk s0 H0 scope ce fp) [] H' b := fun {σ' H' s'} I' n b m =>
    ⟨n b m, (I'.ok.exf b m).1, I'.ok.exfs b m, .inl m, fun x c e => (I'.ok.exf b m).2 x c e, fun q hq => absurd (show q ∈ ([] : List (Addr × Obj)) ++ [] from hq) (by simp)⟩
  refine compLoop_anyD (fun n s' => ∃ i H', Inv (X.blk s0 H0 scope ce fp) [] (wipe σ vs) H' s' ∧ tn i s'.heap ∧ (∀ b ∈ fp, H' b = none) ∧ W i n H') (fun n s5 h5 => ?_) m0 ⟨0, H4, I4, t4, n4, w4⟩
  obtain ⟨i, H5, I5, t5, n5, w5⟩ := h5
  rcases turn i n H5 w5 with ⟨hs, hq⟩ | ⟨hgo, Nx, less, step⟩
  · exact thnF (T.done (X.blk s0 H0 scope ce fp) rfl rfl rfl hc i [] s5 _ H5 (fun _ _ => False) I5 (own I5 n5) t5 hs) fun r s6 ⟨e, I6⟩ => by
      subst e
      exact stop H5 s6 I6 hq
  · refine thnF (T.item (X.blk s0 H0 scope ce fp) rfl rfl rfl hc i [] s5 _ H5 (fun _ _ => False) I5 (own I5 n5) t5 hgo) fun r s6 ⟨u, e, h6⟩ => ?_
    subst e
    refine thnF h6 fun _ s7 ⟨x, H7, I7, rx, hy, t7, n7⟩ => ?_
    have J7 := I7.pinned (own I7 n7) (T.obj _ _ t7)
    refine thnF (pg.run _ s7 _ H7 x u _ J7 rx (step x H7 hy)) fun _ s8 ⟨σ8, H8, I8, same, h8⟩ => thnF (pt.run _ s8 σ8 H8 _ I8 h8) fun b s9 ⟨H9, I9, h9⟩ => ?_
    have back : ∀ {s' : Shared} {H' : Hp}, Inv (X.blk s0 H0 scope ce fp) ([] ++ pinsAt fp s7.heap) σ8 H' s' → Nx H' → ∃ m, m < n ∧ ∃ i H', Inv (X.blk s0 H0 scope ce fp) [] (wipe σ vs) H' s' ∧ tn i s'.heap ∧ (∀ b ∈ fp, H' b = none) ∧ W i m H' := fun {s' H'} I' nx => by
      obtain ⟨m', lt, w'⟩ := less H' nx
      have len : (wipe σ vs).length = σ8.length := by
        rw [← same, wipe_length]
      have I'' : Inv (X.blk s0 H0 scope ce fp) [] (wipe σ vs) H' s' := (I'.unpinned (pins := [])).weak len fun j v e => (wipe_some (same.symm ▸ e)).1
      have pin : ∀ b ∈ fp, ∀ o, s7.heap.get? b = some o → s'.heap.get? b = some o ∧ H' b = none := fun b m o e =>
        have q := I'.pin (b, o) (List.mem_append_right _ (List.mem_append_right _ (mem_pinsAt m e)))
        ⟨q.1, q.2.1⟩
      refine ⟨m', lt, i + 1, H', I'', T.keep _ _ _ t7 fun b m o e => (pin b m o e).1, fun b m => ?_, w'⟩
      obtain ⟨o, e, _⟩ := T.obj _ _ t7 b m
      exact (pin b m o e).2
    cases b with
    | false => exact back I9 h9
    | true =>
      refine thnF (pk.run _ s9 σ8 H9 _ I9 h9) fun u1 s10 ⟨y, H10, I10, ry, h10⟩ => thnF (pe.run _ s10 σ8 H10 _ I10 h10) fun u2 s11 ⟨z, H11, I11, rz, H12, put, nx⟩ => ?_
      exact put_dict (X := X.blk s0 H0 scope ce fp) hu I11 put ry rz fun s12 I12 => back I12 nx
/-- the empty dict of either kind, just made -/
theorem new_ok {P : Program} {w : World} {H : Hp} (h : Heap) {o0 : HO} (ho : o0 = .dK [] ∨ o0 = .dT []) (big : sysModules < h.objs.size) : ObjOk P w H (h.push { cls := .type "dict", data := .dict #[] }) h.objs.size o0 := by
  rcases ho with e | e
  · subst e
    exact dk_empty h big
  · subst e
    exact dt_empty h big
/-- {k: v for target in iter if ..}, keys of either kind -/
theorem pe_dx {own : List (Str × Nat)} {wi : TI} (o0 : HO) (ho : o0 = .dK [] ∨ o0 = .dT []) (hu : X.A.units + 1 < cLine) (hc : X.calm = true) (hN : X.N.Nodup) (hi : PI X tg iter wi) (ok : BlkOk X.N X.env.scope scope own)
    (hg : ∀ (s : Shared) (H : Hp) (C : Addr) (cl : List (Str × Addr)) (fp : List Addr), PG (X.blk s H scope (compEnvC scope cl C X.env) fp) tg g)
    (ht : ∀ (s : Shared) (H : Hp) (C : Addr) (cl : List (Str × Addr)) (fp : List Addr), PTs (X.blk s H scope (compEnvC scope cl C X.env) fp) ifs tt)
    (hk : ∀ (s : Shared) (H : Hp) (C : Addr) (cl : List (Str × Addr)) (fp : List Addr), PE (X.blk s H scope (compEnvC scope cl C X.env) fp) kx tk)
    (hv : ∀ (s : Shared) (H : Hp) (C : Addr) (cl : List (Str × Addr)) (fp : List Addr), PE (X.blk s H scope (compEnvC scope cl C X.env) fp) vx tv) (hs : ∀ x, foldedSetIterable iter X.env x = pure x := by intro _; rfl) :
    PE X (.DictComp kx vx [⟨tg, iter, ifs, 0⟩] scope pos) (tDx o0 wi g tt tk tv (own.map (·.2))) := by
  refine ⟨fun pins s σ H Q I h => ?_⟩
  rw [arm_eval_DictComp]
  have clo : ∀ y ∈ scope.names, y.2 = .free → ∃ c, X.env.cells.lookup y.1 = some c := fun y m e => (ok.free y m e).elim (fun k => I.ok.has _ (.inl k)) fun k => I.ok.has _ (.inr k)
  refine wpAny_comprehension_free (use := none) rfl hs (closure_ok clo) ok.kind (fun y m e => (ok.uniq y m).trans (e ▸ rfl)) (thn (hi.run pins s σ H _ I h) fun xv s1 hx => thn hx fun itv s2 h2 => ?_)
  obtain ⟨it, fp, tn, J, H2, rfl, I2, T, t2, f2, q⟩ := h2
  have fresh : H2 s2.heap.objs.size = none := I2.hok.fresh (Nat.le_refl _)
  obtain ⟨W, ⟨m0, w0⟩, turn⟩ := q _ fresh
  refine wpAny_newObj_type (newEnv_comp ?_)
  have I3 : Inv X pins σ (upd H2 s2.heap.objs.size o0) { s2 with heap := s2.heap.push { cls := .type "dict", data := .dict #[] } } := I2.laid (t' := s2.toks) (fun b o e => Heap.get?_push_of_some _ e) (Nat.le_refl _) (new_ok s2.heap ho I2.big)
  have f3 : ∀ b ∈ fp, FpOk X pins (upd H2 s2.heap.objs.size o0) b ∧ b < (s2.heap.push { cls := .type "dict", data := .dict #[] }).objs.size := fun b m => by
    obtain ⟨o, e, _⟩ := T.obj _ _ t2 b m
    have lt := Heap.lt_size e
    have z := f2 b m
    refine ⟨⟨(upd_ne (Nat.ne_of_lt lt)).trans z.1, z.2⟩, ?_⟩
    rw [Heap.size_push]
    exact Nat.lt_succ_of_lt lt
  have I4 := block_start I3 ok hN f3
  generalize hs4 : ({ s2 with heap := pushCells ((s2.heap.push { cls := .type "dict", data := .dict #[] }).push { cls := .type "dict", data := .dict #[] }) scope.names } : Shared) = s4 at I4
  have t4 : tn 0 s4.heap := T.keep _ _ _ t2 fun b _ o e => by
    rw [← hs4]
    exact pushCells_keeps _ _ _ _ (Heap.get?_push_of_some _ (Heap.get?_push_of_some _ e))
  have n4 : ∀ b ∈ fp, (upd H2 s2.heap.objs.size o0) b = none := fun b m => (f3 b m).1.1
  have loop : codeAny (model X.prog X.w) X.A (.compLoop (.DictComp kx vx [⟨tg, iter, ifs, 0⟩] scope pos) 0 (.ref it) (.ref s2.heap.objs.size) (compEnvC scope (cellsFrom ((s2.heap.push { cls := .type "dict", data := .dict #[] }).objs.size + 1) scope.names (cloFrom X.env.cells scope.names [])) (s2.heap.push { cls := .type "dict", data := .dict #[] }).objs.size X.env))
      (compPost (model X.prog X.w) X.A X.xe none (EP X pins σ Q) (.ref s2.heap.objs.size) (s2.heap.push { cls := .type "dict", data := .dict #[] }).objs.size) s4 := by
    refine dx_loop hu hc T (hg _ _ _ _ fp) (ht _ _ _ _ fp) (hk _ _ _ _ fp) (hv _ _ _ _ fp) turn (fun H' s' I' hq => ?_) I4 t4 n4 w0
    have nC : H' (s2.heap.push { cls := .type "dict", data := .dict #[] }).objs.size = none := I'.free
    obtain ⟨m, hn, _⟩ := I'.loc
    have I7 : Inv X pins σ H' s' := I3.call' (ch := fp) I'.os I'.base I'.hok I'.bare fun b m => ⟨(f3 b m).1.2.2.2.1, (f3 b m).1.2.1, (f3 b m).1.2.2.2.2.1, (f3 b m).1.2.2.2.2.2⟩
    obtain ⟨f0, f1, _, f3', f4, f5⟩ := I3.fpOk (H' := H') (Nat.le_refl _) nC
    exact ⟨m, hn, fun h'' sb => ⟨.ref s2.heap.objs.size, H', I7.turned (t' := s'.toks) (fun b o nb e => (sb.2 b nb).trans e) f0 f1 f3' f4 f5, rfl, hq⟩⟩
  have start := codeAny_compStart_dict loop (T.self X.A 0 _ _ _ t4 loop)
  subst hs4
  show codeAny _ _ (.compStart (.DictComp kx vx [⟨tg, iter, ifs, 0⟩] scope pos) 0 (.ref it) (.ref s2.heap.objs.size) (compEnvC scope (cellsFrom ((s2.heap.push { cls := .type "dict", data := .dict #[] }).objs.size + 1) scope.names (cloFrom X.env.cells scope.names [])) (s2.heap.push { cls := .type "dict", data := .dict #[] }).objs.size X.env)) _ _
  exact start
/-- by the turn: Pv holds ahead of turn i -/
theorem dx_it {n : Nat} {J : It} {G : Hp → Prop} {Y : Nat → Hp → V → Hp → Prop} {g : TG} {tt : TT} {tk tv : TE} (wk : Walk J n G Y) {vs : List Nat} {σ : L2.St} {H1 : Hp} {D : Addr} {o0 : HO} {Qd : Hp → Prop} (Pv : Nat → Hp → Prop) (h0 : Pv 0 (upd H1 D o0)) (hG : ∀ i H, i ≤ n → Pv i H → G H)
    (hs : ∀ i x H H', i < n → Pv i H → Y i H x H' → turnX g tt tk tv vs σ D x H' (Pv (i + 1))) (hd : ∀ H, Pv n H → Qd H) :
    ∃ W : Nat → Nat → Hp → Prop, (∃ m, W 0 m (upd H1 D o0)) ∧
      ∀ i m H2, W i m H2 → (J.stop i H2 ∧ Qd H2) ∨ (J.go i H2 ∧ ∃ Nx : Hp → Prop, (∀ H3, Nx H3 → ∃ m', m' < m ∧ W (i + 1) m' H3) ∧ ∀ x H3, J.yld i H2 x H3 → turnX g tt tk tv vs σ D x H3 Nx) := by
  refine ⟨fun i m H => m + i = n ∧ Pv i H, ⟨n, rfl, h0⟩, fun i m H2 hw => ?_⟩
  obtain ⟨hm, hp⟩ := hw
  have hi : i ≤ n := by omega
  have gg := hG i H2 hi hp
  cases m with
  | zero =>
    obtain rfl : i = n := by omega
    exact .inl ⟨wk.stops _ gg, hd _ hp⟩
  | succ m =>
    have lt : i < n := by omega
    exact .inr ⟨wk.goes _ _ lt gg, Pv (i + 1), fun H3 hn => ⟨m, Nat.lt_succ_self m, by omega, hn⟩, fun x H3 y => hs i x H2 H3 lt hp (wk.yields _ _ _ _ lt gg y)⟩
end
end Gd
/-! own classes: e[i] by an own __getitem__; statements that are never run -/
namespace Gd
open PySem PySem.Spec PyProof.Rows L2
section
variable {X : Cx} {CX : CXT} {k : Nat} {C f : Addr} {fd : FuncData} {ps : List Str} {sp : Sp} {E : XK}
/-- a def called one step deeper, as the special methods are -/
theorem run_in1 {pins : List (Addr × Obj)} {σ : L2.St} {H : Hp} {s : Shared} {Q : VK} {us : List Value} {vs : List V} {E' : Value → Shared → Prop} (F : FnOk X.prog X.w X.K X.mg X.base CX k f fd ps sp) (hr : Room (k + 1) X.A) (hb : Binds X.K fd ps []) (hx : Passes CX X.nox E)
    (I : Inv X pins σ H s) (r : Vals vs us) (h : sp vs H Q E) : wpAny (model X.prog X.w) X.A.in1 (call (.ref f) us) (EP X pins σ Q) E' s := by
  have len : us.length = ps.length := r.length.symm.trans (F.len _ _ _ _ h)
  have bd : BindsTo s fd ⟨us, []⟩ (ps.zip us) := by
    have z := hb s us I.kIn (by rw [List.append_nil]; exact len)
    rw [List.append_nil] at z
    exact z
  refine wpAny_call (codeAny_mono (F.run X.A.in1 X.stack s H ⟨us, []⟩ us vs Q E hr.in1 I.env0.in1 bd r h) fun res s' hq => ?_)
  match res, hq with
  | .error er, hq => exact False.elim (hx pins σ H s er s' (I.wish _) hq)
  | .ok (.ret u), hq => exact I.after hq
  | .ok .next, hq => exact False.elim hq
  | .ok .brk, hq => exact False.elim hq
  | .ok .cont, hq => exact False.elim hq
/-- the class's own __getitem__ -/
structure Item (K : PySem.W.Frag) (C f : Addr) : Prop where
  at_ : PySem.W.findIn K (.ref C) "__getitem__" = some (some (.ref f))
  fn : PySem.W.fnIn K f = true
  is : PySem.W.isFn K (.ref f) = true
def tItem (C : Addr) (sp : Sp) (E : XK) (to ti : TE) : TE := fun σ H Q => to σ H fun x H1 => ti σ H1 fun y H2 => ∃ a dx fs, x = .ref a ∧ H2 a = some (.ins C dx fs) ∧ sp [.ref a, y] H2 Q E
theorem pe_item {value slice : Expr} {pos : Pos} {to ti : TE} (it : Item X.K C f) (F : FnOk X.prog X.w X.K X.mg X.base CX k f fd ps sp) (hr : Room (k + 1) X.A) (hb : Binds X.K fd ps []) (hx : Passes CX X.nox E) (ho : PE X value to) (hi : PE X slice ti)
    (hsl : ∀ ov iv, subscripted slice true ov iv = runValue (.builtin "lifetime.subscript" ⟨[ov, iv], []⟩)) : PE X (.Subscript value slice pos) (tItem C sp E to ti) := by
  refine ⟨fun pins s σ H Q I h => ?_⟩
  refine Subscript_ (thn (ho.run pins s σ H _ I h) fun u s1 ⟨x, H1, I1, rx, q1⟩ => thn (hi.run pins s1 σ H1 _ I1 q1) fun v s2 ⟨y, H2, I2, ry, a, dx, fs, ex, ea, q2⟩ => ?_)
  subst ex
  obtain rfl : u = Value.ref a := rx
  obtain ⟨mA, O, _, _, _, _⟩ := ins_get I2.hok ea
  obtain ⟨od, J, _⟩ := O.look
  obtain ⟨m, fr⟩ := I2.fr
  exact PySem.W.sub_K fr I2.mod.kin J it.at_ it.fn it.is (run_in1 (vs := [.ref a, y]) (us := [.ref a, v]) F hr hb hx I2 (.cons rfl (.cons ry .nil)) q2) (hsl _ _)
/-- a value as a test -/
def tTr (K : PySem.W.Frag) (ta : TE) : TT := fun σ H Q => ta σ H fun x H' => ∃ k, TruV K x H' k ∧ Q k H'
theorem pt_tr {a : Expr} {ta : TE} (ha : PE X a ta) (he : ∀ whole, isTrue a X.env whole = (do let v ← whole; standAt a.pos; holding [v] (truthy v))) : PT X a (tTr X.K ta) := pt_truth ha he
end
/-! classes by their text -/
def cbody : Stmt → List Stmt
  | .ClassDef _ _ _ b .. => b
  | _ => []
def cm (st : Stmt) (j : Nat) : Stmt := (cbody st).getD j (.Pass ⟨0, 0, 0, 0⟩)
/-- a method of the class at C -/
structure Dm (K : PySem.W.Frag) (C : Addr) (x qual : Str) (st : Stmt) (ps : List Str) (f : Addr) (fd : FuncData) : Prop where
  F : Fun K x qual st f fd
  b : Binds K fd ps []
  at_ : PySem.W.findIn K (.ref C) x = some (some (.ref f))
  is : PySem.W.isFn K (.ref f) = true
theorem Dm.fn {K : PySem.W.Frag} {C : Addr} {x qual : Str} {st : Stmt} {ps : List Str} {f : Addr} {fd : FuncData} (D : Dm K C x qual st ps f fd) : PySem.W.fnIn K f = true := by
  obtain ⟨_, _, _, _, _, _, _, _, _, rfl, lk, _⟩ := D.F.ex
  unfold PySem.W.fnIn
  rw [lk]
theorem Dm.item {K : PySem.W.Frag} {C : Addr} {qual : Str} {st : Stmt} {ps : List Str} {f : Addr} {fd : FuncData} (D : Dm K C "__getitem__" qual st ps f fd) : Item K C f := ⟨D.at_, D.fn, D.is⟩
theorem Dm.meth {K : PySem.W.Frag} {C : Addr} {x qual : Str} {st : Stmt} {ps : List Str} {f : Addr} {fd : FuncData} (D : Dm K C x qual st ps f fd) : Meth K C x f := ⟨D.at_, D.is, D.F.kp⟩
/-- a property of the class at C -/
structure Dpr (K : PySem.W.Frag) (C : Addr) (x qual : Str) (st : Stmt) (ps : List Str) (g : Addr) (fd : FuncData) : Prop where
  F : Fun K x qual st g fd
  b : Binds K fd ps []
  pr : ∃ p, PropOf K C x p g
/-- a class whose objects have a dict -/
structure Dc (K : PySem.W.Frag) (mg : Str → Option Value) (x : Str) (C : Addr) : Prop where
  cl : Cls K C
  makes : PySem.W.makesIn K C = true
  kp : PySem.W.keepIn K (.ref C) = true
  g : mg x = some (.ref C)
  ty : ∀ {H : Hp} {a dx : Addr} {fs : List (Str × V)}, H a = some (.ins C dx fs) → TyOf K H (.ref a) (.ref C)
theorem Dc.make {K : PySem.W.Frag} {mg : Str → Option Value} {x qual : Str} {C f : Addr} {st : Stmt} {ps : List Str} {fd : FuncData} (c : Dc K mg x C) (D : Dm K C "__init__" qual st ps f fd) : Mk K C f := ⟨c.makes, D.at_, D.is, c.kp⟩
theorem kit_self {K : PySem.W.Frag} (t : Value) : PySem.W.kitOne K t t = some true := by
  unfold PySem.W.kitOne
  rw [if_pos (by simp)]
/-! is a group among others, by == -/
section
variable {X : Cx}
def rNotInT (K : PySem.W.Frag) : R2 := fun x y H Q => ∃ d ds, Dp K H x d ∧ Dp K H y (.tuple ds) ∧ SeqAt.shaped d = true ∧ SeqAt.shaped (.tuple ds) = true ∧ Q (.bl (!ds.any fun z => PyData.eqv z d)) H
theorem op_notInT (hu : X.A.units + 65 < cLine) : OpR X (compareOp .NotIn) (rNotInT X.K) := fun pins s σ H x y v u Q I rx ry h => by
  obtain ⟨d, ds, p1, p2, q1, q2, q⟩ := h
  obtain ⟨as, e1⟩ := Dp.reads I d x v p1 rx
  obtain ⟨bs, e2⟩ := Dp.reads I (.tuple ds) y u p2 ry
  exact SeqAt.notIn_tuple_reads e2 e1 (SeqAt.canLay_of_shaped q2) (SeqAt.canLay_of_shaped q1) (room_in_shaped q1 hu) ⟨.bl _, H, I, rfl, q⟩
end
theorem eqv_grp : ∀ h g : Grp, PyData.eqv (.tuple (encG h)) (.tuple (encG g)) = decide (h = g)
  | [], [] => by
    rw [PyData.eqv]
    show PyData.eqvAll [] [] = _
    rw [PyData.eqvAll]
    rfl
  | [], x :: g => by
    rw [PyData.eqv]
    show PyData.eqvAll [] (_ :: _) = _
    simp [PyData.eqvAll]
  | x :: h, [] => by
    rw [PyData.eqv]
    show PyData.eqvAll (_ :: _) [] = _
    simp [PyData.eqvAll]
  | x :: h, y :: g => by
    have ih := eqv_grp h g
    rw [PyData.eqv] at ih ⊢
    show PyData.eqvAll (PyData.str x :: encG h) (PyData.str y :: encG g) = _
    rw [PyData.eqvAll, ih, PyData.eqv, Bool.eq_iff_iff]
    simp
theorem any_grp (gs : List Grp) (g : Grp) : ((gs.map fun h => PyData.tuple (encG h)).any fun z => PyData.eqv z (.tuple (encG g))) = decide (g ∈ gs) := by
  rw [List.any_map, Bool.eq_iff_iff, List.any_eq_true, decide_eq_true_iff]
  constructor
  · rintro ⟨h, m, e⟩
    have e : PyData.eqv (.tuple (encG h)) (.tuple (encG g)) = true := e
    rw [eqv_grp] at e
    rw [← of_decide_eq_true e]
    exact m
  · intro m
    refine ⟨g, m, ?_⟩
    show PyData.eqv (.tuple (encG g)) (.tuple (encG g)) = true
    rw [eqv_grp]
    exact decide_eq_true rfl
theorem lay_strs : ∀ l : List Str, (∀ n ∈ l, ∀ c ∈ n.cps.toList, c < 1114112) → PyData.canLayAll0 (l.map PyData.str) = true
  | [], _ => rfl
  | n :: r, h => by
    have e : PyData.strOk n = true := by
      unfold PyData.strOk
      rw [← Array.all_toList, List.all_eq_true]
      exact fun c hc => decide_eq_true (h n (List.mem_cons_self ..) c hc)
    show (PyData.strOk n && PyData.canLayAll0 (r.map PyData.str)) = true
    rw [e, lay_strs r fun m hm => h m (List.mem_cons_of_mem _ hm)]
    rfl
theorem shaped_grp {g : Grp} (h : ∀ n ∈ g, ∀ c ∈ n.cps.toList, c < 1114112) : SeqAt.shaped (.tuple (encG g)) = true := by
  unfold SeqAt.shaped
  show (PyData.canLayAll0 _ && decide (PyData.depthAll _ + 1 ≤ 64)) = true
  have e : PyData.canLayAll0 (encG g) = true := lay_strs g h
  have d : PyData.depthAll (encG g) = 0 := depth_strs g
  rw [e, d]
  rfl
theorem shaped_grps {gs : List Grp} (h : ∀ g ∈ gs, ∀ n ∈ g, ∀ c ∈ n.cps.toList, c < 1114112) : SeqAt.shaped (.tuple (gs.map fun h => PyData.tuple (encG h))) = true := by
  have e : PyData.canLayAll0 (gs.map fun h => PyData.tuple (encG h)) = true ∧ PyData.depthAll (gs.map fun h => PyData.tuple (encG h)) ≤ 1 := by
    induction gs with
    | nil => exact ⟨rfl, Nat.zero_le _⟩
    | cons g r ih =>
      obtain ⟨i1, i2⟩ := ih fun k m => h k (List.mem_cons_of_mem _ m)
      have l := lay_strs g (h g (List.mem_cons_self ..))
      have d : PyData.depthAll (encG g) = 0 := depth_strs g
      constructor
      · show (PyData.canLayAll0 (encG g) && PyData.canLayAll0 (r.map fun h => PyData.tuple (encG h))) = true
        rw [show PyData.canLayAll0 (encG g) = true from l, i1]
        rfl
      · show max (PyData.depthAll (encG g) + 1) (PyData.depthAll (r.map fun h => PyData.tuple (encG h))) ≤ 1
        rw [d]
        omega
  unfold SeqAt.shaped
  show (PyData.canLayAll0 _ && decide (PyData.depthAll _ + 1 ≤ 64)) = true
  rw [e.1, decide_eq_true (by omega)]
  rfl
theorem dp_refs {K : PySem.W.Frag} {H : Hp} : ∀ {ts : List (Addr × Grp)}, TupsAt H ts → DpAll K H (refs ts) ((ts.map (·.2)).map fun h => PyData.tuple (encG h))
  | [], _ => .nil
  | t :: ts, h => .cons (.tup (.inl (.inl (h t (List.mem_cons_self ..)))) (dp_names t.2)) (dp_refs fun u m => h u (List.mem_cons_of_mem _ m))
/-! zip of two tuples -/
theorem walk_zT {K : PySem.W.Frag} {a b : Addr} {xs ys : List V} {n : Nat} (hn : n = min xs.length ys.length) : Walk (RZ.ItzT K a b) n (fun H => SqT K H a xs ∧ SqT K H b ys) (YPair (fun i => xs[i]?) (fun i => ys[i]?)) := by
  subst hn
  refine ⟨fun i H hi q => ?_, fun H q => ⟨xs, ys, q.1, q.2, by omega⟩, fun i H v H' _ q y => ?_⟩
  · exact ⟨xs, ys, xs[i]'(by omega), ys[i]'(by omega), q.1, q.2, List.getElem?_eq_getElem _, List.getElem?_eq_getElem _⟩
  · obtain ⟨T, x, z, h1, h2, h3, h4, h5⟩ := y
    exact ⟨T, x, z, h1, h2, h3, h4 xs q.1, h5 ys q.2⟩
/-- what the persons of a group have in a row -/
def shareOf (ns : List Str) (xs : List Int) (g : Grp) : Int := (((ns.zip xs).filter fun t => decide (t.1 ∈ g)).map (·.2)).sum
/-! sum of a tuple of ints -/
section
variable {prog : Program} {w : World} {A : Around} {E : Value → Shared → Prop} {s : Shared} {l : Addr} {xs : Array (Int × Tok)}
theorem sum_tup0 {Q : Value → Shared → Prop} (hh : A.handled = none) (hl : s.heap.IsTuple l (intItems xs)) (h : ∀ h' tk t', (∀ b o, s.heap.get? b = some o → h'.get? b = some o) → Q (.int (preSum (numAt xs) xs.size) t') { s with heap := h', toks := tk }) :
    wpAny (model prog w) A (call (.builtin "sum") [.ref l]) Q E s := by
  have lt : l < s.heap.objs.size := by
    obtain ⟨_, e, _⟩ := hl
    exact Heap.lt_size e
  refine call_sum_walkG (wpAny_pyIter_tuple hl ?_)
  refine ⟨s.heap.objs.size, [s.heap.objs.size, l], [s.heap.objs.size], _, _, _, numAt xs, rfl, Walks.tuple (A := A.in1) hh _ l (Nat.ne_of_lt lt) (intItems xs), ⟨⟨_, Heap.get?_push_size _ rfl, rfl, rfl⟩, hl.push _⟩, fun b hb => ?_, fun _ _ => intItems_at, fun h' tk t' hk => ?_⟩
  · show b < (s.heap.push _).objs.size
    rw [Heap.size_push]
    rcases List.mem_cons.mp hb with e | hb
    · rw [e]
      exact Nat.lt_succ_self _
    · rw [List.mem_singleton.mp hb]
      exact Nat.lt_succ_of_lt lt
  · have z := h h' tk t' fun b o e => hk b o (fun m => absurd (Heap.lt_size e) (by rw [List.mem_singleton.mp m]; exact Nat.lt_irrefl _)) (Heap.get?_push_of_some _ e)
    simpa [intItems] using z
theorem sum_tup {its : List Value} {ns : List Int} {Q : Value → Shared → Prop} (hh : A.handled = none) (hl : s.heap.IsTuple l its.toArray) (hi : IntsAre its ns)
    (h : ∀ h' tk t', (∀ b o, s.heap.get? b = some o → h'.get? b = some o) → Q (.int ns.sum t') { s with heap := h', toks := tk }) : wpAny (model prog w) A (call (.builtin "sum") [.ref l]) Q E s := by
  obtain ⟨xs, e⟩ := hi.allInts.items
  have hn : numsOf (intItems xs).toList = ns := by
    rw [← e]
    exact hi.numsOf
  rw [nums_intItems] at hn
  rw [e] at hl
  refine sum_tup0 hh hl fun h' tk t' hk => ?_
  have z := h h' tk t' hk
  rw [preSum_eq, List.take_of_length_le (by simp), hn]
  exact z
end
def rSumT (K : PySem.W.Frag) : List V → Hp → VK → Prop := fun vs H Q => ∃ (a : Addr) (ns : List Int), vs = [V.ref a] ∧ SqT K H a (ns.map V.int) ∧ Q (.int ns.sum) H
theorem cr_sumT {X : Cx} (hc : X.calm = true) : CallR X (.builtin "sum") (rSumT X.K) := fun pins s σ H vs us Q I r h => by
  obtain ⟨a, ns, rfl, hs, q⟩ := h
  obtain ⟨its, rv, ht, _⟩ := I.tuple hs
  rw [Vals.ref1 r]
  exact sum_tup (I.ok.hd hc) ht rv.ints fun h' tk t' hk => ⟨.int _, H, I.kept hk, ⟨_, rfl⟩, q⟩
theorem sqT_same {K : PySem.W.Frag} {H H' : Hp} {a : Addr} {xs : List V} (h : SqT K H a xs) (e : ∀ b o, H b = some o → H' b = some o) : SqT K H' a xs := by
  rcases h with (h | ⟨o, h⟩) | h
  · exact .inl (.inl (e _ _ h))
  · exact .inl (.inr ⟨o, e _ _ h⟩)
  · exact .inr h
mutual
theorem dp_same {K : PySem.W.Frag} {H H' : Hp} (s : ∀ b o, H b = some o → H' b = some o) : ∀ (d : PyData) (v : V), Dp K H v d → Dp K H' v d
  | _, _, .non => .non
  | _, _, .bl b => .bl b
  | _, _, .int i => .int i
  | _, _, .str x => .str x
  | _, _, .lst h a => .lst (by
      rcases h with (h | ⟨o, h⟩) | h
      · exact .inl (.inl (s _ _ h))
      · exact .inl (.inr ⟨o, s _ _ h⟩)
      · exact .inr h) (dpall_same s _ _ a)
  | _, _, .tup h a => .tup (sqT_same h s) (dpall_same s _ _ a)
theorem dpall_same {K : PySem.W.Frag} {H H' : Hp} (s : ∀ b o, H b = some o → H' b = some o) : ∀ (ds : List PyData) (vs : List V), DpAll K H vs ds → DpAll K H' vs ds
  | _, _, .nil => .nil
  | _, _, .cons h t => .cons (dp_same s _ _ h) (dpall_same s _ _ t)
end
end Gd
/-! all groups of ascending names: sorted, and group by group -/
namespace Gd
open PySem PySem.Spec PyProof.Rows L2 PySem.W
def cpG (g : Grp) : List (List Nat) := g.map fun s => s.cps.toList
theorem strExt {a b : Str} (h : a.cps.toList = b.cps.toList) : a = b := by
  cases a
  cases b
  congr
  exact Array.toList_inj.mp h
theorem cpG_inj : ∀ {g h : Grp}, cpG g = cpG h → g = h
  | [], [], _ => rfl
  | [], _ :: _, e => by cases e
  | _ :: _, [], e => by cases e
  | x :: g, y :: h, e => by
    have e1 : x.cps.toList :: cpG g = y.cps.toList :: cpG h := e
    injection e1 with e2 e3
    rw [strExt e2, cpG_inj e3]
theorem dataLt_grps : ∀ g h : Grp, PyProof.Rows.lexLt itemOrd (keyToksAll (encG g)) (keyToksAll (encG h)) = decide (cpG g < cpG h)
  | [], [] => by
    rw [show PyProof.Rows.lexLt itemOrd (keyToksAll (encG [])) (keyToksAll (encG [])) = false from lex_irrefl _]
    simp
  | [], y :: h => by
    have e : PyProof.Rows.lexLt itemOrd (keyToksAll (encG [])) (keyToksAll (PyData.str y :: encG h)) = true := by
      show PyProof.Rows.lexLt itemOrd (keyToksAll []) _ = true
      rw [keyToksAll, keyToksAll, lex_atom (by intro e; cases e)]
      rfl
    rw [show encG (y :: h) = PyData.str y :: encG h from rfl, e]
    exact (decide_eq_true (List.nil_lt_cons _ _)).symm
  | x :: g, [] => by
    have e : PyProof.Rows.lexLt itemOrd (keyToksAll (PyData.str x :: encG g)) (keyToksAll (encG [])) = false := by
      show PyProof.Rows.lexLt itemOrd _ (keyToksAll []) = false
      rw [keyToksAll, keyToksAll, lex_atom (by intro e; cases e)]
      rfl
    rw [show encG (x :: g) = PyData.str x :: encG g from rfl, e]
    exact (decide_eq_false (List.not_lt_nil _)).symm
  | x :: g, y :: h => by
    have e : PyProof.Rows.lexLt itemOrd (keyToksAll (PyData.str x :: encG g)) (keyToksAll (PyData.str y :: encG h)) = if PyData.eqv (.str x) (.str y) = true then PyProof.Rows.lexLt itemOrd (keyToksAll (encG g)) (keyToksAll (encG h)) else decide (x.cps.toList < y.cps.toList) := by
      rw [dataLt_cons (by simp [alike]), dataLt_str]
    show PyProof.Rows.lexLt itemOrd (keyToksAll (PyData.str x :: encG g)) (keyToksAll (PyData.str y :: encG h)) = decide (x.cps.toList :: cpG g < y.cps.toList :: cpG h)
    rw [e]
    simp only [PyData.eqv, beq_iff_eq]
    by_cases hxy : x = y
    · rw [if_pos hxy, dataLt_grps g h, hxy]
      simp [List.cons_lt_cons_iff]
    · rw [if_neg hxy]
      have n : ¬ x.cps.toList = y.cps.toList := fun z => hxy (strExt z)
      simp [n, List.cons_lt_cons_iff]
theorem leG_eq (g h : Grp) : leG g h = decide (cpG g ≤ cpG h) := by
  unfold leG
  rw [dataLt_tuple, dataLt_grps]
  by_cases e : cpG h < cpG g
  · simp [e, List.not_le.mpr e]
  · simp [e, List.not_lt.mp e]
theorem leG_trans (a b c : Grp) (h : leG a b = true) (k : leG b c = true) : leG a c = true := by
  rw [leG_eq] at *
  exact decide_eq_true (List.le_trans (of_decide_eq_true h) (of_decide_eq_true k))
theorem leG_total (a b : Grp) : (leG a b || leG b a) = true := by
  rw [leG_eq, leG_eq, Bool.or_eq_true]
  rcases List.le_total (cpG a) (cpG b) with h | h
  · exact .inl (decide_eq_true h)
  · exact .inr (decide_eq_true h)
theorem leG_anti {a b : Grp} (h : leG a b = true) (k : leG b a = true) : a = b := by
  rw [leG_eq] at h k
  exact cpG_inj (List.le_antisymm (of_decide_eq_true h) (of_decide_eq_true k))
theorem leG_cons (n : Str) (g h : Grp) : leG (n :: g) (n :: h) = leG g h := by
  rw [leG_eq, leG_eq]
  refine decide_eq_decide.mpr ?_
  show n.cps.toList :: cpG g ≤ n.cps.toList :: cpG h ↔ _
  rw [List.cons_le_cons_iff]
  constructor
  · rintro (h | h)
    · exact absurd h (List.lt_irrefl _)
    · exact h.2
  · exact fun h => .inr ⟨rfl, h⟩
def lexG : List Str → List Grp
  | [] => [[]]
  | n :: r => [] :: ((lexG r).map (n :: ·) ++ (lexG r).tail)
theorem lexG_head : ∀ ns : List Str, ∃ r, lexG ns = [] :: r
  | [] => ⟨_, rfl⟩
  | _ :: _ => ⟨_, rfl⟩
theorem lexG_mem : ∀ {ns : List Str} {g : Grp}, g ∈ lexG ns ↔ g.Sublist ns
  | [], g => by
    show g ∈ [[]] ↔ _
    rw [List.mem_singleton, List.sublist_nil]
  | n :: r, g => by
    obtain ⟨t, e⟩ := lexG_head r
    show g ∈ [] :: ((lexG r).map (n :: ·) ++ (lexG r).tail) ↔ _
    rw [List.mem_cons, List.mem_append, List.mem_map]
    constructor
    · rintro (rfl | ⟨h, m, rfl⟩ | m)
      · exact List.nil_sublist _
      · exact (lexG_mem.mp m).cons_cons n
      · exact (lexG_mem.mp (List.mem_of_mem_tail m)).cons n
    · intro s
      cases s with
      | cons _ s =>
        by_cases z : g = []
        · exact .inl z
        · refine .inr (.inr ?_)
          have m := lexG_mem.mpr s
          rw [e] at m ⊢
          exact (List.mem_cons.mp m).resolve_left z
      | cons_cons _ s => exact .inr (.inl ⟨_, lexG_mem.mpr s, rfl⟩)
theorem lexG_sorted : ∀ {ns : List Str}, ns.Pairwise ltS → (lexG ns).Pairwise (fun a b => leG a b = true)
  | [], _ => List.pairwise_singleton _ _
  | n :: r, h => by
    obtain ⟨hn, hr⟩ := List.pairwise_cons.mp h
    have ih := lexG_sorted hr
    refine List.pairwise_cons.mpr ⟨fun g _ => leG_nil g, List.pairwise_append.mpr ⟨?_, ?_, ?_⟩⟩
    · refine List.pairwise_map.mpr (ih.imp fun {a b} q => ?_)
      rw [leG_cons]
      exact q
    · exact ih.sublist (List.tail_sublist _)
    · intro a ha b hb
      obtain ⟨c, _, rfl⟩ := List.mem_map.mp ha
      have sb : b.Sublist r := lexG_mem.mp (List.mem_of_mem_tail hb)
      obtain ⟨t, e⟩ := lexG_head r
      have nd : (lexG r).Nodup := ?_
      · cases b with
        | nil =>
          rw [e] at hb nd
          exact absurd hb (List.nodup_cons.mp nd).1
        | cons x b =>
          have m : x ∈ r := sb.subset (List.mem_cons_self ..)
          have lt : n.cps.toList < x.cps.toList := hn x m
          rw [leG_eq]
          refine decide_eq_true ?_
          show n.cps.toList :: cpG c ≤ x.cps.toList :: cpG b
          exact List.cons_le_cons_iff.mpr (.inl lt)
      · exact lexG_nodup (asc_nodup hr)
where
  lexG_nodup : ∀ {ns : List Str}, ns.Nodup → (lexG ns).Nodup
  | [], _ => by simp [lexG]
  | n :: r, h => by
    obtain ⟨hn, hr⟩ := List.nodup_cons.mp h
    have ih := lexG_nodup hr
    obtain ⟨t, e⟩ := lexG_head r
    refine List.nodup_cons.mpr ⟨fun m => ?_, List.nodup_append.mpr ⟨?_, ?_, ?_⟩⟩
    · rcases List.mem_append.mp m with m | m
      · obtain ⟨c, _, z⟩ := List.mem_map.mp m
        cases z
      · rw [e] at m ih
        exact (List.nodup_cons.mp ih).1 m
    · refine List.pairwise_map.mpr (ih.imp fun {a b} q z => q ?_)
      injection z
    · exact ih.sublist (List.tail_sublist _)
    · intro a ha b hb z
      subst z
      obtain ⟨c, _, rfl⟩ := List.mem_map.mp ha
      exact hn ((lexG_mem.mp (List.mem_of_mem_tail hb)).subset (List.mem_cons_self ..))
theorem sorted_perm_eq {α : Type} {le : α → α → Bool} (anti : ∀ {a b}, le a b = true → le b a = true → a = b) : ∀ {l m : List α}, l.Perm m → l.Pairwise (fun a b => le a b = true) → m.Pairwise (fun a b => le a b = true) → l = m := by
  intro l m p hl hm
  exact p.eq_of_pairwise (fun _ _ _ _ h k => anti h k) hl hm
theorem groupsOf_lex {ns : List Str} (h : ns.Pairwise ltS) : groupsOf ns = lexG ns := by
  have nd := asc_nodup h
  refine sorted_perm_eq leG_anti ?_ (List.pairwise_mergeSort (fun a b c => leG_trans a b c) (fun a b => leG_total a b) _) (lexG_sorted h)
  refine (List.perm_ext_iff_of_nodup (groups_nodup nd) (lexG_sorted.lexG_nodup nd)).mpr fun g => ?_
  rw [groups_mem, lexG_mem]
theorem lexG_len (ns : List Str) : (lexG ns).length = 2 ^ ns.length := by
  induction ns with
  | nil => rfl
  | cons n r ih =>
    show ((lexG r).map (n :: ·) ++ (lexG r).tail).length + 1 = 2 ^ (r.length + 1)
    have : 1 ≤ 2 ^ r.length := Nat.one_le_two_pow
    rw [List.length_append, List.length_map, List.length_tail, ih, Nat.pow_succ]
    omega
end Gd
set_option maxHeartbeats 1000000
/-! t[::-1] of a tuple -/
namespace HT
open PySem PySem.Spec PyProof.Rows
section
variable {prog : Program} {w : World} {A : Around} {E : Value → Shared → Prop} {s : Shared}
theorem adjust_rev (n : Nat) : Builtin.Slice.sliceAdjust none none (-1) (n : Int) = ((n : Int) - 1, -1) := by
  unfold Builtin.Slice.sliceAdjust
  simp
theorem places_rev (n : Nat) : Builtin.Slice.slicePlaces ((n : Int) - 1) (-1) (-1) = n := by
  unfold Builtin.Slice.slicePlaces
  simp
  try omega
theorem sliceApplied_rev {sl : Addr} {vs : Value} {n : Nat} {Q : Int × Int × Nat → Shared → Prop} (hs : s.heap.IsSliceOf sl .none .none vs) (ps : IsPart vs (some (-1)))
    (h : Q ((n : Int) - 1, -1, n) s) : wpAny (model prog w) A (Builtin.Slice.sliceApplied (.ref sl) (pure (n : Int))) Q E s := by
  obtain ⟨os, hos, hcs, hds⟩ := id hs
  unfold Builtin.Slice.sliceApplied Builtin.Slice.sliceFields
  refine wpAny_bind (wpAny_bind (wpAny_field hos hds (x := .none) rfl (wpAny_bind (wpAny_field hos hds (x := .none) rfl (wpAny_bind (wpAny_field hos hds (x := vs) rfl (wpAny_pure ?_)))))))
  refine wpAny_bind (slicePart_ ps ?_)
  show wpAny _ _ (if ((-1 : Int) == 0) = true then _ else _) _ _ s
  rw [if_neg (by decide)]
  refine wpAny_bind (slicePart_none (wpAny_bind (slicePart_none (wpAny_bind (wpAny_pure ?_)))))
  show wpAny _ _ (match Builtin.Slice.sliceAdjust none none (-1) (n : Int) with | (lo, hi) => pure (lo, (-1 : Int), Builtin.Slice.slicePlaces lo hi (-1))) _ _ s
  rw [adjust_rev n]
  show wpAny _ _ (pure ((n : Int) - 1, (-1 : Int), Builtin.Slice.slicePlaces ((n : Int) - 1) (-1) (-1))) _ _ s
  rw [places_rev]
  exact wpAny_pure h
theorem fm_some {α β : Type} {f : α → Option β} {g : α → β} : ∀ {l : List α}, (∀ x ∈ l, f x = some (g x)) → l.filterMap f = l.map g
  | [], _ => rfl
  | x :: l, h => by
    rw [List.filterMap_cons, h x (List.mem_cons_self ..), List.map_cons, fm_some fun y m => h y (List.mem_cons_of_mem _ m)]
theorem pick_rev (xs : Array Value) : ((List.range xs.size).filterMap fun (m : Nat) => xs[(((xs.size : Int) - 1) + (m : Int) * (-1)).toNat]?).toArray = xs.toList.reverse.toArray := by
  congr 1
  apply List.ext_getElem?
  intro i
  have e : (List.range xs.size).filterMap (fun (m : Nat) => xs[(((xs.size : Int) - 1) + (m : Int) * (-1)).toNat]?) = xs.toList.reverse := by
    have h1 : ∀ m ∈ List.range xs.size, xs[(((xs.size : Int) - 1) + (m : Int) * (-1)).toNat]? = some (xs.toList.reverse.getD m .none) := by
      intro m hm
      have hm := List.mem_range.mp hm
      have e1 : (((xs.size : Int) - 1) + (m : Int) * (-1)).toNat = xs.size - 1 - m := by omega
      rw [e1, List.getD_eq_getElem?_getD, List.getElem?_reverse (by rw [Array.length_toList]; omega), Array.length_toList, Array.getElem?_toList]
      rw [Array.getElem?_eq_getElem (by omega)]
      rfl
    rw [fm_some h1]
    apply List.ext_getElem?
    intro i
    by_cases hi : i < xs.size
    · rw [List.getElem?_map, List.getElem?_range hi]
      have : i < xs.toList.reverse.length := by rw [List.length_reverse, Array.length_toList]; exact hi
      rw [List.getElem?_eq_getElem this]
      show some (xs.toList.reverse.getD i Value.none) = _
      rw [List.getD_eq_getElem?_getD, List.getElem?_eq_getElem this]
      rfl
    · rw [List.getElem?_eq_none (by rw [List.length_map, List.length_range]; omega), List.getElem?_eq_none (by rw [List.length_reverse, Array.length_toList]; omega)]
  rw [e]
theorem getItem_tuple_rev {t sl : Addr} {items : Array Value} {vs : Value} {Q : Value → Shared → Prop} (ht : IsTup s.heap t items) (hs : s.heap.IsSliceOf sl .none .none vs) (ps : IsPart vs (some (-1)))
    (h : Q (.ref s.heap.objs.size) { s with heap := s.heap.push { cls := .type "tuple", data := .seq items.toList.reverse.toArray } })
    (hsz : items.size ≤ sizeLine) : wpAny (model prog w) A (getItem (.ref t) (.ref sl)) Q E s := by
  have htake : sizeOk (.seq items.toList.reverse.toArray) := by
    show items.toList.reverse.toArray.size ≤ sizeLine
    rw [List.size_toArray, List.length_reverse, Array.length_toList]
    omega
  obtain ⟨os, hos, hcs, hds⟩ := id hs
  have hTs : s.TypeIs (.ref sl) "slice" := ⟨os, hos, hcs⟩
  unfold getItem
  try with_reducible refine wpAny_holding ?_
  first | refine wpAny_bind (wpAny_pure ?_) | skip
  refine wpAny_bind (wpAny_sequenceKey ht.typeIs (by decide) ?_)
  refine wpAny_bind (wpAny_callSpecial?_slot (name := Str.ofString "__getitem__") ht.typeIs PyProof.Rows.slot_tuple_getitem
    (wpAny_call_entry PyProof.Rows.slot_tuple_getitem ht.typeIs entry_tuple_getitem ?_ (args_tuple_getitem _ _)))
  show wpAny _ _ (Builtin.Tuple.tupleItemsOf (.ref t) >>= _) _ _ s
  refine wpAny_bind (tupleItemsOf_ ht ?_)
  refine wpAny_bind (wpAny_typeOf hTs ?_)
  rw [if_pos (by decide)]
  refine wpAny_bind (sliceApplied_rev hs ps ?_)
  have hno : ¬ ((((items.size : Int) - 1) == 0 && (-1 : Int) == 1 && items.size == items.size) = true) := by
    intro q
    rw [Bool.and_eq_true, Bool.and_eq_true] at q
    exact absurd q.1.2 (by decide)
  show wpAny _ _ (if (((items.size : Int) - 1) == 0 && (-1 : Int) == 1 && items.size == items.size) = true then _ else _) _ _ s
  rw [if_neg hno, pick_rev]
  first
    | exact wpAny_bind (m := Builtin.Tuple.tupleExact _) (wpAny_newObj_type (wpAny_pure ⟨_, rfl, wpAny_pure h⟩) htake)
    | exact wpAny_bind (m := Builtin.Tuple.tupleExact _) (wpAny_newObj_type (wpAny_bind (wpAny_pure (wpAny_pure ⟨_, rfl, wpAny_pure h⟩))) htake)
    | exact wpAny_bind (wpAny_bind (m := Builtin.Tuple.tupleExact _) (wpAny_newObj_type (wpAny_pure (wpAny_pure ⟨_, rfl, wpAny_pure h⟩)) htake))
    | exact wpAny_bind (wpAny_bind (m := Builtin.Tuple.tupleExact _) (wpAny_newObj_type (wpAny_pure ⟨_, rfl, wpAny_pure h⟩) htake))
end
end HT
namespace Gd
open PySem PySem.Spec PyProof.Rows L2
section
variable {X : Cx}
def tRevT (K : PySem.W.Frag) (te : TE) : TE := fun σ H Q => te σ H fun x H1 => ∃ a xs, x = .ref a ∧ SqT K H1 a xs ∧ ∀ p, H1 p = none → Q (.ref p) (upd H1 p (.tup xs.reverse))
theorem pe_revT {e : Expr} {te : TE} {k : Nat} {p1 p2 p3 pos : Pos} (he : PE X e te) : PE X (.Subscript e (.Slice none none (some (.UnaryOp .USub (.Constant (.int 1) k p1) p2)) p3) pos) (tRevT X.K te) := by
  refine ⟨fun pins s σ H Q I h => ?_⟩
  refine Subscript_ (thn (he.run pins s σ H _ I h) fun v s1 ⟨x, H1, I1, r1, q1⟩ => ?_)
  obtain ⟨a, xs, ex, hx, q⟩ := q1
  subst ex
  cases r1
  have hst : PO X (some (.UnaryOp .USub (.Constant (.int 1) k p1) p2)) (tPart (tUn (rU fun i => .int (-i)) (tC (.int 1)))) := po_some (pe_un un_neg pe_int)
  refine wpAny_Slice (thn (po_none.run pins s1 σ H1 (fun o H2 => o = none ∧ H2 = H1) I1 ⟨rfl, rfl⟩) fun vl s2 ⟨l, H2, I2, pl, el, e2⟩ => ?_)
  subst el e2
  refine thn (po_none.run pins s2 σ H2 (fun o H3 => o = none ∧ H3 = H2) I2 ⟨rfl, rfl⟩) fun vu s3 ⟨u, H3, I3, pu, eu, e3⟩ => ?_
  subst eu e3
  refine thn (hst.run pins s3 σ H3 (fun o H4 => o = some (-1) ∧ H4 = H3) I3 ⟨1, rfl, -1, rfl, rfl, rfl⟩) fun vs s4 ⟨o, H4, I4, ps, eo, e4⟩ => ?_
  subst eo e4
  have I5 : Inv X pins σ H4 { s4 with heap := s4.heap.push { cls := .type "slice", data := .fields #[vl, vu, vs] } } := I4.kept (t' := s4.toks) fun b ob q => Heap.get?_push_of_some _ q
  obtain ⟨its, r, ht, hz⟩ := I5.tuple hx
  have hlen := r.length
  cases pl
  cases pu
  show wpAny (model X.prog X.w) X.A (subscriptTail e (.Slice none none (some (.UnaryOp .USub (.Constant (.int 1) k p1) p2)) p3) (.ref a) (.ref s4.heap.objs.size)) (EP X pins σ Q) X.xe { s4 with heap := s4.heap.push { cls := .type "slice", data := .fields #[.none, .none, vs] } }
  refine tail_any (ops := [.ref a, .ref s4.heap.objs.size]) ht.typeIs (PyProof.Rows.slot_tuple_getitem.lookup) ?_ (by with_unfolding_all rfl)
  refine HT.getItem_tuple_rev ht (Heap.IsSliceOf.new _ .none .none vs) ps ?_ (by rw [List.size_toArray]; omega)
  refine ⟨.ref _, _, I5.laid (t' := s4.toks) (o := .tup xs.reverse) (fun b ob q => Heap.get?_push_of_some _ q) (Nat.le_refl _) ?_, rfl, q _ (I5.hok.fresh (Nat.le_refl _))⟩
  exact ⟨by rw [List.length_reverse]; exact hz, _, r.reverse, IsTup.new _ _⟩
end
end Gd
namespace Gd
open PySem PySem.Spec PyProof.Rows L2
section
variable {X : Cx}
/-- t + u of tuples: some tuple with the items of both -/
def rCatU : R2 := fun x y H Q => ∃ a b xs ys, x = .ref a ∧ y = .ref b ∧ H a = some (.tup xs) ∧ H b = some (.tup ys) ∧ xs.length + ys.length ≤ sizeLine ∧ ∀ r H', Same H H' → H' r = some (.tup (xs ++ ys)) → Q (.ref r) H'
theorem op_catU : OpR X (binaryOp .Add) rCatU := fun pins s σ H x y v u Q I rx ry h => by
  obtain ⟨a, b, xs, ys, rfl, rfl, ha, hb, hz, q⟩ := h
  exact op_catA pins s σ H _ _ v u Q I rx ry ⟨a, b, xs, ys, rfl, rfl, .inl (.inl ha), .inl (.inl hb), hz, fun e => q b H (.refl _) (by rw [e]; exact hb), fun _ e => q a H (.refl _) (by rw [e, List.append_nil]; exact ha), fun _ _ p np => q p _ (same_new np) upd_same⟩
/-- t[lo:hi] of a tuple: some tuple with these items -/
def rSlU : V → Option Int → Option Int → Hp → VK → Prop := fun x lo hi H Q => ∃ a xs, x = .ref a ∧ H a = some (.tup xs) ∧ ∀ r H', Same H H' → H' r = some (.tup (cutV xs lo hi)) → Q (.ref r) H'
theorem sl_tupU : SlR X rSlU := fun pins s σ H x v vl vu lo hi sl Q I rx hs pl pu h => by
  obtain ⟨a, xs, rfl, ha, q⟩ := h
  refine sl_tupA pins s σ H _ v vl vu lo hi sl Q I rx hs pl pu ⟨a, xs, rfl, .inl (.inl ha), fun e => q a H (.refl _) ?_, fun _ p np => q p _ (same_new np) upd_same⟩
  unfold cutV
  rw [e.1, e.2, List.drop_zero, Nat.sub_zero, List.take_length]
  exact ha
theorem cutV_upto (xs : List V) (k : Nat) (h : k ≤ xs.length) : cutV xs none (some (k : Int)) = xs.take k := by
  unfold cutV
  have e : HT.sIx xs.length xs.length (some (k : Int)) = k := by
    show (if (k : Int) < 0 then ((k : Int) + (xs.length : Int)).toNat else min (k : Int).toNat xs.length) = k
    rw [if_neg (by omega), Int.toNat_natCast]
    omega
  rw [e, HT.sIx_none, List.drop_zero, Nat.sub_zero]
theorem cutV_from (xs : List V) (k : Nat) (h : k ≤ xs.length) : cutV xs (some (k : Int)) none = xs.drop k := by
  unfold cutV
  have e : HT.sIx xs.length 0 (some (k : Int)) = k := by
    show (if (k : Int) < 0 then ((k : Int) + (xs.length : Int)).toNat else min (k : Int).toNat xs.length) = k
    rw [if_neg (by omega), Int.toNat_natCast]
    omega
  rw [e, HT.sIx_none]
  exact List.take_of_length_le (by rw [List.length_drop]; omega)
end
end Gd
set_option maxHeartbeats 1000000
/-! enumerate of a tuple -/
namespace Gd
open PySem PySem.Spec PyProof.Rows L2
open PySem.Sem (wp)
theorem meets_enumT (l : Addr) (items : Array Value) :
    Meets (Builtin.«enumerate.__new__» ⟨[.type "enumerate", .ref l], []⟩) (fun _ R s => s.heap.IsTuple l items ∧
      R (.ok (.ret (.ref (s.heap.push { cls := .type "tuple_iterator", data := .fields #[.ref l, .int 0 0] }).objs.size)))
        { s with heap := (s.heap.push { cls := .type "tuple_iterator", data := .fields #[.ref l, .int 0 0] }).push { cls := .type "enumerate", data := .fields #[.none, .bool false, .ref s.heap.objs.size, rawInt 0, .none, .none] } }) :=
  .of_wp fun prog w A R s h => by
    obtain ⟨hp, g, d, tk, os⟩ := s; obtain ⟨hl, h⟩ := h
    have hsub := sub_enumerate
    have hL : Heap.IsTuple (Shared.heap ⟨hp, g, d, tk, os⟩) l items := hl
    have hT : Shared.TypeIs ⟨hp, g, d, tk, os⟩ (.ref l) "tuple" := hL.typeIs
    wp_walk using wpAny_pyIter_tuple hL
    refine wpAny_stack_any fun st => wpAny_pure ?_
    split
    · rename_i c _ _ _ _ _
      cases (c == Value.type "enumerate")
      · wp_walk using wpAny_pyIter_tuple hL
        exact ⟨_, rfl, h⟩
      · wp_walk using wpAny_pyIter_tuple hL
        exact ⟨_, rfl, h⟩
    · wp_walk using wpAny_pyIter_tuple hL
      exact ⟨_, rfl, h⟩
section
variable {prog : Program} {w : World} {A : Around} {E : Value → Shared → Prop} {s : Shared}
theorem call_enumT {l : Addr} {items : Array Value} {Q : Value → Shared → Prop} (hL : s.heap.IsTuple l items)
    (h : ∀ h', IsEnum h' (s.heap.objs.size + 1) s.heap.objs.size 0 .none → h'.IsTupleIter s.heap.objs.size l 0 → h'.objs.size = s.heap.objs.size + 2 →
      (∀ b o, s.heap.get? b = some o → h'.get? b = some o) → Q (.ref (s.heap.objs.size + 1)) { s with heap := h' }) :
    wpAny (model prog w) A (call (.type "enumerate") [.ref l]) Q E s := by
  refine callType_new F.called_enumerate (by decide) (F.typeCall_enumerate_1 _) (F.newCall_enumerate_1 _) (fun obj => F.args_object_init_2 obj _) F.entry_enumerate_new
    (meets_enumT l items) ⟨hL, ?_⟩
  have hz : (s.heap.push { cls := .type "tuple_iterator", data := .fields #[.ref l, .int 0 0] }).objs.size = s.heap.objs.size + 1 := Heap.size_push ..
  show _ ∧ _
  rw [hz]
  have he : IsEnum ((s.heap.push { cls := .type "tuple_iterator", data := .fields #[.ref l, .int 0 0] }).push
      { cls := .type "enumerate", data := .fields #[.none, .bool false, .ref s.heap.objs.size, rawInt 0, .none, .none] }) (s.heap.objs.size + 1) s.heap.objs.size 0 .none := by
    have := Heap.get?_push_size (s.heap.push { cls := .type "tuple_iterator", data := .fields #[.ref l, .int 0 0] })
      (o := { cls := .type "enumerate", data := .fields #[.none, .bool false, .ref s.heap.objs.size, rawInt 0, .none, .none] }) rfl
    rw [hz] at this; exact this
  refine ⟨⟨_, he, rfl⟩, h _ he ⟨_, Heap.get?_push_of_some _ (Heap.get?_push_size _ rfl), rfl, rfl⟩ (by rw [Heap.size_push, hz]) fun b o x => Heap.get?_push_of_some _ (Heap.get?_push_of_some _ x)⟩
end
theorem draws_tup {prog : Program} {w : World} {A : Around} (hh : A.handled = none) (it l : Addr) (hne : l ≠ it) (items : Array Value) :
    Draws prog w A it [it, l] items.size (fun i v => items[i]? = some v) (fun i h => h.IsTupleIter it l i ∧ h.IsTuple l items) where
  live := fun _ _ st => let ⟨o, ho, _⟩ := st.1; ⟨o, ho⟩
  frame := fun _ _ _ st hk => ⟨st.1.at fun o e => hk it (by simp) o e, st.2.at fun o e => hk l (by simp) o e⟩
  item := fun i s Q E hi st hQ => by
    refine RZ.nextOf_tuple_item st.1 st.2 (x := items[i]) (by simp [hi]) fun h' hit' hs' => ?_
    exact hQ _ h' s.toks (by simp [hi]) ⟨hit', st.2.at fun o e => hs'.extBut l o hne e⟩ hs'
  done := fun s Q E st hE => RZ.nextOf_tuple_end hh st.1 st.2 (by simp) hE
theorem enum_endT {prog : Program} {w : World} {A : Around} {E : Value → Shared → Prop} {s : Shared} {e it l : Addr} {i : Nat} {items : Array Value} {old : Value} {Q : Option Value → Shared → Prop} (hh : A.handled = none)
    (he : IsEnum s.heap e it i old) (hit : s.heap.IsTupleIter it l i) (hl : s.heap.IsTuple l items) (hx : items[i]? = none)
    (hQ : ∀ h', Heap.ExtBut it s.heap h' → Q none { s with heap := h' }) : wpAny (model prog w) A (pyNext (.ref e)) Q E s := by
  have hT : s.TypeIs (.ref e) "enumerate" := ⟨_, he, rfl⟩
  unfold pyNext
  refine wpAny_bind (wpAny_attempt (wpAny_callSpecial?_slot (name := Str.ofString "__next__") hT F.slot_enumerate_next
    (wpAny_call_entry F.slot_enumerate_next hT F.entry_enumerate_next ?_ (F.args_enumerate_next_1 _))))
  show wpAny _ _ (field (.ref e) 2 >>= _) _ _ _
  refine wpAny_bind (wpAny_field he rfl (x := .ref it) rfl ?_)
  refine wpAny_bind (RZ.nextOf_tuple_end hh hit hl hx fun h' x he' hx' => ?_)
  obtain ⟨o, ho, hc⟩ := hx'
  refine wpAny_bind (wpAny_isInstance (T := "StopIteration") (b := true) ⟨o, ho, hc⟩ isSubtype_stop ?_)
  exact wpAny_pure (hQ _ he')
/-- the tuple at a, each item in a new pair -/
def IteT (K : PySem.W.Frag) (a : Addr) : It :=
  ⟨fun i H => ∃ (xs : List V) (x : V), SqT K H a xs ∧ xs[i]? = some x, fun i H v H' => ∃ T x, v = .ref T ∧ H T = none ∧ H' = upd H T (.tup [.int (i : Nat), x]) ∧ ∀ xs, SqT K H a xs → xs[i]? = some x, fun i H => ∃ xs : List V, SqT K H a xs ∧ xs.length ≤ i⟩
theorem turn_enumT {P : Program} {w : World} {K : PySem.W.Frag} {elts : List Expr} {kk : Nat} {tpos : Pos} (a e it : Addr) :
    Turn P w K (.Tuple elts kk tpos) (IteT K a) [e, it] e (fun i h => (∃ old, IsEnum h e it ((i : Nat) : Int) old) ∧ h.IsTupleIter it a i ∧ e ≠ it) where
  mem := by simp
  obj := fun i h st b hb => by
    obtain ⟨⟨old, he⟩, ⟨o, ho, hc, hd⟩, _⟩ := st
    have e' : b = e ∨ b = it := by simpa using hb
    rcases e' with z | z
    · rw [z]; exact ⟨_, he, fun v q => nomatch q⟩
    · rw [z]; exact ⟨o, ho, fun v q => by rw [hd] at q; cases q⟩
  keep := fun i h h' st k => let ⟨⟨old, he⟩, hi, hne⟩ := st; ⟨⟨old, k e (by simp) _ he⟩, hi.at fun o q => k it (by simp) o q, hne⟩
  item := by
    intro X hP hw hK hc i pins s σ H E I hf st hg
    subst hP hw hK
    obtain ⟨⟨old, he⟩, hit, hne⟩ := st
    obtain ⟨xs, x, hq, hx⟩ := hg
    obtain ⟨its, rv, p, hz⟩ := I.tuple hq
    obtain ⟨u, hu, ru⟩ := rv.get hx
    have hel : e < s.heap.objs.size := Heap.lt_size he
    have hil : it < s.heap.objs.size := by obtain ⟨_, q, _⟩ := hit; exact Heap.lt_size q
    have pt : s.heap.IsTuple a its.toArray := p
    have hlt : i < its.toArray.size := by
      obtain ⟨g, _⟩ := List.getElem?_eq_some_iff.mp (show its[i]? = some u by simpa using hu)
      simpa using g
    have hai : a ≠ it := by
      intro z
      obtain ⟨o1, q1, c1, d1⟩ := hit
      obtain ⟨o2, q2, c2, _⟩ := pt
      rw [z, q1] at q2
      cases q2
      rw [c1] at c2
      exact absurd c2 (by decide)
    have hae : a ≠ e := by
      intro z
      obtain ⟨o2, q2, c2, _⟩ := pt
      rw [z, he] at q2
      cases q2
      have c3 : Value.type "enumerate" = Value.type "tuple" := c2
      exact absurd c3 (by decide)
    refine wpAny_pyNext_enum_itemD (draws_tup (A := X.A.in1) (show X.A.in1.handled = none from I.ok.hd hc) it a hai its.toArray) he ⟨hit, pt⟩ hlt hne (by simp [hne, Ne.symm hae]) fun y h' tk hP ho hst hT hsz hk => ?_
    obtain rfl : y = u := by
      have hu' : its.toArray[i]? = some u := by simpa using hu
      have hP : its.toArray[i]? = some y := hP
      rw [hu'] at hP
      exact (Option.some.inj hP).symm
    refine ⟨_, rfl, wpAny_letOwnedTupleGo_enum (s := { s with heap := h', toks := tk + 1 }) ho fun h'' he' sb => ?_⟩
    have hT2 : h''.get? s.heap.objs.size = some { cls := .type "tuple", data := .seq #[.int i tk, y] } := (sb.2 _ (Nat.ne_of_gt hel)).trans hT
    have new : ObjOk X.prog X.w (upd H s.heap.objs.size (.tup [.int (i : Nat), x])) h'' s.heap.objs.size (.tup [.int (i : Nat), x]) :=
      ⟨by show 2 ≤ sizeLine; decide, [.int i tk, y], .cons ⟨_, rfl⟩ (.cons ru .nil), ⟨_, hT2, rfl, _, rfl⟩⟩
    have I1 : Inv X pins σ (upd H s.heap.objs.size (.tup [.int (i : Nat), x])) { s with heap := h'', toks := tk + 1 } :=
      I.turnedNew (ch := [e, it]) (fun b ob hb q => (sb.2 b (fun z => hb (by simp [z]))).trans (hk b ob (fun z => hb (by simp [z])) (fun z => hb (by simp [z])) q)) hf (Nat.le_refl _) new
    refine ⟨.ref s.heap.objs.size, _, I1, rfl, ⟨_, x, rfl, I.hok.fresh (Nat.le_refl _), rfl, fun ys hy => by rw [I.tuple_inj hy hq]; exact hx⟩, ⟨⟨y, ?_⟩, hst.1.at fun o q => (sb.2 it (Ne.symm hne)).trans q, hne⟩, fun b hb => ?_⟩
    · have e1 : ((i + 1 : Nat) : Int) = (i : Int) + 1 := by omega
      rw [e1]; exact he'
    · have hb' : b < s.heap.objs.size := by
        have e' : b = e ∨ b = it := by simpa using hb
        rcases e' with z | z
        · rw [z]; exact hel
        · rw [z]; exact hil
      rw [upd_ne (Nat.ne_of_lt hb')]
      exact (hf b hb).1
  done := by
    intro X hP hw hK hc i pins s σ H E I hf st hg
    subst hP hw hK
    obtain ⟨⟨old, he⟩, hit, hne⟩ := st
    obtain ⟨xs, hq, hx⟩ := hg
    obtain ⟨its, rv, p, hz⟩ := I.tuple hq
    obtain ⟨f0, f1, f2, f3, f4, f5⟩ := hf it (by simp)
    have hl := rv.length
    have pt : s.heap.IsTuple a its.toArray := p
    have hsz : its.toArray.size ≤ i := by simp; omega
    refine enum_endT (I.ok.hd hc) he hit pt (by simp; omega) fun h' eb => ⟨rfl, I.turned (t' := s.toks) (fun b o hb q => eb b o hb q) f0 f1 f3 f4 f5⟩
  self := fun A i s Q E st h => let ⟨⟨_, he⟩, _⟩ := st; wpAny_pyIter_enum he h
def iEnumT (K : PySem.W.Frag) (ta : TA) : TI := fun σ H R => ta σ H fun vs H1 => ∃ a xs, vs = [.ref a] ∧ SqT K H1 a xs ∧ R (IteT K a) H1
theorem pi_enumT {X : Cx} {e : Expr} {ta : TA} {p pos tpos : Pos} {elts : List Expr} {kk : Nat} (hg : Gl X "enumerate") (hm : X.mg "enumerate" = none) (ha : PA X [e] ta) (hs : starEach [e] X.env = [(false, eval e X.env)] := by rfl) :
    PI X (.Tuple elts kk tpos) (.Call (.Name "enumerate" p) [e] [] pos) (iEnumT X.K ta) := by
  refine ⟨fun pins s σ H R I h => ?_⟩
  refine Call_ (ld_blt I hg hm boot_enumerate (PyProof.Rows.callWith_type1 (thn (ha.run pos pins s σ H _ I h) fun us s1 ⟨vs, H1, I1, r1, q1⟩ => ?_) hs rfl))
  obtain ⟨a, xs, ex, hq, q⟩ := q1
  subst ex
  cases r1 with
  | cons r rr =>
    cases rr
    cases r
    obtain ⟨its, rv, p', hz⟩ := I1.tuple hq
    have pt : s1.heap.IsTuple a its.toArray := p'
    refine call_enumT pt fun h' he hit hsz hk => wpAny_pyIter_enum he ?_
    have I2 : Inv X pins σ H1 { s1 with heap := h' } := I1.kept (t' := s1.toks) hk
    refine ⟨s1.heap.objs.size + 1, [s1.heap.objs.size + 1, s1.heap.objs.size], _, _, H1, rfl, I2, turn_enumT a (s1.heap.objs.size + 1) s1.heap.objs.size, ⟨⟨.none, he⟩, hit, Nat.succ_ne_self _⟩, fun b hb => ?_, q⟩
    have e' : b = s1.heap.objs.size + 1 ∨ b = s1.heap.objs.size := by simpa using hb
    have hle : s1.heap.objs.size ≤ b := by
      rcases e' with z | z
      · rw [z]; exact Nat.le_add_right _ _
      · rw [z]; exact Nat.le_refl _
    exact I1.fpOk hle (I1.hok.fresh hle)
/-- index and item -/
theorem walk_enT {K : PySem.W.Frag} {a : Addr} {xs : List V} : Walk (IteT K a) xs.length (fun H => SqT K H a xs) (fun i H v H' => ∃ T x, v = .ref T ∧ H T = none ∧ H' = upd H T (.tup [.int (i : Nat), x]) ∧ xs[i]? = some x) := by
  refine ⟨fun i H hi q => ⟨xs, xs[i], q, List.getElem?_eq_getElem hi⟩, fun H q => ⟨xs, q, Nat.le_refl _⟩, fun i H v H' _ q y => ?_⟩
  obtain ⟨T, x, h1, h2, h3, h4⟩ := y
  exact ⟨T, x, h1, h2, h3, h4 xs q⟩
end Gd
/-! x in an own instance, own + own -/
namespace Gd
open PySem PySem.Spec PyProof.Rows L2
section
variable {X : Cx} {CX : CXT} {k : Nat} {C f : Addr} {fd : FuncData} {ps : List Str} {sp : Sp} {E : XK}
/-- x in o, o an instance with an own __contains__ that tells a truth -/
def rInO (C : Addr) (sp : Sp) (E : XK) (neg : Bool) : R2 := fun x y H Q => ∃ a dx fs, y = .ref a ∧ H a = some (.ins C dx fs) ∧ sp [.ref a, x] H (fun v H' => ∃ b, v = .bl b ∧ Q (.bl (if neg = true then !b else b)) H') E
theorem op_inO (hs : PySem.W.findIn X.K (.ref C) "__contains__" = some (some (.ref f))) (hf : PySem.W.isFn X.K (.ref f) = true) (F : FnOk X.prog X.w X.K X.mg X.base CX k f fd ps sp) (hr : Room k X.A) (hb : Binds X.K fd ps []) (hx : Passes CX X E) : OpR X (compareOp .In) (rInO C sp E false) := by
  intro pins s σ H x y v u Q I rx ry h
  obtain ⟨a, dx, fs, rfl, ea, q⟩ := h
  obtain rfl : u = Value.ref a := ry
  obtain ⟨mA, O, _, _, _, _⟩ := ins_get I.hok ea
  obtain ⟨od, J, _⟩ := O.look
  obtain ⟨m, fr⟩ := I.fr
  refine PySem.W.in_K fr I.mod.kin J hs hf (thn (run_fn (us := [.ref a, v]) (vs := [.ref a, x]) F hr hb .nil hx I (.cons rfl (.cons rx .nil)) q) fun r s' ⟨z, H', I', rz, b, ez, hq⟩ => ?_)
  subst ez
  obtain rfl : r = Value.bool b := rz
  exact wpAny_truthy_bool ⟨.bl b, H', I', rfl, hq⟩
theorem op_notInO (hs : PySem.W.findIn X.K (.ref C) "__contains__" = some (some (.ref f))) (hf : PySem.W.isFn X.K (.ref f) = true) (F : FnOk X.prog X.w X.K X.mg X.base CX k f fd ps sp) (hr : Room k X.A) (hb : Binds X.K fd ps []) (hx : Passes CX X E) : OpR X (compareOp .NotIn) (rInO C sp E true) := by
  intro pins s σ H x y v u Q I rx ry h
  obtain ⟨a, dx, fs, rfl, ea, q⟩ := h
  obtain rfl : u = Value.ref a := ry
  obtain ⟨mA, O, _, _, _, _⟩ := ins_get I.hok ea
  obtain ⟨od, J, _⟩ := O.look
  obtain ⟨m, fr⟩ := I.fr
  refine PySem.W.notIn_K fr I.mod.kin J hs hf (thn (run_fn (us := [.ref a, v]) (vs := [.ref a, x]) F hr hb .nil hx I (.cons rfl (.cons rx .nil)) q) fun r s' ⟨z, H', I', rz, b, ez, hq⟩ => ?_)
  subst ez
  obtain rfl : r = Value.bool b := rz
  exact wpAny_truthy_bool ⟨.bl (!b), H', I', rfl, hq⟩
/-- o + o', both of the class at C, whose __add__ makes an object -/
def rAddO (C : Addr) (sp : Sp) (E : XK) : R2 := fun x y H Q => ∃ a dx fs b dy gs, x = .ref a ∧ y = .ref b ∧ H a = some (.ins C dx fs) ∧ H b = some (.ins C dy gs) ∧ sp [.ref a, .ref b] H (fun v H' => ∃ q, v = .ref q ∧ Q (.ref q) H') E
theorem op_addO (hs : PySem.W.findIn X.K (.ref C) "__add__" = some (some (.ref f))) (hf : PySem.W.isFn X.K (.ref f) = true) (hc : PySem.W.selfFirst X.K C = true) (F : FnOk X.prog X.w X.K X.mg X.base CX k f fd ps sp) (hr : Room k X.A) (hb : Binds X.K fd ps []) (hx : Passes CX X E) :
    OpR X (binaryOp .Add) (rAddO C sp E) := by
  intro pins s σ H x y v u Q I rx ry h
  obtain ⟨a, dx, fs, b, dy, gs, rfl, rfl, ea, eb, q⟩ := h
  obtain rfl : u = Value.ref b := ry
  obtain rfl : v = Value.ref a := rx
  obtain ⟨mA, O, _, _, _, _⟩ := ins_get I.hok ea
  obtain ⟨od, J, _⟩ := O.look
  obtain ⟨mB, O2, _, _, _, _⟩ := ins_get I.hok eb
  obtain ⟨od2, J2, _⟩ := O2.look
  obtain ⟨m, fr⟩ := I.fr
  refine PySem.W.binop_K fr I.mod.kin J J2.type hc hs hf (thn (run_fn (us := [.ref a, .ref b]) (vs := [.ref a, .ref b]) F hr hb .nil hx I (.cons rfl (.cons rfl .nil)) q) fun r s' ⟨z, H', I', rz, c, ez, hq⟩ => ?_)
  subst ez
  obtain rfl : r = Value.ref c := rz
  exact ⟨.ref c, H', I', rfl, hq⟩
end
end Gd
namespace Gd
open PySem PySem.Spec PyProof.Rows L2
/-- a walk's loop, whatever a turn does -/
theorem loop_it {J : It} {n : Nat} {G : Hp → Prop} {Y : Nat → Hp → V → Hp → Prop} (w : Walk J n G Y) {F : V → Hp → (Hp → Prop) → Prop} {H1 : Hp} {Qd : Hp → Prop} (Pv : Nat → Hp → Prop) (h0 : Pv 0 H1) (hG : ∀ i H, i ≤ n → Pv i H → G H)
    (hs : ∀ i x H H', i < n → Pv i H → Y i H x H' → F x H' (Pv (i + 1))) (hd : ∀ H, Pv n H → Qd H) :
    ∃ W : Nat → Nat → Hp → Prop, (∃ m, W 0 m H1) ∧ ∀ i m H, W i m H →
      (J.stop i H ∧ Qd H) ∨ (J.go i H ∧ ∃ Nx : Hp → Prop, (∀ H', Nx H' → ∃ m', m' < m ∧ W (i + 1) m' H') ∧ ∀ x H', J.yld i H x H' → F x H' Nx) := by
  refine ⟨fun i m H => m = n - i ∧ i ≤ n ∧ Pv i H, ⟨n, by simp, Nat.zero_le _, h0⟩, ?_⟩
  rintro i m H ⟨rfl, hi, p⟩
  have q := hG i H hi p
  by_cases hlt : i < n
  · exact .inr ⟨w.goes i H hlt q, Pv (i + 1), fun H' p' => ⟨n - (i + 1), by omega, rfl, hlt, p'⟩, fun x H' y => hs i x H H' hlt p (w.yields i H x H' hlt q y)⟩
  · have e : i = n := by omega
    subst e
    exact .inl ⟨w.stops H q, hd H p⟩
/-- strictly sorted names among strictly sorted ones -/
theorem sub_sorted : ∀ {m l : List Str}, m.Pairwise ltS → l.Pairwise ltS → (∀ x ∈ l, x ∈ m) → l.Sublist m
  | [], l, _, _, h => by
    cases l with
    | nil => exact .slnil
    | cons x l => exact absurd (h x (List.mem_cons_self ..)) List.not_mem_nil
  | y :: m, [], _, _, _ => List.nil_sublist _
  | y :: m, x :: l, hm, hl, h => by
    obtain ⟨hy, hm'⟩ := List.pairwise_cons.mp hm
    obtain ⟨hx, hl'⟩ := List.pairwise_cons.mp hl
    by_cases e : x = y
    · subst e
      refine (sub_sorted hm' hl' fun z hz => ?_).cons_cons x
      exact (List.mem_cons.mp (h z (List.mem_cons_of_mem _ hz))).resolve_left (ltS_ne (hx z hz)).symm
    · have xm : x ∈ m := (List.mem_cons.mp (h x (List.mem_cons_self ..))).resolve_left e
      have yx := hy x xm
      refine (sub_sorted hm' hl fun z hz => ?_).cons y
      refine (List.mem_cons.mp (h z hz)).resolve_left fun ez => ?_
      rcases List.mem_cons.mp hz with q | q
      · exact e (q ▸ ez)
      · exact ltS_irrefl y (ltS_trans yx (ez ▸ hx z q))
def sortN (g : Grp) : Grp := g.mergeSort leS
theorem sortN_in {ns : List Str} {g : Grp} (hns : ns.Pairwise ltS) (hg : g.Nodup) (h : ∀ n ∈ g, n ∈ ns) : sortN g ∈ groupsOf ns :=
  groups_mem.mpr (sub_sorted hns (sort_asc hg) fun n m => h n ((List.mergeSort_perm g leS).mem_iff.mp m))
theorem sortN_self {ns : List Str} {g : Grp} (hns : ns.Pairwise ltS) (h : g ∈ groupsOf ns) : sortN g = g := asc_sorted (hns.sublist (groups_mem.mp h))
theorem inV_str {y : V} {ns : List Str} (h : inV y (ns.map V.str) = true) : ∃ n ∈ ns, y = .str n := by
  unfold inV at h
  rw [List.any_map, List.any_eq_true] at h
  obtain ⟨n, m, e⟩ := h
  refine ⟨n, m, ?_⟩
  cases y with
  | str z =>
    have e : eqV (.str n) (.str z) = true := e
    rw [eqV_str] at e
    rw [of_decide_eq_true e]
  | _ => exact absurd e (by simp [eqV])
theorem any_lst (gs : List Grp) (g : Grp) : ((gs.map fun h => PyData.tuple (encG h)).any fun z => PyData.eqv z (.list (encG g))) = false := by
  rw [List.any_map, List.any_eq_false]
  intro h _ e
  have e : PyData.eqv (.tuple (encG h)) (.list (encG g)) = true := e
  rw [PyData.eqv] at e
  · exact absurd e Bool.false_ne_true
  all_goals (intros; simp_all)
theorem shaped_lst {g : Grp} (h : ∀ n ∈ g, ∀ c ∈ n.cps.toList, c < 1114112) : SeqAt.shaped (.list (encG g)) = true := by
  unfold SeqAt.shaped
  show (PyData.canLayAll0 _ && decide (PyData.depthAll _ + 1 ≤ 64)) = true
  have e : PyData.canLayAll0 (encG g) = true := lay_strs g h
  have d : PyData.depthAll (encG g) = 0 := depth_strs g
  rw [e, d]
  rfl
end Gd
/-! what repr tells of plain data tells the data -/
namespace Gd
open PySem PySem.Spec PyProof.Rows L2
/-- plain data: None, 0, texts of letters, lists and tuples of these, {} -/
inductive Sh : PyData → Prop
  | none : Sh .none
  | zero : Sh (.int 0)
  | str (z : Str) (h : ∀ c ∈ z.cps.toList, c ∈ letters) : Sh (.str z)
  | list (xs : List PyData) (h : ∀ x ∈ xs, Sh x) : Sh (.list xs)
  | tuple (xs : List PyData) (h : ∀ x ∈ xs, Sh x) : Sh (.tuple xs)
  | dict : Sh (.dict [])
/-- the signs of a text -/
def sg (d : PyData) : List Nat := d.shown.cps.toList
theorem sg_app (a b : Str) : (a ++ b).cps.toList = a.cps.toList ++ b.cps.toList := cps_toList_append a b
theorem repr_char : ∀ c ∈ letters, Builtin.Str.reprChar 39 c = [c] := by decide +kernel
theorem letters_no : ∀ c ∈ letters, c ≠ 39 := by decide +kernel
theorem fold_letters : ∀ (l : List Nat) (acc : Array Nat), (∀ c ∈ l, c ∈ letters) → (l.foldl (fun out c => out ++ (Builtin.Str.reprChar 39 c).toArray) acc).toList = acc.toList ++ l
  | [], acc, _ => by simp
  | c :: l, acc, h => by
    rw [List.foldl_cons, fold_letters l _ fun d m => h d (List.mem_cons_of_mem _ m), repr_char c (h c (List.mem_cons_self ..))]
    simp
theorem sg_str {z : Str} (h : ∀ c ∈ z.cps.toList, c ∈ letters) : sg (.str z) = 39 :: (z.cps.toList ++ [39]) := by
  have q : reprQuote z = 39 := by
    unfold reprQuote
    rw [if_neg]
    intro e
    rw [Bool.and_eq_true] at e
    have m : 39 ∈ z.cps := by simpa using e.1
    exact letters_no 39 (h 39 (by simpa using m)) rfl
  show (reprText z).cps.toList = _
  unfold reprText
  rw [q]
  show ((z.cps.foldl (fun out c => out ++ (Builtin.Str.reprChar 39 c).toArray) #[39]).push 39).toList = _
  rw [Array.toList_push, ← Array.foldl_toList, fold_letters _ _ h]
  rfl
/-- what follows the first item: the others, then c -/
def more (c : Nat) : List PyData → List Nat
  | [] => [c]
  | y :: ys => 44 :: 32 :: (sg y ++ more c ys)
theorem join_more (c : Nat) : ∀ (xs : List PyData) (x : PyData), (Str.join ", " (PyData.shownAll (x :: xs))).cps.toList ++ [c] = sg x ++ more c xs
  | [], x => rfl
  | y :: ys, x => by
    have e : Str.join ", " (PyData.shownAll (x :: y :: ys)) = x.shown ++ ", " ++ Str.join ", " (PyData.shownAll (y :: ys)) := rfl
    rw [e, sg_app, sg_app, List.append_assoc, join_more c ys y]
    show sg x ++ [44, 32] ++ (sg y ++ more c ys) = _
    rw [List.append_assoc]
    rfl
theorem sg_list0 : sg (.list []) = [91, 93] := by decide +kernel
theorem sg_list (x : PyData) (xs : List PyData) : sg (.list (x :: xs)) = 91 :: (sg x ++ more 93 xs) := by
  show (listText (PyData.shownAll (x :: xs))).cps.toList = _
  rw [listText_eq_join, sg_app, sg_app, ← join_more]
  rfl
theorem sg_tup0 : sg (.tuple []) = [40, 41] := by decide +kernel
theorem sg_tup1 (x : PyData) : sg (.tuple [x]) = 40 :: (sg x ++ [44, 41]) := by
  show (tupleText (PyData.shownAll [x])).cps.toList = _
  unfold tupleText
  rw [sg_app, sg_app]
  rfl
theorem sg_tup (x y : PyData) (ys : List PyData) : sg (.tuple (x :: y :: ys)) = 40 :: (sg x ++ more 41 (y :: ys)) := by
  show (tupleText (PyData.shownAll (x :: y :: ys))).cps.toList = _
  unfold tupleText
  have n : ((PyData.shownAll (x :: y :: ys)).length == 1) = false := rfl
  rw [n, sg_app, sg_app, ← join_more]
  rfl
theorem sg_none : sg .none = [78, 111, 110, 101] := by decide +kernel
theorem sg_zero : sg (.int 0) = [48] := by decide +kernel
theorem sg_dict : sg (.dict []) = [123, 125] := by decide +kernel
/-- the first sign tells the kind -/
def kd : PyData → Nat
  | .none => 78
  | .int _ => 48
  | .str _ => 39
  | .list _ => 91
  | .tuple _ => 40
  | _ => 123
theorem sg_head {d : PyData} (h : Sh d) : ∃ r, sg d = kd d :: r := by
  cases h with
  | none => exact ⟨_, sg_none⟩
  | zero => exact ⟨_, sg_zero⟩
  | str z h => exact ⟨_, sg_str h⟩
  | list xs h =>
    cases xs with
    | nil => exact ⟨_, sg_list0⟩
    | cons x xs => exact ⟨_, sg_list x xs⟩
  | tuple xs h =>
    match xs with
    | [] => exact ⟨_, sg_tup0⟩
    | [x] => exact ⟨_, sg_tup1 x⟩
    | x :: y :: ys => exact ⟨_, sg_tup x y ys⟩
  | dict => exact ⟨_, sg_dict⟩
theorem kd_range (d : PyData) : kd d = 78 ∨ kd d = 48 ∨ kd d = 39 ∨ kd d = 91 ∨ kd d = 40 ∨ kd d = 123 := by
  cases d <;> simp [kd]
theorem till_quote : ∀ {l l' r r' : List Nat}, (∀ c ∈ l, c ≠ 39) → (∀ c ∈ l', c ≠ 39) → l ++ 39 :: r = l' ++ 39 :: r' → l = l' ∧ r = r'
  | [], [], _, _, _, _, e => by
    injection e with _ e
    exact ⟨rfl, e⟩
  | [], c :: l', _, _, _, h', e => by
    injection e with e _
    exact absurd e.symm (h' c (List.mem_cons_self ..))
  | c :: l, [], _, _, h, _, e => by
    injection e with e _
    exact absurd e (h c (List.mem_cons_self ..))
  | c :: l, c' :: l', r, r', h, h', e => by
    injection e with e1 e2
    obtain ⟨a, b⟩ := till_quote (fun d m => h d (List.mem_cons_of_mem _ m)) (fun d m => h' d (List.mem_cons_of_mem _ m)) e2
    rw [e1, a]
    exact ⟨rfl, b⟩
/-- decoding one datum at the head of a text -/
def Dec (d : PyData) : Prop := ∀ d' r r', Sh d' → sg d ++ r = sg d' ++ r' → d = d' ∧ r = r'
theorem more_dec (c : Nat) (hc : c ≠ 44) : ∀ {xs xs' : List PyData} {r r' : List Nat}, (∀ x ∈ xs, Dec x) → (∀ x ∈ xs', Sh x) → more c xs ++ r = more c xs' ++ r' → xs = xs' ∧ r = r'
  | [], [], r, r', _, _, e => by
    injection e with _ e
    exact ⟨rfl, e⟩
  | [], y :: ys, _, _, _, _, e => by
    injection e with e _
    exact absurd e hc
  | x :: xs, [], _, _, _, _, e => by
    injection e with e _
    exact absurd e.symm hc
  | x :: xs, y :: ys, r, r', h, h', e => by
    have e1 : 44 :: 32 :: (sg x ++ more c xs) ++ r = 44 :: 32 :: (sg y ++ more c ys) ++ r' := e
    rw [List.cons_append, List.cons_append, List.cons_append, List.cons_append, List.append_assoc, List.append_assoc] at e1
    injection e1 with _ e2
    injection e2 with _ e3
    obtain ⟨a, b⟩ := h x (List.mem_cons_self ..) y _ _ (h' y (List.mem_cons_self ..)) e3
    obtain ⟨a2, b2⟩ := more_dec c hc (fun z m => h z (List.mem_cons_of_mem _ m)) (fun z m => h' z (List.mem_cons_of_mem _ m)) b
    rw [a, a2]
    exact ⟨rfl, b2⟩
theorem kd_ne {d : PyData} (c : Nat) (n : c ≠ 78 ∧ c ≠ 48 ∧ c ≠ 39 ∧ c ≠ 91 ∧ c ≠ 40 ∧ c ≠ 123) : kd d ≠ c := by
  intro e
  rcases kd_range d with h | h | h | h | h | h <;> rw [h] at e <;> subst e <;> simp at n
theorem dec_all : ∀ (n : Nat) (d : PyData), sizeOf d < n → Sh d → Dec d := by
  intro n
  induction n with
  | zero =>
    intro d h
    omega
  | succ n ih =>
    intro d hn hd d' r r' hd' e
    have hk : kd d = kd d' := by
      obtain ⟨a, ea⟩ := sg_head hd
      obtain ⟨b, eb⟩ := sg_head hd'
      rw [ea, eb] at e
      injection e
    cases hd with
    | none =>
      cases hd' with
      | none => exact ⟨rfl, List.append_cancel_left e⟩
      | _ => exact absurd hk (by simp [kd])
    | zero =>
      cases hd' with
      | zero => exact ⟨rfl, List.append_cancel_left e⟩
      | _ => exact absurd hk (by simp [kd])
    | dict =>
      cases hd' with
      | dict => exact ⟨rfl, List.append_cancel_left e⟩
      | _ => exact absurd hk (by simp [kd])
    | str z h =>
      cases hd' with
      | str z' h' =>
        rw [sg_str h, sg_str h', List.cons_append, List.cons_append, List.append_assoc, List.append_assoc] at e
        injection e with _ e
        obtain ⟨a, b⟩ := till_quote (fun c m => letters_no c (h c m)) (fun c m => letters_no c (h' c m)) e
        rw [strExt a]
        exact ⟨rfl, b⟩
      | _ => exact absurd hk (by simp [kd])
    | list xs h =>
      cases hd' with
      | list xs' h' =>
        have dx : ∀ x ∈ xs, Dec x := fun x m => ih x (by
          have := List.sizeOf_lt_of_mem m
          rw [PyData.list.sizeOf_spec] at hn
          omega) (h x m)
        match xs, xs', h', dx, e with
        | [], [], _, _, e =>
          exact ⟨rfl, List.append_cancel_left e⟩
        | [], y :: ys, h', _, e =>
          rw [sg_list0, sg_list] at e
          obtain ⟨b, eb⟩ := sg_head (h' y (List.mem_cons_self ..))
          rw [eb] at e
          injection e with _ e
          injection e with e _
          exact absurd e.symm (kd_ne 93 (by decide))
        | x :: xs, [], _, dx, e =>
          rw [sg_list0, sg_list] at e
          obtain ⟨b, eb⟩ := sg_head (h x (List.mem_cons_self ..))
          rw [eb] at e
          injection e with _ e
          injection e with e _
          exact absurd e (kd_ne 93 (by decide))
        | x :: xs, y :: ys, h', dx, e =>
          rw [sg_list, sg_list, List.cons_append, List.cons_append, List.append_assoc, List.append_assoc] at e
          injection e with _ e
          obtain ⟨a, b⟩ := dx x (List.mem_cons_self ..) y _ _ (h' y (List.mem_cons_self ..)) e
          obtain ⟨a2, b2⟩ := more_dec 93 (by decide) (fun z m => dx z (List.mem_cons_of_mem _ m)) (fun z m => h' z (List.mem_cons_of_mem _ m)) b
          rw [a, a2]
          exact ⟨rfl, b2⟩
      | _ => exact absurd hk (by simp [kd])
    | tuple xs h =>
      cases hd' with
      | tuple xs' h' =>
        have dx : ∀ x ∈ xs, Dec x := fun x m => ih x (by
          have := List.sizeOf_lt_of_mem m
          rw [PyData.tuple.sizeOf_spec] at hn
          omega) (h x m)
        have noX : ∀ {x : PyData} {l l' : List Nat}, Sh x → ¬ (41 :: l = sg x ++ l') := fun {x l l'} hx e => by
          obtain ⟨b, eb⟩ := sg_head hx
          rw [eb] at e
          injection e with e _
          exact kd_ne 41 (by decide) e.symm
        match xs, xs', h, h', dx, e with
        | [], [], _, _, _, e =>
          exact ⟨rfl, List.append_cancel_left e⟩
        | [], [y], _, h', _, e =>
          rw [sg_tup0, sg_tup1] at e
          have e : 40 :: 41 :: r = 40 :: ((sg y ++ [44, 41]) ++ r') := e
          rw [List.append_assoc] at e
          injection e with _ e
          exact absurd e (noX (h' y (List.mem_cons_self ..)))
        | [], y :: y2 :: ys, _, h', _, e =>
          rw [sg_tup0, sg_tup] at e
          have e : 40 :: 41 :: r = 40 :: ((sg y ++ more 41 (y2 :: ys)) ++ r') := e
          rw [List.append_assoc] at e
          injection e with _ e
          exact absurd e (noX (h' y (List.mem_cons_self ..)))
        | [x], [], h, _, _, e =>
          rw [sg_tup0, sg_tup1] at e
          have e : 40 :: ((sg x ++ [44, 41]) ++ r) = 40 :: 41 :: r' := e
          rw [List.append_assoc] at e
          injection e with _ e
          exact absurd e.symm (noX (h x (List.mem_cons_self ..)))
        | x :: x2 :: xs, [], h, _, _, e =>
          rw [sg_tup0, sg_tup] at e
          have e : 40 :: ((sg x ++ more 41 (x2 :: xs)) ++ r) = 40 :: 41 :: r' := e
          rw [List.append_assoc] at e
          injection e with _ e
          exact absurd e.symm (noX (h x (List.mem_cons_self ..)))
        | [x], [y], _, h', dx, e =>
          rw [sg_tup1, sg_tup1, List.cons_append, List.cons_append, List.append_assoc, List.append_assoc] at e
          injection e with _ e
          obtain ⟨a, b⟩ := dx x (List.mem_cons_self ..) y _ _ (h' y (List.mem_cons_self ..)) e
          rw [a]
          exact ⟨rfl, List.append_cancel_left b⟩
        | [x], y :: y2 :: ys, _, h', dx, e =>
          rw [sg_tup1, sg_tup, List.cons_append, List.cons_append, List.append_assoc, List.append_assoc] at e
          injection e with _ e
          obtain ⟨a, b⟩ := dx x (List.mem_cons_self ..) y _ _ (h' y (List.mem_cons_self ..)) e
          have b : 44 :: 41 :: r = 44 :: 32 :: (sg y2 ++ more 41 ys) ++ r' := b
          injection b with _ b
          injection b with b _
          exact absurd b (by decide)
        | x :: x2 :: xs, [y], _, h', dx, e =>
          rw [sg_tup1, sg_tup, List.cons_append, List.cons_append, List.append_assoc, List.append_assoc] at e
          injection e with _ e
          obtain ⟨a, b⟩ := dx x (List.mem_cons_self ..) y _ _ (h' y (List.mem_cons_self ..)) e
          have b : 44 :: 32 :: (sg x2 ++ more 41 xs) ++ r = 44 :: 41 :: r' := b
          injection b with _ b
          injection b with b _
          exact absurd b (by decide)
        | x :: x2 :: xs, y :: y2 :: ys, _, h', dx, e =>
          rw [sg_tup, sg_tup, List.cons_append, List.cons_append, List.append_assoc, List.append_assoc] at e
          injection e with _ e
          obtain ⟨a, b⟩ := dx x (List.mem_cons_self ..) y _ _ (h' y (List.mem_cons_self ..)) e
          obtain ⟨a2, b2⟩ := more_dec 41 (by decide) (fun z m => dx z (List.mem_cons_of_mem _ m)) (fun z m => h' z (List.mem_cons_of_mem _ m)) b
          rw [a, a2]
          exact ⟨rfl, b2⟩
      | _ => exact absurd hk (by simp [kd])
theorem shown_inj {d d' : PyData} (h : Sh d) (h' : Sh d') (e : d.shown = d'.shown) : d = d' := by
  have e2 : sg d ++ [] = sg d' ++ [] := by
    unfold sg
    rw [e]
  exact (dec_all _ d (Nat.lt_succ_self _) h d' [] [] h' e2).1
end Gd
namespace Gd
open PySem PySem.Spec PyProof.Rows L2
/-- plain data whose repr is told -/
inductive Pd (K : PySem.W.Frag) (H : Hp) : V → PyData → Prop
  | non : Pd K H .non .none
  | zero : Pd K H (.int 0) (.int 0)
  | str (z : Str) (l : (reprText z).length ≤ sizeLine) : Pd K H (.str z) (.str z)
  | dp {a : Addr} {d : PyData} (h : Dp K H (.ref a) d) (sh : d.showable = true) (nd : d.hasDict = false) (dp : d.depth ≤ 32) (hz : d.shown.length ≤ sizeLine) : Pd K H (.ref a) d
  | dict {a : Addr} (h : H a = some (.dK [])) : Pd K H (.ref a) (.dict [])
theorem Pd.same {K : PySem.W.Frag} {H H' : Hp} {x : V} {d : PyData} (h : Pd K H x d) (s : Same H H') : Pd K H' x d := by
  cases h with
  | non => exact .non
  | zero => exact .zero
  | str z l => exact .str z l
  | dp h sh nd dp hz => exact .dp (dp_same s _ _ h) sh nd dp hz
  | dict h => exact .dict (s _ _ h)
theorem call_reprP {X : Cx} (gu : X.A.guards = some []) (hu : X.A.units + 64 < cLine) : CallR X (.builtin "repr") (fun xs H Q => ∃ x d, xs = [x] ∧ Pd X.K H x d ∧ Q (.str d.shown) H) := by
  intro pins s σ H xs us Q I r h
  obtain ⟨x, d, rfl, hp, q⟩ := h
  obtain ⟨u, rfl, ru⟩ := vals1 r
  cases hp with
  | non =>
    cases ru
    exact PySem.P.repr_of_none ⟨.str _, H, I.tok _, ⟨_, rfl⟩, q⟩
  | zero =>
    obtain ⟨t, rfl⟩ := ru
    exact PySem.P.repr_of_int (by decide) ⟨.str _, H, I.tok _, ⟨_, rfl⟩, q⟩
  | str z l =>
    obtain ⟨t, rfl⟩ := ru
    exact PySem.P.repr_of_str ⟨.str _, H, I.tok _, ⟨_, rfl⟩, q⟩ l
  | @dp a d h sh nd dp hz =>
    obtain rfl : u = Value.ref a := ru
    obtain ⟨as, rd⟩ := Dp.reads I d _ _ h rfl
    refine repr_of_reads' rd sh (PyData.noDict_hsm nd) gu (by omega) (fun _ _ e => e) (fun h' u tk hk => ?_) hz
    exact ⟨.str d.shown, H, I.kept hk, ⟨u, rfl⟩, q⟩
  | @dict a h =>
    obtain rfl : u = Value.ref a := ru
    obtain ⟨_, ns, vs, kv, o, es, ep, ho, ex, hd, ko, pr, _⟩ := I.hok a _ h
    cases kv
    have es0 : es.toList = [] := by
      generalize es.toList = l at pr
      cases pr
      rfl
    have rd : Reads s.heap (.ref a) (.dict []) (a :: [] ++ []) := Reads.dict ho ex.1 hd (by rw [es0]; exact .nil) (by rw [es0]; exact .nil)
    refine repr_of_reads' rd rfl (fun _ m => ?_) gu (show X.A.units + (0 + 1 + 1) < cLine by omega) (fun _ _ e => e) (fun h' u tk hk => ?_) (by decide +kernel)
    · have m : sysModules ∈ [a] := m
      rw [List.mem_singleton] at m
      subst m
      exact absurd ns (by simp)
    · exact ⟨.str _, H, I.kept hk, ⟨u, rfl⟩, q⟩
end Gd
/-! tests: triples of a group and two names -/
namespace Gd
open PySem PySem.Spec PyProof.Rows L2 PySem.W
abbrev Tri := Grp × Str × Str
def ltB (n m : Str) : Bool := decide (n.cps.toList < m.cps.toList)
theorem ltB_iff {n m : Str} : ltB n m = true ↔ ltS n m := decide_eq_true_iff
def pairsOf : List Str → List (Str × Str)
  | [] => []
  | n :: r => r.map (fun m => (n, m)) ++ pairsOf r
def keepB (g : Grp) (p : Str × Str) : Bool := decide (p.1 ∉ g) && decide (p.2 ∉ g)
def trisFor (ns : List Str) (g : Grp) : List Tri := ((pairsOf ns).filter (keepB g)).map fun p => (g, p.1, p.2)
def trisOf (ns : List Str) : List Tri := (groupsOf ns).flatMap (trisFor ns)
def restOf (ns : List Str) (g : Grp) : List Str := ns.filter fun n => decide (n ∉ g)
def ownFor (ns : List Str) (g : Grp) (n : Str) : List Tri := ((restOf ns g).filter (ltB n)).map fun m => (g, n, m)
def ownTris (ns : List Str) : List Tri := (groupsOf ns).flatMap fun g => (restOf ns g).flatMap (ownFor ns g)
theorem pairs_filter (P : Str → Bool) : ∀ l : List Str, pairsOf (l.filter P) = (pairsOf l).filter fun p => P p.1 && P p.2
  | [] => rfl
  | n :: r => by
    have ih := pairs_filter P r
    show _ = (r.map (fun m => (n, m)) ++ pairsOf r).filter _
    rw [List.filter_append, List.filter_map, ← ih]
    cases e : P n with
    | true =>
      rw [List.filter_cons_of_pos e]
      show (r.filter P).map (fun m => (n, m)) ++ _ = _
      congr 2
      refine List.filter_congr fun m _ => ?_
      show P m = (P n && P m)
      rw [e, Bool.true_and]
    | false =>
      rw [List.filter_cons_of_neg (by rw [e]; exact Bool.false_ne_true)]
      have z : r.filter ((fun p : Str × Str => P p.1 && P p.2) ∘ fun m => (n, m)) = [] := by
        rw [List.filter_eq_nil_iff]
        intro m _
        show ¬ (P n && P m) = true
        rw [e, Bool.false_and]
        exact Bool.false_ne_true
      rw [z]
      rfl
theorem pairs_asc : ∀ {l : List Str}, l.Pairwise ltS → (l.flatMap fun n => (l.filter (ltB n)).map fun m => (n, m)) = pairsOf l
  | [], _ => rfl
  | n :: r, h => by
    obtain ⟨hn, hr⟩ := List.pairwise_cons.mp h
    have ih := pairs_asc hr
    rw [List.flatMap_cons]
    show _ = r.map (fun m => (n, m)) ++ pairsOf r
    rw [← ih]
    congr 1
    · rw [List.filter_cons_of_neg (by
        intro e
        exact ltS_irrefl n (ltB_iff.mp e))]
      rw [List.filter_eq_self.mpr fun m hm => ltB_iff.mpr (hn m hm)]
    · have e : ∀ x ∈ r, ((n :: r).filter (ltB x)).map (fun m => (x, m)) = (r.filter (ltB x)).map fun m => (x, m) := fun x hx => by
        rw [List.filter_cons_of_neg (by
          intro e
          exact ltS_asymm (hn x hx) (ltB_iff.mp e))]
      rw [List.flatMap_def, List.flatMap_def, List.map_congr_left e]
theorem own_tris {ns : List Str} (h : ns.Pairwise ltS) : ownTris ns = trisOf ns := by
  unfold ownTris trisOf
  rw [List.flatMap_def, List.flatMap_def]
  congr 1
  refine List.map_congr_left fun g _ => ?_
  show (restOf ns g).flatMap (ownFor ns g) = trisFor ns g
  have e1 : trisFor ns g = (pairsOf (restOf ns g)).map fun p => (g, p.1, p.2) := by
    unfold trisFor restOf
    rw [pairs_filter]
    rfl
  rw [e1, ← pairs_asc (l := restOf ns g) (h.sublist List.filter_sublist), List.map_flatMap]
  rw [List.flatMap_def, List.flatMap_def]
  congr 1
  refine List.map_congr_left fun n _ => ?_
  unfold ownFor
  rw [List.map_map]
  rfl
theorem pairs_len : ∀ l : List Str, (pairsOf l).length ≤ l.length * l.length
  | [] => Nat.le_refl _
  | n :: r => by
    have ih := pairs_len r
    show (r.map (fun m => (n, m)) ++ pairsOf r).length ≤ (r.length + 1) * (r.length + 1)
    rw [List.length_append, List.length_map, Nat.add_mul, Nat.mul_add]
    omega
theorem flat_len {α β : Type} (F : α → List β) (b : Nat) : ∀ l : List α, (∀ x ∈ l, (F x).length ≤ b) → (l.flatMap F).length ≤ l.length * b
  | [], _ => by simp
  | x :: l, h => by
    have h1 := h x (List.mem_cons_self ..)
    have h2 := flat_len F b l fun y m => h y (List.mem_cons_of_mem _ m)
    rw [List.flatMap_cons, List.length_append, List.length_cons, Nat.add_mul]
    omega
theorem flat_take {α β : Type} (F : α → List β) {l : List α} {i : Nat} {x : α} (h : l[i]? = some x) : (l.take (i + 1)).flatMap F = (l.take i).flatMap F ++ F x := by
  rw [List.take_add_one, h, List.flatMap_append]
  simp
theorem mem_tris {ns : List Str} {t : Tri} (h : ns.Pairwise ltS) : t ∈ trisOf ns ↔ t.1 ∈ groupsOf ns ∧ t.2.1 ∈ ns ∧ t.2.2 ∈ ns ∧ ltS t.2.1 t.2.2 ∧ t.2.1 ∉ t.1 ∧ t.2.2 ∉ t.1 := by
  obtain ⟨g, n, m⟩ := t
  rw [← own_tris h]
  unfold ownTris
  rw [List.mem_flatMap]
  constructor
  · rintro ⟨g', hg, h1⟩
    obtain ⟨n', hn, h2⟩ := List.mem_flatMap.mp h1
    obtain ⟨m', hm, e⟩ := List.mem_map.mp h2
    obtain ⟨hm1, hm2⟩ := List.mem_filter.mp hm
    obtain ⟨hn1, hn2⟩ := List.mem_filter.mp hn
    obtain ⟨hm3, hm4⟩ := List.mem_filter.mp hm1
    injection e with e1 e2
    injection e2 with e2 e3
    subst e1 e2 e3
    exact ⟨hg, hn1, hm3, ltB_iff.mp hm2, of_decide_eq_true hn2, of_decide_eq_true hm4⟩
  · rintro ⟨h1, h2, h3, h4, h5, h6⟩
    exact ⟨g, h1, List.mem_flatMap.mpr ⟨n, List.mem_filter.mpr ⟨h2, decide_eq_true h5⟩, List.mem_map.mpr ⟨m, List.mem_filter.mpr ⟨List.mem_filter.mpr ⟨h3, decide_eq_true h6⟩, ltB_iff.mpr h4⟩, rfl⟩⟩⟩
/-- pairs and triples in a heap -/
def PsAt (H : Hp) (l : List (Addr × Str × Str)) : Prop := ∀ t ∈ l, H t.1 = some (.tup [.str t.2.1, .str t.2.2])
def TrAt (H : Hp) (l : List (Addr × Addr × Tri)) : Prop := ∀ t ∈ l, H t.1 = some (.tup [.ref t.2.1, .str t.2.2.2.1, .str t.2.2.2.2]) ∧ H t.2.1 = some (.tup (t.2.2.1.map V.str))
theorem PsAt.nil {H : Hp} : PsAt H [] := fun _ m => absurd m List.not_mem_nil
theorem TrAt.nil {H : Hp} : TrAt H [] := fun _ m => absurd m List.not_mem_nil
theorem PsAt.same {H H' : Hp} {l : List (Addr × Str × Str)} (h : PsAt H l) (s : Same H H') : PsAt H' l := fun t m => s _ _ (h t m)
theorem TrAt.same {H H' : Hp} {l : List (Addr × Addr × Tri)} (h : TrAt H l) (s : Same H H') : TrAt H' l := fun t m => ⟨s _ _ (h t m).1, s _ _ (h t m).2⟩
theorem PsAt.app {H : Hp} {l k : List (Addr × Str × Str)} (h : PsAt H l) (h' : PsAt H k) : PsAt H (l ++ k) := fun t m => (List.mem_append.mp m).elim (h t) (h' t)
theorem TrAt.app {H : Hp} {l k : List (Addr × Addr × Tri)} (h : TrAt H l) (h' : TrAt H k) : TrAt H (l ++ k) := fun t m => (List.mem_append.mp m).elim (h t) (h' t)
theorem PsAt.upd {H : Hp} {l : List (Addr × Str × Str)} {d : Addr} {o : HO} (h : PsAt H l) (n : ∀ xs, H d ≠ some (.tup xs)) : PsAt (upd H d o) l := fun t m => by
  rw [upd_ne fun z => n _ (z ▸ h t m)]
  exact h t m
theorem TrAt.upd {H : Hp} {l : List (Addr × Addr × Tri)} {d : Addr} {o : HO} (h : TrAt H l) (n : ∀ xs, H d ≠ some (.tup xs)) : TrAt (upd H d o) l := fun t m => by
  obtain ⟨h1, h2⟩ := h t m
  constructor
  · rw [upd_ne fun z => n _ (z ▸ h1)]
    exact h1
  · rw [upd_ne fun z => n _ (z ▸ h2)]
    exact h2
def prefsP (l : List (Addr × Str × Str)) : List V := l.map fun t => .ref t.1
def trefs (l : List (Addr × Addr × Tri)) : List V := l.map fun t => .ref t.1
def tris (l : List (Addr × Addr × Tri)) : List Tri := l.map (·.2.2)
def trD (t : Tri) : PyData := .tuple [.tuple (encG t.1), .str t.2.1, .str t.2.2]
theorem trefs_app (l k : List (Addr × Addr × Tri)) : trefs (l ++ k) = trefs l ++ trefs k := List.map_append
theorem tris_app (l k : List (Addr × Addr × Tri)) : tris (l ++ k) = tris l ++ tris k := List.map_append
theorem dp_tri {K : PySem.W.Frag} {H : Hp} {a c : Addr} {t : Tri} (h : H a = some (.tup [.ref c, .str t.2.1, .str t.2.2])) (hc : H c = some (.tup (t.1.map V.str))) : Dp K H (.ref a) (trD t) :=
  .tup (.inl (.inl h)) (.cons (.tup (.inl (.inl hc)) (dp_names _)) (.cons (.str _) (.cons (.str _) .nil)))
theorem dp_tris {K : PySem.W.Frag} {H : Hp} : ∀ {l : List (Addr × Addr × Tri)}, TrAt H l → DpAll K H (trefs l) ((tris l).map trD)
  | [], _ => .nil
  | t :: l, h => .cons (dp_tri (h t (List.mem_cons_self ..)).1 (h t (List.mem_cons_self ..)).2) (dp_tris fun u m => h u (List.mem_cons_of_mem _ m))
/-- the gap by the worths -/
def gapOf (W : Grp → Int) (t : Tri) : Int := W (sortN (t.1 ++ [t.2.1, t.2.2])) + W t.1 - W (sortN (t.1 ++ [t.2.1])) - W (sortN (t.1 ++ [t.2.2]))
theorem tri_groups {ns : List Str} {t : Tri} (h : ns.Pairwise ltS) (m : t ∈ trisOf ns) : sortN (t.1 ++ [t.2.1, t.2.2]) ∈ groupsOf ns ∧ sortN (t.1 ++ [t.2.1]) ∈ groupsOf ns ∧ sortN (t.1 ++ [t.2.2]) ∈ groupsOf ns ∧ t.1 ∈ groupsOf ns ∧ t.1.length ≤ ns.length := by
  obtain ⟨h1, h2, h3, h4, h5, h6⟩ := (mem_tris h).mp m
  have sub := groups_mem.mp h1
  have nd : t.1.Nodup := (asc_nodup h).sublist sub
  have ne := ltS_ne h4
  refine ⟨sortN_in h ?_ fun n hn => ?_, sortN_in h ?_ fun n hn => ?_, sortN_in h ?_ fun n hn => ?_, h1, sub.length_le⟩
  · refine List.nodup_append.mpr ⟨nd, by simp [ne], fun a ha b hb e => ?_⟩
    subst e
    simp only [List.mem_cons, List.not_mem_nil, or_false] at hb
    rcases hb with rfl | rfl
    · exact h5 ha
    · exact h6 ha
  · rcases List.mem_append.mp hn with q | q
    · exact sub.subset q
    · simp only [List.mem_cons, List.not_mem_nil, or_false] at q
      rcases q with rfl | rfl
      · exact h2
      · exact h3
  · refine List.nodup_append.mpr ⟨nd, by simp, fun a ha b hb e => ?_⟩
    subst e
    rw [List.mem_singleton] at hb
    exact h5 (hb ▸ ha)
  · rcases List.mem_append.mp hn with q | q
    · exact sub.subset q
    · rw [List.mem_singleton.mp q]
      exact h2
  · refine List.nodup_append.mpr ⟨nd, by simp, fun a ha b hb e => ?_⟩
    subst e
    rw [List.mem_singleton] at hb
    exact h6 (hb ▸ ha)
  · rcases List.mem_append.mp hn with q | q
    · exact sub.subset q
    · rw [List.mem_singleton.mp q]
      exact h3
end Gd
namespace Gd
open PySem PySem.Spec PyProof.Rows L2
/-! values near a test -/
def NmS (z : Str) : Prop := z.length ≤ 8 ∧ ∀ c ∈ z.cps.toList, c ∈ letters
theorem name_nms {n : Str} (h : nameV (.str n) = true) : NmS n := by
  have e : (decide (1 ≤ n.length) && decide (n.length ≤ 8) && n.cps.toList.all (fun c => decide (c ∈ letters))) = true := h
  rw [Bool.and_eq_true, Bool.and_eq_true] at e
  exact ⟨of_decide_eq_true e.1.2, fun c hc => of_decide_eq_true (List.all_eq_true.mp e.2 c hc)⟩
theorem sh_grp {g : Grp} (h : ∀ n ∈ g, NmS n) : ∀ x ∈ encG g, Sh x := fun x m => by
  obtain ⟨n, hn, rfl⟩ := List.mem_map.mp m
  exact .str n (h n hn).2
theorem nms_ok {z : Str} (h : NmS z) : PyData.strOk z = true := by
  unfold PyData.strOk
  rw [← Array.all_toList, List.all_eq_true]
  exact fun c hc => decide_eq_true (letters_small c (h.2 c hc))
theorem weight_grp : ∀ {g : Grp}, (∀ n ∈ g, NmS n) → PyData.weightAll (encG g) ≤ 9 * g.length
  | [], _ => Nat.zero_le _
  | n :: g, h => by
    have ih := weight_grp fun m hm => h m (List.mem_cons_of_mem _ hm)
    have h1 := (h n (List.mem_cons_self ..)).1
    show n.cps.size + 1 + PyData.weightAll (encG g) ≤ 9 * (g.length + 1)
    have e : n.length = n.cps.size := rfl
    omega
theorem ints_grp (g : Grp) : PyData.intsShortAll 13 (encG g) = true := by
  refine PySem.Spec.intsShortAll_of fun x m => ?_
  obtain ⟨n, hn, rfl⟩ := List.mem_map.mp m
  rfl
theorem lay_grp {g : Grp} (h : ∀ n ∈ g, NmS n) : PyData.canLayAll0 (encG g) = true := lay_strs g fun n hn c hc => letters_small c ((h n hn).2 c hc)
theorem showable_grp : ∀ g : Grp, PyData.showableAll (encG g) = true
  | [] => rfl
  | _ :: g => by
    show (true && PyData.showableAll (encG g)) = true
    rw [showable_grp g]
    rfl
theorem noDict_grp : ∀ g : Grp, PyData.hasDictAll (encG g) = false
  | [] => rfl
  | _ :: g => by
    show (false || PyData.hasDictAll (encG g)) = false
    rw [noDict_grp g]
    rfl
/-- parts of a value near a test -/
inductive Pt : PyData → Prop
  | none : Pt .none
  | zero : Pt (.int 0)
  | str (z : Str) (h : NmS z) : Pt (.str z)
  | list (g : Grp) (l : g.length ≤ 10) (h : ∀ n ∈ g, NmS n) : Pt (.list (encG g))
  | tuple (g : Grp) (l : g.length ≤ 10) (h : ∀ n ∈ g, NmS n) : Pt (.tuple (encG g))
theorem Pt.facts {d : PyData} (h : Pt d) : Sh d ∧ d.showable = true ∧ d.hasDict = false ∧ d.depth ≤ 1 ∧ d.canLay0 = true ∧ PyData.weight d ≤ 90 ∧ PyData.intsShort 13 d = true := by
  cases h with
  | none => exact ⟨.none, rfl, rfl, Nat.zero_le _, rfl, Nat.zero_le _, rfl⟩
  | zero => exact ⟨.zero, by decide, rfl, Nat.zero_le _, rfl, Nat.zero_le _, by decide⟩
  | str z h =>
    have e : z.length = z.cps.size := rfl
    have l := h.1
    exact ⟨.str z h.2, rfl, rfl, Nat.zero_le _, nms_ok h, by show z.cps.size ≤ 90; omega, rfl⟩
  | list g l h =>
    have w := weight_grp h
    exact ⟨.list _ (sh_grp h), showable_grp g, noDict_grp g, by show PyData.depthAll (encG g) + 1 ≤ 1; rw [show PyData.depthAll (encG g) = 0 from depth_strs g]; exact Nat.le_refl 1, lay_grp h, by show PyData.weightAll (encG g) ≤ 90; omega, ints_grp g⟩
  | tuple g l h =>
    have w := weight_grp h
    exact ⟨.tuple _ (sh_grp h), showable_grp g, noDict_grp g, by show PyData.depthAll (encG g) + 1 ≤ 1; rw [show PyData.depthAll (encG g) = 0 from depth_strs g]; exact Nat.le_refl 1, lay_grp h, by show PyData.weightAll (encG g) ≤ 90; omega, ints_grp g⟩
theorem parts_facts : ∀ {ds : List PyData}, (∀ d ∈ ds, Pt d) → (∀ d ∈ ds, Sh d) ∧ PyData.showableAll ds = true ∧ PyData.hasDictAll ds = false ∧ PyData.depthAll ds ≤ 1 ∧ PyData.canLayAll0 ds = true ∧ PyData.weightAll ds ≤ 91 * ds.length ∧ PyData.intsShortAll 13 ds = true
  | [], _ => ⟨fun _ m => absurd m List.not_mem_nil, rfl, rfl, Nat.zero_le _, rfl, Nat.zero_le _, PySem.Spec.intsShortAll_of fun _ m => absurd m List.not_mem_nil⟩
  | d :: ds, h => by
    obtain ⟨a1, a2, a3, a4, a5, a6, a7⟩ := (h d (List.mem_cons_self ..)).facts
    obtain ⟨b1, b2, b3, b4, b5, b6, b7⟩ := parts_facts fun e m => h e (List.mem_cons_of_mem _ m)
    refine ⟨fun e m => ?_, ?_, ?_, ?_, ?_, ?_, ?_⟩
    · rcases List.mem_cons.mp m with rfl | m
      · exact a1
      · exact b1 e m
    · show (d.showable && PyData.showableAll ds) = true
      rw [a2, b2]
      rfl
    · show (d.hasDict || PyData.hasDictAll ds) = false
      rw [a3, b3]
      rfl
    · show max d.depth (PyData.depthAll ds) ≤ 1
      omega
    · show (d.canLay0 && PyData.canLayAll0 ds) = true
      rw [a5, b5]
      rfl
    · show PyData.weight d + 1 + PyData.weightAll ds ≤ 91 * (ds.length + 1)
      omega
    · refine PySem.Spec.intsShortAll_of fun e m => ?_
      rcases List.mem_cons.mp m with rfl | m
      · exact a7
      · have : ∀ {l : List PyData}, PyData.intsShortAll 13 l = true → ∀ x ∈ l, PyData.intsShort 13 x = true := by
          intro l
          induction l with
          | nil => exact fun _ _ m => absurd m List.not_mem_nil
          | cons y l ih =>
            intro hl x mx
            simp only [PyData.intsShortAll, Bool.and_eq_true] at hl
            rcases List.mem_cons.mp mx with rfl | mx
            · exact hl.1
            · exact ih hl.2 x mx
        exact this b7 e m
theorem parts_shown {ds : List PyData} (h : ∀ d ∈ ds, Pt d) (l : ds.length ≤ 10) : (PyData.tuple ds).shown.length ≤ sizeLine ∧ (PyData.list ds).shown.length ≤ sizeLine := by
  obtain ⟨b1, b2, b3, b4, b5, b6, b7⟩ := parts_facts h
  have e20 : (2 : Nat) ^ 20 = 1048576 := by decide
  constructor
  · refine Nat.le_trans (PyProof.Rows.shown_le13 ?_ (by simp only [PyData.intsShort]; exact b7)) (by decide)
    show (PyData.canLayAll0 ds && decide (PyData.depthAll ds + 1 ≤ 64) && decide (PyData.weightAll ds ≤ 2 ^ 20)) = true
    rw [b5, decide_eq_true (by omega), decide_eq_true (by omega)]
    rfl
  · refine Nat.le_trans (PyProof.Rows.shown_le13 ?_ (by simp only [PyData.intsShort]; exact b7)) (by decide)
    show (PyData.canLayAll0 ds && decide (PyData.depthAll ds + 1 ≤ 64) && decide (PyData.weightAll ds ≤ 2 ^ 20)) = true
    rw [b5, decide_eq_true (by omega), decide_eq_true (by omega)]
    rfl
theorem pd_tuple {K : PySem.W.Frag} {H : Hp} {a : Addr} {xs : List V} {ds : List PyData} (h : H a = some (.tup xs)) (hd : DpAll K H xs ds) (hp : ∀ d ∈ ds, Pt d) (l : ds.length ≤ 10) : Pd K H (.ref a) (.tuple ds) ∧ Sh (.tuple ds) := by
  obtain ⟨b1, b2, b3, b4, b5, b6, b7⟩ := parts_facts hp
  exact ⟨.dp (.tup (.inl (.inl h)) hd) b2 b3 (by show PyData.depthAll ds + 1 ≤ 32; omega) (parts_shown hp l).1, .tuple ds b1⟩
theorem pd_list {K : PySem.W.Frag} {H : Hp} {a : Addr} {xs : List V} {ds : List PyData} (h : H a = some (.lst xs)) (hd : DpAll K H xs ds) (hp : ∀ d ∈ ds, Pt d) (l : ds.length ≤ 10) : Pd K H (.ref a) (.list ds) ∧ Sh (.list ds) := by
  obtain ⟨b1, b2, b3, b4, b5, b6, b7⟩ := parts_facts hp
  exact ⟨.dp (.lst (.inl (.inl h)) hd) b2 b3 (by show PyData.depthAll ds + 1 ≤ 32; omega) (parts_shown hp l).2, .list ds b1⟩
theorem tri_parts {t : Tri} (l : t.1.length ≤ 10) (hg : ∀ n ∈ t.1, NmS n) (hn : NmS t.2.1) (hm : NmS t.2.2) : ∀ d ∈ [PyData.tuple (encG t.1), .str t.2.1, .str t.2.2], Pt d := fun d m => by
  simp only [List.mem_cons, List.not_mem_nil, or_false] at m
  rcases m with rfl | rfl | rfl
  · exact .tuple _ l hg
  · exact .str _ hn
  · exact .str _ hm
theorem encG_inj {g h : Grp} (e : encG g = encG h) : g = h := by
  induction g generalizing h with
  | nil =>
    cases h with
    | nil => rfl
    | cons x r => cases e
  | cons x r ih =>
    cases h with
    | nil => cases e
    | cons y t =>
      have e1 : PyData.str x :: encG r = PyData.str y :: encG t := e
      injection e1 with e2 e3
      injection e2 with e4
      rw [e4, ih e3]
theorem trD_inj {t u : Tri} (e : trD t = trD u) : t = u := by
  obtain ⟨g, n, m⟩ := t
  obtain ⟨h, k, l⟩ := u
  have e1 : PyData.tuple [.tuple (encG g), .str n, .str m] = .tuple [.tuple (encG h), .str k, .str l] := e
  injection e1 with e1
  injection e1 with a b
  injection a with a
  injection b with b c
  injection b with b
  injection c with c _
  injection c with c
  rw [encG_inj a, b, c]
end Gd
namespace Gd
open PySem PySem.Spec PyProof.Rows L2
structure TrOk (t : Tri) : Prop where
  l : t.1.length ≤ 10
  g : ∀ n ∈ t.1, NmS n
  n : NmS t.2.1
  m : NmS t.2.2
theorem tri_ok {k : Nat} {ns : List Str} {t : Tri} (h : Nms k ns) (hk : k ≤ 5) (m : t ∈ trisOf ns) : TrOk t := by
  obtain ⟨h1, h2, h3, _⟩ := (mem_tris h.asc).mp m
  have sub := groups_mem.mp h1
  have l1 := sub.length_le
  have l2 := h.most
  exact ⟨by omega, fun n hn => name_nms (h.nm n (sub.subset hn)), name_nms (h.nm _ h2), name_nms (h.nm _ h3)⟩
theorem intsAll_app : ∀ {l : List PyData}, (∀ x ∈ l, PyData.intsShort 13 x = true) → PyData.intsShortAll 13 l = true := fun h => PySem.Spec.intsShortAll_of h
theorem tris_facts : ∀ {l : List Tri}, (∀ t ∈ l, TrOk t) → PyData.showableAll (l.map trD) = true ∧ PyData.hasDictAll (l.map trD) = false ∧ PyData.depthAll (l.map trD) ≤ 2 ∧ PyData.canLayAll0 (l.map trD) = true ∧ PyData.weightAll (l.map trD) ≤ 300 * l.length ∧ (∀ x ∈ l.map trD, PyData.intsShort 13 x = true)
  | [], _ => ⟨rfl, rfl, Nat.zero_le _, rfl, Nat.zero_le _, fun _ m => absurd m List.not_mem_nil⟩
  | t :: l, h => by
    have o := h t (List.mem_cons_self ..)
    obtain ⟨_, a2, a3, a4, a5, a6, a7⟩ := parts_facts (tri_parts o.l o.g o.n o.m)
    obtain ⟨b2, b3, b4, b5, b6, b7⟩ := tris_facts fun u m => h u (List.mem_cons_of_mem _ m)
    have a6 : PyData.weightAll [PyData.tuple (encG t.1), .str t.2.1, .str t.2.2] ≤ 91 * 3 := a6
    refine ⟨?_, ?_, ?_, ?_, ?_, fun x m => ?_⟩
    · show (PyData.showableAll [PyData.tuple (encG t.1), .str t.2.1, .str t.2.2] && PyData.showableAll (l.map trD)) = true
      rw [a2, b2]
      rfl
    · show (PyData.hasDictAll [PyData.tuple (encG t.1), .str t.2.1, .str t.2.2] || PyData.hasDictAll (l.map trD)) = false
      rw [a3, b3]
      rfl
    · show max (PyData.depthAll [PyData.tuple (encG t.1), .str t.2.1, .str t.2.2] + 1) (PyData.depthAll (l.map trD)) ≤ 2
      omega
    · show (PyData.canLayAll0 [PyData.tuple (encG t.1), .str t.2.1, .str t.2.2] && PyData.canLayAll0 (l.map trD)) = true
      rw [a5, b5]
      rfl
    · show PyData.weightAll [PyData.tuple (encG t.1), .str t.2.1, .str t.2.2] + 1 + PyData.weightAll (l.map trD) ≤ 300 * (l.length + 1)
      omega
    · rcases List.mem_cons.mp m with rfl | m
      · show PyData.intsShort 13 (.tuple _) = true
        simp only [PyData.intsShort]
        exact a7
      · exact b7 x m
theorem tris_len {ns : List Str} (h : ns.length ≤ 5) : (trisOf ns).length ≤ 800 := by
  have f := flat_len (trisFor ns) 25 (groupsOf ns) fun g _ => by
    unfold trisFor
    rw [List.length_map]
    exact Nat.le_trans (List.length_filter_le _ _) (Nat.le_trans (pairs_len ns) (Nat.mul_le_mul h h))
  have g := groups_small h
  have := Nat.mul_le_mul_right 25 g
  show ((groupsOf ns).flatMap (trisFor ns)).length ≤ 800
  omega
/-- the list of a tuple of triples, twice -/
theorem twice_facts {l : List Tri} (h : ∀ t ∈ l, TrOk t) (n : l.length ≤ 800) :
    (PyData.list [.tuple (l.map trD), .tuple (l.map trD)]).showable = true ∧ (PyData.list [.tuple (l.map trD), .tuple (l.map trD)]).hasDict = false ∧ (PyData.list [.tuple (l.map trD), .tuple (l.map trD)]).depth ≤ 32 ∧ (PyData.list [.tuple (l.map trD), .tuple (l.map trD)]).shown.length ≤ sizeLine := by
  obtain ⟨b2, b3, b4, b5, b6, b7⟩ := tris_facts h
  have e20 : (2 : Nat) ^ 20 = 1048576 := by decide
  have d : PyData.depth (PyData.list [.tuple (l.map trD), .tuple (l.map trD)]) = max (PyData.depthAll (l.map trD) + 1) (max (PyData.depthAll (l.map trD) + 1) 0) + 1 := rfl
  have w : PyData.weight (PyData.list [.tuple (l.map trD), .tuple (l.map trD)]) = PyData.weightAll (l.map trD) + 1 + (PyData.weightAll (l.map trD) + 1 + 0) := rfl
  refine ⟨?_, ?_, by rw [d]; omega, Nat.le_trans (PyProof.Rows.shown_le13 ?_ ?_) (by decide)⟩
  · show (PyData.showableAll (l.map trD) && (PyData.showableAll (l.map trD) && true)) = true
    rw [b2]
    rfl
  · show (PyData.hasDictAll (l.map trD) || (PyData.hasDictAll (l.map trD) || false)) = false
    rw [b3]
    rfl
  · show ((PyData.canLayAll0 (l.map trD) && (PyData.canLayAll0 (l.map trD) && true)) && decide (PyData.depth (PyData.list [.tuple (l.map trD), .tuple (l.map trD)]) ≤ 64) && decide (PyData.weight (PyData.list [.tuple (l.map trD), .tuple (l.map trD)]) ≤ 2 ^ 20)) = true
    rw [b5, decide_eq_true (by rw [d]; omega), decide_eq_true (by rw [w]; omega)]
    rfl
  · simp only [PyData.intsShort]
    refine intsAll_app fun x m => ?_
    simp only [List.mem_cons, List.not_mem_nil, or_false, or_self] at m
    subst m
    simp only [PyData.intsShort]
    exact intsAll_app b7
end Gd
namespace Gd
open PySem PySem.Spec PyProof.Rows L2
theorem tri_shown {t : Tri} (o : TrOk t) : (trD t).showable = true ∧ (trD t).hasDict = false ∧ (trD t).depth ≤ 32 ∧ (trD t).shown.length ≤ sizeLine ∧ Sh (trD t) := by
  obtain ⟨b1, b2, b3, b4, b5, b6, b7⟩ := parts_facts (tri_parts o.l o.g o.n o.m)
  exact ⟨b2, b3, by show PyData.depthAll _ + 1 ≤ 32; omega, (parts_shown (tri_parts o.l o.g o.n o.m) (by show 3 ≤ 10; decide)).1, .tuple _ b1⟩
theorem tris_shaped {l : List Tri} (h : ∀ t ∈ l, TrOk t) : SeqAt.shaped (.list (l.map trD)) = true := by
  obtain ⟨b2, b3, b4, b5, b6, b7⟩ := tris_facts h
  unfold SeqAt.shaped
  show (PyData.canLayAll0 _ && decide (PyData.depthAll _ + 1 ≤ 64)) = true
  rw [b5, decide_eq_true (by omega)]
  rfl
theorem eqv_empty (ds : List PyData) : PyData.eqv (.list ds) (.list []) = ds.isEmpty := by
  cases ds with
  | nil => rfl
  | cons d r =>
    rw [PyData.eqv]
    simp [PyData.eqvAll]
/-- repr(value) in the reprs of the tests -/
theorem shown_in {ns : List Str} {d : PyData} {b : Bool} (ok : ∀ t ∈ trisOf ns, TrOk t) (h : Sh d) (hb : b = true ↔ ∃ t ∈ trisOf ns, d = trD t) : inV (.str d.shown) ((trisOf ns).map fun t => V.str (trD t).shown) = b := by
  have e : ((trisOf ns).map fun t => V.str (trD t).shown) = ((trisOf ns).map fun t => (trD t).shown).map V.str := by
    rw [List.map_map]
    rfl
  rw [e, inV_names, Bool.eq_iff_iff, decide_eq_true_iff, hb, List.mem_map]
  constructor
  · rintro ⟨t, m, q⟩
    exact ⟨t, m, (shown_inj (tri_shown (ok t m)).2.2.2.2 h q).symm⟩
  · rintro ⟨t, m, rfl⟩
    exact ⟨t, m, rfl⟩
end Gd
/-! growing: by pairs, by all groups, by all orders -/
namespace Gd
open PySem PySem.Spec PyProof.Rows L2 PySem.W
/-- a set of names among ns, as a group -/
def cn (ns : List Str) (P : Str → Bool) : Grp := ns.filter P
def orS (P : Str → Bool) (n : Str) : Str → Bool := fun x => P x || decide (x = n)
def orL (P : Str → Bool) (l : List Str) : Str → Bool := fun x => P x || decide (x ∈ l)
theorem cn_in (ns : List Str) (P : Str → Bool) : cn ns P ∈ groupsOf ns := groups_mem.mpr List.filter_sublist
theorem grp_cn {ns : List Str} {g : Grp} (h : ns.Pairwise ltS) (hg : g ∈ groupsOf ns) : cn ns (fun x => decide (x ∈ g)) = g := by
  have sub := groups_mem.mp hg
  have nd := asc_nodup h
  have p : (cn ns fun x => decide (x ∈ g)).Perm g := by
    refine (List.perm_ext_iff_of_nodup (nd.filter _) (nd.sublist sub)).mpr fun x => ?_
    show x ∈ ns.filter _ ↔ _
    rw [List.mem_filter, decide_eq_true_iff]
    exact ⟨fun q => q.2, fun q => ⟨sub.subset q, q⟩⟩
  exact p.eq_of_pairwise (fun a b _ _ x y => absurd y (ltS_asymm x)) (h.filter _) (h.sublist sub)
/-- sorted names are the set of them -/
theorem sortN_cn {ns : List Str} {g : Grp} (h : ns.Pairwise ltS) (nd : g.Nodup) (hg : ∀ x ∈ g, x ∈ ns) : sortN g = cn ns fun x => decide (x ∈ g) := by
  refine sort_perm_asc ?_ (h.filter _)
  refine (List.perm_ext_iff_of_nodup nd ((asc_nodup h).filter _)).mpr fun x => ?_
  rw [List.mem_filter, decide_eq_true_iff]
  exact ⟨fun q => ⟨hg x q, q⟩, fun q => q.2⟩
theorem cn_congr {ns : List Str} {P Q : Str → Bool} (h : ∀ x ∈ ns, P x = Q x) : cn ns P = cn ns Q := List.filter_congr h
section
variable (ns : List Str) (W : Grp → Int)
/-- no test by pairs breaks -/
def Smod : Prop := ∀ (P : Str → Bool) (n m : Str), n ∈ ns → m ∈ ns → n ≠ m → P n = false → P m = false → W (cn ns (orS P n)) - W (cn ns P) ≤ W (cn ns (orS (orS P m) n)) - W (cn ns (orS P m))
variable {ns W}
theorem smod_chain (h : Smod ns W) {n : Str} (hn : n ∈ ns) : ∀ (l : List Str) (P : Str → Bool), l.Nodup → (∀ x ∈ l, x ∈ ns ∧ P x = false ∧ x ≠ n) → P n = false →
    W (cn ns (orS P n)) - W (cn ns P) ≤ W (cn ns (orS (orL P l) n)) - W (cn ns (orL P l))
  | [], P, _, _, _ => by
    have e : orL P [] = P := by
      funext x
      simp [orL]
    rw [e]
    exact Int.le_refl _
  | m :: l, P, nd, hl, hP => by
    obtain ⟨hm, nd'⟩ := List.nodup_cons.mp nd
    obtain ⟨m1, m2, m3⟩ := hl m (List.mem_cons_self ..)
    have s1 := h P n m hn m1 (Ne.symm m3) hP m2
    have s2 := smod_chain h hn l (orS P m) nd' (fun x hx => by
      obtain ⟨x1, x2, x3⟩ := hl x (List.mem_cons_of_mem _ hx)
      refine ⟨x1, ?_, x3⟩
      have ne : x ≠ m := fun q => hm (q ▸ hx)
      simp [orS, x2, ne]) (by simp [orS, hP, Ne.symm m3])
    have e : orL (orS P m) l = orL P (m :: l) := by
      funext x
      simp [orL, orS, Bool.or_assoc]
    rw [e] at s2
    exact Int.le_trans s1 s2
/-- behind those of pre come those of rest: what those of g among them bring, by the worths of all ahead -/
def bring (ns : List Str) (W : Grp → Int) (g : Grp) : List Str → List Str → Int
  | _, [] => 0
  | pre, n :: rest => (if n ∈ g then W (cn ns fun x => decide (x ∈ pre ++ [n])) - W (cn ns fun x => decide (x ∈ pre)) else 0) + bring ns W g (pre ++ [n]) rest
theorem bring_ge (h : Smod ns W) (g : Grp) : ∀ (rest pre : List Str), (pre ++ rest).Nodup → (∀ x ∈ pre ++ rest, x ∈ ns) →
    W (cn ns fun x => decide (x ∈ g) && decide (x ∈ pre ++ rest)) - W (cn ns fun x => decide (x ∈ g) && decide (x ∈ pre)) ≤ bring ns W g pre rest
  | [], pre, _, _ => by
    rw [List.append_nil]
    show _ ≤ (0 : Int)
    omega
  | n :: rest, pre, nd, hs => by
    have e0 : pre ++ n :: rest = (pre ++ [n]) ++ rest := by simp
    have ih := bring_ge h g rest (pre ++ [n]) (e0 ▸ nd) (e0 ▸ hs)
    rw [← e0] at ih
    have hn : n ∈ ns := hs n (by simp)
    have nn : n ∉ pre := fun q => by
      have := (List.nodup_append.mp nd).2.2 n q n (List.mem_cons_self ..)
      exact this rfl
    show _ ≤ (if n ∈ g then _ else (0 : Int)) + bring ns W g (pre ++ [n]) rest
    by_cases hg : n ∈ g
    · rw [if_pos hg]
      -- g among pre, and n; those of pre outside of g
      let P : Str → Bool := fun x => decide (x ∈ g) && decide (x ∈ pre)
      let l : List Str := pre.filter fun x => decide (x ∉ g)
      have pnd : pre.Nodup := (List.nodup_append.mp nd).1
      have c := smod_chain h hn l P (pnd.filter _) (fun x hx => by
        obtain ⟨x1, x2⟩ := List.mem_filter.mp hx
        have x2 := of_decide_eq_true x2
        exact ⟨hs x (List.mem_append_left _ x1), by simp [P, x2], fun q => nn (q ▸ x1)⟩) (by simp [P, nn])
      have e1 : cn ns (orS P n) = cn ns fun x => decide (x ∈ g) && decide (x ∈ pre ++ [n]) := cn_congr fun x _ => by
        by_cases q : x = n
        · subst q
          simp [orS, P, hg]
        · simp [orS, P, q]
      have e2 : cn ns (orL P l) = cn ns fun x => decide (x ∈ pre) := cn_congr fun x _ => by
        by_cases q : x ∈ g <;> by_cases q2 : x ∈ pre <;> simp [orL, P, l, q, q2]
      have e3 : cn ns (orS (orL P l) n) = cn ns fun x => decide (x ∈ pre ++ [n]) := cn_congr fun x _ => by
        by_cases q3 : x = n
        · simp [orS, q3]
        · by_cases q : x ∈ g <;> by_cases q2 : x ∈ pre <;> simp [orS, orL, P, l, q, q2, q3]
      rw [e1, e2, e3] at c
      have e4 : W (cn ns P) = W (cn ns fun x => decide (x ∈ g) && decide (x ∈ pre)) := rfl
      omega
    · rw [if_neg hg]
      have e1 : cn ns (fun x => decide (x ∈ g) && decide (x ∈ pre ++ [n])) = cn ns fun x => decide (x ∈ g) && decide (x ∈ pre) := cn_congr fun x _ => by
        by_cases q : x = n
        · subst q
          simp [hg]
        · simp [q]
      rw [e1] at ih
      omega
/-- of an order that has g ahead: just the worth -/
theorem bring_all : ∀ (rest pre : List Str) (g : Grp), (∀ x ∈ rest, x ∈ g) → bring ns W g pre rest = W (cn ns fun x => decide (x ∈ pre ++ rest)) - W (cn ns fun x => decide (x ∈ pre))
  | [], pre, g, _ => by
    rw [List.append_nil]
    show (0 : Int) = _
    omega
  | n :: rest, pre, g, h => by
    have ih := bring_all rest (pre ++ [n]) g fun x m => h x (List.mem_cons_of_mem _ m)
    show (if n ∈ g then _ else (0 : Int)) + bring ns W g (pre ++ [n]) rest = _
    rw [if_pos (h n (List.mem_cons_self ..)), ih, show pre ++ [n] ++ rest = pre ++ n :: rest by simp]
    omega
theorem bring_none : ∀ (rest pre : List Str) (g : Grp), (∀ x ∈ rest, x ∉ g) → bring ns W g pre rest = 0
  | [], _, _, _ => rfl
  | n :: rest, pre, g, h => by
    show (if n ∈ g then _ else (0 : Int)) + bring ns W g (pre ++ [n]) rest = _
    rw [if_neg (h n (List.mem_cons_self ..)), bring_none rest (pre ++ [n]) g fun x m => h x (List.mem_cons_of_mem _ m)]
    rfl
theorem bring_app : ∀ (a b pre : List Str) (g : Grp), bring ns W g pre (a ++ b) = bring ns W g pre a + bring ns W g (pre ++ a) b
  | [], b, pre, g => by
    rw [List.append_nil]
    show _ = (0 : Int) + _
    rw [Int.zero_add]
    rfl
  | n :: a, b, pre, g => by
    show (if n ∈ g then _ else (0 : Int)) + bring ns W g (pre ++ [n]) (a ++ b) = (if n ∈ g then _ else (0 : Int)) + bring ns W g (pre ++ [n]) a + _
    rw [bring_app a b (pre ++ [n]) g, show pre ++ [n] ++ a = pre ++ n :: a by simp]
    omega
end
end Gd
/-! len of an own instance; orders -/
namespace Gd
open PySem PySem.Spec PyProof.Rows L2
section
variable {X : Cx} {CX : CXT} {k : Nat} {C f : Addr} {fd : FuncData} {ps : List Str} {sp : Sp} {E : XK}
/-- len(o) by an own __len__ that tells some number -/
def rLenO (C : Addr) (sp : Sp) (E : XK) : List V → Hp → VK → Prop := fun xs H Q => ∃ a dx fs, xs = [.ref a] ∧ H a = some (.ins C dx fs) ∧ sp [.ref a] H (fun v H' => ∃ n : Nat, v = .int (n : Int) ∧ n ≤ 1000 ∧ Q (.int (n : Int)) H') E
theorem call_lenO (hs : PySem.W.findIn X.K (.ref C) "__len__" = some (some (.ref f))) (hf : PySem.W.isFn X.K (.ref f) = true) (F : FnOk X.prog X.w X.K X.mg X.base CX k f fd ps sp) (hr : Room (k + 1) X.A) (hb : Binds X.K fd ps []) (hx : Passes CX X.nox E) : CallR X (.builtin "len") (rLenO C sp E) := by
  intro pins s σ H xs us Q I r h
  obtain ⟨a, dx, fs, rfl, ea, q⟩ := h
  obtain ⟨u, rfl, ru⟩ := vals1 r
  obtain rfl : u = Value.ref a := ru
  obtain ⟨mA, O, _, _, _, _⟩ := ins_get I.hok ea
  obtain ⟨od, J, _⟩ := O.look
  refine Calls.call_function_entry kind_len plain_len entry_len (args_len1 _) ?_
  unfold Builtin.«len»
  refine wpAny_bind (m := oneArg "len" _) (wpAny_pure ?_)
  refine wpAny_bind (m := callSpecial? (.ref a) (Str.ofString "__len__")) (PySem.W.special_fn I.kIn J hs (beq_iff_eq.mp hf) (thn (run_in1 (us := [.ref a]) (vs := [.ref a]) F hr hb hx I (.cons rfl .nil) q) fun v s' ⟨z, H', I', rz, n, ez, hn, hq⟩ => ?_))
  subst ez
  obtain ⟨t, rfl⟩ := rz
  refine wpAny_bind (wpAny_holding (wpAny_pure ?_))
  refine wpAny_bind (wpAny_letGo ?_)
  show wpAny _ _ (if ((n : Nat) : Int) < 0 then _ else _) _ _ _
  rw [if_neg (by omega)]
  show wpAny _ _ (if ((n : Nat) : Int) ≥ 2 ^ 63 then _ else _) _ _ _
  rw [if_neg (by have : (2 : Int) ^ 63 = 9223372036854775808 := by decide
                 omega)]
  exact wpAny_bind (wpAny_mkInt (wpAny_pure ⟨_, rfl, .int n, H', I'.tok _, ⟨_, rfl⟩, hq⟩))
end
/-! all orders -/
def ordF (ns : List Str) (o : Grp) : List Grp := (ns.filter fun n => decide (n ∉ o)).map fun n => o ++ [n]
def ordStep (ns : List Str) (l : List Grp) : List Grp := l.flatMap (ordF ns)
def ordIter (ns : List Str) : Nat → List Grp
  | 0 => [[]]
  | k + 1 => ordStep ns (ordIter ns k)
theorem mem_ordIter {ns : List Str} : ∀ {k : Nat} {o : Grp}, o ∈ ordIter ns k ↔ o.Nodup ∧ (∀ n ∈ o, n ∈ ns) ∧ o.length = k
  | 0, o => by
    show o ∈ [[]] ↔ _
    rw [List.mem_singleton]
    constructor
    · rintro rfl
      exact ⟨List.nodup_nil, fun _ m => absurd m List.not_mem_nil, rfl⟩
    · exact fun h => List.length_eq_zero_iff.mp h.2.2
  | k + 1, o => by
    show o ∈ (ordIter ns k).flatMap _ ↔ _
    rw [List.mem_flatMap]
    constructor
    · rintro ⟨p, hp, h⟩
      obtain ⟨n, hn, rfl⟩ := List.mem_map.mp h
      obtain ⟨h1, h2, h3⟩ := mem_ordIter.mp hp
      obtain ⟨n1, n2⟩ := List.mem_filter.mp hn
      refine ⟨List.nodup_append.mpr ⟨h1, by simp, fun a ha b hb e => of_decide_eq_true n2 (by rw [← List.mem_singleton.mp hb, ← e]; exact ha)⟩, fun m hm => ?_, by rw [List.length_append, h3]; rfl⟩
      rcases List.mem_append.mp hm with q | q
      · exact h2 m q
      · rw [List.mem_singleton.mp q]
        exact n1
    · rintro ⟨h1, h2, h3⟩
      have ne : o ≠ [] := fun z => by
        rw [z] at h3
        cases h3
      have e := List.dropLast_concat_getLast ne
      have nd : (o.dropLast ++ [o.getLast ne]).Nodup := by
        rw [e]
        exact h1
      obtain ⟨d1, _, d3⟩ := List.nodup_append.mp nd
      refine ⟨o.dropLast, mem_ordIter.mpr ⟨d1, fun n m => h2 n (List.dropLast_subset _ m), by rw [List.length_dropLast, h3]; rfl⟩, List.mem_map.mpr ⟨o.getLast ne, List.mem_filter.mpr ⟨h2 _ (List.getLast_mem ne), decide_eq_true fun q => d3 _ q _ (List.mem_singleton.mpr rfl) rfl⟩, e⟩⟩
/-- those of the orders of ns are its permutations -/
theorem perm_of_all {ns o : List Str} (nd : ns.Nodup) (h : o.Nodup) (sub : ∀ n ∈ o, n ∈ ns) (l : o.length = ns.length) : o.Perm ns := by
  induction o generalizing ns with
  | nil =>
    have : ns = [] := List.length_eq_zero_iff.mp l.symm
    rw [this]
  | cons x o ih =>
    obtain ⟨hx, ho⟩ := List.nodup_cons.mp h
    have xm := sub x (List.mem_cons_self ..)
    have p := List.perm_cons_erase xm
    have le : (ns.erase x).length = o.length := by
      have := p.length_eq
      rw [List.length_cons] at this l
      omega
    refine (List.Perm.cons x (ih (nd.erase x) ho (fun n m => ?_) le.symm)).trans p.symm
    exact (List.mem_erase_of_ne (show n ≠ x from fun q => hx (q ▸ m))).mpr (sub n (List.mem_cons_of_mem _ m))
theorem mem_orders {ns o : List Str} (nd : ns.Nodup) : o ∈ ordIter ns ns.length ↔ o.Perm ns := by
  rw [mem_ordIter]
  constructor
  · exact fun ⟨h1, h2, h3⟩ => perm_of_all nd h1 h2 h3
  · exact fun p => ⟨p.nodup_iff.mpr nd, fun n m => p.mem_iff.mp m, p.length_eq⟩
theorem ordIter_len {ns : List Str} (nd : ns.Nodup) (h : ns.length ≤ 4) : ∀ {k : Nat}, k ≤ ns.length → (ordIter ns k).length ≤ 24 := by
  have step : ∀ (l : List Grp) (b : Nat), (∀ o ∈ l, (ns.filter fun n => decide (n ∉ o)).length ≤ b) → (ordStep ns l).length ≤ l.length * b := fun l b hl =>
    flat_len (ordF ns) b l fun o m => by
      unfold ordF
      rw [List.length_map]
      exact hl o m
  have count : ∀ {k : Nat} {o : Grp}, o ∈ ordIter ns k → (ns.filter fun n => decide (n ∉ o)).length + k ≤ ns.length := fun {k o} m => by
    obtain ⟨h1, h2, h3⟩ := mem_ordIter.mp m
    have nd2 : ((ns.filter fun n => decide (n ∉ o)) ++ o).Nodup := List.nodup_append.mpr ⟨nd.filter _, h1, fun a ha b hb e => of_decide_eq_true (List.mem_filter.mp ha).2 (e ▸ hb)⟩
    have : ((ns.filter fun n => decide (n ∉ o)) ++ o).length ≤ ns.length := by
      have sub : ∀ x ∈ (ns.filter fun n => decide (n ∉ o)) ++ o, x ∈ ns := fun x hx => by
        rcases List.mem_append.mp hx with q | q
        · exact (List.mem_filter.mp q).1
        · exact h2 x q
      exact nodup_sub_len nd2 sub
    rw [List.length_append, h3] at this
    exact this
  intro hk
  rename_i k
  have l0 : (ordIter ns 0).length = 1 := rfl
  have l1 := step (ordIter ns 0) 4 fun o m => by have := count m; omega
  have l2 := step (ordIter ns 1) 3 fun o m => by have := count m; omega
  have l3 := step (ordIter ns 2) 2 fun o m => by have := count m; omega
  have l4 := step (ordIter ns 3) 1 fun o m => by have := count m; omega
  have e1 : ordIter ns 1 = ordStep ns (ordIter ns 0) := rfl
  have e2 : ordIter ns 2 = ordStep ns (ordIter ns 1) := rfl
  have e3 : ordIter ns 3 = ordStep ns (ordIter ns 2) := rfl
  have e4 : ordIter ns 4 = ordStep ns (ordIter ns 3) := rfl
  rw [← e1] at l1
  rw [← e2] at l2
  rw [← e3] at l3
  rw [← e4] at l4
  match k, hk with
  | 0, _ => omega
  | 1, _ => omega
  | 2, _ => omega
  | 3, _ => omega
  | 4, _ => omega
  | k + 5, hk => omega
where
  nodup_sub_len : ∀ {l m : List Str}, l.Nodup → (∀ x ∈ l, x ∈ m) → l.length ≤ m.length
  | [], _, _, _ => Nat.zero_le _
  | x :: l, m, nd, h => by
    obtain ⟨hx, hl⟩ := List.nodup_cons.mp nd
    have xm := h x (List.mem_cons_self ..)
    have p := (List.perm_cons_erase xm).length_eq
    have ih := nodup_sub_len (m := m.erase x) hl fun y hy => (List.mem_erase_of_ne (show y ≠ x from fun q => hx (q ▸ hy))).mpr (h y (List.mem_cons_of_mem _ hy))
    rw [List.length_cons] at p ⊢
    omega
end Gd
namespace Gd
open PySem PySem.Spec PyProof.Rows L2
/-! the pay of an order -/
def payC (W : Grp → Int) (os : List Str) (n : Str) : Int := W (sortN (os.take (os.idxOf n + 1))) - W (sortN (os.take (os.idxOf n)))
theorem payC_at {W : Grp → Int} {os : List Str} {i : Nat} {n : Str} (nd : os.Nodup) (h : os[i]? = some n) : payC W os n = W (sortN (os.take (i + 1))) - W (sortN (os.take i)) := by
  obtain ⟨hi, e⟩ := List.getElem?_eq_some_iff.mp h
  have z : os.idxOf n = i := by
    rw [← e]
    exact nd.idxOf_getElem i hi
  unfold payC
  rw [z]
theorem take_in {ns os : List Str} (h : ns.Pairwise ltS) (p : os.Perm ns) (k : Nat) : sortN (os.take k) ∈ groupsOf ns ∧ sortN (os.take k) = cn ns fun x => decide (x ∈ os.take k) := by
  have nd : (os.take k).Nodup := (p.nodup_iff.mpr (asc_nodup h)).sublist (List.take_sublist k os)
  have sub : ∀ x ∈ os.take k, x ∈ ns := fun x m => p.mem_iff.mp (List.mem_of_mem_take m)
  exact ⟨sortN_in h nd sub, sortN_cn h nd sub⟩
theorem bring_pay {ns : List Str} {W : Grp → Int} {os : List Str} (h : ns.Pairwise ltS) (p : os.Perm ns) (g : Grp) : ∀ (rest pre : List Str), pre ++ rest = os → bring ns W g pre rest = ((rest.filter fun n => decide (n ∈ g)).map (payC W os)).sum
  | [], _, _ => rfl
  | n :: rest, pre, e => by
    have nd : os.Nodup := p.nodup_iff.mpr (asc_nodup h)
    have ih := bring_pay (W := W) h p g rest (pre ++ [n]) (by rw [List.append_assoc]; exact e)
    have at_ : os[pre.length]? = some n := by
      rw [← e]
      simp
    have e1 : os.take (pre.length + 1) = pre ++ [n] := by
      have l : pre.length + 1 = (pre ++ [n]).length := by rw [List.length_append]; rfl
      rw [← e, l, show pre ++ n :: rest = (pre ++ [n]) ++ rest by simp]
      exact List.take_left
    have e0 : os.take pre.length = pre := by
      rw [← e]
      exact List.take_left
    have pay : payC W os n = W (cn ns fun x => decide (x ∈ pre ++ [n])) - W (cn ns fun x => decide (x ∈ pre)) := by
      rw [payC_at nd at_, (take_in h p _).2, (take_in h p _).2, e1, e0]
    show (if n ∈ g then _ else (0 : Int)) + bring ns W g (pre ++ [n]) rest = _
    by_cases hg : n ∈ g
    · rw [if_pos hg, List.filter_cons_of_pos (by exact decide_eq_true hg), List.map_cons, List.sum_cons, ih, pay]
    · rw [if_neg hg, List.filter_cons_of_neg (by simp [hg]), ih, Int.zero_add]
theorem sum_perm {l m : List Int} (p : l.Perm m) : l.sum = m.sum := by
  induction p with
  | nil => rfl
  | cons x _ ih => rw [List.sum_cons, List.sum_cons, ih]
  | swap x y l => rw [List.sum_cons, List.sum_cons, List.sum_cons, List.sum_cons]; omega
  | trans _ _ a b => rw [a, b]
/-- the share of a group in a pay -/
theorem share_pay {ns : List Str} {W : Grp → Int} {os : List Str} (h : ns.Pairwise ltS) (p : os.Perm ns) (g : Grp) : shareOf ns (ns.map (payC W os)) g = bring ns W g [] os := by
  rw [bring_pay h p g os [] rfl]
  have e : shareOf ns (ns.map (payC W os)) g = ((ns.filter fun n => decide (n ∈ g)).map (payC W os)).sum := by
    unfold shareOf
    congr 1
    have z : ∀ l : List Str, (((l.zip (l.map (payC W os))).filter fun t => decide (t.1 ∈ g)).map (·.2)) = (l.filter fun n => decide (n ∈ g)).map (payC W os) := by
      intro l
      induction l with
      | nil => rfl
      | cons x l ih =>
        rw [List.map_cons, List.zip_cons_cons]
        by_cases q : x ∈ g
        · rw [List.filter_cons_of_pos (by exact decide_eq_true q), List.filter_cons_of_pos (by exact decide_eq_true q), List.map_cons, List.map_cons, ih]
        · rw [List.filter_cons_of_neg (by simp [q]), List.filter_cons_of_neg (by simp [q]), ih]
    exact z ns
  rw [e]
  exact sum_perm ((p.symm.filter _).map _)
/-- no test breaks: every pay gives each group its worth -/
theorem smod_pays {ns : List Str} {W : Grp → Int} (h : ns.Pairwise ltS) (z : W [] = 0) (sm : Smod ns W) {os : List Str} (p : os.Perm ns) {g : Grp} (hg : g ∈ groupsOf ns) : W g ≤ shareOf ns (ns.map (payC W os)) g := by
  rw [share_pay h p g]
  have b := bring_ge sm g os [] (by rw [List.nil_append]; exact p.nodup_iff.mpr (asc_nodup h)) (fun x m => p.mem_iff.mp (by simpa using m))
  have e1 : (cn ns fun x => decide (x ∈ g) && decide (x ∈ [] ++ os)) = g := by
    rw [← grp_cn h hg]
    refine cn_congr fun x m => ?_
    rw [List.nil_append, decide_eq_true (p.mem_iff.mpr m), Bool.and_true, grp_cn h hg]
  have e2 : (cn ns fun x => decide (x ∈ g) && decide (x ∈ ([] : List Str))) = [] := by
    show ns.filter _ = []
    rw [List.filter_eq_nil_iff]
    intro x _
    simp
  rw [e1, e2, z] at b
  omega
/-- an order that has g ahead gives it just its worth -/
theorem pay_ahead {ns : List Str} {W : Grp → Int} (h : ns.Pairwise ltS) (z : W [] = 0) {g rest : Grp} (hg : g ∈ groupsOf ns) (p : (g ++ rest).Perm ns) : shareOf ns (ns.map (payC W (g ++ rest))) g = W g := by
  have nd : (g ++ rest).Nodup := p.nodup_iff.mpr (asc_nodup h)
  rw [share_pay h p g, bring_app, bring_all g [] g fun x m => m, bring_none rest ([] ++ g) g fun x m q => (List.nodup_append.mp nd).2.2 x q x m rfl]
  have e2 : (cn ns fun x => decide (x ∈ ([] : List Str))) = [] := by
    show ns.filter _ = []
    rw [List.filter_eq_nil_iff]
    intro x _
    simp
  rw [List.nil_append, grp_cn h hg, e2, z]
  omega
theorem rest_perm {ns : List Str} {g : Grp} (h : ns.Pairwise ltS) (hg : g ∈ groupsOf ns) : (g ++ ns.filter fun n => decide (n ∉ g)).Perm ns := by
  have e : (ns.filter fun n => decide (n ∈ g)) = g := grp_cn h hg
  have q := List.filter_append_perm (fun n => decide (n ∈ g)) ns
  have e2 : (ns.filter fun n => !decide (n ∈ g)) = ns.filter fun n => decide (n ∉ g) := List.filter_congr fun x _ => by simp
  rw [e2, e] at q
  exact q
end Gd
namespace Gd
open PySem PySem.Spec PyProof.Rows L2
/-- the law's own broken test: n brings less behind m -/
def BrP (W : Grp → Int) (g : Grp) (n m : Str) : Prop := W (sortN (sortN (g ++ [m]) ++ [n])) - W (sortN (g ++ [m])) < W (sortN (g ++ [n])) - W g
theorem sort_or {ns : List Str} {P : Str → Bool} {n : Str} (h : ns.Pairwise ltS) (hn : n ∈ ns) (hP : P n = false) : sortN (cn ns P ++ [n]) = cn ns (orS P n) := by
  have nd : (cn ns P ++ [n]).Nodup := List.nodup_append.mpr ⟨(asc_nodup h).filter _, by simp, fun a ha b hb e => by
    rw [List.mem_singleton.mp hb] at e
    have := (List.mem_filter.mp ha).2
    rw [e, hP] at this
    cases this⟩
  rw [sortN_cn h nd fun x hx => by
    rcases List.mem_append.mp hx with q | q
    · exact (List.mem_filter.mp q).1
    · rw [List.mem_singleton.mp q]
      exact hn]
  refine cn_congr fun x hx => ?_
  show decide (x ∈ ns.filter P ++ [n]) = (P x || decide (x = n))
  rw [Bool.eq_iff_iff, decide_eq_true_iff, List.mem_append, List.mem_filter, List.mem_singleton, Bool.or_eq_true, decide_eq_true_iff]
  exact ⟨fun q => q.imp (fun z => z.2) id, fun q => q.imp (fun z => ⟨hx, z⟩) id⟩
theorem smod_iff {ns : List Str} {W : Grp → Int} (h : ns.Pairwise ltS) : Smod ns W ↔ ∀ g ∈ groupsOf ns, ∀ n ∈ ns, ∀ m ∈ ns, n ∉ g → m ∉ g → n ≠ m → ¬ BrP W g n m := by
  have key : ∀ (P : Str → Bool) (n m : Str), n ∈ ns → m ∈ ns → n ≠ m → P n = false → P m = false →
      (BrP W (cn ns P) n m ↔ W (cn ns (orS (orS P m) n)) - W (cn ns (orS P m)) < W (cn ns (orS P n)) - W (cn ns P)) := fun P n m hn hm ne hP hM => by
    unfold BrP
    rw [sort_or h hm hM, sort_or h hn hP, sort_or h hn (by simp [orS, hP, ne])]
  constructor
  · intro s g hg n hn m hm ng mg ne b
    have e := grp_cn h hg
    have P1 : (fun x => decide (x ∈ g)) n = false := decide_eq_false ng
    have P2 : (fun x => decide (x ∈ g)) m = false := decide_eq_false mg
    rw [← e] at b
    have b2 := (key (fun x => decide (x ∈ g)) n m hn hm ne P1 P2).mp b
    have s2 := s (fun x => decide (x ∈ g)) n m hn hm ne P1 P2
    omega
  · intro hb P n m hn hm ne hP hM
    have np := hb (cn ns P) (cn_in ns P) n hn m hm (fun q => by
      have := (List.mem_filter.mp q).2
      rw [hP] at this
      cases this) (fun q => by
      have := (List.mem_filter.mp q).2
      rw [hM] at this
      cases this) ne
    rw [key P n m hn hm ne hP hM] at np
    omega
/-- a broken test: some order, and a group that gets less than its worth -/
theorem broken_pay {ns : List Str} {W : Grp → Int} (h : ns.Pairwise ltS) (z : W [] = 0) {g : Grp} {n m : Str} (hg : g ∈ groupsOf ns) (hn : n ∈ ns) (hm : m ∈ ns) (ng : n ∉ g) (mg : m ∉ g) (ne : n ≠ m) (b : BrP W g n m) :
    ∃ os, os.Perm ns ∧ sortN (g ++ [m]) ∈ groupsOf ns ∧ shareOf ns (ns.map (payC W os)) (sortN (g ++ [m])) < W (sortN (g ++ [m])) := by
  have sub := groups_mem.mp hg
  have nd := asc_nodup h
  have gnd := nd.sublist sub
  have nd2 : (g ++ [n, m]).Nodup := List.nodup_append.mpr ⟨gnd, by simp [ne], fun a ha c hc e => by
    subst e
    simp only [List.mem_cons, List.not_mem_nil, or_false] at hc
    rcases hc with rfl | rfl
    · exact ng ha
    · exact mg ha⟩
  have sub2 : ∀ x ∈ g ++ [n, m], x ∈ ns := fun x hx => by
    rcases List.mem_append.mp hx with q | q
    · exact sub.subset q
    · simp only [List.mem_cons, List.not_mem_nil, or_false] at q
      rcases q with rfl | rfl
      · exact hn
      · exact hm
  let rest := ns.filter fun x => decide (x ∉ g ++ [n, m])
  have p : (g ++ [n, m] ++ rest).Perm ns := by
    have q := List.filter_append_perm (fun x => decide (x ∈ g ++ [n, m])) ns
    have e1 : (ns.filter fun x => !decide (x ∈ g ++ [n, m])) = rest := List.filter_congr fun x _ => by simp
    have e2 : (g ++ [n, m]).Perm (ns.filter fun x => decide (x ∈ g ++ [n, m])) := (List.perm_ext_iff_of_nodup nd2 (nd.filter _)).mpr fun x => by
      rw [List.mem_filter, decide_eq_true_iff]
      exact ⟨fun q => ⟨sub2 x q, q⟩, fun q => q.2⟩
    rw [e1] at q
    exact (e2.append_right rest).trans q
  have ndm : (g ++ [m]).Nodup := List.nodup_append.mpr ⟨gnd, by simp, fun a ha c hc e => mg (by rw [← List.mem_singleton.mp hc, ← e]; exact ha)⟩
  have subm : ∀ x ∈ g ++ [m], x ∈ ns := fun x hx => by
    rcases List.mem_append.mp hx with q | q
    · exact sub.subset q
    · rw [List.mem_singleton.mp q]
      exact hm
  have inm : ∀ x, x ∈ sortN (g ++ [m]) ↔ x ∈ g ++ [m] := fun x => (List.mergeSort_perm _ leS).mem_iff
  refine ⟨g ++ [n, m] ++ rest, p, sortN_in h ndm subm, ?_⟩
  rw [share_pay h p, List.append_assoc, bring_app, bring_app]
  rw [bring_all g [] _ fun x hx => (inm x).mpr (List.mem_append_left _ hx)]
  rw [bring_none rest _ _ fun x hx q => by
    have := (List.mem_filter.mp hx).2
    have := of_decide_eq_true this
    rcases List.mem_append.mp ((inm x).mp q) with r | r
    · exact this (List.mem_append_left _ r)
    · rw [List.mem_singleton.mp r] at this
      exact this (by simp)]
  have e0 : (cn ns fun x => decide (x ∈ ([] : List Str))) = [] := by
    show ns.filter _ = []
    rw [List.filter_eq_nil_iff]
    intro x _
    simp
  have nm : n ∉ sortN (g ++ [m]) := fun q => by
    rcases List.mem_append.mp ((inm n).mp q) with r | r
    · exact ng r
    · exact ne (List.mem_singleton.mp r)
  have mm : m ∈ sortN (g ++ [m]) := (inm m).mpr (by simp)
  have br : bring ns W (sortN (g ++ [m])) ([] ++ g) [n, m] = W (cn ns fun x => decide (x ∈ g ++ [n] ++ [m])) - W (cn ns fun x => decide (x ∈ g ++ [n])) := by
    show (if n ∈ sortN (g ++ [m]) then _ else (0 : Int)) + ((if m ∈ sortN (g ++ [m]) then _ else (0 : Int)) + (0 : Int)) = _
    rw [if_neg nm, if_pos mm, List.nil_append]
    omega
  rw [br, e0, z, List.nil_append, grp_cn h hg]
  -- the same three by the law's own ways
  have P1 : (fun x => decide (x ∈ g)) n = false := decide_eq_false ng
  have P2 : (fun x => decide (x ∈ g)) m = false := decide_eq_false mg
  have w1 : sortN (g ++ [m]) = cn ns (orS (fun x => decide (x ∈ g)) m) := by
    have := sort_or (P := fun x => decide (x ∈ g)) h hm P2
    rw [grp_cn h hg] at this
    exact this
  have w2 : sortN (g ++ [n]) = cn ns (orS (fun x => decide (x ∈ g)) n) := by
    have := sort_or (P := fun x => decide (x ∈ g)) h hn P1
    rw [grp_cn h hg] at this
    exact this
  have w3 : sortN (sortN (g ++ [m]) ++ [n]) = cn ns (orS (orS (fun x => decide (x ∈ g)) m) n) := by
    rw [w1]
    exact sort_or h hn (by simp [orS, ng, ne])
  have v3 : cn ns (fun x => decide (x ∈ g ++ [n] ++ [m])) = cn ns (orS (orS (fun x => decide (x ∈ g)) m) n) := cn_congr fun x _ => by
    by_cases a : x ∈ g <;> by_cases b : x = n <;> by_cases c : x = m <;> simp [orS, a, b, c]
  have v2 : cn ns (fun x => decide (x ∈ g ++ [n])) = cn ns (orS (fun x => decide (x ∈ g)) n) := cn_congr fun x _ => by
    by_cases a : x ∈ g <;> by_cases b : x = n <;> simp [orS, a, b]
  unfold BrP at b
  rw [w3, w2, w1] at b
  rw [v3, v2, w1]
  omega
end Gd
/-! sorted() of a set of tuples of ints, each with one int or more -/
namespace Gd
open PySem PySem.Spec PyProof.Rows L2 PySem.Calls PySem.W PySem.SeqAt
def encI (k : List Int) : List PyData := k.map PyData.int
def encA (t : Addr × List Int) : PyData := .tuple (encI t.2)
theorem reads_ints {h : Heap} {xs : List Value} {k : List Int} (e : PyProof.Rows.IntsAre xs k) : ∃ as, ReadsAll h xs (encI k) as := by
  induction e with
  | nil => exact ⟨[], .nil⟩
  | cons n t e ih => exact ih.elim fun as r => ⟨_, .cons (.int n t) r⟩
theorem isT_reads {P : Program} {w : World} {h : Heap} {k : List Int} {b : Addr} (x : IsT P w h k b) : ∃ as, Reads h (.ref b) (.tuple (encI k)) as :=
  x.elim fun _ x => x.elim fun _ x => x.elim fun _ x => (reads_ints (h := h) (ints_of_items x.2.2.2)).elim fun as r => ⟨as, .tuple x.1 x.2.1 x.2.2.1 r⟩
/-- a list that is a row's image, put in some order, is the image of the row in some order -/
theorem perm_lift {α β : Type} (f : α → β) : ∀ {vs : List β} {l : List α}, vs.Perm (l.map f) → ∃ m : List α, m.Perm l ∧ vs = m.map f
  | [], l, p => by
    have z : l = [] := by simpa using p.length_eq.symm
    exact ⟨[], by rw [z], rfl⟩
  | v :: vs, l, p => by
    obtain ⟨x, hx, fx⟩ := List.mem_map.mp (p.mem_iff.mp (List.mem_cons_self ..))
    obtain ⟨a, b, rfl⟩ := List.append_of_mem hx
    have p2 : (v :: vs).Perm (v :: (a ++ b).map f) := p.trans (by
      rw [← fx, ← List.map_cons]
      exact (List.perm_middle (a := x) (l₁ := a) (l₂ := b)).map f)
    obtain ⟨m, pm, e⟩ := perm_lift f p2.cons_inv
    exact ⟨x :: m, (pm.cons x).trans List.perm_middle.symm, by rw [List.map_cons, fx, e]⟩
/-- Python's order of tuples of ints is the order of the lists -/
theorem leA_eq : dataLe false encA = fun p q => decide (p.2 ≤ q.2) := by
  funext p q
  show (!dataLt (.tuple (encI q.2)) (.tuple (encI p.2))) = _
  rw [dataLt_tuple]
  have e : PyProof.Rows.lexLt itemOrd (keyToksAll (encI q.2)) (keyToksAll (encI p.2)) = decide (q.2 < p.2) := dataLt_ints q.2 p.2
  rw [e, ← decide_not]
  exact decide_eq_decide.mpr List.not_lt
theorem leI_trans {a b c : List Int} (h : a ≤ b) (k : b ≤ c) : a ≤ c := List.le_trans h k
theorem leI_total (a b : List Int) : a ≤ b ∨ b ≤ a := List.le_total a b
theorem leI_anti {a b : List Int} (h : a ≤ b) (k : b ≤ a) : a = b := List.le_antisymm h k
/-- rows in order, none twice, with the same members: the same -/
theorem asc_eqI : ∀ {l m : List (List Int)}, l.Pairwise (· ≤ ·) → m.Pairwise (· ≤ ·) → l.Nodup → m.Nodup → (∀ x, x ∈ l ↔ x ∈ m) → l = m
  | [], [], _, _, _, _, _ => rfl
  | [], y :: m, _, _, _, _, h => absurd ((h y).mpr (List.mem_cons_self ..)) List.not_mem_nil
  | x :: l, [], _, _, _, _, h => absurd ((h x).mp (List.mem_cons_self ..)) List.not_mem_nil
  | x :: l, y :: m, pl, pm, nl, nm, h => by
    have px := List.pairwise_cons.mp pl
    have py := List.pairwise_cons.mp pm
    have nx := List.nodup_cons.mp nl
    have ny := List.nodup_cons.mp nm
    have e : x = y := by
      rcases List.mem_cons.mp ((h x).mp (List.mem_cons_self ..)) with e | q
      · exact e
      · rcases List.mem_cons.mp ((h y).mpr (List.mem_cons_self ..)) with e | r
        · exact e.symm
        · exact leI_anti (px.1 y r) (py.1 x q)
    subst e
    rw [asc_eqI px.2 py.2 nx.2 ny.2 fun z => ?_]
    constructor
    · intro hz
      rcases List.mem_cons.mp ((h z).mp (List.mem_cons_of_mem _ hz)) with e | q
      · exact absurd (e ▸ hz) nx.1
      · exact q
    · intro hz
      rcases List.mem_cons.mp ((h z).mpr (List.mem_cons_of_mem _ hz)) with e | q
      · exact absurd (e ▸ hz) ny.1
      · exact q
def refI (t : Addr × List Int) : Value := .ref t.1
theorem each_refI : ∀ l : List (Addr × List Int), EachIs (fun (v : Value) (t : Addr × List Int) => v = refI t) (l.map refI) l
  | [] => .nil
  | _ :: l => .cons rfl (each_refI l)
theorem eachI_map {vs : List Value} {l : List (Addr × List Int)} (e : EachIs (fun (v : Value) (t : Addr × List Int) => v = refI t) vs l) : vs = l.map refI := by
  induction e with
  | nil => rfl
  | cons h _ ih => rw [List.map_cons, ← h, ← ih]
section
variable {X : Cx}
def rSortedI (K : PySem.W.Frag) (P : Program) (w : World) : List V → Hp → VK → Prop := fun vs H Q => ∃ (a : Addr) (L : List (Addr × List Int)), vs = [V.ref a] ∧ H a = some (SetTO P w a L) ∧ (∀ p ∈ L, SqT K H p.1 (p.2.map V.int)) ∧ (∀ p ∈ L, p.2 ≠ []) ∧
  ∀ (L' : List (Addr × List Int)) (p : Addr), L'.Perm L → L'.length < 64 → (L'.map (·.2)).Pairwise (· ≤ ·) → (L'.map (·.2)).Nodup → H p = none → Q (.ref p) (upd H p (.lst (L'.map fun q => V.ref q.1)))
theorem cr_sortedI (calm : X.calm = true) (room : X.A.units + 64 < cLine) : CallR X (.builtin "sorted") (rSortedI X.K X.prog X.w) := by
  intro pins s σ H vs us Q I rel need
  obtain ⟨a, L, rfl, atA, tups, full, goal⟩ := need
  obtain ⟨es, ep, tb, R⟩ := (I.hok a _ atA).1.full fun t m => I.isT (tups t m)
  obtain ⟨ob, hob, oex, odat⟩ := R.ob
  have few := R.few
  have esz := R.size
  rw [Vals.ref1 rel]
  refine PyProof.Rows.call_function_entry_kw PyProof.Rows.kind_sorted PyProof.Rows.plain_sorted PyProof.Rows.entry_sorted (PyProof.Rows.args_sorted1 _) ?_
  unfold Builtin.«sorted»
  refine wpAny_bind (m := checkCount "sorted" 1 1 _) (wpAny_pure ?_)
  refine wpAny_bind (collect_set (A := X.A.in1) (I.ok.hd calm) ⟨ob, hob, oex.1, odat⟩ R.fits (by unfold scanBound; omega) R.tab.ris R.led fun s1 got keep grow sg so pm => ?_)
  have img : es.toList.map (·.2) = L.map refI := by
    rw [R.rows]
    simp [L2.rowsOf, refI, Function.comp_def]
  rw [img] at pm
  obtain ⟨m, pmL, rfl⟩ := perm_lift refI pm
  have ml : m.length < 64 := pmL.length_eq ▸ few
  have lim : (m.map refI).length ≤ sizeLine := by
    rw [List.length_map, sizeLine_eq]
    omega
  refine wpAny_bind (wpAny_newList ?_ lim)
  generalize hpre : s1.heap.push (seqObj "list" (m.map refI).toArray 0) = pre
  have there : pre.get? s1.heap.objs.size = some (seqObj "list" (m.map refI).toArray 0) := by
    rw [← hpre]
    exact Heap.get?_push_size _ rfl
  have wide : ∀ c u, s.heap.get? c = some u → c ≠ s1.heap.objs.size ∧ pre.get? c = some u := fun c u e => ⟨Nat.ne_of_lt (Heap.lt_size (keep c u e)), by
    rw [← hpre]
    exact Heap.get?_push_of_some _ (keep c u e)⟩
  generalize hmid : sortingHeap pre s1.heap.objs.size (m.map refI) = mid
  have midK : ∀ c u, s.heap.get? c = some u → mid.get? c = some u := fun c u e => by
    rw [← hmid]
    exact sortingHeap_old (wide c u e).1 (wide c u e).2
  have rd : EachIs (fun v t => ∃ as, Reads mid v (encA t) as) (m.map refI) m := (each_mem (each_refI m)).mono fun v t q => by
    obtain ⟨rfl, tm⟩ := q
    exact isT_reads (P := X.prog) (w := X.w) (isT_keep (R.tup t (pmL.mem_iff.mp tm)) midK)
  have alk : AllAlike (m.map encA) := AllAlike.of fun b b' => by
    show alike (.tuple _) (.tuple _) = true
    simp only [alike]
    exact alike_ints _ _
  have sor : Sortable (m.map encA) := .inl fun d dm => by
    obtain ⟨⟨b1, b2⟩, bm, rfl⟩ := List.mem_map.mp dm
    cases b2 with
    | nil => exact absurd rfl (full _ (pmL.mem_iff.mp bm))
    | cons x r => exact ⟨.int x, encI r, rfl⟩
  have sat : SortsAt X.prog X.w X.A.in1.in1 { s1 with heap := mid } (dataKind mid (m.map encA)) (m.map refI) :=
    SortsAt.data (s := { s1 with heap := mid }) (each_map (R := fun v d => ∃ as, Reads mid v d as) encA rd) alk sor fun d dm => by
      obtain ⟨b, _, rfl⟩ := List.mem_map.mp dm
      have dz : PyData.depthAll (encI b.2) = 0 := depth_ints b.2
      show X.A.units + 1 + 1 + (PyData.depthAll (encI b.2) + 1) < cLine
      omega
  have srt := eachI_map (sortVals_data (h' := mid) (enc := encA) false (each_refI m) rd alk)
  generalize hres : sortVals (dataKind mid (m.map encA)) false (m.map refI) (m.map refI) = res at srt
  refine wpAny_bind (wpAny_holding (PyProof.Rows.wpAny_call_entry_kw PyProof.Rows.slot_list_sort ⟨_, there, rfl⟩ PyProof.Rows.entry_list_sort ?body (PyProof.Rows.args_list_sort _)))
  case body =>
    refine wpAny_mono (list_sort_vals (κ := dataKind mid (m.map encA)) (s := { s1 with heap := pre }) (P := fun f s' => f = .done (.ret .none) ∧ s' = { s1 with heap := PyProof.Rows.sortedHeap pre s1.heap.objs.size (m.map refI) res.toArray }) there (by rw [hmid]; exact sat) lim ⟨rfl, by rw [← hres]⟩) (fun f s' hf => ?_) fun _ _ e => e
    obtain ⟨rfl, rfl⟩ := hf
    obtain ⟨c, hc⟩ := PyProof.Rows.sortedHeap_at (vs := m.map refI) (out := res.toArray) there
    generalize hpost : PyProof.Rows.sortedHeap pre s1.heap.objs.size (m.map refI) res.toArray = post at hc
    have postK : ∀ b u, s.heap.get? b = some u → post.get? b = some u := fun b u e => by
      rw [← hpost, PyProof.Rows.sortedHeap_old (wide b u e).1 (Heap.lt_size (wide b u e).2)]
      exact (wide b u e).2
    have pL := (List.mergeSort_perm m (dataLe false encA)).trans pmL
    have asc : ((m.mergeSort (dataLe false encA)).map (·.2)).Pairwise (· ≤ ·) := by
      rw [leA_eq, List.pairwise_map]
      refine (List.pairwise_mergeSort (le := fun p q : Addr × List Int => decide (p.2 ≤ q.2)) (fun a b c h k => ?_) (fun a b => ?_) m).imp fun h => of_decide_eq_true h
      · exact decide_eq_true (leI_trans (of_decide_eq_true h) (of_decide_eq_true k))
      · rw [Bool.or_eq_true, decide_eq_true_iff, decide_eq_true_iff]
        exact leI_total _ _
    have nod : ((m.mergeSort (dataLe false encA)).map (·.2)).Nodup := (pL.map (·.2)).nodup_iff.mpr R.nd
    have nl : (m.mergeSort (dataLe false encA)).length < 64 := pL.length_eq ▸ few
    have out : Vals ((m.mergeSort (dataLe false encA)).map fun q => V.ref q.1) res.toArray.toList := by
      rw [srt]
      exact vals_of_refs _
    have free : H s1.heap.objs.size = none := I.hok.fresh grow
    have inv : Inv X pins σ (upd H s1.heap.objs.size (.lst ((m.mergeSort (dataLe false encA)).map fun q => V.ref q.1))) { s with heap := post, gens := s1.gens, drawn := s1.drawn, toks := s1.toks } :=
      I.call (ch := []) (Un.laid postK grow free) (I.hok.laid postK grow ⟨by rw [List.length_map, sizeLine_eq]; omega, res.toArray.toList, c, out, hc⟩) (by rw [sg]; exact I.bare) (fun _ z => nomatch z)
    have same : ({ s1 with heap := post } : Shared) = { s with heap := post, gens := s1.gens, drawn := s1.drawn, toks := s1.toks } := by
      cases s1
      cases s
      cases so
      rfl
    refine ⟨_, rfl, wpAny_pure ⟨_, rfl, ?_⟩⟩
    rw [same]
    exact ⟨.ref _, _, inv, rfl, goal _ _ pL nl asc nod free⟩
end
end Gd
/-! is an order: in on tuples with data -/
namespace Gd
open PySem PySem.Spec PyProof.Rows L2
section
variable {X : Cx}
def rInT (K : PySem.W.Frag) : R2 := fun x y H Q => ∃ d ds, Dp K H x d ∧ Dp K H y (.tuple ds) ∧ SeqAt.shaped d = true ∧ SeqAt.shaped (.tuple ds) = true ∧ Q (.bl (ds.any fun z => PyData.eqv z d)) H
theorem op_inT (hu : X.A.units + 65 < cLine) : OpR X (compareOp .In) (rInT X.K) := fun pins s σ H x y v u Q I rx ry h => by
  obtain ⟨d, ds, p1, p2, q1, q2, q⟩ := h
  obtain ⟨as, e1⟩ := Dp.reads I d x v p1 rx
  obtain ⟨bs, e2⟩ := Dp.reads I (.tuple ds) y u p2 ry
  exact SeqAt.in_tuple_reads e2 e1 (SeqAt.canLay_of_shaped q2) (SeqAt.canLay_of_shaped q1) (room_in_shaped q1 hu) ⟨.bl _, H, I, rfl, q⟩
end
theorem perm_of_sub {α : Type} : ∀ {l m : List α}, l.Nodup → (∀ x ∈ l, x ∈ m) → l.length = m.length → l.Perm m
  | [], m, _, _, e => by
    have : m = [] := List.eq_nil_of_length_eq_zero e.symm
    rw [this]
  | x :: l, m, nd, sub, e => by
    obtain ⟨s, t, rfl⟩ := List.append_of_mem (sub x (List.mem_cons_self ..))
    have nd' := List.nodup_cons.mp nd
    have h : l.Perm (s ++ t) := perm_of_sub nd'.2 (fun y hy => by
      have m := sub y (List.mem_cons_of_mem _ hy)
      rcases List.mem_append.mp m with m | m
      · exact List.mem_append_left _ m
      · rcases List.mem_cons.mp m with rfl | m
        · exact absurd hy nd'.1
        · exact List.mem_append_right _ m) (by
      rw [List.length_cons, List.length_append, List.length_cons] at e
      rw [List.length_append]
      omega)
    exact (h.cons x).trans List.perm_middle.symm
def unSt : PyData → Str
  | .str z => z
  | _ => ""
/-- each name is among the data -/
def ordB (ns : List Str) (ds : List PyData) : Bool := ns.all fun n => ds.any fun z => PyData.eqv z (.str n)
theorem eqv_st {d : PyData} (h : Pt d) (n : Str) : PyData.eqv d (.str n) = true ↔ d = .str n := by
  cases h <;> rw [PyData.eqv] <;> simp
theorem ordB_iff {ns : List Str} {ds : List PyData} (nd : ns.Nodup) (h : ∀ d ∈ ds, Pt d) (l : ds.length = ns.length) : ordB ns ds = true ↔ ∃ o : List Str, o.Perm ns ∧ ds = encG o := by
  unfold ordB
  rw [List.all_eq_true]
  constructor
  · intro hall
    have sub : ∀ x ∈ encG ns, x ∈ ds := fun x hx => by
      obtain ⟨n, hn, rfl⟩ := List.mem_map.mp hx
      obtain ⟨d, hd, e⟩ := List.any_eq_true.mp (hall n hn)
      rw [(eqv_st (h d hd) n).mp e] at hd
      exact hd
    have nde : (encG ns).Nodup := nd.map _ fun a b hne e => hne (PyData.str.inj e)
    have p : (encG ns).Perm ds := perm_of_sub nde sub (by rw [encG, List.length_map, l])
    have e1 : encG (ds.map unSt) = ds := by
      have : ∀ l : List PyData, (∀ d ∈ l, ∃ n, d = .str n) → encG (l.map unSt) = l := by
        intro l
        induction l with
        | nil => intro _; rfl
        | cons d r ih =>
          intro hl
          obtain ⟨n, rfl⟩ := hl d (List.mem_cons_self ..)
          show PyData.str n :: encG (r.map unSt) = _
          rw [ih fun e m => hl e (List.mem_cons_of_mem _ m)]
      refine this ds fun d hd => ?_
      obtain ⟨n, _, e⟩ := List.mem_map.mp (p.mem_iff.mpr hd)
      exact ⟨n, e.symm⟩
    refine ⟨ds.map unSt, ?_, e1.symm⟩
    have q := (p.symm.map unSt)
    have e2 : (encG ns).map unSt = ns := by
      unfold encG
      rw [List.map_map]
      exact List.map_id' ns
    rw [e2] at q
    exact q
  · rintro ⟨o, p, rfl⟩ n hn
    refine List.any_eq_true.mpr ⟨.str n, List.mem_map.mpr ⟨n, p.mem_iff.mpr hn, rfl⟩, ?_⟩
    rw [PyData.eqv]
    simp
/-- repr(value) in the reprs of the orders -/
theorem shown_ord {os : List Grp} {d : PyData} {b : Bool} (ok : ∀ o ∈ os, ∀ n ∈ o, NmS n) (h : Sh d) (hb : b = true ↔ ∃ o ∈ os, d = .tuple (encG o)) : inV (.str d.shown) (os.map fun o => V.str (PyData.tuple (encG o)).shown) = b := by
  have e : (os.map fun o => V.str (PyData.tuple (encG o)).shown) = (os.map fun o => (PyData.tuple (encG o)).shown).map V.str := by
    rw [List.map_map]
    rfl
  rw [e, inV_names, Bool.eq_iff_iff, decide_eq_true_iff, hb, List.mem_map]
  constructor
  · rintro ⟨o, m, q⟩
    exact ⟨o, m, (shown_inj (.tuple _ (sh_grp (ok o m))) h q).symm⟩
  · rintro ⟨o, m, rfl⟩
    exact ⟨o, m, rfl⟩
theorem parts_shaped {ds : List PyData} (h : ∀ d ∈ ds, Pt d) : SeqAt.shaped (.tuple ds) = true := by
  obtain ⟨b1, b2, b3, b4, b5, b6, b7⟩ := parts_facts h
  unfold SeqAt.shaped
  show (PyData.canLayAll0 _ && decide (PyData.depthAll _ + 1 ≤ 64)) = true
  rw [b5, decide_eq_true (by omega)]
  rfl
theorem str_shaped {z : Str} (h : NmS z) : SeqAt.shaped (.str z) = true := by
  unfold SeqAt.shaped
  show (PyData.strOk z && decide (0 ≤ 64)) = true
  rw [nms_ok h]
  rfl
end Gd
/-! the tests that break, as the law lists them -/
namespace Gd
open PySem PySem.Spec PyProof.Rows L2
instance (W : Grp → Int) (g : Grp) (n m : Str) : Decidable (BrP W g n m) := by
  unfold BrP
  infer_instance
def brFor (ns : List Str) (W : Grp → Int) (g : Grp) (n : Str) : List Tri := (((restOf ns g).filter fun m => decide (m ≠ n)).filter fun m => decide (BrP W g n m)).map fun m => (g, n, m)
def brG (ns : List Str) (W : Grp → Int) (g : Grp) : List Tri := (restOf ns g).flatMap (brFor ns W g)
def brAll (ns : List Str) (W : Grp → Int) : List Tri := (groupsOf ns).flatMap (brG ns W)
theorem mem_brAll {ns : List Str} {W : Grp → Int} {t : Tri} : t ∈ brAll ns W ↔ t.1 ∈ groupsOf ns ∧ t.2.1 ∈ ns ∧ t.2.2 ∈ ns ∧ t.2.1 ∉ t.1 ∧ t.2.2 ∉ t.1 ∧ t.2.1 ≠ t.2.2 ∧ BrP W t.1 t.2.1 t.2.2 := by
  obtain ⟨g, n, m⟩ := t
  unfold brAll brG brFor restOf
  simp only [List.mem_flatMap, List.mem_map, List.mem_filter, decide_eq_true_eq]
  constructor
  · rintro ⟨g', hg, n', ⟨hn, ng⟩, m', ⟨⟨⟨hm, mg⟩, ne⟩, b⟩, e⟩
    cases e
    exact ⟨hg, hn, hm, ng, mg, fun z => ne z.symm, b⟩
  · rintro ⟨hg, hn, hm, ng, mg, ne, b⟩
    exact ⟨g, hg, n, ⟨hn, ng⟩, m, ⟨⟨⟨hm, mg⟩, fun z => ne z.symm⟩, b⟩, rfl⟩
/-- none breaks exactly if the game is growing -/
theorem brAll_nil {ns : List Str} {W : Grp → Int} (h : ns.Pairwise ltS) : brAll ns W = [] ↔ Smod ns W := by
  rw [smod_iff h]
  constructor
  · intro e g hg n hn m hm ng mg ne b
    have : (g, n, m) ∈ brAll ns W := mem_brAll.mpr ⟨hg, hn, hm, ng, mg, ne, b⟩
    rw [e] at this
    exact absurd this List.not_mem_nil
  · intro k
    rw [List.eq_nil_iff_forall_not_mem]
    intro t m
    obtain ⟨a, b, c, d, e, f, g⟩ := mem_brAll.mp m
    exact k _ a _ b _ c d e f g
theorem brFor_len {ns : List Str} {W : Grp → Int} {g : Grp} {n : Str} (h : ns.length ≤ 5) : (brFor ns W g n).length ≤ 5 := by
  unfold brFor restOf
  rw [List.length_map]
  exact Nat.le_trans (List.length_filter_le _ _) (Nat.le_trans (List.length_filter_le _ _) (Nat.le_trans (List.length_filter_le _ _) h))
theorem brG_len {ns : List Str} {W : Grp → Int} {g : Grp} (h : ns.length ≤ 5) : ∀ l : List Str, l.length ≤ 5 → (l.flatMap (brFor ns W g)).length ≤ 25 := fun l hl => by
  have := flat_len (brFor ns W g) 5 l fun n _ => brFor_len h
  omega
theorem br_ok {ns : List Str} {W : Grp → Int} (h : Nms 5 ns) : ∀ t ∈ brAll ns W, TrOk t := fun t m => by
  obtain ⟨hg, hn, hm, _⟩ := mem_brAll.mp m
  have sub := (groups_mem.mp hg).subset
  have n5 := h.most
  have gl := (groups_mem.mp hg).length_le
  exact ⟨by omega, fun n q => name_nms (h.nm n (sub q)), name_nms (h.nm _ hn), name_nms (h.nm _ hm)⟩
/-- with one more it is a group -/
theorem with_in {ns : List Str} {g : Grp} {n : Str} (h : ns.Pairwise ltS) (hg : g ∈ groupsOf ns) (hn : n ∈ ns) (ng : n ∉ g) : sortN (g ++ [n]) ∈ groupsOf ns := by
  have sub := (groups_mem.mp hg)
  have gn : g.Nodup := (asc_nodup h).sublist sub
  refine sortN_in h (List.nodup_append.mpr ⟨gn, by simp, fun a ha b hb e => ng (by rw [← List.mem_singleton.mp hb, ← e]; exact ha)⟩) fun m hm => ?_
  rcases List.mem_append.mp hm with q | q
  · exact sub.subset q
  · rw [List.mem_singleton.mp q]
    exact hn
end Gd
namespace Gd
open PySem PySem.Spec PyProof.Rows L2
theorem grow_iff {ns : List Str} {W : Grp → Int} (h : ns.Pairwise ltS) (z : W [] = 0) : Smod ns W ↔ ∀ g ∈ groupsOf ns, ∀ os : List Str, os.Perm ns → W g ≤ shareOf ns (ns.map (payC W os)) g := by
  constructor
  · exact fun sm g hg os p => smod_pays h z sm p hg
  · intro k
    rw [smod_iff h]
    intro g hg n hn m hm ng mg ne b
    obtain ⟨os, p, i, lt⟩ := broken_pay h z hg hn hm ng mg ne b
    have := k _ i os p
    omega
theorem inV_ints (n : Int) (g : List Int) : inV (.int n) (g.map V.int) = decide (n ∈ g) := by
  unfold inV
  rw [List.any_map, Bool.eq_iff_iff, decide_eq_true_iff, List.any_eq_true]
  constructor
  · rintro ⟨x, hx, e⟩
    have : x = n := by simpa [eqV] using e
    rw [← this]
    exact hx
  · exact fun h => ⟨n, h, by simp [eqV]⟩
theorem flat_ints (g : List Int) : (g.map V.int).all flatV = true := by
  rw [List.all_map, List.all_eq_true]
  intro _ _
  rfl
theorem shaped_lgrps {gs : List Grp} (h : ∀ g ∈ gs, ∀ n ∈ g, ∀ c ∈ n.cps.toList, c < 1114112) : SeqAt.shaped (.list (gs.map fun h => PyData.tuple (encG h))) = true := shaped_grps h
end Gd
/-! a game with one pay alone has no gaps -/
namespace Gd
open PySem PySem.Spec PyProof.Rows L2
theorem two_nodup {ns : List Str} {g : Grp} {n m : Str} (h : ns.Pairwise ltS) (hg : g ∈ groupsOf ns) (ng : n ∉ g) (mg : m ∉ g) (ne : n ≠ m) : (g ++ [n, m]).Nodup :=
  List.nodup_append.mpr ⟨(asc_nodup h).sublist (groups_mem.mp hg), by simp [ne], fun a ha c hc e => by
    subst e
    simp only [List.mem_cons, List.not_mem_nil, or_false] at hc
    rcases hc with rfl | rfl
    · exact ng ha
    · exact mg ha⟩
theorem two_perm {ns : List Str} {g : Grp} {n m : Str} (h : ns.Pairwise ltS) (hg : g ∈ groupsOf ns) (hn : n ∈ ns) (hm : m ∈ ns) (ng : n ∉ g) (mg : m ∉ g) (ne : n ≠ m) :
    (g ++ [n, m] ++ ns.filter fun x => decide (x ∉ g ++ [n, m])).Perm ns := by
  have nd := asc_nodup h
  have q := List.filter_append_perm (fun x => decide (x ∈ g ++ [n, m])) ns
  have e1 : (ns.filter fun x => !decide (x ∈ g ++ [n, m])) = ns.filter fun x => decide (x ∉ g ++ [n, m]) := List.filter_congr fun x _ => by simp
  have e2 : (g ++ [n, m]).Perm (ns.filter fun x => decide (x ∈ g ++ [n, m])) := (List.perm_ext_iff_of_nodup (two_nodup h hg ng mg ne) (nd.filter _)).mpr fun x => by
    rw [List.mem_filter, decide_eq_true_iff]
    refine ⟨fun q => ⟨?_, q⟩, fun q => q.2⟩
    rcases List.mem_append.mp q with q | q
    · exact (groups_mem.mp hg).subset q
    · simp only [List.mem_cons, List.not_mem_nil, or_false] at q
      rcases q with rfl | rfl
      · exact hn
      · exact hm
  rw [e1] at q
  exact (e2.append_right _).trans q
theorem one_pay {ns : List Str} {W : Grp → Int} (h : ns.Pairwise ltS) (one : ∀ os os' : List Str, os.Perm ns → os'.Perm ns → ns.map (payC W os) = ns.map (payC W os')) {t : Tri} (ht : t ∈ trisOf ns) : gapOf W t = 0 := by
  obtain ⟨g, n, m⟩ := t
  obtain ⟨hg, hn, hm, lt, ng, mg⟩ := (mem_tris h).mp ht
  have hg : g ∈ groupsOf ns := hg
  have hn : n ∈ ns := hn
  have hm : m ∈ ns := hm
  have ng : n ∉ g := ng
  have mg : m ∉ g := mg
  have ne : n ≠ m := fun e => by
    have lt : ltS n m := lt
    exact ltS_ne lt e
  have p1 := two_perm h hg hn hm ng mg ne
  have p2 := two_perm h hg hm hn mg ng (Ne.symm ne)
  generalize ns.filter (fun x => decide (x ∉ g ++ [n, m])) = r1 at p1
  generalize ns.filter (fun x => decide (x ∉ g ++ [m, n])) = r2 at p2
  have e := List.map_inj_left.mp (one _ _ p1 p2) n hn
  have nd := asc_nodup h
  have a1 : (g ++ [n, m] ++ r1)[g.length]? = some n := by simp
  have a2 : (g ++ [m, n] ++ r2)[g.length + 1]? = some n := by simp
  rw [payC_at (p1.nodup_iff.mpr nd) a1, payC_at (p2.nodup_iff.mpr nd) a2] at e
  have t1 : (g ++ [n, m] ++ r1).take (g.length + 1) = g ++ [n] := by
    rw [show g ++ [n, m] ++ r1 = (g ++ [n]) ++ (m :: r1) by simp]
    exact List.take_left' (by simp)
  have t2 : (g ++ [n, m] ++ r1).take g.length = g := by
    rw [List.append_assoc]
    exact List.take_left' rfl
  have t3 : (g ++ [m, n] ++ r2).take (g.length + 1 + 1) = g ++ [m, n] := List.take_left' (by simp)
  have t4 : (g ++ [m, n] ++ r2).take (g.length + 1) = g ++ [m] := by
    rw [show g ++ [m, n] ++ r2 = (g ++ [m]) ++ (n :: r2) by simp]
    exact List.take_left' (by simp)
  rw [t1, t2, t3, t4, sortN_self h hg] at e
  have sw : sortN (g ++ [m, n]) = sortN (g ++ [n, m]) := sort_perm_asc (((List.Perm.swap n m []).append_left g).trans (List.mergeSort_perm _ _).symm) (sort_asc (two_nodup h hg ng mg ne))
  rw [sw] at e
  unfold gapOf
  show W (sortN (g ++ [n, m])) + W g - W (sortN (g ++ [n])) - W (sortN (g ++ [m])) = 0
  omega
end Gd
set_option maxHeartbeats 1000000
/-! zip of a list and a tuple, in either order -/
namespace Gd
open PySem PySem.Spec PyProof.Rows L2
open PySem.Sem (wp)
/-- a list (false) or a tuple (true) stands at a -/
def Sx (K : PySem.W.Frag) : Bool → Hp → Addr → List V → Prop
  | false => SqL K
  | true => SqT K
def itAt : Bool → Heap → Addr → Addr → Nat → Prop
  | false => Heap.IsListIter
  | true => Heap.IsTupleIter
def isAt : Bool → Heap → Addr → Array Value → Prop
  | false => Heap.IsList
  | true => Heap.IsTuple
def itObj (t : Bool) (a : Addr) : Obj := { cls := .type (if t then "tuple_iterator" else "list_iterator"), data := .fields #[.ref a, .int 0 0] }
theorem draws_x (t : Bool) {prog : Program} {w : World} {A : Around} (hh : A.handled = none) (it a : Addr) (ne : a ≠ it) (items : Array Value) :
    Draws prog w A it [it, a] items.size (fun i v => items[i]? = some v) (fun i h => itAt t h it a i ∧ isAt t h a items) := by
  cases t
  · exact Draws.list hh it a ne items
  · exact Draws.tuple hh it a ne items
theorem begins_x (t : Bool) (a : Addr) (items : Array Value) : Begins (.ref a) (itObj t a) fun h => isAt t h a items := by
  cases t
  · exact begins_list a items
  · exact begins_tuple a items
theorem itAt_new (t : Bool) {h : Heap} {it a : Addr} (e : h.get? it = some (itObj t a)) : itAt t h it a 0 := by
  cases t <;> exact ⟨_, e, rfl, rfl⟩
theorem itAt_obj (t : Bool) {h : Heap} {it a : Addr} {i : Nat} (x : itAt t h it a i) : ∃ o, h.get? it = some o ∧ ∀ v, o.data ≠ .cell v := by
  cases t <;> (obtain ⟨o, e, _, d⟩ := x; exact ⟨o, e, fun v q => by rw [d] at q; cases q⟩)
theorem itAt_keep (t : Bool) {h h' : Heap} {it a : Addr} {i : Nat} (x : itAt t h it a i) (k : ∀ o, h.get? it = some o → h'.get? it = some o) : itAt t h' it a i := by
  cases t <;> exact x.at k
theorem sx_get (t : Bool) {X : Cx} {pins : List (Addr × Obj)} {σ : L2.St} {H : Hp} {s : Shared} {a : Addr} {xs : List V} (I : Inv X pins σ H s) (h : Sx X.K t H a xs) :
    ∃ its : List Value, Vals xs its ∧ isAt t s.heap a its.toArray ∧ a < s.heap.objs.size := by
  cases t
  · obtain ⟨its, rv, p, _⟩ := I.list h
    exact ⟨its, rv, p.isList, p.lt⟩
  · obtain ⟨its, rv, p, _⟩ := I.tuple h
    obtain ⟨o, ho, _⟩ := id p
    exact ⟨its, rv, p, Heap.lt_size ho⟩
theorem sx_inj (t : Bool) {X : Cx} {pins : List (Addr × Obj)} {σ : L2.St} {H : Hp} {s : Shared} {a : Addr} {xs ys : List V} (I : Inv X pins σ H s) (h : Sx X.K t H a xs) (h' : Sx X.K t H a ys) : xs = ys := by
  cases t
  · exact I.list_inj h h'
  · exact I.tuple_inj h h'
/-- what stands at a and b, item by item in new pairs -/
def ItX (K : PySem.W.Frag) (t u : Bool) (a b : Addr) : It :=
  ⟨fun i H => ∃ (xs ys : List V), Sx K t H a xs ∧ Sx K u H b ys ∧ i < min xs.length ys.length,
    fun i H v H' => ∃ T x y, v = .ref T ∧ H T = none ∧ H' = upd H T (.tup [x, y]) ∧ (∀ xs, Sx K t H a xs → xs[i]? = some x) ∧ ∀ ys, Sx K u H b ys → ys[i]? = some y,
    fun i H => ∃ xs ys : List V, Sx K t H a xs ∧ Sx K u H b ys ∧ i = min xs.length ys.length⟩
theorem turn_zipX {P : Program} {w : World} {K : PySem.W.Frag} {elts : List Expr} {kk : Nat} {tpos : Pos} {t u : Bool} {a b z TI TO i1 i2 : Addr} (D : ZipSep2 z TI TO i1 i2 [i1, a] [i2, b]) (na : a ≠ i1) (nb : b ≠ i2) :
    Turn P w K (.Tuple elts kk tpos) (ItX K t u a b) [z, TI, TO, i1, i2] z (fun i h => IsZip h z TI TO .none ∧ IsTupOf2 h TI (.ref i1) (.ref i2) ∧ (∃ x y, IsTupOf2 h TO x y) ∧ itAt t h i1 a i ∧ itAt u h i2 b i) where
  mem := by simp
  obj := fun i h st c hc => by
    obtain ⟨hz, hTI, ⟨x, y, hTO⟩, h1, h2⟩ := st
    have e' : c = z ∨ c = TI ∨ c = TO ∨ c = i1 ∨ c = i2 := by simpa using hc
    rcases e' with rfl | rfl | rfl | rfl | rfl
    · exact ⟨_, hz, fun v q => nomatch q⟩
    · exact ⟨_, hTI, fun v q => nomatch q⟩
    · exact ⟨_, hTO, fun v q => nomatch q⟩
    · exact itAt_obj t h1
    · exact itAt_obj u h2
  keep := fun i h h' st k => by
    obtain ⟨hz, hTI, ⟨x, y, hTO⟩, h1, h2⟩ := st
    exact ⟨k z (by simp) _ hz, k TI (by simp) _ hTI, ⟨x, y, k TO (by simp) _ hTO⟩, itAt_keep t h1 fun o q => k i1 (by simp) o q, itAt_keep u h2 fun o q => k i2 (by simp) o q⟩
  item := by
    intro X hP hw hK hc i pins s σ H E I hf st hg
    subst hP hw hK
    obtain ⟨hz, hTI, hTO, h1, h2⟩ := st
    obtain ⟨xs, ys, hqx, hqy, hlt⟩ := hg
    obtain ⟨its, rv, p, _⟩ := sx_get t I hqx
    obtain ⟨jts, rw', p2, _⟩ := sx_get u I hqy
    have l1 := rv.length
    have l2 := rw'.length
    have hd : X.A.in1.handled = none := I.ok.hd hc
    have W := WalksT.zipD2 D (draws_x (prog := X.prog) (w := X.w) t hd i1 a na its.toArray) (draws_x (prog := X.prog) (w := X.w) u hd i2 b nb jts.toArray)
    refine W.item i s _ E (by simp; omega) ⟨hz, hTI, hTO, ⟨h1, p⟩, ⟨h2, p2⟩⟩ fun T vals h' tk hP hT hIs hMid hk => ⟨.ref T, rfl, W.go elts kk tpos i T _ _ _ hMid fun h'' st'' hk'' => ?_⟩
    obtain ⟨v1, v2, e1, e2, rfl⟩ := hP
    obtain ⟨z'', TI'', TO'', ⟨h1'', _⟩, ⟨h2'', _⟩⟩ := st''
    have e1 : its[i]? = some v1 := by simpa using e1
    have e2 : jts[i]? = some v2 := by simpa using e2
    obtain ⟨x, hx⟩ : ∃ x, xs[i]? = some x := ⟨_, List.getElem?_eq_getElem (by omega)⟩
    obtain ⟨y, hy⟩ : ∃ y, ys[i]? = some y := ⟨_, List.getElem?_eq_getElem (by omega)⟩
    obtain ⟨v1', e1', r1⟩ := rv.get hx
    obtain ⟨v2', e2', r2⟩ := rw'.get hy
    obtain rfl : v1' = v1 := Option.some.inj (e1'.symm.trans e1)
    obtain rfl : v2' = v2 := Option.some.inj (e2'.symm.trans e2)
    have nT := W.apart i T h' hMid
    obtain ⟨ot, ht, hct, nt, hdt⟩ := hIs
    have new : ObjOk X.prog X.w (upd H T (.tup [x, y])) h'' T (.tup [x, y]) :=
      ⟨by show 2 ≤ sizeLine; decide, [v1', v2'], .cons r1 (.cons r2 .nil), ⟨ot, hk'' T ot nT ht, hct, nt, hdt⟩⟩
    have sub : ∀ c, c ∉ [z, TI, TO, i1, i2] → c ∉ [z, TO, i1, i2] := fun c n m => n (by
      have e' : c = z ∨ c = TO ∨ c = i1 ∨ c = i2 := by simpa using m
      rcases e' with q | q | q | q <;> simp [q])
    have I1 : Inv X pins σ (upd H T (.tup [x, y])) { s with heap := h'', toks := tk } :=
      I.turnedNew (t' := tk) (ch := [z, TI, TO, i1, i2]) (fun c o hb q => hk'' c o (sub c hb) (hk c o (sub c hb) q)) hf hT new
    refine ⟨.ref T, _, I1, rfl, ⟨T, x, y, rfl, I.hok.fresh hT, rfl, fun l hl => by rw [sx_inj t I hl hqx]; exact hx, fun l hl => by rw [sx_inj u I hl hqy]; exact hy⟩, ⟨z'', TI'', TO'', h1'', h2''⟩, fun c hcm => ?_⟩
    have hlt' : c < s.heap.objs.size := by
      obtain ⟨x0, y0, hTO⟩ := hTO
      have e' : c = z ∨ c = TI ∨ c = TO ∨ c = i1 ∨ c = i2 := by simpa using hcm
      rcases e' with rfl | rfl | rfl | rfl | rfl
      · exact Heap.lt_size hz
      · exact Heap.lt_size hTI
      · exact Heap.lt_size hTO
      · obtain ⟨_, e, _⟩ := itAt_obj t h1
        exact Heap.lt_size e
      · obtain ⟨_, e, _⟩ := itAt_obj u h2
        exact Heap.lt_size e
    rw [upd_ne (Nat.ne_of_lt (Nat.lt_of_lt_of_le hlt' hT))]
    exact (hf c hcm).1
  done := by
    intro X hP hw hK hc i pins s σ H E I hf st hg
    subst hP hw hK
    obtain ⟨hz, hTI, hTO, h1, h2⟩ := st
    obtain ⟨xs, ys, hqx, hqy, he⟩ := hg
    obtain ⟨its, rv, p, _⟩ := sx_get t I hqx
    obtain ⟨jts, rw', p2, _⟩ := sx_get u I hqy
    have l1 := rv.length
    have l2 := rw'.length
    have hd : X.A.in1.handled = none := I.ok.hd hc
    have W := WalksT.zipD2 D (draws_x (prog := X.prog) (w := X.w) t hd i1 a na its.toArray) (draws_x (prog := X.prog) (w := X.w) u hd i2 b nb jts.toArray)
    have en : min its.toArray.size jts.toArray.size = i := by simp; omega
    refine W.done s _ E (by rw [en]; exact ⟨hz, hTI, hTO, ⟨h1, p⟩, ⟨h2, p2⟩⟩) fun h' tk hk => ⟨rfl, I.turnedL (t' := tk) (ch := [z, TI, TO, i1, i2]) (fun c o hb q => hk c o (fun m => hb ?_) q) hf⟩
    have e' : c = z ∨ c = TO ∨ c = i1 ∨ c = i2 := by simpa using m
    rcases e' with q | q | q | q <;> simp [q]
  self := fun A i s Q E st h => wpAny_pyIter_zip st.1 h
/-- zip(x, y): one of them a list, the other a tuple, or as it comes -/
def iZipX (K : PySem.W.Frag) (t u : Bool) (ta : TA) : TI := fun σ H R => ta σ H fun vs H1 => ∃ a b xs ys, vs = [.ref a, .ref b] ∧ Sx K t H1 a xs ∧ Sx K u H1 b ys ∧ R (ItX K t u a b) H1
theorem pi_zipX {X : Cx} (t u : Bool) {e e2 : Expr} {ta : TA} {p pos tpos : Pos} {elts : List Expr} {kk : Nat} (hg : Gl X "zip") (hm : X.mg "zip" = none) (ha : PA X [e, e2] ta)
    (hs : starEach [e, e2] X.env = (false, eval e X.env) :: starEach [e2] X.env := by rfl) (hpl : (backTo pos (starEach [e2] X.env)).any (·.1) = false := by rfl) :
    PI X (.Tuple elts kk tpos) (.Call (.Name "zip" p) [e, e2] [] pos) (iZipX X.K t u ta) := by
  refine ⟨fun pins s σ H R I h => ?_⟩
  refine Call_ (ld_blt I hg hm PyProof.Rows.boot_zip (PyProof.Rows.callWith_type1 (thn (ha.run pos pins s σ H _ I h) fun us s1 ⟨vs, H1, I1, r1, q1⟩ => ?_) hs hpl))
  obtain ⟨a, b, xs, ys, rfl, hqx, hqy, q⟩ := q1
  cases r1 with
  | cons r rr =>
    cases rr with
    | cons r' rr =>
      cases rr
      cases r
      cases r'
      obtain ⟨its, rv, p1, la⟩ := sx_get t I1 hqx
      obtain ⟨jts, rw', p2, lb⟩ := sx_get u I1 hqy
      refine zip_begins2 (begins_x t a its.toArray) (begins_x u b jts.toArray) p1 p2 fun h' hz hTI hTO h1 h2 hsz hk => wpAny_pyIter_zip hz ?_
      have I2 : Inv X pins σ H1 { s1 with heap := h' } := I1.kept (t' := s1.toks) hk
      have sep := zip_sep2 (N := s1.heap.objs.size) (fp1 := [a]) (fp2 := [b]) (fun c m => by rw [List.mem_singleton.mp m]; exact la) (fun c m => by rw [List.mem_singleton.mp m]; exact lb)
      refine ⟨s1.heap.objs.size + 4, [s1.heap.objs.size + 4, s1.heap.objs.size + 2, s1.heap.objs.size + 3, s1.heap.objs.size, s1.heap.objs.size + 1], _, _, H1, rfl, I2,
        turn_zipX (t := t) (u := u) sep (Nat.ne_of_lt la) (Nat.ne_of_lt (Nat.lt_succ_of_lt lb)), ⟨hz, hTI, ⟨_, _, hTO⟩, itAt_new t h1, itAt_new u h2⟩, fun c hcm => ?_, q⟩
      have hle : s1.heap.objs.size ≤ c := by
        have e' : c = s1.heap.objs.size + 4 ∨ c = s1.heap.objs.size + 2 ∨ c = s1.heap.objs.size + 3 ∨ c = s1.heap.objs.size ∨ c = s1.heap.objs.size + 1 := by simpa using hcm
        rcases e' with e' | e' | e' | e' | e' <;> rw [e'] <;> first | exact Nat.le_add_right _ _ | exact Nat.le_refl _
      exact I1.fpOk hle (I1.hok.fresh hle)
theorem walk_zX {K : PySem.W.Frag} {t u : Bool} {a b : Addr} {xs ys : List V} {n : Nat} (hn : n = min xs.length ys.length) :
    Walk (ItX K t u a b) n (fun H => Sx K t H a xs ∧ Sx K u H b ys) (fun i H v H' => ∃ T x y, v = .ref T ∧ H T = none ∧ H' = upd H T (.tup [x, y]) ∧ xs[i]? = some x ∧ ys[i]? = some y) := by
  subst hn
  refine ⟨fun i H hi q => ⟨xs, ys, q.1, q.2, hi⟩, fun H q => ⟨xs, ys, q.1, q.2, rfl⟩, fun i H v H' _ q y => ?_⟩
  obtain ⟨T, x, y, h1, h2, h3, h4, h5⟩ := y
  exact ⟨T, x, y, h1, h2, h3, h4 xs q.1, h5 ys q.2⟩
end Gd
set_option maxHeartbeats 1000000
/-! list comprehensions of any number of for clauses -/
namespace Gd
open PySem PySem.Spec PyProof.Rows L2
open PySem.Sem (wp)
/-- a turn of a clause, what follows its tests given -/
def turnBy (tg iter : Expr) (ifs : List Expr) (it : Value) (env : Env) (goOn : Sem Fin) (nxt : Sem Fin) : Sem Fin := do
  standAt iter.pos
  match ← pyNext it with
  | none => pure (.done .next)
  | some v =>
    letOwnedTupleGo tg it v
    assign tg env v
    let ok ← forIn ifs true fun t r => if r = true then do let b ← isTrue t env (eval t env); pure (ForInStep.yield b) else pure (ForInStep.yield r)
    if ok = true then goOn else nxt
theorem turn_last {elt tg iter : Expr} {ifs : List Expr} {gens : List Comprehension} {scope : Scope} {pos : Pos} {d : Nat} {it acc : Value} {env : Env} (hg : gens[d]? = some ⟨tg, iter, ifs, 0⟩) (hn : gens[d + 1]? = none) :
    compTurn (.ListComp elt gens scope pos) d it acc env = turnBy tg iter ifs it env
      (do (do let y ← eval elt env
              let _ ← call (.builtin "list.append") [acc, y] : Sem Unit)
          again (.compLoop (.ListComp elt gens scope pos) d it acc env)) (again (.compLoop (.ListComp elt gens scope pos) d it acc env)) := by
  unfold compTurn turnBy
  simp only [hg, hn]
  rfl
theorem turn_more {elt tg iter tg1 iter1 : Expr} {ifs ifs1 : List Expr} {gens : List Comprehension} {scope : Scope} {pos : Pos} {d : Nat} {it acc : Value} {env : Env} (hg : gens[d]? = some ⟨tg, iter, ifs, 0⟩) (hn : gens[d + 1]? = some ⟨tg1, iter1, ifs1, 0⟩) :
    compTurn (.ListComp elt gens scope pos) d it acc env = turnBy tg iter ifs it env
      (do let x ← eval iter1 env
          standAt iter1.pos
          let y ← foldedSetIterable iter1 env x
          let o ← holding [y] (pyIter y)
          let _ ← runOwn (.compStart (.ListComp elt gens scope pos) (d + 1) o acc env) env
          again (.compLoop (.ListComp elt gens scope pos) d it acc env)) (again (.compLoop (.ListComp elt gens scope pos) d it acc env)) := by
  unfold compTurn turnBy
  simp only [hg, hn]
  rfl
section
variable {prog : Program} {w : World} {A : Around} {elt : Expr} {gens : List Comprehension} {scope : Scope} {pos : Pos} {it acc : Value} {env : Env} {d : Nat} {s : Shared}
/-- a loop in which nothing is raised ends where G stands -/
def Ends0 (G : Shared → Prop) : Result → Shared → Prop := fun r s' => match r with
  | .ok _ => G s'
  | .error _ => False
/-- a clause's loop, when no turn raises; M is what holds behind the tests of a turn that passes them -/
theorem loop_by {tg iter : Expr} {ifs : List Expr} {goOn : Sem Fin} {G : Shared → Prop} (hT : compTurn (.ListComp elt gens scope pos) d it acc env = turnBy tg iter ifs it env goOn (again (.compLoop (.ListComp elt gens scope pos) d it acc env)))
    (I : Nat → Shared → Prop)
    (turn : ∀ n s, I n s → wpAny (model prog w) A (pyNext it) (fun r s1 => match r with
      | none => G s1
      | some v => wpAny (model prog w) A (letOwnedTupleGo tg it v) (fun _ s2 => wpAny (model prog w) A (assign tg env v) (fun _ s3 =>
          wpAny (model prog w) A (forIn ifs true fun t r => if r = true then do let b ← isTrue t env (eval t env); pure (ForInStep.yield b) else pure (ForInStep.yield r))
            (fun b s4 => if b = true then wpAny (model prog w) A goOn (fun f s5 => f = .again (.compLoop (.ListComp elt gens scope pos) d it acc env) ∧ ∃ m, m < n ∧ I m s5) (fun _ _ => False) s4 else ∃ m, m < n ∧ I m s4) (fun _ _ => False) s3) (fun _ _ => False) s2) (fun _ _ => False) s1) (fun _ _ => False) s)
    (n : Nat) (h : I n s) : codeAny (model prog w) A (.compLoop (.ListComp elt gens scope pos) d it acc env) (Ends0 G) s := by
  refine codeAny_loop rfl I (fun n s hI => ?_) n h
  show wpAny _ A ((compTurn (.ListComp elt gens scope pos) d it acc env).onRaise (fun x => do noteFrame x env; theTreesLotGoes x)) _ _ s
  refine wpAny_noted (wpAny_mono (E := fun _ _ => False) ?_ (fun _ _ q => q) fun _ _ z => z.elim)
  rw [hT]
  refine wpAny_bind (wpAny_standAt (wpAny_bind (wpAny_mono (turn n s hI) (fun r s1 h1 => ?_) fun _ _ z => z)))
  cases r with
  | none => exact wpAny_pure h1
  | some v =>
    refine wpAny_bind (wpAny_mono h1 (fun _ s2 h2 => wpAny_bind (wpAny_mono h2 (fun _ s3 h3 => wpAny_bind (wpAny_mono h3 (fun b s4 h4 => ?_) fun _ _ z => z)) fun _ _ z => z)) fun _ _ z => z)
    cases b with
    | false => exact wpAny_pure ⟨rfl, h4⟩
    | true =>
      refine wpAny_mono h4 (fun f s5 h5 => ?_) fun _ _ z => z
      obtain ⟨rfl, h5⟩ := h5
      exact ⟨rfl, h5⟩
/-- an inner clause begins -/
theorem start_by {tg iter : Expr} {ifs : List Expr} {G : Shared → Prop} (hg : gens[d]? = some ⟨tg, iter, ifs, 0⟩) (h0 : codeAny (model prog w) A (.compLoop (.ListComp elt gens scope pos) d it acc env) (Ends0 G) s)
    (h : wpAny (model prog w) A (pyIter it) (fun o s' => codeAny (model prog w) A (.compLoop (.ListComp elt gens scope pos) d o acc env) (Ends0 G) s') (fun _ _ => False) s) :
    codeAny (model prog w) A (.compStart (.ListComp elt gens scope pos) d it acc env) (Ends0 G) s := by
  refine codeAny_of_tree ?_
  show wpAny _ _ ((compStart (.ListComp elt gens scope pos) d it acc env).onRaise (fun x => do noteFrame x env; standAt theWindowsPlace)) _ _ s
  refine wpAny_notedAt (wpAny_mono (E := fun _ _ => False) ?_ (fun _ _ q => q) fun _ _ z => z.elim)
  unfold compStart
  show wpAny _ _ (if ((gens[d]?).elim false (·.is_async != 0)) = true then _ else _) _ _ s
  rw [hg]
  show wpAny _ _ (ask >>= _) _ _ s
  refine wpAny_bind (wpAny_askSetting (wpAny_ite ?_))
  split
  · exact wpAny_bind (wpAny_pure (wpAny_pure ⟨rfl, h0⟩))
  · refine wpAny_bind (wpAny_rule ?_)
    rw [show (clausesOf (.ListComp elt gens scope pos))[d]? = some ⟨tg, iter, ifs, 0⟩ from hg]
    exact wpAny_bind (wpAny_standAt (wpAny_bind (wpAny_mono h (fun o s' h' => wpAny_pure ⟨rfl, h'⟩) fun _ _ z => z)))
end
/-! ### the layer's words -/
/-- a loop over what J tells, Body a turn -/
@[reducible] def inC (J : It) (Body : V → Hp → (Hp → Prop) → Prop) (H : Hp) (Nx : Hp → Prop) : Prop := ∃ W : Nat → Nat → Hp → Prop, (∃ m, W 0 m H) ∧ ∀ i m H, W i m H →
  (J.stop i H ∧ Nx H) ∨ (J.go i H ∧ ∃ N1 : Hp → Prop, (∀ H', N1 H' → ∃ m', m' < m ∧ W (i + 1) m' H') ∧ ∀ x H', J.yld i H x H' → Body x H' N1)
/-- a for clause, read; vs: the slots of its target and of all later clauses' -/
structure Cls where
  tg : Expr
  iter : Expr
  ifs : List Expr
  wi : TI
  g : TG
  tt : TT
  vs : List Nat
def Cls.comp (c : Cls) : Comprehension := ⟨c.tg, c.iter, c.ifs, 0⟩
structure ClsOk (X : Cx) (c : Cls) : Prop where
  pi : PI X c.tg c.iter c.wi
  pg : PG X c.tg c.g
  pt : PTs X c.ifs c.tt
  fold : ∀ env x, foldedSetIterable c.iter env x = pure x
/-- one turn of a clause, then what follows -/
def turnC (g : TG) (tt : TT) (vs : List Nat) (σ : L2.St) (k : L2.St → Hp → (Hp → Prop) → Prop) : V → Hp → (Hp → Prop) → Prop := fun x H N1 =>
  g x (wipe σ vs) H fun σ3 H5 => wipe σ3 vs = wipe σ vs ∧ tt σ3 H5 fun b H6 => if b = true then k σ3 H6 N1 else N1 H6
/-- the clauses that are left, then the item -/
def goC (te : TE) (D : Addr) : List Cls → L2.St → Hp → (Hp → Prop) → Prop
  | [], σ, H, Nx => te σ H fun y H7 => ∃ acc, H7 D = some (.lst acc) ∧ acc.length < sizeLine ∧ Nx (upd H7 D (.lst (acc ++ [y])))
  | c :: cs, σ, H, Nx => c.wi σ H fun J H4 => inC J (turnC c.g c.tt c.vs σ (goC te D cs)) H4 Nx
def subC : List Cls → Prop
  | c :: c1 :: cs => (∀ i ∈ c1.vs, i ∈ c.vs) ∧ subC (c1 :: cs)
  | _ => True
theorem drop_two {α : Type} {l : List α} {d : Nat} {x : α} {r : List α} (h : l.drop d = x :: r) : l[d]? = some x ∧ l.drop (d + 1) = r := by
  have e : (l.drop d)[0]? = l[d + 0]? := List.getElem?_drop
  rw [h] at e
  refine ⟨e.symm, ?_⟩
  rw [← List.drop_drop, h]
  rfl
theorem drop_head {α : Type} {l : List α} {d : Nat} {r : List α} (h : l.drop d = r) : l[d]? = r[0]? := by
  have e : (l.drop d)[0]? = l[d + 0]? := List.getElem?_drop
  rw [h] at e
  exact e.symm
section
variable {X : Cx} {elt : Expr} {gens : List Comprehension} {scope : Scope} {pos : Pos}
theorem noF (hxe : ∀ e s, X.xe e s → False) {α : Type} {t : Sem α} {Q Q' : α → Shared → Prop} {s : Shared} (h : wpAny (model X.prog X.w) X.A t Q X.xe s) (k : ∀ a s, Q a s → Q' a s) : wpAny (model X.prog X.w) X.A t Q' (fun _ _ => False) s :=
  wpAny_mono h k fun e s z => hxe e s z
/-- what is known behind a target's slots is known still -/
def Known (vs : List Nat) (σ σ' : L2.St) : Prop := σ.length = σ'.length ∧ ∀ (j : Nat) v, (wipe σ vs)[j]? = some (some v) → σ'[j]? = some (some v)
/-- a clause's loop in the layer's words; goK: what is asked of what follows the tests -/
theorem clause_loop (hc : X.calm = true) (hxe : ∀ e s, X.xe e s → False) {c : Cls} {d : Nat} {D : Addr} {goOn : Value → Sem Fin} {goK : L2.St → Hp → (Hp → Prop) → Prop} (pg : PG X c.tg c.g) (pt : PTs X c.ifs c.tt)
    (hT : ∀ it, compTurn (.ListComp elt gens scope pos) d it (.ref D) X.env = turnBy c.tg c.iter c.ifs it X.env (goOn it) (again (.compLoop (.ListComp elt gens scope pos) d it (.ref D) X.env)))
    (hgo : ∀ (it : Value) (pins : List (Addr × Obj)) (s : Shared) (σ : L2.St) (H : Hp) (N1 : Hp → Prop), Inv X pins σ H s → goK σ H N1 →
      wpAny (model X.prog X.w) X.A (goOn it) (fun f s5 => f = .again (.compLoop (.ListComp elt gens scope pos) d it (.ref D) X.env) ∧ ∃ σ' H', Inv X pins σ' H' s5 ∧ Known c.vs σ σ' ∧ N1 H') (fun _ _ => False) s)
    {pins : List (Addr × Obj)} {s : Shared} {σ : L2.St} {H : Hp} {it : Addr} {fp : List Addr} {tn : Nat → Heap → Prop} {J : It} {Nx : Hp → Prop} (I : Inv X pins σ H s) (T : Turn X.prog X.w X.K c.tg J fp it tn) (st : tn 0 s.heap) (f : ∀ b ∈ fp, FpOk X pins H b)
    (h : inC J (turnC c.g c.tt c.vs σ goK) H Nx) :
    codeAny (model X.prog X.w) X.A (.compLoop (.ListComp elt gens scope pos) d (.ref it) (.ref D) X.env) (Ends0 fun s' => ∃ H', Inv X pins (wipe σ c.vs) H' s' ∧ Nx H') s := by
  obtain ⟨W, ⟨m0, w0⟩, turn⟩ := h
  refine loop_by (hT _) (fun n s' => ∃ i H', Inv X pins (wipe σ c.vs) H' s' ∧ tn i s'.heap ∧ (∀ b ∈ fp, H' b = none) ∧ W i n H') ?_ m0 ⟨0, H, I.weak (wipe_length _ _) (fun j v e => (wipe_some e).1), st, fun b hb => (f b hb).1, w0⟩
  rintro n s1 ⟨i, H1, I1, st1, n1, w1⟩
  have f1 : ∀ {H' : Hp}, (∀ b ∈ fp, H' b = none) → ∀ b ∈ fp, FpOk X pins H' b := fun n b hb => ⟨n b hb, (f b hb).2⟩
  rcases turn i n H1 w1 with ⟨stop, nx⟩ | ⟨go, N1, hN1, step⟩
  · refine thnF (T.done X rfl rfl rfl hc i pins s1 _ H1 (fun _ _ => False) I1 (f1 n1) st1 stop) fun r s2 ⟨hr, I2⟩ => ?_
    subst hr
    exact ⟨H1, I2, nx⟩
  · refine thnF (T.item X rfl rfl rfl hc i pins s1 _ H1 (fun _ _ => False) I1 (f1 n1) st1 go) fun r s2 ⟨u, hr, h2⟩ => ?_
    subst hr
    refine thnF h2 fun _ s3 ⟨x, H3, I3, r3, y3, st3, n3⟩ => ?_
    have I3' := I3.pinned (f1 n3) (T.obj _ _ st3)
    refine noF hxe (pg.run _ s3 _ H3 x u _ I3' r3 (step x H3 y3)) fun _ s4 ⟨σ4, H4, I4, hw4, q4⟩ => ?_
    -- a turn's end
    have fin : ∀ {σ5 : L2.St} {s5 : Shared} {H5 : Hp}, Inv X (pins ++ pinsAt fp s3.heap) σ5 H5 s5 → Known c.vs σ4 σ5 → N1 H5 → ∃ m, m < n ∧ ∃ i H', Inv X pins (wipe σ c.vs) H' s5 ∧ tn i s5.heap ∧ (∀ b ∈ fp, H' b = none) ∧ W i m H' := fun {σ5 s5 H5} I5 kn nx => by
      obtain ⟨m', hm, w'⟩ := hN1 H5 nx
      have pin' : ∀ b ∈ fp, ∀ o, s3.heap.get? b = some o → s5.heap.get? b = some o ∧ H5 b = none := fun b hb o e =>
        have z := I5.pin (b, o) (List.mem_append_right _ (List.mem_append_right _ (mem_pinsAt hb e)))
        ⟨z.1, z.2.1⟩
      refine ⟨m', hm, i + 1, H5, I5.unpinned.weak ?_ fun j v e => ?_, T.keep _ _ _ st3 fun b hb o e => (pin' b hb o e).1, fun b hb => ?_, w'⟩
      · rw [← hw4, wipe_length, kn.1]
      · rw [← hw4] at e
        exact kn.2 j v e
      · obtain ⟨o, e, _⟩ := T.obj _ _ st3 b hb
        exact (pin' b hb o e).2
    refine noF hxe (pt.run _ s4 σ4 H4 _ I4 q4) fun b s5 ⟨H5, I5, q5⟩ => ?_
    cases b with
    | false =>
      simp only [Bool.false_eq_true, if_false] at q5 ⊢
      exact fin I5 ⟨rfl, fun j v e => (wipe_some e).1⟩ q5
    | true =>
      simp only [if_true] at q5 ⊢
      refine wpAny_mono (hgo (.ref it) _ s5 σ4 H5 N1 I5 q5) (fun f s6 ⟨ef, σ6, H6, I6, kn, nx⟩ => ⟨ef, fin I6 kn nx⟩) fun _ _ z => z
theorem nest (hc : X.calm = true) (hxe : ∀ e s, X.xe e s → False) {te : TE} (he : PE X elt te) (D : Addr) :
    ∀ (cs : List Cls) (c : Cls) (d : Nat), gens.drop d = c.comp :: cs.map Cls.comp → PG X c.tg c.g → PTs X c.ifs c.tt → (∀ c' ∈ cs, ClsOk X c') → subC (c :: cs) →
    ∀ (pins : List (Addr × Obj)) (s : Shared) (σ : L2.St) (H : Hp) (it : Addr) (fp : List Addr) (tn : Nat → Heap → Prop) (J : It) (Nx : Hp → Prop), Inv X pins σ H s → Turn X.prog X.w X.K c.tg J fp it tn → tn 0 s.heap → (∀ b ∈ fp, FpOk X pins H b) →
      inC J (turnC c.g c.tt c.vs σ (goC te D cs)) H Nx →
      codeAny (model X.prog X.w) X.A (.compLoop (.ListComp elt gens scope pos) d (.ref it) (.ref D) X.env) (Ends0 fun s' => ∃ H', Inv X pins (wipe σ c.vs) H' s' ∧ Nx H') s := by
  intro cs
  induction cs with
  | nil =>
    intro c d hd hpg hpt hCs hS pins s σ H it fp tn J Nx I T st f h
    obtain ⟨hg, hr⟩ := drop_two hd
    refine clause_loop hc hxe hpg hpt (fun it => turn_last hg (drop_head hr)) (fun it pins s σ H N1 I q => ?_) I T st f h
    refine wpAny_bind (wpAny_bind (noF hxe (he.run pins s σ H _ I q) fun y s1 ⟨yv, H1, I1, r1, acc, hD, hz, nx⟩ => ?_))
    exact wpAny_bind (app_ok I1 hD hz r1 fun s2 I2 => wpAny_pure (wpAny_pure ⟨rfl, σ, _, I2, ⟨rfl, fun j v e => (wipe_some e).1⟩, nx⟩))
  | cons c1 cs ih =>
    intro c d hd hpg hpt hCs hS pins s σ H it fp tn J Nx I T st f h
    obtain ⟨hg, hr⟩ := drop_two hd
    have C1 : ClsOk X c1 := hCs c1 List.mem_cons_self
    refine clause_loop hc hxe hpg hpt (fun it => turn_more hg (drop_head hr)) (fun it pins s σ H N1 I q => ?_) I T st f h
    refine wpAny_bind (noF hxe (C1.pi.run pins s σ H _ I q) fun xv s1 hx => ?_)
    refine wpAny_bind (wpAny_standAt (wpAny_bind (wpAny_of_eq (C1.fold _ _) (wpAny_bind (wpAny_holding (noF hxe hx fun itv s2 h2 => ?_))))))
    obtain ⟨it1, fp1, tn1, J1, H2, rfl, I2, T1, st2, f2, q2⟩ := h2
    refine wpAny_bind (wpAny_runOwn ?_)
    rw [Around.mark_none]
    have L := ih c1 (d + 1) hr C1.pg C1.pt (fun c' m => hCs c' (List.mem_cons_of_mem _ m)) hS.2 pins s2 σ H2 it1 fp1 tn1 J1 N1 I2 T1 st2 f2 q2
    refine codeAny_mono (start_by (drop_head hr) L (T1.self X.A 0 _ _ _ st2 L)) fun r s3 hr3 => ?_
    cases r with
    | error e => exact hr3.elim
    | ok fl =>
      obtain ⟨H3, I3, nx⟩ := hr3
      refine wpAny_pure ⟨rfl, _, H3, I3, ⟨(wipe_length _ _).symm, fun j v e => ?_⟩, nx⟩
      obtain ⟨e1, e2⟩ := wipe_some e
      rw [wipe_out fun z => e2 (hS.1 j z)]
      exact e1
theorem wipe_get (σ : L2.St) (j : Nat) : ∀ vs : List Nat, (wipe σ vs)[j]? = if j ∈ vs then σ[j]?.map (fun _ => none) else σ[j]?
  | [] => by simp [wipe]
  | v :: vs => by
    have l := wipe_length σ vs
    have ih := wipe_get σ j vs
    unfold wipe
    by_cases e : v = j
    · subst e
      rw [if_pos List.mem_cons_self, List.getElem?_set_self']
      cases q : σ[v]? with
      | none =>
        have : (wipe σ vs)[v]? = none := by rw [List.getElem?_eq_none_iff] at q ⊢; omega
        rw [this]
        rfl
      | some z =>
        have lt := (List.getElem?_eq_some_iff.mp q).1
        rw [List.getElem?_eq_getElem (by omega)]
        rfl
    · rw [List.getElem?_set_ne e, ih]
      have e' : j ∈ v :: vs ↔ j ∈ vs := ⟨fun m => (List.mem_cons.mp m).resolve_left fun q => e q.symm, List.mem_cons_of_mem _⟩
      simp only [e']
theorem wipe_twice (σ : L2.St) (vs : List Nat) : wipe (wipe σ vs) vs = wipe σ vs := by
  refine List.ext_getElem? fun j => ?_
  rw [wipe_get, wipe_get]
  split
  · cases σ[j]? <;> rfl
  · rfl
/-- [elt for c .. for cs ..] -/
def tLcN (c : Cls) (cs : List Cls) (te : TE) : TE := fun σ H Q => c.wi σ H fun J H1 => ∀ D, H1 D = none → inC J (turnC c.g c.tt c.vs σ (goC te D cs)) (upd H1 D (.lst [])) (Q (.ref D))
/-- the clauses and the item, in the block's context -/
structure InBlk (B : Cx) (c : Cls) (cs : List Cls) (elt : Expr) (te : TE) : Prop where
  pg : PG B c.tg c.g
  pt : PTs B c.ifs c.tt
  all : ∀ c' ∈ cs, ClsOk B c'
  pe : PE B elt te
theorem pe_lcN {c : Cls} {cs : List Cls} {own : List (Str × Nat)} {te : TE} (hc : X.calm = true) (hN : X.N.Nodup) (hi : PI X c.tg c.iter c.wi) (ok : BlkOk X.N X.env.scope scope own) (hv : c.vs = own.map (·.2)) (hS : subC (c :: cs)) (hf : ∀ env x, foldedSetIterable c.iter env x = pure x)
    (hb : ∀ (s : Shared) (H : Hp) (C : Addr) (cl : List (Str × Addr)) (fp : List Addr), InBlk (X.blk s H scope (compEnvC scope cl C X.env) fp) c cs elt te) :
    PE X (.ListComp elt (c.comp :: cs.map Cls.comp) scope pos) (tLcN c cs te) := by
  refine ⟨fun pins s σ H Q I h => ?_⟩
  rw [eval_ListComp]
  have free : ∀ y ∈ scope.names, y.2 = .free → ∃ a, X.env.cells.lookup y.1 = some a := fun y hy e => (ok.free y hy e).elim (fun k => I.ok.has _ (.inl k)) fun k => I.ok.has _ (.inr k)
  refine wpAny_comprehension_free rfl (hf X.env) (closure_ok free) ok.kind (fun y hy e => by rw [ok.uniq y hy, e]) (thn (hi.run pins s σ H _ I h) fun xv s1 hx => thn hx fun itv s2 h2 => ?_)
  obtain ⟨it, fp, tn, J, H2, rfl, I2, T, st2, f2, q⟩ := h2
  refine wpAny_newObj_type (newEnv_comp ?_) (by show 0 ≤ sizeLine; decide)
  obtain ⟨D, hD⟩ : ∃ D, D = s2.heap.objs.size := ⟨_, rfl⟩
  have loop := q D (I2.hok.fresh (Nat.le_of_eq hD.symm))
  rw [← hD]
  generalize er : Shared.mk (s2.heap.push { cls := .type "list", data := .seq (List.toArray ([] : List Value)) }) s2.gens s2.drawn s2.toks s2.os = s3
  have h3 : s3.heap = s2.heap.push { cls := .type "list", data := .seq (List.toArray ([] : List Value)) } := by rw [← er]
  have up3 : ∀ b o, s2.heap.get? b = some o → s3.heap.get? b = some o := fun b o e => by
    rw [h3]
    exact Heap.get?_push_of_some _ e
  have I3 : Inv X pins σ (upd H2 D (.lst [])) s3 := by
    rw [← er]
    refine I2.laid (t' := s2.toks) (fun b o e => Heap.get?_push_of_some _ e) (Nat.le_of_eq hD.symm) ⟨Nat.zero_le _, [], 0, .nil, ?_⟩
    rw [hD]
    exact Heap.get?_push_size _ rfl
  have f3 : ∀ b ∈ fp, FpOk X pins (upd H2 D (.lst [])) b ∧ b < s3.heap.objs.size := fun b m => by
    obtain ⟨o, e, _⟩ := T.obj _ _ st2 b m
    have lt := Heap.lt_size e
    refine ⟨⟨?_, (f2 b m).2⟩, Heap.lt_size (up3 b o e)⟩
    rw [upd_ne (by rw [hD]; exact Nat.ne_of_lt lt)]
    exact (f2 b m).1
  have st3 : tn 0 s3.heap := T.keep _ _ _ st2 fun b _ o e => up3 b o e
  have I4 := block_start I3 ok hN f3
  have B := hb s3 (upd H2 D (.lst [])) s3.heap.objs.size (cellsFrom (s3.heap.objs.size + 1) scope.names (cloFrom X.env.cells scope.names [])) fp
  show codeAny _ _ (.compStart (.ListComp elt (c.comp :: cs.map Cls.comp) scope pos) 0 (.ref it) (.ref D) (compEnvC scope (cellsFrom (s3.heap.objs.size + 1) scope.names (cloFrom X.env.cells scope.names [])) s3.heap.objs.size X.env)) (compPost (model X.prog X.w) X.A X.xe none (EP X pins σ Q) (.ref D) s3.heap.objs.size) { s3 with heap := pushCells (s3.heap.push { cls := .type "dict", data := .dict #[] }) scope.names }
  have nfp : ∀ b ∈ fp, (upd H2 D (.lst [])) b = none := fun b m => (f3 b m).1.1
  generalize hce : compEnvC scope (cellsFrom (s3.heap.objs.size + 1) scope.names (cloFrom X.env.cells scope.names [])) s3.heap.objs.size X.env = ce at I4 B ⊢
  have cL : ce.locals = s3.heap.objs.size := by rw [← hce]; rfl
  generalize hH3 : upd H2 D (.lst []) = H3 at I3 I4 B loop nfp f3
  generalize hs4 : ({ s3 with heap := pushCells (s3.heap.push { cls := .type "dict", data := .dict #[] }) scope.names } : Shared) = s4 at I4 ⊢
  have st4 : tn 0 s4.heap := T.keep _ _ _ st3 fun b _ o e => by rw [← hs4]; exact pushCells_keeps _ _ _ _ (Heap.get?_push_of_some _ e)
  have fB : ∀ b ∈ fp, FpOk (X.blk s3 H3 scope ce fp) [] H3 b := fun b m => ⟨nfp b m, (I4.ok.exf b m).1, I4.ok.exfs b m, .inl m, fun x a e => (I4.ok.exf b m).2 x a e, fun p hp => absurd (show p ∈ ([] : List (Addr × Obj)) ++ [] from hp) (by simp)⟩
  have L : codeAny (model X.prog X.w) X.A (.compLoop (.ListComp elt (c.comp :: cs.map Cls.comp) scope pos) 0 (.ref it) (.ref D) ce) (Ends0 fun s' => ∃ H', Inv (X.blk s3 H3 scope ce fp) [] (wipe (wipe σ c.vs) c.vs) H' s' ∧ Q (.ref D) H') s4 := by
    rw [← hv] at I4
    refine nest (X := X.blk s3 H3 scope ce fp) hc (fun _ _ z => z) B.pe D cs c 0 rfl B.pg B.pt B.all hS [] s4 _ H3 it fp tn J (Q (.ref D)) I4 T st4 fB ?_
    have e : turnC c.g c.tt c.vs (wipe σ c.vs) (goC te D cs) = turnC c.g c.tt c.vs σ (goC te D cs) := by
      unfold turnC
      rw [wipe_twice]
    rw [e]
    exact loop
  have L2 : codeAny (model X.prog X.w) X.A (.compLoop (.ListComp elt (c.comp :: cs.map Cls.comp) scope pos) 0 (.ref it) (.ref D) ce) (compPost (model X.prog X.w) X.A X.xe none (EP X pins σ Q) (.ref D) s3.heap.objs.size) s4 := by
    refine codeAny_mono L fun r s5 hr => ?_
    cases r with
    | error e => exact hr.elim
    | ok fl =>
      obtain ⟨H5, I5, q5⟩ := hr
      have I6 : Inv X pins σ H5 s5 := I3.call' (ch := fp) I5.os I5.base I5.hok I5.bare fun b m => ⟨(f3 b m).1.2.2.2.1, (f3 b m).1.2.1, (f3 b m).1.2.2.2.2.1, (f3 b m).1.2.2.2.2.2⟩
      have nC : H5 s3.heap.objs.size = none := by
        rw [← cL]
        exact I5.free
      obtain ⟨m, hn, _⟩ := I5.loc
      have hn : s5.heap.Ns ce.locals m := hn
      rw [cL] at hn
      refine ⟨m, hn, fun h' sb => ?_⟩
      obtain ⟨g0, g1, g2, g3, g4, g5⟩ := I3.fpOk (H' := H5) (Nat.le_refl _) nC
      exact ⟨.ref D, H5, I6.turned (t' := s5.toks) (fun b o hb e => (sb.2 b hb).trans e) g0 g1 g3 g4 g5, rfl, q5⟩
  exact codeAny_compStart_list L2 (T.self X.A 0 _ _ _ st4 L2)
/-- what [e for .. for .. for ..] asks -/
def tLc3 (wi0 : TI) (g0 : TG) (tt0 : TT) (wi1 : TI) (g1 : TG) (tt1 : TT) (wi2 : TI) (g2 : TG) (tt2 : TT) (te : TE) (vs vs1 vs2 : List Nat) : TE := fun σ H Q => wi0 σ H fun J H0 => ∀ D, H0 D = none →
  inC J (turnC g0 tt0 vs σ fun σ1 H1 N1 => wi1 σ1 H1 fun J1 H2 =>
    inC J1 (turnC g1 tt1 vs1 σ1 fun σ2 H3 N2 => wi2 σ2 H3 fun J2 H4 =>
      inC J2 (turnC g2 tt2 vs2 σ2 fun σ3 H5 N3 => te σ3 H5 fun y H7 => ∃ acc, H7 D = some (.lst acc) ∧ acc.length < sizeLine ∧ N3 (upd H7 D (.lst (acc ++ [y])))) H4 N2) H2 N1) (upd H0 D (.lst [])) (Q (.ref D))
/-- three for clauses -/
theorem pe_lc3 {tg0 iter0 tg1 iter1 tg2 iter2 : Expr} {ifs0 ifs1 ifs2 : List Expr} {own : List (Str × Nat)} {vs1 vs2 : List Nat} {wi0 wi1 wi2 : TI} {g0 g1 g2 : TG} {tt0 tt1 tt2 : TT} {te : TE} (hc : X.calm = true) (hN : X.N.Nodup) (hi : PI X tg0 iter0 wi0) (ok : BlkOk X.N X.env.scope scope own)
    (h1 : ∀ i ∈ vs1, i ∈ own.map (·.2)) (h2 : ∀ i ∈ vs2, i ∈ vs1)
    (hg0 : ∀ (s : Shared) (H : Hp) (C : Addr) (cl : List (Str × Addr)) (fp : List Addr), PG (X.blk s H scope (compEnvC scope cl C X.env) fp) tg0 g0) (ht0 : ∀ (s : Shared) (H : Hp) (C : Addr) (cl : List (Str × Addr)) (fp : List Addr), PTs (X.blk s H scope (compEnvC scope cl C X.env) fp) ifs0 tt0)
    (hi1 : ∀ (s : Shared) (H : Hp) (C : Addr) (cl : List (Str × Addr)) (fp : List Addr), PI (X.blk s H scope (compEnvC scope cl C X.env) fp) tg1 iter1 wi1)
    (hg1 : ∀ (s : Shared) (H : Hp) (C : Addr) (cl : List (Str × Addr)) (fp : List Addr), PG (X.blk s H scope (compEnvC scope cl C X.env) fp) tg1 g1) (ht1 : ∀ (s : Shared) (H : Hp) (C : Addr) (cl : List (Str × Addr)) (fp : List Addr), PTs (X.blk s H scope (compEnvC scope cl C X.env) fp) ifs1 tt1)
    (hi2 : ∀ (s : Shared) (H : Hp) (C : Addr) (cl : List (Str × Addr)) (fp : List Addr), PI (X.blk s H scope (compEnvC scope cl C X.env) fp) tg2 iter2 wi2)
    (hg2 : ∀ (s : Shared) (H : Hp) (C : Addr) (cl : List (Str × Addr)) (fp : List Addr), PG (X.blk s H scope (compEnvC scope cl C X.env) fp) tg2 g2) (ht2 : ∀ (s : Shared) (H : Hp) (C : Addr) (cl : List (Str × Addr)) (fp : List Addr), PTs (X.blk s H scope (compEnvC scope cl C X.env) fp) ifs2 tt2)
    (he : ∀ (s : Shared) (H : Hp) (C : Addr) (cl : List (Str × Addr)) (fp : List Addr), PE (X.blk s H scope (compEnvC scope cl C X.env) fp) elt te)
    (f0 : ∀ env x, foldedSetIterable iter0 env x = pure x := by intro _ _; rfl) (f1 : ∀ env x, foldedSetIterable iter1 env x = pure x := by intro _ _; rfl) (f2 : ∀ env x, foldedSetIterable iter2 env x = pure x := by intro _ _; rfl) :
    PE X (.ListComp elt [⟨tg0, iter0, ifs0, 0⟩, ⟨tg1, iter1, ifs1, 0⟩, ⟨tg2, iter2, ifs2, 0⟩] scope pos) (tLc3 wi0 g0 tt0 wi1 g1 tt1 wi2 g2 tt2 te (own.map (·.2)) vs1 vs2) :=
  pe_lcN (own := own) (pos := pos) (c := Cls.mk tg0 iter0 ifs0 wi0 g0 tt0 (own.map fun (p : Str × Nat) => p.2)) (cs := [Cls.mk tg1 iter1 ifs1 wi1 g1 tt1 vs1, Cls.mk tg2 iter2 ifs2 wi2 g2 tt2 vs2]) hc hN hi ok rfl ⟨h1, h2, trivial⟩ f0
    fun s H C cl fp => ⟨hg0 s H C cl fp, ht0 s H C cl fp, fun c m => by
      rcases List.mem_cons.mp m with rfl | m
      · exact ⟨hi1 s H C cl fp, hg1 s H C cl fp, ht1 s H C cl fp, f1⟩
      · rw [List.mem_singleton.mp m]
        exact ⟨hi2 s H C cl fp, hg2 s H C cl fp, ht2 s H C cl fp, f2⟩, he s H C cl fp⟩
end
end Gd
/-! sums of groups, and groups as bits -/
namespace Gd
open PySem PySem.Spec PyProof.Rows L2 PySem.W
/-- the sum for each group, by the numbers of the persons -/
def sumsL : List Int → List Int
  | [] => [0]
  | n :: r => 0 :: ((sumsL r).map (n + ·) ++ (sumsL r).tail)
theorem sumsL_len : ∀ xs : List Int, (sumsL xs).length = 2 ^ xs.length
  | [] => rfl
  | n :: r => by
    have ih := sumsL_len r
    have p : 0 < 2 ^ r.length := Nat.two_pow_pos _
    show (0 :: ((sumsL r).map (n + ·) ++ (sumsL r).tail)).length = 2 ^ (r.length + 1)
    rw [List.length_cons, List.length_append, List.length_map, List.length_tail, ih, Nat.pow_succ]
    omega
theorem share_cons_in {n : Str} {r : List Str} {x : Int} {xs : List Int} {g : Grp} (h : n ∉ r) : shareOf (n :: r) (x :: xs) (n :: g) = x + shareOf r xs g := by
  unfold shareOf
  rw [List.zip_cons_cons, List.filter_cons_of_pos (p := fun t : Str × Int => decide (t.1 ∈ n :: g)) (decide_eq_true List.mem_cons_self), List.map_cons, List.sum_cons]
  congr 3
  refine List.filter_congr fun t m => ?_
  have nt : t.1 ≠ n := fun e => h (by rw [← e]; exact (List.of_mem_zip m).1)
  have e : t.1 ∈ n :: g ↔ t.1 ∈ g := ⟨fun q => (List.mem_cons.mp q).resolve_left nt, List.mem_cons_of_mem _⟩
  simp only [e]
theorem share_cons_out {n : Str} {r : List Str} {x : Int} {xs : List Int} {g : Grp} (h : n ∉ g) : shareOf (n :: r) (x :: xs) g = shareOf r xs g := by
  unfold shareOf
  rw [List.zip_cons_cons, List.filter_cons_of_neg (p := fun t : Str × Int => decide (t.1 ∈ g)) (by rw [decide_eq_true_iff]; exact h)]
theorem share_nil (ns : List Str) (xs : List Int) : shareOf ns xs [] = 0 := by
  unfold shareOf
  rw [List.filter_eq_nil_iff.mpr fun t _ => by simp]
  rfl
theorem sumsL_lex : ∀ {ns : List Str} {xs : List Int}, xs.length = ns.length → ns.Nodup → sumsL xs = (lexG ns).map (shareOf ns xs)
  | [], [], _, _ => by
    show [0] = [shareOf [] [] []]
    rw [share_nil]
  | n :: r, x :: xs, hl, nd => by
    obtain ⟨hn, hr⟩ := List.nodup_cons.mp nd
    have ih := sumsL_lex (ns := r) (xs := xs) (by simpa using hl) hr
    show 0 :: ((sumsL xs).map (x + ·) ++ (sumsL xs).tail) = ([] :: ((lexG r).map (n :: ·) ++ (lexG r).tail)).map (shareOf (n :: r) (x :: xs))
    rw [List.map_cons, share_nil, List.map_append, List.map_map, ih, List.map_map, ← List.map_tail]
    congr 2
    · refine List.map_congr_left fun g m => ?_
      show x + shareOf r xs g = shareOf (n :: r) (x :: xs) (n :: g)
      rw [share_cons_in hn]
    · refine List.map_congr_left fun g m => ?_
      have sub := lexG_mem.mp (List.mem_of_mem_tail m)
      rw [share_cons_out fun q => hn (sub.subset q)]
/-- who is in a group, as bits -/
def maskN : List Str → Grp → Nat
  | [], _ => 0
  | n :: r, g => (if n ∈ g then 1 else 0) + 2 * maskN r g
theorem mask_bit : ∀ {ns : List Str} {g : Grp} {k : Nat}, (maskN ns g).testBit k = true ↔ ∃ n, ns[k]? = some n ∧ n ∈ g
  | [], g, k => by
    show Nat.testBit 0 k = true ↔ _
    simp
  | n :: r, g, 0 => by
    show ((if n ∈ g then 1 else 0) + 2 * maskN r g).testBit 0 = true ↔ _
    rw [Nat.testBit_zero, decide_eq_true_iff]
    constructor
    · intro e
      refine ⟨n, rfl, ?_⟩
      by_cases m : n ∈ g
      · exact m
      · rw [if_neg m] at e
        omega
    · rintro ⟨m, e, hm⟩
      obtain rfl := Option.some.inj e
      rw [if_pos hm]
      omega
  | n :: r, g, k + 1 => by
    show ((if n ∈ g then 1 else 0) + 2 * maskN r g).testBit (k + 1) = true ↔ _
    rw [Nat.testBit_succ]
    have e : ((if n ∈ g then 1 else 0) + 2 * maskN r g) / 2 = maskN r g := by
      split <;> omega
    rw [e, mask_bit]
    rfl
theorem mask_eq {ns : List Str} {m : Nat} {g : Grp} (h : ∀ k, m.testBit k = true ↔ ∃ n, ns[k]? = some n ∧ n ∈ g) : m = maskN ns g :=
  Nat.eq_of_testBit_eq fun k => by
    rw [Bool.eq_iff_iff, h k, mask_bit]
theorem mask_congr {ns : List Str} {g h : Grp} (e : ∀ n, n ∈ g ↔ n ∈ h) : maskN ns g = maskN ns h :=
  mask_eq fun k => by
    rw [mask_bit]
    exact ⟨fun ⟨n, a, b⟩ => ⟨n, a, (e n).mp b⟩, fun ⟨n, a, b⟩ => ⟨n, a, (e n).mpr b⟩⟩
theorem mask_inj {ns : List Str} {g h : Grp} (asc : ns.Pairwise ltS) (hg : g ∈ groupsOf ns) (hh : h ∈ groupsOf ns) (e : maskN ns g = maskN ns h) : g = h := by
  have q : ∀ {a b : Grp}, maskN ns a = maskN ns b → ∀ x ∈ ns, x ∈ a → x ∈ b := fun {a b} e x hx m => by
    obtain ⟨k, hk⟩ := List.getElem?_of_mem hx
    have t := mask_bit (ns := ns) (g := a) (k := k) |>.mpr ⟨x, hk, m⟩
    rw [e] at t
    obtain ⟨y, hy, hm⟩ := mask_bit.mp t
    rw [hk] at hy
    obtain rfl := Option.some.inj hy
    exact hm
  rw [← grp_cn asc hg, ← grp_cn asc hh]
  unfold cn
  refine List.filter_congr fun x hx => ?_
  rw [Bool.eq_iff_iff, decide_eq_true_iff, decide_eq_true_iff]
  exact ⟨q e x hx, q e.symm x hx⟩
theorem idx_eq {ns : List Str} (nd : ns.Nodup) {i k : Nat} {n : Str} (hi : ns[i]? = some n) : ns[k]? = some n ↔ i = k := by
  constructor
  · intro hk
    obtain ⟨li, ei⟩ := List.getElem?_eq_some_iff.mp hi
    obtain ⟨lk, ek⟩ := List.getElem?_eq_some_iff.mp hk
    have a := nd.idxOf_getElem i li
    have b := nd.idxOf_getElem k lk
    rw [ei] at a
    rw [ek] at b
    exact a.symm.trans b
  · rintro rfl
    exact hi
theorem mask_or {ns : List Str} {g : Grp} (nd : ns.Nodup) {i : Nat} {n : Str} (hi : ns[i]? = some n) : maskN ns g ||| 2 ^ i = maskN ns (g ++ [n]) :=
  mask_eq fun k => by
    rw [Nat.testBit_or, Bool.or_eq_true, mask_bit, Nat.testBit_two_pow, decide_eq_true_iff]
    constructor
    · rintro (⟨m, a, b⟩ | rfl)
      · exact ⟨m, a, List.mem_append_left _ b⟩
      · exact ⟨n, hi, by simp⟩
    · rintro ⟨m, a, b⟩
      rcases List.mem_append.mp b with b | b
      · exact .inl ⟨m, a, b⟩
      · rw [List.mem_singleton.mp b] at a
        exact .inr ((idx_eq nd hi).mp a)
theorem mask_and {ns : List Str} {g : Grp} (nd : ns.Nodup) {i j : Nat} {n m : Str} (hi : ns[i]? = some n) (hj : ns[j]? = some m) : maskN ns g &&& (2 ^ i ||| 2 ^ j) = 0 ↔ n ∉ g ∧ m ∉ g := by
  have b : ∀ k, (maskN ns g &&& (2 ^ i ||| 2 ^ j)).testBit k = true ↔ (∃ x, ns[k]? = some x ∧ x ∈ g) ∧ (i = k ∨ j = k) := fun k => by
    rw [Nat.testBit_and, Bool.and_eq_true, mask_bit, Nat.testBit_or, Bool.or_eq_true, Nat.testBit_two_pow, Nat.testBit_two_pow, decide_eq_true_iff, decide_eq_true_iff]
  constructor
  · intro e
    have z : ∀ k, ¬ ((∃ x, ns[k]? = some x ∧ x ∈ g) ∧ (i = k ∨ j = k)) := fun k h => by
      have := (b k).mpr h
      rw [e] at this
      simp at this
    exact ⟨fun q => z i ⟨⟨n, hi, q⟩, .inl rfl⟩, fun q => z j ⟨⟨m, hj, q⟩, .inr rfl⟩⟩
  · rintro ⟨h1, h2⟩
    refine Nat.eq_of_testBit_eq fun k => ?_
    rw [Nat.zero_testBit, Bool.eq_false_iff]
    intro h
    obtain ⟨⟨x, hx, hg⟩, e⟩ := (b k).mp h
    rcases e with rfl | rfl
    · rw [hi] at hx
      obtain rfl := Option.some.inj hx
      exact h1 hg
    · rw [hj] at hx
      obtain rfl := Option.some.inj hx
      exact h2 hg
/-- the bits, from the k-th on -/
def bitsL (k n : Nat) : List Int := (List.range' k n).map fun i => (2 : Int) ^ i
theorem share_bits : ∀ {ns : List Str} {g : Grp} (k : Nat), ns.Nodup → shareOf ns (bitsL k ns.length) g = 2 ^ k * (maskN ns g : Int)
  | [], g, k, _ => by
    show shareOf [] [] g = 2 ^ k * ((0 : Nat) : Int)
    unfold shareOf
    simp
  | n :: r, g, k, nd => by
    obtain ⟨hn, hr⟩ := List.nodup_cons.mp nd
    have ih := share_bits (ns := r) (g := g) (k + 1) hr
    have e : bitsL k (n :: r).length = 2 ^ k :: bitsL (k + 1) r.length := rfl
    rw [e]
    show _ = 2 ^ k * (((if n ∈ g then 1 else 0) + 2 * maskN r g : Nat) : Int)
    unfold shareOf at ih ⊢
    rw [List.zip_cons_cons]
    by_cases m : n ∈ g
    · rw [List.filter_cons_of_pos (p := fun t : Str × Int => decide (t.1 ∈ g)) (decide_eq_true m), List.map_cons, List.sum_cons, ih, if_pos m]
      push_cast
      rw [Int.pow_succ, Int.mul_add, Int.mul_one, Int.mul_assoc]
    · rw [List.filter_cons_of_neg (p := fun t : Str × Int => decide (t.1 ∈ g)) (by rw [decide_eq_true_iff]; exact m), ih, if_neg m]
      push_cast
      rw [Int.pow_succ, Int.zero_add, Int.mul_assoc]
end Gd
/-! the gaps of all tests, by the worths in a row -/
namespace Gd
open PySem PySem.Spec PyProof.Rows L2 PySem.W
def pairsTo : List Str → Nat → List (Str × Str)
  | [], _ => []
  | _ :: _, 0 => []
  | n :: r, k + 1 => r.map (fun m => (n, m)) ++ pairsTo r k
theorem pairsTo_zero (ns : List Str) : pairsTo ns 0 = [] := by cases ns <;> rfl
theorem pairsTo_all : ∀ ns : List Str, pairsTo ns ns.length = pairsOf ns
  | [] => rfl
  | n :: r => by
    show r.map (fun m => (n, m)) ++ pairsTo r r.length = r.map (fun m => (n, m)) ++ pairsOf r
    rw [pairsTo_all r]
theorem pairsTo_next : ∀ {ns : List Str} {k : Nat} {n : Str}, ns[k]? = some n → pairsTo ns (k + 1) = pairsTo ns k ++ (ns.drop (k + 1)).map fun m => (n, m)
  | [], _, _, h => by cases h
  | n :: r, 0, m, h => by
    obtain rfl := Option.some.inj h
    show r.map (fun x => (n, x)) ++ pairsTo r 0 = [] ++ r.map fun x => (n, x)
    rw [pairsTo_zero, List.append_nil, List.nil_append]
  | n :: r, k + 1, m, h => by
    have ih := pairsTo_next (ns := r) (k := k) (n := m) h
    show r.map (fun x => (n, x)) ++ pairsTo r (k + 1) = (r.map (fun x => (n, x)) ++ pairsTo r k) ++ (r.drop (k + 1)).map fun x => (m, x)
    rw [ih, List.append_assoc]
theorem pairsTo_len {ns : List Str} {k : Nat} (h : k ≤ ns.length) : (pairsTo ns k).length ≤ k * ns.length := by
  induction ns generalizing k with
  | nil =>
    obtain rfl : k = 0 := by simpa using h
    simp [pairsTo_zero]
  | cons n r ih =>
    cases k with
    | zero => simp [pairsTo_zero]
    | succ k =>
      have := ih (k := k) (by simpa using h)
      show (r.map (fun m => (n, m)) ++ pairsTo r k).length ≤ (k + 1) * (r.length + 1)
      rw [List.length_append, List.length_map, Nat.add_mul, Nat.mul_add]
      omega
/-- the gaps of a group, for some pairs -/
def gapsFor (W : Grp → Int) (g : Grp) (ps : List (Str × Str)) : List Int := (ps.filter (keepB g)).map fun p => gapOf W (g, p.1, p.2)
theorem gapsFor_app (W : Grp → Int) (g : Grp) (a b : List (Str × Str)) : gapsFor W g (a ++ b) = gapsFor W g a ++ gapsFor W g b := by
  unfold gapsFor
  rw [List.filter_append, List.map_append]
theorem gapsFor_len (W : Grp → Int) (g : Grp) (a : List (Str × Str)) : (gapsFor W g a).length ≤ a.length := by
  unfold gapsFor
  rw [List.length_map]
  exact List.length_filter_le _ _
theorem gaps_all (ns : List Str) (W : Grp → Int) : ((groupsOf ns).flatMap fun g => gapsFor W g (pairsOf ns)) = (trisOf ns).map (gapOf W) := by
  unfold trisOf
  rw [List.map_flatMap, List.flatMap_def, List.flatMap_def]
  congr 1
  refine List.map_congr_left fun g _ => ?_
  unfold gapsFor trisFor
  rw [List.map_map]
  rfl
/-! worths by bits -/
def mDict (ns : List Str) (gs : List Grp) (W : Grp → Int) : List (Key × V) := gs.map fun g => (Sum.inl (maskN ns g : Int), V.int (W g))
theorem mDict_len (ns : List Str) (gs : List Grp) (W : Grp → Int) : (mDict ns gs W).length = gs.length := List.length_map ..
theorem mDict_app (ns : List Str) (as bs : List Grp) (W : Grp → Int) : mDict ns (as ++ bs) W = mDict ns as W ++ mDict ns bs W := List.map_append
theorem mDict_in {ns : List Str} {gs : List Grp} {W : Grp → Int} {g : Grp} (inj : ∀ a ∈ gs, maskN ns a = maskN ns g → a = g) (h : g ∈ gs) : valV (mDict ns gs W) (Sum.inl (maskN ns g : Int)) = some (.int (W g)) := by
  induction gs with
  | nil => cases h
  | cons x r ih =>
    by_cases e : x = g
    · subst e
      exact valV_pos rfl
    · have hr : g ∈ r := (List.mem_cons.mp h).resolve_left fun q => e q.symm
      have z : ¬ (Sum.inl (maskN ns x : Int) : Key) = Sum.inl (maskN ns g : Int) := fun z => e (inj x List.mem_cons_self (Int.ofNat.inj (Sum.inl.inj z)))
      exact (valV_neg (p := ((Sum.inl (maskN ns x : Int) : Key), V.int (W x))) z).trans (ih (fun a m => inj a (List.mem_cons_of_mem _ m)) hr)
theorem mDict_out {ns : List Str} {gs : List Grp} {W : Grp → Int} {g : Grp} (h : ∀ a ∈ gs, maskN ns a ≠ maskN ns g) : valV (mDict ns gs W) (Sum.inl (maskN ns g : Int)) = none := by
  induction gs with
  | nil => rfl
  | cons x r ih =>
    have z : ¬ (Sum.inl (maskN ns x : Int) : Key) = Sum.inl (maskN ns g : Int) := fun z => h x List.mem_cons_self (Int.ofNat.inj (Sum.inl.inj z))
    exact (valV_neg (p := ((Sum.inl (maskN ns x : Int) : Key), V.int (W x))) z).trans (ih fun a m => h a (List.mem_cons_of_mem _ m))
theorem or_nat (a b : Nat) : Builtin.bitOr (a : Int) (b : Int) = ((a ||| b : Nat) : Int) := by
  rw [Bits.bitOr_pp (Int.natCast_nonneg a) (Int.natCast_nonneg b), Int.toNat_natCast, Int.toNat_natCast]
theorem and_nat (a b : Nat) : Builtin.bitAnd (a : Int) (b : Int) = ((a &&& b : Nat) : Int) := by
  rw [bitAnd_pp (Int.natCast_nonneg a) (Int.natCast_nonneg b), Int.toNat_natCast, Int.toNat_natCast]
theorem sums_bits {ns : List Str} (nd : ns.Nodup) : sumsL (bitsL 0 ns.length) = (lexG ns).map fun g => (maskN ns g : Int) := by
  rw [sumsL_lex (ns := ns) (by unfold bitsL; rw [List.length_map, List.length_range']) nd]
  refine List.map_congr_left fun g _ => ?_
  rw [share_bits 0 nd]
  show 1 * _ = _
  exact Int.one_mul _
theorem bits_at {n k : Nat} (h : k < n) : (bitsL 0 n)[k]? = some (((2 ^ k : Nat) : Int)) := by
  unfold bitsL
  rw [List.getElem?_map, List.getElem?_range' (by omega)]
  simp
theorem bits_len (k n : Nat) : (bitsL k n).length = n := by
  unfold bitsL
  rw [List.length_map, List.length_range']
end Gd
/-! values whose repr is known to be short -/
namespace Gd
open PySem PySem.Spec PyProof.Rows L2
structure Rp (dep wt : Nat) (d : PyData) : Prop where
  sh : d.showable = true
  nd : d.hasDict = false
  dp : d.depth ≤ dep
  ly : d.canLay0 = true
  wt : PyData.weight d ≤ wt
  is : PyData.intsShort 13 d = true
theorem rp_all {dep wt : Nat} : ∀ {ds : List PyData}, (∀ d ∈ ds, Rp dep wt d) → PyData.showableAll ds = true ∧ PyData.hasDictAll ds = false ∧ PyData.depthAll ds ≤ dep ∧ PyData.canLayAll0 ds = true ∧ PyData.weightAll ds ≤ (wt + 1) * ds.length ∧ PyData.intsShortAll 13 ds = true
  | [], _ => ⟨rfl, rfl, Nat.zero_le _, rfl, Nat.zero_le _, PySem.Spec.intsShortAll_of fun _ m => absurd m List.not_mem_nil⟩
  | d :: ds, h => by
    obtain ⟨a1, a2, a3, a4, a5, a6⟩ := h d List.mem_cons_self
    obtain ⟨b1, b2, b3, b4, b5, b6⟩ := rp_all fun e m => h e (List.mem_cons_of_mem _ m)
    refine ⟨?_, ?_, ?_, ?_, ?_, ?_⟩
    · show (d.showable && PyData.showableAll ds) = true
      rw [a1, b1]
      rfl
    · show (d.hasDict || PyData.hasDictAll ds) = false
      rw [a2, b2]
      rfl
    · show max d.depth (PyData.depthAll ds) ≤ dep
      omega
    · show (d.canLay0 && PyData.canLayAll0 ds) = true
      rw [a4, b4]
      rfl
    · show PyData.weight d + 1 + PyData.weightAll ds ≤ (wt + 1) * (ds.length + 1)
      rw [Nat.mul_add]
      omega
    · simp only [PyData.intsShortAll, a6, b6, Bool.and_self]
theorem rp_list {dep wt n : Nat} {ds : List PyData} (h : ∀ d ∈ ds, Rp dep wt d) (l : ds.length ≤ n) : Rp (dep + 1) ((wt + 1) * n) (.list ds) := by
  obtain ⟨b1, b2, b3, b4, b5, b6⟩ := rp_all h
  exact ⟨b1, b2, Nat.succ_le_succ b3, b4, Nat.le_trans b5 (Nat.mul_le_mul_left _ l), by simp only [PyData.intsShort]; exact b6⟩
theorem rp_tuple {dep wt n : Nat} {ds : List PyData} (h : ∀ d ∈ ds, Rp dep wt d) (l : ds.length ≤ n) : Rp (dep + 1) ((wt + 1) * n) (.tuple ds) := by
  obtain ⟨b1, b2, b3, b4, b5, b6⟩ := rp_all h
  exact ⟨b1, b2, Nat.succ_le_succ b3, b4, Nat.le_trans b5 (Nat.mul_le_mul_left _ l), by simp only [PyData.intsShort]; exact b6⟩
theorem rp_str {z : Str} (h : NmS z) : Rp 0 8 (.str z) := ⟨rfl, rfl, Nat.zero_le _, nms_ok h, h.1, rfl⟩
theorem Rp.shown {dep wt : Nat} {d : PyData} (h : Rp dep wt d) (k : dep ≤ 32) (m : wt ≤ 1048576) : d.showable = true ∧ d.hasDict = false ∧ d.depth ≤ 32 ∧ d.shown.length ≤ sizeLine := by
  have e20 : (2 : Nat) ^ 20 = 1048576 := by decide
  refine ⟨h.sh, h.nd, Nat.le_trans h.dp k, Nat.le_trans (PyProof.Rows.shown_le13 ?_ h.is) (by decide)⟩
  show (d.canLay0 && decide (d.depth ≤ 64) && decide (PyData.weight d ≤ 2 ^ 20)) = true
  have a := h.dp
  have b := h.wt
  rw [h.ly, decide_eq_true (by omega), decide_eq_true (by omega)]
  rfl
theorem rp_int {c : Int} (h : -999999 ≤ c ∧ c ≤ 999999) : Rp 0 20 (.int c) := by
  refine ⟨?_, rfl, Nat.zero_le _, rfl, ?_, PyProof.Rows.intsShort_of_noneOrIn (lo := -999999999999) (hi := 999999999999) (by decide) (by decide) (.int c) (by
    simp only [PyProof.Rows.noneOrIn, Bool.and_eq_true, decide_eq_true_eq]
    omega)⟩
  · refine decide_eq_true ?_
    have e20 : (2 : Nat) ^ 20 = 1048576 := by decide
    have lt : c.natAbs < 2 ^ 20 := by omega
    by_cases z : c.natAbs = 0
    · rw [z]
      decide
    · exact (Nat.log2_lt z).2 (Nat.lt_of_lt_of_le lt (Nat.pow_le_pow_right (by decide) (by decide)))
  show (if c == 0 then 0 else c.natAbs.log2 + 1) ≤ 20
  split
  · exact Nat.zero_le _
  · rename_i ne
    have nz : c ≠ 0 := fun e => ne (by rw [e]; rfl)
    have p : c.natAbs ≠ 0 := by omega
    have e20 : (2 : Nat) ^ 20 = 1048576 := by decide
    have lt : c.natAbs < 2 ^ 20 := by omega
    have := (Nat.log2_lt p).mpr lt
    omega
/-- orders and pays -/
theorem rp_ord {o : Grp} (h : ∀ n ∈ o, NmS n) (l : o.length ≤ 5) : Rp 1 45 (.tuple (encG o)) := by
  refine rp_tuple (wt := 8) (n := 5) (fun d m => ?_) (by rw [encG, List.length_map]; exact l)
  obtain ⟨n, hn, rfl⟩ := List.mem_map.mp m
  exact rp_str (h n hn)
theorem rp_pay {xs : List Int} (h : ∀ x ∈ xs, -999999 ≤ x ∧ x ≤ 999999) (l : xs.length ≤ 5) : Rp 1 105 (.tuple (encI xs)) := by
  refine rp_tuple (wt := 20) (n := 5) (fun d m => ?_) (by rw [encI, List.length_map]; exact l)
  obtain ⟨n, hn, rfl⟩ := List.mem_map.mp m
  exact rp_int (h n hn)
theorem ord_shaped {o : Grp} (h : ∀ n ∈ o, NmS n) (l : o.length ≤ 5) : SeqAt.shaped (.tuple (encG o)) = true := by
  have r := rp_ord h l
  unfold SeqAt.shaped
  have a := r.dp
  rw [r.ly, decide_eq_true (by omega)]
  rfl
theorem ints_shaped (xs : List Int) : SeqAt.shaped (.tuple (encI xs)) = true := by
  have e : ∀ xs : List Int, PyData.canLayAll0 (encI xs) = true ∧ PyData.depthAll (encI xs) = 0 := by
    intro xs
    induction xs with
    | nil => exact ⟨rfl, rfl⟩
    | cons x r ih =>
      refine ⟨?_, ?_⟩
      · show (true && PyData.canLayAll0 (encI r)) = true
        rw [ih.1]
        rfl
      · show max 0 (PyData.depthAll (encI r)) = 0
        rw [ih.2]
        rfl
  obtain ⟨a, b⟩ := e xs
  unfold SeqAt.shaped
  show (PyData.canLayAll0 (encI xs) && decide (PyData.depthAll (encI xs) + 1 ≤ 64)) = true
  rw [a, b]
  rfl
theorem eqv_ints : ∀ xs ys : List Int, PyData.eqv (.tuple (encI xs)) (.tuple (encI ys)) = decide (xs = ys) := by
  have e : ∀ xs ys : List Int, PyData.eqvAll (encI xs) (encI ys) = decide (xs = ys) := by
    intro xs
    induction xs with
    | nil =>
      intro ys
      cases ys with
      | nil => rfl
      | cons y r => rfl
    | cons x r ih =>
      intro ys
      cases ys with
      | nil => rfl
      | cons y t =>
        show (PyData.eqv (.int x) (.int y) && PyData.eqvAll (encI r) (encI t)) = _
        rw [ih t]
        have q : PyData.eqv (.int x) (.int y) = decide (x = y) := by
          simp only [PyData.eqv]
          rw [Bool.eq_iff_iff, decide_eq_true_iff]
          simp
        rw [q, Bool.eq_iff_iff, Bool.and_eq_true, decide_eq_true_iff, decide_eq_true_iff, decide_eq_true_iff, List.cons.injEq]
  intro xs ys
  simp only [PyData.eqv]
  exact e xs ys
theorem dp_intsV {K : PySem.W.Frag} {H : Hp} : ∀ xs : List Int, DpAll K H (xs.map V.int) (encI xs)
  | [] => .nil
  | x :: r => .cons (.int x) (dp_intsV r)
/-! pays of those who come first -/
theorem sum_tele {f : Nat → Int} : ∀ k : Nat, ((List.range k).map fun i => f (i + 1) - f i).sum = f k - f 0
  | 0 => by simp
  | k + 1 => by
    rw [List.range_succ, List.map_append, List.sum_append, sum_tele k]
    simp
    omega
theorem pay_first {ns : List Str} {W : Grp → Int} {os : List Str} (h : ns.Pairwise ltS) (z : W [] = 0) (p : os.Perm ns) {k : Nat} (hk : k ≤ os.length) {g : Grp} (hg : ∀ n, n ∈ g ↔ n ∈ os.take k) : shareOf ns (ns.map (payC W os)) g = W (sortN (os.take k)) := by
  have nd : os.Nodup := p.nodup_iff.mpr (asc_nodup h)
  rw [share_pay h p g, bring_pay h p g os [] rfl]
  have e1 : (os.filter fun n => decide (n ∈ g)) = os.take k := by
    have q : ∀ x, decide (x ∈ g) = decide (x ∈ os.take k) := fun x => by
      simp only [hg x]
    simp only [q]
    have sp : os = os.take k ++ os.drop k := (List.take_append_drop k os).symm
    have a : (os.take k).filter (fun n => decide (n ∈ os.take k)) = os.take k := List.filter_eq_self.mpr fun x m => decide_eq_true m
    have b : (os.drop k).filter (fun n => decide (n ∈ os.take k)) = [] := List.filter_eq_nil_iff.mpr fun x m e => by
      have nd2 := nd
      rw [sp] at nd2
      exact (List.nodup_append.mp nd2).2.2 x (of_decide_eq_true e) x m rfl
    conv => lhs; rw [sp]
    rw [List.filter_append]
    have a' : List.filter (fun n => decide (n ∈ (os.take k ++ os.drop k).take k)) (os.take k) = os.take k := by rw [← sp]; exact a
    have b' : List.filter (fun n => decide (n ∈ (os.take k ++ os.drop k).take k)) (os.drop k) = [] := by rw [← sp]; exact b
    rw [a', b', List.append_nil]
  rw [e1]
  have e2 : (os.take k).map (payC W os) = (List.range k).map fun i => W (sortN (os.take (i + 1))) - W (sortN (os.take i)) := by
    refine List.ext_getElem? fun j => ?_
    rw [List.getElem?_map, List.getElem?_map, List.getElem?_take]
    by_cases c : j < k
    · rw [if_pos c, List.getElem?_range c]
      have lt : j < os.length := by omega
      rw [List.getElem?_eq_getElem lt]
      show some (payC W os os[j]) = some _
      rw [payC_at nd (List.getElem?_eq_getElem lt)]
    · rw [if_neg c, List.getElem?_eq_none (by rw [List.length_range]; omega)]
      rfl
  rw [e2, sum_tele (f := fun i => W (sortN (os.take i)))]
  show W (sortN (os.take k)) - W (sortN (os.take 0)) = _
  rw [List.take_zero, show sortN [] = [] from List.mergeSort_nil, z]
  omega
end Gd
/-! len of a set of tuples of ints -/
namespace Gd
open PySem PySem.Spec PyProof.Rows L2
theorem cr_lenSetT {X : Cx} : CallR X (.builtin "len") (fun vs H Q => ∃ (a : Addr) (L : List (Addr × List Int)), vs = [V.ref a] ∧ H a = some (SetTO X.prog X.w a L) ∧ (∀ p ∈ L, SqT X.K H p.1 (p.2.map V.int)) ∧ Q (.int ((L.length : Nat) : Int)) H) := by
  intro pins s σ H vs us Q I rel need
  obtain ⟨a, L, rfl, atA, tups, goal⟩ := need
  obtain ⟨es, ep, tb, R⟩ := (I.hok a _ atA).1.full fun t m => I.isT (tups t m)
  obtain ⟨ob, hob, oex, odat⟩ := R.ob
  have few := R.few
  have esz := R.size
  rw [Vals.ref1 rel]
  exact call_len_set hob oex odat R.fits (by omega) ⟨.int _, H, I.tok _, ⟨_, by rw [esz]⟩, goal⟩
end Gd
/-! the game of a group alone -/
namespace Gd
open PySem PySem.Spec PyProof.Rows L2
/-- is a group within another one -/
def inG (g h : Grp) : Bool := h.all fun n => decide (n ∈ g)
theorem lex_sub {ns : List Str} {g : Grp} (hg : g ∈ lexG ns) : ∀ n ∈ g, n ∈ ns := by
  induction ns generalizing g with
  | nil =>
    intro n hn
    rw [List.mem_singleton.mp hg] at hn
    exact hn
  | cons m r ih =>
    have hg : g ∈ [] :: ((lexG r).map (fun q => m :: q) ++ (lexG r).tail) := hg
    intro n hn
    rcases List.mem_cons.mp hg with rfl | hg
    · cases hn
    rcases List.mem_append.mp hg with hg | hg
    · obtain ⟨q, hq, rfl⟩ := List.mem_map.mp hg
      rcases List.mem_cons.mp hn with rfl | hn
      · exact List.mem_cons_self ..
      · exact List.mem_cons_of_mem _ (ih hq n hn)
    · exact List.mem_cons_of_mem _ (ih (List.mem_of_mem_tail hg) n hn)
theorem lex_head : ∀ ns : List Str, lexG ns = [] :: (lexG ns).tail
  | [] => rfl
  | _ :: _ => rfl
theorem lex_cut : ∀ {ns g : List Str}, ns.Nodup → g.Sublist ns → (lexG ns).filter (inG g) = lexG g
  | _, _, _, .slnil => rfl
  | m :: r, g, nd, .cons _ s => by
    obtain ⟨nm, nd'⟩ := List.nodup_cons.mp nd
    have ih := lex_cut nd' s
    have ng : m ∉ g := fun q => nm (s.subset q)
    show ([] :: ((lexG r).map (fun q => m :: q) ++ (lexG r).tail)).filter (inG g) = _
    have e1 : ((lexG r).map (fun q => m :: q)).filter (inG g) = [] := by
      rw [List.filter_eq_nil_iff]
      intro q hq
      obtain ⟨q', _, rfl⟩ := List.mem_map.mp hq
      simp [inG, ng]
    rw [List.filter_cons_of_pos (by rfl), List.filter_append, e1, List.nil_append, ← ih]
    conv => rhs; rw [lex_head r, List.filter_cons_of_pos (by rfl)]
  | m :: r, _ :: g, nd, .cons₂ _ s => by
    obtain ⟨nm, nd'⟩ := List.nodup_cons.mp nd
    have ih := lex_cut nd' s
    show ([] :: ((lexG r).map (fun q => m :: q) ++ (lexG r).tail)).filter (inG (m :: g)) = [] :: ((lexG g).map (fun q => m :: q) ++ (lexG g).tail)
    have e0 : ∀ q ∈ lexG r, inG (m :: g) q = inG g q := fun q hq => by
      unfold inG
      rw [Bool.eq_iff_iff, List.all_eq_true, List.all_eq_true]
      constructor
      · intro k n hn
        have z := of_decide_eq_true (k n hn)
        rcases List.mem_cons.mp z with rfl | z
        · exact absurd (lex_sub hq n hn) nm
        · exact decide_eq_true z
      · intro k n hn
        exact decide_eq_true (List.mem_cons_of_mem _ (of_decide_eq_true (k n hn)))
    have e1 : ((lexG r).map (fun q => m :: q)).filter (inG (m :: g)) = (lexG g).map (fun q => m :: q) := by
      rw [List.filter_map, ← ih]
      congr 1
      refine List.filter_congr fun q hq => ?_
      rw [← e0 q hq]
      show ((m :: q).all fun n => decide (n ∈ m :: g)) = _
      rw [List.all_cons, decide_eq_true (List.mem_cons_self ..), Bool.true_and]
      rfl
    have e2 : ((lexG r).tail).filter (inG (m :: g)) = (lexG g).tail := by
      rw [List.filter_congr fun q hq => e0 q (List.mem_of_mem_tail hq), ← ih]
      conv => rhs; rw [lex_head r, List.filter_cons_of_pos (by rfl)]
      rfl
    rw [List.filter_cons_of_pos (by rfl), List.filter_append, e1, e2]
theorem asc_group {ns : List Str} {g : Grp} (h : ns.Pairwise ltS) (hg : g ∈ groupsOf ns) : g.Pairwise ltS := h.sublist (groups_mem.mp hg)
theorem groups_cut {ns : List Str} {g : Grp} (h : ns.Pairwise ltS) (hg : g ∈ groupsOf ns) : (groupsOf ns).filter (inG g) = groupsOf g := by
  rw [groupsOf_lex h, groupsOf_lex (asc_group h hg), lex_cut (asc_nodup h) (groups_mem.mp hg)]
theorem group_trans {ns : List Str} {g k : Grp} (hg : g ∈ groupsOf ns) (hk : k ∈ groupsOf g) : k ∈ groupsOf ns := groups_mem.mpr ((groups_mem.mp hk).trans (groups_mem.mp hg))
/-- a group alone of a growing game is growing -/
theorem smod_cut {ns : List Str} {W : Grp → Int} {g : Grp} (h : ns.Pairwise ltS) (hg : g ∈ groupsOf ns) (s : Smod ns W) : Smod g W := by
  rw [smod_iff (asc_group h hg)]
  rw [smod_iff h] at s
  exact fun k hk n hn m hm => s k (group_trans hg hk) n ((groups_mem.mp hg).subset hn) m ((groups_mem.mp hg).subset hm)
theorem sortN_two {ns : List Str} {g : Grp} {n m : Str} (h : ns.Pairwise ltS) (hg : g ∈ groupsOf ns) (ng : n ∉ g) (mg : m ∉ g) (ne : n ≠ m) : sortN (sortN (g ++ [m]) ++ [n]) = sortN (g ++ [n, m]) := by
  refine sort_perm_asc (((List.mergeSort_perm (g ++ [m]) _).append_right [n]).trans ?_) (sort_asc (two_nodup h hg ng mg ne))
  rw [List.append_assoc]
  exact ((List.Perm.swap n m []).append_left g).trans (List.mergeSort_perm _ _).symm
theorem sortN_swap {ns : List Str} {g : Grp} {n m : Str} (h : ns.Pairwise ltS) (hg : g ∈ groupsOf ns) (ng : n ∉ g) (mg : m ∉ g) (ne : n ≠ m) : sortN (g ++ [m, n]) = sortN (g ++ [n, m]) :=
  sort_perm_asc (((List.Perm.swap n m []).append_left g).trans (List.mergeSort_perm _ _).symm) (sort_asc (two_nodup h hg ng mg ne))
theorem ltS_or {ns : List Str} : ∀ (_ : ns.Pairwise ltS) {n m : Str}, n ∈ ns → m ∈ ns → n ≠ m → ltS n m ∨ ltS m n
  | h, n, m, hn, hm, ne => by
    induction ns with
    | nil => cases hn
    | cons x r ih =>
      obtain ⟨hx, hr⟩ := List.pairwise_cons.mp h
      rcases List.mem_cons.mp hn with e1 | n1
      · rcases List.mem_cons.mp hm with e2 | m1
        · exact absurd (e1.trans e2.symm) ne
        · exact .inl (e1 ▸ hx _ m1)
      · rcases List.mem_cons.mp hm with e2 | m1
        · exact .inr (e2 ▸ hx _ n1)
        · exact ih hr n1 m1
theorem smod_gaps {ns : List Str} {W : Grp → Int} (h : ns.Pairwise ltS) : (((trisOf ns).map (gapOf W)).all fun z => decide (0 ≤ z)) = true ↔ Smod ns W := by
  rw [smod_iff h, List.all_map, List.all_eq_true]
  have br : ∀ (g : Grp) (n m : Str), g ∈ groupsOf ns → n ∉ g → m ∉ g → n ≠ m → (¬ BrP W g n m ↔ 0 ≤ gapOf W (g, n, m)) := fun g n m hg ng mg ne => by
    unfold BrP gapOf
    rw [sortN_two h hg ng mg ne]
    show ¬ _ ↔ 0 ≤ W (sortN (g ++ [n, m])) + W g - W (sortN (g ++ [n])) - W (sortN (g ++ [m]))
    omega
  constructor
  · intro k g hg n hn m hm ng mg ne
    rcases ltS_or h hn hm ne with lt | lt
    · exact (br g n m hg ng mg ne).mpr (of_decide_eq_true (k (g, n, m) ((mem_tris h).mpr ⟨hg, hn, hm, lt, ng, mg⟩)))
    · have e := of_decide_eq_true (k (g, m, n) ((mem_tris h).mpr ⟨hg, hm, hn, lt, mg, ng⟩))
      refine (br g n m hg ng mg ne).mpr ?_
      unfold gapOf at e ⊢
      have e : 0 ≤ W (sortN (g ++ [m, n])) + W g - W (sortN (g ++ [m])) - W (sortN (g ++ [n])) := e
      rw [sortN_swap h hg ng mg ne] at e
      show 0 ≤ W (sortN (g ++ [n, m])) + W g - W (sortN (g ++ [n])) - W (sortN (g ++ [m]))
      omega
  · rintro k ⟨g, n, m⟩ ht
    obtain ⟨hg, hn, hm, lt, ng, mg⟩ := (mem_tris h).mp ht
    have lt : ltS n m := lt
    exact decide_eq_true ((br g n m hg ng mg (ltS_ne lt)).mp (k g hg n hn m hm ng mg (ltS_ne lt)))
/-- the groups that leave, as the law lists them -/
def leavesL (ns : List Str) (W : Grp → Int) (xs : List Int) : List Grp := (groupsOf ns).filter fun g => decide (shareOf ns xs g < W g)
/-- the orders whose pay some group leaves -/
def badOf (ns : List Str) (W : Grp → Int) : List Grp := (ordIter ns ns.length).filter fun o => !(leavesL ns W (ns.map (payC W o))).isEmpty
theorem bad_nil {ns : List Str} {W : Grp → Int} (h : ns.Pairwise ltS) (z : W [] = 0) : badOf ns W = [] ↔ Smod ns W := by
  rw [grow_iff h z]
  unfold badOf
  rw [List.filter_eq_nil_iff]
  constructor
  · intro k g hg os p
    have e := k os ((mem_orders (asc_nodup h)).mpr p)
    have e : (leavesL ns W (ns.map (payC W os))).isEmpty = true := by
      cases q : (leavesL ns W (ns.map (payC W os))).isEmpty with
      | true => rfl
      | false => rw [q] at e; exact absurd rfl e
    rw [List.isEmpty_iff] at e
    unfold leavesL at e
    rw [List.filter_eq_nil_iff] at e
    have := e g hg
    rw [decide_eq_true_iff] at this
    omega
  · intro k os m
    have e : leavesL ns W (ns.map (payC W os)) = [] := by
      unfold leavesL
      rw [List.filter_eq_nil_iff]
      intro g hg
      have := k g hg os ((mem_orders (asc_nodup h)).mp m)
      rw [decide_eq_true_iff]
      omega
    rw [e]
    intro q
    exact absurd q (by decide)
/-- repr of a truth -/
theorem call_reprB {X : Cx} : CallR X (.builtin "repr") (fun xs H Q => ∃ b : Bool, xs = [.bl b] ∧ Q (.str (if b then "True" else "False")) H) := by
  intro pins s σ H xs us Q I r h
  obtain ⟨b, rfl, q⟩ := h
  obtain ⟨u, rfl, ru⟩ := vals1 r
  cases ru
  exact PySem.P.repr_of_bool ⟨.str _, H, I.tok _, ⟨_, rfl⟩, q⟩
theorem inV_bools (bs : List Bool) : inV (.bl false) (bs.map V.bl) = decide (false ∈ bs) := by
  unfold inV
  rw [List.any_map, Bool.eq_iff_iff, decide_eq_true_iff, List.any_eq_true]
  constructor
  · rintro ⟨x, hx, e⟩
    have : x = false := by cases x <;> simp_all [eqV]
    rw [← this]
    exact hx
  · exact fun h => ⟨false, h, by simp [eqV]⟩
theorem flat_bools (bs : List Bool) : (bs.map V.bl).all flatV = true := by
  rw [List.all_map, List.all_eq_true]
  intro _ _
  rfl
/-- ones alone are plain data -/
theorem dp_ones {K : PySem.W.Frag} {H : Hp} : ∀ m : Nat, DpAll K H (List.replicate m (V.int 1)) (List.replicate m (PyData.int 1))
  | 0 => .nil
  | m + 1 => .cons (.int _) (dp_ones m)
theorem isEmpty_rep {α : Type} (m : Nat) (x : α) : (List.replicate m x).isEmpty = decide (m = 0) := by
  cases m with
  | zero => rfl
  | succ m => rfl
/-- behind a call all is as before but one instance -/
theorem kp_at {gm : Addr} {H H' : Hp} {c dx : Addr} {fs : List (Str × V)} (h : H gm = some (.ins c dx fs)) (k : Kp gm H H') {b : Addr} {o : HO} (e : H b = some o) (n : ∀ c dx fs, o ≠ .ins c dx fs) : H' b = some o :=
  k b o (fun z => n c dx fs (by rw [z, h] at e; exact (Option.some.inj e).symm)) e
end Gd
/-! set() of a tuple of texts, and sorted() of it -/
namespace Gd
open PySem PySem.Spec PyProof.Rows L2 PySem.Calls PySem.W PySem.SeqAt PySem.Froz
/-- the payload of a set of texts that can be walked -/
structure TxR (P : Program) (w : World) (D : SD) (l : List Str) : Prop where
  ok : TxOk P w D l
  nd : l.Nodup
  ris : Ris D.2.2.place.toList
  led : w.params.followText "set-order" = true ∨ D.2.2.led = true
section
variable {P : Program} {w : World} {A : Around} {E : Value → Shared → Prop} {s : Shared}
theorem TxR.none : TxR P w (#[], 0, .fresh 0 0 (!w.params.followText "set-order")) [] where
  ok := .nil rfl
  nd := .nil
  ris := .nil
  led := by
    show _ ∨ (!w.params.followText "set-order") = true
    cases w.params.followText "set-order"
    · exact .inr rfl
    · exact .inl rfl
theorem tail_ris {ep : Nat} {es : Array (Int × Value)} {t : SetTable} {b : Bool} (r : Ris t.place.toList) : Ris (tailTx ep es t b).2.2.place.toList ∧ (tailTx ep es t b).2.2.led = t.led := by
  unfold tailTx
  split
  · exact ⟨relayAll_ris t es _, relayAll_led t es _⟩
  · exact ⟨r, rfl⟩
theorem TxR.more {D : SD} {l : List Str} {k : Str} (F : TxR P w D l) (u : Tok) (n : k ∉ l) : TxR P w (addTx (hashStr w k) (.str k u) D) (k :: l) := by
  obtain ⟨es, ep, t⟩ := D
  have r1 := layNew_ris t es (hashStr w k) (.str k u) F.ris
  have d1 := layNew_led t es (hashStr w k) (.str k u)
  have both : ∀ t1 : SetTable, (if t1.plain = true then { t1 with plain := false } else t1).place = t1.place ∧ (if t1.plain = true then { t1 with plain := false } else t1).led = t1.led := fun t1 => by
    split <;> exact ⟨rfl, rfl⟩
  obtain ⟨b1, b2⟩ := both (layNew t es (hashStr w k) (.str k u)).2.1
  have z := tail_ris (ep := ep) (es := (layNew t es (hashStr w k) (.str k u)).1) (b := (layNew t es (hashStr w k) (.str k u)).2.2.1) (by rw [b1]; exact r1)
  refine ⟨add_ok u F.ok, List.nodup_cons.mpr ⟨n, F.nd⟩, z.1, F.led.imp id fun e => ?_⟩
  exact z.2.trans (b2.trans (d1.trans e))
/-- what is in it comes to nothing -/
theorem put_old {a : Addr} {D : SD} {l : List Str} {k : Str} {u : Tok} {Q : Bool → Shared → Prop} (ho : s.heap.get? a = some (sObj "set" D)) (F : TxOk P w D l) (hk : k ∈ l) (hb : l.length + 1 < scanBound) (h : Q false s) :
    wpAny (model P w) A (setAddHashed a (.str k u) (hashStr w k)) Q E s := by
  obtain ⟨es, ep, t⟩ := D
  have sz : es.size = l.length := F.sz
  have there : ∃ j, List.findIdx? (fun e => (strKind P w).is k e.2) es.toList = some j := by
    obtain ⟨e, he, q⟩ := (F.mem k).mp hk
    cases z : List.findIdx? (fun e => (strKind P w).is k e.2) es.toList with
    | none => exact absurd q (by rw [List.findIdx?_eq_none_iff.mp z e he]; decide)
    | some j => exact ⟨j, rfl⟩
  obtain ⟨j, hj⟩ := there
  unfold setAddHashed setAddHashedIn
  refine wpAny_holding (wpAny_bind (wpAny_setState_of ho rfl F.fit ?_))
  dsimp only
  rw [byScan_of rfl (show es.size < scanBound by omega) F.el]
  simp only [↓reduceIte]
  unfold setAddByScan
  refine wpAny_bind (wpAny_bind (wpAny_rule (wpAny_bind (wpAny_setScan_of (knd := strKind P w) (k := k) (is_str k u) ho rfl F.fit F.el ?_))))
  rw [hj]
  exact wpAny_pure (wpAny_pure h)
/-- the set of the texts l, in any order, stands at a -/
def SetS (P : Program) (w : World) (h : Heap) (a : Addr) (l : List Str) : Prop := ∃ D : SD, h.get? a = some (sObj "set" D) ∧ TxR P w D l
theorem SetS.keep {h h' : Heap} {a : Addr} {l : List Str} (x : SetS P w h a l) (k : ∀ o, h.get? a = some o → h'.get? a = some o) : SetS P w h' a l :=
  x.elim fun D y => ⟨D, k _ y.1, y.2⟩
/-- one more -/
theorem put_one {a : Addr} {l : List Str} {k : Str} {u : Tok} {Q : Bool → Shared → Prop} (x : SetS P w s.heap a l) (hb : l.length + 1 < scanBound)
    (h : ∀ (b : Bool) (h' : Heap) (m : List Str), SetS P w h' a m → (∀ z, z ∈ m ↔ z ∈ l ∨ z = k) → m.length ≤ l.length + 1 → (∀ c o, c ≠ a → s.heap.get? c = some o → h'.get? c = some o) → h'.objs.size = s.heap.objs.size → Q b { s with heap := h' }) :
    wpAny (model P w) A (setAddHashed a (.str k u) (hashStr w k)) Q E s := by
  obtain ⟨D, ho, F⟩ := x
  by_cases m : k ∈ l
  · refine put_old ho F.ok m hb (h false s.heap l ⟨D, ho, F⟩ (fun z => ⟨.inl, fun q => q.elim id fun e => e ▸ m⟩) (Nat.le_succ _) (fun _ _ _ e => e) rfl)
  · refine add_x ho F.ok m hb (h true _ (k :: l) ⟨_, get_upd _ ho rfl, F.more u m⟩ (fun z => by rw [List.mem_cons, or_comm]) (Nat.le_refl _) (fun c o n e => ?_) ?_)
    · exact Heap.get?_update_of_ne _ (Ne.symm n) e
    · exact Heap.size_update ..
/-- the loop of set.update -/
theorem put_walk {I : Addr} {fp wr : List Addr} {G : Array GenState → Array GenState → Prop} {n : Nat} {Pv : Nat → Value → Prop} {St : Nat → Shared → Prop} {R : Result → Shared → Prop}
    (W : WalksS P w A.in1 I fp wr G n Pv St) (a : Addr) (na : a ∉ fp) (ns : List Str) (hn : n = ns.length) (hb : ns.length + 1 < scanBound) (hv : ∀ i v, Pv i v → ∃ k t, ns[i]? = some k ∧ v = .str k t) :
    ∀ (m i : Nat) (s : Shared) (l : List Str), i + m = n → St i s → l.length ≤ i → (∀ z, z ∈ l ↔ z ∈ ns.take i) → SetS P w s.heap a l →
      (∀ s' l', Moved (a :: wr) G s s' → l'.length ≤ n → (∀ z, z ∈ l' ↔ z ∈ ns) → SetS P w s'.heap a l' → R (.ok (.ret .none)) s') →
      codeAny (model P w) A (.builtin "set.update.loop" ⟨[.ref a, .ref I], []⟩) R s := by
  have nw : a ∉ wr := fun q => na (W.sub _ q)
  have up : ∀ b ∈ wr, b ∈ a :: wr := fun b q => List.mem_cons_of_mem _ q
  intro m
  induction m with
  | zero =>
    intro i s l hi st ll hl x goal
    obtain rfl : i = n := by omega
    refine codeAny_builtin F.entry_set_update_loop ?_
    rw [Around.under_plainId F.plain_set_update_loop _]
    show wpAny _ A.in1 (pyNext (.ref I) >>= _) _ _ s
    refine wpAny_bind (W.done s _ _ st fun s1 mv => ?_)
    show wpAny _ A.in1 (ret Value.none) _ _ s1
    refine wpAny_pure (goal s1 l (mv.mono up) ll (fun z => ?_) (x.keep fun o e => mv.heap a o nw e))
    rw [hl z, List.take_of_length_le (by omega)]
  | succ m ih =>
    intro i s l hi st ll hl x goal
    refine codeAny_builtin F.entry_set_update_loop ?_
    rw [Around.under_plainId F.plain_set_update_loop _]
    show wpAny _ A.in1 (pyNext (.ref I) >>= _) _ _ s
    refine wpAny_bind (W.item i s _ _ (by omega) st fun v s1 pv st1 mv => ?_)
    obtain ⟨k, t, hk, rfl⟩ := hv i v pv
    have x1 := x.keep fun o e => mv.heap a o nw e
    show wpAny _ A.in1 (holding [Value.str k t] (setAdd a (.str k t)) >>= _) _ _ s1
    refine wpAny_bind (wpAny_holding ?_)
    unfold setAdd
    refine wpAny_holding (wpAny_bind ((strKind P w).pyHash (k := k) (is_str k t) ?_))
    refine put_one (s := { s1 with toks := s1.toks + 1 }) x1 (by omega) fun b h2 l2 x2 hm hl2 kp sz => ?_
    refine wpAny_pure ⟨plainId_quiet F.plain_set_update_loop _, ih (i + 1) _ l2 (by omega) (W.frame _ s1 _ _ st1 (Nat.le_succ _) fun c hc o e => ?_) (by omega) (fun z => ?_) x2 fun s3 l3 mv3 ll3 hl3 x3 => ?_⟩
    · exact kp c o (fun q => na (q ▸ hc)) e
    · rw [hm, hl, List.take_add_one, hk, List.mem_append]
      exact or_congr Iff.rfl List.mem_singleton.symm
    · exact goal s3 l3 (Moved.trans W.gtrans ((mv.mono up).then_heap (Nat.le_succ _) fun c o hc e => kp c o (fun q => hc (q ▸ List.mem_cons_self)) e) mv3) ll3 hl3 x3
/-- a set with nothing in it, as the model lays it -/
def bareSet (w : World) : Obj := { cls := .type "set", dict := none, data := .set #[] 0 (.fresh 0 0 (!w.params.followText "set-order")) }
theorem SetS.bare {h : Heap} {a : Addr} (e : h.get? a = some (bareSet w)) : SetS P w h a [] := ⟨(#[], 0, .fresh 0 0 (!w.params.followText "set-order")), e, .none⟩
set_option maxHeartbeats 3200000 in
/-- set(t), t a tuple of texts -/
theorem call_setS {t : Addr} {vs : Array Value} (ns : List Str) {Q : Value → Shared → Prop} (hh : A.handled = none) (ht : s.heap.IsTuple t vs) (rv : StrsAre vs.toList ns) (hb : ns.length + 1 < scanBound)
    (goal : ∀ (h' : Heap) (tk : Nat) (l : List Str), SetS P w h' s.heap.objs.size l → l.length ≤ ns.length → (∀ z, z ∈ l ↔ z ∈ ns) → (∀ b o, s.heap.get? b = some o → h'.get? b = some o) → Q (.ref s.heap.objs.size) { s with heap := h', toks := tk }) :
    wpAny (model P w) A (call (.type "set") [.ref t]) Q E s := by
  have vl : vs.size = ns.length := by
    have q := StrsAre.len_eq rv
    rw [Array.length_toList] at q
    exact q
  obtain ⟨cc, tl, hmro⟩ := PySem.F.called_set.mro
  have hmade := PySem.F.called_set.made
  have hsub := PySem.F.called_set.sub
  have hnot := PySem.F.called_set.notType
  have hcan := PySem.F.called_set.canCreate
  have htc := PySem.F.typeCall_set_1 (.ref t)
  refine wpAny_call (codeAny_of_tree ?_)
  show wpAny _ _ (callAny (.type "set") _) _ _ _
  refine wpAny_pure ⟨Code.quiet_builtin _ (by decide +kernel), codeAny_builtin PySem.F.entry_type_call ?_⟩
  rw [Around.under_plain (weight_type_call_type "set" [.ref t] []) rfl]
  repeat (any_goals (first | assumption | wp_step))
  refine codeAny_mono (code_set_led1 (.ref t) (E := E) (Q₁ := fun v s1 => v = .ref s.heap.objs.size ∧ s1 = { s with heap := s.heap.push (bareSet w) }) ⟨rfl, rfl⟩) fun r s1 hr => ?_
  cases r with
  | error e => exact hr
  | ok f =>
    cases f with
    | ret v =>
      obtain ⟨rfl, rfl⟩ := hr
      have stands : (s.heap.push (bareSet w)).get? s.heap.objs.size = some (bareSet w) := Heap.get?_push_size _ rfl
      have kind : Shared.TypeIs { s with heap := s.heap.push (bareSet w) } (.ref s.heap.objs.size) "set" := ⟨_, stands, rfl⟩
      have hlook := PySem.F.called_set.init.lookup
      have hbind := PySem.F.called_set.init.bind (.ref s.heap.objs.size)
      repeat (any_goals (first | assumption | wp_step))
      refine codeAny_mono (codeAny_call_builtin (R := wants (fun r s2 => r = .none ∧ ∃ h' tk l, s2 = { s with heap := h', toks := tk } ∧ SetS P w h' s.heap.objs.size l ∧ l.length ≤ ns.length ∧ (∀ z, z ∈ l ↔ z ∈ ns) ∧
          (∀ b o, s.heap.get? b = some o → h'.get? b = some o)) E) PySem.F.called_set.init.plain PySem.F.entry_set_init (check_set_init_1 kind ?_)) fun r2 s2 hr2 => ?_
      · obtain ⟨o, ho, oc, ne, od⟩ := ht
        obtain ⟨ocls, odict, odata, oslots⟩ := o
        simp only at oc od
        subst oc
        subst od
        have ho1 : (s.heap.push (bareSet w)).get? t = some { cls := .type "tuple", dict := odict, data := .seq vs ne, slots := oslots } := Heap.get?_push_of_some _ ho
        have hsls := PySem.F.sub_tuple_set
        have hslf := PySem.F.sub_tuple_frozenset
        have hne : (Value.type "tuple" == Value.type "dict") = false := by decide
        have ht1 : (s.heap.push (bareSet w)).IsTuple t vs := ⟨_, ho1, rfl, ne, rfl⟩
        unfold Builtin.«set.__init__» noKeywords Builtin.Frozenset.updateFrom
        generalize hPI : pyIter = PI
        wp_walk
        subst hPI
        refine wpAny_pyIter_tuple ht1 (wpAny_bind (wpAny_runValue ?_))
        have lt : t < s.heap.objs.size := Heap.lt_size ho
        have z1 : (s.heap.push (bareSet w)).objs.size = s.heap.objs.size + 1 := Heap.size_push ..
        have h3 : A.in1.in1.in1.handled = none := by simp [hh]
        have nt : t ≠ (s.heap.push (bareSet w)).objs.size := by
          rw [z1]
          exact Nat.ne_of_lt (Nat.lt_succ_of_lt lt)
        have nf : s.heap.objs.size ∉ [(s.heap.push (bareSet w)).objs.size, t] := by
          rw [z1]
          simp only [List.mem_cons, List.not_mem_nil, or_false, not_or]
          exact ⟨Nat.ne_of_lt (Nat.lt_succ_self _), Nat.ne_of_gt lt⟩
        have each : ∀ (i : Nat) (v : Value), vs[i]? = some v → ∃ k u, ns[i]? = some k ∧ v = .str k u := fun i v hv => by
          have lti : i < ns.length := by
            rw [← vl]
            exact (Array.getElem?_eq_some_iff.mp hv).1
          obtain ⟨u, e⟩ := SS.strs_at rv i v (by rw [Array.getElem?_toList]; exact hv)
          refine ⟨ns[i], u, List.getElem?_eq_getElem lti, ?_⟩
          rw [e, List.getD_eq_getElem?_getD, List.getElem?_eq_getElem lti]
          rfl
        refine put_walk ((Walks.tuple h3 _ t nt vs).toS) s.heap.objs.size nf ns vl hb each vs.size 0 _ [] (Nat.zero_add _) ⟨⟨_, Heap.get?_push_size _ rfl, rfl, rfl⟩, ht1.push _⟩ (Nat.le_refl _) (fun z => ?_) ?_ fun s3 l mv ll hl x => ?_
        · rw [List.take_zero]
        · exact SetS.bare (Heap.get?_push_of_some _ stands)
        · obtain ⟨h4, g4, d4, tk4, os4⟩ := s3
          obtain rfl : g4 = s.gens := mv.gens
          obtain rfl : d4 = s.drawn := mv.drawn
          obtain rfl : os4 = s.os := mv.os
          show wpAny _ _ _ _ _ _
          refine wpAny_pure ?_
          show wpAny _ _ (ret Value.none) _ _ _
          refine wpAny_pure ⟨rfl, h4, tk4, l, rfl, x, vl ▸ ll, hl, fun b o e => ?_⟩
          have ltb := Heap.lt_size e
          refine mv.heap b o ?_ (Heap.get?_push_of_some _ (Heap.get?_push_of_some _ e))
          rw [z1]
          simp only [List.mem_cons, List.not_mem_nil, or_false, not_or]
          exact ⟨Nat.ne_of_lt ltb, Nat.ne_of_lt (Nat.lt_succ_of_lt ltb)⟩
      · cases r2 with
        | error e => exact hr2
        | ok f2 =>
          cases f2 with
          | ret r =>
            obtain ⟨rfl, h4, tk4, l, rfl, x, ll, hl, kp⟩ := hr2
            repeat (any_goals (first | assumption | wp_step))
            exact goal _ _ _ x ll hl kp
          | _ => exact hr2.elim
    | _ => exact hr.elim
end
/-- the set of texts, as a tracked thing -/
def SetSO (P : Program) (w : World) (a : Addr) (l : List Str) : HO := .ext fun h => SetS P w h a l
theorem setSO_new {P : Program} {w : World} {H : Hp} {h : Heap} {a : Addr} {l : List Str} (x : SetS P w h a l) : ObjOk P w H h a (SetSO P w a l) :=
  ⟨x, x.elim fun _ y => ⟨_, y.1⟩, fun h1 h2 p k => SetS.keep (h := h1) p k⟩
theorem strs_of_vals : ∀ {ns : List Str} {us : List Value}, Vals (ns.map V.str) us → StrsAre us ns
  | [], _, .nil => .nil
  | _ :: _, _, .cons r t => by
    obtain ⟨u, rfl⟩ := r
    exact .cons _ _ (strs_of_vals t)
def rSetOfS (K : PySem.W.Frag) (P : Program) (w : World) : List V → Hp → VK → Prop := fun xs H Q => ∃ (t : Addr) (ns : List Str), xs = [V.ref t] ∧ SqT K H t (ns.map V.str) ∧ ns.length ≤ 1000 ∧
  ∀ (a : Addr) (l : List Str), H a = none → l.Nodup → l.length ≤ ns.length → (∀ z, z ∈ l ↔ z ∈ ns) → Q (.ref a) (upd H a (SetSO P w a l))
theorem cr_setOfS {X : Cx} (hc : X.calm = true) : CallR X (.type "set") (rSetOfS X.K X.prog X.w) := by
  intro pins s σ H xs us Q I r h
  obtain ⟨t, ns, rfl, ht, few, q⟩ := h
  rw [Vals.ref1 r]
  obtain ⟨its, rv, pt, hz⟩ := I.tuple ht
  have hn : H s.heap.objs.size = none := I.hok.fresh (Nat.le_refl _)
  refine call_setS (P := X.prog) (w := X.w) (vs := its.toArray) ns (I.ok.hd hc) pt (by simpa using strs_of_vals rv) (by unfold scanBound; omega) fun h' tk l x ll hl k => ?_
  exact ⟨.ref s.heap.objs.size, upd H s.heap.objs.size (SetSO X.prog X.w s.heap.objs.size l), I.laid (t' := tk) k (Nat.le_refl _) (setSO_new x), rfl, q _ l hn (x.elim fun _ y => y.2.nd) ll hl⟩
def vS : Value → Str
  | .str k _ => k
  | _ => Str.empty
theorem vS_of {k : Str} {v : Value} (h : Value.isStrOf k v = true) : ∃ t, v = .str k t := by
  cases v <;> simp_all [Value.isStrOf]
theorem each_vS : ∀ {vs : List Value}, (∀ v ∈ vs, ∃ t, v = .str (vS v) t) → EachIs (fun v x => ∃ t, v = Value.str x t) vs (vs.map vS)
  | [], _ => .nil
  | v :: vs, h => .cons (h v List.mem_cons_self) (each_vS fun u m => h u (List.mem_cons_of_mem _ m))
theorem perm_of_mem : ∀ {l m : List Str}, l.Nodup → m.length = l.length → (∀ z, z ∈ l → z ∈ m) → m.Perm l
  | [], m, _, len, _ => by
    rw [List.eq_nil_of_length_eq_zero len]
  | x :: l, m, nd, len, h => by
    obtain ⟨nx, nd'⟩ := List.nodup_cons.mp nd
    obtain ⟨a, b, rfl⟩ := List.append_of_mem (h x List.mem_cons_self)
    refine List.perm_middle.trans ((perm_of_mem nd' ?_ fun z q => ?_).cons x)
    · simp only [List.length_append, List.length_cons] at len ⊢
      omega
    · have ne : z ≠ x := fun e => nx (e ▸ q)
      have := h z (List.mem_cons_of_mem _ q)
      simp only [List.mem_append, List.mem_cons] at this ⊢
      rcases this with y | y | y
      · exact .inl y
      · exact absurd y ne
      · exact .inr y
theorem TxR.keys {P : Program} {w : World} {D : SD} {l : List Str} (F : TxR P w D l) : (∀ v ∈ D.1.toList.map (·.2), ∃ t, v = .str (vS v) t) ∧ ((D.1.toList.map (·.2)).map vS).Perm l := by
  have al : ∀ e ∈ D.1.toList, ∃ k t, e.2 = .str k t := fun e m => by
    obtain ⟨⟨k, q, _⟩, _⟩ := F.ok.el e m
    obtain ⟨t, z⟩ := vS_of q
    exact ⟨k, t, z⟩
  refine ⟨fun v m => ?_, perm_of_mem F.nd ?_ fun z m => ?_⟩
  · obtain ⟨e, me, rfl⟩ := List.mem_map.mp m
    obtain ⟨k, t, z⟩ := al e me
    exact ⟨t, by rw [z]; rfl⟩
  · rw [List.length_map, List.length_map, Array.length_toList]
    exact F.ok.sz
  · obtain ⟨e, me, q⟩ := (F.ok.mem z).mp m
    obtain ⟨t, y⟩ := vS_of q
    exact List.mem_map.mpr ⟨e.2, List.mem_map.mpr ⟨e, me, rfl⟩, by rw [y]; rfl⟩
section
variable {X : Cx}
def rSortedS (K : PySem.W.Frag) (P : Program) (w : World) : List V → Hp → VK → Prop := fun vs H Q => ∃ (a : Addr) (l : List Str), vs = [V.ref a] ∧ H a = some (SetSO P w a l) ∧ l.length ≤ 1000 ∧
  ∀ p : Addr, H p = none → Q (.ref p) (upd H p (.lst ((l.mergeSort leS).map V.str)))
theorem cr_sortedS (calm : X.calm = true) (room : X.A.units + 64 < cLine) : CallR X (.builtin "sorted") (rSortedS X.K X.prog X.w) := by
  intro pins s σ H vs us Q I rel need
  obtain ⟨a, l, rfl, atA, few, goal⟩ := need
  obtain ⟨D, hD, F⟩ := (show SetS X.prog X.w s.heap a l from (I.hok a _ atA).1)
  have big : (1000 : Nat) + 1 < scanBound := by unfold scanBound; omega
  have dsz : D.1.size = l.length := F.ok.sz
  obtain ⟨isS, keys⟩ := F.keys
  rw [Vals.ref1 rel]
  refine PyProof.Rows.call_function_entry_kw PyProof.Rows.kind_sorted PyProof.Rows.plain_sorted PyProof.Rows.entry_sorted (PyProof.Rows.args_sorted1 _) ?_
  unfold Builtin.«sorted»
  refine wpAny_bind (m := checkCount "sorted" 1 1 _) (wpAny_pure ?_)
  refine wpAny_bind (collect_set (A := X.A.in1) (I.ok.hd calm) ⟨_, hD, rfl, rfl⟩ F.ok.fit (by omega) F.ris F.led fun s1 got keep grow sg so pm => ?_)
  have gv : ∀ v ∈ got, ∃ t, v = .str (vS v) t := fun v m => isS v (pm.mem_iff.mp m)
  have pk : (got.map vS).Perm l := (pm.map vS).trans keys
  have ev := each_vS gv
  generalize got.map vS = ms at pk ev
  have gl : got.length = l.length := by
    rw [pm.length_eq, List.length_map, Array.length_toList]
    exact dsz
  have lim : got.length ≤ sizeLine := by
    rw [gl, sizeLine_eq]
    omega
  refine wpAny_bind (wpAny_newList ?_ lim)
  generalize hpre : s1.heap.push (seqObj "list" got.toArray 0) = pre
  have there : pre.get? s1.heap.objs.size = some (seqObj "list" got.toArray 0) := by
    rw [← hpre]
    exact Heap.get?_push_size _ rfl
  have wide : ∀ c u, s.heap.get? c = some u → c ≠ s1.heap.objs.size ∧ pre.get? c = some u := fun c u e => ⟨Nat.ne_of_lt (Heap.lt_size (keep c u e)), by
    rw [← hpre]
    exact Heap.get?_push_of_some _ (keep c u e)⟩
  generalize hmid : sortingHeap pre s1.heap.objs.size got = mid
  have rd : EachIs (fun v x => ∃ as, Reads mid v (PyData.str x) as) got ms := ev.mono fun v x ⟨t, hv⟩ => by
    subst hv
    exact ⟨_, .str x t⟩
  have alk : AllAlike (ms.map fun x => PyData.str x) := AllAlike.of fun _ _ => by simp [alike]
  have sor : Sortable (ms.map fun x => PyData.str x) := Sortable.others fun _ => ⟨by simp, by simp⟩
  have sat : SortsAt X.prog X.w X.A.in1.in1 { s1 with heap := mid } (dataKind mid (ms.map fun x => PyData.str x)) got :=
    SortsAt.data (s := { s1 with heap := mid }) (each_map (R := fun v d => ∃ as, Reads mid v d as) (fun x : Str => PyData.str x) rd) alk sor fun d dm => by
      obtain ⟨x, _, rfl⟩ := List.mem_map.mp dm
      show X.A.units + 1 + 1 + 0 < cLine
      omega
  have srt := sortVals_data (h' := mid) (enc := fun x : Str => PyData.str x) false ev rd alk
  rw [leS_eq, sort_perm_asc (pk.trans (List.mergeSort_perm l leS).symm) (sort_asc F.nd)] at srt
  generalize hres : sortVals (dataKind mid (ms.map fun x => PyData.str x)) false got got = res at srt
  refine wpAny_bind (wpAny_holding (PyProof.Rows.wpAny_call_entry_kw PyProof.Rows.slot_list_sort ⟨_, there, rfl⟩ PyProof.Rows.entry_list_sort ?body (PyProof.Rows.args_list_sort _)))
  case body =>
    refine wpAny_mono (list_sort_vals (κ := dataKind mid (ms.map fun x => PyData.str x)) (s := { s1 with heap := pre }) (P := fun f s' => f = .done (.ret .none) ∧ s' = { s1 with heap := PyProof.Rows.sortedHeap pre s1.heap.objs.size got res.toArray }) there (by rw [hmid]; exact sat) lim ⟨rfl, by rw [← hres]⟩) (fun f s' hf => ?_) fun _ _ e => e
    obtain ⟨rfl, rfl⟩ := hf
    obtain ⟨c, hc⟩ := PyProof.Rows.sortedHeap_at (vs := got) (out := res.toArray) there
    generalize hpost : PyProof.Rows.sortedHeap pre s1.heap.objs.size got res.toArray = post at hc
    have postK : ∀ b u, s.heap.get? b = some u → post.get? b = some u := fun b u e => by
      rw [← hpost, PyProof.Rows.sortedHeap_old (wide b u e).1 (Heap.lt_size (wide b u e).2)]
      exact (wide b u e).2
    have out : Vals ((l.mergeSort leS).map V.str) res.toArray.toList := by
      have v : ∀ {zs : List Str} {vs : List Value}, EachIs (fun v x => ∃ t, v = Value.str x t) vs zs → Vals (zs.map V.str) vs := fun e => by
        induction e with
        | nil => exact .nil
        | cons h t ih => exact .cons h ih
      exact v srt
    have free : H s1.heap.objs.size = none := I.hok.fresh grow
    have inv : Inv X pins σ (upd H s1.heap.objs.size (.lst ((l.mergeSort leS).map V.str))) { s with heap := post, gens := s1.gens, drawn := s1.drawn, toks := s1.toks } :=
      I.call (ch := []) (Un.laid postK grow free) (I.hok.laid postK grow ⟨by rw [List.length_map, List.length_mergeSort, sizeLine_eq]; omega, res.toArray.toList, c, out, hc⟩) (by rw [sg]; exact I.bare) (fun _ z => nomatch z)
    have same : ({ s1 with heap := post } : Shared) = { s with heap := post, gens := s1.gens, drawn := s1.drawn, toks := s1.toks } := by
      cases s1
      cases s
      cases so
      rfl
    refine ⟨_, rfl, wpAny_pure ⟨_, rfl, ?_⟩⟩
    rw [same]
    exact ⟨.ref _, _, inv, rfl, goal _ free⟩
end
theorem boot_setS : bootBuiltins "set" = some (.type "set") := by decide +kernel
end Gd
/-! growing, by the union and the common part of two groups -/
namespace Gd
open PySem PySem.Spec PyProof.Rows L2
/-- the persons of both groups, and those in both -/
def uniG (ns : List Str) (g h : Grp) : Grp := cn ns fun x => decide (x ∈ g) || decide (x ∈ h)
def comG (g h : Grp) : Grp := g.filter fun x => decide (x ∈ h)
theorem uni_sort {ns : List Str} {g h : Grp} {l : List Str} (a : ns.Pairwise ltS) (hg : g ∈ groupsOf ns) (hh : h ∈ groupsOf ns) (nd : l.Nodup) (m : ∀ z, z ∈ l ↔ z ∈ g ++ h) : l.mergeSort leS = uniG ns g h := by
  refine sort_perm_asc ?_ (a.filter _)
  refine (List.perm_ext_iff_of_nodup nd ((asc_nodup a).filter _)).mpr fun z => ?_
  rw [m z, List.mem_append, List.mem_filter, Bool.or_eq_true, decide_eq_true_iff, decide_eq_true_iff]
  refine ⟨fun q => ⟨?_, q⟩, fun q => q.2⟩
  rcases q with q | q
  · exact (groups_mem.mp hg).subset q
  · exact (groups_mem.mp hh).subset q
theorem com_in {ns : List Str} {g : Grp} (hg : g ∈ groupsOf ns) (h : Grp) : comG g h ∈ groupsOf ns := groups_mem.mpr (List.filter_sublist.trans (groups_mem.mp hg))
theorem uni_in {ns : List Str} (g h : Grp) : uniG ns g h ∈ groupsOf ns := cn_in ns _
theorem mem_cn {ns : List Str} {P : Str → Bool} {x : Str} (hx : x ∈ ns) : decide (x ∈ cn ns P) = P x := by
  rw [Bool.eq_iff_iff, decide_eq_true_iff]
  show x ∈ ns.filter P ↔ _
  rw [List.mem_filter]
  exact ⟨fun q => q.2, fun q => ⟨hx, q⟩⟩
theorem com_cn {ns : List Str} {g h : Grp} (a : ns.Pairwise ltS) (hg : g ∈ groupsOf ns) : (cn ns fun x => decide (x ∈ g) && decide (x ∈ h)) = comG g h := by
  rw [← grp_cn a (com_in hg h)]
  refine cn_congr fun x _ => ?_
  rw [Bool.eq_iff_iff, Bool.and_eq_true, decide_eq_true_iff, decide_eq_true_iff, decide_eq_true_iff]
  show _ ↔ x ∈ g.filter _
  rw [List.mem_filter, decide_eq_true_iff]
/-- no test breaks exactly if the union and the common part of all two groups are worth at least both -/
theorem grow_pairs {ns : List Str} {W : Grp → Int} (a : ns.Pairwise ltS) : Smod ns W ↔ ∀ g ∈ groupsOf ns, ∀ h ∈ groupsOf ns, W g + W h ≤ W (uniG ns g h) + W (comG g h) := by
  constructor
  · intro s g hg h hh
    have sg := groups_mem.mp hg
    have sh := groups_mem.mp hh
    have nd := asc_nodup a
    let r : List Str := g.filter fun x => decide (x ∉ h)
    have rg : ∀ x ∈ r, x ∈ g ∧ x ∉ h := fun x m => by
      obtain ⟨p, q⟩ := List.mem_filter.mp m
      exact ⟨p, of_decide_eq_true q⟩
    have ndr : (h ++ r).Nodup := List.nodup_append.mpr ⟨nd.sublist sh, (nd.sublist sg).filter _, fun x hx y hy e => (rg y hy).2 (e ▸ hx)⟩
    have ins : ∀ x ∈ h ++ r, x ∈ ns := fun x m => by
      rcases List.mem_append.mp m with m | m
      · exact sh.subset m
      · exact sg.subset (rg x m).1
    have b := bring_ge s g r h ndr ins
    rw [bring_all r h g fun x m => (rg x m).1, com_cn (h := h) a hg, grp_cn a hh] at b
    have e1 : (cn ns fun x => decide (x ∈ g) && decide (x ∈ h ++ r)) = g := by
      refine Eq.trans (cn_congr fun x _ => ?_) (grp_cn a hg)
      rw [Bool.eq_iff_iff, Bool.and_eq_true, decide_eq_true_iff, decide_eq_true_iff]
      refine ⟨fun q => q.1, fun q => ⟨q, List.mem_append.mpr ?_⟩⟩
      by_cases z : x ∈ h
      · exact .inl z
      · exact .inr (List.mem_filter.mpr ⟨q, decide_eq_true z⟩)
    have e2 : (cn ns fun x => decide (x ∈ h ++ r)) = uniG ns g h := by
      refine cn_congr fun x _ => ?_
      rw [Bool.eq_iff_iff, Bool.or_eq_true, decide_eq_true_iff, decide_eq_true_iff, decide_eq_true_iff, List.mem_append]
      constructor
      · rintro (q | q)
        · exact .inr q
        · exact .inl (rg x q).1
      · rintro (q | q)
        · by_cases z : x ∈ h
          · exact .inl z
          · exact .inr (List.mem_filter.mpr ⟨q, decide_eq_true z⟩)
        · exact .inl q
    rw [e1, e2] at b
    omega
  · intro k P n m hn hm ne hP hM
    have q := k _ (cn_in ns (orS P n)) _ (cn_in ns (orS P m))
    have e1 : uniG ns (cn ns (orS P n)) (cn ns (orS P m)) = cn ns (orS (orS P m) n) := by
      refine cn_congr fun x hx => ?_
      rw [mem_cn hx, mem_cn hx]
      show ((P x || decide (x = n)) || (P x || decide (x = m))) = ((P x || decide (x = m)) || decide (x = n))
      cases P x <;> cases decide (x = n) <;> cases decide (x = m) <;> rfl
    have e2 : comG (cn ns (orS P n)) (cn ns (orS P m)) = cn ns P := by
      rw [← com_cn a (cn_in ns _)]
      refine cn_congr fun x hx => ?_
      rw [mem_cn hx, mem_cn hx]
      show ((P x || decide (x = n)) && (P x || decide (x = m))) = P x
      cases hx : P x with
      | true => rfl
      | false =>
        rw [Bool.false_or, Bool.false_or, Bool.eq_false_iff]
        intro z
        rw [Bool.and_eq_true, decide_eq_true_iff, decide_eq_true_iff] at z
        exact ne (z.1.symm.trans z.2)
    rw [e1, e2] at q
    omega
theorem rest_len (ns : List Str) (g : Grp) : (restOf ns g).length ≤ ns.length := List.length_filter_le _ _
end Gd
namespace K08
open PySem PySem.Spec PyProof.Rows L2 Gd
/-! the text by places -/
def tp (i : Nat) : Stmt := PySem.Challenge.pw_joinmore_k08_whole_growing_by_pairs.main.body.getD i (.Pass ⟨0, 0, 0, 0⟩)
abbrev s__wall : Stmt := tp 0
abbrev n__wall : List Str := ["k"]
abbrev p__wall : List Str := ["k"]
theorem c__wall : FnScope n__wall p__wall (defScope s__wall) := ⟨rfl, rfl, rfl, by decide +kernel, rfl, by decide +kernel, by decide +kernel⟩
abbrev s_is_whole : Stmt := tp 5
abbrev n_is_whole : List Str := ["value"]
abbrev p_is_whole : List Str := ["value"]
theorem c_is_whole : FnScope n_is_whole p_is_whole (defScope s_is_whole) := ⟨rfl, rfl, rfl, by decide +kernel, rfl, by decide +kernel, by decide +kernel⟩
abbrev s_is_integer : Stmt := tp 6
abbrev n_is_integer : List Str := ["value"]
abbrev p_is_integer : List Str := ["value"]
theorem c_is_integer : FnScope n_is_integer p_is_integer (defScope s_is_integer) := ⟨rfl, rfl, rfl, by decide +kernel, rfl, by decide +kernel, by decide +kernel⟩
abbrev s_is_name : Stmt := tp 7
abbrev n_is_name : List Str := ["value", "letter"]
abbrev p_is_name : List Str := ["value"]
theorem c_is_name : FnScope n_is_name p_is_name (defScope s_is_name) := ⟨rfl, rfl, rfl, by decide +kernel, rfl, by decide +kernel, by decide +kernel⟩
abbrev s_sums : Stmt := tp 9
abbrev n_sums : List Str := ["row", "found", "number", "told"]
abbrev p_sums : List Str := ["row"]
theorem c_sums : FnScope n_sums p_sums (defScope s_sums) := ⟨rfl, rfl, rfl, by decide +kernel, rfl, by decide +kernel, by decide +kernel⟩
abbrev s_gaps_of : Stmt := tp 10
abbrev n_gaps_of : List Str := ["row", "bits", "numbers", "worths", "at", "number", "worth", "one", "other"]
abbrev p_gaps_of : List Str := ["row"]
theorem c_gaps_of : FnScope n_gaps_of p_gaps_of (defScope s_gaps_of) := ⟨rfl, rfl, rfl, by decide +kernel, rfl, by decide +kernel, by decide +kernel⟩
abbrev s_is_ascending : Stmt := tp 12
abbrev n_is_ascending : List Str := ["values", "at"]
abbrev p_is_ascending : List Str := ["values"]
theorem c_is_ascending : FnScope n_is_ascending p_is_ascending (defScope s_is_ascending) := ⟨rfl, rfl, rfl, by decide +kernel, rfl, by decide +kernel, by decide +kernel⟩
abbrev s_groups_of : Stmt := tp 13
abbrev n_groups_of : List Str := ["people", "groups", "person", "group"]
abbrev p_groups_of : List Str := ["people"]
theorem c_groups_of : FnScope n_groups_of p_groups_of (defScope s_groups_of) := ⟨rfl, rfl, rfl, by decide +kernel, rfl, by decide +kernel, by decide +kernel⟩
abbrev s_union : Stmt := tp 14
abbrev n_union : List Str := ["one", "other"]
abbrev p_union : List Str := ["one", "other"]
theorem c_union : FnScope n_union p_union (defScope s_union) := ⟨rfl, rfl, rfl, by decide +kernel, rfl, by decide +kernel, by decide +kernel⟩
abbrev s_common : Stmt := tp 15
abbrev n_common : List Str := ["one", "other", "person"]
abbrev p_common : List Str := ["one", "other"]
theorem c_common : FnScope n_common p_common (defScope s_common) := ⟨rfl, rfl, rfl, by decide +kernel, rfl, by decide +kernel, by decide +kernel⟩
abbrev s__kept : Stmt := tp 17
abbrev n__kept : List Str := ["value", "part", "key"]
abbrev p__kept : List Str := ["value"]
theorem c__kept : FnScope n__kept p__kept (defScope s__kept) := ⟨rfl, rfl, rfl, by decide +kernel, rfl, by decide +kernel, by decide +kernel⟩
abbrev s_is_people : Stmt := tp 25
abbrev n_is_people : List Str := ["value", "person"]
abbrev p_is_people : List Str := ["value"]
theorem c_is_people : FnScope n_is_people p_is_people (defScope s_is_people) := ⟨rfl, rfl, rfl, by decide +kernel, rfl, by decide +kernel, by decide +kernel⟩
abbrev s_is_worth : Stmt := tp 26
abbrev n_is_worth : List Str := ["value"]
abbrev p_is_worth : List Str := ["value"]
theorem c_is_worth : FnScope n_is_worth p_is_worth (defScope s_is_worth) := ⟨rfl, rfl, rfl, by decide +kernel, rfl, by decide +kernel, by decide +kernel⟩
abbrev s_are_worths : Stmt := tp 27
abbrev n_are_worths : List Str := ["people", "value", "groups", "group"]
abbrev p_are_worths : List Str := ["people", "value"]
theorem c_are_worths : FnScope n_are_worths p_are_worths (defScope s_are_worths) := ⟨rfl, rfl, rfl, by decide +kernel, rfl, by decide +kernel, by decide +kernel⟩
abbrev s_check_people : Stmt := tp 28
abbrev n_check_people : List Str := ["value"]
abbrev p_check_people : List Str := ["value"]
theorem c_check_people : FnScope n_check_people p_check_people (defScope s_check_people) := ⟨rfl, rfl, rfl, by decide +kernel, rfl, by decide +kernel, by decide +kernel⟩
abbrev s_check_game : Stmt := tp 29
abbrev n_check_game : List Str := ["value"]
abbrev p_check_game : List Str := ["value"]
theorem c_check_game : FnScope n_check_game p_check_game (defScope s_check_game) := ⟨rfl, rfl, rfl, by decide +kernel, rfl, by decide +kernel, by decide +kernel⟩
abbrev s_check_group : Stmt := tp 30
abbrev n_check_group : List Str := ["game", "value"]
abbrev p_check_group : List Str := ["game", "value"]
theorem c_check_group : FnScope n_check_group p_check_group (defScope s_check_group) := ⟨rfl, rfl, rfl, by decide +kernel, rfl, by decide +kernel, by decide +kernel⟩
abbrev s_check_some : Stmt := tp 31
abbrev n_check_some : List Str := ["game", "value"]
abbrev p_check_some : List Str := ["game", "value"]
theorem c_check_some : FnScope n_check_some p_check_some (defScope s_check_some) := ⟨rfl, rfl, rfl, by decide +kernel, rfl, by decide +kernel, by decide +kernel⟩
abbrev s_is_growing : Stmt := tp 34
abbrev n_is_growing : List Str := ["game", "told"]
abbrev p_is_growing : List Str := ["game"]
theorem c_is_growing : FnScope n_is_growing p_is_growing (defScope s_is_growing) := ⟨rfl, rfl, rfl, by decide +kernel, rfl, by decide +kernel, by decide +kernel⟩
abbrev s_is_shrinking : Stmt := tp 35
abbrev n_is_shrinking : List Str := ["game", "told"]
abbrev p_is_shrinking : List Str := ["game"]
theorem c_is_shrinking : FnScope n_is_shrinking p_is_shrinking (defScope s_is_shrinking) := ⟨rfl, rfl, rfl, by decide +kernel, rfl, by decide +kernel, by decide +kernel⟩
abbrev s_is_additive : Stmt := tp 36
abbrev n_is_additive : List Str := ["game"]
abbrev p_is_additive : List Str := ["game"]
theorem c_is_additive : FnScope n_is_additive p_is_additive (defScope s_is_additive) := ⟨rfl, rfl, rfl, by decide +kernel, rfl, by decide +kernel, by decide +kernel⟩
abbrev s_is_growing_by : Stmt := tp 37
abbrev n_is_growing_by : List Str := ["game", "one", "other"]
abbrev p_is_growing_by : List Str := ["game", "one", "other"]
theorem c_is_growing_by : FnScope n_is_growing_by p_is_growing_by (defScope s_is_growing_by) := ⟨rfl, rfl, rfl, by decide +kernel, rfl, by decide +kernel, by decide +kernel⟩
abbrev s__law_cup : Stmt := tp 39
abbrev n__law_cup : List Str := ["script", "at", "cell", "great", "mixed"]
abbrev p__law_cup : List Str := ["script", "at"]
theorem c__law_cup : FnScope n__law_cup p__law_cup (defScope s__law_cup) := ⟨rfl, rfl, rfl, by decide +kernel, rfl, by decide +kernel, by decide +kernel⟩
abbrev s__law_sip : Stmt := tp 40
abbrev n__law_sip : List Str := ["cup", "total", "found", "one", "two"]
abbrev p__law_sip : List Str := ["cup", "total"]
theorem c__law_sip : FnScope n__law_sip p__law_sip (defScope s__law_sip) := ⟨rfl, rfl, rfl, by decide +kernel, rfl, by decide +kernel, by decide +kernel⟩
abbrev s__law_select : Stmt := tp 41
abbrev n__law_select : List Str := ["cup", "items"]
abbrev p__law_select : List Str := ["cup", "items"]
theorem c__law_select : FnScope n__law_select p__law_select (defScope s__law_select) := ⟨rfl, rfl, rfl, by decide +kernel, rfl, by decide +kernel, by decide +kernel⟩
abbrev s__law_mingled : Stmt := tp 42
abbrev n__law_mingled : List Str := ["cup", "items", "waits", "turn"]
abbrev p__law_mingled : List Str := ["cup", "items"]
theorem c__law_mingled : FnScope n__law_mingled p__law_mingled (defScope s__law_mingled) := ⟨rfl, rfl, rfl, by decide +kernel, rfl, by decide +kernel, by decide +kernel⟩
abbrev s__law_groups : Stmt := tp 43
abbrev n__law_groups : List Str := ["names", "found", "name", "some"]
abbrev p__law_groups : List Str := ["names"]
theorem c__law_groups : FnScope n__law_groups p__law_groups (defScope s__law_groups) := ⟨rfl, rfl, rfl, by decide +kernel, rfl, by decide +kernel, by decide +kernel⟩
abbrev s__law_names : Stmt := tp 44
abbrev n__law_names : List Str := ["cup", "most", "size"]
abbrev p__law_names : List Str := ["cup", "most"]
theorem c__law_names : FnScope n__law_names p__law_names (defScope s__law_names) := ⟨rfl, rfl, rfl, by decide +kernel, rfl, by decide +kernel, by decide +kernel⟩
abbrev s__law_by_parts : Stmt := tp 45
abbrev n__law_by_parts : List Str := ["cup", "names", "gains", "some", "found", "inner", "part", "name"]
abbrev p__law_by_parts : List Str := ["cup", "names"]
theorem c__law_by_parts : FnScope n__law_by_parts p__law_by_parts (defScope s__law_by_parts) := ⟨rfl, rfl, rfl, by decide +kernel, rfl, by decide +kernel, by decide +kernel⟩
abbrev s__law_by_size : Stmt := tp 46
abbrev n__law_by_size : List Str := ["cup", "names", "steps", "worths", "name", "some"]
abbrev p__law_by_size : List Str := ["cup", "names"]
theorem c__law_by_size : FnScope n__law_by_size p__law_by_size (defScope s__law_by_size) := ⟨rfl, rfl, rfl, by decide +kernel, rfl, by decide +kernel, by decide +kernel⟩
abbrev s__law_by_estate : Stmt := tp 47
abbrev n__law_by_estate : List Str := ["cup", "names", "claims", "total", "found", "some", "name"]
abbrev p__law_by_estate : List Str := ["cup", "names"]
theorem c__law_by_estate : FnScope n__law_by_estate p__law_by_estate (defScope s__law_by_estate) := ⟨rfl, rfl, rfl, by decide +kernel, rfl, by decide +kernel, by decide +kernel⟩
abbrev s__law_growing : Stmt := tp 48
abbrev n__law_growing : List Str := ["cup", "most", "names", "lot"]
abbrev p__law_growing : List Str := ["cup", "most"]
theorem c__law_growing : FnScope n__law_growing p__law_growing (defScope s__law_growing) := ⟨rfl, rfl, rfl, by decide +kernel, rfl, by decide +kernel, by decide +kernel⟩
abbrev s__law_game : Stmt := tp 49
abbrev n__law_game : List Str := ["cup", "most", "plain", "lot", "worths", "turn", "some"]
abbrev p__law_game : List Str := ["cup", "most"]
theorem c__law_game : FnScope n__law_game p__law_game (defScope s__law_game) := ⟨rfl, rfl, rfl, by decide +kernel, rfl, by decide +kernel, by decide +kernel⟩
abbrev s__law_made_game : Stmt := tp 50
abbrev n__law_made_game : List Str := ["plain", "some"]
abbrev p__law_made_game : List Str := ["plain"]
theorem c__law_made_game : FnScope n__law_made_game p__law_made_game (defScope s__law_made_game) := ⟨rfl, rfl, rfl, by decide +kernel, rfl, by decide +kernel, by decide +kernel⟩
abbrev s__law_with : Stmt := tp 51
abbrev n__law_with : List Str := ["some", "name"]
abbrev p__law_with : List Str := ["some", "name"]
theorem c__law_with : FnScope n__law_with p__law_with (defScope s__law_with) := ⟨rfl, rfl, rfl, by decide +kernel, rfl, by decide +kernel, by decide +kernel⟩
abbrev s__law_breaks : Stmt := tp 52
abbrev n__law_breaks : List Str := ["plain", "names", "worths", "found", "some", "rest", "one", "other", "wide", "name"]
abbrev p__law_breaks : List Str := ["plain"]
theorem c__law_breaks : FnScope n__law_breaks p__law_breaks (defScope s__law_breaks) := ⟨rfl, rfl, rfl, by decide +kernel, rfl, by decide +kernel, by decide +kernel⟩
abbrev s__law_is_growing : Stmt := tp 53
abbrev n__law_is_growing : List Str := ["plain"]
abbrev p__law_is_growing : List Str := ["plain"]
theorem c__law_is_growing : FnScope n__law_is_growing p__law_is_growing (defScope s__law_is_growing) := ⟨rfl, rfl, rfl, by decide +kernel, rfl, by decide +kernel, by decide +kernel⟩
abbrev s__law_case : Stmt := tp 54
abbrev n__law_case : List Str := ["cup", "most", "plain"]
abbrev p__law_case : List Str := ["cup", "most"]
theorem c__law_case : FnScope n__law_case p__law_case (defScope s__law_case) := ⟨rfl, rfl, rfl, by decide +kernel, rfl, by decide +kernel, by decide +kernel⟩
abbrev s__law_own_tests : Stmt := tp 55
abbrev n__law_own_tests : List Str := ["plain", "found", "some", "rest", "one", "name", "other"]
abbrev p__law_own_tests : List Str := ["plain"]
theorem c__law_own_tests : FnScope n__law_own_tests p__law_own_tests (defScope s__law_own_tests) := ⟨rfl, rfl, rfl, by decide +kernel, rfl, by decide +kernel, by decide +kernel⟩
abbrev s__law_own_gap : Stmt := tp 56
abbrev n__law_own_gap : List Str := ["plain", "test", "some", "one", "other", "worths", "wide", "less"]
abbrev p__law_own_gap : List Str := ["plain", "test"]
theorem c__law_own_gap : FnScope n__law_own_gap p__law_own_gap (defScope s__law_own_gap) := ⟨rfl, rfl, rfl, by decide +kernel, rfl, by decide +kernel, by decide +kernel⟩
abbrev s__law_right : Stmt := tp 57
abbrev n__law_right : List Str := ["cup", "plain", "made", "names", "worths", "bad", "every", "one", "other", "union_v", "common_v", "turn", "signs", "told", "name", "again", "pair", "test"]
abbrev p__law_right : List Str := ["cup"]
theorem c__law_right : FnScope n__law_right p__law_right (defScope s__law_right) := ⟨rfl, rfl, rfl, by decide +kernel, rfl, by decide +kernel, by decide +kernel⟩
abbrev s_law : Stmt := tp 58
abbrev n_law : List Str := ["script", "at", "cup", "turn"]
abbrev p_law : List Str := ["script"]
theorem c_law : FnScope n_law p_law (defScope s_law) := ⟨rfl, rfl, rfl, by decide +kernel, rfl, by decide +kernel, by decide +kernel⟩
abbrev s_Game : Stmt := tp 32
abbrev s_Game___init__ : Stmt := cm s_Game 0
abbrev n_Game___init__ : List Str := ["self", "people", "worths", "group"]
abbrev p_Game___init__ : List Str := ["self", "people", "worths"]
theorem c_Game___init__ : FnScope n_Game___init__ p_Game___init__ (defScope s_Game___init__) := ⟨rfl, rfl, rfl, by decide +kernel, rfl, by decide +kernel, by decide +kernel⟩
abbrev s_Game_people : Stmt := cm s_Game 2
abbrev n_Game_people : List Str := ["self"]
abbrev p_Game_people : List Str := ["self"]
theorem c_Game_people : FnScope n_Game_people p_Game_people (defScope s_Game_people) := ⟨rfl, rfl, rfl, by decide +kernel, rfl, by decide +kernel, by decide +kernel⟩
abbrev s_Game_groups : Stmt := cm s_Game 3
abbrev n_Game_groups : List Str := ["self"]
abbrev p_Game_groups : List Str := ["self"]
theorem c_Game_groups : FnScope n_Game_groups p_Game_groups (defScope s_Game_groups) := ⟨rfl, rfl, rfl, by decide +kernel, rfl, by decide +kernel, by decide +kernel⟩
abbrev s_Game_gaps : Stmt := cm s_Game 5
abbrev n_Game_gaps : List Str := ["self"]
abbrev p_Game_gaps : List Str := ["self"]
theorem c_Game_gaps : FnScope n_Game_gaps p_Game_gaps (defScope s_Game_gaps) := ⟨rfl, rfl, rfl, by decide +kernel, rfl, by decide +kernel, by decide +kernel⟩
abbrev s_Game___getitem__ : Stmt := cm s_Game 7
abbrev n_Game___getitem__ : List Str := ["self", "at"]
abbrev p_Game___getitem__ : List Str := ["self", "at"]
theorem c_Game___getitem__ : FnScope n_Game___getitem__ p_Game___getitem__ (defScope s_Game___getitem__) := ⟨rfl, rfl, rfl, by decide +kernel, rfl, by decide +kernel, by decide +kernel⟩
structure Cl_Game (K : PySem.W.Frag) (mg : Str → Option Value) (C : Addr) : Prop where
  dc : Dc K mg "Game" C
  n__gaps : NoAttr K C "_gaps"
  n__groups : NoAttr K C "_groups"
  n__people : NoAttr K C "_people"
  n__row : NoAttr K C "_row"
  n__worths : NoAttr K C "_worths"
/-- the built-in names that the program and the law use -/
structure Txt (mg : Str → Option Value) : Prop where
  b_IndexError : mg "IndexError" = none
  b_ValueError : mg "ValueError" = none
  b_abs : mg "abs" = none
  b_all : mg "all" = none
  b_bool : mg "bool" = none
  b_classmethod : mg "classmethod" = none
  b_dict : mg "dict" = none
  b_enumerate : mg "enumerate" = none
  b_int : mg "int" = none
  b_isinstance : mg "isinstance" = none
  b_iter : mg "iter" = none
  b_len : mg "len" = none
  b_list : mg "list" = none
  b_max : mg "max" = none
  b_min : mg "min" = none
  b_property : mg "property" = none
  b_range : mg "range" = none
  b_repr : mg "repr" = none
  b_set : mg "set" = none
  b_sorted : mg "sorted" = none
  b_str : mg "str" = none
  b_sum : mg "sum" = none
  b_tuple : mg "tuple" = none
  b_zip : mg "zip" = none
  k_MAX_LETTERS : ∃ t, mg "MAX_LETTERS" = some (.int 8 t)
  k__LETTERS : ∃ t, mg "_LETTERS" = some (.str "abcdefghijklmnopqrstuvwxyz" t)
  k__INTEGER_BOUND : ∃ t, mg "_INTEGER_BOUND" = some (.int 1000000000000000000000000000000000000000000000000000000000000 t)
  k_MAX_PEOPLE : ∃ t, mg "MAX_PEOPLE" = some (.int 5 t)
  k_MAX_WORTH : ∃ t, mg "MAX_WORTH" = some (.int 1000000000 t)
section
variable {P : Program} {w : World} {K : PySem.W.Frag} {mg : Str → Option Value} {base : Heap}
/-! ### draws: _law_cup, _law_sip, _law_select, _law_letter -/
def spCup (K : PySem.W.Frag) : Sp := fun vs H Q _ => ∃ (a : Addr) (ns : List Int) (i : Nat), vs = [.ref a, .int (i : Int)] ∧ SqL K H a (ns.map V.int) ∧
  ∀ p H', Same H H' → H p = none → CupAt H' p → Q (.ref p) H'
theorem ok_cup {a : Addr} {fd : FuncData} (T : Txt mg) (D : Df K mg "_law_cup" s__law_cup p__law_cup a fd) : FnOk P w K mg base CX0 1 a fd p__law_cup (spCup K) := by
  refine D.F.ok c__law_cup (fun vs H Q E h => ?_) (fun cdv A outer s H vs Q E hr h => ?_)
  · obtain ⟨a, ns, i, rfl, _⟩ := h
    rfl
  · obtain ⟨a, ns, i, rfl, hS, q⟩ := h
    have nd := c__law_cup.nd
    refine ⟨_, pss_cons (ps_set (i := 2) nd rfl (.inl rfl) (pe_ifExp (pt_cmpR op_lt (pv 1) (pe_callB call_len_seq (by rfl) T.b_len PySem.boot_len (pa_cons (pv 0) pa_nil)) (nomark _))
        (pe_ix ix_list (pv 0) (pv 1) (fun _ _ => rfl)) (pe_op op_add (pe_op op_mul pe_int (pv 1)) pe_int)))
      (pss_cons (ps_set (i := 3) nd rfl (.inl rfl) (pe_op op_mod (pe_callTy call_int1 (by rfl) T.b_int boot_int (pa_cons (pe_callB call_abs (by rfl) T.b_abs boot_abs (pa_cons (pv 2) pa_nil)) pa_nil))
        (pe_op op_powW (pe_op op_pow pe_int pe_int) pe_int)))
      (pss_cons (ps_set (i := 4) nd rfl (.inl rfl) (pe_op op_add (pe_op op_add (pe_op op_add (pe_op op_mul (pe_op op_mod (pe_callTy call_int1 (by rfl) T.b_int boot_int (pa_cons (pv 3) pa_nil)) pe_int) pe_int) (pe_op op_mul pe_int (pv 1)))
        (pe_op op_mul pe_int (pe_callTy call_int1 (by rfl) T.b_int boot_int (pa_cons (pe_cmpR op_lt (pv 2) pe_int (nomark _)) pa_nil)))) pe_int))
      (pss_one (ps_ret (pe_lst (pa_cons (pe_callB (call_max2 rfl) (by rfl) T.b_max boot_max (pa_cons pe_int (pa_cons (pe_op op_sub (pv 3) (pe_op op_pow pe_int pe_int)) pa_nil)))
        (pa_cons (pe_op op_mod (pe_callTy call_int1 (by rfl) T.b_int boot_int (pa_cons (pv 4) pa_nil)) pe_int) (pa_cons pe_int pa_nil)))))))), ?_⟩
    refine anyI (fun c => ?_) (fun Q' h => ?_)
    · refine ⟨.int c, rfl, c, rfl, .inl ⟨_, rfl, _, _, rfl, rfl, ⟨by decide, by decide, by decide⟩, _, _, rfl, rfl, ⟨by decide, by decide +kernel⟩, _, _, rfl, rfl, (by show (0 : Int) < (10 ^ Int.toNat 41) ^ Int.toNat 14; decide +kernel), ?_⟩⟩
      refine ⟨_, rfl, .inl ⟨_, rfl, _, _, rfl, rfl, (by show (0 : Int) < 2147483171; decide), _, _, rfl, rfl, .inr ⟨by decide, by decide⟩, _, rfl, _, _, rfl, rfl, .inl ⟨by decide, by decide⟩, _, _, rfl, rfl, ?_⟩⟩
      refine ⟨.int c, rfl, _, _, rfl, rfl, .inr ⟨_, rfl, _, _, rfl, rfl, .inl ⟨by decide, by decide⟩, _, _, rfl, rfl, _, _, rfl, rfl, ?_⟩⟩
      refine ⟨_, rfl, _, _, rfl, rfl, ⟨by decide, by decide, by decide⟩, _, _, rfl, rfl, _, _, rfl, _, rfl, .inl ⟨_, rfl, _, _, rfl, rfl, (by show (0 : Int) < 2305843009213693907; decide), (by show 3 ≤ sizeLine; decide), fun p np => ?_⟩⟩
      exact q p _ (same_new np) np ⟨_, _, _, upd_same⟩
    · have hi : (ns.map V.int).length = ns.length := List.length_map ..
      refine ⟨_, rfl, _, rfl, a, _, rfl, .inl hS, _, _, rfl, rfl, _, rfl, ite2 (fun e => ?_) (fun e => ?_)⟩
      · have e1 : (i : Int) < ((ns.map V.int).length : Int) := of_decide_eq_true e
        have e2 : i < ns.length := by omega
        exact ⟨_, rfl, _, rfl, a, _, _, .int ns[i], rfl, rfl, hS, atI_nat (by rw [List.getElem?_map, List.getElem?_eq_getElem e2]; rfl), h _⟩
      · exact ⟨_, rfl, _, _, rfl, rfl, .inl ⟨by decide, by decide⟩, _, _, rfl, rfl, h _⟩
/-- a draw: some int from 0 on below the total; the cup alone changes -/
def spSip : Sp := fun vs H Q _ => ∃ (p : Addr) (n : Int), vs = [.ref p, .int n] ∧ 0 < n ∧ n.natAbs.log2 < 9000 ∧ CupAt H p ∧
  ∀ r a b c : Int, 0 ≤ r → r < n → Q (.int r) (upd H p (.lst [.int a, .int b, .int c]))
theorem ok_sip {a : Addr} {fd : FuncData} (T : Txt mg) (D : Df K mg "_law_sip" s__law_sip p__law_sip a fd) : FnOk P w K mg base CX0 1 a fd p__law_sip spSip := by
  refine D.F.ok c__law_sip (fun vs H Q E h => ?_) (fun cdv A outer s H vs Q E hr h => ?_)
  · obtain ⟨p, n, rfl, _⟩ := h
    rfl
  · obtain ⟨p, n, rfl, hn, hz, ⟨x, y, z, hp⟩, q⟩ := h
    have nd := c__law_sip.nd
    refine ⟨_, pss_cons (ps_if (pt_cmpR op_gt (pe_ix ix_list (pv 0) pe_int (fun _ _ => rfl)) pe_int (nomark _))
        (pss_cons (ps_set (i := 2) nd rfl (.inl rfl) (pe_op op_mod (pe_callTy call_int1 (by rfl) T.b_int boot_int (pa_cons (pe_ix ix_list (pv 0) pe_int (fun _ _ => rfl)) pa_nil)) (pv 1)))
        (pss_cons (ps_asg (pe_op op_fdivW (pe_ix ix_list (pv 0) pe_int (fun _ _ => rfl)) (pv 1)) (pg_sub (pv 0) pe_int set_list))
        (pss_one (ps_ret (pv 2))))) pss_nil)
      (pss_cons (ps_asg (pe_op op_add (pe_ix ix_list (pv 0) pe_int (fun _ _ => rfl)) pe_int) (pg_sub (pv 0) pe_int set_list))
      (pss_cons (ps_set (i := 3) nd rfl (.inl rfl) (pe_op op_mod (pe_callTy call_int1 (by rfl) T.b_int boot_int (pa_cons (pe_op op_add (pe_ix ix_list (pv 0) pe_int (fun _ _ => rfl)) (pe_op op_mul pe_int (pe_ix ix_list (pv 0) pe_int (fun _ _ => rfl)))) pa_nil)) pe_int))
      (pss_cons (ps_set (i := 4) nd rfl (.inl rfl) (pe_op op_add (pe_op op_mul (pe_op op_mod (pe_callTy call_int1 (by rfl) T.b_int boot_int (pa_cons (pe_op op_mul (pv 3) (pv 3)) pa_nil)) pe_int) (pv 3)) (pe_op op_mul pe_int (pe_ix ix_list (pv 0) pe_int (fun _ _ => rfl)))))
      (pss_one (ps_ret (pe_op op_mod (pe_callTy call_int1 (by rfl) T.b_int boot_int (pa_cons (pe_op op_fdivN (pe_op op_mod (pe_callTy call_int1 (by rfl) T.b_int boot_int (pa_cons (pv 4) pa_nil)) pe_int) pe_int) pa_nil)) (pv 1))))))), ?_⟩
    have hS : SqL K H p [.int x, .int y, .int z] := .inl (.inl hp)
    refine ⟨_, rfl, p, _, 0, .int x, rfl, rfl, hS, rfl, x, 0, rfl, rfl, _, rfl, ite2 (fun e => ?_) (fun e => ?_)⟩
    · refine ⟨_, rfl, p, _, 0, .int x, rfl, rfl, hS, rfl, .inl ⟨_, rfl, _, rfl, _, _, rfl, rfl, hn, ?_⟩⟩
      refine ⟨_, rfl, p, _, 0, .int x, rfl, rfl, hS, rfl, _, rfl, _, _, rfl, rfl, ⟨hn, hz⟩, _, rfl, p, _, 0, 0, rfl, rfl, hp, rfl, ?_⟩
      exact ⟨_, rfl, q _ _ _ _ (Int.emod_nonneg _ (by omega)) (Int.emod_lt_of_pos _ hn)⟩
    · refine ⟨_, rfl, p, _, 2, .int z, rfl, rfl, hS, rfl, _, _, rfl, rfl, _, rfl, p, _, 2, 2, rfl, rfl, hp, rfl, ?_⟩
      have hp' : (upd H p (.lst [.int x, .int y, .int (z + 1)])) p = some (.lst [.int x, .int y, .int (z + 1)]) := upd_same
      have hS' : SqL K (upd H p (.lst [.int x, .int y, .int (z + 1)])) p [.int x, .int y, .int (z + 1)] := .inl (.inl hp')
      have l1 : ∀ g : Int, 0 ≤ g % 2305843009213693951 ∧ g % 2305843009213693951 < 2305843009213693951 := fun g => ⟨Int.emod_nonneg _ (by decide), Int.emod_lt_of_pos _ (by decide)⟩
      have l2 : ∀ g : Int, 0 ≤ g % 2305843009213693921 ∧ g % 2305843009213693921 < 2305843009213693921 := fun g => ⟨Int.emod_nonneg _ (by decide), Int.emod_lt_of_pos _ (by decide)⟩
      refine ⟨_, rfl, p, _, 1, .int y, rfl, rfl, hS', rfl, _, rfl, p, _, 2, .int (z + 1), rfl, rfl, hS', rfl, _, _, rfl, rfl, .inl ⟨by decide, by decide⟩, _, _, rfl, rfl, .inl ⟨_, rfl, _, _, rfl, rfl, (by show (0 : Int) < 2305843009213693951; decide), ?_⟩⟩
      have b1 := l1 (y + 1000453 * (z + 1))
      refine ⟨_, rfl, _, rfl, _, _, rfl, rfl, .inl ⟨by omega, by omega⟩, .inl ⟨_, rfl, _, _, rfl, rfl, (by show (0 : Int) < 2305843009213693921; decide), ?_⟩⟩
      refine ⟨_, rfl, _, _, rfl, rfl, .inr ⟨by omega, by omega⟩, _, rfl, p, _, 2, .int (z + 1), rfl, rfl, hS', rfl, _, _, rfl, rfl, .inl ⟨by decide, by decide⟩, _, _, rfl, rfl, ?_⟩
      refine ⟨_, rfl, .inl ⟨_, rfl, _, _, rfl, rfl, (by show (0 : Int) < 2305843009213693907; decide), _, _, rfl, rfl, ⟨by decide, by decide⟩, .inl ⟨_, rfl, _, rfl, _, _, rfl, rfl, hn, ?_⟩⟩⟩
      exact q _ _ _ _ (Int.emod_nonneg _ (by omega)) (Int.emod_lt_of_pos _ hn)
/-- one of the items of a list -/
def spSelect (K : PySem.W.Frag) : Sp := fun vs H Q _ => ∃ (p q : Addr) (xs : List V), vs = [.ref p, .ref q] ∧ CupAt H p ∧ SqL K H q xs ∧ q ≠ p ∧ 0 < xs.length ∧ xs.length ≤ 1000 ∧
  ∀ v H', v ∈ xs → Drawn p H H' → Q v H'
theorem draw_ok {H : Hp} {p : Addr} {a b c : Int} : Drawn p H (upd H p (.lst [.int a, .int b, .int c])) := ⟨.upd _, ⟨a, b, c, upd_same⟩⟩
theorem log_small {n : Nat} (h : n < 2 ^ 200) : n.log2 < 9000 := by
  by_cases h0 : n = 0
  · subst h0
    decide
  · exact Nat.lt_trans ((Nat.log2_lt h0).mpr h) (by decide)
theorem ok_select {a aS : Addr} {fd fdS : FuncData} (T : Txt mg) (D : Df K mg "_law_select" s__law_select p__law_select a fd) (DS : Df K mg "_law_sip" s__law_sip p__law_sip aS fdS) :
    FnOk P w K mg base CX0 2 a fd p__law_select (spSelect K) := by
  have GS : FnOk P w K mg base CX0 1 aS fdS p__law_sip spSip := ok_sip T DS
  refine D.F.ok c__law_select (fun vs H Q E h => ?_) (fun cdv A outer s H vs Q E hr h => ?_)
  · obtain ⟨p, q, xs, rfl, _⟩ := h
    rfl
  · obtain ⟨p, q, xs, rfl, hp, hq, npq, h0, hl, k⟩ := h
    refine ⟨_, pss_one (ps_ret (pe_ix ix_list (pv 1) (dcall DS GS hr (pa_cons (pv 0) (pa_cons (pe_callB call_len_seq (by rfl) T.b_len PySem.boot_len (pa_cons (pv 1) pa_nil)) pa_nil))) (fun _ _ => rfl))), ?_⟩
    refine ⟨_, rfl, _, rfl, _, rfl, q, xs, rfl, .inl hq, p, _, rfl, by omega, log_small (by show xs.length < 2 ^ 200; exact Nat.lt_of_le_of_lt hl (by decide)), hp, fun r a b c r0 rn => ?_⟩
    obtain ⟨j, rfl⟩ := Int.eq_ofNat_of_zero_le r0
    have hj : j < xs.length := by omega
    refine ⟨q, xs, _, xs[j], rfl, rfl, draw_ok.seq hq npq, atI_nat (List.getElem?_eq_getElem hj), ?_⟩
    exact k _ _ (List.getElem_mem hj) draw_ok
/-! ### _law_mingled, _law_groups, _law_names -/
theorem seq_ix {n j : Nat} (h : j < n) : seqIndex? (j : Int) n = some j := by
  refine (ixN_seq (n := n) (i := (j : Int)) (j := j) ?_).1
  unfold ixN
  rw [if_pos (by omega), if_pos (by omega)]
  rfl
theorem perm_move {α : Type} {acc ws : List α} {j : Nat} {y : α} (h : ws[j]? = some y) : ((acc ++ [y]) ++ ws.eraseIdx j).Perm (acc ++ ws) := by
  obtain ⟨hj, rfl⟩ := List.getElem?_eq_some_iff.mp h
  rw [List.append_assoc]
  refine List.Perm.append_left acc (?_ : (ws[j] :: ws.eraseIdx j).Perm ws)
  have e : ws = ws.take j ++ ws[j] :: ws.drop (j + 1) := by
    rw [← List.drop_eq_getElem_cons hj, List.take_append_drop]
  have e2 : ws.eraseIdx j = ws.take j ++ ws.drop (j + 1) := List.eraseIdx_eq_take_drop_succ ws j
  rw [e2]
  exact (List.perm_middle.symm).trans (List.Perm.of_eq e.symm)
/-- the items in some order, as a new list -/
def spMingled (K : PySem.W.Frag) : Sp := fun vs H Q _ => ∃ (p a : Addr) (xs : List V), vs = [.ref p, .ref a] ∧ CupAt H p ∧ (SqL K H a xs ∨ SqT K H a xs) ∧ a ≠ p ∧ xs.length ≤ 1000 ∧
  ∀ (q : Addr) (H' : Hp) (ys : List V), ys.Perm xs → Drawn p H H' → H q = none → q ≠ p → H' q = some (.lst ys) → Q (.ref q) H'
theorem ok_mingled {a aS : Addr} {fd fdS : FuncData} (T : Txt mg) (D : Df K mg "_law_mingled" s__law_mingled p__law_mingled a fd) (DS : Df K mg "_law_sip" s__law_sip p__law_sip aS fdS) :
    FnOk P w K mg base CX0 2 a fd p__law_mingled (spMingled K) := by
  have GS : FnOk P w K mg base CX0 1 aS fdS p__law_sip spSip := ok_sip T DS
  refine D.F.ok c__law_mingled (fun vs H Q E h => ?_) (fun cdv A outer s H vs Q E hr h => ?_)
  · obtain ⟨p, a, xs, rfl, _⟩ := h
    rfl
  · obtain ⟨p, a, xs, rfl, hp, hS, nap, hl, k⟩ := h
    have nd := c__law_mingled.nd
    have keep : ∀ {H H' : Hp}, Drawn p H H' → (SqL K H a xs ∨ SqT K H a xs) → (SqL K H' a xs ∨ SqT K H' a xs) := fun d h => by
      rcases h with h | h
      · exact .inl (d.seq h nap)
      · exact .inr (d.seqT h nap)
    refine ⟨_, pss_cons (ps_set (i := 2) nd rfl (.inr rfl) (pe_callTy call_list_of (by rfl) T.b_list boot_list (pa_cons (pv 1) pa_nil)))
      (pss_one (ps_ret (pe_lc (own := [("turn", 3)]) (g := gName 3) (tt := tYes) (te := tBM K "list" rPopAt (tVar 2) (tCons (tCall spSip [] E0 (tCons (tVar 0) (tCons (tCB (rLenQ K) (tCons (tVar 2) tNil)) tNil))) tNil)) rfl nd (pi_list (pe_callTy call_list_of (by rfl) T.b_list boot_list (pa_cons (pv 1) pa_nil)))
        (blkOk_by (own := [("turn", 3)]) (N := n__law_mingled) (sc := defScope s__law_mingled) (by decide +kernel)) (fun _ _ _ _ _ => pg_name (i := 3) nd rfl (Or.inl rfl)) (fun _ _ _ _ _ => pts_nil)
        (fun _ _ _ _ _ => pe_bm PySem.F.plainAttrs_list PySem.F.slot_list_pop PySem.F.type_list_pop mt_popAt (pv 2) (pa_cons (dcall DS GS hr (pa_cons (pv 0) (pa_cons (pe_callB call_lenQ (by rfl) T.b_len PySem.boot_len (pa_cons (pv 2) pa_nil)) pa_nil))) pa_nil))))), ?_⟩
    refine ⟨_, rfl, a, xs, rfl, hS, fun W nW => ?_⟩
    have d0 : Drawn p H H := .here hp
    have d1 := d0.new (o := .lst xs) nW
    obtain ⟨nWH, nWp⟩ := d0.none nW
    refine ⟨_, rfl, a, xs, rfl, keep d1 hS, fun L nL => ?_⟩
    have d2 := d1.new (o := .lst xs) nL
    obtain ⟨nLH, nLp⟩ := d1.none nL
    have nLW : W ≠ L := ne_of_none upd_same nL
    refine ⟨L, rfl, ⟨xs, .inl (.inl upd_same)⟩, fun Ad nA => ?_⟩
    have d3 := d2.new (o := .lst []) nA
    obtain ⟨nAH, nAp⟩ := d2.none nA
    have nAL : L ≠ Ad := ne_of_none upd_same nA
    have nAW : W ≠ Ad := ne_of_none (by rw [upd_ne nLW]; exact upd_same) nA
    refine lc_it (walk_list (xs := xs)) (fun i H5 => ∃ acc ws : List V, acc.length = i ∧ ws.length + i = xs.length ∧ (acc ++ ws).Perm xs ∧ Drawn p H H5 ∧ H5 W = some (.lst ws) ∧ H5 L = some (.lst xs) ∧ H5 Ad = some (.lst acc))
      ⟨[], xs, rfl, rfl, .refl _, d3, by rw [upd_ne nAW, upd_ne nLW]; exact upd_same, by rw [upd_ne nAL]; exact upd_same, upd_same⟩ (fun i H5 hi hP => ?_) (fun i x H5 H6 hi hP hY => ?_) (fun H5 hP => ?_)
    · obtain ⟨acc, ws, _, _, _, _, _, hL, _⟩ := hP
      exact .inl (.inl hL)
    · obtain ⟨acc, ws, ha, hw, hperm, d5, hW, hL, hA⟩ := hP
      obtain ⟨rfl, _⟩ := hY
      refine ⟨rfl, ?_⟩
      refine ⟨_, rfl, .inl ⟨rfl, ws, .inl (.inl hW)⟩, _, rfl, _, rfl, W, ws, rfl, .inl (.inl (.inl hW)), p, _, rfl, by omega, log_small (by show ws.length < 2 ^ 200; exact Nat.lt_of_le_of_lt (show ws.length ≤ 1000 by omega) (by decide)), d5.cup, fun r ua ub uc r0 rn => ?_⟩
      obtain ⟨j, rfl⟩ := Int.eq_ofNat_of_zero_le r0
      have hj : j < ws.length := by omega
      have d6 : Drawn p H (upd H6 p (.lst [.int ua, .int ub, .int uc])) := d5.trans draw_ok
      have hy : ws[j]? = some ws[j] := List.getElem?_eq_getElem hj
      refine ⟨W, ws, _, j, ws[j], rfl, rfl, by rw [upd_ne nWp]; exact hW, by omega, by omega, seq_ix hj, hy, ?_⟩
      refine ⟨acc, by rw [upd_ne nAW.symm, upd_ne nAp]; exact hA, small1000 (by omega), acc ++ [ws[j]], ws.eraseIdx j, by rw [List.length_append, ha]; rfl, ?_, (perm_move hy).trans hperm, (d6.set nWH nWp).set nAH nAp, ?_, ?_, upd_same⟩
      · rw [List.length_eraseIdx_of_lt hj]
        omega
      · rw [upd_ne nAW]
        exact upd_same
      · rw [upd_ne nAL, upd_ne nLW.symm, upd_ne nLp]
        exact hL
    · obtain ⟨acc, ws, ha, hw, hperm, d5, hW, hL, hA⟩ := hP
      have e : ws = [] := List.length_eq_zero_iff.mp (by omega)
      subst e
      rw [List.append_nil] at hperm
      exact k Ad H5 acc hperm d5 nAH nAp hA
/-- all groups of some names, in Python's order, as a new list of new tuples -/
def spGroups (K : PySem.W.Frag) : Sp := fun vs H Q _ => ∃ (a : Addr) (ns : List Str), vs = [.ref a] ∧ SqT K H a (ns.map V.str) ∧ ns.length ≤ 8 ∧
  ∀ (q : Addr) (H' : Hp) (ts : List (Addr × Grp)), Same H H' → H q = none → H' q = some (.lst (refs ts)) → TupsAt H' ts → ts.map (·.2) = groupsOf ns → Q (.ref q) H'
theorem SqT.same {K : PySem.W.Frag} {H H' : Hp} {a : Addr} {xs : List V} (h : SqT K H a xs) (e : Same H H') : SqT K H' a xs := by
  rcases h with (h | ⟨o, h⟩) | h
  · exact .inl (.inl (e _ _ h))
  · exact .inl (.inr ⟨o, e _ _ h⟩)
  · exact .inr h
theorem ok_lgroups {a : Addr} {fd : FuncData} (T : Txt mg) (D : Df K mg "_law_groups" s__law_groups p__law_groups a fd) : FnOk P w K mg base CX0 1 a fd p__law_groups (spGroups K) := by
  refine D.F.ok c__law_groups (fun vs H Q E h => ?_) (fun cdv A outer s H vs Q E hr h => ?_)
  · obtain ⟨a, ns, rfl, _⟩ := h
    rfl
  · obtain ⟨a, ns, rfl, hS, hl, k⟩ := h
    have nd := c__law_groups.nd
    refine ⟨_, pss_cons (ps_set (i := 1) nd rfl (.inl rfl) (pe_lst (pa_cons (pe_tup pa_nil) pa_nil)))
      (pss_cons (ps_for PassesOwn.never rfl (pi_tup (pv 0)) (pg_name (i := 2) nd rfl (Or.inr rfl))
        (pss_one (ps_set (i := 1) nd rfl (.inl rfl) (pe_op op_cat (pv 1) (pe_lc (own := [("some", 3)]) (g := gName 3) (tt := tYes) (te := tOp (rCatA K) (tVar 3) (tTup (tCons (tVar 2) tNil))) rfl nd (pi_list (pv 1))
          (blkOk_by (own := [("some", 3)]) (N := n__law_groups) (sc := defScope s__law_groups) (by decide +kernel)) (fun _ _ _ _ _ => pg_name (i := 3) nd rfl (Or.inl rfl)) (fun _ _ _ _ _ => pts_nil)
          (fun _ _ _ _ _ => pe_op op_catA (pv 3) (pe_tup (pa_cons (pv 2) pa_nil))))))))
      (pss_one (ps_ret (pe_callB (cr_sortG hr.units) (by rfl) T.b_sorted boot_sorted (pa_cons (pv 1) pa_nil))))), ?_⟩
    refine ⟨Nat.zero_le _, fun E0 nE => ⟨(by show 1 ≤ sizeLine; decide), fun q nq => ?_⟩⟩
    have s0 : Same H (upd H E0 (.tup [])) := same_new nE
    have s1 := s0.trans (same_new (o := .lst [V.ref E0]) nq)
    have nqE : E0 ≠ q := ne_of_none upd_same nq
    refine ⟨_, rfl, a, rfl, ⟨_, SqT.same hS s1⟩, for_tup (K := K) (a := a) (xs := ns.map V.str) (fun i σ H5 => ∃ (q : Addr) (ts : List (Addr × Grp)) (y2 y3 : Option V), σ = [some (.ref a), some (.ref q), y2, y3] ∧ Same H H5 ∧ H5 q = some (.lst (refs ts)) ∧ TupsAt H5 ts ∧
        (∃ r, ts.map (·.2) = [] :: r) ∧ ts.length = 2 ^ i ∧ (∀ t ∈ ts, t.2.length ≤ i) ∧ subsFrom (ts.map (·.2)) (ns.drop i) = subsFrom [[]] ns)
      ⟨q, [(E0, [])], _, _, rfl, s1, upd_same, .one (by rw [upd_ne nqE]; exact upd_same), ⟨[], rfl⟩, rfl, (fun t m => by rw [List.mem_singleton.mp m]; exact Nat.le_refl _), rfl⟩ (fun i σ H5 hi hP => ?_) (fun i x σ H5 hx hP => ?_) (fun σ H5 hP => ?_)⟩
    · obtain ⟨q, ts, y2, y3, rfl, s5, _⟩ := hP
      exact SqT.same hS s5
    · obtain ⟨q, ts, y2, y3, rfl, s5, hq, ht, hh, hlen, hgi, hsub⟩ := hP
      rw [List.getElem?_map] at hx
      obtain ⟨n, hn, rfl⟩ : ∃ n, ns[i]? = some n ∧ x = V.str n := by
        cases e : ns[i]? with
        | none => rw [e] at hx; cases hx
        | some n => rw [e] at hx; cases hx; exact ⟨n, rfl, rfl⟩
      have hin : i < ns.length := (List.getElem?_eq_some_iff.mp hn).1
      have hgl : ∀ t ∈ ts, t.2.length ≤ 8 := fun t m => Nat.le_trans (hgi t m) (by omega)
      have hpow : 2 ^ i ≤ 128 := Nat.le_trans (Nat.pow_le_pow_right (by decide) (show i ≤ 7 by omega)) (by decide)
      refine ⟨_, rfl, _, rfl, q, rfl, ⟨_, .inl (.inl hq)⟩, fun Ad nA => ?_⟩
      have nAq : q ≠ Ad := ne_of_none hq nA
      refine lc_it (walk_list (xs := refs ts)) (fun j H6 => ∃ us : List (Addr × Grp), us.length = j ∧ us.map (·.2) = (ts.take j).map (fun t => t.2 ++ [n]) ∧ Same H5 H6 ∧ H6 Ad = some (.lst (refs us)) ∧ TupsAt H6 us)
        ⟨[], rfl, rfl, same_new nA, upd_same, .nil⟩ (fun j H6 hj hP => ?_) (fun j x H6 H7 hj hP hY => ?_) (fun H6 hP => ?_)
      · obtain ⟨us, _, _, s6, _, _⟩ := hP
        exact .inl (.inl (s6 _ _ hq))
      · obtain ⟨us, hu, hus, s6, hA, hT⟩ := hP
        obtain ⟨rfl, hx⟩ := hY
        have hjt : j < ts.length := by
          rw [List.length_map] at hj
          exact hj
        have htj : ts[j]? = some ts[j] := List.getElem?_eq_getElem hjt
        have ex : x = V.ref ts[j].1 := by
          rw [List.getElem?_map, htj] at hx
          exact (Option.some.inj hx).symm
        subst ex
        have hg := s6 _ _ (ht ts[j] (List.getElem_mem hjt))
        have hAfree : H5 Ad = none := nA
        refine ⟨rfl, _, rfl, _, rfl, (by show 1 ≤ sizeLine; decide), fun N1 nN => ?_⟩
        have t1 := same_new (o := .tup [V.str n]) nN
        have nNA : Ad ≠ N1 := ne_of_none hA nN
        have hlt : (ts[j].2.map V.str).length ≤ 8 := by
          rw [List.length_map]
          exact hgl ts[j] (List.getElem_mem hjt)
        have fin : ∀ (g : Addr) (H8 : Hp), Same H7 H8 → H8 g = some (.tup ((ts[j].2 ++ [n]).map V.str)) → g ≠ Ad → ∃ acc, H8 Ad = some (.lst acc) ∧ acc.length < sizeLine ∧ ∃ us : List (Addr × Grp), us.length = j + 1 ∧ us.map (·.2) = (ts.take (j + 1)).map (fun t => t.2 ++ [n]) ∧ Same H5 (upd H8 Ad (.lst (acc ++ [V.ref g]))) ∧
            (upd H8 Ad (.lst (acc ++ [V.ref g]))) Ad = some (.lst (refs us)) ∧ TupsAt (upd H8 Ad (.lst (acc ++ [V.ref g]))) us := fun g H8 s8 hg8 ngA => by
          have noA : ∀ {b : Addr} {o : HO}, H5 b = some o → b ≠ Ad := fun hb => ne_of_none hb hAfree
          refine ⟨refs us, s8 _ _ hA, small1000 (by rw [List.length_map]; have := hj; omega), us ++ [(g, ts[j].2 ++ [n])], by rw [List.length_append, hu]; rfl, ?_, fun b o hb => ?_, ?_, fun t ht' => ?_⟩
          · rw [List.map_append, hus, List.take_add_one, htj, List.map_append]
            rfl
          · rw [upd_ne (noA hb)]
            exact s8 _ _ (s6 _ _ hb)
          · rw [upd_same, refs_app]
            rfl
          · rcases List.mem_append.mp ht' with m | m
            · have nt : t.1 ≠ Ad := fun z => by
                have z1 := hT t m
                rw [z, hA] at z1
                cases z1
              rw [upd_ne nt]
              exact s8 _ _ (hT t m)
            · rw [List.mem_singleton.mp m, upd_ne ngA]
              exact hg8
        refine ⟨_, _, ts[j].2.map V.str, [V.str n], rfl, rfl, .inl (.inl (t1 _ _ hg)), .inl (.inl upd_same), ?_, fun e => ?_, fun _ e => (by cases e), fun _ _ p np => ?_⟩
        · show (ts[j].2.map V.str).length + 1 ≤ sizeLine
          exact Nat.le_trans (Nat.add_le_add_right hlt 1) (by decide)
        · refine fin N1 _ t1 ?_ nNA.symm
          rw [List.map_append, e]
          exact upd_same
        · have nAp : Ad ≠ p := ne_of_none (t1 _ _ hA) np
          refine fin p _ (t1.trans (same_new np)) ?_ nAp.symm
          rw [upd_same, List.map_append]
          rfl
      · obtain ⟨us, hu, hus, s6, hA, hT⟩ := hP
        refine ⟨q, Ad, refs ts, refs us, rfl, rfl, s6 _ _ hq, hA, ?_, fun p np => ?_⟩
        · rw [List.length_map, List.length_map, hu, List.length_map, hlen]
          exact Nat.le_trans (Nat.add_le_add hpow hpow) (by decide)
        · have hu' : us.map (·.2) = (ts.map (·.2)).map (· ++ [n]) := by
            rw [hus, List.length_map, take_all (Nat.le_refl _), List.map_map]
            rfl
          refine ⟨p, ts ++ us, _, _, rfl, s5.trans (s6.trans (same_new np)), by rw [upd_same, refs_app], ((ht.same s6).app hT).same (same_new np), ?_, ?_, ?_, ?_⟩
          · obtain ⟨r, hr'⟩ := hh
            rw [List.map_append, hr']
            exact ⟨_, rfl⟩
          · have hr' : (refs ts).length = ts.length := List.length_map ..
            rw [List.length_append, hu, hr', hlen, Nat.pow_succ]
            omega
          · intro t m
            rcases List.mem_append.mp m with m | m
            · exact Nat.le_trans (hgi t m) (Nat.le_succ i)
            · have m2 : t.2 ∈ us.map (·.2) := List.mem_map_of_mem m
              rw [hu'] at m2
              obtain ⟨g, hg, e⟩ := List.mem_map.mp m2
              obtain ⟨t', ht', rfl⟩ := List.mem_map.mp hg
              rw [← e, List.length_append]
              have := hgi t' ht'
              show t'.2.length + 1 ≤ i + 1
              omega
          · rw [List.drop_eq_getElem_cons hin] at hsub
            rw [List.map_append, hu']
            have e2 : ns[i] = n := by
              rw [List.getElem?_eq_getElem hin] at hn
              exact Option.some.inj hn
            rw [e2] at hsub
            exact hsub
    · obtain ⟨q, ts, y2, y3, rfl, s5, hq, ht, ⟨r, hh⟩, hlen, _, hsub⟩ := hP
      refine ⟨_, rfl, q, ts, rfl, .inl (.inl hq), ht.sqT, fun t r' e => ?_, fun p np => ?_⟩
      · subst e
        exact (List.cons.inj hh).1
      · refine k p _ (ts.mergeSort leT) (s5.trans (same_new np)) (s5.free np) upd_same (fun t m => ?_) ?_
        · exact (same_new np) _ _ (ht t ((List.mergeSort_perm ts leT).mem_iff.mp m))
        · rw [snd_sort]
          rw [List.length_map, List.drop_length] at hsub
          rw [show ts.map (·.2) = subsFrom [[]] ns from hsub]
          rfl
/-! ### _law_names -/
def base7 : List Str := ["a", "ann", "b", "bo", "c", "zed", "zz"]
theorem base7_nd : base7.Nodup := by decide +kernel
theorem base7_nm : ∀ n ∈ base7, nameV (.str n) = true := by decide +kernel
def spNames : Sp := fun vs H Q _ => ∃ (p : Addr) (m : Nat), vs = [.ref p, .int (m : Int)] ∧ CupAt H p ∧ 3 ≤ m ∧ m ≤ 5 ∧
  ∀ (q : Addr) (H' : Hp) (ns : List Str), Nms m ns → Drawn p H H' → H q = none → q ≠ p → H' q = some (.tup (ns.map V.str)) → Q (.ref q) H'
theorem ok_lnames {a aS aE aM : Addr} {fd fdS fdE fdM : FuncData} (T : Txt mg) (D : Df K mg "_law_names" s__law_names p__law_names a fd) (DS : Df K mg "_law_sip" s__law_sip p__law_sip aS fdS)
    (DE : Df K mg "_law_select" s__law_select p__law_select aE fdE) (DM : Df K mg "_law_mingled" s__law_mingled p__law_mingled aM fdM) : FnOk P w K mg base CX0 3 a fd p__law_names spNames := by
  have GE : FnOk P w K mg base CX0 2 aE fdE p__law_select (spSelect K) := ok_select T DE DS
  have GM : FnOk P w K mg base CX0 2 aM fdM p__law_mingled (spMingled K) := ok_mingled T DM DS
  refine D.F.ok c__law_names (fun vs H Q E h => ?_) (fun cdv A outer s H vs Q E hr h => ?_)
  · obtain ⟨p, m, rfl, _⟩ := h
    rfl
  · obtain ⟨p, m, rfl, hp, m3, m5, k⟩ := h
    have nd := c__law_names.nd
    refine ⟨_, pss_cons (ps_set (i := 2) nd rfl (.inl rfl) (pe_callB (call_min2 rfl) (by rfl) T.b_min boot_min (pa_cons (pv 1) (pa_cons (dcall DE GE hr (pa_cons (pv 0) (pa_cons (pe_lst (pa_cons pe_int (pa_cons pe_int (pa_cons pe_int (pa_cons pe_int (pa_cons (pv 1) (pa_cons (pv 1) pa_nil))))))) pa_nil))) pa_nil))))
      (pss_one (ps_ret (pe_callTy call_tuple_of (by rfl) T.b_tuple boot_tuple (pa_cons (pe_callB (cr_sortS hr.units) (by rfl) T.b_sorted boot_sorted (pa_cons (pe_slice sl_list
        (dcall DM GM hr (pa_cons (pv 0) (pa_cons (pe_lst (pa_cons pe_str (pa_cons pe_str (pa_cons pe_str (pa_cons pe_str (pa_cons pe_str (pa_cons pe_str (pa_cons pe_str pa_nil)))))))) pa_nil))) po_none (po_some (pv 2))) pa_nil)) pa_nil)))), ?_⟩
    refine ⟨_, rfl, _, rfl, _, rfl, _, rfl, (by show 6 ≤ sizeLine; decide), fun L nL => ?_⟩
    have d0 : Drawn p H H := .here hp
    have d1 := d0.new (o := .lst [.int 1, .int 2, .int 3, .int 3, .int (m : Int), .int (m : Int)]) nL
    obtain ⟨nLH, nLp⟩ := d0.none nL
    refine ⟨p, L, [.int 1, .int 2, .int 3, .int 3, .int (m : Int), .int (m : Int)], rfl, d1.cup,   .inl (.inl upd_same), nLp, (by show 0 < 6; decide), (by show 6 ≤ 1000; decide), fun v H2 hv d2 => ?_⟩
    obtain ⟨z, rfl, z1, zm⟩ : ∃ z : Nat, v = V.int (z : Int) ∧ 1 ≤ z ∧ z ≤ m := by
      simp only [List.mem_cons, List.not_mem_nil, or_false] at hv
      rcases hv with rfl | rfl | rfl | rfl | rfl | rfl
      · exact ⟨1, rfl, by omega, by omega⟩
      · exact ⟨2, rfl, by omega, by omega⟩
      · exact ⟨3, rfl, by omega, by omega⟩
      · exact ⟨3, rfl, by omega, by omega⟩
      · exact ⟨m, rfl, by omega, by omega⟩
      · exact ⟨m, rfl, by omega, by omega⟩
    have hmin : (if (z : Int) < (m : Int) then (z : Int) else (m : Int)) = (z : Int) := by
      split <;> omega
    refine ⟨_, _, rfl, ?_⟩
    rw [hmin]
    have d3 := d1.trans d2
    refine ⟨_, rfl, (by show 7 ≤ sizeLine; decide), fun B nB => ?_⟩
    have d4 := d3.new (o := .lst (base7.map V.str)) nB
    obtain ⟨nBH, nBp⟩ := d3.none nB
    refine ⟨p, B, base7.map V.str, rfl, d4.cup, .inl (.inl (.inl upd_same)), nBp, by decide, fun q1 H5 ys hys d5 nq1 nq1p hq1 => ?_⟩
    obtain ⟨xs, rfl, px⟩ := unS_map hys
    have d6 := d4.trans d5
    refine ⟨_, rfl, _, rfl, q1, _, rfl, .inl (.inl hq1), fun C nC => ?_⟩
    rw [cutV_take, ← List.map_take]
    have d7 := d6.new (o := .lst ((xs.take z).map V.str)) nC
    refine ⟨C, xs.take z, rfl, .inl (.inl (.inl upd_same)), fun S nS => ?_⟩
    have d8 := d7.new (o := .lst (((xs.take z).mergeSort leS).map V.str)) nS
    refine ⟨S, _, rfl, .inl ⟨.inl (.inl upd_same), fun R nR => ?_⟩⟩
    obtain ⟨nRH, nRp⟩ := d8.none nR
    have hx7 : xs.length = 7 := px.length_eq
    have xnd : (xs.take z).Nodup := (px.nodup_iff.mpr base7_nd).sublist (List.take_sublist z xs)
    have hl : ((xs.take z).mergeSort leS).length = z := by
      rw [List.length_mergeSort, List.length_take, hx7]
      omega
    refine k R _ ((xs.take z).mergeSort leS) ⟨by omega, by omega, sort_asc xnd, fun n hn => ?_⟩ (d8.new nR) nRH nRp upd_same
    have h1 := (List.mergeSort_perm (xs.take z) leS).mem_iff.mp hn
    exact base7_nm n (px.mem_iff.mp (List.mem_of_mem_take h1))
/-! ### _law_by_parts -/
def gainOk (g : Grp) (x : Int) : Prop := -3 ≤ x ∧ x ≤ 7 ∧ (g = [] → x = 0) ∧ (1 < g.length → 0 ≤ x)
/-- is each person of the one group in the other -/
def subG (p g : Grp) : Bool := p.all fun n => decide (n ∈ g)
def partSum (gs : List Grp) (G : Grp → Int) (g : Grp) : Int := ((gs.filter fun p => subG p g).map G).sum
def spParts : Sp := fun vs H Q _ => ∃ (p tn : Addr) (ns : List Str), vs = [.ref p, .ref tn] ∧ CupAt H p ∧ H tn = some (.tup (ns.map V.str)) ∧ ns.length ≤ 5 ∧ ns.Nodup ∧ (∀ n ∈ ns, OkT 8 n) ∧
  ∀ (q : Addr) (H' : Hp) (G : Grp → Int), (∀ g ∈ groupsOf ns, gainOk g (G g)) → Drawn p H H' → H q = none → q ≠ p → H' q = some (.dT (wDict (groupsOf ns) (partSum (groupsOf ns) G))) → Q (.ref q) H'
theorem sel_of {xs : List Int} {v : V} (h : v ∈ xs.map V.int) : ∃ x ∈ xs, v = V.int x := by
  obtain ⟨x, m, e⟩ := List.mem_map.mp h
  exact ⟨x, m, e.symm⟩
theorem ok_lparts {a aS aE aG : Addr} {fd fdS fdE fdG : FuncData} (T : Txt mg) (D : Df K mg "_law_by_parts" s__law_by_parts p__law_by_parts a fd) (DS : Df K mg "_law_sip" s__law_sip p__law_sip aS fdS)
    (DE : Df K mg "_law_select" s__law_select p__law_select aE fdE) (DG : Df K mg "_law_groups" s__law_groups p__law_groups aG fdG) : FnOk P w K mg base CX0 3 a fd p__law_by_parts spParts := by
  have GS : FnOk P w K mg base CX0 1 aS fdS p__law_sip spSip := ok_sip T DS
  have GE : FnOk P w K mg base CX0 2 aE fdE p__law_select (spSelect K) := ok_select T DE DS
  have GG : FnOk P w K mg base CX0 1 aG fdG p__law_groups (spGroups K) := ok_lgroups T DG
  refine D.F.ok c__law_by_parts (fun vs H Q E h => ?_) (fun cdv A outer s H vs Q E hr h => ?_)
  · obtain ⟨p, tn, ns, rfl, _⟩ := h
    rfl
  · obtain ⟨p, tn, ns, rfl, hp, htn, hl, hnd, hok, k⟩ := h
    have nd := c__law_by_parts.nd
    have hu := hu_of hr
    have hr1 : Room 1 (A.deeper (envOfC "_law_by_parts" (defScope s__law_by_parts) s.heap.objs.size a cdv)) := hr.mono (by decide)
    have cu := hr.units
    refine ⟨_, pss_cons (ps_set (i := 2) nd rfl (.inr rfl) pe_dnewT)
      (pss_cons (ps_for PassesOwn.never rfl (pi_list (dcall DG GG hr1 (pa_cons (pv 1) pa_nil))) (pg_name (i := 3) nd rfl (Or.inr rfl))
        (pss_cons (ps_dput hu (pv 2) (pv 3) pe_int rfl)
        (pss_cons (ps_if (pt_cmpR op_eq (pe_callB call_lenQ (by rfl) T.b_len PySem.boot_len (pa_cons (pv 3) pa_nil)) pe_int (nomark _))
          (pss_one (ps_dput hu (pv 2) (pv 3) (dcall DE GE hr (pa_cons (pv 0) (pa_cons (pe_lst (pa_cons pe_int (pa_cons pe_int (pa_cons pe_int (pa_cons pe_int (pa_cons pe_int (pa_cons (pe_op op_sub pe_int pe_int) (pa_cons (pe_op op_sub pe_int pe_int) pa_nil)))))))) pa_nil))) rfl)) pss_nil)
        (pss_one (ps_if (PW.pt (pw_and (pt_cmpR op_gt (pe_callB call_lenQ (by rfl) T.b_len PySem.boot_len (pa_cons (pv 3) pa_nil)) pe_int (nomark _)) (pw_and1 (pt_cmpR op_eq (dcall DS GS hr1 (pa_cons (pv 0) (pa_cons pe_int pa_nil))) pe_int (nomark _)))))
          (pss_one (ps_dput hu (pv 2) (pv 3) (dcall DE GE hr (pa_cons (pv 0) (pa_cons (pe_lst (pa_cons pe_int (pa_cons pe_int (pa_cons pe_int (pa_cons pe_int (pa_cons pe_int (pa_cons pe_int pa_nil))))))) pa_nil))) rfl)) pss_nil)))))
      (pss_cons (ps_set (i := 4) nd rfl (.inl rfl) pe_dnewT)
      (pss_cons (ps_lock (ps_for PassesOwn.never rfl (pi_keys (pv 2)) (pg_name (i := 3) nd rfl (Or.inr rfl))
        (pss_cons (ps_setLc (i := 5) (own := [("part", 6)]) (g := gName 6) (tt := tTest (tOp (rEqD K) (tLc (iTup K (tVar 6)) (gName 7) (tTest (tOp (rIn K true) (tVar 7) (tVar 3))) (tVar 7) [7]) (tLst tNil))) (te := tVar 6) rfl nd rfl rfl (sw_true rfl rfl rfl (by decide +kernel)) (pi_keys (pv 2))
            (blkOk_by (own := [("part", 6)]) (N := n__law_by_parts) (sc := defScope s__law_by_parts) (by decide +kernel)) (fun _ _ _ _ _ => pg_name (i := 6) nd rfl (Or.inl rfl))
            (fun _ _ _ _ _ => pts_one (pt_cmpR (op_eqD cu) (pe_lc (own := [("name", 7)]) (g := gName 7) (tt := tTest (tOp (rIn K true) (tVar 7) (tVar 3))) (te := tVar 7) rfl nd (pi_tup (pv 6))
              (blkOk_by (own := [("name", 7)]) (N := n__law_by_parts) (by rfl)) (fun _ _ _ _ _ => pg_name (i := 7) nd rfl (Or.inl rfl)) (fun _ _ _ _ _ => pts_one (pt_cmpR op_notIn_seq (pv 7) (pv 3) (by rfl))) (fun _ _ _ _ _ => pv 7)) (pe_lst pa_nil) (nomark _)))
            (fun _ _ _ _ _ => pv 6))
        (pss_one (ps_dput hu (pv 4) (pv 3) (pe_callB (cr_sum rfl) (by rfl) T.b_sum boot_sum (pa_cons (pe_lc (own := [("part", 6)]) (g := gName 6) (tt := tYes) (te := tDGet (tVar 2) (tVar 6)) rfl nd (pi_list (pv 5))
            (blkOk_by (own := [("part", 6)]) (N := n__law_by_parts) (sc := defScope s__law_by_parts) (by decide +kernel)) (fun _ _ _ _ _ => pg_name (i := 6) nd rfl (Or.inl rfl)) (fun _ _ _ _ _ => pts_nil) (fun _ _ _ _ _ => pe_dget hu (pv 2) (pv 6) (fun _ _ => rfl))) pa_nil)) rfl)))))
      (pss_one (ps_ret (pv 4)))))), ?_⟩
    intro d nd0
    have dr0 : Drawn p H H := .here hp
    obtain ⟨ndH, ndp⟩ := dr0.none nd0
    have dr1 := dr0.new (o := .dT []) nd0
    have htn1 : (upd H d (.dT [])) tn = some (.tup (ns.map V.str)) := (same_new nd0) _ _ htn
    refine ⟨_, rfl, tn, ns, rfl, .inl (.inl htn1), by omega, fun q H2 ts s2 nq hq ht hts => ⟨q, rfl, ⟨_, .inl (.inl hq)⟩, ?_⟩⟩
    obtain ⟨nqH, nqp⟩ := dr1.none nq
    have dr2 : Drawn p H H2 := ⟨dr1.kp.trans (Same.kp s2), dr1.cup.same s2⟩
    have hd2 : H2 d = some (.dT []) := s2 _ _ upd_same
    have gnd : (groupsOf ns).Nodup := groups_nodup hnd
    have glen : (groupsOf ns).length ≤ 32 := by
      rw [groups_len]
      exact Nat.le_trans (Nat.pow_le_pow_right (by decide) hl) (by decide)
    have tlen : ts.length = (groupsOf ns).length := by
      rw [← hts, List.length_map]
    refine for_list (K := K) (a := q) (xs := refs ts) (fun i σ H5 => ∃ (y3 y4 y5 y6 y7 : Option V) (G : Grp → Int), σ = [some (.ref p), some (.ref tn), some (.ref d), y3, y4, y5, y6, y7] ∧ Drawn p H H5 ∧ TupsAt H5 ts ∧ H5 q = some (.lst (refs ts)) ∧
        H5 d = some (.dT (wDict ((groupsOf ns).take i) G)) ∧ ∀ g ∈ (groupsOf ns).take i, gainOk g (G g))
      ⟨_, _, _, _, _, fun _ => 0, rfl, dr2, ht, hq, hd2, fun g m => by rw [List.take_zero] at m; exact absurd m List.not_mem_nil⟩ (fun i σ H5 hi hP => ?_) (fun i x σ H5 hx hP => ?_) (fun σ H5 hP => ?_)
    · obtain ⟨y3, y4, y5, y6, y7, G, rfl, dr, hT, hq5, _, _⟩ := hP
      exact .inl (.inl hq5)
    · obtain ⟨y3, y4, y5, y6, y7, G, rfl, dr, hT, hq5, hd5, hG⟩ := hP
      obtain ⟨t, htI, rfl⟩ : ∃ t, ts[i]? = some t ∧ x = V.ref t.1 := by
        rw [List.getElem?_map] at hx
        cases e : ts[i]? with
        | none => rw [e] at hx; cases hx
        | some t => rw [e] at hx; cases hx; exact ⟨t, rfl, rfl⟩
      have hgI : (groupsOf ns)[i]? = some t.2 := by
        rw [← hts, List.getElem?_map, htI]
        rfl
      have hin : i < (groupsOf ns).length := (List.getElem?_eq_some_iff.mp hgI).1
      have hnew : t.2 ∉ (groupsOf ns).take i := by
        intro m
        obtain ⟨j, hj, e⟩ := List.getElem_of_mem m
        have hji : j < i := by
          rw [List.length_take] at hj
          omega
        rw [List.getElem_take] at e
        have e2 := (List.getElem?_eq_some_iff.mp hgI).2
        have := (List.getElem_inj (h₀ := by omega) (h₁ := hin) gnd).mp (e.trans e2.symm)
        omega
      have hmem : t.2 ∈ groupsOf ns := List.mem_of_getElem? hgI
      have htup : ∀ {H : Hp}, TupsAt H ts → H t.1 = some (.tup ((kG t.2).map kV)) := fun h => by
        rw [kG_V]
        exact h.get htI
      have nodt : ∀ {H : Hp} {kvs : List (List Key × V)}, H d = some (.dT kvs) → ∀ xs, H d ≠ some (.tup xs) := fun e xs q => by
        rw [e] at q
        cases q
      have vnone : valV (wDict ((groupsOf ns).take i) G) (kG t.2) = none := wDict_out hnew
      have small : (wDict ((groupsOf ns).take i) G).length < sizeLine := small1000 (by rw [wDict_len, List.length_take]; omega)
      have small2 : ∀ v : V, (wDict ((groupsOf ns).take i) G ++ [(kG t.2, v)]).length < sizeLine := fun v => small1000 (by rw [List.length_append, wDict_len, List.length_take]; show _ + 1 ≤ 1000; omega)
      have nqd : q ≠ d := by
        intro z
        rw [z, hd5] at hq5
        cases hq5
      have lenV : ((t.2.map V.str).length : Int) = (t.2.length : Int) := by rw [List.length_map]
      -- behind the turn
      have fin : ∀ (H8 : Hp) (y4 y5 y6 y7 : Option V) (x : Int), Drawn p H H8 → TupsAt H8 ts → H8 q = some (.lst (refs ts)) → H8 d = some (.dT (wDict ((groupsOf ns).take i) G ++ [(kG t.2, .int x)])) → gainOk t.2 x →
          ∃ (z3 z4 z5 z6 z7 : Option V) (G : Grp → Int), [some (V.ref p), some (.ref tn), some (.ref d), some (.ref t.1), y4, y5, y6, y7] = [some (.ref p), some (.ref tn), some (.ref d), z3, z4, z5, z6, z7] ∧ Drawn p H H8 ∧ TupsAt H8 ts ∧ H8 q = some (.lst (refs ts)) ∧
            H8 d = some (.dT (wDict ((groupsOf ns).take (i + 1)) G)) ∧ ∀ g ∈ (groupsOf ns).take (i + 1), gainOk g (G g) := fun H8 y4 y5 y6 y7 x dr8 hT8 hq8 hd8 ok => by
        have ne : ∀ g ∈ (groupsOf ns).take i, g ≠ t.2 := fun g m e => hnew (e ▸ m)
        refine ⟨_, _, _, _, _, fun g => if g = t.2 then x else G g, rfl, dr8, hT8, hq8, ?_, fun g m => ?_⟩
        · rw [List.take_add_one, hgI, hd8]
          show _ = some (HO.dT (wDict ((groupsOf ns).take i ++ [t.2]) _))
          rw [wDict_app, wDict_congr (W := fun g => if g = t.2 then x else G g) (U := G) (fun g m => if_neg (ne g m))]
          show _ = some (HO.dT (_ ++ [(kG t.2, V.int (if t.2 = t.2 then x else G t.2))]))
          rw [if_pos rfl]
        · rw [List.take_add_one, hgI] at m
          rcases List.mem_append.mp m with m | m
          · show gainOk g (if g = t.2 then x else G g)
            rw [if_neg (ne g m)]
            exact hG g m
          · have e : g = t.2 := List.mem_singleton.mp m
            subst e
            show gainOk t.2 (if t.2 = t.2 then x else G t.2)
            rw [if_pos rfl]
            exact ok
      -- gains[some] = 0
      refine ⟨_, rfl, _, rfl, d, _, rfl, DPut.t (k := kG t.2) hd5 (htup hT) small, ?_⟩
      rw [putK_new _ vnone]
      have dr6 : Drawn p H (upd H5 d (.dT (wDict ((groupsOf ns).take i) G ++ [(kG t.2, .int 0)]))) := dr.set ndH ndp
      have hT6 : TupsAt (upd H5 d (.dT (wDict ((groupsOf ns).take i) G ++ [(kG t.2, .int 0)]))) ts := hT.upd (nodt hd5)
      have hq6 : (upd H5 d (.dT (wDict ((groupsOf ns).take i) G ++ [(kG t.2, .int 0)]))) q = some (.lst (refs ts)) := by
        rw [upd_ne nqd]
        exact hq5
      have hd6 : (upd H5 d (.dT (wDict ((groupsOf ns).take i) G ++ [(kG t.2, .int 0)]))) d = some (.dT (wDict ((groupsOf ns).take i) G ++ [(kG t.2, .int 0)])) := upd_same
      generalize upd H5 d (.dT (wDict ((groupsOf ns).take i) G ++ [(kG t.2, .int 0)])) = H6 at dr6 hT6 hq6 hd6
      -- a draw, and gains[some] = it
      have put : ∀ (xs : List Int) (H6 : Hp) (x0 : V), xs ≠ [] → xs.length ≤ 1000 → Drawn p H H6 → TupsAt H6 ts → H6 q = some (.lst (refs ts)) → H6 d = some (.dT (wDict ((groupsOf ns).take i) G ++ [(kG t.2, x0)])) →
          ∀ L, H6 L = none → CupAt (upd H6 L (.lst (xs.map V.int))) p ∧ L ≠ p ∧ 0 < (xs.map V.int).length ∧ (xs.map V.int).length ≤ 1000 ∧ ∀ (v : V) (H7 : Hp), v ∈ xs.map V.int → Drawn p (upd H6 L (.lst (xs.map V.int))) H7 →
            ∃ (x : Int) (H8 : Hp), x ∈ xs ∧ DPut H7 d (.ref t.1) v H8 ∧ Drawn p H H8 ∧ TupsAt H8 ts ∧ H8 q = some (.lst (refs ts)) ∧ H8 d = some (.dT (wDict ((groupsOf ns).take i) G ++ [(kG t.2, .int x)])) := fun xs H6 x0 hne hxl dr6 hT6 hq6 hd6 L nL => by
        have dr7 := dr6.new (o := .lst (xs.map V.int)) nL
        obtain ⟨nLH, nLp⟩ := dr6.none nL
        refine ⟨dr7.cup, nLp, ?_, by rw [List.length_map]; exact hxl, fun v H7 hv d7 => ?_⟩
        · rw [List.length_map]
          exact List.length_pos_iff.mpr hne
        · obtain ⟨x, hx, rfl⟩ := sel_of hv
          have s7 := same_new (o := HO.lst (xs.map V.int)) nL
          have dr8 := dr7.trans d7
          have hd7 : H7 d = some (.dT (wDict ((groupsOf ns).take i) G ++ [(kG t.2, x0)])) := d7.at' (s7 _ _ hd6) ndp
          have hT7 : TupsAt H7 ts := (hT6.same s7).drawn dr7.cup d7
          have hq7 : H7 q = some (.lst (refs ts)) := d7.at' (s7 _ _ hq6) nqp
          refine ⟨x, _, hx, DPut.t (k := kG t.2) hd7 (htup hT7) (small2 x0), dr8.set ndH ndp, hT7.upd (nodt hd7), by rw [upd_ne nqd]; exact hq7, ?_⟩
          rw [put_last _ _ vnone]
          exact upd_same
      refine ⟨_, rfl, t.1, _, rfl, .inr (.inl (.inl (hT6.get htI))), rfl, _, rfl, ite2 (fun e1 => ?_) (fun e1 => ?_)⟩
      · have l1 : t.2.length = 1 := by
          have := V.int.inj (of_decide_eq_true e1)
          omega
        refine ⟨_, rfl, _, _, rfl, rfl, _, _, rfl, rfl, (by show 7 ≤ sizeLine; decide), fun L nL => ?_⟩
        obtain ⟨c7, nLp, x0, x1, go⟩ := put [0, 0, 1, 2, 5, 0 - 1, 0 - 3] H6 (.int 0) (by simp) (by decide) dr6 hT6 hq6 hd6 L nL
        refine ⟨p, L, _, rfl, c7, .inl (.inl upd_same), nLp, x0, x1, fun v H7 hv d7 => ?_⟩
        obtain ⟨x, H8, hx, hput, dr8, hT8, hq8, hd8⟩ := go v H7 hv d7
        refine ⟨_, rfl, _, rfl, d, H8, rfl, hput, ?_⟩
        refine ⟨_, rfl, t.1, _, rfl, .inr (.inl (.inl (hT8.get htI))), _, _, rfl, rfl, _, rfl, ite2 (fun z => ?_) (fun z => ?_)⟩
        · have := of_decide_eq_true z
          omega
        · refine iteF ?_
          refine fin H8 _ _ _ _ x dr8 hT8 hq8 hd8 ?_
          simp only [List.mem_cons, List.not_mem_nil, or_false] at hx
          refine ⟨?_, ?_, fun z => (by rw [z] at l1; cases l1), fun z => (by omega)⟩
          · rcases hx with rfl | rfl | rfl | rfl | rfl | rfl | rfl <;> decide
          · rcases hx with rfl | rfl | rfl | rfl | rfl | rfl | rfl <;> decide
      · have l1 : ¬ t.2.length = 1 := fun z => e1 (decide_eq_true (by rw [lenV, z]; rfl))
        refine ⟨_, rfl, t.1, _, rfl, .inr (.inl (.inl (hT6.get htI))), _, _, rfl, rfl, _, rfl, ite2 (fun z => ?_) (fun z => ?_)⟩
        · have l2 : 1 < t.2.length := by
            have := of_decide_eq_true z
            omega
          refine ⟨_, rfl, p, 2, rfl, by decide, by decide +kernel, dr6.cup, fun r ua ub uc r0 rn => ?_⟩
          have d7 : Drawn p H6 (upd H6 p (.lst [.int ua, .int ub, .int uc])) := draw_ok
          have dr7 := dr6.trans d7
          have hT7 := hT6.drawn dr6.cup d7
          have hq7 := d7.at' hq6 nqp
          have hd7 := d7.at' hd6 ndp
          generalize upd H6 p (.lst [.int ua, .int ub, .int uc]) = H7 at dr7 hT7 hq7 hd7
          refine ⟨rfl, _, rfl, ite2 (fun z2 => ?_) (fun z2 => ?_)⟩
          · refine ⟨_, rfl, (by show 6 ≤ sizeLine; decide), fun L nL => ?_⟩
            obtain ⟨c7, nLp, x0, x1, go⟩ := put [0, 1, 1, 2, 3, 7] H7 (.int 0) (by simp) (by decide) dr7 hT7 hq7 hd7 L nL
            refine ⟨p, L, _, rfl, c7, .inl (.inl upd_same), nLp, x0, x1, fun v H8 hv d8 => ?_⟩
            obtain ⟨x, H9, hx, hput, dr9, hT9, hq9, hd9⟩ := go v H8 hv d8
            refine ⟨_, rfl, _, rfl, d, H9, rfl, hput, ?_⟩
            refine fin H9 _ _ _ _ x dr9 hT9 hq9 hd9 ?_
            simp only [List.mem_cons, List.not_mem_nil, or_false] at hx
            refine ⟨?_, ?_, fun z => (by rw [z] at l2; exact absurd l2 (by decide)), fun _ => ?_⟩
            · rcases hx with rfl | rfl | rfl | rfl | rfl | rfl <;> decide
            · rcases hx with rfl | rfl | rfl | rfl | rfl | rfl <;> decide
            · rcases hx with rfl | rfl | rfl | rfl | rfl | rfl <;> decide
          · exact fin H7 _ _ _ _ 0 dr7 hT7 hq7 hd7 ⟨by decide, by decide, fun _ => rfl, fun _ => by decide⟩
        · refine iteF ?_
          exact fin H6 _ _ _ _ 0 dr6 hT6 hq6 hd6 ⟨by decide, by decide, fun _ => rfl, fun _ => by decide⟩
    · obtain ⟨y3, y4, y5, y6, y7, G, rfl, dr, hT, hq5, hd5, hG⟩ := hP
      rw [List.length_map, tlen, List.take_length] at hd5 hG
      intro f nf
      have drf := dr.new (o := .dT []) nf
      obtain ⟨nfH, nfp⟩ := dr.none nf
      have sf := same_new (o := HO.dT []) nf
      have nfd : d ≠ f := ne_of_none hd5 nf
      refine ⟨d, .dT (wDict (groupsOf ns) G), sf _ _ hd5, trivial, fun od => ?_⟩
      have hTf : TupsAt (upd H5 f (.dT [])) ts := hT.same sf
      have nodt : ∀ xs, (upd H5 f (.dT [])) d ≠ some (.tup xs) := fun xs e => by
        rw [sf _ _ hd5] at e
        cases e
      have hok' : ∀ g ∈ groupsOf ns, ∀ n ∈ g, OkT 8 n := fun g m n hn => hok n ((groups_mem.mp m).subset hn)
      refine ⟨_, rfl, d, od, rfl, .inr ⟨wDict (groupsOf ns) G, upd_same, ?_⟩⟩
      refine for_it walk_keysT (fun i σ H7 => ∃ (y3 y5 y6 y7 : Option V), σ = [some (.ref p), some (.ref tn), some (.ref d), y3, some (.ref f), y5, y6, y7] ∧ Drawn p H H7 ∧ H7 d = some (.frz od (.dT (wDict (groupsOf ns) G))) ∧ H7 f = some (.dT (wDict ((groupsOf ns).take i) (partSum (groupsOf ns) G))))
        ⟨_, _, _, _, rfl, drf.set ndH ndp, upd_same, by rw [upd_ne nfd.symm]; exact upd_same⟩ (fun i σ H7 hi hP => ?_) (fun i x σ H7 H7' hi hP hY => ?_) (fun σ H7 hP => ?_)
      · obtain ⟨_, _, _, _, _, _, hd7, _⟩ := hP
        exact hd7
      · obtain ⟨y3, y5, y6, y7, rfl, dr7, hd7, hf7⟩ := hP
        obtain ⟨rfl, kk, vv, qk, hkv, rfl, hqk⟩ := hY
        rw [wDict_len] at hi
        have key : ∀ {j : Nat} {kk : List Key} {vv : V}, j < (groupsOf ns).length → (wDict (groupsOf ns) G)[j]? = some (kk, vv) → ∃ g, (groupsOf ns)[j]? = some g ∧ kk = kG g := fun {j kk vv} hj e => by
          have e1 : (wDict (groupsOf ns) G)[j]? = ((groupsOf ns)[j]?).map fun g => (kG g, V.int (G g)) := List.getElem?_map
          rw [e1, List.getElem?_eq_getElem hj] at e
          cases e
          exact ⟨_, List.getElem?_eq_getElem hj, rfl⟩
        obtain ⟨g, hg, rfl⟩ := key hi hkv
        have hgm : g ∈ groupsOf ns := List.mem_of_getElem? hg
        rw [kG_V] at hqk
        have nfd7 : f ≠ d := nfd.symm
        refine ⟨_, rfl, d, od, rfl, .inr ⟨_, hd7, fun Ad nA => ?_⟩⟩
        have nAd : d ≠ Ad := ne_of_none hd7 nA
        refine lc_it walk_keysT (fun j H8 => ∃ us : List (Addr × Grp), H8 Ad = some (.lst (refs us)) ∧ us.map (·.2) = ((groupsOf ns).take j).filter (fun p => subG p g) ∧ TupsAt H8 us ∧ Same H7' H8)
          ⟨[], upd_same, rfl, .nil, same_new nA⟩ (fun j H8 hj hP => ?_) (fun j x H8 H9 hj hP hY => ?_) (fun H8 hP => ?_)
        · obtain ⟨us, _, _, _, s8⟩ := hP
          exact s8 _ _ hd7
        · obtain ⟨us, hA, hus, hT8, s8⟩ := hP
          obtain ⟨rfl, kk, vv, qp, hkv2, rfl, hqp⟩ := hY
          rw [wDict_len] at hj
          obtain ⟨pt, hpt, rfl⟩ := key hj hkv2
          rw [kG_V] at hqp
          have hpm : pt ∈ groupsOf ns := List.mem_of_getElem? hpt
          have pl : pt.length ≤ 5 := Nat.le_trans (groups_mem.mp hpm).length_le hl
          have hqg := s8 _ _ hqk
          let fl : List Str → List Str := fun l => l.filter fun n => !decide (n ∈ g)
          refine ⟨rfl, ?_⟩
          refine ⟨_, rfl, qp, rfl, ⟨_, .inl (.inl hqp)⟩, fun Bd nB => ?_⟩
          refine lc_it (walk_tup (xs := pt.map V.str)) (fun m H10 => H10 = upd H9 Bd (.lst ((fl (pt.take m)).map V.str))) rfl (fun m H10 _ e => ?_) (fun m x H10 H11 hm e hY => ?_) (fun H10 e => ?_)
          · rw [e]
            exact .inl (.inl ((same_new nB) _ _ hqp))
          · obtain ⟨rfl, hx⟩ := hY
            subst e
            obtain ⟨n, hn, rfl⟩ : ∃ n, pt[m]? = some n ∧ x = V.str n := by
              rw [List.getElem?_map] at hx
              cases e : pt[m]? with
              | none => rw [e] at hx; cases hx
              | some n => rw [e] at hx; cases hx; exact ⟨n, rfl, rfl⟩
            refine ⟨rfl, _, rfl, _, rfl, qk, g.map V.str, rfl, .inr (.inl (.inl ((same_new nB) _ _ hqg))), rfl, flat_names g, _, rfl, ?_⟩
            rw [if_pos rfl, inV_names]
            refine ite2 (fun h3 => ?_) (fun h3 => ?_)
            · refine ⟨_, rfl, _, upd_same, ?_, ?_⟩
              · rw [List.length_map]
                have : (fl (pt.take m)).length ≤ (pt.take m).length := List.length_filter_le _ _
                rw [List.length_take] at this
                exact small1000 (by omega)
              · rw [upd_upd, List.take_add_one, hn]
                show _ = upd H9 Bd (.lst (((pt.take m ++ [n]).filter fun n => !decide (n ∈ g)).map V.str))
                rw [List.filter_append, List.filter_cons_of_pos (p := fun n => !decide (n ∈ g)) h3, List.map_append]
                rfl
            · rw [List.take_add_one, hn]
              show _ = upd H9 Bd (.lst (((pt.take m ++ [n]).filter fun n => !decide (n ∈ g)).map V.str))
              rw [List.filter_append, List.filter_cons_of_neg (p := fun n => !decide (n ∈ g)) h3]
              show _ = upd H9 Bd (.lst ((fl (pt.take m) ++ []).map V.str))
              rw [List.append_nil]
          · subst e
            rw [List.length_map, List.take_length]
            have nBA : Ad ≠ Bd := ne_of_none hA nB
            have sB := same_new (o := HO.lst ((fl pt).map V.str)) nB
            refine ⟨Nat.zero_le _, fun Cd nC => ?_⟩
            have sC := same_new (o := HO.lst []) nC
            have nCB : Bd ≠ Cd := ne_of_none upd_same nC
            refine ⟨.list (encG (fl pt)), .list [], .lst (.inl (.inl (sC _ _ upd_same))) (dp_names _), .lst (.inl (.inl upd_same)) .nil, shaped_texts _ (fun n hn => (hok' pt hpm n (List.mem_filter.mp hn).1).cps), rfl, _, rfl, ?_⟩
            have hev : PyData.eqv (.list (encG (fl pt))) (.list []) = subG pt g := by
              have e1 : subG pt g = (fl pt).isEmpty := all_filter (fun n => decide (n ∈ g)) pt
              rw [e1]
              cases fl pt with
              | nil => rfl
              | cons c r => rfl
            rw [hev]
            have s9 : Same H7' (upd (upd H9 Bd (.lst ((fl pt).map V.str))) Cd (.lst [])) := s8.trans (sB.trans sC)
            have hA9 := sC _ _ (sB _ _ hA)
            have hT9 := (hT8.same sB).same sC
            have hq9 := sC _ _ (sB _ _ hqp)
            refine ite2 (fun h3 => ?_) (fun h3 => ?_)
            · refine ⟨_, rfl, refs us, hA9, small1000 ?_, us ++ [(qp, pt)], ?_, ?_, ?_, fun b o hb => ?_⟩
              · rw [List.length_map]
                have e1 : us.length = (((groupsOf ns).take j).filter fun p => subG p g).length := by
                  rw [← hus, List.length_map]
                have e2 := List.length_filter_le (fun p => subG p g) ((groupsOf ns).take j)
                rw [List.length_take] at e2
                omega
              · rw [upd_same, refs_app]
                rfl
              · rw [List.map_append, hus, List.take_add_one, hpt]
                show _ = ((groupsOf ns).take j ++ [pt]).filter fun p => subG p g
                rw [List.filter_append, List.filter_cons_of_pos (p := fun p => subG p g) h3]
                rfl
              · refine TupsAt.upd (hT9.app (.one hq9)) fun xs e => ?_
                rw [hA9] at e
                cases e
              · have nb : b ≠ Ad := ne_of_none hb nA
                rw [upd_ne nb]
                exact s9 _ _ hb
            · refine ⟨us, hA9, ?_, hT9, s9⟩
              rw [List.take_add_one, hpt]
              show _ = ((groupsOf ns).take j ++ [pt]).filter fun p => subG p g
              rw [List.filter_append, List.filter_cons_of_neg (p := fun p => subG p g) h3]
              show _ = _ ++ []
              rw [List.append_nil]
              exact hus
        · obtain ⟨us, hA, hus, hT8, s8⟩ := hP
          rw [wDict_len, List.take_length] at hus
          have hd8 := s8 _ _ hd7
          have hf8 := s8 _ _ hf7
          have hu32 : us.length ≤ 32 := by
            have e1 : us.length = ((groupsOf ns).filter fun p => subG p g).length := by
              rw [← hus, List.length_map]
            have := List.length_filter_le (fun p => subG p g) (groupsOf ns)
            omega
          refine ⟨_, rfl, Ad, rfl, ⟨_, .inl (.inl hA)⟩, fun Sd nS => ?_⟩
          refine lc_it (walk_list (xs := refs us)) (fun j H9 => H9 = upd H8 Sd (.lst (((us.take j).map fun t => G t.2).map V.int))) rfl (fun j H9 _ e => ?_) (fun j x H9 H10 hj e hY => ?_) (fun H9 e => ?_)
          · rw [e]
            exact .inl (.inl ((same_new nS) _ _ hA))
          · obtain ⟨rfl, hx⟩ := hY
            subst e
            obtain ⟨t, ht2, rfl⟩ : ∃ t, us[j]? = some t ∧ x = V.ref t.1 := by
              rw [List.getElem?_map] at hx
              cases e : us[j]? with
              | none => rw [e] at hx; cases hx
              | some t => rw [e] at hx; cases hx; exact ⟨t, rfl, rfl⟩
            have sS := same_new (o := HO.lst (((us.take j).map fun t => G t.2).map V.int)) nS
            have tm : t.2 ∈ groupsOf ns := by
              have m1 : t.2 ∈ us.map (·.2) := List.mem_map_of_mem (List.mem_of_getElem? ht2)
              rw [hus] at m1
              exact (List.mem_filter.mp m1).1
            have htt := sS _ _ (hT8.get ht2)
            rw [← kG_V] at htt
            refine ⟨rfl, _, rfl, _, rfl, d, .int (G t.2), rfl, .inr ⟨_, kG t.2, t.1, .inr ⟨od, sS _ _ hd8⟩, rfl, htt, (wDict_in tm).symm⟩, _, upd_same, ?_, ?_⟩
            · rw [List.length_map, List.length_map, List.length_take]
              exact small1000 (by omega)
            · rw [upd_upd, List.take_add_one, ht2, List.map_append, List.map_append]
              rfl
          · subst e
            rw [List.length_map, List.take_length]
            have sS := same_new (o := HO.lst ((us.map fun t => G t.2).map V.int)) nS
            refine ⟨Sd, us.map fun t => G t.2, rfl, .inl (.inl upd_same), ?_⟩
            have hsum : (us.map fun t => G t.2).sum = partSum (groupsOf ns) G g := by
              have e1 : (us.map fun t => G t.2) = (us.map (·.2)).map G := by
                rw [List.map_map]
                rfl
              rw [e1, hus]
              rfl
            rw [hsum]
            have hf9 := sS _ _ hf8
            have hqg9 := sS _ _ (s8 _ _ hqk)
            rw [← kG_V] at hqg9
            have gnew : g ∉ (groupsOf ns).take i := by
              intro m
              obtain ⟨j, hj, e⟩ := List.getElem_of_mem m
              have hji : j < i := by
                rw [List.length_take] at hj
                omega
              rw [List.getElem_take] at e
              have e2 := (List.getElem?_eq_some_iff.mp hg).2
              have := (List.getElem_inj (h₀ := by omega) (h₁ := hi) gnd).mp (e.trans e2.symm)
              omega
            refine ⟨_, rfl, _, rfl, f, _, rfl, DPut.t (k := kG g) hf9 hqg9 (small1000 (by rw [wDict_len, List.length_take]; omega)), ?_⟩
            rw [putK_new _ (wDict_out gnew)]
            refine ⟨_, _, _, _, rfl, ((dr7.trans ⟨(Same.kp s8).trans (Same.kp sS), (dr7.cup.same s8).same sS⟩).set nfH nfp), ?_, ?_⟩
            · rw [upd_ne nfd]
              exact sS _ _ hd8
            · rw [upd_same, List.take_add_one, hg]
              show _ = some (HO.dT (wDict ((groupsOf ns).take i ++ [g]) _))
              rw [wDict_app]
              rfl
      · obtain ⟨y3, y5, y6, y7, rfl, dr7, hd7, hf7⟩ := hP
        refine ⟨hd7, ?_⟩
        rw [wDict_len, List.take_length] at hf7
        refine ⟨_, rfl, ?_⟩
        refine k f _ G hG (dr7.set ndH ndp) nfH nfp ?_
        rw [upd_ne nfd.symm]
        exact hf7
/-! ### _law_by_size -/
/-- a row of ints -/
def rg (U : Nat → Int) (n : Nat) : List V := (List.range n).map fun j => V.int (U j)
theorem rg_len (U : Nat → Int) (n : Nat) : (rg U n).length = n := by
  unfold rg
  rw [List.length_map, List.length_range]
theorem rg_at (U : Nat → Int) {n j : Nat} (h : j < n) : atI (rg U n) (j : Int) = some (.int (U j)) := by
  refine atI_nat ?_
  unfold rg
  rw [List.getElem?_map, List.getElem?_range h]
  rfl
theorem rg_last (U : Nat → Int) (n : Nat) : atI (rg U (n + 1)) (-1) = some (.int (U n)) := by
  have e : ixN (n + 1) (-1) = some n := by
    unfold ixN
    rw [if_neg (by omega), if_pos (by omega)]
    congr 1
    omega
  unfold atI
  rw [rg_len, e]
  show (rg U (n + 1))[n]? = _
  unfold rg
  rw [List.getElem?_map, List.getElem?_range (Nat.lt_succ_self n)]
  rfl
theorem rg_snoc (U : Nat → Int) (n : Nat) (x : Int) : rg U n ++ [V.int x] = rg (fun j => if j = n then x else U j) (n + 1) := by
  unfold rg
  rw [List.range_succ, List.map_append]
  show _ = _ ++ [V.int (if n = n then x else U n)]
  rw [if_pos rfl]
  congr 1
  refine List.map_congr_left fun j m => ?_
  have := List.mem_range.mp m
  show V.int (U j) = V.int (if j = n then x else U j)
  rw [if_neg (by omega)]
/-- worths by size: none is nothing, each step is no less than the one ahead -/
structure SizeW (m : Nat) (U S : Nat → Int) : Prop where
  zero : U 0 = 0
  first : -2 ≤ S 0 ∧ S 0 ≤ 3
  step : ∀ j, j < m → U (j + 1) = U j + S j
  rise : ∀ j, j < m → S j ≤ S (j + 1) ∧ S (j + 1) ≤ S j + 2
def spSize : Sp := fun vs H Q _ => ∃ (p tn : Addr) (ns : List Str), vs = [.ref p, .ref tn] ∧ CupAt H p ∧ H tn = some (.tup (ns.map V.str)) ∧ ns.length ≤ 5 ∧ ns.Nodup ∧
  ∀ (q : Addr) (H' : Hp) (U S : Nat → Int), SizeW ns.length U S → Drawn p H H' → H q = none → q ≠ p → H' q = some (.dT (wDict (groupsOf ns) fun g => U g.length)) → Q (.ref q) H'
theorem ok_lsize {a aS aE aG : Addr} {fd fdS fdE fdG : FuncData} (T : Txt mg) (D : Df K mg "_law_by_size" s__law_by_size p__law_by_size a fd) (DS : Df K mg "_law_sip" s__law_sip p__law_sip aS fdS)
    (DE : Df K mg "_law_select" s__law_select p__law_select aE fdE) (DG : Df K mg "_law_groups" s__law_groups p__law_groups aG fdG) : FnOk P w K mg base CX0 3 a fd p__law_by_size spSize := by
  have GS : FnOk P w K mg base CX0 1 aS fdS p__law_sip spSip := ok_sip T DS
  have GE : FnOk P w K mg base CX0 2 aE fdE p__law_select (spSelect K) := ok_select T DE DS
  have GG : FnOk P w K mg base CX0 1 aG fdG p__law_groups (spGroups K) := ok_lgroups T DG
  refine D.F.ok c__law_by_size (fun vs H Q E h => ?_) (fun cdv A outer s H vs Q E hr h => ?_)
  · obtain ⟨p, tn, ns, rfl, _⟩ := h
    rfl
  · obtain ⟨p, tn, ns, rfl, hp, htn, hl, hnd, k⟩ := h
    have nd := c__law_by_size.nd
    have hu := hu_of hr
    have hr1 : Room 1 (A.deeper (envOfC "_law_by_size" (defScope s__law_by_size) s.heap.objs.size a cdv)) := hr.mono (by decide)
    refine ⟨_, pss_cons (ps_asg (pe_tup (pa_cons (pe_lst (pa_cons (dcall DE GE hr (pa_cons (pv 0) (pa_cons (pe_lst (pa_cons (pe_op op_sub pe_int pe_int) (pa_cons pe_int (pa_cons pe_int (pa_cons pe_int pa_nil))))) pa_nil))) pa_nil)) (pa_cons (pe_lst (pa_cons pe_int pa_nil)) pa_nil)))
        (pg_tup rfl (pgs_cons (pg_name (i := 2) nd rfl (.inl rfl)) (pgs_cons (pg_name (i := 3) nd rfl (.inr rfl)) pgs_nil))))
      (pss_cons (ps_for PassesOwn.never rfl (pi_tup (pv 1)) (pg_name (i := 4) nd rfl (Or.inl rfl))
        (pss_cons (ps_expr (pe_bm PySem.F.plainAttrs_list PySem.F.slot_list_append PySem.F.type_list_append mt_append (pv 3) (pa_cons (pe_op op_add (pe_ix ix_list (pv 3) (pe_un un_neg pe_int) (fun _ _ => rfl)) (pe_ix ix_list (pv 2) (pe_un un_neg pe_int) (fun _ _ => rfl))) pa_nil)))
        (pss_one (ps_expr (pe_bm PySem.F.plainAttrs_list PySem.F.slot_list_append PySem.F.type_list_append mt_append (pv 2) (pa_cons (pe_op op_add (pe_ix ix_list (pv 2) (pe_un un_neg pe_int) (fun _ _ => rfl)) (dcall DS GS hr1 (pa_cons (pv 0) (pa_cons pe_int pa_nil)))) pa_nil))))))
      (pss_one (ps_ret (pe_callTy (call_dictG rfl hr.units) (by rfl) T.b_dict boot_dict (pa_cons (pe_lc (own := [("some", 5)]) (g := gName 5) (tt := tYes) (te := tTup (tCons (tVar 5) (tCons (tOp (rIxL K) (tVar 3) (tCB (rLenQ K) (tCons (tVar 5) tNil))) tNil))) rfl nd (pi_list (dcall DG GG hr1 (pa_cons (pv 1) pa_nil)))
          (blkOk_by (own := [("some", 5)]) (N := n__law_by_size) (sc := defScope s__law_by_size) (by decide +kernel)) (fun _ _ _ _ _ => pg_name (i := 5) nd rfl (Or.inl rfl)) (fun _ _ _ _ _ => pts_nil)
          (fun _ _ _ _ _ => pe_tup (pa_cons (pv 5) (pa_cons (pe_ix ix_list (pv 3) (pe_callB call_lenQ (by rfl) T.b_len PySem.boot_len (pa_cons (pv 5) pa_nil)) (fun _ _ => rfl)) pa_nil)))) pa_nil))))), ?_⟩
    have dr0 : Drawn p H H := .here hp
    refine ⟨_, rfl, _, _, rfl, rfl, (by show 4 ≤ sizeLine; decide), fun L nL => ?_⟩
    have dr1 := dr0.new (o := .lst ([-2, 0, 1, 3].map V.int)) nL
    obtain ⟨nLH, nLp⟩ := dr0.none nL
    refine ⟨p, L, [-2, 0, 1, 3].map V.int, rfl, dr1.cup, .inl (.inl upd_same), nLp, (by decide), (by decide), fun v H2 hv d2 => ?_⟩
    obtain ⟨s0, hs0, rfl⟩ := List.mem_map.mp hv
    have dr2 := dr1.trans d2
    have ntp : tn ≠ p := by
      obtain ⟨x, y, z, e⟩ := hp
      exact ne_of htn e (by intro q; cases q)
    have htn2 : H2 tn = some (.tup (ns.map V.str)) := dr2.at' htn ntp
    refine ⟨(by show 1 ≤ sizeLine; decide), fun a na => ⟨(by show 1 ≤ sizeLine; decide), fun b nb => ⟨(by show 2 ≤ sizeLine; decide), fun t nt => ?_⟩⟩⟩
    refine ⟨t, _, rfl, .inl (.inl upd_same), rfl, ?_⟩
    refine ⟨_, _, rfl, _, _, rfl, rfl, ?_⟩
    have dr3 := dr2.new (o := .lst [.int s0]) na
    have dr4 := dr3.new (o := .lst [.int 0]) nb
    have dr5 := dr4.new (o := .tup [.ref a, .ref b]) nt
    obtain ⟨naH, nap⟩ := dr2.none na
    obtain ⟨nbH, nbp⟩ := dr3.none nb
    have sa := same_new (o := .lst [.int s0]) na
    have sb := same_new (o := .lst [.int 0]) nb
    have st := same_new (o := .tup [V.ref a, .ref b]) nt
    have nab : a ≠ b := ne_of_none upd_same nb
    have ha5 := st _ _ (sb _ _ (upd_same (H := H2) (a := a) (o := .lst [.int s0])))
    have hb5 := st _ _ (upd_same (H := upd H2 a (.lst [.int s0])) (a := b) (o := .lst [.int 0]))
    have htn5 := st _ _ (sb _ _ (sa _ _ htn2))
    generalize upd (upd (upd H2 a (.lst [.int s0])) b (.lst [.int 0])) t (.tup [.ref a, .ref b]) = H5 at dr5 ha5 hb5 htn5
    refine ⟨_, rfl, tn, rfl, ⟨_, .inl (.inl htn5)⟩, for_tup (K := K) (a := tn) (xs := ns.map V.str) (fun i σ H6 => ∃ (y4 y5 : Option V) (U S : Nat → Int), σ = [some (.ref p), some (.ref tn), some (.ref a), some (.ref b), y4, y5] ∧ Drawn p H H6 ∧
        H6 a = some (.lst (rg S (i + 1))) ∧ H6 b = some (.lst (rg U (i + 1))) ∧ SizeW i U S)
      ⟨_, _, fun _ => 0, fun _ => s0, rfl, dr5, ha5, hb5, ⟨rfl, ?_, fun j h => absurd h (Nat.not_lt_zero j), fun j h => absurd h (Nat.not_lt_zero j)⟩⟩ (fun i σ H6 hi hP => ?_) (fun i x σ H6 hx hP => ?_) (fun σ H6 hP => ?_)⟩
    · simp only [List.mem_cons, List.not_mem_nil, or_false] at hs0
      rcases hs0 with rfl | rfl | rfl | rfl <;> decide
    · obtain ⟨_, _, _, _, _, dr6, _⟩ := hP
      exact .inl (.inl (dr6.at' htn ntp))
    · obtain ⟨y4, y5, U, S, rfl, dr6, ha6, hb6, hw⟩ := hP
      have hi : i < 5 := by
        rw [List.getElem?_map] at hx
        cases e : ns[i]? with
        | none => rw [e] at hx; cases hx
        | some n => 
          have := (List.getElem?_eq_some_iff.mp e).1
          omega
      refine ⟨_, rfl, .inl ⟨rfl, _, .inl (.inl hb6)⟩, _, rfl, _, rfl, b, _, _, _, rfl, rfl, .inl (.inl hb6), rg_last U i, _, rfl, _, rfl, a, _, _, _, rfl, rfl, .inl (.inl ha6), rg_last S i, _, _, rfl, rfl, b, _, _, rfl, rfl, hb6, small1000 (by rw [rg_len]; omega), ?_⟩
      rw [rg_snoc]
      have dr7 := dr6.set (o := .lst (rg (fun j => if j = i + 1 then U i + S i else U j) (i + 1 + 1))) nbH nbp
      have hb7 : (upd H6 b (.lst (rg (fun j => if j = i + 1 then U i + S i else U j) (i + 1 + 1)))) b = _ := upd_same
      have ha7 : (upd H6 b (.lst (rg (fun j => if j = i + 1 then U i + S i else U j) (i + 1 + 1)))) a = _ := (upd_ne nab).trans ha6
      generalize upd H6 b (.lst (rg (fun j => if j = i + 1 then U i + S i else U j) (i + 1 + 1))) = H7 at dr7 hb7 ha7
      refine ⟨_, rfl, .inl ⟨rfl, _, .inl (.inl ha7)⟩, _, rfl, _, rfl, a, _, _, _, rfl, rfl, .inl (.inl ha7), rg_last S i, _, rfl, p, 3, rfl, by decide, by decide +kernel, dr7.cup, fun r ua ub uc r0 rn => ?_⟩
      have d8 : Drawn p H7 (upd H7 p (.lst [.int ua, .int ub, .int uc])) := draw_ok
      have dr8 := dr7.trans d8
      have ha8 := d8.at' ha7 nap
      have hb8 := d8.at' hb7 nbp
      generalize upd H7 p (.lst [.int ua, .int ub, .int uc]) = H8 at dr8 ha8 hb8
      refine ⟨_, _, rfl, rfl, a, _, _, rfl, rfl, ha8, small1000 (by rw [rg_len]; omega), ?_⟩
      rw [rg_snoc]
      refine ⟨_, _, _, _, rfl, dr8.set naH nap, upd_same, (upd_ne nab.symm).trans hb8, ?_⟩
      obtain ⟨w1, w2, w3, w4⟩ := hw
      refine ⟨?_, ?_, fun j hj => ?_, fun j hj => ?_⟩
      · show (if 0 = i + 1 then _ else U 0) = 0
        rw [if_neg (by omega)]
        exact w1
      · show -2 ≤ (if 0 = i + 1 then _ else S 0) ∧ (if 0 = i + 1 then _ else S 0) ≤ 3
        rw [if_neg (by omega)]
        exact w2
      · show (if j + 1 = i + 1 then _ else U (j + 1)) = (if j = i + 1 then _ else U j) + (if j = i + 1 then _ else S j)
        rw [if_neg (show ¬ j = i + 1 by omega), if_neg (show ¬ j = i + 1 by omega)]
        by_cases e : j = i
        · subst e
          rw [if_pos rfl]
        · rw [if_neg (by omega)]
          exact w3 j (by omega)
      · show (if j = i + 1 then _ else S j) ≤ (if j + 1 = i + 1 then _ else S (j + 1)) ∧ (if j + 1 = i + 1 then _ else S (j + 1)) ≤ (if j = i + 1 then _ else S j) + 2
        rw [if_neg (show ¬ j = i + 1 by omega)]
        by_cases e : j = i
        · subst e
          rw [if_pos rfl]
          omega
        · rw [if_neg (by omega)]
          exact w4 j (by omega)
    · obtain ⟨y4, y5, U, S, rfl, dr6, ha6, hb6, hw⟩ := hP
      rw [List.length_map] at ha6 hb6 hw
      refine ⟨_, rfl, tn, ns, rfl, .inl (.inl (dr6.at' htn ntp)), by omega, fun q H7 ts s7 nq hq ht hts => ⟨q, rfl, ⟨_, .inl (.inl hq)⟩, fun Ad nA => ?_⟩⟩
      have sA := same_new (o := HO.lst []) nA
      have gnd : (groupsOf ns).Nodup := groups_nodup hnd
      have glen : (groupsOf ns).length ≤ 32 := by
        rw [groups_len]
        exact Nat.le_trans (Nat.pow_le_pow_right (by decide) hl) (by decide)
      have tlen : ts.length = (groupsOf ns).length := by
        rw [← hts, List.length_map]
      refine lc_it (walk_list (xs := refs ts)) (fun j H8 => ∃ l : List (Addr × PairE), H8 Ad = some (.lst (prefs l)) ∧ PrsAt H8 l ∧ pdata l = wDict ((groupsOf ns).take j) (fun g => U g.length) ∧ Same H7 H8)
        ⟨[], upd_same, .nil, rfl, sA⟩ (fun j H8 hj hP => ?_) (fun j x H8 H9 hj hP hY => ?_) (fun H8 hP => ?_)
      · obtain ⟨l, _, _, _, s8⟩ := hP
        exact .inl (.inl (s8 _ _ hq))
      · obtain ⟨l, hA, hT, hd, s8⟩ := hP
        obtain ⟨rfl, hx⟩ := hY
        have hj' : j < ts.length := by
          rw [List.length_map] at hj
          exact hj
        have htj : ts[j]? = some ts[j] := List.getElem?_eq_getElem hj'
        obtain rfl : x = V.ref ts[j].1 := by
          rw [List.getElem?_map, htj] at hx
          exact (Option.some.inj hx).symm
        have hgj : (groupsOf ns)[j]? = some ts[j].2 := by
          rw [← hts, List.getElem?_map, htj]
          rfl
        have hgm := List.mem_of_getElem? hgj
        have gl : ts[j].2.length ≤ ns.length := (groups_mem.mp hgm).length_le
        have hg9 := s8 _ _ (ht.get htj)
        have hb9 := s8 _ _ (s7 _ _ hb6)
        refine ⟨rfl, _, rfl, _, rfl, _, rfl, ts[j].1, _, rfl, .inr (.inl (.inl hg9)), b, _, _, _, rfl, rfl, .inl (.inl hb9), by rw [List.length_map]; exact rg_at U (by omega), (by show 2 ≤ sizeLine; decide), fun N nN => ?_⟩
        have sN := same_new (o := HO.tup [V.ref ts[j].1, .int (U ts[j].2.length)]) nN
        obtain ⟨e1, e2, e3, e4⟩ := prs_next hA hT hd hg9 nN (W := fun g => U g.length) rfl
        refine ⟨_, e1, small1000 (by rw [prefs_len hd, List.length_take]; omega), l ++ [(N, ⟨ts[j].1, kG ts[j].2, .int (U ts[j].2.length)⟩)], e2, e3, ?_, ?_⟩
        · rw [List.take_add_one, hgj]
          exact e4
        · intro c o e
          rw [upd_ne (ne_of_none e nA)]
          exact sN _ _ (s8 _ _ e)
      · obtain ⟨l, hA, hT, hd, s8⟩ := hP
        rw [List.length_map, tlen, List.take_length] at hd
        refine ⟨Ad, l, groupsOf ns, _, rfl, .inl (.inl hA), hT, hd, gnd, fun p' np => ?_⟩
        have dr8 : Drawn p H H8 := dr6.trans ⟨(Same.kp s7).trans (Same.kp s8), (dr6.cup.same s7).same s8⟩
        obtain ⟨npH, npp⟩ := dr8.none np
        exact k p' _ U S hw (dr8.new np) npH npp upd_same
/-! ### _law_by_estate -/
/-- what those of the names that are not in the group claim -/
def restC (ns : List Str) (C : Str → Int) (g : Grp) : Int := ((ns.filter fun n => !decide (n ∈ g)).map C).sum
def spEstate : Sp := fun vs H Q _ => ∃ (p tn : Addr) (ns : List Str), vs = [.ref p, .ref tn] ∧ CupAt H p ∧ H tn = some (.tup (ns.map V.str)) ∧ ns.length ≤ 5 ∧ ns.Nodup ∧ (∀ n ∈ ns, OkT 8 n) ∧
  ∀ (q : Addr) (H' : Hp) (C : Str → Int) (E : Int), (∀ n ∈ ns, 0 ≤ C n ∧ C n < 7) → 0 ≤ E → E ≤ (ns.map C).sum → Drawn p H H' → H q = none → q ≠ p → H' q = some (.dT (wDict (groupsOf ns) fun g => max 0 (E - restC ns C g))) → Q (.ref q) H'
theorem ok_lestate {a aS aG : Addr} {fd fdS fdG : FuncData} (T : Txt mg) (D : Df K mg "_law_by_estate" s__law_by_estate p__law_by_estate a fd) (DS : Df K mg "_law_sip" s__law_sip p__law_sip aS fdS)
    (DG : Df K mg "_law_groups" s__law_groups p__law_groups aG fdG) : FnOk P w K mg base CX0 3 a fd p__law_by_estate spEstate := by
  have GS : FnOk P w K mg base CX0 1 aS fdS p__law_sip spSip := ok_sip T DS
  have GG : FnOk P w K mg base CX0 1 aG fdG p__law_groups (spGroups K) := ok_lgroups T DG
  refine D.F.ok c__law_by_estate (fun vs H Q E h => ?_) (fun cdv A outer s H vs Q E hr h => ?_)
  · obtain ⟨p, tn, ns, rfl, _⟩ := h
    rfl
  · obtain ⟨p, tn, ns, rfl, hp, htn, hl, hnd, hok, k⟩ := h
    have nd := c__law_by_estate.nd
    have hu := hu_of hr
    have hr1 : Room 1 (A.deeper (envOfC "_law_by_estate" (defScope s__law_by_estate) s.heap.objs.size a cdv)) := hr.mono (by decide)
    refine ⟨_, pss_cons (ps_set (i := 2) nd rfl (.inr rfl) (pe_callTy (call_dictN rfl) (by rfl) T.b_dict boot_dict (pa_cons (pe_lc (own := [("name", 6)]) (g := gName 6) (tt := tYes) (te := tTup (tCons (tVar 6) (tCons (tCall spSip [] E0 (tCons (tVar 0) (tCons (tC (.int 7)) tNil))) tNil))) rfl nd (pi_tup (pv 1))
          (blkOk_by (own := [("name", 6)]) (N := n__law_by_estate) (sc := defScope s__law_by_estate) (by decide +kernel)) (fun _ _ _ _ _ => pg_name (i := 6) nd rfl (Or.inl rfl)) (fun _ _ _ _ _ => pts_nil)
          (fun _ _ _ _ _ => pe_tup (pa_cons (pv 6) (pa_cons (dcall DS GS hr1 (pa_cons (pv 0) (pa_cons pe_int pa_nil))) pa_nil)))) pa_nil)))
      (pss_cons (ps_par (i := 3) (j := 4) rfl nd rfl rfl (by decide) rfl rfl (pa_cons (dcall DS GS hr1 (pa_cons (pv 0) (pa_cons (pe_op op_add pe_int (pe_callB (cr_sum rfl) (by rfl) T.b_sum boot_sum (pa_cons (pe_lc (own := [("name", 6)]) (g := gName 6) (tt := tYes) (te := tDGet (tVar 2) (tVar 6)) rfl nd (pi_tup (pv 1))
          (blkOk_by (own := [("name", 6)]) (N := n__law_by_estate) (sc := defScope s__law_by_estate) (by decide +kernel)) (fun _ _ _ _ _ => pg_name (i := 6) nd rfl (Or.inl rfl)) (fun _ _ _ _ _ => pts_nil)
          (fun _ _ _ _ _ => pe_dget hu (pv 2) (pv 6) (fun _ _ => rfl))) pa_nil))) pa_nil))) (pa_cons pe_dnewT pa_nil)) (by rfl))
      (pss_cons (ps_for PassesOwn.never rfl (pi_list (dcall DG GG hr1 (pa_cons (pv 1) pa_nil))) (pg_name (i := 5) nd rfl (Or.inr rfl))
        (pss_one (ps_dput hu (pv 4) (pv 5) (pe_callB (call_max2 rfl) (by rfl) T.b_max boot_max (pa_cons pe_int (pa_cons (pe_op op_sub (pv 3) (pe_callB (cr_sum rfl) (by rfl) T.b_sum boot_sum (pa_cons (pe_lc (own := [("name", 6)]) (g := gName 6) (tt := tTest (tOp (rIn K true) (tVar 6) (tVar 5))) (te := tDGet (tVar 2) (tVar 6)) rfl nd (pi_tup (pv 1))
          (blkOk_by (own := [("name", 6)]) (N := n__law_by_estate) (sc := defScope s__law_by_estate) (by decide +kernel)) (fun _ _ _ _ _ => pg_name (i := 6) nd rfl (Or.inl rfl)) (fun _ _ _ _ _ => pts_one (pt_cmpR op_notIn_seq (pv 6) (pv 5) (by rfl)))
          (fun _ _ _ _ _ => pe_dget hu (pv 2) (pv 6) (fun _ _ => rfl))) pa_nil))) pa_nil))) rfl)))
      (pss_one (ps_ret (pv 4))))), ?_⟩
    have dr0 : Drawn p H H := .here hp
    have ntp : tn ≠ p := by
      obtain ⟨x, y, z, e⟩ := hp
      exact ne_of htn e (by intro q; cases q)
    have tnS : ∀ {H' : Hp}, Drawn p H H' → SqT K H' tn (ns.map V.str) := fun d => .inl (.inl (d.at' htn ntp))
    refine ⟨_, rfl, tn, rfl, ⟨_, tnS dr0⟩, fun Ad nA => ?_⟩
    have nAp := (dr0.none nA).2
    refine lc_it (walk_tup (xs := ns.map V.str)) (fun j H8 => ∃ (l : List (Addr × Str × Int)) (C : Str → Int), H8 Ad = some (.lst (nrefs l)) ∧ PrnAt H8 l ∧ ndata l = nDict (ns.take j) C ∧ Drawn p H H8 ∧ ∀ n ∈ ns.take j, 0 ≤ C n ∧ C n < 7)
      ⟨[], fun _ => 0, upd_same, .nil, rfl, dr0.new nA, fun n m => absurd m (by rw [List.take_zero]; exact List.not_mem_nil)⟩ (fun j H8 hj hP => ?_) (fun j x H8 H9 hj hP hY => ?_) (fun H8 hP => ?_)
    · obtain ⟨_, _, _, _, _, dr8, _⟩ := hP
      exact tnS dr8
    · obtain ⟨l, C, hA, hT, hd, dr8, hC⟩ := hP
      obtain ⟨rfl, hx⟩ := hY
      obtain ⟨n, hn, rfl⟩ := str_at hx
      have hnew := nodup_take hnd hn
      refine ⟨rfl, _, rfl, _, rfl, p, 7, rfl, by decide, by decide +kernel, dr8.cup, fun r ua ub uc r0 rn => ⟨(by show 2 ≤ sizeLine; decide), fun N nN => ?_⟩⟩
      have d9 : Drawn p H9 (upd H9 p (.lst [.int ua, .int ub, .int uc])) := draw_ok
      have dr9 := dr8.trans d9
      have hA9 := d9.at' hA nAp
      have hT9 : PrnAt (upd H9 p (.lst [.int ua, .int ub, .int uc])) l := prn_upd hT (by
        obtain ⟨x, y, z, e⟩ := dr8.cup
        intro xs q
        rw [e] at q
        cases q)
      generalize upd H9 p (.lst [.int ua, .int ub, .int uc]) = H10 at dr9 hA9 hT9 nN
      have ne : ∀ m ∈ ns.take j, m ≠ n := fun m hm e => hnew (e ▸ hm)
      have hd' : ndata l = nDict (ns.take j) (fun m => if m = n then r else C m) := hd.trans (nDict_congr fun m hm => (if_neg (ne m hm)).symm)
      obtain ⟨e1, e2, e3, e4⟩ := prn_next hA9 hT9 hd' nN (n := n) (x := r) (if_pos rfl).symm
      refine ⟨_, e1, small1000 (by rw [nrefs_len hd, List.length_take]; omega), l ++ [(N, n, r)], fun m => if m = n then r else C m, e2, e3, ?_, ?_, ?_⟩
      · rw [List.take_add_one, hn]
        exact e4
      · exact (dr9.new nN).set (dr0.none nA).1 nAp
      · intro m hm
        rw [List.take_add_one, hn] at hm
        rcases List.mem_append.mp hm with hm | hm
        · show 0 ≤ (if m = n then r else C m) ∧ (if m = n then r else C m) < 7
          rw [if_neg (ne m hm)]
          exact hC m hm
        · have e : m = n := List.mem_singleton.mp hm
          subst e
          show 0 ≤ (if m = m then r else C m) ∧ (if m = m then r else C m) < 7
          rw [if_pos rfl]
          exact ⟨r0, rn⟩
    · obtain ⟨l, C, hA, hT, hd, dr8, hC⟩ := hP
      rw [List.length_map, List.take_length] at hd hC
      refine ⟨Ad, l, ns, C, rfl, .inl (.inl hA), hT, hd, hnd, fun cl ncl => ?_⟩
      have dr9 := dr8.new (o := .dK (nDict ns C)) ncl
      obtain ⟨nclH, nclp⟩ := dr8.none ncl
      have hcl : (upd H8 cl (.dK (nDict ns C))) cl = some (.dK (nDict ns C)) := upd_same
      generalize upd H8 cl (.dK (nDict ns C)) = H9 at dr9 hcl
      refine ⟨_, rfl, _, rfl, tn, rfl, ⟨_, tnS dr9⟩, fun Bd nB => ?_⟩
      have cget : ∀ {H' : Hp} {n : Str}, H' cl = some (.dK (nDict ns C)) → n ∈ ns → DGet H' cl (.str n) (some (.int (C n))) := fun e m => .inl ⟨_, Sum.inr _, .inl e, rfl, (nDict_in m).symm⟩
      have ns5 : ∀ {m : Nat} {fl : List Str → List Str}, (∀ l, (fl l).length ≤ l.length) → ((fl (ns.take m)).map fun n => V.int (C n)).length ≤ 1000 := fun {m fl} h => by
        rw [List.length_map]
        have := h (ns.take m)
        rw [List.length_take] at this
        omega
      refine lc_it (walk_tup (xs := ns.map V.str)) (fun m H10 => H10 = upd H9 Bd (.lst ((ns.take m).map fun n => V.int (C n)))) rfl (fun m H10 _ e => ?_) (fun m x H10 H11 hm e hY => ?_) (fun H10 e => ?_)
      · rw [e]
        exact tnS (dr9.new nB)
      · obtain ⟨rfl, hx⟩ := hY
        subst e
        obtain ⟨n, hn, rfl⟩ := str_at hx
        refine ⟨rfl, _, rfl, _, rfl, cl, .int (C n), rfl, cget ((same_new nB) _ _ hcl) (List.mem_of_getElem? hn), _, upd_same, small1000 (ns5 (fl := id) fun _ => Nat.le_refl _), ?_⟩
        rw [upd_upd, List.take_add_one, hn, List.map_append]
        rfl
      · subst e
        rw [List.length_map, List.take_length]
        obtain ⟨b0, b1⟩ := sum_bound C 6 ns fun n m => by
          have := hC n m
          omega
        have b2 : (ns.length : Int) * 6 ≤ 30 := by omega
        have dr10 := dr9.new (o := .lst (ns.map fun n => V.int (C n))) nB
        have hcl10 := (same_new (o := HO.lst (ns.map fun n => V.int (C n))) nB) _ _ hcl
        have eB : (ns.map fun n => V.int (C n)) = (ns.map C).map V.int := by
          rw [List.map_map]
          rfl
        refine ⟨Bd, ns.map C, rfl, .inl (.inl (by rw [← eB]; exact upd_same)), _, _, rfl, rfl, p, _, rfl, by omega, log_small (Nat.lt_of_le_of_lt (show (1 + (ns.map C).sum).natAbs ≤ 31 by omega) (by decide)), dr10.cup, fun E ua ub uc E0 E1 => ?_⟩
        generalize upd H9 Bd (.lst (ns.map fun n => V.int (C n))) = H10 at dr10 hcl10
        have d11 : Drawn p H10 (upd H10 p (.lst [.int ua, .int ub, .int uc])) := draw_ok
        have dr11 := dr10.trans d11
        have hcl11 := d11.at' hcl10 nclp
        generalize upd H10 p (.lst [.int ua, .int ub, .int uc]) = H11 at dr11 hcl11
        intro f nf
        obtain ⟨nfH, nfp⟩ := dr11.none nf
        have dr12 := dr11.new (o := .dT []) nf
        have hcl12 := (same_new (o := HO.dT []) nf) _ _ hcl11
        have hf12 : (upd H11 f (.dT [])) f = some (.dT []) := upd_same
        have ncf : cl ≠ f := ne_of_none hcl11 nf
        generalize upd H11 f (.dT []) = H12 at dr12 hcl12 hf12
        refine ⟨_, _, rfl, ?_⟩
        refine ⟨_, rfl, tn, ns, rfl, tnS dr12, by omega, fun q H13 ts s13 nq hq ht hts => ⟨q, rfl, ⟨_, .inl (.inl hq)⟩, ?_⟩⟩
        have dr13 := dr12.trans ⟨Same.kp s13, dr12.cup.same s13⟩
        obtain ⟨nqH, nqp⟩ := dr12.none nq
        have hcl13 := s13 _ _ hcl12
        have hf13 := s13 _ _ hf12
        have nqf : q ≠ f := (ne_of_none hf12 nq).symm
        have gnd : (groupsOf ns).Nodup := groups_nodup hnd
        have glen := groups_small hl
        have tlen : (refs ts).length = (groupsOf ns).length := by
          rw [← hts, List.length_map, List.length_map]
        refine for_list (K := K) (a := q) (xs := refs ts) (fun i σ H5 => ∃ (y5 y6 : Option V), σ = [some (.ref p), some (.ref tn), some (.ref cl), some (.int E), some (.ref f), y5, y6] ∧ Drawn p H H5 ∧ TupsAt H5 ts ∧ H5 q = some (.lst (refs ts)) ∧ H5 cl = some (.dK (nDict ns C)) ∧
            H5 f = some (.dT (wDict ((groupsOf ns).take i) fun g => max 0 (E - restC ns C g))))
          ⟨_, _, rfl, dr13, ht, hq, hcl13, hf13⟩ (fun i σ H5 hi hP => ?_) (fun i x σ H5 hx hP => ?_) (fun σ H5 hP => ?_)
        · obtain ⟨_, _, _, _, _, hq5, _⟩ := hP
          exact .inl (.inl hq5)
        · obtain ⟨y5, y6, rfl, dr5, hT, hq5, hcl5, hf5⟩ := hP
          obtain ⟨t, htI, rfl, hgI⟩ := refs_at' hx hts
          have hgm := List.mem_of_getElem? hgI
          refine ⟨_, rfl, _, rfl, tn, rfl, ⟨_, tnS dr5⟩, fun Bd nB => ?_⟩
          let fl : List Str → List Str := fun l => l.filter fun n => !decide (n ∈ t.2)
          have htup := hT.get htI
          refine lc_it (walk_tup (xs := ns.map V.str)) (fun m H10 => H10 = upd H5 Bd (.lst ((fl (ns.take m)).map fun n => V.int (C n)))) rfl (fun m H10 _ e => ?_) (fun m x H10 H11 hm e hY => ?_) (fun H10 e => ?_)
          · rw [e]
            exact tnS (dr5.new nB)
          · obtain ⟨rfl, hx⟩ := hY
            subst e
            obtain ⟨n, hn, rfl⟩ := str_at hx
            refine ⟨rfl, _, rfl, _, rfl, t.1, t.2.map V.str, rfl, .inr (.inl (.inl ((same_new nB) _ _ htup))), rfl, flat_names _, _, rfl, ?_⟩
            rw [if_pos rfl, inV_names]
            refine ite2 (fun h3 => ?_) (fun h3 => ?_)
            · refine ⟨_, rfl, _, rfl, cl, .int (C n), rfl, cget ((same_new nB) _ _ hcl5) (List.mem_of_getElem? hn), _, upd_same, small1000 (ns5 (fl := fl) fun _ => List.length_filter_le _ _), ?_⟩
              rw [upd_upd, List.take_add_one, hn]
              show _ = upd H5 Bd (.lst (((ns.take m ++ [n]).filter fun n => !decide (n ∈ t.2)).map _))
              rw [List.filter_append, List.filter_cons_of_pos (p := fun n => !decide (n ∈ t.2)) h3, List.map_append]
              rfl
            · rw [List.take_add_one, hn]
              show _ = upd H5 Bd (.lst (((ns.take m ++ [n]).filter fun n => !decide (n ∈ t.2)).map _))
              rw [List.filter_append, List.filter_cons_of_neg (p := fun n => !decide (n ∈ t.2)) h3]
              show _ = upd H5 Bd (.lst ((fl (ns.take m) ++ []).map _))
              rw [List.append_nil]
          · subst e
            rw [List.length_map, List.take_length]
            have sB := same_new (o := HO.lst ((fl ns).map fun n => V.int (C n))) nB
            have eB : ((fl ns).map fun n => V.int (C n)) = ((fl ns).map C).map V.int := by
              rw [List.map_map]
              rfl
            refine ⟨Bd, (fl ns).map C, rfl, .inl (.inl (by rw [← eB]; exact upd_same)), _, _, rfl, rfl, _, _, rfl, ?_⟩
            have hf6 := sB _ _ hf5
            have hg6 := sB _ _ htup
            rw [← kG_V] at hg6
            refine ⟨_, rfl, _, rfl, f, _, rfl, DPut.t (k := kG t.2) hf6 hg6 (small1000 (by rw [wDict_len, List.length_take]; omega)), ?_⟩
            rw [putK_new _ (wDict_out (nodup_take gnd hgI))]
            have nof : ∀ xs, (upd H5 Bd (.lst ((fl ns).map fun n => V.int (C n)))) f ≠ some (.tup xs) := fun xs e => by
              rw [hf6] at e
              cases e
            refine ⟨_, _, rfl, (dr5.new nB).set nfH nfp, (hT.same sB).upd nof, (upd_ne nqf).trans (sB _ _ hq5), (upd_ne ncf).trans (sB _ _ hcl5), ?_⟩
            rw [upd_same, List.take_add_one, hgI]
            show _ = some (HO.dT (wDict ((groupsOf ns).take i ++ [t.2]) _))
            rw [wDict_app]
            have em : (if E - ((fl ns).map C).sum > 0 then E - ((fl ns).map C).sum else 0) = max 0 (E - restC ns C t.2) := by
              show _ = max 0 (E - ((fl ns).map C).sum)
              split <;> omega
            rw [em]
            rfl
        · obtain ⟨y5, y6, rfl, dr5, hT, hq5, hcl5, hf5⟩ := hP
          rw [tlen, List.take_length] at hf5
          exact ⟨_, rfl, k f _ C E hC E0 (by omega) dr5 nfH nfp hf5⟩
/-! ### _law_growing -/
inductive GrowW (ns : List Str) : (Grp → Int) → Prop
  | parts (G : Grp → Int) (h : ∀ g ∈ groupsOf ns, gainOk g (G g)) : GrowW ns (partSum (groupsOf ns) G)
  | size (U S : Nat → Int) (h : SizeW ns.length U S) : GrowW ns (fun g => U g.length)
  | estate (C : Str → Int) (E : Int) (h : ∀ n ∈ ns, 0 ≤ C n ∧ C n < 7) (h0 : 0 ≤ E) (h1 : E ≤ (ns.map C).sum) : GrowW ns (fun g => max 0 (E - restC ns C g))
def spGrowing : Sp := fun vs H Q _ => ∃ (p : Addr) (m : Nat), vs = [.ref p, .int (m : Int)] ∧ CupAt H p ∧ 3 ≤ m ∧ m ≤ 5 ∧
  ∀ (q tn wq : Addr) (H' : Hp) (ns : List Str) (W : Grp → Int), Nms m ns → GrowW ns W → Drawn p H H' → H q = none → H wq = none → PlainAt H' q tn wq ns W → Q (.ref q) H'
theorem ok_growing {a aN aS aE aM aG aP aZ aT : Addr} {fd fdN fdS fdE fdM fdG fdP fdZ fdT : FuncData} (T : Txt mg) (D : Df K mg "_law_growing" s__law_growing p__law_growing a fd) (DN : Df K mg "_law_names" s__law_names p__law_names aN fdN) (DS : Df K mg "_law_sip" s__law_sip p__law_sip aS fdS)
    (DE : Df K mg "_law_select" s__law_select p__law_select aE fdE) (DM : Df K mg "_law_mingled" s__law_mingled p__law_mingled aM fdM) (DG : Df K mg "_law_groups" s__law_groups p__law_groups aG fdG)
    (DP : Df K mg "_law_by_parts" s__law_by_parts p__law_by_parts aP fdP) (DZ : Df K mg "_law_by_size" s__law_by_size p__law_by_size aZ fdZ) (DT : Df K mg "_law_by_estate" s__law_by_estate p__law_by_estate aT fdT) :
    FnOk P w K mg base CX0 4 a fd p__law_growing spGrowing := by
  have GS : FnOk P w K mg base CX0 1 aS fdS p__law_sip spSip := ok_sip T DS
  have GN : FnOk P w K mg base CX0 3 aN fdN p__law_names spNames := ok_lnames T DN DS DE DM
  have GP : FnOk P w K mg base CX0 3 aP fdP p__law_by_parts spParts := ok_lparts T DP DS DE DG
  have GZ : FnOk P w K mg base CX0 3 aZ fdZ p__law_by_size spSize := ok_lsize T DZ DS DE DG
  have GT : FnOk P w K mg base CX0 3 aT fdT p__law_by_estate spEstate := ok_lestate T DT DS DG
  refine D.F.ok c__law_growing (fun vs H Q E h => ?_) (fun cdv A outer s H vs Q E hr h => ?_)
  · obtain ⟨p, m, rfl, _⟩ := h
    rfl
  · obtain ⟨p, m, rfl, hp, m3, m5, k⟩ := h
    have nd := c__law_growing.nd
    have hr1 : Room 1 (A.deeper (envOfC "_law_growing" (defScope s__law_growing) s.heap.objs.size a cdv)) := hr.mono (by decide)
    refine ⟨_, pss_cons (ps_par (i := 2) (j := 3) rfl nd rfl rfl (by decide) rfl rfl (pa_cons (dcall DN GN hr (pa_cons (pv 0) (pa_cons (pv 1) pa_nil))) (pa_cons (dcall DS GS hr1 (pa_cons (pv 0) (pa_cons pe_int pa_nil))) pa_nil)) (by rfl))
      (pss_cons (ps_if (pt_cmpR op_lt (pv 3) pe_int (nomark _))
        (pss_one (ps_ret (pe_disp (pps_cons pe_str (pv 2) (pps_cons pe_str (dcall DP GP hr (pa_cons (pv 0) (pa_cons (pv 2) pa_nil))) pps_nil)) (by rfl) (by rfl) (fun z => by cases z) (by decide)))) pss_nil)
      (pss_one (ps_ret (pe_disp (pps_cons pe_str (pv 2) (pps_cons pe_str (pe_ifExp (pt_cmpR op_eq (pv 3) pe_int (nomark _)) (dcall DZ GZ hr (pa_cons (pv 0) (pa_cons (pv 2) pa_nil))) (dcall DT GT hr (pa_cons (pv 0) (pa_cons (pv 2) pa_nil)))) pps_nil)) (by rfl) (by rfl) (fun z => by cases z) (by decide))))), ?_⟩
    refine ⟨_, rfl, _, rfl, p, m, rfl, hp, m3, m5, fun tn H1 ns hns d1 nt ntp htn => ?_⟩
    refine ⟨_, rfl, p, 4, rfl, by decide, by decide +kernel, d1.cup, fun r ua ub uc r0 rn => ?_⟩
    have dr2 : Drawn p H (upd H1 p (.lst [.int ua, .int ub, .int uc])) := d1.trans draw_ok
    have htn2 : (upd H1 p (.lst [.int ua, .int ub, .int uc])) tn = _ := (draw_ok : Drawn p H1 _).at' htn ntp
    generalize upd H1 p (.lst [.int ua, .int ub, .int uc]) = H2 at dr2 htn2
    refine ⟨_, _, rfl, ?_⟩
    have ok8 : ∀ n ∈ ns, OkT 8 n := fun n m => name_ok (hns.nm n m)
    have nnd := asc_nodup hns.asc
    have n5 : ns.length ≤ 5 := Nat.le_trans hns.most m5
    -- behind the worths
    have fin : ∀ (d : Addr), H2 d = none → ∀ (wq : Addr) (H4 : Hp) (W : Grp → Int), GrowW ns W → Drawn p (upd H2 d (.dK [])) H4 → (upd H2 d (.dK [])) wq = none → wq ≠ p → H4 wq = some (.dT (wDict (groupsOf ns) W)) →
        H4 d = some (.dK []) ∧ ∃ kvs : List (Key × V), [(V.str "names", V.ref tn), (V.str "worths", V.ref wq)] = kvs.map (fun kv => (kV kv.1, kv.2)) ∧ kvs.length ≤ 15 ∧ Q (.ref d) (upd H4 d (.dK (mergeK [] kvs))) := fun d nd wq H4 W hW d4 nw nwp hw => by
      obtain ⟨ndH, ndp⟩ := dr2.none nd
      have hd4 := d4.at' (upd_same (H := H2) (a := d) (o := .dK [])) ndp
      have htn4 := d4.at' ((same_new (o := HO.dK []) nd) _ _ htn2) ntp
      refine ⟨hd4, plainD tn wq, rfl, by show 2 ≤ 15; decide, ?_⟩
      rw [plain_merge]
      have dr4 := (dr2.new (o := .dK []) nd).trans d4
      have nwH := ((dr2.new (o := .dK []) nd).none nw).1
      refine k d tn wq _ ns W hns hW (dr4.set ndH ndp) ndH nwH ⟨upd_same, ?_, ?_⟩
      · rw [upd_ne (ne_of htn4 hd4 (by intro q; cases q))]
        exact htn4
      · rw [upd_ne (ne_of hw hd4 (by intro q; cases q))]
        exact hw
    refine ⟨_, rfl, _, _, rfl, rfl, _, rfl, ite2 (fun e => ?_) (fun e => ?_)⟩
    · intro d nd
      have s2 := same_new (o := HO.dK []) nd
      refine ⟨_, rfl, _, rfl, _, rfl, p, tn, ns, rfl, dr2.cup.same s2, s2 _ _ htn2, n5, nnd, ok8, fun wq H4 G hG d4 nw nwp hw => ?_⟩
      exact fin d nd wq H4 _ (.parts G hG) d4 nw nwp hw
    · intro d nd
      have s2 := same_new (o := HO.dK []) nd
      refine ⟨_, rfl, _, rfl, rfl, _, rfl, ite2 (fun e => ?_) (fun e => ?_)⟩
      · refine ⟨_, rfl, _, rfl, p, tn, ns, rfl, dr2.cup.same s2, s2 _ _ htn2, n5, nnd, fun wq H4 U S hW d4 nw nwp hw => ?_⟩
        exact fin d nd wq H4 _ (.size U S hW) d4 nw nwp hw
      · refine ⟨_, rfl, _, rfl, p, tn, ns, rfl, dr2.cup.same s2, s2 _ _ htn2, n5, nnd, ok8, fun wq H4 C E hC h0 h1 d4 nw nwp hw => ?_⟩
        exact fin d nd wq H4 _ (.estate C E hC h0 h1) d4 nw nwp hw
/-! ### _law_game -/
/-- worths as the law draws them: none is nothing, all are small -/
structure SmallW (ns : List Str) (W : Grp → Int) : Prop where
  zero : W [] = 0
  lo : ∀ g ∈ groupsOf ns, -1000 ≤ W g
  hi : ∀ g ∈ groupsOf ns, W g ≤ 1000
theorem GrowW.bnd {ns : List Str} {W : Grp → Int} (h : GrowW ns W) (n5 : ns.length ≤ 5) : W [] = 0 ∧ ∀ g ∈ groupsOf ns, -300 ≤ W g ∧ W g ≤ 300 := by
  have gl : ∀ g ∈ groupsOf ns, g.length ≤ ns.length := fun g m => (groups_mem.mp m).length_le
  cases h with
  | parts G h =>
    refine ⟨?_, fun g _ => ?_⟩
    · have b := sum_between G 0 0 ((groupsOf ns).filter fun p => subG p []) fun x m => by
        obtain ⟨m1, m2⟩ := List.mem_filter.mp m
        have e : x = [] := by
          cases x with
          | nil => rfl
          | cons c r =>
            have z : subG (c :: r) [] = false := by
              unfold subG
              rw [List.all_cons]
              have : decide (c ∈ ([] : List Str)) = false := decide_eq_false List.not_mem_nil
              rw [this]
              rfl
            rw [z] at m2
            cases m2
        have := (h x m1).2.2.1 e
        omega
      show ((((groupsOf ns).filter fun p => subG p []).map G).sum) = 0
      omega
    · have b := sum_between G (-3) 7 ((groupsOf ns).filter fun p => subG p g) fun x m => by
        have := h x (List.mem_filter.mp m).1
        exact ⟨this.1, this.2.1⟩
      have l1 : ((groupsOf ns).filter fun p => subG p g).length ≤ (groupsOf ns).length := List.length_filter_le _ _
      have l2 := groups_small n5
      show -300 ≤ ((((groupsOf ns).filter fun p => subG p g).map G).sum) ∧ ((((groupsOf ns).filter fun p => subG p g).map G).sum) ≤ 300
      omega
  | size U S h =>
    have b : ∀ j, j ≤ ns.length → -2 ≤ S j ∧ S j ≤ 3 + 2 * j ∧ -2 * (j : Int) ≤ U j ∧ U j ≤ 13 * j := by
      intro j
      induction j with
      | zero =>
        intro _
        have h1 := h.zero
        have h2 := h.first
        omega
      | succ j ih =>
        intro hj
        have i := ih (by omega)
        have h1 := h.step j (by omega)
        have h2 := h.rise j (by omega)
        omega
    refine ⟨h.zero, fun g m => ?_⟩
    have l := gl g m
    have := b g.length l
    show -300 ≤ U g.length ∧ U g.length ≤ 300
    omega
  | estate C E h h0 h1 =>
    have b1 := sum_between C 0 6 ns fun x m => by
      have := h x m
      omega
    refine ⟨?_, fun g _ => ?_⟩
    · have e : (ns.filter fun n => !decide (n ∈ ([] : Grp))) = ns := List.filter_eq_self.mpr fun n _ => by
        rw [decide_eq_false List.not_mem_nil]
        rfl
      show max 0 (E - ((ns.filter fun n => !decide (n ∈ ([] : Grp))).map C).sum) = 0
      rw [e]
      omega
    · have b2 := sum_between C 0 6 (ns.filter fun n => !decide (n ∈ g)) fun x m => by
        have := h x (List.mem_filter.mp m).1
        omega
      show -300 ≤ max 0 (E - ((ns.filter fun n => !decide (n ∈ g)).map C).sum) ∧ max 0 (E - ((ns.filter fun n => !decide (n ∈ g)).map C).sum) ≤ 300
      omega
def spGame : Sp := fun vs H Q _ => ∃ (p : Addr) (m : Nat), vs = [.ref p, .int (m : Int)] ∧ CupAt H p ∧ 3 ≤ m ∧ m ≤ 5 ∧
  ∀ (q tn wq : Addr) (H' : Hp) (ns : List Str) (W : Grp → Int), Nms m ns → SmallW ns W → Drawn p H H' → H q = none → H wq = none → PlainAt H' q tn wq ns W → Q (.ref q) H'
theorem ok_game {a aW aN aS aE aM aG aP aZ aT : Addr} {fd fdW fdN fdS fdE fdM fdG fdP fdZ fdT : FuncData} (T : Txt mg) (D : Df K mg "_law_game" s__law_game p__law_game a fd) (DW : Df K mg "_law_growing" s__law_growing p__law_growing aW fdW)
    (DN : Df K mg "_law_names" s__law_names p__law_names aN fdN) (DS : Df K mg "_law_sip" s__law_sip p__law_sip aS fdS)
    (DE : Df K mg "_law_select" s__law_select p__law_select aE fdE) (DM : Df K mg "_law_mingled" s__law_mingled p__law_mingled aM fdM) (DG : Df K mg "_law_groups" s__law_groups p__law_groups aG fdG)
    (DP : Df K mg "_law_by_parts" s__law_by_parts p__law_by_parts aP fdP) (DZ : Df K mg "_law_by_size" s__law_by_size p__law_by_size aZ fdZ) (DT : Df K mg "_law_by_estate" s__law_by_estate p__law_by_estate aT fdT) :
    FnOk P w K mg base CX0 5 a fd p__law_game spGame := by
  have GS : FnOk P w K mg base CX0 1 aS fdS p__law_sip spSip := ok_sip T DS
  have GE : FnOk P w K mg base CX0 2 aE fdE p__law_select (spSelect K) := ok_select T DE DS
  have GG : FnOk P w K mg base CX0 1 aG fdG p__law_groups (spGroups K) := ok_lgroups T DG
  have GW : FnOk P w K mg base CX0 4 aW fdW p__law_growing spGrowing := ok_growing T DW DN DS DE DM DG DP DZ DT
  refine D.F.ok c__law_game (fun vs H Q E h => ?_) (fun cdv A outer s H vs Q E hr h => ?_)
  · obtain ⟨p, m, rfl, _⟩ := h
    rfl
  · obtain ⟨p, m, rfl, hp, m3, m5, k⟩ := h
    have nd := c__law_game.nd
    have hu := hu_of hr
    have hr1 : Room 1 (A.deeper (envOfC "_law_game" (defScope s__law_game) s.heap.objs.size a cdv)) := hr.mono (by decide)
    have hr2 : Room 2 (A.deeper (envOfC "_law_game" (defScope s__law_game) s.heap.objs.size a cdv)) := hr.mono (by decide)
    refine ⟨_, pss_cons (ps_asg (pe_tup (pa_cons (dcall DW GW hr (pa_cons (pv 0) (pa_cons (pv 1) pa_nil))) (pa_cons (dcall DS GS hr1 (pa_cons (pv 0) (pa_cons pe_int pa_nil))) pa_nil)))
        (pg_tup rfl (pgs_cons (pg_name (i := 2) nd rfl (.inr rfl)) (pgs_cons (pg_name (i := 3) nd rfl (.inl rfl)) pgs_nil))))
      (pss_cons (ps_set (i := 4) nd rfl (.inl rfl) (pe_callTy (call_dictG rfl hr.units) (by rfl) T.b_dict boot_dict (pa_cons (pe_lock (pe_lc (own := [("some", 6)]) (g := gName 6) (tt := tYes) (te := tTup (tCons (tVar 6) (tCons (tDGet (tDGet (tVar 2) (tC (.str "worths"))) (tVar 6)) tNil))) rfl nd (pi_keys (pe_dget hu (pv 2) pe_str (fun _ _ => rfl)))
          (blkOk_by (own := [("some", 6)]) (N := n__law_game) (sc := defScope s__law_game) (by decide +kernel)) (fun _ _ _ _ _ => pg_name (i := 6) nd rfl (Or.inl rfl)) (fun _ _ _ _ _ => pts_nil)
          (fun _ _ _ _ _ => pe_tup (pa_cons (pv 6) (pa_cons (pe_dget hu (pe_dget hu (pv 2) pe_str (fun _ _ => rfl)) (pv 6) (fun _ _ => rfl)) pa_nil))))) pa_nil)))
      (pss_cons (ps_mid (ps_if (pt_cmpR op_eq (pv 3) pe_int (nomark _))
        (pss_cons (ps_set (i := 4) nd rfl (.inl rfl) (pe_callTy (call_dictG rfl hr.units) (by rfl) T.b_dict boot_dict (pa_cons (pe_lc (own := [("some", 6)]) (g := gName 6) (tt := tYes) (te := tTup (tCons (tVar 6) (tCons (tOp (rI0 fun i j => .int (i - j)) (tCall spSip [] E0 (tCons (tVar 0) (tCons (tC (.int 7)) tNil))) (tC (.int 1))) tNil))) rfl nd (pi_list (dcall DG GG hr1 (pa_cons (pe_dget hu (pv 2) pe_str (fun _ _ => rfl)) pa_nil)))
          (blkOk_by (own := [("some", 6)]) (N := n__law_game) (sc := defScope s__law_game) (by decide +kernel)) (fun _ _ _ _ _ => pg_name (i := 6) nd rfl (Or.inl rfl)) (fun _ _ _ _ _ => pts_nil)
          (fun _ _ _ _ _ => pe_tup (pa_cons (pv 6) (pa_cons (pe_op op_sub (dcall DS GS hr1 (pa_cons (pv 0) (pa_cons pe_int pa_nil))) pe_int) pa_nil)))) pa_nil)))
        (pss_one (ps_dput hu (pv 4) (pe_tup pa_nil) pe_int rfl))) pss_nil))
      (pss_cons (ps_for PassesOwn.never rfl (pi_range1 (by rfl) T.b_range (pa_cons (pe_mid (pe_ifExp (pt_cmpR op_in_seq (pv 3) (pe_tup (pa_cons pe_int (pa_cons pe_int pa_nil))) (by rfl)) (pe_op op_sub (pv 3) pe_int) pe_int)) pa_nil)) (pg_name (i := 5) nd rfl (Or.inl rfl))
        (pss_cons (ps_set (i := 6) nd rfl (.inl rfl) (dcall DE GE hr2 (pa_cons (pv 0) (pa_cons (pe_slice sl_list (dcall DG GG hr1 (pa_cons (pe_dget hu (pv 2) pe_str (fun _ _ => rfl)) pa_nil)) (po_some pe_int) po_none) pa_nil))))
        (pss_one (ps_dput hu (pv 4) (pv 6) (pe_op op_add (pe_dget hu (pv 4) (pv 6) (fun _ _ => rfl)) (dcall DE GE hr2 (pa_cons (pv 0) (pa_cons (pe_lst (pa_cons pe_int (pa_cons (pe_op op_sub pe_int pe_int) (pa_cons pe_int (pa_cons (pe_op op_sub pe_int pe_int) pa_nil))))) pa_nil)))) rfl))))
      (pss_one (ps_ret (pe_disp (pps_cons pe_str (pe_dget hu (pv 2) pe_str (fun _ _ => rfl)) (pps_cons pe_str (pv 4) pps_nil)) (by rfl) (by rfl) (fun z => by cases z) (by decide))))))), ?_⟩
    refine ⟨_, rfl, _, rfl, p, m, rfl, hp, m3, m5, fun pl tn wq H1 ns W0 hns hW d1 npl nwq hpl => ?_⟩
    refine ⟨_, rfl, p, 5, rfl, by decide, by decide +kernel, d1.cup, fun r ua ub uc r0 rn => ?_⟩
    have dr2 : Drawn p H (upd H1 p (.lst [.int ua, .int ub, .int uc])) := d1.trans draw_ok
    have hpl2 : PlainAt (upd H1 p (.lst [.int ua, .int ub, .int uc])) pl tn wq ns W0 := hpl.drawn d1.cup draw_ok
    generalize upd H1 p (.lst [.int ua, .int ub, .int uc]) = H2 at dr2 hpl2
    refine ⟨(by show 2 ≤ sizeLine; decide), fun t nt => ⟨t, _, rfl, .inl (.inl upd_same), rfl, ?_⟩⟩
    refine ⟨_, _, rfl, _, _, rfl, rfl, ?_⟩
    have st := same_new (o := HO.tup [V.ref pl, .int r]) nt
    have dr3 := dr2.new (o := .tup [V.ref pl, .int r]) nt
    have hpl3 := hpl2.same st
    generalize upd H2 t (.tup [.ref pl, .int r]) = H3 at dr3 hpl3
    have nnd := asc_nodup hns.asc
    have n5 : ns.length ≤ 5 := Nat.le_trans hns.most m5
    have gnd : (groupsOf ns).Nodup := groups_nodup nnd
    have glen := groups_small n5
    refine ⟨wq, _, hpl3.w, trivial, fun od => ?_⟩
    have plwq : pl ≠ wq := ne_of hpl3.d hpl3.w (by intro q; cases q)
    have gp : ∀ {H' : Hp} {a tn wq : Addr}, Rd H' a (.dK (plainD tn wq)) → DGet H' a (.str "worths") (some (.ref wq)) := fun e => .inl ⟨_, Sum.inr _, e, rfl, (plain_worths _ _).symm⟩
    have gn : ∀ {H' : Hp} {a tn wq : Addr}, Rd H' a (.dK (plainD tn wq)) → DGet H' a (.str "names") (some (.ref tn)) := fun e => .inl ⟨_, Sum.inr _, e, rfl, (plain_names _ _).symm⟩
    have hplz : (upd H3 wq (.frz od (.dT (wDict (groupsOf ns) W0)))) pl = some (.dK (plainD tn wq)) := (upd_ne plwq).trans hpl3.d
    refine ⟨_, rfl, pl, .ref wq, rfl, gp (.inl hplz), wq, od, rfl, .inr ⟨_, upd_same, fun Ad nA => ?_⟩⟩
    refine lc_it walk_keysT (fun j H8 => ∃ l : List (Addr × PairE), H8 Ad = some (.lst (prefs l)) ∧ PrsAt H8 l ∧ pdata l = wDict ((groupsOf ns).take j) W0 ∧ Same (upd H3 wq (.frz od (.dT (wDict (groupsOf ns) W0)))) H8)
      ⟨[], upd_same, .nil, rfl, same_new nA⟩ (fun j H8 hj hP => ?_) (fun j x H8 H9 hj hP hY => ?_) (fun H8 hP => ?_)
    · obtain ⟨_, _, _, _, s8⟩ := hP
      exact s8 _ _ upd_same
    · obtain ⟨l, hA, hT, hd, s8⟩ := hP
      obtain ⟨rfl, kk, vv, qk, hkv, rfl, hqk⟩ := hY
      obtain ⟨g, hg, rfl, _⟩ := wDict_at hkv
      have hgm := List.mem_of_getElem? hg
      have hw9 := s8 _ _ (upd_same (H := H3) (a := wq) (o := .frz od (.dT (wDict (groupsOf ns) W0))))
      have hgj : j < (groupsOf ns).length := (List.getElem?_eq_some_iff.mp hg).1
      refine ⟨rfl, _, rfl, _, rfl, pl, .ref wq, rfl, gp (.inl (s8 _ _ hplz)), _, rfl, wq, .int (W0 g), rfl, .inr ⟨_, kG g, qk, .inr ⟨od, hw9⟩, rfl, hqk, (wDict_in hgm).symm⟩, (by show 2 ≤ sizeLine; decide), fun N nN => ?_⟩
      rw [kG_V] at hqk
      obtain ⟨e1, e2, e3, e4⟩ := prs_next hA hT hd hqk nN (W := W0) rfl
      refine ⟨_, e1, small1000 (by rw [prefs_len hd, List.length_take]; omega), l ++ [(N, ⟨qk, kG g, .int (W0 g)⟩)], e2, e3, ?_, ?_⟩
      · rw [List.take_add_one, hg]
        exact e4
      · intro c o e
        rw [upd_ne (ne_of_none e nA)]
        exact (same_new nN) _ _ (s8 _ _ e)
    · obtain ⟨l, hA, hT, hd, s8⟩ := hP
      rw [wDict_len, List.take_length] at hd
      have hw8 := s8 _ _ (upd_same (H := H3) (a := wq) (o := .frz od (.dT (wDict (groupsOf ns) W0))))
      refine ⟨hw8, ?_⟩
      have s9 := unlock_same hpl3.w s8
      have hT9 : PrsAt (upd H8 wq (.dT (wDict (groupsOf ns) W0))) l := hT.upd fun xs e => by
        rw [hw8] at e
        cases e
      have hA9 : (upd H8 wq (.dT (wDict (groupsOf ns) W0))) Ad = some (.lst (prefs l)) := (upd_ne (ne_of hA hw8 (by intro q; cases q))).trans hA
      generalize upd H8 wq (.dT (wDict (groupsOf ns) W0)) = H9 at s9 hT9 hA9
      have dr9 : Drawn p H H9 := dr3.trans ⟨Same.kp s9, dr3.cup.same s9⟩
      have hpl9 := hpl3.same s9
      refine ⟨Ad, l, groupsOf ns, W0, rfl, .inl (.inl hA9), hT9, hd, gnd, fun wd nwd => ?_⟩
      obtain ⟨nwdH, nwdp⟩ := dr9.none nwd
      have dr10 := dr9.new (o := .dT (wDict (groupsOf ns) W0)) nwd
      have hpl10 := hpl9.same (same_new (o := .dT (wDict (groupsOf ns) W0)) nwd)
      have hwd10 : (upd H9 wd (.dT (wDict (groupsOf ns) W0))) wd = some (.dT (wDict (groupsOf ns) W0)) := upd_same
      generalize upd H9 wd (.dT (wDict (groupsOf ns) W0)) = H10 at dr10 hpl10 hwd10
      have wqwd : wq ≠ wd := ne_of_none hpl9.w nwd
      obtain ⟨wz, wb⟩ := hW.bnd n5
      refine ⟨fun σ H5 => ∃ (W : Grp → Int) (wd : Addr) (y5 y6 : Option V), σ = [some (.ref p), some (.int (m : Int)), some (.ref pl), some (.int r), some (.ref wd), y5, y6] ∧ Drawn p H H5 ∧ PlainAt H5 pl tn wq ns W0 ∧ H5 wd = some (.dT (wDict (groupsOf ns) W)) ∧
        H wd = none ∧ wd ≠ p ∧ wq ≠ wd ∧ W [] = 0 ∧ ∀ g ∈ groupsOf ns, -300 ≤ W g ∧ W g ≤ 300, ?_, ?_⟩
      · refine ⟨_, rfl, rfl, _, rfl, ite2 (fun _ => ?_) (fun _ => ⟨W0, wd, _, _, rfl, dr10, hpl10, hwd10, nwdH, nwdp, wqwd, wz, wb⟩)⟩
        refine ⟨_, rfl, pl, .ref tn, rfl, gn (.inl hpl10.d), tn, ns, rfl, .inl (.inl hpl10.n), by omega, fun q H11 ts s11 nq hq ht hts => ⟨q, rfl, ⟨_, .inl (.inl hq)⟩, fun Bd nB => ?_⟩⟩
        have dr11 := dr10.trans ⟨Same.kp s11, dr10.cup.same s11⟩
        have hpl11 := hpl10.same s11
        obtain ⟨nqH, nqp⟩ := dr10.none nq
        obtain ⟨nBH, nBp⟩ := dr11.none nB
        have nqB : q ≠ Bd := ne_of_none hq nB
        refine lc_it (walk_list (xs := refs ts)) (fun j H8 => ∃ (l : List (Addr × PairE)) (W : Grp → Int), H8 Bd = some (.lst (prefs l)) ∧ PrsAt H8 l ∧ pdata l = wDict ((groupsOf ns).take j) W ∧ Drawn p H11 H8 ∧ ∀ g ∈ (groupsOf ns).take j, -1 ≤ W g ∧ W g ≤ 5)
          ⟨[], fun _ => 0, upd_same, .nil, rfl, (Drawn.here dr11.cup).new nB, fun g mm => absurd mm (by rw [List.take_zero]; exact List.not_mem_nil)⟩ (fun j H8 hj hP => ?_) (fun j x H8 H9 hj hP hY => ?_) (fun H8 hP => ?_)
        · obtain ⟨_, _, _, _, _, d8, _⟩ := hP
          exact .inl (.inl (d8.at' hq nqp))
        · obtain ⟨l, W, hA, hT, hd, d8, hWb⟩ := hP
          obtain ⟨rfl, hx⟩ := hY
          obtain ⟨t, htj, rfl, hgj⟩ := refs_at' hx hts
          have hgl : j < (groupsOf ns).length := (List.getElem?_eq_some_iff.mp hgj).1
          refine ⟨rfl, _, rfl, _, rfl, p, 7, rfl, by decide, by decide +kernel, d8.cup, fun r2 ua ub uc r0' rn' => ?_⟩
          have nBp' : Bd ≠ p := nBp
          have d9 : Drawn p H9 (upd H9 p (.lst [.int ua, .int ub, .int uc])) := draw_ok
          have dr9 := d8.trans d9
          have hA9 := d9.at' hA nBp
          have hT9 : PrsAt (upd H9 p (.lst [.int ua, .int ub, .int uc])) l := hT.upd (by
            obtain ⟨x, y, z, e⟩ := d8.cup
            intro xs q
            rw [e] at q
            cases q)
          have ht9 : (upd H9 p (.lst [.int ua, .int ub, .int uc])) t.1 = some (.tup (t.2.map V.str)) := (ht.drawn dr11.cup dr9).get htj
          generalize upd H9 p (.lst [.int ua, .int ub, .int uc]) = H10' at dr9 hA9 hT9 ht9
          refine ⟨_, _, rfl, rfl, (by show 2 ≤ sizeLine; decide), fun N nN => ?_⟩
          have hnew := nodup_take gnd hgj
          have ne : ∀ g ∈ (groupsOf ns).take j, g ≠ t.2 := fun g hm e => hnew (e ▸ hm)
          have hd' : pdata l = wDict ((groupsOf ns).take j) (setW W t.2 (r2 - 1)) := hd.trans (wDict_congr fun g hm => (setW_ne W _ (ne g hm)).symm)
          obtain ⟨e1, e2, e3, e4⟩ := prs_next hA9 hT9 hd' ht9 nN (x := r2 - 1) (setW_same _ _ _).symm
          refine ⟨_, e1, small1000 (by rw [prefs_len hd, List.length_take]; omega), l ++ [(N, ⟨t.1, kG t.2, .int (r2 - 1)⟩)], setW W t.2 (r2 - 1), e2, e3, ?_, ?_, ?_⟩
          · rw [List.take_add_one, hgj]
            exact e4
          · exact (dr9.new nN).set nB nBp
          · intro g hm
            rw [List.take_add_one, hgj] at hm
            rcases List.mem_append.mp hm with hm | hm
            · rw [setW_ne W _ (ne g hm)]
              exact hWb g hm
            · have e : g = t.2 := List.mem_singleton.mp hm
              subst e
              rw [setW_same]
              omega
        · obtain ⟨l, W, hA, hT, hd, d8, hWb⟩ := hP
          have tlen : (refs ts).length = (groupsOf ns).length := by
            rw [← hts, List.length_map, List.length_map]
          rw [tlen, List.take_length] at hd hWb
          refine ⟨Bd, l, groupsOf ns, W, rfl, .inl (.inl hA), hT, hd, gnd, fun wd2 nwd2 => ?_⟩
          have dr12 := dr11.trans d8
          have hpl12 := hpl11.drawn dr11.cup d8
          obtain ⟨nw2H, nw2p⟩ := dr12.none nwd2
          have s13 := same_new (o := .dT (wDict (groupsOf ns) W)) nwd2
          have dr13 := dr12.new (o := .dT (wDict (groupsOf ns) W)) nwd2
          have hpl13 := hpl12.same s13
          have wq2 : wq ≠ wd2 := ne_of_none hpl12.w nwd2
          have hwd13 : (upd H8 wd2 (.dT (wDict (groupsOf ns) W))) wd2 = some (.dT (wDict (groupsOf ns) W)) := upd_same
          generalize upd H8 wd2 (.dT (wDict (groupsOf ns) W)) = H13 at dr13 hpl13 hwd13
          refine ⟨_, rfl, Nat.zero_le _, fun e ne => ?_⟩
          have nwe : wd2 ≠ e := ne_of_none hwd13 ne
          have s14 := same_new (o := .tup []) ne
          have memE : ([] : Grp) ∈ groupsOf ns := groups_mem.mpr (List.nil_sublist _)
          refine ⟨wd2, _, rfl, DPut.t (k := kG []) (s14 _ _ hwd13) upd_same (small1000 (by rw [wDict_len]; omega)), ?_⟩
          rw [putK_in memE]
          refine ⟨setW W [] 0, wd2, _, _, rfl, (dr13.new ne).set nw2H nw2p, ⟨?_, ?_, ?_⟩, upd_same, nw2H, nw2p, wq2, setW_same _ _ _, fun g mm => ?_⟩
          · rw [upd_ne (ne_of hpl13.d hwd13 (by intro q; cases q))]
            exact s14 _ _ hpl13.d
          · rw [upd_ne (ne_of hpl13.n hwd13 (by intro q; cases q))]
            exact s14 _ _ hpl13.n
          · rw [upd_ne wq2]
            exact s14 _ _ hpl13.w
          · by_cases z : g = []
            · rw [z, setW_same]
              omega
            · rw [setW_ne _ _ z]
              have := hWb g mm
              omega
      · rintro σ H5 ⟨W, wd, y5, y6, rfl, dr5, hpl5, hwd5, nwdH, nwdp, wqwd, wz, wb⟩
        refine ⟨fun v H' => ∃ c : Int, v = .int c ∧ -1 ≤ c ∧ c ≤ 4 ∧ Same H5 H', ?_, ?_⟩
        · refine ⟨_, rfl, (by show 2 ≤ sizeLine; decide), fun t nt => ⟨t, _, rfl, .inr (.inl (.inl upd_same)), rfl, rfl, _, rfl, ite2 (fun _ => ?_) (fun _ => ?_)⟩⟩
          · exact ⟨_, rfl, _, _, rfl, rfl, _, rfl, by omega, by omega, same_new nt⟩
          · exact ⟨_, rfl, by decide, by decide, same_new nt⟩
        · rintro v H6 ⟨c, rfl, c0, c4, s6⟩
          have dr6 : Drawn p H H6 := dr5.trans ⟨Same.kp s6, dr5.cup.same s6⟩
          have hpl6 := hpl5.same s6
          have hwd6 := s6 _ _ hwd5
          refine ⟨c, rfl, by omega, by omega, ?_⟩
          refine for_range (fun i σ H7 => ∃ (W : Grp → Int) (y5 y6 : Option V), σ = [some (.ref p), some (.int (m : Int)), some (.ref pl), some (.int r), some (.ref wd), y5, y6] ∧ Drawn p H H7 ∧ PlainAt H7 pl tn wq ns W0 ∧ H7 wd = some (.dT (wDict (groupsOf ns) W)) ∧
              W [] = 0 ∧ ∀ g ∈ groupsOf ns, -300 - 4 * (i : Int) ≤ W g ∧ W g ≤ 300 + 4 * (i : Int))
            ⟨W, _, _, rfl, dr6, hpl6, hwd6, wz, fun g mm => by have := wb g mm; omega⟩ (fun i σ H7 hi hP => ?_) (fun σ H7 hP => ?_)
          · obtain ⟨W, y5, y6, rfl, dr7, hpl7, hwd7, wz, wb⟩ := hP
            refine ⟨_, rfl, _, rfl, pl, .ref tn, rfl, gn (.inl hpl7.d), tn, ns, rfl, .inl (.inl hpl7.n), by omega, fun q H8 ts s8 nq hq ht hts => ?_⟩
            refine ⟨_, rfl, q, _, rfl, .inl (.inl hq), fun C nC => ?_⟩
            rw [cutV_drop1]
            have dr8 := dr7.trans ⟨Same.kp s8, dr7.cup.same s8⟩
            have dr9 := dr8.new (o := .lst ((refs ts).drop 1)) nC
            obtain ⟨nCH, nCp⟩ := dr8.none nC
            have sC := same_new (o := HO.lst ((refs ts).drop 1)) nC
            have rl : (refs ts).length = 2 ^ ns.length := by
              rw [← groups_len ns, ← hts, List.length_map, List.length_map]
            have r2 : 2 ≤ 2 ^ ns.length := by
              have := Nat.pow_le_pow_right (n := 2) (by decide) hns.pos
              exact this
            have r5 : 2 ^ ns.length ≤ 32 := Nat.le_trans (Nat.pow_le_pow_right (by decide) n5) (by decide)
            refine ⟨p, C, (refs ts).drop 1, rfl, dr9.cup, .inl (.inl upd_same), nCp, by rw [List.length_drop]; omega, by rw [List.length_drop]; omega, fun v H10 hv d10 => ?_⟩
            rw [← List.map_drop] at hv
            obtain ⟨t, htm, rfl⟩ := List.mem_map.mp hv
            have dr10 := dr9.trans d10
            have hpl10 := ((hpl7.same s8).same sC).drawn dr9.cup d10
            have hwd10 := d10.at' (sC _ _ (s8 _ _ hwd7)) nwdp
            have ht10 := ((ht.same sC).drawn dr9.cup d10) t (List.mem_of_mem_drop htm)
            obtain ⟨gm, gne⟩ := groups_tail nnd (g := t.2) (by rw [← hts, ← List.map_drop]; exact List.mem_map_of_mem htm)
            have getW : ∀ {H' : Hp} {x : Int}, H' wd = some (.dT (wDict (groupsOf ns) W)) → H' t.1 = some (.tup (t.2.map V.str)) → DGet H' wd (.ref t.1) (some (.int (W t.2))) := fun e1 e2 => .inr ⟨_, kG t.2, t.1, .inl e1, rfl, (by rw [kG_V]; exact e2), (wDict_in gm).symm⟩
            refine ⟨_, rfl, _, rfl, wd, _, rfl, getW (x := 0) hwd10 ht10, ?_⟩
            refine ⟨_, rfl, _, _, rfl, rfl, _, _, rfl, rfl, (by show 4 ≤ sizeLine; decide), fun L nL => ?_⟩
            have dr11 := dr10.new (o := .lst ([1, -1, 2, -4].map V.int)) nL
            obtain ⟨nLH, nLp⟩ := dr10.none nL
            have sL := same_new (o := HO.lst ([1, -1, 2, -4].map V.int)) nL
            refine ⟨p, L, [1, -1, 2, -4].map V.int, rfl, dr11.cup, .inl (.inl upd_same), nLp, (by decide), (by decide), fun v H12 hv d12 => ?_⟩
            obtain ⟨x, hx, rfl⟩ := List.mem_map.mp hv
            have dr12 := dr11.trans d12
            have hpl12 := (hpl10.same sL).drawn dr11.cup d12
            have hwd12 := d12.at' (sL _ _ hwd10) nwdp
            have ht12 : H12 t.1 = some (.tup (t.2.map V.str)) := by
              obtain ⟨x, y, z, e⟩ := dr11.cup
              exact d12.at' (sL _ _ ht10) (ne_of (sL _ _ ht10) e (by intro q; cases q))
            refine ⟨_, _, rfl, rfl, _, rfl, _, rfl, wd, _, rfl, DPut.t (k := kG t.2) hwd12 (by rw [kG_V]; exact ht12) (small1000 (by rw [wDict_len]; omega)), ?_⟩
            rw [putK_in gm]
            refine ⟨setW W t.2 (W t.2 + x), _, _, rfl, dr12.set nwdH nwdp, ⟨?_, ?_, ?_⟩, upd_same, (setW_ne _ _ (Ne.symm gne)).trans wz, fun g mm => ?_⟩
            · rw [upd_ne (ne_of hpl12.d hwd12 (by intro q; cases q))]
              exact hpl12.d
            · rw [upd_ne (ne_of hpl12.n hwd12 (by intro q; cases q))]
              exact hpl12.n
            · rw [upd_ne wqwd]
              exact hpl12.w
            · have xb : -4 ≤ x ∧ x ≤ 2 := by
                simp only [List.mem_cons, List.not_mem_nil, or_false] at hx
                rcases hx with rfl | rfl | rfl | rfl <;> decide
              have b := wb g mm
              by_cases z : g = t.2
              · subst z
                rw [setW_same]
                omega
              · rw [setW_ne _ _ z]
                omega
          · obtain ⟨W, y5, y6, rfl, dr7, hpl7, hwd7, wz, wb⟩ := hP
            intro d nd
            have s8 := same_new (o := HO.dK []) nd
            obtain ⟨ndH, ndp⟩ := dr7.none nd
            refine ⟨_, rfl, pl, .ref tn, rfl, gn (.inl (s8 _ _ hpl7.d)), _, rfl, upd_same, plainD tn wd, rfl, (by show 2 ≤ 15; decide), ?_⟩
            rw [plain_merge, upd_upd]
            have s9 := same_new (o := HO.dK (plainD tn wd)) nd
            exact k d tn wd _ ns W hns ⟨wz, fun g mm => by have := wb g mm; omega, fun g mm => by have := wb g mm; omega⟩ (dr7.new nd) ndH nwdH ⟨upd_same, s9 _ _ hpl7.n, s9 _ _ hwd7⟩
/-! ### sets of persons: groups_of -/
/-- all groups of some ascending names, in Python's order, as a new tuple of new tuples -/
def spGroupsOf (K : PySem.W.Frag) : Sp := fun vs H Q _ => ∃ (a : Addr) (ns : List Str), vs = [.ref a] ∧ SqT K H a (ns.map V.str) ∧ ns.length ≤ 8 ∧ ns.Pairwise ltS ∧
  ∀ (q : Addr) (H' : Hp) (ts : List (Addr × Grp)), Same H H' → H q = none → H' q = some (.tup (refs ts)) → TupsAt H' ts → ts.map (·.2) = groupsOf ns → Q (.ref q) H'
theorem ok_groups_of {a : Addr} {fd : FuncData} (T : Txt mg) (D : Df K mg "groups_of" s_groups_of p_groups_of a fd) : FnOk P w K mg base CX0 1 a fd p_groups_of (spGroupsOf K) := by
  refine D.F.ok c_groups_of (fun vs H Q E h => ?_) (fun cdv A outer s H vs Q E hr h => ?_)
  · obtain ⟨a, ns, rfl, _⟩ := h
    rfl
  · obtain ⟨a, ns, rfl, hS, hl, hasc, k⟩ := h
    have nd := c_groups_of.nd
    refine ⟨_, pss_cons (ps_set (i := 1) nd rfl (.inl rfl) (pe_lst (pa_cons (pe_tup pa_nil) pa_nil)))
      (pss_cons (ps_for PassesOwn.never rfl (pi_tup (pe_revT (pv 0))) (pg_name (i := 2) nd rfl (Or.inr rfl))
        (pss_one (ps_set (i := 1) nd rfl (.inl rfl) (pe_op op_cat (pe_op op_cat (pe_lst (pa_cons (pe_tup pa_nil) pa_nil)) (pe_lc (own := [("group", 3)]) (g := gName 3) (tt := tYes) (te := tOp (rCatA K) (tTup (tCons (tVar 2) tNil)) (tVar 3)) rfl nd (pi_list (pv 1))
          (blkOk_by (own := [("group", 3)]) (N := n_groups_of) (sc := defScope s_groups_of) (by decide +kernel)) (fun _ _ _ _ _ => pg_name (i := 3) nd rfl (Or.inl rfl)) (fun _ _ _ _ _ => pts_nil)
          (fun _ _ _ _ _ => pe_op op_catA (pe_tup (pa_cons (pv 2) pa_nil)) (pv 3)))) (pe_slice sl_list (pv 1) (po_some pe_int) po_none)))))
      (pss_one (ps_ret (pe_callTy call_tuple_of (by rfl) T.b_tuple boot_tuple (pa_cons (pv 1) pa_nil))))), ?_⟩
    refine ⟨Nat.zero_le _, fun E0 nE => ⟨(by show 1 ≤ sizeLine; decide), fun q nq => ?_⟩⟩
    have s0 : Same H (upd H E0 (.tup [])) := same_new nE
    have s1 := s0.trans (same_new (o := .lst [V.ref E0]) nq)
    have nqE : E0 ≠ q := ne_of_none upd_same nq
    refine ⟨_, rfl, a, _, rfl, SqT.same hS s1, fun rp nrp => ?_⟩
    have sr := same_new (o := HO.tup (ns.map V.str).reverse) nrp
    have s2 := s1.trans sr
    refine ⟨rp, rfl, ⟨_, .inl (.inl upd_same)⟩, ?_⟩
    have hrp : (upd (upd (upd H E0 (.tup [])) q (.lst [V.ref E0])) rp (.tup (ns.map V.str).reverse)) rp = some (.tup (ns.map V.str).reverse) := upd_same
    have hq0 := sr _ _ (upd_same (H := upd H E0 (.tup [])) (a := q) (o := .lst [V.ref E0]))
    have hE0 := sr _ _ ((upd_ne (H := upd H E0 (.tup [])) (o := .lst [V.ref E0]) nqE).trans upd_same)
    generalize upd (upd (upd H E0 (.tup [])) q (.lst [V.ref E0])) rp (.tup (ns.map V.str).reverse) = Hr at s2 hrp hq0 hE0
    refine for_tup (K := K) (a := rp) (xs := (ns.map V.str).reverse) (fun i σ H5 => ∃ (q : Addr) (ts : List (Addr × Grp)) (y2 y3 : Option V), σ = [some (.ref a), some (.ref q), y2, y3] ∧ Same Hr H5 ∧ H q = none ∧ H5 q = some (.lst (refs ts)) ∧ TupsAt H5 ts ∧
        ts.map (·.2) = lexG (ns.drop (ns.length - i)))
      ⟨q, [(E0, [])], _, _, rfl, fun _ _ e => e, s0.free nq, hq0, .one hE0, (by rw [Nat.sub_zero, List.drop_length]; rfl)⟩ (fun i σ H5 hi hP => ?_) (fun i x σ H5 hx hP => ?_) (fun σ H5 hP => ?_)
    · obtain ⟨q, ts, y2, y3, rfl, s5, _⟩ := hP
      exact .inl (.inl (s5 _ _ hrp))
    · obtain ⟨q, ts, y2, y3, rfl, s5, hq', hq, ht, hts⟩ := hP
      have hir : i < ns.length := by
        have := (List.getElem?_eq_some_iff.mp hx).1
        rw [List.length_reverse, List.length_map] at this
        exact this
      obtain ⟨n, hn, rfl⟩ : ∃ n, ns[ns.length - 1 - i]? = some n ∧ x = V.str n := by
        rw [List.getElem?_reverse (by rw [List.length_map]; exact hir), List.length_map] at hx
        exact str_at hx
      have hdrop : ns.drop (ns.length - (i + 1)) = n :: ns.drop (ns.length - i) := by
        have e1 : ns.length - (i + 1) = ns.length - 1 - i := by omega
        have e2 : ns.length - 1 - i + 1 = ns.length - i := by omega
        have lt : ns.length - 1 - i < ns.length := by omega
        rw [e1, List.drop_eq_getElem_cons lt, e2]
        rw [List.getElem?_eq_getElem lt] at hn
        rw [Option.some.inj hn]
      have hlen : ts.length = 2 ^ i := by
        have := congrArg List.length hts
        rw [List.length_map, lexG_len, List.length_drop] at this
        rw [this]
        congr 1
        omega
      have hgl : ∀ t ∈ ts, t.2.length ≤ 8 := fun t m => by
        have m2 : t.2 ∈ ts.map (·.2) := List.mem_map_of_mem m
        rw [hts] at m2
        have l1 := (lexG_mem.mp m2).length_le
        rw [List.length_drop] at l1
        omega
      have hpow : 2 ^ i ≤ 128 := Nat.le_trans (Nat.pow_le_pow_right (by decide) (show i ≤ 7 by omega)) (by decide)
      refine ⟨Nat.zero_le _, fun F0 nF => ⟨(by show 1 ≤ sizeLine; decide), fun L0 nL => ?_⟩⟩
      have sF := same_new (o := HO.tup []) nF
      have sL := sF.trans (same_new (o := .lst [V.ref F0]) nL)
      have nLF : F0 ≠ L0 := ne_of_none upd_same nL
      have hL0 : (upd (upd H5 F0 (.tup [])) L0 (.lst [V.ref F0])) L0 = some (.lst [V.ref F0]) := upd_same
      have hF0 : (upd (upd H5 F0 (.tup [])) L0 (.lst [V.ref F0])) F0 = some (.tup []) := (upd_ne nLF).trans upd_same
      generalize upd (upd H5 F0 (.tup [])) L0 (.lst [V.ref F0]) = HL at sL hL0 hF0
      have htL := ht.same sL
      refine ⟨_, rfl, q, rfl, ⟨_, .inl (.inl (sL _ _ hq))⟩, fun Ad nA => ?_⟩
      have nAL : L0 ≠ Ad := ne_of_none hL0 nA
      refine lc_it (walk_list (xs := refs ts)) (fun j H6 => ∃ us : List (Addr × Grp), us.length = j ∧ us.map (·.2) = (ts.take j).map (fun t => n :: t.2) ∧ Same HL H6 ∧ H6 Ad = some (.lst (refs us)) ∧ TupsAt H6 us)
        ⟨[], rfl, rfl, same_new nA, upd_same, .nil⟩ (fun j H6 hj hP => ?_) (fun j x H6 H7 hj hP hY => ?_) (fun H6 hP => ?_)
      · obtain ⟨us, _, _, s6, _, _⟩ := hP
        exact .inl (.inl (s6 _ _ (sL _ _ hq)))
      · obtain ⟨us, hu, hus, s6, hA, hT⟩ := hP
        obtain ⟨rfl, hx⟩ := hY
        have hjt : j < ts.length := by
          rw [List.length_map] at hj
          exact hj
        have htj : ts[j]? = some ts[j] := List.getElem?_eq_getElem hjt
        have ex : x = V.ref ts[j].1 := by
          rw [List.getElem?_map, htj] at hx
          exact (Option.some.inj hx).symm
        subst ex
        have hg := s6 _ _ (htL ts[j] (List.getElem_mem hjt))
        have hAfree : HL Ad = none := nA
        refine ⟨rfl, _, rfl, (by show 1 ≤ sizeLine; decide), fun N1 nN => ⟨_, rfl, ?_⟩⟩
        have t1 := same_new (o := .tup [V.str n]) nN
        have nNA : Ad ≠ N1 := ne_of_none hA nN
        have hlt : (ts[j].2.map V.str).length ≤ 8 := by
          rw [List.length_map]
          exact hgl ts[j] (List.getElem_mem hjt)
        have fin : ∀ (g : Addr) (H8 : Hp), Same H7 H8 → H8 g = some (.tup ((n :: ts[j].2).map V.str)) → g ≠ Ad → ∃ acc, H8 Ad = some (.lst acc) ∧ acc.length < sizeLine ∧ ∃ us : List (Addr × Grp), us.length = j + 1 ∧ us.map (·.2) = (ts.take (j + 1)).map (fun t => n :: t.2) ∧ Same HL (upd H8 Ad (.lst (acc ++ [V.ref g]))) ∧
            (upd H8 Ad (.lst (acc ++ [V.ref g]))) Ad = some (.lst (refs us)) ∧ TupsAt (upd H8 Ad (.lst (acc ++ [V.ref g]))) us := fun g H8 s8 hg8 ngA => by
          have noA : ∀ {b : Addr} {o : HO}, HL b = some o → b ≠ Ad := fun hb => ne_of_none hb hAfree
          refine ⟨refs us, s8 _ _ hA, small1000 (by rw [List.length_map]; have := hj; omega), us ++ [(g, n :: ts[j].2)], by rw [List.length_append, hu]; rfl, ?_, fun b o hb => ?_, ?_, fun t ht' => ?_⟩
          · rw [List.map_append, hus, List.take_add_one, htj, List.map_append]
            rfl
          · rw [upd_ne (noA hb)]
            exact s8 _ _ (s6 _ _ hb)
          · rw [upd_same, refs_app]
            rfl
          · rcases List.mem_append.mp ht' with m | m
            · have nt : t.1 ≠ Ad := fun z => by
                have z1 := hT t m
                rw [z, hA] at z1
                cases z1
              rw [upd_ne nt]
              exact s8 _ _ (hT t m)
            · rw [List.mem_singleton.mp m, upd_ne ngA]
              exact hg8
        refine ⟨_, _, [V.str n], ts[j].2.map V.str, rfl, rfl, .inl (.inl upd_same), .inl (.inl (t1 _ _ hg)), ?_, fun e => (by cases e), fun _ e => ?_, fun _ _ p np => ?_⟩
        · show 1 + (ts[j].2.map V.str).length ≤ sizeLine
          exact Nat.le_trans (Nat.add_le_add_left hlt 1) (by decide)
        · refine fin N1 _ t1 ?_ nNA.symm
          rw [List.map_cons, e]
          exact upd_same
        · have nAp : Ad ≠ p := ne_of_none (t1 _ _ hA) np
          exact fin p _ (t1.trans (same_new np)) upd_same nAp.symm
      · obtain ⟨us, hu, hus, s6, hA, hT⟩ := hP
        have hus' : us.map (·.2) = (ts.map (·.2)).map (n :: ·) := by
          rw [hus, List.length_map, take_all (Nat.le_refl _), List.map_map]
          rfl
        have hul : us.length = 2 ^ i := by rw [hu, List.length_map, hlen]
        refine ⟨L0, Ad, [V.ref F0], refs us, rfl, rfl, s6 _ _ hL0, hA, ?_, fun p1 n1 => ?_⟩
        · rw [List.length_map, hul]
          exact Nat.le_trans (Nat.add_le_add_left hpow _) (show 1 + 128 ≤ sizeLine by decide)
        have t1 := same_new (o := HO.lst ([V.ref F0] ++ refs us)) n1
        have q1 := t1 _ _ (s6 _ _ (sL _ _ hq))
        refine ⟨_, rfl, _, rfl, q, refs ts, rfl, .inl (.inl q1), fun p2 n2 => ?_⟩
        have t2 := same_new (o := HO.lst (cutV (refs ts) (some 1) none)) n2
        have c1 : cutV (refs ts) (some 1) none = refs (ts.drop 1) := by
          rw [cutV_drop1]
          exact List.map_drop.symm
        refine ⟨p1, p2, _, _, rfl, rfl, t2 _ _ upd_same, upd_same, ?_, fun p np => ?_⟩
        · rw [c1, List.length_append, List.length_map, List.length_map, List.length_drop, hul, hlen]
          exact Nat.le_trans (show [V.ref F0].length + 2 ^ i + (2 ^ i - 1) ≤ 257 by show 1 + 2 ^ i + (2 ^ i - 1) ≤ 257; omega) (by decide)
        · have t3 := same_new (o := HO.lst ([V.ref F0] ++ refs us ++ cutV (refs ts) (some 1) none)) np
          have sH : Same HL _ := ((s6.trans t1).trans t2).trans t3
          have sU := (t1.trans t2).trans t3
          have nqp : H p = none := (((s2.trans s5).trans (sL.trans ((s6.trans t1).trans t2))).free np)
          refine ⟨p, (F0, []) :: us ++ ts.drop 1, _, _, rfl, s5.trans (sL.trans sH), nqp, ?_, fun t m => ?_, ?_⟩
          · rw [upd_same, c1, List.cons_append, refs_app]
            rfl
          · rcases List.mem_append.mp m with m | m
            · rcases List.mem_cons.mp m with m | m
              · rw [m]
                exact sH _ _ hF0
              · exact sU _ _ (hT t m)
            · exact sH _ _ (htL t (List.mem_of_mem_drop m))
          · rw [hdrop, List.map_append, List.map_cons, hus', List.map_drop, hts]
            show [] :: ((lexG _).map (n :: ·)) ++ (lexG _).drop 1 = [] :: ((lexG _).map (n :: ·) ++ (lexG _).tail)
            rw [List.drop_one]
            rfl
    · obtain ⟨q, ts, y2, y3, rfl, s5, hq', hq, ht, hts⟩ := hP
      rw [List.length_reverse, List.length_map, Nat.sub_self, List.drop_zero] at hts
      refine ⟨_, rfl, q, _, rfl, .inl ⟨.inl (.inl hq), fun r nr => ?_⟩⟩
      have sr := same_new (o := HO.tup (refs ts)) nr
      exact k r _ ts ((s2.trans s5).trans sr) ((s2.trans s5).free nr) upd_same (ht.same sr) (hts.trans (groupsOf_lex hasc).symm)
/-! ### sets of persons: is_ascending -/
def nthS (ns : List Str) (i : Nat) : Str := ns.getD i Str.empty
def ascAt (ns : List Str) (i : Nat) : Bool := decide ((nthS ns i).cps.toList < (nthS ns (i + 1)).cps.toList)
def ascB (ns : List Str) : Bool := (List.range (ns.length - 1)).all (ascAt ns)
theorem ascB_of {ns : List Str} (h : ns.Pairwise ltS) : ascB ns = true := by
  unfold ascB
  rw [List.all_eq_true]
  intro i hi
  have hi := List.mem_range.mp hi
  have e1 : nthS ns i = ns[i]'(by omega) := by
    unfold nthS
    rw [List.getD_eq_getElem?_getD, List.getElem?_eq_getElem (by omega)]
    rfl
  have e2 : nthS ns (i + 1) = ns[i + 1]'(by omega) := by
    unfold nthS
    rw [List.getD_eq_getElem?_getD, List.getElem?_eq_getElem (by omega)]
    rfl
  unfold ascAt
  rw [e1, e2]
  exact decide_eq_true (List.pairwise_iff_getElem.mp h i (i + 1) (by omega) (by omega) (by omega))
theorem str_get {ns : List Str} {i : Nat} (h : i < ns.length) : atI (ns.map V.str) (i : Int) = some (.str (nthS ns i)) := by
  refine atI_nat ?_
  rw [List.getElem?_map, List.getElem?_eq_getElem h]
  unfold nthS
  rw [List.getD_eq_getElem?_getD, List.getElem?_eq_getElem h]
  rfl
def spAscending (K : PySem.W.Frag) : Sp := fun vs H Q _ => ∃ (a : Addr) (ns : List Str), vs = [.ref a] ∧ SqT K H a (ns.map V.str) ∧ ns.length ≤ 100 ∧ ∀ H', Same H H' → Q (.bl (ascB ns)) H'
theorem ok_ascending {a : Addr} {fd : FuncData} (T : Txt mg) (D : Df K mg "is_ascending" s_is_ascending p_is_ascending a fd) : FnOk P w K mg base CX0 1 a fd p_is_ascending (spAscending K) := by
  refine D.F.ok c_is_ascending (fun vs H Q E h => ?_) (fun cdv A outer s H vs Q E hr h => ?_)
  · obtain ⟨a, ns, rfl, _⟩ := h
    rfl
  · obtain ⟨a, ns, rfl, hS, hl, k⟩ := h
    have nd := c_is_ascending.nd
    refine ⟨_, pss_one (ps_ret (pe_callB (cr_all rfl) (by rfl) T.b_all boot_all (pa_cons (pe_lc (own := [("at", 1)]) (g := gName 1) (tt := tYes)
        (te := tOp (fun x y H Q => ∃ i j : Str, x = .str i ∧ y = .str j ∧ Q (.bl (decide (i.cps.toList < j.cps.toList))) H) (tOp (rIxT K) (tVar 0) (tVar 1)) (tOp (rIxT K) (tVar 0) (tOp (rI0 fun i j => .int (i + j)) (tVar 1) (tC (.int 1))))) rfl nd
        (pi_range1 (by rfl) T.b_range (pa_cons (pe_op op_sub (pe_callB call_lenQ (by rfl) T.b_len PySem.boot_len (pa_cons (pv 0) pa_nil)) pe_int) pa_nil))
        (blkOk_by (own := [("at", 1)]) (N := n_is_ascending) (sc := defScope s_is_ascending) (by decide +kernel)) (fun _ _ _ _ _ => pg_name (i := 1) nd rfl (Or.inl rfl)) (fun _ _ _ _ _ => pts_nil)
        (fun _ _ _ _ _ => pe_cmpR op_lt_str (pe_ix ix_tup (pv 0) (pv 1) (fun _ _ => rfl)) (pe_ix ix_tup (pv 0) (pe_op op_add (pv 1) pe_int) (fun _ _ => rfl)) (nomark _))) pa_nil))), ?_⟩
    refine ⟨_, rfl, a, _, rfl, .inr hS, _, _, rfl, rfl, _, rfl, by rw [List.length_map]; omega, by rw [List.length_map]; omega, fun Ad nA => ?_⟩
    have hn : (((ns.map V.str).length : Int) - 1).toNat = ns.length - 1 := by
      rw [List.length_map]
      omega
    rw [hn]
    refine lc_it walk_range (fun i H2 => H2 = upd H Ad (.lst (((List.range i).map (ascAt ns)).map V.bl))) rfl (fun _ _ _ _ => trivial) (fun i x H1 H2 hi hP hY => ?_) (fun H1 hP => ?_)
    · obtain ⟨rfl, ex⟩ := hY
      subst hP
      have s1 := same_new (o := HO.lst (((List.range i).map (ascAt ns)).map V.bl)) nA
      obtain rfl : x = V.int (i : Int) := ex.trans (congrArg V.int (Int.zero_add _))
      refine ⟨rfl, _, rfl, _, rfl, a, _, _, _, rfl, rfl, SqT.same hS s1, str_get (by omega), _, rfl, _, rfl, _, _, rfl, rfl, a, _, _, _, rfl, rfl, SqT.same hS s1, str_get (i := i + 1) (by omega), _, _, rfl, rfl, _, upd_same, ?_, ?_⟩
      · rw [List.length_map, List.length_map, List.length_range]
        exact small1000 (by omega)
      · rw [upd_upd, List.range_succ, List.map_append, List.map_append]
        rfl
    · subst hP
      refine ⟨Ad, _, rfl, .inl (.inl upd_same), ?_⟩
      have e : ((List.range (ns.length - 1)).map (ascAt ns)).all id = ascB ns := by
        rw [List.all_map]
        rfl
      rw [e]
      exact k _ (same_new nA)
/-! ### is_whole, is_integer, is_name -/
theorem ok_whole {a : Addr} {fd : FuncData} (T : Txt mg) (D : Df K mg "is_whole" s_is_whole p_is_whole a fd) : FnOk P w K mg base CX0 1 a fd p_is_whole (spTells wholeV) := by
  refine D.F.ok c_is_whole (fun vs H Q E h => ?_) (fun cdv A outer s H vs Q E hr h => ?_)
  · obtain ⟨v, rfl, _⟩ := h
    rfl
  · obtain ⟨v, rfl, g, q⟩ := h
    obtain ⟨⟨t1, y1, e1⟩, ⟨t2, y2, e2⟩, _⟩ := g.kit (K := K)
    refine ⟨_, pss_one (ps_ret (pe_and (pe_callB call_isi (by rfl) T.b_isinstance boot_isinstance (pa_cons (pv 0) (pa_cons (pe_bltn (v := .ty "int") (by rfl) T.b_int boot_int rfl) pa_nil)))
      (pe_one (pe_not (pe_callB call_isi (by rfl) T.b_isinstance boot_isinstance (pa_cons (pv 0) (pa_cons (pe_bltn (v := .ty "bool") (by rfl) T.b_bool boot_bool rfl) pa_nil))))))), ?_⟩
    refine ⟨v, rfl, v, .ty "int", t1, _, isInt v, rfl, .ty "int", y1, e1, isInt v, rfl, ite2 (fun h1 => ?_) (fun h1 => ?_)⟩
    · refine ⟨v, rfl, v, .ty "bool", t2, _, isBool v, rfl, .ty "bool", y2, e2, isBool v, rfl, ?_⟩
      have e : (!isBool v) = wholeV v := by
        cases v <;> first | rfl | exact absurd (show false = true from h1) Bool.false_ne_true
      rw [e]
      exact q H (.refl _)
    · have e : false = wholeV v := by
        cases v <;> first | rfl | exact absurd rfl h1
      rw [e]
      exact q H (.refl _)
theorem ok_integer {a a1 : Addr} {fd fd1 : FuncData} (T : Txt mg) (D : Df K mg "is_integer" s_is_integer p_is_integer a fd) (D1 : Df K mg "is_whole" s_is_whole p_is_whole a1 fd1) :
    FnOk P w K mg base CX0 2 a fd p_is_integer (spTells integerV) := by
  have G1 : FnOk P w K mg base CX0 1 a1 fd1 p_is_whole (spTells wholeV) := ok_whole T D1
  refine D.F.ok c_is_integer (fun vs H Q E h => ?_) (fun cdv A outer s H vs Q E hr h => ?_)
  · obtain ⟨v, rfl, _⟩ := h
    rfl
  · obtain ⟨v, rfl, g, q⟩ := h
    obtain ⟨t, hB⟩ := T.k__INTEGER_BOUND
    refine ⟨_, pss_one (ps_ret (pe_and (dcall D1 G1 hr (pa_cons (pv 0) pa_nil)) (pe_one (pe_chain op_lt op_lt (pe_un un_neg (pe_glob (v := .int _) (by rfl) hB ⟨_, rfl⟩)) (pv 0) (pe_glob (v := .int _) (by rfl) hB ⟨_, rfl⟩))))), ?_⟩
    refine ⟨v, rfl, v, rfl, g, fun H1 s1 => ⟨wholeV v, rfl, ite2 (fun h1 => ?_) (fun h1 => ?_)⟩⟩
    · cases v with
      | int i =>
        have q1 := q H1 s1
        have e : integerV (.int i) = (decide (-1000000000000000000000000000000000000000000000000000000000000 < i) && decide (i < 1000000000000000000000000000000000000000000000000000000000000)) := rfl
        rw [e] at q1
        refine ⟨_, rfl, _, rfl, _, _, rfl, rfl, _, rfl, ite2 (fun h2 => ?_) (fun h2 => ?_)⟩
        · rw [h2, Bool.true_and] at q1
          exact ⟨_, _, rfl, rfl, q1⟩
        · rw [Bool.eq_false_iff.mpr h2, Bool.false_and] at q1
          exact q1
      | _ => exact absurd (show false = true from h1) Bool.false_ne_true
    · have e : false = integerV v := by
        cases v <;> first | rfl | exact absurd rfl h1
      rw [e]
      exact q H1 s1
theorem ok_name {a : Addr} {fd : FuncData} (T : Txt mg) (D : Df K mg "is_name" s_is_name p_is_name a fd) : FnOk P w K mg base CX0 1 a fd p_is_name (spTells nameV) := by
  refine D.F.ok c_is_name (fun vs H Q E h => ?_) (fun cdv A outer s H vs Q E hr h => ?_)
  · obtain ⟨v, rfl, _⟩ := h
    rfl
  · obtain ⟨v, rfl, g, q⟩ := h
    obtain ⟨_, _, ⟨t1, y1, e1⟩⟩ := g.kit (K := K)
    obtain ⟨t, hL⟩ := T.k__LETTERS
    obtain ⟨u, hM⟩ := T.k_MAX_LETTERS
    have nd := c_is_name.nd
    refine ⟨_, pss_cons (ps_if (PW.pt (pw_or (pt_not (pt_val (pe_callB call_isi (by rfl) T.b_isinstance boot_isinstance (pa_cons (pv 0) (pa_cons (pe_bltn (v := .ty "str") (by rfl) T.b_str boot_str rfl) pa_nil)))))
        (pw_or1 (pt_not (pt_chain op_le op_le pe_int (pe_callB call_len_str (by rfl) T.b_len PySem.boot_len (pa_cons (pv 0) pa_nil)) (pe_glob (v := .int _) (by rfl) hM ⟨_, rfl⟩)))))) (pss_one (ps_ret pe_bl)) pss_nil)
      (pss_one (ps_ret (pe_callB (cr_all rfl) (by rfl) T.b_all boot_all (pa_cons (pe_lc (own := [("letter", 1)]) (g := gName 1) (tt := tYes) rfl nd (pi_str (pv 0)) (blkOk_by (own := [("letter", 1)]) (N := n_is_name) (sc := defScope s_is_name) (by decide +kernel))
        (fun _ _ _ _ _ => pg_name (i := 1) nd rfl (Or.inl rfl)) (fun _ _ _ _ _ => pts_nil) (fun _ _ _ _ _ => pe_cmpR op_in_sign (pv 1) (pe_glob (v := .str _) (by rfl) hL ⟨_, rfl⟩) (by rfl))) pa_nil)))), ?_⟩
    refine ⟨v, rfl, v, .ty "str", t1, _, isStr v, rfl, .ty "str", y1, e1, isStr v, rfl, ite2 (fun h1 => ?_) (fun h1 => ?_)⟩
    · have e : false = nameV v := by
        cases v <;> first | rfl | exact absurd (show false = true from h1) Bool.false_ne_true
      refine iteT ?_
      show Q (.bl false) H
      rw [e]
      exact q H (.refl _)
    · cases g with
      | str z hz hk =>
        have hz2 : z.length ≤ sizeLine := Nat.le_trans hz (by decide)
        have en : nameV (.str z) = (decide (1 ≤ z.length) && decide (z.length ≤ 8) && z.cps.toList.all (fun c => decide (c ∈ letters))) := rfl
        have no : nameV (.str z) = false → Q (.bl false) H := fun e => by
          rw [← e]
          exact q H (.refl _)
        refine ⟨_, rfl, z, rfl, hz2, _, _, rfl, rfl, _, rfl, ite2 (fun h1 => ?_) (fun h1 => ?_)⟩
        · refine ⟨_, _, rfl, rfl, _, rfl, ite2 (fun h2 => ?_) (fun h2 => ?_)⟩
          · refine no ?_
            have h3 : ¬ z.length ≤ 8 := fun z8 => by
              rw [decide_eq_true (show (z.length : Int) ≤ 8 by omega)] at h2
              exact Bool.false_ne_true h2
            rw [en, decide_eq_false h3, Bool.and_false, Bool.false_and]
          · have h3 : z.length ≤ 8 := by
              by_cases z8 : z.length ≤ 8
              · exact z8
              · rw [decide_eq_false (show ¬ (z.length : Int) ≤ 8 by omega)] at h2
                exact absurd rfl h2
            have h0 : 1 ≤ z.length := by
              have := of_decide_eq_true h1
              omega
            refine ⟨_, rfl, z, rfl, fun Ad nA => lc_it walk_str (fun i H2 => H2 = upd H Ad (.lst (((z.cps.toList.take i).map fun c => decide (c ∈ letters)).map V.bl))) rfl (fun _ _ _ _ => trivial) (fun i x H1 H2 hi hP hY => ?_) (fun H1 hP => ?_)⟩
            · obtain ⟨rfl, c, hc, rfl⟩ := hY
              subst hP
              have hc2 : z.cps.toList[i]? = some c := by
                rw [Array.getElem?_toList]
                exact hc
              refine ⟨rfl, ?_⟩
              refine ⟨_, rfl, c, _, rfl, rfl, _, upd_same, ?_, ?_⟩
              · rw [List.length_map, List.length_map, List.length_take]
                have : min i z.cps.toList.length ≤ 8 := Nat.le_trans (Nat.min_le_right _ _) h3
                exact small1000 (by omega)
              · rw [upd_upd, List.take_add_one, hc2, List.map_append, List.map_append]
                rfl
            · subst hP
              refine ⟨Ad, _, rfl, .inl (.inl upd_same), ?_⟩
              have e : nameV (.str z) = ((z.cps.toList.take z.cps.size).map fun c => decide (c ∈ letters)).all id := by
                rw [en, decide_eq_true h0, decide_eq_true h3, take_all (by rw [cps_len]; exact Nat.le_refl _), List.all_map]
                rfl
              rw [← e]
              exact q _ (same_new nA)
        · refine ⟨_, rfl, iteT (no ?_)⟩
          have h3 : ¬ 1 ≤ z.length := fun z8 => h1 (decide_eq_true (by omega))
          rw [en, decide_eq_false h3, Bool.false_and, Bool.false_and]
      | _ => exact absurd rfl h1
/-! ### is_people, check_people -/
def spPeople (K : PySem.W.Frag) : Sp := fun vs H Q _ => ∃ (a : Addr) (ns : List Str), vs = [.ref a] ∧ H a = some (.tup (ns.map V.str)) ∧ Nms 5 ns ∧ ∀ H', Same H H' → Q (.bl true) H'
theorem ok_people {a aN aA : Addr} {fd fdN fdA : FuncData} (T : Txt mg) (D : Df K mg "is_people" s_is_people p_is_people a fd) (DN : Df K mg "is_name" s_is_name p_is_name aN fdN) (DA : Df K mg "is_ascending" s_is_ascending p_is_ascending aA fdA) :
    FnOk P w K mg base CX0 2 a fd p_is_people (spPeople K) := by
  have GN : FnOk P w K mg base CX0 1 aN fdN p_is_name (spTells nameV) := ok_name T DN
  have GA : FnOk P w K mg base CX0 1 aA fdA p_is_ascending (spAscending K) := ok_ascending T DA
  refine D.F.ok c_is_people (fun vs H Q E h => ?_) (fun cdv A outer s H vs Q E hr h => ?_)
  · obtain ⟨a, ns, rfl, _⟩ := h
    rfl
  · obtain ⟨a, ns, rfl, ha, hns, k⟩ := h
    have nd := c_is_people.nd
    obtain ⟨u, hM⟩ := T.k_MAX_PEOPLE
    refine ⟨_, pss_cons (ps_if (PW.pt (pw_or (pt_not (pt_val (pe_callB call_isi (by rfl) T.b_isinstance boot_isinstance (pa_cons (pv 0) (pa_cons (pe_bltn (v := .ty "tuple") (by rfl) T.b_tuple boot_tuple rfl) pa_nil)))))
        (pw_or1 (pt_not (pt_chain op_le op_le pe_int (pe_callB call_lenQ (by rfl) T.b_len PySem.boot_len (pa_cons (pv 0) pa_nil)) (pe_glob (v := .int _) (by rfl) hM ⟨_, rfl⟩)))))) (pss_one (ps_ret pe_bl)) pss_nil)
      (pss_one (ps_ret (pe_and (pe_callB (cr_all rfl) (by rfl) T.b_all boot_all (pa_cons (pe_lc (own := [("person", 1)]) (g := gName 1) (tt := tYes) (te := tCall (spTells nameV) [] E0 (tCons (tVar 1) tNil)) rfl nd (pi_tup (pv 0)) (blkOk_by (own := [("person", 1)]) (N := n_is_people) (sc := defScope s_is_people) (by decide +kernel))
        (fun _ _ _ _ _ => pg_name (i := 1) nd rfl (Or.inl rfl)) (fun _ _ _ _ _ => pts_nil) (fun _ _ _ _ _ => dcall DN GN hr (pa_cons (pv 1) pa_nil))) pa_nil)) (pe_one (dcall DA GA hr (pa_cons (pv 0) pa_nil)))))), ?_⟩
    refine ⟨.ref a, rfl, .ref a, .ty "tuple", _, _, true, rfl, .ty "tuple", .base (.tup ha), kt (r := true) (by decide +kernel) rfl, true, rfl, ?_⟩
    refine ite2 (fun h1 => absurd h1 (by decide)) (fun _ => ?_)
    have lV : ((ns.map V.str).length : Int) = (ns.length : Int) := by rw [List.length_map]
    have p0 := hns.pos
    have p5 := hns.most
    refine ⟨_, rfl, a, _, rfl, .inr (.inl (.inl ha)), _, _, rfl, rfl, _, rfl, ite2 (fun h1 => ?_) (fun h1 => ?_)⟩
    · refine ⟨_, _, rfl, rfl, _, rfl, ite2 (fun h2 => ?_) (fun h2 => ?_)⟩
      · rw [decide_eq_true (show ((ns.map V.str).length : Int) ≤ 5 by omega)] at h2
        exact absurd h2 (by decide)
      · refine ⟨_, rfl, a, rfl, ⟨_, .inl (.inl ha)⟩, fun Ad nA => ?_⟩
        refine lc_it (walk_tup (xs := ns.map V.str)) (fun i H2 => Same H H2 ∧ H2 Ad = some (.lst ((List.replicate i true).map V.bl)))
          ⟨same_new nA, upd_same⟩ (fun i H2 hi hP => ?_) (fun i x H1 H2 hi hP hY => ?_) (fun H1 hP => ?_)
        · exact .inl (.inl (hP.1 _ _ ha))
        · obtain ⟨rfl, hx⟩ := hY
          obtain ⟨n, hn, rfl⟩ := str_at hx
          obtain ⟨s1, hA⟩ := hP
          have nm := hns.nm n (List.mem_of_getElem? hn)
          have o8 := name_ok nm
          rw [List.length_map] at hi
          refine ⟨rfl, _, rfl, _, rfl, o8.gv (by decide), fun H3 s3 => ⟨_, s3 _ _ hA, ?_, ?_, ?_⟩⟩
          · rw [List.length_map, List.length_replicate]
            exact small1000 (by omega)
          · intro b o e
            rw [upd_ne (ne_of_none e nA)]
            exact s3 _ _ (s1 _ _ e)
          · rw [nm, upd_same, List.replicate_succ', List.map_append]
            rfl
        · obtain ⟨s1, hA⟩ := hP
          refine ⟨Ad, _, rfl, .inl (.inl hA), ?_⟩
          have e : (List.replicate (ns.map V.str).length true).all id = true := by
            rw [List.all_eq_true]
            intro b m
            exact (List.mem_replicate.mp m).2
          rw [e]
          refine ⟨true, rfl, ?_⟩
          refine ite2 (fun _ => ?_) (fun h => absurd rfl h)
          refine ⟨_, rfl, a, ns, rfl, .inl (.inl (s1 _ _ ha)), by omega, fun H4 s4 => ?_⟩
          rw [ascB_of hns.asc]
          exact k H4 (s1.trans s4)
    · exact absurd (decide_eq_true (show (1 : Int) ≤ ((ns.map V.str).length : Int) by omega)) h1
/-! ### is_worth, are_worths -/
def worthV : V → Bool
  | .int i => decide (-1000000000 ≤ i) && decide (i ≤ 1000000000)
  | _ => false
theorem ok_worth {a aI aW : Addr} {fd fdI fdW : FuncData} (T : Txt mg) (D : Df K mg "is_worth" s_is_worth p_is_worth a fd) (DI : Df K mg "is_integer" s_is_integer p_is_integer aI fdI) (DW : Df K mg "is_whole" s_is_whole p_is_whole aW fdW) :
    FnOk P w K mg base CX0 3 a fd p_is_worth (spTells worthV) := by
  have GI : FnOk P w K mg base CX0 2 aI fdI p_is_integer (spTells integerV) := ok_integer T DI DW
  refine D.F.ok c_is_worth (fun vs H Q E h => ?_) (fun cdv A outer s H vs Q E hr h => ?_)
  · obtain ⟨v, rfl, _⟩ := h
    rfl
  · obtain ⟨v, rfl, g, q⟩ := h
    obtain ⟨t, hB⟩ := T.k_MAX_WORTH
    refine ⟨_, pss_one (ps_ret (pe_and (dcall DI GI hr (pa_cons (pv 0) pa_nil)) (pe_one (pe_chain op_le op_le (pe_un un_neg (pe_glob (v := .int _) (by rfl) hB ⟨_, rfl⟩)) (pv 0) (pe_glob (v := .int _) (by rfl) hB ⟨_, rfl⟩))))), ?_⟩
    refine ⟨v, rfl, v, rfl, g, fun H1 s1 => ⟨integerV v, rfl, ite2 (fun h1 => ?_) (fun h1 => ?_)⟩⟩
    · cases v with
      | int i =>
        have q1 := q H1 s1
        have e : worthV (.int i) = (decide (-1000000000 ≤ i) && decide (i ≤ 1000000000)) := rfl
        rw [e] at q1
        refine ⟨_, rfl, _, rfl, _, _, rfl, rfl, _, rfl, ite2 (fun h2 => ?_) (fun h2 => ?_)⟩
        · rw [h2, Bool.true_and] at q1
          exact ⟨_, _, rfl, rfl, q1⟩
        · rw [Bool.eq_false_iff.mpr h2, Bool.false_and] at q1
          exact q1
      | _ => exact absurd (show false = true from h1) Bool.false_ne_true
    · have e : false = worthV v := by
        cases v with
        | int i =>
          have e1 : integerV (.int i) = (decide (-1000000000000000000000000000000000000000000000000000000000000 < i) && decide (i < 1000000000000000000000000000000000000000000000000000000000000)) := rfl
          have h2 : integerV (.int i) = false := Bool.eq_false_iff.mpr h1
          rw [e1, Bool.and_eq_false_iff] at h2
          show false = (decide (-1000000000 ≤ i) && decide (i ≤ 1000000000))
          rcases h2 with h2 | h2
          · have := of_decide_eq_false h2
            rw [decide_eq_false (show ¬ -1000000000 ≤ i by omega), Bool.false_and]
          · have := of_decide_eq_false h2
            rw [decide_eq_false (show ¬ i ≤ 1000000000 by omega), Bool.and_false]
        | _ => rfl
      have q1 := q H1 s1
      rw [← e] at q1
      exact q1
def someOf (ns : List Str) : List Grp := (groupsOf ns).drop 1
theorem someOf_filter {ns : List Str} (nd : ns.Nodup) : (groupsOf ns).filter (fun g => !g.isEmpty) = someOf ns := by
  obtain ⟨r, e⟩ := groups_head ns
  have n := groups_nodup nd
  unfold someOf
  rw [e] at n ⊢
  have h0 : ([] : Grp) ∉ r := (List.nodup_cons.mp n).1
  rw [List.filter_cons_of_neg (by simp)]
  refine List.filter_eq_self.mpr fun g m => ?_
  cases g with
  | nil => exact absurd m h0
  | cons x t => rfl
theorem someOf_len {ns : List Str} (h : ns.length ≤ 5) : (someOf ns).length ≤ 31 := by
  have := groups_small h
  unfold someOf
  rw [List.length_drop]
  omega
theorem dT_gone {H H' : Hp} {d : Addr} {kvs : List (List Key × V)} (e : H d = some (.dT kvs)) (s : Same H H') : H' d = some (.dT kvs) := s _ _ e
def spWorths (K : PySem.W.Frag) : Sp := fun vs H Q _ => ∃ (a d : Addr) (ns : List Str) (W : Grp → Int), vs = [.ref a, .ref d] ∧ H a = some (.tup (ns.map V.str)) ∧ Nms 5 ns ∧ H d = some (.dT (wDict (someOf ns) W)) ∧ (∀ g ∈ someOf ns, -1000000000 ≤ W g ∧ W g ≤ 1000000000) ∧
  ∀ H', Same H H' → Q (.bl true) H'
theorem ok_worths {a0 aI aW aH aG : Addr} {fd fdI fdW fdH fdG : FuncData} (T : Txt mg) (D : Df K mg "are_worths" s_are_worths p_are_worths a0 fd) (DH : Df K mg "is_worth" s_is_worth p_is_worth aH fdH) (DI : Df K mg "is_integer" s_is_integer p_is_integer aI fdI) (DW : Df K mg "is_whole" s_is_whole p_is_whole aW fdW)
    (DG : Df K mg "groups_of" s_groups_of p_groups_of aG fdG) : FnOk P w K mg base CX0 4 a0 fd p_are_worths (spWorths K) := by
  have GH : FnOk P w K mg base CX0 3 aH fdH p_is_worth (spTells worthV) := ok_worth T DH DI DW
  have GG : FnOk P w K mg base CX0 1 aG fdG p_groups_of (spGroupsOf K) := ok_groups_of T DG
  refine D.F.ok c_are_worths (fun vs H Q E h => ?_) (fun cdv A outer s H vs Q E hr h => ?_)
  · obtain ⟨a, d, ns, W, rfl, _⟩ := h
    rfl
  · obtain ⟨a, d, ns, W, rfl, ha, hns, hd, hW, k⟩ := h
    have nd := c_are_worths.nd
    have hu := hu_of hr
    have hr1 : Room 1 (A.deeper (envOfC "are_worths" (defScope s_are_worths) s.heap.objs.size a0 cdv)) := hr.mono (by decide)
    refine ⟨_, pss_cons (ps_if (pt_not (pt_val (pe_callB call_isi (by rfl) T.b_isinstance boot_isinstance (pa_cons (pv 1) (pa_cons (pe_bltn (v := .ty "dict") (by rfl) T.b_dict boot_dict rfl) pa_nil))))) (pss_one (ps_ret pe_bl)) pss_nil)
      (pss_cons (ps_setLc (i := 2) (own := [("group", 3)]) (g := gName 3) (tt := tTr K (tVar 3)) (te := tVar 3) rfl nd rfl rfl (sw_true rfl rfl rfl (by decide +kernel)) (pi_tup (dcall DG GG hr1 (pa_cons (pv 0) pa_nil)))
          (blkOk_by (own := [("group", 3)]) (N := n_are_worths) (sc := defScope s_are_worths) (by decide +kernel)) (fun _ _ _ _ _ => pg_name (i := 3) nd rfl (Or.inl rfl)) (fun _ _ _ _ _ => pts_one (pt_tr (pv 3) (by intro _; rfl))) (fun _ _ _ _ _ => pv 3))
      (pss_cons (ps_if (pt_cmpR op_ne (pe_callB call_len_dT (by rfl) T.b_len PySem.boot_len (pa_cons (pv 1) pa_nil)) (pe_callB call_lenQ (by rfl) T.b_len PySem.boot_len (pa_cons (pv 2) pa_nil)) (nomark _)) (pss_one (ps_ret pe_bl)) pss_nil)
      (pss_one (ps_ret (pe_callB (cr_all rfl) (by rfl) T.b_all boot_all (pa_cons (pe_lc (own := [("group", 3)]) (g := gName 3) (tt := tYes) (te := tAndV (tDIn (tVar 3) (tVar 1)) (tCall (spTells worthV) [] E0 (tCons (tDGet (tVar 1) (tVar 3)) tNil))) rfl nd (pi_list (pv 2))
          (blkOk_by (own := [("group", 3)]) (N := n_are_worths) (sc := defScope s_are_worths) (by decide +kernel)) (fun _ _ _ _ _ => pg_name (i := 3) nd rfl (Or.inl rfl)) (fun _ _ _ _ _ => pts_nil)
          (fun _ _ _ _ _ => pe_and (pe_cmp (pc_din hu (pv 3) (pv 1))) (pe_one (dcall DH GH hr (pa_cons (pe_dget hu (pv 1) (pv 3) (fun _ _ => rfl)) pa_nil))))) pa_nil)))))), ?_⟩
    refine ⟨.ref d, rfl, .ref d, .ty "dict", _, _, true, rfl, .ty "dict", .base (.dT hd), kt (r := true) (by decide +kernel) rfl, true, rfl, ?_⟩
    refine ite2 (fun h1 => absurd h1 (by decide)) (fun _ => ?_)
    have p5 := hns.most
    have nnd := asc_nodup hns.asc
    have glen := someOf_len p5
    refine ⟨_, rfl, a, ns, rfl, .inl (.inl ha), by omega, hns.asc, fun q H1 ts s1 nq hq ht hts => ⟨q, rfl, ⟨_, .inl (.inl hq)⟩, fun Ad nA => ?_⟩⟩
    refine lc_it (walk_tup (xs := refs ts)) (fun j H2 => ∃ us : List (Addr × Grp), H2 Ad = some (.lst (refs us)) ∧ us.map (·.2) = ((groupsOf ns).take j).filter (fun g => !g.isEmpty) ∧ TupsAt H2 us ∧ Same H1 H2)
      ⟨[], upd_same, rfl, .nil, same_new nA⟩ (fun j H2 hj hP => ?_) (fun j x H2 H3 hj hP hY => ?_) (fun H2 hP => ?_)
    · obtain ⟨_, _, _, _, s2⟩ := hP
      exact .inl (.inl (s2 _ _ hq))
    · obtain ⟨us, hA, hus, hT, s2⟩ := hP
      obtain ⟨rfl, hx⟩ := hY
      obtain ⟨t, htj, rfl, hgj⟩ := refs_at' hx hts
      have hg := s2 _ _ (ht.get htj)
      refine ⟨rfl, _, rfl, !(t.2.map V.str).isEmpty, .inr (.inl ⟨_, .inl (.inl hg), rfl⟩), ?_⟩
      have em : (t.2.map V.str).isEmpty = t.2.isEmpty := by
        cases t.2 <;> rfl
      rw [em]
      have ul : us.length ≤ (groupsOf ns).length := by
        have e := congrArg List.length hus
        rw [List.length_map] at e
        rw [e]
        refine Nat.le_trans (List.length_filter_le _ _) ?_
        rw [List.length_take]
        exact Nat.min_le_right _ _
      have g32 := groups_small p5
      refine ite2 (fun h => ?_) (fun h => ?_)
      · refine ⟨_, rfl, _, hA, small1000 (by rw [List.length_map]; omega), us ++ [t], ?_, ?_, ?_, ?_⟩
        · rw [upd_same, refs_app]
          rfl
        · rw [List.map_append, hus, List.take_add_one, hgj]
          show _ = ((List.take j (groupsOf ns)) ++ [t.2]).filter _
          rw [List.filter_append, List.filter_cons_of_pos (p := fun g : Grp => !g.isEmpty) h]
          rfl
        · refine TupsAt.upd (fun u m => ?_) (fun xs e => ?_)
          · rcases List.mem_append.mp m with m | m
            · exact hT u m
            · rw [List.mem_singleton.mp m]
              exact hg
          · rw [hA] at e
            cases e
        · intro b o e
          rw [upd_ne (ne_of_none e nA)]
          exact s2 _ _ e
      · refine ⟨us, hA, ?_, hT, s2⟩
        rw [hus, List.take_add_one, hgj]
        show _ = ((List.take j (groupsOf ns)) ++ [t.2]).filter _
        rw [List.filter_append, List.filter_cons_of_neg (p := fun g : Grp => !g.isEmpty) h]
        exact (List.append_nil _).symm
    · obtain ⟨us, hA, hus, hT, s2⟩ := hP
      have tl : (refs ts).length = (groupsOf ns).length := by
        rw [← hts, List.length_map, List.length_map]
      rw [tl, List.take_length, someOf_filter nnd] at hus
      have hd2 := s2 _ _ (s1 _ _ hd)
      refine ⟨_, rfl, d, _, rfl, hd2, _, rfl, Ad, _, rfl, .inl (.inl (.inl hA)), rfl, _, rfl, ?_⟩
      have ul : (refs us).length = (someOf ns).length := by
        rw [List.length_map, ← hus, List.length_map]
      refine ite2 (fun h => ?_) (fun _ => ?_)
      · rw [wDict_len, ul] at h
        simp at h
      · refine ⟨_, rfl, Ad, rfl, ⟨_, .inl (.inl hA)⟩, fun Bd nB => ?_⟩
        refine lc_it (walk_list (xs := refs us)) (fun j H3 => Same H2 H3 ∧ H3 Bd = some (.lst ((List.replicate j true).map V.bl))) ⟨same_new nB, upd_same⟩ (fun j H3 hj hP => ?_) (fun j x H3 H4 hj hP hY => ?_) (fun H3 hP => ?_)
        · exact .inl (.inl (hP.1 _ _ hA))
        · obtain ⟨s3, hB⟩ := hP
          obtain ⟨rfl, hx⟩ := hY
          obtain ⟨t, htj, rfl, hgj⟩ := refs_at' hx hus
          have hg := s3 _ _ (hT.get htj)
          have hgm : t.2 ∈ someOf ns := List.mem_of_getElem? hgj
          have hd3 := s3 _ _ hd2
          have get : DGet H4 d (.ref t.1) (some (.int (W t.2))) := .inr ⟨_, kG t.2, t.1, .inl hd3, rfl, (by rw [kG_V]; exact hg), (wDict_in hgm).symm⟩
          have hw := hW t.2 hgm
          refine ⟨rfl, _, rfl, _, rfl, d, _, rfl, get, true, rfl, ?_⟩
          refine ite2 (fun _ => ?_) (fun h => absurd rfl h)
          refine ⟨_, rfl, _, rfl, d, _, rfl, get, _, rfl, .int _, fun H5 s5 => ⟨_, s5 _ _ hB, ?_, ?_, ?_⟩⟩
          · rw [List.length_map, List.length_replicate]
            exact small1000 (by omega)
          · intro b o e
            rw [upd_ne (ne_of_none e nB)]
            exact s5 _ _ (s3 _ _ e)
          · have e : worthV (.int (W t.2)) = true := by
              show (decide (-1000000000 ≤ W t.2) && decide (W t.2 ≤ 1000000000)) = true
              rw [decide_eq_true hw.1, decide_eq_true hw.2]
              rfl
            rw [e, upd_same, List.replicate_succ', List.map_append]
            rfl
        · obtain ⟨s3, hB⟩ := hP
          refine ⟨Bd, _, rfl, .inl (.inl hB), ?_⟩
          have e : (List.replicate (refs us).length true).all id = true := by
            rw [List.all_eq_true]
            intro b m
            exact (List.mem_replicate.mp m).2
          rw [e]
          exact k _ (s1.trans (s2.trans s3))
/-! ### class Game: making one -/
def spCheckPeople : Sp := fun vs H Q _ => ∃ (a : Addr) (ns : List Str), vs = [.ref a] ∧ H a = some (.tup (ns.map V.str)) ∧ Nms 5 ns ∧ ∀ H', Same H H' → Q .non H'
theorem ok_check_people {a0 aP aN aA : Addr} {fd fdP fdN fdA : FuncData} (T : Txt mg) (D : Df K mg "check_people" s_check_people p_check_people a0 fd) (DP : Df K mg "is_people" s_is_people p_is_people aP fdP) (DN : Df K mg "is_name" s_is_name p_is_name aN fdN) (DA : Df K mg "is_ascending" s_is_ascending p_is_ascending aA fdA) :
    FnOk P w K mg base CX0 3 a0 fd p_check_people spCheckPeople := by
  have GP : FnOk P w K mg base CX0 2 aP fdP p_is_people (spPeople K) := ok_people T DP DN DA
  refine D.F.ok c_check_people (fun vs H Q E h => ?_) (fun cdv A outer s H vs Q E hr h => ?_)
  · obtain ⟨a, ns, rfl, _⟩ := h
    rfl
  · obtain ⟨a, ns, rfl, ha, hns, k⟩ := h
    refine ⟨_, pss_one (ps_if (pt_not (pt_val (dcall DP GP hr (pa_cons (pv 0) pa_nil)))) (pss_one ps_never) pss_nil), ?_⟩
    exact ⟨_, rfl, a, ns, rfl, ha, hns, fun H1 s1 => ⟨true, rfl, ite2 (fun h => absurd h (by decide)) (fun _ => k H1 s1)⟩⟩
/-- the fields of a game -/
def gflds (tn gq wq rq : Addr) (gv : V) : List (Str × V) := [("_people", .ref tn), ("_groups", .ref gq), ("_worths", .ref wq), ("_row", .ref rq), ("_gaps", gv)]
theorem gf_put1 (tn : Addr) : putF "_people" (.ref tn) [] = [(("_people" : Str), V.ref tn)] := rfl
theorem gf_put2 (tn gq : Addr) : putF "_groups" (.ref gq) [(("_people" : Str), V.ref tn)] = [(("_people" : Str), V.ref tn), ("_groups", .ref gq)] := by
  show (if ("_people" : Str) = "_groups" then _ else _) = _
  rw [if_neg (by decide +kernel)]
  rfl
theorem gf_put3 (tn gq wq : Addr) : putF "_worths" (.ref wq) [(("_people" : Str), V.ref tn), ("_groups", .ref gq)] = [(("_people" : Str), V.ref tn), ("_groups", .ref gq), ("_worths", .ref wq)] := by
  show (if ("_people" : Str) = "_worths" then _ else (("_people" : Str), V.ref tn) :: (if ("_groups" : Str) = "_worths" then _ else _)) = _
  rw [if_neg (by decide +kernel), if_neg (by decide +kernel)]
  rfl
theorem gf_put4 (tn gq wq rq : Addr) : putF "_row" (.ref rq) [(("_people" : Str), V.ref tn), ("_groups", .ref gq), ("_worths", .ref wq)] = [(("_people" : Str), V.ref tn), ("_groups", .ref gq), ("_worths", .ref wq), ("_row", .ref rq)] := by
  show (if ("_people" : Str) = "_row" then _ else (("_people" : Str), V.ref tn) :: (if ("_groups" : Str) = "_row" then _ else (("_groups" : Str), V.ref gq) :: (if ("_worths" : Str) = "_row" then _ else _))) = _
  rw [if_neg (by decide +kernel), if_neg (by decide +kernel), if_neg (by decide +kernel)]
  rfl
theorem gf_put5 (tn gq wq rq : Addr) (gv : V) : putF "_gaps" gv [(("_people" : Str), V.ref tn), ("_groups", .ref gq), ("_worths", .ref wq), ("_row", .ref rq)] = gflds tn gq wq rq gv := by
  show (if ("_people" : Str) = "_gaps" then _ else (("_people" : Str), V.ref tn) :: (if ("_groups" : Str) = "_gaps" then _ else (("_groups" : Str), V.ref gq) :: (if ("_worths" : Str) = "_gaps" then _ else (("_worths" : Str), V.ref wq) :: (if ("_row" : Str) = "_gaps" then _ else _)))) = _
  rw [if_neg (by decide +kernel), if_neg (by decide +kernel), if_neg (by decide +kernel), if_neg (by decide +kernel)]
  rfl
theorem gf_people (tn gq wq rq : Addr) (gv : V) : (gflds tn gq wq rq gv).lookup ("_people" : Str) = some (V.ref tn) := by
  rw [← gf_put5, lookup_putF, if_neg (by decide +kernel), ← gf_put4, lookup_putF, if_neg (by decide +kernel), ← gf_put3, lookup_putF, if_neg (by decide +kernel), ← gf_put2, lookup_putF, if_neg (by decide +kernel), ← gf_put1, lookup_putF, if_pos rfl]
theorem gf_groups (tn gq wq rq : Addr) (gv : V) : (gflds tn gq wq rq gv).lookup ("_groups" : Str) = some (V.ref gq) := by
  rw [← gf_put5, lookup_putF, if_neg (by decide +kernel), ← gf_put4, lookup_putF, if_neg (by decide +kernel), ← gf_put3, lookup_putF, if_neg (by decide +kernel), ← gf_put2, lookup_putF, if_pos rfl]
theorem gf_worths (tn gq wq rq : Addr) (gv : V) : (gflds tn gq wq rq gv).lookup ("_worths" : Str) = some (V.ref wq) := by
  rw [← gf_put5, lookup_putF, if_neg (by decide +kernel), ← gf_put4, lookup_putF, if_neg (by decide +kernel), ← gf_put3, lookup_putF, if_pos rfl]
theorem gf_row (tn gq wq rq : Addr) (gv : V) : (gflds tn gq wq rq gv).lookup ("_row" : Str) = some (V.ref rq) := by
  rw [← gf_put5, lookup_putF, if_neg (by decide +kernel), ← gf_put4, lookup_putF, if_pos rfl]
theorem gf_gaps (tn gq wq rq : Addr) (gv : V) : (gflds tn gq wq rq gv).lookup ("_gaps" : Str) = some gv := by
  rw [← gf_put5, lookup_putF, if_pos rfl]
theorem gf_put6 (tn gq wq rq : Addr) (gv v : V) : putF "_gaps" v (gflds tn gq wq rq gv) = gflds tn gq wq rq v := by
  show (if ("_people" : Str) = "_gaps" then _ else (("_people" : Str), V.ref tn) :: (if ("_groups" : Str) = "_gaps" then _ else (("_groups" : Str), V.ref gq) :: (if ("_worths" : Str) = "_gaps" then _ else (("_worths" : Str), V.ref wq) :: (if ("_row" : Str) = "_gaps" then _ else (("_row" : Str), V.ref rq) :: (if ("_gaps" : Str) = "_gaps" then _ else _))))) = _
  rw [if_neg (by decide +kernel), if_neg (by decide +kernel), if_neg (by decide +kernel), if_neg (by decide +kernel), if_pos rfl]
  rfl
/-- the kept gaps: none yet, or right ones -/
def GapV (H : Hp) (ns : List Str) (W : Grp → Int) (gv : V) : Prop := gv = .non ∨ ∃ q : Addr, gv = .ref q ∧ H q = some (.tup (((trisOf ns).map (gapOf W)).map V.int))
theorem GapV.keep {H H' : Hp} {ns : List Str} {W : Grp → Int} {gv : V} (h : GapV H ns W gv) (k : ∀ b xs, H b = some (.tup xs) → H' b = some (.tup xs)) : GapV H' ns W gv := by
  rcases h with rfl | ⟨q, rfl, e⟩
  · exact .inl rfl
  · exact .inr ⟨q, rfl, k _ _ e⟩
/-- a game stands at p -/
structure GameAt (C : Addr) (H : Hp) (p : Addr) (ns : List Str) (W : Grp → Int) : Prop where
  ex : ∃ (dx tn gq wq : Addr) (ts : List (Addr × Grp)) (rq : Addr) (gv : V), H p = some (.ins C dx (gflds tn gq wq rq gv)) ∧ H tn = some (.tup (ns.map V.str)) ∧ H gq = some (.tup (refs ts)) ∧ TupsAt H ts ∧ ts.map (·.2) = groupsOf ns ∧ H wq = some (.dT (wDict (groupsOf ns) W)) ∧ H rq = some (.tup (((groupsOf ns).map W).map V.int)) ∧ GapV H ns W gv
def spInit (C : Addr) : Sp := fun vs H Q _ => ∃ (p dx tn d : Addr) (ns : List Str) (W : Grp → Int), vs = [.ref p, .ref tn, .ref d] ∧ H p = some (.ins C dx []) ∧ H tn = some (.tup (ns.map V.str)) ∧ Nms 5 ns ∧ H d = some (.dT (wDict (someOf ns) W)) ∧ (∀ g ∈ someOf ns, -1000000000 ≤ W g ∧ W g ≤ 1000000000) ∧
  ∀ H', (∀ b o, b ≠ p → H b = some o → H' b = some o) → GameAt C H' p ns (setW W [] 0) → Q .non H'
theorem ok_init {C a0 aC aP aN aA aT aH aI aW aG : Addr} {fd fdC fdP fdN fdA fdT fdH fdI fdW fdG : FuncData} (T : Txt mg) (DC : Cl_Game K mg C) (D : Dm K C "__init__" "Game.__init__" s_Game___init__ p_Game___init__ a0 fd) (DK : Df K mg "check_people" s_check_people p_check_people aC fdC)
    (DP : Df K mg "is_people" s_is_people p_is_people aP fdP) (DN : Df K mg "is_name" s_is_name p_is_name aN fdN) (DA : Df K mg "is_ascending" s_is_ascending p_is_ascending aA fdA)
    (DT : Df K mg "are_worths" s_are_worths p_are_worths aT fdT) (DH : Df K mg "is_worth" s_is_worth p_is_worth aH fdH) (DI : Df K mg "is_integer" s_is_integer p_is_integer aI fdI) (DW : Df K mg "is_whole" s_is_whole p_is_whole aW fdW)
    (DG : Df K mg "groups_of" s_groups_of p_groups_of aG fdG) : FnOk P w K mg base CX0 5 a0 fd p_Game___init__ (spInit C) := by
  have GK : FnOk P w K mg base CX0 3 aC fdC p_check_people spCheckPeople := ok_check_people T DK DP DN DA
  have GT : FnOk P w K mg base CX0 4 aT fdT p_are_worths (spWorths K) := ok_worths T DT DH DI DW DG
  have GG : FnOk P w K mg base CX0 1 aG fdG p_groups_of (spGroupsOf K) := ok_groups_of T DG
  refine D.F.ok c_Game___init__ (fun vs H Q E h => ?_) (fun cdv A outer s H vs Q E hr h => ?_)
  · obtain ⟨p, dx, tn, d, ns, W, rfl, _⟩ := h
    rfl
  · obtain ⟨p, dx, tn, d, ns, W, rfl, hp, htn, hns, hd, hW, k⟩ := h
    have nd := c_Game___init__.nd
    have hu := hu_of hr
    have hr1 : Room 1 (A.deeper (envOfC "Game.__init__" (defScope s_Game___init__) s.heap.objs.size a0 cdv)) := hr.mono (by decide)
    have hr3 : Room 3 (A.deeper (envOfC "Game.__init__" (defScope s_Game___init__) s.heap.objs.size a0 cdv)) := hr.mono (by decide)
    refine ⟨_, pss_cons (ps_expr (dcall DK GK hr3 (pa_cons (pv 1) pa_nil)))
      (pss_cons (ps_if (pt_not (pt_val (dcall DT GT hr (pa_cons (pv 1) (pa_cons (pv 2) pa_nil))))) (pss_one ps_never) pss_nil)
      (pss_cons (ps_fld (pv 0) (pv 1) rfl)
      (pss_cons (ps_fld (pv 0) (dcall DG GG hr1 (pa_cons (pv 1) pa_nil)) rfl)
      (pss_cons (ps_fld (pv 0) (pe_dx (.dT []) (.inr rfl) hu (own := [("group", 3)]) (g := gName 3) (tt := tYes) (tk := tVar 3) (tv := tDGet2 (tVar 2) (tVar 3) (tC (.int 0))) rfl nd (pi_tup (pe_fld (pv 0) rfl))
          (blkOk_by (own := [("group", 3)]) (N := n_Game___init__) (sc := defScope s_Game___init__) (by decide +kernel)) (fun _ _ _ _ _ => pg_name (i := 3) nd rfl (Or.inl rfl)) (fun _ _ _ _ _ => pts_nil)
          (fun _ _ _ _ _ => pv 3) (fun _ _ _ _ _ => pe_dget2 hu (pv 2) (pv 3) pe_int ⟨rfl, rfl, rfl, rfl⟩)) rfl)
      (pss_cons (ps_fld (pv 0) (pe_callTy call_tuple_of (by rfl) T.b_tuple boot_tuple (pa_cons (pe_lc (own := [("group", 3)]) (g := gName 3) (tt := tYes) (te := tDGet (tFld K (tVar 0) "_worths") (tVar 3)) rfl nd (pi_tup (pe_fld (pv 0) rfl))
          (blkOk_by (own := [("group", 3)]) (N := n_Game___init__) (sc := defScope s_Game___init__) (by decide +kernel)) (fun _ _ _ _ _ => pg_name (i := 3) nd rfl (Or.inl rfl)) (fun _ _ _ _ _ => pts_nil)
          (fun _ _ _ _ _ => pe_dget hu (pe_fld (pv 0) rfl) (pv 3) (fun _ _ => rfl))) pa_nil)) rfl)
      (pss_one (ps_fld (pv 0) pe_non rfl))))))), ?_⟩
    have p5 := hns.most
    have nnd := asc_nodup hns.asc
    have gnd := groups_nodup nnd
    refine ⟨_, rfl, tn, ns, rfl, htn, hns, fun H1 s1 => ?_⟩
    refine ⟨_, rfl, _, rfl, tn, d, ns, W, rfl, s1 _ _ htn, hns, s1 _ _ hd, hW, fun H2 s2 => ⟨true, rfl, ite2 (fun h => absurd h (by decide)) (fun _ => ?_)⟩⟩
    have hp2 := s2 _ _ (s1 _ _ hp)
    refine ⟨_, rfl, _, rfl, p, C, dx, [], rfl, hp2, DC.dc.cl, DC.n__people, (by show 0 < 1000; decide), ?_⟩
    rw [gf_put1]
    have k3 : ∀ {b : Addr} {o : HO}, b ≠ p → H b = some o → (upd H2 p (.ins C dx [(("_people" : Str), V.ref tn)])) b = some o := fun n e => (upd_ne n).trans (s2 _ _ (s1 _ _ e))
    have ntp : tn ≠ p := ne_of htn hp (by intro q; cases q)
    have ndp : d ≠ p := ne_of hd hp (by intro q; cases q)
    have hp3 : (upd H2 p (.ins C dx [(("_people" : Str), V.ref tn)])) p = _ := upd_same
    generalize upd H2 p (.ins C dx [(("_people" : Str), V.ref tn)]) = H3 at k3 hp3
    refine ⟨_, rfl, tn, ns, rfl, .inl (.inl (k3 ntp htn)), by omega, hns.asc, fun gq H4 ts s4 ngq hgq ht hts => ?_⟩
    have hp4 := s4 _ _ hp3
    refine ⟨_, rfl, p, C, dx, _, rfl, hp4, DC.dc.cl, DC.n__groups, (by show 1 < 1000; decide), ?_⟩
    rw [gf_put2]
    have ngp : gq ≠ p := ne_of hgq hp4 (by intro q; cases q)
    have nop : ∀ xs, H4 p ≠ some (.tup xs) := fun xs e => by
      rw [hp4] at e
      cases e
    have k5 : ∀ {b : Addr} {o : HO}, b ≠ p → H b = some o → (upd H4 p (.ins C dx [(("_people" : Str), V.ref tn), ("_groups", .ref gq)])) b = some o := fun n e => (upd_ne n).trans (s4 _ _ (k3 n e))
    have hp5 : (upd H4 p (.ins C dx [(("_people" : Str), V.ref tn), ("_groups", .ref gq)])) p = _ := upd_same
    have hg5 := (upd_ne (o := HO.ins C dx [(("_people" : Str), V.ref tn), ("_groups", .ref gq)]) ngp).trans hgq
    have ht5 : TupsAt (upd H4 p (.ins C dx [(("_people" : Str), V.ref tn), ("_groups", .ref gq)])) ts := ht.upd nop
    generalize upd H4 p (.ins C dx [(("_people" : Str), V.ref tn), ("_groups", .ref gq)]) = H5 at k5 hp5 hg5 ht5
    have lk : ([(("_people" : Str), V.ref tn), ("_groups", .ref gq)] : List (Str × V)).lookup ("_groups" : Str) = some (V.ref gq) := by
      rw [← gf_put2, lookup_putF, if_pos rfl]
    refine ⟨_, rfl, p, C, dx, _, _, rfl, hp5, DC.dc.cl, DC.n__groups, lk, gq, rfl, ⟨_, .inl (.inl hg5)⟩, fun Dd nD => ?_⟩
    have hd5 := k5 ndp hd
    have glen := groups_small p5
    refine dx_it (walk_tup (xs := refs ts)) (fun j H6 => Same H5 H6 ∧ H6 Dd = some (.dT (wDict ((groupsOf ns).take j) (setW W [] 0)))) ⟨same_new nD, upd_same⟩ (fun j H6 hj hP => ?_) (fun j x H6 H7 hj hP hY => ?_) (fun H6 hP => ?_)
    · exact .inl (.inl (hP.1 _ _ hg5))
    · obtain ⟨s6, hD⟩ := hP
      obtain ⟨rfl, hx⟩ := hY
      obtain ⟨t, htj, rfl, hgj⟩ := refs_at' hx hts
      have hg := s6 _ _ (ht5.get htj)
      rw [← kG_V] at hg
      have hd6 := s6 _ _ hd5
      have hgl : j < (groupsOf ns).length := (List.getElem?_eq_some_iff.mp hgj).1
      have val : (valV (wDict (someOf ns) W) (kG t.2)).getD (.int 0) = .int (setW W [] 0 t.2) := by
        obtain ⟨r, e⟩ := groups_head ns
        have so : someOf ns = r := by
          unfold someOf
          rw [e]
          rfl
        by_cases z : t.2 = []
        · have out : t.2 ∉ someOf ns := by
            rw [so, z]
            rw [e] at gnd
            exact (List.nodup_cons.mp gnd).1
          rw [wDict_out out, z, setW_same]
          rfl
        · have inn : t.2 ∈ someOf ns := by
            have m := List.mem_of_getElem? hgj
            rw [e] at m
            rw [so]
            exact (List.mem_cons.mp m).resolve_left z
          rw [wDict_in inn, setW_ne _ _ z]
          rfl
      refine ⟨rfl, _, rfl, _, rfl, d, rfl, .inr ⟨_, .inl hd6⟩, _, rfl, _, .inr ⟨_, kG t.2, t.1, .inl hd6, rfl, hg, rfl⟩, ?_⟩
      rw [val]
      refine ⟨_, DPut.t (k := kG t.2) hD hg (small1000 (by rw [wDict_len, List.length_take]; omega)), ?_, ?_⟩
      · intro b o e
        rw [upd_ne (ne_of_none e nD)]
        exact s6 _ _ e
      · rw [upd_same, putK_new _ (wDict_out (nodup_take gnd hgj)), List.take_add_one, hgj]
        show _ = some (HO.dT (wDict ((groupsOf ns).take j ++ [t.2]) _))
        rw [wDict_app]
        rfl
    · obtain ⟨s6, hD⟩ := hP
      have tl : (refs ts).length = (groupsOf ns).length := by
        rw [← hts, List.length_map, List.length_map]
      rw [tl, List.take_length] at hD
      have hp6 := s6 _ _ hp5
      refine ⟨_, rfl, p, C, dx, _, rfl, hp6, DC.dc.cl, DC.n__worths, (by show 2 < 1000; decide), ?_⟩
      rw [gf_put3]
      have nDp : Dd ≠ p := ne_of hD hp6 (by intro q; cases q)
      have nop6 : ∀ xs, H6 p ≠ some (.tup xs) := fun xs e => by
        rw [hp6] at e
        cases e
      have k7 : ∀ {b : Addr} {o : HO}, b ≠ p → H b = some o → (upd H6 p (.ins C dx [(("_people" : Str), V.ref tn), ("_groups", .ref gq), ("_worths", .ref Dd)])) b = some o := fun n e => (upd_ne n).trans (s6 _ _ (k5 n e))
      have hp7 : (upd H6 p (.ins C dx [(("_people" : Str), V.ref tn), ("_groups", .ref gq), ("_worths", .ref Dd)])) p = _ := upd_same
      have hg7 := (upd_ne (o := HO.ins C dx [(("_people" : Str), V.ref tn), ("_groups", .ref gq), ("_worths", .ref Dd)]) ngp).trans (s6 _ _ hg5)
      have ht7 : TupsAt (upd H6 p (.ins C dx [(("_people" : Str), V.ref tn), ("_groups", .ref gq), ("_worths", .ref Dd)])) ts := (ht5.same s6).upd nop6
      have hD7 := (upd_ne (o := HO.ins C dx [(("_people" : Str), V.ref tn), ("_groups", .ref gq), ("_worths", .ref Dd)]) nDp).trans hD
      generalize upd H6 p (.ins C dx [(("_people" : Str), V.ref tn), ("_groups", .ref gq), ("_worths", .ref Dd)]) = H7 at k7 hp7 hg7 ht7 hD7
      have lk7 : ([(("_people" : Str), V.ref tn), ("_groups", .ref gq), ("_worths", .ref Dd)] : List (Str × V)).lookup ("_groups" : Str) = some (V.ref gq) := by
        rw [← gf_put3, lookup_putF, if_neg (by decide +kernel)]
        exact lk
      have lk8 : ([(("_people" : Str), V.ref tn), ("_groups", .ref gq), ("_worths", .ref Dd)] : List (Str × V)).lookup ("_worths" : Str) = some (V.ref Dd) := by
        rw [← gf_put3, lookup_putF, if_pos rfl]
      refine ⟨_, rfl, p, C, dx, _, _, rfl, hp7, DC.dc.cl, DC.n__groups, lk7, gq, rfl, ⟨_, .inl (.inl hg7)⟩, fun Ld nL => ?_⟩
      refine lc_it (walk_tup (xs := refs ts)) (fun j H8 => Same H7 H8 ∧ H8 Ld = some (.lst ((((groupsOf ns).take j).map (setW W [] 0)).map V.int))) ⟨same_new nL, upd_same⟩ (fun j H8 hj hP => ?_) (fun j x H8 H9 hj hP hY => ?_) (fun H8 hP => ?_)
      · exact .inl (.inl (hP.1 _ _ hg7))
      · obtain ⟨s8, hL⟩ := hP
        obtain ⟨rfl, hx⟩ := hY
        obtain ⟨t, htj, rfl, hgj⟩ := refs_at' hx hts
        have hg := s8 _ _ (ht7.get htj)
        rw [← kG_V] at hg
        refine ⟨rfl, _, rfl, p, C, dx, _, _, rfl, s8 _ _ hp7, DC.dc.cl, DC.n__worths, lk8, _, rfl, Dd, _, rfl, .inr ⟨_, kG t.2, t.1, .inl (s8 _ _ hD7), rfl, hg, (wDict_in (List.mem_of_getElem? hgj)).symm⟩, _, hL, ?_, ?_, ?_⟩
        · rw [List.length_map, List.length_map, List.length_take]
          exact small1000 (by omega)
        · intro b o e
          rw [upd_ne (ne_of_none e nL)]
          exact s8 _ _ e
        · rw [upd_same, List.take_add_one, hgj, List.map_append, List.map_append]
          rfl
      · obtain ⟨s8, hL⟩ := hP
        rw [tl, List.take_length] at hL
        refine ⟨Ld, _, rfl, .inl ⟨.inl (.inl hL), fun rq nrq => ?_⟩⟩
        have s9 := s8.trans (same_new (o := HO.tup (((groupsOf ns).map (setW W [] 0)).map V.int)) nrq)
        have hr9 : (upd H8 rq (.tup (((groupsOf ns).map (setW W [] 0)).map V.int))) rq = _ := upd_same
        generalize upd H8 rq (.tup (((groupsOf ns).map (setW W [] 0)).map V.int)) = H9 at s9 hr9
        have hp9 := s9 _ _ hp7
        refine ⟨_, rfl, p, C, dx, _, rfl, hp9, DC.dc.cl, DC.n__row, (by show 3 < 1000; decide), ?_⟩
        rw [gf_put4]
        have nrp : rq ≠ p := ne_of hr9 hp9 (by intro q; cases q)
        have nop9 : ∀ xs, H9 p ≠ some (.tup xs) := fun xs e => by
          rw [hp9] at e
          cases e
        refine ⟨_, rfl, p, C, dx, _, rfl, upd_same, DC.dc.cl, DC.n__gaps, (by show 4 < 1000; decide), ?_⟩
        rw [gf_put5, upd_upd]
        refine k _ (fun b o n e => (upd_ne n).trans (s9 _ _ (k7 n e))) ⟨dx, tn, gq, Dd, ts, rq, .non, upd_same, (upd_ne ntp).trans (s9 _ _ (k7 ntp htn)), (upd_ne ngp).trans (s9 _ _ hg7), (ht7.same s9).upd nop9, hts, (upd_ne nDp).trans (s9 _ _ hD7), (upd_ne nrp).trans hr9, .inl rfl⟩
/-! ### class Game: people, groups, [] -/
theorem ok_prop {C a0 : Addr} {fd : FuncData} {f qual field : Str} {st : Stmt} {p1 p2 p3 : Pos} (D : Dpr K C f qual st ["self"] a0 fd) (S : FnScope ["self"] ["self"] (defScope st)) (hb : defBody st = [.Return (some (.Attribute (.Name "self" p1) field p2)) p3]) (cl : Cls K C) (n : NoAttr K C field) :
    FnOk P w K mg base CX0 1 a0 fd ["self"] (getSp C field) := by
  refine D.F.ok S (fun vs H Q E h => ?_) (fun cdv A outer s H vs Q E hr h => ?_)
  · obtain ⟨a, dx, fs, v, rfl, _⟩ := h
    rfl
  · obtain ⟨a, dx, fs, v, rfl, ea, l, q⟩ := h
    rw [hb]
    refine ⟨_, pss_one (ps_ret (pe_fld (pe_var (i := 0) rfl ((S.par "self" (List.Mem.head _)).elim (fun z => .inl z) (fun z => .inr (.inl z)))) rfl)), ?_⟩
    exact ⟨.ref a, rfl, a, C, dx, fs, v, rfl, ea, cl, n, l, q⟩
theorem ok_p_people {C a0 : Addr} {fd : FuncData} (DC : Cl_Game K mg C) (D : Dpr K C "people" "Game.people" s_Game_people p_Game_people a0 fd) : FnOk P w K mg base CX0 1 a0 fd p_Game_people (getSp C "_people") :=
  ok_prop D c_Game_people rfl DC.dc.cl DC.n__people
theorem ok_p_groups {C a0 : Addr} {fd : FuncData} (DC : Cl_Game K mg C) (D : Dpr K C "groups" "Game.groups" s_Game_groups p_Game_groups a0 fd) : FnOk P w K mg base CX0 1 a0 fd p_Game_groups (getSp C "_groups") :=
  ok_prop D c_Game_groups rfl DC.dc.cl DC.n__groups
/-- texts of names are layable -/
theorem nms_lay {m : Nat} {ns : List Str} (h : Nms m ns) {g : Grp} (hg : g ∈ groupsOf ns) : ∀ n ∈ g, ∀ c ∈ n.cps.toList, c < 1114112 := fun n hn c hc =>
  (name_ok (h.nm n ((groups_mem.mp hg).subset hn))).cps c hc
/-- of a group of a game nothing is said -/
def spCheckGroup (C : Addr) : Sp := fun vs H Q _ => ∃ (p b : Addr) (ns : List Str) (W : Grp → Int) (g : Grp), vs = [.ref p, .ref b] ∧ GameAt C H p ns W ∧ Nms 5 ns ∧ H b = some (.tup (g.map V.str)) ∧ g ∈ groupsOf ns ∧ Q .non H
theorem ok_check_group {C a0 aG : Addr} {fd fdG : FuncData} (T : Txt mg) (DC : Cl_Game K mg C) (D : Df K mg "check_group" s_check_group p_check_group a0 fd) (DG : Dpr K C "groups" "Game.groups" s_Game_groups p_Game_groups aG fdG) :
    FnOk P w K mg base CX0 3 a0 fd p_check_group (spCheckGroup C) := by
  have GG : FnOk P w K mg base CX0 1 aG fdG p_Game_groups (getSp C "_groups") := ok_p_groups DC DG
  obtain ⟨pp, hpr⟩ := DG.pr
  refine D.F.ok c_check_group (fun vs H Q E h => ?_) (fun cdv A outer s H vs Q E hr h => ?_)
  · obtain ⟨p, b, ns, W, g, rfl, _⟩ := h
    rfl
  · obtain ⟨p, b, ns, W, g, rfl, hG, hns, hb, hg, k⟩ := h
    have hu : (A.deeper (envOfC "check_group" (defScope s_check_group) s.heap.objs.size a0 cdv)).units + 65 < cLine := by
      have := hr.un
      omega
    refine ⟨_, pss_one (ps_if (pt_cmpR (op_notInT hu) (pv 1) (pe_prop (pv 0) DC.dc.cl hpr GG hr DG.b .nil pass0 rfl) (by rfl)) (pss_one ps_never) pss_nil), ?_⟩
    obtain ⟨dx, tn, gq, wq, ts, rq, gv, h1, h2, h3, h4, h5, h6, h7⟩ := hG.ex
    refine ⟨_, rfl, _, rfl, p, dx, _, rfl, h1, p, dx, _, _, rfl, h1, gf_groups _ _ _ _ _, .tuple (encG g), _, .tup (.inl (.inl hb)) (dp_names g), .tup (.inl (.inl h3)) (dp_refs h4), shaped_grp (nms_lay hns hg), ?_, ?_⟩
    · rw [h5]
      exact shaped_grps fun k m => nms_lay hns m
    · refine ⟨_, rfl, ?_⟩
      rw [h5, any_grp, decide_eq_true hg]
      exact ite2 (fun h => absurd h (by decide)) (fun _ => k)
/-- the worth of a group of a game -/
def spItem (C : Addr) : Sp := fun vs H Q _ => ∃ (p b : Addr) (ns : List Str) (W : Grp → Int) (g : Grp), vs = [.ref p, .ref b] ∧ GameAt C H p ns W ∧ Nms 5 ns ∧ H b = some (.tup (g.map V.str)) ∧ g ∈ groupsOf ns ∧ Q (.int (W g)) H
theorem ok_item {C a0 aK aG : Addr} {fd fdK fdG : FuncData} (T : Txt mg) (DC : Cl_Game K mg C) (D : Dm K C "__getitem__" "Game.__getitem__" s_Game___getitem__ p_Game___getitem__ a0 fd) (DK : Df K mg "check_group" s_check_group p_check_group aK fdK)
    (DG : Dpr K C "groups" "Game.groups" s_Game_groups p_Game_groups aG fdG) : FnOk P w K mg base CX0 4 a0 fd p_Game___getitem__ (spItem C) := by
  have GK : FnOk P w K mg base CX0 3 aK fdK p_check_group (spCheckGroup C) := ok_check_group T DC DK DG
  refine D.F.ok c_Game___getitem__ (fun vs H Q E h => ?_) (fun cdv A outer s H vs Q E hr h => ?_)
  · obtain ⟨p, b, ns, W, g, rfl, _⟩ := h
    rfl
  · obtain ⟨p, b, ns, W, g, rfl, hG, hns, hb, hg, k⟩ := h
    have hu := hu_of hr
    refine ⟨_, pss_cons (ps_expr (dcall DK GK hr (pa_cons (pv 0) (pa_cons (pv 1) pa_nil)))) (pss_one (ps_ret (pe_dget hu (pe_fld (pv 0) rfl) (pv 1) (fun _ _ => rfl)))), ?_⟩
    obtain ⟨dx, tn, gq, wq, ts, rq, gv, h1, h2, h3, h4, h5, h6, h7⟩ := hG.ex
    refine ⟨_, rfl, _, rfl, p, b, ns, W, g, rfl, hG, hns, hb, hg, ?_⟩
    exact ⟨_, rfl, p, C, dx, _, _, rfl, h1, DC.dc.cl, DC.n__worths, gf_worths _ _ _ _ _, _, rfl, wq, _, rfl, .inr ⟨_, kG g, b, .inl h6, rfl, (by rw [kG_V]; exact hb), (wDict_in hg).symm⟩, k⟩
/-! ### _law_made_game -/
theorem setW_id {W : Grp → Int} (h : W [] = 0) : setW W [] 0 = W := by
  funext g
  unfold setW
  by_cases e : g = []
  · rw [if_pos e, e, h]
  · rw [if_neg e]
def spMade (C : Addr) : Sp := fun vs H Q _ => ∃ (pl tn wq : Addr) (ns : List Str) (W : Grp → Int), vs = [.ref pl] ∧ PlainAt H pl tn wq ns W ∧ Nms 5 ns ∧ W [] = 0 ∧ (∀ g ∈ groupsOf ns, -1000000000 ≤ W g ∧ W g ≤ 1000000000) ∧
  ∀ (q : Addr) (H' : Hp), GameAt C H' q ns W → Same H H' → H q = none → Q (.ref q) H'
theorem ok_made {C a0 aJ aC aP aN aA aT aH aI aW aG : Addr} {fd fdJ fdC fdP fdN fdA fdT fdH fdI fdW fdG : FuncData} (T : Txt mg) (D : Df K mg "_law_made_game" s__law_made_game p__law_made_game a0 fd)
    (DC : Cl_Game K mg C) (DJ : Dm K C "__init__" "Game.__init__" s_Game___init__ p_Game___init__ aJ fdJ) (DK : Df K mg "check_people" s_check_people p_check_people aC fdC)
    (DP : Df K mg "is_people" s_is_people p_is_people aP fdP) (DN : Df K mg "is_name" s_is_name p_is_name aN fdN) (DA : Df K mg "is_ascending" s_is_ascending p_is_ascending aA fdA)
    (DT : Df K mg "are_worths" s_are_worths p_are_worths aT fdT) (DH : Df K mg "is_worth" s_is_worth p_is_worth aH fdH) (DI : Df K mg "is_integer" s_is_integer p_is_integer aI fdI) (DW : Df K mg "is_whole" s_is_whole p_is_whole aW fdW)
    (DG : Df K mg "groups_of" s_groups_of p_groups_of aG fdG) : FnOk P w K mg base CX0 7 a0 fd p__law_made_game (spMade C) := by
  have GJ : FnOk P w K mg base CX0 5 aJ fdJ p_Game___init__ (spInit C) := ok_init T DC DJ DK DP DN DA DT DH DI DW DG
  refine D.F.ok c__law_made_game (fun vs H Q E h => ?_) (fun cdv A outer s H vs Q E hr h => ?_)
  · obtain ⟨pl, tn, wq, ns, W, rfl, _⟩ := h
    rfl
  · obtain ⟨pl, tn, wq, ns, W, rfl, hpl, hns, hz, hW, k⟩ := h
    have nd := c__law_made_game.nd
    have hu := hu_of hr
    have cu := hr.units
    refine ⟨_, pss_one (ps_ret (pe_make (DC.dc.make DJ) GJ hr (by rfl) DC.dc.g DJ.b .nil pass0 (pa_cons (pe_dget hu (pv 0) pe_str (fun _ _ => rfl)) (pa_cons (pe_callTy (call_dictG rfl hr.units) (by rfl) T.b_dict boot_dict (pa_cons
        (pe_lock (pe_lc (own := [("some", 1)]) (g := gName 1) (tt := tTest (tOp (rNeD K) (tVar 1) (tTup tNil))) (te := tTup (tCons (tVar 1) (tCons (tDGet (tDGet (tVar 0) (tC (.str "worths"))) (tVar 1)) tNil))) rfl nd (pi_keys (pe_dget hu (pv 0) pe_str (fun _ _ => rfl)))
          (blkOk_by (own := [("some", 1)]) (N := n__law_made_game) (sc := defScope s__law_made_game) (by decide +kernel)) (fun _ _ _ _ _ => pg_name (i := 1) nd rfl (Or.inl rfl)) (fun _ _ _ _ _ => pts_one (pt_cmpR (op_neD cu) (pv 1) (pe_tup pa_nil) (nomark _)))
          (fun _ _ _ _ _ => pe_tup (pa_cons (pv 1) (pa_cons (pe_dget hu (pe_dget hu (pv 0) pe_str (fun _ _ => rfl)) (pv 1) (fun _ _ => rfl)) pa_nil))))) pa_nil)) pa_nil)))), ?_⟩
    have gn : ∀ {H' : Hp} {a tn wq : Addr}, Rd H' a (.dK (plainD tn wq)) → DGet H' a (.str "names") (some (.ref tn)) := fun e => .inl ⟨_, Sum.inr _, e, rfl, (plain_names _ _).symm⟩
    have gp : ∀ {H' : Hp} {a tn wq : Addr}, Rd H' a (.dK (plainD tn wq)) → DGet H' a (.str "worths") (some (.ref wq)) := fun e => .inl ⟨_, Sum.inr _, e, rfl, (plain_worths _ _).symm⟩
    have n5 := hns.most
    have nnd := asc_nodup hns.asc
    have gnd := groups_nodup nnd
    have glen := groups_small n5
    refine ⟨_, rfl, pl, .ref tn, rfl, gn (.inl hpl.d), wq, _, hpl.w, trivial, fun od => ?_⟩
    have plwq : pl ≠ wq := ne_of hpl.d hpl.w (by intro q; cases q)
    have hplz : (upd H wq (.frz od (.dT (wDict (groupsOf ns) W)))) pl = some (.dK (plainD tn wq)) := (upd_ne plwq).trans hpl.d
    refine ⟨_, rfl, pl, .ref wq, rfl, gp (.inl hplz), wq, od, rfl, .inr ⟨_, upd_same, fun Ad nA => ?_⟩⟩
    refine lc_it walk_keysT (fun j H8 => ∃ l : List (Addr × PairE), H8 Ad = some (.lst (prefs l)) ∧ PrsAt H8 l ∧ pdata l = wDict (((groupsOf ns).take j).filter fun g => !g.isEmpty) W ∧ Same (upd H wq (.frz od (.dT (wDict (groupsOf ns) W)))) H8)
      ⟨[], upd_same, .nil, rfl, same_new nA⟩ (fun j H8 hj hP => ?_) (fun j x H8 H9 hj hP hY => ?_) (fun H8 hP => ?_)
    · obtain ⟨_, _, _, _, s8⟩ := hP
      exact s8 _ _ upd_same
    · obtain ⟨l, hA, hT, hd, s8⟩ := hP
      obtain ⟨rfl, kk, vv, qk, hkv, rfl, hqk⟩ := hY
      obtain ⟨g, hg, rfl, _⟩ := wDict_at hkv
      have hgm := List.mem_of_getElem? hg
      have hw9 := s8 _ _ (upd_same (H := H) (a := wq) (o := .frz od (.dT (wDict (groupsOf ns) W))))
      have hgj : j < (groupsOf ns).length := (List.getElem?_eq_some_iff.mp hg).1
      have hqk' := hqk
      rw [kG_V] at hqk'
      refine ⟨rfl, _, rfl, (by show 0 ≤ sizeLine; omega), fun z nz => ?_⟩
      have sz := same_new (o := HO.tup []) nz
      refine ⟨.tuple (encG g), .tuple (encG []), .tup (.inl (.inl (sz _ _ hqk'))) (dp_names g), .tup (.inl (.inl upd_same)) (dp_names []), shaped_grp (nms_lay hns hgm), rfl, _, rfl, ?_⟩
      rw [eqv_grp]
      have ll : (prefs l).length ≤ 32 := by
        rw [prefs_len hd]
        refine Nat.le_trans (List.length_filter_le _ _) ?_
        rw [List.length_take]
        omega
      refine ite2 (fun e => ?_) (fun e => ?_)
      · have ge : g ≠ [] := fun z => by
          rw [z] at e
          simp at e
        have gf : (!g.isEmpty) = true := by
          cases g with
          | nil => exact absurd rfl ge
          | cons x t => rfl
        have s9 := fun b o (e : _ = some o) => sz b o (s8 b o e)
        refine ⟨_, rfl, _, rfl, pl, .ref wq, rfl, gp (.inl (s9 _ _ hplz)), _, rfl, wq, .int (W g), rfl, .inr ⟨_, kG g, qk, .inr ⟨od, sz _ _ hw9⟩, rfl, sz _ _ hqk, (wDict_in hgm).symm⟩, (by show 2 ≤ sizeLine; decide), fun N nN => ?_⟩
        obtain ⟨e1, e2, e3, e4⟩ := prs_next (sz _ _ hA) (hT.same sz) hd (sz _ _ hqk') nN (W := W) rfl
        refine ⟨_, e1, small1000 (by omega), l ++ [(N, ⟨qk, kG g, .int (W g)⟩)], e2, e3, ?_, ?_⟩
        · rw [List.take_add_one, hg]
          show _ = wDict ((_ ++ [g]).filter _) W
          rw [List.filter_append, List.filter_cons_of_pos (p := fun g : Grp => !g.isEmpty) gf]
          exact e4
        · intro c o e
          rw [upd_ne (ne_of_none e nA)]
          exact (same_new nN) _ _ (s9 _ _ e)
      · have ge : g = [] := by
          by_cases z : g = []
          · exact z
          · rw [decide_eq_false z] at e
            exact absurd rfl e
        refine ⟨l, sz _ _ hA, hT.same sz, ?_, fun c o e => sz _ _ (s8 _ _ e)⟩
        rw [hd, List.take_add_one, hg, ge]
        show _ = wDict ((_ ++ [([] : Grp)]).filter _) W
        rw [List.filter_append, List.filter_cons_of_neg (p := fun g : Grp => !g.isEmpty) (by simp)]
        rw [List.filter_nil, List.append_nil]
    · obtain ⟨l, hA, hT, hd, s8⟩ := hP
      rw [wDict_len, List.take_length, someOf_filter nnd] at hd
      have hw8 := s8 _ _ (upd_same (H := H) (a := wq) (o := .frz od (.dT (wDict (groupsOf ns) W))))
      refine ⟨hw8, ?_⟩
      have s9 := unlock_same hpl.w s8
      have hT9 : PrsAt (upd H8 wq (.dT (wDict (groupsOf ns) W))) l := hT.upd fun xs e => by
        rw [hw8] at e
        cases e
      have hA9 : (upd H8 wq (.dT (wDict (groupsOf ns) W))) Ad = some (.lst (prefs l)) := (upd_ne (ne_of hA hw8 (by intro q; cases q))).trans hA
      generalize upd H8 wq (.dT (wDict (groupsOf ns) W)) = H9 at s9 hT9 hA9
      have snd : (someOf ns).Nodup := gnd.sublist (List.drop_sublist _ _)
      refine ⟨Ad, l, someOf ns, W, rfl, .inl (.inl hA9), hT9, hd, snd, fun wd nwd => ?_⟩
      have s10 := same_new (o := HO.dT (wDict (someOf ns) W)) nwd
      intro x dx nx ndx ne
      have sx : Same H (upd (upd (upd H9 wd (.dT (wDict (someOf ns) W))) dx (.own x)) x (.ins C dx [])) := fun b o e => by
        have e10 := s10 _ _ (s9 _ _ e)
        rw [upd_ne (ne_of_none e10 nx), upd_ne (ne_of_none e10 ndx)]
        exact e10
      have nxH : H x = none := by
        cases q : H x with
        | none => rfl
        | some o => rw [s10 _ _ (s9 _ _ q)] at nx; cases nx
      have hwd : (upd (upd (upd H9 wd (.dT (wDict (someOf ns) W))) dx (.own x)) x (.ins C dx [])) wd = some (.dT (wDict (someOf ns) W)) := by
        have e10 := upd_same (H := H9) (a := wd) (o := HO.dT (wDict (someOf ns) W))
        rw [upd_ne (ne_of_none e10 nx), upd_ne (ne_of_none e10 ndx)]
        exact e10
      refine ⟨x, dx, tn, wd, ns, W, rfl, upd_same, sx _ _ hpl.n, hns, hwd, fun g m => hW g (List.mem_of_mem_drop m), fun H' kk hG => ⟨rfl, ?_⟩⟩
      rw [setW_id hz] at hG
      exact k x H' hG (fun b o e => kk b o (ne_of_none e nxH) (sx _ _ e)) nxH
/-! ### check_game, is_row, is_sharing -/
def spCheckGame (C : Addr) : Sp := fun vs H Q _ => ∃ (p : Addr) (ns : List Str) (W : Grp → Int), vs = [.ref p] ∧ GameAt C H p ns W ∧ Q .non H
theorem ok_check_game {C a0 : Addr} {fd : FuncData} (T : Txt mg) (DC : Cl_Game K mg C) (D : Df K mg "check_game" s_check_game p_check_game a0 fd) : FnOk P w K mg base CX0 1 a0 fd p_check_game (spCheckGame C) := by
  refine D.F.ok c_check_game (fun vs H Q E h => ?_) (fun cdv A outer s H vs Q E hr h => ?_)
  · obtain ⟨p, ns, W, rfl, _⟩ := h
    rfl
  · obtain ⟨p, ns, W, rfl, hG, k⟩ := h
    obtain ⟨dx, tn, gq, wq, ts, rq, gv, h1, _⟩ := hG.ex
    refine ⟨_, pss_one (ps_if (pt_not (pt_val (pe_callB call_isi (by rfl) T.b_isinstance boot_isinstance (pa_cons (pv 0) (pa_cons (pe_glob (v := .ref C) (by rfl) DC.dc.g rfl) pa_nil))))) (pss_one ps_never) pss_nil), ?_⟩
    refine ⟨.ref p, rfl, .ref p, .ref C, _, _, true, rfl, .own C, .base (DC.dc.ty h1), kit_self _, true, rfl, ?_⟩
    exact ite2 (fun h => absurd h (by decide)) (fun _ => k)
theorem GameAt.same {C : Addr} {H H' : Hp} {p : Addr} {ns : List Str} {W : Grp → Int} (h : GameAt C H p ns W) (s : Same H H') : GameAt C H' p ns W := by
  obtain ⟨dx, tn, gq, wq, ts, rq, gv, h1, h2, h3, h4, h5, h6, h7⟩ := h.ex
  exact ⟨dx, tn, gq, wq, ts, rq, gv, s _ _ h1, s _ _ h2, s _ _ h3, h4.same s, h5, s _ _ h6, s _ _ h7.1, h7.2.keep fun _ _ e => s _ _ e⟩
theorem GameAt.drawn {C p gm : Addr} {H H' : Hp} {ns : List Str} {W : Grp → Int} (h : GameAt C H gm ns W) (c : CupAt H p) (d : Drawn p H H') : GameAt C H' gm ns W := by
  obtain ⟨dx, tn, gq, wq, ts, rq, gv, h1, h2, h3, h4, h5, h6, h7⟩ := h.ex
  obtain ⟨x, y, z, e⟩ := id c
  exact ⟨dx, tn, gq, wq, ts, rq, gv, d.at' h1 (ne_of h1 e (by intro z; cases z)), d.at' h2 (ne_of h2 e (by intro z; cases z)), d.at' h3 (ne_of h3 e (by intro z; cases z)), h4.drawn c d, h5, d.at' h6 (ne_of h6 e (by intro z; cases z)), d.at' h7.1 (ne_of h7.1 e (by intro z; cases z)), h7.2.keep fun _ _ e2 => d.at' e2 (ne_of e2 e (by intro z; cases z))⟩
/-! ### _law_case; the game is new -/
def spCase (C : Addr) : Sp := fun vs H Q _ => ∃ (p : Addr) (m : Nat), vs = [.ref p, .int (m : Int)] ∧ CupAt H p ∧ 3 ≤ m ∧ m ≤ 5 ∧
  ∀ (q pl tn wq gm : Addr) (H' : Hp) (ns : List Str) (W : Grp → Int), Nms m ns → SmallW ns W → Drawn p H H' → PlainAt H' pl tn wq ns W → GameAt C H' gm ns W → H q = none → q ≠ p → H' q = some (.lst [.ref pl, .ref gm]) → H gm = none → gm ≠ p → Q (.ref q) H'
theorem ok_case {C a0 aY aW aN aS aE aM aG aP aZ aT aD aJ b1 b2 b3 b4 b5 b6 b7 b8 b9 : Addr} {fd fdY fdW fdN fdS fdE fdM fdG fdP fdZ fdT fdD fdJ f1 f2 f3 f4 f5 f6 f7 f8 f9 : FuncData} (T : Txt mg) (D : Df K mg "_law_case" s__law_case p__law_case a0 fd)
    (DY : Df K mg "_law_game" s__law_game p__law_game aY fdY) (DW : Df K mg "_law_growing" s__law_growing p__law_growing aW fdW)
    (DN : Df K mg "_law_names" s__law_names p__law_names aN fdN) (DS : Df K mg "_law_sip" s__law_sip p__law_sip aS fdS)
    (DE : Df K mg "_law_select" s__law_select p__law_select aE fdE) (DM : Df K mg "_law_mingled" s__law_mingled p__law_mingled aM fdM) (DG : Df K mg "_law_groups" s__law_groups p__law_groups aG fdG)
    (DP : Df K mg "_law_by_parts" s__law_by_parts p__law_by_parts aP fdP) (DZ : Df K mg "_law_by_size" s__law_by_size p__law_by_size aZ fdZ) (DT : Df K mg "_law_by_estate" s__law_by_estate p__law_by_estate aT fdT)
    (DD : Df K mg "_law_made_game" s__law_made_game p__law_made_game aD fdD) (DC : Cl_Game K mg C) (DJ : Dm K C "__init__" "Game.__init__" s_Game___init__ p_Game___init__ aJ fdJ) (D1 : Df K mg "check_people" s_check_people p_check_people b1 f1)
    (D2 : Df K mg "is_people" s_is_people p_is_people b2 f2) (D3 : Df K mg "is_name" s_is_name p_is_name b3 f3) (D4 : Df K mg "is_ascending" s_is_ascending p_is_ascending b4 f4)
    (D5 : Df K mg "are_worths" s_are_worths p_are_worths b5 f5) (D6 : Df K mg "is_worth" s_is_worth p_is_worth b6 f6) (D7 : Df K mg "is_integer" s_is_integer p_is_integer b7 f7) (D8 : Df K mg "is_whole" s_is_whole p_is_whole b8 f8)
    (D9 : Df K mg "groups_of" s_groups_of p_groups_of b9 f9) : FnOk P w K mg base CX0 8 a0 fd p__law_case (spCase C) := by
  have GY : FnOk P w K mg base CX0 5 aY fdY p__law_game spGame := ok_game T DY DW DN DS DE DM DG DP DZ DT
  have GD : FnOk P w K mg base CX0 7 aD fdD p__law_made_game (spMade C) := ok_made T DD DC DJ D1 D2 D3 D4 D5 D6 D7 D8 D9
  refine D.F.ok c__law_case (fun vs H Q E h => ?_) (fun cdv A outer s H vs Q E hr h => ?_)
  · obtain ⟨p, m, rfl, _⟩ := h
    rfl
  · obtain ⟨p, m, rfl, hp, m3, m5, k⟩ := h
    have nd := c__law_case.nd
    have hr5 : Room 5 (A.deeper (envOfC "_law_case" (defScope s__law_case) s.heap.objs.size a0 cdv)) := hr.mono (by decide)
    refine ⟨_, pss_cons (ps_set (i := 2) nd rfl (.inl rfl) (dcall DY GY hr5 (pa_cons (pv 0) (pa_cons (pv 1) pa_nil))))
      (pss_one (ps_ret (pe_lst (pa_cons (pv 2) (pa_cons (dcall DD GD hr (pa_cons (pv 2) pa_nil)) pa_nil))))), ?_⟩
    refine ⟨_, rfl, _, rfl, p, m, rfl, hp, m3, m5, fun pl tn wq H1 ns W hns hW d1 npl nwq hpl => ?_⟩
    have hns5 : Nms 5 ns := ⟨hns.pos, Nat.le_trans hns.most m5, hns.asc, hns.nm⟩
    refine ⟨_, rfl, _, rfl, pl, tn, wq, ns, W, rfl, hpl, hns5, hW.zero, fun g m => ?_, fun gm H2 hG s2 ngm => ⟨(by show 2 ≤ sizeLine; decide), fun q nq => ?_⟩⟩
    · have a1 := hW.lo g m
      have a2 := hW.hi g m
      omega
    · have d2 : Drawn p H H2 := d1.trans ⟨Same.kp s2, d1.cup.same s2⟩
      obtain ⟨nqH, nqp⟩ := d2.none nq
      have sq := same_new (o := HO.lst [V.ref pl, .ref gm]) nq
      exact k q pl tn wq gm _ ns W hns hW (d2.new nq) ((hpl.same s2).same sq) (hG.same sq) nqH nqp upd_same (d1.none ngm).1 (d1.none ngm).2
/-! ### sums of a list -/
def spSumsL (K : PySem.W.Frag) : Sp := fun vs H Q _ => ∃ (a : Addr) (xs : List Int), vs = [.ref a] ∧ SqL K H a (xs.map V.int) ∧ xs.length ≤ 8 ∧
  ∀ (q : Addr) (H' : Hp), Same H H' → H q = none → H' q = some (.lst ((sumsL xs).map V.int)) → Q (.ref q) H'
theorem ok_sumsL {a : Addr} {fd : FuncData} (T : Txt mg) (D : Df K mg "sums" s_sums p_sums a fd) : FnOk P w K mg base CX0 1 a fd p_sums (spSumsL K) := by
  refine D.F.ok c_sums (fun vs H Q E h => ?_) (fun cdv A outer s H vs Q E hr h => ?_)
  · obtain ⟨a, xs, rfl, _⟩ := h
    rfl
  · obtain ⟨a, xs, rfl, hS, hl, k⟩ := h
    have nd := c_sums.nd
    refine ⟨_, pss_cons (ps_set (i := 1) nd rfl (.inl rfl) (pe_lst (pa_cons pe_int pa_nil)))
      (pss_cons (ps_for PassesOwn.never rfl (pi_list (pe_revL (pv 0))) (pg_name (i := 2) nd rfl (Or.inr rfl))
        (pss_one (ps_set (i := 1) nd rfl (.inl rfl) (pe_op op_cat (pe_op op_cat (pe_lst (pa_cons pe_int pa_nil)) (pe_lc (own := [("told", 3)]) (g := gName 3) (tt := tYes) (te := tOp (rI0 fun i j => .int (i + j)) (tVar 2) (tVar 3)) rfl nd (pi_list (pv 1))
          (blkOk_by (own := [("told", 3)]) (N := n_sums) (sc := defScope s_sums) (by decide +kernel)) (fun _ _ _ _ _ => pg_name (i := 3) nd rfl (Or.inl rfl)) (fun _ _ _ _ _ => pts_nil)
          (fun _ _ _ _ _ => pe_op op_add (pv 2) (pv 3)))) (pe_slice sl_list (pv 1) (po_some pe_int) po_none)))))
      (pss_one (ps_ret (pv 1)))), ?_⟩
    refine ⟨(by show 1 ≤ sizeLine; decide), fun q nq => ?_⟩
    have s1 : Same H (upd H q (.lst [V.int 0])) := same_new nq
    refine ⟨_, rfl, a, _, rfl, s1.seq hS, fun rp nrp => ?_⟩
    have sr := same_new (o := HO.lst (xs.map V.int).reverse) nrp
    have s2 := s1.trans sr
    refine ⟨rp, rfl, ⟨_, .inl (.inl upd_same)⟩, ?_⟩
    have hrp : (upd (upd H q (.lst [V.int 0])) rp (HO.lst (xs.map V.int).reverse)) rp = some (HO.lst (xs.map V.int).reverse) := upd_same
    have hq0 := sr _ _ (upd_same (H := H) (a := q) (o := .lst [V.int 0]))
    generalize upd (upd H q (.lst [V.int 0])) rp (HO.lst (xs.map V.int).reverse) = Hr at s2 hrp hq0
    refine for_list (K := K) (a := rp) (xs := (xs.map V.int).reverse) (fun i σ H5 => ∃ (q : Addr) (y2 y3 : Option V), σ = [some (.ref a), some (.ref q), y2, y3] ∧ Same Hr H5 ∧ H q = none ∧ H5 q = some (.lst ((sumsL (xs.drop (xs.length - i))).map V.int)))
      ⟨q, _, _, rfl, fun _ _ e => e, nq, by rw [Nat.sub_zero, List.drop_length]; exact hq0⟩ (fun i σ H5 hi hP => ?_) (fun i x σ H5 hx hP => ?_) (fun σ H5 hP => ?_)
    · obtain ⟨q, y2, y3, rfl, s5, _⟩ := hP
      exact .inl (.inl (s5 _ _ hrp))
    · obtain ⟨q, y2, y3, rfl, s5, hq', hq⟩ := hP
      have hir : i < xs.length := by
        have := (List.getElem?_eq_some_iff.mp hx).1
        rw [List.length_reverse, List.length_map] at this
        exact this
      obtain ⟨n, hn, rfl⟩ : ∃ n, xs[xs.length - 1 - i]? = some n ∧ x = V.int n := by
        rw [List.getElem?_reverse (by rw [List.length_map]; exact hir), List.length_map, List.getElem?_map] at hx
        cases e : xs[xs.length - 1 - i]? with
        | none => rw [e] at hx; cases hx
        | some n => rw [e] at hx; exact ⟨n, rfl, (Option.some.inj hx).symm⟩
      have hdrop : xs.drop (xs.length - (i + 1)) = n :: xs.drop (xs.length - i) := by
        have e1 : xs.length - (i + 1) = xs.length - 1 - i := by omega
        have e2 : xs.length - 1 - i + 1 = xs.length - i := by omega
        have lt : xs.length - 1 - i < xs.length := by omega
        rw [e1, List.drop_eq_getElem_cons lt, e2]
        rw [List.getElem?_eq_getElem lt] at hn
        rw [Option.some.inj hn]
      obtain ⟨ys, ey⟩ : ∃ ys, ys = sumsL (xs.drop (xs.length - i)) := ⟨_, rfl⟩
      rw [← ey] at hq
      have hlen : ys.length = 2 ^ i := by
        rw [ey, sumsL_len, List.length_drop]
        congr 1
        omega
      have hpow : 2 ^ i ≤ 128 := Nat.le_trans (Nat.pow_le_pow_right (by decide) (show i ≤ 7 by omega)) (by decide)
      refine ⟨(by show 1 ≤ sizeLine; decide), fun L0 nL => ?_⟩
      have sL := same_new (o := .lst [V.int 0]) nL
      have hL0 : (upd H5 L0 (.lst [V.int 0])) L0 = some (.lst [V.int 0]) := upd_same
      generalize upd H5 L0 (.lst [V.int 0]) = HL at sL hL0
      refine ⟨_, rfl, q, rfl, ⟨_, .inl (.inl (sL _ _ hq))⟩, fun Ad nA => ?_⟩
      refine lc_it (walk_list (xs := ys.map V.int)) (fun j H6 => Same HL H6 ∧ H6 Ad = some (.lst (((ys.take j).map (n + ·)).map V.int)))
        ⟨same_new nA, upd_same⟩ (fun j H6 hj hP => .inl (.inl (hP.1 _ _ (sL _ _ hq)))) (fun j x H6 H7 hj hP hY => ?_) (fun H6 hP => ?_)
      · obtain ⟨s6, hA⟩ := hP
        obtain ⟨rfl, hx⟩ := hY
        obtain ⟨m, hm, rfl⟩ : ∃ m, ys[j]? = some m ∧ x = V.int m := by
          rw [List.getElem?_map] at hx
          cases e : ys[j]? with
          | none => rw [e] at hx; cases hx
          | some m => rw [e] at hx; exact ⟨m, rfl, (Option.some.inj hx).symm⟩
        refine ⟨rfl, _, rfl, _, rfl, _, _, rfl, rfl, _, hA, ?_, fun b o e => ?_, ?_⟩
        · rw [List.length_map, List.length_map, List.length_take]
          exact small1000 (by omega)
        · rw [upd_ne (ne_of_none e nA)]
          exact s6 _ _ e
        · rw [upd_same, List.take_add_one, hm, List.map_append, List.map_append]
          rfl
      · obtain ⟨s6, hA⟩ := hP
        rw [List.length_map, List.take_length] at hA
        refine ⟨L0, Ad, [V.int 0], _, rfl, rfl, s6 _ _ hL0, hA, ?_, fun p1 n1 => ?_⟩
        · rw [List.length_map, List.length_map, hlen]
          exact Nat.le_trans (Nat.add_le_add_left hpow _) (show 1 + 128 ≤ sizeLine by decide)
        have t1 := same_new (o := HO.lst ([V.int 0] ++ (ys.map (n + ·)).map V.int)) n1
        have q1 := t1 _ _ (s6 _ _ (sL _ _ hq))
        refine ⟨_, rfl, _, rfl, q, ys.map V.int, rfl, .inl (.inl q1), fun p2 n2 => ?_⟩
        have t2 := same_new (o := HO.lst (cutV (ys.map V.int) (some 1) none)) n2
        have c1 : cutV (ys.map V.int) (some 1) none = ys.tail.map V.int := by
          rw [cutV_drop1, List.drop_one, List.map_tail]
        refine ⟨p1, p2, _, _, rfl, rfl, t2 _ _ upd_same, upd_same, ?_, fun p np => ?_⟩
        · rw [c1, List.length_append, List.length_map, List.length_map, List.length_map, List.length_tail, hlen]
          exact Nat.le_trans (show [V.int 0].length + 2 ^ i + (2 ^ i - 1) ≤ 257 by show 1 + 2 ^ i + (2 ^ i - 1) ≤ 257; omega) (by decide)
        · have t3 := same_new (o := HO.lst ([V.int 0] ++ (ys.map (n + ·)).map V.int ++ cutV (ys.map V.int) (some 1) none)) np
          have sH : Same HL _ := ((s6.trans t1).trans t2).trans t3
          have nqp : H p = none := (((s2.trans s5).trans (sL.trans ((s6.trans t1).trans t2))).free np)
          refine ⟨p, _, _, rfl, s5.trans (sL.trans sH), nqp, ?_⟩
          rw [upd_same, c1, hdrop]
          show _ = some (HO.lst ((0 :: ((sumsL (xs.drop (xs.length - i))).map (n + ·) ++ (sumsL (xs.drop (xs.length - i))).tail)).map V.int))
          rw [← ey, List.map_cons, List.map_append]
          rfl
    · obtain ⟨q, y2, y3, rfl, s5, hq', hq⟩ := hP
      rw [List.length_reverse, List.length_map, Nat.sub_self, List.drop_zero] at hq
      exact ⟨_, rfl, k q H5 (s2.trans s5) hq' hq⟩
/-! ### gaps_of -/
def spGapsOf : Sp := fun vs H Q _ => ∃ (a : Addr) (ns : List Str) (W : Grp → Int), vs = [.ref a] ∧ H a = some (.tup (((groupsOf ns).map W).map V.int)) ∧ ns.Pairwise ltS ∧ ns.length ≤ 5 ∧
  ∀ (q : Addr) (H' : Hp), Same H H' → H q = none → H' q = some (.tup (((trisOf ns).map (gapOf W)).map V.int)) → Q (.ref q) H'
theorem log_pow (n : Nat) : Builtin.Int.intBits (((2 ^ n : Nat) : Int)) = n + 1 := by
  have p : 0 < 2 ^ n := Nat.two_pow_pos n
  have e : (((2 ^ n : Nat) : Int) == 0) = false := by
    rw [beq_eq_false_iff_ne]
    omega
  unfold Builtin.Int.intBits
  rw [if_neg (by rw [e]; exact Bool.false_ne_true), Int.natAbs_natCast, Nat.log2_two_pow]
theorem groups_len {ns : List Str} (h : ns.Pairwise ltS) : (groupsOf ns).length = 2 ^ ns.length := by
  rw [groupsOf_lex h, lexG_len]
set_option maxHeartbeats 4000000 in
theorem ok_gaps_of {a0 aS : Addr} {fd fdS : FuncData} (T : Txt mg) (D : Df K mg "gaps_of" s_gaps_of p_gaps_of a0 fd) (DS : Df K mg "sums" s_sums p_sums aS fdS) : FnOk P w K mg base CX0 2 a0 fd p_gaps_of spGapsOf := by
  have GS : FnOk P w K mg base CX0 1 aS fdS p_sums (spSumsL K) := ok_sumsL T DS
  refine D.F.ok c_gaps_of (fun vs H Q E h => ?_) (fun cdv A outer s H vs Q E hr h => ?_)
  · obtain ⟨a, ns, W, rfl, _⟩ := h
    rfl
  · obtain ⟨a, ns, W, rfl, ha, hasc, n5, k⟩ := h
    have nd := c_gaps_of.nd
    have hu := hu_of hr
    refine ⟨_, pss_cons (ps_set (i := 1) nd rfl (.inr rfl) (pe_lc (own := [("at", 4)]) (g := gName 4) (tt := tYes) (te := tOp (rI CPow fun i j => .int (i * 2 ^ j.toNat)) (tC (.int 1)) (tVar 4)) rfl nd (pi_range1 (by rfl) T.b_range (pa_cons (pe_op op_sub (pe_bits (pe_callB call_lenQ (by rfl) T.b_len PySem.boot_len (pa_cons (pv 0) pa_nil))) pe_int) pa_nil))
          (blkOk_by (own := [("at", 4)]) (N := n_gaps_of) (sc := defScope s_gaps_of) (by decide +kernel)) (fun _ _ _ _ _ => pg_name (i := 4) nd rfl (Or.inl rfl)) (fun _ _ _ _ _ => pts_nil) (fun _ _ _ _ _ => pe_op op_shl pe_int (pv 4))))
      (pss_cons (ps_set (i := 2) nd rfl (.inl rfl) (dcall DS GS hr (pa_cons (pv 1) pa_nil)))
      (pss_cons (ps_set (i := 3) nd rfl (.inr rfl) (pe_dx (.dK []) (.inl rfl) hu (own := [("number", 5), ("worth", 6)]) (g := gTup K 2 (gCons (gName 5) (gCons (gName 6) gNil))) (tt := tYes) (tk := tVar 5) (tv := tVar 6) rfl nd (pi_zipX false true (by rfl) T.b_zip (pa_cons (pv 2) (pa_cons (pv 0) pa_nil)))
          (blkOk_by (own := [("number", 5), ("worth", 6)]) (N := n_gaps_of) (sc := defScope s_gaps_of) (by decide +kernel)) (fun _ _ _ _ _ => pg_tup rfl (pgs_cons (pg_name (i := 5) nd rfl (Or.inl rfl)) (pgs_cons (pg_name (i := 6) nd rfl (Or.inl rfl)) pgs_nil))) (fun _ _ _ _ _ => pts_nil)
          (fun _ _ _ _ _ => pv 5) (fun _ _ _ _ _ => pv 6)))
      (pss_one (ps_ret (pe_callTy call_tuple_of (by rfl) T.b_tuple boot_tuple (pa_cons (pe_lc3 (own := [("number", 5), ("at", 4), ("one", 7), ("other", 8)]) (vs1 := [4, 7, 8]) (vs2 := [8]) (g0 := gName 5) (tt0 := tYes) (wi1 := iEnum K (tCons (tVar 1) tNil)) (g1 := gTup K 2 (gCons (gName 4) (gCons (gName 7) gNil))) (tt1 := tYes)
            (wi2 := iList K (L2.tSl (rSlL K) (tVar 1) (tPart (tOp (rI0 fun i j => .int (i + j)) (tVar 4) (tC (.int 1)))) tNoPart)) (g2 := gName 8)
            (tt2 := tNot (tTr K (tOp (rI0 fun i j => .int (Builtin.bitAnd i j)) (tVar 5) (tOp (rI0 fun i j => .int (Builtin.bitOr i j)) (tVar 7) (tVar 8)))))
            (te := tOp (rI0 fun i j => .int (i - j)) (tOp (rI0 fun i j => .int (i - j)) (tOp (rI0 fun i j => .int (i + j)) (tDGet (tVar 3) (tOp (rI0 fun i j => .int (Builtin.bitOr i j)) (tOp (rI0 fun i j => .int (Builtin.bitOr i j)) (tVar 5) (tVar 7)) (tVar 8))) (tDGet (tVar 3) (tVar 5)))
              (tDGet (tVar 3) (tOp (rI0 fun i j => .int (Builtin.bitOr i j)) (tVar 5) (tVar 7)))) (tDGet (tVar 3) (tOp (rI0 fun i j => .int (Builtin.bitOr i j)) (tVar 5) (tVar 8))))
            rfl nd (pi_list (pv 2)) (blkOk_by (own := [("number", 5), ("at", 4), ("one", 7), ("other", 8)]) (N := n_gaps_of) (sc := defScope s_gaps_of) (by decide +kernel)) (by decide) (by decide)
            (fun _ _ _ _ _ => pg_name (i := 5) nd rfl (Or.inl rfl)) (fun _ _ _ _ _ => pts_nil)
            (fun _ _ _ _ _ => pi_enum (by rfl) T.b_enumerate (pa_cons (pv 1) pa_nil)) (fun _ _ _ _ _ => pg_tup rfl (pgs_cons (pg_name (i := 4) nd rfl (Or.inl rfl)) (pgs_cons (pg_name (i := 7) nd rfl (Or.inl rfl)) pgs_nil))) (fun _ _ _ _ _ => pts_nil)
            (fun _ _ _ _ _ => pi_list (pe_slice sl_list (pv 1) (po_some (pe_op op_add (pv 4) pe_int)) po_none)) (fun _ _ _ _ _ => pg_name (i := 8) nd rfl (Or.inl rfl))
            (fun _ _ _ _ _ => pts_one (pt_not (pt_tr (pe_op op_and (pv 5) (pe_op op_or (pv 7) (pv 8))) (fun _ => rfl))))
            (fun _ _ _ _ _ => pe_op op_sub (pe_op op_sub (pe_op op_add (pe_dget hu (pv 3) (pe_op op_or (pe_op op_or (pv 5) (pv 7)) (pv 8)) (fun _ _ => rfl)) (pe_dget hu (pv 3) (pv 5) (fun _ _ => rfl)))
              (pe_dget hu (pv 3) (pe_op op_or (pv 5) (pv 7)) (fun _ _ => rfl))) (pe_dget hu (pv 3) (pe_op op_or (pv 5) (pv 8)) (fun _ _ => rfl)))) pa_nil)))))), ?_⟩
    have nnd := asc_nodup hasc
    have gl := groups_len hasc
    have p32 : 2 ^ ns.length ≤ 32 := Nat.le_trans (Nat.pow_le_pow_right (by decide) n5) (by decide)
    have rl : (((groupsOf ns).map W).map V.int).length = 2 ^ ns.length := by
      rw [List.length_map, List.length_map, gl]
    refine ⟨_, rfl, a, _, rfl, .inr (.inl (.inl ha)), _, rfl, _, _, rfl, rfl, ns.length, ?_, by omega, by omega, fun Bd nB => ?_⟩
    · rw [rl, log_pow]
      show [V.int (((ns.length + 1 : Nat) : Int) - 1)] = _
      rw [show ((ns.length + 1 : Nat) : Int) - 1 = (ns.length : Int) by omega]
    refine lc_it walk_range (fun i H2 => Same H H2 ∧ H2 Bd = some (.lst ((bitsL 0 i).map V.int))) ⟨same_new nB, upd_same⟩ (fun _ _ _ _ => trivial) (fun i x H2 H3 hi hP hY => ?_) (fun H2 hP => ?_)
    · obtain ⟨s2, hB⟩ := hP
      obtain ⟨rfl, ex⟩ := hY
      obtain rfl : x = V.int (i : Int) := ex.trans (congrArg V.int (Int.zero_add _))
      refine ⟨rfl, _, rfl, _, _, rfl, rfl, ⟨by omega, by omega, by decide⟩, _, hB, ?_, fun c o e => ?_, ?_⟩
      · rw [List.length_map, bits_len]
        exact small1000 (by omega)
      · rw [upd_ne (ne_of_none e nB)]
        exact s2 _ _ e
      · rw [upd_same]
        unfold bitsL
        rw [List.range'_concat, List.map_append, List.map_append]
        simp
    · obtain ⟨s2, hB⟩ := hP
      have hB : H2 Bd = some (.lst ((bitsL 0 ns.length).map V.int)) := hB
      refine ⟨_, rfl, Bd, bitsL 0 ns.length, rfl, .inl (.inl hB), by rw [bits_len]; omega, fun Nd H3 s3 nN hN => ?_⟩
      rw [sums_bits nnd, ← groupsOf_lex hasc] at hN
      have hB3 := s3 _ _ hB
      have s13 := s2.trans s3
      have ha3 := s13 _ _ ha
      refine ⟨_, rfl, _, rfl, Nd, a, _, _, rfl, .inl (.inl hN), .inl (.inl ha3), fun Dd nD => ?_⟩
      have nl : (((groupsOf ns).map fun g => (maskN ns g : Int)).map V.int).length = 2 ^ ns.length := by
        rw [List.length_map, List.length_map, gl]
      have inj : ∀ {g : Grp}, g ∈ groupsOf ns → ∀ b ∈ groupsOf ns, maskN ns b = maskN ns g → b = g := fun hg b hb e => mask_inj hasc hb hg e
      refine dx_it (walk_zX (t := false) (u := true) (xs := ((groupsOf ns).map fun g => (maskN ns g : Int)).map V.int) (ys := ((groupsOf ns).map W).map V.int) (n := 2 ^ ns.length) (by rw [nl, rl, Nat.min_self])) (fun j H4 => Same H3 H4 ∧ H4 Dd = some (.dK (mDict ns ((groupsOf ns).take j) W)))
        ⟨same_new nD, upd_same⟩ (fun j H4 hj hP => ⟨.inl (.inl (hP.1 _ _ hN)), .inl (.inl (hP.1 _ _ ha3))⟩) (fun j x H4 H5 hj hP hY => ?_) (fun H4 hP => ?_)
      · obtain ⟨s4, hD⟩ := hP
        obtain ⟨t, x0, y0, rfl, nt, rfl, hx, hy⟩ := hY
        have hjl : j < (groupsOf ns).length := by rw [gl]; exact hj
        obtain ⟨g, hg⟩ : ∃ g, (groupsOf ns)[j]? = some g := ⟨_, List.getElem?_eq_getElem hjl⟩
        obtain rfl : x0 = V.int (maskN ns g : Int) := by
          rw [List.getElem?_map, List.getElem?_map, hg] at hx
          exact (Option.some.inj hx).symm
        obtain rfl : y0 = V.int (W g) := by
          rw [List.getElem?_map, List.getElem?_map, hg] at hy
          exact (Option.some.inj hy).symm
        have st := same_new (o := HO.tup [V.int (maskN ns g : Int), V.int (W g)]) nt
        refine ⟨t, _, rfl, .inl (.inl upd_same), rfl, _, _, rfl, _, _, rfl, rfl, rfl, _, rfl, _, rfl, _, DPut.k (k := Sum.inl (maskN ns g : Int)) (st _ _ hD) (small1000 (by rw [mDict_len, List.length_take]; omega)), fun c o e => ?_, ?_⟩
        · rw [upd_ne (ne_of_none e nD)]
          exact st _ _ (s4 _ _ e)
        · have gnd : (groupsOf ns).Nodup := groups_nodup nnd
          have out : ∀ b ∈ (groupsOf ns).take j, maskN ns b ≠ maskN ns g := fun b hb e => by
            have eb := inj (List.mem_of_getElem? hg) b (List.mem_of_mem_take hb) e
            subst eb
            obtain ⟨i, hi⟩ := List.getElem?_of_mem hb
            rw [List.getElem?_take] at hi
            split at hi
            · have a1 := gnd.idxOf_getElem j hjl
              obtain ⟨li, ei⟩ := List.getElem?_eq_some_iff.mp hi
              have a2 := gnd.idxOf_getElem i li
              rw [(List.getElem?_eq_some_iff.mp hg).2] at a1
              rw [ei] at a2
              omega
            · cases hi
          rw [upd_same, putK_new _ (mDict_out out), List.take_add_one, hg]
          show _ = some (HO.dK (mDict ns ((groupsOf ns).take j ++ [g]) W))
          rw [mDict_app]
          rfl
      · obtain ⟨s4, hD⟩ := hP
        rw [← gl, List.take_length] at hD
        have hN4 := s4 _ _ hN
        have hB4 := s4 _ _ hB3
        have s14 := s13.trans s4
        refine ⟨_, rfl, Nd, rfl, ⟨_, .inl (.inl hN4)⟩, fun Ad nA => ?_⟩
        have dget : ∀ {H' : Hp} {g : Grp}, H' Dd = some (.dK (mDict ns (groupsOf ns) W)) → g ∈ groupsOf ns → DGet H' Dd (.int (maskN ns g : Int)) (some (.int (W g))) := fun e hg => .inl ⟨_, Sum.inl _, .inl e, rfl, (mDict_in (inj hg) hg).symm⟩
        have gP := pairs_len ns
        have pl : (pairsOf ns).length ≤ 25 := Nat.le_trans gP (Nat.mul_le_mul n5 n5)
        -- what stands in the list behind the groups ahead, and so many pairs of this one
        have small : ∀ {j : Nat} {g : Grp} {ps qs : List (Str × Str)}, j ≤ 32 → ps.length ≤ 25 → qs.length ≤ 25 → ((((groupsOf ns).take j).flatMap fun g => gapsFor W g (pairsOf ns)) ++ gapsFor W g ps ++ gapsFor W g qs).length ≤ 1000 := fun {j g ps qs} hj hp hq => by
          rw [List.length_append, List.length_append]
          have f := flat_len (fun g => gapsFor W g (pairsOf ns)) 25 ((groupsOf ns).take j) fun g _ => Nat.le_trans (gapsFor_len W g _) pl
          have l1 := gapsFor_len W g ps
          have l2 := gapsFor_len W g qs
          rw [List.length_take] at f
          have m1 : min j (groupsOf ns).length ≤ 32 := by omega
          have := Nat.mul_le_mul_right 25 m1
          omega
        refine loop_it (walk_list (xs := ((groupsOf ns).map fun g => (maskN ns g : Int)).map V.int)) (fun j H5 => Same H4 H5 ∧ H5 Ad = some (.lst ((((groupsOf ns).take j).flatMap fun g => gapsFor W g (pairsOf ns)).map V.int)))
          ⟨same_new nA, upd_same⟩ (fun j H5 hj hP => .inl (.inl (hP.1 _ _ hN4))) (fun j x H5 H6 hj hP hY => ?_) (fun H5 hP => ?_)
        · obtain ⟨s5, hA⟩ := hP
          obtain ⟨rfl, hx⟩ := hY
          have hjl : j < (groupsOf ns).length := by rw [gl, ← nl]; exact hj
          obtain ⟨g, hg⟩ : ∃ g, (groupsOf ns)[j]? = some g := ⟨_, List.getElem?_eq_getElem hjl⟩
          obtain rfl : x = V.int (maskN ns g : Int) := by
            rw [List.getElem?_map, List.getElem?_map, hg] at hx
            exact (Option.some.inj hx).symm
          have hgm := List.mem_of_getElem? hg
          refine ⟨rfl, ?_⟩
          generalize hσ : List.set (wipe (((List.set (L2.start n_gaps_of [V.ref a]) 1 (some (V.ref Bd))).set 2 (some (V.ref Nd))).set 3 (some (V.ref Dd))) _) 5 (some (V.int (maskN ns g : Int))) = σ1
          obtain rfl : [some (V.ref a), some (V.ref Bd), some (V.ref Nd), some (V.ref Dd), none, some (V.int (maskN ns g : Int)), none, none, none] = σ1 := by
            rw [← hσ]
            rfl
          clear hσ
          refine ⟨_, rfl, Bd, _, rfl, .inl (.inl (s5 _ _ hB4)), ?_⟩
          have bl : ((bitsL 0 ns.length).map V.int).length = ns.length := by rw [List.length_map, bits_len]
          refine loop_it walk_enum (fun k H7 => Same H4 H7 ∧ H7 Ad = some (.lst (((((groupsOf ns).take j).flatMap fun g => gapsFor W g (pairsOf ns)) ++ gapsFor W g (pairsTo ns k)).map V.int)))
            ⟨s5, by rw [hA, pairsTo_zero]; simp [gapsFor]⟩ (fun k H7 hk hP => .inl (.inl (hP.1 _ _ hB4))) (fun k x H7 H8 hk hP hY => ?_) (fun H7 hP => ?_)
          · obtain ⟨s7, hA7⟩ := hP
            obtain ⟨t, x0, y0, rfl, nt, rfl, ex0, hx⟩ := hY
            obtain rfl := Option.some.inj ex0
            have hk' : k < ns.length := by rw [bl] at hk; exact hk
            obtain ⟨n, hn⟩ : ∃ n, ns[k]? = some n := ⟨_, List.getElem?_eq_getElem hk'⟩
            obtain rfl : y0 = V.int ((2 ^ k : Nat) : Int) := by
              have hx : ((bitsL 0 ns.length).map V.int)[k]? = some y0 := hx
              rw [List.getElem?_map, bits_at hk'] at hx
              exact (Option.some.inj hx).symm
            have st := same_new (o := HO.tup [V.int (k : Nat), V.int ((2 ^ k : Nat) : Int)]) nt
            refine ⟨t, _, rfl, .inl (.inl upd_same), rfl, _, _, rfl, _, _, rfl, rfl, rfl, ?_⟩
            generalize hσ : List.set (List.set (wipe _ [4, 7, 8]) 4 (some (V.int (k : Nat)))) 7 (some (V.int ((2 ^ k : Nat) : Int))) = σ2
            obtain rfl : [some (V.ref a), some (V.ref Bd), some (V.ref Nd), some (V.ref Dd), some (V.int (k : Nat)), some (V.int (maskN ns g : Int)), none, some (V.int ((2 ^ k : Nat) : Int)), none] = σ2 := by
              rw [← hσ]
              rfl
            clear hσ
            have s8 := s7.trans st
            refine ⟨_, rfl, _, rfl, _, _, rfl, rfl, _, rfl, Bd, _, rfl, .inl (.inl (s8 _ _ hB4)), fun Sd nS => ?_⟩
            generalize hcv : cutV ((bitsL 0 ns.length).map V.int) (some ((k : Int) + 1)) none = cv
            obtain rfl : ((bitsL 0 ns.length).drop (k + 1)).map V.int = cv := by
              rw [← hcv, show ((k : Int) + 1) = ((k + 1 : Nat) : Int) by omega, cutV_from _ _ (by rw [bl]; omega), List.map_drop]
            clear hcv
            have hS8 := upd_same (H := upd H7 t (.tup [V.int (k : Nat), V.int ((2 ^ k : Nat) : Int)])) (a := Sd) (o := HO.lst (((bitsL 0 ns.length).drop (k + 1)).map V.int))
            have sS := same_new (o := HO.lst (((bitsL 0 ns.length).drop (k + 1)).map V.int)) nS
            have hA8 := sS _ _ (st _ _ hA7)
            have s9 := s8.trans sS
            generalize upd (upd H7 t (.tup [V.int (k : Nat), V.int ((2 ^ k : Nat) : Int)])) Sd (.lst (((bitsL 0 ns.length).drop (k + 1)).map V.int)) = H9 at hS8 sS hA8 s9
            have nSA : Sd ≠ Ad := (ne_of_none (st _ _ hA7) nS).symm
            have dl : (((bitsL 0 ns.length).drop (k + 1)).map V.int).length = ns.length - (k + 1) := by
              rw [List.length_map, List.length_drop, bits_len]
            refine ⟨Sd, rfl, ⟨_, .inl (.inl hS8)⟩, ?_⟩
            refine loop_it (walk_list (xs := ((bitsL 0 ns.length).drop (k + 1)).map V.int)) (fun i Hi => Same H4 Hi ∧ Hi Sd = some (.lst (((bitsL 0 ns.length).drop (k + 1)).map V.int)) ∧ Hi Ad = some (.lst (((((groupsOf ns).take j).flatMap fun g => gapsFor W g (pairsOf ns)) ++ gapsFor W g (pairsTo ns k) ++ gapsFor W g (((ns.drop (k + 1)).take i).map fun m => (n, m))).map V.int)))
              ⟨s9, hS8, by rw [hA8]; simp [gapsFor]⟩ (fun i Hi hi hP => .inl (.inl hP.2.1)) (fun i x Hi Hj hi hP hY => ?_) (fun Hi hP => ?_)
            · obtain ⟨si, hSi, hAi⟩ := hP
              obtain ⟨rfl, hx⟩ := hY
              have hil : k + 1 + i < ns.length := by
                rw [dl] at hi
                omega
              obtain ⟨m, hm⟩ : ∃ m, ns[k + 1 + i]? = some m := ⟨_, List.getElem?_eq_getElem hil⟩
              obtain rfl : x = V.int ((2 ^ (k + 1 + i) : Nat) : Int) := by
                rw [List.getElem?_map, List.getElem?_drop, bits_at hil] at hx
                exact (Option.some.inj hx).symm
              refine ⟨rfl, ?_⟩
              generalize hσ : List.set (wipe _ [8]) 8 (some (V.int ((2 ^ (k + 1 + i) : Nat) : Int))) = σ3
              obtain rfl : [some (V.ref a), some (V.ref Bd), some (V.ref Nd), some (V.ref Dd), some (V.int (k : Nat)), some (V.int (maskN ns g : Int)), none, some (V.int ((2 ^ k : Nat) : Int)), some (V.int ((2 ^ (k + 1 + i) : Nat) : Int))] = σ3 := by
                rw [← hσ]
                rfl
              clear hσ
              have kb : (!(Builtin.bitAnd (maskN ns g : Int) (Builtin.bitOr ((2 ^ k : Nat) : Int) ((2 ^ (k + 1 + i) : Nat) : Int)) != 0)) = keepB g (n, m) := by
                rw [or_nat, and_nat]
                unfold keepB
                rw [Bool.eq_iff_iff, Bool.and_eq_true, decide_eq_true_iff, decide_eq_true_iff, ← mask_and nnd hn hm]
                constructor
                · intro e
                  by_cases z : maskN ns g &&& (2 ^ k ||| 2 ^ (k + 1 + i)) = 0
                  · exact z
                  · have : (((maskN ns g &&& (2 ^ k ||| 2 ^ (k + 1 + i)) : Nat) : Int) != 0) = true := by
                      rw [bne_iff_ne]
                      omega
                    rw [this] at e
                    exact absurd e (by decide)
                · intro e
                  rw [e]
                  rfl
              have more : ((ns.drop (k + 1)).take (i + 1)).map (fun m => (n, m)) = ((ns.drop (k + 1)).take i).map (fun m => (n, m)) ++ [(n, m)] := by
                rw [List.take_add_one, List.getElem?_drop, hm, List.map_append]
                rfl
              refine ⟨_, rfl, _, rfl, _, rfl, _, _, rfl, rfl, _, _, rfl, rfl, _, rfl, ?_⟩
              show if (!(Builtin.bitAnd (maskN ns g : Int) (Builtin.bitOr ((2 ^ k : Nat) : Int) ((2 ^ (k + 1 + i) : Nat) : Int)) != 0)) = true then _ else _
              rw [kb]
              refine ite2 (fun b => ?_) (fun b => ?_)
              · have kk : n ∉ g ∧ m ∉ g := by
                  unfold keepB at b
                  rw [Bool.and_eq_true, decide_eq_true_iff, decide_eq_true_iff] at b
                  exact b
                have lt : ltS n m := by
                  obtain ⟨l1, e1⟩ := List.getElem?_eq_some_iff.mp hn
                  obtain ⟨l2, e2⟩ := List.getElem?_eq_some_iff.mp hm
                  have := List.pairwise_iff_getElem.mp hasc k (k + 1 + i) l1 l2 (by omega)
                  rw [e1, e2] at this
                  exact this
                have ht : (g, n, m) ∈ trisOf ns := (mem_tris hasc).mpr ⟨hgm, List.mem_of_getElem? hn, List.mem_of_getElem? hm, lt, kk.1, kk.2⟩
                obtain ⟨i1, i2, i3, i4, i5⟩ := tri_groups hasc ht
                have srt : ∀ {h : Grp}, maskN ns (sortN h) = maskN ns h := fun {h} => mask_congr fun x => (List.mergeSort_perm _ _).mem_iff
                have hD9 : Hj Dd = some (.dK (mDict ns (groupsOf ns) W)) := si _ _ hD
                have d1 := dget hD9 i1
                have d2 := dget hD9 i2
                have d3 := dget hD9 i3
                have d4 := dget hD9 hgm
                rw [srt] at d1 d2 d3
                have q1 : maskN ns (g ++ [n, m]) = maskN ns g ||| 2 ^ k ||| 2 ^ (k + 1 + i) := by
                  rw [mask_or nnd hn, mask_or nnd hm, List.append_assoc]
                  rfl
                have q2 : maskN ns (g ++ [n]) = maskN ns g ||| 2 ^ k := (mask_or nnd hn).symm
                have q3 : maskN ns (g ++ [m]) = maskN ns g ||| 2 ^ (k + 1 + i) := (mask_or nnd hm).symm
                rw [show maskN ns ((g, n, m).1 ++ [(g, n, m).2.1, (g, n, m).2.2]) = _ from q1, ← or_nat, ← or_nat] at d1
                rw [show maskN ns ((g, n, m).1 ++ [(g, n, m).2.1]) = _ from q2, ← or_nat] at d2
                rw [show maskN ns ((g, n, m).1 ++ [(g, n, m).2.2]) = _ from q3, ← or_nat] at d3
                refine ⟨_, rfl, _, rfl, _, rfl, _, _, rfl, rfl, _, rfl, _, _, rfl, rfl, Dd, _, rfl, d1, ?_⟩
                refine ⟨_, rfl, _, rfl, Dd, _, rfl, d4, _, _, rfl, rfl, ?_⟩
                refine ⟨_, rfl, _, rfl, _, rfl, _, _, rfl, rfl, Dd, _, rfl, d2, _, _, rfl, rfl, ?_⟩
                refine ⟨_, rfl, _, rfl, _, rfl, _, _, rfl, rfl, Dd, _, rfl, d3, _, _, rfl, rfl, ?_⟩
                refine ⟨_, hAi, ?_, fun c o e => ?_, ?_, ?_⟩
                · rw [List.length_map]
                  refine small1000 (small (by omega) (Nat.le_trans (pairsTo_len (Nat.le_of_lt hk')) (Nat.le_trans (Nat.mul_le_mul (show k ≤ 5 by omega) n5) (by decide))) ?_)
                  rw [List.length_map, List.length_take, List.length_drop]
                  omega
                · rw [upd_ne (ne_of_none e nA)]
                  exact si _ _ e
                · rw [upd_ne nSA]
                  exact hSi
                · rw [upd_same, more, gapsFor_app]
                  have z : gapsFor W g [(n, m)] = [gapOf W (g, n, m)] := by
                    unfold gapsFor
                    rw [List.filter_cons_of_pos b]
                    rfl
                  rw [z, ← List.append_assoc, List.map_append (l₂ := [gapOf W (g, n, m)])]
                  rfl
              · refine ⟨si, hSi, ?_⟩
                rw [hAi, more, gapsFor_app]
                have z : gapsFor W g [(n, m)] = [] := by
                  unfold gapsFor
                  rw [List.filter_cons_of_neg b]
                  rfl
                rw [z, List.append_nil]
            · obtain ⟨si, hSi, hAi⟩ := hP
              have tl : (ns.drop (k + 1)).take (ns.length - (k + 1)) = ns.drop (k + 1) := List.take_of_length_le (by rw [List.length_drop]; exact Nat.le_refl _)
              rw [dl, tl] at hAi
              refine ⟨si, ?_⟩
              rw [hAi, pairsTo_next hn, gapsFor_app, List.append_assoc]
          · obtain ⟨s7, hA7⟩ := hP
            rw [bl, pairsTo_all] at hA7
            refine ⟨s7, ?_⟩
            rw [hA7, List.take_add_one, hg, List.flatMap_append]
            simp
        · obtain ⟨s5, hA⟩ := hP
          rw [nl, ← gl, List.take_length, gaps_all] at hA
          refine ⟨Ad, _, rfl, .inl ⟨.inl (.inl hA), fun q nq => ?_⟩⟩
          have s15 := s14.trans s5
          exact k q _ (s15.trans (same_new nq)) (s15.free nq) upd_same
/-! ### the property gaps, is_growing, is_shrinking, is_additive -/
/-- the gaps are found once, and kept by the game -/
def spGapsP (C : Addr) : Sp := fun vs H Q _ => ∃ (p : Addr) (ns : List Str) (W : Grp → Int), vs = [.ref p] ∧ GameAt C H p ns W ∧ Nms 5 ns ∧
  ∀ (q : Addr) (H' : Hp), Kp p H H' → GameAt C H' p ns W → H' q = some (.tup (((trisOf ns).map (gapOf W)).map V.int)) → Q (.ref q) H'
theorem ok_p_gaps {C a0 aO aS : Addr} {fd fdO fdS : FuncData} (T : Txt mg) (DC : Cl_Game K mg C) (D : Dpr K C "gaps" "Game.gaps" s_Game_gaps p_Game_gaps a0 fd) (DO : Df K mg "gaps_of" s_gaps_of p_gaps_of aO fdO) (DS : Df K mg "sums" s_sums p_sums aS fdS) :
    FnOk P w K mg base CX0 3 a0 fd p_Game_gaps (spGapsP C) := by
  have GO : FnOk P w K mg base CX0 2 aO fdO p_gaps_of spGapsOf := ok_gaps_of T DO DS
  refine D.F.ok c_Game_gaps (fun vs H Q E h => ?_) (fun cdv A outer s H vs Q E hr h => ?_)
  · obtain ⟨p, ns, W, rfl, _⟩ := h
    rfl
  · obtain ⟨p, ns, W, rfl, hG, hns, k⟩ := h
    obtain ⟨dx, tn, gq, wq, ts, rq, gv, h1, h2, h3, h4, h5, h6, h7, h8⟩ := hG.ex
    refine ⟨_, pss_cons (ps_if (pt_cmpR op_isN (pe_fld (pv 0) rfl) pe_non (nomark _)) (pss_one (ps_fld (pv 0) (dcall DO GO hr (pa_cons (pe_fld (pv 0) rfl) pa_nil)) rfl)) pss_nil)
      (pss_one (ps_ret (pe_fld (pv 0) rfl))), ?_⟩
    refine ⟨_, rfl, p, C, dx, _, _, rfl, h1, DC.dc.cl, DC.n__gaps, gf_gaps _ _ _ _ _, rfl, _, rfl, ?_⟩
    rcases id h8 with rfl | ⟨q, rfl, hq⟩
    · refine ite2 (fun _ => ?_) (fun e => absurd (decide_eq_true rfl) e)
      refine ⟨_, rfl, p, C, dx, _, _, rfl, h1, DC.dc.cl, DC.n__row, gf_row _ _ _ _ _, rq, ns, W, rfl, h7, hns.asc, hns.most, fun q H1 s1 nq hq => ?_⟩
      refine ⟨_, rfl, p, C, dx, _, rfl, s1 _ _ h1, DC.dc.cl, DC.n__gaps, (by show 5 < 1000; decide), ?_⟩
      rw [gf_put6]
      have kp : Kp p H (upd H1 p (.ins C dx (gflds tn gq wq rq (.ref q)))) := fun b o n e => (upd_ne n).trans (s1 _ _ e)
      have nt : ∀ {b : Addr} {xs : List V}, H b = some (.tup xs) → b ≠ p := fun e => ne_of e h1 (by intro z; cases z)
      have nq : q ≠ p := (ne_of_none h1 nq).symm
      have hq2 : (upd H1 p (.ins C dx (gflds tn gq wq rq (.ref q)))) q = some (.tup (((trisOf ns).map (gapOf W)).map V.int)) := (upd_ne nq).trans hq
      have nop : ∀ xs, H1 p ≠ some (.tup xs) := fun xs e => by
        rw [s1 _ _ h1] at e
        cases e
      have hG2 : GameAt C (upd H1 p (.ins C dx (gflds tn gq wq rq (.ref q)))) p ns W := ⟨dx, tn, gq, wq, ts, rq, .ref q, upd_same, kp _ _ (nt h2) h2, kp _ _ (nt h3) h3, (h4.same s1).upd nop, h5, kp _ _ (ne_of h6 h1 (by intro z; cases z)) h6, kp _ _ (nt h7) h7, .inr ⟨q, rfl, hq2⟩⟩
      refine ⟨_, rfl, p, C, dx, _, _, rfl, upd_same, DC.dc.cl, DC.n__gaps, gf_gaps _ _ _ _ _, ?_⟩
      exact k q _ kp hG2 hq2
    · refine ite2 (fun e => absurd (of_decide_eq_true e) (by intro z; cases z)) (fun _ => ?_)
      refine ⟨_, rfl, p, C, dx, _, _, rfl, h1, DC.dc.cl, DC.n__gaps, gf_gaps _ _ _ _ _, ?_⟩
      exact k q H (Kp.refl _ _) hG hq
def spJudge (C : Addr) (B : Int → Bool) : Sp := fun vs H Q _ => ∃ (p : Addr) (ns : List Str) (W : Grp → Int), vs = [.ref p] ∧ GameAt C H p ns W ∧ Nms 5 ns ∧
  ∀ (H' : Hp), Kp p H H' → GameAt C H' p ns W → Q (.bl (((trisOf ns).map (gapOf W)).all B)) H'
theorem ok_is_growing {C a0 aK aG aO aS : Addr} {fd fdK fdG fdO fdS : FuncData} (T : Txt mg) (DC : Cl_Game K mg C) (D : Df K mg "is_growing" s_is_growing p_is_growing a0 fd) (DK : Df K mg "check_game" s_check_game p_check_game aK fdK) (DG : Dpr K C "gaps" "Game.gaps" s_Game_gaps p_Game_gaps aG fdG)
    (DO : Df K mg "gaps_of" s_gaps_of p_gaps_of aO fdO) (DS : Df K mg "sums" s_sums p_sums aS fdS) : FnOk P w K mg base CX0 5 a0 fd p_is_growing (spJudge C fun z => decide (0 ≤ z)) := by
  have GK : FnOk P w K mg base CX0 1 aK fdK p_check_game (spCheckGame C) := ok_check_game T DC DK
  have GG : FnOk P w K mg base CX0 3 aG fdG p_Game_gaps (spGapsP C) := ok_p_gaps T DC DG DO DS
  obtain ⟨pp, hpr⟩ := DG.pr
  refine D.F.ok c_is_growing (fun vs H Q E h => ?_) (fun cdv A outer s H vs Q E hr h => ?_)
  · obtain ⟨p, ns, W, rfl, _⟩ := h
    rfl
  · obtain ⟨p, ns, W, rfl, hG, hns, k⟩ := h
    have nd := c_is_growing.nd
    have hr1 : Room 1 (A.deeper (envOfC "is_growing" (defScope s_is_growing) s.heap.objs.size a0 cdv)) := hr.mono (by decide)
    refine ⟨_, pss_cons (ps_expr (dcall DK GK hr1 (pa_cons (pv 0) pa_nil)))
      (pss_one (ps_ret (pe_callB (cr_all rfl) (by rfl) T.b_all boot_all (pa_cons (pe_lc (own := [("told", 1)]) (g := gName 1) (tt := tYes) (te := tOp (rI0 fun i j => .bl (decide (i ≥ j))) (tVar 1) (tC (.int 0))) rfl nd (pi_tup (pe_prop (pv 0) DC.dc.cl hpr GG hr DG.b .nil pass0 rfl)) (blkOk_by (own := [("told", 1)]) (N := n_is_growing) (sc := defScope s_is_growing) (by decide +kernel))
        (fun _ _ _ _ _ => pg_name (i := 1) nd rfl (Or.inl rfl)) (fun _ _ _ _ _ => pts_nil) (fun _ _ _ _ _ => pe_cmpR op_ge (pv 1) pe_int (nomark _))) pa_nil)))), ?_⟩
    obtain ⟨dx, tn, gq, wq, ts, rq, gv, h1, _⟩ := hG.ex
    refine ⟨_, rfl, p, ns, W, rfl, hG, _, rfl, p, dx, _, rfl, h1, p, ns, W, rfl, hG, hns, fun q H1 kp hG1 hq => ⟨q, rfl, ⟨_, .inl (.inl hq)⟩, fun Ad nA => ?_⟩⟩
    have n5 := hns.most
    have tl := tris_len n5
    refine lc_it (walk_tup (xs := ((trisOf ns).map (gapOf W)).map V.int)) (fun i H2 => Same H1 H2 ∧ H2 Ad = some (.lst (((((trisOf ns).map (gapOf W)).take i).map fun z => decide (0 ≤ z)).map V.bl))) ⟨same_new nA, upd_same⟩ (fun i H2 hi hP => .inl (.inl (hP.1 _ _ hq))) (fun i x H2 H3 hi hP hY => ?_) (fun H2 hP => ?_)
    · obtain ⟨s2, hA⟩ := hP
      obtain ⟨rfl, hx⟩ := hY
      obtain ⟨z, hz, rfl⟩ : ∃ z, ((trisOf ns).map (gapOf W))[i]? = some z ∧ x = V.int z := by
        rw [List.getElem?_map] at hx
        cases e : ((trisOf ns).map (gapOf W))[i]? with
        | none => rw [e] at hx; cases hx
        | some z => rw [e] at hx; exact ⟨z, rfl, (Option.some.inj hx).symm⟩
      refine ⟨rfl, _, rfl, _, _, rfl, rfl, _, hA, ?_, fun b o e => ?_, ?_⟩
      · rw [List.length_map, List.length_map, List.length_take, List.length_map]
        exact small1000 (by omega)
      · rw [upd_ne (ne_of_none e nA)]
        exact s2 _ _ e
      · rw [upd_same, List.take_add_one, hz, List.map_append, List.map_append]
        rfl
    · obtain ⟨s2, hA⟩ := hP
      rw [List.length_map, List.take_length] at hA
      refine ⟨Ad, _, rfl, .inl (.inl hA), ?_⟩
      rw [List.all_map]
      exact k H2 (kp.trans (Same.kp s2)) (hG1.same s2)
theorem ok_is_shrinking {C a0 aK aG aO aS : Addr} {fd fdK fdG fdO fdS : FuncData} (T : Txt mg) (DC : Cl_Game K mg C) (D : Df K mg "is_shrinking" s_is_shrinking p_is_shrinking a0 fd) (DK : Df K mg "check_game" s_check_game p_check_game aK fdK) (DG : Dpr K C "gaps" "Game.gaps" s_Game_gaps p_Game_gaps aG fdG)
    (DO : Df K mg "gaps_of" s_gaps_of p_gaps_of aO fdO) (DS : Df K mg "sums" s_sums p_sums aS fdS) : FnOk P w K mg base CX0 5 a0 fd p_is_shrinking (spJudge C fun z => decide (z ≤ 0)) := by
  have GK : FnOk P w K mg base CX0 1 aK fdK p_check_game (spCheckGame C) := ok_check_game T DC DK
  have GG : FnOk P w K mg base CX0 3 aG fdG p_Game_gaps (spGapsP C) := ok_p_gaps T DC DG DO DS
  obtain ⟨pp, hpr⟩ := DG.pr
  refine D.F.ok c_is_shrinking (fun vs H Q E h => ?_) (fun cdv A outer s H vs Q E hr h => ?_)
  · obtain ⟨p, ns, W, rfl, _⟩ := h
    rfl
  · obtain ⟨p, ns, W, rfl, hG, hns, k⟩ := h
    have nd := c_is_shrinking.nd
    have hr1 : Room 1 (A.deeper (envOfC "is_shrinking" (defScope s_is_shrinking) s.heap.objs.size a0 cdv)) := hr.mono (by decide)
    refine ⟨_, pss_cons (ps_expr (dcall DK GK hr1 (pa_cons (pv 0) pa_nil)))
      (pss_one (ps_ret (pe_callB (cr_all rfl) (by rfl) T.b_all boot_all (pa_cons (pe_lc (own := [("told", 1)]) (g := gName 1) (tt := tYes) (te := tOp (rI0 fun i j => .bl (decide (i ≤ j))) (tVar 1) (tC (.int 0))) rfl nd (pi_tup (pe_prop (pv 0) DC.dc.cl hpr GG hr DG.b .nil pass0 rfl)) (blkOk_by (own := [("told", 1)]) (N := n_is_shrinking) (sc := defScope s_is_shrinking) (by decide +kernel))
        (fun _ _ _ _ _ => pg_name (i := 1) nd rfl (Or.inl rfl)) (fun _ _ _ _ _ => pts_nil) (fun _ _ _ _ _ => pe_cmpR op_le (pv 1) pe_int (nomark _))) pa_nil)))), ?_⟩
    obtain ⟨dx, tn, gq, wq, ts, rq, gv, h1, _⟩ := hG.ex
    refine ⟨_, rfl, p, ns, W, rfl, hG, _, rfl, p, dx, _, rfl, h1, p, ns, W, rfl, hG, hns, fun q H1 kp hG1 hq => ⟨q, rfl, ⟨_, .inl (.inl hq)⟩, fun Ad nA => ?_⟩⟩
    have n5 := hns.most
    have tl := tris_len n5
    refine lc_it (walk_tup (xs := ((trisOf ns).map (gapOf W)).map V.int)) (fun i H2 => Same H1 H2 ∧ H2 Ad = some (.lst (((((trisOf ns).map (gapOf W)).take i).map fun z => decide (z ≤ 0)).map V.bl))) ⟨same_new nA, upd_same⟩ (fun i H2 hi hP => .inl (.inl (hP.1 _ _ hq))) (fun i x H2 H3 hi hP hY => ?_) (fun H2 hP => ?_)
    · obtain ⟨s2, hA⟩ := hP
      obtain ⟨rfl, hx⟩ := hY
      obtain ⟨z, hz, rfl⟩ : ∃ z, ((trisOf ns).map (gapOf W))[i]? = some z ∧ x = V.int z := by
        rw [List.getElem?_map] at hx
        cases e : ((trisOf ns).map (gapOf W))[i]? with
        | none => rw [e] at hx; cases hx
        | some z => rw [e] at hx; exact ⟨z, rfl, (Option.some.inj hx).symm⟩
      refine ⟨rfl, _, rfl, _, _, rfl, rfl, _, hA, ?_, fun b o e => ?_, ?_⟩
      · rw [List.length_map, List.length_map, List.length_take, List.length_map]
        exact small1000 (by omega)
      · rw [upd_ne (ne_of_none e nA)]
        exact s2 _ _ e
      · rw [upd_same, List.take_add_one, hz, List.map_append, List.map_append]
        rfl
    · obtain ⟨s2, hA⟩ := hP
      rw [List.length_map, List.take_length] at hA
      refine ⟨Ad, _, rfl, .inl (.inl hA), ?_⟩
      rw [List.all_map]
      exact k H2 (kp.trans (Same.kp s2)) (hG1.same s2)
theorem ok_is_additive {C a0 aA aB aK aG aO aS : Addr} {fd fdA fdB fdK fdG fdO fdS : FuncData} (T : Txt mg) (DC : Cl_Game K mg C) (D : Df K mg "is_additive" s_is_additive p_is_additive a0 fd) (DA : Df K mg "is_growing" s_is_growing p_is_growing aA fdA) (DB : Df K mg "is_shrinking" s_is_shrinking p_is_shrinking aB fdB)
    (DK : Df K mg "check_game" s_check_game p_check_game aK fdK) (DG : Dpr K C "gaps" "Game.gaps" s_Game_gaps p_Game_gaps aG fdG) (DO : Df K mg "gaps_of" s_gaps_of p_gaps_of aO fdO) (DS : Df K mg "sums" s_sums p_sums aS fdS) : FnOk P w K mg base CX0 6 a0 fd p_is_additive (spJudge C fun z => decide (z = 0)) := by
  have GA : FnOk P w K mg base CX0 5 aA fdA p_is_growing (spJudge C fun z => decide (0 ≤ z)) := ok_is_growing T DC DA DK DG DO DS
  have GB : FnOk P w K mg base CX0 5 aB fdB p_is_shrinking (spJudge C fun z => decide (z ≤ 0)) := ok_is_shrinking T DC DB DK DG DO DS
  refine D.F.ok c_is_additive (fun vs H Q E h => ?_) (fun cdv A outer s H vs Q E hr h => ?_)
  · obtain ⟨p, ns, W, rfl, _⟩ := h
    rfl
  · obtain ⟨p, ns, W, rfl, hG, hns, k⟩ := h
    refine ⟨_, pss_one (ps_ret (pe_and (dcall DA GA hr (pa_cons (pv 0) pa_nil)) (pe_one (dcall DB GB hr (pa_cons (pv 0) pa_nil))))), ?_⟩
    generalize hl : (trisOf ns).map (gapOf W) = l at k
    refine ⟨_, rfl, p, ns, W, rfl, hG, hns, fun H1 kp1 hG1 => ⟨_, rfl, ?_⟩⟩
    rw [hl]
    refine ite2 (fun e => ?_) (fun e => ?_)
    · refine ⟨_, rfl, p, ns, W, rfl, hG1, hns, fun H2 kp2 hG2 => ?_⟩
      rw [hl]
      have z : (l.all fun z => decide (z ≤ 0)) = l.all fun z => decide (z = 0) := by
        rw [Bool.eq_iff_iff, List.all_eq_true, List.all_eq_true]
        rw [List.all_eq_true] at e
        constructor
        · intro q x m
          have a := of_decide_eq_true (e x m)
          have b := of_decide_eq_true (q x m)
          exact decide_eq_true (by omega)
        · intro q x m
          have b := of_decide_eq_true (q x m)
          exact decide_eq_true (by omega)
      first
        | exact ⟨_, rfl, z ▸ k H2 (kp1.trans kp2) hG2⟩
        | exact z ▸ k H2 (kp1.trans kp2) hG2
    · have z : (l.all fun z => decide (z = 0)) = false := by
        rw [Bool.eq_false_iff]
        intro q
        refine e (List.all_eq_true.mpr fun x m => ?_)
        have b := of_decide_eq_true (List.all_eq_true.mp q x m)
        exact decide_eq_true (by omega)
      have r := k H1 kp1 hG1
      rw [z] at r
      exact r
/-! ### _law_with -/
/-- a group with one person more -/
def withG (g : Grp) (n : Str) : Grp := (g ++ [n]).mergeSort leS
def spWith (K : PySem.W.Frag) : Sp := fun vs H Q _ => ∃ (a : Addr) (g : Grp) (n : Str), vs = [.ref a, .str n] ∧ H a = some (.tup (g.map V.str)) ∧ g.length ≤ 50 ∧ ∀ (q : Addr) (H' : Hp), Same H H' → H q = none → H' q = some (.tup ((withG g n).map V.str)) → Q (.ref q) H'
theorem ok_with {a0 : Addr} {fd : FuncData} (T : Txt mg) (D : Df K mg "_law_with" s__law_with p__law_with a0 fd) : FnOk P w K mg base CX0 1 a0 fd p__law_with (spWith K) := by
  refine D.F.ok c__law_with (fun vs H Q E h => ?_) (fun cdv A outer s H vs Q E hr h => ?_)
  · obtain ⟨a, g, n, rfl, _⟩ := h
    rfl
  · obtain ⟨a, g, n, rfl, ha, hl, k⟩ := h
    refine ⟨_, pss_one (ps_ret (pe_callTy call_tuple_of (by rfl) T.b_tuple boot_tuple (pa_cons (pe_callB (cr_sortS hr.units) (by rfl) T.b_sorted boot_sorted (pa_cons (pe_mid (pe_op op_catA (pv 0) (pe_tup (pa_cons (pv 1) pa_nil)))) pa_nil)) pa_nil))), ?_⟩
    refine ⟨fun v H' => ∃ c : Addr, v = .ref c ∧ Same H H' ∧ H' c = some (.tup ((g ++ [n]).map V.str)), ?_, ?_⟩
    · refine ⟨_, rfl, _, rfl, (by show 1 ≤ sizeLine; decide), fun b nb => ?_⟩
      have sb := same_new (o := HO.tup [V.str n]) nb
      refine ⟨_, _, g.map V.str, [V.str n], rfl, rfl, .inl (.inl (sb _ _ ha)), .inl (.inl upd_same), ?_, fun e => ⟨b, rfl, sb, ?_⟩, fun _ e => (by cases e), fun _ _ q nq => ⟨q, rfl, sb.trans (same_new nq), ?_⟩⟩
      · rw [List.length_map]
        show g.length + 1 ≤ sizeLine
        exact Nat.le_trans (Nat.add_le_add_right hl 1) (by decide)
      · rw [List.map_append, e]
        exact upd_same
      · rw [upd_same, List.map_append]
        rfl
    · rintro v H1 ⟨c, rfl, s1, hc⟩
      refine ⟨c, _, rfl, .inr (.inl (.inl hc)), fun q nq => ⟨q, _, rfl, .inl ⟨.inl (.inl upd_same), fun t nt => ?_⟩⟩⟩
      have s2 := s1.trans (same_new (o := HO.lst (((g ++ [n]).mergeSort leS).map V.str)) nq)
      exact k t _ (s2.trans (same_new nt)) (s2.free nt) upd_same
/-! ### _law_breaks, _law_is_growing -/
def spBreaks : Sp := fun vs H Q _ => ∃ (pl tn wq : Addr) (ns : List Str) (W : Grp → Int), vs = [.ref pl] ∧ PlainAt H pl tn wq ns W ∧ Nms 5 ns ∧
  ∀ (q : Addr) (H' : Hp) (l : List (Addr × Addr × Tri)), Same H H' → H q = none → H' q = some (.lst (trefs l)) → TrAt H' l → tris l = brAll ns W → Q (.ref q) H'
set_option maxHeartbeats 4000000 in
theorem ok_breaks {a0 aG aH : Addr} {fd fdG fdH : FuncData} (T : Txt mg) (D : Df K mg "_law_breaks" s__law_breaks p__law_breaks a0 fd) (DG : Df K mg "_law_groups" s__law_groups p__law_groups aG fdG) (DH : Df K mg "_law_with" s__law_with p__law_with aH fdH) :
    FnOk P w K mg base CX0 2 a0 fd p__law_breaks spBreaks := by
  have GG : FnOk P w K mg base CX0 1 aG fdG p__law_groups (spGroups K) := ok_lgroups T DG
  have GH : FnOk P w K mg base CX0 1 aH fdH p__law_with (spWith K) := ok_with T DH
  refine D.F.ok c__law_breaks (fun vs H Q E h => ?_) (fun cdv A outer s H vs Q E hr h => ?_)
  · obtain ⟨pl, tn, wq, ns, W, rfl, _⟩ := h
    rfl
  · obtain ⟨pl, tn, wq, ns, W, rfl, hpl, hns, k⟩ := h
    have nd := c__law_breaks.nd
    have hu := hu_of hr
    refine ⟨_, pss_cons (ps_par3 (by rfl) nd (i := 1) (j := 2) (l := 3) rfl rfl rfl (by decide) (by decide) (by decide) rfl rfl rfl (pa_cons (pe_dget hu (pv 0) pe_str (fun _ _ => rfl)) (pa_cons (pe_dget hu (pv 0) pe_str (fun _ _ => rfl)) (pa_cons (pe_lst pa_nil) pa_nil))) (by rfl))
      (pss_cons (ps_for PassesOwn.never rfl (pi_list (dcall DG GG hr (pa_cons (pv 1) pa_nil))) (pg_name (i := 4) nd rfl (Or.inr rfl))
        (pss_cons (ps_setLc (i := 5) (own := [("name", 9)]) (g := gName 9) (tt := tTest (tOp (rIn K true) (tVar 9) (tVar 4))) (te := tVar 9) rfl nd rfl rfl (sw_true rfl rfl rfl (by decide +kernel)) (pi_tup (pv 1))
            (blkOk_by (own := [("name", 9)]) (N := n__law_breaks) (sc := defScope s__law_breaks) (by decide +kernel)) (fun _ _ _ _ _ => pg_name (i := 9) nd rfl (Or.inl rfl)) (fun _ _ _ _ _ => pts_one (pt_cmpR op_notIn_seq (pv 9) (pv 4) (by rfl))) (fun _ _ _ _ _ => pv 9))
        (pss_one (ps_for PassesOwn.never rfl (pi_list (pv 5)) (pg_name (i := 6) nd rfl (Or.inr rfl))
          (pss_one (ps_for PassesOwn.never rfl (pi_list (pe_lc (own := [("name", 9)]) (g := gName 9) (tt := tTest (tOp rNe (tVar 9) (tVar 6))) (te := tVar 9) rfl nd (pi_list (pv 5))
              (blkOk_by (own := [("name", 9)]) (N := n__law_breaks) (sc := defScope s__law_breaks) (by decide +kernel)) (fun _ _ _ _ _ => pg_name (i := 9) nd rfl (Or.inl rfl)) (fun _ _ _ _ _ => pts_one (pt_cmpR op_ne (pv 9) (pv 6) (nomark _))) (fun _ _ _ _ _ => pv 9))) (pg_name (i := 7) nd rfl (Or.inl rfl))
            (pss_cons (ps_set (i := 8) nd rfl (.inl rfl) (dcall DH GH hr (pa_cons (pv 4) (pa_cons (pv 7) pa_nil))))
            (pss_one (ps_if (pt_cmpR op_lt (pe_op op_sub (pe_dget hu (pv 2) (dcall DH GH hr (pa_cons (pv 8) (pa_cons (pv 6) pa_nil))) (fun _ _ => rfl)) (pe_dget hu (pv 2) (pv 8) (fun _ _ => rfl)))
                (pe_op op_sub (pe_dget hu (pv 2) (dcall DH GH hr (pa_cons (pv 4) (pa_cons (pv 6) pa_nil))) (fun _ _ => rfl)) (pe_dget hu (pv 2) (pv 4) (fun _ _ => rfl))) (nomark _))
              (pss_one (ps_expr (pe_bm PySem.F.plainAttrs_list PySem.F.slot_list_append PySem.F.type_list_append mt_append (pv 3) (pa_cons (pe_tup (pa_cons (pv 4) (pa_cons (pv 6) (pa_cons (pv 7) pa_nil)))) pa_nil)))) pss_nil)))))))))
      (pss_one (ps_ret (pv 3)))), ?_⟩
    have gn : ∀ {H' : Hp} {a tn wq : Addr}, Rd H' a (.dK (plainD tn wq)) → DGet H' a (.str "names") (some (.ref tn)) := fun e => .inl ⟨_, Sum.inr _, e, rfl, (plain_names _ _).symm⟩
    have gp : ∀ {H' : Hp} {a tn wq : Addr}, Rd H' a (.dK (plainD tn wq)) → DGet H' a (.str "worths") (some (.ref wq)) := fun e => .inl ⟨_, Sum.inr _, e, rfl, (plain_worths _ _).symm⟩
    have n5 := hns.most
    have g32 := groups_small n5
    refine ⟨_, rfl, pl, .ref tn, rfl, gn (.inl hpl.d), _, rfl, pl, .ref wq, rfl, gp (.inl hpl.d), ?_⟩
    refine ⟨Nat.zero_le _, fun q nq => ⟨_, _, _, rfl, ?_⟩⟩
    have sq := same_new (o := HO.lst []) nq
    have hq0 : (upd H q (.lst [])) q = some (.lst []) := upd_same
    generalize upd H q (.lst []) = H0 at sq hq0
    have hpl0 := hpl.same sq
    refine ⟨_, rfl, tn, ns, rfl, .inl (.inl hpl0.n), by omega, fun gq H1 ts s1 ngq hgq ht hts => ⟨gq, rfl, ⟨_, .inl (.inl hgq)⟩, ?_⟩⟩
    have hpl1 := hpl0.same s1
    have hq1 := s1 _ _ hq0
    have nwqq : wq ≠ q := ne_of hpl1.w hq1 (by intro z; cases z)
    have ntnq : tn ≠ q := ne_of hpl1.n hq1 (by intro z; cases z)
    have ngqq : gq ≠ q := (ne_of_none hq0 ngq).symm
    have hlV : (ns.map V.str).length = ns.length := List.length_map ..
    have gw : ∀ {H' : Hp} {g : Grp} {r : Addr}, H' wq = some (.dT (wDict (groupsOf ns) W)) → H' r = some (.tup (g.map V.str)) → g ∈ groupsOf ns → DGet H' wq (.ref r) (some (.int (W g))) := fun {H' g r} e er m =>
      .inr ⟨_, kG g, r, .inl e, rfl, (by rw [kG_V]; exact er), (wDict_in m).symm⟩
    refine for_list (K := K) (a := gq) (xs := refs ts) (fun i σ H5 => ∃ (l : List (Addr × Addr × Tri)) (y4 y5 y6 y7 y8 y9 : Option V), σ = [some (.ref pl), some (.ref tn), some (.ref wq), some (.ref q), y4, y5, y6, y7, y8, y9] ∧ H5 q = some (.lst (trefs l)) ∧ TrAt H5 l ∧ tris l = ((groupsOf ns).take i).flatMap (brG ns W) ∧ Kp q H1 H5)
      ⟨[], _, _, _, _, _, _, rfl, hq1, .nil, rfl, .refl _ _⟩ (fun i σ H5 hi hP => ?_) (fun i x σ H5 hx hP => ?_) (fun σ H5 hP => ?_)
    · obtain ⟨l, y4, y5, y6, y7, y8, y9, rfl, _, _, _, kp⟩ := hP
      exact .inl (.inl (kp _ _ ngqq hgq))
    · obtain ⟨l, y4, y5, y6, y7, y8, y9, rfl, hq5, hl5, hd5, kp⟩ := hP
      obtain ⟨t, htj, rfl, hgj⟩ := refs_at' hx hts
      have hg1 := ht.get htj
      have ngq1 : t.1 ≠ q := ne_of hg1 hq1 (by intro z; cases z)
      have hg5 := kp _ _ ngq1 hg1
      have hpn5 := kp _ _ ntnq hpl1.n
      have gm : t.2 ∈ groupsOf ns := List.mem_of_getElem? hgj
      have gl : t.2.length ≤ 5 := Nat.le_trans (groups_mem.mp gm).length_le n5
      have ll : l.length ≤ 32 * 25 := by
        have e := congrArg List.length hd5
        have f := flat_len (brG ns W) 25 ((groupsOf ns).take i) fun g _ => brG_len n5 _ (Nat.le_trans (rest_len ns g) n5)
        rw [show (tris l).length = l.length from List.length_map ..] at e
        rw [List.length_take] at f
        have : min i (groupsOf ns).length ≤ 32 := by omega
        have := Nat.mul_le_mul_right 25 this
        omega
      refine ⟨_, rfl, tn, rfl, ⟨_, .inl (.inl hpn5)⟩, fun Ad nA => ?_⟩
      refine lc_it (walk_tup (xs := ns.map V.str)) (fun j H6 => Same H5 H6 ∧ H6 Ad = some (.lst (((ns.take j).filter fun n => decide (n ∉ t.2)).map V.str))) ⟨same_new nA, upd_same⟩ (fun j H6 hj hP => .inl (.inl (hP.1 _ _ hpn5))) (fun j x H6 H7 hj hP hY => ?_) (fun H6 hP => ?_)
      · obtain ⟨s6, hA⟩ := hP
        obtain ⟨rfl, hx⟩ := hY
        obtain ⟨n, hn, rfl⟩ := str_at hx
        refine ⟨rfl, _, rfl, _, rfl, t.1, _, rfl, .inr (.inl (.inl (s6 _ _ hg5))), rfl, flat_names _, _, rfl, ?_⟩
        rw [if_pos rfl, inV_names]
        refine ite2 (fun b => ?_) (fun b => ?_)
        · refine ⟨_, rfl, _, hA, small1000 ?_, fun c o e => ?_, ?_⟩
          · rw [List.length_map]
            refine Nat.le_trans (List.length_filter_le _ _) ?_
            rw [List.length_take]
            omega
          · rw [upd_ne (ne_of_none e nA)]
            exact s6 _ _ e
          · rw [upd_same, List.take_add_one, hn]
            show _ = some (HO.lst (((ns.take j ++ [n]).filter fun n => decide (n ∉ t.2)).map V.str))
            rw [List.filter_append, List.filter_cons_of_pos (p := fun n => decide (n ∉ t.2)) (by rw [decide_not]; exact b), List.map_append]
            rfl
        · refine ⟨s6, ?_⟩
          rw [hA, List.take_add_one, hn]
          show _ = some (HO.lst (((ns.take j ++ [n]).filter fun n => decide (n ∉ t.2)).map V.str))
          rw [List.filter_append, List.filter_cons_of_neg (p := fun n => decide (n ∉ t.2)) (by rw [decide_not]; exact b)]
          show _ = some (HO.lst (((ns.take j).filter (fun n => decide (n ∉ t.2)) ++ []).map V.str))
          rw [List.append_nil]
      · obtain ⟨s6, hA⟩ := hP
        rw [hlV, List.take_length] at hA
        have hA : H6 Ad = some (.lst ((restOf ns t.2).map V.str)) := hA
        have kp6 : Kp q H1 H6 := kp.trans (Same.kp s6)
        have nAq : Ad ≠ q := (ne_of_none hq5 nA).symm
        have rl := Nat.le_trans (rest_len ns t.2) n5
        have rV : ((restOf ns t.2).map V.str).length = (restOf ns t.2).length := List.length_map ..
        refine ⟨_, rfl, Ad, rfl, ⟨_, .inl (.inl hA)⟩, ?_⟩
        refine for_list (K := K) (a := Ad) (xs := (restOf ns t.2).map V.str) (fun j σ H7 => ∃ (l' : List (Addr × Addr × Tri)) (y6 y7 y8 y9 : Option V), σ = [some (.ref pl), some (.ref tn), some (.ref wq), some (.ref q), some (.ref t.1), some (.ref Ad), y6, y7, y8, y9] ∧ H7 q = some (.lst (trefs l')) ∧ TrAt H7 l' ∧ tris l' = tris l ++ ((restOf ns t.2).take j).flatMap (brFor ns W t.2) ∧ Kp q H6 H7)
          ⟨l, _, _, _, _, rfl, s6 _ _ hq5, hl5.same s6, by simp, .refl _ _⟩ (fun j σ H7 hj hP => ?_) (fun j x σ H7 hx hP => ?_) (fun σ H7 hP => ?_)
        · obtain ⟨_, y6, y7, y8, y9, rfl, _, _, _, kp7⟩ := hP
          exact .inl (.inl (kp7 _ _ nAq hA))
        · obtain ⟨l', y6, y7, y8, y9, rfl, hq7, hl7, hd7, kp7⟩ := hP
          obtain ⟨n, hn, rfl⟩ := str_at hx
          have hA7 := kp7 _ _ nAq hA
          have hg7 := kp7 _ _ ngq1 (s6 _ _ hg5)
          have nr := List.mem_filter.mp (List.mem_of_getElem? hn)
          have nin : n ∈ ns := nr.1
          have nng : n ∉ t.2 := of_decide_eq_true nr.2
          refine ⟨_, rfl, Ad, rfl, ⟨_, .inl (.inl hA7)⟩, fun Cd nC => ?_⟩
          refine lc_it (walk_list (xs := (restOf ns t.2).map V.str)) (fun m H8 => Same H7 H8 ∧ H8 Cd = some (.lst ((((restOf ns t.2).take m).filter fun z => decide (z ≠ n)).map V.str))) ⟨same_new nC, upd_same⟩ (fun m H8 hm hP => .inl (.inl (hP.1 _ _ hA7))) (fun m x H8 H9 hm hP hY => ?_) (fun H8 hP => ?_)
          · obtain ⟨s8, hC⟩ := hP
            obtain ⟨rfl, hx⟩ := hY
            obtain ⟨z, hz, rfl⟩ := str_at hx
            refine ⟨rfl, _, rfl, _, rfl, rfl, _, rfl, ?_⟩
            refine ite2 (fun b => ?_) (fun b => ?_)
            · have b : z ≠ n := fun e => by
                rw [e] at b
                simp at b
              refine ⟨_, rfl, _, hC, small1000 ?_, fun c o e => ?_, ?_⟩
              · rw [List.length_map]
                refine Nat.le_trans (List.length_filter_le _ _) ?_
                rw [List.length_take]
                omega
              · rw [upd_ne (ne_of_none e nC)]
                exact s8 _ _ e
              · rw [upd_same, List.take_add_one, hz]
                show _ = some (HO.lst ((((restOf ns t.2).take m ++ [z]).filter fun z => decide (z ≠ n)).map V.str))
                rw [List.filter_append, List.filter_cons_of_pos (p := fun z => decide (z ≠ n)) (decide_eq_true b), List.map_append]
                rfl
            · have b : z = n := Classical.byContradiction fun e => b (by
                have : V.str z ≠ V.str n := fun q => e (V.str.inj q)
                rw [decide_eq_false this]
                rfl)
              refine ⟨s8, ?_⟩
              rw [hC, List.take_add_one, hz]
              show _ = some (HO.lst ((((restOf ns t.2).take m ++ [z]).filter fun z => decide (z ≠ n)).map V.str))
              rw [List.filter_append, List.filter_cons_of_neg (p := fun z => decide (z ≠ n)) (fun e => of_decide_eq_true e b)]
              show _ = some (HO.lst ((((restOf ns t.2).take m).filter (fun z => decide (z ≠ n)) ++ []).map V.str))
              rw [List.append_nil]
          · obtain ⟨s8, hC⟩ := hP
            rw [rV, List.take_length] at hC
            have nCq : Cd ≠ q := (ne_of_none hq7 nC).symm
            refine ⟨Cd, rfl, ⟨_, .inl (.inl hC)⟩, ?_⟩
            let cs : List Str := (restOf ns t.2).filter fun z => decide (z ≠ n)
            have hC : H8 Cd = some (.lst (cs.map V.str)) := hC
            have cl : cs.length ≤ 5 := Nat.le_trans (List.length_filter_le _ _) rl
            have l7 : l'.length ≤ 32 * 25 + 25 := by
              have e := congrArg List.length hd7
              have f := brG_len (W := W) (g := t.2) n5 ((restOf ns t.2).take j) (by rw [List.length_take]; omega)
              rw [List.length_append, show (tris l').length = l'.length from List.length_map .., show (tris l).length = l.length from List.length_map ..] at e
              omega
            refine for_list (K := K) (a := Cd) (xs := cs.map V.str) (fun m σ H9 => ∃ (l2 : List (Addr × Addr × Tri)) (y7 y8 y9 : Option V), σ = [some (.ref pl), some (.ref tn), some (.ref wq), some (.ref q), some (.ref t.1), some (.ref Ad), some (.str n), y7, y8, y9] ∧ H9 q = some (.lst (trefs l2)) ∧ TrAt H9 l2 ∧ tris l2 = tris l' ++ ((cs.take m).filter fun z => decide (BrP W t.2 n z)).map (fun z => (t.2, n, z)) ∧ Kp q H8 H9)
              ⟨l', _, _, _, rfl, s8 _ _ hq7, hl7.same s8, by simp, .refl _ _⟩ (fun m σ H9 hm hP => ?_) (fun m x σ H9 hx hP => ?_) (fun σ H9 hP => ?_)
            · obtain ⟨_, y7, y8, y9, rfl, _, _, _, kp9⟩ := hP
              exact .inl (.inl (kp9 _ _ nCq hC))
            · obtain ⟨l2, y7, y8, y9, rfl, hq9, hl9, hd9, kp9⟩ := hP
              obtain ⟨z, hz, rfl⟩ := str_at hx
              have zr := List.mem_filter.mp (List.mem_of_getElem? hz)
              have zr2 := List.mem_filter.mp zr.1
              have zin : z ∈ ns := zr2.1
              have zng : z ∉ t.2 := of_decide_eq_true zr2.2
              have zne : z ≠ n := of_decide_eq_true zr.2
              have kp19 : Kp q H1 H9 := kp6.trans (kp7.trans ((Same.kp s8).trans kp9))
              have hg9 := kp19 _ _ ngq1 hg1
              have hw9 := kp19 _ _ nwqq hpl1.w
              have wg : withG t.2 z ∈ groupsOf ns := with_in hns.asc gm zin zng
              have wl : (withG t.2 z).length ≤ 5 := Nat.le_trans (groups_mem.mp wg).length_le n5
              have nw : n ∉ withG t.2 z := fun q => by
                rcases List.mem_append.mp ((List.mergeSort_perm (t.2 ++ [z]) leS).mem_iff.mp q) with q | q
                · exact nng q
                · exact zne (List.mem_singleton.mp q).symm
              refine ⟨_, rfl, _, rfl, t.1, t.2, z, rfl, hg9, by omega, fun u1 HA sA nu1 hu1 => ?_⟩
              refine ⟨_, rfl, _, rfl, _, rfl, u1, withG t.2 z, n, rfl, hu1, by omega, fun u2 HB sB nu2 hu2 => ?_⟩
              have sAB := sA.trans sB
              refine ⟨wq, _, rfl, gw (sAB _ _ hw9) hu2 (with_in hns.asc wg nin nw), _, rfl, _, rfl, wq, _, rfl, gw (sAB _ _ hw9) (sB _ _ hu1) wg, _, _, rfl, rfl, ?_⟩
              refine ⟨_, rfl, _, rfl, _, rfl, t.1, t.2, n, rfl, sAB _ _ hg9, by omega, fun u3 HD sD nu3 hu3 => ?_⟩
              have sAD := sAB.trans sD
              have ng := with_in hns.asc gm nin nng
              refine ⟨wq, _, rfl, gw (sAD _ _ hw9) hu3 ng, _, rfl, _, rfl, wq, _, rfl, gw (sAD _ _ hw9) (sAD _ _ hg9) gm, _, _, rfl, rfl, _, _, rfl, rfl, _, rfl, ?_⟩
              have hqD := sAD _ _ hq9
              have l9 : l2.length ≤ 32 * 25 + 30 := by
                have e := congrArg List.length hd9
                have f := List.length_filter_le (fun z => decide (BrP W t.2 n z)) (cs.take m)
                rw [List.length_append, show (tris l2).length = l2.length from List.length_map .., show (tris l').length = l'.length from List.length_map .., List.length_map] at e
                rw [List.length_take] at f
                omega
              refine ite2 (fun b => ?_) (fun b => ?_)
              · have b : decide (BrP W t.2 n z) = true := b
                refine ⟨_, rfl, .inl ⟨rfl, _, .inl (.inl hqD)⟩, _, rfl, _, rfl, _, rfl, (by show 3 ≤ sizeLine; decide), fun r nr => ?_⟩
                have sr := same_new (o := HO.tup [V.ref t.1, .str n, .str z]) nr
                have nqr : ∀ xs, (upd HD r (.tup [V.ref t.1, .str n, .str z])) q ≠ some (.tup xs) := fun xs e => by
                  rw [sr _ _ hqD] at e
                  cases e
                refine ⟨q, _, _, rfl, rfl, sr _ _ hqD, small1000 (by rw [show (trefs l2).length = l2.length from List.length_map ..]; omega), l2 ++ [(r, t.1, t.2, n, z)], _, _, _, rfl, ?_, ?_, ?_, ?_⟩
                · rw [upd_same, trefs_app]
                  rfl
                · refine (TrAt.app ((hl9.same sAD).same sr) fun t' m' => ?_).upd nqr
                  rw [List.mem_singleton.mp m']
                  exact ⟨upd_same, sr _ _ (sAD _ _ hg9)⟩
                · rw [tris_app, hd9, List.take_add_one, hz, List.append_assoc]
                  show _ = _ ++ ((cs.take m ++ [z]).filter fun z => decide (BrP W t.2 n z)).map _
                  rw [List.filter_append, List.filter_cons_of_pos (p := fun z => decide (BrP W t.2 n z)) b, List.map_append]
                  rfl
                · exact kp9.trans ((Same.kp (sAD.trans sr)).trans (.upd _))
              · have b : decide (BrP W t.2 n z) = false := Bool.eq_false_iff.mpr b
                refine ⟨l2, _, _, _, rfl, hqD, hl9.same sAD, ?_, kp9.trans (Same.kp sAD)⟩
                rw [hd9, List.take_add_one, hz]
                show _ = _ ++ ((cs.take m ++ [z]).filter fun z => decide (BrP W t.2 n z)).map _
                rw [List.filter_append, List.filter_cons_of_neg (p := fun z => decide (BrP W t.2 n z)) (by rw [b]; exact Bool.false_ne_true)]
                show _ = _ ++ ((cs.take m).filter (fun z => decide (BrP W t.2 n z)) ++ []).map _
                rw [List.append_nil]
            · obtain ⟨l2, y7, y8, y9, rfl, hq9, hl9, hd9, kp9⟩ := hP
              have cV : (cs.map V.str).length = cs.length := List.length_map ..
              rw [cV, List.take_length] at hd9
              refine ⟨l2, _, _, _, _, rfl, hq9, hl9, ?_, kp7.trans ((Same.kp s8).trans kp9)⟩
              rw [hd9, hd7, flat_take _ hn, List.append_assoc]
              rfl
        · obtain ⟨l', y6, y7, y8, y9, rfl, hq7, hl7, hd7, kp7⟩ := hP
          rw [rV, List.take_length] at hd7
          exact ⟨l', _, _, _, _, _, _, rfl, hq7, hl7, by rw [hd7, hd5, flat_take _ hgj]; rfl, kp6.trans kp7⟩
    · obtain ⟨l, y4, y5, y6, y7, y8, y9, rfl, hq5, hl5, hd5, kp⟩ := hP
      have tl : (refs ts).length = (groupsOf ns).length := by
        rw [← hts, List.length_map, List.length_map]
      rw [tl, List.take_length] at hd5
      exact ⟨_, rfl, k q H5 l (fun b o e => kp _ _ (ne_of_none e nq) (s1 _ _ (sq _ _ e))) nq hq5 hl5 hd5⟩
def spIsGrowing : Sp := fun vs H Q _ => ∃ (pl tn wq : Addr) (ns : List Str) (W : Grp → Int), vs = [.ref pl] ∧ PlainAt H pl tn wq ns W ∧ Nms 5 ns ∧ ∀ (b : Bool) (H' : Hp), Same H H' → (b = true ↔ Smod ns W) → Q (.bl b) H'
theorem ok_lgrowing {a0 aB aG aH : Addr} {fd fdB fdG fdH : FuncData} (T : Txt mg) (D : Df K mg "_law_is_growing" s__law_is_growing p__law_is_growing a0 fd) (DB : Df K mg "_law_breaks" s__law_breaks p__law_breaks aB fdB) (DG : Df K mg "_law_groups" s__law_groups p__law_groups aG fdG) (DH : Df K mg "_law_with" s__law_with p__law_with aH fdH) :
    FnOk P w K mg base CX0 3 a0 fd p__law_is_growing spIsGrowing := by
  have GB : FnOk P w K mg base CX0 2 aB fdB p__law_breaks spBreaks := ok_breaks T DB DG DH
  refine D.F.ok c__law_is_growing (fun vs H Q E h => ?_) (fun cdv A outer s H vs Q E hr h => ?_)
  · obtain ⟨pl, tn, wq, ns, W, rfl, _⟩ := h
    rfl
  · obtain ⟨pl, tn, wq, ns, W, rfl, hpl, hns, k⟩ := h
    refine ⟨_, pss_one (ps_ret (pe_cmpR (op_eqD hr.units) (dcall DB GB hr (pa_cons (pv 0) pa_nil)) (pe_lst pa_nil) (nomark _))), ?_⟩
    refine ⟨_, rfl, pl, tn, wq, ns, W, rfl, hpl, hns, fun q H1 l s1 nq hq hl hd => ⟨Nat.zero_le _, fun z nz => ?_⟩⟩
    have sz := same_new (o := HO.lst []) nz
    refine ⟨.list ((tris l).map trD), .list [], .lst (.inl (.inl (sz _ _ hq))) (dp_tris (hl.same sz)), .lst (.inl (.inl upd_same)) .nil, ?_, rfl, ?_⟩
    · rw [hd]
      exact tris_shaped (br_ok hns)
    · refine k _ _ (s1.trans sz) ?_
      rw [eqv_empty, hd, ← brAll_nil hns.asc, List.isEmpty_iff, List.map_eq_nil_iff]
/-! ### union, common -/
def spUnion (K : PySem.W.Frag) : Sp := fun vs H Q _ => ∃ (a b : Addr) (ns : List Str) (g h : Grp), vs = [.ref a, .ref b] ∧ H a = some (.tup (g.map V.str)) ∧ H b = some (.tup (h.map V.str)) ∧ Nms 5 ns ∧ g ∈ groupsOf ns ∧ h ∈ groupsOf ns ∧
  ∀ (q : Addr) (H' : Hp), Same H H' → H' q = some (.tup ((uniG ns g h).map V.str)) → Q (.ref q) H'
theorem ok_union {a0 : Addr} {fd : FuncData} (T : Txt mg) (D : Df K mg "union" s_union p_union a0 fd) : FnOk P w K mg base CX0 1 a0 fd p_union (spUnion K) := by
  refine D.F.ok c_union (fun vs H Q E h => ?_) (fun cdv A outer s H vs Q E hr h => ?_)
  · obtain ⟨a, b, ns, g, h, rfl, _⟩ := h
    rfl
  · obtain ⟨a, b, ns, g, h, rfl, ha, hb, hns, hg, hh, k⟩ := h
    refine ⟨_, pss_one (ps_ret (pe_callTy call_tuple_of (by rfl) T.b_tuple boot_tuple (pa_cons (pe_callB (cr_sortedS rfl hr.units) (by rfl) T.b_sorted boot_sorted (pa_cons (pe_callTy (cr_setOfS rfl) (by rfl) T.b_set boot_setS (pa_cons (pe_op op_catU (pv 0) (pv 1)) pa_nil)) pa_nil)) pa_nil))), ?_⟩
    have l1 := (groups_mem.mp hg).length_le
    have l2 := (groups_mem.mp hh).length_le
    have n5 := hns.most
    refine ⟨_, rfl, _, rfl, a, b, _, _, rfl, rfl, ha, hb, ?_, fun r H1 s1 hr1 => ?_⟩
    · rw [List.length_map, List.length_map]
      exact Nat.le_trans (show g.length + h.length ≤ 1000 by omega) (by decide)
    rw [← List.map_append] at hr1
    refine ⟨r, g ++ h, rfl, .inl (.inl hr1), by rw [List.length_append]; omega, fun S l nS nd ll m => ?_⟩
    refine ⟨S, l, rfl, upd_same, ?_, fun p np => ?_⟩
    · rw [List.length_append] at ll
      omega
    rw [uni_sort hns.asc hg hh nd m]
    have sS := same_new (o := SetSO P w S l) nS
    have sp := same_new (o := HO.lst ((uniG ns g h).map V.str)) np
    refine ⟨p, _, rfl, .inl ⟨.inl (.inl upd_same), fun q nq => ?_⟩⟩
    exact k q _ (s1.trans (sS.trans (sp.trans (same_new nq)))) upd_same
def spCommon (K : PySem.W.Frag) : Sp := fun vs H Q _ => ∃ (a b : Addr) (g h : Grp), vs = [.ref a, .ref b] ∧ H a = some (.tup (g.map V.str)) ∧ H b = some (.tup (h.map V.str)) ∧ g.length ≤ 100 ∧
  ∀ (q : Addr) (H' : Hp), Same H H' → H' q = some (.tup ((comG g h).map V.str)) → Q (.ref q) H'
theorem ok_common {a0 : Addr} {fd : FuncData} (T : Txt mg) (D : Df K mg "common" s_common p_common a0 fd) : FnOk P w K mg base CX0 1 a0 fd p_common (spCommon K) := by
  refine D.F.ok c_common (fun vs H Q E h => ?_) (fun cdv A outer s H vs Q E hr h => ?_)
  · obtain ⟨a, b, g, h, rfl, _⟩ := h
    rfl
  · obtain ⟨a, b, g, h, rfl, ha, hb, hl, k⟩ := h
    have nd := c_common.nd
    refine ⟨_, pss_one (ps_ret (pe_callTy call_tuple_of (by rfl) T.b_tuple boot_tuple (pa_cons (pe_lc (own := [("person", 2)]) (g := gName 2) (tt := tTest (tOp (rIn K false) (tVar 2) (tVar 1))) (te := tVar 2) rfl nd (pi_tup (pv 0))
          (blkOk_by (own := [("person", 2)]) (N := n_common) (sc := defScope s_common) (by decide +kernel)) (fun _ _ _ _ _ => pg_name (i := 2) nd rfl (Or.inl rfl)) (fun _ _ _ _ _ => pts_one (pt_cmpR op_in_seq (pv 2) (pv 1) (by rfl))) (fun _ _ _ _ _ => pv 2)) pa_nil))), ?_⟩
    refine ⟨_, rfl, a, rfl, ⟨_, .inl (.inl ha)⟩, fun Cd nC => ?_⟩
    have oV : (g.map V.str).length = g.length := List.length_map ..
    refine lc_it (walk_tup (xs := g.map V.str)) (fun j H2 => Same H H2 ∧ H2 Cd = some (.lst ((comG (g.take j) h).map V.str))) ⟨same_new nC, upd_same⟩ (fun j H2 hj hP => .inl (.inl (hP.1 _ _ ha))) (fun j x H2 H3 hj hP hY => ?_) (fun H2 hP => ?_)
    · obtain ⟨s2, hC⟩ := hP
      obtain ⟨rfl, hx⟩ := hY
      obtain ⟨n, hn, rfl⟩ := str_at hx
      refine ⟨rfl, _, rfl, _, rfl, b, _, rfl, .inr (.inl (.inl (s2 _ _ hb))), rfl, flat_names _, _, rfl, ?_⟩
      rw [if_neg (by decide), inV_names]
      have more : comG (g.take (j + 1)) h = comG (g.take j) h ++ [n].filter fun x => decide (x ∈ h) := by
        unfold comG
        rw [List.take_add_one, hn, List.filter_append]
        rfl
      refine ite2 (fun e => ?_) (fun e => ?_)
      · refine ⟨_, rfl, _, hC, ?_, fun c o e' => ?_, ?_⟩
        · rw [List.length_map]
          refine small1000 (Nat.le_trans (List.length_filter_le _ _) ?_)
          rw [List.length_take]
          omega
        · rw [upd_ne (ne_of_none e' nC)]
          exact s2 _ _ e'
        · rw [upd_same, more, List.filter_cons_of_pos (p := fun x => decide (x ∈ h)) e, List.map_append]
          rfl
      · refine ⟨s2, ?_⟩
        rw [hC, more, List.filter_cons_of_neg (p := fun x => decide (x ∈ h)) e]
        show _ = some (HO.lst ((comG (g.take j) h ++ []).map V.str))
        rw [List.append_nil]
    · obtain ⟨s2, hC⟩ := hP
      rw [oV, List.take_length] at hC
      refine ⟨Cd, _, rfl, .inl ⟨.inl (.inl hC), fun q nq => ?_⟩⟩
      exact k q _ (s2.trans (same_new nq)) upd_same
/-! ### is_growing_by -/
def spGrowBy (C : Addr) : Sp := fun vs H Q _ => ∃ (p a b : Addr) (ns : List Str) (W : Grp → Int) (g h : Grp), vs = [.ref p, .ref a, .ref b] ∧ GameAt C H p ns W ∧ Nms 5 ns ∧ H a = some (.tup (g.map V.str)) ∧ H b = some (.tup (h.map V.str)) ∧ g ∈ groupsOf ns ∧ h ∈ groupsOf ns ∧
  ∀ H', Same H H' → Q (.bl (decide (W g + W h ≤ W (uniG ns g h) + W (comG g h)))) H'
theorem ok_growby {C a0 aK aX aU aV aJ aG : Addr} {fd fdK fdX fdU fdV fdJ fdG : FuncData} (T : Txt mg) (DC : Cl_Game K mg C) (D : Df K mg "is_growing_by" s_is_growing_by p_is_growing_by a0 fd) (DK : Df K mg "check_game" s_check_game p_check_game aK fdK)
    (DX : Df K mg "check_group" s_check_group p_check_group aX fdX) (DU : Df K mg "union" s_union p_union aU fdU) (DV : Df K mg "common" s_common p_common aV fdV)
    (DJ : Dm K C "__getitem__" "Game.__getitem__" s_Game___getitem__ p_Game___getitem__ aJ fdJ) (DG : Dpr K C "groups" "Game.groups" s_Game_groups p_Game_groups aG fdG) : FnOk P w K mg base CX0 6 a0 fd p_is_growing_by (spGrowBy C) := by
  have GK : FnOk P w K mg base CX0 1 aK fdK p_check_game (spCheckGame C) := ok_check_game T DC DK
  have GX : FnOk P w K mg base CX0 3 aX fdX p_check_group (spCheckGroup C) := ok_check_group T DC DX DG
  have GU : FnOk P w K mg base CX0 1 aU fdU p_union (spUnion K) := ok_union T DU
  have GV : FnOk P w K mg base CX0 1 aV fdV p_common (spCommon K) := ok_common T DV
  have GJ : FnOk P w K mg base CX0 4 aJ fdJ p_Game___getitem__ (spItem C) := ok_item T DC DJ DX DG
  refine D.F.ok c_is_growing_by (fun vs H Q E h => ?_) (fun cdv A outer s H vs Q E hr h => ?_)
  · obtain ⟨p, a, b, ns, W, g, h, rfl, _⟩ := h
    rfl
  · obtain ⟨p, a, b, ns, W, g, h, rfl, hG, hns, ha, hb, hg, hh, k⟩ := h
    have hr1 : Room 1 (A.deeper (envOfC "is_growing_by" (defScope s_is_growing_by) s.heap.objs.size a0 cdv)) := hr.mono (by decide)
    have hr3 : Room 3 (A.deeper (envOfC "is_growing_by" (defScope s_is_growing_by) s.heap.objs.size a0 cdv)) := hr.mono (by decide)
    refine ⟨_, pss_cons (ps_expr (dcall DK GK hr1 (pa_cons (pv 0) pa_nil)))
      (pss_cons (ps_expr (dcall DX GX hr3 (pa_cons (pv 0) (pa_cons (pv 1) pa_nil))))
      (pss_cons (ps_expr (dcall DX GX hr3 (pa_cons (pv 0) (pa_cons (pv 2) pa_nil))))
      (pss_one (ps_ret (pe_cmpR op_ge (pe_op op_add (pe_item DJ.item GJ hr DJ.b pass0 (pv 0) (dcall DU GU hr1 (pa_cons (pv 1) (pa_cons (pv 2) pa_nil))) (fun _ _ => rfl)) (pe_item DJ.item GJ hr DJ.b pass0 (pv 0) (dcall DV GV hr1 (pa_cons (pv 1) (pa_cons (pv 2) pa_nil))) (fun _ _ => rfl)))
        (pe_op op_add (pe_item DJ.item GJ hr DJ.b pass0 (pv 0) (pv 1) (fun _ _ => rfl)) (pe_item DJ.item GJ hr DJ.b pass0 (pv 0) (pv 2) (fun _ _ => rfl))) (nomark _)))))), ?_⟩
    have gl : g.length ≤ 100 := by
      have := (groups_mem.mp hg).length_le
      have := hns.most
      omega
    refine ⟨_, rfl, p, ns, W, rfl, hG, ?_⟩
    refine ⟨_, rfl, _, rfl, p, a, ns, W, g, rfl, hG, hns, ha, hg, ?_⟩
    refine ⟨_, rfl, _, rfl, p, b, ns, W, h, rfl, hG, hns, hb, hh, ?_⟩
    refine ⟨_, rfl, _, rfl, _, rfl, a, b, ns, g, h, rfl, ha, hb, hns, hg, hh, fun q H1 s1 hq => ?_⟩
    have hG1 := hG.same s1
    obtain ⟨dx, tn, gq, wq, ts, rq, gv, h1, _⟩ := hG1.ex
    refine ⟨p, dx, _, rfl, h1, p, q, ns, W, uniG ns g h, rfl, hG1, hns, hq, uni_in g h, ?_⟩
    refine ⟨_, rfl, _, rfl, _, rfl, a, b, g, h, rfl, s1 _ _ ha, s1 _ _ hb, gl, fun q2 H2 s2 hq2 => ?_⟩
    have hG2 := hG1.same s2
    have h2 := s2 _ _ h1
    have s12 := s1.trans s2
    refine ⟨p, dx, _, rfl, h2, p, q2, ns, W, comG g h, rfl, hG2, hns, hq2, com_in hg h, _, _, rfl, rfl, ?_⟩
    refine ⟨_, rfl, _, rfl, p, dx, _, rfl, h2, p, a, ns, W, g, rfl, hG2, hns, s12 _ _ ha, hg, ?_⟩
    refine ⟨_, rfl, _, rfl, p, dx, _, rfl, h2, p, b, ns, W, h, rfl, hG2, hns, s12 _ _ hb, hh, _, _, rfl, rfl, ?_⟩
    exact ⟨_, _, rfl, rfl, k H2 s12⟩
/-! ### _law_own_tests, _law_own_gap -/
theorem own_len {ns : List Str} (n5 : ns.length ≤ 5) (g : Grp) : ∀ l : List Str, l.length ≤ 5 → (l.flatMap (ownFor ns g)).length ≤ 25 := fun l hl => by
  have h := flat_len (ownFor ns g) 5 l fun n _ => by
    unfold ownFor
    rw [List.length_map]
    exact Nat.le_trans (List.length_filter_le _ _) (Nat.le_trans (rest_len ns g) n5)
  omega
def ownG (ns : List Str) (g : Grp) : List Tri := (restOf ns g).flatMap (ownFor ns g)
def spOwnTests : Sp := fun vs H Q _ => ∃ (pl tn wq : Addr) (ns : List Str) (W : Grp → Int), vs = [.ref pl] ∧ PlainAt H pl tn wq ns W ∧ Nms 5 ns ∧
  ∀ (q : Addr) (H' : Hp) (l : List (Addr × Addr × Tri)), Same H H' → H q = none → H' q = some (.lst (trefs l)) → TrAt H' l → tris l = trisOf ns → Q (.ref q) H'
set_option maxHeartbeats 4000000 in
theorem ok_own_tests {a0 aG : Addr} {fd fdG : FuncData} (T : Txt mg) (D : Df K mg "_law_own_tests" s__law_own_tests p__law_own_tests a0 fd) (DG : Df K mg "_law_groups" s__law_groups p__law_groups aG fdG) : FnOk P w K mg base CX0 2 a0 fd p__law_own_tests spOwnTests := by
  have GG : FnOk P w K mg base CX0 1 aG fdG p__law_groups (spGroups K) := ok_lgroups T DG
  refine D.F.ok c__law_own_tests (fun vs H Q E h => ?_) (fun cdv A outer s H vs Q E hr h => ?_)
  · obtain ⟨pl, tn, wq, ns, W, rfl, _⟩ := h
    rfl
  · obtain ⟨pl, tn, wq, ns, W, rfl, hpl, hns, k⟩ := h
    have nd := c__law_own_tests.nd
    have hu := hu_of hr
    refine ⟨_, pss_cons (ps_set (i := 1) nd rfl (.inl rfl) (pe_lst pa_nil))
      (pss_cons (ps_for PassesOwn.never rfl (pi_list (dcall DG GG hr (pa_cons (pe_dget hu (pv 0) pe_str (fun _ _ => rfl)) pa_nil))) (pg_name (i := 2) nd rfl (Or.inr rfl))
        (pss_cons (ps_setLc (i := 3) (own := [("name", 5)]) (g := gName 5) (tt := tTest (tOp (rIn K true) (tVar 5) (tVar 2))) (te := tVar 5) rfl nd rfl rfl (sw_true rfl rfl rfl (by decide +kernel)) (pi_tup (pe_dget hu (pv 0) pe_str (fun _ _ => rfl)))
            (blkOk_by (own := [("name", 5)]) (N := n__law_own_tests) (sc := defScope s__law_own_tests) (by decide +kernel)) (fun _ _ _ _ _ => pg_name (i := 5) nd rfl (Or.inl rfl)) (fun _ _ _ _ _ => pts_one (pt_cmpR op_notIn_seq (pv 5) (pv 2) (by rfl))) (fun _ _ _ _ _ => pv 5))
        (pss_one (ps_for PassesOwn.never rfl (pi_list (pv 3)) (pg_name (i := 4) nd rfl (Or.inr rfl))
          (pss_one (ps_expr (pe_bm PySem.F.plainAttrs_list PySem.F.slot_list_extend PySem.F.type_list_extend mt_extend (pv 1) (pa_cons (pe_lc (own := [("other", 6)]) (g := gName 6) (tt := tTest (tOp (fun x y H Q => ∃ i j : Str, x = .str i ∧ y = .str j ∧ Q (.bl (decide (i.cps.toList < j.cps.toList))) H) (tVar 4) (tVar 6)))
            (te := tTup (tCons (tVar 2) (tCons (tVar 4) (tCons (tVar 6) tNil)))) rfl nd (pi_list (pv 3))
            (blkOk_by (own := [("other", 6)]) (N := n__law_own_tests) (sc := defScope s__law_own_tests) (by decide +kernel)) (fun _ _ _ _ _ => pg_name (i := 6) nd rfl (Or.inl rfl)) (fun _ _ _ _ _ => pts_one (pt_cmpR op_lt_str (pv 4) (pv 6) (nomark _)))
            (fun _ _ _ _ _ => pe_tup (pa_cons (pv 2) (pa_cons (pv 4) (pa_cons (pv 6) pa_nil))))) pa_nil))))))))
      (pss_one (ps_ret (pv 1)))), ?_⟩
    have gn : ∀ {H' : Hp} {a tn wq : Addr}, Rd H' a (.dK (plainD tn wq)) → DGet H' a (.str "names") (some (.ref tn)) := fun e => .inl ⟨_, Sum.inr _, e, rfl, (plain_names _ _).symm⟩
    have n5 := hns.most
    have g32 := groups_small n5
    refine ⟨Nat.zero_le _, fun q nq => ?_⟩
    have sq := same_new (o := HO.lst []) nq
    have hq0 : (upd H q (.lst [])) q = some (.lst []) := upd_same
    generalize upd H q (.lst []) = H0 at sq hq0
    have hpl0 := hpl.same sq
    refine ⟨_, rfl, pl, .ref tn, rfl, gn (.inl hpl0.d), tn, ns, rfl, .inl (.inl hpl0.n), by omega, fun gq H1 ts s1 ngq hgq ht hts => ⟨gq, rfl, ⟨_, .inl (.inl hgq)⟩, ?_⟩⟩
    have hpl1 := hpl0.same s1
    have hq1 := s1 _ _ hq0
    have nplq : pl ≠ q := ne_of hpl1.d hq1 (by intro z; cases z)
    have ntnq : tn ≠ q := ne_of hpl1.n hq1 (by intro z; cases z)
    have ngqq : gq ≠ q := (ne_of_none hq0 ngq).symm
    have tlen : ts.length ≤ 32 := by
      rw [← List.length_map (f := (·.2)), hts]
      exact g32
    refine for_list (K := K) (a := gq) (xs := refs ts) (fun i σ H5 => ∃ (l : List (Addr × Addr × Tri)) (y2 y3 y4 y5 y6 : Option V), σ = [some (.ref pl), some (.ref q), y2, y3, y4, y5, y6] ∧ H5 q = some (.lst (trefs l)) ∧ TrAt H5 l ∧ tris l = ((groupsOf ns).take i).flatMap (ownG ns) ∧ Kp q H1 H5)
      ⟨[], _, _, _, _, _, rfl, hq1, .nil, rfl, .refl _ _⟩ (fun i σ H5 hi hP => ?_) (fun i x σ H5 hx hP => ?_) (fun σ H5 hP => ?_)
    · obtain ⟨l, y2, y3, y4, y5, y6, rfl, _, _, _, kp⟩ := hP
      exact .inl (.inl (kp _ _ ngqq hgq))
    · obtain ⟨l, y2, y3, y4, y5, y6, rfl, hq5, hl5, hd5, kp⟩ := hP
      obtain ⟨t, htj, rfl, hgj⟩ := refs_at' hx hts
      have hg1 := ht.get htj
      have ngq1 : t.1 ≠ q := ne_of hg1 hq1 (by intro z; cases z)
      have hg5 := kp _ _ ngq1 hg1
      have hpd5 := kp _ _ nplq hpl1.d
      have hpn5 := kp _ _ ntnq hpl1.n
      have ll : l.length ≤ 32 * 25 := by
        have e := congrArg List.length hd5
        have f := flat_len (ownG ns) 25 ((groupsOf ns).take i) fun g _ => own_len n5 g _ (Nat.le_trans (rest_len ns g) n5)
        rw [show (tris l).length = l.length from List.length_map ..] at e
        rw [List.length_take] at f
        have : min i (groupsOf ns).length ≤ 32 := by omega
        have := Nat.mul_le_mul_right 25 this
        omega
      refine ⟨_, rfl, pl, .ref tn, rfl, gn (.inl hpd5), tn, rfl, ⟨_, .inl (.inl hpn5)⟩, fun Ad nA => ?_⟩
      have hlV : (ns.map V.str).length = ns.length := List.length_map ..
      refine lc_it (walk_tup (xs := ns.map V.str)) (fun j H6 => Same H5 H6 ∧ H6 Ad = some (.lst (((ns.take j).filter fun n => decide (n ∉ t.2)).map V.str))) ⟨same_new nA, upd_same⟩ (fun j H6 hj hP => .inl (.inl (hP.1 _ _ hpn5))) (fun j x H6 H7 hj hP hY => ?_) (fun H6 hP => ?_)
      · obtain ⟨s6, hA⟩ := hP
        obtain ⟨rfl, hx⟩ := hY
        obtain ⟨n, hn, rfl⟩ := str_at hx
        refine ⟨rfl, _, rfl, _, rfl, t.1, _, rfl, .inr (.inl (.inl (s6 _ _ hg5))), rfl, flat_names _, _, rfl, ?_⟩
        rw [if_pos rfl, inV_names]
        refine ite2 (fun b => ?_) (fun b => ?_)
        · refine ⟨_, rfl, _, hA, small1000 ?_, fun c o e => ?_, ?_⟩
          · rw [List.length_map]
            refine Nat.le_trans (List.length_filter_le _ _) ?_
            rw [List.length_take]
            omega
          · rw [upd_ne (ne_of_none e nA)]
            exact s6 _ _ e
          · rw [upd_same, List.take_add_one, hn]
            show _ = some (HO.lst (((ns.take j ++ [n]).filter fun n => decide (n ∉ t.2)).map V.str))
            rw [List.filter_append, List.filter_cons_of_pos (p := fun n => decide (n ∉ t.2)) (by rw [decide_not]; exact b), List.map_append]
            rfl
        · refine ⟨s6, ?_⟩
          rw [hA, List.take_add_one, hn]
          show _ = some (HO.lst (((ns.take j ++ [n]).filter fun n => decide (n ∉ t.2)).map V.str))
          rw [List.filter_append, List.filter_cons_of_neg (p := fun n => decide (n ∉ t.2)) (by rw [decide_not]; exact b)]
          show _ = some (HO.lst (((ns.take j).filter (fun n => decide (n ∉ t.2)) ++ []).map V.str))
          rw [List.append_nil]
      · obtain ⟨s6, hA⟩ := hP
        rw [hlV, List.take_length] at hA
        have hA : H6 Ad = some (.lst ((restOf ns t.2).map V.str)) := hA
        have kp6 : Kp q H1 H6 := kp.trans (Same.kp s6)
        have nAq : Ad ≠ q := (ne_of_none hq5 nA).symm
        have rl := Nat.le_trans (rest_len ns t.2) n5
        refine ⟨_, rfl, Ad, rfl, ⟨_, .inl (.inl hA)⟩, ?_⟩
        refine for_list (K := K) (a := Ad) (xs := (restOf ns t.2).map V.str) (fun j σ H7 => ∃ (l' : List (Addr × Addr × Tri)) (y4 y5 y6 : Option V), σ = [some (.ref pl), some (.ref q), some (.ref t.1), some (.ref Ad), y4, y5, y6] ∧ H7 q = some (.lst (trefs l')) ∧ TrAt H7 l' ∧ tris l' = tris l ++ ((restOf ns t.2).take j).flatMap (ownFor ns t.2) ∧ Kp q H6 H7)
          ⟨l, _, _, _, rfl, s6 _ _ hq5, hl5.same s6, by simp, .refl _ _⟩ (fun j σ H7 hj hP => ?_) (fun j x σ H7 hx hP => ?_) (fun σ H7 hP => ?_)
        · obtain ⟨_, y4, y5, y6, rfl, _, _, _, kp7⟩ := hP
          exact .inl (.inl (kp7 _ _ nAq hA))
        · obtain ⟨l', y4, y5, y6, rfl, hq7, hl7, hd7, kp7⟩ := hP
          obtain ⟨n, hn, rfl⟩ := str_at hx
          have hA7 := kp7 _ _ nAq hA
          have hg7 := kp7 _ _ ngq1 (s6 _ _ hg5)
          refine ⟨_, rfl, .inl ⟨rfl, _, .inl (.inl hq7)⟩, _, rfl, Ad, rfl, ⟨_, .inl (.inl hA7)⟩, fun Cd nC => ?_⟩
          have rV : ((restOf ns t.2).map V.str).length = (restOf ns t.2).length := List.length_map ..
          refine lc_it (walk_list (xs := (restOf ns t.2).map V.str)) (fun m H8 => ∃ k' : List (Addr × Addr × Tri), H8 Cd = some (.lst (trefs k')) ∧ TrAt H8 k' ∧ tris k' = (((restOf ns t.2).take m).filter (ltB n)).map (fun x => (t.2, n, x)) ∧ Same H7 H8)
            ⟨[], upd_same, .nil, rfl, same_new nC⟩ (fun m H8 hm hP => ?_) (fun m x H8 H9 hm hP hY => ?_) (fun H8 hP => ?_)
          · obtain ⟨_, _, _, _, s8⟩ := hP
            exact .inl (.inl (s8 _ _ hA7))
          · obtain ⟨k', hC, hk, hkd, s8⟩ := hP
            obtain ⟨rfl, hx⟩ := hY
            obtain ⟨z, hz, rfl⟩ := str_at hx
            have kl : k'.length ≤ 5 := by
              have e := congrArg List.length hkd
              have f := List.length_filter_le (ltB n) ((restOf ns t.2).take m)
              rw [show (tris k').length = k'.length from List.length_map .., List.length_map] at e
              rw [List.length_take] at f
              omega
            refine ⟨rfl, _, rfl, _, rfl, n, z, rfl, rfl, _, rfl, ?_⟩
            refine ite2 (fun b => ?_) (fun b => ?_)
            · have b : ltB n z = true := b
              refine ⟨_, rfl, _, rfl, _, rfl, (by show 3 ≤ sizeLine; decide), fun u nu => ?_⟩
              have su := same_new (o := HO.tup [V.ref t.1, .str n, .str z]) nu
              have nCu : ∀ xs, (upd H9 u (.tup [V.ref t.1, .str n, .str z])) Cd ≠ some (.tup xs) := fun xs e => by
                rw [su _ _ hC] at e
                cases e
              refine ⟨_, su _ _ hC, small1000 (by rw [show (trefs k').length = k'.length from List.length_map ..]; omega), k' ++ [(u, t.1, t.2, n, z)], ?_, ?_, ?_, ?_⟩
              · rw [upd_same, trefs_app]
                rfl
              · refine (TrAt.app (hk.same su) fun t' m' => ?_).upd nCu
                rw [List.mem_singleton.mp m']
                exact ⟨upd_same, su _ _ (s8 _ _ hg7)⟩
              · rw [tris_app, hkd, List.take_add_one, hz]
                show _ = (((restOf ns t.2).take m ++ [z]).filter (ltB n)).map _
                rw [List.filter_append, List.filter_cons_of_pos b, List.map_append]
                rfl
              · intro c o e
                rw [upd_ne (ne_of_none e nC)]
                exact su _ _ (s8 _ _ e)
            · have b : ltB n z = false := Bool.eq_false_iff.mpr b
              refine ⟨k', hC, hk, ?_, s8⟩
              rw [hkd, List.take_add_one, hz]
              show _ = (((restOf ns t.2).take m ++ [z]).filter (ltB n)).map _
              rw [List.filter_append, List.filter_cons_of_neg (by rw [b]; exact Bool.false_ne_true)]
              show _ = (((restOf ns t.2).take m).filter (ltB n) ++ []).map _
              rw [List.append_nil]
          · obtain ⟨k', hC, hk, hkd, s8⟩ := hP
            rw [rV, List.take_length] at hkd
            have hq8 := s8 _ _ hq7
            have l7 : l'.length ≤ 32 * 25 + 25 := by
              have e := congrArg List.length hd7
              have f := own_len n5 t.2 ((restOf ns t.2).take j) (by rw [List.length_take]; omega)
              rw [List.length_append, show (tris l').length = l'.length from List.length_map .., show (tris l).length = l.length from List.length_map ..] at e
              omega
            have kl : k'.length ≤ 5 := by
              have e := congrArg List.length hkd
              have f := List.length_filter_le (ltB n) (restOf ns t.2)
              rw [show (tris k').length = k'.length from List.length_map .., List.length_map] at e
              omega
            have nq8 : ∀ xs, H8 q ≠ some (.tup xs) := fun xs e => by
              rw [hq8] at e
              cases e
            refine ⟨q, Cd, trefs l', trefs k', rfl, rfl, hq8, hC, ?_, l' ++ k', _, _, _, rfl, ?_, ?_, ?_, ?_⟩
            · rw [show (trefs l').length = l'.length from List.length_map .., show (trefs k').length = k'.length from List.length_map ..]
              exact Nat.le_trans (show l'.length + k'.length ≤ 1000 by omega) (by decide)
            · rw [upd_same, trefs_app]
            · exact ((hl7.same s8).app hk).upd nq8
            · rw [tris_app, hd7, hkd, flat_take _ hn, List.append_assoc]
              rfl
            · exact kp7.trans ((Same.kp s8).trans (.upd _))
        · obtain ⟨l', y4, y5, y6, rfl, hq7, hl7, hd7, kp7⟩ := hP
          have rV : ((restOf ns t.2).map V.str).length = (restOf ns t.2).length := List.length_map ..
          rw [rV, List.take_length] at hd7
          exact ⟨l', _, _, _, _, _, rfl, hq7, hl7, by rw [hd7, hd5, flat_take _ hgj]; rfl, kp6.trans kp7⟩
    · obtain ⟨l, y2, y3, y4, y5, y6, rfl, hq5, hl5, hd5, kp⟩ := hP
      have tl : (refs ts).length = (groupsOf ns).length := by
        rw [← hts, List.length_map, List.length_map]
      rw [tl, List.take_length] at hd5
      exact ⟨_, rfl, k q H5 l (fun b o e => kp _ _ (ne_of_none e nq) (s1 _ _ (sq _ _ e))) nq hq5 hl5 (hd5.trans (own_tris hns.asc))⟩
def spOwnGap : Sp := fun vs H Q _ => ∃ (pl tn wq a c : Addr) (ns : List Str) (W : Grp → Int) (t : Tri), vs = [.ref pl, .ref a] ∧ PlainAt H pl tn wq ns W ∧ Nms 5 ns ∧ H a = some (.tup [.ref c, .str t.2.1, .str t.2.2]) ∧ H c = some (.tup (t.1.map V.str)) ∧ t ∈ trisOf ns ∧ ∀ H', Same H H' → Q (.int (gapOf W t)) H'
theorem ok_own_gap {a0 : Addr} {fd : FuncData} (T : Txt mg) (D : Df K mg "_law_own_gap" s__law_own_gap p__law_own_gap a0 fd) : FnOk P w K mg base CX0 1 a0 fd p__law_own_gap spOwnGap := by
  refine D.F.ok c__law_own_gap (fun vs H Q E h => ?_) (fun cdv A outer s H vs Q E hr h => ?_)
  · obtain ⟨pl, tn, wq, a, c, ns, W, t, rfl, _⟩ := h
    rfl
  · obtain ⟨pl, tn, wq, a, c, ns, W, t, rfl, hpl, hns, ha, hc, ht, k⟩ := h
    have nd := c__law_own_gap.nd
    have hu := hu_of hr
    refine ⟨_, pss_cons (ps_asg (pv 1) (pg_tup rfl (pgs_cons (pg_name (i := 2) nd rfl (.inl rfl)) (pgs_cons (pg_name (i := 3) nd rfl (.inl rfl)) (pgs_cons (pg_name (i := 4) nd rfl (.inl rfl)) pgs_nil)))))
      (pss_cons (ps_par (by rfl) nd (i := 5) (j := 6) rfl rfl (by decide) rfl rfl (pa_cons (pe_dget hu (pv 0) pe_str (fun _ _ => rfl)) (pa_cons (pe_callTy call_tuple_of (by rfl) T.b_tuple boot_tuple (pa_cons (pe_callB (cr_sortS hr.units) (by rfl) T.b_sorted boot_sorted (pa_cons (pe_op op_catU (pv 2) (pe_tup (pa_cons (pv 3) (pa_cons (pv 4) pa_nil)))) pa_nil)) pa_nil)) pa_nil)) (by rfl))
      (pss_cons (ps_set (i := 7) nd rfl (.inl rfl) (pe_op op_add (pe_dget hu (pv 5) (pe_callTy call_tuple_of (by rfl) T.b_tuple boot_tuple (pa_cons (pe_callB (cr_sortS hr.units) (by rfl) T.b_sorted boot_sorted (pa_cons (pe_op op_catU (pv 2) (pe_tup (pa_cons (pv 3) pa_nil))) pa_nil)) pa_nil)) (fun _ _ => rfl))
        (pe_dget hu (pv 5) (pe_callTy call_tuple_of (by rfl) T.b_tuple boot_tuple (pa_cons (pe_callB (cr_sortS hr.units) (by rfl) T.b_sorted boot_sorted (pa_cons (pe_op op_catU (pv 2) (pe_tup (pa_cons (pv 4) pa_nil))) pa_nil)) pa_nil)) (fun _ _ => rfl))))
      (pss_one (ps_ret (pe_op op_sub (pe_op op_add (pe_dget hu (pv 5) (pv 6) (fun _ _ => rfl)) (pe_dget hu (pv 5) (pv 2) (fun _ _ => rfl))) (pv 7)))))), ?_⟩
    have gp : ∀ {H' : Hp} {a tn wq : Addr}, Rd H' a (.dK (plainD tn wq)) → DGet H' a (.str "worths") (some (.ref wq)) := fun e => .inl ⟨_, Sum.inr _, e, rfl, (plain_worths _ _).symm⟩
    obtain ⟨i1, i2, i3, i4, i5⟩ := tri_groups hns.asc ht
    have n5 := hns.most
    have gl : (t.1.map V.str).length ≤ 5 := by rw [List.length_map]; omega
    have sz : ∀ {m : Nat}, m ≤ 2 → (t.1.map V.str).length + m ≤ sizeLine := fun {m} h => Nat.le_trans (Nat.add_le_add gl h) (by decide)
    have app : ∀ l : List Str, t.1.map V.str ++ l.map V.str = (t.1 ++ l).map V.str := fun l => List.map_append.symm
    have gw : ∀ {H' : Hp} {g : Grp} {r : Addr}, H' wq = some (.dT (wDict (groupsOf ns) W)) → H' r = some (.tup (g.map V.str)) → g ∈ groupsOf ns → DGet H' wq (.ref r) (some (.int (W g))) := fun {H' g r} e er m =>
      .inr ⟨_, kG g, r, .inl e, rfl, (by rw [kG_V]; exact er), (wDict_in m).symm⟩
    refine ⟨_, rfl, a, _, rfl, .inl (.inl ha), rfl, _, _, rfl, _, _, rfl, _, _, rfl, rfl, ?_⟩
    refine ⟨_, rfl, pl, .ref wq, rfl, gp (.inl hpl.d), _, rfl, _, rfl, _, rfl, (by show 2 ≤ sizeLine; decide), fun u nu => ?_⟩
    have su := same_new (o := HO.tup [V.str t.2.1, .str t.2.2]) nu
    refine ⟨c, u, _, _, rfl, rfl, su _ _ hc, upd_same, sz (Nat.le_refl 2), fun r H2 s2 e2 => ?_⟩
    have e2 : H2 r = some (.tup ((t.1 ++ [t.2.1, t.2.2]).map V.str)) := by
      rw [← app]
      exact e2
    refine ⟨r, _, rfl, .inr (.inl (.inl e2)), fun v1 nv1 => ⟨v1, _, rfl, .inl ⟨.inl (.inl upd_same), fun r1 nr1 => ?_⟩⟩⟩
    have s3 := same_new (o := HO.lst ((sortN (t.1 ++ [t.2.1, t.2.2])).map V.str)) nv1
    have s4 := same_new (o := HO.tup ((sortN (t.1 ++ [t.2.1, t.2.2])).map V.str)) nr1
    refine ⟨_, _, rfl, ?_⟩
    have hr1 : (upd (upd H2 v1 (.lst (((t.1 ++ [t.2.1, t.2.2]).mergeSort leS).map V.str))) r1 (.tup (((t.1 ++ [t.2.1, t.2.2]).mergeSort leS).map V.str))) r1 = some (.tup ((sortN (t.1 ++ [t.2.1, t.2.2])).map V.str)) := upd_same
    have s15 : Same H (upd (upd H2 v1 (.lst (((t.1 ++ [t.2.1, t.2.2]).mergeSort leS).map V.str))) r1 (.tup (((t.1 ++ [t.2.1, t.2.2]).mergeSort leS).map V.str))) := ((su.trans s2).trans s3).trans s4
    generalize upd (upd H2 v1 (.lst (((t.1 ++ [t.2.1, t.2.2]).mergeSort leS).map V.str))) r1 (.tup (((t.1 ++ [t.2.1, t.2.2]).mergeSort leS).map V.str)) = H5 at hr1 s15 ⊢
    refine ⟨_, rfl, _, rfl, _, rfl, (by show 1 ≤ sizeLine; decide), fun u6 nu6 => ?_⟩
    have s6 := same_new (o := HO.tup [V.str t.2.1]) nu6
    refine ⟨c, u6, _, _, rfl, rfl, s6 _ _ (s15 _ _ hc), upd_same, sz (Nat.le_succ 1), fun r7 H7 s7 e7 => ?_⟩
    have e7 : H7 r7 = some (.tup ((t.1 ++ [t.2.1]).map V.str)) := by
      rw [← app]
      exact e7
    refine ⟨r7, _, rfl, .inr (.inl (.inl e7)), fun v8 nv8 => ⟨v8, _, rfl, .inl ⟨.inl (.inl upd_same), fun r9 nr9 => ?_⟩⟩⟩
    have s8 := same_new (o := HO.lst ((sortN (t.1 ++ [t.2.1])).map V.str)) nv8
    have s9 := same_new (o := HO.tup ((sortN (t.1 ++ [t.2.1])).map V.str)) nr9
    have s19 : Same H (upd (upd H7 v8 (.lst (((t.1 ++ [t.2.1]).mergeSort leS).map V.str))) r9 (.tup (((t.1 ++ [t.2.1]).mergeSort leS).map V.str))) := (((s15.trans s6).trans s7).trans s8).trans s9
    refine ⟨wq, _, rfl, gw (s19 _ _ hpl.w) upd_same i2, ?_⟩
    have hr19 : (upd (upd H7 v8 (.lst (((t.1 ++ [t.2.1]).mergeSort leS).map V.str))) r9 (.tup (((t.1 ++ [t.2.1]).mergeSort leS).map V.str))) r1 = some (.tup ((sortN (t.1 ++ [t.2.1, t.2.2])).map V.str)) := (((s6.trans s7).trans s8).trans s9) _ _ hr1
    generalize upd (upd H7 v8 (.lst (((t.1 ++ [t.2.1]).mergeSort leS).map V.str))) r9 (.tup (((t.1 ++ [t.2.1]).mergeSort leS).map V.str)) = H9 at s19 hr19 ⊢
    refine ⟨_, rfl, _, rfl, _, rfl, (by show 1 ≤ sizeLine; decide), fun u10 nu10 => ?_⟩
    have s10 := same_new (o := HO.tup [V.str t.2.2]) nu10
    refine ⟨c, u10, _, _, rfl, rfl, s10 _ _ (s19 _ _ hc), upd_same, sz (Nat.le_succ 1), fun r11 H11 s11 e11 => ?_⟩
    have e11 : H11 r11 = some (.tup ((t.1 ++ [t.2.2]).map V.str)) := by
      rw [← app]
      exact e11
    refine ⟨r11, _, rfl, .inr (.inl (.inl e11)), fun v12 nv12 => ⟨v12, _, rfl, .inl ⟨.inl (.inl upd_same), fun r13 nr13 => ?_⟩⟩⟩
    have s12 := same_new (o := HO.lst ((sortN (t.1 ++ [t.2.2])).map V.str)) nv12
    have s13 := same_new (o := HO.tup ((sortN (t.1 ++ [t.2.2])).map V.str)) nr13
    have sA := ((s10.trans s11).trans s12).trans s13
    have sB := s19.trans sA
    refine ⟨wq, _, rfl, gw (sB _ _ hpl.w) upd_same i3, _, _, rfl, rfl, ?_⟩
    refine ⟨_, rfl, _, rfl, wq, _, rfl, gw (sB _ _ hpl.w) (sA _ _ hr19) i1, _, rfl, _, rfl, wq, _, rfl, gw (sB _ _ hpl.w) (sB _ _ hc) i4, _, _, rfl, rfl, _, rfl, _, _, rfl, rfl, ?_⟩
    have e : W (sortN (t.1 ++ [t.2.1, t.2.2])) + W t.1 - (W (sortN (t.1 ++ [t.2.1])) + W (sortN (t.1 ++ [t.2.2]))) = gapOf W t := by
      unfold gapOf
      omega
    have z := k _ sB
    rw [← e] at z
    exact z
/-! ### _law_right -/
def spRight : Sp := fun vs H Q _ => ∃ (p : Addr), vs = [.ref p] ∧ CupAt H p ∧ ∀ H', Drawn p H H' → Q (.bl true) H'
/-- pairs of groups, as tuples -/
abbrev PrB := Addr × (Addr × Grp) × (Addr × Grp)
def PbAt (H : Hp) (l : List PrB) : Prop := ∀ x ∈ l, H x.1 = some (.tup [.ref x.2.1.1, .ref x.2.2.1]) ∧ H x.2.1.1 = some (.tup (x.2.1.2.map V.str)) ∧ H x.2.2.1 = some (.tup (x.2.2.2.map V.str))
def brefs (l : List PrB) : List V := l.map fun x => V.ref x.1
def pbs (l : List PrB) : List (Grp × Grp) := l.map fun x => (x.2.1.2, x.2.2.2)
theorem PbAt.same {H H' : Hp} {l : List PrB} (h : PbAt H l) (s : Same H H') : PbAt H' l := fun x m => ⟨s _ _ (h x m).1, s _ _ (h x m).2.1, s _ _ (h x m).2.2⟩
theorem PbAt.upd {H : Hp} {l : List PrB} {d : Addr} {o : HO} (h : PbAt H l) (n : ∀ xs, H d ≠ some (.tup xs)) : PbAt (upd H d o) l := fun x m => by
  obtain ⟨a, b, c⟩ := h x m
  exact ⟨(upd_ne fun z => n _ (z ▸ a)).trans a, (upd_ne fun z => n _ (z ▸ b)).trans b, (upd_ne fun z => n _ (z ▸ c)).trans c⟩
theorem PbAt.app {H : Hp} {l k : List PrB} (h : PbAt H l) (h' : PbAt H k) : PbAt H (l ++ k) := fun x m => (List.mem_append.mp m).elim (h x) (h' x)
/-- the pairs of groups that are worth less together -/
def badB (ns : List Str) (W : Grp → Int) (g h : Grp) : Bool := decide (W (uniG ns g h) + W (comG g h) < W g + W h)
def badFor (ns : List Str) (W : Grp → Int) (hs : List Grp) (g : Grp) : List (Grp × Grp) := (hs.filter (badB ns W g)).map fun h => (g, h)
def badPairs (ns : List Str) (W : Grp → Int) : List (Grp × Grp) := (groupsOf ns).flatMap (badFor ns W (groupsOf ns))
theorem badPairs_nil {ns : List Str} {W : Grp → Int} (a : ns.Pairwise ltS) : badPairs ns W = [] ↔ Smod ns W := by
  rw [grow_pairs a]
  unfold badPairs badFor badB
  simp only [List.flatMap_eq_nil_iff, List.map_eq_nil_iff, List.filter_eq_nil_iff, decide_eq_true_iff]
  exact forall_congr' fun g => forall_congr' fun _ => forall_congr' fun h => forall_congr' fun _ => Int.not_lt
theorem mem_bad {ns : List Str} {W : Grp → Int} {g h : Grp} (hg : g ∈ groupsOf ns) (hh : h ∈ groupsOf ns) : (g, h) ∈ badPairs ns W ↔ badB ns W g h = true := by
  unfold badPairs badFor
  rw [List.mem_flatMap]
  constructor
  · rintro ⟨g', _, m⟩
    obtain ⟨h', m', e⟩ := List.mem_map.mp m
    obtain ⟨rfl, rfl⟩ := Prod.mk.inj e
    exact (List.mem_filter.mp m').2
  · exact fun b => ⟨g, hg, List.mem_map.mpr ⟨h, List.mem_filter.mpr ⟨hh, b⟩, rfl⟩⟩
theorem bad_len {ns : List Str} {W : Grp → Int} (n5 : ns.length ≤ 5) {l : List Grp} (hl : l.length ≤ 32) : (l.flatMap (badFor ns W (groupsOf ns))).length ≤ 1024 := by
  have f := flat_len (badFor ns W (groupsOf ns)) 32 l fun g _ => by
    unfold badFor
    rw [List.length_map]
    exact Nat.le_trans (List.length_filter_le _ _) (groups_small n5)
  have := Nat.mul_le_mul_right 32 hl
  omega
def prD (x : Grp × Grp) : PyData := .tuple [.tuple (encG x.1), .tuple (encG x.2)]
theorem dp_pbs {K : PySem.W.Frag} {H : Hp} : ∀ {l : List PrB}, PbAt H l → DpAll K H (brefs l) ((pbs l).map prD)
  | [], _ => .nil
  | x :: l, h => .cons (.tup (.inl (.inl (h x List.mem_cons_self).1)) (.cons (.tup (.inl (.inl (h x List.mem_cons_self).2.1)) (dp_names _)) (.cons (.tup (.inl (.inl (h x List.mem_cons_self).2.2)) (dp_names _)) .nil))) (dp_pbs fun y m => h y (List.mem_cons_of_mem _ m))
theorem rp_pr {ns : List Str} {x : Grp × Grp} (h : Nms 5 ns) (h1 : x.1 ∈ groupsOf ns) (h2 : x.2 ∈ groupsOf ns) : Rp 2 (46 * 2) (prD x) := by
  have one : ∀ g ∈ groupsOf ns, Rp 1 45 (.tuple (encG g)) := fun g m => rp_ord (fun n hn => name_nms (h.nm n ((groups_mem.mp m).subset hn))) (Nat.le_trans (groups_mem.mp m).length_le h.most)
  refine rp_tuple (wt := 45) (n := 2) (fun d m => ?_) (Nat.le_refl 2)
  simp only [List.mem_cons, List.not_mem_nil, or_false] at m
  rcases m with rfl | rfl
  · exact one _ h1
  · exact one _ h2
theorem rp_shaped {dep wt : Nat} {d : PyData} (r : Rp dep wt d) (h : dep ≤ 60) : SeqAt.shaped d = true := by
  unfold SeqAt.shaped
  have a := r.dp
  rw [r.ly, decide_eq_true (by omega)]
  rfl
theorem eqv_pr (x y : Grp × Grp) : PyData.eqv (prD x) (prD y) = decide (x = y) := by
  have e : PyData.eqv (prD x) (prD y) = (PyData.eqv (.tuple (encG x.1)) (.tuple (encG y.1)) && (PyData.eqv (.tuple (encG x.2)) (.tuple (encG y.2)) && true)) := by
    unfold prD
    simp only [PyData.eqv, PyData.eqvAll]
  rw [e, eqv_grp, eqv_grp, Bool.and_true, Bool.eq_iff_iff, Bool.and_eq_true, decide_eq_true_iff, decide_eq_true_iff, decide_eq_true_iff]
  exact ⟨fun q => Prod.ext q.1 q.2, fun q => ⟨congrArg Prod.fst q, congrArg Prod.snd q⟩⟩
theorem any_pr (l : List (Grp × Grp)) (x : Grp × Grp) : ((l.map prD).any fun z => PyData.eqv z (prD x)) = decide (x ∈ l) := by
  rw [List.any_map, Bool.eq_iff_iff, decide_eq_true_iff, List.any_eq_true]
  constructor
  · rintro ⟨y, m, e⟩
    have e : PyData.eqv (prD y) (prD x) = true := e
    rw [eqv_pr, decide_eq_true_iff] at e
    exact e ▸ m
  · exact fun m => ⟨x, m, by show PyData.eqv (prD x) (prD x) = true; rw [eqv_pr]; exact decide_eq_true rfl⟩
theorem bad_groups {ns : List Str} {W : Grp → Int} {x : Grp × Grp} (m : x ∈ badPairs ns W) : x.1 ∈ groupsOf ns ∧ x.2 ∈ groupsOf ns ∧ badB ns W x.1 x.2 = true := by
  unfold badPairs badFor at m
  obtain ⟨g, hg, m⟩ := List.mem_flatMap.mp m
  obtain ⟨h, hh, rfl⟩ := List.mem_map.mp m
  exact ⟨hg, (List.mem_filter.mp hh).1, (List.mem_filter.mp hh).2⟩
theorem bads_shaped {ns : List Str} {W : Grp → Int} (h : Nms 5 ns) : SeqAt.shaped (.list ((badPairs ns W).map prD)) = true := by
  refine rp_shaped (rp_list (dep := 2) (wt := 46 * 2) (n := 1024) (fun d m => ?_) ?_) (by decide)
  · obtain ⟨x, mx, rfl⟩ := List.mem_map.mp m
    obtain ⟨a, b, _⟩ := bad_groups mx
    exact rp_pr h a b
  · rw [List.length_map]
    exact bad_len h.most (groups_small h.most)
theorem ints_shapedL (xs : List Int) : SeqAt.shaped (.list (encI xs)) = true := ints_shaped xs
theorem eqv_bools (a b : Bool) : PyData.eqv (.list [.bool a, .bool b]) (.list [.bool a, .bool b]) = true := by
  cases a <;> cases b <;> decide +kernel
set_option maxHeartbeats 8000000 in
theorem ok_right08 {C a0 aKs aIg aBr aLw aBy aU aV aIs aIh aAd aGo aSm aOt aOg aX aY aW aN aS aE aM aG aBP aBZ aBT aD aJ b1 b2 b3 b4 b5 b6 b7 b8 b9 aK aGp aPg aJt : Addr} {fd fdKs fdIg fdBr fdLw fdBy fdU fdV fdIs fdIh fdAd fdGo fdSm fdOt fdOg fdX fdY fdW fdN fdS fdE fdM fdG fdBP fdBZ fdBT fdD fdJ f1 f2 f3 f4 f5 f6 f7 f8 f9 fdK fdGp fdPg fdJt : FuncData} (T : Txt mg)
    (D : Df K mg "_law_right" s__law_right p__law_right a0 fd) (DKs : Df K mg "_law_case" s__law_case p__law_case aKs fdKs) (DIg : Df K mg "_law_is_growing" s__law_is_growing p__law_is_growing aIg fdIg) (DBr : Df K mg "_law_breaks" s__law_breaks p__law_breaks aBr fdBr) (DLw : Df K mg "_law_with" s__law_with p__law_with aLw fdLw)
    (DBy : Df K mg "is_growing_by" s_is_growing_by p_is_growing_by aBy fdBy) (DU : Df K mg "union" s_union p_union aU fdU) (DV : Df K mg "common" s_common p_common aV fdV) (DIs : Df K mg "is_growing" s_is_growing p_is_growing aIs fdIs) (DIh : Df K mg "is_shrinking" s_is_shrinking p_is_shrinking aIh fdIh) (DAd : Df K mg "is_additive" s_is_additive p_is_additive aAd fdAd)
    (DGo : Df K mg "gaps_of" s_gaps_of p_gaps_of aGo fdGo) (DSm : Df K mg "sums" s_sums p_sums aSm fdSm) (DOt : Df K mg "_law_own_tests" s__law_own_tests p__law_own_tests aOt fdOt) (DOg : Df K mg "_law_own_gap" s__law_own_gap p__law_own_gap aOg fdOg) (DX : Df K mg "check_group" s_check_group p_check_group aX fdX)
    (DY : Df K mg "_law_game" s__law_game p__law_game aY fdY) (DW : Df K mg "_law_growing" s__law_growing p__law_growing aW fdW) (DN : Df K mg "_law_names" s__law_names p__law_names aN fdN) (DS : Df K mg "_law_sip" s__law_sip p__law_sip aS fdS) (DE : Df K mg "_law_select" s__law_select p__law_select aE fdE)
    (DM : Df K mg "_law_mingled" s__law_mingled p__law_mingled aM fdM) (DG : Df K mg "_law_groups" s__law_groups p__law_groups aG fdG)
    (DBP : Df K mg "_law_by_parts" s__law_by_parts p__law_by_parts aBP fdBP) (DBZ : Df K mg "_law_by_size" s__law_by_size p__law_by_size aBZ fdBZ) (DBT : Df K mg "_law_by_estate" s__law_by_estate p__law_by_estate aBT fdBT)
    (DD : Df K mg "_law_made_game" s__law_made_game p__law_made_game aD fdD) (DC : Cl_Game K mg C) (DJ : Dm K C "__init__" "Game.__init__" s_Game___init__ p_Game___init__ aJ fdJ) (D1 : Df K mg "check_people" s_check_people p_check_people b1 f1)
    (D2 : Df K mg "is_people" s_is_people p_is_people b2 f2) (D3 : Df K mg "is_name" s_is_name p_is_name b3 f3) (D4 : Df K mg "is_ascending" s_is_ascending p_is_ascending b4 f4)
    (D5 : Df K mg "are_worths" s_are_worths p_are_worths b5 f5) (D6 : Df K mg "is_worth" s_is_worth p_is_worth b6 f6) (D7 : Df K mg "is_integer" s_is_integer p_is_integer b7 f7) (D8 : Df K mg "is_whole" s_is_whole p_is_whole b8 f8)
    (D9 : Df K mg "groups_of" s_groups_of p_groups_of b9 f9) (DK : Df K mg "check_game" s_check_game p_check_game aK fdK) (DGp : Dpr K C "gaps" "Game.gaps" s_Game_gaps p_Game_gaps aGp fdGp)
    (DPg : Dpr K C "groups" "Game.groups" s_Game_groups p_Game_groups aPg fdPg) (DJt : Dm K C "__getitem__" "Game.__getitem__" s_Game___getitem__ p_Game___getitem__ aJt fdJt) :
    FnOk P w K mg base CX0 9 a0 fd p__law_right spRight := by
  have GKs : FnOk P w K mg base CX0 8 aKs fdKs p__law_case (spCase C) := ok_case T DKs DY DW DN DS DE DM DG DBP DBZ DBT DD DC DJ D1 D2 D3 D4 D5 D6 D7 D8 D9
  have GIg : FnOk P w K mg base CX0 3 aIg fdIg p__law_is_growing spIsGrowing := ok_lgrowing T DIg DBr DG DLw
  have GBy : FnOk P w K mg base CX0 6 aBy fdBy p_is_growing_by (spGrowBy C) := ok_growby T DC DBy DK DX DU DV DJt DPg
  have GIs : FnOk P w K mg base CX0 5 aIs fdIs p_is_growing (spJudge C fun z => decide (0 ≤ z)) := ok_is_growing T DC DIs DK DGp DGo DSm
  have GIh : FnOk P w K mg base CX0 5 aIh fdIh p_is_shrinking (spJudge C fun z => decide (z ≤ 0)) := ok_is_shrinking T DC DIh DK DGp DGo DSm
  have GAd : FnOk P w K mg base CX0 6 aAd fdAd p_is_additive (spJudge C fun z => decide (z = 0)) := ok_is_additive T DC DAd DIs DIh DK DGp DGo DSm
  have GOt : FnOk P w K mg base CX0 2 aOt fdOt p__law_own_tests spOwnTests := ok_own_tests T DOt DG
  have GOg : FnOk P w K mg base CX0 1 aOg fdOg p__law_own_gap spOwnGap := ok_own_gap T DOg
  have GE : FnOk P w K mg base CX0 2 aE fdE p__law_select (spSelect K) := ok_select T DE DS
  have GG : FnOk P w K mg base CX0 1 aG fdG p__law_groups (spGroups K) := ok_lgroups T DG
  refine D.F.ok c__law_right (fun vs H Q E h => ?_) (fun cdv A outer s H vs Q E hr h => ?_)
  · obtain ⟨p, rfl, _⟩ := h
    rfl
  · obtain ⟨p, rfl, hp, k⟩ := h
    have nd := c__law_right.nd
    have hu := hu_of hr
    have cu := hr.units
    have hu65 : (A.deeper (envOfC "_law_right" (defScope s__law_right) s.heap.objs.size a0 cdv)).units + 65 < cLine := by
      have := hr.un
      omega
    have hr1 : Room 1 (A.deeper (envOfC "_law_right" (defScope s__law_right) s.heap.objs.size a0 cdv)) := hr.mono (by decide)
    have hr2 : Room 2 (A.deeper (envOfC "_law_right" (defScope s__law_right) s.heap.objs.size a0 cdv)) := hr.mono (by decide)
    have hr3 : Room 3 (A.deeper (envOfC "_law_right" (defScope s__law_right) s.heap.objs.size a0 cdv)) := hr.mono (by decide)
    have hr5 : Room 5 (A.deeper (envOfC "_law_right" (defScope s__law_right) s.heap.objs.size a0 cdv)) := hr.mono (by decide)
    have hr6 : Room 6 (A.deeper (envOfC "_law_right" (defScope s__law_right) s.heap.objs.size a0 cdv)) := hr.mono (by decide)
    refine ⟨_, pss_cons (ps_asg (dcall DKs GKs hr (pa_cons (pv 0) (pa_cons pe_int pa_nil))) (pg_unl rfl (pgs_cons (pg_name (i := 1) nd rfl (.inr rfl)) (pgs_cons (pg_name (i := 2) nd rfl (.inr rfl)) pgs_nil))))
      (pss_cons (ps_par3 (by rfl) nd (i := 3) (j := 4) (l := 5) rfl rfl rfl (by decide) (by decide) (by decide) rfl rfl rfl (pa_cons (pe_dget hu (pv 1) pe_str (fun _ _ => rfl)) (pa_cons (pe_dget hu (pv 1) pe_str (fun _ _ => rfl)) (pa_cons (pe_lst pa_nil) pa_nil))) (by rfl))
      (pss_cons (ps_set (i := 6) nd rfl (.inl rfl) (dcall DG GG hr1 (pa_cons (pv 3) pa_nil)))
      (pss_cons (ps_for PassesOwn.never rfl (pi_list (pv 6)) (pg_name (i := 7) nd rfl (Or.inl rfl))
        (pss_one (ps_for PassesOwn.never rfl (pi_list (pv 6)) (pg_name (i := 8) nd rfl (Or.inr rfl))
          (pss_cons (ps_set (i := 9) nd rfl (.inl rfl) (pe_callTy call_tuple_of (by rfl) T.b_tuple boot_tuple (pa_cons (pe_callB (cr_sortedS rfl hr.units) (by rfl) T.b_sorted boot_sorted (pa_cons (pe_callTy (cr_setOfS rfl) (by rfl) T.b_set boot_setS (pa_cons (pe_op op_catU (pv 7) (pv 8)) pa_nil)) pa_nil)) pa_nil)))
          (pss_cons (ps_set (i := 10) nd rfl (.inl rfl) (pe_callTy call_tuple_of (by rfl) T.b_tuple boot_tuple (pa_cons (pe_lc (own := [("name", 14)]) (g := gName 14) (tt := tTest (tOp (rIn K false) (tVar 14) (tVar 8))) (te := tVar 14) rfl nd (pi_tup (pv 7))
              (blkOk_by (own := [("name", 14)]) (N := n__law_right) (sc := defScope s__law_right) (by decide +kernel)) (fun _ _ _ _ _ => pg_name (i := 14) nd rfl (Or.inl rfl)) (fun _ _ _ _ _ => pts_one (pt_cmpR op_in_seq (pv 14) (pv 8) (by rfl))) (fun _ _ _ _ _ => pv 14)) pa_nil)))
          (pss_one (ps_if (pt_cmpR op_lt (pe_op op_add (pe_dget hu (pv 4) (pv 9) (fun _ _ => rfl)) (pe_dget hu (pv 4) (pv 10) (fun _ _ => rfl))) (pe_op op_add (pe_dget hu (pv 4) (pv 7) (fun _ _ => rfl)) (pe_dget hu (pv 4) (pv 8) (fun _ _ => rfl))) (nomark _))
            (pss_one (ps_expr (pe_bm PySem.F.plainAttrs_list PySem.F.slot_list_append PySem.F.type_list_append mt_append (pv 5) (pa_cons (pe_tup (pa_cons (pv 7) (pa_cons (pv 8) pa_nil))) pa_nil)))) pss_nil)))))))
      (pss_cons (ps_if (PW.pt (pw_or (pt_cmpR (op_neD cu) (pe_lc (own := [("again", 15)]) (g := gName 15) (tt := tYes) (te := tCall (spJudge C fun z => decide (0 ≤ z)) [] E0 (tCons (tVar 2) tNil)) rfl nd (pi_range1 (by rfl) T.b_range (pa_cons pe_int pa_nil))
            (blkOk_by (own := [("again", 15)]) (N := n__law_right) (sc := defScope s__law_right) (by decide +kernel)) (fun _ _ _ _ _ => pg_name (i := 15) nd rfl (Or.inl rfl)) (fun _ _ _ _ _ => pts_nil) (fun _ _ _ _ _ => dcall DIs GIs hr5 (pa_cons (pv 2) pa_nil)))
          (pe_lst (pa_cons (pe_cmpR (op_eqD cu) (pv 5) (pe_lst pa_nil) (nomark _)) (pa_cons (pe_cmpR (op_eqD cu) (pv 5) (pe_lst pa_nil) (nomark _)) pa_nil))) (nomark _))
        (pw_or1 (pt_cmpR op_ne (pe_cmpR (op_eqD cu) (pv 5) (pe_lst pa_nil) (nomark _)) (dcall DIg GIg hr3 (pa_cons (pv 1) pa_nil)) (nomark _))))) (pss_one (ps_ret pe_bl)) pss_nil)
      (pss_cons (ps_for PassesOwn.never rfl (pi_range1 rfl T.b_range (pa_cons pe_int pa_nil)) (pg_name (i := 11) nd rfl (Or.inl rfl))
        (pss_cons (ps_asg (pe_tup (pa_cons (dcall DE GE hr2 (pa_cons (pv 0) (pa_cons (pv 6) pa_nil))) (pa_cons (dcall DE GE hr2 (pa_cons (pv 0) (pa_cons (pv 6) pa_nil))) pa_nil))) (pg_tup rfl (pgs_cons (pg_name (i := 7) nd rfl (.inl rfl)) (pgs_cons (pg_name (i := 8) nd rfl (.inr rfl)) pgs_nil))))
        (pss_one (ps_if (pt_cmpR op_ne (dcall DBy GBy hr6 (pa_cons (pv 2) (pa_cons (pv 7) (pa_cons (pv 8) pa_nil)))) (pe_cmpR (op_notInD hu65) (pe_tup (pa_cons (pv 7) (pa_cons (pv 8) pa_nil))) (pv 5) (by rfl)) (nomark _)) (pss_one (ps_ret pe_bl)) pss_nil))))
      (pss_cons (ps_if (pt_cmpR (op_neD cu) (pe_lc (own := [("pair", 16)]) (g := gName 16) (tt := tTest (tCall (spGrowBy C) [] E0 (tCons (tVar 2) (tCons (tOp (rIxT K) (tVar 16) (tC (.int 0))) (tCons (tOp (rIxT K) (tVar 16) (tC (.int 1))) tNil))))) (te := tVar 16) rfl nd (pi_list (pe_slice sl_list (pv 5) po_none (po_some pe_int)))
            (blkOk_by (own := [("pair", 16)]) (N := n__law_right) (sc := defScope s__law_right) (by decide +kernel)) (fun _ _ _ _ _ => pg_name (i := 16) nd rfl (Or.inl rfl))
            (fun _ _ _ _ _ => pts_one (pt_val (dcall DBy GBy hr6 (pa_cons (pv 2) (pa_cons (pe_ix ix_tup (pv 16) pe_int (fun _ _ => rfl)) (pa_cons (pe_ix ix_tup (pv 16) pe_int (fun _ _ => rfl)) pa_nil)))))) (fun _ _ _ _ _ => pv 16)) (pe_lst pa_nil) (nomark _)) (pss_one (ps_ret pe_bl)) pss_nil)
      (pss_cons (ps_setLc (i := 12) (own := [("test", 17)]) (g := gName 17) (tt := tYes) (te := tCall spOwnGap [] E0 (tCons (tVar 1) (tCons (tVar 17) tNil))) rfl nd rfl rfl (sw_true rfl rfl rfl (by decide +kernel)) (pi_list (dcall DOt GOt hr2 (pa_cons (pv 1) pa_nil)))
          (blkOk_by (own := [("test", 17)]) (N := n__law_right) (sc := defScope s__law_right) (by decide +kernel)) (fun _ _ _ _ _ => pg_name (i := 17) nd rfl (Or.inl rfl)) (fun _ _ _ _ _ => pts_nil) (fun _ _ _ _ _ => dcall DOg GOg hr1 (pa_cons (pv 1) (pa_cons (pv 17) pa_nil))))
      (pss_cons (ps_set (i := 13) nd rfl (.inl rfl) (pe_lst (pa_cons (dcall DIh GIh hr5 (pa_cons (pv 2) pa_nil)) (pa_cons (dcall DAd GAd hr6 (pa_cons (pv 2) pa_nil)) pa_nil))))
      (pss_one (ps_ret (pe_cmpR (op_eqD cu) (pv 13) (pe_lst (pa_cons (pe_cmpR (op_eqD cu) (pe_lc (own := [("one", 7)]) (g := gName 7) (tt := tTest (tOp (rI0 fun i j => .bl (decide (i > j))) (tVar 7) (tC (.int 0)))) (te := tVar 7) rfl nd (pi_list (pv 12))
            (blkOk_by (own := [("one", 7)]) (N := n__law_right) (sc := defScope s__law_right) (by decide +kernel)) (fun _ _ _ _ _ => pg_name (i := 7) nd rfl (Or.inl rfl)) (fun _ _ _ _ _ => pts_one (pt_cmpR op_gt (pv 7) pe_int (nomark _))) (fun _ _ _ _ _ => pv 7)) (pe_lst pa_nil) (nomark _))
          (pa_cons (pe_cmpR (op_eqD cu) (pe_lc (own := [("one", 7)]) (g := gName 7) (tt := tTest (tOp rNe (tVar 7) (tC (.int 0)))) (te := tVar 7) rfl nd (pi_list (pv 12))
            (blkOk_by (own := [("one", 7)]) (N := n__law_right) (sc := defScope s__law_right) (by decide +kernel)) (fun _ _ _ _ _ => pg_name (i := 7) nd rfl (Or.inl rfl)) (fun _ _ _ _ _ => pts_one (pt_cmpR op_ne (pv 7) pe_int (nomark _))) (fun _ _ _ _ _ => pv 7)) (pe_lst pa_nil) (nomark _)) pa_nil))) (nomark _)))))))))))), ?_⟩
    have gn : ∀ {H' : Hp} {a tn wq : Addr}, Rd H' a (.dK (plainD tn wq)) → DGet H' a (.str "names") (some (.ref tn)) := fun e => .inl ⟨_, Sum.inr _, e, rfl, (plain_names _ _).symm⟩
    have gp : ∀ {H' : Hp} {a tn wq : Addr}, Rd H' a (.dK (plainD tn wq)) → DGet H' a (.str "worths") (some (.ref wq)) := fun e => .inl ⟨_, Sum.inr _, e, rfl, (plain_worths _ _).symm⟩
    refine ⟨_, rfl, p, 5, rfl, hp, by decide, by decide, fun q pl tn wq gm H1 ns W hns hW d1 hpl hG nq nqp hq ngm ngmp => ?_⟩
    refine ⟨q, _, rfl, .inl (.inl hq), rfl, _, _, rfl, _, _, rfl, rfl, ?_⟩
    have n5 := hns.most
    have nnd := asc_nodup hns.asc
    have g32 := groups_small n5
    have cup1 := d1.cup
    refine ⟨_, rfl, pl, .ref tn, rfl, gn (.inl hpl.d), _, rfl, pl, .ref wq, rfl, gp (.inl hpl.d), Nat.zero_le _, fun uq nuq => ⟨_, _, _, rfl, ?_⟩⟩
    have sU := same_new (o := HO.lst []) nuq
    have hu0 : (upd H1 uq (.lst [])) uq = some (.lst []) := upd_same
    generalize upd H1 uq (.lst []) = H2 at sU hu0
    have hpl2 := hpl.same sU
    refine ⟨_, rfl, tn, ns, rfl, .inl (.inl hpl2.n), by omega, fun gq H3 ts s23 ngq hgq ht hts => ?_⟩
    have hu3 := s23 _ _ hu0
    have s13 := sU.trans s23
    have hpl3 := hpl2.same s23
    have ngu : gq ≠ uq := (ne_of_none hu0 ngq).symm
    have rl : (refs ts).length = (groupsOf ns).length := by rw [← hts, List.length_map, List.length_map]
    have gw : ∀ {H' : Hp} {g : Grp} {r : Addr}, H' wq = some (.dT (wDict (groupsOf ns) W)) → H' r = some (.tup (g.map V.str)) → g ∈ groupsOf ns → DGet H' wq (.ref r) (some (.int (W g))) := fun {H' g r} e er m =>
      .inr ⟨_, kG g, r, .inl e, rfl, (by rw [kG_V]; exact er), (wDict_in m).symm⟩
    have nt3 : ∀ {H5 : Hp}, Kp uq H3 H5 → ∀ {b : Addr} {o : HO}, H3 b = some o → (∀ zs, o ≠ .lst zs) → H5 b = some o := fun kp b o e n => kp _ _ (fun z => n _ (by rw [z, hu3] at e; exact (Option.some.inj e).symm)) e
    refine ⟨_, rfl, gq, rfl, ⟨_, .inl (.inl hgq)⟩, ?_⟩
    refine for_list (K := K) (a := gq) (xs := refs ts) (fun i σ H5 => ∃ (u : List PrB) (y7 y8 y9 y10 y11 y12 y13 y14 y15 y16 y17 : Option V), σ = [some (.ref p), some (.ref pl), some (.ref gm), some (.ref tn), some (.ref wq), some (.ref uq), some (.ref gq), y7, y8, y9, y10, y11, y12, y13, y14, y15, y16, y17] ∧ H5 uq = some (.lst (brefs u)) ∧ PbAt H5 u ∧ pbs u = ((groupsOf ns).take i).flatMap (badFor ns W (groupsOf ns)) ∧ Kp uq H3 H5)
      ⟨[], _, _, _, _, _, _, _, _, _, _, _, rfl, hu3, fun _ m => absurd m List.not_mem_nil, rfl, .refl _ _⟩ (fun i σ H5 hi hP => ?_) (fun i x σ H5 hx hP => ?_) (fun σ H5 hP => ?_)
    · obtain ⟨u, y7, y8, y9, y10, y11, y12, y13, y14, y15, y16, y17, rfl, _, _, _, kp⟩ := hP
      exact .inl (.inl (kp _ _ ngu hgq))
    · obtain ⟨u, y7, y8, y9, y10, y11, y12, y13, y14, y15, y16, y17, rfl, hu5, htu5, hd5, kp⟩ := hP
      obtain ⟨t, htj, rfl, hgj⟩ := refs_at' hx hts
      have hgm : t.2 ∈ groupsOf ns := List.mem_of_getElem? hgj
      have ilt : i < (groupsOf ns).length := (List.getElem?_eq_some_iff.mp hgj).1
      refine ⟨_, rfl, gq, rfl, ⟨_, .inl (.inl (kp _ _ ngu hgq))⟩, ?_⟩
      refine for_list (K := K) (a := gq) (xs := refs ts) (fun j σ H6 => ∃ (u : List PrB) (y8 y9 y10 y11 y12 y13 y14 y15 y16 y17 : Option V), σ = [some (.ref p), some (.ref pl), some (.ref gm), some (.ref tn), some (.ref wq), some (.ref uq), some (.ref gq), some (.ref t.1), y8, y9, y10, y11, y12, y13, y14, y15, y16, y17] ∧ H6 uq = some (.lst (brefs u)) ∧ PbAt H6 u ∧ pbs u = ((groupsOf ns).take i).flatMap (badFor ns W (groupsOf ns)) ++ badFor ns W ((groupsOf ns).take j) t.2 ∧ Kp uq H3 H6)
        ⟨u, _, _, _, _, _, _, _, _, _, _, rfl, hu5, htu5, by rw [hd5, List.take_zero]; exact (List.append_nil _).symm, kp⟩ (fun j σ H6 hj hP => ?_) (fun j x σ H6 hx2 hP => ?_) (fun σ H6 hP => ?_)
      · obtain ⟨_, _, _, _, _, _, _, _, _, _, _, rfl, _, _, _, kp6⟩ := hP
        exact .inl (.inl (kp6 _ _ ngu hgq))
      · obtain ⟨u, y8, y9, y10, y11, y12, y13, y14, y15, y16, y17, rfl, hu6, htu6, hd6, kp6⟩ := hP
        obtain ⟨e, hej, rfl, hgj2⟩ := refs_at' hx2 hts
        have hem : e.2 ∈ groupsOf ns := List.mem_of_getElem? hgj2
        have ht6 := nt3 kp6 (ht.get htj) (by intro _ z; cases z)
        have he6 := nt3 kp6 (ht.get hej) (by intro _ z; cases z)
        have hw6 := nt3 kp6 hpl3.w (by intro _ z; cases z)
        have l1 := (groups_mem.mp hgm).length_le
        have l2 := (groups_mem.mp hem).length_le
        refine ⟨_, rfl, _, rfl, t.1, e.1, _, _, rfl, rfl, ht6, he6, ?_, fun r H7 s7 hr7 => ?_⟩
        · rw [List.length_map, List.length_map]
          exact Nat.le_trans (show t.2.length + e.2.length ≤ 1000 by omega) (by decide)
        rw [← List.map_append] at hr7
        refine ⟨r, t.2 ++ e.2, rfl, .inl (.inl hr7), by rw [List.length_append]; omega, fun S l nS ndl ll m => ?_⟩
        refine ⟨S, l, rfl, upd_same, ?_, fun p2 np => ?_⟩
        · rw [List.length_append] at ll
          omega
        rw [uni_sort hns.asc hgm hem ndl m]
        have sS := same_new (o := SetSO P w S l) nS
        have sp := same_new (o := HO.lst ((uniG ns t.2 e.2).map V.str)) np
        refine ⟨p2, _, rfl, .inl ⟨.inl (.inl upd_same), fun uu nuu => ?_⟩⟩
        have su := same_new (o := HO.tup ((uniG ns t.2 e.2).map V.str)) nuu
        have s68 := s7.trans (sS.trans (sp.trans su))
        have huu := upd_same (H := upd (upd H7 S (SetSO P w S l)) p2 (.lst ((uniG ns t.2 e.2).map V.str))) (a := uu) (o := HO.tup ((uniG ns t.2 e.2).map V.str))
        refine ⟨_, rfl, t.1, rfl, ⟨_, .inl (.inl (s68 _ _ ht6))⟩, fun Cd nC => ?_⟩
        have uC : uu ≠ Cd := ne_of_none huu nC
        have sC := s68.trans (same_new (o := HO.lst []) nC)
        have uC0 := (upd_ne (H := upd (upd (upd H7 S (SetSO P w S l)) p2 (.lst ((uniG ns t.2 e.2).map V.str))) uu (.tup ((uniG ns t.2 e.2).map V.str))) (o := HO.lst []) uC).trans huu
        have nC6 : H6 Cd = none := s68.free nC
        have oV : (t.2.map V.str).length = t.2.length := List.length_map ..
        refine lc_it (walk_tup (xs := t.2.map V.str)) (fun i H9 => Same H6 H9 ∧ H9 uu = some (.tup ((uniG ns t.2 e.2).map V.str)) ∧ H9 Cd = some (.lst ((comG (t.2.take i) e.2).map V.str))) ⟨sC, uC0, upd_same⟩ (fun i H9 hi hP => .inl (.inl (hP.1 _ _ ht6))) (fun i x H9 H10 hi hP hY => ?_) (fun H9 hP => ?_)
        · obtain ⟨s9, hu9, hC⟩ := hP
          obtain ⟨rfl, hx⟩ := hY
          obtain ⟨n, hn, rfl⟩ := str_at hx
          refine ⟨rfl, _, rfl, _, rfl, e.1, _, rfl, .inr (.inl (.inl (s9 _ _ he6))), rfl, flat_names _, _, rfl, ?_⟩
          rw [if_neg (by decide), inV_names]
          have more : comG (t.2.take (i + 1)) e.2 = comG (t.2.take i) e.2 ++ [n].filter fun x => decide (x ∈ e.2) := by
            unfold comG
            rw [List.take_add_one, hn, List.filter_append]
            rfl
          refine ite2 (fun c => ?_) (fun c => ?_)
          · refine ⟨_, rfl, _, hC, ?_, fun c o e' => ?_, (upd_ne uC).trans hu9, ?_⟩
            · rw [List.length_map]
              refine small1000 (Nat.le_trans (List.length_filter_le _ _) ?_)
              rw [List.length_take]
              omega
            · rw [upd_ne (ne_of_none e' nC6)]
              exact s9 _ _ e'
            · rw [upd_same, more, List.filter_cons_of_pos (p := fun x => decide (x ∈ e.2)) c, List.map_append]
              rfl
          · refine ⟨s9, hu9, ?_⟩
            rw [hC, more, List.filter_cons_of_neg (p := fun x => decide (x ∈ e.2)) c]
            show _ = some (HO.lst ((comG (t.2.take i) e.2 ++ []).map V.str))
            rw [List.append_nil]
        obtain ⟨s9, hu9, hC⟩ := hP
        rw [oV, List.take_length] at hC
        refine ⟨Cd, _, rfl, .inl ⟨.inl (.inl hC), fun cq ncq => ?_⟩⟩
        have s6A := s9.trans (same_new (o := HO.tup ((comG t.2 e.2).map V.str)) ncq)
        have huA := (same_new (o := HO.tup ((comG t.2 e.2).map V.str)) ncq) _ _ hu9
        have hcA : (upd H9 cq (.tup ((comG t.2 e.2).map V.str))) cq = some (.tup ((comG t.2 e.2).map V.str)) := upd_same
        generalize upd H9 cq (.tup ((comG t.2 e.2).map V.str)) = HA at s6A huA hcA
        have hwA := s6A _ _ hw6
        have htA := s6A _ _ ht6
        have heA := s6A _ _ he6
        have hbA := s6A _ _ hu6
        refine ⟨_, rfl, _, rfl, wq, _, rfl, gw hwA huA (uni_in _ _), _, rfl, _, rfl, wq, _, rfl, gw hwA hcA (com_in hgm _), _, _, rfl, rfl, ?_⟩
        refine ⟨_, rfl, _, rfl, wq, _, rfl, gw hwA htA hgm, _, rfl, _, rfl, wq, _, rfl, gw hwA heA hem, _, _, rfl, rfl, _, _, rfl, rfl, _, rfl, ?_⟩
        have ul : u.length ≤ 1024 + 32 := by
          have e1 := congrArg List.length hd6
          have e2 := bad_len (W := W) n5 (l := (groupsOf ns).take i) (by rw [List.length_take]; omega)
          have e3 : (badFor ns W ((groupsOf ns).take j) t.2).length ≤ 32 := by
            unfold badFor
            rw [List.length_map]
            refine Nat.le_trans (List.length_filter_le _ _) ?_
            rw [List.length_take]
            omega
          unfold pbs at e1
          rw [List.length_map, List.length_append] at e1
          omega
        have more : badFor ns W ((groupsOf ns).take (j + 1)) t.2 = badFor ns W ((groupsOf ns).take j) t.2 ++ badFor ns W [e.2] t.2 := by
          unfold badFor
          rw [List.take_add_one, hgj2, List.filter_append, List.map_append]
          rfl
        refine ite2 (fun c => ?_) (fun c => ?_)
        · refine ⟨_, rfl, .inl ⟨rfl, _, .inl (.inl hbA)⟩, _, rfl, _, rfl, (by show 2 ≤ sizeLine; decide), fun N nN => ?_⟩
          have sN := same_new (o := HO.tup [V.ref t.1, V.ref e.1]) nN
          have hbN := sN _ _ hbA
          refine ⟨uq, _, _, rfl, rfl, hbN, ?_, u ++ [(N, (t.1, t.2), (e.1, e.2))], _, _, _, _, _, _, _, _, _, _, rfl, ?_, ?_, ?_, ?_⟩
          · unfold brefs
            rw [List.length_map]
            exact Nat.lt_of_le_of_lt ul (by decide)
          · rw [upd_same]
            unfold brefs
            rw [List.map_append]
            rfl
          · refine PbAt.upd (((htu6.same s6A).same sN).app fun x m => ?_) (fun xs z => by rw [hbN] at z; cases z)
            rw [List.mem_singleton.mp m]
            exact ⟨upd_same, sN _ _ htA, sN _ _ heA⟩
          · have e1 : pbs (u ++ [(N, (t.1, t.2), (e.1, e.2))]) = pbs u ++ [(t.2, e.2)] := List.map_append
            have e2 : badFor ns W [e.2] t.2 = [(t.2, e.2)] := by
              unfold badFor
              rw [List.filter_cons_of_pos (p := badB ns W t.2) c]
              rfl
            rw [e1, hd6, more, e2, List.append_assoc]
          · exact kp6.trans ((Same.kp (s6A.trans sN)).trans (.upd _))
        · refine ⟨u, _, _, _, _, _, _, _, _, _, _, rfl, hbA, htu6.same s6A, ?_, kp6.trans (Same.kp s6A)⟩
          have e2 : badFor ns W [e.2] t.2 = [] := by
            unfold badFor
            rw [List.filter_cons_of_neg (p := badB ns W t.2) c]
            rfl
          rw [hd6, more, e2, List.append_nil]
      · obtain ⟨u, y8, y9, y10, y11, y12, y13, y14, y15, y16, y17, rfl, hu6, htu6, hd6, kp6⟩ := hP
        rw [rl, List.take_length] at hd6
        refine ⟨u, _, _, _, _, _, _, _, _, _, _, _, rfl, hu6, htu6, ?_, kp6⟩
        rw [hd6, flat_take _ hgj]
    obtain ⟨u, y7, y8, y9, y10, y11, y12, y13, y14, y15, y16, y17, rfl, hu5, htu5, hd5, kp⟩ := hP
    rw [rl, List.take_length] at hd5
    have hbad : pbs u = badPairs ns W := hd5
    have s15 : Same H1 H5 := fun b o e => kp _ _ (ne_of_none e nuq) (s13 _ _ e)
    have hgq5 := kp _ _ ngu hgq
    have ht5 : TupsAt H5 ts := fun t m => nt3 kp (ht t m) (by intro _ z; cases z)
    clear kp
    have hpl5 := hpl.same s15
    have hG5 := hG.same s15
    have cup5 := cup1.same s15
    obtain ⟨dx, tn0, gq0, wq0, ts0, rq0, gv0, hi5, _⟩ := hG5.ex
    generalize hgr : (((trisOf ns).map (gapOf W)).all fun z => decide (0 ≤ z)) = gr
    have hgrow : gr = true ↔ Smod ns W := by rw [← hgr]; exact smod_gaps hns.asc
    have hempty : ((pbs u).map prD).isEmpty = gr := by
      rw [Bool.eq_iff_iff, hgrow, List.isEmpty_iff, List.map_eq_nil_iff, hbad]
      exact badPairs_nil hns.asc
    have hshape : SeqAt.shaped (.list ((pbs u).map prD)) = true := by
      rw [hbad]
      exact bads_shaped hns
    refine ⟨2, rfl, by decide, by decide, fun Ed nE => ?_⟩
    refine lc_it walk_range (fun i H6 => H6 Ed = some (.lst ((List.replicate i gr).map V.bl)) ∧ Kp gm H5 H6 ∧ GameAt C H6 gm ns W) ⟨upd_same, Same.kp (same_new nE), hG5.same (same_new nE)⟩ (fun _ _ _ _ => trivial) (fun i x H6 H7 hi hP hY => ?_) (fun H6 hP => ?_)
    · obtain ⟨hE, kp6, hG6⟩ := hP
      obtain ⟨rfl, _⟩ := hY
      have hi : i < 2 := hi
      obtain ⟨dx6, tn6, gq6, wq6, ts6, rq6, gv6, hi6, _⟩ := hG6.ex
      have nEg : Ed ≠ gm := ne_of hE hi6 (by intro z; cases z)
      refine ⟨rfl, _, rfl, gm, ns, W, rfl, hG6, hns, fun H8 kp8 hG8 => ?_⟩
      rw [hgr]
      have hE8 := kp8 _ _ nEg hE
      refine ⟨_, hE8, small1000 (by rw [List.length_map, List.length_replicate]; omega), ?_, fun c o n e => ?_, ?_⟩
      · rw [upd_same, List.replicate_succ', List.map_append]
        rfl
      · rw [upd_ne (ne_of_none e nE)]
        exact kp8 _ _ n (kp6 _ _ n e)
      · obtain ⟨dx8, tn8, gq8, wq8, ts8, rq8, gv8, g1, g2, g3, g4, g5, g6, g7, g8⟩ := hG8.ex
        have nT : ∀ {b : Addr} {xs : List V}, H8 b = some (.tup xs) → b ≠ Ed := fun e => ne_of e hE8 (by intro z; cases z)
        exact ⟨dx8, tn8, gq8, wq8, ts8, rq8, gv8, (upd_ne nEg.symm).trans g1, (upd_ne (nT g2)).trans g2, (upd_ne (nT g3)).trans g3, g4.upd (fun xs e => by rw [hE8] at e; cases e), g5, (upd_ne (ne_of g6 hE8 (by intro z; cases z))).trans g6, (upd_ne (nT g7)).trans g7, g8.keep fun b xs e => (upd_ne (nT e)).trans e⟩
    obtain ⟨hE, kp6, hG6⟩ := hP
    have hE : H6 Ed = some (.lst [.bl gr, .bl gr]) := hE
    have at6 : ∀ {b : Addr} {o : HO}, H5 b = some o → (∀ c dx fs, o ≠ .ins c dx fs) → H6 b = some o := fun e n => kp_at hi5 kp6 e n
    have hu6 := at6 hu5 (by intro _ _ _ z; cases z)
    have htu6 : PbAt H6 u := fun x m => ⟨at6 (htu5 x m).1 (by intro _ _ _ z; cases z), at6 (htu5 x m).2.1 (by intro _ _ _ z; cases z), at6 (htu5 x m).2.2 (by intro _ _ _ z; cases z)⟩
    have hgq6 := at6 hgq5 (by intro _ _ _ z; cases z)
    have ht6 : TupsAt H6 ts := fun t m => at6 (ht5 t m) (by intro _ _ _ z; cases z)
    have hpl6 : Gd.PlainAt H6 pl tn wq ns W := ⟨at6 hpl5.d (by intro _ _ _ z; cases z), at6 hpl5.n (by intro _ _ _ z; cases z), at6 hpl5.w (by intro _ _ _ z; cases z)⟩
    have cup6 : CupAt H6 p := by
      obtain ⟨x, y, z, e⟩ := cup5
      exact ⟨x, y, z, at6 e (by intro _ _ _ z; cases z)⟩
    have d6 : Drawn p H H6 := by
      refine ⟨fun b o nb e => ?_, cup6⟩
      exact kp6 _ _ (ne_of_none e ngm) (s15 _ _ (d1.kp b o nb e))
    clear at6
    refine ⟨_, rfl, Nat.zero_le _, fun z1 nz1 => ?_⟩
    have sz1 := same_new (o := HO.lst []) nz1
    refine ⟨.list ((pbs u).map prD), .list [], .lst (.inl (.inl (sz1 _ _ hu6))) (dp_pbs (htu6.same sz1)), .lst (.inl (.inl upd_same)) .nil, hshape, rfl, ?_⟩
    rw [eqv_empty, hempty]
    have s61 := sz1
    generalize upd H6 z1 (.lst []) = HA at s61
    refine ⟨_, rfl, Nat.zero_le _, fun z2 nz2 => ?_⟩
    have sz2 := same_new (o := HO.lst []) nz2
    have s62 := s61.trans sz2
    refine ⟨.list ((pbs u).map prD), .list [], .lst (.inl (.inl (s62 _ _ hu6))) (dp_pbs (htu6.same s62)), .lst (.inl (.inl upd_same)) .nil, hshape, rfl, ?_⟩
    rw [eqv_empty, hempty]
    generalize upd HA z2 (.lst []) = HB at s62
    refine ⟨(by show 2 ≤ sizeLine; decide), fun F nF => ?_⟩
    have sF := same_new (o := HO.lst [V.bl gr, V.bl gr]) nF
    have s6F := s62.trans sF
    refine ⟨.list [.bool gr, .bool gr], .list [.bool gr, .bool gr], .lst (.inl (.inl (s6F _ _ hE))) (.cons (.bl _) (.cons (.bl _) .nil)), .lst (.inl (.inl upd_same)) (.cons (.bl _) (.cons (.bl _) .nil)), rfl, rfl, ?_⟩
    rw [eqv_bools]
    refine ⟨_, rfl, ?_⟩
    generalize upd HB F (.lst [V.bl gr, V.bl gr]) = HC at s6F
    refine ite2 (fun c => absurd c (by decide)) (fun _ => ?_)
    refine ⟨_, rfl, Nat.zero_le _, fun z3 nz3 => ?_⟩
    have s63 := s6F.trans (same_new (o := HO.lst []) nz3)
    refine ⟨.list ((pbs u).map prD), .list [], .lst (.inl (.inl (s63 _ _ hu6))) (dp_pbs (htu6.same s63)), .lst (.inl (.inl upd_same)) .nil, hshape, rfl, ?_⟩
    rw [eqv_empty, hempty]
    generalize upd HC z3 (.lst []) = HD at s63
    refine ⟨_, rfl, pl, tn, wq, ns, W, rfl, hpl6.same s63, hns, fun b H7 s7 hb => ?_⟩
    obtain rfl : b = gr := by rw [Bool.eq_iff_iff, hb, hgrow]
    refine ⟨rfl, _, rfl, iteNS rfl ?_⟩
    have s67 := s63.trans s7
    have hu7 := s67 _ _ hu6
    have htu7 := htu6.same s67
    have hgq7 := s67 _ _ hgq6
    have ht7 := ht6.same s67
    have hG7 := hG6.same s67
    have hpl7 := hpl6.same s67
    have cup7 := cup6.same s67
    have d7 : Drawn p H H7 := d6.trans ⟨Same.kp s67, cup7⟩
    clear s61 s62 sF s6F s63 s67 sz1 sz2 hu6 htu6 hgq6 ht6 hpl6
    have gqp : gq ≠ p := by
      obtain ⟨x, y, z, e⟩ := cup1
      exact (ne_of_none (sU _ _ e) ngq).symm
    have uqp : uq ≠ p := by
      obtain ⟨x, y, z, e⟩ := cup1
      exact (ne_of_none e nuq).symm
    have tsl : (refs ts).length ≤ 1000 := by omega
    have ts0 : 0 < (refs ts).length := by
      rw [rl]
      obtain ⟨r, e⟩ := groups_head ns
      rw [e]
      exact Nat.succ_pos _
    have tsm : ∀ e ∈ ts, e.2 ∈ groupsOf ns := fun e m => by
      rw [← hts]
      exact List.mem_map.mpr ⟨e, m, rfl⟩
    have noT : ∀ {Hq : Hp} {b : Addr} {xs : List V}, CupAt Hq p → Hq b = some (.tup xs) → b ≠ p := fun c e => by
      obtain ⟨x, y, z, e2⟩ := c
      exact ne_of e e2 (by intro q; cases q)
    have pbD : ∀ {Hq Hr : Hp}, CupAt Hq p → Drawn p Hq Hr → PbAt Hq u → PbAt Hr u := fun c d h x m => ⟨d.at' (h x m).1 (noT c (h x m).1), d.at' (h x m).2.1 (noT c (h x m).2.1), d.at' (h x m).2.2 (noT c (h x m).2.2)⟩
    have growEq : ∀ {g h : Grp}, g ∈ groupsOf ns → h ∈ groupsOf ns → decide (W g + W h ≤ W (uniG ns g h) + W (comG g h)) = !decide ((g, h) ∈ pbs u) := fun {g h} hg hh => by
      rw [hbad, Bool.eq_iff_iff, decide_eq_true_iff, Bool.not_eq_true', decide_eq_false_iff_not, mem_bad hg hh]
      unfold badB
      rw [decide_eq_true_iff]
      exact Int.not_lt.symm
    refine ⟨_, rfl, by decide, by decide, for_range (n := 10) (fun _ σ H8 => ∃ (y7 y8 y9 y10 y11 y12 y13 y14 y15 y16 y17 : Option V), σ = [some (.ref p), some (.ref pl), some (.ref gm), some (.ref tn), some (.ref wq), some (.ref uq), some (.ref gq), y7, y8, y9, y10, y11, y12, y13, y14, y15, y16, y17] ∧ Drawn p H7 H8)
      ⟨_, _, _, _, _, _, _, _, _, _, _, rfl, .here cup7⟩ (fun j σ H8 hj hP => ?_) (fun σ H8 hP => ?_)⟩
    · obtain ⟨y7, y8, y9, y10, y11, y12, y13, y14, y15, y16, y17, rfl, d8⟩ := hP
      refine ⟨_, rfl, _, rfl, p, gq, refs ts, rfl, d8.cup, .inl (.inl (d8.at' hgq7 gqp)), gqp, ts0, tsl, fun v1 H9 hv1 d9 => ?_⟩
      obtain ⟨e, he, rfl⟩ := List.mem_map.mp hv1
      have d79 := d8.trans d9
      refine ⟨_, rfl, _, rfl, p, gq, refs ts, rfl, d9.cup, .inl (.inl (d79.at' hgq7 gqp)), gqp, ts0, tsl, fun v2 HA hv2 dA => ?_⟩
      obtain ⟨f, hf, rfl⟩ := List.mem_map.mp hv2
      have d7A := d79.trans dA
      refine ⟨(by show 2 ≤ sizeLine; decide), fun tt ntt => ⟨tt, _, rfl, .inl (.inl upd_same), rfl, ?_⟩⟩
      refine ⟨_, _, rfl, _, _, rfl, rfl, ?_⟩
      have st := same_new (o := HO.tup [V.ref e.1, V.ref f.1]) ntt
      have d7B : Drawn p H7 _ := d7A.trans ⟨Same.kp st, d7A.cup.same st⟩
      generalize upd HA tt (.tup [V.ref e.1, V.ref f.1]) = HB at d7B
      have heB := d7B.at' (ht7 e he) (noT cup7 (ht7 e he))
      have hfB := d7B.at' (ht7 f hf) (noT cup7 (ht7 f hf))
      have huB := d7B.at' hu7 uqp
      have htuB := pbD cup7 d7B htu7
      refine ⟨_, rfl, _, rfl, _, rfl, gm, e.1, f.1, ns, W, e.2, f.2, rfl, hG7.drawn cup7 d7B, hns, heB, hfB, tsm e he, tsm f hf, fun HC sC => ?_⟩
      refine ⟨_, rfl, _, rfl, (by show 2 ≤ sizeLine; decide), fun N nN => ?_⟩
      have sN := same_new (o := HO.tup [V.ref e.1, V.ref f.1]) nN
      have sBN := sC.trans sN
      refine ⟨_, rfl, prD (e.2, f.2), (pbs u).map prD, .tup (.inl (.inl upd_same)) (.cons (.tup (.inl (.inl (sBN _ _ heB))) (dp_names _)) (.cons (.tup (.inl (.inl (sBN _ _ hfB))) (dp_names _)) .nil)), .lst (.inl (.inl (sBN _ _ huB))) (dp_pbs (htuB.same sBN)), rp_shaped (rp_pr hns (tsm e he) (tsm f hf)) (by decide), hshape, ?_⟩
      rw [any_pr, growEq (tsm e he) (tsm f hf)]
      refine ⟨rfl, _, rfl, iteNS rfl ?_⟩
      exact ⟨_, _, _, _, _, _, _, _, _, _, _, rfl, d7B.trans ⟨Same.kp sBN, d7B.cup.same sBN⟩⟩
    obtain ⟨y7, y8, y9, y10, y11, y12, y13, y14, y15, y16, y17, rfl, d78⟩ := hP
    have hu8 := d78.at' hu7 uqp
    have htu8 := pbD cup7 d78 htu7
    have hG8 := hG7.drawn cup7 d78
    have hpl8 := hpl7.drawn cup7 d78
    have d8 : Drawn p H H8 := d7.trans d78
    have cup8 := d78.cup
    refine ⟨_, rfl, _, rfl, uq, _, rfl, .inl (.inl hu8), fun SC nSC => ?_⟩
    rw [show (6 : Int) = ((6 : Nat) : Int) from rfl, cutV_take]
    have sS := same_new (o := HO.lst ((brefs u).take 6)) nSC
    have hSC : (upd H8 SC (.lst ((brefs u).take 6))) SC = some (.lst ((brefs u).take 6)) := upd_same
    generalize upd H8 SC (.lst ((brefs u).take 6)) = H9 at sS hSC
    refine ⟨SC, rfl, ⟨_, .inl (.inl hSC)⟩, fun Ad nA => ?_⟩
    refine lc_it (walk_list (xs := (brefs u).take 6)) (fun i HA => Same H9 HA ∧ HA Ad = some (.lst [])) ⟨same_new nA, upd_same⟩ (fun i HA hi hP => .inl (.inl (hP.1 _ _ hSC))) (fun i x HA HB hi hP hY => ?_) (fun HA hP => ?_)
    · obtain ⟨sA, hA⟩ := hP
      obtain ⟨rfl, hx⟩ := hY
      obtain ⟨y, hy, rfl⟩ := List.mem_map.mp (List.mem_of_mem_take (List.mem_of_getElem? hx))
      have s8A := sS.trans sA
      obtain ⟨p1, p2, p3⟩ := htu8.same s8A y hy
      have my : (y.2.1.2, y.2.2.2) ∈ pbs u := List.mem_map.mpr ⟨y, hy, rfl⟩
      obtain ⟨m1, m2, _⟩ := bad_groups (hbad ▸ my)
      refine ⟨rfl, _, rfl, _, rfl, y.1, _, _, _, rfl, rfl, .inl (.inl p1), rfl, _, rfl, y.1, _, _, _, rfl, rfl, .inl (.inl p1), rfl, gm, y.2.1.1, y.2.2.1, ns, W, y.2.1.2, y.2.2.2, rfl, hG8.same s8A, hns, p2, p3, m1, m2, fun HC sC => ⟨_, rfl, ?_⟩⟩
      rw [growEq m1 m2, decide_eq_true my]
      refine ite2 (fun c => absurd c (by decide)) (fun _ => ⟨sA.trans sC, sC _ _ hA⟩)
    obtain ⟨sA, hA⟩ := hP
    refine ⟨Nat.zero_le _, fun z4 nz4 => ?_⟩
    have sz4 := same_new (o := HO.lst []) nz4
    refine ⟨.list [], .list [], .lst (.inl (.inl (sz4 _ _ hA))) .nil, .lst (.inl (.inl upd_same)) .nil, rfl, rfl, _, rfl, ?_⟩
    rw [eqv_empty]
    refine ite2 (fun c => absurd c (by decide)) (fun _ => ?_)
    have s8B := sS.trans (sA.trans sz4)
    generalize upd HA z4 (.lst []) = HB at s8B
    have hplB := hpl8.same s8B
    have hGB := hG8.same s8B
    clear sS hSC sA hA sz4
    refine ⟨_, rfl, pl, tn, wq, ns, W, rfl, hplB, hns, fun tq HC l sBC ntq htq hlC hd => ⟨tq, rfl, ⟨_, .inl (.inl htq)⟩, fun Sd nS => ?_⟩⟩
    have hplC := hplB.same sBC
    have hGC := hGB.same sBC
    have tl := tris_len n5
    have ll : (trefs l).length = (trisOf ns).length := by rw [← hd]; exact (List.length_map ..).trans (List.length_map ..).symm
    refine lc_it (walk_list (xs := trefs l)) (fun i HD => Same HC HD ∧ HD Sd = some (.lst ((((trisOf ns).take i).map (gapOf W)).map V.int))) ⟨same_new nS, upd_same⟩ (fun i HD hi hP => .inl (.inl (hP.1 _ _ htq))) (fun i x HD HE hi hP hY => ?_) (fun HD hP => ?_)
    · obtain ⟨sD, hS⟩ := hP
      obtain ⟨rfl, hx⟩ := hY
      obtain ⟨y, hy, rfl⟩ : ∃ y, l[i]? = some y ∧ x = V.ref y.1 := by
        have hx : (l.map fun t => V.ref t.1)[i]? = some x := hx
        rw [List.getElem?_map] at hx
        cases q : l[i]? with
        | none => rw [q] at hx; cases hx
        | some e => rw [q] at hx; cases hx; exact ⟨e, rfl, rfl⟩
      have ym := List.mem_of_getElem? hy
      have yt : (trisOf ns)[i]? = some y.2.2 := by
        rw [← hd]
        show (l.map _)[i]? = _
        rw [List.getElem?_map, hy]
        rfl
      obtain ⟨p1, p2⟩ := hlC.same sD y ym
      refine ⟨rfl, _, rfl, _, rfl, pl, tn, wq, y.1, y.2.1, ns, W, y.2.2, rfl, hplC.same sD, hns, p1, p2, List.mem_of_getElem? yt, fun HF sF => ⟨_, sF _ _ hS, small1000 (by rw [List.length_map, List.length_map, List.length_take]; omega), ?_, ?_⟩⟩
      · intro c o z
        rw [upd_ne (ne_of_none z nS)]
        exact sF _ _ (sD _ _ z)
      · rw [upd_same, List.take_add_one, yt, List.map_append, List.map_append]
        rfl
    obtain ⟨sD, hS⟩ := hP
    rw [ll, List.take_length] at hS
    have hGD := hGC.same sD
    have s8D := s8B.trans (sBC.trans sD)
    obtain ⟨dxD, tnD, gqD, wqD, tsD, rqD, gvD, hiD, _⟩ := hGD.ex
    generalize hgaps : (trisOf ns).map (gapOf W) = gaps at hS
    have gl : gaps.length ≤ 800 := by rw [← hgaps, List.length_map]; exact tl
    refine ⟨_, rfl, gm, ns, W, rfl, hGD, hns, fun HE kpE hGE => ?_⟩
    refine ⟨_, rfl, gm, ns, W, rfl, hGE, hns, fun HF kpF hGF => ⟨(by show 2 ≤ sizeLine; decide), fun tq2 ntq2 => ?_⟩⟩
    rw [hgaps]
    have kpDF := kpE.trans kpF
    have hSF := kp_at hiD kpDF hS (by intro _ _ _ z; cases z)
    generalize hsh : (gaps.all fun z => decide (z ≤ 0)) = sh
    generalize had : (gaps.all fun z => decide (z = 0)) = ad
    have sT := same_new (o := HO.lst [V.bl sh, V.bl ad]) ntq2
    have hT : (upd HF tq2 (.lst [V.bl sh, V.bl ad])) tq2 = some (.lst [V.bl sh, V.bl ad]) := upd_same
    generalize upd HF tq2 (.lst [V.bl sh, V.bl ad]) = HG at sT hT
    have hSG := sT _ _ hSF
    have at' : ∀ {i : Nat} {x : V}, (gaps.map V.int)[i]? = some x → ∃ z, gaps[i]? = some z ∧ x = V.int z := fun {i x} hx => by
      rw [List.getElem?_map] at hx
      cases e : gaps[i]? with
      | none => rw [e] at hx; cases hx
      | some z => rw [e] at hx; exact ⟨z, rfl, (Option.some.inj hx).symm⟩
    refine ⟨_, rfl, _, rfl, Sd, rfl, ⟨_, .inl (.inl hSG)⟩, fun Bd nB => ?_⟩
    let f1 : Int → Bool := fun z => decide (z > 0)
    refine lc_it (walk_list (xs := gaps.map V.int)) (fun i HH => Same HG HH ∧ HH Bd = some (.lst (((gaps.take i).filter f1).map V.int))) ⟨same_new nB, upd_same⟩ (fun i HH hi hP => .inl (.inl (hP.1 _ _ hSG))) (fun i x HH HI hi hP hY => ?_) (fun HH hP => ?_)
    · obtain ⟨sH, hB⟩ := hP
      obtain ⟨rfl, hx⟩ := hY
      obtain ⟨z, hz, rfl⟩ := at' hx
      have more : (gaps.take (i + 1)).filter f1 = (gaps.take i).filter f1 ++ [z].filter f1 := by
        rw [List.take_add_one, hz, List.filter_append]
        rfl
      refine ⟨rfl, _, rfl, _, _, rfl, rfl, _, rfl, ?_⟩
      refine ite2 (fun c => ?_) (fun c => ?_)
      · refine ⟨_, rfl, _, hB, small1000 ?_, fun b o e => ?_, ?_⟩
        · rw [List.length_map]
          refine Nat.le_trans (List.length_filter_le _ _) ?_
          rw [List.length_take]
          omega
        · rw [upd_ne (ne_of_none e nB)]
          exact sH _ _ e
        · rw [upd_same, more, List.filter_cons_of_pos (p := f1) c, List.map_append]
          rfl
      · refine ⟨sH, ?_⟩
        rw [hB, more, List.filter_cons_of_neg (p := f1) c]
        show _ = some (HO.lst (((gaps.take i).filter f1 ++ []).map V.int))
        rw [List.append_nil]
    obtain ⟨sH, hB⟩ := hP
    rw [List.length_map, List.take_length] at hB
    refine ⟨Nat.zero_le _, fun z5 nz5 => ?_⟩
    have sz5 := same_new (o := HO.lst []) nz5
    refine ⟨.list (encI (gaps.filter f1)), .list [], .lst (.inl (.inl (sz5 _ _ hB))) (dp_intsV _), .lst (.inl (.inl upd_same)) .nil, ints_shapedL _, rfl, ?_⟩
    rw [eqv_empty]
    have e1 : (encI (gaps.filter f1)).isEmpty = sh := by
      rw [← hsh, Bool.eq_iff_iff, List.isEmpty_iff, List.all_eq_true]
      show (gaps.filter f1).map _ = [] ↔ _
      rw [List.map_eq_nil_iff, List.filter_eq_nil_iff]
      refine forall_congr' fun z => forall_congr' fun _ => ?_
      show ¬ decide (z > 0) = true ↔ _
      rw [decide_eq_true_iff, decide_eq_true_iff]
      omega
    rw [e1]
    have sGJ := sH.trans sz5
    generalize upd HH z5 (.lst []) = HJ at sGJ
    refine ⟨_, rfl, Sd, rfl, ⟨_, .inl (.inl (sGJ _ _ hSG))⟩, fun Cd nC => ?_⟩
    let f2 : Int → Bool := fun z => !decide (V.int z = V.int 0)
    refine lc_it (walk_list (xs := gaps.map V.int)) (fun i HK => Same HJ HK ∧ HK Cd = some (.lst (((gaps.take i).filter f2).map V.int))) ⟨same_new nC, upd_same⟩ (fun i HK hi hP => .inl (.inl (hP.1 _ _ (sGJ _ _ hSG)))) (fun i x HK HL hi hP hY => ?_) (fun HK hP => ?_)
    · obtain ⟨sK, hC⟩ := hP
      obtain ⟨rfl, hx⟩ := hY
      obtain ⟨z, hz, rfl⟩ := at' hx
      have more : (gaps.take (i + 1)).filter f2 = (gaps.take i).filter f2 ++ [z].filter f2 := by
        rw [List.take_add_one, hz, List.filter_append]
        rfl
      refine ⟨rfl, _, rfl, rfl, _, rfl, ?_⟩
      refine ite2 (fun c => ?_) (fun c => ?_)
      · refine ⟨_, rfl, _, hC, small1000 ?_, fun b o e => ?_, ?_⟩
        · rw [List.length_map]
          refine Nat.le_trans (List.length_filter_le _ _) ?_
          rw [List.length_take]
          omega
        · rw [upd_ne (ne_of_none e nC)]
          exact sK _ _ e
        · rw [upd_same, more, List.filter_cons_of_pos (p := f2) c, List.map_append]
          rfl
      · refine ⟨sK, ?_⟩
        rw [hC, more, List.filter_cons_of_neg (p := f2) c]
        show _ = some (HO.lst (((gaps.take i).filter f2 ++ []).map V.int))
        rw [List.append_nil]
    obtain ⟨sK, hC⟩ := hP
    rw [List.length_map, List.take_length] at hC
    refine ⟨Nat.zero_le _, fun z6 nz6 => ?_⟩
    have sz6 := same_new (o := HO.lst []) nz6
    refine ⟨.list (encI (gaps.filter f2)), .list [], .lst (.inl (.inl (sz6 _ _ hC))) (dp_intsV _), .lst (.inl (.inl upd_same)) .nil, ints_shapedL _, rfl, ?_⟩
    rw [eqv_empty]
    have e2 : (encI (gaps.filter f2)).isEmpty = ad := by
      rw [← had, Bool.eq_iff_iff, List.isEmpty_iff, List.all_eq_true]
      show (gaps.filter f2).map _ = [] ↔ _
      rw [List.map_eq_nil_iff, List.filter_eq_nil_iff]
      refine forall_congr' fun z => forall_congr' fun _ => ?_
      show ¬ (!decide (V.int z = V.int 0)) = true ↔ _
      rw [Bool.not_eq_true', decide_eq_false_iff_not, decide_eq_true_iff, Classical.not_not]
      exact ⟨V.int.inj, fun e => congrArg V.int e⟩
    rw [e2]
    have sGM := sGJ.trans (sK.trans sz6)
    generalize upd HK z6 (.lst []) = HM at sGM
    refine ⟨(by show 2 ≤ sizeLine; decide), fun F nF => ?_⟩
    have sF := same_new (o := HO.lst [V.bl sh, V.bl ad]) nF
    have sGN := sGM.trans sF
    refine ⟨.list [.bool sh, .bool ad], .list [.bool sh, .bool ad], .lst (.inl (.inl (sGN _ _ hT))) (.cons (.bl _) (.cons (.bl _) .nil)), .lst (.inl (.inl upd_same)) (.cons (.bl _) (.cons (.bl _) .nil)), rfl, rfl, ?_⟩
    rw [eqv_bools]
    have sFN := sT.trans sGN
    refine k _ ⟨fun b o nb e => ?_, ?_⟩
    · exact sFN _ _ (kpDF _ _ (ne_of_none e ngm) (s8D _ _ (d8.kp b o nb e)))
    · obtain ⟨x, y, z, e⟩ := cup8
      exact ⟨x, y, z, sFN _ _ (kpDF _ _ ngmp.symm (s8D _ _ e))⟩
/-! ### law -/
/-- how deep the law's calls go -/
def lawLevel : Nat := 10
/-- the law of a list of at most 63 ints -/
def spLaw (K : PySem.W.Frag) : Sp := fun vs H Q _ => ∃ (a : Addr) (ns : List Int), vs = [.ref a] ∧ SqL K H a (ns.map V.int) ∧ ns.length ≤ 63 ∧ ∀ H', Q (.bl true) H'
theorem law_ok {a__wall a_is_whole a_is_integer a_is_name a_sums a_gaps_of a_is_ascending a_groups_of a_union a_common a__kept a_is_people a_is_worth a_are_worths a_check_people a_check_game a_check_group a_check_some a_is_growing a_is_shrinking a_is_additive a_is_growing_by a__law_cup a__law_sip a__law_select a__law_mingled a__law_groups a__law_names a__law_by_parts a__law_by_size a__law_by_estate a__law_growing a__law_game a__law_made_game a__law_with a__law_breaks a__law_is_growing a__law_case a__law_own_tests a__law_own_gap a__law_right fa C_Game a_Game___init__ a_Game_people a_Game_groups a_Game_gaps a_Game___getitem__ : Addr} {fd__wall fd_is_whole fd_is_integer fd_is_name fd_sums fd_gaps_of fd_is_ascending fd_groups_of fd_union fd_common fd__kept fd_is_people fd_is_worth fd_are_worths fd_check_people fd_check_game fd_check_group fd_check_some fd_is_growing fd_is_shrinking fd_is_additive fd_is_growing_by fd__law_cup fd__law_sip fd__law_select fd__law_mingled fd__law_groups fd__law_names fd__law_by_parts fd__law_by_size fd__law_by_estate fd__law_growing fd__law_game fd__law_made_game fd__law_with fd__law_breaks fd__law_is_growing fd__law_case fd__law_own_tests fd__law_own_gap fd__law_right fd_law fd_Game___init__ fd_Game_people fd_Game_groups fd_Game_gaps fd_Game___getitem__ : FuncData} (T : Txt mg)
    (D__wall : Df K mg "_wall" s__wall p__wall a__wall fd__wall)
    (D_is_whole : Df K mg "is_whole" s_is_whole p_is_whole a_is_whole fd_is_whole)
    (D_is_integer : Df K mg "is_integer" s_is_integer p_is_integer a_is_integer fd_is_integer)
    (D_is_name : Df K mg "is_name" s_is_name p_is_name a_is_name fd_is_name)
    (D_sums : Df K mg "sums" s_sums p_sums a_sums fd_sums)
    (D_gaps_of : Df K mg "gaps_of" s_gaps_of p_gaps_of a_gaps_of fd_gaps_of)
    (D_is_ascending : Df K mg "is_ascending" s_is_ascending p_is_ascending a_is_ascending fd_is_ascending)
    (D_groups_of : Df K mg "groups_of" s_groups_of p_groups_of a_groups_of fd_groups_of)
    (D_union : Df K mg "union" s_union p_union a_union fd_union)
    (D_common : Df K mg "common" s_common p_common a_common fd_common)
    (D__kept : Df K mg "_kept" s__kept p__kept a__kept fd__kept)
    (D_is_people : Df K mg "is_people" s_is_people p_is_people a_is_people fd_is_people)
    (D_is_worth : Df K mg "is_worth" s_is_worth p_is_worth a_is_worth fd_is_worth)
    (D_are_worths : Df K mg "are_worths" s_are_worths p_are_worths a_are_worths fd_are_worths)
    (D_check_people : Df K mg "check_people" s_check_people p_check_people a_check_people fd_check_people)
    (D_check_game : Df K mg "check_game" s_check_game p_check_game a_check_game fd_check_game)
    (D_check_group : Df K mg "check_group" s_check_group p_check_group a_check_group fd_check_group)
    (D_check_some : Df K mg "check_some" s_check_some p_check_some a_check_some fd_check_some)
    (D_is_growing : Df K mg "is_growing" s_is_growing p_is_growing a_is_growing fd_is_growing)
    (D_is_shrinking : Df K mg "is_shrinking" s_is_shrinking p_is_shrinking a_is_shrinking fd_is_shrinking)
    (D_is_additive : Df K mg "is_additive" s_is_additive p_is_additive a_is_additive fd_is_additive)
    (D_is_growing_by : Df K mg "is_growing_by" s_is_growing_by p_is_growing_by a_is_growing_by fd_is_growing_by)
    (D__law_cup : Df K mg "_law_cup" s__law_cup p__law_cup a__law_cup fd__law_cup)
    (D__law_sip : Df K mg "_law_sip" s__law_sip p__law_sip a__law_sip fd__law_sip)
    (D__law_select : Df K mg "_law_select" s__law_select p__law_select a__law_select fd__law_select)
    (D__law_mingled : Df K mg "_law_mingled" s__law_mingled p__law_mingled a__law_mingled fd__law_mingled)
    (D__law_groups : Df K mg "_law_groups" s__law_groups p__law_groups a__law_groups fd__law_groups)
    (D__law_names : Df K mg "_law_names" s__law_names p__law_names a__law_names fd__law_names)
    (D__law_by_parts : Df K mg "_law_by_parts" s__law_by_parts p__law_by_parts a__law_by_parts fd__law_by_parts)
    (D__law_by_size : Df K mg "_law_by_size" s__law_by_size p__law_by_size a__law_by_size fd__law_by_size)
    (D__law_by_estate : Df K mg "_law_by_estate" s__law_by_estate p__law_by_estate a__law_by_estate fd__law_by_estate)
    (D__law_growing : Df K mg "_law_growing" s__law_growing p__law_growing a__law_growing fd__law_growing)
    (D__law_game : Df K mg "_law_game" s__law_game p__law_game a__law_game fd__law_game)
    (D__law_made_game : Df K mg "_law_made_game" s__law_made_game p__law_made_game a__law_made_game fd__law_made_game)
    (D__law_with : Df K mg "_law_with" s__law_with p__law_with a__law_with fd__law_with)
    (D__law_breaks : Df K mg "_law_breaks" s__law_breaks p__law_breaks a__law_breaks fd__law_breaks)
    (D__law_is_growing : Df K mg "_law_is_growing" s__law_is_growing p__law_is_growing a__law_is_growing fd__law_is_growing)
    (D__law_case : Df K mg "_law_case" s__law_case p__law_case a__law_case fd__law_case)
    (D__law_own_tests : Df K mg "_law_own_tests" s__law_own_tests p__law_own_tests a__law_own_tests fd__law_own_tests)
    (D__law_own_gap : Df K mg "_law_own_gap" s__law_own_gap p__law_own_gap a__law_own_gap fd__law_own_gap)
    (D__law_right : Df K mg "_law_right" s__law_right p__law_right a__law_right fd__law_right)
    (D_law : Df K mg "law" s_law p_law fa fd_law)
    (DC_Game : Cl_Game K mg C_Game)
    (D_Game___init__ : Dm K C_Game "__init__" "Game.__init__" s_Game___init__ p_Game___init__ a_Game___init__ fd_Game___init__)
    (D_Game_people : Dpr K C_Game "people" "Game.people" s_Game_people p_Game_people a_Game_people fd_Game_people)
    (D_Game_groups : Dpr K C_Game "groups" "Game.groups" s_Game_groups p_Game_groups a_Game_groups fd_Game_groups)
    (D_Game_gaps : Dpr K C_Game "gaps" "Game.gaps" s_Game_gaps p_Game_gaps a_Game_gaps fd_Game_gaps)
    (D_Game___getitem__ : Dm K C_Game "__getitem__" "Game.__getitem__" s_Game___getitem__ p_Game___getitem__ a_Game___getitem__ fd_Game___getitem__) :
    FnG P w K mg base lawLevel fa fd_law ["script"] (spLaw K) := by
  have GC : FnOk P w K mg base CX0 1 a__law_cup fd__law_cup p__law_cup (spCup K) := ok_cup T D__law_cup
  have GR : FnG P w K mg base 9 a__law_right fd__law_right p__law_right spRight := FnG.of (ok_right08 T D__law_right D__law_case D__law_is_growing D__law_breaks D__law_with D_is_growing_by D_union D_common D_is_growing D_is_shrinking D_is_additive
    D_gaps_of D_sums D__law_own_tests D__law_own_gap D_check_group D__law_game D__law_growing D__law_names D__law_sip D__law_select D__law_mingled D__law_groups D__law_by_parts D__law_by_size D__law_by_estate D__law_made_game DC_Game D_Game___init__ D_check_people D_is_people D_is_name D_is_ascending
    D_are_worths D_is_worth D_is_integer D_is_whole D_groups_of D_check_game D_Game_gaps D_Game_groups D_Game___getitem__)
  refine okG D_law.F c_law (fun vs H Q E h => ?_) (fun cdv A outer s H vs Q E hr gu h => ?_)
  · obtain ⟨a, ns, rfl, _⟩ := h
    rfl
  · obtain ⟨a, ns, rfl, hS, hl, k⟩ := h
    have nd := c_law.nd
    have hr1 : Room 1 _ := hr.mono (show 1 ≤ 9 by decide)
    refine ⟨_, pss_cons (ps_for PassesOwn.never rfl (pi_range1 rfl T.b_range (pa_cons (pe_callB (call_max2 rfl) (by rfl) T.b_max boot_max (pa_cons pe_int (pa_cons (pe_callB (call_min2 rfl) (by rfl) T.b_min boot_min (pa_cons pe_int (pa_cons (pe_callB call_len_seq (by rfl) T.b_len PySem.boot_len (pa_cons (pv 0) pa_nil)) pa_nil))) pa_nil))) pa_nil)) (pg_name (i := 1) nd rfl (Or.inl rfl))
        (pss_cons (ps_set (i := 2) nd rfl (.inl rfl) (dcall D__law_cup GC hr1 (pa_cons (pv 0) (pa_cons (pv 1) pa_nil))))
        (pss_one (ps_for PassesOwn.never rfl (pi_range1 rfl T.b_range (pa_cons pe_int pa_nil)) (pg_name (i := 3) nd rfl (Or.inl rfl))
          (pss_one (ps_if (pt_not (pt_val (dcallG D__law_right GR hr gu (pa_cons (pv 2) pa_nil)))) (pss_one (ps_ret pe_bl)) pss_nil))))))
      (pss_one (ps_ret pe_bl)), ?_⟩
    refine ⟨_, rfl, a, _, rfl, .inl hS, _, _, rfl, _, _, rfl, _, rfl, ?_, ?_, ?_⟩
    · rw [List.length_map]
      split <;> split <;> omega
    · rw [List.length_map]
      split <;> split <;> omega
    refine for_range (fun _ σ H5 => ∃ (y1 y2 y3 : Option V), σ = [some (.ref a), y1, y2, y3] ∧ Same H H5) ⟨_, _, _, rfl, .refl _⟩ (fun j σ H5 hj hP => ?_) (fun σ H5 hP => ?_)
    · obtain ⟨y1, y2, y3, rfl, s5⟩ := hP
      refine ⟨_, rfl, _, rfl, a, ns, j, (by show [V.ref a, V.int (0 + (j : Int))] = _; rw [Int.zero_add]), s5.seq hS, fun p H6 s6 np hcup => ?_⟩
      refine ⟨_, rfl, by decide, by decide, for_range (n := 2) (fun _ σ H7 => ∃ (y1 y3 : Option V), σ = [some (.ref a), y1, some (.ref p), y3] ∧ Drawn p H6 H7) ⟨_, _, rfl, .here hcup⟩ (fun i σ H7 hi hP => ?_) (fun σ H7 hP => ?_)⟩
      · obtain ⟨y1, y3, rfl, d7⟩ := hP
        refine ⟨_, rfl, p, rfl, d7.cup, fun H8 d8 => ⟨_, rfl, ?_⟩⟩
        exact ⟨_, _, rfl, d7.trans d8⟩
      · obtain ⟨y1, y3, rfl, d7⟩ := hP
        exact ⟨_, _, _, rfl, s5.trans fun b o hb => d7.kp _ _ (ne_of_none hb np) (s6 _ _ hb)⟩
    · obtain ⟨y1, y2, y3, rfl, s5⟩ := hP
      exact k H5
end
/-! what the top has written -/
set_option maxHeartbeats 0 in
theorem all_mk {l : PySem.W.OpenLaw} {w : World} {K : PySem.W.Frag} {h : Heap} {mg : Str → Option Value} {fa : Addr} (X : K.In h) (G : h.Ns mainGlobals mg) (hfa : mg "law" = some (.ref fa))
    {a__wall : Addr} {od__wall an__wall : Option Addr} {sl__wall : Array (Option Value)} {oc__wall kV__wall dc__wall pm__wall cd__wall ct__wall : Value}
    {a_is_whole : Addr} {od_is_whole an_is_whole : Option Addr} {sl_is_whole : Array (Option Value)} {oc_is_whole kV_is_whole dc_is_whole pm_is_whole cd_is_whole ct_is_whole : Value}
    {a_is_integer : Addr} {od_is_integer an_is_integer : Option Addr} {sl_is_integer : Array (Option Value)} {oc_is_integer kV_is_integer dc_is_integer pm_is_integer cd_is_integer ct_is_integer : Value}
    {a_is_name : Addr} {od_is_name an_is_name : Option Addr} {sl_is_name : Array (Option Value)} {oc_is_name kV_is_name dc_is_name pm_is_name cd_is_name ct_is_name : Value}
    {a_sums : Addr} {od_sums an_sums : Option Addr} {sl_sums : Array (Option Value)} {oc_sums kV_sums dc_sums pm_sums cd_sums ct_sums : Value}
    {a_gaps_of : Addr} {od_gaps_of an_gaps_of : Option Addr} {sl_gaps_of : Array (Option Value)} {oc_gaps_of kV_gaps_of dc_gaps_of pm_gaps_of cd_gaps_of ct_gaps_of : Value}
    {a_is_ascending : Addr} {od_is_ascending an_is_ascending : Option Addr} {sl_is_ascending : Array (Option Value)} {oc_is_ascending kV_is_ascending dc_is_ascending pm_is_ascending cd_is_ascending ct_is_ascending : Value}
    {a_groups_of : Addr} {od_groups_of an_groups_of : Option Addr} {sl_groups_of : Array (Option Value)} {oc_groups_of kV_groups_of dc_groups_of pm_groups_of cd_groups_of ct_groups_of : Value}
    {a_union : Addr} {od_union an_union : Option Addr} {sl_union : Array (Option Value)} {oc_union kV_union dc_union pm_union cd_union ct_union : Value}
    {a_common : Addr} {od_common an_common : Option Addr} {sl_common : Array (Option Value)} {oc_common kV_common dc_common pm_common cd_common ct_common : Value}
    {a__kept : Addr} {od__kept an__kept : Option Addr} {sl__kept : Array (Option Value)} {oc__kept kV__kept dc__kept pm__kept cd__kept ct__kept : Value}
    {a_is_people : Addr} {od_is_people an_is_people : Option Addr} {sl_is_people : Array (Option Value)} {oc_is_people kV_is_people dc_is_people pm_is_people cd_is_people ct_is_people : Value}
    {a_is_worth : Addr} {od_is_worth an_is_worth : Option Addr} {sl_is_worth : Array (Option Value)} {oc_is_worth kV_is_worth dc_is_worth pm_is_worth cd_is_worth ct_is_worth : Value}
    {a_are_worths : Addr} {od_are_worths an_are_worths : Option Addr} {sl_are_worths : Array (Option Value)} {oc_are_worths kV_are_worths dc_are_worths pm_are_worths cd_are_worths ct_are_worths : Value}
    {a_check_people : Addr} {od_check_people an_check_people : Option Addr} {sl_check_people : Array (Option Value)} {oc_check_people kV_check_people dc_check_people pm_check_people cd_check_people ct_check_people : Value}
    {a_check_game : Addr} {od_check_game an_check_game : Option Addr} {sl_check_game : Array (Option Value)} {oc_check_game kV_check_game dc_check_game pm_check_game cd_check_game ct_check_game : Value}
    {a_check_group : Addr} {od_check_group an_check_group : Option Addr} {sl_check_group : Array (Option Value)} {oc_check_group kV_check_group dc_check_group pm_check_group cd_check_group ct_check_group : Value}
    {a_check_some : Addr} {od_check_some an_check_some : Option Addr} {sl_check_some : Array (Option Value)} {oc_check_some kV_check_some dc_check_some pm_check_some cd_check_some ct_check_some : Value}
    {a_is_growing : Addr} {od_is_growing an_is_growing : Option Addr} {sl_is_growing : Array (Option Value)} {oc_is_growing kV_is_growing dc_is_growing pm_is_growing cd_is_growing ct_is_growing : Value}
    {a_is_shrinking : Addr} {od_is_shrinking an_is_shrinking : Option Addr} {sl_is_shrinking : Array (Option Value)} {oc_is_shrinking kV_is_shrinking dc_is_shrinking pm_is_shrinking cd_is_shrinking ct_is_shrinking : Value}
    {a_is_additive : Addr} {od_is_additive an_is_additive : Option Addr} {sl_is_additive : Array (Option Value)} {oc_is_additive kV_is_additive dc_is_additive pm_is_additive cd_is_additive ct_is_additive : Value}
    {a_is_growing_by : Addr} {od_is_growing_by an_is_growing_by : Option Addr} {sl_is_growing_by : Array (Option Value)} {oc_is_growing_by kV_is_growing_by dc_is_growing_by pm_is_growing_by cd_is_growing_by ct_is_growing_by : Value}
    {a__law_cup : Addr} {od__law_cup an__law_cup : Option Addr} {sl__law_cup : Array (Option Value)} {oc__law_cup kV__law_cup dc__law_cup pm__law_cup cd__law_cup ct__law_cup : Value}
    {a__law_sip : Addr} {od__law_sip an__law_sip : Option Addr} {sl__law_sip : Array (Option Value)} {oc__law_sip kV__law_sip dc__law_sip pm__law_sip cd__law_sip ct__law_sip : Value}
    {a__law_select : Addr} {od__law_select an__law_select : Option Addr} {sl__law_select : Array (Option Value)} {oc__law_select kV__law_select dc__law_select pm__law_select cd__law_select ct__law_select : Value}
    {a__law_mingled : Addr} {od__law_mingled an__law_mingled : Option Addr} {sl__law_mingled : Array (Option Value)} {oc__law_mingled kV__law_mingled dc__law_mingled pm__law_mingled cd__law_mingled ct__law_mingled : Value}
    {a__law_groups : Addr} {od__law_groups an__law_groups : Option Addr} {sl__law_groups : Array (Option Value)} {oc__law_groups kV__law_groups dc__law_groups pm__law_groups cd__law_groups ct__law_groups : Value}
    {a__law_names : Addr} {od__law_names an__law_names : Option Addr} {sl__law_names : Array (Option Value)} {oc__law_names kV__law_names dc__law_names pm__law_names cd__law_names ct__law_names : Value}
    {a__law_by_parts : Addr} {od__law_by_parts an__law_by_parts : Option Addr} {sl__law_by_parts : Array (Option Value)} {oc__law_by_parts kV__law_by_parts dc__law_by_parts pm__law_by_parts cd__law_by_parts ct__law_by_parts : Value}
    {a__law_by_size : Addr} {od__law_by_size an__law_by_size : Option Addr} {sl__law_by_size : Array (Option Value)} {oc__law_by_size kV__law_by_size dc__law_by_size pm__law_by_size cd__law_by_size ct__law_by_size : Value}
    {a__law_by_estate : Addr} {od__law_by_estate an__law_by_estate : Option Addr} {sl__law_by_estate : Array (Option Value)} {oc__law_by_estate kV__law_by_estate dc__law_by_estate pm__law_by_estate cd__law_by_estate ct__law_by_estate : Value}
    {a__law_growing : Addr} {od__law_growing an__law_growing : Option Addr} {sl__law_growing : Array (Option Value)} {oc__law_growing kV__law_growing dc__law_growing pm__law_growing cd__law_growing ct__law_growing : Value}
    {a__law_game : Addr} {od__law_game an__law_game : Option Addr} {sl__law_game : Array (Option Value)} {oc__law_game kV__law_game dc__law_game pm__law_game cd__law_game ct__law_game : Value}
    {a__law_made_game : Addr} {od__law_made_game an__law_made_game : Option Addr} {sl__law_made_game : Array (Option Value)} {oc__law_made_game kV__law_made_game dc__law_made_game pm__law_made_game cd__law_made_game ct__law_made_game : Value}
    {a__law_with : Addr} {od__law_with an__law_with : Option Addr} {sl__law_with : Array (Option Value)} {oc__law_with kV__law_with dc__law_with pm__law_with cd__law_with ct__law_with : Value}
    {a__law_breaks : Addr} {od__law_breaks an__law_breaks : Option Addr} {sl__law_breaks : Array (Option Value)} {oc__law_breaks kV__law_breaks dc__law_breaks pm__law_breaks cd__law_breaks ct__law_breaks : Value}
    {a__law_is_growing : Addr} {od__law_is_growing an__law_is_growing : Option Addr} {sl__law_is_growing : Array (Option Value)} {oc__law_is_growing kV__law_is_growing dc__law_is_growing pm__law_is_growing cd__law_is_growing ct__law_is_growing : Value}
    {a__law_case : Addr} {od__law_case an__law_case : Option Addr} {sl__law_case : Array (Option Value)} {oc__law_case kV__law_case dc__law_case pm__law_case cd__law_case ct__law_case : Value}
    {a__law_own_tests : Addr} {od__law_own_tests an__law_own_tests : Option Addr} {sl__law_own_tests : Array (Option Value)} {oc__law_own_tests kV__law_own_tests dc__law_own_tests pm__law_own_tests cd__law_own_tests ct__law_own_tests : Value}
    {a__law_own_gap : Addr} {od__law_own_gap an__law_own_gap : Option Addr} {sl__law_own_gap : Array (Option Value)} {oc__law_own_gap kV__law_own_gap dc__law_own_gap pm__law_own_gap cd__law_own_gap ct__law_own_gap : Value}
    {a__law_right : Addr} {od__law_right an__law_right : Option Addr} {sl__law_right : Array (Option Value)} {oc__law_right kV__law_right dc__law_right pm__law_right cd__law_right ct__law_right : Value}
    {a_law : Addr} {od_law an_law : Option Addr} {sl_law : Array (Option Value)} {oc_law kV_law dc_law pm_law cd_law ct_law : Value}
    {C_Game : Addr}
    {a_Game___init__ : Addr} {od_Game___init__ an_Game___init__ : Option Addr} {sl_Game___init__ : Array (Option Value)} {oc_Game___init__ kV_Game___init__ dc_Game___init__ pm_Game___init__ cd_Game___init__ ct_Game___init__ : Value}
    {a_Game_people : Addr} {od_Game_people an_Game_people : Option Addr} {sl_Game_people : Array (Option Value)} {oc_Game_people kV_Game_people dc_Game_people pm_Game_people cd_Game_people ct_Game_people : Value}
    {q_Game_people : Addr} {r_Game_people : List Value}
    {a_Game_groups : Addr} {od_Game_groups an_Game_groups : Option Addr} {sl_Game_groups : Array (Option Value)} {oc_Game_groups kV_Game_groups dc_Game_groups pm_Game_groups cd_Game_groups ct_Game_groups : Value}
    {q_Game_groups : Addr} {r_Game_groups : List Value}
    {a_Game_gaps : Addr} {od_Game_gaps an_Game_gaps : Option Addr} {sl_Game_gaps : Array (Option Value)} {oc_Game_gaps kV_Game_gaps dc_Game_gaps pm_Game_gaps cd_Game_gaps ct_Game_gaps : Value}
    {q_Game_gaps : Addr} {r_Game_gaps : List Value}
    {a_Game___getitem__ : Addr} {od_Game___getitem__ an_Game___getitem__ : Option Addr} {sl_Game___getitem__ : Array (Option Value)} {oc_Game___getitem__ kV_Game___getitem__ dc_Game___getitem__ pm_Game___getitem__ cd_Game___getitem__ ct_Game___getitem__ : Value}
    {t_MAX_LETTERS : Tok}
    {t__LETTERS : Tok}
    {t__INTEGER_BOUND : Tok}
    {t_MAX_PEOPLE : Tok}
    {t_MAX_WORTH : Tok}
    (h1__wall : PySem.W.nsIn K mainGlobals "_wall" = some (some (.ref a__wall)))
    (h2__wall : K.lookup a__wall = some ⟨oc__wall, od__wall, .func (PySem.W.fnOf "_wall" "_wall" (defArgs s__wall) (defBody s__wall) (defScope s__wall) .none kV__wall dc__wall pm__wall an__wall cd__wall ct__wall), sl__wall⟩)
    (h3__wall : PySem.W.codeIn K cd__wall "_wall" = true) (h4__wall : PySem.W.keepIn K (.ref a__wall) = true)
    (h1_is_whole : PySem.W.nsIn K mainGlobals "is_whole" = some (some (.ref a_is_whole)))
    (h2_is_whole : K.lookup a_is_whole = some ⟨oc_is_whole, od_is_whole, .func (PySem.W.fnOf "is_whole" "is_whole" (defArgs s_is_whole) (defBody s_is_whole) (defScope s_is_whole) .none kV_is_whole dc_is_whole pm_is_whole an_is_whole cd_is_whole ct_is_whole), sl_is_whole⟩)
    (h3_is_whole : PySem.W.codeIn K cd_is_whole "is_whole" = true) (h4_is_whole : PySem.W.keepIn K (.ref a_is_whole) = true)
    (h1_is_integer : PySem.W.nsIn K mainGlobals "is_integer" = some (some (.ref a_is_integer)))
    (h2_is_integer : K.lookup a_is_integer = some ⟨oc_is_integer, od_is_integer, .func (PySem.W.fnOf "is_integer" "is_integer" (defArgs s_is_integer) (defBody s_is_integer) (defScope s_is_integer) .none kV_is_integer dc_is_integer pm_is_integer an_is_integer cd_is_integer ct_is_integer), sl_is_integer⟩)
    (h3_is_integer : PySem.W.codeIn K cd_is_integer "is_integer" = true) (h4_is_integer : PySem.W.keepIn K (.ref a_is_integer) = true)
    (h1_is_name : PySem.W.nsIn K mainGlobals "is_name" = some (some (.ref a_is_name)))
    (h2_is_name : K.lookup a_is_name = some ⟨oc_is_name, od_is_name, .func (PySem.W.fnOf "is_name" "is_name" (defArgs s_is_name) (defBody s_is_name) (defScope s_is_name) .none kV_is_name dc_is_name pm_is_name an_is_name cd_is_name ct_is_name), sl_is_name⟩)
    (h3_is_name : PySem.W.codeIn K cd_is_name "is_name" = true) (h4_is_name : PySem.W.keepIn K (.ref a_is_name) = true)
    (h1_sums : PySem.W.nsIn K mainGlobals "sums" = some (some (.ref a_sums)))
    (h2_sums : K.lookup a_sums = some ⟨oc_sums, od_sums, .func (PySem.W.fnOf "sums" "sums" (defArgs s_sums) (defBody s_sums) (defScope s_sums) .none kV_sums dc_sums pm_sums an_sums cd_sums ct_sums), sl_sums⟩)
    (h3_sums : PySem.W.codeIn K cd_sums "sums" = true) (h4_sums : PySem.W.keepIn K (.ref a_sums) = true)
    (h1_gaps_of : PySem.W.nsIn K mainGlobals "gaps_of" = some (some (.ref a_gaps_of)))
    (h2_gaps_of : K.lookup a_gaps_of = some ⟨oc_gaps_of, od_gaps_of, .func (PySem.W.fnOf "gaps_of" "gaps_of" (defArgs s_gaps_of) (defBody s_gaps_of) (defScope s_gaps_of) .none kV_gaps_of dc_gaps_of pm_gaps_of an_gaps_of cd_gaps_of ct_gaps_of), sl_gaps_of⟩)
    (h3_gaps_of : PySem.W.codeIn K cd_gaps_of "gaps_of" = true) (h4_gaps_of : PySem.W.keepIn K (.ref a_gaps_of) = true)
    (h1_is_ascending : PySem.W.nsIn K mainGlobals "is_ascending" = some (some (.ref a_is_ascending)))
    (h2_is_ascending : K.lookup a_is_ascending = some ⟨oc_is_ascending, od_is_ascending, .func (PySem.W.fnOf "is_ascending" "is_ascending" (defArgs s_is_ascending) (defBody s_is_ascending) (defScope s_is_ascending) .none kV_is_ascending dc_is_ascending pm_is_ascending an_is_ascending cd_is_ascending ct_is_ascending), sl_is_ascending⟩)
    (h3_is_ascending : PySem.W.codeIn K cd_is_ascending "is_ascending" = true) (h4_is_ascending : PySem.W.keepIn K (.ref a_is_ascending) = true)
    (h1_groups_of : PySem.W.nsIn K mainGlobals "groups_of" = some (some (.ref a_groups_of)))
    (h2_groups_of : K.lookup a_groups_of = some ⟨oc_groups_of, od_groups_of, .func (PySem.W.fnOf "groups_of" "groups_of" (defArgs s_groups_of) (defBody s_groups_of) (defScope s_groups_of) .none kV_groups_of dc_groups_of pm_groups_of an_groups_of cd_groups_of ct_groups_of), sl_groups_of⟩)
    (h3_groups_of : PySem.W.codeIn K cd_groups_of "groups_of" = true) (h4_groups_of : PySem.W.keepIn K (.ref a_groups_of) = true)
    (h1_union : PySem.W.nsIn K mainGlobals "union" = some (some (.ref a_union)))
    (h2_union : K.lookup a_union = some ⟨oc_union, od_union, .func (PySem.W.fnOf "union" "union" (defArgs s_union) (defBody s_union) (defScope s_union) .none kV_union dc_union pm_union an_union cd_union ct_union), sl_union⟩)
    (h3_union : PySem.W.codeIn K cd_union "union" = true) (h4_union : PySem.W.keepIn K (.ref a_union) = true)
    (h1_common : PySem.W.nsIn K mainGlobals "common" = some (some (.ref a_common)))
    (h2_common : K.lookup a_common = some ⟨oc_common, od_common, .func (PySem.W.fnOf "common" "common" (defArgs s_common) (defBody s_common) (defScope s_common) .none kV_common dc_common pm_common an_common cd_common ct_common), sl_common⟩)
    (h3_common : PySem.W.codeIn K cd_common "common" = true) (h4_common : PySem.W.keepIn K (.ref a_common) = true)
    (h1__kept : PySem.W.nsIn K mainGlobals "_kept" = some (some (.ref a__kept)))
    (h2__kept : K.lookup a__kept = some ⟨oc__kept, od__kept, .func (PySem.W.fnOf "_kept" "_kept" (defArgs s__kept) (defBody s__kept) (defScope s__kept) .none kV__kept dc__kept pm__kept an__kept cd__kept ct__kept), sl__kept⟩)
    (h3__kept : PySem.W.codeIn K cd__kept "_kept" = true) (h4__kept : PySem.W.keepIn K (.ref a__kept) = true)
    (h1_is_people : PySem.W.nsIn K mainGlobals "is_people" = some (some (.ref a_is_people)))
    (h2_is_people : K.lookup a_is_people = some ⟨oc_is_people, od_is_people, .func (PySem.W.fnOf "is_people" "is_people" (defArgs s_is_people) (defBody s_is_people) (defScope s_is_people) .none kV_is_people dc_is_people pm_is_people an_is_people cd_is_people ct_is_people), sl_is_people⟩)
    (h3_is_people : PySem.W.codeIn K cd_is_people "is_people" = true) (h4_is_people : PySem.W.keepIn K (.ref a_is_people) = true)
    (h1_is_worth : PySem.W.nsIn K mainGlobals "is_worth" = some (some (.ref a_is_worth)))
    (h2_is_worth : K.lookup a_is_worth = some ⟨oc_is_worth, od_is_worth, .func (PySem.W.fnOf "is_worth" "is_worth" (defArgs s_is_worth) (defBody s_is_worth) (defScope s_is_worth) .none kV_is_worth dc_is_worth pm_is_worth an_is_worth cd_is_worth ct_is_worth), sl_is_worth⟩)
    (h3_is_worth : PySem.W.codeIn K cd_is_worth "is_worth" = true) (h4_is_worth : PySem.W.keepIn K (.ref a_is_worth) = true)
    (h1_are_worths : PySem.W.nsIn K mainGlobals "are_worths" = some (some (.ref a_are_worths)))
    (h2_are_worths : K.lookup a_are_worths = some ⟨oc_are_worths, od_are_worths, .func (PySem.W.fnOf "are_worths" "are_worths" (defArgs s_are_worths) (defBody s_are_worths) (defScope s_are_worths) .none kV_are_worths dc_are_worths pm_are_worths an_are_worths cd_are_worths ct_are_worths), sl_are_worths⟩)
    (h3_are_worths : PySem.W.codeIn K cd_are_worths "are_worths" = true) (h4_are_worths : PySem.W.keepIn K (.ref a_are_worths) = true)
    (h1_check_people : PySem.W.nsIn K mainGlobals "check_people" = some (some (.ref a_check_people)))
    (h2_check_people : K.lookup a_check_people = some ⟨oc_check_people, od_check_people, .func (PySem.W.fnOf "check_people" "check_people" (defArgs s_check_people) (defBody s_check_people) (defScope s_check_people) .none kV_check_people dc_check_people pm_check_people an_check_people cd_check_people ct_check_people), sl_check_people⟩)
    (h3_check_people : PySem.W.codeIn K cd_check_people "check_people" = true) (h4_check_people : PySem.W.keepIn K (.ref a_check_people) = true)
    (h1_check_game : PySem.W.nsIn K mainGlobals "check_game" = some (some (.ref a_check_game)))
    (h2_check_game : K.lookup a_check_game = some ⟨oc_check_game, od_check_game, .func (PySem.W.fnOf "check_game" "check_game" (defArgs s_check_game) (defBody s_check_game) (defScope s_check_game) .none kV_check_game dc_check_game pm_check_game an_check_game cd_check_game ct_check_game), sl_check_game⟩)
    (h3_check_game : PySem.W.codeIn K cd_check_game "check_game" = true) (h4_check_game : PySem.W.keepIn K (.ref a_check_game) = true)
    (h1_check_group : PySem.W.nsIn K mainGlobals "check_group" = some (some (.ref a_check_group)))
    (h2_check_group : K.lookup a_check_group = some ⟨oc_check_group, od_check_group, .func (PySem.W.fnOf "check_group" "check_group" (defArgs s_check_group) (defBody s_check_group) (defScope s_check_group) .none kV_check_group dc_check_group pm_check_group an_check_group cd_check_group ct_check_group), sl_check_group⟩)
    (h3_check_group : PySem.W.codeIn K cd_check_group "check_group" = true) (h4_check_group : PySem.W.keepIn K (.ref a_check_group) = true)
    (h1_check_some : PySem.W.nsIn K mainGlobals "check_some" = some (some (.ref a_check_some)))
    (h2_check_some : K.lookup a_check_some = some ⟨oc_check_some, od_check_some, .func (PySem.W.fnOf "check_some" "check_some" (defArgs s_check_some) (defBody s_check_some) (defScope s_check_some) .none kV_check_some dc_check_some pm_check_some an_check_some cd_check_some ct_check_some), sl_check_some⟩)
    (h3_check_some : PySem.W.codeIn K cd_check_some "check_some" = true) (h4_check_some : PySem.W.keepIn K (.ref a_check_some) = true)
    (h1_is_growing : PySem.W.nsIn K mainGlobals "is_growing" = some (some (.ref a_is_growing)))
    (h2_is_growing : K.lookup a_is_growing = some ⟨oc_is_growing, od_is_growing, .func (PySem.W.fnOf "is_growing" "is_growing" (defArgs s_is_growing) (defBody s_is_growing) (defScope s_is_growing) .none kV_is_growing dc_is_growing pm_is_growing an_is_growing cd_is_growing ct_is_growing), sl_is_growing⟩)
    (h3_is_growing : PySem.W.codeIn K cd_is_growing "is_growing" = true) (h4_is_growing : PySem.W.keepIn K (.ref a_is_growing) = true)
    (h1_is_shrinking : PySem.W.nsIn K mainGlobals "is_shrinking" = some (some (.ref a_is_shrinking)))
    (h2_is_shrinking : K.lookup a_is_shrinking = some ⟨oc_is_shrinking, od_is_shrinking, .func (PySem.W.fnOf "is_shrinking" "is_shrinking" (defArgs s_is_shrinking) (defBody s_is_shrinking) (defScope s_is_shrinking) .none kV_is_shrinking dc_is_shrinking pm_is_shrinking an_is_shrinking cd_is_shrinking ct_is_shrinking), sl_is_shrinking⟩)
    (h3_is_shrinking : PySem.W.codeIn K cd_is_shrinking "is_shrinking" = true) (h4_is_shrinking : PySem.W.keepIn K (.ref a_is_shrinking) = true)
    (h1_is_additive : PySem.W.nsIn K mainGlobals "is_additive" = some (some (.ref a_is_additive)))
    (h2_is_additive : K.lookup a_is_additive = some ⟨oc_is_additive, od_is_additive, .func (PySem.W.fnOf "is_additive" "is_additive" (defArgs s_is_additive) (defBody s_is_additive) (defScope s_is_additive) .none kV_is_additive dc_is_additive pm_is_additive an_is_additive cd_is_additive ct_is_additive), sl_is_additive⟩)
    (h3_is_additive : PySem.W.codeIn K cd_is_additive "is_additive" = true) (h4_is_additive : PySem.W.keepIn K (.ref a_is_additive) = true)
    (h1_is_growing_by : PySem.W.nsIn K mainGlobals "is_growing_by" = some (some (.ref a_is_growing_by)))
    (h2_is_growing_by : K.lookup a_is_growing_by = some ⟨oc_is_growing_by, od_is_growing_by, .func (PySem.W.fnOf "is_growing_by" "is_growing_by" (defArgs s_is_growing_by) (defBody s_is_growing_by) (defScope s_is_growing_by) .none kV_is_growing_by dc_is_growing_by pm_is_growing_by an_is_growing_by cd_is_growing_by ct_is_growing_by), sl_is_growing_by⟩)
    (h3_is_growing_by : PySem.W.codeIn K cd_is_growing_by "is_growing_by" = true) (h4_is_growing_by : PySem.W.keepIn K (.ref a_is_growing_by) = true)
    (h1__law_cup : PySem.W.nsIn K mainGlobals "_law_cup" = some (some (.ref a__law_cup)))
    (h2__law_cup : K.lookup a__law_cup = some ⟨oc__law_cup, od__law_cup, .func (PySem.W.fnOf "_law_cup" "_law_cup" (defArgs s__law_cup) (defBody s__law_cup) (defScope s__law_cup) .none kV__law_cup dc__law_cup pm__law_cup an__law_cup cd__law_cup ct__law_cup), sl__law_cup⟩)
    (h3__law_cup : PySem.W.codeIn K cd__law_cup "_law_cup" = true) (h4__law_cup : PySem.W.keepIn K (.ref a__law_cup) = true)
    (h1__law_sip : PySem.W.nsIn K mainGlobals "_law_sip" = some (some (.ref a__law_sip)))
    (h2__law_sip : K.lookup a__law_sip = some ⟨oc__law_sip, od__law_sip, .func (PySem.W.fnOf "_law_sip" "_law_sip" (defArgs s__law_sip) (defBody s__law_sip) (defScope s__law_sip) .none kV__law_sip dc__law_sip pm__law_sip an__law_sip cd__law_sip ct__law_sip), sl__law_sip⟩)
    (h3__law_sip : PySem.W.codeIn K cd__law_sip "_law_sip" = true) (h4__law_sip : PySem.W.keepIn K (.ref a__law_sip) = true)
    (h1__law_select : PySem.W.nsIn K mainGlobals "_law_select" = some (some (.ref a__law_select)))
    (h2__law_select : K.lookup a__law_select = some ⟨oc__law_select, od__law_select, .func (PySem.W.fnOf "_law_select" "_law_select" (defArgs s__law_select) (defBody s__law_select) (defScope s__law_select) .none kV__law_select dc__law_select pm__law_select an__law_select cd__law_select ct__law_select), sl__law_select⟩)
    (h3__law_select : PySem.W.codeIn K cd__law_select "_law_select" = true) (h4__law_select : PySem.W.keepIn K (.ref a__law_select) = true)
    (h1__law_mingled : PySem.W.nsIn K mainGlobals "_law_mingled" = some (some (.ref a__law_mingled)))
    (h2__law_mingled : K.lookup a__law_mingled = some ⟨oc__law_mingled, od__law_mingled, .func (PySem.W.fnOf "_law_mingled" "_law_mingled" (defArgs s__law_mingled) (defBody s__law_mingled) (defScope s__law_mingled) .none kV__law_mingled dc__law_mingled pm__law_mingled an__law_mingled cd__law_mingled ct__law_mingled), sl__law_mingled⟩)
    (h3__law_mingled : PySem.W.codeIn K cd__law_mingled "_law_mingled" = true) (h4__law_mingled : PySem.W.keepIn K (.ref a__law_mingled) = true)
    (h1__law_groups : PySem.W.nsIn K mainGlobals "_law_groups" = some (some (.ref a__law_groups)))
    (h2__law_groups : K.lookup a__law_groups = some ⟨oc__law_groups, od__law_groups, .func (PySem.W.fnOf "_law_groups" "_law_groups" (defArgs s__law_groups) (defBody s__law_groups) (defScope s__law_groups) .none kV__law_groups dc__law_groups pm__law_groups an__law_groups cd__law_groups ct__law_groups), sl__law_groups⟩)
    (h3__law_groups : PySem.W.codeIn K cd__law_groups "_law_groups" = true) (h4__law_groups : PySem.W.keepIn K (.ref a__law_groups) = true)
    (h1__law_names : PySem.W.nsIn K mainGlobals "_law_names" = some (some (.ref a__law_names)))
    (h2__law_names : K.lookup a__law_names = some ⟨oc__law_names, od__law_names, .func (PySem.W.fnOf "_law_names" "_law_names" (defArgs s__law_names) (defBody s__law_names) (defScope s__law_names) .none kV__law_names dc__law_names pm__law_names an__law_names cd__law_names ct__law_names), sl__law_names⟩)
    (h3__law_names : PySem.W.codeIn K cd__law_names "_law_names" = true) (h4__law_names : PySem.W.keepIn K (.ref a__law_names) = true)
    (h1__law_by_parts : PySem.W.nsIn K mainGlobals "_law_by_parts" = some (some (.ref a__law_by_parts)))
    (h2__law_by_parts : K.lookup a__law_by_parts = some ⟨oc__law_by_parts, od__law_by_parts, .func (PySem.W.fnOf "_law_by_parts" "_law_by_parts" (defArgs s__law_by_parts) (defBody s__law_by_parts) (defScope s__law_by_parts) .none kV__law_by_parts dc__law_by_parts pm__law_by_parts an__law_by_parts cd__law_by_parts ct__law_by_parts), sl__law_by_parts⟩)
    (h3__law_by_parts : PySem.W.codeIn K cd__law_by_parts "_law_by_parts" = true) (h4__law_by_parts : PySem.W.keepIn K (.ref a__law_by_parts) = true)
    (h1__law_by_size : PySem.W.nsIn K mainGlobals "_law_by_size" = some (some (.ref a__law_by_size)))
    (h2__law_by_size : K.lookup a__law_by_size = some ⟨oc__law_by_size, od__law_by_size, .func (PySem.W.fnOf "_law_by_size" "_law_by_size" (defArgs s__law_by_size) (defBody s__law_by_size) (defScope s__law_by_size) .none kV__law_by_size dc__law_by_size pm__law_by_size an__law_by_size cd__law_by_size ct__law_by_size), sl__law_by_size⟩)
    (h3__law_by_size : PySem.W.codeIn K cd__law_by_size "_law_by_size" = true) (h4__law_by_size : PySem.W.keepIn K (.ref a__law_by_size) = true)
    (h1__law_by_estate : PySem.W.nsIn K mainGlobals "_law_by_estate" = some (some (.ref a__law_by_estate)))
    (h2__law_by_estate : K.lookup a__law_by_estate = some ⟨oc__law_by_estate, od__law_by_estate, .func (PySem.W.fnOf "_law_by_estate" "_law_by_estate" (defArgs s__law_by_estate) (defBody s__law_by_estate) (defScope s__law_by_estate) .none kV__law_by_estate dc__law_by_estate pm__law_by_estate an__law_by_estate cd__law_by_estate ct__law_by_estate), sl__law_by_estate⟩)
    (h3__law_by_estate : PySem.W.codeIn K cd__law_by_estate "_law_by_estate" = true) (h4__law_by_estate : PySem.W.keepIn K (.ref a__law_by_estate) = true)
    (h1__law_growing : PySem.W.nsIn K mainGlobals "_law_growing" = some (some (.ref a__law_growing)))
    (h2__law_growing : K.lookup a__law_growing = some ⟨oc__law_growing, od__law_growing, .func (PySem.W.fnOf "_law_growing" "_law_growing" (defArgs s__law_growing) (defBody s__law_growing) (defScope s__law_growing) .none kV__law_growing dc__law_growing pm__law_growing an__law_growing cd__law_growing ct__law_growing), sl__law_growing⟩)
    (h3__law_growing : PySem.W.codeIn K cd__law_growing "_law_growing" = true) (h4__law_growing : PySem.W.keepIn K (.ref a__law_growing) = true)
    (h1__law_game : PySem.W.nsIn K mainGlobals "_law_game" = some (some (.ref a__law_game)))
    (h2__law_game : K.lookup a__law_game = some ⟨oc__law_game, od__law_game, .func (PySem.W.fnOf "_law_game" "_law_game" (defArgs s__law_game) (defBody s__law_game) (defScope s__law_game) .none kV__law_game dc__law_game pm__law_game an__law_game cd__law_game ct__law_game), sl__law_game⟩)
    (h3__law_game : PySem.W.codeIn K cd__law_game "_law_game" = true) (h4__law_game : PySem.W.keepIn K (.ref a__law_game) = true)
    (h1__law_made_game : PySem.W.nsIn K mainGlobals "_law_made_game" = some (some (.ref a__law_made_game)))
    (h2__law_made_game : K.lookup a__law_made_game = some ⟨oc__law_made_game, od__law_made_game, .func (PySem.W.fnOf "_law_made_game" "_law_made_game" (defArgs s__law_made_game) (defBody s__law_made_game) (defScope s__law_made_game) .none kV__law_made_game dc__law_made_game pm__law_made_game an__law_made_game cd__law_made_game ct__law_made_game), sl__law_made_game⟩)
    (h3__law_made_game : PySem.W.codeIn K cd__law_made_game "_law_made_game" = true) (h4__law_made_game : PySem.W.keepIn K (.ref a__law_made_game) = true)
    (h1__law_with : PySem.W.nsIn K mainGlobals "_law_with" = some (some (.ref a__law_with)))
    (h2__law_with : K.lookup a__law_with = some ⟨oc__law_with, od__law_with, .func (PySem.W.fnOf "_law_with" "_law_with" (defArgs s__law_with) (defBody s__law_with) (defScope s__law_with) .none kV__law_with dc__law_with pm__law_with an__law_with cd__law_with ct__law_with), sl__law_with⟩)
    (h3__law_with : PySem.W.codeIn K cd__law_with "_law_with" = true) (h4__law_with : PySem.W.keepIn K (.ref a__law_with) = true)
    (h1__law_breaks : PySem.W.nsIn K mainGlobals "_law_breaks" = some (some (.ref a__law_breaks)))
    (h2__law_breaks : K.lookup a__law_breaks = some ⟨oc__law_breaks, od__law_breaks, .func (PySem.W.fnOf "_law_breaks" "_law_breaks" (defArgs s__law_breaks) (defBody s__law_breaks) (defScope s__law_breaks) .none kV__law_breaks dc__law_breaks pm__law_breaks an__law_breaks cd__law_breaks ct__law_breaks), sl__law_breaks⟩)
    (h3__law_breaks : PySem.W.codeIn K cd__law_breaks "_law_breaks" = true) (h4__law_breaks : PySem.W.keepIn K (.ref a__law_breaks) = true)
    (h1__law_is_growing : PySem.W.nsIn K mainGlobals "_law_is_growing" = some (some (.ref a__law_is_growing)))
    (h2__law_is_growing : K.lookup a__law_is_growing = some ⟨oc__law_is_growing, od__law_is_growing, .func (PySem.W.fnOf "_law_is_growing" "_law_is_growing" (defArgs s__law_is_growing) (defBody s__law_is_growing) (defScope s__law_is_growing) .none kV__law_is_growing dc__law_is_growing pm__law_is_growing an__law_is_growing cd__law_is_growing ct__law_is_growing), sl__law_is_growing⟩)
    (h3__law_is_growing : PySem.W.codeIn K cd__law_is_growing "_law_is_growing" = true) (h4__law_is_growing : PySem.W.keepIn K (.ref a__law_is_growing) = true)
    (h1__law_case : PySem.W.nsIn K mainGlobals "_law_case" = some (some (.ref a__law_case)))
    (h2__law_case : K.lookup a__law_case = some ⟨oc__law_case, od__law_case, .func (PySem.W.fnOf "_law_case" "_law_case" (defArgs s__law_case) (defBody s__law_case) (defScope s__law_case) .none kV__law_case dc__law_case pm__law_case an__law_case cd__law_case ct__law_case), sl__law_case⟩)
    (h3__law_case : PySem.W.codeIn K cd__law_case "_law_case" = true) (h4__law_case : PySem.W.keepIn K (.ref a__law_case) = true)
    (h1__law_own_tests : PySem.W.nsIn K mainGlobals "_law_own_tests" = some (some (.ref a__law_own_tests)))
    (h2__law_own_tests : K.lookup a__law_own_tests = some ⟨oc__law_own_tests, od__law_own_tests, .func (PySem.W.fnOf "_law_own_tests" "_law_own_tests" (defArgs s__law_own_tests) (defBody s__law_own_tests) (defScope s__law_own_tests) .none kV__law_own_tests dc__law_own_tests pm__law_own_tests an__law_own_tests cd__law_own_tests ct__law_own_tests), sl__law_own_tests⟩)
    (h3__law_own_tests : PySem.W.codeIn K cd__law_own_tests "_law_own_tests" = true) (h4__law_own_tests : PySem.W.keepIn K (.ref a__law_own_tests) = true)
    (h1__law_own_gap : PySem.W.nsIn K mainGlobals "_law_own_gap" = some (some (.ref a__law_own_gap)))
    (h2__law_own_gap : K.lookup a__law_own_gap = some ⟨oc__law_own_gap, od__law_own_gap, .func (PySem.W.fnOf "_law_own_gap" "_law_own_gap" (defArgs s__law_own_gap) (defBody s__law_own_gap) (defScope s__law_own_gap) .none kV__law_own_gap dc__law_own_gap pm__law_own_gap an__law_own_gap cd__law_own_gap ct__law_own_gap), sl__law_own_gap⟩)
    (h3__law_own_gap : PySem.W.codeIn K cd__law_own_gap "_law_own_gap" = true) (h4__law_own_gap : PySem.W.keepIn K (.ref a__law_own_gap) = true)
    (h1__law_right : PySem.W.nsIn K mainGlobals "_law_right" = some (some (.ref a__law_right)))
    (h2__law_right : K.lookup a__law_right = some ⟨oc__law_right, od__law_right, .func (PySem.W.fnOf "_law_right" "_law_right" (defArgs s__law_right) (defBody s__law_right) (defScope s__law_right) .none kV__law_right dc__law_right pm__law_right an__law_right cd__law_right ct__law_right), sl__law_right⟩)
    (h3__law_right : PySem.W.codeIn K cd__law_right "_law_right" = true) (h4__law_right : PySem.W.keepIn K (.ref a__law_right) = true)
    (h1_law : PySem.W.nsIn K mainGlobals "law" = some (some (.ref a_law)))
    (h2_law : K.lookup a_law = some ⟨oc_law, od_law, .func (PySem.W.fnOf "law" "law" (defArgs s_law) (defBody s_law) (defScope s_law) .none kV_law dc_law pm_law an_law cd_law ct_law), sl_law⟩)
    (h3_law : PySem.W.codeIn K cd_law "law" = true) (h4_law : PySem.W.keepIn K (.ref a_law) = true)
    (g1_Game : PySem.W.nsIn K mainGlobals "Game" = some (some (.ref C_Game)))
    (g2_Game : PySem.W.plainGet K C_Game Str.empty = true) (g3_Game : PySem.W.hasDictIn K C_Game = true) (g4_Game : PySem.W.plainOver K C_Game = true)
    (g5_Game : PySem.W.findIn K (.ref C_Game) "__setattr__" = some (some (.builtin "object.__setattr__"))) (g6_Game : PySem.W.makesIn K C_Game = true) (g7_Game : PySem.W.keepIn K (.ref C_Game) = true)
    (e1_Game : PySem.W.findIn K (.ref C_Game) "__class__" = some (some (.builtin "object.__class__"))) (e2_Game : PySem.W.specialIn K (.builtin "object.__class__") "__get__" = some (some (.builtin "getset_descriptor.__get__")))
    (e3_Game : PySem.W.takesIn K (.builtin "object.__class__") = some true) (e4_Game : PySem.W.mroIn K C_Game (.type "object") = some true)
    (g8_Game__gaps : PySem.W.findIn K (.ref C_Game) "_gaps" = some none)
    (g8_Game__groups : PySem.W.findIn K (.ref C_Game) "_groups" = some none)
    (g8_Game__people : PySem.W.findIn K (.ref C_Game) "_people" = some none)
    (g8_Game__row : PySem.W.findIn K (.ref C_Game) "_row" = some none)
    (g8_Game__worths : PySem.W.findIn K (.ref C_Game) "_worths" = some none)
    (m1_Game___init__ : PySem.W.findIn K (.ref C_Game) "__init__" = some (some (.ref a_Game___init__))) (m5_Game___init__ : PySem.W.isFn K (.ref a_Game___init__) = true)
    (m2_Game___init__ : K.lookup a_Game___init__ = some ⟨oc_Game___init__, od_Game___init__, .func (PySem.W.fnOf "__init__" "Game.__init__" (defArgs s_Game___init__) (defBody s_Game___init__) (defScope s_Game___init__) .none kV_Game___init__ dc_Game___init__ pm_Game___init__ an_Game___init__ cd_Game___init__ ct_Game___init__), sl_Game___init__⟩)
    (m3_Game___init__ : PySem.W.codeIn K cd_Game___init__ "Game.__init__" = true) (m4_Game___init__ : PySem.W.keepIn K (.ref a_Game___init__) = true)
    (m1_Game_people : PySem.W.findIn K (.ref C_Game) "people" = some (some (.ref q_Game_people))) (m5_Game_people : PySem.W.specialIn K (.ref q_Game_people) "__get__" = some (some (.builtin "property.__get__"))) (m6_Game_people : PySem.W.takesIn K (.ref q_Game_people) = some true)
    (m7_Game_people : PySem.W.recIn K q_Game_people "property" = some (.ref a_Game_people :: r_Game_people))
    (m2_Game_people : K.lookup a_Game_people = some ⟨oc_Game_people, od_Game_people, .func (PySem.W.fnOf "people" "Game.people" (defArgs s_Game_people) (defBody s_Game_people) (defScope s_Game_people) .none kV_Game_people dc_Game_people pm_Game_people an_Game_people cd_Game_people ct_Game_people), sl_Game_people⟩)
    (m3_Game_people : PySem.W.codeIn K cd_Game_people "Game.people" = true) (m4_Game_people : PySem.W.keepIn K (.ref a_Game_people) = true)
    (m1_Game_groups : PySem.W.findIn K (.ref C_Game) "groups" = some (some (.ref q_Game_groups))) (m5_Game_groups : PySem.W.specialIn K (.ref q_Game_groups) "__get__" = some (some (.builtin "property.__get__"))) (m6_Game_groups : PySem.W.takesIn K (.ref q_Game_groups) = some true)
    (m7_Game_groups : PySem.W.recIn K q_Game_groups "property" = some (.ref a_Game_groups :: r_Game_groups))
    (m2_Game_groups : K.lookup a_Game_groups = some ⟨oc_Game_groups, od_Game_groups, .func (PySem.W.fnOf "groups" "Game.groups" (defArgs s_Game_groups) (defBody s_Game_groups) (defScope s_Game_groups) .none kV_Game_groups dc_Game_groups pm_Game_groups an_Game_groups cd_Game_groups ct_Game_groups), sl_Game_groups⟩)
    (m3_Game_groups : PySem.W.codeIn K cd_Game_groups "Game.groups" = true) (m4_Game_groups : PySem.W.keepIn K (.ref a_Game_groups) = true)
    (m1_Game_gaps : PySem.W.findIn K (.ref C_Game) "gaps" = some (some (.ref q_Game_gaps))) (m5_Game_gaps : PySem.W.specialIn K (.ref q_Game_gaps) "__get__" = some (some (.builtin "property.__get__"))) (m6_Game_gaps : PySem.W.takesIn K (.ref q_Game_gaps) = some true)
    (m7_Game_gaps : PySem.W.recIn K q_Game_gaps "property" = some (.ref a_Game_gaps :: r_Game_gaps))
    (m2_Game_gaps : K.lookup a_Game_gaps = some ⟨oc_Game_gaps, od_Game_gaps, .func (PySem.W.fnOf "gaps" "Game.gaps" (defArgs s_Game_gaps) (defBody s_Game_gaps) (defScope s_Game_gaps) .none kV_Game_gaps dc_Game_gaps pm_Game_gaps an_Game_gaps cd_Game_gaps ct_Game_gaps), sl_Game_gaps⟩)
    (m3_Game_gaps : PySem.W.codeIn K cd_Game_gaps "Game.gaps" = true) (m4_Game_gaps : PySem.W.keepIn K (.ref a_Game_gaps) = true)
    (m1_Game___getitem__ : PySem.W.findIn K (.ref C_Game) "__getitem__" = some (some (.ref a_Game___getitem__))) (m5_Game___getitem__ : PySem.W.isFn K (.ref a_Game___getitem__) = true)
    (m2_Game___getitem__ : K.lookup a_Game___getitem__ = some ⟨oc_Game___getitem__, od_Game___getitem__, .func (PySem.W.fnOf "__getitem__" "Game.__getitem__" (defArgs s_Game___getitem__) (defBody s_Game___getitem__) (defScope s_Game___getitem__) .none kV_Game___getitem__ dc_Game___getitem__ pm_Game___getitem__ an_Game___getitem__ cd_Game___getitem__ ct_Game___getitem__), sl_Game___getitem__⟩)
    (m3_Game___getitem__ : PySem.W.codeIn K cd_Game___getitem__ "Game.__getitem__" = true) (m4_Game___getitem__ : PySem.W.keepIn K (.ref a_Game___getitem__) = true)
    (z_IndexError : PySem.W.nsIn K mainGlobals "IndexError" = some none)
    (z_ValueError : PySem.W.nsIn K mainGlobals "ValueError" = some none)
    (z_abs : PySem.W.nsIn K mainGlobals "abs" = some none)
    (z_all : PySem.W.nsIn K mainGlobals "all" = some none)
    (z_bool : PySem.W.nsIn K mainGlobals "bool" = some none)
    (z_classmethod : PySem.W.nsIn K mainGlobals "classmethod" = some none)
    (z_dict : PySem.W.nsIn K mainGlobals "dict" = some none)
    (z_enumerate : PySem.W.nsIn K mainGlobals "enumerate" = some none)
    (z_int : PySem.W.nsIn K mainGlobals "int" = some none)
    (z_isinstance : PySem.W.nsIn K mainGlobals "isinstance" = some none)
    (z_iter : PySem.W.nsIn K mainGlobals "iter" = some none)
    (z_len : PySem.W.nsIn K mainGlobals "len" = some none)
    (z_list : PySem.W.nsIn K mainGlobals "list" = some none)
    (z_max : PySem.W.nsIn K mainGlobals "max" = some none)
    (z_min : PySem.W.nsIn K mainGlobals "min" = some none)
    (z_property : PySem.W.nsIn K mainGlobals "property" = some none)
    (z_range : PySem.W.nsIn K mainGlobals "range" = some none)
    (z_repr : PySem.W.nsIn K mainGlobals "repr" = some none)
    (z_set : PySem.W.nsIn K mainGlobals "set" = some none)
    (z_sorted : PySem.W.nsIn K mainGlobals "sorted" = some none)
    (z_str : PySem.W.nsIn K mainGlobals "str" = some none)
    (z_sum : PySem.W.nsIn K mainGlobals "sum" = some none)
    (z_tuple : PySem.W.nsIn K mainGlobals "tuple" = some none)
    (z_zip : PySem.W.nsIn K mainGlobals "zip" = some none)
    (y_MAX_LETTERS : PySem.W.nsIn K mainGlobals "MAX_LETTERS" = some (some (.int 8 t_MAX_LETTERS)))
    (y__LETTERS : PySem.W.nsIn K mainGlobals "_LETTERS" = some (some (.str "abcdefghijklmnopqrstuvwxyz" t__LETTERS)))
    (y__INTEGER_BOUND : PySem.W.nsIn K mainGlobals "_INTEGER_BOUND" = some (some (.int 1000000000000000000000000000000000000000000000000000000000000 t__INTEGER_BOUND)))
    (y_MAX_PEOPLE : PySem.W.nsIn K mainGlobals "MAX_PEOPLE" = some (some (.int 5 t_MAX_PEOPLE)))
    (y_MAX_WORTH : PySem.W.nsIn K mainGlobals "MAX_WORTH" = some (some (.int 1000000000 t_MAX_WORTH))) :
    ∃ fd : FuncData, (∀ (s : Shared) (v : Value), BindsTo s fd ⟨[v], []⟩ [("script", v)]) ∧ ∀ base : Heap, K.In base → base.Ns mainGlobals mg → FnG l.prog w K mg base lawLevel fa fd ["script"] (spLaw K) := by
  have e := hfa.symm.trans (PySem.W.mg_of X G h1_law)
  cases e
  have T : Txt mg := ⟨PySem.W.mg_none_of X G z_IndexError, PySem.W.mg_none_of X G z_ValueError, PySem.W.mg_none_of X G z_abs, PySem.W.mg_none_of X G z_all, PySem.W.mg_none_of X G z_bool, PySem.W.mg_none_of X G z_classmethod, PySem.W.mg_none_of X G z_dict, PySem.W.mg_none_of X G z_enumerate, PySem.W.mg_none_of X G z_int, PySem.W.mg_none_of X G z_isinstance, PySem.W.mg_none_of X G z_iter, PySem.W.mg_none_of X G z_len, PySem.W.mg_none_of X G z_list, PySem.W.mg_none_of X G z_max, PySem.W.mg_none_of X G z_min, PySem.W.mg_none_of X G z_property, PySem.W.mg_none_of X G z_range, PySem.W.mg_none_of X G z_repr, PySem.W.mg_none_of X G z_set, PySem.W.mg_none_of X G z_sorted, PySem.W.mg_none_of X G z_str, PySem.W.mg_none_of X G z_sum, PySem.W.mg_none_of X G z_tuple, PySem.W.mg_none_of X G z_zip, ⟨_, PySem.W.mg_of X G y_MAX_LETTERS⟩, ⟨_, PySem.W.mg_of X G y__LETTERS⟩, ⟨_, PySem.W.mg_of X G y__INTEGER_BOUND⟩, ⟨_, PySem.W.mg_of X G y_MAX_PEOPLE⟩, ⟨_, PySem.W.mg_of X G y_MAX_WORTH⟩⟩
  have D__wall : Df K mg "_wall" s__wall p__wall a__wall _ := .mk' (fun_mk (st := s__wall) h2__wall h3__wall h4__wall) (fun _ _ _ _ _ _ us hl => match us, hl with | [_], _ => rfl) (PySem.W.mg_of X G h1__wall)
  have D_is_whole : Df K mg "is_whole" s_is_whole p_is_whole a_is_whole _ := .mk' (fun_mk (st := s_is_whole) h2_is_whole h3_is_whole h4_is_whole) (fun _ _ _ _ _ _ us hl => match us, hl with | [_], _ => rfl) (PySem.W.mg_of X G h1_is_whole)
  have D_is_integer : Df K mg "is_integer" s_is_integer p_is_integer a_is_integer _ := .mk' (fun_mk (st := s_is_integer) h2_is_integer h3_is_integer h4_is_integer) (fun _ _ _ _ _ _ us hl => match us, hl with | [_], _ => rfl) (PySem.W.mg_of X G h1_is_integer)
  have D_is_name : Df K mg "is_name" s_is_name p_is_name a_is_name _ := .mk' (fun_mk (st := s_is_name) h2_is_name h3_is_name h4_is_name) (fun _ _ _ _ _ _ us hl => match us, hl with | [_], _ => rfl) (PySem.W.mg_of X G h1_is_name)
  have D_sums : Df K mg "sums" s_sums p_sums a_sums _ := .mk' (fun_mk (st := s_sums) h2_sums h3_sums h4_sums) (fun _ _ _ _ _ _ us hl => match us, hl with | [_], _ => rfl) (PySem.W.mg_of X G h1_sums)
  have D_gaps_of : Df K mg "gaps_of" s_gaps_of p_gaps_of a_gaps_of _ := .mk' (fun_mk (st := s_gaps_of) h2_gaps_of h3_gaps_of h4_gaps_of) (fun _ _ _ _ _ _ us hl => match us, hl with | [_], _ => rfl) (PySem.W.mg_of X G h1_gaps_of)
  have D_is_ascending : Df K mg "is_ascending" s_is_ascending p_is_ascending a_is_ascending _ := .mk' (fun_mk (st := s_is_ascending) h2_is_ascending h3_is_ascending h4_is_ascending) (fun _ _ _ _ _ _ us hl => match us, hl with | [_], _ => rfl) (PySem.W.mg_of X G h1_is_ascending)
  have D_groups_of : Df K mg "groups_of" s_groups_of p_groups_of a_groups_of _ := .mk' (fun_mk (st := s_groups_of) h2_groups_of h3_groups_of h4_groups_of) (fun _ _ _ _ _ _ us hl => match us, hl with | [_], _ => rfl) (PySem.W.mg_of X G h1_groups_of)
  have D_union : Df K mg "union" s_union p_union a_union _ := .mk' (fun_mk (st := s_union) h2_union h3_union h4_union) (fun _ _ _ _ _ _ us hl => match us, hl with | [_, _], _ => rfl) (PySem.W.mg_of X G h1_union)
  have D_common : Df K mg "common" s_common p_common a_common _ := .mk' (fun_mk (st := s_common) h2_common h3_common h4_common) (fun _ _ _ _ _ _ us hl => match us, hl with | [_, _], _ => rfl) (PySem.W.mg_of X G h1_common)
  have D__kept : Df K mg "_kept" s__kept p__kept a__kept _ := .mk' (fun_mk (st := s__kept) h2__kept h3__kept h4__kept) (fun _ _ _ _ _ _ us hl => match us, hl with | [_], _ => rfl) (PySem.W.mg_of X G h1__kept)
  have D_is_people : Df K mg "is_people" s_is_people p_is_people a_is_people _ := .mk' (fun_mk (st := s_is_people) h2_is_people h3_is_people h4_is_people) (fun _ _ _ _ _ _ us hl => match us, hl with | [_], _ => rfl) (PySem.W.mg_of X G h1_is_people)
  have D_is_worth : Df K mg "is_worth" s_is_worth p_is_worth a_is_worth _ := .mk' (fun_mk (st := s_is_worth) h2_is_worth h3_is_worth h4_is_worth) (fun _ _ _ _ _ _ us hl => match us, hl with | [_], _ => rfl) (PySem.W.mg_of X G h1_is_worth)
  have D_are_worths : Df K mg "are_worths" s_are_worths p_are_worths a_are_worths _ := .mk' (fun_mk (st := s_are_worths) h2_are_worths h3_are_worths h4_are_worths) (fun _ _ _ _ _ _ us hl => match us, hl with | [_, _], _ => rfl) (PySem.W.mg_of X G h1_are_worths)
  have D_check_people : Df K mg "check_people" s_check_people p_check_people a_check_people _ := .mk' (fun_mk (st := s_check_people) h2_check_people h3_check_people h4_check_people) (fun _ _ _ _ _ _ us hl => match us, hl with | [_], _ => rfl) (PySem.W.mg_of X G h1_check_people)
  have D_check_game : Df K mg "check_game" s_check_game p_check_game a_check_game _ := .mk' (fun_mk (st := s_check_game) h2_check_game h3_check_game h4_check_game) (fun _ _ _ _ _ _ us hl => match us, hl with | [_], _ => rfl) (PySem.W.mg_of X G h1_check_game)
  have D_check_group : Df K mg "check_group" s_check_group p_check_group a_check_group _ := .mk' (fun_mk (st := s_check_group) h2_check_group h3_check_group h4_check_group) (fun _ _ _ _ _ _ us hl => match us, hl with | [_, _], _ => rfl) (PySem.W.mg_of X G h1_check_group)
  have D_check_some : Df K mg "check_some" s_check_some p_check_some a_check_some _ := .mk' (fun_mk (st := s_check_some) h2_check_some h3_check_some h4_check_some) (fun _ _ _ _ _ _ us hl => match us, hl with | [_, _], _ => rfl) (PySem.W.mg_of X G h1_check_some)
  have D_is_growing : Df K mg "is_growing" s_is_growing p_is_growing a_is_growing _ := .mk' (fun_mk (st := s_is_growing) h2_is_growing h3_is_growing h4_is_growing) (fun _ _ _ _ _ _ us hl => match us, hl with | [_], _ => rfl) (PySem.W.mg_of X G h1_is_growing)
  have D_is_shrinking : Df K mg "is_shrinking" s_is_shrinking p_is_shrinking a_is_shrinking _ := .mk' (fun_mk (st := s_is_shrinking) h2_is_shrinking h3_is_shrinking h4_is_shrinking) (fun _ _ _ _ _ _ us hl => match us, hl with | [_], _ => rfl) (PySem.W.mg_of X G h1_is_shrinking)
  have D_is_additive : Df K mg "is_additive" s_is_additive p_is_additive a_is_additive _ := .mk' (fun_mk (st := s_is_additive) h2_is_additive h3_is_additive h4_is_additive) (fun _ _ _ _ _ _ us hl => match us, hl with | [_], _ => rfl) (PySem.W.mg_of X G h1_is_additive)
  have D_is_growing_by : Df K mg "is_growing_by" s_is_growing_by p_is_growing_by a_is_growing_by _ := .mk' (fun_mk (st := s_is_growing_by) h2_is_growing_by h3_is_growing_by h4_is_growing_by) (fun _ _ _ _ _ _ us hl => match us, hl with | [_, _, _], _ => rfl) (PySem.W.mg_of X G h1_is_growing_by)
  have D__law_cup : Df K mg "_law_cup" s__law_cup p__law_cup a__law_cup _ := .mk' (fun_mk (st := s__law_cup) h2__law_cup h3__law_cup h4__law_cup) (fun _ _ _ _ _ _ us hl => match us, hl with | [_, _], _ => rfl) (PySem.W.mg_of X G h1__law_cup)
  have D__law_sip : Df K mg "_law_sip" s__law_sip p__law_sip a__law_sip _ := .mk' (fun_mk (st := s__law_sip) h2__law_sip h3__law_sip h4__law_sip) (fun _ _ _ _ _ _ us hl => match us, hl with | [_, _], _ => rfl) (PySem.W.mg_of X G h1__law_sip)
  have D__law_select : Df K mg "_law_select" s__law_select p__law_select a__law_select _ := .mk' (fun_mk (st := s__law_select) h2__law_select h3__law_select h4__law_select) (fun _ _ _ _ _ _ us hl => match us, hl with | [_, _], _ => rfl) (PySem.W.mg_of X G h1__law_select)
  have D__law_mingled : Df K mg "_law_mingled" s__law_mingled p__law_mingled a__law_mingled _ := .mk' (fun_mk (st := s__law_mingled) h2__law_mingled h3__law_mingled h4__law_mingled) (fun _ _ _ _ _ _ us hl => match us, hl with | [_, _], _ => rfl) (PySem.W.mg_of X G h1__law_mingled)
  have D__law_groups : Df K mg "_law_groups" s__law_groups p__law_groups a__law_groups _ := .mk' (fun_mk (st := s__law_groups) h2__law_groups h3__law_groups h4__law_groups) (fun _ _ _ _ _ _ us hl => match us, hl with | [_], _ => rfl) (PySem.W.mg_of X G h1__law_groups)
  have D__law_names : Df K mg "_law_names" s__law_names p__law_names a__law_names _ := .mk' (fun_mk (st := s__law_names) h2__law_names h3__law_names h4__law_names) (fun _ _ _ _ _ _ us hl => match us, hl with | [_, _], _ => rfl) (PySem.W.mg_of X G h1__law_names)
  have D__law_by_parts : Df K mg "_law_by_parts" s__law_by_parts p__law_by_parts a__law_by_parts _ := .mk' (fun_mk (st := s__law_by_parts) h2__law_by_parts h3__law_by_parts h4__law_by_parts) (fun _ _ _ _ _ _ us hl => match us, hl with | [_, _], _ => rfl) (PySem.W.mg_of X G h1__law_by_parts)
  have D__law_by_size : Df K mg "_law_by_size" s__law_by_size p__law_by_size a__law_by_size _ := .mk' (fun_mk (st := s__law_by_size) h2__law_by_size h3__law_by_size h4__law_by_size) (fun _ _ _ _ _ _ us hl => match us, hl with | [_, _], _ => rfl) (PySem.W.mg_of X G h1__law_by_size)
  have D__law_by_estate : Df K mg "_law_by_estate" s__law_by_estate p__law_by_estate a__law_by_estate _ := .mk' (fun_mk (st := s__law_by_estate) h2__law_by_estate h3__law_by_estate h4__law_by_estate) (fun _ _ _ _ _ _ us hl => match us, hl with | [_, _], _ => rfl) (PySem.W.mg_of X G h1__law_by_estate)
  have D__law_growing : Df K mg "_law_growing" s__law_growing p__law_growing a__law_growing _ := .mk' (fun_mk (st := s__law_growing) h2__law_growing h3__law_growing h4__law_growing) (fun _ _ _ _ _ _ us hl => match us, hl with | [_, _], _ => rfl) (PySem.W.mg_of X G h1__law_growing)
  have D__law_game : Df K mg "_law_game" s__law_game p__law_game a__law_game _ := .mk' (fun_mk (st := s__law_game) h2__law_game h3__law_game h4__law_game) (fun _ _ _ _ _ _ us hl => match us, hl with | [_, _], _ => rfl) (PySem.W.mg_of X G h1__law_game)
  have D__law_made_game : Df K mg "_law_made_game" s__law_made_game p__law_made_game a__law_made_game _ := .mk' (fun_mk (st := s__law_made_game) h2__law_made_game h3__law_made_game h4__law_made_game) (fun _ _ _ _ _ _ us hl => match us, hl with | [_], _ => rfl) (PySem.W.mg_of X G h1__law_made_game)
  have D__law_with : Df K mg "_law_with" s__law_with p__law_with a__law_with _ := .mk' (fun_mk (st := s__law_with) h2__law_with h3__law_with h4__law_with) (fun _ _ _ _ _ _ us hl => match us, hl with | [_, _], _ => rfl) (PySem.W.mg_of X G h1__law_with)
  have D__law_breaks : Df K mg "_law_breaks" s__law_breaks p__law_breaks a__law_breaks _ := .mk' (fun_mk (st := s__law_breaks) h2__law_breaks h3__law_breaks h4__law_breaks) (fun _ _ _ _ _ _ us hl => match us, hl with | [_], _ => rfl) (PySem.W.mg_of X G h1__law_breaks)
  have D__law_is_growing : Df K mg "_law_is_growing" s__law_is_growing p__law_is_growing a__law_is_growing _ := .mk' (fun_mk (st := s__law_is_growing) h2__law_is_growing h3__law_is_growing h4__law_is_growing) (fun _ _ _ _ _ _ us hl => match us, hl with | [_], _ => rfl) (PySem.W.mg_of X G h1__law_is_growing)
  have D__law_case : Df K mg "_law_case" s__law_case p__law_case a__law_case _ := .mk' (fun_mk (st := s__law_case) h2__law_case h3__law_case h4__law_case) (fun _ _ _ _ _ _ us hl => match us, hl with | [_, _], _ => rfl) (PySem.W.mg_of X G h1__law_case)
  have D__law_own_tests : Df K mg "_law_own_tests" s__law_own_tests p__law_own_tests a__law_own_tests _ := .mk' (fun_mk (st := s__law_own_tests) h2__law_own_tests h3__law_own_tests h4__law_own_tests) (fun _ _ _ _ _ _ us hl => match us, hl with | [_], _ => rfl) (PySem.W.mg_of X G h1__law_own_tests)
  have D__law_own_gap : Df K mg "_law_own_gap" s__law_own_gap p__law_own_gap a__law_own_gap _ := .mk' (fun_mk (st := s__law_own_gap) h2__law_own_gap h3__law_own_gap h4__law_own_gap) (fun _ _ _ _ _ _ us hl => match us, hl with | [_, _], _ => rfl) (PySem.W.mg_of X G h1__law_own_gap)
  have D__law_right : Df K mg "_law_right" s__law_right p__law_right a__law_right _ := .mk' (fun_mk (st := s__law_right) h2__law_right h3__law_right h4__law_right) (fun _ _ _ _ _ _ us hl => match us, hl with | [_], _ => rfl) (PySem.W.mg_of X G h1__law_right)
  have D_law : Df K mg "law" s_law p_law fa _ := .mk' (fun_mk (st := s_law) h2_law h3_law h4_law) (fun _ _ _ _ _ _ us hl => match us, hl with | [_], _ => rfl) (PySem.W.mg_of X G h1_law)
  have DC_Game : Cl_Game K mg C_Game := ⟨⟨⟨g2_Game, g3_Game, g4_Game, g5_Game⟩, g6_Game, g7_Game, PySem.W.mg_of X G g1_Game, fun e => .ins e ⟨g2_Game, g3_Game, g4_Game, g5_Game⟩ e1_Game e2_Game e3_Game e4_Game⟩, g8_Game__gaps, g8_Game__groups, g8_Game__people, g8_Game__row, g8_Game__worths⟩
  have D_Game___init__ : Dm K C_Game "__init__" "Game.__init__" s_Game___init__ p_Game___init__ a_Game___init__ _ := ⟨fun_mk (st := s_Game___init__) m2_Game___init__ m3_Game___init__ m4_Game___init__, (fun_mk (st := s_Game___init__) m2_Game___init__ m3_Game___init__ m4_Game___init__).binds fun _ _ _ _ _ _ us hl => match us, hl with | [_, _, _], _ => rfl, m1_Game___init__, m5_Game___init__⟩
  have D_Game_people : Dpr K C_Game "people" "Game.people" s_Game_people p_Game_people a_Game_people _ := ⟨fun_mk (st := s_Game_people) m2_Game_people m3_Game_people m4_Game_people, (fun_mk (st := s_Game_people) m2_Game_people m3_Game_people m4_Game_people).binds fun _ _ _ _ _ _ us hl => match us, hl with | [_], _ => rfl, ⟨_, m1_Game_people, m5_Game_people, m6_Game_people, _, m7_Game_people⟩⟩
  have D_Game_groups : Dpr K C_Game "groups" "Game.groups" s_Game_groups p_Game_groups a_Game_groups _ := ⟨fun_mk (st := s_Game_groups) m2_Game_groups m3_Game_groups m4_Game_groups, (fun_mk (st := s_Game_groups) m2_Game_groups m3_Game_groups m4_Game_groups).binds fun _ _ _ _ _ _ us hl => match us, hl with | [_], _ => rfl, ⟨_, m1_Game_groups, m5_Game_groups, m6_Game_groups, _, m7_Game_groups⟩⟩
  have D_Game_gaps : Dpr K C_Game "gaps" "Game.gaps" s_Game_gaps p_Game_gaps a_Game_gaps _ := ⟨fun_mk (st := s_Game_gaps) m2_Game_gaps m3_Game_gaps m4_Game_gaps, (fun_mk (st := s_Game_gaps) m2_Game_gaps m3_Game_gaps m4_Game_gaps).binds fun _ _ _ _ _ _ us hl => match us, hl with | [_], _ => rfl, ⟨_, m1_Game_gaps, m5_Game_gaps, m6_Game_gaps, _, m7_Game_gaps⟩⟩
  have D_Game___getitem__ : Dm K C_Game "__getitem__" "Game.__getitem__" s_Game___getitem__ p_Game___getitem__ a_Game___getitem__ _ := ⟨fun_mk (st := s_Game___getitem__) m2_Game___getitem__ m3_Game___getitem__ m4_Game___getitem__, (fun_mk (st := s_Game___getitem__) m2_Game___getitem__ m3_Game___getitem__ m4_Game___getitem__).binds fun _ _ _ _ _ _ us hl => match us, hl with | [_, _], _ => rfl, m1_Game___getitem__, m5_Game___getitem__⟩
  exact ⟨PySem.W.fnOf "law" "law" (defArgs s_law) (defBody s_law) (defScope s_law) .none kV_law dc_law pm_law an_law cd_law ct_law, fun s v => .of_eq rfl, fun base _ _ => law_ok T D__wall D_is_whole D_is_integer D_is_name D_sums D_gaps_of D_is_ascending D_groups_of D_union D_common D__kept D_is_people D_is_worth D_are_worths D_check_people D_check_game D_check_group D_check_some D_is_growing D_is_shrinking D_is_additive D_is_growing_by D__law_cup D__law_sip D__law_select D__law_mingled D__law_groups D__law_names D__law_by_parts D__law_by_size D__law_by_estate D__law_growing D__law_game D__law_made_game D__law_with D__law_breaks D__law_is_growing D__law_case D__law_own_tests D__law_own_gap D__law_right D_law DC_Game D_Game___init__ D_Game_people D_Game_groups D_Game_gaps D_Game___getitem__⟩
end K08
open PySem PySem.W PyProof.Rows
set_option maxRecDepth 100000 in
set_option maxHeartbeats 0 in
theorem PySem.Challenge.cw_joinmore_k08_whole_growing_by_pairs_holds : PySem.Challenge.rw_joinmore_k08_whole_growing_by_pairs.Holds := by
  w_on; o_law; k_head; (case hw => w_witness2)
  k_fill
  refine Gd.walkG (l := PySem.Challenge.rw_joinmore_k08_whole_growing_by_pairs) (n := 63) (k := K08.lawLevel) (x := "script") (sp := K08.spLaw) rfl (by decide) rfl ⟨rfl, by decide, by decide⟩ (fun w h Y => PySem.W.kIn_of Y) ?F (fun K H a ns hl on hS => ⟨a, ns, rfl, hS, hl, fun _ => rfl⟩)
  case F =>
    intro w mg fa h KX G hmg
    refine' K08.all_mk KX G hmg ?h1__wall ?h2__wall ?h3__wall ?h4__wall ?h1_is_whole ?h2_is_whole ?h3_is_whole ?h4_is_whole ?h1_is_integer ?h2_is_integer ?h3_is_integer ?h4_is_integer ?h1_is_name ?h2_is_name ?h3_is_name ?h4_is_name ?h1_sums ?h2_sums ?h3_sums ?h4_sums ?h1_gaps_of ?h2_gaps_of ?h3_gaps_of ?h4_gaps_of ?h1_is_ascending ?h2_is_ascending ?h3_is_ascending ?h4_is_ascending ?h1_groups_of ?h2_groups_of ?h3_groups_of ?h4_groups_of ?h1_union ?h2_union ?h3_union ?h4_union ?h1_common ?h2_common ?h3_common ?h4_common ?h1__kept ?h2__kept ?h3__kept ?h4__kept ?h1_is_people ?h2_is_people ?h3_is_people ?h4_is_people ?h1_is_worth ?h2_is_worth ?h3_is_worth ?h4_is_worth ?h1_are_worths ?h2_are_worths ?h3_are_worths ?h4_are_worths ?h1_check_people ?h2_check_people ?h3_check_people ?h4_check_people ?h1_check_game ?h2_check_game ?h3_check_game ?h4_check_game ?h1_check_group ?h2_check_group ?h3_check_group ?h4_check_group ?h1_check_some ?h2_check_some ?h3_check_some ?h4_check_some ?h1_is_growing ?h2_is_growing ?h3_is_growing ?h4_is_growing ?h1_is_shrinking ?h2_is_shrinking ?h3_is_shrinking ?h4_is_shrinking ?h1_is_additive ?h2_is_additive ?h3_is_additive ?h4_is_additive ?h1_is_growing_by ?h2_is_growing_by ?h3_is_growing_by ?h4_is_growing_by ?h1__law_cup ?h2__law_cup ?h3__law_cup ?h4__law_cup ?h1__law_sip ?h2__law_sip ?h3__law_sip ?h4__law_sip ?h1__law_select ?h2__law_select ?h3__law_select ?h4__law_select ?h1__law_mingled ?h2__law_mingled ?h3__law_mingled ?h4__law_mingled ?h1__law_groups ?h2__law_groups ?h3__law_groups ?h4__law_groups ?h1__law_names ?h2__law_names ?h3__law_names ?h4__law_names ?h1__law_by_parts ?h2__law_by_parts ?h3__law_by_parts ?h4__law_by_parts ?h1__law_by_size ?h2__law_by_size ?h3__law_by_size ?h4__law_by_size ?h1__law_by_estate ?h2__law_by_estate ?h3__law_by_estate ?h4__law_by_estate ?h1__law_growing ?h2__law_growing ?h3__law_growing ?h4__law_growing ?h1__law_game ?h2__law_game ?h3__law_game ?h4__law_game ?h1__law_made_game ?h2__law_made_game ?h3__law_made_game ?h4__law_made_game ?h1__law_with ?h2__law_with ?h3__law_with ?h4__law_with ?h1__law_breaks ?h2__law_breaks ?h3__law_breaks ?h4__law_breaks ?h1__law_is_growing ?h2__law_is_growing ?h3__law_is_growing ?h4__law_is_growing ?h1__law_case ?h2__law_case ?h3__law_case ?h4__law_case ?h1__law_own_tests ?h2__law_own_tests ?h3__law_own_tests ?h4__law_own_tests ?h1__law_own_gap ?h2__law_own_gap ?h3__law_own_gap ?h4__law_own_gap ?h1__law_right ?h2__law_right ?h3__law_right ?h4__law_right ?h1_law ?h2_law ?h3_law ?h4_law ?g1_Game ?g2_Game ?g3_Game ?g4_Game ?g5_Game ?g6_Game ?g7_Game ?e1_Game ?e2_Game ?e3_Game ?e4_Game ?g8_Game__gaps ?g8_Game__groups ?g8_Game__people ?g8_Game__row ?g8_Game__worths ?m1_Game___init__ ?m5_Game___init__ ?m2_Game___init__ ?m3_Game___init__ ?m4_Game___init__ ?m1_Game_people ?m5_Game_people ?m6_Game_people ?m7_Game_people ?m2_Game_people ?m3_Game_people ?m4_Game_people ?m1_Game_groups ?m5_Game_groups ?m6_Game_groups ?m7_Game_groups ?m2_Game_groups ?m3_Game_groups ?m4_Game_groups ?m1_Game_gaps ?m5_Game_gaps ?m6_Game_gaps ?m7_Game_gaps ?m2_Game_gaps ?m3_Game_gaps ?m4_Game_gaps ?m1_Game___getitem__ ?m5_Game___getitem__ ?m2_Game___getitem__ ?m3_Game___getitem__ ?m4_Game___getitem__ ?z_IndexError ?z_ValueError ?z_abs ?z_all ?z_bool ?z_classmethod ?z_dict ?z_enumerate ?z_int ?z_isinstance ?z_iter ?z_len ?z_list ?z_max ?z_min ?z_property ?z_range ?z_repr ?z_set ?z_sorted ?z_str ?z_sum ?z_tuple ?z_zip ?y_MAX_LETTERS ?y__LETTERS ?y__INTEGER_BOUND ?y_MAX_PEOPLE ?y_MAX_WORTH
    (case h1__wall => k_is); (case h2__wall => k_is); (case h3__wall => k_is); (case h4__wall => k_is)
    (case h1_is_whole => k_is); (case h2_is_whole => k_is); (case h3_is_whole => k_is); (case h4_is_whole => k_is)
    (case h1_is_integer => k_is); (case h2_is_integer => k_is); (case h3_is_integer => k_is); (case h4_is_integer => k_is)
    (case h1_is_name => k_is); (case h2_is_name => k_is); (case h3_is_name => k_is); (case h4_is_name => k_is)
    (case h1_sums => k_is); (case h2_sums => k_is); (case h3_sums => k_is); (case h4_sums => k_is)
    (case h1_gaps_of => k_is); (case h2_gaps_of => k_is); (case h3_gaps_of => k_is); (case h4_gaps_of => k_is)
    (case h1_is_ascending => k_is); (case h2_is_ascending => k_is); (case h3_is_ascending => k_is); (case h4_is_ascending => k_is)
    (case h1_groups_of => k_is); (case h2_groups_of => k_is); (case h3_groups_of => k_is); (case h4_groups_of => k_is)
    (case h1_union => k_is); (case h2_union => k_is); (case h3_union => k_is); (case h4_union => k_is)
    (case h1_common => k_is); (case h2_common => k_is); (case h3_common => k_is); (case h4_common => k_is)
    (case h1__kept => k_is); (case h2__kept => k_is); (case h3__kept => k_is); (case h4__kept => k_is)
    (case h1_is_people => k_is); (case h2_is_people => k_is); (case h3_is_people => k_is); (case h4_is_people => k_is)
    (case h1_is_worth => k_is); (case h2_is_worth => k_is); (case h3_is_worth => k_is); (case h4_is_worth => k_is)
    (case h1_are_worths => k_is); (case h2_are_worths => k_is); (case h3_are_worths => k_is); (case h4_are_worths => k_is)
    (case h1_check_people => k_is); (case h2_check_people => k_is); (case h3_check_people => k_is); (case h4_check_people => k_is)
    (case h1_check_game => k_is); (case h2_check_game => k_is); (case h3_check_game => k_is); (case h4_check_game => k_is)
    (case h1_check_group => k_is); (case h2_check_group => k_is); (case h3_check_group => k_is); (case h4_check_group => k_is)
    (case h1_check_some => k_is); (case h2_check_some => k_is); (case h3_check_some => k_is); (case h4_check_some => k_is)
    (case h1_is_growing => k_is); (case h2_is_growing => k_is); (case h3_is_growing => k_is); (case h4_is_growing => k_is)
    (case h1_is_shrinking => k_is); (case h2_is_shrinking => k_is); (case h3_is_shrinking => k_is); (case h4_is_shrinking => k_is)
    (case h1_is_additive => k_is); (case h2_is_additive => k_is); (case h3_is_additive => k_is); (case h4_is_additive => k_is)
    (case h1_is_growing_by => k_is); (case h2_is_growing_by => k_is); (case h3_is_growing_by => k_is); (case h4_is_growing_by => k_is)
    (case h1__law_cup => k_is); (case h2__law_cup => k_is); (case h3__law_cup => k_is); (case h4__law_cup => k_is)
    (case h1__law_sip => k_is); (case h2__law_sip => k_is); (case h3__law_sip => k_is); (case h4__law_sip => k_is)
    (case h1__law_select => k_is); (case h2__law_select => k_is); (case h3__law_select => k_is); (case h4__law_select => k_is)
    (case h1__law_mingled => k_is); (case h2__law_mingled => k_is); (case h3__law_mingled => k_is); (case h4__law_mingled => k_is)
    (case h1__law_groups => k_is); (case h2__law_groups => k_is); (case h3__law_groups => k_is); (case h4__law_groups => k_is)
    (case h1__law_names => k_is); (case h2__law_names => k_is); (case h3__law_names => k_is); (case h4__law_names => k_is)
    (case h1__law_by_parts => k_is); (case h2__law_by_parts => k_is); (case h3__law_by_parts => k_is); (case h4__law_by_parts => k_is)
    (case h1__law_by_size => k_is); (case h2__law_by_size => k_is); (case h3__law_by_size => k_is); (case h4__law_by_size => k_is)
    (case h1__law_by_estate => k_is); (case h2__law_by_estate => k_is); (case h3__law_by_estate => k_is); (case h4__law_by_estate => k_is)
    (case h1__law_growing => k_is); (case h2__law_growing => k_is); (case h3__law_growing => k_is); (case h4__law_growing => k_is)
    (case h1__law_game => k_is); (case h2__law_game => k_is); (case h3__law_game => k_is); (case h4__law_game => k_is)
    (case h1__law_made_game => k_is); (case h2__law_made_game => k_is); (case h3__law_made_game => k_is); (case h4__law_made_game => k_is)
    (case h1__law_with => k_is); (case h2__law_with => k_is); (case h3__law_with => k_is); (case h4__law_with => k_is)
    (case h1__law_breaks => k_is); (case h2__law_breaks => k_is); (case h3__law_breaks => k_is); (case h4__law_breaks => k_is)
    (case h1__law_is_growing => k_is); (case h2__law_is_growing => k_is); (case h3__law_is_growing => k_is); (case h4__law_is_growing => k_is)
    (case h1__law_case => k_is); (case h2__law_case => k_is); (case h3__law_case => k_is); (case h4__law_case => k_is)
    (case h1__law_own_tests => k_is); (case h2__law_own_tests => k_is); (case h3__law_own_tests => k_is); (case h4__law_own_tests => k_is)
    (case h1__law_own_gap => k_is); (case h2__law_own_gap => k_is); (case h3__law_own_gap => k_is); (case h4__law_own_gap => k_is)
    (case h1__law_right => k_is); (case h2__law_right => k_is); (case h3__law_right => k_is); (case h4__law_right => k_is)
    (case h1_law => k_is); (case h2_law => k_is); (case h3_law => k_is); (case h4_law => k_is)
    (case g1_Game => k_is); (case g2_Game => k_is); (case g3_Game => k_is); (case g4_Game => k_is)
    (case g5_Game => k_is); (case g6_Game => k_is); (case g7_Game => k_is); (case e1_Game => k_is)
    (case e2_Game => k_is); (case e3_Game => k_is); (case e4_Game => k_is); (case g8_Game__gaps => k_is)
    (case g8_Game__groups => k_is); (case g8_Game__people => k_is); (case g8_Game__row => k_is); (case g8_Game__worths => k_is)
    (case m1_Game___init__ => k_is); (case m5_Game___init__ => k_is); (case m2_Game___init__ => k_is); (case m3_Game___init__ => k_is)
    (case m4_Game___init__ => k_is); (case m1_Game_people => k_is); (case m5_Game_people => k_is); (case m6_Game_people => k_is)
    (case m7_Game_people => k_is); (case m2_Game_people => k_is); (case m3_Game_people => k_is); (case m4_Game_people => k_is)
    (case m1_Game_groups => k_is); (case m5_Game_groups => k_is); (case m6_Game_groups => k_is); (case m7_Game_groups => k_is)
    (case m2_Game_groups => k_is); (case m3_Game_groups => k_is); (case m4_Game_groups => k_is); (case m1_Game_gaps => k_is)
    (case m5_Game_gaps => k_is); (case m6_Game_gaps => k_is); (case m7_Game_gaps => k_is); (case m2_Game_gaps => k_is)
    (case m3_Game_gaps => k_is); (case m4_Game_gaps => k_is); (case m1_Game___getitem__ => k_is); (case m5_Game___getitem__ => k_is)
    (case m2_Game___getitem__ => k_is); (case m3_Game___getitem__ => k_is); (case m4_Game___getitem__ => k_is)
    (case z_IndexError => k_is); (case z_ValueError => k_is); (case z_abs => k_is); (case z_all => k_is); (case z_bool => k_is); (case z_classmethod => k_is)
    (case z_dict => k_is); (case z_enumerate => k_is); (case z_int => k_is); (case z_isinstance => k_is); (case z_iter => k_is); (case z_len => k_is)
    (case z_list => k_is); (case z_max => k_is); (case z_min => k_is); (case z_property => k_is); (case z_range => k_is); (case z_repr => k_is)
    (case z_set => k_is); (case z_sorted => k_is); (case z_str => k_is); (case z_sum => k_is); (case z_tuple => k_is); (case z_zip => k_is)
    (case y_MAX_LETTERS => k_is); (case y__LETTERS => k_is); (case y__INTEGER_BOUND => k_is); (case y_MAX_PEOPLE => k_is); (case y_MAX_WORTH => k_is)
