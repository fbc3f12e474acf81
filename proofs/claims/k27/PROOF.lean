import PyProof.Rows.All
import Wide.All
import OpenK.AllK
import Wide.FinOn
import PyProof.ReprRoads
import KE.KSortAny
import PyProof.Rows.SortShellAny
import HandS.ForMost
import HandS.IsInst
import HandS.AnyAll
import HandS.EndTab
import HandS.HeadWalk
import HandS.WrittenGet
import HandS.GenList
import PyProof.EqKinds
import PyProof.NeKinds
import PyProof.NeData
import PyProof.TupleOfGen
import HandS.Conv
import HandS.StrMore
import PyProof.RowDictHeap
import PyProof.Rows.StrDigitsNeg
import PyProof.Rows.StrIntSpec
import KE.KEqNest
import PyProof.Rows.StrRev
import HandS.TupAny
import HandS.Comp
import HandS.Style
import HandS.Wide
import HandS.More
import HandS.TupMul
import HandS.Dict
import HandS.SetKeys
import HandS.Flow
import KE.GoesMore
import KE.KDictZip
import KE.KItemsList
import HandS.Zip
import HandS.ListItems
import KE.GoesEnum
import HandS.Rev
import HandS.Iter
import HandS.Lambda
import HandS.Exc
import HandS.TryOnly
import KE.KIsAll
import KE.KTryMore
import HandS.ExcIs
import HandS.Walk
import HandS.SortRule
import PyProof.EqAt
import HandS.SetFor
import HandS.ExcOwn
import HandS.WordsExc
import PyProof.IsRules
import PySem.Challenge.RW_eyesonly_k27_whole_widths_and_bounds_by
set_option Elab.async false
set_option linter.all false
set_option maxRecDepth 100000
set_option maxHeartbeats 4000000
namespace Ey
open PySem PySem.Spec PyProof.Rows L2
/-! ### repr of data -/
mutual
theorem dp_plain {K : PySem.W.Frag} {H : Hp} : ∀ (d : PyData) (v : V), Dp K H v d → d.hasDict = false
  | .none, _, _ => rfl
  | .bool _, _, _ => rfl
  | .int _, _, _ => rfl
  | .str _, _, _ => rfl
  | .list ds, _, h => by
    cases h with
    | lst _ q => exact dp_plains ds _ q
  | .tuple ds, _, h => by
    cases h with
    | tup _ q => exact dp_plains ds _ q
  | .dict _, _, h => by cases h
theorem dp_plains {K : PySem.W.Frag} {H : Hp} : ∀ (ds : List PyData) (vs : List V), DpAll K H vs ds → PyData.hasDictAll ds = false
  | [], _, _ => rfl
  | d :: r, _, h => by
    cases h with
    | cons a b =>
      show (d.hasDict || PyData.hasDictAll r) = false
      rw [dp_plain d _ a, dp_plains r _ b]
      rfl
end
def rRepr (K : PySem.W.Frag) : List V → Hp → VK → Prop := fun xs H Q =>
  ∃ v d, xs = [v] ∧ Dp K H v d ∧ d.showable = true ∧ d.depth ≤ 100 ∧ d.shown.length ≤ sizeLine ∧ Q (.str d.shown) H
section
variable {X : Cx} {k : Nat}
theorem cr_repr (hg : X.A.guards = some []) (hr : Room k X.A) : CallR X (.builtin "repr") (rRepr X.K) := by
  intro pins s σ H xs us Q I r h
  obtain ⟨v, d, rfl, hd, hs, hp, hz, q⟩ := h
  obtain ⟨u, rfl, ru⟩ := vals1 r
  obtain ⟨as, rd⟩ := Dp.reads I d v u hd ru
  have nd := dp_plain d v hd
  have room : X.A.units + (d.depth + 1) < cLine := by
    have := hr.un
    omega
  have fin : ∀ (h' : Heap) (tk : Nat) (t : Tok), (∀ b o, s.heap.get? b = some o → h'.get? b = some o) → EP X pins σ Q (.str d.shown t) { s with heap := h', toks := tk } :=
    fun h' tk t hk => ⟨.str d.shown, H, I.kept hk, ⟨t, rfl⟩, q⟩
  cases rd with
  | none => exact PySem.P.repr_of_none (fin s.heap _ _ fun _ _ e => e)
  | bool b => exact PySem.P.repr_of_bool (fin s.heap _ _ fun _ _ e => e)
  | int i t => exact PySem.P.repr_of_int (of_decide_eq_true hs) (fin s.heap _ _ fun _ _ e => e)
  | str x t => exact PySem.P.repr_of_str (fin s.heap _ _ fun _ _ e => e) hz
  | list a b c e => exact repr_of_reads' (.list a b c e) hs (PyData.noDict_hsm nd) hg room (fun _ _ e => e) (fun h' u tk hk => fin h' tk u hk) hz
  | tuple a b c e => exact repr_of_reads' (.tuple a b c e) hs (PyData.noDict_hsm nd) hg room (fun _ _ e => e) (fun h' u tk hk => fin h' tk u hk) hz
  | dict a b c e f => cases nd
/-! ### sorted of texts, at any length -/
def rSortT (K : PySem.W.Frag) : List V → Hp → VK → Prop := fun vs H Q => ∃ (a : Addr) (xs : List Str), vs = [V.ref a] ∧ SqL K H a (xs.map V.str) ∧ xs.length ≤ sizeLine ∧
  ∀ (ys : List Str) (p : Addr), ys.Perm xs → sortedS ys = true → H p = none → Q (.ref p) (upd H p (.lst (ys.map V.str)))
theorem cr_sortT : CallR X (.builtin "sorted") (rSortT X.K) := by
  intro pins s σ H vs us Q I r h
  obtain ⟨a, xs, rfl, hs, hl, q⟩ := h
  obtain ⟨its, rv, pl, _⟩ := I.list hs
  rw [Vals.ref1 r]
  have n0 := rv.length
  rw [List.length_map] at n0
  refine PyProof.Rows.sorted_strsAny pl.isList rv.strs (by rw [← n0]; exact hl) fun out ys h1 h2 h3 => ?_
  obtain ⟨ep, at'⟩ := PyProof.Rows.sortedAll_at s.heap its out
  have n1 : (ys.map V.str).length ≤ sizeLine := by rw [List.length_map, h2.length_eq]; exact hl
  refine ⟨.ref _, upd H (s.heap.objs.size + 1) (.lst (ys.map V.str)), ?_, rfl, q ys _ h2 h3 (I.hok.fresh (Nat.le_succ _))⟩
  exact I.laid (t' := s.toks) (fun _ _ => PyProof.Rows.sortedAll_old) (Nat.le_succ _) ⟨n1, out.toList, ep, vals_of_strs h1, at'⟩
end
end Ey
set_option maxHeartbeats 2000000
namespace Ey
open PySem PySem.Spec PyProof.Rows L2 GxR
/-! ### all(test of sign for sign in text), where the test reads a name of the module -/
/-- the test, in the generator's own frame: the module stands as it stood -/
def EltG (X : Cx) (sc : Scope) (x : Str) (elt : Expr) (pb : Nat → Bool) : Prop :=
  ∀ (ge : Env) (B : Around) (F' : Value → Shared → Prop) (c : Nat) (t : Tok) (z : Shared) (m : Str → Option Value), ge.scope = sc → ge.globals = X.env.globals →
    (∀ b o, X.base.get? b = some o → z.heap.get? b = some o) → z.heap.Ns ge.locals m → m x = some (.str ⟨#[c]⟩ t) →
    wpAny (model X.prog X.w) B (eval elt ge) (fun y z' => y = .bool (pb c) ∧ Keeps z z') F' z
section
variable {X : Cx} {pins : List (Addr × Obj)} {σ : L2.St} {H : Hp} {s : Shared}
theorem gen_glob {c P : Addr} {elt iter : Expr} {x : Str} {px gp : Pos} {sc : Scope} {pb : Nat → Bool} {te : TE} {k : Nat} {Q' : Value → Shared → Prop} {R : Str → Hp → Prop}
    (hr : Room k X.A) (TB : TabB X.base X.mg c P) (hco : X.env.code = .ref c) (S : GenS X.env sc x) (hi : PE X iter te) (hel : EltG X sc x elt pb)
    (hs : ∀ v, genFold iter X.env v = pure v) (I : Inv X pins σ H s) (h : te σ H fun v H1 => ∃ a : Str, v = .str a ∧ TabG H1 P ∧ R a H1)
    (hQ : ∀ a H1 g s5, R a H1 → Ready X pins σ H1 P a pb g s5 → Q' (.ref g) s5) :
    wpAny (model X.prog X.w) X.A (eval (.GeneratorExp elt [⟨.Name x px, iter, [], 0⟩] sc gp) X.env) Q' X.xe s := by
  refine wpAny_GeneratorExp_walksQ hr.hd S.co (closure_ok S.free) S.cell S.dot S.loc S.kind (Nat.lt_of_le_of_lt (by omega) hr.dp) ?_ hs
  refine thn (hi.run pins s σ H _ I h) fun xv sA ⟨v, H1, J, rv, q⟩ => ?_
  obtain ⟨a, rfl, ⟨ps, tP, tok⟩, q⟩ := q
  obtain ⟨t, rfl⟩ := _root_.id rv
  refine wpAny_pyIter_str fun ob St W start => ?_
  have gP : sA.heap.get? P = some { cls := .none, data := .fields ps } := J.hok P _ tP
  have ltP : P < sA.heap.objs.size := Heap.lt_size gP
  have gP2 : (sA.heap.push ob).get? P = some { cls := .none, data := .fields ps } := Heap.get?_push_of_some _ gP
  have head : PySem.W.CodeHd (sA.heap.push ob) c P := TB.code.keeps fun b u e => Heap.get?_push_of_some _ (J.bk b u e)
  have noL : (sA.heap.push ob).NoLimit := J.nolimit.push ob
  have go : ∀ (code : Value) (hN : Heap) (tk : Nat) (qs : Array Value), Heap.ExtBut P (sA.heap.push ob) hN → (sA.heap.push ob).objs.size ≤ hN.objs.size → hN.get? P = some { cls := .none, data := .fields qs } → (∃ more, qs = ps ++ more) → TriplesOk qs.toList →
      wpAny (model X.prog X.w) X.A (builtinsFor X.env.globals X.env.builtins) (fun bi sB =>
        ∃ Ia fp wr n₀ Pf St₀ pz F, Value.ref sA.heap.objs.size = .ref Ia ∧ (∀ B : Around, B.handled = none → Walks X.prog X.w B Ia fp wr n₀ Pf St₀) ∧ St₀ 0 sB.heap ∧ (∀ b ∈ fp, b < sB.heap.objs.size) ∧ sB.heap.NoLimit ∧ cStatics ∉ wr ∧
          (∀ hf : Heap, (∀ b o, sB.heap.get? b = some o → hf.get? b = some o) →
            QuietGen X.prog X.w (genEnv sc (cloFrom X.env.cells sc.names []) sB.heap.objs.size code bi X.env) x [] elt (List.range sB.heap.objs.size) wr Pf pz F hf) ∧
          (∀ g hG tg gs, gs.bare = true → sB.heap.objs.size < g → hG.objs.size = g + 1 → (∀ b o, sB.heap.get? b = some o → hG.get? b = some o) →
            WalksS X.prog X.w X.A.in4 g (g :: sB.heap.objs.size :: List.range sB.heap.objs.size) (sB.heap.objs.size :: wr) (GenOnlyQ sB.gens.size) (passing pz n₀ 0).length
              (fun j y => ∃ i, (passing pz n₀ 0)[j]? = some i ∧ F i y) (GenAt X.prog X.w X.A.in4 g sB.gens.size sB.heap.objs.size (List.range sB.heap.objs.size) wr pz n₀ F) →
            GenAt X.prog X.w X.A.in4 g sB.gens.size sB.heap.objs.size (List.range sB.heap.objs.size) wr pz n₀ F 0 { sB with gens := sB.gens.push gs, toks := tg, heap := hG } →
            Q' (.ref g) { sB with gens := sB.gens.push gs, toks := tg, heap := hG })) X.xe { sA with heap := hN, toks := tk } := by
    intro code hN tk qs ext hsz gPN more okN
    obtain ⟨bm, obm, e1, e2, e3, e4, e5, e6, e7, e8⟩ := TB.bm
    have ncP : cStatics ≠ P := fun e => by
      obtain ⟨_, ns, _⟩ := J.nolimit
      obtain ⟨o', es, ep, g', d', _⟩ := ns
      rw [e, gP] at g'
      cases g'
      cases d'
    have ltC : cStatics < sA.heap.objs.size := let ⟨_, ns, _⟩ := J.nolimit; ns.lt
    have szA : (sA.heap.push ob).objs.size = sA.heap.objs.size + 1 := Heap.size_push ..
    have stay : ∀ b u, b ≠ P → sA.heap.get? b = some u → hN.get? b = some u := fun b u nb e => ext b u nb (Heap.get?_push_of_some _ e)
    have old : ∀ b u, X.base.get? b = some u → hN.get? b = some u ∧ b < sA.heap.objs.size := fun b u e => by
      obtain ⟨e1, e2⟩ := J.bs b u e
      refine ⟨stay b u (fun z => ?_) e1, Heap.lt_size e1⟩
      rw [z, tP] at e2
      cases e2
    refine wpAny_builtinsFor (m := X.mg) (by rw [J.ok.glob]; exact ((J.mod.glob.keeps J.bk).push ob).extBut ext TB.gP) e1 e2 (stay _ _ e4 (J.bk _ _ e5)) e6 e7 e8 ?_
    refine ⟨sA.heap.objs.size, [sA.heap.objs.size], [sA.heap.objs.size], a.cps.size, SignAt a, St, (fun _ => true), (fun i y => ∃ cc, a.cps[i]? = some cc ∧ y = .bool (pb cc)), rfl, W, ?_, ?_, noL.extBut ext ncP, ?_, ?_, ?_⟩
    · refine (W X.A hr.hd).frame _ _ _ start fun b hb u e => ext b u (fun z => ?_) e
      have hb' : b = sA.heap.objs.size := List.mem_singleton.mp hb
      exact Nat.ne_of_lt ltP (z.symm.trans hb')
    · intro b hb
      have hb' : b = sA.heap.objs.size := List.mem_singleton.mp hb
      rw [hb']
      show sA.heap.objs.size < hN.objs.size
      omega
    · intro z
      have z' : cStatics = sA.heap.objs.size := List.mem_singleton.mp z
      exact Nat.ne_of_lt ltC z'
    · intro hf sub
      refine ⟨fun B F' i v z m hB hv hn hm hk => ?_, fun B F' i v z m hB hv hp hn hm hk => ?_⟩
      · simp only [List.forIn_nil]
        exact wpAny_pure ⟨rfl, keeps_refl _⟩
      · obtain ⟨cc, u, hcc, rfl⟩ := hv
        refine wpAny_mono (hel _ B F' cc u z m rfl rfl (fun b o e => ?_) hn hm) (fun y z' r => ⟨⟨cc, hcc, r.1⟩, r.2⟩) fun _ _ e => e
        obtain ⟨e1, e2⟩ := old b o e
        refine hk b (List.mem_range.mpr (Heap.lt_size e1)) (fun w => ?_) o (sub b o e1)
        have w' : b = sA.heap.objs.size := List.mem_singleton.mp w
        exact Nat.ne_of_lt e2 w'
    · intro g hG tg gs bare ltg szg keepg Wg atg
      simp only [GxR.passing_true, List.length_range] at Wg
      refine hQ a H1 g _ q ⟨_, _, _, _, _, Wg.in4_1, atg, ?_, fun s' mv => ?_⟩
      · intro j y sj Qj Ej hy hj
        obtain ⟨i, ij, cc, hcc, rfl⟩ := hy
        obtain ⟨lj, ej⟩ := List.getElem?_eq_some_iff.mp ij
        rw [List.getElem_range] at ej
        subst ej
        have sign : a.cps.toList[j]? = some cc := (Array.getElem?_toList).trans hcc
        have hj' : Qj (trF pb a.cps.toList j) sj := hj
        rw [trF_some sign] at hj'
        exact wpAny_truthy_bool hj'
      · obtain ⟨mo, em⟩ := more
        have nw : ∀ b u, sA.heap.get? b = some u → b ∉ hN.objs.size :: [sA.heap.objs.size] := fun b u e z => by
          have l := Heap.lt_size e
          rcases List.mem_cons.mp z with z | z
          · rw [z] at l
            have l2 : (hN.objs.size : Nat) < sA.heap.objs.size := l
            omega
          · exact Nat.ne_of_lt l (List.mem_singleton.mp z)
        have L := inv_tab (more := mo) (h' := s'.heap) (g' := s'.gens) (d' := s'.drawn) (t' := s'.toks) J tP (fun b u nb e => mv.heap b u (nw b u e) (keepg b u (stay b u nb e)))
          (by rw [← em]; exact mv.heap P _ (nw P _ gP) (keepg P _ gPN)) (AllBare.movedS (J.bare.push bare) mv)
        rw [sh_eta sA s' mv.os] at L
        refine ⟨upd H1 P (.tbl (ps ++ mo)), ⟨⟨ps ++ mo, upd_same, ?_⟩, fun b nb => upd_ne nb⟩, L⟩
        rw [← em]
        exact okN
  refine ⟨noL, ?_⟩
  cases am : codeAmong gp ps.toList with
  | none =>
    refine wpAny_genexprCodeX hco (head.code gP2 tok) (head.tab gP2) am fun c' hN tk ext hge hlt hc' _ tab' _ => ?_
    obtain ⟨o1, vs, f1, tf, fl, tg, inF, tx, tt, op, _, _, _, _, _, _, _, _, _, tr, _⟩ := hc'
    exact go _ hN tk _ ext (Nat.le_trans hge (Nat.le_of_lt hlt)) tab'.2 ⟨_, rfl⟩ tr
  | some cv =>
    refine wpAny_genexprCode_hit hco (head.code gP2 tok) am ?_
    exact go cv (sA.heap.push ob) sA.toks ps (Heap.ExtBut.refl _ _) (Nat.le_refl _) gP2 ⟨#[], by simp⟩ tok
theorem pe_allG {c P : Addr} {elt iter : Expr} {x : Str} {px p pos gp : Pos} {sc : Scope} {pb : Nat → Bool} {te : TE} {k : Nat}
    (hr : Room k X.A) (hg : Gl X "all") (hm : X.mg "all" = none) (hb : bootBuiltins "all" = some (.builtin "all")) (TB : TabB X.base X.mg c P) (hco : X.env.code = .ref c) (S : GenS X.env sc x) (hi : PE X iter te) (hel : EltG X sc x elt pb)
    (hs : ∀ v, genFold iter X.env v = pure v)
    (he : starEach [.GeneratorExp elt [⟨.Name x px, iter, [], 0⟩] sc gp] X.env = (false, eval (.GeneratorExp elt [⟨.Name x px, iter, [], 0⟩] sc gp) X.env) :: starEach [] X.env := by rfl) :
    PE X (.Call (.Name "all" p) [.GeneratorExp elt [⟨.Name x px, iter, [], 0⟩] sc gp] [] pos) (tAllS P pb te) := by
  refine ⟨fun pins s σ H Q I h => wpAny_Call_Name_kw (ld_blt I hg hm hb ?_)⟩
  refine PyProof.Rows.callWith_builtin1 ?_ he (by rfl)
  rw [he]
  show wpAny _ _ (spliced ((false, eval (.GeneratorExp elt [⟨.Name x px, iter, [], 0⟩] sc gp) X.env) :: backTo pos (starEach [] X.env))) _ _ s
  refine Calls.spliced_cons (gen_glob (R := fun a H1 => ∀ H2, Tabbed P H1 H2 → Q (.bl (a.cps.toList.all pb)) H2) hr TB hco S hi hel hs I h fun a H1 g s5 hR rdy => ?_)
  obtain ⟨fp, wr, G, F, St, W, st0, tru, inv⟩ := rdy
  refine Calls.spliced_nil (call_all_walkS (W.self 0 _ _ _ st0 ⟨g, fp, wr, G, _, F, St, _, rfl, W, st0, tru, fun s' mv => ?_⟩))
  obtain ⟨H2, hT, L⟩ := inv s' mv
  refine ⟨.bl _, H2, L, rfl, ?_⟩
  rw [all_signs a pb]
  exact hR H2 hT
/-- sign in NAME, NAME a text of the module -/
theorem elt_inG {sc : Scope} {x y : Str} {T : Str} {p1 p2 p3 : Pos} {tk : Tok} (hk : sc.kind = .function) (hl : sc.names.lookup x = some .local) (hy : sc.names.lookup y = some .globalImplicit) (hG : X.env.globals = mainGlobals) (M : X.base.Ns mainGlobals X.mg) (hm : X.mg y = some (.str T tk))
    (hd : (x == ("__debug__" : Str)) = false := by decide) (hd2 : (y == ("__debug__" : Str)) = false := by decide) :
    EltG X sc x (.Compare (.Name x p1) [.In] [.Name y p2] p3) (fun c => decide (c ∈ T.cps.toList)) := by
  intro ge B F' c t z m h1 h2 h3 h4 h5
  have k1 : ge.scope.kind = .function := by rw [h1]; exact hk
  refine wpAny_Compare1 (wpAny_Name (wpAny_loadName_local k1 (show ge.scope.names.lookup x = some .local by rw [h1]; exact hl) h4 h5 ?_) hd)
  refine Calls.Name_function_global k1 (show ge.scope.names.lookup y = some .globalImplicit by rw [h1]; exact hy) (Calls.loadGlobal_global (by rw [h2, hG]; exact M.keeps h3) hm ?_) hd2
  refine PyProof.Rows.in_str ?_
  refine ⟨congrArg Value.bool ?_, keeps_refl _⟩
  exact PySem.StrLaws.found_one T c
end
end Ey
set_option maxHeartbeats 2000000
namespace Ey
open PySem PySem.Spec PyProof.Rows L2 GxR
/-! ### all(e for x in it), e any expression that HandS can tell -/
/-- the generator's own frame -/
def gxOf (X : Cx) (A : Around) (s : Shared) (H : Hp) (ge : Env) (x : Str) (fp : List Addr) : Cx :=
  { X with A := A, N := [x], s_0 := s, H_0 := H, env := ge, outer := X.stack, stack := ge :: X.stack, ex := fp, fn := fun _ => false, calm := true, pn := [], xe := fun _ _ => False }
abbrev gcode (elt iter : Expr) (x : Str) (px : Pos) (sc : Scope) (gp : Pos) (it : Addr) (ge : Env) : Code := .compLoop (.GeneratorExp elt [⟨.Name x px, iter, [], 0⟩] sc gp) 0 (.ref it) .none ge
/-- the generator stands at turn i -/
structure GIn (Xg : Cx) (fp : List Addr) (tn : Nat → Heap → Prop) (ga : Addr) (go : Obj) (g : Nat) (W : Nat → Hp → Prop) (i : Nat) (s : Shared) : Prop where
  ex : ∃ (H : Hp) (y : Option V), Inv Xg [(ga, go)] [y] H s ∧ tn i s.heap ∧ (∀ b ∈ fp, FpOk Xg [(ga, go)] H b) ∧ W i H
  sz : g + 1 ≤ s.gens.size
/-- it is over -/
def GEd (Xg : Cx) (ga : Addr) (go : Obj) (Qe : Hp → Prop) (s : Shared) : Prop := ∃ (H : Hp) (y : Option V), Inv Xg [(ga, go)] [y] H s ∧ Qe H
def YG (GI : Nat → Shared → Prop) (GF : Shared → Prop) (n0 : Nat) : Protocol := fun m _ v s kap => ∃ b : Bool, v = .bool b ∧ (b = true → GI (n0 - m) s ∧ ∀ s'', GI (n0 - m) s'' → kap (.send .none) s'') ∧ (b = false → GF s)
def RG (GT : Shared → Prop) : GenEnd := fun _ _ r s => r = .ok .next ∧ GT s
section
variable {X : Cx} {A : Around} {sG : Shared} {HG : Hp} {ge : Env} {x : Str} {fp : List Addr} {tn : Nat → Heap → Prop} {ga it : Addr} {go : Obj} {g : Nat} {W : Nat → Hp → Prop} {Qf Qt : Hp → Prop} {J : It} {elt iter : Expr} {px gp : Pos} {sc : Scope} {te : TE} {n0 : Nat}
theorem seg_gloop (T : Turn X.prog X.w X.K (.Name x px) J fp it tn) (hx : ge.scope.names.lookup x = some .local) (hco : ge.scope.isCoroutine = false)
    (hel : PE (gxOf X (A.over (gcode elt iter x px sc gp it ge) []) sG HG ge x fp) elt te)
    (hW : ∀ i H, W i H → (i < n0 ∧ J.go i H ∧ ∀ v H', J.yld i H v H' → te [some v] H' fun y H3 => ∃ b, y = .bl b ∧ if b = true then W (i + 1) H3 else Qf H3) ∨ (J.stop i H ∧ Qt H)) :
    ∀ (k i : Nat) (s₀ s : Shared), n0 - i = k → GIn (gxOf X (A.over (gcode elt iter x px sc gp it ge) []) sG HG ge x fp) fp tn ga go g W i s →
      Seg (model X.prog X.w) A (RG (GEd (gxOf X (A.over (gcode elt iter x px sc gp it ge) []) sG HG ge x fp) ga go Qt))
        (YG (GIn (gxOf X (A.over (gcode elt iter x px sc gp it ge) []) sG HG ge x fp) fp tn ga go g W) (GEd (gxOf X (A.over (gcode elt iter x px sc gp it ge) []) sG HG ge x fp) ga go Qf) n0) (n0 - i) s₀
        (gcode elt iter x px sc gp it ge) ((model X.prog X.w).den (gcode elt iter x px sc gp it ge)) [] s := by
  generalize hXg : gxOf X (A.over (gcode elt iter x px sc gp it ge) []) sG HG ge x fp = Xg at *
  have eP : Xg.prog = X.prog := by rw [← hXg]; rfl
  have eW : Xg.w = X.w := by rw [← hXg]; rfl
  have eK : Xg.K = X.K := by rw [← hXg]; rfl
  have eC : Xg.calm = true := by rw [← hXg]; rfl
  have eA : Xg.A = A.over (gcode elt iter x px sc gp it ge) [] := by rw [← hXg]; rfl
  have eE : Xg.env = ge := by rw [← hXg]; rfl
  have eN : Xg.N = [x] := by rw [← hXg]; rfl
  have eX : Xg.xe = fun _ _ => False := by rw [← hXg]; rfl
  have ePn : Xg.pn = [] := by rw [← hXg]; rfl
  have stat : ∀ {pins : List (Addr × Obj)} {H H' : Hp}, (∀ b ∈ fp, FpOk Xg pins H b) → (∀ b ∈ fp, H' b = none) → ∀ b ∈ fp, FpOk Xg pins H' b := fun f2 hn b hb => ⟨hn b hb, (f2 b hb).2⟩
  intro k
  induction k with
  | zero =>
    intro i s₀ s hk gi
    obtain ⟨⟨H, y, I, st, fo, w⟩, sz⟩ := gi
    rcases hW i H w with ⟨lt, _⟩ | ⟨stop, qt⟩
    · omega
    show Seg _ A _ _ _ s₀ _ ((compTurn (.GeneratorExp elt [⟨.Name x px, iter, [], 0⟩] sc gp) 0 (.ref it) .none ge).onRaise (leaving ge)) [] s
    rw [compTurn_gen, Sem.onRaise_eq_wrap]
    refine seg_bind_wrap (wpAny_standAt ?_)
    refine seg_bind_wrap (eA ▸ wpAny_mono (T.done Xg eP eW eK eC i _ s [y] H (fun _ _ => False) I fo st stop) (fun r s1 ⟨hr, I1⟩ => ?_) fun _ _ e => e.elim)
    subst hr
    exact seg_end (.ok .next) ⟨rfl, H, y, I1, qt⟩
  | succ k ih =>
    intro i s₀ s hk gi
    obtain ⟨⟨H, y, I, st, fo, w⟩, sz⟩ := gi
    show Seg _ A _ _ _ s₀ _ ((compTurn (.GeneratorExp elt [⟨.Name x px, iter, [], 0⟩] sc gp) 0 (.ref it) .none ge).onRaise (leaving ge)) [] s
    rw [compTurn_gen, Sem.onRaise_eq_wrap]
    refine seg_bind_wrap (wpAny_standAt ?_)
    rcases hW i H w with ⟨lt, gg, step⟩ | ⟨stop, qt⟩
    · refine seg_bind_wrap (eA ▸ GenW.wpAny_gsz sz (wpAny_mono (T.item Xg eP eW eK eC i _ s [y] H (fun _ _ => False) I fo st gg) (fun r s1 ⟨u, hr, rest⟩ sz1 => ?_) fun _ _ e _ => e.elim))
      subst hr
      refine seg_bind_wrap (eA ▸ GenW.wpAny_gsz sz1 (wpAny_mono rest (fun _ s2 ⟨v, H2, I2, rv, yl, st2, fr2⟩ sz2 => ?_) fun _ _ e _ => e.elim))
      have fo2 := stat fo fr2
      have I2' := I2.pinned fo2 (T.obj _ _ st2)
      have pgn : PG Xg (.Name x px) (gName 0) := pg_name (by rw [eN]; simp) (by rw [eN]; rfl) (.inl (by rw [eE]; exact hx)) (.inr (by rw [eE]; exact hx))
      have run1 := pgn.run _ s2 [y] H2 v u (fun σ' H' => σ' = [some v] ∧ H' = H2) I2' rv ⟨rfl, rfl⟩
      rw [eE, eX] at run1
      refine seg_bind_wrap (eA ▸ GenW.wpAny_gsz sz2 (wpAny_mono (eP ▸ eW ▸ run1) (fun _ s3 ⟨σ3, H3, I3, e3, e4⟩ sz3 => ?_) fun _ _ e _ => e.elim))
      subst e3 e4
      simp only [List.forIn_nil]
      refine seg_bind_wrap (wpAny_pure ?_)
      rw [if_pos rfl]
      have hy : ∀ v, yieldOut ge v = yieldValue v := fun v => by simp only [yieldOut, hco, Bool.false_eq_true, if_false]
      simp only [hy]
      rw [Sem.bind_eq_wrap', Sem.bind_eq_wrap', Sem.wrap_wrap, Sem.wrap_wrap]
      have run2 := hel.run _ s3 [some v] H3 _ I3 (step v H3 yl)
      rw [eE, eX] at run2
      refine seg_wrap (eA ▸ GenW.wpAny_gsz sz3 (wpAny_mono (eP ▸ eW ▸ run2) (fun z s4 ⟨zv, H4, I4, rz, b, ez, q⟩ sz4 => ?_) fun _ _ e _ => e.elim))
      subst ez
      have ez' : z = .bool b := rz
      subst ez'
      have hn : n0 - i = (n0 - (i + 1)) + 1 := by omega
      have hm : n0 - (n0 - (i + 1)) = i + 1 := by omega
      rw [hn]
      have st4 : tn (i + 1) s4.heap := T.keep _ _ _ st2 fun b hb o e => (I4.pin (b, o) (List.mem_append_right _ (List.mem_append_right _ (mem_pinsAt hb e)))).1
      have fr4 : ∀ b ∈ fp, H4 b = none := fun b hb => by
        obtain ⟨o, e, d⟩ := T.obj _ _ st2 b hb
        exact (I4.pin (b, o) (List.mem_append_right _ (List.mem_append_right _ (mem_pinsAt hb e)))).2.1
      refine seg_at (seg_yield rfl rfl rfl ⟨b, rfl, fun hb => ?_, fun hb => ?_⟩)
      · rw [hb, if_pos rfl] at q
        rw [hm]
        exact ⟨⟨⟨H4, _, I4.unpinned, st4, stat fo fr4, q⟩, sz4⟩, fun s'' gi => seg_again rfl (ih (i + 1) s'' s'' (by omega) gi)⟩
      · rw [hb, if_neg Bool.false_ne_true] at q
        exact ⟨H4, _, I4.unpinned, q⟩
    · refine seg_bind_wrap (eA ▸ wpAny_mono (T.done Xg eP eW eK eC i _ s [y] H (fun _ _ => False) I fo st stop) (fun r s1 ⟨hr, I1⟩ => ?_) fun _ _ e => e.elim)
      subst hr
      exact seg_end (.ok .next) ⟨rfl, H, y, I1, qt⟩
/-- the generator as its consumer has it -/
def CSt (M : Model) (A : Around) (R : GenEnd) (Y : Protocol) (GI : Nat → Shared → Prop) (g n0 i : Nat) (s : Shared) : Prop :=
  GI i s ∧ ∃ gs, s.gens[g]? = some gs ∧ ∀ s'', GI i s'' → gs.Goes M A R Y (n0 - i) (.send .none) s''
theorem Inv.gens {Xg : Cx} {pins : List (Addr × Obj)} {σ : L2.St} {H : Hp} {s : Shared} {gs : Array GenState} (I : Inv Xg pins σ H s) (h : AllBare gs) : Inv Xg pins σ H { s with gens := gs } :=
  ⟨I.ok, I.os, h, I.base, I.loc, I.cell, I.free, I.freeC, I.pin, I.hok, I.len⟩
theorem GIn.set {Xg : Cx} {i : Nat} {s : Shared} {gs : GenState} (h : GIn Xg fp tn ga go g W i s) (hb : gs.bare = true) : GIn Xg fp tn ga go g W i (s.setGen g gs) := by
  obtain ⟨⟨H, y, I, st, fo, w⟩, sz⟩ := h
  refine ⟨⟨H, y, Inv.gens I (L2.allBare_setGen I.bare hb), st, fo, w⟩, ?_⟩
  rw [GenW.setGen_size]
  exact sz
theorem GEd.set {Xg : Cx} {s : Shared} {gs : GenState} {Qe : Hp → Prop} (h : GEd Xg ga go Qe s) (hb : gs.bare = true) : GEd Xg ga go Qe (s.setGen g gs) := by
  obtain ⟨H, y, I, q⟩ := h
  exact ⟨H, y, Inv.gens I (L2.allBare_setGen I.bare hb), q⟩
theorem gen_next {Xg : Cx} {E : Value → Shared → Prop} {s : Shared} {i : Nat} (hc : go.cls = .type "generator") (hd : ∃ nm qn, go.data = .fields #[.int g 0, nm, qn]) (hs : go.slots = #[]) (hh : A.handled = none) (hroom : A.depth < recursionLimit)
    (h : CSt (model X.prog X.w) A.in1 (RG (GEd Xg ga go Qt)) (YG (GIn Xg fp tn ga go g W) (GEd Xg ga go Qf) n0) (GIn Xg fp tn ga go g W) g n0 i s) :
    wpAny (model X.prog X.w) A (pyNext (.ref ga)) (fun r s' => (r = some (.bool true) ∧ i < n0 ∧ CSt (model X.prog X.w) A.in1 (RG (GEd Xg ga go Qt)) (YG (GIn Xg fp tn ga go g W) (GEd Xg ga go Qf) n0) (GIn Xg fp tn ga go g W) g n0 (i + 1) s') ∨
      (r = some (.bool false) ∧ GEd Xg ga go Qf s') ∨ (r = none ∧ GEd Xg ga go Qt s')) E s := by
  obtain ⟨gi, gs, hgs, hgo⟩ := h
  obtain ⟨nm, qn, hd⟩ := hd
  have hg : s.heap.IsGen ga g := by
    obtain ⟨⟨H, y, I, _⟩, _⟩ := gi
    exact ⟨go, nm, qn, (I.pin (ga, go) (List.mem_append_right _ (List.mem_singleton.mpr rfl))).1, hc, hd, hs⟩
  have hl : s.heap.NoLimit := by
    obtain ⟨⟨H, y, I, _⟩, _⟩ := gi
    exact I.nolimit
  refine wpAny_pyNext_genexpQ (P := fun _ _ s₁ => GEd Xg ga go Qt s₁) hh hl hroom hg hgs (hgo _ (gi.set rfl)) (fun v s₁ gs' hb hv => ?_) (fun s₁ hp h' hk => ?_)
  · obtain ⟨b, rfl, ht, hf⟩ := hv
    cases b with
    | false => exact .inr (.inl ⟨rfl, (hf rfl).set hb⟩)
    | true =>
      obtain ⟨g1, g2⟩ := ht rfl
      cases hn : n0 - i with
      | zero =>
        rw [hn] at g1 g2
        exact (g2 s₁ g1).elim
      | succ m =>
        rw [hn] at g1 g2
        have e : n0 - (m + 1 - 1) = i + 1 := by omega
        rw [e] at g1 g2
        refine .inl ⟨rfl, by omega, g1.set hb, gs', L2.setGen_at (Nat.lt_of_succ_le g1.sz), fun s'' gi'' => ?_⟩
        have e2 : n0 - (i + 1) = m := by omega
        rw [e2]
        exact g2 s'' gi''
  · obtain ⟨H, y, I, q⟩ := hp
    refine .inr (.inr ⟨rfl, H, y, ?_, q⟩)
    have I2 := Inv.gens (gs := (s₁.setGen g .finished).gens) I (L2.allBare_setGen I.bare rfl)
    exact I2.kept (t' := s₁.toks) hk
theorem all_loopX {Xg : Cx} {R : Result → Shared → Prop} (hc : go.cls = .type "generator") (hd : ∃ nm qn, go.data = .fields #[.int g 0, nm, qn]) (hs : go.slots = #[]) (hh : A.handled = none) (hroom : A.in1.depth < recursionLimit)
    (hT : ∀ s', GEd Xg ga go Qt s' → R (.ok (.ret (.bool true))) s') (hF : ∀ s', GEd Xg ga go Qf s' → R (.ok (.ret (.bool false))) s') : ∀ (k i : Nat) (s : Shared), n0 - i = k →
    CSt (model X.prog X.w) A.in1.in1 (RG (GEd Xg ga go Qt)) (YG (GIn Xg fp tn ga go g W) (GEd Xg ga go Qf) n0) (GIn Xg fp tn ga go g W) g n0 i s → codeAny (model X.prog X.w) A (.builtin "all.loop" ⟨[.ref ga], []⟩) R s := by
  intro k
  induction k with
  | zero =>
    intro i s hk cs
    refine codeAny_builtin F.entry_all_loop ?_
    rw [Around.under_plainId F.plain_all_loop _]
    show wpAny _ A.in1 (pyNext (.ref ga) >>= _) _ _ s
    refine wpAny_bind (wpAny_mono (gen_next hc hd hs hh hroom cs) (fun r s' h => ?_) fun _ _ e => e)
    rcases h with ⟨rfl, lt, _⟩ | ⟨rfl, q⟩ | ⟨rfl, q⟩
    · omega
    · refine wpAny_bind (wpAny_holding (wpAny_truthy_bool ?_))
      refine wpAny_bind (wpAny_letGo ?_)
      simp only [Bool.false_eq_true, if_false]
      exact wpAny_bind (wpAny_rule (wpAny_pure (hF s' q)))
    · exact wpAny_bind (wpAny_rule (wpAny_pure (hT s' q)))
  | succ k ih =>
    intro i s hk cs
    refine codeAny_builtin F.entry_all_loop ?_
    rw [Around.under_plainId F.plain_all_loop _]
    show wpAny _ A.in1 (pyNext (.ref ga) >>= _) _ _ s
    refine wpAny_bind (wpAny_mono (gen_next hc hd hs hh hroom cs) (fun r s' h => ?_) fun _ _ e => e)
    rcases h with ⟨rfl, lt, cs'⟩ | ⟨rfl, q⟩ | ⟨rfl, q⟩
    · refine wpAny_bind (wpAny_holding (wpAny_truthy_bool ?_))
      refine wpAny_bind (wpAny_letGo ?_)
      simp only [if_true]
      exact wpAny_pure ⟨plainId_quiet F.plain_all_loop _, ih (i + 1) s' (by omega) cs'⟩
    · refine wpAny_bind (wpAny_holding (wpAny_truthy_bool ?_))
      refine wpAny_bind (wpAny_letGo ?_)
      simp only [Bool.false_eq_true, if_false]
      exact wpAny_bind (wpAny_rule (wpAny_pure (hF s' q)))
    · exact wpAny_bind (wpAny_rule (wpAny_pure (hT s' q)))
end
end Ey
set_option maxHeartbeats 4000000
namespace Ey
open PySem PySem.Spec PyProof.Rows L2 GxR
section
variable {X : Cx} {pins : List (Addr × Obj)} {σ : L2.St} {H : Hp} {s : Shared}
/-- the generator's frame begins -/
theorem inv_gx {A : Around} {sc : Scope} {x : Str} {fp : List Addr} {code : Value} {h5 : Heap} {g5 : Array GenState} {t5 : Nat} {m : Str → Option Value} (I : Inv X pins σ H s)
    (hk : sc.kind = .function) (hc : ∀ y ∈ sc.names, y.2 ≠ .cell) (hf : ∀ y ∈ sc.names, y.2 ≠ .free) (hns : h5.Ns s.heap.objs.size m) (keep : ∀ b o, s.heap.get? b = some o → h5.get? b = some o) (bare : AllBare g5) (hh : A.handled = none)
    (fr : A.frames = some (genEnv sc [] s.heap.objs.size code builtinsNs X.env :: X.stack)) (ho : ∀ b ∈ fp, FpOk X pins H b ∧ b < s.heap.objs.size) :
    Inv (gxOf X A s H (genEnv sc [] s.heap.objs.size code builtinsNs X.env) x fp) [] [none] H { s with heap := h5, gens := g5, toks := t5 } := by
  have nofs : ∀ b ∈ fp, b ∉ frs X.stack := fun b hb z => by
    obtain ⟨⟨_, h1, h2, _⟩, _⟩ := ho b hb
    rcases List.mem_cons.mp (I.stkSub b z) with q | q
    · exact h1 q
    · exact h2 q
  refine ⟨⟨I.ok.mod, hk, I.ok.glob, rfl, Nat.le_refl _, fun y z c e _ => ?_, fun y hy => ?_, fun y c e _ => ?_, fun _ => hh, fr, .inr ⟨rfl, rfl⟩, fun b hb => ⟨Nat.ne_of_lt (ho b hb).2, fun y c e => ?_⟩, fun b o e => I.bs b o e, Nat.le_trans I.ok.bsz I.sz, fun b o e hb => ?_, fun b hb => nofs b hb, I.stack, I.stkFree⟩,
    rfl, bare, Un.kept keep, ⟨m, hns, fun i y v h1 h2 _ => ?_⟩, fun y c e => ?_, I.hok.fresh (Nat.le_refl _), fun y c e => ?_, fun p hp => ?_, I.hok.kept keep, rfl⟩
  · exact absurd e (by intro z; cases z)
  · have hy' : sc.names.lookup y = some .cell ∨ sc.names.lookup y = some .free := hy
    rcases hy' with q | q
    · exact absurd rfl (hc _ (PySem.mem_of_lookup q))
    · exact absurd rfl (hf _ (PySem.mem_of_lookup q))
  · exact absurd e (by intro z; cases z)
  · exact absurd e (by intro z; cases z)
  · obtain ⟨⟨_, _, _, h3, _⟩, _⟩ := ho b hb
    rcases h3 with q | q
    · exact I.ok.noex b o e q
    · exact Nat.lt_irrefl _ (Nat.lt_of_lt_of_le (Heap.lt_size e) (Nat.le_trans I.ok.bsz q))
  · cases i with
    | zero => cases h2
    | succ i => cases h2
  · exact absurd e (by intro z; cases z)
  · exact absurd e (by intro z; cases z)
  · exact absurd hp (by intro z; cases z)
/-- all(e for x in it): the table of the running def's code may have grown; then, item by item -/
def tAllX (P : Addr) (wi : TI) (te : TE) : TE := fun σ H Q => wi σ H fun J H1 => TabG H1 P ∧ ∀ H2, Tabbed P H1 H2 → ∃ (n0 : Nat) (W : Nat → Hp → Prop), W 0 H2 ∧
  ∀ i H', W i H' → (i < n0 ∧ J.go i H' ∧ ∀ v H'', J.yld i H' v H'' → te [some v] H'' fun y H3 => ∃ b, y = .bl b ∧ if b = true then W (i + 1) H3 else Q (.bl false) H3) ∨ (J.stop i H' ∧ Q (.bl true) H')
theorem pe_allX {c P : Addr} {elt iter : Expr} {x : Str} {px p pos gp : Pos} {sc : Scope} {wi : TI} {te : TE} {k : Nat}
    (hr : Room (k + 2) X.A) (hg : Gl X "all") (hm : X.mg "all" = none) (hb : bootBuiltins "all" = some (.builtin "all")) (TB : TabB X.base X.mg c P) (hco : X.env.code = .ref c) (S : GenS X.env sc x) (nf : ∀ y ∈ sc.names, y.2 ≠ .free)
    (hi : PI X (.Name x px) iter wi)
    (hel : ∀ (A : Around) (s : Shared) (H : Hp) (C : Addr) (code : Value) (fp : List Addr), Room k A → PE (gxOf X A s H (genEnv sc [] C code builtinsNs X.env) x fp) elt te)
    (hs : ∀ v, genFold iter X.env v = pure v) (hcl : cloFrom X.env.cells sc.names [] = [] := by rfl)
    (he : starEach [.GeneratorExp elt [⟨.Name x px, iter, [], 0⟩] sc gp] X.env = (false, eval (.GeneratorExp elt [⟨.Name x px, iter, [], 0⟩] sc gp) X.env) :: starEach [] X.env := by rfl) :
    PE X (.Call (.Name "all" p) [.GeneratorExp elt [⟨.Name x px, iter, [], 0⟩] sc gp] [] pos) (tAllX P wi te) := by
  refine ⟨fun pins s σ H Q I h => wpAny_Call_Name_kw (ld_blt I hg hm hb ?_)⟩
  refine PyProof.Rows.callWith_builtin1 ?_ he (by rfl)
  rw [he]
  show wpAny _ _ (spliced ((false, eval (.GeneratorExp elt [⟨.Name x px, iter, [], 0⟩] sc gp) X.env) :: backTo pos (starEach [] X.env))) _ _ s
  refine Calls.spliced_cons (wpAny_GeneratorExp_make S.co (cl := []) (hcl ▸ closure_ok S.free) S.cell S.dot S.kind (Nat.lt_of_le_of_lt (by omega) hr.dp) ?_ hs)
  refine thn (hi.run pins s σ H _ I h) fun v s1 h1 => thn h1 fun itv s2 h2 => ?_
  obtain ⟨it, fp, tn, J, H1, e, J1, T, st, fo, ⟨ps, tP, tok⟩, q⟩ := h2
  subst e
  have gP : s2.heap.get? P = some { cls := .none, data := .fields ps } := J1.hok P _ tP
  have head : PySem.W.CodeHd s2.heap c P := TB.code.keeps fun b u e => J1.bk b u e
  have ncP : cStatics ≠ P := fun e => by
    obtain ⟨_, ns, _⟩ := J1.nolimit
    obtain ⟨o', es, ep, g', d', _⟩ := ns
    rw [e, gP] at g'
    cases g'
    cases d'
  have fpP : ∀ b ∈ fp, b ≠ P := fun b hb z => by
    have := (fo b hb).1
    rw [z, tP] at this
    cases this
  refine ⟨J1.nolimit, ?_⟩
  have go : ∀ (code : Value) (hN : Heap) (tk : Nat) (qs : Array Value), Heap.ExtBut P s2.heap hN → hN.get? P = some { cls := .none, data := .fields qs } → (∃ more, qs = ps ++ more) → TriplesOk qs.toList →
      wpAny (model X.prog X.w) X.A (builtinsFor X.env.globals X.env.builtins) (fun bi s₄ =>
        ∀ h', h'.Ns s₄.heap.objs.size (fun y => if y = ".0" then some (.ref it) else none) → Heap.SameBut s₄.heap.objs.size (s₄.heap.push { cls := .type "frame", data := .dict #[] }) h' →
          wpAny (model X.prog X.w) X.A (spliced (backTo pos (starEach [] X.env))) (fun us s' => wpAny (model X.prog X.w) X.A (call (.builtin "all") (.ref h'.objs.size :: us)) (EP X pins σ Q) X.xe s') X.xe { s₄ with
            gens := s₄.gens.push (.fresh (.compStart (.GeneratorExp elt [⟨.Name x px, iter, [], 0⟩] sc gp) 0 (.ref it) .none (genEnv sc [] s₄.heap.objs.size code bi X.env))),
            toks := s₄.toks + 1 + 1 + 1,
            heap := h'.push { cls := .type "generator", data := .fields #[.int s₄.gens.size 0, .str "<genexpr>" (s₄.toks + 1), .str (X.env.qual ++ "<genexpr>") (s₄.toks + 1 + 1)] } }) X.xe { s2 with heap := hN, toks := tk } := by
    intro code hN tk qs ext gPN more okN
    obtain ⟨bm, obm, e1, e2, e3, e4, e5, e6, e7, e8⟩ := TB.bm
    have stay : ∀ b u, b ≠ P → s2.heap.get? b = some u → hN.get? b = some u := fun b u nb e => ext b u nb e
    obtain ⟨mo, em⟩ := more
    subst em
    have J2 : Inv X pins σ (upd H1 P (.tbl (ps ++ mo))) { s2 with heap := hN, toks := tk } := inv_tab (more := mo) (h' := hN) (g' := s2.gens) (d' := s2.drawn) (t' := tk) J1 tP stay gPN J1.bare
    refine wpAny_builtinsFor (m := X.mg) (by rw [J1.ok.glob]; exact (J1.mod.glob.keeps J1.bk).extBut ext TB.gP) e1 e2 (stay _ _ e4 (J1.bk _ _ e5)) e6 e7 e8 ?_
    intro h' hn' hs'
    refine Calls.spliced_nil ?_
    obtain ⟨n0, W, w0, hW⟩ := q (upd H1 P (.tbl (ps ++ mo))) ⟨⟨ps ++ mo, upd_same, okN⟩, fun b nb => upd_ne nb⟩
    have sz' : h'.objs.size = hN.objs.size + 1 := by
      rw [hs'.1, Heap.size_push]
    have keep' : ∀ b o, hN.get? b = some o → h'.get? b = some o := fun b o e => hs'.extBut b o (Nat.ne_of_lt (Heap.lt_size e)) (Heap.get?_push_of_some _ e)
    generalize hgo : ({ cls := .type "generator", data := .fields #[.int s2.gens.size 0, .str "<genexpr>" (tk + 1), .str (X.env.qual ++ "<genexpr>") (tk + 1 + 1)] } : Obj) = gob
    have gc : gob.cls = .type "generator" := by rw [← hgo]
    have gd : ∃ nm qn, gob.data = .fields #[.int s2.gens.size 0, nm, qn] := ⟨_, _, by rw [← hgo]⟩
    have gs : gob.slots = #[] := by rw [← hgo]
    show wpAny (model X.prog X.w) X.A (call (.builtin "all") [.ref h'.objs.size]) (EP X pins σ Q) X.xe { s2 with
            gens := s2.gens.push (.fresh (.compStart (.GeneratorExp elt [⟨.Name x px, iter, [], 0⟩] sc gp) 0 (.ref it) .none (genEnv sc [] hN.objs.size code builtinsNs X.env))),
            toks := tk + 1 + 1 + 1, heap := h'.push gob }
    have keep5 : ∀ b o, hN.get? b = some o → (h'.push gob).get? b = some o := fun b o e => Heap.get?_push_of_some _ (keep' b o e)
    have atG : (h'.push gob).get? h'.objs.size = some gob := Heap.get?_push_size _ (by
      obtain ⟨nm, qn, e⟩ := gd
      exact Obj.isFreed_of_fields e)
    -- the frame
    generalize hge : genEnv sc [] hN.objs.size code builtinsNs X.env = ge
    have fpl : ∀ b ∈ fp, b < hN.objs.size := fun b hb => by
      obtain ⟨o, e, _⟩ := T.obj _ _ st b hb
      exact Heap.lt_size (stay b o (fpP b hb) e)
    have foN : ∀ b ∈ fp, FpOk X pins (upd H1 P (.tbl (ps ++ mo))) b := fun b hb => ⟨by rw [upd_ne (fpP b hb)]; exact (fo b hb).1, (fo b hb).2⟩
    have stN : tn 0 (h'.push gob) := T.keep _ _ _ st fun b hb o e => keep5 b o (stay b o (fpP b hb) e)
    have hAh : (X.A.in1.in1.over (gcode elt iter x px sc gp it ge) []).handled = none := hr.hd
    have hAf : (X.A.in1.in1.over (gcode elt iter x px sc gp it ge) []).frames = some (ge :: X.stack) := by
      show pushEnvs (gcode elt iter x px sc gp it ge).envs (pushEnvs [] X.A.frames) = _
      rw [J1.ok.frames]
      rfl
    have IG0 := inv_gx (A := X.A.in1.in1.over (gcode elt iter x px sc gp it ge) []) (sc := sc) (x := x) (fp := fp) (code := code) (h5 := h'.push gob)
      (g5 := s2.gens.push (.fresh (.compStart (.GeneratorExp elt [⟨.Name x px, iter, [], 0⟩] sc gp) 0 (.ref it) .none ge))) (t5 := tk + 1 + 1 + 1) J2 S.kind S.cell nf (hn'.push gob) keep5 (AllBare.push J1.bare rfl) hAh (by rw [hAf, ← hge]) (fun b hb => ⟨foN b hb, fpl b hb⟩)
    rw [hge] at IG0
    generalize hXg : gxOf X (X.A.in1.in1.over (gcode elt iter x px sc gp it ge) []) { s2 with heap := hN, toks := tk } (upd H1 P (.tbl (ps ++ mo))) ge x fp = Xg at IG0
    have gne : ∀ b ∈ fp, h'.objs.size ≠ b := fun b hb => Nat.ne_of_gt (Nat.lt_trans (fpl b hb) (by omega))
    have fpXg : ∀ b ∈ fp, FpOk Xg [(h'.objs.size, gob)] (upd H1 P (.tbl (ps ++ mo))) b := fun b hb => by
      rw [← hXg]
      refine ⟨(foN b hb).1, ?_, fun z => ?_, .inl hb, fun y cc e => ?_, fun p hp => ?_⟩
      · show b ≠ ge.locals
        rw [← hge]
        exact Nat.ne_of_lt (fpl b hb)
      · obtain ⟨_, q1, q2, _⟩ := foN b hb
        rcases List.mem_cons.mp (J2.stkSub b z) with q | q
        · exact q1 q
        · exact q2 q
      · have e' : ge.cells.lookup y = some cc := e
        rw [← hge] at e'
        cases e'
      · have hp' : p ∈ [(h'.objs.size, gob)] := hp
        rw [List.mem_singleton.mp hp']
        exact gne b hb
    have IG : Inv Xg [(h'.objs.size, gob)] [none] (upd H1 P (.tbl (ps ++ mo))) { s2 with heap := h'.push gob, gens := s2.gens.push (.fresh (.compStart (.GeneratorExp elt [⟨.Name x px, iter, [], 0⟩] sc gp) 0 (.ref it) .none ge)), toks := tk + 1 + 1 + 1 } := by
      refine IG0.pins_of fun p hp => ?_
      rw [List.mem_singleton.mp hp]
      have big : hN.objs.size < h'.objs.size := by omega
      refine ⟨atG, J2.hok.fresh (Nat.le_of_lt big), ?_, ?_, fun v e => ?_⟩
      · rw [← hXg]
        show h'.objs.size ≠ ge.locals
        rw [← hge]
        exact Nat.ne_of_gt big
      · rw [← hXg]
        intro z
        rcases List.mem_cons.mp (J2.stkSub _ z) with q | q
        · have l := J2.lt
          rw [← q] at l
          exact absurd (Nat.lt_trans big l) (Nat.lt_irrefl _)
        · exact J2.nofs (Nat.le_of_lt big) q
      · obtain ⟨nm, qn, e2⟩ := gd
        have e' : gob.data = .cell v := e
        rw [e2] at e'
        cases e'
    have back : ∀ (b : Bool) (s' : Shared), GEd Xg h'.objs.size gob (Q (.bl b)) s' → EP X pins σ Q (.bool b) s' := fun b s' ⟨H', y, K, q⟩ => by
      rw [← hXg] at K
      exact ⟨.bl b, H', J2.call' (ch := fp) K.os K.base K.hok K.bare (fun c hc => ⟨(foN c hc).2.2.2.1, (foN c hc).2.1, (foN c hc).2.2.2.2.1, (foN c hc).2.2.2.2.2⟩), rfl, q⟩
    have loopS := seg_gloop (X := X) (A := X.A.in1.in1) (sG := { s2 with heap := hN, toks := tk }) (HG := upd H1 P (.tbl (ps ++ mo))) (ge := ge) (fp := fp) (tn := tn) (ga := h'.objs.size) (go := gob) (g := s2.gens.size) (W := W) (Qf := Q (.bl false)) (Qt := Q (.bl true))
      (gp := gp) (sc := sc) (elt := elt) (iter := iter) (n0 := n0) (te := te) T (by rw [← hge]; exact S.loc) (by rw [← hge]; exact S.co) (by
        rw [← hge]
        refine hel _ _ _ _ _ _ ⟨hr.hd, ?_, ?_⟩
        · have := hr.dp
          show X.A.depth + 0 + 1 + 3 * k + 5 < _
          omega
        · have := hr.un
          show X.A.units + 1 + 1 + 0 + 3 + 16 * k + 200 < _
          omega) hW
    rw [hXg] at loopS
    have GI0 : GIn Xg fp tn h'.objs.size gob s2.gens.size W 0 { s2 with heap := h'.push gob, gens := s2.gens.push (.fresh (.compStart (.GeneratorExp elt [⟨.Name x px, iter, [], 0⟩] sc gp) 0 (.ref it) .none ge)), toks := tk + 1 + 1 + 1 } :=
      ⟨⟨_, _, IG, stN, fpXg, w0⟩, by show s2.gens.size + 1 ≤ (s2.gens.push _).size; rw [Array.size_push]; exact Nat.le_refl _⟩
    refine call_function_tree F.kind_all F.plain_all F.entry_all (F.args_all1 _) ?_
    unfold Builtin.«all»
    refine wpAny_bind (m := oneArg "all" _) (wpAny_pure ?_)
    refine wpAny_bind (wpAny_pyIter_gen ⟨gob, _, _, atG, gc, gd.choose_spec.choose_spec, gs⟩ ?_)
    refine wpAny_pure ⟨plainId_quiet F.plain_all_loop _, all_loopX (X := X) (A := X.A) (R := fun r s' => match r with | .ok (.ret v) => EP X pins σ Q v s' | .ok _ => False | .error e => X.xe e s') (Xg := Xg) (Qf := Q (.bl false)) (Qt := Q (.bl true)) (W := W) (fp := fp) (tn := tn) (n0 := n0) gc gd gs hr.hd (Nat.lt_of_le_of_lt (by show X.A.depth ≤ X.A.depth + 3 * (k + 2) + 5; omega) hr.dp) (fun s' q => back true s' q) (fun s' q => back false s' q) n0 0 _ (Nat.sub_zero _) ⟨GI0, _, Array.getElem?_push_size .., fun s'' gi => ⟨rfl, ?_⟩⟩⟩
    have loop := loopS n0 0 s'' s'' (Nat.sub_zero _) gi
    obtain ⟨_, _, _, sti, _⟩ := gi.ex
    show Seg _ X.A.in1.in1 _ _ _ s'' _ ((compStart (.GeneratorExp elt [⟨.Name x px, iter, [], 0⟩] sc gp) 0 (.ref it) .none ge).onRaise (leaving ge)) [] s''
    unfold compStart
    rw [Sem.onRaise_eq_wrap]
    show Seg _ X.A.in1.in1 _ _ _ s'' _ ((ask >>= _).wrap _ _ _ _) [] s''
    refine seg_bind_wrap (wpAny_askSetting ?_)
    split
    · exact seg_again rfl loop
    · first
        | exact seg_bind_wrap (wpAny_rule (seg_bind_wrap (wpAny_standAt (seg_bind_wrap (T.self _ 0 _ _ _ sti (seg_again rfl loop))))))
        | (refine seg_bind_wrap (wpAny_rule ?_); show Seg _ X.A.in1.in1 _ _ _ s'' _ ((standAt iter.pos >>= _).wrap _ _ _ _) [] s''; exact seg_bind_wrap (wpAny_standAt (seg_bind_wrap (T.self _ 0 _ _ _ sti (seg_again rfl loop)))))
  cases am : codeAmong gp ps.toList with
  | none =>
    refine wpAny_genexprCodeX hco (head.code gP tok) (head.tab gP) am fun c' hN tk ext hge hlt hc' _ tab' _ => ?_
    obtain ⟨o1, vs, f1, tf, fl, tg, inF, tx, tt, op, _, _, _, _, _, _, _, _, _, tr, _⟩ := hc'
    exact go _ hN tk _ ext tab'.2 ⟨_, rfl⟩ tr
  | some cv =>
    refine wpAny_genexprCode_hit hco (head.code gP tok) am ?_
    exact go cv s2.heap s2.toks ps (Heap.ExtBut.refl _ _) gP ⟨#[], by simp⟩ tok
end
end Ey
set_option maxHeartbeats 4000000
namespace Ey
open PySem PySem.Spec PyProof.Rows L2 GxR PySem.SeqAt
open AutoSeq1 (wpAny_loadPart')
open MeetsSeq MeetsSeq2 MeetsSeq3
/-! ### a dict beside a text -/
theorem dict_eq_declines_str (l : Addr) (es : Array DictEntry) (n : Nat) (dd : Option Addr) (sl : Array (Option Value)) (b : Str) (u : Tok) :
    Meets (Builtin.«dict.__eq__» ⟨[.ref l, .str b u], []⟩) (fun _ R s => s.heap.get? l = some { cls := .type "dict", dict := dd, data := .dict es n, slots := sl } ∧ R (.ok (.ret .notImplemented)) s) :=
  .of_wp fun prog w A R s h => by obtain ⟨hp, g, d, tk, os⟩ := s; obtain ⟨hl, h⟩ := h; have f1 := F.sub_str_dict; wp_walk using wpAny_loadPart' hl, wpAny_load hl; exact ⟨_, rfl, h⟩
theorem dict_ne_declines_str (l : Addr) (es : Array DictEntry) (n : Nat) (dd : Option Addr) (sl : Array (Option Value)) (b : Str) (u : Tok) :
    Meets (Builtin.«dict.__ne__» ⟨[.ref l, .str b u], []⟩) (fun _ R s => s.heap.get? l = some { cls := .type "dict", dict := dd, data := .dict es n, slots := sl } ∧ R (.ok (.ret .notImplemented)) s) :=
  .of_wp fun prog w A R s h => by obtain ⟨hp, g, d, tk, os⟩ := s; obtain ⟨hl, h⟩ := h; have f1 := F.sub_str_dict; wp_walk using wpAny_loadPart' hl, wpAny_load hl; exact ⟨_, rfl, h⟩
theorem str_eq_declines_dict (b : Str) (u : Tok) (l : Addr) (es : Array DictEntry) (n : Nat) (dd : Option Addr) (sl : Array (Option Value)) :
    Meets (Builtin.«str.__eq__» ⟨[.str b u, .ref l], []⟩) (fun _ R s => s.heap.get? l = some { cls := .type "dict", dict := dd, data := .dict es n, slots := sl } ∧ R (.ok (.ret .notImplemented)) s) :=
  .of_wp fun prog w A R s h => by obtain ⟨hp, g, d, tk, os⟩ := s; obtain ⟨hl, h⟩ := h; wp_walk using wpAny_loadPart' hl, wpAny_load hl; exact ⟨_, rfl, h⟩
theorem str_ne_declines_dict (b : Str) (u : Tok) (l : Addr) (es : Array DictEntry) (n : Nat) (dd : Option Addr) (sl : Array (Option Value)) :
    Meets (Builtin.«str.__ne__» ⟨[.str b u, .ref l], []⟩) (fun _ R s => s.heap.get? l = some { cls := .type "dict", dict := dd, data := .dict es n, slots := sl } ∧ R (.ok (.ret .notImplemented)) s) :=
  .of_wp fun prog w A R s h => by obtain ⟨hp, g, d, tk, os⟩ := s; obtain ⟨hl, h⟩ := h; wp_walk using wpAny_loadPart' hl, wpAny_load hl; exact ⟨_, rfl, h⟩
end Ey
set_option maxHeartbeats 2000000
namespace Ey
open PySem PySem.Spec PyProof.Rows L2 GxR
/-! ### a law's own call: nothing is under way around it, so that repr is told of data -/
def LawOk (P : Program) (w : World) (K : PySem.W.Frag) (mg : Str → Option Value) (base : Heap) (f : Addr) (fd : FuncData) (x : Str) (sp : Sp) : Prop :=
  ∀ (s : Shared) (H : Hp) (u : Value) (v : V) (Q : VK), Env0 P w K mg base callerA [] s H → BindsTo s fd ⟨[u], []⟩ [(x, u)] → RelV v u → sp [v] H Q E0 →
    codeAny (model P w) callerA (.call (.ref f) ⟨[u], []⟩) (CR CX0 [] P w H s Q E0) s
section
variable {P : Program} {w : World} {K : PySem.W.Frag} {mg : Str → Option Value} {base : Heap}
theorem law_ok {x qual p : Str} {st : Stmt} {f : Addr} {fd : FuncData} {N : List Str} {k : Nat} {sp : Sp} (F : Fun K x qual st f fd) (S : FnScope N [p] (defScope st)) (hr : Room (k + 1) callerA)
    (body : ∀ (cdv : Value) (s : Shared) (H : Hp) (v : V) (Q : VK), Room k (callerA.deeper (envOfC qual (defScope st) s.heap.objs.size f cdv)) → sp [v] H Q E0 →
      ∃ t, PSs (cxOf CX0 P w K mg base N qual (defScope st) f cdv callerA [] s H E0).nox (defBody st) t ∧ t { nx := fun _ H' => Q .non H', rt := Q } (start N [v]) H) :
    LawOk P w K mg base f fd p sp := by
  obtain ⟨oc, od, kV, doc, pm, an, cdv, ct, osl, rfl, lk, code⟩ := F.ex
  intro s H u v Q e0 hb rv hsp
  have inK : K.In s.heap := e0.mod.kin.keeps fun b o e => (e0.bs b o e).1
  have noL : s.heap.NoLimit := e0.mod.nolimit.keeps fun b o e => (e0.bs b o e).1
  have kinds : ∀ y ∈ [p].zip [u], (defScope st).names.lookup y.1 = some .local ∨ ((defScope st).names.lookup y.1 = some .cell ∧ ((cellsFrom (s.heap.objs.size + 1) (defScope st).names []).lookup y.1).isSome = true) := fun ⟨n, z⟩ hy => by
    rcases S.par n (List.of_mem_zip hy).1 with q | q
    · exact .inl q
    · exact .inr ⟨q, PySem.W.cellsFrom_some _ _ _ (.inl q)⟩
  refine codeAny_call_function (Nat.lt_of_le_of_lt (by omega) hr.dp) (inK _ _ lk) rfl S.co S.gen rfl (PySem.W.codeRec_of inK code) (hb _ _ _ _ ?_)
  refine wpAny_newFunctionEnv_cells (binds := [p].zip [u]) S.kind kinds fun env he s1 xc => ?_
  subst he
  refine ⟨noL.keeps xc.toInCall.keep, codeAny_func ?_⟩
  obtain ⟨t, dv, rd⟩ := body cdv s H v Q (hr.deeper _) hsp
  have I := inv_start (CX := CX0) (E := E0) (P := P) (w := w) (K := K) (mg := mg) (base := base) (N := N) (ps := [p]) (A := callerA) (vs := [v]) (us := [u]) S rfl e0 rfl (.cons rv .nil) xc
  refine wpAny_mono (dv.nox.run [] s1 (start N [v]) H _ I rd) (fun fl s' hs => ?_) fun e s' hs => hs
  cases fl with
  | next =>
    obtain ⟨σ', H', J, q⟩ := hs
    exact ⟨V.non, H', J.os, J.bare, J.base, J.hok, rfl, q⟩
  | ret z =>
    obtain ⟨y, σ', H', J, ry, q⟩ := hs
    exact ⟨y, H', J.os, J.bare, J.base, J.hok, ry, q⟩
  | brk =>
    obtain ⟨_, _, _, q⟩ := hs
    exact q.elim
  | cont =>
    obtain ⟨_, _, _, q⟩ := hs
    exact q.elim
end
end Ey
set_option maxHeartbeats 2000000
namespace Ey
open PySem PySem.Spec PyProof.Rows L2 GxR
/-- the tables cs stand empty in h, outside the written part -/
structure Tabs (K : PySem.W.Frag) (h : Heap) (cs : List (Addr × Addr)) : Prop where
  at_ : ∀ p ∈ cs, h.get? p.2 = some { cls := .none, data := .fields #[] }
  out : ∀ p ∈ cs, K.lookup p.2 = none
  hd : ∀ p ∈ cs, PySem.W.CodeHd h p.1 p.2
/-- what a heap says of the module's own builtins -/
def BMain (mg : Str → Option Value) (h : Heap) : Prop :=
  ∃ (bm : Addr) (ob : Obj), mg "__builtins__" = some (.ref bm) ∧ bm ≠ builtinsNs ∧ h.get? bm = some ob ∧ ob.cls = .type "module" ∧ ob.dict = some builtinsNs ∧ ob.data = .plain
section
variable {P : Program} {w : World} {K : PySem.W.Frag} {mg mb : Str → Option Value}
/-- the script at a, the tables cs: what is tracked ahead of the law -/
def start0 (K : PySem.W.Frag) (a : Addr) (o : Obj) (ns : List Int) (cs : List (Addr × Addr)) : Hp := fun b =>
  if b ∈ cs.map (·.2) then some (.tbl #[]) else if b = a ∧ K.lookup a = none then some (.frz o (.lst (ns.map V.int))) else none
theorem call_law {f a : Addr} {cs : List (Addr × Addr)} {fd : FuncData} {x : Str} {sp : Sp} {z : Shared} {vs : List Value} {ns : List Int}
    (KX : K.In z.heap) (hns : z.heap.Ns mainGlobals mg) (hb : z.heap.Ns builtinsNs mb) (hbb : ∀ x : Str, x ≠ "__name__" → mb x = bootBuiltins x) (lim : z.heap.NoLimit) (hsm : ∃ mm, z.heap.Ns sysModules mm) (hg : z.gens = #[])
    (T : Tabs K z.heap cs) (hbm : BMain mg z.heap) (ha : z.heap.get? a = some { cls := .type "list", data := .seq vs.toArray }) (hi : IntsAre vs ns) (hl : ns.length ≤ sizeLine)
    (F : ∀ base : Heap, K.In base → base.Ns mainGlobals mg → (∀ p ∈ cs, TabB base mg p.1 p.2) → (∃ mm, base.Ns sysModules mm) → LawOk P w K mg base f fd x sp) (hbind : ∀ (s : Shared) (u : Value), BindsTo s fd ⟨[u], []⟩ [(x, u)])
    (hsp : ∀ H : Hp, (∀ p ∈ cs, H p.2 = some (.tbl #[])) → SqL K H a (ns.map V.int) → sp [.ref a] H (fun v _ => v = .bl true) E0) :
    codeAny (model P w) callerA (.call (.ref f) ⟨[.ref a], []⟩) (fun r s' => r = .ok (.ret (.bool true)) ∧ OldK z.heap s'.heap ∧ s'.os = z.os ∧ AllBare s'.gens) z := by
  have rv := vals_ints hi
  have nV : vs.length = ns.length := hi.length
  have tabAt : ∀ b : Addr, b ∈ cs.map (·.2) → z.heap.get? b = some { cls := .none, data := .fields #[] } ∧ K.lookup b = none := fun b m => by
    obtain ⟨p, hp, rfl⟩ := List.mem_map.mp m
    exact ⟨T.at_ p hp, T.out p hp⟩
  have aT : a ∉ cs.map (·.2) := fun m => by
    have e := (tabAt a m).1
    rw [ha] at e
    injection e with e
    have e' : Data.seq vs.toArray _ = Data.fields #[] := congrArg Obj.data e
    cases e'
  let H : Hp := start0 K a { cls := .type "list", data := .seq vs.toArray } ns cs
  have HT : ∀ p ∈ cs, H p.2 = some (.tbl #[]) := fun p hp => if_pos (List.mem_map.mpr ⟨p, hp, rfl⟩)
  have Hcase : ∀ b, H b = none ∨ (b ∈ cs.map (·.2) ∧ H b = some (.tbl #[])) ∨ (b = a ∧ K.lookup a = none ∧ H b = some (.frz { cls := .type "list", data := .seq vs.toArray } (.lst (ns.map V.int)))) := fun b => by
    by_cases h1 : b ∈ cs.map (·.2)
    · exact .inr (.inl ⟨h1, if_pos h1⟩)
    · by_cases h2 : b = a ∧ K.lookup a = none
      · exact .inr (.inr ⟨h2.1, h2.2, (if_neg h1).trans (if_pos h2)⟩)
      · exact .inl ((if_neg h1).trans (if_neg h2))
  have HS : SqL K H a (ns.map V.int) := by
    cases hk : K.lookup a with
    | some o =>
      have e := KX a o hk
      rw [ha] at e
      injection e with e
      subst e
      exact .inr ⟨_, vs.toArray, _, hk, rfl, rfl, rfl, by rw [List.size_toArray, nV]; exact hl, by simpa using rv⟩
    | none => exact .inl (.inr ⟨_, (if_neg aT).trans (if_pos ⟨rfl, hk⟩)⟩)
  have HO : HOk P w H z.heap := fun b u e => by
    rcases Hcase b with q | ⟨m, q⟩ | ⟨m, _, q⟩
    · rw [q] at e
      cases e
    · rw [q] at e
      cases e
      exact (tabAt b m).1
    · rw [q] at e
      cases e
      subst m
      exact ⟨ha, by rw [List.length_map]; exact hl, vs, _, rv, ha⟩
  -- what is neither the script nor a table stands in the base
  have inB : ∀ {b : Addr} {o : Obj}, z.heap.get? b = some o → (∀ xs n, o.data ≠ .seq xs n) → o.data ≠ .fields #[] → (hidT z.heap H).get? b = some o := fun {b o} e h1 h2 => by
    refine hidT_get e ?_
    rcases Hcase b with q | ⟨m, q⟩ | ⟨m, _, q⟩
    · exact q
    · rw [(tabAt b m).1] at e
      injection e with e
      subst e
      exact absurd rfl h2
    · subst m
      rw [ha] at e
      injection e with e
      subst e
      exact absurd rfl (h1 _ _)
  have nsB : ∀ {b : Addr} {m : Str → Option Value}, z.heap.Ns b m → (hidT z.heap H).Ns b m := fun {b m} ⟨o, es, ep, e, d, r⟩ =>
    ⟨o, es, ep, inB e (fun xs n q => by rw [d] at q; cases q) (fun q => by rw [d] at q; cases q), d, r⟩
  have KB : K.In (hidT z.heap H) := fun b o e => by
    refine hidT_get (KX b o e) ?_
    rcases Hcase b with q | ⟨m, q⟩ | ⟨m, n, q⟩
    · exact q
    · rw [(tabAt b m).2] at e
      cases e
    · subst m
      rw [n] at e
      cases e
  have M : L2.Mod K mg (hidT z.heap H) := ⟨KB, nsB hns, ⟨mb, nsB hb, hbb⟩, let ⟨mc, h1, h2⟩ := lim; ⟨mc, nsB h1, h2⟩⟩
  have TB : ∀ p ∈ cs, TabB (hidT z.heap H) mg p.1 p.2 := fun p hp => by
    have pT := T.at_ p hp
    refine ⟨?_, ?_, fun q => ?_⟩
    · obtain ⟨o, us, fi, tf, fl, tg, nf, tx, tt, e1, r1, r2, r3, rest⟩ := T.hd p hp
      refine ⟨o, us, fi, tf, fl, tg, nf, tx, tt, inB e1 (fun xs n q => ?_) (fun q => ?_), r1, r2, r3, rest⟩
      · rw [r2] at q
        cases q
      · rw [r2] at q
        cases q
        simp at r3
    · obtain ⟨bm, ob, b1, b2, b3, b4, b5, b6⟩ := hbm
      refine ⟨bm, ob, b1, b2, fun q => ?_, fun q => ?_, inB b3 (fun xs n q => ?_) (fun q => ?_), b4, b5, b6⟩
      · obtain ⟨o, es, ep, e, d, _⟩ := hns
        rw [q, e] at b3
        injection b3 with b3
        subst b3
        rw [d] at b6
        cases b6
      · rw [q, pT] at b3
        injection b3 with b3
        subst b3
        cases b6
      · rw [b6] at q
        cases q
      · rw [b6] at q
        cases q
    · obtain ⟨o, es, ep, e, d, _⟩ := hns
      rw [q, pT] at e
      injection e with e
      subst e
      cases d
  have e0 : Env0 P w K mg (hidT z.heap H) callerA [] z H := ⟨rfl, M, fun b o e => of_hidT e, Nat.le_of_eq (hidT_size _ _), trivial, fun b m => absurd m List.not_mem_nil, HO, .of_eq hg⟩
  refine codeAny_mono (F _ KB (nsB hns) TB (let ⟨mm, q⟩ := hsm; ⟨mm, nsB q⟩) z H (.ref a) (.ref a) _ e0 (hbind z _) rfl (hsp H HT HS)) fun r s' h => ?_
  cases r with
  | error e => exact h.elim
  | ok fl =>
    cases fl with
    | next => exact h.elim
    | brk => exact h.elim
    | cont => exact h.elim
    | ret u =>
      obtain ⟨v, H', os, bare, un, ok', r', q⟩ := h
      have q' : v = .bl true := q
      subst q'
      obtain rfl : u = Value.bool true := r'
      have keep : ∀ b o, b ∉ cs.map (·.2) → z.heap.get? b = some o → s'.heap.get? b = some o := fun b o nb e => by
        rcases Hcase b with q | ⟨m, q⟩ | ⟨m, _, q⟩
        · exact un.keep b o e q List.not_mem_nil List.not_mem_nil
        · exact absurd m nb
        · have e1 := (HO b _ q).1
          rw [e] at e1
          injection e1 with e1
          subst e1
          exact (ok' b _ (un.frzs b _ _ q)).1
      have grown : ∀ b, b ∈ cs.map (·.2) → ∃ more : Array Value, s'.heap.get? b = some { cls := .none, data := .fields more } := fun b m => by
        obtain ⟨p, hp, rfl⟩ := List.mem_map.mp m
        obtain ⟨more, q⟩ := un.tbls p.2 #[] (HT p hp)
        exact ⟨_, ok' p.2 _ q⟩
      refine ⟨rfl, ⟨fun b o e => ?_, fun b o e => ?_⟩, os, bare⟩
      · by_cases m : b ∈ cs.map (·.2)
        · obtain ⟨more, g⟩ := grown b m
          obtain ⟨p, hp, rfl⟩ := List.mem_map.mp m
          rw [T.at_ p hp] at e
          injection e with e
          subst e
          exact .inr (.inl ⟨((T.hd p hp).tab (T.at_ p hp)).isCodeTable, rfl, #[], more, rfl, by rw [Array.empty_append]; exact g⟩)
        · exact .inl (keep b o m e)
      · by_cases m : b ∈ cs.map (·.2)
        · obtain ⟨more, g⟩ := grown b m
          exact ⟨_, g⟩
        · exact ⟨o, keep b o m e⟩
end
/-- the goal that k_head leaves, from the law's promise at any base -/
theorem walk_law {l : PySem.W.OpenLaw} {n : Nat} {q : Program} {loose : List Str} {XP : (Str → Option Value) → Heap → Prop} {YP : World → Heap → Prop} {d : DefRec} {K : Params → PySem.W.Frag} {x : Str}
    (hi0 : PyProof.Rows.importsNone q = true) (hn : l.most = some n) (hn2 : n ≤ sizeLine) (hdf : d.params.defaults = []) (hY : ∀ (w : World) (h : Heap), YP w h → (K w.params).In h)
    (F : ∀ (w : World) (mg : Str → Option Value) (f : Addr) (h : Heap) (lo : List Str) (mean : ExcName → Option Value) (mb : Str → Option Value), (K w.params).In h → PyProof.Rows.Top q lo mean mg mb h → mg d.name = some (.ref f) →
      ∃ (fd : FuncData) (cs : List (Addr × Addr)) (sp : Sp), Tabs (K w.params) h cs ∧ (∀ (s : Shared) (u : Value), BindsTo s fd ⟨[u], []⟩ [(x, u)]) ∧
        (∀ (H : Hp) (a : Addr) (ns : List Int), ns.length ≤ n → (∀ p ∈ cs, H p.2 = some (.tbl #[])) → SqL (K w.params) H a (ns.map V.int) → sp [.ref a] H (fun v _ => v = .bl true) E0) ∧
        ∀ base : Heap, (K w.params).In base → base.Ns mainGlobals mg → (∀ p ∈ cs, TabB base mg p.1 p.2) → (∃ mm, base.Ns sysModules mm) → LawOk l.prog w (K w.params) mg base f fd x sp) :
    PySem.W.WalkO q loose XP YP l.row.toRowW d [] (fun f vs => PySem.call f vs) := by
  refine Att.attach_call hn hdf fun w s₀ z mg mb f o pm cd doc a vs ns G Y ho hd hcd hmg hobj hi hlen hg => ?_
  obtain ⟨fd, cs, sp, T, hb, hsp, hF⟩ := F w mg f _ _ _ _ (hY w _ Y) G.T hmg
  exact call_law (hY w _ Y) G.T.g G.T.b G.T.builtins G.T.nolimit (let ⟨mm, q, _⟩ := (G.T.seer hi0).mods; ⟨mm, q⟩) hg T G.T.bmain hobj hi (Nat.le_trans hlen hn2) hF hb fun H h1 h2 => hsp H a ns hlen h1 h2
end Ey
set_option maxHeartbeats 2000000
namespace PySem.W
open PySem PySem.Calls PyProof.Rows PyProof.V PySem.Spec Builtin
section
variable {prog : Program} {w : World} {A : Around} {E : Value → Shared → Prop} {s : Shared} {T : String} {r d : Addr} {n : Nat} {P : Nat → Value → Prop} {OK : Heap → Prop}
/-- what a source yields, collected -/
theorem ey_collect {Q : List Value → Shared → Prop} (K : KdlSrc prog w T r d n P OK) (hh : A.handled = none) (hok : OK s.heap) (hn : n ≤ sizeLine)
    (hQ : ∀ h' tk (acc : Array Value), (∀ b o, s.heap.get? b = some o → h'.get? b = some o) → ItemsOf P acc n → Q acc.toList { s with heap := h', toks := tk }) :
    wpAny (model prog w) A (collect (.ref r)) Q E s := by
  unfold collect
  refine wpAny_bind (wpAny_runValue (codeAny_builtin PySem.F.entry_proto_collect ?_))
  rw [Around.under_plainId PySem.F.plain_proto_collect _]
  show wpAny _ A.in1 (newList [] >>= fun l => again (.builtin "list.__iadd__" ⟨[l, .ref r], []⟩)) _ _ s
  refine wpAny_bind (wpAny_newObj_type (wpAny_pure ⟨plainId_quiet PySem.F.plain_list_iadd _, codeAny_builtin PySem.F.entry_list_iadd ?_⟩))
  rw [Around.under_plainId PySem.F.plain_list_iadd _]
  show wpAny _ A.in1 (Builtin.List.listExtendWith (.ref s.heap.objs.size) (.ref r) (.ref s.heap.objs.size)) _ _ _
  have at0 : (s.heap.push { cls := .type "list", data := .seq ([] : List Value).toArray }).get? s.heap.objs.size = some { cls := .type "list", data := .seq #[] 0 } := Heap.get?_push_size _ rfl
  have lt := K.there _ hok
  have ok1 : OK (s.heap.push { cls := .type "list", data := .seq ([] : List Value).toArray }) := K.keep _ _ hok fun b _ o e => Heap.get?_push_of_some _ e
  have fin : ∀ (h' : Heap) (tk : Nat) (acc : Array Value) (c : Nat), (∀ b o, s.heap.get? b = some o → h'.get? b = some o) → h'.get? s.heap.objs.size = some { cls := .type "list", dict := none, data := .seq acc c, slots := #[] } → ItemsOf P acc n →
      wpAny (model prog w) A (match Value.ref s.heap.objs.size with
      | Value.ref a => do
        match (← load a).data with
          | Data.seq xs _ => pure xs.toList
          | _ => unsupported "internal:collect"
      | _ => unsupported "internal:collect") Q E { s with heap := h', toks := tk } := fun h' tk acc c hk at1 it => by
    show wpAny _ A (load s.heap.objs.size >>= _) _ _ _
    exact wpAny_bind (wpAny_load at1 (wpAny_pure (hQ h' tk acc hk it)))
  refine wpAny_mono (kdl_extend (A := A) (s := { s with heap := s.heap.push { cls := .type "list", data := .seq ([] : List Value).toArray } })
    (R := fun q s' => q = .ok (.ret (.ref s.heap.objs.size)) ∧ ∃ (h' : Heap) (tk : Nat) (acc : Array Value) (c : Nat), s' = { s with heap := h', toks := tk } ∧ (∀ b o, s.heap.get? b = some o → h'.get? b = some o) ∧ h'.get? s.heap.objs.size = some { cls := .type "list", dict := none, data := .seq acc c, slots := #[] } ∧ ItemsOf P acc n)
    K hh ok1 s.heap.objs.size (Nat.ne_of_gt lt.1) (Nat.ne_of_gt lt.2) (.ref s.heap.objs.size) 0 at0 (fun h' tk acc c hk at1 it => ⟨rfl, h', tk, acc, c, rfl, fun b o e => hk b o (Nat.ne_of_lt (Heap.lt_size e)) (Heap.get?_push_of_some _ e), at1, it⟩) hn) (fun q s' h => ?_) (fun e s' h => ?_)
  · cases q with
    | done f =>
      obtain ⟨e, h', tk, acc, c, rfl, hk, at1, it⟩ := h
      cases e
      exact fin h' tk acc c hk at1 it
    | again c' =>
      refine ⟨h.1, codeAny_mono h.2 fun q s2 hq => ?_⟩
      obtain ⟨rfl, h', tk, acc, c, rfl, hk, at1, it⟩ := hq
      exact fin h' tk acc c hk at1 it
  · exact absurd h.1 (by simp)
/-- tuple(of it) -/
theorem ey_tuple_new {Q₁ : Value → Shared → Prop} (K : KdlSrc prog w "dict" r d n P OK) (hh : A.handled = none) (hok : OK s.heap) (hn : n ≤ sizeLine)
    (h : ∀ (h' : Heap) (tk : Nat) (acc : Array Value), (∀ b o, s.heap.get? b = some o → h'.get? b = some o) → ItemsOf P acc n → Q₁ (.ref h'.objs.size) { s with heap := h'.push { cls := .type "tuple", data := .seq acc }, toks := tk }) :
    codeAny (model prog w) A (.call (.builtin "tuple.__new__") ⟨[.type "tuple", .ref r], []⟩) (wants Q₁ E) s := by
  refine codeAny_of_tree ?_
  show wpAny _ A.in1 (do checkBuiltinCall "tuple.__new__" ⟨[.type "tuple", .ref r], []⟩; again (.builtin "tuple.__new__" ⟨[.type "tuple", .ref r], []⟩)) _ _ s
  refine wpAny_bind (wpAny_of_eq (PySem.F.newCall_tuple_1 _) (wpAny_pure ⟨plainId_quiet PySem.F.plain_tuple_new _, codeAny_builtin PySem.F.entry_tuple_new ?_⟩))
  rw [Around.under_plainId PySem.F.plain_tuple_new _]
  have sub1 := sub_tuple_self
  have init1 := init_tuple_lookup
  have made1 := madeHere_tuple
  have ty1 := K.type s hok
  wp_walk using wpAny_typeOf ty1, ey_collect (A := A.in1) K hh hok hn
  intro h' tk acc hk it
  show wpAny _ _ (Builtin.Tuple.tupleExact acc.toList.toArray >>= fun v => ret v) _ _ _
  unfold Builtin.Tuple.tupleExact
  refine wpAny_bind (wpAny_newObj_type ?_ (by show acc.toList.toArray.size ≤ sizeLine; rw [Array.toArray_toList, it.1]; exact hn))
  refine wpAny_pure ?_
  rw [Array.toArray_toList]
  exact h h' tk acc hk it
theorem ey_tuple {Q : Value → Shared → Prop} (K : KdlSrc prog w "dict" r d n P OK) (hh : A.handled = none) (hok : OK s.heap) (hn : n ≤ sizeLine)
    (h : ∀ (h' : Heap) (tk : Nat) (acc : Array Value), (∀ b o, s.heap.get? b = some o → h'.get? b = some o) → ItemsOf P acc n → Q (.ref h'.objs.size) { s with heap := h'.push { cls := .type "tuple", data := .seq acc }, toks := tk }) :
    wpAny (model prog w) A (call (.type "tuple") [.ref r]) Q E s := by
  refine callType_codes (Q₁ := fun o z => z.TypeIs o "tuple" ∧ Q o z) PySem.F.called_tuple (PySem.F.typeCall_tuple_1 _) PySem.F.entry_object_init
    (ey_tuple_new (A := A.in1) K hh hok hn fun h' tk acc hk it => ⟨⟨_, Heap.get?_push_size _ rfl, rfl⟩, h h' tk acc hk it⟩) fun o z hz => ?_
  exact ⟨hz.1, PySem.F.args_object_init_2 o _, object_init_meets PySem.F.called_tuple.init.lookup PySem.F.called_tuple.made (by decide) prog w A.in1 _ z ⟨hz.1, rfl, hz.2⟩⟩
end
end PySem.W
namespace Ey
open PySem PySem.Spec PyProof.Rows L2
/-- tuple(d), d a dict: its keys -/
def rTupD : List V → Hp → VK → Prop := fun xs H Q => ∃ p kvs, xs = [.ref p] ∧ H p = some (.dK kvs) ∧ ∀ q, H q = none → Q (.ref q) (upd H q (.tup (kvs.map fun kv => kV kv.1)))
theorem call_tupD {X : Cx} (hc : X.calm = true) : CallR X (.type "tuple") rTupD := by
  intro pins s σ H xs us Q I r h
  obtain ⟨p, kvs, rfl, hk, q⟩ := h
  obtain ⟨u, rfl, rx⟩ := vals1 r
  obtain rfl : u = Value.ref p := rx
  obtain ⟨z, lo, vs, rk, hd⟩ := (show ObjOk X.prog X.w H s.heap p (.dK kvs) from I.hok p _ hk)
  obtain ⟨ep, at0⟩ := hd.dictAt
  have nl : kvs.length = vs.length := Paired.length rk
  refine PySem.W.ey_tuple (PySem.W.kdl_dict (knd := mixKind X.prog X.w) (kvs := vs) (ep := ep) lo) (I.ok.hd hc) at0 (by rw [← nl]; exact z) fun h' tk acc keep it => ?_
  have I1 : Inv X pins σ H { s with heap := h', toks := tk } := I.kept keep
  refine ⟨.ref h'.objs.size, upd H h'.objs.size (.tup (kvs.map fun kv => kV kv.1)), I1.laid (t' := tk) (fun b o e => Heap.get?_push_of_some _ e) (Nat.le_refl _) (show ObjOk X.prog X.w _ _ _ (.tup _) from ⟨?_, acc.toList, ?_, ?_⟩), rfl, q _ (I1.hok.fresh (Nat.le_refl _))⟩
  · rw [List.length_map]
    exact z
  · have nA : acc.toList.length = acc.size := by simp
    refine vals_of_at (by rw [List.length_map, nA, it.1, nl]) fun j x v h1 h2 => ?_
    obtain ⟨k, y, e, ki⟩ := it.2 j v (by rw [← Array.getElem?_toList]; exact h2)
    have e1 : (kvs.map (·.1))[j]? = some k := by
      rw [KV.keys rk, List.getElem?_map, e]
      rfl
    rw [List.getElem?_map] at h1 e1
    cases g : kvs[j]? with
    | none =>
      rw [g] at e1
      cases e1
    | some kv =>
      rw [g] at e1 h1
      injection e1 with e1
      injection h1 with h1
      have e2 : kv.1 = k := e1
      rw [← h1]
      show L2.RelV (kV kv.1) v
      rw [e2]
      exact keyIs_rel ki
  · have := IsTup.new h' acc
    rw [Array.toArray_toList]
    exact this
end Ey
/-! Trees, places: the mathematics. -/
namespace Ey
open PySem PySem.Spec PyProof.Rows
/-! ### texts as lists of signs -/
def st (p : List Nat) : Str := ⟨p.toArray⟩
theorem st_inj {p q : List Nat} (h : st p = st q) : p = q := by
  have h2 : p.toArray = q.toArray := congrArg Str.cps h
  simpa using h2
theorem st_app (p q : List Nat) : st p ++ st q = st (p ++ q) := by
  show (⟨p.toArray ++ q.toArray⟩ : Str) = ⟨(p ++ q).toArray⟩
  rw [List.append_toArray]
theorem st_len (p : List Nat) : (st p).length = p.length := rfl
theorem st_list (p : List Nat) : (st p).cps.toList = p := rfl
theorem st_of (x : Str) : x = st x.cps.toList := by
  cases x
  rfl
theorem st_ne {p q : List Nat} (h : p ≠ q) : st p ≠ st q := fun e => h (st_inj e)
/-! ### trees -/
inductive Tr where
  | nil
  | nd (tag : Str) (l r : Tr)
def abc : List Nat := [97, 98, 99, 100, 101, 102, 103, 104, 105, 106, 107, 108, 109, 110, 111, 112, 113, 114, 115, 116, 117, 118, 119, 120, 121, 122]
def isTag (x : Str) : Bool := decide (1 ≤ x.length) && decide (x.length ≤ 8) && x.cps.toList.all fun c => decide (c ∈ abc)
def Tr.ok : Tr → Prop
  | .nil => True
  | .nd g l r => isTag g = true ∧ l.ok ∧ r.ok
def Tr.sz : Tr → Nat
  | .nil => 0
  | .nd _ l r => l.sz + r.sz + 1
def Tr.ht : Tr → Nat
  | .nil => 0
  | .nd _ l r => max l.ht r.ht + 1
def Tr.full : Tr → Bool
  | .nil => false
  | .nd _ _ _ => true
def pl : Tr → List (List Nat)
  | .nil => [[]]
  | .nd _ l r => [] :: ((pl l).map (108 :: ·) ++ (pl r).map (114 :: ·))
def pt : Tr → List Nat → Tr
  | t, [] => t
  | .nil, _ :: _ => .nil
  | .nd _ l r, c :: p => if c = 108 then pt l p else pt r p
def isP : Tr → List Nat → Bool
  | _, [] => true
  | .nil, _ :: _ => false
  | .nd _ l r, c :: p => if c = 108 then isP l p else if c = 114 then isP r p else false
theorem pt_nil (t : Tr) : pt t [] = t := by cases t <;> rfl
theorem isP_nil (t : Tr) : isP t [] = true := by cases t <;> rfl
theorem isP_iff : ∀ (t : Tr) (p : List Nat), isP t p = true ↔ p ∈ pl t
  | .nil, [] => by simp [pl, isP]
  | .nil, c :: p => by simp [pl, isP]
  | .nd g l r, [] => by simp [pl, isP]
  | .nd g l r, c :: p => by
    have il := isP_iff l p
    have ir := isP_iff r p
    have e : (c :: p) ∈ pl (.nd g l r) ↔ (c = 108 ∧ p ∈ pl l) ∨ (c = 114 ∧ p ∈ pl r) := by
      simp only [pl, List.mem_cons, List.mem_append, List.mem_map, reduceCtorEq, false_or]
      constructor
      · rintro (⟨q, hq, e⟩ | ⟨q, hq, e⟩)
        · cases e
          exact .inl ⟨rfl, hq⟩
        · cases e
          exact .inr ⟨rfl, hq⟩
      · rintro (⟨rfl, h⟩ | ⟨rfl, h⟩)
        · exact .inl ⟨p, h, rfl⟩
        · exact .inr ⟨p, h, rfl⟩
    rw [e, ← il, ← ir]
    show (if c = 108 then isP l p else if c = 114 then isP r p else false) = true ↔ _
    by_cases h1 : c = 108
    · subst h1
      simp
    · by_cases h2 : c = 114
      · subst h2
        simp
      · simp [h1, h2]
theorem pl_len : ∀ t : Tr, (pl t).length = 2 * t.sz + 1
  | .nil => rfl
  | .nd g l r => by
    simp only [pl, List.length_cons, List.length_append, List.length_map, pl_len l, pl_len r, Tr.sz]
    omega
theorem pl_ht : ∀ (t : Tr) (p : List Nat), p ∈ pl t → p.length ≤ t.ht
  | .nil, p, h => by
    simp only [pl, List.mem_singleton] at h
    subst h
    exact Nat.zero_le _
  | .nd g l r, p, h => by
    simp only [pl, List.mem_cons, List.mem_append, List.mem_map] at h
    rcases h with rfl | ⟨q, hq, rfl⟩ | ⟨q, hq, rfl⟩
    · exact Nat.zero_le _
    · have := pl_ht l q hq
      simp only [List.length_cons, Tr.ht]
      omega
    · have := pl_ht r q hq
      simp only [List.length_cons, Tr.ht]
      omega
theorem ht_sz : ∀ t : Tr, t.ht ≤ t.sz
  | .nil => Nat.le_refl _
  | .nd g l r => by
    have a := ht_sz l
    have b := ht_sz r
    simp only [Tr.ht, Tr.sz]
    omega
theorem pl_ne (t : Tr) : pl t ≠ [] := by cases t <;> simp [pl]
theorem pl_head (t : Tr) : (pl t)[0]? = some [] := by cases t <;> rfl
theorem pl_signs : ∀ (t : Tr) (p : List Nat), p ∈ pl t → ∀ c ∈ p, c = 108 ∨ c = 114
  | .nil, p, h => by
    simp only [pl, List.mem_singleton] at h
    subst h
    exact fun c hc => absurd hc List.not_mem_nil
  | .nd g l r, p, h => by
    simp only [pl, List.mem_cons, List.mem_append, List.mem_map] at h
    rcases h with rfl | ⟨q, hq, rfl⟩ | ⟨q, hq, rfl⟩
    · exact fun c hc => absurd hc List.not_mem_nil
    · intro c hc
      rcases List.mem_cons.mp hc with e | e
      · exact .inl e
      · exact pl_signs l q hq c e
    · intro c hc
      rcases List.mem_cons.mp hc with e | e
      · exact .inr e
      · exact pl_signs r q hq c e
/-! ### the order -/
def ltL (a b : List Nat) : Prop := ltCps a b = true
theorem ltL_cons {c : Nat} {a b : List Nat} : ltL (c :: a) (c :: b) ↔ ltL a b := by simp [ltL, ltCps]
theorem ltL_nil {c : Nat} {a : List Nat} : ltL [] (c :: a) := rfl
theorem ltL_lt {c d : Nat} {a b : List Nat} (h : c < d) : ltL (c :: a) (d :: b) := by simp [ltL, ltCps, h]
theorem ltL_irr : ∀ a : List Nat, ¬ ltL a a
  | [] => by simp [ltL, ltCps]
  | c :: a => by
    rw [ltL_cons]
    exact ltL_irr a
theorem ltL_trans : ∀ {a b c : List Nat}, ltL a b → ltL b c → ltL a c
  | [], [], _, h, _ => absurd h (ltL_irr [])
  | [], _ :: _, [], _, h => by simp [ltL, ltCps] at h
  | [], _ :: _, _ :: _, _, _ => rfl
  | _ :: _, [], _, h, _ => by simp [ltL, ltCps] at h
  | _ :: _, _ :: _, [], _, h => by simp [ltL, ltCps] at h
  | x :: a, y :: b, z :: c, h1, h2 => by
    simp only [ltL, ltCps, Bool.or_eq_true, decide_eq_true_eq, Bool.and_eq_true, beq_iff_eq] at h1 h2 ⊢
    rcases h1 with h1 | ⟨rfl, h1⟩
    · rcases h2 with h2 | ⟨rfl, h2⟩
      · exact .inl (Nat.lt_trans h1 h2)
      · exact .inl h1
    · rcases h2 with h2 | ⟨rfl, h2⟩
      · exact .inl h2
      · exact .inr ⟨rfl, ltL_trans h1 h2⟩
theorem ltL_tri : ∀ a b : List Nat, ltL a b ∨ a = b ∨ ltL b a
  | [], [] => .inr (.inl rfl)
  | [], _ :: _ => .inl rfl
  | _ :: _, [] => .inr (.inr rfl)
  | x :: a, y :: b => by
    rcases Nat.lt_trichotomy x y with h | rfl | h
    · exact .inl (ltL_lt h)
    · rcases ltL_tri a b with h | rfl | h
      · exact .inl (ltL_cons.mpr h)
      · exact .inr (.inl rfl)
      · exact .inr (.inr (ltL_cons.mpr h))
    · exact .inr (.inr (ltL_lt h))
theorem pl_up : ∀ t : Tr, (pl t).Pairwise ltL
  | .nil => by simp [pl]
  | .nd g l r => by
    simp only [pl, List.pairwise_cons, List.pairwise_append, List.pairwise_map]
    refine ⟨fun p hp => ?_, (pl_up l).imp fun h => ltL_cons.mpr h, (pl_up r).imp fun h => ltL_cons.mpr h, fun a ha b hb => ?_⟩
    · simp only [List.mem_append, List.mem_map] at hp
      rcases hp with ⟨q, _, rfl⟩ | ⟨q, _, rfl⟩
      · exact rfl
      · exact rfl
    · simp only [List.mem_map] at ha hb
      obtain ⟨p, _, rfl⟩ := ha
      obtain ⟨q, _, rfl⟩ := hb
      exact ltL_lt (by decide)
theorem pl_nodup (t : Tr) : (pl t).Nodup := (pl_up t).imp fun {a b} h e => by
  subst e
  exact ltL_irr _ h
/-- what sorted hands back, of texts that are all unlike -/
theorem rising_pw : ∀ (l : List Str) (p : Str), risingS p l = true → (p :: l).Pairwise fun a b => ¬ ltL b.cps.toList a.cps.toList
  | [], p, _ => by simp
  | x :: r, p, h => by
    simp only [risingS, Bool.and_eq_true, Bool.not_eq_true'] at h
    have ih := rising_pw r x h.2
    have h1 : ¬ ltL x.cps.toList p.cps.toList := by
      intro e
      rw [ltL, h.1] at e
      cases e
    rw [List.pairwise_cons]
    refine ⟨fun y hy => ?_, ih⟩
    rcases List.mem_cons.mp hy with rfl | hy
    · exact h1
    · have h2 := (List.pairwise_cons.mp ih).1 y hy
      intro e
      rcases ltL_tri x.cps.toList p.cps.toList with q | q | q
      · exact h1 q
      · rw [← q] at e
        exact h2 e
      · exact h2 (ltL_trans e q)
theorem sorted_is {l : List Str} {ps : List (List Nat)} (h : l.Perm (ps.map st)) (hs : sortedS l = true) (hp : ps.Pairwise ltL) : l = ps.map st := by
  have pw : l.Pairwise fun a b => ¬ ltL b.cps.toList a.cps.toList := by
    cases l with
    | nil => simp
    | cons x r => exact rising_pw r x hs
  have pw2 : (ps.map st).Pairwise fun a b => ¬ ltL b.cps.toList a.cps.toList := by
    rw [List.pairwise_map]
    exact hp.imp fun {a b} h e => ltL_irr _ (ltL_trans h e)
  refine List.Perm.eq_of_pairwise (fun a b _ _ h1 h2 => ?_) pw pw2 h
  rcases ltL_tri a.cps.toList b.cps.toList with q | q | q
  · exact absurd q h2
  · rw [st_of a, st_of b, q]
  · exact absurd q h1
/-! ### the next place -/
def stripR (p : List Nat) : List Nat := (p.reverse.dropWhile fun c => c == 114).reverse
def nxt (full : Bool) (p : List Nat) : Option (List Nat) :=
  if full = true then some (p ++ [108]) else if stripR p = [] then none else some ((stripR p).dropLast ++ [114])
theorem dropWhile_snoc (f : Nat → Bool) (a : List Nat) (c : Nat) : (a ++ [c]).dropWhile f = if a.dropWhile f = [] then [c].dropWhile f else a.dropWhile f ++ [c] := by
  induction a with
  | nil => simp
  | cons x a ih =>
    rw [List.cons_append]
    by_cases h : f x = true
    · rw [List.dropWhile_cons_of_pos h, List.dropWhile_cons_of_pos h]
      exact ih
    · rw [List.dropWhile_cons_of_neg h, List.dropWhile_cons_of_neg h]
      simp
theorem stripR_cons (c : Nat) (p : List Nat) : stripR (c :: p) = if stripR p = [] then (if c = 114 then [] else [c]) else c :: stripR p := by
  unfold stripR
  rw [List.reverse_cons, dropWhile_snoc]
  by_cases h : (p.reverse.dropWhile fun c => c == 114) = []
  · rw [if_pos h, if_pos (by rw [h]; rfl)]
    by_cases hc : c = 114
    · simp [hc]
    · simp [hc]
  · rw [if_neg h, if_neg (by rw [List.reverse_eq_nil_iff]; exact h)]
    simp
theorem nxt_cons {f : Bool} {c : Nat} {p q : List Nat} (h : nxt f p = some q) : nxt f (c :: p) = some (c :: q) := by
  unfold nxt at h ⊢
  by_cases hf : f = true
  · rw [if_pos hf] at h ⊢
    cases h
    rfl
  · rw [if_neg hf] at h ⊢
    by_cases hp : stripR p = []
    · rw [if_pos hp] at h
      cases h
    · rw [if_neg hp] at h
      injection h with h
      have e : stripR (c :: p) = c :: stripR p := by rw [stripR_cons, if_neg hp]
      rw [e, if_neg (by simp), ← h, List.dropLast_cons_of_ne_nil hp]
      rfl
theorem nxt_last {f : Bool} {p : List Nat} (h : nxt f p = none) : nxt f (108 :: p) = some [114] ∧ nxt f (114 :: p) = none := by
  unfold nxt at h ⊢
  by_cases hf : f = true
  · rw [if_pos hf] at h
    cases h
  · rw [if_neg hf] at h
    by_cases hp : stripR p = []
    · rw [if_neg hf, if_neg hf, stripR_cons, stripR_cons, if_pos hp, if_pos hp]
      simp
    · rw [if_neg hp] at h
      cases h
theorem nxt_pl : ∀ (t : Tr) (i : Nat) (p : List Nat), (pl t)[i]? = some p → nxt (pt t p).full p = (pl t)[i + 1]?
  | .nil, i, p, h => by
    cases i with
    | zero =>
      cases h
      rfl
    | succ i => simp [pl] at h
  | .nd g l r, i, p, h => by
    cases i with
    | zero =>
      have e : p = [] := by
        simp only [pl, List.getElem?_cons_zero] at h
        exact (Option.some.inj h).symm
      subst e
      have e2 : (pl (.nd g l r))[0 + 1]? = some [108] := by
        have hl := pl_head l
        simp only [pl, List.getElem?_cons_succ]
        rw [List.getElem?_append_left (by rw [List.length_map]; exact List.length_pos_iff.mpr (pl_ne l)), List.getElem?_map, hl]
        rfl
      rw [e2]
      rfl
    | succ i =>
      simp only [pl, List.getElem?_cons_succ] at h ⊢
      by_cases hi : i < (pl l).length
      · rw [List.getElem?_append_left (by rw [List.length_map]; exact hi), List.getElem?_map] at h
        obtain ⟨q, hq, rfl⟩ := Option.map_eq_some_iff.mp h
        have ih := nxt_pl l i q hq
        have ef : pt (.nd g l r) (108 :: q) = pt l q := by show (if 108 = 108 then _ else _) = _; rw [if_pos rfl]
        rw [ef]
        by_cases hn : i + 1 < (pl l).length
        · rw [List.getElem?_append_left (by rw [List.length_map]; exact hn), List.getElem?_map]
          rw [List.getElem?_eq_getElem hn] at ih ⊢
          exact nxt_cons ih
        · have en : i + 1 = (pl l).length := by omega
          rw [List.getElem?_eq_none (by omega)] at ih
          rw [List.getElem?_append_right (by rw [List.length_map]; omega), List.length_map, en, Nat.sub_self, List.getElem?_map, pl_head r]
          exact (nxt_last ih).1
      · rw [List.getElem?_append_right (by rw [List.length_map]; omega), List.length_map, List.getElem?_map] at h
        obtain ⟨q, hq, rfl⟩ := Option.map_eq_some_iff.mp h
        have ih := nxt_pl r (i - (pl l).length) q hq
        have ef : pt (.nd g l r) (114 :: q) = pt r q := by show (if 114 = 108 then _ else _) = _; rw [if_neg (by decide)]
        rw [ef, List.getElem?_append_right (by rw [List.length_map]; omega), List.length_map, List.getElem?_map]
        have en : i + 1 - (pl l).length = i - (pl l).length + 1 := by omega
        rw [en]
        cases hr : (pl r)[i - (pl l).length + 1]? with
        | none =>
          rw [hr] at ih
          exact (nxt_last ih).2
        | some z =>
          rw [hr] at ih
          exact nxt_cons ih
/-! ### the places below a place -/
theorem below : ∀ (t : Tr) (p : List Nat), isP t p = true → (pl t).filter (fun q => decide (q.take p.length = p)) = (pl (pt t p)).map (p ++ ·)
  | t, [], _ => by
    rw [pt_nil]
    simp
  | .nil, c :: p, h => by cases h
  | .nd g l r, c :: p, h => by
    simp only [pl, List.filter_cons, List.filter_append, List.filter_map]
    have e0 : decide (([] : List Nat).take (c :: p).length = c :: p) = false := by simp
    rw [if_neg (by rw [e0]; exact Bool.false_ne_true)]
    by_cases h1 : c = 108
    · subst h1
      have hp : isP l p = true := h
      have ih := below l p hp
      have ea : ((fun q => decide (q.take (108 :: p).length = 108 :: p)) ∘ (108 :: ·)) = fun q : List Nat => decide (q.take p.length = p) := by
        funext q
        simp
      have eb : (pl r).filter ((fun q => decide (q.take (108 :: p).length = 108 :: p)) ∘ (114 :: ·)) = [] := by
        rw [List.filter_eq_nil_iff]
        intro q _
        simp
      rw [ea, eb, ih]
      show _ = (pl (if 108 = 108 then pt l p else pt r p)).map _
      rw [if_pos rfl]
      simp
    · by_cases h2 : c = 114
      · subst h2
        have hp : isP r p = true := h
        have ih := below r p hp
        have ea : ((fun q => decide (q.take (114 :: p).length = 114 :: p)) ∘ (114 :: ·)) = fun q : List Nat => decide (q.take p.length = p) := by
          funext q
          simp
        have eb : (pl l).filter ((fun q => decide (q.take (114 :: p).length = 114 :: p)) ∘ (108 :: ·)) = [] := by
          rw [List.filter_eq_nil_iff]
          intro q _
          simp
        rw [ea, eb, ih]
        show _ = (pl (if 114 = 108 then pt l p else pt r p)).map _
        rw [if_neg (by decide)]
        simp
      · have : isP (.nd g l r) (c :: p) = false := by
          show (if c = 108 then isP l p else if c = 114 then isP r p else false) = false
          rw [if_neg h1, if_neg h2]
        rw [this] at h
        cases h
end Ey
namespace Ey
open PySem PySem.Spec L2
theorem dw_drop (f : Nat → Bool) : ∀ l : List Nat, l.dropWhile f = l.drop (l.takeWhile f).length
  | [] => rfl
  | a :: l => by
    cases h : f a
    · simp [List.dropWhile_cons, List.takeWhile_cons, h]
    · simp [List.dropWhile_cons, List.takeWhile_cons, h, dw_drop f l]
theorem stripR_take (p : List Nat) : stripR p = p.take (p.length - (p.reverse.takeWhile fun c => c == 114).length) := by
  have hle : (p.reverse.takeWhile fun c => c == 114).length ≤ p.length := by
    have := (List.takeWhile_sublist (fun c => c == 114) (l := p.reverse)).length_le
    rwa [List.length_reverse] at this
  unfold stripR
  rw [dw_drop, ← List.reverse_reverse (p.take _), List.reverse_take]
  have e : p.length - (p.length - (p.reverse.takeWhile fun c => c == 114).length) = (p.reverse.takeWhile fun c => c == 114).length := by omega
  rw [e]
theorem rstrip_st (p : List Nat) : Txt.rstripChars (st p) (st [114]) = st (stripR p) := by
  have e1 : (st [114]).cps.contains = fun c => c == 114 := by
    funext c
    show (#[114] : Array Nat).contains c = (c == 114)
    simp [Array.contains]
  have e3 := stripR_take p
  have lo : stripLo (st [114]).cps.contains false (st p) = 0 := rfl
  have hi : stripHi (st [114]).cps.contains true (st p) 0 = p.length - (p.reverse.takeWhile fun c => c == 114).length := by
    rw [e1]
    rfl
  unfold Txt.rstripChars Txt.stripBy stripSame stripped
  rw [lo, hi]
  have ex : Builtin.Str.strSub (st p) 0 (p.length - (p.reverse.takeWhile fun c => c == 114).length) = st (stripR p) := by
    rw [e3]
    show (⟨p.toArray.extract 0 _⟩ : Str) = ⟨_⟩
    simp
  rw [ex]
  split
  · rename_i h
    simp only [Bool.and_eq_true, beq_iff_eq] at h
    rw [e3, h.2]
    show st p = st (p.take p.length)
    rw [List.take_length]
  · rfl
theorem for_str {x : Str} {g : TG} {tb : TS} {D : Ends} {σ : St} {H : Hp} (Pv : Nat → St → Hp → Prop) (h0 : Pv 0 σ H)
    (hs : ∀ i c σ H, x.cps.toList[i]? = some c → Pv i σ H → g (.str (st [c])) σ H fun σ2 H2 => tb { D with nx := Pv (i + 1), ct := Pv (i + 1), bk := D.nx } σ2 H2)
    (hd : ∀ σ H, Pv x.cps.toList.length σ H → D.nx σ H) :
    ∃ W : Nat → Nat → St → Hp → Prop, (∃ m, W 0 m σ H) ∧ ∀ i m σ H, W i m σ H →
      ((Its x).stop i H ∧ D.nx σ H) ∨ ((Its x).go i H ∧ ∃ N : St → Hp → Prop, (∀ σ' H', N σ' H' → ∃ m', m' < m ∧ W (i + 1) m' σ' H') ∧ ∀ v H', (Its x).yld i H v H' → g v σ H' fun σ2 H2 => tb { D with nx := N, ct := N, bk := D.nx } σ2 H2) := by
  refine ⟨fun i m σ H => m = x.cps.size - i ∧ i ≤ x.cps.size ∧ Pv i σ H, ⟨_, rfl, Nat.zero_le _, h0⟩, fun i m σ H hw => ?_⟩
  obtain ⟨rfl, hi, p⟩ := hw
  by_cases lt : i < x.cps.size
  · refine .inr ⟨lt, Pv (i + 1), fun σ' H' p' => ⟨x.cps.size - (i + 1), by omega, rfl, lt, p'⟩, fun v H' y => ?_⟩
    obtain ⟨rfl, c, hc, rfl⟩ := y
    exact hs i c σ _ (by rw [Array.getElem?_toList]; exact hc) p
  · have e : i = x.cps.size := by omega
    subst e
    exact .inl ⟨Nat.le_refl _, hd σ H (by rw [Array.length_toList]; exact p)⟩
end Ey
namespace Ey
open PySem PySem.Spec L2
/-! ### heaps -/
/-- all that was tracked is as it was, but what stands at ms; tuples never change -/
structure Kp (ms : List Addr) (H H' : Hp) : Prop where
  at_ : ∀ b o, H b = some o → b ∉ ms → H' b = some o
  tup : ∀ b xs, H b = some (.tup xs) → H' b = some (.tup xs)
section
variable {ms : List Addr} {H H' H1 H2 : Hp}
theorem Kp.refl : Kp ms H H := ⟨fun _ _ e _ => e, fun _ _ e => e⟩
theorem Kp.trans (a : Kp ms H H1) (b : Kp ms H1 H2) : Kp ms H H2 := ⟨fun c o e n => b.at_ c o (a.at_ c o e n) n, fun c xs e => b.tup c xs (a.tup c xs e)⟩
theorem Kp.more {ms' : List Addr} (a : Kp ms H H1) (h : ∀ x ∈ ms, x ∈ ms') : Kp ms' H H1 := ⟨fun c o e n => a.at_ c o e fun q => n (h c q), a.tup⟩
theorem Kp.new {p : Addr} {o : HO} (h : H p = none) : Kp ms H (upd H p o) :=
  ⟨fun c u e _ => by rw [upd_ne (ne_of_none e h)]; exact e, fun c xs e => by rw [upd_ne (ne_of_none e h)]; exact e⟩
theorem Kp.put {p : Addr} {o u : HO} (hm : p ∈ ms) (h : H p = some u) (nt : ∀ xs, u ≠ .tup xs) : Kp ms H (upd H p o) := by
  refine ⟨fun c v e n => ?_, fun c xs e => ?_⟩
  · rw [upd_ne (fun q => n (by rw [q]; exact hm))]
    exact e
  · rw [upd_ne (fun q => ?_)]
    · exact e
    · rw [q, h] at e
      exact nt xs (Option.some.inj e)
theorem Kp.same (s : Same H H1) : Kp ms H H1 := ⟨fun c o e _ => s c o e, fun c xs e => s c _ e⟩
theorem Kp.free (a : Kp ms H H1) {p : Addr} (h : H1 p = none) (n : p ∉ ms) : H p = none := by
  cases q : H p with
  | none => rfl
  | some o =>
    rw [a.at_ p o q n] at h
    cases h
theorem Kp.lst {K : PySem.W.Frag} {a : Addr} {xs : List V} (k : Kp ms H H1) (n : a ∉ ms) (h : SqL K H a xs) : SqL K H1 a xs := by
  rcases h with (h | ⟨o, h⟩) | h
  · exact .inl (.inl (k.at_ _ _ h n))
  · exact .inl (.inr ⟨o, k.at_ _ _ h n⟩)
  · exact .inr h
end
/-! ### trees in the heap -/
inductive TreeAt (H : Hp) : V → Tr → Prop where
  | nil : TreeAt H .non .nil
  | nd {a : Addr} {g : Str} {l r : Tr} {v w : V} : H a = some (.tup [.str g, v, w]) → TreeAt H v l → TreeAt H w r → TreeAt H (.ref a) (.nd g l r)
theorem TreeAt.kp {ms : List Addr} {H H1 : Hp} {v : V} {t : Tr} (k : Kp ms H H1) (h : TreeAt H v t) : TreeAt H1 v t := by
  induction h with
  | nil => exact .nil
  | nd e _ _ ih1 ih2 => exact .nd (k.tup _ _ e) ih1 ih2
theorem TreeAt.non {H : Hp} {v : V} {t : Tr} (h : TreeAt H v t) : decide (v = .non) = !t.full := by
  cases h <;> rfl
theorem sqt_of {K : PySem.W.Frag} {H : Hp} {a : Addr} {xs : List V} (h : H a = some (.tup xs)) : SqT K H a xs := .inl (.inl h)
theorem sql_of {K : PySem.W.Frag} {H : Hp} {a : Addr} {xs : List V} (h : H a = some (.lst xs)) : SqL K H a xs := .inl (.inl h)
/-- a tree as data -/
def td : Tr → PyData
  | .nil => .none
  | .nd g l r => .tuple [.str g, td l, td r]
theorem TreeAt.dp {K : PySem.W.Frag} {H : Hp} {v : V} {t : Tr} (h : TreeAt H v t) : Dp K H v (td t) := by
  induction h with
  | nil => exact .non
  | nd e _ _ ih1 ih2 => exact .tup (sqt_of e) (.cons (.str _) (.cons ih1 (.cons ih2 .nil)))
theorem td_show : ∀ t : Tr, (td t).showable = true
  | .nil => rfl
  | .nd g l r => by
    show (true && ((td l).showable && ((td r).showable && true))) = true
    rw [td_show l, td_show r]
    rfl
theorem td_depth : ∀ t : Tr, (td t).depth ≤ 1 + t.ht
  | .nil => by decide
  | .nd g l r => by
    have a := td_depth l
    have b := td_depth r
    simp only [td, PyData.depth, PyData.depthAll, Tr.ht]
    omega
theorem tag_signs {g : Str} (h : isTag g = true) : ∀ c ∈ g.cps.toList, c < 16 ^ 8 := fun c hc => by
  simp only [isTag, Bool.and_eq_true, List.all_eq_true, decide_eq_true_eq] at h
  have := h.2 c hc
  simp only [abc, List.mem_cons, List.not_mem_nil, or_false] at this
  omega
theorem tag_len {g : Str} (h : isTag g = true) : g.length ≤ 8 := by
  simp only [isTag, Bool.and_eq_true, decide_eq_true_eq] at h
  exact h.1.2
theorem len_app (a b : Str) : (a ++ b).length = a.length + b.length := by
  show (a.cps ++ b.cps).size = _
  rw [Array.size_append]
  rfl
theorem td_len : ∀ t : Tr, t.ok → (td t).shown.length ≤ 100 * t.sz + 4
  | .nil, _ => by decide +kernel
  | .nd g l r, h => by
    obtain ⟨hg, hl, hr⟩ := h
    have a := td_len l hl
    have b := td_len r hr
    have c := StrLaws.reprText_len g (tag_signs hg)
    have d := tag_len hg
    have e : (td (.nd g l r)).shown.length ≤ (reprText g).length + (td l).shown.length + (td r).shown.length + 6 := by
      show (tupleText [reprText g, (td l).shown, (td r).shown]).length ≤ _
      unfold tupleText
      rw [len_app, len_app]
      simp only [Str.join, len_app]
      have q1 : (", " : Str).length = 2 := by decide +kernel
      have q2 : ("(" : Str).length = 1 := by decide +kernel
      have q3 : (Str.ofString (if (([reprText g, (td l).shown, (td r).shown] : List Str).length == 1) = true then ",)" else ")")).length = 1 := by
        show (Str.ofString (if ((3 : Nat) == 1) = true then ",)" else ")")).length = 1
        decide +kernel
      rw [q1, q2]
      omega
    simp only [Tr.sz]
    omega
end Ey
set_option maxHeartbeats 4000000
namespace Ey
open PySem PySem.Spec PyProof.Rows L2
/-! ### data: what is a tree, what may be told -/
def isTagD : PyData → Bool
  | .str g => isTag g
  | .none | .bool _ | .int _ | .list _ | .tuple _ | .dict _ => false
def tri : List PyData → List Bool → Bool
  | [x, _, _], [_, b, c] => isTagD x && (b && c)
  | _, _ => false
mutual
def isT : PyData → Bool
  | .none => true
  | .tuple ds => tri ds (isTs ds)
  | .bool _ | .int _ | .str _ | .list _ | .dict _ => false
def isTs : List PyData → List Bool
  | [] => []
  | x :: r => isT x :: isTs r
end
mutual
def fit : PyData → Bool
  | .none | .bool _ => true
  | .int i => decide (i.natAbs < 10 ^ 40)
  | .str x => x.cps.toList.all fun c => decide (c < 1000)
  | .list ds | .tuple ds => fitAll ds
  | .dict kvs => fitKv kvs
def fitAll : List PyData → Bool
  | [] => true
  | x :: r => fit x && fitAll r
def fitKv : List (PyData × PyData) → Bool
  | [] => true
  | (k, v) :: r => (fit k && fit v) && fitKv r
end
mutual
def wd : PyData → Nat
  | .none => 4
  | .bool _ => 5
  | .int _ => 45
  | .str x => 10 * x.length + 2
  | .list ds | .tuple ds => wdAll ds + 3
  | .dict kvs => wdKv kvs + 3
def wdAll : List PyData → Nat
  | [] => 0
  | x :: r => wd x + 2 + wdAll r
def wdKv : List (PyData × PyData) → Nat
  | [] => 0
  | (k, v) :: r => wd k + wd v + 4 + wdKv r
end
theorem nat_len {n : Nat} (h : n < 10 ^ 40) : (Str.ofString (toString (n : Int))).length ≤ 40 := by
  rw [ofString_len]
  show (Nat.repr n).length ≤ 40
  have e : (Nat.repr n).length = (Nat.toDigits 10 n).length := by
    unfold Nat.repr
    simp
  rw [e]
  exact digits10_le (by decide) h
theorem int_ok (i : Int) (h : i.natAbs < 10 ^ 40) : i.natAbs.log2 < 1920 ∧ (PyData.shown (.int i)).length ≤ 45 := by
  refine ⟨?_, ?_⟩
  · by_cases h0 : i.natAbs = 0
    · rw [h0]
      decide
    · rw [Nat.log2_lt h0]
      exact Nat.lt_trans h (by decide +kernel)
  · show (Str.ofString (toString i)).length ≤ 45
    by_cases hn : i < 0
    · rw [len_text_neg hn]
      obtain ⟨n, e⟩ : ∃ n : Nat, 0 - i = (n : Int) := ⟨(0 - i).toNat, by omega⟩
      rw [e]
      have := nat_len (n := n) (by omega)
      omega
    · obtain ⟨n, rfl⟩ : ∃ n : Nat, i = (n : Int) := ⟨i.toNat, by omega⟩
      have := nat_len (n := n) (by simpa using h)
      omega
theorem lenD (ts : List Str) : (listText ts).length ≤ piled ts + 2 := by
  have q1 : ("[" : Str).length = 1 := by decide +kernel
  have q2 : ("]" : Str).length = 1 := by decide +kernel
  unfold listText
  rw [len_app, q2]
  cases ts with
  | nil =>
    show (textFrom 0 "[" []).length + 1 ≤ _
    unfold textFrom
    rw [q1]
    omega
  | cons t r =>
    show (textFrom 1 (("[" : Str) ++ Str.ofString "" ++ t) r).length + 1 ≤ piled (t :: r) + 2
    have e : (Str.ofString "").length = 0 := by decide +kernel
    rw [textFrom_length_pos r 1 _ (by decide), len_app, len_app, q1, e, piled_cons]
    omega
theorem joinD (ts : List Str) : (Str.join ", " ts).length ≤ piled ts := by
  cases ts with
  | nil => exact Nat.zero_le _
  | cons t r =>
    have := join_length_add (t :: r) (by simp)
    omega
theorem lenT (ts : List Str) : (tupleText ts).length ≤ piled ts + 3 := by
  have q1 : ("(" : Str).length = 1 := by decide +kernel
  have q2 : (Str.ofString ",)").length = 2 := by decide +kernel
  have q3 : (Str.ofString ")").length = 1 := by decide +kernel
  have q : (Str.ofString (if (ts.length == 1) = true then ",)" else ")")).length ≤ 2 := by
    split
    · rw [q2]
      exact Nat.le_refl _
    · rw [q3]
      decide
  have := joinD ts
  unfold tupleText
  rw [len_app, len_app, q1]
  omega
theorem lenK (ts : List Str) : (dictText ts).length ≤ piled ts + 3 := by
  have q1 : ("{" : Str).length = 1 := by decide +kernel
  have q2 : ("}" : Str).length = 1 := by decide +kernel
  have := joinD ts
  unfold dictText
  rw [len_app, len_app, q1, q2]
  omega
mutual
theorem fit_told : ∀ d : PyData, fit d = true → d.showable = true ∧ d.shown.length ≤ wd d
  | .none, _ => ⟨rfl, by show ("None" : Str).length ≤ 4; decide +kernel⟩
  | .bool b, _ => ⟨rfl, by
      show (PyData.shown (.bool b)).length ≤ 5
      cases b <;> decide +kernel⟩
  | .int i, h => by
    have a := int_ok i (of_decide_eq_true h)
    exact ⟨decide_eq_true a.1, a.2⟩
  | .str x, h => by
    refine ⟨rfl, StrLaws.reprText_len x fun c hc => ?_⟩
    have h2 : (x.cps.toList.all fun c => decide (c < 1000)) = true := h
    exact Nat.lt_of_lt_of_le (of_decide_eq_true (List.all_eq_true.mp h2 c hc)) (by decide)
  | .list ds, h => by
    obtain ⟨a, b⟩ := fit_tolds ds h
    exact ⟨a, Nat.le_trans (lenD _) (by show piled (PyData.shownAll ds) + 2 ≤ wdAll ds + 3; omega)⟩
  | .tuple ds, h => by
    obtain ⟨a, b⟩ := fit_tolds ds h
    exact ⟨a, Nat.le_trans (lenT _) (by show piled (PyData.shownAll ds) + 3 ≤ wdAll ds + 3; omega)⟩
  | .dict kvs, h => by
    obtain ⟨a, b⟩ := fit_toldKv kvs h
    exact ⟨a, Nat.le_trans (lenK _) (by show piled (PyData.shownKv kvs) + 3 ≤ wdKv kvs + 3; omega)⟩
theorem fit_tolds : ∀ ds : List PyData, fitAll ds = true → PyData.showableAll ds = true ∧ piled (PyData.shownAll ds) ≤ wdAll ds
  | [], _ => ⟨rfl, Nat.le_refl _⟩
  | x :: r, h => by
    have h2 : (fit x && fitAll r) = true := h
    rw [Bool.and_eq_true] at h2
    obtain ⟨a, b⟩ := fit_told x h2.1
    obtain ⟨c, d⟩ := fit_tolds r h2.2
    refine ⟨?_, ?_⟩
    · show (x.showable && PyData.showableAll r) = true
      rw [a, c]
      rfl
    · show piled (x.shown :: PyData.shownAll r) ≤ wd x + 2 + wdAll r
      rw [piled_cons]
      omega
theorem fit_toldKv : ∀ kvs : List (PyData × PyData), fitKv kvs = true → PyData.showableKv kvs = true ∧ piled (PyData.shownKv kvs) ≤ wdKv kvs
  | [], _ => ⟨rfl, Nat.le_refl _⟩
  | (k, v) :: r, h => by
    have h2 : ((fit k && fit v) && fitKv r) = true := h
    rw [Bool.and_eq_true, Bool.and_eq_true] at h2
    obtain ⟨a, b⟩ := fit_told k h2.1.1
    obtain ⟨a2, b2⟩ := fit_told v h2.1.2
    obtain ⟨c, d⟩ := fit_toldKv r h2.2
    refine ⟨?_, ?_⟩
    · show (k.showable && v.showable && PyData.showableKv r) = true
      rw [a, a2, c]
      rfl
    · show piled ((k.shown ++ ": " ++ v.shown) :: PyData.shownKv r) ≤ wd k + wd v + 4 + wdKv r
      have q : (Str.ofString ": ").length = 2 := by decide +kernel
      rw [piled_cons, len_app, len_app, q]
      omega
end
/-! ### trees as data -/
theorem td_isT : ∀ t : Tr, t.ok → isT (td t) = true
  | .nil, _ => rfl
  | .nd g l r, h => by
    show (isTag g && (isT (td l) && isT (td r))) = true
    rw [h.1, td_isT l h.2.1, td_isT r h.2.2]
    rfl
theorem tag_low {g : Str} (h : isTag g = true) : ∀ c ∈ g.cps.toList, c < 1000 := fun c hc => by
  simp only [isTag, Bool.and_eq_true, List.all_eq_true, decide_eq_true_eq] at h
  have := h.2 c hc
  simp only [abc, List.mem_cons, List.not_mem_nil, or_false] at this
  omega
theorem td_fit : ∀ t : Tr, t.ok → fit (td t) = true
  | .nil, _ => rfl
  | .nd g l r, h => by
    have a : (g.cps.toList.all fun c => decide (c < 1000)) = true := List.all_eq_true.mpr fun c hc => decide_eq_true (tag_low h.1 c hc)
    show ((g.cps.toList.all fun c => decide (c < 1000)) && (fit (td l) && (fit (td r) && true))) = true
    rw [a, td_fit l h.2.1, td_fit r h.2.2]
    rfl
theorem td_wd : ∀ t : Tr, t.ok → wd (td t) ≤ 100 * t.sz + 4
  | .nil, _ => Nat.le_refl _
  | .nd g l r, h => by
    have a := td_wd l h.2.1
    have b := td_wd r h.2.2
    have c := tag_len h.1
    show (10 * g.length + 2) + 2 + (wd (td l) + 2 + (wd (td r) + 2 + 0)) + 3 ≤ 100 * (l.sz + r.sz + 1) + 4
    omega
theorem sz_wd : ∀ t : Tr, t.sz ≤ wd (td t)
  | .nil => Nat.zero_le _
  | .nd g l r => by
    have a := sz_wd l
    have b := sz_wd r
    show l.sz + r.sz + 1 ≤ (10 * g.length + 2) + 2 + (wd (td l) + 2 + (wd (td r) + 2 + 0)) + 3
    omega
theorem ht_depth : ∀ t : Tr, t.ht ≤ (td t).depth
  | .nil => Nat.le_refl _
  | .nd g l r => by
    have a := ht_depth l
    have b := ht_depth r
    show max l.ht r.ht + 1 ≤ max 0 (max (td l).depth (max (td r).depth 0)) + 1
    omega
mutual
theorem isT_td : ∀ d : PyData, isT d = true → ∃ t : Tr, t.ok ∧ td t = d
  | .none, _ => ⟨.nil, trivial, rfl⟩
  | .bool _, h => by cases h
  | .int _, h => by cases h
  | .str _, h => by cases h
  | .list _, h => by cases h
  | .dict _, h => by cases h
  | .tuple ds, h => isTs_td ds h
theorem isTs_td : ∀ ds : List PyData, tri ds (isTs ds) = true → ∃ t : Tr, t.ok ∧ td t = .tuple ds
  | [], h => by cases h
  | [_], h => by cases h
  | [_, _], h => by cases h
  | _ :: _ :: _ :: _ :: _, h => by cases h
  | [x, a, b], h => by
    have h2 : (isTagD x && (isT a && isT b)) = true := h
    rw [Bool.and_eq_true, Bool.and_eq_true] at h2
    obtain ⟨l, ol, el⟩ := isT_td a h2.2.1
    obtain ⟨r, or', er⟩ := isT_td b h2.2.2
    cases x with
    | str g => exact ⟨.nd g l r, ⟨h2.1, ol, or'⟩, by rw [td, el, er]⟩
    | none => cases h2.1
    | bool _ => cases h2.1
    | int _ => cases h2.1
    | list _ => cases h2.1
    | tuple _ => cases h2.1
    | dict _ => cases h2.1
end
/-! ### data in the heap, none of its lists and dicts at ms -/
def kD : Key → PyData
  | .inl i => .int i
  | .inr x => .str x
mutual
inductive An (ms : List Addr) (H : Hp) : V → PyData → Prop
  | non : An ms H .non .none
  | bl (b : Bool) : An ms H (.bl b) (.bool b)
  | int (i : Int) : An ms H (.int i) (.int i)
  | str (x : Str) : An ms H (.str x) (.str x)
  | lst {a : Addr} {xs : List V} {ds : List PyData} : H a = some (.lst xs) → a ∉ ms → AnAll ms H xs ds → An ms H (.ref a) (.list ds)
  | tup {a : Addr} {xs : List V} {ds : List PyData} : H a = some (.tup xs) → AnAll ms H xs ds → An ms H (.ref a) (.tuple ds)
  | dct {a : Addr} {kvs : List (Key × V)} {ds : List (PyData × PyData)} : H a = some (.dK kvs) → a ∉ ms → AnKv ms H kvs ds → An ms H (.ref a) (.dict ds)
inductive AnAll (ms : List Addr) (H : Hp) : List V → List PyData → Prop
  | nil : AnAll ms H [] []
  | cons {v : V} {vs : List V} {d : PyData} {ds : List PyData} : An ms H v d → AnAll ms H vs ds → AnAll ms H (v :: vs) (d :: ds)
inductive AnKv (ms : List Addr) (H : Hp) : List (Key × V) → List (PyData × PyData) → Prop
  | nil : AnKv ms H [] []
  | cons {k : Key} {v : V} {kvs : List (Key × V)} {d : PyData} {ds : List (PyData × PyData)} : An ms H v d → AnKv ms H kvs ds → AnKv ms H ((k, v) :: kvs) ((kD k, d) :: ds)
end
section
variable {ms ms' : List Addr} {H H1 : Hp}
mutual
theorem An.kp (k : Kp ms' H H1) (hs : ∀ x ∈ ms', x ∈ ms) : ∀ {v : V} (d : PyData), An ms H v d → An ms H1 v d
  | _, .none, h => by cases h; exact .non
  | _, .bool b, h => by cases h; exact .bl b
  | _, .int i, h => by cases h; exact .int i
  | _, .str x, h => by cases h; exact .str x
  | _, .list ds, h => by
    cases h with
    | lst e n a => exact .lst (k.at_ _ _ e fun q => n (hs _ q)) n (AnAll.kp k hs ds a)
  | _, .tuple ds, h => by
    cases h with
    | tup e a => exact .tup (k.tup _ _ e) (AnAll.kp k hs ds a)
  | _, .dict ds, h => by
    cases h with
    | dct e n a => exact .dct (k.at_ _ _ e fun q => n (hs _ q)) n (AnKv.kp k hs ds a)
theorem AnAll.kp (k : Kp ms' H H1) (hs : ∀ x ∈ ms', x ∈ ms) : ∀ {vs : List V} (ds : List PyData), AnAll ms H vs ds → AnAll ms H1 vs ds
  | _, [], h => by cases h; exact .nil
  | _, d :: r, h => by
    cases h with
    | cons a b => exact .cons (An.kp k hs d a) (AnAll.kp k hs r b)
theorem AnKv.kp (k : Kp ms' H H1) (hs : ∀ x ∈ ms', x ∈ ms) : ∀ {vs : List (Key × V)} (ds : List (PyData × PyData)), AnKv ms H vs ds → AnKv ms H1 vs ds
  | _, [], h => by cases h; exact .nil
  | _, (y, d) :: r, h => by
    cases h with
    | cons a b => exact .cons (An.kp k hs d a) (AnKv.kp k hs r b)
end
theorem TreeAt.an {v : V} {t : Tr} (h : TreeAt H v t) : An ms H v (td t) := by
  induction h with
  | nil => exact .non
  | nd e _ _ ih1 ih2 => exact .tup e (.cons (.str _) (.cons ih1 (.cons ih2 .nil)))
theorem An.tree : ∀ (t : Tr) {v : V}, An ms H v (td t) → TreeAt H v t
  | .nil, _, h => by cases h; exact .nil
  | .nd g l r, _, h => by
    cases h with
    | tup e a =>
      cases a with
      | cons a1 a =>
        cases a1
        cases a with
        | cons a2 a =>
          cases a with
          | cons a3 a =>
            cases a
            exact .nd e (An.tree l a2) (An.tree r a3)
theorem AnAll.append {vs ws : List V} {ds es : List PyData} (h : AnAll ms H vs ds) (g : AnAll ms H ws es) : AnAll ms H (vs ++ ws) (ds ++ es) := by
  induction ds generalizing vs with
  | nil => cases h; exact g
  | cons d r ih =>
    cases h with
    | cons a b => exact .cons a (ih b)
theorem AnAll.length {vs : List V} {ds : List PyData} (h : AnAll ms H vs ds) : vs.length = ds.length := by
  induction ds generalizing vs with
  | nil => cases h; rfl
  | cons d r ih =>
    cases h with
    | cons a b => rw [List.length_cons, List.length_cons, ih b]
theorem AnAll.take {vs : List V} {ds : List PyData} (h : AnAll ms H vs ds) (n : Nat) : AnAll ms H (vs.take n) (ds.take n) := by
  induction ds generalizing vs n with
  | nil =>
    cases h
    rw [List.take_nil, List.take_nil]
    exact .nil
  | cons d r ih =>
    cases h with
    | cons a b =>
      cases n with
      | zero => exact .nil
      | succ n => exact .cons a (ih b n)
theorem AnAll.drop {vs : List V} {ds : List PyData} (h : AnAll ms H vs ds) (n : Nat) : AnAll ms H (vs.drop n) (ds.drop n) := by
  induction ds generalizing vs n with
  | nil =>
    cases h
    rw [List.drop_nil, List.drop_nil]
    exact .nil
  | cons d r ih =>
    cases h with
    | cons a b =>
      cases n with
      | zero => exact .cons a b
      | succ n => exact ih b n
theorem AnAll.rev {vs : List V} {ds : List PyData} (h : AnAll ms H vs ds) : AnAll ms H vs.reverse ds.reverse := by
  induction ds generalizing vs with
  | nil => cases h; exact .nil
  | cons d r ih =>
    cases h with
    | cons a b =>
      rw [List.reverse_cons, List.reverse_cons]
      exact (ih b).append (.cons a .nil)
theorem AnAll.get {vs : List V} {ds : List PyData} (h : AnAll ms H vs ds) {i : Nat} {v : V} (e : vs[i]? = some v) : ∃ d, ds[i]? = some d ∧ An ms H v d := by
  induction ds generalizing vs i with
  | nil => cases h; cases e
  | cons d r ih =>
    cases h with
    | cons a b =>
      cases i with
      | zero =>
        cases e
        exact ⟨d, rfl, a⟩
      | succ i => exact ih b e
/-- all at ms is tracked -/
def Has (ms : List Addr) (H : Hp) : Prop := ∀ b ∈ ms, H b ≠ none
theorem Has.fresh {p : Addr} (h : Has ms H) (n : H p = none) : p ∉ ms := fun q => h p q n
theorem Has.new {p : Addr} {o : HO} (h : Has ms H) : Has ms (upd H p o) := fun b q => by
  by_cases e : b = p
  · rw [e, upd_same]
    exact fun z => nomatch z
  · rw [upd_ne e]
    exact h b q
theorem Has.kp (h : Has ms H) (k : Kp ms' H H1) (hs : ∀ b ∈ ms', H1 b ≠ none) : Has ms H1 := fun b q => by
  by_cases m : b ∈ ms'
  · exact hs b m
  · cases e : H b with
    | none => exact absurd e (h b q)
    | some o =>
      rw [k.at_ b o e m]
      exact fun z => nomatch z
end
section
variable {X : Cx} {pins : List (Addr × Obj)} {σ : L2.St} {H : Hp} {s : Shared} {ms : List Addr}
theorem low (I : Inv X pins σ H s) (hs : ∃ mm, X.base.Ns sysModules mm) {a : Addr} {o : HO} (e : H a = some o) : a ≠ sysModules := by
  rintro rfl
  obtain ⟨mm, ob, es, ep, g, _⟩ := hs
  rw [(I.bs _ _ g).2] at e
  cases e
theorem key_reads (k : Key) (y : Value) (h : keyIs k y = true) : Reads s.heap y (kD k) [] := by
  rcases keyIs_shape h with ⟨i, t, rfl, rfl⟩ | ⟨x, t, rfl, rfl⟩
  · exact .int i t
  · exact .str x t
mutual
theorem An.reads (I : Inv X pins σ H s) (hs : ∃ mm, X.base.Ns sysModules mm) : ∀ {v : V} {u : Value} (d : PyData), An ms H v d → RelV v u → ∃ as, Reads s.heap u d as ∧ sysModules ∉ as
  | _, _, .none, h, r => by
    cases h
    cases r
    exact ⟨_, .none, List.not_mem_nil⟩
  | _, _, .bool b, h, r => by
    cases h
    cases r
    exact ⟨_, .bool b, List.not_mem_nil⟩
  | _, _, .int i, h, r => by
    cases h
    obtain ⟨t, rfl⟩ := r
    exact ⟨_, .int i t, List.not_mem_nil⟩
  | _, _, .str x, h, r => by
    cases h
    obtain ⟨t, rfl⟩ := r
    exact ⟨_, .str x t, List.not_mem_nil⟩
  | _, _, .list ds, h, r => by
    cases h with
    | @lst a xs _ e n hd =>
      cases r
      obtain ⟨_, its, m, rv, at0⟩ := (show ObjOk X.prog X.w H s.heap a (.lst xs) from I.hok a _ e)
      obtain ⟨as, q, nq⟩ := AnAll.reads I hs ds hd rv
      refine ⟨_, .list at0 rfl rfl q, fun z => ?_⟩
      rcases List.mem_cons.mp z with z | z
      · exact low I hs e z.symm
      · exact nq z
  | _, _, .tuple ds, h, r => by
    cases h with
    | @tup a xs _ e hd =>
      cases r
      obtain ⟨_, its, rv, o, h1, h2, n, h3⟩ := (show ObjOk X.prog X.w H s.heap a (.tup xs) from I.hok a _ e)
      obtain ⟨as, q, nq⟩ := AnAll.reads I hs ds hd rv
      exact ⟨_, .tuple h1 h2 h3 q, nq⟩
  | _, _, .dict ds, h, r => by
    cases h with
    | @dct a kvs _ e n hd =>
      cases r
      obtain ⟨_, lo, vs, rk, dd⟩ := (show ObjOk X.prog X.w H s.heap a (.dK kvs) from I.hok a _ e)
      obtain ⟨as, q, nq⟩ := AnKv.reads I hs ds hd rk
      refine ⟨_, PyProof.V.reads_dictOf (fun k y hk => key_reads k y hk) dd q, fun z => ?_⟩
      rcases List.mem_cons.mp z with z | z
      · exact low I hs e z.symm
      · exact nq z
theorem AnAll.reads (I : Inv X pins σ H s) (hs : ∃ mm, X.base.Ns sysModules mm) : ∀ {vs : List V} {us : List Value} (ds : List PyData), AnAll ms H vs ds → Vals vs us → ∃ as, ReadsAll s.heap us ds as ∧ sysModules ∉ as
  | _, _, [], h, r => by
    cases h
    cases r
    exact ⟨_, .nil, List.not_mem_nil⟩
  | _, _, d :: ds, h, r => by
    cases h with
    | cons h1 h2 =>
      cases r with
      | cons r1 r2 =>
        obtain ⟨as, q1, n1⟩ := An.reads I hs d h1 r1
        obtain ⟨bs, q2, n2⟩ := AnAll.reads I hs ds h2 r2
        exact ⟨_, .cons q1 q2, fun z => (List.mem_append.mp z).elim n1 n2⟩
theorem AnKv.reads (I : Inv X pins σ H s) (hs : ∃ mm, X.base.Ns sysModules mm) : ∀ {kvs : List (Key × V)} {vs : List (Key × Value)} (ds : List (PyData × PyData)), AnKv ms H kvs ds → KV kvs vs → ∃ as, PyProof.V.PairsRead s.heap kD vs ds as ∧ sysModules ∉ as
  | _, _, [], h, r => by
    cases h
    cases r
    exact ⟨_, .nil, List.not_mem_nil⟩
  | _, _, (y, d) :: ds, h, r => by
    cases h with
    | @cons k v kvs _ _ h1 h2 =>
      cases r with
      | @cons _ b _ _ r1 r2 =>
        obtain ⟨k2, u⟩ := b
        obtain ⟨e, r1⟩ := r1
        have e' : k = k2 := e
        subst e'
        obtain ⟨as, q1, n1⟩ := An.reads I hs d h1 r1
        obtain ⟨bs, q2, n2⟩ := AnKv.reads I hs ds h2 r2
        exact ⟨_, .cons q1 q2, fun z => (List.mem_append.mp z).elim n1 n2⟩
end
/-- repr of data, dicts among it -/
def rReprA (ms : List Addr) : List V → Hp → VK → Prop := fun xs H Q =>
  ∃ v d, xs = [v] ∧ An ms H v d ∧ fit d = true ∧ d.depth ≤ 100 ∧ wd d ≤ 1000000 ∧ Q (.str d.shown) H
theorem cr_reprA {k : Nat} (hs : ∃ mm, X.base.Ns sysModules mm) (hg : X.A.guards = some []) (hr : Room k X.A) : CallR X (.builtin "repr") (rReprA ms) := by
  intro pins s σ H xs us Q I r h
  obtain ⟨v, d, rfl, hd, hf, hp, hz, q⟩ := h
  obtain ⟨u, rfl, ru⟩ := vals1 r
  obtain ⟨as, rd, ns⟩ := An.reads I hs d hd ru
  obtain ⟨sh, ln⟩ := fit_told d hf
  have z : d.shown.length ≤ sizeLine := Nat.le_trans ln (Nat.le_trans hz (by decide))
  have room : X.A.units + (d.depth + 1) < cLine := by
    have := hr.un
    omega
  have fin : ∀ (h' : Heap) (tk : Nat) (t : Tok), (∀ b o, s.heap.get? b = some o → h'.get? b = some o) → EP X pins σ Q (.str d.shown t) { s with heap := h', toks := tk } :=
    fun h' tk t hk => ⟨.str d.shown, H, I.kept hk, ⟨t, rfl⟩, q⟩
  cases rd with
  | none => exact PySem.P.repr_of_none (fin s.heap _ _ fun _ _ e => e)
  | bool b => exact PySem.P.repr_of_bool (fin s.heap _ _ fun _ _ e => e)
  | int i t => exact PySem.P.repr_of_int (of_decide_eq_true sh) (fin s.heap _ _ fun _ _ e => e)
  | str x t => exact PySem.P.repr_of_str (fin s.heap _ _ fun _ _ e => e) z
  | list a b c e => exact repr_of_reads' (.list a b c e) sh (fun _ => ns) hg room (fun _ _ e => e) (fun h' u tk hk => fin h' tk u hk) z
  | tuple a b c e => exact repr_of_reads' (.tuple a b c e) sh (fun _ => ns) hg room (fun _ _ e => e) (fun h' u tk hk => fin h' tk u hk) z
  | dict a b c e f => exact repr_of_reads' (.dict a b c e f) sh (fun _ => ns) hg room (fun _ _ e => e) (fun h' u tk hk => fin h' tk u hk) z
end
/-! ### kinds -/
def isTup : PyData → Bool
  | .tuple _ => true
  | .none | .bool _ | .int _ | .list _ | .str _ | .dict _ => false
def isStr : PyData → Bool
  | .str _ => true
  | .none | .bool _ | .int _ | .list _ | .tuple _ | .dict _ => false
theorem An.tupK {ms : List Addr} {K : PySem.W.Frag} {H : Hp} {v : V} {d : PyData} (h : An ms H v d) : ∃ t, TyX K H v t ∧ PySem.W.kitOne K t (.type "tuple") = some (isTup d) := by
  cases h with
  | non => exact ⟨_, .base .non, kit_ty (r := false) (by decide +kernel)⟩
  | bl b => exact ⟨_, .base (.bl b), kit_ty (r := false) (by decide +kernel)⟩
  | int i => exact ⟨_, .base (.int i), kit_ty (r := false) (by decide +kernel)⟩
  | str x => exact ⟨_, .base (.str x), kit_ty (r := false) (by decide +kernel)⟩
  | lst e => exact ⟨_, .base (.lst e), kit_ty (r := false) (by decide +kernel)⟩
  | tup e => exact ⟨_, .base (.tup e), kit_ty (r := true) (by decide +kernel)⟩
  | dct e => exact ⟨_, .base (.dK e), kit_ty (r := false) (by decide +kernel)⟩
theorem An.strK {ms : List Addr} {K : PySem.W.Frag} {H : Hp} {v : V} {d : PyData} (h : An ms H v d) : ∃ t, TyX K H v t ∧ PySem.W.kitOne K t (.type "str") = some (isStr d) := by
  cases h with
  | non => exact ⟨_, .base .non, kit_ty (r := false) (by decide +kernel)⟩
  | bl b => exact ⟨_, .base (.bl b), kit_ty (r := false) (by decide +kernel)⟩
  | int i => exact ⟨_, .base (.int i), kit_ty (r := false) (by decide +kernel)⟩
  | str x => exact ⟨_, .base (.str x), kit_ty (r := true) (by decide +kernel)⟩
  | lst e => exact ⟨_, .base (.lst e), kit_ty (r := false) (by decide +kernel)⟩
  | tup e => exact ⟨_, .base (.tup e), kit_ty (r := false) (by decide +kernel)⟩
  | dct e => exact ⟨_, .base (.dK e), kit_ty (r := false) (by decide +kernel)⟩
theorem An.noneK {ms : List Addr} {H : Hp} {v : V} {d : PyData} (h : An ms H v d) : v = .non ↔ d = .none := by
  cases h <;> simp
theorem isi_tup {ms : List Addr} {K : PySem.W.Frag} {H : Hp} {v : V} {d : PyData} {Q : VK} (h : An ms H v d) (q : Q (.bl (isTup d)) H) : rIsi K [v, .ty "tuple"] H Q := by
  obtain ⟨t, a, b⟩ := h.tupK (K := K)
  exact ⟨v, .ty "tuple", t, .type "tuple", _, rfl, .ty "tuple", a, b, q⟩
theorem isi_str {ms : List Addr} {K : PySem.W.Frag} {H : Hp} {v : V} {d : PyData} {Q : VK} (h : An ms H v d) (q : Q (.bl (isStr d)) H) : rIsi K [v, .ty "str"] H Q := by
  obtain ⟨t, a, b⟩ := h.strK (K := K)
  exact ⟨v, .ty "str", t, .type "str", _, rfl, .ty "str", a, b, q⟩
end Ey
set_option maxHeartbeats 4000000
namespace Ey
open PySem PySem.Spec PyProof.Rows L2 PySem.SeqAt
/-! ### any data beside a text -/
def isThe (t : Str) : PyData → Bool
  | .str g => decide (g = t)
  | .none | .bool _ | .int _ | .list _ | .tuple _ | .dict _ => false
section
variable {A : Around} {s : Shared}
theorem rcNe_dict_str {l : Addr} {o : Obj} {es : Array DictEntry} {n : Nat} (b : Str) (u : Tok) (ho : s.heap.get? l = some o) (hc : o.cls = .type "dict") (hd : o.data = .dict es n) (hu : A.units < cLine) : RcNeAt A s (.ref l) (.str b u) true := fun prog w E Q h => by
  obtain ⟨cls, dd, data, sl⟩ := o
  simp only at hc hd
  subst hc hd
  exact rc_ne_decline_or (k := false) ⟨_, ho, rfl⟩ (typeIs_str s b u) (by decide) F.sub_str_dict F.slot_dict_ne F.slot_str_ne_refl
    (fun _ hq => call_meets F.slot_dict_ne ⟨_, ho, rfl⟩ F.entry_dict_ne (F.args_dict_ne_2 _ _) (dict_ne_declines_str l es n dd sl b u) ⟨ho, hq⟩)
    (fun _ hq => call_meets F.slot_str_ne_refl (typeIs_str s b u) F.entry_str_ne (F.args_str_ne_2 _ _) (str_ne_declines_dict b u l es n dd sl) ⟨ho, hq⟩)
    (fun _ hq => wpAny_of_eq (rfl : isSame (.ref l) (.str b u) = pure false) hq) (.inr hu) h
theorem rc_str_dict {l : Addr} {o : Obj} {es : Array DictEntry} {n : Nat} (b : Str) (u : Tok) (ho : s.heap.get? l = some o) (hc : o.cls = .type "dict") (hd : o.data = .dict es n) (hu : A.units < cLine) : RcAt A s (.str b u) (.ref l) false := fun prog w E Q h => by
  obtain ⟨cls, dd, data, sl⟩ := o
  simp only at hc hd
  subst hc hd
  exact rc_eq_decline_or (k := false) (typeIs_str s b u) ⟨_, ho, rfl⟩ (by decide) F.sub_dict_str F.slot_str_eq F.slot_dict_eq_refl
    (fun _ hq => call_meets F.slot_str_eq (typeIs_str s b u) F.entry_str_eq (F.args_str_eq_2 _ _) (str_eq_declines_dict b u l es n dd sl) ⟨ho, hq⟩)
    (fun _ hq => call_meets F.slot_dict_eq_refl ⟨_, ho, rfl⟩ F.entry_dict_eq (F.args_dict_eq_2 _ _) (dict_eq_declines_str l es n dd sl b u) ⟨ho, hq⟩)
    (fun _ hq => wpAny_of_eq (rfl : isSame (.str b u) (.ref l) = pure false) hq) (.inr hu) h
theorem eq_str_dict {l : Addr} {o : Obj} {es : Array DictEntry} {n : Nat} (b : Str) (u : Tok) (ho : s.heap.get? l = some o) (hc : o.cls = .type "dict") (hd : o.data = .dict es n) (hu : A.units < cLine) : EqAt A s (.str b u) (.ref l) false := fun prog w E Q h => by
  unfold eqBool
  refine wpAny_holding ?_
  refine wpAny_ite_split (fun hab => absurd (eq_of_beq hab) nofun) (fun _ => ?_)
  exact wpAny_bind (rc_str_dict b u ho hc hd hu prog w E _ (wpAny_truthy_bool h))
end
section
variable {X : Cx} {pins : List (Addr × Obj)} {σ : L2.St} {H : Hp} {s : Shared}
theorem dict_obj {a : Addr} {kvs : List (Key × V)} (I : Inv X pins σ H s) (e : H a = some (.dK kvs)) : ∃ (o : Obj) (es : Array DictEntry) (n : Nat), s.heap.get? a = some o ∧ o.cls = .type "dict" ∧ o.data = .dict es n := by
  obtain ⟨_, _, vs, _, o, es, ep, h1, h2, h3, _⟩ := (show ObjOk X.prog X.w H s.heap a (.dK kvs) from I.hok a _ e)
  exact ⟨o, es, ep, h1, h2.1, h3⟩
theorem tup_obj {a : Addr} {xs : List V} (I : Inv X pins σ H s) (e : H a = some (.tup xs)) : ∃ its : List Value, Vals xs its ∧ s.heap.IsTuple a its.toArray := by
  obtain ⟨_, its, r, t⟩ := (show ObjOk X.prog X.w H s.heap a (.tup xs) from I.hok a _ e)
  exact ⟨its, r, t⟩
theorem lst_obj {a : Addr} {xs : List V} (I : Inv X pins σ H s) (e : H a = some (.lst xs)) : ∃ its : List Value, Vals xs its ∧ s.heap.IsList a its.toArray := by
  obtain ⟨_, its, n, r, t⟩ := (show ObjOk X.prog X.w H s.heap a (.lst xs) from I.hok a _ e)
  exact ⟨its, r, ⟨_, t, rfl, n, rfl⟩⟩
/-- x != t, t a text -/
def rNeAn : R2 := fun x y H Q => ∃ ms d t, An ms H x d ∧ y = .str t ∧ Q (.bl (!isThe t d)) H
theorem op_neAn (hu : X.A.units < cLine) : OpR X (compareOp .NotEq) rNeAn := by
  intro pins s σ H x y v u Q I rx ry h
  obtain ⟨ms, d, t, hx, rfl, q⟩ := h
  obtain ⟨tk, rfl⟩ := ry
  have fin : ∀ b : Bool, (!isThe t d) = b → EP X pins σ Q (.bool b) s := fun b e => ⟨.bl b, H, I, rfl, e ▸ q⟩
  show wpAny _ _ (richCompare .NotEq v (.str t tk)) _ _ s
  cases hx with
  | non =>
    cases rx
    exact RcNeAt.none_str t tk _ _ _ _ (fin _ rfl)
  | bl b =>
    cases rx
    exact RcNeAt.bool_str b t tk _ _ _ _ (fin _ rfl)
  | int i =>
    obtain ⟨t2, rfl⟩ := rx
    exact RcNeAt.int_str i t2 t tk _ _ _ _ (fin _ rfl)
  | str g =>
    obtain ⟨t2, rfl⟩ := rx
    refine RcNeAt.str_str g t2 t tk _ _ _ _ (fin _ ?_)
    show (!decide (g = t)) = !(g == t)
    by_cases e : g = t
    · subst e
      simp
    · simp [e]
  | @lst a xs ds e n hd =>
    cases rx
    obtain ⟨its, r, p⟩ := lst_obj I e
    exact RcNeAt.list_str t tk p hu _ _ _ _ (fin _ rfl)
  | @tup a xs ds e hd =>
    cases rx
    obtain ⟨its, r, p⟩ := tup_obj I e
    exact RcNeAt.tuple_str t tk p hu _ _ _ _ (fin _ rfl)
  | @dct a kvs ds e n hd =>
    cases rx
    obtain ⟨o, es, ep, h1, h2, h3⟩ := dict_obj I e
    exact rcNe_dict_str t tk h1 h2 h3 hu _ _ _ _ (fin _ rfl)
/-- x in (t, ..), a tuple or list of texts -/
def rInAn (K : PySem.W.Frag) : R2 := fun x y H Q => ∃ (ms : List Addr) (d : PyData) (p : Addr) (ts : List Str), An ms H x d ∧ y = .ref p ∧ SqT K H p (ts.map V.str) ∧ Q (.bl (ts.any fun t => isThe t d)) H
theorem op_inAn (hu : X.A.units + 1 < cLine) : OpR X (compareOp .In) (rInAn X.K) := by
  intro pins s σ H x y v u Q I rx ry h
  obtain ⟨ms, d, p, ts, hx, rfl, hq, q⟩ := h
  cases ry
  obtain ⟨its, r, pl, hz⟩ := I.tuple hq
  let eU : Value → Bool := fun w => match w with
    | .str z _ => isThe z d
    | _ => false
  have ev : ∀ (ts : List Str) (us : List Value), Vals (ts.map V.str) us → us.any eU = ts.any fun t => isThe t d := by
    intro ts
    induction ts with
    | nil =>
      intro us h
      cases h
      rfl
    | cons t r ih =>
      intro us h
      cases h with
      | cons a b =>
        obtain ⟨tk, rfl⟩ := a
        rw [List.any_cons, List.any_cons, ih _ b]
  have each : ∀ (ts : List Str) (us : List Value), Vals (ts.map V.str) us → ∀ w ∈ us, ∃ z tk, w = .str z tk := by
    intro ts
    induction ts with
    | nil =>
      intro us h
      cases h
      exact fun w hw => absurd hw List.not_mem_nil
    | cons t r ih =>
      intro us h
      cases h with
      | cons a b =>
        obtain ⟨tk, rfl⟩ := a
        intro w hw
        rcases List.mem_cons.mp hw with rfl | hw
        · exact ⟨_, _, rfl⟩
        · exact ih _ b w hw
  refine SeqAt.in_tupleAt eU pl (fun w hw => ?_) ⟨.bl _, H, I, rfl, ?_⟩
  · obtain ⟨z, tk, rfl⟩ := each ts its r w (by simpa using hw)
    cases hx with
    | non =>
      cases rx
      exact EqAt.str_none z tk
    | bl b =>
      cases rx
      exact EqAt.str_bool z tk b
    | int i =>
      obtain ⟨t2, rfl⟩ := rx
      exact EqAt.str_int z tk i t2
    | str g =>
      obtain ⟨t2, rfl⟩ := rx
      have e : eU (.str z tk) = (z == g) := by
        show decide (g = z) = (z == g)
        by_cases e : g = z
        · subst e
          simp
        · have e2 : ¬ z = g := fun h => e h.symm
          simp [e, e2]
      rw [e]
      exact EqAt.str_str z tk g t2
    | @lst a xs ds e n hd =>
      cases rx
      obtain ⟨its, r, p⟩ := lst_obj I e
      exact EqAt.str_list z tk p (show X.A.units + 1 < cLine from hu)
    | @tup a xs ds e hd =>
      cases rx
      obtain ⟨its, r, p⟩ := tup_obj I e
      exact EqAt.str_tuple z tk p (show X.A.units + 1 < cLine from hu)
    | @dct a kvs ds e n hd =>
      cases rx
      obtain ⟨o, es, ep, h1, h2, h3⟩ := dict_obj I e
      exact eq_str_dict z tk h1 h2 h3 (show X.A.units + 1 < cLine from hu)
  · rw [show its.toArray.any eU = its.any eU by simp, ev ts its r]
    exact q
/-- t == (), t any tuple -/
def rEqE : R2 := fun x y H Q => ∃ a b xs, x = .ref a ∧ y = .ref b ∧ H a = some (.tup xs) ∧ H b = some (.tup []) ∧ Q (.bl xs.isEmpty) H
theorem op_eqE (hu : X.A.units + 64 < cLine) : OpR X (compareOp .Eq) rEqE := by
  intro pins s σ H x y v u Q I rx ry h
  obtain ⟨a, b, xs, rfl, rfl, h1, h2, q⟩ := h
  cases rx
  cases ry
  obtain ⟨its, r, p⟩ := tup_obj I h1
  obtain ⟨its2, r2, p2⟩ := tup_obj I h2
  cases r2
  refine PySem.W.eq_tuplesT (n := 1) (e := fun _ => true) p p2 (fun j h1 h2 => absurd h2 (by simp)) (by omega) ⟨.bl xs.isEmpty, H, I, ?_, q⟩
  cases r with
  | nil => rfl
  | cons _ _ => rfl

end
end Ey
set_option maxHeartbeats 4000000
namespace Ey
open PySem PySem.Spec L2
/-! ### a list of one's own as a pile, its top first -/
theorem pile_top (x : V) (us : List V) : ((x :: us).reverse)[(x :: us).reverse.length - 1]? = some x := by
  rw [List.reverse_cons, List.length_append]
  show (us.reverse ++ [x])[us.reverse.length + 1 - 1]? = some x
  rw [Nat.add_sub_cancel, List.getElem?_append_right (Nat.le_refl _), Nat.sub_self]
  rfl
theorem pile_pop (x : V) (us : List V) : ((x :: us).reverse).dropLast = us.reverse := by
  rw [List.reverse_cons]
  exact List.dropLast_concat
theorem pile_push (x : V) (us : List V) : us.reverse ++ [x] = (x :: us).reverse := (List.reverse_cons).symm
theorem Kp.own {ms : List Addr} {H H1 : Hp} {p : Addr} {o : HO} (k : Kp ms H H1) (n : H p = none) : Kp ms H (upd H1 p o) :=
  ⟨fun b u e h => by rw [upd_ne (ne_of_none e n)]; exact k.at_ b u e h, fun b xs e => by rw [upd_ne (ne_of_none e n)]; exact k.tup b xs e⟩
theorem tabg_kp {ms : List Addr} {H H1 : Hp} {P : Addr} (g : GxR.TabG H P) (k : Kp ms H H1) (n : P ∉ ms) : GxR.TabG H1 P := by
  obtain ⟨ps, h, t⟩ := g
  exact ⟨ps, k.at_ _ _ h n, t⟩
theorem tabg_upd {H : Hp} {P p : Addr} {o : HO} (g : GxR.TabG H P) (n : P ≠ p) : GxR.TabG (upd H p o) P := by
  obtain ⟨ps, h, t⟩ := g
  exact ⟨ps, by rw [upd_ne n]; exact h, t⟩
/-- H' is H but for the table at P -/
abbrev Tb (P : Addr) (H H' : Hp) : Prop := GxR.Tabbed P H H'
theorem tb_refl {P : Addr} {H : Hp} (h : GxR.TabG H P) : Tb P H H := ⟨h, fun _ _ => rfl⟩
theorem tb_kp {P : Addr} {H H1 : Hp} (g : GxR.TabG H P) (a : Tb P H H1) : Kp [P] H H1 := by
  refine ⟨fun b o e n => ?_, fun b xs e => ?_⟩
  · rw [a.2 b (fun q => n (by rw [q]; simp))]
    exact e
  · rw [a.2 b (fun q => ?_)]
    · exact e
    · obtain ⟨ps, h, _⟩ := g
      rw [q, h] at e
      cases e
/-- the tables of all defs that have generators -/
def TTs (Ts : List Addr) (H : Hp) : Prop := ∀ P ∈ Ts, GxR.TabG H P
theorem TTs.tab {Ts : List Addr} {H H1 : Hp} {P : Addr} (h : TTs Ts H) (hP : P ∈ Ts) (t : Tb P H H1) : TTs Ts H1 ∧ Kp Ts H H1 := by
  refine ⟨fun q hq => ?_, (tb_kp (h P hP) t).more fun x hx => by rw [List.mem_singleton.mp hx]; exact hP⟩
  by_cases e : q = P
  · rw [e]
    exact t.1
  · obtain ⟨ps, a, b⟩ := h q hq
    exact ⟨ps, (t.2 q e).trans a, b⟩
theorem TTs.kp {ms Ts : List Addr} {H H1 : Hp} (h : TTs Ts H) (k : Kp ms H H1) (n : ∀ P ∈ Ts, P ∉ ms) : TTs Ts H1 := fun P hP => tabg_kp (h P hP) k (n P hP)
theorem TTs.kp0 {Ts : List Addr} {H H1 : Hp} (h : TTs Ts H) (k : Kp [] H H1) : TTs Ts H1 := h.kp k fun _ _ => List.not_mem_nil
theorem TTs.ne {Ts : List Addr} {H : Hp} {P p : Addr} (h : TTs Ts H) (hP : P ∈ Ts) (n : H p = none) : P ≠ p := by
  obtain ⟨ps, e, _⟩ := h P hP
  exact ne_of_none e n
theorem TTs.nin {Ts : List Addr} {H : Hp} {p : Addr} (h : TTs Ts H) (n : H p = none) : p ∉ Ts := fun hp => h.ne hp n rfl
theorem TTs.nino {Ts : List Addr} {H : Hp} {p : Addr} {o : HO} (h : TTs Ts H) (e : H p = some o) (no : ∀ ps, o ≠ .tbl ps) : p ∉ Ts := fun hp => by
  obtain ⟨ps, e2, _⟩ := h p hp
  rw [e2] at e
  exact no ps (Option.some.inj e).symm
/-- all(..) over a tuple that stays -/
theorem all_tup {K : PySem.W.Frag} {a : Addr} {xs : List V} {te : TE} {Q : VK} {H1 : Hp} (Pv : Nat → Hp → Prop) (h0 : Pv 0 H1) (hl : ∀ i H, Pv i H → SqT K H a xs)
    (hs : ∀ i x H, xs[i]? = some x → Pv i H → te [some x] H fun y H3 => ∃ b, y = .bl b ∧ if b = true then Pv (i + 1) H3 else Q (.bl false) H3) (hd : ∀ H, Pv xs.length H → Q (.bl true) H) :
    ∃ (n0 : Nat) (W : Nat → Hp → Prop), W 0 H1 ∧ ∀ i H', W i H' → (i < n0 ∧ (Itt K a).go i H' ∧ ∀ v H'', (Itt K a).yld i H' v H'' → te [some v] H'' fun y H3 => ∃ b, y = .bl b ∧ if b = true then W (i + 1) H3 else Q (.bl false) H3) ∨ ((Itt K a).stop i H' ∧ Q (.bl true) H') := by
  refine ⟨xs.length, fun i H => i ≤ xs.length ∧ Pv i H, ⟨Nat.zero_le _, h0⟩, fun i H ⟨hi, p⟩ => ?_⟩
  have q := hl i H p
  by_cases lt : i < xs.length
  · refine .inl ⟨lt, ⟨xs, xs[i], q, List.getElem?_eq_getElem lt⟩, fun v H'' y => ?_⟩
    obtain ⟨e, y⟩ := y
    subst e
    have h := hs i v H'' (y xs q) p
    have e : (fun (y : V) (H3 : Hp) => ∃ b, y = .bl b ∧ if b = true then (i + 1 ≤ xs.length ∧ Pv (i + 1) H3) else Q (.bl false) H3) = fun y H3 => ∃ b, y = .bl b ∧ if b = true then Pv (i + 1) H3 else Q (.bl false) H3 := by
      funext y H3
      refine propext ⟨fun ⟨b, e, h⟩ => ⟨b, e, ?_⟩, fun ⟨b, e, h⟩ => ⟨b, e, ?_⟩⟩
      · cases b
        · exact h
        · rw [if_pos rfl] at h ⊢
          exact h.2
      · cases b
        · exact h
        · rw [if_pos rfl] at h ⊢
          exact ⟨lt, h⟩
    rw [e]
    exact h
  · have e : i = xs.length := by omega
    subst e
    exact .inr ⟨⟨xs, q, Nat.le_refl _⟩, hd H p⟩
/-- a tuple of the written part -/
def KTup (K : PySem.W.Frag) (a : Addr) (xs : List V) : Prop := ∃ (o : Obj) (its : Array Value) (n : Nat), K.lookup a = some o ∧ o.cls = .type "tuple" ∧ o.data = .seq its n ∧ its.size ≤ sizeLine ∧ Vals xs its.toList
theorem KTup.sqt {K : PySem.W.Frag} {a : Addr} {xs : List V} (h : KTup K a xs) (H : Hp) : SqT K H a xs := by
  obtain ⟨o, its, n, h1, h2, h3, h4, h5⟩ := h
  exact .inr ⟨o, its, n, h1, h2, h3, h4, h5⟩
/-- a dict of the written part: its keys are just these -/
def keyS (e : DictEntry) : Option Str := match e.key with
  | .str x _ => some x
  | _ => none
theorem no_key {K : PySem.W.Frag} {a : Addr} {o d : _} {es : Array DictEntry} {n : Nat} {sl : _} {ks : List Str} (h : K.lookup a = some ⟨o, d, .dict es n, sl⟩) (hk : es.toList.map keyS = ks.map some) {z : Str} (hz : z ∉ ks) : PySem.W.nsIn K a z = some none := by
  have all : ∀ e ∈ es.toList, ∃ x t, e.key = .str x t ∧ x ∈ ks := fun e he => by
    have m : keyS e ∈ ks.map some := hk ▸ List.mem_map.mpr ⟨e, he, rfl⟩
    obtain ⟨x, hx, ex⟩ := List.mem_map.mp m
    unfold keyS at ex
    split at ex
    · rename_i x' t' e'
      refine ⟨x', t', e', ?_⟩
      rw [← Option.some.inj ex]
      exact hx
    · cases ex
  unfold PySem.W.nsIn
  rw [h]
  have f : es.toList.find? (fun e => e.key.isStr z) = none := List.find?_eq_none.mpr fun e he q => by
    obtain ⟨x, t, e1, e2⟩ := all e he
    rw [e1] at q
    have : (x == z) = true := q
    rw [beq_iff_eq] at this
    exact hz (this ▸ e2)
  show (match es.toList.find? (fun e => e.key.isStr z) with
    | some e => some (some e.val)
    | none => if es.toList.any (fun e => e.refKey) then none else some none) = some none
  rw [f]
  have g : es.toList.any (fun e => e.refKey) = false := List.any_eq_false.mpr fun e he q => by
    obtain ⟨x, t, e1, e2⟩ := all e he
    unfold DictEntry.refKey at q
    rw [e1] at q
    cases q
  show (if es.toList.any (fun e => e.refKey) = true then none else some none) = some none
  rw [g]
  rfl
theorem fn_any {ι : Type} {P : Program} {w : World} {K : PySem.W.Frag} {mg : Str → Option Value} {base : Heap} {CX : CXT} {k : Nat} {f : Addr} {fd : FuncData} {ps : List Str} {sp : ι → Sp} (h : ∀ i, FnOk P w K mg base CX k f fd ps (sp i)) :
    FnOk P w K mg base CX k f fd ps (fun vs H Q E => ∃ i, sp i vs H Q E) :=
  ⟨fun vs H Q E ⟨i, q⟩ => (h i).len vs H Q E q, fun A outer s H args us vs Q E hr e b v ⟨i, q⟩ => (h i).run A outer s H args us vs Q E hr e b v q⟩
/-- repr of any data -/
def rReprE : List V → Hp → VK → Prop := fun xs H Q => ∃ ms, rReprA ms xs H Q
theorem cr_reprE {X : Cx} {k : Nat} (hs : ∃ mm, X.base.Ns sysModules mm) (hg : X.A.guards = some []) (hr : Room k X.A) : CallR X (.builtin "repr") rReprE := by
  intro pins s σ H xs us Q I r h
  obtain ⟨ms, h⟩ := h
  exact cr_reprA (ms := ms) hs hg hr pins s σ H xs us Q I r h
end Ey
set_option maxHeartbeats 4000000
namespace Ey
open PySem PySem.Calls PySem.Spec PyProof.Rows L2 HT
section
variable {prog : Program} {w : World} {A : Around} {E : Value → Shared → Prop} {s : Shared}
theorem ey_steps (n : Nat) : Builtin.Slice.slicePlaces ((n : Int) - 1) (-1) (-1) = n := by
  unfold Builtin.Slice.slicePlaces
  rw [if_neg (by decide)]
  by_cases hn : (n : Int) - 1 > -1
  · rw [if_pos hn]
    have q : (- -1 : Int) = 1 := by decide
    rw [q, Int.ediv_one]
    omega
  · rw [if_neg hn]
    omega
theorem ey_applied_rev {sl : Addr} {vl vu vs : Value} {n : Nat} {Q : Int × Int × Nat → Shared → Prop} (q : s.heap.IsSliceOf sl vl vu vs) (pl : IsPart vl none) (pu : IsPart vu none) (ps : IsPart vs (some (-1)))
    (h : Q ((n : Int) - 1, -1, n) s) : wpAny (model prog w) A (Builtin.Slice.sliceApplied (.ref sl) (pure (n : Int))) Q E s := by
  obtain ⟨ob, hob, hcl, hda⟩ := id q
  unfold Builtin.Slice.sliceApplied Builtin.Slice.sliceFields
  refine wpAny_bind (wpAny_bind (wpAny_field hob hda (x := vl) rfl (wpAny_bind (wpAny_field hob hda (x := vu) rfl (wpAny_bind (wpAny_field hob hda (x := vs) rfl (wpAny_pure ?_)))))))
  refine wpAny_bind (slicePart_ ps ?_)
  show wpAny _ _ (if ((-1 : Int) == 0) = true then _ else _) _ _ s
  rw [if_neg (by decide)]
  refine wpAny_bind (slicePart_ pl (wpAny_bind (slicePart_ pu (wpAny_bind (wpAny_pure ?_)))))
  show wpAny _ _ (pure ((n : Int) - 1, (-1 : Int), Builtin.Slice.slicePlaces ((n : Int) - 1) (-1) (-1))) _ _ s
  rw [ey_steps]
  exact wpAny_pure h
theorem ey_back (xs : Array Value) : ((List.range xs.size).filterMap fun (m : Nat) => xs[((xs.size : Int) - 1 + (m : Int) * -1).toNat]?).toArray = xs.toList.reverse.toArray := by
  congr 1
  refine List.ext_getElem? fun i => ?_
  have key : ∀ m, m < xs.size → xs[((xs.size : Int) - 1 + (m : Int) * -1).toNat]? = (xs.toList.reverse)[m]? := fun m hm => by
    have e : ((xs.size : Int) - 1 + (m : Int) * -1).toNat = xs.size - 1 - m := by omega
    rw [e, List.getElem?_reverse (by rw [Array.length_toList]; exact hm), Array.length_toList, Array.getElem?_toList]
  have all : ∀ l : List Nat, (∀ m ∈ l, m < xs.size) → (l.filterMap fun (m : Nat) => xs[((xs.size : Int) - 1 + (m : Int) * -1).toNat]?) = l.filterMap fun m => (xs.toList.reverse)[m]? := fun l => by
    induction l with
    | nil => intro _; rfl
    | cons a r ih =>
      intro h
      rw [List.filterMap_cons, List.filterMap_cons, key a (h a List.mem_cons_self), ih fun m hm => h m (List.mem_cons_of_mem _ hm)]
  rw [all _ fun m hm => List.mem_range.mp hm]
  have fin : ∀ ys : List Value, (List.range ys.length).filterMap (fun m => ys[m]?) = ys := fun ys => by
    induction ys with
    | nil => rfl
    | cons y r ih =>
      rw [List.length_cons, List.range_succ_eq_map, List.filterMap_cons]
      show y :: List.filterMap _ _ = _
      rw [List.filterMap_map]
      exact congrArg (List.cons y) ih
  have := fin xs.toList.reverse
  rw [List.length_reverse, Array.length_toList] at this
  rw [this]
theorem ey_tuple_rev {tp sl : Addr} {items : Array Value} {vl vu vs : Value} {Q : Value → Shared → Prop} (it : IsTup s.heap tp items) (q : s.heap.IsSliceOf sl vl vu vs) (pl : IsPart vl none) (pu : IsPart vu none) (ps : IsPart vs (some (-1)))
    (h : Q (.ref s.heap.objs.size) { s with heap := s.heap.push { cls := .type "tuple", data := .seq items.toList.reverse.toArray } })
    (hz : items.size ≤ sizeLine) : wpAny (model prog w) A (getItem (.ref tp) (.ref sl)) Q E s := by
  have fits : sizeOk (.seq items.toList.reverse.toArray) := by
    show items.toList.reverse.toArray.size ≤ sizeLine
    rw [List.size_toArray, List.length_reverse, Array.length_toList]
    exact hz
  obtain ⟨ob, hob, hcl, hda⟩ := id q
  have kind : s.TypeIs (.ref sl) "slice" := ⟨ob, hob, hcl⟩
  unfold getItem
  try with_reducible refine wpAny_holding ?_
  first | refine wpAny_bind (wpAny_pure ?_) | skip
  refine wpAny_bind (wpAny_sequenceKey it.typeIs (by decide) ?_)
  refine wpAny_bind (wpAny_callSpecial?_slot (name := Str.ofString "__getitem__") it.typeIs PyProof.Rows.slot_tuple_getitem (wpAny_call_entry PyProof.Rows.slot_tuple_getitem it.typeIs entry_tuple_getitem ?_ (args_tuple_getitem _ _)))
  show wpAny _ _ (Builtin.Tuple.tupleItemsOf (.ref tp) >>= _) _ _ s
  refine wpAny_bind (tupleItemsOf_ it ?_)
  refine wpAny_bind (wpAny_typeOf kind ?_)
  rw [if_pos (by decide)]
  refine wpAny_bind (ey_applied_rev q pl pu ps ?_)
  have off : ¬ ((((items.size : Int) - 1 == 0) && ((-1 : Int) == 1) && (items.size == items.size)) = true) := by
    rw [show ((-1 : Int) == 1) = false from rfl, Bool.and_false, Bool.false_and]
    exact Bool.false_ne_true
  show wpAny _ _ (if (((items.size : Int) - 1 == 0) && ((-1 : Int) == 1) && (items.size == items.size)) = true then _ else _) _ _ s
  rw [if_neg off, ey_back]
  first
    | exact wpAny_bind (m := Builtin.Tuple.tupleExact _) (wpAny_newObj_type (wpAny_pure ⟨_, rfl, wpAny_pure h⟩) fits)
    | exact wpAny_bind (m := Builtin.Tuple.tupleExact _) (wpAny_newObj_type (wpAny_bind (wpAny_pure (wpAny_pure ⟨_, rfl, wpAny_pure h⟩))) fits)
    | exact wpAny_bind (wpAny_bind (m := Builtin.Tuple.tupleExact _) (wpAny_newObj_type (wpAny_pure (wpAny_pure ⟨_, rfl, wpAny_pure h⟩)) fits))
    | exact wpAny_bind (wpAny_bind (m := Builtin.Tuple.tupleExact _) (wpAny_newObj_type (wpAny_pure ⟨_, rfl, wpAny_pure h⟩) fits))
end
section
variable {X : Cx}
/-- e[::-1], e a tuple or a text -/
def tRevA (K : PySem.W.Frag) (te : TE) : TE := fun σ H Q => te σ H fun x H1 => (∃ a xs, x = .ref a ∧ SqT K H1 a xs ∧ ∀ p, H1 p = none → Q (.ref p) (upd H1 p (.tup xs.reverse))) ∨ ∃ p : List Nat, x = .str (st p) ∧ p.length ≤ sizeLine ∧ Q (.str (st p.reverse)) H1
theorem sb_rev (p : List Nat) (u : Tok) : Txt.sliceBy (st p) none none (-1, u) = st p.reverse := by
  have e := step_rev_list (st p) u
  have e2 : (Txt.sliceBy (st p) none none (-1, u)) = st ((List.range p.length).map fun k => p.toArray.getD (p.length - 1 - k) 0) := by
    rw [st_of (Txt.sliceBy (st p) none none (-1, u)), e]
    rfl
  rw [e2]
  congr 1
  refine List.ext_getElem? fun i => ?_
  rw [List.getElem?_map]
  by_cases hi : i < p.length
  · rw [List.getElem?_range hi, List.getElem?_reverse hi]
    show some (p.toArray.getD (p.length - 1 - i) 0) = _
    rw [List.getElem?_eq_getElem (by omega)]
    congr 1
    simp [Array.getD, show p.length - 1 - i < p.length by omega]
  · rw [List.getElem?_eq_none (by rw [List.length_range]; omega), List.getElem?_eq_none (by rw [List.length_reverse]; omega)]
    rfl
theorem pe_revA {e : Expr} {te : TE} {k : Nat} {p1 p2 p3 pos : Pos} (he : PE X e te) : PE X (.Subscript e (.Slice none none (some (.UnaryOp .USub (.Constant (.int 1) k p1) p2)) p3) pos) (tRevA X.K te) := by
  refine ⟨fun pins s σ H Q I h => ?_⟩
  refine Subscript_ (thn (he.run pins s σ H _ I h) fun v s1 ⟨x, H1, I1, r1, q1⟩ => ?_)
  have step : PO X (some (.UnaryOp .USub (.Constant (.int 1) k p1) p2)) (tPart (tUn (rU fun i => .int (-i)) (tC (.int 1)))) := po_some (pe_un un_neg pe_int)
  refine wpAny_Slice (thn (po_none.run pins s1 σ H1 (fun o H2 => o = none ∧ H2 = H1) I1 ⟨rfl, rfl⟩) fun vl s2 ⟨lo, H2, I2, pl, ea, eb⟩ => ?_)
  subst ea eb
  refine thn (po_none.run pins s2 σ H2 (fun o H3 => o = none ∧ H3 = H2) I2 ⟨rfl, rfl⟩) fun vu s3 ⟨up, H3, I3, pu, ec, ed⟩ => ?_
  subst ec ed
  refine thn (step.run pins s3 σ H3 (fun o H4 => o = some (-1) ∧ H4 = H3) I3 ⟨1, rfl, -1, rfl, rfl, rfl⟩) fun vs s4 ⟨o, H4, I4, pst, ee, ef⟩ => ?_
  subst ee ef
  have I5 : Inv X pins σ H4 { s4 with heap := s4.heap.push { cls := .type "slice", data := .fields #[vl, vu, vs] } } := I4.kept (t' := s4.toks) fun b ob q => Heap.get?_push_of_some _ q
  rcases q1 with ⟨a, xs, ex, hx, q⟩ | ⟨p, ex, hz, q⟩
  · subst ex
    cases r1
    obtain ⟨its, r, it, hz⟩ := I5.tuple hx
    have hlen : its.toArray.size = xs.length := by rw [List.size_toArray]; exact r.length.symm
    show wpAny (model X.prog X.w) X.A (subscriptTail e (.Slice none none (some (.UnaryOp .USub (.Constant (.int 1) k p1) p2)) p3) (.ref a) (.ref s4.heap.objs.size)) (EP X pins σ Q) X.xe { s4 with heap := s4.heap.push { cls := .type "slice", data := .fields #[vl, vu, vs] } }
    refine tail_any (ops := [.ref a, .ref s4.heap.objs.size]) it.typeIs PyProof.Rows.slot_tuple_getitem.lookup ?_ (by with_unfolding_all rfl)
    refine ey_tuple_rev it (Heap.IsSliceOf.new _ vl vu vs) pl pu pst ?_ (by rw [hlen]; exact hz)
    refine ⟨.ref _, _, I5.laid (t' := s4.toks) (o := .tup xs.reverse) (fun b ob q => Heap.get?_push_of_some _ q) (Nat.le_refl _) ?_, rfl, q _ (I5.hok.fresh (Nat.le_refl _))⟩
    refine ⟨by rw [List.length_reverse]; exact hz, its.reverse, r.reverse, ?_⟩
    have := IsTup.new { s4 with heap := s4.heap.push { cls := .type "slice", data := .fields #[vl, vu, vs] } }.heap its.reverse.toArray
    simpa using this
  · subst ex
    obtain ⟨t, rfl⟩ := r1
    cases pl
    cases pu
    cases pst with
    | int _ u =>
      show wpAny (model X.prog X.w) X.A (subscriptTail e (.Slice none none (some (.UnaryOp .USub (.Constant (.int 1) k p1) p2)) p3) (.str (st p) t) (.ref s4.heap.objs.size)) (EP X pins σ Q) X.xe { s4 with heap := s4.heap.push { cls := .type "slice", data := .fields #[.none, .none, .int (-1) u] } }
      refine tail_any (ops := [.str (st p) t, .ref s4.heap.objs.size]) (typeIs_str _ _ _) F.slot_str_getitem.lookup ?_ (by with_unfolding_all rfl)
      refine wpAny_getItem_str_slice (l := none) (u := none) (st := some (-1, u)) ⟨_, Heap.get?_push_size _ rfl, rfl, rfl⟩ rfl ?_
      have made : sliceMade (st p) t none none (some (-1, u)) = .str (st p.reverse) := by
        rw [← sb_rev p u]
        rfl
      rw [made]
      refine ⟨?_, .str (st p.reverse), _, I5.tok _, ⟨_, rfl⟩, q⟩
      rw [st_len, List.length_reverse]
      exact hz
end
end Ey
set_option maxHeartbeats 4000000
namespace Ey
open PySem PySem.Spec L2
/-- a comprehension over a text -/
theorem lcStr {z : Str} {g : TG} {tests : TT} {each : TE} {slots : List Nat} {σ : L2.St} {H1 : Hp} {D : Addr} {Qd : Hp → Prop} (Pv : Nat → Hp → Prop) (h0 : Pv 0 (upd H1 D (.lst [])))
    (hs : ∀ i c H, z.cps.toList[i]? = some c → Pv i H → g (.str (st [c])) (wipe σ slots) H fun σ2 H2 => wipe σ2 slots = wipe σ slots ∧ tests σ2 H2 fun b H3 => if b = true then each σ2 H3 fun y H4 => ∃ acc, H4 D = some (.lst acc) ∧ acc.length < sizeLine ∧ Pv (i + 1) (upd H4 D (.lst (acc ++ [y]))) else Pv (i + 1) H3)
    (hd : ∀ H, Pv z.cps.toList.length H → Qd H) :
    ∃ W : Nat → Nat → Hp → Prop, (∃ m, W 0 m (upd H1 D (.lst []))) ∧ ∀ i m H, W i m H → ((Its z).stop i H ∧ Qd H) ∨ ((Its z).go i H ∧ ∃ Nx : Hp → Prop, (∀ H', Nx H' → ∃ m', m' < m ∧ W (i + 1) m' H') ∧ ∀ x H', (Its z).yld i H x H' → g x (wipe σ slots) H' fun σ2 H2 => wipe σ2 slots = wipe σ slots ∧ tests σ2 H2 fun b H3 => if b = true then each σ2 H3 fun y H4 => ∃ acc, H4 D = some (.lst acc) ∧ acc.length < sizeLine ∧ Nx (upd H4 D (.lst (acc ++ [y]))) else Nx H3) := by
  refine ⟨fun i m H => m = z.cps.size - i ∧ i ≤ z.cps.size ∧ Pv i H, ⟨_, rfl, Nat.zero_le _, h0⟩, fun i m H hw => ?_⟩
  obtain ⟨rfl, hi, p⟩ := hw
  by_cases lt : i < z.cps.size
  · refine .inr ⟨lt, Pv (i + 1), fun H' p' => ⟨z.cps.size - (i + 1), by omega, rfl, lt, p'⟩, fun v H' y => ?_⟩
    obtain ⟨rfl, c, hc, rfl⟩ := y
    exact hs i c _ (by rw [Array.getElem?_toList]; exact hc) p
  · have e : i = z.cps.size := by omega
    subst e
    exact .inl ⟨Nat.le_refl _, hd H (by rw [Array.length_toList]; exact p)⟩
theorem wd_get {ds : List PyData} {i : Nat} {d : PyData} (h : ds[i]? = some d) : wd d + 2 ≤ wdAll ds := by
  induction ds generalizing i with
  | nil => cases h
  | cons x r ih =>
    cases i with
    | zero =>
      have q : x = d := Option.some.inj h
      rw [q]
      show wd d + 2 ≤ wd d + 2 + wdAll r
      omega
    | succ i =>
      have := ih h
      show wd d + 2 ≤ wd x + 2 + wdAll r
      omega
theorem len_wd (ds : List PyData) : ds.length ≤ wdAll ds := by
  induction ds with
  | nil => exact Nat.le_refl _
  | cons x r ih =>
    show r.length + 1 ≤ wd x + 2 + wdAll r
    omega
theorem eqv_strs (ps : List Nat) : PyData.eqv (.list (ps.map fun c => .str (st [c]))) (.list []) = ps.isEmpty := by
  cases ps <;> rfl
theorem dp_signs {K : PySem.W.Frag} {H : Hp} : ∀ ps : List Nat, DpAll K H (ps.map fun c => V.str (st [c])) (ps.map fun c => .str (st [c]))
  | [] => .nil
  | c :: r => .cons (.str _) (dp_signs r)
theorem lay_signs : ∀ ps : List Nat, (∀ c ∈ ps, c < 1000) → PyData.canLayAll0 (ps.map fun c => .str (st [c])) = true ∧ PyData.depthAll (ps.map fun c => .str (st [c])) = 0
  | [], _ => ⟨rfl, rfl⟩
  | c :: r, h => by
    obtain ⟨a, b⟩ := lay_signs r fun x hx => h x (List.mem_cons_of_mem _ hx)
    refine ⟨?_, ?_⟩
    · show (PyData.canLay0 (.str (st [c])) && PyData.canLayAll0 (r.map fun c => .str (st [c]))) = true
      have q : PyData.canLay0 (.str (st [c])) = true := by
        have := h c List.mem_cons_self
        have e : (st [c]).cps = #[c] := rfl
        simp only [PyData.canLay0, PyData.strOk, e]
        simp
        omega
      rw [a, q]
      rfl
    · show max 0 (PyData.depthAll (r.map fun c => .str (st [c]))) = 0
      rw [b]
      rfl
theorem shaped_signs (ps : List Nat) (h : ∀ c ∈ ps, c < 1000) : SeqAt.shaped (.list (ps.map fun c => .str (st [c]))) = true := by
  obtain ⟨a, b⟩ := lay_signs ps h
  show (PyData.canLayAll0 (ps.map fun c => .str (st [c])) && decide (PyData.depthAll (ps.map fun c => .str (st [c])) + 1 ≤ 64)) = true
  rw [a, b]
  rfl
theorem isTag_alt (g : Str) (h1 : 1 ≤ g.length) (h2 : g.length ≤ 8) : isTag g = (g.cps.toList.filter fun c => !decide (c ∈ abc)).isEmpty := by
  rw [isTag, decide_eq_true h1, decide_eq_true h2]
  show (g.cps.toList.all fun c => decide (c ∈ abc)) = _
  generalize g.cps.toList = l
  induction l with
  | nil => rfl
  | cons a r ih =>
    rw [List.all_cons, List.filter_cons, ih]
    cases decide (a ∈ abc) <;> rfl
theorem take_filter {l : List Nat} {f : Nat → Bool} {i c : Nat} (h : l[i]? = some c) : (l.take (i + 1)).filter f = (l.take i).filter f ++ if f c = true then [c] else [] := by
  rw [List.take_add_one, h, List.filter_append]
  congr 1
  show List.filter f [c] = _
  rw [List.filter_cons]
  rfl
def wAny : Nat → Nat
  | 0 => 130
  | n + 1 => 3 * wAny n + 140
theorem wAny_ge : ∀ n, 130 ≤ wAny n
  | 0 => Nat.le_refl _
  | n + 1 => by
    have := wAny_ge n
    show 130 ≤ 3 * wAny n + 140
    omega
/-- what is told of a drawn value -/
structure Good (n w : Nat) (x : PyData) : Prop where
  f : fit x = true
  d : x.depth ≤ n
  w : wd x ≤ w
theorem Good.mono {n w n' w' : Nat} {x : PyData} (g : Good n w x) (h1 : n ≤ n') (h2 : w ≤ w') : Good n' w' x := ⟨g.f, Nat.le_trans g.d h1, Nat.le_trans g.w h2⟩
inductive GoodAll (n w : Nat) : List PyData → Prop
  | nil : GoodAll n w []
  | cons {x : PyData} {r : List PyData} : Good n w x → GoodAll n w r → GoodAll n w (x :: r)
theorem GoodAll.facts {n w : Nat} {ds : List PyData} (h : GoodAll n w ds) : fitAll ds = true ∧ PyData.depthAll ds ≤ n ∧ wdAll ds ≤ (w + 2) * ds.length := by
  induction h with
  | nil => exact ⟨rfl, Nat.zero_le _, Nat.zero_le _⟩
  | @cons x r g _ ih =>
    obtain ⟨a, b, c⟩ := ih
    refine ⟨?_, ?_, ?_⟩
    · show (fit x && fitAll r) = true
      rw [g.f, a]
      rfl
    · show max x.depth (PyData.depthAll r) ≤ n
      have := g.d
      omega
    · show wd x + 2 + wdAll r ≤ (w + 2) * (r.length + 1)
      have := g.w
      rw [Nat.mul_add]
      omega
theorem GoodAll.snoc {n w : Nat} {ds : List PyData} {x : PyData} (h : GoodAll n w ds) (g : Good n w x) : GoodAll n w (ds ++ [x]) := by
  induction h with
  | nil => exact .cons g .nil
  | cons a _ ih => exact .cons a ih
section
variable {ms ms' : List Addr} {H : Hp}
mutual
theorem An.mono (hs : ∀ x ∈ ms', x ∈ ms) : ∀ {v : V} (d : PyData), An ms H v d → An ms' H v d
  | _, .none, h => by cases h; exact .non
  | _, .bool b, h => by cases h; exact .bl b
  | _, .int i, h => by cases h; exact .int i
  | _, .str x, h => by cases h; exact .str x
  | _, .list ds, h => by
    cases h with
    | lst e n a => exact .lst e (fun q => n (hs _ q)) (AnAll.mono hs ds a)
  | _, .tuple ds, h => by
    cases h with
    | tup e a => exact .tup e (AnAll.mono hs ds a)
  | _, .dict ds, h => by
    cases h with
    | dct e n a => exact .dct e (fun q => n (hs _ q)) (AnKv.mono hs ds a)
theorem AnAll.mono (hs : ∀ x ∈ ms', x ∈ ms) : ∀ {vs : List V} (ds : List PyData), AnAll ms H vs ds → AnAll ms' H vs ds
  | _, [], h => by cases h; exact .nil
  | _, d :: r, h => by
    cases h with
    | cons a b => exact .cons (An.mono hs d a) (AnAll.mono hs r b)
theorem AnKv.mono (hs : ∀ x ∈ ms', x ∈ ms) : ∀ {vs : List (Key × V)} (ds : List (PyData × PyData)), AnKv ms H vs ds → AnKv ms' H vs ds
  | _, [], h => by cases h; exact .nil
  | _, (y, d) :: r, h => by
    cases h with
    | cons a b => exact .cons (An.mono hs d a) (AnKv.mono hs r b)
end
end
section
variable {X : Cx}
/-- t[lo:hi] of a tuple, as one case -/
def rCut : V → Option Int → Option Int → Hp → VK → Prop := fun x lo hi H Q => ∃ (a : Addr) (xs : List V), x = .ref a ∧ H a = some (.tup xs) ∧ ∀ (q : Addr) (H' : Hp), H' q = some (.tup (cutV xs lo hi)) → Kp [] H H' → Q (.ref q) H'
theorem sl_cut : SlR X rCut := by
  intro pins s σ H x v vl vu lo hi sl Q I rx hs pl pu h
  obtain ⟨a, xs, rfl, e, k⟩ := h
  refine sl_tupA pins s σ H _ v vl vu lo hi sl Q I rx hs pl pu ⟨a, xs, rfl, sqt_of e, fun w => k a H ?_ .refl, fun _ p np => k p _ upd_same (.new np)⟩
  have whole : cutV xs lo hi = xs := by
    unfold cutV
    rw [w.1, w.2, List.drop_zero, Nat.sub_zero, List.take_length]
  rw [whole]
  exact e
/-- t + u of tuples, as one case -/
def rCat2 : R2 := fun x y H Q => ∃ (a b : Addr) (xs ys : List V), x = .ref a ∧ y = .ref b ∧ H a = some (.tup xs) ∧ H b = some (.tup ys) ∧ xs.length + ys.length ≤ sizeLine ∧ ∀ (q : Addr) (H' : Hp), H' q = some (.tup (xs ++ ys)) → Kp [] H H' → Q (.ref q) H'
theorem op_cat2 : OpR X (binaryOp .Add) rCat2 := by
  intro pins s σ H x y v u Q I rx ry h
  obtain ⟨a, b, xs, ys, rfl, rfl, ea, eb, hz, k⟩ := h
  refine op_catA pins s σ H _ _ v u Q I rx ry ⟨a, b, xs, ys, rfl, rfl, sqt_of ea, sqt_of eb, hz, fun e => k b H ?_ .refl, fun _ e => k a H ?_ .refl, fun _ _ p np => k p _ upd_same (.new np)⟩
  · rw [e]
    exact eb
  · rw [e, List.append_nil]
    exact ea
theorem cut_take (xs : List V) (i : Nat) : cutV xs none (some (i : Int)) = xs.take i := by
  unfold cutV
  rw [HT.sIx_none, HT.sIx_nat, List.drop_zero, Nat.sub_zero, ← List.take_take, List.take_length]
theorem cut_drop (xs : List V) (i : Nat) : cutV xs (some (i : Int)) none = xs.drop i := by
  unfold cutV
  rw [HT.sIx_none, HT.sIx_nat]
  by_cases h : i ≤ xs.length
  · rw [Nat.min_eq_left h]
    exact List.take_of_length_le (by rw [List.length_drop]; exact Nat.le_refl _)
  · rw [Nat.min_eq_right (by omega), Nat.sub_self, List.take_zero, List.drop_of_length_le (by omega)]
theorem pe_nev {e : Expr} : PE X e (fun _ _ _ => False) := ⟨fun _ _ _ _ _ _ h => h.elim⟩
end
theorem goodAll_of {n w : Nat} : ∀ ds : List PyData, (∀ x ∈ ds, Good n w x) → GoodAll n w ds
  | [], _ => .nil
  | x :: r, h => .cons (h x List.mem_cons_self) (goodAll_of r fun y hy => h y (List.mem_cons_of_mem _ hy))
theorem two_good {n w : Nat} {x y : PyData} (a : Good n w x) (b : Good n w y) : Good (n + 1) (2 * w + 7) (.tuple [x, y]) := by
  refine ⟨?_, ?_, ?_⟩
  · show (fit x && (fit y && true)) = true
    rw [a.f, b.f]
    rfl
  · show max x.depth (max y.depth 0) + 1 ≤ n + 1
    have := a.d
    have := b.d
    omega
  · show wd x + 2 + (wd y + 2 + 0) + 3 ≤ 2 * w + 7
    have := a.w
    have := b.w
    omega
theorem bl_good (b : Bool) : Good 0 5 (.bool b) := ⟨rfl, Nat.le_refl _, Nat.le_refl _⟩
end Ey
set_option maxHeartbeats 4000000
namespace Ey
open PySem PySem.Spec L2
def topS (i : Nat) : Stmt := PySem.Challenge.pw_eyesonly_k27_whole_widths_and_bounds_by.main.body.getD i (.Pass ⟨0, 0, 0, 0⟩)
abbrev sDeck : Stmt := topS 52
abbrev sDraw : Stmt := topS 53
abbrev sPick : Stmt := topS 54
/-- what the module leaves of the built-in names -/
structure BI (mg : Str → Option Value) : Prop where
  int : mg "int" = none
  max : mg "max" = none
  list : mg "list" = none
  len : mg "len" = none
  range : mg "range" = none
  tuple : mg "tuple" = none
  sorted : mg "sorted" = none
  repr : mg "repr" = none
  isi : mg "isinstance" = none
  str : mg "str" = none
  all : mg "all" = none
  bool : mg "bool" = none
  sum : mg "sum" = none
  min : mg "min" = none
  zip : mg "zip" = none
  enum : mg "enumerate" = none
  rev : mg "reversed" = none
/-! ### the deck -/
def kLeft : Key := .inr "left"
def kMix : Key := .inr "mixed"
def kDraw : Key := .inr "draws"
theorem kLM : ¬ kLeft = kMix := by decide +kernel
theorem kLD : ¬ kLeft = kDraw := by decide +kernel
theorem kMD : ¬ kMix = kDraw := by decide +kernel
def deckD (l : Addr) (m n : Int) : List (Key × V) := [(kLeft, .ref l), (kMix, .int m), (kDraw, .int n)]
section
variable (l : Addr) (m n : Int)
theorem deck_left : valV (deckD l m n) kLeft = some (.ref l) := valV_pos rfl
theorem deck_mix : valV (deckD l m n) kMix = some (.int m) := (valV_neg kLM).trans (valV_pos rfl)
theorem deck_draw : valV (deckD l m n) kDraw = some (.int n) := (valV_neg kLD).trans ((valV_neg kMD).trans (valV_pos rfl))
theorem put_mix (z : Int) : putK (deckD l m n) kMix (.int z) = deckD l z n := by
  have h : ((deckD l m n).any fun kv => decide (kv.1 = kMix)) = true := by rw [valV_any, deck_mix]; rfl
  unfold putK
  rw [if_pos h]
  have h2 : ¬ kDraw = kMix := fun e => kMD e.symm
  simp [deckD, kLM, h2]
theorem put_draw (z : Int) : putK (deckD l m n) kDraw (.int z) = deckD l m z := by
  have h : ((deckD l m n).any fun kv => decide (kv.1 = kDraw)) = true := by rw [valV_any, deck_draw]; rfl
  unfold putK
  rw [if_pos h]
  simp [deckD, kLD, kMD]
end
theorem merge_deck (l : Addr) (m n : Int) : mergeK [] (deckD l m n) = deckD l m n := by
  have e1 : putK ([] : List (Key × V)) kLeft (.ref l) = [(kLeft, .ref l)] := putK_new _ rfl
  have e2 : putK [(kLeft, V.ref l)] kMix (.int m) = [(kLeft, V.ref l), (kMix, .int m)] := putK_new _ (valV_neg kLM)
  have e3 : putK [(kLeft, V.ref l), (kMix, V.int m)] kDraw (.int n) = deckD l m n := putK_new _ ((valV_neg kLD).trans (valV_neg kMD))
  show putK (putK (putK [] kLeft (.ref l)) kMix (.int m)) kDraw (.int n) = _
  rw [e1, e2, e3]
theorem deck_sz (l : Addr) (m n : Int) : (deckD l m n).length < sizeLine := small1000 (by show 3 ≤ 1000; decide)
section
variable {H : Hp} {d l : Addr} {m n : Int}
theorem get_left (h : H d = some (.dK (deckD l m n))) : DGet H d (kV kLeft) (some (.ref l)) := deck_left l m n ▸ DGet.k h
theorem get_mix (h : H d = some (.dK (deckD l m n))) : DGet H d (kV kMix) (some (.int m)) := deck_mix l m n ▸ DGet.k h
theorem get_draw (h : H d = some (.dK (deckD l m n))) : DGet H d (kV kDraw) (some (.int n)) := deck_draw l m n ▸ DGet.k h
theorem set_mix (h : H d = some (.dK (deckD l m n))) (z : Int) : DPut H d (kV kMix) (.int z) (upd H d (.dK (deckD l z n))) := put_mix l m n z ▸ DPut.k h (deck_sz l m n)
theorem set_draw (h : H d = some (.dK (deckD l m n))) (z : Int) : DPut H d (kV kDraw) (.int z) (upd H d (.dK (deckD l m z))) := put_draw l m n z ▸ DPut.k h (deck_sz l m n)
end
structure DeckAt (H : Hp) (d l : Addr) : Prop where
  ex : ∃ (m n : Int) (ns : List Int), H d = some (.dK (deckD l m n)) ∧ H l = some (.lst (ns.map V.int)) ∧ ns.length ≤ 63
theorem DeckAt.ne {H : Hp} {d l : Addr} (D : DeckAt H d l) : d ≠ l := by
  obtain ⟨m, n, ns, h1, h2, _⟩ := D.ex
  exact ne_of h1 h2 (by intro z; cases z)
theorem DeckAt.kp {ms : List Addr} {H H1 : Hp} {d l : Addr} (D : DeckAt H d l) (k : Kp ms H H1) (nd : d ∉ ms) (nl : l ∉ ms) : DeckAt H1 d l := by
  obtain ⟨m, n, ns, h1, h2, h3⟩ := D.ex
  exact ⟨m, n, ns, k.at_ _ _ h1 nd, k.at_ _ _ h2 nl, h3⟩
def spDraw : Sp := fun vs H Q _ => ∃ (d l : Addr) (many : Int), vs = [.ref d, .int many] ∧ DeckAt H d l ∧ 0 < many ∧ many < 4611686018427387904 ∧
  ∀ (r : Int) (H' : Hp), 0 ≤ r → r < many → DeckAt H' d l → Kp [d, l] H H' → Q (.int r) H'
section
variable {P : Program} {w : World} {K : PySem.W.Frag} {mg : Str → Option Value} {base : Heap}
theorem scDraw : FnScope ["_law_deck_here", "_law_many", "_law_cell", "_law_figure"] ["_law_deck_here", "_law_many"] (defScope sDraw) := ⟨rfl, rfl, rfl, by decide +kernel, rfl, by decide +kernel, by decide +kernel⟩
theorem fmod_lt {i j : Int} (h : 0 < j) : 0 ≤ i.fmod j ∧ i.fmod j < j := ⟨Int.fmod_nonneg_of_pos _ h, Int.fmod_lt_of_pos _ h⟩
theorem fdiv_ne : (2147483647 : Int) ≠ 0 := by decide
theorem lt64 {i : Int} (h0 : 0 ≤ i) (h1 : i < 2147483647) : -(2 ^ 64) < i ∧ i < 2 ^ 64 := by
  constructor
  · exact Int.lt_of_lt_of_le (by decide) h0
  · exact Int.lt_trans h1 (by decide)
theorem eqv_nil (ns : List Int) : PyData.eqv (.list (ns.map PyData.int)) (.list []) = ns.isEmpty := by
  cases ns <;> rfl
theorem dp_ints {K : PySem.W.Frag} {H : Hp} : ∀ ns : List Int, DpAll K H (ns.map V.int) (ns.map PyData.int)
  | [] => .nil
  | n :: r => .cons (.int n) (dp_ints r)
theorem lay_ints : ∀ ns : List Int, PyData.canLayAll0 (ns.map PyData.int) = true ∧ PyData.depthAll (ns.map PyData.int) = 0
  | [] => ⟨rfl, rfl⟩
  | n :: r => by
    obtain ⟨a, b⟩ := lay_ints r
    refine ⟨?_, ?_⟩
    · show (PyData.canLay0 (.int n) && PyData.canLayAll0 (r.map PyData.int)) = true
      rw [a]
      rfl
    · show max 0 (PyData.depthAll (r.map PyData.int)) = 0
      rw [b]
      rfl
theorem shaped_ints (ns : List Int) : SeqAt.shaped (.list (ns.map PyData.int)) = true := by
  obtain ⟨a, b⟩ := lay_ints ns
  show (PyData.canLayAll0 (ns.map PyData.int) && decide (PyData.depthAll (ns.map PyData.int) + 1 ≤ 64)) = true
  rw [a, b]
  rfl
theorem ok_draw {f : Addr} {fd : FuncData} (F : Fun K "_law_draw" "_law_draw" sDraw f fd) (B : BI mg) : FnOk P w K mg base CX0 1 f fd ["_law_deck_here", "_law_many"] spDraw := by
  refine F.ok scDraw (fun vs H Q E h => ?_) (fun cdv A outer s H vs Q E hr h => ?_)
  · obtain ⟨d, l, many, rfl, _⟩ := h
    rfl
  · obtain ⟨d, l, many, rfl, D, m0, m1, k⟩ := h
    have hu := hu_of hr
    have mne : many ≠ 0 := by omega
    -- the tail: figure, figure, figure, return
    obtain ⟨tt, dt, rt⟩ : ∃ tt, PSs (cxOf CX0 P w K mg base ["_law_deck_here", "_law_many", "_law_cell", "_law_figure"] "_law_draw" (defScope sDraw) f cdv A outer s H E).nox ((defBody sDraw).drop 2) tt ∧
        ∀ (H2 : Hp) (y : Option V), DeckAt H2 d l → Kp [d, l] H H2 → tt { nx := fun _ H' => Q .non H', rt := Q } [some (.ref d), some (.int many), y, none] H2 := by
      refine ⟨_, pss_cons (ps_set (i := 3) scDraw.nd rfl (.inl rfl) (pe_op op_modN (pe_callTy call_int1 (by rfl) B.int (by decide +kernel) (pa_cons (pe_op op_add (pe_dget hu (pv 0) pe_str (fun _ _ => rfl)) (pe_op op_mul pe_int (pe_dget hu (pv 0) pe_str (fun _ _ => rfl)))) pa_nil)) pe_int))
        (pss_cons (ps_set (i := 3) scDraw.nd rfl (.inl rfl) (pe_op op_modN (pe_callTy call_int1 (by rfl) B.int (by decide +kernel) (pa_cons (pe_op op_add (pe_op op_add (pe_op op_mul (pv 3) (pv 3)) (pe_op op_mul pe_int (pe_dget hu (pv 0) pe_str (fun _ _ => rfl)))) pe_int) pa_nil)) pe_int))
        (pss_cons (ps_set (i := 3) scDraw.nd rfl (.inl rfl) (pe_op op_modN (pe_callTy call_int1 (by rfl) B.int (by decide +kernel) (pa_cons (pe_op op_add (pe_op op_mul (pv 3) pe_int) pe_int) pa_nil)) pe_int))
        (pss_one (ps_ret (pe_op op_modN (pe_callTy call_int1 (by rfl) B.int (by decide +kernel) (pa_cons (pe_op op_fdivN (pv 3) pe_int) pa_nil)) (pv 1)))))), fun H2 y D2 k2 => ?_⟩
      obtain ⟨m, n, ns, hd, hl, hn⟩ := id D2
      refine ⟨_, rfl, d, _, rfl, get_mix hd, _, rfl, d, _, rfl, get_draw hd, _, _, rfl, rfl, .inl ⟨by decide, by decide⟩, _, _, rfl, rfl, .inl ⟨_, rfl, ?_⟩⟩
      refine ⟨_, _, rfl, rfl, (by decide : (2147483647 : Int) ≠ 0), ?_⟩
      have b1 := fmod_lt (i := m + 31337 * n) (j := 2147483647) (by decide)
      refine ⟨_, rfl, _, rfl, _, _, rfl, rfl, .inl (lt64 b1.1 b1.2), _, rfl, d, _, rfl, get_draw hd, _, _, rfl, rfl, .inl ⟨by decide, by decide⟩, _, _, rfl, rfl, _, _, rfl, rfl, .inl ⟨_, rfl, ?_⟩⟩
      refine ⟨_, _, rfl, rfl, (by decide : (2147483629 : Int) ≠ 0), ?_⟩
      have b2 := fmod_lt (i := (m + 31337 * n).fmod 2147483647 * (m + 31337 * n).fmod 2147483647 + 48271 * n + 3) (j := 2147483629) (by decide)
      refine ⟨_, rfl, _, _, rfl, rfl, .inl (lt64 b2.1 (Int.lt_trans b2.2 (by decide : (2147483629 : Int) < 2147483647))), _, _, rfl, rfl, .inl ⟨_, rfl, ?_⟩⟩
      refine ⟨_, _, rfl, rfl, (by decide : (2147483563 : Int) ≠ 0), ?_⟩
      refine ⟨_, rfl, _, _, rfl, rfl, (⟨by decide, by decide⟩ : (64 : Int) ≠ 0 ∧ (64 : Int).natAbs < 1073741824), .inl ⟨_, rfl, _, rfl, _, _, rfl, rfl, mne, ?_⟩⟩
      have b3 := fun i : Int => fmod_lt (i := i) m0
      exact k _ H2 (b3 _).1 (b3 _).2 D2 k2
    refine ⟨_, pss_cons (ps_dput hu (pv 0) pe_str (pe_op op_add (pe_dget hu (pv 0) pe_str (fun _ _ => rfl)) pe_int) rfl)
      (pss_cons (ps_if (pt_cmpR (op_neD hr.units) (pe_dget hu (pv 0) pe_str (fun _ _ => rfl)) (pe_lst pa_nil) (nomark _))
        (pss_cons (ps_set (i := 2) scDraw.nd rfl (.inl rfl) (pe_bm0 PySem.F.plainAttrs_list PySem.F.slot_list_pop PySem.F.type_list_pop mt_pop (pe_dget hu (pv 0) pe_str (fun _ _ => rfl))))
        (pss_cons (ps_if (pt_cmpR op_ge (pv 2) (pe_op op_pow pe_int pe_int) (nomark _))
          (pss_cons (ps_expr (pe_bm PySem.F.plainAttrs_list PySem.F.slot_list_append PySem.F.type_list_append mt_append (pe_dget hu (pv 0) pe_str (fun _ _ => rfl))
            (pa_cons (pe_op op_fdivW (pv 2) (pe_callB (call_max2 rfl) (by rfl) B.max (by decide +kernel) (pa_cons pe_int (pa_cons (pv 1) pa_nil)))) pa_nil)))
          (pss_one (ps_ret (pe_op op_modN (pe_callTy call_int1 (by rfl) B.int (by decide +kernel) (pa_cons (pv 2) pa_nil)) (pv 1))))) pss_nil)
        (pss_one (ps_dput hu (pv 0) pe_str (pe_op op_modN (pe_callTy call_int1 (by rfl) B.int (by decide +kernel) (pa_cons (pe_op op_add (pe_op op_add (pe_op op_mul (pe_dget hu (pv 0) pe_str (fun _ _ => rfl)) pe_int)
          (pe_op op_modN (pe_callTy call_int1 (by rfl) B.int (by decide +kernel) (pa_cons (pv 2) pa_nil)) pe_int)) pe_int) pa_nil)) pe_int) rfl)))) pss_nil)
      dt), ?_⟩
    obtain ⟨m, n, ns, hd, hl, hn⟩ := D.ex
    have ndl := D.ne
    -- deck['draws'] = deck['draws'] + 1
    refine ⟨_, rfl, d, _, rfl, get_draw hd, _, _, rfl, rfl, _, rfl, d, _, rfl, set_draw hd _, ?_⟩
    have kd : Kp [d, l] H (upd H d (.dK (deckD l m (n + 1)))) := .put (by simp) hd (fun xs z => by cases z)
    have hd1 : (upd H d (.dK (deckD l m (n + 1)))) d = some (.dK (deckD l m (n + 1))) := upd_same
    have hl1 : (upd H d (.dK (deckD l m (n + 1)))) l = some (.lst (ns.map V.int)) := by rw [upd_ne ndl.symm]; exact hl
    generalize upd H d (.dK (deckD l m (n + 1))) = H1 at kd hd1 hl1
    -- if deck['left'] != []
    refine ⟨_, rfl, d, _, rfl, get_left hd1, Nat.zero_le _, fun p np => ⟨.list (ns.map PyData.int), .list [], .lst (sql_of (by rw [upd_ne (ne_of_none hl1 np)]; exact hl1)) (dp_ints ns), .lst (sql_of upd_same) .nil, shaped_ints ns, rfl, ?_⟩⟩
    rw [eqv_nil]
    have kp : Kp [d, l] H (upd H1 p (.lst [])) := kd.trans (.new np)
    have hd2 : (upd H1 p (.lst [])) d = some (.dK (deckD l m (n + 1))) := by rw [upd_ne (ne_of_none hd1 np)]; exact hd1
    have hl2 : (upd H1 p (.lst [])) l = some (.lst (ns.map V.int)) := by rw [upd_ne (ne_of_none hl1 np)]; exact hl1
    generalize upd H1 p (.lst []) = H2 at kp hd2 hl2
    refine ⟨_, rfl, ?_⟩
    cases e : ns.isEmpty with
    | true =>
      refine iteF ?_
      exact rt H2 _ ⟨_, _, _, hd2, hl2, hn⟩ kp
    | false =>
      refine iteT ?_
      -- cell = deck['left'].pop()
      obtain ⟨ini, z, rfl⟩ : ∃ ini z, ns = ini ++ [z] := by
        refine ⟨ns.dropLast, ns.getLast (fun q => by rw [q] at e; cases e), (List.dropLast_concat_getLast _).symm⟩
      have lst : ((ini ++ [z]).map V.int)[((ini ++ [z]).map V.int).length - 1]? = some (.int z) := by
        rw [List.map_append, List.length_append]
        show (ini.map V.int ++ [V.int z])[(ini.map V.int).length + 1 - 1]? = _
        rw [Nat.add_sub_cancel, List.getElem?_append_right (Nat.le_refl _), Nat.sub_self]
        rfl
      have dr : ((ini ++ [z]).map V.int).dropLast = ini.map V.int := by
        rw [List.map_append]
        exact List.dropLast_concat
      rw [List.length_append] at hn
      have hn' : ini.length + 1 ≤ 63 := hn
      refine ⟨_, rfl, d, _, rfl, get_left hd2, .inl ⟨rfl, _, sql_of hl2⟩, l, _, _, rfl, rfl, hl2, lst, ?_⟩
      rw [dr]
      have k3 : Kp [d, l] H (upd H2 l (.lst (ini.map V.int))) := kp.trans (.put (by simp) hl2 (fun xs z => by cases z))
      have hd3 : (upd H2 l (.lst (ini.map V.int))) d = some (.dK (deckD l m (n + 1))) := by rw [upd_ne ndl]; exact hd2
      have hl3 : (upd H2 l (.lst (ini.map V.int))) l = some (.lst (ini.map V.int)) := upd_same
      generalize upd H2 l (.lst (ini.map V.int)) = H3 at k3 hd3 hl3
      -- if cell >= 10 ** 18
      refine ⟨_, rfl, _, _, rfl, rfl, (⟨by decide, by decide, by decide⟩ : (0 : Int) ≤ 18 ∧ (18 : Int) ≤ 1000000 ∧ (10 : Int).natAbs < 2 ^ 64), _, _, rfl, rfl, _, rfl, ite2 (fun _ => ?_) (fun _ => ?_)⟩
      · -- append, return
        refine ⟨_, rfl, d, _, rfl, get_left hd3, .inl ⟨rfl, _, sql_of hl3⟩, _, rfl, _, rfl, _, _, rfl, _, _, rfl, rfl, ?_, ?_⟩
        · refine wide_div (b := 62) ?_ ?_ (by decide) (by decide)
          · show 0 < (if many > 2 then many else 2)
            split <;> omega
          · show (if many > 2 then many else 2).natAbs < 4611686018427387904
            split <;> omega
        · refine ⟨l, _, _, rfl, rfl, hl3, ?_, ?_⟩
          · rw [List.length_map]
            exact small1000 (by omega)
          · refine ⟨_, rfl, .inl ⟨_, rfl, _, rfl, _, _, rfl, rfl, mne, ?_⟩⟩
            have b3 := fun i : Int => fmod_lt (i := i) m0
            refine k _ _ (b3 _).1 (b3 _).2 ⟨m, n + 1, ini ++ [z / (if many > 2 then many else 2)], ?_, ?_, ?_⟩ (k3.trans (.put (by simp) hl3 (fun xs z => by cases z)))
            · rw [upd_ne ndl]
              exact hd3
            · rw [upd_same, List.map_append]
              rfl
            · rw [List.length_append]
              show ini.length + 1 ≤ 63
              omega
      · refine ⟨_, rfl, d, _, rfl, get_mix hd3, _, _, rfl, rfl, .inr ⟨by decide, by decide⟩, _, rfl, .inl ⟨_, rfl, _, _, rfl, rfl, (by decide : (2147483629 : Int) ≠ 0), _, _, rfl, rfl, _, _, rfl, rfl, .inl ⟨_, rfl, ?_⟩⟩⟩
        refine ⟨_, _, rfl, rfl, (by decide : (2147483587 : Int) ≠ 0), _, rfl, d, _, rfl, set_mix hd3 _, ?_⟩
        refine rt _ _ ⟨_, _, ini, upd_same, ?_, by omega⟩ (k3.trans (.put (by simp) hd3 (fun xs z => by cases z)))
        rw [upd_ne ndl.symm]
        exact hl3
theorem cut63 (xs : List V) (h : xs.length ≤ 63) : cutV xs none (some 63) = xs := by
  unfold cutV
  rw [HT.sIx_none, show HT.sIx xs.length xs.length (some 63) = min 63 xs.length from HT.sIx_nat _ _ 63, Nat.min_eq_right h]
  show List.take xs.length xs = xs
  exact List.take_length
theorem scDeck : FnScope ["_law_script", "_law_mixed", "_law_cell"] ["_law_script"] (defScope sDeck) := ⟨rfl, rfl, rfl, by decide +kernel, rfl, by decide +kernel, by decide +kernel⟩
def spDeck (K : PySem.W.Frag) : Sp := fun vs H Q _ => ∃ (a : Addr) (ns : List Int), vs = [.ref a] ∧ SqL K H a (ns.map V.int) ∧ ns.length ≤ 63 ∧
  ∀ (d l : Addr) (H' : Hp), DeckAt H' d l → Kp [] H H' → H d = none → H l = none → Q (.ref d) H'
theorem ok_deck {f : Addr} {fd : FuncData} (F : Fun K "_law_deck" "_law_deck" sDeck f fd) (B : BI mg) : FnOk P w K mg base CX0 1 f fd ["_law_script"] (spDeck K) := by
  refine F.ok scDeck (fun vs H Q E h => ?_) (fun cdv A outer s H vs Q E hr h => ?_)
  · obtain ⟨a, ns, rfl, _⟩ := h
    rfl
  · obtain ⟨a, ns, rfl, hS, hn, k⟩ := h
    refine ⟨_, pss_cons (ps_set (i := 1) scDeck.nd rfl (.inl rfl) pe_int)
      (pss_cons (ps_for PassesOwn.never rfl (pi_list (pe_slice sl_list (pv 0) po_none (po_some pe_int))) (pg_name (i := 2) scDeck.nd rfl (.inl rfl))
        (pss_one (ps_set (i := 1) scDeck.nd rfl (.inl rfl) (pe_op op_modN (pe_callTy call_int1 (by rfl) B.int (by decide +kernel) (pa_cons (pe_op op_add (pe_op op_add (pe_op op_mul (pv 1) pe_int)
          (pe_op op_modN (pe_callTy call_int1 (by rfl) B.int (by decide +kernel) (pa_cons (pv 2) pa_nil)) pe_int)) pe_int) pa_nil)) pe_int))))
      (pss_one (ps_ret (pe_disp (pps_cons pe_str (pe_revL (pe_callTy call_list_of (by rfl) B.list (by decide +kernel) (pa_cons (pe_slice sl_list (pv 0) po_none (po_some pe_int)) pa_nil)))
        (pps_cons pe_str (pv 1) (pps_cons pe_str pe_int pps_nil))) (by rfl) (by rfl) (fun z => by cases z) (by decide))))), ?_⟩
    have hl63 : (ns.map V.int).length ≤ 63 := by rw [List.length_map]; exact hn
    refine ⟨_, rfl, 63, rfl, a, ns.map V.int, rfl, hS, fun c nc => ?_⟩
    rw [cut63 _ hl63]
    have k0 : Kp [] H (upd H c (.lst (ns.map V.int))) := .new nc
    refine ⟨c, rfl, ⟨_, sql_of upd_same⟩, for_list (K := K) (a := c) (xs := ns.map V.int) (fun i σ H2 => ∃ (m : Int) (y : Option V), σ = [some (.ref a), some (.int m), y] ∧ Kp [] H H2 ∧ SqL K H2 c (ns.map V.int))
      ⟨_, none, rfl, k0, sql_of upd_same⟩ (fun i σ H2 _ ⟨_, _, _, _, q⟩ => q) ?_ ?_⟩
    · rintro i x σ H2 hi ⟨m, y, rfl, k2, hc⟩
      obtain ⟨z, rfl⟩ : ∃ z, x = V.int z := by
        rw [List.getElem?_map] at hi
        obtain ⟨z, _, e⟩ := Option.map_eq_some_iff.mp hi
        exact ⟨z, e.symm⟩
      refine ⟨_, rfl, _, _, rfl, rfl, .inr ⟨by decide, by decide⟩, _, rfl, .inl ⟨_, rfl, _, _, rfl, rfl, (by decide : (2147483647 : Int) ≠ 0), _, _, rfl, rfl, _, _, rfl, rfl, .inl ⟨_, rfl, ?_⟩⟩⟩
      exact ⟨_, _, rfl, rfl, (by decide : (2147483563 : Int) ≠ 0), _, _, rfl, k2, hc⟩
    · rintro σ H2 ⟨m, y, rfl, k2, hc⟩
      intro d nd
      have kd : Kp [] H2 (upd H2 d (.dK [])) := .new nd
      have hdd : (upd H2 d (.dK [])) d = some (.dK []) := upd_same
      generalize upd H2 d (.dK []) = H3 at kd hdd
      have hS3 : SqL K H3 a (ns.map V.int) := (k2.trans kd).lst List.not_mem_nil hS
      refine ⟨_, rfl, 63, rfl, a, ns.map V.int, rfl, hS3, fun e ne => ?_⟩
      rw [cut63 _ hl63]
      refine ⟨e, _, rfl, .inl (sql_of upd_same), fun g ng => ?_⟩
      refine ⟨g, _, rfl, sql_of upd_same, fun l nl => ?_⟩
      have k5 : Kp [] H3 (upd (upd (upd H3 e (.lst (ns.map V.int))) g (.lst (ns.map V.int))) l (.lst (ns.map V.int).reverse)) := (Kp.new ne).trans ((Kp.new ng).trans (Kp.new nl))
      have hl5 : (upd (upd (upd H3 e (.lst (ns.map V.int))) g (.lst (ns.map V.int))) l (.lst (ns.map V.int).reverse)) l = some (.lst (ns.map V.int).reverse) := upd_same
      have nl3 : H3 l = none := ((Kp.new (ms := []) ne).trans (Kp.new ng)).free nl List.not_mem_nil
      generalize upd (upd (upd H3 e (.lst (ns.map V.int))) g (.lst (ns.map V.int))) l (.lst (ns.map V.int).reverse) = H4 at k5 hl5
      have hd4 : H4 d = some (.dK []) := k5.at_ _ _ hdd List.not_mem_nil
      refine ⟨_, rfl, hd4, deckD l m 0, rfl, by show 3 ≤ 15; decide, ?_⟩
      rw [merge_deck]
      have ndl : d ≠ l := ne_of hd4 hl5 (by intro z; cases z)
      refine k d l _ ⟨m, 0, ns.reverse, upd_same, ?_, by rw [List.length_reverse]; exact hn⟩ ?_ (k2.free nd List.not_mem_nil) ((k2.trans kd).free nl3 List.not_mem_nil)
      · rw [upd_ne ndl.symm, hl5, List.map_reverse]
      · refine ⟨fun b o e1 _ => ?_, fun b xs e1 => ?_⟩
        · have nb : b ≠ d := ne_of_none e1 (k2.free nd List.not_mem_nil)
          rw [upd_ne nb]
          exact k5.at_ _ _ (kd.at_ _ _ (k2.at_ _ _ e1 List.not_mem_nil) List.not_mem_nil) List.not_mem_nil
        · have nb : b ≠ d := ne_of_none e1 (k2.free nd List.not_mem_nil)
          rw [upd_ne nb]
          exact k5.tup _ _ (kd.tup _ _ (k2.tup _ _ e1))
theorem scPick : FnScope ["_law_deck_here", "_law_some"] ["_law_deck_here", "_law_some"] (defScope sPick) := ⟨rfl, rfl, rfl, by decide +kernel, rfl, by decide +kernel, by decide +kernel⟩
def spPick (K : PySem.W.Frag) : Sp := fun vs H Q _ => ∃ (d l a : Addr) (xs : List V), vs = [.ref d, .ref a] ∧ DeckAt H d l ∧ SqL K H a xs ∧ xs ≠ [] ∧ xs.length ≤ 1000000 ∧ a ≠ d ∧ a ≠ l ∧
  ∀ (x : V) (H' : Hp), x ∈ xs → DeckAt H' d l → Kp [d, l] H H' → Q x H'
/-- a def of the module, as callers need it -/
structure Df (K : PySem.W.Frag) (mg : Str → Option Value) (x : Str) (st : Stmt) (ps : List Str) (f : Addr) (fd : FuncData) : Prop where
  F : Fun K x x st f fd
  b : Binds K fd ps []
  g : mg x = some (.ref f)
theorem ok_pick {f fD : Addr} {fd fdD : FuncData} (F : Fun K "_law_pick" "_law_pick" sPick f fd) (B : BI mg) (D : Df K mg "_law_draw" sDraw ["_law_deck_here", "_law_many"] fD fdD) : FnOk P w K mg base CX0 2 f fd ["_law_deck_here", "_law_some"] (spPick K) := by
  refine F.ok scPick (fun vs H Q E h => ?_) (fun cdv A outer s H vs Q E hr h => ?_)
  · obtain ⟨d, l, a, xs, rfl, _⟩ := h
    rfl
  · obtain ⟨d, l, a, xs, rfl, DA, hS, hne, hlen, had, hal, k⟩ := h
    refine ⟨_, pss_one (ps_ret (pe_ix ix_list (pv 1) (pe_call (ok_draw D.F B) hr (by rfl) D.g D.F.kp D.b .nil pass0 (pa_cons (pv 0) (pa_cons (pe_callB call_len_seq (by rfl) B.len PySem.boot_len (pa_cons (pv 1) pa_nil)) pa_nil))) (fun _ _ => rfl))), ?_⟩
    have hpos : 0 < xs.length := List.length_pos_iff.mpr hne
    refine ⟨_, rfl, _, rfl, _, rfl, a, xs, rfl, .inl hS, d, l, _, rfl, DA, by omega, by omega, fun r H' r0 r1 D' kp => ?_⟩
    have hn : a ∉ [d, l] := by simp [had, hal]
    obtain ⟨i, rfl⟩ : ∃ i : Nat, r = (i : Int) := ⟨r.toNat, by omega⟩
    have hi : i < xs.length := by omega
    refine ⟨a, xs, _, xs[i], rfl, rfl, kp.lst hn hS, ?_, ?_⟩
    · exact atI_nat (List.getElem?_eq_getElem hi)
    · exact k _ H' (List.getElem_mem hi) D' kp
end
end Ey
set_option maxHeartbeats 4000000
namespace Ey
open PySem PySem.Spec L2
/-! ### names, terms, scripts as data -/
def wordsL : List Str := ["fun", "place", "truth", "if", "then", "else", "either", "not", "and", "or", "yes", "no", "top", "left", "right", "up", "has", "empty", "same"]
def nsT : Str := "abcdefghijklmnopqrstuvwxyz0123456789_"
def nsL : List Nat := nsT.cps.toList
theorem abc_is : (Str.ofString "abcdefghijklmnopqrstuvwxyz").cps.toList = abc := by decide +kernel
def head1 (l : List Nat) : Bool := match l with
  | c :: _ => decide (c ∈ abc)
  | [] => false
def isName (x : Str) : Bool := decide (1 ≤ x.length) && (decide (x.length ≤ 20) && (!(wordsL.any fun t => decide (t = x)) && (head1 x.cps.toList && x.cps.toList.all fun c => decide (c ∈ nsL))))
def isNameD : PyData → Bool
  | .str g => isName g
  | .none | .bool _ | .int _ | .list _ | .tuple _ | .dict _ => false
def tupD : PyData → List PyData
  | .tuple ds => ds
  | .none | .bool _ | .int _ | .str _ | .list _ | .dict _ => []
def kName : Str := "name"
def kHas : Str := "has"
def kCall : Str := "call"
def shapes : List (Str × Nat) := [("top", 0), ("yes", 0), ("no", 0), ("left", 1), ("right", 1), ("up", 1), ("empty", 1), ("not", 1), ("same", 2), ("and", 2), ("or", 2), ("either", 2), ("if", 3)]
def arity (w : Str) : Option Nat := (shapes.find? fun p => decide (p.1 = w)).map (·.2)
def hdN : List PyData → Bool
  | [x] => isNameD x
  | _ => false
def hdH : List PyData → Bool
  | [_, g] => isTagD g
  | _ => false
def hdC : List PyData → Bool
  | [f, t] => isNameD f && isTup t
  | _ => false
def hdA (r : List PyData) : Option Nat → Bool
  | some n => decide (r.length = n)
  | none => false
/-- the head of a term is right -/
def headedR (w : Str) (r : List PyData) : Bool :=
  if w = kName then hdN r
  else if w = kHas then hdH r
  else if w = kCall then hdC r
  else hdA r (arity w)
def headed : PyData → Bool
  | .tuple (.str w :: r) => headedR w r
  | _ => false
def partsR (w : Str) (r : List PyData) : List PyData :=
  if w = kName then []
  else if w = kHas then r.take 1
  else if w = kCall then tupD (r.getD 1 .none)
  else r
def partsD : PyData → List PyData
  | .tuple (.str w :: r) => partsR w r
  | _ => []
theorem wd_mem {x : PyData} : ∀ {ds : List PyData}, x ∈ ds → wd x + 2 ≤ wdAll ds
  | y :: r, h => by
    rcases List.mem_cons.mp h with rfl | h
    · show wd x + 2 ≤ wd x + 2 + wdAll r
      omega
    · have := wd_mem h
      show wd x + 2 ≤ wd y + 2 + wdAll r
      omega
theorem parts_wdAll (d : PyData) : wdAll (partsD d) ≤ wd d := by
  unfold partsD
  split
  · rename_i w r
    show wdAll (partsR w r) ≤ wd (.str w) + 2 + wdAll r + 3
    unfold partsR
    split
    · exact Nat.zero_le _
    · split
      · cases r with
        | nil => exact Nat.zero_le _
        | cons x r =>
          show wd x + 2 + 0 ≤ _ + 2 + (wd x + 2 + wdAll r) + 3
          omega
      · split
        · match r with
          | [] => exact Nat.zero_le _
          | [_] => exact Nat.zero_le _
          | x :: y :: r =>
            show wdAll (tupD y) ≤ _ + 2 + (wd x + 2 + (wd y + 2 + wdAll r)) + 3
            have : wdAll (tupD y) ≤ wd y := by
              cases y <;> first | exact Nat.zero_le _ | exact Nat.le_add_right _ _
            omega
        · omega
  · exact Nat.zero_le _
theorem parts_wd {d x : PyData} (h : x ∈ partsD d) : wd x < wd d := by
  have := wd_mem h
  have := parts_wdAll d
  omega
def isTerm (d : PyData) : Bool := headed d && (partsD d).attach.all fun x => isTerm x.1
termination_by wd d
decreasing_by exact parts_wd x.2
theorem isTerm_eq (d : PyData) : isTerm d = (headed d && (partsD d).all isTerm) := by
  rw [isTerm]
  congr 1
  have : ∀ (l : List PyData) , (l.attach.all fun x => isTerm x.1) = l.all isTerm := fun l => by
    rw [Bool.eq_iff_iff, List.all_eq_true, List.all_eq_true]
    constructor
    · intro h x hx
      exact h ⟨x, hx⟩ (List.mem_attach _ _)
    · intro h x _
      exact h x.1 x.2
  exact this _
def kFun : Str := "fun"
def kindsL : List Str := ["place", "truth"]
def isKindD (d : PyData) : Bool := kindsL.any fun t => isThe t d
def areNames : PyData → Bool
  | .tuple ds => ds.all isNameD
  | .none | .bool _ | .int _ | .str _ | .list _ | .dict _ => false
def isFunction : PyData → Bool
  | .tuple [a, b, c, d, e] => isThe kFun a && (isNameD b && (isKindD c && (areNames d && isTerm e)))
  | _ => false
def isScript : PyData → Bool
  | .tuple ds => ds.all isFunction
  | .none | .bool _ | .int _ | .str _ | .list _ | .dict _ => false
/-! ### the program -/
abbrev sIsTag : Stmt := topS 12
abbrev sIsName : Stmt := topS 19
abbrev sAreNames : Stmt := topS 20
abbrev sPartsOf : Stmt := topS 21
abbrev sIsHeaded : Stmt := topS 22
abbrev sIsTerm : Stmt := topS 23
abbrev sIsFunction : Stmt := topS 24
abbrev sIsScript : Stmt := topS 25
/-- a def whose code object stands at c, its table at P -/
structure DfT (K : PySem.W.Frag) (mg : Str → Option Value) (x : Str) (st : Stmt) (ps : List Str) (f : Addr) (fd : FuncData) (c : Addr) : Prop extends Df K mg x st ps f fd where
  ex : ∃ (oc : Value) (od : Option Addr) (kV doc pm : Value) (an : Option Addr) (ct : Value) (osl : Array (Option Value)),
    fd = PySem.W.fnOf x x (defArgs st) (defBody st) (defScope st) .none kV doc pm an (.ref c) ct ∧ K.lookup f = some ⟨oc, od, .func fd, osl⟩ ∧ PySem.W.codeIn K (.ref c) x = true
/-- where the program's things stand -/
structure Adr where
  A : Nat → Addr
  D : Nat → FuncData
  c0 : Addr
  P0 : Addr
  c1 : Addr
  P1 : Addr
  c2 : Addr
  P2 : Addr
  c3 : Addr
  P3 : Addr
  aW : Addr
  aK : Addr
  aS : Addr
abbrev Adr.Ts (a : Adr) : List Addr := [a.P0, a.P1, a.P2, a.P3]
structure PF (K : PySem.W.Frag) (w : World) (mg : Str → Option Value) (a : Adr) : Prop where
  B : BI mg
  tag : DfT K mg "is_tag" sIsTag ["thing"] (a.A 12) (a.D 12) a.c0
  name : DfT K mg "is_name" sIsName ["thing"] (a.A 19) (a.D 19) a.c1
  names : DfT K mg "are_names" sAreNames ["thing"] (a.A 20) (a.D 20) a.c2
  parts : Df K mg "parts_of" sPartsOf ["term"] (a.A 21) (a.D 21)
  headed : Df K mg "is_headed" sIsHeaded ["thing"] (a.A 22) (a.D 22)
  term : Df K mg "is_term" sIsTerm ["thing"] (a.A 23) (a.D 23)
  function : Df K mg "is_function" sIsFunction ["thing"] (a.A 24) (a.D 24)
  script : DfT K mg "is_script" sIsScript ["thing"] (a.A 25) (a.D 25) a.c3
  lett : ∃ t, mg "LETTERS" = some (.str "abcdefghijklmnopqrstuvwxyz" t)
  tlen : ∃ t, mg "TAG_LENGTH" = some (.int 8 t)
  sign : ∃ t, mg "NAME_SIGNS" = some (.str nsT t)
  nlen : ∃ t, mg "NAME_LENGTH" = some (.int 20 t)
  word : mg "WORDS" = some (.ref a.aW) ∧ KTup K a.aW (wordsL.map V.str)
  kind : mg "KINDS" = some (.ref a.aK) ∧ KTup K a.aK (kindsL.map V.str)
  shape : mg "PLAIN_SHAPES" = some (.ref a.aS)
  sD : ∃ es n, KDict K w a.aS es n ∧ es.toList.map keyS = (shapes.map (·.1)).map some
  sG : ∀ p ∈ shapes, ∃ t, PySem.W.nsIn K a.aS p.1 = some (some (.int (p.2 : Int) t))
structure BF (base : Heap) (mg : Str → Option Value) (a : Adr) : Prop where
  T0 : GxR.TabB base mg a.c0 a.P0
  T1 : GxR.TabB base mg a.c1 a.P1
  T2 : GxR.TabB base mg a.c2 a.P2
  T3 : GxR.TabB base mg a.c3 a.P3
  M : base.Ns mainGlobals mg
section
variable {Pr : Program} {w : World} {K : PySem.W.Frag} {mg : Str → Option Value} {base : Heap} {ms : List Addr} {a : Adr}
/-- a promise about any data -/
def spD (ms Ts : List Addr) (g : PyData → Bool) : Sp := fun vs H Q _ => ∃ (v : V) (d : PyData), vs = [v] ∧ An ms H v d ∧ wd d ≤ 1000000 ∧ TTs Ts H ∧ (∀ P ∈ Ts, P ∈ ms) ∧ ∀ H', TTs Ts H' → Kp Ts H H' → Q (.bl (g d)) H'
theorem scTag : FnScope ["thing"] ["thing"] (defScope sIsTag) := ⟨rfl, rfl, rfl, by decide +kernel, rfl, by decide +kernel, by decide +kernel⟩
theorem ok_tag (F : PF K w mg a) (b : BF base mg a) : FnOk Pr w K mg base CX0 1 (a.A 12) (a.D 12) ["thing"] (spD ms a.Ts isTagD) := by
  obtain ⟨tL, mL⟩ := F.lett
  obtain ⟨tT, mT⟩ := F.tlen
  have B := F.B
  obtain ⟨oc, od, kV, doc, pm, an, ct, osl, efd, lk, code⟩ := F.tag.ex
  rw [efd]
  rw [efd] at lk
  refine fn_of lk code scTag (fun vs H Q E h => ?_) (fun A outer s H vs Q E hr h => ?_)
  · obtain ⟨v, d, rfl, _⟩ := h
    rfl
  · obtain ⟨v, d, rfl, hv, hz, hT, hsub, k⟩ := h
    refine ⟨_, pss_one (ps_ret (pe_and (pe_callB call_isi (by rfl) B.isi (by decide +kernel) (pa_cons (pv 0) (pa_cons (pe_bltn (v := .ty "str") (by rfl) B.str (by decide +kernel) rfl) pa_nil)))
      (pe_and (pe_chain op_le op_le pe_int (pe_callB call_len_str (by rfl) B.len PySem.boot_len (pa_cons (pv 0) pa_nil)) (pe_glob (v := .int 8) (by rfl) mT ⟨_, rfl⟩))
        (pe_one (pe_allG (P := a.P0) (c := a.c0) hr (by rfl) B.all (by decide +kernel) b.T0 rfl ⟨rfl, rfl, by decide +kernel, rfl, rfl, (by intro y hy e; exfalso; revert y; decide +kernel)⟩ (pv 0) (elt_inG rfl rfl rfl rfl b.M mL) (fun _ => rfl)))))), ?_⟩
    have kH := k H hT .refl
    obtain ⟨ty, hty, kty⟩ := hv.strK (K := K)
    refine ⟨_, rfl, _, .ty "str", ty, .type "str", _, rfl, .ty "str", hty, kty, ?_⟩
    cases hv with
    | non => exact ⟨false, rfl, iteF kH⟩
    | bl b => exact ⟨false, rfl, iteF kH⟩
    | int i => exact ⟨false, rfl, iteF kH⟩
    | lst e => exact ⟨false, rfl, iteF kH⟩
    | tup e => exact ⟨false, rfl, iteF kH⟩
    | dct e => exact ⟨false, rfl, iteF kH⟩
    | str g =>
      refine ⟨true, rfl, iteT ?_⟩
      have hg : g.length ≤ sizeLine := by
        have h1 : 10 * g.length + 2 ≤ 1000000 := hz
        exact Nat.le_trans (show g.length ≤ 1000000 by omega) (by decide)
      have fin : ∀ b, isTag g = b → Q (.bl b) H := fun b e => by
        rw [← e]
        exact kH
      refine ⟨_, rfl, _, rfl, hg, _, _, rfl, rfl, _, rfl, ?_⟩
      by_cases h1 : 1 ≤ g.length
      · rw [decide_eq_true (show (1 : Int) ≤ (g.length : Int) by omega)]
        refine iteT ⟨_, _, rfl, rfl, _, rfl, ?_⟩
        by_cases h2 : g.length ≤ 8
        · rw [decide_eq_true (show (g.length : Int) ≤ 8 by omega)]
          refine iteT ⟨_, rfl, g, rfl, hT _ (by simp), fun H2 h => ?_⟩
          obtain ⟨g2, k2⟩ := hT.tab (by simp) h
          have q : Q (.bl (isTag g)) H2 := k H2 g2 k2
          rw [isTag, decide_eq_true h1, decide_eq_true h2] at q
          rw [abc_is]
          exact q
        · rw [decide_eq_false (show ¬ (g.length : Int) ≤ 8 by omega)]
          refine iteF (fin _ ?_)
          rw [isTag, decide_eq_false h2, Bool.and_false]
          rfl
      · rw [decide_eq_false (show ¬ (1 : Int) ≤ (g.length : Int) by omega)]
        refine iteF ⟨_, rfl, iteF (fin _ ?_)⟩
        rw [isTag, decide_eq_false h1]
        rfl
theorem inV_strs (g : Str) (ts : List Str) : inV (.str g) (ts.map V.str) = ts.any fun t => decide (t = g) := by
  unfold inV
  rw [List.any_map]
  rfl
theorem flat_strs (ts : List Str) : (ts.map V.str).all flatV = true := by
  rw [List.all_map]
  exact List.all_eq_true.mpr fun _ _ => rfl
/-! ### is_name -/
theorem scName : FnScope ["thing"] ["thing"] (defScope sIsName) := ⟨rfl, rfl, rfl, by decide +kernel, rfl, by decide +kernel, by decide +kernel⟩
theorem ok_name (F : PF K w mg a) (b : BF base mg a) : FnOk Pr w K mg base CX0 1 (a.A 19) (a.D 19) ["thing"] (spD ms a.Ts isNameD) := by
  obtain ⟨tL, mL⟩ := F.lett
  obtain ⟨tN, mN⟩ := F.sign
  obtain ⟨tT, mT⟩ := F.nlen
  have B := F.B
  obtain ⟨oc, od, kV, doc, pm, an, ct, osl, efd, lk, code⟩ := F.name.ex
  rw [efd]
  rw [efd] at lk
  refine fn_of lk code scName (fun vs H Q E h => ?_) (fun A outer s H vs Q E hr h => ?_)
  · obtain ⟨v, d, rfl, _⟩ := h
    rfl
  · obtain ⟨v, d, rfl, hv, hz, hT, hsub, k⟩ := h
    refine ⟨_, pss_cons (ps_if (PW.pt (pw_or (pt_not (pt_val (pe_callB call_isi (by rfl) B.isi (by decide +kernel) (pa_cons (pv 0) (pa_cons (pe_bltn (v := .ty "str") (by rfl) B.str (by decide +kernel) rfl) pa_nil)))))
        (pw_or (pt_not (pt_chain op_le op_le pe_int (pe_callB call_len_str (by rfl) B.len PySem.boot_len (pa_cons (pv 0) pa_nil)) (pe_glob (v := .int 20) (by rfl) mT ⟨_, rfl⟩)))
        (pw_or1 (pt_cmpR op_in_seq (pv 0) (pe_glob (v := .ref a.aW) (by rfl) F.word.1 rfl) (by rfl)))))) (pss_one (ps_ret pe_bl)) pss_nil)
      (pss_one (ps_ret (pe_and (pe_cmpR op_in_sign (pe_ix ix_str (pv 0) pe_int (fun _ _ => rfl)) (pe_glob (v := .str "abcdefghijklmnopqrstuvwxyz") (by rfl) mL ⟨_, rfl⟩) (by rfl))
        (pe_one (pe_allG (P := a.P1) (c := a.c1) hr (by rfl) B.all (by decide +kernel) b.T1 rfl ⟨rfl, rfl, by decide +kernel, rfl, rfl, (by intro y hy e; exfalso; revert y; decide +kernel)⟩ (pv 0) (elt_inG rfl rfl rfl rfl b.M mN) (fun _ => rfl)))))), ?_⟩
    have kH := k H hT .refl
    obtain ⟨ty, hty, kty⟩ := hv.strK (K := K)
    refine ⟨_, rfl, _, .ty "str", ty, .type "str", _, rfl, .ty "str", hty, kty, ?_⟩
    cases hv with
    | non => exact ⟨false, rfl, iteT kH⟩
    | bl b => exact ⟨false, rfl, iteT kH⟩
    | int i => exact ⟨false, rfl, iteT kH⟩
    | lst e => exact ⟨false, rfl, iteT kH⟩
    | tup e => exact ⟨false, rfl, iteT kH⟩
    | dct e => exact ⟨false, rfl, iteT kH⟩
    | str g =>
      refine ⟨true, rfl, iteF ?_⟩
      have hg : g.length ≤ sizeLine := by
        have h1 : 10 * g.length + 2 ≤ 1000000 := hz
        exact Nat.le_trans (show g.length ≤ 1000000 by omega) (by decide)
      have fin : ∀ b, isName g = b → Q (.bl b) H := fun b e => by
        rw [← e]
        exact kH
      refine ⟨_, rfl, _, rfl, hg, _, _, rfl, rfl, _, rfl, ?_⟩
      by_cases h1 : 1 ≤ g.length
      · rw [decide_eq_true (show (1 : Int) ≤ (g.length : Int) by omega)]
        refine iteT ⟨_, _, rfl, rfl, _, rfl, ?_⟩
        by_cases h2 : g.length ≤ 20
        · rw [decide_eq_true (show (g.length : Int) ≤ 20 by omega)]
          refine iteF ⟨_, rfl, _, _, rfl, .inr (F.word.2.sqt H), rfl, flat_strs _, _, rfl, ?_⟩
          rw [if_neg Bool.false_ne_true, inV_strs]
          cases e3 : wordsL.any fun t => decide (t = g) with
          | true =>
            refine iteT (fin _ ?_)
            rw [isName, e3]
            simp
          | false =>
            refine iteF ?_
            cases e4 : g.cps.toList with
            | nil =>
              have : g.cps.toList.length = 0 := by rw [e4]; rfl
              have q : g.length = 0 := by rw [← this, Array.length_toList]; rfl
              omega
            | cons c r =>
              refine ⟨_, rfl, g, 0, c, rfl, rfl, hg, by rw [e4]; exact atI_nat (j := 0) rfl, c, _, rfl, rfl, _, rfl, ?_⟩
              rw [abc_is]
              cases e5 : decide (c ∈ abc) with
              | false =>
                refine iteF (fin _ ?_)
                rw [isName, e4]
                show (_ && (_ && (_ && (decide (c ∈ abc) && _)))) = false
                rw [e5]
                simp
              | true =>
                refine iteT ⟨_, rfl, g, rfl, hT _ (by simp), fun H2 h => ?_⟩
                obtain ⟨g2, k2⟩ := hT.tab (by simp) h
                have q : Q (.bl (isName g)) H2 := k H2 g2 k2
                have e6 : isName g = g.cps.toList.all fun c => decide (c ∈ nsL) := by
                  rw [isName, decide_eq_true h1, decide_eq_true h2, e3, e4]
                  show (true && (true && (!false && (decide (c ∈ abc) && _)))) = _
                  rw [e5]
                  rfl
                rw [e6] at q
                exact q
        · rw [decide_eq_false (show ¬ (g.length : Int) ≤ 20 by omega)]
          refine iteT (fin _ ?_)
          rw [isName, decide_eq_false h2]
          simp
      · rw [decide_eq_false (show ¬ (1 : Int) ≤ (g.length : Int) by omega)]
        refine iteF ⟨_, rfl, iteT (fin _ ?_)⟩
        rw [isName, decide_eq_false h1]
        rfl
end
end Ey
set_option maxHeartbeats 4000000
namespace Ey
open PySem PySem.Spec L2
theorem take_all {α : Type} {f : α → Bool} {l : List α} {i : Nat} {x : α} (h : l[i]? = some x) : (l.take (i + 1)).all f = ((l.take i).all f && f x) := by
  rw [List.take_add_one, h, List.all_append]
  simp
theorem AnAll.at {ms : List Addr} {H : Hp} {vs : List V} {ds : List PyData} (h : AnAll ms H vs ds) {i : Nat} {v : V} (e : vs[i]? = some v) : ∃ d, ds[i]? = some d ∧ An ms H v d := h.get e
theorem AnAll.of_at {ms : List Addr} {H : Hp} {vs : List V} {ds : List PyData} (h : AnAll ms H vs ds) {i : Nat} {d : PyData} (e : ds[i]? = some d) : ∃ v, vs[i]? = some v ∧ An ms H v d := by
  have l := h.length
  have lt : i < vs.length := by
    have := (List.getElem?_eq_some_iff.mp e).1
    omega
  obtain ⟨d', e2, a⟩ := h.get (List.getElem?_eq_getElem lt)
  rw [e] at e2
  cases e2
  exact ⟨_, List.getElem?_eq_getElem lt, a⟩
section
variable {Pr : Program} {w : World} {K : PySem.W.Frag} {mg : Str → Option Value} {base : Heap} {ms : List Addr} {a : Adr}
/-! ### are_names -/
theorem scNames : FnScope ["thing"] ["thing"] (defScope sAreNames) := ⟨rfl, rfl, rfl, by decide +kernel, rfl, by decide +kernel, by decide +kernel⟩
theorem ok_names (F : PF K w mg a) (b : BF base mg a) : FnOk Pr w K mg base CX0 4 (a.A 20) (a.D 20) ["thing"] (spD ms a.Ts areNames) := by
  have B := F.B
  obtain ⟨oc, od, kV, doc, pm, an, ct, osl, efd, lk, code⟩ := F.names.ex
  rw [efd]
  rw [efd] at lk
  refine fn_of lk code scNames (fun vs H Q E h => ?_) (fun A outer s H vs Q E hr h => ?_)
  · obtain ⟨v, d, rfl, _⟩ := h
    rfl
  · obtain ⟨v, d, rfl, hv, hz, hT, hsub, k⟩ := h
    refine ⟨_, pss_one (ps_ret (pe_and (pe_callB call_isi (by rfl) B.isi (by decide +kernel) (pa_cons (pv 0) (pa_cons (pe_bltn (v := .ty "tuple") (by rfl) B.tuple (by decide +kernel) rfl) pa_nil)))
      (pe_one (pe_allX (k := 1) (P := a.P2) (c := a.c2) hr (by rfl) B.all (by decide +kernel) b.T2 rfl ⟨rfl, rfl, by decide +kernel, rfl, rfl, (by intro y hy e; exfalso; revert y; decide +kernel)⟩ (by decide +kernel) (pi_tup (pv 0))
        (fun A s H C code fp hr => pe_call (ok_name (ms := ms) F b) hr (by rfl) F.name.g F.name.F.kp F.name.b .nil pass0 (pa_cons (pv 0) pa_nil)) (fun _ => rfl))))), ?_⟩
    have kH := k H hT .refl
    obtain ⟨ty, hty, kty⟩ := hv.tupK (K := K)
    refine ⟨_, rfl, _, .ty "tuple", ty, .type "tuple", _, rfl, .ty "tuple", hty, kty, ?_⟩
    cases hv with
    | non => exact ⟨false, rfl, iteF kH⟩
    | bl b => exact ⟨false, rfl, iteF kH⟩
    | int i => exact ⟨false, rfl, iteF kH⟩
    | str g => exact ⟨false, rfl, iteF kH⟩
    | lst e => exact ⟨false, rfl, iteF kH⟩
    | dct e => exact ⟨false, rfl, iteF kH⟩
    | @tup t xs ds e hds =>
      refine ⟨true, rfl, iteT ⟨_, rfl, t, rfl, ⟨_, sqt_of e⟩, hT _ (by simp), fun H2 h2 => ?_⟩⟩
      obtain ⟨g2, k2⟩ := hT.tab (by simp) h2
      have hw : wdAll ds + 3 ≤ 1000000 := hz
      have ln := hds.length
      refine all_tup (fun i H' => TTs a.Ts H' ∧ Kp a.Ts H H' ∧ (ds.take i).all isNameD = true) ⟨g2, k2, rfl⟩ (fun i H' ⟨_, k', _⟩ => sqt_of (k'.tup _ _ e)) ?_ ?_
      · rintro i x H' hx ⟨g', k', q⟩
        obtain ⟨dx, e1, ax⟩ := hds.get hx
        have := wd_get e1
        refine ⟨_, rfl, x, dx, rfl, ax.kp k' hsub dx, by omega, g', hsub, fun H3 g3 k3 => ⟨_, rfl, ?_⟩⟩
        cases e2 : isNameD dx with
        | true =>
          refine iteT ⟨g3, k'.trans k3, ?_⟩
          rw [take_all e1, q, e2]
          rfl
        | false =>
          have e3 : areNames (.tuple ds) = false := List.all_eq_false.mpr ⟨dx, List.mem_of_getElem? e1, by rw [e2]; exact Bool.false_ne_true⟩
          rw [e3] at k
          exact iteF (k H3 g3 (k'.trans k3))
      · rintro H' ⟨g', k', q⟩
        rw [ln, List.take_length] at q
        have e3 : areNames (.tuple ds) = true := q
        rw [e3] at k
        exact k H' g' k'
/-! ### parts_of -/
theorem scParts : FnScope ["term", "word"] ["term"] (defScope sPartsOf) := ⟨rfl, rfl, rfl, by decide +kernel, rfl, by decide +kernel, by decide +kernel⟩
def spParts (ms : List Addr) : Sp := fun vs H Q _ => ∃ (v : V) (d : PyData) (H0 : Hp) (ms' : List Addr), vs = [v] ∧ An ms H0 v d ∧ Kp ms' H0 H ∧ headed d = true ∧ wd d ≤ 1000000 ∧
  ∀ (p : Addr) (xs : List V) (H' : Hp), H' p = some (.tup xs) → AnAll ms H0 xs (partsD d) → Kp [] H H' → Q (.ref p) H'
theorem nomark2 : True := trivial
theorem ok_parts (F : PF K w mg a) : FnOk Pr w K mg base CX0 1 (a.A 21) (a.D 21) ["term"] (spParts ms) := by
  refine F.parts.F.ok scParts (fun vs H Q E h => ?_) (fun cdv Ar outer s H vs Q E hr h => ?_)
  · obtain ⟨v, d, H0, ms', rfl, _⟩ := h
    rfl
  · obtain ⟨v, d, H0, ms', rfl, hv, k0, hh, hz, k⟩ := h
    refine ⟨_, pss_cons (ps_set (i := 1) scParts.nd rfl (.inl rfl) (pe_ix ix_tup (pv 0) pe_int (fun _ _ => rfl)))
      (pss_cons (ps_if (pt_cmpR op_eq (pv 1) pe_str (nomark _)) (pss_one (ps_ret (pe_tup pa_nil))) pss_nil)
      (pss_cons (ps_if (pt_cmpR op_eq (pv 1) pe_str (nomark _)) (pss_one (ps_ret (pe_tup (pa_cons (pe_ix ix_tup (pv 0) pe_int (fun _ _ => rfl)) pa_nil)))) pss_nil)
      (pss_cons (ps_if (pt_cmpR op_eq (pv 1) pe_str (nomark _)) (pss_one (ps_ret (pe_ix ix_tup (pv 0) pe_int (fun _ _ => rfl)))) pss_nil)
      (pss_one (ps_ret (pe_slice sl_cut (pv 0) (po_some pe_int) po_none)))))), ?_⟩
    unfold headed at hh
    split at hh
    · rename_i wd0 r
      cases hv with
      | @tup t xs _ e00 hds =>
        have e := k0.tup _ _ e00
        cases hds with
        | @cons v0 vs _ _ h0 hr0 =>
          cases h0
          have kw : ∀ (p : Addr) (xs : List V) (H' : Hp), H' p = some (.tup xs) → AnAll ms H0 xs (partsR wd0 r) → Kp [] H H' → Q (.ref p) H' := k
          refine ⟨_, rfl, t, _, _, _, rfl, rfl, sqt_of e, atI_nat (j := 0) rfl, ?_⟩
          refine ⟨_, rfl, rfl, _, rfl, ite2 (fun q => ?_) (fun q1 => ?_)⟩
          · have e1 : wd0 = kName := V.str.inj (of_decide_eq_true q)
            refine ⟨Nat.zero_le _, fun p np => kw p [] _ upd_same ?_ (.new np)⟩
            unfold partsR
            rw [if_pos e1]
            exact .nil
          have n1 : ¬ wd0 = kName := fun z => q1 (decide_eq_true (by rw [z]; rfl))
          refine ⟨_, rfl, rfl, _, rfl, ite2 (fun q => ?_) (fun q2 => ?_)⟩
          · have e2 : wd0 = kHas := V.str.inj (of_decide_eq_true q)
            unfold headedR at hh
            rw [if_neg n1, if_pos e2] at hh
            match r, hr0, hh with
            | [c1, c2], .cons (v := v1) a1 (.cons (v := v2) a2 .nil), _ =>
              refine ⟨_, rfl, t, _, _, _, rfl, rfl, sqt_of e, atI_nat (j := 1) rfl, by show 1 ≤ sizeLine; decide, fun p np => kw p [v1] _ upd_same ?_ (.new np)⟩
              unfold partsR
              rw [if_neg n1, if_pos e2]
              exact .cons a1 .nil
          have n2 : ¬ wd0 = kHas := fun z => q2 (decide_eq_true (by rw [z]; rfl))
          refine ⟨_, rfl, rfl, _, rfl, ite2 (fun q => ?_) (fun q3 => ?_)⟩
          · have e3 : wd0 = kCall := V.str.inj (of_decide_eq_true q)
            unfold headedR at hh
            rw [if_neg n1, if_neg n2, if_pos e3] at hh
            match r, hr0, hh with
            | [c1, c2], .cons (v := v1) a1 (.cons (v := v2) a2 .nil), hh =>
              have ht : isTup c2 = true := by
                have : (isNameD c1 && isTup c2) = true := hh
                exact (Bool.and_eq_true _ _ ▸ this).2
              cases a2 with
              | @tup t2 ys es e2 hes =>
                refine ⟨_, rfl, t, _, _, .ref t2, rfl, rfl, sqt_of e, atI_nat (j := 2) rfl, kw t2 ys H (k0.tup _ _ e2) ?_ .refl⟩
                unfold partsR
                rw [if_neg n1, if_neg n2, if_pos e3]
                exact hes
              | _ => cases ht
          have n3 : ¬ wd0 = kCall := fun z => q3 (decide_eq_true (by rw [z]; rfl))
          refine ⟨_, rfl, _, rfl, t, _, rfl, e, fun p H' ep kp => ?_⟩
          have ec : cutV (V.str wd0 :: vs) (some 1) none = vs := cut_drop (V.str wd0 :: vs) 1
          refine kw p vs H' (ec ▸ ep) ?_ kp
          unfold partsR
          rw [if_neg n1, if_neg n2, if_neg n3]
          exact hr0
    · cases hh
end
end Ey
set_option maxHeartbeats 4000000
namespace Ey
open PySem PySem.Spec L2
theorem dec_int (i j : Int) : decide (V.int i = V.int j) = decide (i = j) := by
  by_cases h : i = j
  · rw [decide_eq_true h, decide_eq_true (congrArg V.int h)]
  · rw [decide_eq_false h, decide_eq_false fun z => h (V.int.inj z)]
theorem arity_none {w : Str} (h : arity w = none) : w ∉ shapes.map (·.1) := fun hw => by
  obtain ⟨p, hp, e⟩ := List.mem_map.mp hw
  unfold arity at h
  rw [Option.map_eq_none_iff, List.find?_eq_none] at h
  exact h p hp (decide_eq_true e)
theorem arity_some {w : Str} {n : Nat} (h : arity w = some n) : ∃ p ∈ shapes, p.1 = w ∧ p.2 = n := by
  unfold arity at h
  obtain ⟨p, hp, e⟩ := Option.map_eq_some_iff.mp h
  exact ⟨p, List.mem_of_find?_eq_some hp, of_decide_eq_true (List.find?_some (p := fun q : Str × Nat => decide (q.1 = w)) hp), e⟩
section
variable {Pr : Program} {w : World} {K : PySem.W.Frag} {mg : Str → Option Value} {base : Heap} {ms : List Addr} {a : Adr}
/-! ### is_headed -/
theorem scHeaded : FnScope ["thing", "word"] ["thing"] (defScope sIsHeaded) := ⟨rfl, rfl, rfl, by decide +kernel, rfl, by decide +kernel, by decide +kernel⟩
theorem ok_headed (F : PF K w mg a) (b : BF base mg a) : FnOk Pr w K mg base CX0 2 (a.A 22) (a.D 22) ["thing"] (spD ms a.Ts headed) := by
  have B := F.B
  obtain ⟨es, n, D, hks⟩ := F.sD
  refine F.headed.F.ok scHeaded (fun vs H Q E h => ?_) (fun cdv Ar outer s H vs Q E hr h => ?_)
  · obtain ⟨v, d, rfl, _⟩ := h
    rfl
  · obtain ⟨v, d, rfl, hv, hz, hT, hsub, k⟩ := h
    refine ⟨_, pss_cons (ps_if (PW.pt (pw_or (pt_not (pt_val (pe_callB call_isi (by rfl) B.isi (by decide +kernel) (pa_cons (pv 0) (pa_cons (pe_bltn (v := .ty "tuple") (by rfl) B.tuple (by decide +kernel) rfl) pa_nil)))))
        (pw_or (pt_not (pt_truth (pv 0) (by intro _; rfl)))
        (pw_or1 (pt_not (pt_val (pe_callB call_isi (by rfl) B.isi (by decide +kernel) (pa_cons (pe_ix ix_tup (pv 0) pe_int (fun _ _ => rfl)) (pa_cons (pe_bltn (v := .ty "str") (by rfl) B.str (by decide +kernel) rfl) pa_nil))))))))) (pss_one (ps_ret pe_bl)) pss_nil)
      (pss_cons (ps_set (i := 1) scHeaded.nd rfl (.inl rfl) (pe_ix ix_tup (pv 0) pe_int (fun _ _ => rfl)))
      (pss_cons (ps_if (pt_cmpR op_eq (pv 1) pe_str (nomark _)) (pss_one (ps_ret (pe_and (pe_cmpR op_eq (pe_callB call_len_seq (by rfl) B.len PySem.boot_len (pa_cons (pv 0) pa_nil)) pe_int (nomark _))
          (pe_one (pe_call (ok_name (ms := ms) F b) hr (by rfl) F.name.g F.name.F.kp F.name.b .nil pass0 (pa_cons (pe_ix ix_tup (pv 0) pe_int (fun _ _ => rfl)) pa_nil)))))) pss_nil)
      (pss_cons (ps_if (pt_cmpR op_eq (pv 1) pe_str (nomark _)) (pss_one (ps_ret (pe_and (pe_cmpR op_eq (pe_callB call_len_seq (by rfl) B.len PySem.boot_len (pa_cons (pv 0) pa_nil)) pe_int (nomark _))
          (pe_one (pe_call (ok_tag (ms := ms) F b) hr (by rfl) F.tag.g F.tag.F.kp F.tag.b .nil pass0 (pa_cons (pe_ix ix_tup (pv 0) pe_int (fun _ _ => rfl)) pa_nil)))))) pss_nil)
      (pss_cons (ps_if (pt_cmpR op_eq (pv 1) pe_str (nomark _)) (pss_one (ps_ret (pe_and (pe_cmpR op_eq (pe_callB call_len_seq (by rfl) B.len PySem.boot_len (pa_cons (pv 0) pa_nil)) pe_int (nomark _))
          (pe_and (pe_call (ok_name (ms := ms) F b) hr (by rfl) F.name.g F.name.F.kp F.name.b .nil pass0 (pa_cons (pe_ix ix_tup (pv 0) pe_int (fun _ _ => rfl)) pa_nil))
          (pe_one (pe_callB call_isi (by rfl) B.isi (by decide +kernel) (pa_cons (pe_ix ix_tup (pv 0) pe_int (fun _ _ => rfl)) (pa_cons (pe_bltn (v := .ty "tuple") (by rfl) B.tuple (by decide +kernel) rfl) pa_nil)))))))) pss_nil)
      (pss_one (ps_ret (pe_and (pe_cmpR (op_in_kd D) (pv 1) (pe_glob (v := .ref a.aS) (by rfl) F.shape rfl) (by rfl))
        (pe_one (pe_cmpR op_eq (pe_callB call_len_seq (by rfl) B.len PySem.boot_len (pa_cons (pv 0) pa_nil)) (pe_op op_add pe_int (pe_ix ix_kdict (pe_glob (v := .ref a.aS) (by rfl) F.shape rfl) (pv 1) (fun _ _ => rfl))) (nomark _)))))))))), ?_⟩
    have kH := k H hT .refl
    obtain ⟨ty, hty, kty⟩ := hv.tupK (K := K)
    refine ⟨_, rfl, _, .ty "tuple", ty, .type "tuple", _, rfl, .ty "tuple", hty, kty, ?_⟩
    cases hv with
    | non => exact ⟨false, rfl, iteT kH⟩
    | bl b => exact ⟨false, rfl, iteT kH⟩
    | int i => exact ⟨false, rfl, iteT kH⟩
    | str g => exact ⟨false, rfl, iteT kH⟩
    | lst e => exact ⟨false, rfl, iteT kH⟩
    | dct e => exact ⟨false, rfl, iteT kH⟩
    | @tup t xs ds e hds =>
      refine ⟨true, rfl, iteF ?_⟩
      cases hds with
      | nil =>
        exact ⟨_, rfl, false, .inr (.inl ⟨_, sqt_of e, rfl⟩), iteT kH⟩
      | @cons v0 vs d0 r h0 hr0 =>
        refine ⟨_, rfl, true, .inr (.inl ⟨_, sqt_of e, rfl⟩), iteF ?_⟩
        obtain ⟨ty0, hty0, kty0⟩ := h0.strK (K := K)
        refine ⟨_, rfl, t, _, _, _, rfl, rfl, sqt_of e, atI_nat (j := 0) rfl, _, .ty "str", ty0, .type "str", _, rfl, .ty "str", hty0, kty0, ?_⟩
        cases h0 with
        | non => exact ⟨false, rfl, iteT kH⟩
        | bl b => exact ⟨false, rfl, iteT kH⟩
        | int i => exact ⟨false, rfl, iteT kH⟩
        | lst e => exact ⟨false, rfl, iteT kH⟩
        | dct e => exact ⟨false, rfl, iteT kH⟩
        | tup e => exact ⟨false, rfl, iteT kH⟩
        | str wd0 =>
          refine ⟨true, rfl, iteF ?_⟩
          have kw : ∀ H', TTs a.Ts H' → Kp a.Ts H H' → Q (.bl (headedR wd0 r)) H' := k
          have kB : ∀ bb H', headedR wd0 r = bb → TTs a.Ts H' → Kp a.Ts H H' → Q (.bl bb) H' := fun bb H' e' g' k' => e' ▸ kw H' g' k'
          have ln := hr0.length
          have hwr : wdAll r ≤ 1000000 := by
            have q : wd (.str wd0) + 2 + wdAll r + 3 ≤ 1000000 := hz
            omega
          have hl : ∀ m : Int, decide (V.int (((V.str wd0 :: vs).length : Nat) : Int) = V.int m) = decide ((r.length : Int) + 1 = m) := fun m => by
            rw [dec_int]
            have e1 : (((V.str wd0 :: vs).length : Nat) : Int) = (r.length : Int) + 1 := by
              rw [List.length_cons, ln]
              omega
            rw [e1]
          refine ⟨_, rfl, t, _, _, _, rfl, rfl, sqt_of e, atI_nat (j := 0) rfl, ?_⟩
          refine ⟨_, rfl, rfl, _, rfl, ite2 (fun q => ?_) (fun q1 => ?_)⟩
          · have e1 : wd0 = kName := V.str.inj (of_decide_eq_true q)
            have hh : headedR wd0 r = hdN r := by
              unfold headedR
              rw [if_pos e1]
            refine ⟨_, rfl, t, _, rfl, .inr (sqt_of e), rfl, _, rfl, ?_⟩
            rw [hl 2]
            match r, hr0, hh, kB, hwr with
            | [], _, hh, kB, _ => exact iteF (kB _ H hh hT .refl)
            | [x], .cons (v := v1) a1 .nil, hh, kB, hwr =>
              refine iteT ⟨_, rfl, t, _, _, _, rfl, rfl, sqt_of e, atI_nat (j := 1) rfl, v1, x, rfl, a1, ?_, hT, hsub, fun H' g' k' => kB _ H' hh g' k'⟩
              have : wd x + 2 + 0 ≤ 1000000 := hwr
              omega
            | x :: y :: r', _, hh, kB, _ =>
              rw [decide_eq_false (show ¬ (((x :: y :: r').length : Nat) : Int) + 1 = 2 by simp only [List.length_cons]; omega)]
              exact iteF (kB _ H hh hT .refl)
          have n1 : ¬ wd0 = kName := fun z => q1 (decide_eq_true (by rw [z]; rfl))
          refine ⟨_, rfl, rfl, _, rfl, ite2 (fun q => ?_) (fun q2 => ?_)⟩
          · have e2 : wd0 = kHas := V.str.inj (of_decide_eq_true q)
            have hh : headedR wd0 r = hdH r := by
              unfold headedR
              rw [if_neg n1, if_pos e2]
            refine ⟨_, rfl, t, _, rfl, .inr (sqt_of e), rfl, _, rfl, ?_⟩
            rw [hl 3]
            match r, hr0, hh, kB, hwr with
            | [], _, hh, kB, _ => exact iteF (kB _ H hh hT .refl)
            | [x], _, hh, kB, _ => exact iteF (kB _ H hh hT .refl)
            | [x, y], .cons (v := v1) a1 (.cons (v := v2) a2 .nil), hh, kB, hwr =>
              refine iteT ⟨_, rfl, t, _, _, _, rfl, rfl, sqt_of e, atI_nat (j := 2) rfl, v2, y, rfl, a2, ?_, hT, hsub, fun H' g' k' => kB _ H' hh g' k'⟩
              have : wd x + 2 + (wd y + 2 + 0) ≤ 1000000 := hwr
              omega
            | x :: y :: z :: r', _, hh, kB, _ =>
              rw [decide_eq_false (show ¬ (((x :: y :: z :: r').length : Nat) : Int) + 1 = 3 by simp only [List.length_cons]; omega)]
              exact iteF (kB _ H hh hT .refl)
          have n2 : ¬ wd0 = kHas := fun z => q2 (decide_eq_true (by rw [z]; rfl))
          refine ⟨_, rfl, rfl, _, rfl, ite2 (fun q => ?_) (fun q3 => ?_)⟩
          · have e3 : wd0 = kCall := V.str.inj (of_decide_eq_true q)
            have hh : headedR wd0 r = hdC r := by
              unfold headedR
              rw [if_neg n1, if_neg n2, if_pos e3]
            refine ⟨_, rfl, t, _, rfl, .inr (sqt_of e), rfl, _, rfl, ?_⟩
            rw [hl 3]
            match r, hr0, hh, kB, hwr with
            | [], _, hh, kB, _ => exact iteF (kB _ H hh hT .refl)
            | [x], _, hh, kB, _ => exact iteF (kB _ H hh hT .refl)
            | [x, y], .cons (v := v1) a1 (.cons (v := v2) a2 .nil), hh, kB, hwr =>
              refine iteT ⟨_, rfl, t, _, _, _, rfl, rfl, sqt_of e, atI_nat (j := 1) rfl, v1, x, rfl, a1, ?_, hT, hsub, fun H' g' k' => ?_⟩
              · have : wd x + 2 + (wd y + 2 + 0) ≤ 1000000 := hwr
                omega
              have hh' : headedR wd0 [x, y] = (isNameD x && isTup y) := hh
              cases en : isNameD x with
              | false =>
                rw [en] at hh'
                exact ⟨_, rfl, iteF (kB _ H' hh' g' k')⟩
              | true =>
                rw [en] at hh'
                obtain ⟨ty2, hty2, kty2⟩ := (a2.kp k' hsub y).tupK (K := K)
                exact ⟨_, rfl, iteT ⟨_, rfl, t, _, _, _, rfl, rfl, sqt_of (k'.tup _ _ e), atI_nat (j := 2) rfl, _, .ty "tuple", ty2, .type "tuple", _, rfl, .ty "tuple", hty2, kty2, kB _ H' hh' g' k'⟩⟩
            | x :: y :: z :: r', _, hh, kB, _ =>
              rw [decide_eq_false (show ¬ (((x :: y :: z :: r').length : Nat) : Int) + 1 = 3 by simp only [List.length_cons]; omega)]
              exact iteF (kB _ H hh hT .refl)
          have n3 : ¬ wd0 = kCall := fun z => q3 (decide_eq_true (by rw [z]; rfl))
          have hh : headedR wd0 r = hdA r (arity wd0) := by
            unfold headedR
            rw [if_neg n1, if_neg n2, if_neg n3]
          cases ea : arity wd0 with
          | none =>
            rw [ea] at hh
            exact ⟨_, rfl, wd0, none, rfl, rfl, no_key D.at_ hks (arity_none ea), false, rfl, iteF (kB _ H hh hT .refl)⟩
          | some m =>
            rw [ea] at hh
            obtain ⟨p, hp, ep, em⟩ := arity_some ea
            obtain ⟨tk, hg⟩ := F.sG p hp
            rw [ep, em] at hg
            refine ⟨_, rfl, wd0, some _, rfl, rfl, hg, true, rfl, iteT ?_⟩
            refine ⟨_, rfl, t, _, rfl, .inr (sqt_of e), _, rfl, a.aS, wd0, .int m, rfl, rfl, ⟨es, n, _, D.at_, D.lit, hg, ⟨tk, rfl⟩⟩, _, _, rfl, rfl, rfl, ?_⟩
            rw [hl]
            have e5 : decide ((r.length : Int) + 1 = 1 + (m : Int)) = decide (r.length = m) := by
              by_cases h : r.length = m
              · rw [decide_eq_true h, decide_eq_true (by omega)]
              · rw [decide_eq_false h, decide_eq_false (by omega)]
            rw [e5]
            exact kB _ H hh hT .refl
end
end Ey
set_option maxHeartbeats 4000000
namespace Ey
open PySem PySem.AutoSeq1
theorem extend_tuple (l : Addr) (items : Array Value) (n : Nat) (b : Addr) (items2 : Array Value) (n2 : Nat) (dd : Option Addr) (sl : Array (Option Value)) (hs0 : ¬(!items.isEmpty && Builtin.List.listTooLong (items.size + items2.size)) = true) (hs1 : items.size ≤ sizeLine) (hs2 : items.size + items2.size ≤ sizeLine + 1) :
    Meets (Builtin.«list.extend» ⟨[.ref l, .ref b], []⟩) (fun _ R s => s.heap.get? l = some { cls := .type "list", dict := none, data := .seq items n, slots := #[] } ∧ s.heap.get? b = some { cls := .type "tuple", dict := dd, data := .seq items2 n2, slots := sl } ∧ R (.ok (.ret Value.none)) { s with heap := s.heap.update l (Obj.mapSeq fun x => x ++ items2), toks := s.toks }) :=
  .of_wp fun prog w A R s h => by
    obtain ⟨hp, g, d, tk, os⟩ := s; obtain ⟨hl, hb, h⟩ := h; have f1 := idx_int; have f2 := sub_tuple_tuple; have f3 := sub_list_list; have f4 := sub_tuple_list; have f5 := sub_list_tuple;
    have hz' : (items ++ items2).size ≤ sizeLine + 1 := by rw [Array.size_append]; exact hs2
    wp_walk using (wpAny_updateSeq hl rfl (hz := hs1) (_hz' := hz')), wpAny_loadPart' hl, wpAny_loadPart' hb; exact ⟨_, rfl, h⟩
end Ey
namespace Ey
open PySem PySem.Spec PyProof.Rows L2
section
variable {X : Cx}
def rExtendT : V → List V → Hp → VK → Prop := fun x vs H Q => ∃ l b xs zs, x = .ref l ∧ vs = [.ref b] ∧ H l = some (.lst xs) ∧ H b = some (.tup zs) ∧ xs.length + zs.length ≤ sizeLine ∧ Q .non (upd H l (.lst (xs ++ zs)))
theorem mt_extendT : MtM X "list.extend" rExtendT := by
  intro pins s σ H x vs v us Q I rx rv h
  obtain ⟨l, b, xs, zs, rfl, rfl, hH, hB, hz, q⟩ := h
  cases rx
  obtain ⟨u, rfl, ru⟩ := rv.one
  cases ru
  obtain ⟨z, its, n, r, hl, e⟩ := I.lstM hH
  obtain ⟨_, its2, r2, ⟨cls, dd, data, sl⟩, e2, hc, n2, hd⟩ := (show ObjOk X.prog X.w H s.heap b (.tup zs) from I.hok b _ hB)
  simp only at hc hd
  subst hc hd
  have hl2 := r2.length
  have hsz : its.toArray.size + its2.toArray.size ≤ sizeLine := by rw [List.size_toArray, List.size_toArray]; omega
  have hlong : ¬ (!its.toArray.isEmpty && Builtin.List.listTooLong (its.toArray.size + its2.toArray.size)) = true := by
    rw [notLongL hsz, Bool.and_false]
    exact Bool.false_ne_true
  refine call_meets PySem.F.slot_list_extend ⟨_, e, rfl⟩ PySem.F.entry_list_extend (PySem.F.args_list_extend_2 _ _)
    (extend_tuple l its.toArray n b its2.toArray n2 dd sl hlong (by rw [List.size_toArray]; omega) (by omega)) ⟨e, e2, ?_⟩
  refine ⟨.non, _, I.lset (its' := its ++ its2) hH e (by simp) (r.append r2) ?_, rfl, q⟩
  rw [List.length_append]
  omega
end
end Ey
set_option maxHeartbeats 4000000
namespace Ey
open PySem PySem.Spec L2
theorem wdAll_app (xs ys : List PyData) : wdAll (xs ++ ys) = wdAll xs + wdAll ys := by
  induction xs with
  | nil => exact (Nat.zero_add _).symm
  | cons x r ih =>
    show wd x + 2 + wdAll (r ++ ys) = wd x + 2 + wdAll r + wdAll ys
    rw [ih]
    omega
theorem wdAll_rev (xs : List PyData) : wdAll xs.reverse = wdAll xs := by
  induction xs with
  | nil => rfl
  | cons x r ih =>
    rw [List.reverse_cons, wdAll_app, ih]
    show wdAll r + (wd x + 2 + 0) = wd x + 2 + wdAll r
    omega
theorem len_wd2 (ds : List PyData) : 2 * ds.length ≤ wdAll ds := by
  induction ds with
  | nil => exact Nat.le_refl _
  | cons x r ih =>
    show 2 * (r.length + 1) ≤ wd x + 2 + wdAll r
    omega
theorem parts_lt {d : PyData} (h : headed d = true) : wdAll (partsD d) + 3 ≤ wd d := by
  unfold headed at h
  split at h
  · rename_i w r
    show wdAll (partsR w r) + 3 ≤ wd (.str w) + 2 + wdAll r + 3
    have := parts_wdAll (.tuple (.str w :: r))
    unfold partsR
    split
    · show 0 + 3 ≤ _
      omega
    · split
      · cases r with
        | nil =>
          show 0 + 3 ≤ _
          omega
        | cons x r =>
          show wd x + 2 + 0 + 3 ≤ _ + 2 + (wd x + 2 + wdAll r) + 3
          omega
      · split
        · match r with
          | [] =>
            show 0 + 3 ≤ _
            omega
          | [_] =>
            show 0 + 3 ≤ _
            omega
          | x :: y :: r =>
            show wdAll (tupD y) + 3 ≤ _ + 2 + (wd x + 2 + (wd y + 2 + wdAll r)) + 3
            have : wdAll (tupD y) ≤ wd y := by
              cases y <;> first | exact Nat.zero_le _ | exact Nat.le_add_right _ _
            omega
        · omega
  · cases h
section
variable {Pr : Program} {w : World} {K : PySem.W.Frag} {mg : Str → Option Value} {base : Heap} {ms : List Addr} {a : Adr}
/-! ### is_term -/
theorem scTerm : FnScope ["thing", "waiting", "term"] ["thing"] (defScope sIsTerm) := ⟨rfl, rfl, rfl, by decide +kernel, rfl, by decide +kernel, by decide +kernel⟩
theorem ok_term (F : PF K w mg a) (b : BF base mg a) : FnOk Pr w K mg base CX0 3 (a.A 23) (a.D 23) ["thing"] (spD ms a.Ts isTerm) := by
  have B := F.B
  refine F.term.F.ok scTerm (fun vs H Q E h => ?_) (fun cdv Ar outer s H vs Q E hr h => ?_)
  · obtain ⟨v, d, rfl, _⟩ := h
    rfl
  · obtain ⟨v, d, rfl, hv, hz, hT, hsub, k⟩ := h
    refine ⟨_, pss_cons (ps_set (i := 1) scTerm.nd rfl (.inl rfl) (pe_lst (pa_cons (pv 0) pa_nil)))
      (pss_cons (ps_while PassesOwn.never (pt_truth (pv 1) (by intro _; rfl))
        (pss_cons (ps_set (i := 2) scTerm.nd rfl (.inl rfl) (pe_bm0 PySem.F.plainAttrs_list PySem.F.slot_list_pop PySem.F.type_list_pop mt_pop (pv 1)))
        (pss_cons (ps_if (pt_not (pt_val (pe_call (ok_headed (ms := ms) F b) hr (by rfl) F.headed.g F.headed.F.kp F.headed.b .nil pass0 (pa_cons (pv 2) pa_nil)))) (pss_one (ps_ret pe_bl)) pss_nil)
        (pss_one (ps_expr (pe_bm PySem.F.plainAttrs_list PySem.F.slot_list_extend PySem.F.type_list_extend mt_extendT (pv 1)
          (pa_cons (pe_call (ok_parts (ms := ms) F) (hr.mono (by decide)) (by rfl) F.parts.g F.parts.F.kp F.parts.b .nil pass0 (pa_cons (pv 2) pa_nil)) pa_nil)))))))
      (pss_one (ps_ret pe_bl))), ?_⟩
    refine ⟨_, rfl, by show 1 ≤ sizeLine; decide, fun wl nw => ?_⟩
    have nT : wl ∉ a.Ts := hT.nin nw
    refine ⟨fun m σ H2 => ∃ (us : List V) (ds : List PyData) (y : Option V), σ = [some v, some (.ref wl), y] ∧ H2 wl = some (.lst us.reverse) ∧ AnAll ms H us ds ∧ m = wdAll ds ∧ wdAll ds ≤ wd d + 2 ∧ ds.all isTerm = isTerm d ∧ TTs a.Ts H2 ∧ Kp a.Ts H H2,
      ⟨_, [v], [d], none, rfl, upd_same, .cons hv .nil, rfl, Nat.le_refl _, by simp, hT.kp0 (.new nw), .new nw⟩, fun m σ H2 hw => ?_⟩
    obtain ⟨us, ds, y, rfl, hl, hp, rfl, hm, hall, g2, k2⟩ := hw
    refine ⟨_, rfl, _, .inl ⟨_, sql_of hl, rfl⟩, ?_⟩
    cases hp with
    | nil =>
      refine iteF ?_
      have e : isTerm d = true := hall.symm
      exact e ▸ k H2 g2 k2
    | @cons x us d1 ds hx hp =>
      have e0 : (!((x :: us).reverse).isEmpty) = true := by simp
      rw [e0]
      refine iteT ⟨fun σ' H' => ∃ m', m' < wdAll (d1 :: ds) ∧ ∃ (us : List V) (ds : List PyData) (y : Option V), σ' = [some v, some (.ref wl), y] ∧ H' wl = some (.lst us.reverse) ∧ AnAll ms H us ds ∧ m' = wdAll ds ∧ wdAll ds ≤ wd d + 2 ∧ ds.all isTerm = isTerm d ∧ TTs a.Ts H' ∧ Kp a.Ts H H', fun _ _ h => h, ?_⟩
      refine ⟨_, rfl, .inl ⟨rfl, _, sql_of hl⟩, wl, _, x, rfl, rfl, hl, pile_top x us, ?_⟩
      rw [pile_pop]
      have k3 : Kp a.Ts H (upd H2 wl (.lst us.reverse)) := k2.own nw
      have k23 : Kp [wl] H2 (upd H2 wl (.lst us.reverse)) := .put (by simp) hl (fun xs z => by cases z)
      have g3 : TTs a.Ts (upd H2 wl (.lst us.reverse)) := g2.kp k23 fun P hP => by
        rw [List.mem_singleton]
        rintro rfl
        exact nT hP
      have hl3 : (upd H2 wl (.lst us.reverse)) wl = some (.lst us.reverse) := upd_same
      generalize upd H2 wl (.lst us.reverse) = H3 at k3 hl3 g3
      have hm' : wd d1 + 2 + wdAll ds ≤ wd d + 2 := hm
      have hall' : (isTerm d1 && ds.all isTerm) = isTerm d := hall
      have h3 := hx.kp k3 hsub d1
      refine ⟨_, rfl, x, d1, rfl, h3, by omega, g3, hsub, fun H4 g4 k4 => ?_⟩
      have kH4 := k3.trans k4
      cases eh : headed d1 with
      | false =>
        have e1 : isTerm d1 = false := by rw [isTerm_eq, eh]; rfl
        rw [e1, Bool.false_and] at hall'
        rw [← hall'] at k
        exact ⟨false, rfl, iteT (k H4 g4 kH4)⟩
      | true =>
        refine ⟨true, rfl, iteF ?_⟩
        have hl4 : H4 wl = some (.lst us.reverse) := k4.at_ _ _ hl3 nT
        refine ⟨_, rfl, .inl ⟨rfl, _, sql_of hl4⟩, _, rfl, x, d1, H, a.Ts, rfl, hx, kH4, eh, by omega, fun p xs H5 ep ax k5 => ?_⟩
        have hl5 : H5 wl = some (.lst us.reverse) := k5.at_ _ _ hl4 List.not_mem_nil
        have lp := parts_lt eh
        have ln := ax.length
        have ln2 := hp.length
        have lw := len_wd2 ds
        have lw2 := len_wd2 (partsD d1)
        refine ⟨wl, p, us.reverse, xs, rfl, rfl, hl5, ep, ?_, ?_⟩
        · rw [List.length_reverse]
          exact Nat.le_trans (show us.length + xs.length ≤ 2000000 by omega) (by decide)
        have e5 : us.reverse ++ xs = (xs.reverse ++ us).reverse := by rw [List.reverse_append, List.reverse_reverse]
        rw [e5]
        refine ⟨wdAll ((partsD d1).reverse ++ ds), ?_, xs.reverse ++ us, (partsD d1).reverse ++ ds, _, rfl, upd_same, ax.rev.append hp, rfl, ?_, ?_, ?_, (kH4.trans (k5.more (by simp))).own nw⟩
        · rw [wdAll_app, wdAll_rev]
          show wdAll (partsD d1) + wdAll ds < wd d1 + 2 + wdAll ds
          omega
        · rw [wdAll_app, wdAll_rev]
          omega
        · rw [List.all_append, List.all_reverse, ← hall', isTerm_eq d1, eh, Bool.true_and]
        · exact (g4.kp0 k5).kp (.put (ms := [wl]) (by simp) hl5 (fun xs z => by cases z)) fun P hP => by
            rw [List.mem_singleton]
            rintro rfl
            exact nT hP
end
end Ey
set_option maxHeartbeats 4000000
namespace Ey
open PySem PySem.Spec L2
section
variable {Pr : Program} {w : World} {K : PySem.W.Frag} {mg : Str → Option Value} {base : Heap} {ms : List Addr} {a : Adr}
/-! ### is_function -/
theorem scFunction : FnScope ["thing"] ["thing"] (defScope sIsFunction) := ⟨rfl, rfl, rfl, by decide +kernel, rfl, by decide +kernel, by decide +kernel⟩
theorem fun_len {ds : List PyData} (h : ds.length ≠ 5) : isFunction (.tuple ds) = false := by
  match ds, h with
  | [], _ => rfl
  | [_], _ => rfl
  | [_, _], _ => rfl
  | [_, _, _], _ => rfl
  | [_, _, _, _], _ => rfl
  | [_, _, _, _, _], h => exact absurd rfl h
  | _ :: _ :: _ :: _ :: _ :: _ :: _, _ => rfl
theorem ok_function (F : PF K w mg a) (b : BF base mg a) : FnOk Pr w K mg base CX0 5 (a.A 24) (a.D 24) ["thing"] (spD ms a.Ts isFunction) := by
  have B := F.B
  refine F.function.F.ok scFunction (fun vs H Q E h => ?_) (fun cdv Ar outer s H vs Q E hr h => ?_)
  · obtain ⟨v, d, rfl, _⟩ := h
    rfl
  · obtain ⟨v, d, rfl, hv, hz, hT, hsub, k⟩ := h
    have hu1 : (cxOf CX0 Pr w K mg base ["thing"] "is_function" (defScope sIsFunction) (a.A 24) cdv Ar outer s H E).nox.A.units + 1 < cLine := Nat.lt_of_le_of_lt (Nat.add_le_add_left (by decide : 1 ≤ 64) _) hr.units
    refine ⟨_, pss_cons (ps_if (PW.pt (pw_or (pt_not (pt_val (pe_callB call_isi (by rfl) B.isi (by decide +kernel) (pa_cons (pv 0) (pa_cons (pe_bltn (v := .ty "tuple") (by rfl) B.tuple (by decide +kernel) rfl) pa_nil)))))
        (pw_or (pt_cmpR op_ne (pe_callB call_len_seq (by rfl) B.len PySem.boot_len (pa_cons (pv 0) pa_nil)) pe_int (nomark _))
        (pw_or1 (pt_cmpR (op_neAn (Nat.lt_of_succ_lt hu1)) (pe_ix ix_tup (pv 0) pe_int (fun _ _ => rfl)) pe_str (nomark _)))))) (pss_one (ps_ret pe_bl)) pss_nil)
      (pss_one (ps_ret (pe_and (pe_call (ok_name (ms := ms) F b) (hr.mono (by decide)) (by rfl) F.name.g F.name.F.kp F.name.b .nil pass0 (pa_cons (pe_ix ix_tup (pv 0) pe_int (fun _ _ => rfl)) pa_nil))
        (pe_and (pe_cmpR (op_inAn hu1) (pe_ix ix_tup (pv 0) pe_int (fun _ _ => rfl)) (pe_glob (v := .ref a.aK) (by rfl) F.kind.1 rfl) (by rfl))
        (pe_and (pe_call (ok_names (ms := ms) F b) hr (by rfl) F.names.g F.names.F.kp F.names.b .nil pass0 (pa_cons (pe_ix ix_tup (pv 0) pe_int (fun _ _ => rfl)) pa_nil))
        (pe_one (pe_call (ok_term (ms := ms) F b) (hr.mono (by decide)) (by rfl) F.term.g F.term.F.kp F.term.b .nil pass0 (pa_cons (pe_ix ix_tup (pv 0) pe_int (fun _ _ => rfl)) pa_nil)))))))), ?_⟩
    have kH := k H hT .refl
    obtain ⟨ty, hty, kty⟩ := hv.tupK (K := K)
    refine ⟨_, rfl, _, .ty "tuple", ty, .type "tuple", _, rfl, .ty "tuple", hty, kty, ?_⟩
    cases hv with
    | non => exact ⟨false, rfl, iteT kH⟩
    | bl b => exact ⟨false, rfl, iteT kH⟩
    | int i => exact ⟨false, rfl, iteT kH⟩
    | str g => exact ⟨false, rfl, iteT kH⟩
    | lst e => exact ⟨false, rfl, iteT kH⟩
    | dct e => exact ⟨false, rfl, iteT kH⟩
    | @tup t xs ds e hds =>
      refine ⟨true, rfl, iteF ?_⟩
      have ln := hds.length
      refine ⟨_, rfl, t, _, rfl, .inr (sqt_of e), rfl, _, rfl, ?_⟩
      rw [dec_int, ln]
      by_cases h5 : ds.length = 5
      · rw [decide_eq_true (show (ds.length : Int) = 5 by omega)]
        refine iteF ?_
        match ds, hds, hz, k, h5 with
        | [c0, c1, c2, c3, c4], .cons (v := v0) a0 (.cons (v := v1) a1 (.cons (v := v2) a2 (.cons (v := v3) a3 (.cons (v := v4) a4 .nil)))), hz, k, _ =>
          have hw : wd c0 + 2 + (wd c1 + 2 + (wd c2 + 2 + (wd c3 + 2 + (wd c4 + 2 + 0)))) + 3 ≤ 1000000 := hz
          have kB : ∀ bb H', (isThe kFun c0 && (isNameD c1 && (isKindD c2 && (areNames c3 && isTerm c4)))) = bb → TTs a.Ts H' → Kp a.Ts H H' → Q (.bl bb) H' := fun bb H' e' g' k' => e' ▸ k H' g' k'
          refine ⟨_, rfl, t, _, _, _, rfl, rfl, sqt_of e, atI_nat (j := 0) rfl, ms, c0, _, a0, rfl, _, rfl, ?_⟩
          cases e0 : isThe "fun" c0 with
          | false =>
            have e0' : isThe kFun c0 = false := e0
            exact iteT (kB _ H (by rw [e0']; rfl) hT .refl)
          | true =>
            have e0' : isThe kFun c0 = true := e0
            refine iteF ?_
            refine ⟨_, rfl, t, _, _, _, rfl, rfl, sqt_of e, atI_nat (j := 1) rfl, v1, c1, rfl, a1, by omega, hT, hsub, fun H1 g1 k1 => ⟨_, rfl, ?_⟩⟩
            cases e1 : isNameD c1 with
            | false => exact iteF (kB _ H1 (by rw [e0', e1]; rfl) g1 k1)
            | true =>
              refine iteT ⟨_, rfl, t, _, _, _, rfl, rfl, sqt_of (k1.tup _ _ e), atI_nat (j := 2) rfl, ms, c2, a.aK, kindsL, a2.kp k1 hsub c2, rfl, F.kind.2.sqt H1, _, rfl, ?_⟩
              show if isKindD c2 = true then _ else _
              cases e2 : isKindD c2 with
              | false => exact iteF (kB _ H1 (by rw [e0', e1, e2]; rfl) g1 k1)
              | true =>
                refine iteT ⟨_, rfl, t, _, _, _, rfl, rfl, sqt_of (k1.tup _ _ e), atI_nat (j := 3) rfl, v3, c3, rfl, a3.kp k1 hsub c3, by omega, g1, hsub, fun H2 g2 k2 => ⟨_, rfl, ?_⟩⟩
                have k12 := k1.trans k2
                cases e3 : areNames c3 with
                | false => exact iteF (kB _ H2 (by rw [e0', e1, e2, e3]; rfl) g2 k12)
                | true =>
                  refine iteT ⟨_, rfl, t, _, _, _, rfl, rfl, sqt_of (k12.tup _ _ e), atI_nat (j := 4) rfl, v4, c4, rfl, a4.kp k12 hsub c4, by omega, g2, hsub, fun H3 g3 k3 => ?_⟩
                  exact kB _ H3 (by rw [e0', e1, e2, e3]; rfl) g3 (k12.trans k3)
      · rw [decide_eq_false (show ¬ (ds.length : Int) = 5 by omega)]
        have e1 := fun_len h5
        rw [e1] at kH
        exact iteT kH
/-! ### is_script -/
theorem scScript : FnScope ["thing"] ["thing"] (defScope sIsScript) := ⟨rfl, rfl, rfl, by decide +kernel, rfl, by decide +kernel, by decide +kernel⟩
theorem ok_script (F : PF K w mg a) (b : BF base mg a) : FnOk Pr w K mg base CX0 8 (a.A 25) (a.D 25) ["thing"] (spD ms a.Ts isScript) := by
  have B := F.B
  obtain ⟨oc, od, kV, doc, pm, an, ct, osl, efd, lk, code⟩ := F.script.ex
  rw [efd]
  rw [efd] at lk
  refine fn_of lk code scScript (fun vs H Q E h => ?_) (fun A outer s H vs Q E hr h => ?_)
  · obtain ⟨v, d, rfl, _⟩ := h
    rfl
  · obtain ⟨v, d, rfl, hv, hz, hT, hsub, k⟩ := h
    refine ⟨_, pss_one (ps_ret (pe_and (pe_callB call_isi (by rfl) B.isi (by decide +kernel) (pa_cons (pv 0) (pa_cons (pe_bltn (v := .ty "tuple") (by rfl) B.tuple (by decide +kernel) rfl) pa_nil)))
      (pe_one (pe_allX (k := 5) (P := a.P3) (c := a.c3) hr (by rfl) B.all (by decide +kernel) b.T3 rfl ⟨rfl, rfl, by decide +kernel, rfl, rfl, (by intro y hy e; exfalso; revert y; decide +kernel)⟩ (by decide +kernel) (pi_tup (pv 0))
        (fun A s H C code fp hr => pe_call (ok_function (ms := ms) F b) hr (by rfl) F.function.g F.function.F.kp F.function.b .nil pass0 (pa_cons (pv 0) pa_nil)) (fun _ => rfl))))), ?_⟩
    have kH := k H hT .refl
    obtain ⟨ty, hty, kty⟩ := hv.tupK (K := K)
    refine ⟨_, rfl, _, .ty "tuple", ty, .type "tuple", _, rfl, .ty "tuple", hty, kty, ?_⟩
    cases hv with
    | non => exact ⟨false, rfl, iteF kH⟩
    | bl b => exact ⟨false, rfl, iteF kH⟩
    | int i => exact ⟨false, rfl, iteF kH⟩
    | str g => exact ⟨false, rfl, iteF kH⟩
    | lst e => exact ⟨false, rfl, iteF kH⟩
    | dct e => exact ⟨false, rfl, iteF kH⟩
    | @tup t xs ds e hds =>
      refine ⟨true, rfl, iteT ⟨_, rfl, t, rfl, ⟨_, sqt_of e⟩, hT _ (by simp), fun H2 h2 => ?_⟩⟩
      obtain ⟨g2, k2⟩ := hT.tab (by simp) h2
      have hw : wdAll ds + 3 ≤ 1000000 := hz
      have ln := hds.length
      refine all_tup (fun i H' => TTs a.Ts H' ∧ Kp a.Ts H H' ∧ (ds.take i).all isFunction = true) ⟨g2, k2, rfl⟩ (fun i H' ⟨_, k', _⟩ => sqt_of (k'.tup _ _ e)) ?_ ?_
      · rintro i x H' hx ⟨g', k', q⟩
        obtain ⟨dx, e1, ax⟩ := hds.get hx
        have := wd_get e1
        refine ⟨_, rfl, x, dx, rfl, ax.kp k' hsub dx, by omega, g', hsub, fun H3 g3 k3 => ⟨_, rfl, ?_⟩⟩
        cases e2 : isFunction dx with
        | true =>
          refine iteT ⟨g3, k'.trans k3, ?_⟩
          rw [take_all e1, q, e2]
          rfl
        | false =>
          have e3 : isScript (.tuple ds) = false := List.all_eq_false.mpr ⟨dx, List.mem_of_getElem? e1, by rw [e2]; exact Bool.false_ne_true⟩
          rw [e3] at k
          exact iteF (k H3 g3 (k'.trans k3))
      · rintro H' ⟨g', k', q⟩
        rw [ln, List.take_length] at q
        have e3 : isScript (.tuple ds) = true := q
        rw [e3] at k
        exact k H' g' k'
end
end Ey
set_option maxHeartbeats 4000000
/-! tuple * 1, tuple * 0 -/
namespace Ey
open PySem PySem.Spec PyProof.Rows L2
theorem tuple_mul1 (l : Addr) (items : Array Value) (n : Nat) (u : Tok) (dd : Option Addr) (sl : Array (Option Value)) :
    Meets (Builtin.«tuple.__mul__» ⟨[.ref l, .int 1 u], []⟩) (fun _ R s => s.heap.get? l = some { cls := .type "tuple", dict := dd, data := .seq items n, slots := sl } ∧ R (.ok (.ret (Value.ref l))) s) :=
  .of_wp fun prog w A R s h => by
    obtain ⟨hp, g, d, tk, os⟩ := s
    obtain ⟨hl, h⟩ := h
    have f1 := AutoSeq1.idx_int
    wp_walk using wpAny_loadPart' hl
    exact ⟨_, rfl, h⟩
theorem tuple_mul0 (l : Addr) (items : Array Value) (n : Nat) (u : Tok) (dd : Option Addr) (sl : Array (Option Value)) (hne : items.isEmpty = false) :
    Meets (Builtin.«tuple.__mul__» ⟨[.ref l, .int 0 u], []⟩) (fun _ R s => s.heap.get? l = some { cls := .type "tuple", dict := dd, data := .seq items n, slots := sl } ∧ R (.ok (.ret (Value.ref s.heap.objs.size))) { s with heap := s.heap.push { cls := Value.type "tuple", data := Data.seq #[] }, toks := s.toks }) :=
  .of_wp fun prog w A R s h => by
    obtain ⟨hp, g, d, tk, os⟩ := s
    obtain ⟨hl, h⟩ := h
    have f1 := AutoSeq1.idx_int
    wp_walk using wpAny_loadPart' hl
    exact ⟨_, rfl, h⟩
def rRepZ (K : PySem.W.Frag) : R2 := fun x y H Q => ∃ (l : Addr) (k : Nat) (xs : List V), x = .ref l ∧ y = .int (k : Nat) ∧ SqT K H l xs ∧ xs ≠ [] ∧ k * xs.length ≤ 1000000 ∧ ∀ (p : Addr) (H' : Hp), SqT K H' p (List.replicate k xs).flatten → Kp [] H H' → Q (.ref p) H'
section
variable {X : Cx}
theorem op_repZ : OpR X (binaryOp .Mult) (rRepZ X.K) := by
  intro pins s σ H x y v u Q I rx ry h
  obtain ⟨l, k, xs, rfl, rfl, hT, hne, hz, q⟩ := h
  cases rx
  obtain ⟨t, rfl⟩ := ry
  obtain ⟨its, r, ⟨⟨cls, dd, data, sl⟩, ho, hc, n, hd⟩, hs⟩ := I.tuple hT
  simp only at hc hd
  subst hc hd
  have hle : its.length = xs.length := r.length.symm
  have hi : its.toArray.isEmpty = false := by
    cases its with
    | nil => exact absurd (List.eq_nil_of_length_eq_zero hle.symm) hne
    | cons a b => rfl
  have hx1 : 1 ≤ xs.length := List.length_pos_iff.mpr hne
  have hkz : k ≤ 1000000 := Nat.le_trans (Nat.le_mul_of_pos_right k hx1) hz
  have hk : k = 1 ∨ k = 0 ∨ 2 ≤ k := by omega
  rcases hk with rfl | rfl | h2
  · refine wpAny_binaryOp_repeat_ref (T := "tuple") (U := "int") (by decide) ⟨_, ho, rfl⟩ (fun s' => typeIs_int s' 1 t) noFill_tuple_mul F.fills_int_mul F.slot_int_rmul repeat_tuple F.slot_int_index.lookup
      (call_meets F.slot_int_rmul (typeIs_int s 1 t) F.entry_int_rmul (F.args_int_rmul_2 _ _) (int_rmul_tuple 1 t l its.toArray n dd sl)
        ⟨ho, rfl, ⟨_, ho, rfl⟩, call_meets F.slot_tuple_mul ⟨_, ho, rfl⟩ F.entry_tuple_mul (F.args_tuple_mul_2 _ _) (tuple_mul1 l its.toArray n t dd sl) ⟨ho, ?_⟩⟩)
    refine ⟨.ref l, H, I, rfl, q l H ?_ .refl⟩
    rw [List.replicate_one, List.flatten_singleton]
    exact hT
  · refine wpAny_binaryOp_repeat_ref (T := "tuple") (U := "int") (by decide) ⟨_, ho, rfl⟩ (fun s' => typeIs_int s' 0 t) noFill_tuple_mul F.fills_int_mul F.slot_int_rmul repeat_tuple F.slot_int_index.lookup
      (call_meets F.slot_int_rmul (typeIs_int s 0 t) F.entry_int_rmul (F.args_int_rmul_2 _ _) (int_rmul_tuple 0 t l its.toArray n dd sl)
        ⟨ho, rfl, ⟨_, ho, rfl⟩, call_meets F.slot_tuple_mul ⟨_, ho, rfl⟩ F.entry_tuple_mul (F.args_tuple_mul_2 _ _) (tuple_mul0 l its.toArray n t dd sl hi) ⟨ho, ?_⟩⟩)
    refine ⟨.ref s.heap.objs.size, _, I.laid (t' := s.toks) (o := .tup []) (fun b ob q => Heap.get?_push_of_some _ q) (Nat.le_refl _) ?_, rfl, q _ _ (sqt_of upd_same) (.new (I.hok.fresh (Nat.le_refl _)))⟩
    exact ⟨Nat.zero_le _, [], .nil, IsTup.new _ _⟩
  · have hsz0 : its.toArray.size = xs.length := by rw [List.size_toArray, hle]
    have hm : ((its.toArray.size : Nat) : Int) * (k : Nat) ≤ 1000000 := by
      rw [hsz0, ← Int.natCast_mul, Nat.mul_comm]
      omega
    have flen : (List.replicate k its).flatten.length ≤ sizeLine := by
      rw [PyProof.Rows.lm_len_rep_flat, hle, sizeLine_eq]
      omega
    have c0 : (decide ((k : Int) < -(2 ^ 63)) || decide ((k : Int) ≥ 2 ^ 63)) = false := by
      rw [decide_eq_false (by omega), decide_eq_false (by omega)] <;> rfl
    have c1 : (its.toArray.isEmpty || (k : Int) == 1) = false := by
      rw [hi, Bool.false_or]
      exact beq_eq_false_iff_ne.mpr (by omega)
    have c2 : (decide ((k : Int) ≤ 0) || its.toArray.isEmpty) = false := by
      rw [hi, Bool.or_false]
      exact decide_eq_false (by omega)
    have c4 : Builtin.Tuple.tupleTooMany (((its.toArray.size : Nat) : Int) * (k : Nat)) = false := by
      unfold Builtin.Tuple.tupleTooMany
      rw [sizeLine_eq]
      exact decide_eq_false (by omega)
    have hsz : (List.foldl (fun x1 x2 => x1 ++ x2) #[] (List.replicate (k : Int).toNat its.toArray)).size ≤ sizeLine := by
      rw [Int.toNat_natCast, size_rep, List.size_toArray]
      exact flen
    refine wpAny_binaryOp_repeat_ref (T := "tuple") (U := "int") (by decide) ⟨_, ho, rfl⟩ (fun s' => typeIs_int s' k t) noFill_tuple_mul F.fills_int_mul F.slot_int_rmul repeat_tuple F.slot_int_index.lookup
      (call_meets F.slot_int_rmul (typeIs_int s k t) F.entry_int_rmul (F.args_int_rmul_2 _ _) (int_rmul_tuple k t l its.toArray n dd sl)
        ⟨ho, rfl, ⟨_, ho, rfl⟩, call_meets F.slot_tuple_mul ⟨_, ho, rfl⟩ F.entry_tuple_mul (F.args_tuple_mul_2 _ _) (tuple_mulW l its.toArray n dd sl k t c0 c1 c2 (by omega) c4 hsz) ⟨ho, ?_⟩⟩)
    rw [Int.toNat_natCast, size_rep]
    refine ⟨.ref s.heap.objs.size, _, I.laid (t' := s.toks) (o := .tup (List.replicate k xs).flatten) (fun b ob q => Heap.get?_push_of_some _ q) (Nat.le_refl _) ?_, rfl, q _ _ (sqt_of upd_same) (.new (I.hok.fresh (Nat.le_refl _)))⟩
    exact ⟨by rw [PyProof.Rows.lm_len_rep_flat, sizeLine_eq]; omega, _, r.rep k, IsTup.new _ _⟩
end
end Ey
set_option maxHeartbeats 2000000
namespace L2
open PySem PySem.Spec PyProof.Rows
/-- d.get(key), d a written dict with text keys -/
def tKdGet1 (K : PySem.W.Frag) (d : Addr) (td ty : TE) : TE := fun σ H Q => td σ H fun x H1 => x = .ref d ∧ ty σ H1 fun y H2 => ∃ (z : Str) (r : Option Value) (v0 : V), y = .str z ∧ PySem.W.nsIn K d z = some r ∧ RelV v0 (r.getD .none) ∧ Q v0 H2
section
variable {X : Cx} {o e : Expr} {apos cpos : Pos} {td ty : TE} {d : Addr} {es : Array DictEntry} {n : Nat}
theorem pe_kdget1 (D : KDict X.K X.w d es n) (ho : PE X o td) (he : PE X e ty) (m : M1 X o "get" apos e cpos) : PE X (.Call (.Attribute o "get" apos) [e] [] cpos) (tKdGet1 X.K d td ty) := by
  refine ⟨fun pins s σ H Q I h => ?_⟩
  refine wpAny_Call_method m.base m.few m.line PySem.F.plainAttrs_dict PySem.F.slot_dict_get PySem.F.type_dict_get (thn (ho.run pins s σ H _ I h) fun u s1 ⟨x, H1, I1, rx, ex, q1⟩ => ?_)
  subst ex
  obtain rfl : u = Value.ref d := rx
  refine ⟨kd_type D I1, fun b q => by cases q; exact ⟨_, I1.kIn _ _ D.at_, rfl⟩, ?_⟩
  rw [m.trees]
  refine Calls.callWith_builtin rfl (Calls.evalArgs_plain (Calls.spliced_cons (thn (he.run pins s1 σ H1 _ I1 q1) fun iv s2 ⟨y, H2, I2, ry, z, r, v0, ey, hr, rv, q2⟩ => Calls.spliced_nil ?_)))
  subst ey
  obtain ⟨t, rfl⟩ := ry
  have mo := PySem.W.mapOf_K (prog := X.prog) (w := X.w) I2.kIn D.at_ D.lit
  refine call_meetsIn PySem.F.slot_dict_get (kd_type D I2) PySem.F.entry_dict_get (PySem.F.args_dict_get_2 _ _) (meets_dict_get (PySem.strKind X.prog X.w) d (PySem.strKind_is X.prog X.w z t) D.low) ⟨_, mo, ?_⟩
  rw [PySem.W.find_K D.at_ hr]
  exact ⟨v0, H2, I2.tok _, rv, q2⟩
end
end L2
set_option maxHeartbeats 4000000
namespace Ey
open PySem PySem.Spec L2
abbrev sFirst : Stmt := topS 28
abbrev sKinds : Stmt := topS 29
abbrev sWays : Stmt := topS 30
abbrev sOwn : Stmt := topS 31
abbrev sFterm : Stmt := topS 32
abbrev sFbody : Stmt := topS 33
abbrev sTwice : Stmt := topS 34
abbrev sFaults : Stmt := topS 35
abbrev sIsProg : Stmt := topS 36
/-! ### functions as data -/
structure Fn where
  nm : Str
  kd : Str
  ns : List Str
  bd : PyData
def fD (f : Fn) : PyData := .tuple [.str kFun, .str f.nm, .str f.kd, .tuple (f.ns.map PyData.str), f.bd]
def firstF (n : Str) (fs : List Fn) : Option Fn := fs.find? fun f => decide (f.nm = n)
theorem firstF_snoc (n : Str) (fs : List Fn) (f : Fn) : firstF n (fs ++ [f]) = (firstF n fs).or (if f.nm = n then some f else none) := by
  unfold firstF
  rw [List.find?_append]
  congr 1
  by_cases h : f.nm = n <;> simp [h]
section
variable {ms ls : List Addr} {H H' : Hp}
theorem AnAll.strs : ∀ {vs : List V} {gs : List Str}, AnAll ms H vs (gs.map PyData.str) → vs = gs.map V.str
  | _, [], h => by cases h; rfl
  | _, g :: r, h => by
    cases h with
    | cons a b =>
      cases a
      rw [AnAll.strs b]
      rfl
theorem An.fn {v : V} {f : Fn} (h : An ms H v (fD f)) : ∃ t nt bv, v = .ref t ∧ H t = some (.tup [.str kFun, .str f.nm, .str f.kd, .ref nt, bv]) ∧ H nt = some (.tup (f.ns.map V.str)) ∧ An ms H bv f.bd := by
  cases h with
  | tup e h =>
    cases h with
    | cons a h =>
      cases a
      cases h with
      | cons a h =>
        cases a
        cases h with
        | cons a h =>
          cases a
          cases h with
          | cons a h =>
            cases a with
            | tup e2 h2 =>
              cases h with
              | cons a h =>
                cases h
                have := AnAll.strs h2
                subst this
                exact ⟨_, _, _, rfl, e, e2, a⟩
/-- the first functions of each name -/
def FirstKv (ms : List Addr) (H : Hp) (kvs : List (Key × V)) (fs : List Fn) : Prop :=
  kvs.length ≤ fs.length ∧ ∀ n : Str, (firstF n fs = none → valV kvs (.inr n) = none) ∧ ∀ f, firstF n fs = some f → ∃ v, valV kvs (.inr n) = some v ∧ An ms H v (fD f)
structure FirstAt (ms : List Addr) (H : Hp) (D : Addr) (fs : List Fn) : Prop where
  ex : ∃ kvs : List (Key × V), H D = some (.dK kvs) ∧ FirstKv ms H kvs fs
theorem FirstAt.kp {D : Addr} {fs : List Fn} (h : FirstAt ms H D fs) (k : Kp ls H H') (hs : ∀ x ∈ ls, x ∈ ms) (hD : D ∉ ls) : FirstAt ms H' D fs := by
  obtain ⟨kvs, e, l, q⟩ := h.ex
  exact ⟨kvs, k.at_ _ _ e hD, l, fun n => ⟨(q n).1, fun f hf => let ⟨v, e1, e2⟩ := (q n).2 f hf; ⟨v, e1, e2.kp k hs _⟩⟩⟩
end
def ownT : List (Str × Str) := [("name", "place"), ("top", "place"), ("left", "place"), ("right", "place"), ("up", "place"), ("yes", "truth"), ("no", "truth"), ("has", "truth"), ("empty", "truth"), ("same", "truth"), ("not", "truth"), ("and", "truth"), ("or", "truth")]
structure KF (K : PySem.W.Frag) (w : World) (mg : Str → Option Value) (a : Adr) (aO : Addr) : Prop extends PF K w mg a where
  first : Df K mg "first_functions" sFirst ["script"] (a.A 28) (a.D 28)
  kinds : Df K mg "kinds_within" sKinds ["term", "kind"] (a.A 29) (a.D 29)
  ways : Df K mg "paths_within" sWays ["term"] (a.A 30) (a.D 30)
  own : Df K mg "own_kind" sOwn ["term", "first"] (a.A 31) (a.D 31)
  fterm : Df K mg "faults_of_term" sFterm ["term", "kind", "names", "first"] (a.A 32) (a.D 32)
  fbody : Df K mg "faults_of_body" sFbody ["function", "path", "first"] (a.A 33) (a.D 33)
  twice : Df K mg "names_twice" sTwice ["script"] (a.A 34) (a.D 34)
  faults : Df K mg "faults_of" sFaults ["script"] (a.A 35) (a.D 35)
  isProg : Df K mg "is_program" sIsProg ["thing"] (a.A 36) (a.D 36)
  okind : mg "OWN_KINDS" = some (.ref aO)
  oD : ∃ es n, KDict K w aO es n
  oG : ∀ p ∈ ownT, ∃ t, PySem.W.nsIn K aO p.1 = some (some (.str p.2 t))
  oN : ∀ x ∈ (["if", "either"] : List Str), PySem.W.nsIn K aO x = some none
section
variable {Pr : Program} {w : World} {K : PySem.W.Frag} {mg : Str → Option Value} {base : Heap} {ms : List Addr} {a : Adr} {aO : Addr}
abbrev NFi : List Str := ["script", "first", "function"]
theorem scFirst : FnScope NFi ["script"] (defScope sFirst) := ⟨rfl, rfl, rfl, by decide +kernel, rfl, by decide +kernel, by decide +kernel⟩
def spFirst (ms : List Addr) : Sp := fun vs H Q _ => ∃ (t : Addr) (xs : List V) (fs : List Fn), vs = [.ref t] ∧ H t = some (.tup xs) ∧ AnAll ms H xs (fs.map fD) ∧ fs.length ≤ 1000000 ∧
  ∀ (D : Addr) (H' : Hp), H D = none → FirstAt ms H' D fs → Kp [] H H' → Q (.ref D) H'
theorem ok_first (F : KF K w mg a aO) : FnOk Pr w K mg base CX0 1 (a.A 28) (a.D 28) ["script"] (spFirst ms) := by
  have B := F.B
  refine F.first.F.ok scFirst (fun vs H Q E h => ?_) (fun cdv Ar outer s0 H vs Q E hr h => ?_)
  · obtain ⟨t, xs, fs, rfl, _⟩ := h
    rfl
  · obtain ⟨t, xs, fs, rfl, ht, ha, hl, k⟩ := h
    refine ⟨_, pss_cons (ps_set (i := 1) scFirst.nd rfl (.inl rfl) pe_dnewK)
      (pss_cons (ps_for PassesOwn.never rfl (pi_tup (pv 0)) (pg_name (i := 2) scFirst.nd rfl (.inl rfl))
        (pss_one (ps_expr (pe_dsetd (pv 1) (pe_ix ix_tup (pv 2) pe_int (fun _ _ => rfl)) (pv 2) ⟨rfl, rfl, rfl, rfl⟩))))
      (pss_one (ps_ret (pv 1)))), ?_⟩
    refine fun D nD => ?_
    refine ⟨_, rfl, t, rfl, ⟨xs, sqt_of ((Kp.new (ms := []) nD).tup _ _ ht)⟩, ?_⟩
    have lx := ha.length
    rw [List.length_map] at lx
    refine for_tup (K := K) (a := t) (xs := xs) (fun i σ G => (∃ x2 : Option V, σ = [some (.ref t), some (.ref D), x2]) ∧ (∃ kvs, G D = some (.dK kvs) ∧ FirstKv ms H kvs (fs.take i)) ∧ Kp [] H G)
      ⟨⟨_, rfl⟩, ⟨[], upd_same, Nat.zero_le _, fun n => ⟨fun _ => rfl, fun f hf => by simp [firstF] at hf⟩⟩, .new nD⟩ (fun i σ G _ h => sqt_of (h.2.2.tup _ _ ht)) ?_ ?_
    · rintro i x σ G hx ⟨⟨x2, rfl⟩, ⟨kvs, hD, hlk, hq⟩, kG⟩
      obtain ⟨d, hd, hxd⟩ := ha.get hx
      rw [List.getElem?_map] at hd
      obtain ⟨f, hf, rfl⟩ := Option.map_eq_some_iff.mp hd
      have hi : i < fs.length := (List.getElem?_eq_some_iff.mp hf).1
      have hxG := hxd.kp kG (by simp) _
      obtain ⟨ft, nt, bv, rfl, e1, e2, e3⟩ := hxG.fn
      have tk : fs.take (i + 1) = fs.take i ++ [f] := by rw [List.take_add_one, hf]; rfl
      have hlt : (fs.take i).length ≤ i := List.length_take_le ..
      have step : ∀ G1 : Hp, (∃ kvs, G1 D = some (.dK kvs) ∧ FirstKv ms H kvs (fs.take (i + 1))) → Kp [] H G1 → (∃ x2 : Option V, ([some (V.ref t), some (.ref D), x2].set 2 (some (.ref ft))) = [some (.ref t), some (.ref D), x2]) ∧ (∃ kvs, G1 D = some (.dK kvs) ∧ FirstKv ms H kvs (fs.take (i + 1))) ∧ Kp [] H G1 := fun G1 h1 h2 => ⟨⟨_, rfl⟩, h1, h2⟩
      refine ⟨_, rfl, D, rfl, .inl ⟨kvs, .inl hD⟩, _, rfl, ft, _, _, _, rfl, rfl, sqt_of e1, atI_nat (j := 1) rfl, _, rfl, kvs, .inr f.nm, hD, rfl, Nat.lt_of_le_of_lt (show kvs.length ≤ 1000000 by omega) (by decide), fun v hv => ?_, fun hn => ?_⟩
      · refine step G ⟨kvs, hD, by rw [tk, List.length_append]; omega, fun n => ?_⟩ kG
        rw [tk, firstF_snoc]
        have hsome : firstF f.nm (fs.take i) ≠ none := fun e => by rw [(hq f.nm).1 e] at hv; cases hv
        by_cases hnm : f.nm = n
        · subst hnm
          cases e : firstF f.nm (fs.take i) with
          | none => exact absurd e hsome
          | some g =>
            refine ⟨fun z => by simp at z, fun f' hf' => ?_⟩
            simp at hf'
            subst hf'
            exact (hq f.nm).2 _ e
        · rw [if_neg hnm, Option.or_none]
          exact hq n
      · have kD : Kp [D] G (upd G D (.dK (putK kvs (.inr f.nm) (.ref ft)))) := .put (by simp) hD (fun _ z => by cases z)
        refine step _ ⟨_, upd_same, ?_, fun n => ?_⟩ (kG.own nD)
        · have := length_putK kvs (.inr f.nm) (V.ref ft)
          rw [tk, List.length_append]
          show _ ≤ (fs.take i).length + 1
          omega
        · rw [tk, firstF_snoc, valV_put]
          by_cases hnm : f.nm = n
          · subst hnm
            rw [if_pos rfl, if_pos rfl]
            cases e : firstF f.nm (fs.take i) with
            | some g =>
              obtain ⟨v, hv, _⟩ := (hq f.nm).2 g e
              rw [hv] at hn
              cases hn
            | none =>
              refine ⟨fun z => by simp at z, fun f' hf' => ?_⟩
              simp at hf'
              subst hf'
              exact ⟨_, rfl, hxd⟩
          · rw [if_neg hnm, Option.or_none, if_neg (fun z => hnm (by injection z with z; exact z.symm))]
            exact hq n
    · rintro σ G ⟨⟨x2, rfl⟩, ⟨kvs, hD, hlk, hq⟩, kG⟩
      rw [lx, List.take_length] at hlk hq
      refine ⟨_, rfl, k D G nD ⟨kvs, hD, hlk, fun n => ⟨(hq n).1, fun f hf => ?_⟩⟩ kG⟩
      obtain ⟨v, e1, e2⟩ := (hq n).2 f hf
      exact ⟨v, e1, e2.kp kG (by simp) _⟩
end
end Ey
set_option maxHeartbeats 4000000
namespace Ey
open PySem PySem.Spec L2
abbrev rLenQ (K : PySem.W.Frag) : List V → Hp → VK → Prop := fun xs H Q => ∃ p ys, xs = [V.ref p] ∧ (SqL K H p ys ∨ SqT K H p ys) ∧ Q (V.int ys.length) H
def kIf : Str := "if"
def kEither : Str := "either"
def kTruth : Str := "truth"
def kPlace : Str := "place"
def wordD : PyData → Str
  | .tuple (.str w :: _) => w
  | _ => ""
def kindsW (w k : Str) (n : Nat) : List Str :=
  if w = kIf then [kTruth, k, k] else if w = kEither then [k, k] else if ((["not", "and", "or"] : List Str).any fun t => decide (t = w)) = true then [kTruth, kTruth] else List.replicate n kPlace
def waysW (w : Str) (n : Nat) : List (List Nat) := if w = kCall then (List.range n).map fun i => [2, i] else (List.range n).map fun i => [i + 1]
theorem headed_form {d : PyData} (h : headed d = true) : ∃ w r, d = .tuple (.str w :: r) ∧ headedR w r = true := by
  unfold headed at h
  split at h
  · exact ⟨_, _, rfl, h⟩
  · cases h
theorem An.headed {ms : List Addr} {H : Hp} {v : V} {w : Str} {r : List PyData} (h : An ms H v (.tuple (.str w :: r))) : ∃ t vs, v = .ref t ∧ H t = some (.tup (.str w :: vs)) ∧ AnAll ms H vs r := by
  cases h with
  | tup e h =>
    cases h with
    | cons a h =>
      cases a
      exact ⟨_, _, rfl, e, h⟩
theorem parts_few {d : PyData} (h : headed d = true) (hz : wd d ≤ 1000000) : (partsD d).length ≤ 1000000 := by
  have := len_wd2 (partsD d)
  have := parts_lt h
  omega
section
variable {Pr : Program} {w : World} {K : PySem.W.Frag} {mg : Str → Option Value} {base : Heap} {ms : List Addr} {a : Adr} {aO : Addr}
abbrev NKi : List Str := ["term", "kind", "word"]
theorem scKinds : FnScope NKi ["term", "kind"] (defScope sKinds) := ⟨rfl, rfl, rfl, by decide +kernel, rfl, by decide +kernel, by decide +kernel⟩
def spKinds (K : PySem.W.Frag) (ms : List Addr) : Sp := fun vs H Q _ => ∃ (v : V) (d : PyData) (k : Str), vs = [v, .str k] ∧ An ms H v d ∧ headed d = true ∧ wd d ≤ 1000000 ∧
  ∀ (p : Addr) (H' : Hp), SqT K H' p ((kindsW (wordD d) k (partsD d).length).map V.str) → Kp [] H H' → Q (.ref p) H'
theorem ok_kinds (F : KF K w mg a aO) : FnOk Pr w K mg base CX0 2 (a.A 29) (a.D 29) ["term", "kind"] (spKinds K ms) := by
  have B := F.B
  refine F.kinds.F.ok scKinds (fun vs H Q E h => ?_) (fun cdv Ar outer s0 H vs Q E hr h => ?_)
  · obtain ⟨v, d, k, rfl, _⟩ := h
    rfl
  · obtain ⟨v, d, kd, rfl, hv, hh, hz, k⟩ := h
    refine ⟨_, pss_cons (ps_set (i := 2) scKinds.nd rfl (.inl rfl) (pe_ix ix_tup (pv 0) pe_int (fun _ _ => rfl)))
      (pss_cons (ps_if (pt_cmpR op_eq (pv 2) pe_str (nomark _))
        (pss_one (ps_ret (pe_tup (pa_cons pe_str (pa_cons (pv 1) (pa_cons (pv 1) pa_nil)))))) pss_nil)
      (pss_cons (ps_if (pt_cmpR op_eq (pv 2) pe_str (nomark _))
        (pss_one (ps_ret (pe_tup (pa_cons (pv 1) (pa_cons (pv 1) pa_nil))))) pss_nil)
      (pss_cons (ps_if (pt_cmpR (r := rIn K false) op_in_seq (pv 2) (pe_tup (pa_cons pe_str (pa_cons pe_str (pa_cons pe_str pa_nil)))) (by rfl))
        (pss_one (ps_ret (pe_tup (pa_cons pe_str (pa_cons pe_str pa_nil))))) pss_nil)
      (pss_one (ps_ret (pe_op op_repZ (pe_tup (pa_cons pe_str pa_nil)) (pe_callB (r := rLenQ K) call_len_seq (by rfl) B.len PySem.boot_len (pa_cons (pe_call (ok_parts (ms := ms) F.toPF) (hr.mono (by decide)) (by rfl) F.parts.g F.parts.F.kp F.parts.b .nil pass0 (pa_cons (pv 0) pa_nil)) pa_nil)))))))), ?_⟩
    obtain ⟨wd0, r, rfl, hr2⟩ := headed_form hh
    have hv0 := hv
    obtain ⟨t, xs, rfl, et, hx⟩ := hv.headed
    refine ⟨_, rfl, t, _, _, _, rfl, rfl, sqt_of et, atI_nat (j := 0) rfl, ?_⟩
    refine ⟨_, rfl, rfl, _, rfl, ite2 (fun q => ?_) (fun q1 => ?_)⟩
    · have e1 : wd0 = kIf := V.str.inj (of_decide_eq_true q)
      refine ⟨_, rfl, _, rfl, by show 3 ≤ sizeLine; decide, fun p np => k p _ ?_ (.new np)⟩
      refine sqt_of (upd_same.trans ?_)
      unfold kindsW
      rw [show wordD (.tuple (.str wd0 :: r)) = wd0 from rfl, if_pos e1]
      rfl
    have n1 : ¬ wd0 = kIf := fun z => q1 (decide_eq_true (by rw [z]; rfl))
    refine ⟨_, rfl, rfl, _, rfl, ite2 (fun q => ?_) (fun q2 => ?_)⟩
    · have e1 : wd0 = kEither := V.str.inj (of_decide_eq_true q)
      refine ⟨_, rfl, _, rfl, by show 2 ≤ sizeLine; decide, fun p np => k p _ ?_ (.new np)⟩
      refine sqt_of (upd_same.trans ?_)
      unfold kindsW
      rw [show wordD (.tuple (.str wd0 :: r)) = wd0 from rfl, if_neg n1, if_pos e1]
      rfl
    have n2 : ¬ wd0 = kEither := fun z => q2 (decide_eq_true (by rw [z]; rfl))
    refine ⟨_, rfl, by show 3 ≤ sizeLine; decide, fun c nc => ⟨c, _, rfl, .inr (sqt_of upd_same), rfl, rfl, _, rfl, ?_⟩⟩
    have kc : Kp [] H (upd H c (.tup [.str "not", .str "and", .str "or"])) := .new nc
    generalize upd H c (.tup [.str "not", .str "and", .str "or"]) = H1 at kc
    show if (inV (.str wd0) ((["not", "and", "or"] : List Str).map V.str)) = true then _ else _
    rw [inV_strs]
    refine ite2 (fun q => ?_) (fun q3 => ?_)
    · refine ⟨by show 2 ≤ sizeLine; decide, fun p np => k p _ ?_ (kc.trans (.new np))⟩
      refine sqt_of (upd_same.trans ?_)
      unfold kindsW
      rw [show wordD (.tuple (.str wd0 :: r)) = wd0 from rfl, if_neg n1, if_neg n2, if_pos q]
      rfl
    refine ⟨by show 1 ≤ sizeLine; decide, fun c2 nc2 => ?_⟩
    have kc2 := kc.trans (.new nc2 (o := .tup [.str "place"]))
    have e2 : (upd H1 c2 (.tup [.str "place"])) c2 = some (.tup [.str "place"]) := upd_same
    generalize upd H1 c2 (.tup [.str "place"]) = H2 at kc2 e2
    refine ⟨_, rfl, .ref t, _, H, [], rfl, hv0, kc2, hh, hz, fun p xs2 H3 ep ax k3 => ⟨p, xs2, rfl, .inr (sqt_of ep), ?_⟩⟩
    have lp := parts_few hh hz
    have lx := ax.length
    refine ⟨c2, xs2.length, [.str "place"], rfl, rfl, sqt_of (k3.tup _ _ e2), by simp, by rw [lx]; simpa using lp, fun p4 H4 h4 k4 => k p4 H4 ?_ (kc2.trans (k3.trans k4))⟩
    unfold kindsW
    rw [show wordD (.tuple (.str wd0 :: r)) = wd0 from rfl, if_neg n1, if_neg n2, if_neg q3, ← lx]
    rw [show (List.replicate xs2.length kPlace).map V.str = (List.replicate xs2.length [V.str "place"]).flatten from ?_]
    · exact h4
    · generalize xs2.length = n
      induction n with
      | zero => rfl
      | succ n ih =>
        rw [List.replicate_succ, List.replicate_succ, List.map_cons, List.flatten_cons, ih]
        rfl
end
end Ey
namespace Ey
open PySem PySem.Spec L2
inductive All2 {α : Type} (R : V → α → Prop) : List V → List α → Prop
  | nil : All2 R [] []
  | cons {v : V} {x : α} {vs : List V} {xs : List α} : R v x → All2 R vs xs → All2 R (v :: vs) (x :: xs)
section
variable {α : Type} {R R' : V → α → Prop} {vs ws : List V} {xs ys : List α}
theorem All2.imp (h : All2 R vs xs) (f : ∀ v x, R v x → R' v x) : All2 R' vs xs := by
  induction h with
  | nil => exact .nil
  | cons a _ ih => exact .cons (f _ _ a) ih
theorem All2.len (h : All2 R vs xs) : vs.length = xs.length := by
  induction h with
  | nil => rfl
  | cons _ _ ih => exact congrArg (· + 1) ih
theorem All2.app (h : All2 R vs xs) (g : All2 R ws ys) : All2 R (vs ++ ws) (xs ++ ys) := by
  induction h with
  | nil => exact g
  | cons a _ ih => exact .cons a ih
theorem All2.cast (h : All2 R vs xs) (e : xs = ys) : All2 R vs ys := e ▸ h
theorem All2.rev (h : All2 R vs xs) : All2 R vs.reverse xs.reverse := by
  induction h with
  | nil => exact .nil
  | cons a _ ih =>
    rw [List.reverse_cons, List.reverse_cons]
    exact ih.app (.cons a .nil)
theorem All2.get (h : All2 R vs xs) : ∀ {i : Nat} {x : α}, xs[i]? = some x → ∃ v, vs[i]? = some v ∧ R v x := by
  induction h with
  | nil => intro i x q; simp at q
  | cons a _ ih =>
    intro i x q
    cases i with
    | zero => cases q; exact ⟨_, rfl, a⟩
    | succ n => exact ih q
theorem All2.getV (h : All2 R vs xs) : ∀ {i : Nat} {v : V}, vs[i]? = some v → ∃ x, xs[i]? = some x ∧ R v x := by
  induction h with
  | nil => intro i x q; simp at q
  | cons a _ ih =>
    intro i x q
    cases i with
    | zero => cases q; exact ⟨_, rfl, a⟩
    | succ n => exact ih q
end
/-- a tuple of numbers -/
def PathAt (H : Hp) (v : V) (p : List Nat) : Prop := ∃ q, v = .ref q ∧ H q = some (.tup (p.map fun (n : Nat) => V.int n))
theorem PathAt.kp {ms : List Addr} {H H1 : Hp} {v : V} {p : List Nat} (h : PathAt H v p) (k : Kp ms H H1) : PathAt H1 v p := let ⟨q, e, h⟩ := h; ⟨q, e, k.tup _ _ h⟩
end Ey
set_option maxHeartbeats 4000000
namespace Ey
open PySem PySem.Spec L2
section
variable {Pr : Program} {w : World} {K : PySem.W.Frag} {mg : Str → Option Value} {base : Heap} {ms : List Addr} {a : Adr} {aO : Addr}
abbrev NWa : List Str := ["term", "at"]
theorem scWays : FnScope NWa ["term"] (defScope sWays) := ⟨rfl, rfl, rfl, by decide +kernel, rfl, by decide +kernel, by decide +kernel⟩
def spWays (ms : List Addr) : Sp := fun vs H Q _ => ∃ (v : V) (d : PyData), vs = [v] ∧ An ms H v d ∧ headed d = true ∧ wd d ≤ 1000000 ∧
  ∀ (p : Addr) (ps : List V) (H' : Hp), H p = none → H' p = some (.lst ps) → All2 (PathAt H') ps (waysW (wordD d) (partsD d).length) → Kp [] H H' → Q (.ref p) H'
theorem call_form {w : Str} {r : List PyData} (hw : w = kCall) (h : headedR w r = true) : ∃ g ds, r = [.str g, .tuple ds] ∧ isName g = true := by
  subst hw
  have h1 : hdC r = true := h
  match r, h1 with
  | [f, t], h1 =>
    have h2 : (isNameD f && isTup t) = true := h1
    rw [Bool.and_eq_true] at h2
    cases f with
    | str g =>
      cases t with
      | tuple ds => exact ⟨g, ds, rfl, h2.1⟩
      | _ => cases h2.2
    | _ => cases h2.1
theorem ok_waysIn (F : KF K w mg a aO) : FnOk Pr w K mg base CX0 2 (a.A 30) (a.D 30) ["term"] (spWays ms) := by
  have B := F.B
  refine F.ways.F.ok scWays (fun vs H Q E h => ?_) (fun cdv Ar outer s0 H vs Q E hr h => ?_)
  · obtain ⟨v, d, rfl, _⟩ := h
    rfl
  · obtain ⟨v, d, rfl, hv, hh, hz, k⟩ := h
    refine ⟨_, pss_cons (ps_if (pt_cmpR op_eq (pe_ix ix_tup (pv 0) pe_int (fun _ _ => rfl)) pe_str (nomark _))
        (pss_one (ps_ret (pe_lc (own := [("at", 1)]) (g := gName 1) (tt := tYes) rfl scWays.nd (pi_range1 (by rfl) B.range (pa_cons (pe_callB (r := rLenQ K) call_len_seq (by rfl) B.len PySem.boot_len (pa_cons (pe_ix ix_tup (pv 0) pe_int (fun _ _ => rfl)) pa_nil)) pa_nil)) (blkOk_by (N := NWa) (sc := defScope sWays) (by decide +kernel)) (fun _ _ _ _ _ => pg_name (i := 1) scWays.nd rfl (Or.inl rfl)) (fun _ _ _ _ _ => pts_nil)
          (fun _ _ _ _ _ => (pe_tup (pa_cons pe_int (pa_cons (pv 1) pa_nil))))))) pss_nil)
      (pss_one (ps_ret (pe_lc (own := [("at", 1)]) (g := gName 1) (tt := tYes) rfl scWays.nd (pi_range1 (by rfl) B.range (pa_cons (pe_callB (r := rLenQ K) call_len_seq (by rfl) B.len PySem.boot_len (pa_cons (pe_call (ok_parts (ms := ms) F.toPF) (hr.mono (by decide)) (by rfl) F.parts.g F.parts.F.kp F.parts.b .nil pass0 (pa_cons (pv 0) pa_nil)) pa_nil)) pa_nil)) (blkOk_by (N := NWa) (sc := defScope sWays) (by decide +kernel)) (fun _ _ _ _ _ => pg_name (i := 1) scWays.nd rfl (Or.inl rfl)) (fun _ _ _ _ _ => pts_nil)
          (fun _ _ _ _ _ => (pe_tup (pa_cons (pe_op op_add (pv 1) pe_int) pa_nil)))))), ?_⟩
    have lp := parts_few hh hz
    obtain ⟨wd0, r, rfl, hr2⟩ := headed_form hh
    have hv0 := hv
    obtain ⟨t, xs, rfl, et, hx⟩ := hv.headed
    refine ⟨_, rfl, t, _, _, _, rfl, rfl, sqt_of et, atI_nat (j := 0) rfl, ?_⟩
    have small : ∀ i n : Nat, i < n → n ≤ 1000000 → i < sizeLine := fun i n h1 h2 => Nat.lt_of_le_of_lt (show i ≤ 1000000 by omega) (by decide)
    refine ⟨rfl, _, rfl, ite2 (fun q => ?_) (fun q1 => ?_)⟩
    · have e1 : wd0 = kCall := V.str.inj (of_decide_eq_true q)
      obtain ⟨g, ds, rfl, _⟩ := call_form e1 hr2
      match xs, hx with
      | [v1, v2], .cons a1 (.cons a2 .nil) =>
        cases a2 with
        | @tup t2 ys _ e2 hes =>
          have pd : partsD (.tuple [.str wd0, .str g, .tuple ds]) = ds := by
            subst e1
            rfl
          rw [pd] at lp k
          have ly := hes.length
          refine ⟨_, rfl, t, _, _, .ref t2, rfl, rfl, sqt_of et, atI_nat (j := 2) rfl, t2, ys, rfl, .inr (sqt_of e2), ?_⟩
          refine ⟨(ys.length : Nat), rfl, by omega, by omega, fun D nD => ?_⟩
          rw [Int.toNat_natCast]
          refine lc_range (lo := 0) (n := ys.length) (fun j G => (∃ ps, G D = some (.lst ps) ∧ All2 (PathAt G) ps ((List.range j).map fun i => [2, i])) ∧ Kp [] H G) ⟨⟨[], upd_same, .nil⟩, .new nD⟩ ?_ ?_
          · rintro j G hj ⟨⟨ps, hD, hA⟩, kG⟩
            refine ⟨rfl, _, rfl, by show 2 ≤ sizeLine; decide, fun q nq => ?_⟩
            have kq : Kp [] G (upd G q (.tup [.int 2, .int (0 + (j : Int))])) := .new nq
            have eq : (upd G q (.tup [.int 2, .int (0 + (j : Int))])) q = some (.tup [.int 2, .int (0 + (j : Int))]) := upd_same
            have hD1 := kq.at_ _ _ hD List.not_mem_nil
            generalize upd G q (.tup [.int 2, .int (0 + (j : Int))]) = G1 at kq eq hD1
            have kD : Kp [D] G1 (upd G1 D (.lst (ps ++ [.ref q]))) := .put (by simp) hD1 (fun _ z => by cases z)
            have lA := hA.len
            rw [List.length_map, List.length_range] at lA
            refine ⟨ps, hD1, small _ _ (show ps.length < ys.length by omega) (by omega), ⟨ps ++ [.ref q], upd_same, ?_⟩, (kG.trans kq).own nD⟩
            rw [List.range_succ, List.map_append]
            refine ((hA.imp fun _ _ z => z.kp kq).imp fun _ _ z => z.kp kD).app (.cons ⟨q, rfl, ?_⟩ .nil)
            rw [kD.tup _ _ eq, Int.zero_add]
            rfl
          · rintro G ⟨⟨ps, hD, hA⟩, kG⟩
            refine k D ps G nD hD ?_ kG
            unfold waysW
            rw [show wordD (.tuple [.str wd0, .str g, .tuple ds]) = wd0 from rfl, if_pos e1, ← ly]
            exact hA
    have n1 : ¬ wd0 = kCall := fun z => q1 (decide_eq_true (by rw [z]; rfl))
    refine ⟨_, rfl, .ref t, _, H, [], rfl, hv0, .refl, hh, hz, fun p xs2 H1 ep ax k1 => ⟨p, xs2, rfl, .inr (sqt_of ep), ?_⟩⟩
    have lx := ax.length
    refine ⟨(xs2.length : Nat), rfl, by omega, by omega, fun D nD => ?_⟩
    rw [Int.toNat_natCast]
    refine lc_range (lo := 0) (n := xs2.length) (fun j G => (∃ ps, G D = some (.lst ps) ∧ All2 (PathAt G) ps ((List.range j).map fun i => [i + 1])) ∧ Kp [] H1 G) ⟨⟨[], upd_same, .nil⟩, .new nD⟩ ?_ ?_
    · rintro j G hj ⟨⟨ps, hD, hA⟩, kG⟩
      refine ⟨rfl, _, rfl, _, _, rfl, rfl, by show 1 ≤ sizeLine; decide, fun q nq => ?_⟩
      have kq : Kp [] G (upd G q (.tup [.int (0 + (j : Int) + 1)])) := .new nq
      have eq : (upd G q (.tup [.int (0 + (j : Int) + 1)])) q = some (.tup [.int (0 + (j : Int) + 1)]) := upd_same
      have hD1 := kq.at_ _ _ hD List.not_mem_nil
      generalize upd G q (.tup [.int (0 + (j : Int) + 1)]) = G1 at kq eq hD1
      have kD : Kp [D] G1 (upd G1 D (.lst (ps ++ [.ref q]))) := .put (by simp) hD1 (fun _ z => by cases z)
      have lA := hA.len
      rw [List.length_map, List.length_range] at lA
      refine ⟨ps, hD1, small _ _ (show ps.length < xs2.length by omega) (by omega), ⟨ps ++ [.ref q], upd_same, ?_⟩, (kG.trans kq).own nD⟩
      rw [List.range_succ, List.map_append]
      refine ((hA.imp fun _ _ z => z.kp kq).imp fun _ _ z => z.kp kD).app (.cons ⟨q, rfl, ?_⟩ .nil)
      rw [kD.tup _ _ eq, Int.zero_add]
      rfl
    · rintro G ⟨⟨ps, hD, hA⟩, kG⟩
      refine k D ps G (k1.free nD List.not_mem_nil) hD ?_ (k1.trans kG)
      unfold waysW
      rw [show wordD (.tuple (.str wd0 :: r)) = wd0 from rfl, if_neg n1, ← lx]
      exact hA
/-! ### own_kind -/
abbrev NOw : List Str := ["term", "first"]
theorem scOwn : FnScope NOw ["term", "first"] (defScope sOwn) := ⟨rfl, rfl, rfl, by decide +kernel, rfl, by decide +kernel, by decide +kernel⟩
def ownF (d : PyData) (fs : List Fn) : Option Str := match d with
  | .tuple (.str w :: r) => if w = kCall then (firstF (match r with | .str g :: _ => g | _ => "") fs).map (·.kd) else (ownT.find? fun p => decide (p.1 = w)).map (·.2)
  | _ => none
def optV : Option Str → V
  | some x => .str x
  | none => .non
def spOwn (ms : List Addr) : Sp := fun vs H Q _ => ∃ (v : V) (d : PyData) (D : Addr) (fs : List Fn), vs = [v, .ref D] ∧ An ms H v d ∧ headed d = true ∧ FirstAt ms H D fs ∧ Q (optV (ownF d fs)) H
theorem words_own {w : Str} {r : List PyData} (h : headedR w r = true) (n : ¬ w = kCall) : (∃ p ∈ ownT, p.1 = w) ∨ w ∈ (["if", "either"] : List Str) := by
  unfold headedR at h
  by_cases h1 : w = kName
  · exact .inl ⟨("name", "place"), by decide +kernel, h1.symm⟩
  rw [if_neg h1] at h
  by_cases h2 : w = kHas
  · exact .inl ⟨("has", "truth"), by decide +kernel, h2.symm⟩
  rw [if_neg h2, if_neg n] at h
  have h3 : ∃ k, arity w = some k := by
    cases e : arity w with
    | none => rw [e] at h; cases h
    | some k => exact ⟨k, rfl⟩
  obtain ⟨k, h3⟩ := h3
  unfold arity at h3
  obtain ⟨p, hp, _⟩ := Option.map_eq_some_iff.mp h3
  have hm := List.mem_of_find?_eq_some hp
  have he : p.1 = w := by
    have := List.find?_some hp
    simpa using this
  subst he
  have all : ∀ p ∈ shapes, (∃ q ∈ ownT, q.1 = p.1) ∨ p.1 ∈ (["if", "either"] : List Str) := by decide +kernel
  exact all p hm
theorem ok_own (F : KF K w mg a aO) : FnOk Pr w K mg base CX0 1 (a.A 31) (a.D 31) ["term", "first"] (spOwn ms) := by
  have B := F.B
  obtain ⟨es, n, oD⟩ := F.oD
  refine F.own.F.ok scOwn (fun vs H Q E h => ?_) (fun cdv Ar outer s0 H vs Q E hr h => ?_)
  · obtain ⟨v, d, D, fs, rfl, _⟩ := h
    rfl
  · obtain ⟨v, d, D, fs, rfl, hv, hh, ⟨kvs, hD, hlk, hq⟩, k⟩ := h
    have hu : (cxOf CX0 Pr w K mg base NOw "own_kind" (defScope sOwn) (a.A 31) cdv Ar outer s0 H E).nox.A.units + 1 < cLine := Nat.lt_of_le_of_lt (Nat.add_le_add_left (by decide : 1 ≤ 64) _) hr.units
    refine ⟨_, pss_cons (ps_if (pt_cmpR op_ne (pe_ix ix_tup (pv 0) pe_int (fun _ _ => rfl)) pe_str (nomark _))
        (pss_one (ps_ret (pe_kdget1 oD (pe_glob (v := .ref aO) (by rfl) F.okind rfl) (pe_ix ix_tup (pv 0) pe_int (fun _ _ => rfl)) ⟨rfl, rfl, rfl, rfl⟩))) pss_nil)
      (pss_one (ps_ret (pe_ifExp (pt_cmp (pc_din hu (pe_ix ix_tup (pv 0) pe_int (fun _ _ => rfl)) (pv 1))) (pe_ix ix_tup (pe_dget hu (pv 1) (pe_ix ix_tup (pv 0) pe_int (fun _ _ => rfl)) (fun _ _ => rfl)) pe_int (fun _ _ => rfl)) pe_non))), ?_⟩
    obtain ⟨wd0, r, rfl, hr2⟩ := headed_form hh
    obtain ⟨t, xs, rfl, et, hx⟩ := hv.headed
    refine ⟨_, rfl, t, _, _, _, rfl, rfl, sqt_of et, atI_nat (j := 0) rfl, ?_⟩
    refine ⟨rfl, _, rfl, ite2 (fun q => ?_) (fun q1 => ?_)⟩
    · have n1 : ¬ wd0 = kCall := fun z => by
        rw [z] at q
        revert q
        decide +kernel
      have ow : ownF (.tuple (.str wd0 :: r)) fs = (ownT.find? fun p => decide (p.1 = wd0)).map (·.2) := if_neg n1
      rw [ow] at k
      refine ⟨rfl, _, rfl, t, _, _, _, rfl, rfl, sqt_of et, atI_nat (j := 0) rfl, wd0, ?_⟩
      rcases words_own hr2 n1 with ⟨p, hp, rfl⟩ | hp
      · obtain ⟨tk, hg⟩ := F.oG p hp
        refine ⟨_, .str p.2, rfl, hg, ⟨tk, rfl⟩, ?_⟩
        have all : ∀ p ∈ ownT, (ownT.find? fun q => decide (q.1 = p.1)) = some p := by decide +kernel
        rw [all p hp] at k
        exact k
      · refine ⟨_, .non, rfl, F.oN wd0 hp, rfl, ?_⟩
        have all : ∀ x ∈ (["if", "either"] : List Str), (ownT.find? fun q => decide (q.1 = x)) = none := by decide +kernel
        rw [all wd0 hp] at k
        exact k
    · have e1 : wd0 = kCall := by
        have z : ¬ (!decide (V.str wd0 = V.str "call")) = true := q1
        have z2 : decide (V.str wd0 = V.str "call") = true := by simpa using z
        exact V.str.inj (of_decide_eq_true z2)
      obtain ⟨g, ds, rfl, _⟩ := call_form e1 hr2
      have ow : ownF (.tuple [.str wd0, .str g, .tuple ds]) fs = (firstF g fs).map (·.kd) := if_pos e1
      rw [ow] at k
      match xs, hx with
      | [v1, v2], .cons a1 (.cons a2 .nil) =>
        cases a1
        refine ⟨_, rfl, t, _, _, _, rfl, rfl, sqt_of et, atI_nat (j := 1) rfl, _, rfl, D, _, rfl, DGet.k (k := .inr g) hD, ?_⟩
        cases e2 : firstF g fs with
        | none =>
          rw [(hq g).1 e2]
          rw [e2] at k
          exact ⟨_, rfl, iteF k⟩
        | some f =>
          obtain ⟨v, hv2, hf⟩ := (hq g).2 f e2
          rw [hv2]
          rw [e2] at k
          obtain ⟨ft, nt, bv, rfl, f1, f2, f3⟩ := hf.fn
          have dg : DGet H D (.str g) (some (.ref ft)) := by
            have := DGet.k (k := .inr g) hD
            rw [hv2] at this
            exact this
          refine ⟨_, rfl, iteT ⟨_, rfl, _, rfl, t, _, _, _, rfl, rfl, sqt_of et, atI_nat (j := 1) rfl, D, .ref ft, rfl, dg, ft, _, _, _, rfl, rfl, sqt_of f1, atI_nat (j := 2) rfl, k⟩⟩
end
end Ey
set_option maxHeartbeats 4000000
namespace Ey
open PySem PySem.Spec L2
theorem ps_weak {X : Cx} {st : Stmt} {ts t1 : TS} (h : PS X st ts) (c : ∀ D σ H, t1 D σ H → ts D σ H) : PS X st t1 := ⟨fun pins s σ H D I q => h.run pins s σ H D I (c D σ H q)⟩
def kUnk : Str := "unknown"
def kCnt : Str := "count"
def kKnd : Str := "kind"
def argN : PyData → Str
  | .tuple (_ :: .str g :: _) => g
  | _ => ""
def ex1 (d : PyData) (ns : List Str) : List Str := if wordD d = kName ∧ ¬ (ns.any fun t => decide (t = argN d)) = true then [kUnk] else []
def ex2 (d : PyData) (fs : List Fn) : List Str := if wordD d = kCall then (match firstF (argN d) fs with | none => [kUnk] | some f => if f.ns.length = (partsD d).length then [] else [kCnt]) else []
def ex3 (d : PyData) (k : Str) (fs : List Fn) : List Str := if ownF d fs = none ∨ ownF d fs = some k then [] else [kKnd]
def faultsT (d : PyData) (k : Str) (ns : List Str) (fs : List Fn) : List Str := ex1 d ns ++ ex2 d fs ++ ex3 d k fs
theorem name_form {w : Str} {r : List PyData} (hw : w = kName) (h : headedR w r = true) : ∃ g, r = [.str g] := by
  subst hw
  have h1 : hdN r = true := h
  match r, h1 with
  | [x], h1 =>
    cases x with
    | str g => exact ⟨g, rfl⟩
    | _ => cases h1
/-- a row that a statement lengthens -/
def tEx (σ0 : Addr → L2.St) (H : Hp) (ex : List Str) : TS := fun D σ G => ∃ (L : Addr) (xs : List V), σ = σ0 L ∧ G L = some (.lst xs) ∧ xs.length ≤ 10 ∧ Kp [] H G ∧ H L = none ∧ ∀ G', G' L = some (.lst (xs ++ ex.map V.str)) → Kp [] H G' → D.nx σ G'
section
variable {Pr : Program} {w : World} {K : PySem.W.Frag} {mg : Str → Option Value} {base : Heap} {ms : List Addr} {a : Adr} {aO : Addr}
abbrev NFt : List Str := ["term", "kind", "names", "first", "found"]
theorem scFterm : FnScope NFt ["term", "kind", "names", "first"] (defScope sFterm) := ⟨rfl, rfl, rfl, by decide +kernel, rfl, by decide +kernel, by decide +kernel⟩
def spFterm (ms : List Addr) : Sp := fun vs H Q _ => ∃ (v : V) (d : PyData) (kd : Str) (nt D : Addr) (ns : List Str) (fs : List Fn), vs = [v, .str kd, .ref nt, .ref D] ∧ An ms H v d ∧ headed d = true ∧ wd d ≤ 1000000 ∧ H nt = some (.tup (ns.map V.str)) ∧ FirstAt ms H D fs ∧
  ∀ (L : Addr) (H' : Hp), H L = none → H' L = some (.lst ((faultsT d kd ns fs).map V.str)) → Kp [] H H' → Q (.ref L) H'
theorem ok_fterm (F : KF K w mg a aO) : FnOk Pr w K mg base CX0 2 (a.A 32) (a.D 32) ["term", "kind", "names", "first"] (spFterm ms) := by
  have B := F.B
  refine F.fterm.F.ok scFterm (fun vs H Q E h => ?_) (fun cdv Ar outer s0 H vs Q E hr h => ?_)
  · obtain ⟨v, d, kd, nt, D, ns, fs, rfl, _⟩ := h
    rfl
  · obtain ⟨v, d, kd, nt, Df, ns, fs, rfl, hv, hh, hz, hn, hF, k⟩ := h
    have hu : (cxOf CX0 Pr w K mg base NFt "faults_of_term" (defScope sFterm) (a.A 32) cdv Ar outer s0 H E).nox.A.units + 1 < cLine := Nat.lt_of_le_of_lt (Nat.add_le_add_left (by decide : 1 ≤ 64) _) hr.units
    have hv0 := hv
    have hh0 := hh
    obtain ⟨wd0, r, ed, hr2⟩ := headed_form hh
    have hv1 := hv
    rw [ed] at hv1
    obtain ⟨t, xs, rfl, et, hx⟩ := hv1.headed
    have sm : ∀ xs : List V, xs.length ≤ 10 → xs.length < sizeLine := fun xs h => Nat.lt_of_le_of_lt h (by decide)
    let σ0 : Addr → L2.St := fun L => [some (.ref t), some (.str kd), some (.ref nt), some (.ref Df), some (.ref L)]
    have wd_ : wordD d = wd0 := by rw [ed]; rfl
    obtain ⟨kvs, hD, hlk, hq⟩ := hF.ex
    refine ⟨_, pss_cons (ps_set (i := 4) scFterm.nd rfl (.inl rfl) (pe_lst pa_nil))
      (pss_cons (ps_weak (t1 := tEx σ0 H (ex1 d ns)) (ps_if (PW.pt (pw_and (pt_cmpR op_eq (pe_ix ix_tup (pv 0) pe_int (fun _ _ => rfl)) pe_str (nomark _)) (pw_and1 (pt_cmpR (r := rIn K true) op_notIn_seq (pe_ix ix_tup (pv 0) pe_int (fun _ _ => rfl)) (pv 2) (by rfl)))))
        (pss_one (ps_expr (pe_bm PySem.F.plainAttrs_list PySem.F.slot_list_append PySem.F.type_list_append mt_append (pv 4) (pa_cons pe_str pa_nil)))) pss_nil) (fun D σ G h => by
        obtain ⟨L, xs0, rfl, hL, hl, kG, nL, kn⟩ := h
        have etG := kG.tup _ _ et
        have fin : ∀ (c : Prop) [Decidable c], ex1 d ns = (if c then [kUnk] else []) → c → D.nx (σ0 L) (upd G L (.lst (xs0 ++ [V.str "unknown"]))) := fun c _ e hc => kn _ (by rw [upd_same, e, if_pos hc]; rfl) (kG.own nL)
        have non : ex1 d ns = [] → D.nx (σ0 L) G := fun e => kn G (by rw [e]; simpa using hL) kG
        refine ⟨_, rfl, t, _, _, _, rfl, rfl, sqt_of etG, atI_nat (j := 0) rfl, rfl, _, rfl, ite2 (fun q => ?_) (fun q => ?_)⟩
        · have e1 : wd0 = kName := V.str.inj (of_decide_eq_true q)
          obtain ⟨g, rfl⟩ := name_form e1 hr2
          match xs, hx with
          | [v1], .cons a1 .nil =>
            cases a1
            have an : argN d = g := by rw [ed]; rfl
            refine ⟨_, rfl, t, _, _, _, rfl, rfl, sqt_of etG, atI_nat (j := 1) rfl, _, rfl, nt, _, rfl, .inr (sqt_of (kG.tup _ _ hn)), rfl, flat_strs _, _, rfl, ?_⟩
            show if (!inV (.str g) (ns.map V.str)) = true then _ else _
            rw [inV_strs]
            cases e2 : (ns.any fun t => decide (t = g)) with
            | true =>
              refine iteF (non ?_)
              unfold ex1
              rw [an, e2]
              exact if_neg (fun z => z.2 rfl)
            | false =>
              refine iteT ⟨_, rfl, .inl ⟨rfl, _, sql_of hL⟩, L, xs0, .str "unknown", rfl, rfl, hL, sm _ hl, fin _ rfl ⟨by rw [wd_, e1], ?_⟩⟩
              rw [an, e2]
              exact Bool.false_ne_true
        · refine iteF (non ?_)
          unfold ex1
          rw [wd_, if_neg (fun z => q (decide_eq_true (by rw [z.1]; rfl)))]))
      (pss_cons (ps_weak (t1 := tEx σ0 H (ex2 d fs)) (ps_if (pt_cmpR op_eq (pe_ix ix_tup (pv 0) pe_int (fun _ _ => rfl)) pe_str (nomark _))
        (pss_one (ps_if (pt_cmp (pc_dnotin hu (pe_ix ix_tup (pv 0) pe_int (fun _ _ => rfl)) (pv 3)))
        (pss_one (ps_expr (pe_bm PySem.F.plainAttrs_list PySem.F.slot_list_append PySem.F.type_list_append mt_append (pv 4) (pa_cons pe_str pa_nil)))) (pss_one (ps_if (pt_cmpR op_ne (pe_callB (r := rLenQ K) call_len_seq (by rfl) B.len PySem.boot_len (pa_cons (pe_ix ix_tup (pe_dget hu (pv 3) (pe_ix ix_tup (pv 0) pe_int (fun _ _ => rfl)) (fun _ _ => rfl)) pe_int (fun _ _ => rfl)) pa_nil)) (pe_callB (r := rLenQ K) call_len_seq (by rfl) B.len PySem.boot_len (pa_cons (pe_ix ix_tup (pv 0) pe_int (fun _ _ => rfl)) pa_nil)) (nomark _))
        (pss_one (ps_expr (pe_bm PySem.F.plainAttrs_list PySem.F.slot_list_append PySem.F.type_list_append mt_append (pv 4) (pa_cons pe_str pa_nil)))) pss_nil)))) pss_nil) (fun D σ G h => by
        obtain ⟨L, xs0, rfl, hL, hl, kG, nL, kn⟩ := h
        have etG := kG.tup _ _ et
        have non : ex2 d fs = [] → D.nx (σ0 L) G := fun e => kn G (by rw [e]; simpa using hL) kG
        refine ⟨_, rfl, t, _, _, _, rfl, rfl, sqt_of etG, atI_nat (j := 0) rfl, rfl, _, rfl, ite2 (fun q => ?_) (fun q => ?_)⟩
        · have e1 : wd0 = kCall := V.str.inj (of_decide_eq_true q)
          obtain ⟨g, ds, rfl, _⟩ := call_form e1 hr2
          have an : argN d = g := by rw [ed]; rfl
          have pd : partsD d = ds := by
            rw [ed]
            subst e1
            rfl
          match xs, hx with
          | [v1, v2], .cons a1 (.cons a2 .nil) =>
            cases a1
            have hDG := kG.at_ _ _ hD List.not_mem_nil
            have dg := DGet.k (k := .inr g) hDG
            cases e2 : firstF g fs with
            | none =>
              rw [(hq g).1 e2] at dg
              refine ⟨_, rfl, t, _, _, _, rfl, rfl, sqt_of etG, atI_nat (j := 1) rfl, _, rfl, Df, _, rfl, dg, _, rfl, iteT ?_⟩
              refine ⟨_, rfl, .inl ⟨rfl, _, sql_of hL⟩, L, xs0, .str "unknown", rfl, rfl, hL, sm _ hl, kn _ ?_ (kG.own nL)⟩
              rw [upd_same]
              unfold ex2
              rw [wd_, if_pos e1, an, e2]
              rfl
            | some f =>
              obtain ⟨v, hv2, hf⟩ := (hq g).2 f e2
              rw [hv2] at dg
              obtain ⟨ft, nt2, bv, rfl, f1, f2, f3⟩ := hf.fn
              cases a2 with
              | @tup t2 ys _ e2' hes =>
                have ly := hes.length
                refine ⟨_, rfl, t, _, _, _, rfl, rfl, sqt_of etG, atI_nat (j := 1) rfl, _, rfl, Df, _, rfl, dg, _, rfl, iteF ?_⟩
                refine ⟨_, rfl, _, rfl, t, _, _, _, rfl, rfl, sqt_of etG, atI_nat (j := 1) rfl, Df, _, rfl, dg, ft, _, _, _, rfl, rfl, sqt_of (kG.tup _ _ f1), atI_nat (j := 3) rfl, nt2, _, rfl, .inr (sqt_of (kG.tup _ _ f2)), _, rfl, t, _, _, .ref t2, rfl, rfl, sqt_of etG, atI_nat (j := 2) rfl, t2, ys, rfl, .inr (sqt_of (kG.tup _ _ e2')), rfl, _, rfl, ?_⟩
                have ee : ex2 d fs = if f.ns.length = ds.length then [] else [kCnt] := by
                  unfold ex2
                  rw [wd_, if_pos e1, an, e2, pd]
                by_cases hl2 : f.ns.length = ds.length
                · refine iteNS ?_ (non (by rw [ee, if_pos hl2]))
                  rw [List.length_map, hl2, ly]
                · refine ite2 (fun _ => ?_) (fun z => absurd z ?_)
                  · refine ⟨_, rfl, .inl ⟨rfl, _, sql_of hL⟩, L, xs0, .str "count", rfl, rfl, hL, sm _ hl, kn _ ?_ (kG.own nL)⟩
                    rw [upd_same, ee, if_neg hl2]
                    rfl
                  · rw [List.length_map]
                    intro z2
                    refine z2 ?_
                    rw [decide_eq_false (fun z3 => hl2 (by injection z3 with z3; omega))]
                    rfl
        · refine non ?_
          unfold ex2
          rw [wd_, if_neg (fun z => q (decide_eq_true (by rw [z]; rfl)))]))
      (pss_cons (ps_weak (t1 := tEx σ0 H (ex3 d kd fs)) (ps_if (pt_cmpR (r := rIn K true) op_notIn_seq (pe_call (ok_own (ms := ms) F) (hr.mono (by decide)) (by rfl) F.own.g F.own.F.kp F.own.b .nil pass0 (pa_cons (pv 0) (pa_cons (pv 3) pa_nil))) (pe_tup (pa_cons (pv 1) (pa_cons pe_non pa_nil))) (by rfl))
        (pss_one (ps_expr (pe_bm PySem.F.plainAttrs_list PySem.F.slot_list_append PySem.F.type_list_append mt_append (pv 4) (pa_cons pe_str pa_nil)))) pss_nil) (fun D σ G h => by
        obtain ⟨L, xs0, rfl, hL, hl, kG, nL, kn⟩ := h
        have non : ex3 d kd fs = [] → D.nx (σ0 L) G := fun e => kn G (by rw [e]; simpa using hL) kG
        refine ⟨_, rfl, _, rfl, .ref t, d, Df, fs, rfl, hv0.kp kG (by simp) _, hh0, hF.kp kG (by simp) List.not_mem_nil, ?_⟩
        refine ⟨_, rfl, by show 2 ≤ sizeLine; decide, fun p np => ⟨p, _, rfl, .inr (sqt_of upd_same), ?_, rfl, _, rfl, ?_⟩⟩
        · cases ownF d fs <;> rfl
        have kp : Kp [] G (upd G p (.tup [.str kd, .non])) := .new np
        have hL1 := kp.at_ _ _ hL List.not_mem_nil
        generalize upd G p (.tup [.str kd, .non]) = G1 at kp hL1
        have ei : inV (optV (ownF d fs)) [.str kd, .non] = decide (ownF d fs = none ∨ ownF d fs = some kd) := by
          cases e : ownF d fs with
          | none => simp [optV, inV, eqV]
          | some x =>
            simp [optV, inV, eqV]
            by_cases h : x = kd
            · rw [decide_eq_true h, h]
              exact beq_self_eq_true _
            · rw [decide_eq_false h]
              exact beq_false_of_ne fun z => h z.symm
        show if (!inV (optV (ownF d fs)) [.str kd, .non]) = true then _ else _
        rw [ei]
        by_cases hc : ownF d fs = none ∨ ownF d fs = some kd
        · rw [decide_eq_true hc]
          refine iteF (kn G1 ?_ (kG.trans kp))
          rw [hL1]
          unfold ex3
          rw [if_pos hc, List.map_nil, List.append_nil]
        · rw [decide_eq_false hc]
          refine iteT ⟨_, rfl, .inl ⟨rfl, _, sql_of hL1⟩, L, xs0, .str "kind", rfl, rfl, hL1, sm _ hl, kn _ ?_ ((kG.trans kp).own nL)⟩
          rw [upd_same]
          unfold ex3
          rw [if_neg hc]
          rfl))
      (pss_one (ps_ret (pv 4)))))), ?_⟩
    refine ⟨Nat.zero_le _, fun L nL => ?_⟩
    refine ⟨L, [], rfl, upd_same, Nat.zero_le _, .new nL, nL, fun G1 h1 k1 => ?_⟩
    rw [List.nil_append] at h1
    have l1 : ((ex1 d ns).map V.str).length ≤ 1 := by
      rw [List.length_map]
      unfold ex1
      split <;> simp
    have l2 : (ex2 d fs).length ≤ 1 := by
      unfold ex2
      split
      · split
        · simp
        · split <;> simp
      · simp
    refine ⟨L, _, rfl, h1, by omega, k1, nL, fun G2 h2 k2 => ?_⟩
    refine ⟨L, _, rfl, h2, by rw [List.length_append, List.length_map (as := ex2 d fs)]; omega, k2, nL, fun G3 h3 k3 => ?_⟩
    refine ⟨_, rfl, k L G3 nL ?_ k3⟩
    rw [h3]
    unfold faultsT
    rw [List.map_append, List.map_append]
end
end Ey
set_option maxHeartbeats 4000000
namespace Ey
open PySem PySem.Spec L2
example : 4000000 ≤ sizeLine := by decide
/-- the parts of a term, each with its kind and its way -/
def kids (d : PyData) (k : Str) : List (PyData × Str × List Nat) := (partsD d).zip ((kindsW (wordD d) k (partsD d).length).zip (waysW (wordD d) (partsD d).length))
theorem kids_mem {d : PyData} {k : Str} {x : PyData × Str × List Nat} (h : x ∈ kids d k) : x.1 ∈ partsD d := (List.of_mem_zip (a := x.1) (b := x.2) h).1
theorem kids_wd {d : PyData} {k : Str} {x : PyData × Str × List Nat} (h : x ∈ kids d k) : wd x.1 < wd d := parts_wd (kids_mem h)
def faultsD (ns : List Str) (fs : List Fn) (k : Str) (p : List Nat) (d : PyData) : List (Str × List Nat) :=
  (faultsT d k ns fs).map (fun w => (w, p)) ++ (kids d k).attach.flatMap fun x => faultsD ns fs x.1.2.1 (p ++ x.1.2.2) x.1.1
termination_by wd d
decreasing_by exact kids_wd x.2
theorem faultsD_eq (ns : List Str) (fs : List Fn) (k : Str) (p : List Nat) (d : PyData) :
    faultsD ns fs k p d = (faultsT d k ns fs).map (fun w => (w, p)) ++ (kids d k).flatMap fun x => faultsD ns fs x.2.1 (p ++ x.2.2) x.1 := by
  rw [faultsD]
  congr 1
  have : ∀ l : List (PyData × Str × List Nat), (l.attach.flatMap fun x => faultsD ns fs x.1.2.1 (p ++ x.1.2.2) x.1.1) = l.flatMap fun x => faultsD ns fs x.2.1 (p ++ x.2.2) x.1 := fun l => by
    conv => rhs; rw [← List.attach_map_subtype_val l]
    rw [List.flatMap_map]
  exact this _
theorem kinds_len {w k : Str} {n : Nat} {d : PyData} (h : headed d = true) : (partsD d).length ≤ (kindsW (wordD d) k (partsD d).length).length := by
  obtain ⟨w0, r, rfl, hr⟩ := headed_form h
  show _ ≤ (kindsW w0 k _).length
  unfold kindsW
  have pl : ¬ w0 = kName → ¬ w0 = kHas → ¬ w0 = kCall → partsD (.tuple (.str w0 :: r)) = r := fun a b c => by
    show partsR w0 r = r
    unfold partsR
    rw [if_neg a, if_neg b, if_neg c]
  have ar : ¬ w0 = kName → ¬ w0 = kHas → ¬ w0 = kCall → ∀ m, arity w0 = some m → r.length = m := fun a b c m e => by
    unfold headedR at hr
    rw [if_neg a, if_neg b, if_neg c, e] at hr
    exact of_decide_eq_true hr
  split
  · rename_i e
    rw [pl (by rw [e]; decide) (by rw [e]; decide) (by rw [e]; decide), ar (by rw [e]; decide) (by rw [e]; decide) (by rw [e]; decide) 3 (by rw [e]; decide +kernel)]
    exact Nat.le_refl _
  · split
    · rename_i e
      rw [pl (by rw [e]; decide) (by rw [e]; decide) (by rw [e]; decide), ar (by rw [e]; decide) (by rw [e]; decide) (by rw [e]; decide) 2 (by rw [e]; decide +kernel)]
      exact Nat.le_refl _
    · split
      · rename_i e
        have e' : w0 = "not" ∨ w0 = "and" ∨ w0 = "or" := by
          simp at e
          rcases e with e | e | e
          · exact .inl e.symm
          · exact .inr (.inl e.symm)
          · exact .inr (.inr e.symm)
        rcases e' with e | e | e
        · rw [pl (by rw [e]; decide) (by rw [e]; decide) (by rw [e]; decide), ar (by rw [e]; decide) (by rw [e]; decide) (by rw [e]; decide) 1 (by rw [e]; decide +kernel)]
          decide
        · rw [pl (by rw [e]; decide) (by rw [e]; decide) (by rw [e]; decide), ar (by rw [e]; decide) (by rw [e]; decide) (by rw [e]; decide) 2 (by rw [e]; decide +kernel)]
          decide
        · rw [pl (by rw [e]; decide) (by rw [e]; decide) (by rw [e]; decide), ar (by rw [e]; decide) (by rw [e]; decide) (by rw [e]; decide) 2 (by rw [e]; decide +kernel)]
          decide
      · rw [List.length_replicate]
        exact Nat.le_refl _
theorem ways_len (w : Str) (n : Nat) : (waysW w n).length = n := by
  unfold waysW
  split <;> rw [List.length_map, List.length_range]
theorem ways_short {w : Str} {n : Nat} {p : List Nat} (h : p ∈ waysW w n) : p.length ≤ 2 := by
  unfold waysW at h
  split at h
  · obtain ⟨i, _, rfl⟩ := List.mem_map.mp h
    exact Nat.le_refl _
  · obtain ⟨i, _, rfl⟩ := List.mem_map.mp h
    show 1 ≤ 2
    decide
theorem kids_len {d : PyData} {k : Str} (h : headed d = true) : (kids d k).length = (partsD d).length := by
  have := kinds_len (w := "") (n := 0) (k := k) h
  unfold kids
  rw [List.length_zip, List.length_zip, ways_len]
  omega
theorem zip_fst {α β : Type} : ∀ (xs : List α) (ys : List β), xs.length ≤ ys.length → (xs.zip ys).map (·.1) = xs
  | [], _, _ => rfl
  | x :: xs, [], h => by simp at h
  | x :: xs, y :: ys, h => by
    show x :: (xs.zip ys).map (·.1) = _
    rw [zip_fst xs ys (by simpa using h)]
theorem kids_parts {d : PyData} {k : Str} (h : headed d = true) : (kids d k).map (·.1) = partsD d := by
  refine zip_fst _ _ ?_
  have := kinds_len (w := "") (n := 0) (k := k) h
  rw [List.length_zip, ways_len]
  omega
end Ey
set_option maxHeartbeats 2000000
/-! list(zip(a, b, c)), a and b tuples, c a list. -/
namespace Z3
open PySem PySem.W PySem.Spec PyProof.Rows L2
section
variable {prog : Program} {w : World} {A : Around} {E : Value → Shared → Prop} {s : Shared} {z TI TO T i1 i2 i3 : Addr} {f : Bool} {oT : Obj} {fp1 fp2 fp3 : List Addr} {n1 n2 n3 i : Nat} {P1 P2 P3 : Nat → Value → Prop} {St1 St2 St3 : Nat → Heap → Prop}
theorem next_item_held {Q : Value → Shared → Prop} (S : ZipSep3 z TI TO i1 i2 i3 fp1 fp2 fp3) (D1 : Draws prog w A i1 fp1 n1 P1 St1) (D2 : Draws prog w A i2 fp2 n2 P2 St2) (D3 : Draws prog w A i3 fp3 n3 P3 St3)
    (hz : IsZipHeld s.heap z TI TO T f) (hT : s.heap.get? T = some oT) (hTI : IsTupOf3 s.heap TI (.ref i1) (.ref i2) (.ref i3)) (st1 : St1 i s.heap) (st2 : St2 i s.heap) (st3 : St3 i s.heap) (hlt1 : i < n1) (hlt2 : i < n2) (hlt3 : i < n3)
    (hQ : ∀ x1 x2 x3 h' tk, P1 i x1 → P2 i x2 → P3 i x3 → IsZipHeld h' z TI TO T true → St1 (i + 1) h' → St2 (i + 1) h' → St3 (i + 1) h' → IsTupOf3 h' s.heap.objs.size x1 x2 x3 → h'.objs.size = s.heap.objs.size + 1 →
      (∀ c o, c ≠ z → c ≠ i1 → c ≠ i2 → c ≠ i3 → s.heap.get? c = some o → h'.get? c = some o) → Q (.ref s.heap.objs.size) { s with heap := h', toks := tk }) :
    wpAny (model prog w) A (Builtin.«zip.__next__» ⟨[.ref z], []⟩) (fun fin s' => ∃ v, fin = .done (.ret v) ∧ Q v s') E s := by
  obtain ⟨hp, g, d, tk0, os⟩ := s
  show wpAny _ _ (field (.ref z) 2 >>= _) _ _ _
  refine wpAny_bind (wpAny_field hz rfl (x := .bool false) rfl ?_)
  show wpAny _ _ (field (.ref z) 3 >>= _) _ _ _
  refine wpAny_bind (wpAny_field hz rfl (x := .ref TI) rfl ?_)
  refine wpAny_bind (wpAny_seqItems hTI rfl ?_)
  show wpAny _ _ (Builtin.SmallTypes.ownedTupleIsFree (.ref z) >>= _) _ _ _
  refine wpAny_bind (wpAny_tupleHeld_zip hz hT fun g0 hz0 hs0 => ?_)
  replace hz0 : IsZipHeld g0 z TI TO T true := hz0
  replace hs0 : Heap.SameBut z hp g0 := hs0
  simp only [Bool.false_eq_true, if_false]
  refine wpAny_bind ?_
  rw [← Array.forIn_toList]
  simp only [List.forIn_cons, List.forIn_nil]
  refine wpAny_bind (wpAny_bind (wpAny_holding ?_))
  show wpAny _ _ (Builtin.SmallTypes.nextOf (.ref i1) >>= _) _ _ ⟨g0, g, d, tk0, os⟩
  refine wpAny_bind (D1.item i _ _ _ hlt1 (D1.over st1 hs0 S.zf1) fun x1 p1 tk1 hx1 sn1 hp1 => wpAny_pure ?_)
  replace hp1 : Heap.SameBut i1 g0 p1 := hp1
  refine wpAny_pure ?_
  refine wpAny_bind (wpAny_bind (wpAny_holding ?_))
  show wpAny _ _ (Builtin.SmallTypes.nextOf (.ref i2) >>= _) _ _ ⟨p1, g, d, tk1, os⟩
  refine wpAny_bind (D2.item i _ _ _ hlt2 (D2.over (D2.over st2 hs0 S.zf2) hp1 S.sep1_2) fun x2 p2 tk2 hx2 sn2 hp2 => wpAny_pure ?_)
  replace hp2 : Heap.SameBut i2 p1 p2 := hp2
  refine wpAny_pure ?_
  refine wpAny_bind (wpAny_bind (wpAny_holding ?_))
  show wpAny _ _ (Builtin.SmallTypes.nextOf (.ref i3) >>= _) _ _ ⟨p2, g, d, tk2, os⟩
  refine wpAny_bind (D3.item i _ _ _ hlt3 (D3.over (D3.over (D3.over st3 hs0 S.zf3) hp1 S.sep1_3) hp2 S.sep2_3) fun x3 p3 tk3 hx3 sn3 hp3 => wpAny_pure ?_)
  replace hp3 : Heap.SameBut i3 p2 p3 := hp3
  refine wpAny_pure (wpAny_pure ?_)
  show wpAny _ _ (newTuple [x1, x2, x3] >>= _) _ _ ⟨p3, g, d, tk3, os⟩
  refine wpAny_bind (wpAny_newTuple ?_)
  have hsz : p3.objs.size = hp.objs.size := by rw [hp3.1, hp2.1, hp1.1, hs0.1]
  have hzz : IsZipHeld p3 z TI TO T true := hp3.extBut _ _ S.zi3 (hp2.extBut _ _ S.zi2 (hp1.extBut _ _ S.zi1 hz0))
  have hkk : ∀ c o, c ≠ z → c ≠ i1 → c ≠ i2 → c ≠ i3 → hp.get? c = some o → p3.get? c = some o := fun c o cz c1 c2 c3 e =>
    hp3.extBut _ _ c3 (hp2.extBut _ _ c2 (hp1.extBut _ _ c1 (hs0.extBut _ _ cz e)))
  have hj1 : St1 (i + 1) p3 := D1.over (D1.over sn1 hp2 S.sep2_1) hp3 S.sep3_1
  have hj2 : St2 (i + 1) p3 := D2.over sn2 hp3 S.sep3_2
  refine wpAny_pure ⟨_, rfl, ?_⟩
  show Q (.ref p3.objs.size) ⟨p3.push { cls := .type "tuple", data := .seq #[x1, x2, x3] }, g, d, tk3, os⟩
  have up : ∀ c o, p3.get? c = some o → (p3.push { cls := .type "tuple", data := .seq #[x1, x2, x3] }).get? c = some o := fun c o e => Heap.get?_push_of_some _ e
  have hT8 : IsTupOf3 (p3.push { cls := .type "tuple", data := .seq #[x1, x2, x3] }) p3.objs.size x1 x2 x3 := Heap.get?_push_size _ rfl
  have hz8 : (p3.push { cls := .type "tuple", data := .seq #[x1, x2, x3] }).objs.size = p3.objs.size + 1 := Heap.size_push ..
  rw [hsz] at hT8 hz8 ⊢
  exact hQ x1 x2 x3 _ tk3 hx1 hx2 hx3 (up _ _ hzz) (D1.frame _ _ _ hj1 fun b hb o e => up b o e) (D2.frame _ _ _ hj2 fun b hb o e => up b o e) (D3.frame _ _ _ sn3 fun b hb o e => up b o e) hT8 hz8 fun c o cz c1 c2 c3 e => up c o (hkk c o cz c1 c2 c3 e)
theorem next_end_held {Q : Fin → Shared → Prop} (S : ZipSep3 z TI TO i1 i2 i3 fp1 fp2 fp3) (D1 : Draws prog w A i1 fp1 n1 P1 St1)
    (hz : IsZipHeld s.heap z TI TO T f) (hT : s.heap.get? T = some oT) (hTI : IsTupOf3 s.heap TI (.ref i1) (.ref i2) (.ref i3)) (st1 : St1 n1 s.heap)
    (hE : ∀ h' e, (∀ c o, c ≠ z → c ≠ i1 → s.heap.get? c = some o → h'.get? c = some o) → (∃ o, h'.get? e = some o ∧ o.cls = .type "StopIteration") → E (.ref e) { s with heap := h' }) :
    wpAny (model prog w) A (Builtin.«zip.__next__» ⟨[.ref z], []⟩) Q E s := by
  obtain ⟨hp, g, d, tk0, os⟩ := s
  show wpAny _ _ (field (.ref z) 2 >>= _) _ _ _
  refine wpAny_bind (wpAny_field hz rfl (x := .bool false) rfl ?_)
  show wpAny _ _ (field (.ref z) 3 >>= _) _ _ _
  refine wpAny_bind (wpAny_field hz rfl (x := .ref TI) rfl ?_)
  refine wpAny_bind (wpAny_seqItems hTI rfl ?_)
  show wpAny _ _ (Builtin.SmallTypes.ownedTupleIsFree (.ref z) >>= _) _ _ _
  refine wpAny_bind (wpAny_tupleHeld_zip hz hT fun g0 hz0 hs0 => ?_)
  replace hs0 : Heap.SameBut z hp g0 := hs0
  simp only [Bool.false_eq_true, if_false]
  refine wpAny_bind ?_
  rw [← Array.forIn_toList]
  simp only [List.forIn_cons, List.forIn_nil]
  refine wpAny_bind (wpAny_bind (wpAny_holding ?_))
  show wpAny _ _ (Builtin.SmallTypes.nextOf (.ref i1) >>= _) _ _ ⟨g0, g, d, tk0, os⟩
  refine wpAny_bind (D1.done ⟨g0, g, d, tk0, os⟩ _ _ (D1.over st1 hs0 S.zf1) fun q e hq he => ?_)
  exact hE q e (fun c o cz c1 x => hq c o c1 (hs0.extBut _ _ cz x)) he
/-- how the zip stands between two turns of list's loop -/
def ZSt (z TI TO i1 i2 i3 S : Addr) (St1 St2 St3 : Nat → Heap → Prop) (i : Nat) (h : Heap) : Prop :=
  IsTupOf3 h TI (.ref i1) (.ref i2) (.ref i3) ∧ St1 i h ∧ St2 i h ∧ St3 i h ∧ ((IsZip h z TI TO .none ∧ ∃ a1 a2 a3, IsTupOf3 h TO a1 a2 a3) ∨ ∃ T f oT, IsZipHeld h z TI TO T f ∧ h.get? T = some oT ∧ T ≠ z ∧ T ≠ i1 ∧ T ≠ i2 ∧ T ≠ i3 ∧ T ≠ S)
theorem nxt {S : Addr} {Q : Option Value → Shared → Prop} (Z : ZipSep3 z TI TO i1 i2 i3 fp1 fp2 fp3) (D1 : Draws prog w A.in1 i1 fp1 n1 P1 St1) (D2 : Draws prog w A.in1 i2 fp2 n2 P2 St2) (D3 : Draws prog w A.in1 i3 fp3 n3 P3 St3)
    (hst : ZSt z TI TO i1 i2 i3 S St1 St2 St3 i s.heap) (hS : S < s.heap.objs.size) (hlt1 : i < n1) (hlt2 : i < n2) (hlt3 : i < n3)
    (hQ : ∀ x1 x2 x3 h' tk, P1 i x1 → P2 i x2 → P3 i x3 → ZSt z TI TO i1 i2 i3 S St1 St2 St3 (i + 1) h' → IsTupOf3 h' s.heap.objs.size x1 x2 x3 → h'.objs.size = s.heap.objs.size + 1 →
      (∀ c o, c ∉ [z, TO, i1, i2, i3] → s.heap.get? c = some o → h'.get? c = some o) → Q (some (.ref s.heap.objs.size)) { s with heap := h', toks := tk }) :
    wpAny (model prog w) A (pyNext (.ref z)) Q E s := by
  obtain ⟨hTI, st1, st2, st3, hz⟩ := hst
  have lt : ∀ {c o}, s.heap.get? c = some o → s.heap.objs.size ≠ c := fun e => Nat.ne_of_gt (Heap.lt_size e)
  have l1 : s.heap.objs.size ≠ i1 := by obtain ⟨_, e⟩ := D1.live _ _ st1; exact lt e
  have l2 : s.heap.objs.size ≠ i2 := by obtain ⟨_, e⟩ := D2.live _ _ st2; exact lt e
  have l3 : s.heap.objs.size ≠ i3 := by obtain ⟨_, e⟩ := D3.live _ _ st3; exact lt e
  rcases hz with ⟨hz, a1, a2, a3, hTO⟩ | ⟨T, f, oT, hz, hT, r1, r2, r3, r4, r5⟩
  · refine wpAny_pyNext_zipD3_item Z D1 D2 D3 hz hTI hTO st1 st2 st3 hlt1 hlt2 hlt3 fun x1 x2 x3 h' tk y1 y2 y3 b1 b2 d1 d2 d3 b5 b6 hk => ?_
    exact hQ x1 x2 x3 h' tk y1 y2 y3 ⟨hk _ _ Z.TIz Z.TITO Z.TIi1 Z.TIi2 Z.TIi3 hTI, d1, d2, d3, .inr ⟨s.heap.objs.size, false, _, b1, b5, lt hz, l1, l2, l3, Nat.ne_of_gt hS⟩⟩ b5 b6
      fun c o hc e => hk c o (fun q => hc (by simp [q])) (fun q => hc (by simp [q])) (fun q => hc (by simp [q])) (fun q => hc (by simp [q])) (fun q => hc (by simp [q])) e
  · have hTy : s.TypeIs (.ref z) "zip" := ⟨_, hz, rfl⟩
    unfold pyNext
    refine wpAny_bind (wpAny_attempt (wpAny_callSpecial?_slot (name := Str.ofString "__next__") hTy F.slot_zip_next
      (wpAny_call_entry F.slot_zip_next hTy F.entry_zip_next
        (next_item_held Z D1 D2 D3 hz hT hTI st1 st2 st3 hlt1 hlt2 hlt3 fun x1 x2 x3 h' tk y1 y2 y3 b1 d1 d2 d3 b5 b6 hk => wpAny_pure ?_) (F.args_zip_next_1 _))))
    exact hQ x1 x2 x3 h' tk y1 y2 y3 ⟨hk _ _ Z.TIz Z.TIi1 Z.TIi2 Z.TIi3 hTI, d1, d2, d3, .inr ⟨T, true, oT, b1, hk _ _ r1 r2 r3 r4 hT, r1, r2, r3, r4, r5⟩⟩ b5 b6
      fun c o hc e => hk c o (fun q => hc (by simp [q])) (fun q => hc (by simp [q])) (fun q => hc (by simp [q])) (fun q => hc (by simp [q])) e
theorem fin {S : Addr} {Q : Option Value → Shared → Prop} (Z : ZipSep3 z TI TO i1 i2 i3 fp1 fp2 fp3) (D1 : Draws prog w A.in1 i1 fp1 n1 P1 St1) (D2 : Draws prog w A.in1 i2 fp2 n2 P2 St2) (D3 : Draws prog w A.in1 i3 fp3 n3 P3 St3)
    (le2 : n1 ≤ n2) (le3 : n1 ≤ n3) (hst : ZSt z TI TO i1 i2 i3 S St1 St2 St3 n1 s.heap) (hQ : ∀ h' tk, (∀ c o, c ∉ [z, TO, i1, i2, i3] → s.heap.get? c = some o → h'.get? c = some o) → Q none { s with heap := h', toks := tk }) :
    wpAny (model prog w) A (pyNext (.ref z)) Q E s := by
  obtain ⟨hTI, st1, st2, st3, hz⟩ := hst
  rcases hz with ⟨hz, a1, a2, a3, hTO⟩ | ⟨T, f, oT, hz, hT, r1, r2, r3, r4, r5⟩
  · exact wpAny_pyNext_zipD3_end Z D1 D2 D3 hz hTI hTO st1 st2 st3 (Nat.le_refl _) le2 le3 (.inl rfl) fun h' tk hk =>
      hQ h' tk fun c o hc e => hk c o (fun q => hc (by simp [q])) (fun q => hc (by simp [q])) (fun q => hc (by simp [q])) (fun q => hc (by simp [q])) (fun q => hc (by simp [q])) e
  · have hTy : s.TypeIs (.ref z) "zip" := ⟨_, hz, rfl⟩
    unfold pyNext
    refine wpAny_bind (wpAny_attempt (wpAny_callSpecial?_slot (name := Str.ofString "__next__") hTy F.slot_zip_next
      (wpAny_call_entry F.slot_zip_next hTy F.entry_zip_next (next_end_held Z D1 hz hT hTI st1 fun h' e hk he => ?_) (F.args_zip_next_1 _))))
    obtain ⟨o, ho, hc⟩ := he
    refine wpAny_bind (wpAny_isInstance (T := "StopIteration") (b := true) ⟨o, ho, hc⟩ isSubtype_stop ?_)
    exact wpAny_pure (hQ _ _ fun c o hc e => hk c o (fun q => hc (by simp [q])) (fun q => hc (by simp [q])) e)
/-- the tuples that the loop made -/
structure Made (P1 P2 P3 : Nat → Value → Prop) (lo : Addr) (h : Heap) (as : List Addr) : Prop where
  rise : as.Pairwise (· < ·)
  above : ∀ a ∈ as, lo < a
  pairs : ∀ (j : Nat) a, as[j]? = some a → ∃ x1 x2 x3, P1 j x1 ∧ P2 j x2 ∧ P3 j x3 ∧ IsTupOf3 h a x1 x2 x3
theorem Made.there {lo : Addr} {h : Heap} {as : List Addr} (g : Made P1 P2 P3 lo h as) {a : Addr} (ha : a ∈ as) : a < h.objs.size := by
  obtain ⟨j, hj⟩ := List.getElem?_of_mem ha
  obtain ⟨_, _, _, _, _, _, e⟩ := g.pairs j a hj
  exact Heap.lt_size e
theorem ZSt.keep {S : Addr} {A' : Around} {h h' : Heap} (Z : ZipSep3 z TI TO i1 i2 i3 fp1 fp2 fp3) (D1 : Draws prog w A' i1 fp1 n1 P1 St1) (D2 : Draws prog w A' i2 fp2 n2 P2 St2) (D3 : Draws prog w A' i3 fp3 n3 P3 St3)
    (x : ZSt z TI TO i1 i2 i3 S St1 St2 St3 i h) (hS : S ∉ z :: TI :: TO :: (fp1 ++ fp2 ++ fp3)) (hk : ∀ b o, b ≠ S → h.get? b = some o → h'.get? b = some o) : ZSt z TI TO i1 i2 i3 S St1 St2 St3 i h' := by
  obtain ⟨hTI, st1, st2, st3, hz⟩ := x
  have n : ∀ b, b ∈ z :: TI :: TO :: (fp1 ++ fp2 ++ fp3) → b ≠ S := fun b hb e => hS (e ▸ hb)
  refine ⟨hk _ _ (n _ (by simp)) hTI, D1.frame _ _ _ st1 fun b hb o e => hk b o (n b (by simp [hb])) e, D2.frame _ _ _ st2 fun b hb o e => hk b o (n b (by simp [hb])) e, D3.frame _ _ _ st3 fun b hb o e => hk b o (n b (by simp [hb])) e, ?_⟩
  rcases hz with ⟨hz, a1, a2, a3, hTO⟩ | ⟨T, f, oT, hz, hT, r1, r2, r3, r4, r5⟩
  · exact .inl ⟨hk _ _ (n _ (by simp)) hz, a1, a2, a3, hk _ _ (n _ (by simp)) hTO⟩
  · exact .inr ⟨T, f, oT, hk _ _ (n _ (by simp)) hz, hk _ _ r5 hT, r1, r2, r3, r4, r5⟩
theorem loop {S : Addr} (Z : ZipSep3 z TI TO i1 i2 i3 fp1 fp2 fp3) (D1 : Draws prog w A.in1.in1 i1 fp1 n1 P1 St1) (D2 : Draws prog w A.in1.in1 i2 fp2 n2 P2 St2) (D3 : Draws prog w A.in1.in1 i3 fp3 n3 P3 St3) (le2 : n1 ≤ n2) (le3 : n1 ≤ n3) (hSf : S ∉ z :: TI :: TO :: (fp1 ++ fp2 ++ fp3)) (hn : n1 ≤ sizeLine) (res : Value) {h₁ : Heap} {R : Result → Shared → Prop}
    (hR : ∀ h' tk acc c as, (∀ b o, b ≠ S → b ∉ [z, TO, i1, i2, i3] → h₁.get? b = some o → h'.get? b = some o) → h'.get? S = some { cls := .type "list", dict := none, data := .seq acc c, slots := #[] } → as.length = n1 → Made P1 P2 P3 S h' as →
      acc.toList = as.map Value.ref → R (.ok (.ret res)) { s with heap := h', toks := tk }) :
    ∀ (k i : Nat) (h : Heap) (tk c : Nat) (acc : Array Value) (as : List Addr), n1 - i = k → i ≤ n1 → ZSt z TI TO i1 i2 i3 S St1 St2 St3 i h → (∀ b o, b ≠ S → b ∉ [z, TO, i1, i2, i3] → h₁.get? b = some o → h.get? b = some o) →
      h.get? S = some { cls := .type "list", dict := none, data := .seq acc c, slots := #[] } → acc.toList = as.map Value.ref → as.length = i → Made P1 P2 P3 S h as → (∀ a ∈ as, a ∉ [z, TO, i1, i2, i3]) → (∀ b ∈ [z, TO, i1, i2, i3], b < h.objs.size) →
      codeAny (model prog w) A (.builtin "list.extend.loop" ⟨[.ref S, .ref z, res], []⟩) R { s with heap := h, toks := tk } := by
  have hSw : S ∉ [z, TO, i1, i2, i3] := fun hm => hSf (by
    simp only [List.mem_cons, List.not_mem_nil, or_false] at hm
    rcases hm with rfl | rfl | rfl | rfl | rfl
    · simp
    · simp
    · simp [Z.mem1]
    · simp [Z.mem2]
    · simp [Z.mem3])
  intro k
  induction k with
  | zero =>
    intro i h tk c acc as hk hi hst hkeep hS hacc hal hG hap hlow
    have ei : i = n1 := by omega
    refine codeAny_builtin PySem.F.entry_extend_loop ?_
    rw [Around.under_plainId PySem.F.plain_extend_loop _]
    show wpAny _ A.in1 (pyNext (.ref z) >>= _) _ _ _
    refine wpAny_bind (fin (s := { s with heap := h, toks := tk }) (A := A.in1) Z D1 D2 D3 le2 le3 (ei ▸ hst) fun h' tk' he => ?_)
    refine wpAny_pure (hR h' tk' acc c as (fun b o h1 h2 e => he b o h2 (hkeep b o h1 h2 e)) (he S _ hSw hS) (by omega) ⟨hG.rise, hG.above, fun j a hj => ?_⟩ hacc)
    obtain ⟨x1, x2, x3, y1, y2, y3, e3⟩ := hG.pairs j a hj
    exact ⟨x1, x2, x3, y1, y2, y3, he a _ (hap a (List.mem_of_getElem? hj)) e3⟩
  | succ k ih =>
    intro i h tk c acc as hk hi hst hkeep hS hacc hal hG hap hlow
    have hlt : i < n1 := by omega
    have hsz : acc.size = i := by rw [← Array.length_toList, hacc, List.length_map, hal]
    have hSl : S < h.objs.size := Heap.lt_size hS
    refine codeAny_builtin PySem.F.entry_extend_loop ?_
    rw [Around.under_plainId PySem.F.plain_extend_loop _]
    show wpAny _ A.in1 (pyNext (.ref z) >>= _) _ _ _
    refine wpAny_bind (nxt (s := { s with heap := h, toks := tk }) (A := A.in1) (S := S) Z D1 D2 D3 hst hSl hlt (Nat.lt_of_lt_of_le hlt le2) (Nat.lt_of_lt_of_le hlt le3) fun x1 x2 x3 h' tk' y1 y2 y3 hst' ht hz hkp => ?_)
    dsimp only at ht hz hkp ⊢
    have hS' := hkp S _ hSw hS
    have up : ∀ b o, b ≠ S → h'.get? b = some o → (h'.update S (Obj.mapSeq (·.push (Value.ref h.objs.size)))).get? b = some o := fun b o hb e => (Heap.get?_update_other _ _ (Ne.symm hb)).trans e
    have sz2 : (h'.update S (Obj.mapSeq (·.push (Value.ref h.objs.size)))).objs.size = h'.objs.size := (Heap.SameBut.update ..).1
    show wpAny _ A.in1 (updateSeq S (·.push (Value.ref h.objs.size)) >>= _) _ _ _
    refine wpAny_bind ?_
    refine wpAny_updateSeq hS' rfl (wpAny_pure ⟨plainId_quiet PySem.F.plain_extend_loop _, ih (i + 1) _ tk' _ (acc.push (Value.ref h.objs.size)) (as ++ [h.objs.size]) (by omega) hlt (hst'.keep Z D1 D2 D3 hSf up)
      (fun b o h1 h2 e => up b o h1 (hkp b o h2 (hkeep b o h1 h2 e))) (Heap.get?_update_self _ hS' rfl) (by rw [Array.toList_push, hacc, List.map_append]; rfl) (by rw [List.length_append, hal]; rfl) ⟨?_, ?_, ?_⟩ ?_ ?_⟩) (by rw [hsz]; omega) (by rw [Array.size_push, hsz]; omega)
    · refine List.pairwise_append.mpr ⟨hG.rise, List.pairwise_singleton _ _, fun a ha b hb => ?_⟩
      rw [List.mem_singleton.mp hb]
      exact hG.there ha
    · intro a ha
      rcases List.mem_append.mp ha with ha | ha
      · exact hG.above a ha
      · rw [List.mem_singleton.mp ha]; exact hSl
    · intro j b hj
      rcases Nat.lt_trichotomy j as.length with h1 | h1 | h1
      · rw [List.getElem?_append_left h1] at hj
        obtain ⟨v1, v2, v3, q1, q2, q3, e3⟩ := hG.pairs j b hj
        have hb := hG.above b (List.mem_of_getElem? hj)
        exact ⟨v1, v2, v3, q1, q2, q3, up b _ (Nat.ne_of_gt hb) (hkp b _ (hap b (List.mem_of_getElem? hj)) e3)⟩
      · subst h1
        have hb : h.objs.size = b := by simpa using hj
        subst hb
        subst hal
        exact ⟨x1, x2, x3, y1, y2, y3, up _ _ (Nat.ne_of_gt hSl) ht⟩
      · have hnone : (as ++ [h.objs.size])[j]? = none := List.getElem?_eq_none (by rw [List.length_append, List.length_singleton]; omega)
        rw [hnone] at hj; cases hj
    · intro a ha
      rcases List.mem_append.mp ha with ha | ha
      · exact hap a ha
      · rw [List.mem_singleton.mp ha]
        exact fun hm => Nat.lt_irrefl _ (hlow _ hm)
    · intro b hb
      rw [sz2, hz]
      exact Nat.lt_succ_of_lt (hlow b hb)
end
end Z3
set_option maxHeartbeats 2000000
namespace Z3
open PySem PySem.W PySem.Spec PyProof.Rows L2
theorem zip_no_len : typeLookup (.type "zip") "__len__" = pure none := by rw [typeLookup_type, builtinLookup_eq_fast]; kernel_rfl
theorem zip_no_hint : typeLookup (.type "zip") "__length_hint__" = pure none := by rw [typeLookup_type, builtinLookup_eq_fast]; kernel_rfl
section
variable {prog : Program} {w : World} {A : Around} {E : Value → Shared → Prop} {s : Shared} {z TI TO i1 i2 i3 : Addr} {fp1 fp2 fp3 : List Addr} {n1 n2 n3 : Nat} {P1 P2 P3 : Nat → Value → Prop} {St1 St2 St3 : Nat → Heap → Prop}
theorem hint (hT : s.TypeIs (.ref z) "zip") {Q : Bool → Shared → Prop} (h : Q true s) : wpAny (model prog w) A (Builtin.List.listLengthHint (.ref z)) Q E s := by
  unfold Builtin.List.listLengthHint
  refine wpAny_bind (wpAny_specialOf hT zip_no_len ?_)
  refine wpAny_ite_split (fun hab => absurd hab (by decide)) (fun _ => ?_)
  refine wpAny_ite_split (fun hab => absurd hab (by decide)) (fun _ => ?_)
  refine wpAny_bind (wpAny_specialOf hT zip_no_hint ?_)
  exact wpAny_pure h
theorem extend {S : Addr} {R : Result → Shared → Prop} (Z : ZipSep3 z TI TO i1 i2 i3 fp1 fp2 fp3) (D1 : Draws prog w A.in1.in1 i1 fp1 n1 P1 St1) (D2 : Draws prog w A.in1.in1 i2 fp2 n2 P2 St2) (D3 : Draws prog w A.in1.in1 i3 fp3 n3 P3 St3) (le2 : n1 ≤ n2) (le3 : n1 ≤ n3) (hSf : S ∉ z :: TI :: TO :: (fp1 ++ fp2 ++ fp3)) (hn : n1 ≤ sizeLine) (res : Value)
    (hz : IsZip s.heap z TI TO .none) (hTI : IsTupOf3 s.heap TI (.ref i1) (.ref i2) (.ref i3)) (hTO : ∃ a1 a2 a3, IsTupOf3 s.heap TO a1 a2 a3) (st1 : St1 0 s.heap) (st2 : St2 0 s.heap) (st3 : St3 0 s.heap) (c₀ : Nat) (hS : s.heap.get? S = some { cls := .type "list", data := .seq #[] c₀ })
    (hR : ∀ h' tk acc c as, (∀ b o, b ≠ S → b ∉ [z, TO, i1, i2, i3] → s.heap.get? b = some o → h'.get? b = some o) → h'.get? S = some { cls := .type "list", dict := none, data := .seq acc c, slots := #[] } → as.length = n1 → Made P1 P2 P3 S h' as →
      acc.toList = as.map Value.ref → R (.ok (.ret res)) { s with heap := h', toks := tk }) :
    wpAny (model prog w) A.in1 (Builtin.List.listExtendWith (.ref S) (.ref z) res)
      (fun fin s' => match fin with | .done f => R (.ok f) s' | .again c' => c'.quiet = true ∧ codeAny (model prog w) A c' R s') (fun e s' => R (.error e) s') s := by
  have hSz : S ≠ z := fun e => hSf (by simp [e])
  have lows : ∀ b ∈ [z, TO, i1, i2, i3], b < s.heap.objs.size := by
    intro b hb
    simp only [List.mem_cons, List.not_mem_nil, or_false] at hb
    obtain ⟨a1, a2, a3, hTO⟩ := hTO
    rcases hb with rfl | rfl | rfl | rfl | rfl
    · exact Heap.lt_size hz
    · exact Heap.lt_size hTO
    · obtain ⟨_, e⟩ := D1.live _ _ st1; exact Heap.lt_size e
    · obtain ⟨_, e⟩ := D2.live _ _ st2; exact Heap.lt_size e
    · obtain ⟨_, e⟩ := D3.live _ _ st3; exact Heap.lt_size e
  have key : ∀ (h : Heap) (c₁ tk : Nat), (∀ b o, b ≠ S → s.heap.get? b = some o → h.get? b = some o) → h.objs.size = s.heap.objs.size →
      h.get? S = some { cls := .type "list", data := .seq #[] c₁ } → codeAny (model prog w) A (.builtin "list.extend.loop" ⟨[.ref S, .ref z, res], []⟩) R { s with heap := h, toks := tk } := by
    intro h c₁ tk hk hsz hS₁
    have hst0 : ZSt z TI TO i1 i2 i3 S St1 St2 St3 0 s.heap := ⟨hTI, st1, st2, st3, .inl ⟨hz, hTO⟩⟩
    exact loop (s := s) Z D1 D2 D3 le2 le3 hSf hn res (h₁ := s.heap) hR n1 0 h tk c₁ #[] [] (Nat.sub_zero _) (Nat.zero_le _) (hst0.keep Z D1 D2 D3 hSf hk) (fun b o hb _ e => hk b o hb e) hS₁ rfl rfl
      ⟨List.Pairwise.nil, (fun _ ha => nomatch ha), (fun j a hj => by simp at hj)⟩ (fun _ ha => nomatch ha) fun b hb => by rw [hsz]; exact lows b hb
  have hTy : s.TypeIs (.ref z) "zip" := ⟨_, hz, rfl⟩
  unfold Builtin.List.listExtendWith
  refine wpAny_bind (wpAny_typeOf (T := "zip") hTy ?_)
  have h1 : Builtin.List.listSameRef (.ref S) (.ref z) = false := by simp [Builtin.List.listSameRef, hSz]
  have h2 : (Value.type "zip" == Value.type "list") = false := by decide
  have h3 : (Value.type "zip" == Value.type "tuple") = false := by decide
  simp only [h1, h2, h3, Bool.or_false, Bool.false_eq_true, if_false]
  refine wpAny_bind (wpAny_pyIter_zip hz ?_)
  refine wpAny_bind (wpAny_holding (hint hTy ?_))
  refine wpAny_ite_split (fun _ => ?_) (fun _ => wpAny_pure ⟨plainId_quiet PySem.F.plain_extend_loop _, key _ c₀ _ (fun b o _ e => e) rfl hS⟩)
  refine wpAny_bind (wpAny_rule ?_)
  refine wpAny_bind ?_
  show wpAny _ _ (updateSeq S (·.push .none) >>= fun _ => updateSeq S (·.pop)) _ _ _
  refine wpAny_bind (wpAny_updateSeq hS rfl ?_)
  have hS₂ := Heap.get?_update_self (Obj.mapSeq (·.push Value.none)) hS rfl
  refine wpAny_updateSeq (hz := by seq_fits) hS₂ rfl ?_
  have hS₃ := Heap.get?_update_self (Obj.mapSeq (·.pop)) hS₂ rfl
  refine wpAny_pure ⟨plainId_quiet PySem.F.plain_extend_loop _, key _ _ _ (fun b o hb e => ?_) ?_ hS₃⟩
  · exact (Heap.get?_update_other _ _ (Ne.symm hb)).trans ((Heap.get?_update_other _ _ (Ne.symm hb)).trans e)
  · exact (Heap.SameBut.update ..).1.trans (Heap.SameBut.update ..).1
theorem callList {Q : Value → Shared → Prop} (Z : ZipSep3 z TI TO i1 i2 i3 fp1 fp2 fp3) (D1 : Draws prog w A.in1.in1.in1 i1 fp1 n1 P1 St1) (D2 : Draws prog w A.in1.in1.in1 i2 fp2 n2 P2 St2) (D3 : Draws prog w A.in1.in1.in1 i3 fp3 n3 P3 St3) (le2 : n1 ≤ n2) (le3 : n1 ≤ n3) (hf : ∀ b ∈ z :: TI :: TO :: (fp1 ++ fp2 ++ fp3), b < s.heap.objs.size) (hn : n1 ≤ sizeLine)
    (hz : IsZip s.heap z TI TO .none) (hTI : IsTupOf3 s.heap TI (.ref i1) (.ref i2) (.ref i3)) (hTO : ∃ a1 a2 a3, IsTupOf3 s.heap TO a1 a2 a3) (st1 : St1 0 s.heap) (st2 : St2 0 s.heap) (st3 : St3 0 s.heap)
    (hQ : ∀ h' tk acc c as, (∀ b o, b ∉ [z, TO, i1, i2, i3] → s.heap.get? b = some o → h'.get? b = some o) → h'.get? s.heap.objs.size = some { cls := .type "list", dict := none, data := .seq acc c, slots := #[] } → as.length = n1 → Made P1 P2 P3 s.heap.objs.size h' as →
      acc.toList = as.map Value.ref → Q (.ref s.heap.objs.size) { s with heap := h', toks := tk }) :
    wpAny (model prog w) A (call (.type "list") [.ref z]) Q E s := by
  refine callType_codes (Q₁ := fun obj s₁ => obj = .ref s.heap.objs.size ∧ s₁ = { s with heap := s.heap.push { cls := .type "list", data := .seq #[] } }) PySem.F.called_list (PySem.F.typeCall_list_1 _) PySem.F.entry_list_init
    (code_list_new _ ⟨rfl, rfl⟩) fun obj s₁ h₁ => ?_
  obtain ⟨rfl, rfl⟩ := h₁
  have hS : (s.heap.push { cls := .type "list", data := .seq #[] }).get? s.heap.objs.size = some { cls := .type "list", data := .seq #[] } := Heap.get?_push_size _ rfl
  have hSf : s.heap.objs.size ∉ z :: TI :: TO :: (fp1 ++ fp2 ++ fp3) := fun hm => Nat.lt_irrefl _ (hf _ hm)
  have up : ∀ b o, s.heap.get? b = some o → (s.heap.push { cls := .type "list", data := .seq #[] }).get? b = some o := fun b o e => Heap.get?_push_of_some _ e
  have hst0 : ZSt z TI TO i1 i2 i3 s.heap.objs.size St1 St2 St3 0 s.heap := ⟨hTI, st1, st2, st3, .inl ⟨hz, hTO⟩⟩
  refine ⟨⟨_, hS, rfl⟩, PySem.F.args_list_init_2 _ _, ?_⟩
  show wpAny _ A.in1.in1 (do let old ← Builtin.List.listItems (.ref s.heap.objs.size); Builtin.List.listUpdate (.ref s.heap.objs.size) (fun _ => #[]); letGo old.toList.reverse; Builtin.List.listExtendWith (.ref s.heap.objs.size) (.ref z) .none) _ _ _
  refine wpAny_bind ?_
  unfold Builtin.List.listItems
  refine wpAny_bind (wpAny_seqItems hS rfl (wpAny_pure ?_))
  show wpAny _ _ (updateSeq s.heap.objs.size (fun _ => #[]) >>= fun _ => letGo (#[] : Array Value).toList.reverse >>= fun _ => Builtin.List.listExtendWith (.ref s.heap.objs.size) (.ref z) .none) _ _ _
  refine wpAny_bind (wpAny_updateSeq hS rfl ?_)
  have hS₂ := Heap.get?_update_self (Obj.mapSeq (fun _ => (#[] : Array Value))) hS rfl
  have up2 : ∀ b o, s.heap.get? b = some o → ((s.heap.push { cls := .type "list", data := .seq #[] }).update s.heap.objs.size (Obj.mapSeq (fun _ => (#[] : Array Value)))).get? b = some o :=
    fun b o e => (Heap.get?_update_other _ _ (Nat.ne_of_gt (Heap.lt_size e))).trans (up b o e)
  refine wpAny_bind (wpAny_letGo ?_)
  obtain ⟨b1, b2, b3, hTO'⟩ := hTO
  refine extend (A := A.in1) (s := { s with heap := (s.heap.push { cls := .type "list", data := .seq #[] }).update s.heap.objs.size (Obj.mapSeq (fun _ => (#[] : Array Value))) }) Z D1 D2 D3 le2 le3 hSf hn .none (up2 _ _ hz) (up2 _ _ hTI) ⟨b1, b2, b3, up2 _ _ hTO'⟩ (D1.frame _ _ _ st1 fun b _ o e => up2 b o e) (D2.frame _ _ _ st2 fun b _ o e => up2 b o e) (D3.frame _ _ _ st3 fun b _ o e => up2 b o e) _ hS₂ (fun h' tk acc c as hk hS' hl hG hacc => ?_)
  exact ⟨rfl, hQ h' tk acc c as (fun b o h2 e => hk b o (Nat.ne_of_lt (Heap.lt_size e)) h2 (up2 b o e)) hS' hl hG hacc⟩
end
end Z3
set_option maxHeartbeats 2000000
namespace Z3
open PySem PySem.W PySem.Spec PyProof.Rows L2
def put3 : Hp → List Addr → List (V × V × V) → Hp
  | H, a :: as, p :: ps => put3 (upd H a (.tup [p.1, p.2.1, p.2.2])) as ps
  | H, _, _ => H
theorem put3_off {b : Addr} : ∀ (as : List Addr) (ps : List (V × V × V)) (H : Hp), b ∉ as → put3 H as ps b = H b
  | [], _, _, _ => rfl
  | _ :: _, [], _, _ => rfl
  | a :: as, p :: ps, H, h => by
    show put3 (upd H a (.tup [p.1, p.2.1, p.2.2])) as ps b = H b
    rw [put3_off as ps _ (fun z => h (List.mem_cons_of_mem _ z)), upd_ne (fun z => h (by rw [z]; exact List.mem_cons_self))]
theorem put3_at : ∀ (as : List Addr) (ps : List (V × V × V)) (H : Hp), as.length = ps.length → as.Nodup → Paired (fun (t : Addr) (p : V × V × V) => put3 H as ps t = some (.tup [p.1, p.2.1, p.2.2])) as ps
  | [], [], _, _, _ => .nil
  | a :: as, p :: ps, H, h, nd => by
    refine .cons ?_ (put3_at as ps (upd H a (.tup [p.1, p.2.1, p.2.2])) (by simpa using h) (List.nodup_cons.mp nd).2)
    show put3 (upd H a (.tup [p.1, p.2.1, p.2.2])) as ps a = _
    rw [put3_off as ps _ (List.nodup_cons.mp nd).1, upd_same]
/-- three rows side by side -/
def zip3 : List V → List V → List V → List (V × V × V)
  | x :: xs, y :: ys, z :: zs => (x, y, z) :: zip3 xs ys zs
  | _, _, _ => []
theorem zip3_len : ∀ {xs ys zs : List V}, xs.length ≤ ys.length → xs.length ≤ zs.length → (zip3 xs ys zs).length = xs.length
  | [], _, _, _, _ => by simp [zip3]
  | x :: xs, y :: ys, z :: zs, h1, h2 => by
    show (zip3 xs ys zs).length + 1 = xs.length + 1
    rw [zip3_len (by simpa using h1) (by simpa using h2)]
  | x :: xs, [], _, h1, _ => by simp at h1
  | x :: xs, _ :: _, [], _, h2 => by simp at h2
theorem zip3_at : ∀ {xs ys zs : List V} {j : Nat} {p : V × V × V}, (zip3 xs ys zs)[j]? = some p → xs[j]? = some p.1 ∧ ys[j]? = some p.2.1 ∧ zs[j]? = some p.2.2
  | x :: xs, y :: ys, z :: zs, 0, p, h => by
    have e : (x, y, z) = p := by simpa [zip3] using h
    subst e
    exact ⟨rfl, rfl, rfl⟩
  | x :: xs, y :: ys, z :: zs, j + 1, p, h => by
    have e : (zip3 xs ys zs)[j]? = some p := by simpa [zip3] using h
    exact zip3_at (xs := xs) (ys := ys) (zs := zs) e
  | [], _, _, _, _, h => by simp [zip3] at h
  | _ :: _, [], _, _, _, h => by simp [zip3] at h
  | _ :: _, _ :: _, [], _, _, h => by simp [zip3] at h
def rZip3 (K : PySem.W.Frag) : List V → Hp → VK → Prop := fun vs H Q => ∃ (a b c : Addr) (xs ys zs : List V), vs = [.ref a, .ref b, .ref c] ∧ SqT K H a xs ∧ SqT K H b ys ∧ SqL K H c zs ∧ xs.length ≤ ys.length ∧ xs.length ≤ zs.length ∧
  ∀ (H' : Hp) (p : Addr) (ts : List Addr), (∀ b o, H b = some o → H' b = some o) → H p = none → (∀ t ∈ ts, H t = none) → p ∉ ts → H' p = some (.lst (ts.map V.ref)) → Paired (fun (t : Addr) (q : V × V × V) => H' t = some (.tup [q.1, q.2.1, q.2.2])) ts (zip3 xs ys zs) → Q (.ref p) H'
def tListZip3 (K : PySem.W.Frag) (ta : TA) : TE := fun σ H Q => ta σ H fun vs H1 => rZip3 K vs H1 Q
section
variable {X : Cx} {pins : List (Addr × Obj)} {σ : L2.St} {H : Hp} {s : Shared}
theorem laid3 {h' : Heap} {tk : Nat} {S : Addr} {xs ys zs : List V} {us vs ws : List Value} {acc : Array Value} {c : Nat} {as : List Addr} (I : Inv X pins σ H s) (hz : xs.length ≤ sizeLine) (hl1 : xs.length ≤ ys.length) (hl2 : xs.length ≤ zs.length) (r1 : Vals xs us) (r2 : Vals ys vs) (r3 : Vals zs ws)
    (hlo : s.heap.objs.size ≤ S) (hk : ∀ b o, s.heap.get? b = some o → h'.get? b = some o) (hS : h'.get? S = some { cls := .type "list", dict := none, data := .seq acc c, slots := #[] }) (hl : as.length = xs.length)
    (hG : Made (fun i v => us.toArray[i]? = some v) (fun i v => vs.toArray[i]? = some v) (fun i v => ws.toArray[i]? = some v) S h' as) (hacc : acc.toList = as.map Value.ref) :
    ∃ H' : Hp, (∀ b o, H b = some o → H' b = some o) ∧ H S = none ∧ (∀ t ∈ as, H t = none) ∧ S ∉ as ∧ H' S = some (.lst (as.map V.ref)) ∧ Paired (fun (t : Addr) (q : V × V × V) => H' t = some (.tup [q.1, q.2.1, q.2.2])) as (zip3 xs ys zs) ∧ Inv X pins σ H' { s with heap := h', toks := tk } := by
  have lz := zip3_len hl1 hl2
  have hSn : S ∉ as := fun z => Nat.lt_irrefl _ (hG.above _ z)
  have nd : as.Nodup := List.Pairwise.imp (fun {a b} (h : a < b) => Nat.ne_of_lt h) hG.rise
  have new : ∀ t ∈ as, H t = none := fun t ht => I.hok.fresh (Nat.le_of_lt (Nat.lt_of_le_of_lt hlo (hG.above t ht)))
  have newS : H S = none := I.hok.fresh hlo
  have atP := put3_at as (zip3 xs ys zs) (upd H S (.lst (as.map V.ref))) (by omega) nd
  have off : ∀ b, b ∉ as → b ≠ S → put3 (upd H S (.lst (as.map V.ref))) as (zip3 xs ys zs) b = H b := fun b h1 h2 => by rw [put3_off as _ _ h1, upd_ne h2]
  have low : ∀ b o, s.heap.get? b = some o → b ∉ as ∧ b ≠ S := fun b o e => ⟨fun z => absurd (Heap.lt_size e) (Nat.not_lt.mpr (Nat.le_of_lt (Nat.lt_of_le_of_lt hlo (hG.above b z)))), Nat.ne_of_lt (Nat.lt_of_lt_of_le (Heap.lt_size e) hlo)⟩
  have kp : ∀ b u, H b = some u → (put3 (upd H S (.lst (as.map V.ref))) as (zip3 xs ys zs)) b = some u := fun b u e => by
    rw [off b (fun z => by rw [new b z] at e; cases e) (fun z => by rw [z, newS] at e; cases e)]
    exact e
  have eS : put3 (upd H S (.lst (as.map V.ref))) as (zip3 xs ys zs) S = some (.lst (as.map V.ref)) := by rw [put3_off as _ _ hSn, upd_same]
  refine ⟨put3 (upd H S (.lst (as.map V.ref))) as (zip3 xs ys zs), kp, newS, new, hSn, eS, atP, ?_⟩
  refine I.call' (ch := []) rfl ⟨fun b o q _ _ _ => hk b o q, fun b o q _ _ _ => ⟨o.slots, hk b o q⟩, fun b o q n _ => ?_, fun b o q _ => ⟨o, hk b o q⟩, fun b xs q => kp b _ q, fun b o u q => kp b _ q, fun b ps q => ⟨#[], by rw [kp b _ q]; simp⟩⟩ (fun b u q => ?_) I.bare fun b z => by simp at z
  · obtain ⟨z1, z2⟩ := low b o q
    rw [off b z1 z2]
    exact n
  · by_cases hb : b ∈ as
    · obtain ⟨j, p, e1, e2, e3⟩ := LiI.paired_ix atP hb
      rw [e3] at q
      cases q
      obtain ⟨x1, x2, x3, f1, f2, f3, f4⟩ := hG.pairs j b e1
      obtain ⟨g1, g2, g3⟩ := zip3_at e2
      obtain ⟨u1, k1, m1⟩ := r1.get g1
      obtain ⟨u2, k2, m2⟩ := r2.get g2
      obtain ⟨u3, k3, m3⟩ := r3.get g3
      rw [List.getElem?_toArray] at f1 f2 f3
      rw [k1] at f1
      rw [k2] at f2
      rw [k3] at f3
      cases f1
      cases f2
      cases f3
      exact ⟨by show 3 ≤ sizeLine; decide, [x1, x2, x3], .cons m1 (.cons m2 (.cons m3 .nil)), ⟨_, f4, rfl, _, rfl⟩⟩
    · by_cases hb2 : b = S
      · rw [hb2] at q ⊢
        rw [eS] at q
        cases q
        refine ⟨by rw [List.length_map]; omega, acc.toList, c, by rw [hacc]; exact LiI.vals_refs as, ?_⟩
        rw [Array.toArray_toList]
        exact hS
      · rw [off b hb hb2] at q
        exact (I.hok b u q).stay (fun d v _ y => hk d v y) (fun d y => kp d _ y) fun d xs y => kp d _ y
end
end Z3
set_option maxHeartbeats 2000000
namespace Z3
open PySem PySem.W PySem.Spec PyProof.Rows L2
section
variable {X : Cx}
/-- list(zip(a, b, c)) -/
theorem pe_listZip3 {e1 e2 e3 : Expr} {ta : TA} {p p2 pos2 pos : Pos} (hc : X.calm = true) (hg : Gl X "list") (hm : X.mg "list" = none) (hv : bootBuiltins "list" = some (.type "list")) (hg2 : Gl X "zip") (hm2 : X.mg "zip" = none) (ha : PA X [e1, e2, e3] ta)
    (hs : starEach [.Call (.Name "zip" p2) [e1, e2, e3] [] pos2] X.env = (false, eval (.Call (.Name "zip" p2) [e1, e2, e3] [] pos2) X.env) :: starEach [] X.env := by rfl)
    (hs2 : starEach [e1, e2, e3] X.env = (false, eval e1 X.env) :: starEach [e2, e3] X.env := by rfl) (hpl : (backTo pos2 (starEach [e2, e3] X.env)).any (·.1) = false := by rfl) :
    PE X (.Call (.Name "list" p) [.Call (.Name "zip" p2) [e1, e2, e3] [] pos2] [] pos) (tListZip3 X.K ta) := by
  refine ⟨fun pins s σ H Q I hq => ?_⟩
  refine wpAny_Call_Name_kw (ld_blt I hg hm hv ?_)
  refine PyProof.Rows.callWith_type1 ?_ hs rfl
  rw [hs]
  show wpAny _ _ (spliced ((false, eval (.Call (.Name "zip" p2) [e1, e2, e3] [] pos2) X.env) :: backTo pos (starEach [] X.env))) _ _ s
  refine Calls.spliced_cons ?_
  refine wpAny_Call_Name_kw (ld_blt I hg2 hm2 PyProof.Rows.boot_zip (PyProof.Rows.callWith_type1 (thn (ha.run pos2 pins s σ H _ I hq) fun us s1 ⟨vs, H1, I1, r1, q1⟩ => ?_) hs2 hpl))
  obtain ⟨a, b, c, xs, ys, zs, ex, hx, hy, hz, l1, l2, q⟩ := q1
  subst ex
  cases r1 with
  | cons ra rr =>
    cases rr with
    | cons rb rr =>
      cases rr with
      | cons rc rr =>
        cases rr
        cases ra
        cases rb
        cases rc
        obtain ⟨its, rv, p1, hz1⟩ := I1.tuple hx
        obtain ⟨its2, rv2, p2, _⟩ := I1.tuple hy
        obtain ⟨its3, rv3, p3, _⟩ := I1.list hz
        have lens : its.length ≤ its2.length ∧ its.length ≤ its3.length := by
          have := rv.length
          have := rv2.length
          have := rv3.length
          omega
        have la : a < s1.heap.objs.size := let ⟨_, ho, _⟩ := id p1; Heap.lt_size ho
        have lb : b < s1.heap.objs.size := let ⟨_, ho, _⟩ := id p2; Heap.lt_size ho
        have lc : c < s1.heap.objs.size := p3.lt
        have hh := I1.ok.hd hc
        refine zip_begins3 (begins_tuple a its.toArray) (begins_tuple b its2.toArray) (begins_list c its3.toArray) p1 p2 p3.isList fun h1 hz hTI hTO g1 g2 g3 hsz hk => ?_
        refine Calls.spliced_nil ?_
        have Z := zip_sep3 (N := s1.heap.objs.size) (fp1 := [a]) (fp2 := [b]) (fp3 := [c]) (by simp [la]) (by simp [lb]) (by simp [lc])
        have D1 := Draws.tuple (prog := X.prog) (w := X.w) (A := X.A.in1.in1.in1) hh s1.heap.objs.size a (Nat.ne_of_lt la) its.toArray
        have D2 := Draws.tuple (prog := X.prog) (w := X.w) (A := X.A.in1.in1.in1) hh (s1.heap.objs.size + 1) b (Nat.ne_of_lt (Nat.lt_succ_of_lt lb)) its2.toArray
        have D3 := Draws.list (prog := X.prog) (w := X.w) (A := X.A.in1.in1.in1) hh (s1.heap.objs.size + 2) c (Nat.ne_of_lt (Nat.lt_of_lt_of_le lc (Nat.le_add_right _ _))) its3.toArray
        have z1 : its.toArray.size = its.length := List.size_toArray ..
        have z2 : its2.toArray.size = its2.length := List.size_toArray ..
        have z3 : its3.toArray.size = its3.length := List.size_toArray ..
        rw [z1] at D1
        rw [z2] at D2
        rw [z3] at D3
        refine callList (s := { s1 with heap := h1 }) Z D1 D2 D3 lens.1 lens.2 ?_ ?_ hz hTI ⟨_, _, _, hTO⟩ ⟨⟨_, g1, rfl, rfl⟩, let ⟨o, ho, r⟩ := id p1; ⟨o, hk _ _ ho, r⟩⟩ ⟨⟨_, g2, rfl, rfl⟩, let ⟨o, ho, r⟩ := id p2; ⟨o, hk _ _ ho, r⟩⟩ ⟨⟨_, g3, rfl, rfl⟩, let ⟨o, ho, r⟩ := id p3.isList; ⟨o, hk _ _ ho, r⟩⟩ fun h2 tk acc n as hk2 hS hl hG hacc => ?_
        · intro x hx
          show x < h1.objs.size
          rw [hsz]
          have up : ∀ k b : Nat, b < s1.heap.objs.size → b < s1.heap.objs.size + k := fun k b h => Nat.lt_of_lt_of_le h (Nat.le_add_right _ _)
          have hN : ∀ k : Nat, k < 6 → s1.heap.objs.size + k < s1.heap.objs.size + 6 := fun k h => Nat.add_lt_add_left h _
          simp only [List.mem_cons, List.mem_append, List.not_mem_nil, or_false] at hx
          rcases hx with rfl | rfl | rfl | ((rfl | rfl) | (rfl | rfl)) | (rfl | rfl)
          · exact hN 5 (by decide)
          · exact hN 3 (by decide)
          · exact hN 4 (by decide)
          · exact hN 0 (by decide)
          · exact up _ _ la
          · exact hN 1 (by decide)
          · exact up _ _ lb
          · exact hN 2 (by decide)
          · exact up _ _ lc
        · rw [← rv.length]
          exact hz1
        · have hk12 : ∀ b o, s1.heap.get? b = some o → h2.get? b = some o := fun b o e => hk2 b o (fun hm => by
            have hb := Heap.lt_size e
            have no : ∀ k : Nat, b ≠ s1.heap.objs.size + k := fun k z => absurd hb (Nat.not_lt.mpr (z ▸ Nat.le_add_right _ _))
            simp only [List.mem_cons, List.not_mem_nil, or_false] at hm
            rcases hm with z | z | z | z | z
            · exact no 5 z
            · exact no 4 z
            · exact no 0 z
            · exact no 1 z
            · exact no 2 z) (hk b o e)
          obtain ⟨H', k1, k2, k3, k4, k5, k6, J⟩ := laid3 (tk := tk) I1 hz1 l1 l2 rv rv2 rv3 (by show s1.heap.objs.size ≤ h1.objs.size; rw [hsz]; omega) hk12 hS (by rw [hl, rv.length]) hG hacc
          exact ⟨.ref _, H', J, rfl, q H' _ as k1 k2 k3 k4 k5 k6⟩
end
end Z3
set_option maxHeartbeats 4000000
namespace Ey
open PySem PySem.Spec L2
def natsV (p : List Nat) : List V := p.map fun (n : Nat) => V.int n
def FltAt (H : Hp) (v : V) (x : Str × List Nat) : Prop := ∃ e q, v = .ref e ∧ H e = some (.tup [.str x.1, .ref q]) ∧ H q = some (.tup (natsV x.2))
theorem FltAt.kp {ms : List Addr} {H H1 : Hp} {v : V} {x : Str × List Nat} (h : FltAt H v x) (k : Kp ms H H1) : FltAt H1 v x := let ⟨e, q, h1, h2, h3⟩ := h; ⟨e, q, h1, k.tup _ _ h2, k.tup _ _ h3⟩
def EntAt (ms : List Addr) (H0 H : Hp) (v : V) (x : PyData × Str × List Nat) : Prop := ∃ e tv q, v = .ref e ∧ H e = some (.tup [tv, .str x.2.1, .ref q]) ∧ An ms H0 tv x.1 ∧ H q = some (.tup (natsV x.2.2))
theorem EntAt.kp {ms ls : List Addr} {H0 H H1 : Hp} {v : V} {x : PyData × Str × List Nat} (h : EntAt ms H0 H v x) (k : Kp ls H H1) : EntAt ms H0 H1 v x := let ⟨e, tv, q, h1, h2, h3, h4⟩ := h; ⟨e, tv, q, h1, k.tup _ _ h2, h3, k.tup _ _ h4⟩
theorem faultsT_len (d : PyData) (k : Str) (ns : List Str) (fs : List Fn) : (faultsT d k ns fs).length ≤ 3 := by
  have h1 : (ex1 d ns).length ≤ 1 := by
    unfold ex1
    split <;> simp
  have h2 : (ex2 d fs).length ≤ 1 := by
    unfold ex2
    split
    · split
      · simp
      · split <;> simp
    · simp
  have h3 : (ex3 d k fs).length ≤ 1 := by
    unfold ex3
    split <;> simp
  unfold faultsT
  rw [List.length_append, List.length_append]
  omega
theorem kids_at {d : PyData} {k : Str} {j : Nat} {x : PyData × Str × List Nat} (h : (kids d k)[j]? = some x) : (partsD d)[j]? = some x.1 ∧ (kindsW (wordD d) k (partsD d).length)[j]? = some x.2.1 ∧ (waysW (wordD d) (partsD d).length)[j]? = some x.2.2 := by
  unfold kids at h
  rw [List.getElem?_zip_eq_some] at h
  obtain ⟨h1, h2⟩ := h
  rw [List.getElem?_zip_eq_some] at h2
  exact ⟨h1, h2.1, h2.2⟩
theorem Kp.sqtZ {K : PySem.W.Frag} {H H1 : Hp} {a : Addr} {xs : List V} (k : Kp [] H H1) (h : SqT K H a xs) : SqT K H1 a xs := by
  rcases h with h | h
  · rcases h with h | ⟨o, h⟩
    · exact .inl (.inl (k.at_ _ _ h List.not_mem_nil))
    · exact .inl (.inr ⟨o, k.at_ _ _ h List.not_mem_nil⟩)
  · exact .inr h
def rCatP : R2 := fun x y H Q => ∃ (a b : Addr) (p w : List Nat), x = .ref a ∧ y = .ref b ∧ H a = some (.tup (natsV p)) ∧ H b = some (.tup (natsV w)) ∧ p.length + w.length ≤ sizeLine ∧ ∀ (r : Addr) (H' : Hp), H' r = some (.tup (natsV (p ++ w))) → Kp [] H H' → Q (.ref r) H'
theorem op_catP {X : Cx} : OpR X (binaryOp .Add) rCatP := by
  intro pins s σ H x y v u Q I rx ry h
  obtain ⟨a, b, xs, ys, rfl, rfl, ea, eb, hz, k⟩ := h
  refine op_catA pins s σ H _ _ v u Q I rx ry ⟨a, b, natsV xs, natsV ys, rfl, rfl, sqt_of ea, sqt_of eb, by unfold natsV; rw [List.length_map, List.length_map]; exact hz, fun e => k b H ?_ .refl, fun _ e => k a H ?_ .refl, fun _ _ p np => k p _ ?_ (.new np)⟩
  · have e' : xs = [] := List.map_eq_nil_iff.mp e
    rw [e']
    exact eb
  · have e' : ys = [] := List.map_eq_nil_iff.mp e
    rw [e', List.append_nil]
    exact ea
  · rw [upd_same]
    unfold natsV
    rw [List.map_append]
/-- a kid behind a path -/
def kidP (p : List Nat) (x : PyData × Str × List Nat) : PyData × Str × List Nat := (x.1, x.2.1, p ++ x.2.2)
section
variable {Pr : Program} {w : World} {K : PySem.W.Frag} {mg : Str → Option Value} {base : Heap} {ms : List Addr} {a : Adr} {aO : Addr}
abbrev NFb : List Str := ["function", "path", "first", "found", "waiting", "term", "kind", "here", "word", "parts", "part", "part_kind", "way"]
theorem scFbody : FnScope NFb ["function", "path", "first"] (defScope sFbody) := ⟨rfl, rfl, rfl, by decide +kernel, rfl, by decide +kernel, by decide +kernel⟩
def spFbody (ms : List Addr) : Sp := fun vs H Q _ => ∃ (fv : V) (f : Fn) (pa D : Addr) (p0 : List Nat) (fs : List Fn), vs = [fv, .ref pa, .ref D] ∧ An ms H fv (fD f) ∧ isTerm f.bd = true ∧ wd f.bd ≤ 1000000 ∧ H pa = some (.tup (natsV p0)) ∧ p0.length ≤ 1000 ∧ FirstAt ms H D fs ∧
  ∀ (L : Addr) (ys : List V) (G : Hp), H L = none → G L = some (.lst ys) → All2 (FltAt G) ys (faultsD f.ns fs f.kd p0 f.bd) → (faultsD f.ns fs f.kd p0 f.bd).length ≤ 3 * (wd f.bd + 2) → Kp [] H G → Q (.ref L) G
theorem ok_fbody (F : KF K w mg a aO) : FnOk Pr w K mg base CX0 3 (a.A 33) (a.D 33) ["function", "path", "first"] (spFbody ms) := by
  have B := F.B
  refine F.fbody.F.ok scFbody (fun vs H Q E h => ?_) (fun cdv Ar outer s0 H vs Q E hr h => ?_)
  · obtain ⟨fv, f, pa, D, p0, fs, rfl, _⟩ := h
    rfl
  · obtain ⟨fv, f, pa, Df, p0, fs, rfl, hf, hT, hz, hp0, lp0, hF, k⟩ := h
    refine ⟨_, pss_cons (ps_set (i := 3) scFbody.nd rfl (.inl rfl) (pe_lst pa_nil))
      (pss_cons (ps_set (i := 4) scFbody.nd rfl (.inl rfl) (pe_lst (pa_cons (pe_tup (pa_cons (pe_ix ix_tup (pv 0) pe_int (fun _ _ => rfl)) (pa_cons (pe_ix ix_tup (pv 0) pe_int (fun _ _ => rfl)) (pa_cons (pv 1) pa_nil)))) pa_nil)))
      (pss_cons (ps_while PassesOwn.never (pt_truth (pv 4) (by intro _; rfl))
        (pss_cons (ps_asg (pe_bm0 PySem.F.plainAttrs_list PySem.F.slot_list_pop PySem.F.type_list_pop mt_pop (pv 4)) (pg_tup (n := 3) (by rfl) (pgs_cons (pg_name (i := 5) scFbody.nd rfl (.inl rfl)) (pgs_cons (pg_name (i := 6) scFbody.nd rfl (.inl rfl)) (pgs_cons (pg_name (i := 7) scFbody.nd rfl (.inl rfl)) pgs_nil)))))
      (pss_cons (ps_for PassesOwn.never rfl (pi_list (pe_call (ok_fterm (ms := ms) F) (hr.mono (by decide)) (by rfl) F.fterm.g F.fterm.F.kp F.fterm.b .nil pass0 (pa_cons (pv 5) (pa_cons (pv 6) (pa_cons (pe_ix ix_tup (pv 0) pe_int (fun _ _ => rfl)) (pa_cons (pv 2) pa_nil)))))) (pg_name (i := 8) scFbody.nd rfl (.inl rfl))
        (pss_one (ps_expr (pe_bm PySem.F.plainAttrs_list PySem.F.slot_list_append PySem.F.type_list_append mt_append (pv 3) (pa_cons (pe_tup (pa_cons (pv 8) (pa_cons (pv 7) pa_nil))) pa_nil)))))
      (pss_cons (ps_set (i := 9) scFbody.nd rfl (.inl rfl) (Z3.pe_listZip3 rfl (by rfl) B.list (by decide +kernel) (by rfl) B.zip (pa_cons (pe_call (ok_parts (ms := ms) F.toPF) (hr.mono (by decide)) (by rfl) F.parts.g F.parts.F.kp F.parts.b .nil pass0 (pa_cons (pv 5) pa_nil)) (pa_cons (pe_call (ok_kinds (ms := ms) F) (hr.mono (by decide)) (by rfl) F.kinds.g F.kinds.F.kp F.kinds.b .nil pass0 (pa_cons (pv 5) (pa_cons (pv 6) pa_nil))) (pa_cons (pe_call (ok_waysIn (ms := ms) F) (hr.mono (by decide)) (by rfl) F.ways.g F.ways.F.kp F.ways.b .nil pass0 (pa_cons (pv 5) pa_nil)) pa_nil)))))
      (pss_one (ps_for PassesOwn.never rfl (RT.pi_revA (by rfl) B.rev (pv 9)) (pg_tup (n := 3) (by rfl) (pgs_cons (pg_name (i := 10) scFbody.nd rfl (.inl rfl)) (pgs_cons (pg_name (i := 11) scFbody.nd rfl (.inl rfl)) (pgs_cons (pg_name (i := 12) scFbody.nd rfl (.inl rfl)) pgs_nil))))
        (pss_one (ps_expr (pe_bm PySem.F.plainAttrs_list PySem.F.slot_list_append PySem.F.type_list_append mt_append (pv 4) (pa_cons (pe_tup (pa_cons (pv 10) (pa_cons (pv 11) (pa_cons (pe_op op_catP (pv 7) (pv 12)) pa_nil)))) pa_nil))))))))))
      (pss_one (ps_ret (pv 3))))), ?_⟩
    obtain ⟨ft, nt, bv, rfl, f1, f2, f3⟩ := hf.fn
    refine ⟨Nat.zero_le _, fun L nL => ?_⟩
    have kL : Kp [] H (upd H L (.lst [])) := .new nL
    have hL : (upd H L (.lst [])) L = some (.lst []) := upd_same
    generalize upd H L (.lst []) = H1 at kL hL
    refine ⟨_, rfl, ft, _, _, _, rfl, rfl, sqt_of (kL.tup _ _ f1), atI_nat (j := 4) rfl, _, rfl, ft, _, _, _, rfl, rfl, sqt_of (kL.tup _ _ f1), atI_nat (j := 2) rfl, _, rfl, by show 3 ≤ sizeLine; decide, fun e0 ne0 => ?_⟩
    have k0 : Kp [] H1 (upd H1 e0 (.tup [bv, .str f.kd, .ref pa])) := .new ne0
    have he0 : (upd H1 e0 (.tup [bv, .str f.kd, .ref pa])) e0 = some (.tup [bv, .str f.kd, .ref pa]) := upd_same
    have hL0 := k0.at_ _ _ hL List.not_mem_nil
    generalize upd H1 e0 (.tup [bv, .str f.kd, .ref pa]) = H2 at k0 he0 hL0
    refine ⟨by show 1 ≤ sizeLine; decide, fun W nW => ?_⟩
    have kW : Kp [] H2 (upd H2 W (.lst [.ref e0])) := .new nW
    have hW0 : (upd H2 W (.lst [.ref e0])) W = some (.lst [.ref e0]) := upd_same
    have hL1 := kW.at_ _ _ hL0 List.not_mem_nil
    have he1 := kW.tup _ _ he0
    have kH : Kp [] H (upd H2 W (.lst [.ref e0])) := kL.trans (k0.trans kW)
    have nWH : H W = none := (kL.trans k0).free nW List.not_mem_nil
    have hWL : W ≠ L := fun e => by rw [e, hL0] at nW; cases nW
    generalize upd H2 W (.lst [.ref e0]) = H3 at kW hW0 hL1 he1 kH
    refine ⟨fun m σ G => ∃ (us : List V) (stk : List (PyData × Str × List Nat)) (fl : List V) (fo : List (Str × List Nat)) (x5 x6 x7 x8 x9 x10 x11 x12 : Option V), σ = [some (.ref ft), some (.ref pa), some (.ref Df), some (.ref L), some (.ref W), x5, x6, x7, x8, x9, x10, x11, x12] ∧ G W = some (.lst us.reverse) ∧ All2 (EntAt ms H G) us stk ∧ G L = some (.lst fl) ∧ All2 (FltAt G) fl fo ∧
        m = wdAll (stk.map (·.1)) ∧ m ≤ wd f.bd + 2 ∧ (∀ x ∈ stk, isTerm x.1 = true ∧ x.2.2.length + wd x.1 ≤ p0.length + wd f.bd) ∧ fo ++ (stk.flatMap fun x => faultsD f.ns fs x.2.1 x.2.2 x.1) = faultsD f.ns fs f.kd p0 f.bd ∧ fo.length + 3 * m ≤ 3 * (wd f.bd + 2) ∧ Kp [] H G,
      ⟨_, [.ref e0], [(f.bd, f.kd, p0)], [], [], _, _, _, _, _, _, _, _, rfl, hW0, .cons ⟨e0, bv, pa, rfl, he1, f3, kH.tup _ _ hp0⟩ .nil, hL1, .nil, rfl, Nat.le_refl _, by simpa using hT, by simp, by show 0 + 3 * (wd f.bd + 2 + 0) ≤ _; omega, kH⟩, fun m σ G hw => ?_⟩
    obtain ⟨us, stk, fl, fo, x5, x6, x7, x8, x9, x10, x11, x12, rfl, hW, hE, hL, hO, rfl, hm, hok, hall, hlen, kG⟩ := hw
    refine ⟨_, rfl, _, .inl ⟨_, sql_of hW, rfl⟩, ?_⟩
    cases hE with
    | nil =>
      refine iteF ⟨_, rfl, k L fl G nL hL (hO.cast (by simpa using hall)) ?_ kG⟩
      have e : faultsD f.ns fs f.kd p0 f.bd = fo := by simpa using hall.symm
      rw [e]
      omega
    | @cons v0 x0 us stk hx hE =>
      have e0' : (!((v0 :: us).reverse).isEmpty) = true := by simp
      rw [e0']
      obtain ⟨d, kd, p⟩ := x0
      obtain ⟨hTd, hpd⟩ := hok _ List.mem_cons_self
      have hTd' : isTerm d = true := hTd
      have hpd' : p.length + wd d ≤ p0.length + wd f.bd := hpd
      have hhd : headed d = true := by
        rw [isTerm_eq, Bool.and_eq_true] at hTd'
        exact hTd'.1
      have hparts : (partsD d).all isTerm = true := by
        rw [isTerm_eq, Bool.and_eq_true] at hTd'
        exact hTd'.2
      have hm' : wd d + 2 + wdAll (stk.map (·.1)) ≤ wd f.bd + 2 := hm
      have hlen' : fo.length + 3 * (wd d + 2 + wdAll (stk.map (·.1))) ≤ 3 * (wd f.bd + 2) := hlen
      have hdz : wd d ≤ 1000000 := by omega
      obtain ⟨e, tv, q, rfl, he, htv, hpq⟩ := hx
      have hpq' : G q = some (.tup (natsV p)) := hpq
      have he' : G e = some (.tup [tv, .str kd, .ref q]) := he
      have htv' : An ms H tv d := htv
      refine iteT ⟨fun σ' G' => ∃ m', m' < wdAll (((d, kd, p) :: stk).map (·.1)) ∧ ∃ (us : List V) (stk : List (PyData × Str × List Nat)) (fl : List V) (fo : List (Str × List Nat)) (x5 x6 x7 x8 x9 x10 x11 x12 : Option V), σ' = [some (.ref ft), some (.ref pa), some (.ref Df), some (.ref L), some (.ref W), x5, x6, x7, x8, x9, x10, x11, x12] ∧ G' W = some (.lst us.reverse) ∧ All2 (EntAt ms H G') us stk ∧ G' L = some (.lst fl) ∧ All2 (FltAt G') fl fo ∧
        m' = wdAll (stk.map (·.1)) ∧ m' ≤ wd f.bd + 2 ∧ (∀ x ∈ stk, isTerm x.1 = true ∧ x.2.2.length + wd x.1 ≤ p0.length + wd f.bd) ∧ fo ++ (stk.flatMap fun x => faultsD f.ns fs x.2.1 x.2.2 x.1) = faultsD f.ns fs f.kd p0 f.bd ∧ fo.length + 3 * m' ≤ 3 * (wd f.bd + 2) ∧ Kp [] H G', fun _ _ h => h, ?_⟩
      -- pop
      refine ⟨_, rfl, .inl ⟨rfl, _, sql_of hW⟩, W, _, .ref e, rfl, rfl, hW, pile_top _ us, ?_⟩
      rw [pile_pop]
      have kp1 : Kp [W] G (upd G W (.lst us.reverse)) := .put (by simp) hW (fun xs z => by cases z)
      have hW1 : (upd G W (.lst us.reverse)) W = some (.lst us.reverse) := upd_same
      have hL1' : (upd G W (.lst us.reverse)) L = some (.lst fl) := kp1.at_ _ _ hL (by simp; exact Ne.symm hWL)
      have kG1 : Kp [] H (upd G W (.lst us.reverse)) := kG.own nWH
      have hE1 := hE.imp fun _ _ z => EntAt.kp z kp1
      have hO1 := hO.imp fun _ _ z => FltAt.kp z kp1
      have he1' := kp1.tup _ _ he'
      have hpq1 := kp1.tup _ _ hpq'
      generalize upd G W (.lst us.reverse) = G1 at kp1 hW1 hL1' kG1 hE1 hO1 he1' hpq1
      refine ⟨e, _, rfl, sqt_of he1', rfl, _, _, rfl, _, _, rfl, _, _, rfl, rfl, ?_⟩
      -- its own faults
      have hf1' := kG1.tup _ _ f1
      refine ⟨_, rfl, _, rfl, _, rfl, ft, _, _, _, rfl, rfl, sqt_of hf1', atI_nat (j := 3) rfl, _, rfl, tv, d, kd, nt, Df, f.ns, fs, rfl, htv'.kp kG1 (by simp) _, hhd, hdz, kG1.tup _ _ f2, hF.kp kG1 (by simp) List.not_mem_nil, fun L2 G2 nL2 hL2 k2 => ?_⟩
      have lft := faultsT_len d kd f.ns fs
      generalize hft : faultsT d kd f.ns fs = ft2 at hL2 lft
      have hW2 := k2.at_ _ _ hW1 List.not_mem_nil
      have hLf2 := k2.at_ _ _ hL1' List.not_mem_nil
      have hE2 := hE1.imp fun _ _ z => EntAt.kp z k2
      have hO2 := hO1.imp fun _ _ z => FltAt.kp z k2
      have hpq2 := k2.tup _ _ hpq1
      have kG2 := kG1.trans k2
      have nL2W : L2 ≠ W := fun e => by rw [e, hW1] at nL2; cases nL2
      have nL2L : L2 ≠ L := fun e => by rw [e, hL1'] at nL2; cases nL2
      clear hW1 hL1' hE1 hO1 hpq1 he1' k2 kG1 hf1' kp1 nL2
      refine ⟨L2, rfl, ⟨_, sql_of hL2⟩, ?_⟩
      have lfo : fo.length ≤ 3000006 := by omega
      refine for_list (K := K) (a := L2) (xs := ft2.map V.str) (fun i σ G => (∃ x8 : Option V, σ = [some (.ref ft), some (.ref pa), some (.ref Df), some (.ref L), some (.ref W), some tv, some (.str kd), some (.ref q), x8, x9, x10, x11, x12]) ∧ G W = some (.lst us.reverse) ∧ All2 (EntAt ms H G) us stk ∧ G L2 = some (.lst (ft2.map V.str)) ∧ G q = some (.tup (natsV p)) ∧
          (∃ fl, G L = some (.lst fl) ∧ All2 (FltAt G) fl (fo ++ (ft2.take i).map fun w => (w, p))) ∧ Kp [] H G)
        ⟨⟨_, rfl⟩, hW2, hE2, hL2, hpq2, ⟨fl, hLf2, by simpa using hO2⟩, kG2⟩ (fun i σ G _ h => sql_of h.2.2.2.1) ?_ ?_
      · rintro i x σ G hx ⟨⟨x8, rfl⟩, hW, hE, hL2, hpq, ⟨fl, hL, hO⟩, kG⟩
        rw [List.getElem?_map] at hx
        obtain ⟨w1, hw1, rfl⟩ := Option.map_eq_some_iff.mp hx
        refine ⟨_, rfl, .inl ⟨rfl, _, sql_of hL⟩, _, rfl, _, rfl, by show 2 ≤ sizeLine; decide, fun z nz => ?_⟩
        have kz : Kp [] G (upd G z (.tup [.str w1, .ref q])) := .new nz
        have ez : (upd G z (.tup [.str w1, .ref q])) z = some (.tup [.str w1, .ref q]) := upd_same
        have hW' := kz.at_ _ _ hW List.not_mem_nil
        have hL2' := kz.at_ _ _ hL2 List.not_mem_nil
        have hL' := kz.at_ _ _ hL List.not_mem_nil
        have hpq' := kz.tup _ _ hpq
        have hE' := hE.imp fun _ _ a => EntAt.kp a kz
        have hO' := hO.imp fun _ _ a => FltAt.kp a kz
        have kG' := kG.trans kz
        generalize upd G z (.tup [.str w1, .ref q]) = G' at kz ez hW' hL2' hL' hpq' hE' hO' kG'
        have kL : Kp [L] G' (upd G' L (.lst (fl ++ [.ref z]))) := .put (by simp) hL' (fun _ z => by cases z)
        have lO := hO'.len
        rw [List.length_append, List.length_map, List.length_take] at lO
        refine ⟨L, fl, .ref z, rfl, rfl, hL', Nat.lt_of_le_of_lt (show fl.length ≤ 3500000 by omega) (by decide), ⟨_, rfl⟩, kL.at_ _ _ hW' (by simp; exact hWL), hE'.imp fun _ _ a => EntAt.kp a kL, kL.at_ _ _ hL2' (by simp; exact nL2L), kL.tup _ _ hpq', ⟨_, upd_same, ?_⟩, kG'.own nL⟩
        rw [List.take_add_one, hw1]
        simp only [Option.toList_some, List.map_append, List.map_cons, List.map_nil, ← List.append_assoc]
        exact (hO'.imp fun _ _ a => FltAt.kp a kL).app (.cons ⟨z, q, rfl, kL.tup _ _ ez, kL.tup _ _ hpq'⟩ .nil)
      · rintro σ G ⟨⟨x8, rfl⟩, hW, hE, hL2, hpq, ⟨fl, hL, hO⟩, kG⟩
        rw [List.length_map, List.take_length] at hO
        clear hW2 hLf2 hE2 hO2 hpq2 kG2 hL2
        -- parts, kinds, ways
        refine ⟨_, rfl, tv, d, H, [], rfl, htv', kG, hhd, hdz, fun P1 xs G1 eP1 ax k1 => ?_⟩
        have kG1 := kG.trans k1
        refine ⟨_, rfl, _, rfl, tv, d, kd, rfl, htv'.kp kG1 (by simp) _, hhd, hdz, fun P2 G2 eP2 k2 => ?_⟩
        have kG2 := kG1.trans k2
        refine ⟨_, rfl, tv, d, rfl, htv'.kp kG2 (by simp) _, hhd, hdz, fun P3 zs G3 nP3 eP3 hZ k3 => ?_⟩
        have kG3 := kG2.trans k3
        have lx := ax.length
        have lz := hZ.len
        rw [ways_len] at lz
        have lk := kinds_len (w := "") (n := 0) (k := kd) hhd
        have lkp := kids_len (k := kd) hhd
        have lpf := parts_few hhd hdz
        refine ⟨P1, P2, P3, xs, _, zs, rfl, sqt_of (k3.tup _ _ (k2.tup _ _ eP1)), Kp.sqtZ k3 eP2, sql_of eP3, by rw [List.length_map]; omega, by omega, fun G4 R ts hkp nR nts hRts hR hts => ?_⟩
        have k4 : Kp [] G3 G4 := ⟨fun b o e _ => hkp b o e, fun b xs e => hkp b _ e⟩
        have kA : Kp [] G G4 := k1.trans (k2.trans (k3.trans k4))
        have lts : ts.length = (partsD d).length := by
          have h1 := Paired.length hts
          rw [Z3.zip3_len (by rw [List.length_map]; omega) (by omega)] at h1
          omega
        have hW4 := kA.at_ _ _ hW List.not_mem_nil
        have hL4 := kA.at_ _ _ hL List.not_mem_nil
        have hE4 := hE.imp fun _ _ z => EntAt.kp z kA
        have hO4 := hO.imp fun _ _ z => FltAt.kp z kA
        have hpq4 := kA.tup _ _ hpq
        have kG4 := kG.trans kA
        have hZ4 := hZ.imp fun _ _ z => PathAt.kp z k4
        have nRW : R ≠ W := fun e => by rw [e, ((k1.trans k2).trans k3).at_ _ _ hW List.not_mem_nil] at nR; cases nR
        refine ⟨_, rfl, R, _, rfl, .inl ⟨sql_of hR, ?_⟩⟩
        have lR : (ts.map V.ref).length = (partsD d).length := by rw [List.length_map, lts]
        have wdk : ∀ x ∈ kids d kd, wd x.1 + 5 ≤ wd d := fun x hx => by
          have h1 := wd_mem (kids_mem hx)
          have h2 := parts_lt hhd
          omega
        refine RT.for_Itv (K := K) (a := R) (xs := ts.map V.ref) (fun i σ G => (∃ x10 x11 x12 : Option V, σ = [some (.ref ft), some (.ref pa), some (.ref Df), some (.ref L), some (.ref W), some tv, some (.str kd), some (.ref q), x8, some (.ref R), x10, x11, x12]) ∧ (∃ es, G W = some (.lst (es ++ us).reverse) ∧ All2 (EntAt ms H G) es (((kids d kd).drop ((partsD d).length - i)).map (kidP p))) ∧ All2 (EntAt ms H G) us stk ∧ G L = some (.lst fl) ∧ All2 (FltAt G) fl (fo ++ ft2.map fun w => (w, p)) ∧ G R = some (.lst (ts.map V.ref)) ∧ Kp [] H G ∧ Kp [W] G4 G)
          ⟨⟨_, _, _, rfl⟩, ⟨[], hW4, by rw [Nat.sub_zero, List.drop_of_length_le (by omega)]; exact .nil⟩, hE4, hL4, hO4, hR, kG4, .refl⟩ (fun i σ G h => sql_of h.2.2.2.2.2.1) ?_ ?_
        · rintro i x σ G hi hx ⟨⟨x10, x11, x12, rfl⟩, ⟨es, hW, hes⟩, hE, hL, hO, hR, kG, kG4'⟩
          rw [lR] at hi hx
          rw [List.getElem?_map] at hx
          obtain ⟨tj, htj, rfl⟩ := Option.map_eq_some_iff.mp hx
          obtain ⟨q3, hq3, hat⟩ := LiI.paired_get hts htj
          obtain ⟨g1, g2, g3⟩ := Z3.zip3_at hq3
          have hjk : (partsD d).length - 1 - i < (kids d kd).length := by omega
          obtain ⟨x, hxk⟩ : ∃ x, (kids d kd)[(partsD d).length - 1 - i]? = some x := ⟨_, List.getElem?_eq_getElem hjk⟩
          obtain ⟨c1, c2, c3⟩ := kids_at hxk
          have hxm := List.mem_of_getElem? hxk
          obtain ⟨dv, hdv, anv⟩ := ax.get g1
          rw [c1] at hdv
          cases hdv
          rw [List.getElem?_map, c2] at g2
          obtain ⟨wy, hwy, w0, ew, hw0⟩ := hZ4.getV g3
          rw [c3] at hwy
          cases hwy
          have ek : q3.2.1 = .str x.2.1 := by simpa using g2.symm
          rw [ek, ew] at hat
          have hatG := kG4'.tup _ _ hat
          have hw0G := kG4'.tup _ _ hw0
          have hpqG := kG4'.tup _ _ hpq4
          have lw2 := ways_short (List.mem_of_getElem? c3)
          have lwd := wdk x hxm
          refine ⟨tj, _, rfl, sqt_of hatG, rfl, _, _, rfl, _, _, rfl, _, _, rfl, rfl, ?_⟩
          refine ⟨_, rfl, .inl ⟨rfl, _, sql_of hW⟩, _, rfl, _, rfl, _, rfl, _, rfl, q, w0, p, x.2.2, rfl, rfl, hpqG, hw0G, ?_, fun r G5 hr5 k5 => ?_⟩
          · exact Nat.le_trans (show p.length + x.2.2.length ≤ 3000000 by omega) (by decide)
          refine ⟨by show 3 ≤ sizeLine; decide, fun z nz => ?_⟩
          have kz : Kp [] G5 (upd G5 z (.tup [q3.1, .str x.2.1, .ref r])) := .new nz
          have ez : (upd G5 z (.tup [q3.1, .str x.2.1, .ref r])) z = some (.tup [q3.1, .str x.2.1, .ref r]) := upd_same
          have k56 := k5.trans kz
          have hr6 := kz.tup _ _ hr5
          generalize upd G5 z (.tup [q3.1, .str x.2.1, .ref r]) = G6 at kz ez k56 hr6
          have hW6 := k56.at_ _ _ hW List.not_mem_nil
          have kW : Kp [W] G6 (upd G6 W (.lst ((es ++ us).reverse ++ [.ref z]))) := .put (by simp) hW6 (fun _ z => by cases z)
          have hes6 := hes.imp fun _ _ a => EntAt.kp a k56
          have hE6 := hE.imp fun _ _ a => EntAt.kp a k56
          have hO6 := hO.imp fun _ _ a => FltAt.kp a k56
          have le := hes.len
          have lus := hE.len
          rw [List.length_map, List.length_drop] at le
          have lst2 := len_wd2 (stk.map (·.1))
          rw [List.length_map] at lst2
          refine ⟨W, _, .ref z, rfl, rfl, hW6, ?_, ⟨_, _, _, rfl⟩, ⟨.ref z :: es, ?_, ?_⟩, hE6.imp fun _ _ a => EntAt.kp a kW, kW.at_ _ _ (k56.at_ _ _ hL List.not_mem_nil) (by simp; exact Ne.symm hWL), hO6.imp fun _ _ a => FltAt.kp a kW, kW.at_ _ _ (k56.at_ _ _ hR List.not_mem_nil) (by simp; exact nRW), (kG.trans k56).own nWH, (kG4'.trans (k56.more (by simp))).trans kW⟩
          · rw [List.length_reverse, List.length_append]
            exact Nat.lt_of_le_of_lt (show es.length + us.length ≤ 3000000 by omega) (by decide)
          · rw [upd_same]
            simp
          · have ed : (kids d kd).drop ((partsD d).length - (i + 1)) = x :: (kids d kd).drop ((partsD d).length - i) := by
              rw [show (partsD d).length - (i + 1) = (partsD d).length - 1 - i by omega, List.drop_eq_getElem_cons hjk]
              rw [List.getElem?_eq_getElem hjk] at hxk
              injection hxk with hxk
              rw [hxk, show (partsD d).length - 1 - i + 1 = (partsD d).length - i by omega]
            rw [ed, List.map_cons]
            exact .cons ⟨z, q3.1, r, rfl, kW.tup _ _ ez, anv, kW.tup _ _ hr6⟩ (hes6.imp fun _ _ a => EntAt.kp a kW)
        · rintro σ G ⟨⟨x10, x11, x12, rfl⟩, ⟨es, hW, hes⟩, hE, hL, hO, hR, kG, kG4'⟩
          rw [lR, Nat.sub_self, List.drop_zero] at hes
          have ewd : wdAll (((kids d kd).map (kidP p) ++ stk).map (·.1)) = wdAll (partsD d) + wdAll (stk.map (·.1)) := by
            rw [List.map_append, wdAll_app, List.map_map, ← kids_parts (k := kd) hhd]
            rfl
          have hpl := parts_lt hhd
          refine ⟨wdAll (((kids d kd).map (kidP p) ++ stk).map (·.1)), ?_, es ++ us, (kids d kd).map (kidP p) ++ stk, fl, fo ++ ft2.map (fun w => (w, p)), _, _, _, _, _, _, _, _, rfl, hW, hes.app hE, hL, hO, rfl, ?_, fun x hx => ?_, ?_, ?_, kG⟩
          · rw [ewd]
            show _ < wd d + 2 + wdAll (stk.map (·.1))
            omega
          · rw [ewd]
            omega
          · rcases List.mem_append.mp hx with hx | hx
            · obtain ⟨y, hy, rfl⟩ := List.mem_map.mp hx
              obtain ⟨i, hi⟩ := List.getElem?_of_mem hy
              have h3 := ways_short (List.mem_of_getElem? (kids_at hi).2.2)
              have h4 := wdk y hy
              refine ⟨(show isTerm y.1 = true from List.all_eq_true.mp hparts _ (kids_mem hy)), ?_⟩
              show (p ++ y.2.2).length + wd y.1 ≤ _
              rw [List.length_append]
              omega
            · exact hok x (List.mem_cons_of_mem _ hx)
          · rw [← hall, List.flatMap_append, List.flatMap_cons, faultsD_eq f.ns fs kd p d, hft, List.flatMap_map]
            simp only [List.append_assoc]
            rfl
          · rw [ewd, List.length_append, List.length_map]
            omega
end
end Ey
set_option maxHeartbeats 4000000
namespace Ey
open PySem PySem.Spec L2 PyProof.Rows
open Sem (wp)
theorem meets_enumerate_newT {v : Value} {o : Obj} {H : Heap → Prop} (B : Begins v o H) :
    Meets (Builtin.«enumerate.__new__» ⟨[.type "enumerate", v], []⟩) (fun _ R s => H s.heap ∧
      R (.ok (.ret (.ref (s.heap.push o).objs.size))) { s with heap := (s.heap.push o).push { cls := .type "enumerate", data := .fields #[.none, .bool false, .ref s.heap.objs.size, rawInt 0, .none, .none] } }) :=
  .of_wp fun prog w A R s h => by
    obtain ⟨hp, g, d, tk, os⟩ := s; obtain ⟨h1, h⟩ := h
    have hsub := sub_enumerate
    have q1 : ∀ {A' : Around} {E : Value → Shared → Prop} {Q : Value → Shared → Prop}, Q (.ref hp.objs.size) ⟨hp.push o, g, d, tk, os⟩ → wpAny (model prog w) A' (pyIter v) Q E ⟨hp, g, d, tk, os⟩ :=
      fun q => B.iter prog w _ _ ⟨hp, g, d, tk, os⟩ _ h1 q
    wp_walk using q1
    refine wpAny_stack_any fun st => wpAny_pure ?_
    split
    · rename_i c _ _ _ _ _
      cases (c == Value.type "enumerate")
      · wp_walk using q1
        exact ⟨_, rfl, h⟩
      · wp_walk using q1
        exact ⟨_, rfl, h⟩
    · wp_walk using q1
      exact ⟨_, rfl, h⟩
section
variable {prog : Program} {w : World} {A : Around} {E : Value → Shared → Prop} {s : Shared}
theorem enum_begins1 {v : Value} {o : Obj} {H : Heap → Prop} {Q : Value → Shared → Prop} (B : Begins v o H) (h1 : H s.heap)
    (h : ∀ h', IsEnum h' (s.heap.objs.size + 1) s.heap.objs.size 0 .none → h'.get? s.heap.objs.size = some o → h'.objs.size = s.heap.objs.size + 2 →
      (∀ b o, s.heap.get? b = some o → h'.get? b = some o) → Q (.ref (s.heap.objs.size + 1)) { s with heap := h' }) :
    wpAny (model prog w) A (call (.type "enumerate") [v]) Q E s := by
  refine callType_new F.called_enumerate (by decide) (F.typeCall_enumerate_1 _) (F.newCall_enumerate_1 _) (fun obj => F.args_object_init_2 obj _) F.entry_enumerate_new
    (meets_enumerate_newT B) ⟨h1, ?_⟩
  have hz : (s.heap.push o).objs.size = s.heap.objs.size + 1 := Heap.size_push ..
  show _ ∧ _
  rw [hz]
  have he : IsEnum ((s.heap.push o).push { cls := .type "enumerate", data := .fields #[.none, .bool false, .ref s.heap.objs.size, rawInt 0, .none, .none] }) (s.heap.objs.size + 1) s.heap.objs.size 0 .none := by
    have := Heap.get?_push_size (s.heap.push o) (o := { cls := .type "enumerate", data := .fields #[.none, .bool false, .ref s.heap.objs.size, rawInt 0, .none, .none] }) rfl
    rw [hz] at this; exact this
  refine ⟨⟨_, he, rfl⟩, h _ he (Heap.get?_push_of_some _ (Heap.get?_push_size _ B.free)) (by rw [Heap.size_push, hz]) fun b o x => Heap.get?_push_of_some _ (Heap.get?_push_of_some _ x)⟩
end
section
variable {prog : Program} {w : World} {A : Around} {E : Value → Shared → Prop} {s : Shared}
theorem enum_endT {e it t : Addr} {items : Array Value} {j : Nat} {i : Int} {old : Value} {Q : Option Value → Shared → Prop} (hh : A.handled = none)
    (he : IsEnum s.heap e it i old) (hit : s.heap.IsTupleIter it t j) (ht : s.heap.IsTuple t items) (hx : items[j]? = none)
    (hQ : ∀ h', Heap.ExtBut it s.heap h' → Q none { s with heap := h' }) : wpAny (model prog w) A (pyNext (.ref e)) Q E s := by
  have hT : s.TypeIs (.ref e) "enumerate" := ⟨_, he, rfl⟩
  unfold pyNext
  refine wpAny_bind (wpAny_attempt (wpAny_callSpecial?_slot (name := Str.ofString "__next__") hT F.slot_enumerate_next
    (wpAny_call_entry F.slot_enumerate_next hT F.entry_enumerate_next ?_ (F.args_enumerate_next_1 _))))
  show wpAny _ _ (field (.ref e) 2 >>= _) _ _ _
  refine wpAny_bind (wpAny_field he rfl (x := .ref it) rfl ?_)
  refine wpAny_bind (wpAny_nextOf_tuple_end hh hit ht hx fun h' x he' hx' => ?_)
  obtain ⟨o, ho, hc⟩ := hx'
  refine wpAny_bind (wpAny_isInstance (T := "StopIteration") (b := true) ⟨o, ho, hc⟩ isSubtype_stop ?_)
  exact wpAny_pure (hQ _ he')
end
/-- the tuple at a, each item in a new pair -/
def Itet (K : PySem.W.Frag) (a : Addr) : It :=
  ⟨fun i H => ∃ (xs : List V) (x : V), SqT K H a xs ∧ xs[i]? = some x, fun i H v H' => ∃ T x, v = .ref T ∧ H T = none ∧ H' = upd H T (.tup [.int (i : Nat), x]) ∧ ∀ xs, SqT K H a xs → xs[i]? = some x, fun i H => ∃ xs : List V, SqT K H a xs ∧ xs.length ≤ i⟩
theorem turn_enumT {P : Program} {w : World} {K : PySem.W.Frag} {elts : List Expr} {kk : Nat} {tpos : Pos} (a e it : Addr) :
    Turn P w K (.Tuple elts kk tpos) (Itet K a) [e, it] e (fun i h => (∃ old, IsEnum h e it ((i : Nat) : Int) old) ∧ h.IsTupleIter it a i ∧ e ≠ it) where
  mem := by simp
  obj := fun i h st b hb => by
    obtain ⟨⟨old, he⟩, ⟨o, ho, hc, hd⟩, _⟩ := st
    have e' : b = e ∨ b = it := by simpa using hb
    rcases e' with z | z
    · rw [z]; exact ⟨_, he, fun v q => nomatch q⟩
    · rw [z]; exact ⟨o, ho, fun v q => by rw [hd] at q; cases q⟩
  keep := fun i h h' st k => let ⟨⟨old, he⟩, hi, hne⟩ := st; ⟨⟨old, k e (by simp) _ he⟩, hi.at fun o q => k it (by simp) o q, hne⟩
  item := by
    intro X hP hw hK hc i pins s σ H E I hf st hg
    subst hP hw hK
    obtain ⟨⟨old, he⟩, hit, hne⟩ := st
    obtain ⟨xs, x, hq, hx⟩ := hg
    obtain ⟨its, rv, p, hz⟩ := I.tuple hq
    obtain ⟨u, hu, ru⟩ := rv.get hx
    have hel : e < s.heap.objs.size := Heap.lt_size he
    have hil : it < s.heap.objs.size := by obtain ⟨_, q, _⟩ := hit; exact Heap.lt_size q
    have hai : a ≠ it := by
      intro z
      subst z
      obtain ⟨o, q, c, _⟩ := hit
      obtain ⟨o2, q2, c2, _⟩ := (show s.heap.IsTuple a its.toArray from p)
      rw [q] at q2
      cases q2
      rw [c] at c2
      injection c2 with c3
      exact absurd c3 (by decide)
    have hae : a ≠ e := by
      intro z
      subst z
      obtain ⟨o2, q2, c2, _⟩ := (show s.heap.IsTuple a its.toArray from p)
      rw [he] at q2
      cases q2
      injection c2 with c3
      exact absurd c3 (by decide)
    have D := Draws.tuple (prog := X.prog) (w := X.w) (A := X.A.in1) (I.ok.hd hc) it a hai its.toArray
    have hlt : i < its.toArray.size := by
      have := (List.getElem?_eq_some_iff.mp hu).1
      simpa using this
    refine wpAny_pyNext_enum_itemD D he ⟨hit, p⟩ hlt hne (by simp [hne, hae.symm]) fun u' h' tk hP ho hst hT hsz hk => ?_
    have eu : u' = u := by
      have q1 : its.toArray[i]? = some u' := hP
      have q2 : its.toArray[i]? = some u := by simpa using hu
      rw [q1] at q2
      exact Option.some.inj q2
    subst eu
    have hit' := hst.1
    refine ⟨_, rfl, wpAny_letOwnedTupleGo_enum (s := { s with heap := h', toks := tk + 1 }) ho fun h'' he' sb => ?_⟩
    have hT2 : h''.get? s.heap.objs.size = some { cls := .type "tuple", data := .seq #[.int i tk, u'] } := (sb.2 _ (Nat.ne_of_gt hel)).trans hT
    have new : ObjOk X.prog X.w (upd H s.heap.objs.size (.tup [.int (i : Nat), x])) h'' s.heap.objs.size (.tup [.int (i : Nat), x]) :=
      ⟨by show 2 ≤ sizeLine; decide, [.int i tk, u'], .cons ⟨_, rfl⟩ (.cons ru .nil), ⟨_, hT2, rfl, _, rfl⟩⟩
    have I1 : Inv X pins σ (upd H s.heap.objs.size (.tup [.int (i : Nat), x])) { s with heap := h'', toks := tk + 1 } :=
      I.turnedNew (ch := [e, it]) (fun b ob hb q => (sb.2 b (fun z => hb (by simp [z]))).trans (hk b ob (fun z => hb (by simp [z])) (fun z => hb (by simp [z])) q)) hf (Nat.le_refl _) new
    refine ⟨.ref s.heap.objs.size, _, I1, rfl, ⟨_, x, rfl, I.hok.fresh (Nat.le_refl _), rfl, fun ys hy => by rw [I.tuple_inj hy hq]; exact hx⟩, ⟨⟨u', ?_⟩, hit'.at fun o q => (sb.2 it (Ne.symm hne)).trans q, hne⟩, fun b hb => ?_⟩
    · have e1 : ((i + 1 : Nat) : Int) = (i : Int) + 1 := by omega
      rw [e1]; exact he'
    · have hb' : b < s.heap.objs.size := by
        have e' : b = e ∨ b = it := by simpa using hb
        rcases e' with z | z
        · rw [z]; exact hel
        · rw [z]; exact hil
      rw [upd_ne (Nat.ne_of_lt hb')]
      exact (hf b hb).1
  done := by
    intro X hP hw hK hc i pins s σ H E I hf st hg
    subst hP hw hK
    obtain ⟨⟨old, he⟩, hit, hne⟩ := st
    obtain ⟨xs, hq, hx⟩ := hg
    obtain ⟨its, rv, p, hz⟩ := I.tuple hq
    obtain ⟨f0, f1, f2, f3, f4, f5⟩ := hf it (by simp)
    have hl := rv.length
    exact enum_endT (I.ok.hd hc) he hit p (by simp; omega) fun h' eb => ⟨rfl, I.turned (t' := s.toks) (fun b o hb q => eb b o hb q) f0 f1 f3 f4 f5⟩
  self := fun A i s Q E st h => let ⟨⟨_, he⟩, _⟩ := st; wpAny_pyIter_enum he h
def iEnumT (K : PySem.W.Frag) (ta : TA) : TI := fun σ H R => ta σ H fun vs H1 => ∃ a xs, vs = [.ref a] ∧ SqT K H1 a xs ∧ R (Itet K a) H1
theorem pi_enumT {X : Cx} {e : Expr} {ta : TA} {p pos tpos : Pos} {elts : List Expr} {kk : Nat} (hg : Gl X "enumerate") (hm : X.mg "enumerate" = none) (ha : PA X [e] ta) (hs : starEach [e] X.env = [(false, eval e X.env)] := by rfl) :
    PI X (.Tuple elts kk tpos) (.Call (.Name "enumerate" p) [e] [] pos) (iEnumT X.K ta) := by
  refine ⟨fun pins s σ H R I h => ?_⟩
  refine Call_ (ld_blt I hg hm boot_enumerate (PyProof.Rows.callWith_type1 (thn (ha.run pos pins s σ H _ I h) fun us s1 ⟨vs, H1, I1, r1, q1⟩ => ?_) hs rfl))
  obtain ⟨a, xs, ex, hq, q⟩ := q1
  subst ex
  cases r1 with
  | cons r rr =>
    cases rr
    cases r
    obtain ⟨its, rv, p', hz⟩ := I1.tuple hq
    refine enum_begins1 (begins_tuple a its.toArray) p' fun h' he hit hsz hk => wpAny_pyIter_enum he ?_
    have I2 : Inv X pins σ H1 { s1 with heap := h' } := I1.kept (t' := s1.toks) hk
    refine ⟨s1.heap.objs.size + 1, [s1.heap.objs.size + 1, s1.heap.objs.size], _, _, H1, rfl, I2, turn_enumT a (s1.heap.objs.size + 1) s1.heap.objs.size, ⟨⟨.none, he⟩, ⟨_, hit, rfl, rfl⟩, Nat.succ_ne_self _⟩, fun b hb => ?_, q⟩
    have e' : b = s1.heap.objs.size + 1 ∨ b = s1.heap.objs.size := by simpa using hb
    have hle : s1.heap.objs.size ≤ b := by
      rcases e' with z | z
      · rw [z]; exact Nat.le_add_right _ _
      · rw [z]; exact Nat.le_refl _
    exact I1.fpOk hle (I1.hok.fresh hle)
end Ey
set_option maxHeartbeats 4000000
namespace Ey
open PySem PySem.Spec L2
theorem for_enumT {K : PySem.W.Frag} {a : Addr} {xs : List V} {g : TG} {tb : TS} {D : Ends} {σ : St} {H : Hp} (Pv : Nat → St → Hp → Prop) (h0 : Pv 0 σ H) (hl : ∀ i σ H, i ≤ xs.length → Pv i σ H → SqT K H a xs)
    (hs : ∀ i x σ H T, xs[i]? = some x → H T = none → Pv i σ H → g (.ref T) σ (upd H T (.tup [.int (i : Nat), x])) fun σ2 H2 => tb { D with nx := Pv (i + 1), ct := Pv (i + 1), bk := D.nx } σ2 H2) (hd : ∀ σ H, Pv xs.length σ H → D.nx σ H) :
    ∃ W : Nat → Nat → St → Hp → Prop, (∃ m, W 0 m σ H) ∧ ∀ i m σ H, W i m σ H →
      ((Itet K a).stop i H ∧ D.nx σ H) ∨ ((Itet K a).go i H ∧ ∃ N : St → Hp → Prop, (∀ σ' H', N σ' H' → ∃ m', m' < m ∧ W (i + 1) m' σ' H') ∧ ∀ x H', (Itet K a).yld i H x H' → g x σ H' fun σ2 H2 => tb { D with nx := N, ct := N, bk := D.nx } σ2 H2) := by
  refine ⟨fun i m σ H => m = xs.length - i ∧ i ≤ xs.length ∧ Pv i σ H, ⟨xs.length, by simp, Nat.zero_le _, h0⟩, ?_⟩
  rintro i m σ H ⟨rfl, hi, p⟩
  have q := hl i σ H hi p
  by_cases hlt : i < xs.length
  · refine .inr ⟨⟨xs, xs[i], q, by simp [hlt]⟩, Pv (i + 1), fun σ' H' p' => ⟨xs.length - (i + 1), by omega, rfl, hlt, p'⟩, fun x H' y => ?_⟩
    obtain ⟨T, x', rfl, nT, e, y⟩ := y
    subst e
    exact hs i x' σ H T (y xs q) nT p
  · have e : i = xs.length := by omega
    subst e
    exact .inl ⟨⟨xs, q, Nat.le_refl _⟩, hd σ H p⟩
end Ey
set_option maxHeartbeats 4000000
namespace Ey
open PySem PySem.Spec L2
def kTwice : Str := "twice"
def tw1 (i : Nat) (mets : List Str) (nm : Str) : List (Str × List Nat) := if (mets.any fun t => decide (t = nm)) = true then [(kTwice, [i, 1])] else []
def dupFrom (i : Nat) (pre : List Str) : List Str → List (Str × List Nat)
  | [] => []
  | g :: r => (if (pre.any fun t => decide (t = g)) = true then [(kTwice, [i, 3, pre.length])] else []) ++ dupFrom i (pre ++ [g]) r
def twiceFrom (mets : List Str) (i : Nat) : List Fn → List (Str × List Nat)
  | [] => []
  | f :: r => tw1 i mets f.nm ++ dupFrom i [] f.ns ++ twiceFrom (mets ++ [f.nm]) (i + 1) r
/-- the first test of a turn -/
def tTw : TS := fun D σ G => ∃ (L M : Addr) (fl : List V) (nm : Str) (mets : List Str) (i : Nat), σ[1]? = some (some (.ref L)) ∧ σ[2]? = some (some (.ref M)) ∧ σ[3]? = some (some (.int i)) ∧ σ[5]? = some (some (.str nm)) ∧ G L = some (.lst fl) ∧ G M = some (.lst (mets.map V.str)) ∧ fl.length ≤ 3000000 ∧
  ∀ (vs : List V) (G' : Hp), G' L = some (.lst (fl ++ vs)) → All2 (FltAt G') vs (tw1 i mets nm) → Kp [L] G G' → D.nx σ G'
theorem dup_len (i : Nat) : ∀ (ns pre : List Str), (dupFrom i pre ns).length ≤ ns.length
  | [], _ => Nat.le_refl _
  | g :: r, pre => by
    have := dup_len i r (pre ++ [g])
    show ((if (pre.any fun t => decide (t = g)) = true then [(kTwice, [i, 3, pre.length])] else []) ++ dupFrom i (pre ++ [g]) r).length ≤ r.length + 1
    rw [List.length_append]
    split
    · show 1 + _ ≤ _
      omega
    · show 0 + _ ≤ _
      omega
theorem twice_len : ∀ (fs : List Fn) (mets : List Str) (i : Nat), (twiceFrom mets i fs).length ≤ wdAll (fs.map fD)
  | [], _, _ => Nat.le_refl _
  | f :: r, mets, i => by
    have h1 := twice_len r (mets ++ [f.nm]) (i + 1)
    have h2 := dup_len i f.ns []
    have h3 : (tw1 i mets f.nm).length ≤ 1 := by
      unfold tw1
      split <;> simp
    have h4 := len_wd2 (f.ns.map PyData.str)
    rw [List.length_map] at h4
    have h5 : wd (fD f) = wd (.str kFun) + 2 + (wd (.str f.nm) + 2 + (wd (.str f.kd) + 2 + (wdAll (f.ns.map PyData.str) + 3 + 2 + (wd f.bd + 2 + 0)))) + 3 := rfl
    show (tw1 i mets f.nm ++ dupFrom i [] f.ns ++ twiceFrom (mets ++ [f.nm]) (i + 1) r).length ≤ wd (fD f) + 2 + wdAll (r.map fD)
    rw [List.length_append, List.length_append]
    omega
section
variable {Pr : Program} {w : World} {K : PySem.W.Frag} {mg : Str → Option Value} {base : Heap} {ms : List Addr} {a : Adr} {aO : Addr}
abbrev NTw : List Str := ["script", "found", "met", "at", "_", "name", "names", "position", "item"]
theorem scTwice : FnScope NTw ["script"] (defScope sTwice) := ⟨rfl, rfl, rfl, by decide +kernel, rfl, by decide +kernel, by decide +kernel⟩
def spTwice (ms : List Addr) : Sp := fun vs H Q _ => ∃ (t : Addr) (xs : List V) (fs : List Fn), vs = [.ref t] ∧ H t = some (.tup xs) ∧ AnAll ms H xs (fs.map fD) ∧ wdAll (fs.map fD) ≤ 1000000 ∧
  ∀ (L : Addr) (ys : List V) (G : Hp), H L = none → G L = some (.lst ys) → All2 (FltAt G) ys (twiceFrom [] 0 fs) → Kp [] H G → Q (.ref L) G
theorem ok_twice (F : KF K w mg a aO) : FnOk Pr w K mg base CX0 1 (a.A 34) (a.D 34) ["script"] (spTwice ms) := by
  have B := F.B
  refine F.twice.F.ok scTwice (fun vs H Q E h => ?_) (fun cdv Ar outer s0 H vs Q E hr h => ?_)
  · obtain ⟨t, xs, fs, rfl, _⟩ := h
    rfl
  · obtain ⟨t, xs, fs, rfl, ht, ha, hz, k⟩ := h
    refine ⟨_, pss_cons (ps_set (i := 1) scTwice.nd rfl (.inl rfl) (pe_lst pa_nil))
      (pss_cons (ps_set (i := 2) scTwice.nd rfl (.inl rfl) (pe_lst pa_nil))
      (pss_cons (ps_for PassesOwn.never rfl (pi_enumT (by rfl) B.enum (pa_cons (pv 0) pa_nil)) (pg_tup (n := 2) (by rfl) (pgs_cons (pg_name (i := 3) scTwice.nd rfl (.inl rfl)) (pgs_cons (pg_tup (n := 5) (by rfl) (pgs_cons (pg_name (i := 4) scTwice.nd rfl (.inl rfl)) (pgs_cons (pg_name (i := 5) scTwice.nd rfl (.inl rfl)) (pgs_cons (pg_name (i := 4) scTwice.nd rfl (.inl rfl)) (pgs_cons (pg_name (i := 6) scTwice.nd rfl (.inl rfl)) (pgs_cons (pg_name (i := 4) scTwice.nd rfl (.inl rfl)) pgs_nil)))))) pgs_nil)))
        (pss_cons (ps_weak (t1 := tTw) (ps_if (pt_cmpR (r := rIn K false) op_in_seq (pv 5) (pv 2) (by rfl))
        (pss_one (ps_expr (pe_bm PySem.F.plainAttrs_list PySem.F.slot_list_append PySem.F.type_list_append mt_append (pv 1) (pa_cons (pe_tup (pa_cons pe_str (pa_cons (pe_tup (pa_cons (pv 3) (pa_cons pe_int pa_nil))) pa_nil))) pa_nil)))) pss_nil) (fun D σ G h => by
        obtain ⟨L, M, fl, nm, mets, i, e1, e2, e3, e5, hL, hM, hl, kn⟩ := h
        refine ⟨_, e5, _, e2, M, _, rfl, .inl (sql_of hM), rfl, flat_strs _, _, rfl, ?_⟩
        show if inV (.str nm) (mets.map V.str) = true then _ else _
        rw [inV_strs]
        cases e : (mets.any fun t => decide (t = nm)) with
        | false =>
          refine iteF (kn [] G (by rw [List.append_nil]; exact hL) ?_ .refl)
          unfold tw1
          rw [e]
          exact .nil
        | true =>
          refine iteT ⟨_, e1, .inl ⟨rfl, _, sql_of hL⟩, _, e3, by show 2 ≤ sizeLine; decide, fun z nz => ⟨by show 2 ≤ sizeLine; decide, fun y ny => ?_⟩⟩
          have kz : Kp [] G (upd G z (.tup [.int (i : Nat), .int 1])) := .new nz
          have ez : (upd G z (.tup [.int (i : Nat), .int 1])) z = some (.tup (natsV [i, 1])) := upd_same
          have hL1 := kz.at_ _ _ hL List.not_mem_nil
          generalize upd G z (.tup [.int (i : Nat), .int 1]) = G1 at kz ez ny hL1
          have ky : Kp [] G1 (upd G1 y (.tup [.str "twice", .ref z])) := .new ny
          have ey : (upd G1 y (.tup [.str "twice", .ref z])) y = some (.tup [.str "twice", .ref z]) := upd_same
          have hL2 := ky.at_ _ _ hL1 List.not_mem_nil
          have ez2 := ky.tup _ _ ez
          generalize upd G1 y (.tup [.str "twice", .ref z]) = G2 at ky ey hL2 ez2
          have kL : Kp [L] G2 (upd G2 L (.lst (fl ++ [.ref y]))) := .put (by simp) hL2 (fun _ z => by cases z)
          refine ⟨L, fl, .ref y, rfl, rfl, hL2, Nat.lt_of_le_of_lt hl (by decide), kn [.ref y] _ upd_same ?_ (((kz.trans ky).more (by simp)).trans kL)⟩
          unfold tw1
          rw [e]
          exact .cons ⟨y, z, rfl, kL.tup _ _ ey, kL.tup _ _ ez2⟩ .nil))
      (pss_cons (ps_expr (pe_bm PySem.F.plainAttrs_list PySem.F.slot_list_append PySem.F.type_list_append mt_append (pv 2) (pa_cons (pv 5) pa_nil)))
      (pss_one (ps_for PassesOwn.never rfl (pi_enumT (by rfl) B.enum (pa_cons (pv 6) pa_nil)) (pg_tup (n := 2) (by rfl) (pgs_cons (pg_name (i := 7) scTwice.nd rfl (.inl rfl)) (pgs_cons (pg_name (i := 8) scTwice.nd rfl (.inl rfl)) pgs_nil)))
        (pss_one (ps_if (pt_cmpR (r := rIn K false) op_in_seq (pv 8) (pe_slice sl_tup (pv 6) po_none (po_some (pv 7))) (by rfl))
        (pss_one (ps_expr (pe_bm PySem.F.plainAttrs_list PySem.F.slot_list_append PySem.F.type_list_append mt_append (pv 1) (pa_cons (pe_tup (pa_cons pe_str (pa_cons (pe_tup (pa_cons (pv 3) (pa_cons pe_int (pa_cons (pv 7) pa_nil)))) pa_nil))) pa_nil)))) pss_nil)))))))
      (pss_one (ps_ret (pv 1))))), ?_⟩
    refine ⟨Nat.zero_le _, fun L nL => ?_⟩
    have k1 : Kp [] H (upd H L (.lst [])) := .new nL
    have hL1 : (upd H L (.lst [])) L = some (.lst []) := upd_same
    generalize upd H L (.lst []) = H1 at k1 hL1
    refine ⟨Nat.zero_le _, fun M nM => ?_⟩
    have k2 : Kp [] H1 (upd H1 M (.lst [])) := .new nM
    have hM2 : (upd H1 M (.lst [])) M = some (.lst []) := upd_same
    have hL2 := k2.at_ _ _ hL1 List.not_mem_nil
    have hML : M ≠ L := fun e => by rw [e, hL1] at nM; cases nM
    have nMH : H M = none := k1.free nM List.not_mem_nil
    have k12 := k1.trans k2
    generalize upd H1 M (.lst []) = H2 at hM2 hL2 k12
    have lx := ha.length
    rw [List.length_map] at lx
    have htl := twice_len fs [] 0
    refine ⟨_, rfl, t, xs, rfl, sqt_of (k12.tup _ _ ht), ?_⟩
    refine for_enumT (xs := xs) (fun i σ G => (∃ x3 x4 x5 x6 x7 x8 : Option V, σ = [some (.ref t), some (.ref L), some (.ref M), x3, x4, x5, x6, x7, x8]) ∧ (∃ fl fo, G L = some (.lst fl) ∧ All2 (FltAt G) fl fo ∧ fo ++ twiceFrom ((fs.take i).map (·.nm)) i (fs.drop i) = twiceFrom [] 0 fs) ∧ G M = some (.lst (((fs.take i).map (·.nm)).map V.str)) ∧ Kp [] H G)
      ⟨⟨_, _, _, _, _, _, rfl⟩, ⟨[], [], hL2, .nil, rfl⟩, hM2, k12⟩ (fun i σ G _ h => sqt_of (h.2.2.2.tup _ _ ht)) ?_ ?_
    · rintro i x σ G Tp hx nTp ⟨⟨x3, x4, x5, x6, x7, x8, rfl⟩, ⟨fl, fo, hL, hO, hall⟩, hM, kG⟩
      obtain ⟨d, hd, hxd⟩ := ha.get hx
      rw [List.getElem?_map] at hd
      obtain ⟨f, hf, rfl⟩ := Option.map_eq_some_iff.mp hd
      have hi : i < fs.length := (List.getElem?_eq_some_iff.mp hf).1
      have kT : Kp [] G (upd G Tp (.tup [.int (i : Nat), x])) := .new nTp
      have eT : (upd G Tp (.tup [.int (i : Nat), x])) Tp = some (.tup [.int (i : Nat), x]) := upd_same
      have hL' := kT.at_ _ _ hL List.not_mem_nil
      have hM' := kT.at_ _ _ hM List.not_mem_nil
      have hO' := hO.imp fun _ _ z => FltAt.kp z kT
      have kG' := kG.trans kT
      generalize upd G Tp (.tup [.int (i : Nat), x]) = G1 at kT eT hL' hM' hO' kG'
      have hxG := hxd.kp kG' (by simp) _
      obtain ⟨ft, nt, bv, rfl, e1, e2, e3⟩ := hxG.fn
      refine ⟨Tp, _, rfl, sqt_of eT, rfl, _, _, rfl, _, _, rfl, ft, _, rfl, sqt_of e1, rfl, _, _, rfl, _, _, rfl, _, _, rfl, _, _, rfl, _, _, rfl, rfl, rfl, ?_⟩
      have hlo : fo.length ≤ 1000000 := by
        have := congrArg List.length hall
        rw [List.length_append] at this
        omega
      have lO := hO'.len
      have tk : fs.take (i + 1) = fs.take i ++ [f] := by rw [List.take_add_one, hf]; rfl
      have dr : fs.drop i = f :: fs.drop (i + 1) := by
        rw [List.drop_eq_getElem_cons hi]
        rw [List.getElem?_eq_getElem hi] at hf
        injection hf with hf
        rw [hf]
      have mets_len : (((fs.take i).map (·.nm)).map V.str).length ≤ 1000000 := by
        rw [List.length_map, List.length_map, List.length_take]
        have := len_wd2 (fs.map fD)
        rw [List.length_map] at this
        omega
      refine ⟨L, M, fl, f.nm, (fs.take i).map (·.nm), i, rfl, rfl, rfl, rfl, hL', hM', by omega, fun vs G2 hL2 hvs k2 => ?_⟩
      have hM2 := k2.at_ _ _ hM' (by simp; exact hML)
      have hO2 := hO'.imp fun _ _ z => FltAt.kp z k2
      have e12 := k2.tup _ _ e1
      have e22 := k2.tup _ _ e2
      have kG2 : Kp [] H G2 := ⟨fun b o e _ => k2.at_ _ _ (kG'.at_ _ _ e List.not_mem_nil) (by simp; rintro rfl; rw [nL] at e; cases e), fun b xs e => k2.tup _ _ (kG'.tup _ _ e)⟩
      -- met
      refine ⟨_, rfl, .inl ⟨rfl, _, sql_of hM2⟩, _, rfl, M, _, _, rfl, rfl, hM2, Nat.lt_of_le_of_lt mets_len (by decide), ?_⟩
      have kM : Kp [M] G2 (upd G2 M (.lst (((fs.take i).map (·.nm)).map V.str ++ [.str f.nm]))) := .put (by simp) hM2 (fun _ z => by cases z)
      have hM3 : (upd G2 M (.lst (((fs.take i).map (·.nm)).map V.str ++ [.str f.nm]))) M = some (.lst (((fs.take (i + 1)).map (·.nm)).map V.str)) := by
        rw [upd_same, tk]
        simp
      have hL3 := kM.at_ _ _ hL2 (by simp; exact Ne.symm hML)
      have hO3 := hO2.imp fun _ _ z => FltAt.kp z kM
      have hv3 := hvs.imp fun _ _ z => FltAt.kp z kM
      have e23 := kM.tup _ _ e22
      have kG3 := kG2.own (o := .lst (((fs.take i).map (·.nm)).map V.str ++ [.str f.nm])) nMH
      generalize upd G2 M (.lst (((fs.take i).map (·.nm)).map V.str ++ [.str f.nm])) = G3 at hM3 hL3 hO3 hv3 e23 kG3
      -- the names
      refine ⟨_, rfl, nt, _, rfl, sqt_of e23, ?_⟩
      have hO3' := hO3.app hv3
      clear hL' hM' hO' kG' hxG e1 e2 e3 kT eT hL2 hvs k2 hM2 hO2 e12 e22 kG2 kM hO3 hv3 hL hO hM kG
      have lfn : f.ns.length ≤ 1000000 := by
        have h1 := len_wd2 (f.ns.map PyData.str)
        rw [List.length_map] at h1
        have h2 := wd_mem (List.mem_of_getElem? (show (fs.map fD)[i]? = some (fD f) by rw [List.getElem?_map, hf]; rfl))
        have h5 : wd (fD f) = wd (.str kFun) + 2 + (wd (.str f.nm) + 2 + (wd (.str f.kd) + 2 + (wdAll (f.ns.map PyData.str) + 3 + 2 + (wd f.bd + 2 + 0)))) + 3 := rfl
        omega
      have lt1 : (tw1 i ((fs.take i).map (·.nm)) f.nm).length ≤ 1 := by
        unfold tw1
        split <;> simp
      refine for_enumT (xs := f.ns.map V.str) (fun j σ G => (∃ x7 x8 : Option V, σ = [some (.ref t), some (.ref L), some (.ref M), some (.int (i : Nat)), some bv, some (.str f.nm), some (.ref nt), x7, x8]) ∧ (∃ fl fo2, G L = some (.lst fl) ∧ All2 (FltAt G) fl (fo ++ tw1 i ((fs.take i).map (·.nm)) f.nm ++ fo2) ∧ fo2 ++ dupFrom i (f.ns.take j) (f.ns.drop j) = dupFrom i [] f.ns) ∧ G M = some (.lst (((fs.take (i + 1)).map (·.nm)).map V.str)) ∧ Kp [] H G ∧ G nt = some (.tup (f.ns.map V.str)))
        ⟨⟨_, _, rfl⟩, ⟨_, [], hL3, by rw [List.append_nil]; exact hO3', rfl⟩, hM3, kG3, e23⟩ (fun j σ G _ h => sqt_of h.2.2.2.2) ?_ ?_
      · rintro j y σ G Tq hy nTq ⟨⟨x7, x8, rfl⟩, ⟨fl, fo2, hL, hO, hdup⟩, hM, kG, hnt⟩
        rw [List.getElem?_map] at hy
        obtain ⟨g, hg, rfl⟩ := Option.map_eq_some_iff.mp hy
        have hj : j < f.ns.length := (List.getElem?_eq_some_iff.mp hg).1
        have kT : Kp [] G (upd G Tq (.tup [.int (j : Nat), .str g])) := .new nTq
        have eT : (upd G Tq (.tup [.int (j : Nat), .str g])) Tq = some (.tup [.int (j : Nat), .str g]) := upd_same
        have hL' := kT.at_ _ _ hL List.not_mem_nil
        have hM' := kT.at_ _ _ hM List.not_mem_nil
        have hO' := hO.imp fun _ _ z => FltAt.kp z kT
        have hnt' := kT.tup _ _ hnt
        have kG' := kG.trans kT
        generalize upd G Tq (.tup [.int (j : Nat), .str g]) = G1 at kT eT hL' hM' hO' hnt' kG'
        refine ⟨Tq, _, rfl, sqt_of eT, rfl, _, _, rfl, _, _, rfl, rfl, ?_⟩
        have ll : (f.ns.map V.str).length = f.ns.length := List.length_map ..
        refine ⟨_, rfl, _, rfl, _, rfl, (j : Int), rfl, nt, _, rfl, sqt_of hnt', ?_, fun c nc => ?_⟩
        · rintro ⟨_, z⟩
          rw [HT.sIx_nat, ll] at z
          omega
        have kc : Kp [] G1 (upd G1 c (.tup (cutV (f.ns.map V.str) none (some (j : Int))))) := .new nc
        have ec : (upd G1 c (.tup (cutV (f.ns.map V.str) none (some (j : Int))))) c = some (.tup ((f.ns.take j).map V.str)) := by
          rw [upd_same, cut_take, List.map_take]
        have hL2 := kc.at_ _ _ hL' List.not_mem_nil
        have hM2 := kc.at_ _ _ hM' List.not_mem_nil
        have hO2 := hO'.imp fun _ _ z => FltAt.kp z kc
        have hnt2 := kc.tup _ _ hnt'
        have kG2 := kG'.trans kc
        generalize upd G1 c (.tup (cutV (f.ns.map V.str) none (some (j : Int)))) = G2 at kc ec hL2 hM2 hO2 hnt2 kG2
        refine ⟨c, _, rfl, .inr (sqt_of ec), rfl, flat_strs _, _, rfl, ?_⟩
        show if inV (.str g) ((f.ns.take j).map V.str) = true then _ else _
        rw [inV_strs]
        have tkj : f.ns.take (j + 1) = f.ns.take j ++ [g] := by rw [List.take_add_one, hg]; rfl
        have drj : f.ns.drop j = g :: f.ns.drop (j + 1) := by
          rw [List.drop_eq_getElem_cons hj]
          rw [List.getElem?_eq_getElem hj] at hg
          injection hg with hg
          rw [hg]
        have lpre : (f.ns.take j).length = j := by rw [List.length_take]; omega
        have hd2 : fo2 ++ ((if ((f.ns.take j).any fun t => decide (t = g)) = true then [(kTwice, [i, 3, j])] else []) ++ dupFrom i (f.ns.take (j + 1)) (f.ns.drop (j + 1))) = dupFrom i [] f.ns := by
          rw [← hdup, drj, tkj]
          show _ = fo2 ++ ((if ((f.ns.take j).any fun t => decide (t = g)) = true then [(kTwice, [i, 3, (f.ns.take j).length])] else []) ++ dupFrom i (f.ns.take j ++ [g]) (f.ns.drop (j + 1)))
          rw [lpre]
        cases e : ((f.ns.take j).any fun t => decide (t = g)) with
        | false =>
          rw [e] at hd2
          exact iteF ⟨⟨_, _, rfl⟩, ⟨fl, fo2, hL2, hO2, by simpa using hd2⟩, hM2, kG2, hnt2⟩
        | true =>
          rw [e, if_pos rfl, ← List.append_assoc] at hd2
          refine iteT ⟨_, rfl, .inl ⟨rfl, _, sql_of hL2⟩, _, rfl, _, rfl, by show 3 ≤ sizeLine; decide, fun z nz => ⟨by show 2 ≤ sizeLine; decide, fun y ny => ?_⟩⟩
          have kz : Kp [] G2 (upd G2 z (.tup [.int (i : Nat), .int 3, .int (j : Nat)])) := .new nz
          have ez : (upd G2 z (.tup [.int (i : Nat), .int 3, .int (j : Nat)])) z = some (.tup (natsV [i, 3, j])) := upd_same
          generalize upd G2 z (.tup [.int (i : Nat), .int 3, .int (j : Nat)]) = G3 at kz ez ny
          have ky : Kp [] G3 (upd G3 y (.tup [.str "twice", .ref z])) := .new ny
          have ey : (upd G3 y (.tup [.str "twice", .ref z])) y = some (.tup [.str "twice", .ref z]) := upd_same
          have ez2 := ky.tup _ _ ez
          have k4 := kz.trans ky
          generalize upd G3 y (.tup [.str "twice", .ref z]) = G4 at ky ey ez2 k4
          have hL4 := k4.at_ _ _ hL2 List.not_mem_nil
          have kL : Kp [L] G4 (upd G4 L (.lst (fl ++ [.ref y]))) := .put (by simp) hL4 (fun _ z => by cases z)
          have lO := hO2.len
          have lf2 : fo2.length ≤ f.ns.length := by
            have h1 := congrArg List.length hdup
            have h2 := dup_len i f.ns []
            rw [List.length_append] at h1
            omega
          rw [List.length_append, List.length_append] at lO
          refine ⟨L, fl, .ref y, rfl, rfl, hL4, Nat.lt_of_le_of_lt (show fl.length ≤ 3000000 by omega) (by decide), ⟨_, _, rfl⟩, ⟨_, fo2 ++ [(kTwice, [i, 3, j])], upd_same, ?_, hd2⟩, kL.at_ _ _ (k4.at_ _ _ hM2 List.not_mem_nil) (by simp; exact hML), (kG2.trans k4).own nL, kL.tup _ _ (k4.tup _ _ hnt2)⟩
          rw [← List.append_assoc]
          exact (hO2.imp fun _ _ a => FltAt.kp (FltAt.kp a k4) kL).app (.cons ⟨y, z, rfl, kL.tup _ _ ey, kL.tup _ _ ez2⟩ .nil)
      · rintro σ G ⟨⟨x7, x8, rfl⟩, ⟨fl, fo2, hL, hO, hdup⟩, hM, kG, hnt⟩
        rw [List.length_map, List.drop_length] at hdup
        have e : fo2 = dupFrom i [] f.ns := by rw [← hdup]; exact (List.append_nil fo2).symm
        subst e
        refine ⟨⟨_, _, _, _, _, _, rfl⟩, ⟨fl, _, hL, hO, ?_⟩, hM, kG⟩
        rw [← hall, dr, tk]
        show _ = fo ++ (tw1 i _ f.nm ++ dupFrom i [] f.ns ++ twiceFrom _ (i + 1) _)
        simp only [List.append_assoc, List.map_append, List.map_cons, List.map_nil]
    · rintro σ G ⟨⟨x3, x4, x5, x6, x7, x8, rfl⟩, ⟨fl, fo, hL, hO, hall⟩, hM, kG⟩
      rw [lx, List.drop_length] at hall
      have e : fo = twiceFrom [] 0 fs := by rw [← hall]; exact (List.append_nil fo).symm
      exact ⟨_, rfl, k L fl G nL hL (hO.cast e) kG⟩
end
end Ey
set_option maxHeartbeats 4000000
namespace Ey
open PySem PySem.Spec L2
def faultsFrom (all : List Fn) (i : Nat) : List Fn → List (Str × List Nat)
  | [] => []
  | f :: r => faultsD f.ns all f.kd [i, 4] f.bd ++ faultsFrom all (i + 1) r
def allFaults (fs : List Fn) : List (Str × List Nat) := twiceFrom [] 0 fs ++ faultsFrom fs 0 fs
section
variable {Pr : Program} {w : World} {K : PySem.W.Frag} {mg : Str → Option Value} {base : Heap} {ms : List Addr} {a : Adr} {aO : Addr}
abbrev NFa : List Str := ["script", "first", "found", "at", "function"]
theorem scFaults : FnScope NFa ["script"] (defScope sFaults) := ⟨rfl, rfl, rfl, by decide +kernel, rfl, by decide +kernel, by decide +kernel⟩
def spFaults (ms : List Addr) : Sp := fun vs H Q _ => ∃ (t : Addr) (xs : List V) (fs : List Fn), vs = [.ref t] ∧ H t = some (.tup xs) ∧ AnAll ms H xs (fs.map fD) ∧ wdAll (fs.map fD) ≤ 500000 ∧ (∀ f ∈ fs, isTerm f.bd = true) ∧
  ∀ (L : Addr) (ys : List V) (G : Hp), H L = none → G L = some (.lst ys) → All2 (FltAt G) ys (allFaults fs) → Kp [] H G → Q (.ref L) G
theorem ok_faults (F : KF K w mg a aO) : FnOk Pr w K mg base CX0 4 (a.A 35) (a.D 35) ["script"] (spFaults ms) := by
  have B := F.B
  refine F.faults.F.ok scFaults (fun vs H Q E h => ?_) (fun cdv Ar outer s0 H vs Q E hr h => ?_)
  · obtain ⟨t, xs, fs, rfl, _⟩ := h
    rfl
  · obtain ⟨t, xs, fs, rfl, ht, ha, hz, hT, k⟩ := h
    refine ⟨_, pss_cons (ps_set (i := 1) scFaults.nd rfl (.inl rfl) (pe_call (ok_first (ms := ms) F) (hr.mono (by decide)) (by rfl) F.first.g F.first.F.kp F.first.b .nil pass0 (pa_cons (pv 0) pa_nil)))
      (pss_cons (ps_set (i := 2) scFaults.nd rfl (.inl rfl) (pe_call (ok_twice (ms := ms) F) (hr.mono (by decide)) (by rfl) F.twice.g F.twice.F.kp F.twice.b .nil pass0 (pa_cons (pv 0) pa_nil)))
      (pss_cons (ps_for PassesOwn.never rfl (pi_enumT (by rfl) B.enum (pa_cons (pv 0) pa_nil)) (pg_tup (n := 2) (by rfl) (pgs_cons (pg_name (i := 3) scFaults.nd rfl (.inl rfl)) (pgs_cons (pg_name (i := 4) scFaults.nd rfl (.inl rfl)) pgs_nil)))
        (pss_one (ps_expr (pe_bm PySem.F.plainAttrs_list PySem.F.slot_list_extend PySem.F.type_list_extend mt_extend (pv 2) (pa_cons (pe_call (ok_fbody (ms := ms) F) (hr.mono (by decide)) (by rfl) F.fbody.g F.fbody.F.kp F.fbody.b .nil pass0 (pa_cons (pv 4) (pa_cons (pe_tup (pa_cons (pv 3) (pa_cons pe_int pa_nil))) (pa_cons (pv 1) pa_nil)))) pa_nil)))))
      (pss_one (ps_ret (pv 2))))), ?_⟩
    have lx := ha.length
    rw [List.length_map] at lx
    have lfs := len_wd2 (fs.map fD)
    rw [List.length_map] at lfs
    refine ⟨_, rfl, t, xs, fs, rfl, ht, ha, by omega, fun Df G0 nDf hF1 k1 => ?_⟩
    refine ⟨_, rfl, t, xs, fs, rfl, k1.tup _ _ ht, ha.kp k1 (by simp) _, by omega, fun L ys G2 nL hL hO k2 => ?_⟩
    have kG2 := k1.trans k2
    have htl := twice_len fs [] 0
    have nLH : H L = none := k1.free nL List.not_mem_nil
    have hDL : Df ≠ L := fun e => by
      obtain ⟨kvs, e2, _⟩ := hF1.ex
      rw [e, nL] at e2
      cases e2
    refine ⟨_, rfl, t, xs, rfl, sqt_of (kG2.tup _ _ ht), ?_⟩
    refine for_enumT (xs := xs) (fun i σ G => (∃ x3 x4 : Option V, σ = [some (.ref t), some (.ref Df), some (.ref L), x3, x4]) ∧ (∃ fl fo, G L = some (.lst fl) ∧ All2 (FltAt G) fl fo ∧ fo ++ faultsFrom fs i (fs.drop i) = allFaults fs ∧ fo.length ≤ 500000 + 3 * wdAll ((fs.take i).map fD)) ∧ Kp [] G0 G ∧ Kp [] H G)
      ⟨⟨_, _, rfl⟩, ⟨ys, _, hL, hO, rfl, by omega⟩, k2, kG2⟩ (fun i σ G _ h => sqt_of (h.2.2.2.tup _ _ ht)) ?_ ?_
    · rintro i x σ G Tp hx nTp ⟨⟨x3, x4, rfl⟩, ⟨fl, fo, hL, hO, hall, hlen⟩, hF, kG⟩
      obtain ⟨d, hd, hxd⟩ := ha.get hx
      rw [List.getElem?_map] at hd
      obtain ⟨f, hf, rfl⟩ := Option.map_eq_some_iff.mp hd
      have hi : i < fs.length := (List.getElem?_eq_some_iff.mp hf).1
      have kT : Kp [] G (upd G Tp (.tup [.int (i : Nat), x])) := .new nTp
      have eT : (upd G Tp (.tup [.int (i : Nat), x])) Tp = some (.tup [.int (i : Nat), x]) := upd_same
      have hL' := kT.at_ _ _ hL List.not_mem_nil
      have hO' := hO.imp fun _ _ z => FltAt.kp z kT
      have hF' := hF.trans kT
      have kG' := kG.trans kT
      generalize upd G Tp (.tup [.int (i : Nat), x]) = G1 at kT eT hL' hO' hF' kG'
      refine ⟨Tp, _, rfl, sqt_of eT, rfl, _, _, rfl, _, _, rfl, rfl, ?_⟩
      refine ⟨_, rfl, .inl ⟨rfl, _, sql_of hL'⟩, _, rfl, _, rfl, by show 2 ≤ sizeLine; decide, fun pa npa => ?_⟩
      have kp : Kp [] G1 (upd G1 pa (.tup [.int (i : Nat), .int 4])) := .new npa
      have ep : (upd G1 pa (.tup [.int (i : Nat), .int 4])) pa = some (.tup (natsV [i, 4])) := upd_same
      have hL2 := kp.at_ _ _ hL' List.not_mem_nil
      have hO2 := hO'.imp fun _ _ z => FltAt.kp z kp
      have hF2 := hF'.trans kp
      have kG2 := kG'.trans kp
      generalize upd G1 pa (.tup [.int (i : Nat), .int 4]) = G2 at kp ep hL2 hO2 hF2 kG2
      have hfm := List.mem_of_getElem? hf
      have hwd := wd_mem (List.mem_map_of_mem (f := fD) hfm)
      have h5 : wd (fD f) = wd (.str kFun) + 2 + (wd (.str f.nm) + 2 + (wd (.str f.kd) + 2 + (wdAll (f.ns.map PyData.str) + 3 + 2 + (wd f.bd + 2 + 0)))) + 3 := rfl
      refine ⟨_, rfl, x, f, pa, Df, [i, 4], fs, rfl, hxd.kp kG2 (by simp) _, hT f hfm, by omega, ep, (show 2 ≤ 1000 by decide), hF1.kp hF2 (by simp) List.not_mem_nil, fun L2 y2 G3 nL2 hy2 hO3 hl3 k3 => ?_⟩
      have hL3 := k3.at_ _ _ hL2 List.not_mem_nil
      have lO := hO2.len
      have lO3 := hO3.len
      have kL : Kp [L] G3 (upd G3 L (.lst (fl ++ y2))) := .put (by simp) hL3 (fun _ z => by cases z)
      have ewt : wdAll ((fs.take (i + 1)).map fD) = wdAll ((fs.take i).map fD) + (wd (fD f) + 2) := by
        rw [List.take_add_one, hf]
        show wdAll ((fs.take i ++ [f]).map fD) = _
        rw [List.map_append, wdAll_app]
        rfl
      have ewl : wdAll ((fs.take (i + 1)).map fD) ≤ wdAll (fs.map fD) := by
        have h1 := congrArg (fun l => wdAll (l.map fD)) (List.take_append_drop (i + 1) fs)
        simp only [List.map_append, wdAll_app] at h1
        omega
      refine ⟨L, L2, fl, y2, rfl, rfl, hL3, hy2, Nat.le_trans (show fl.length + y2.length ≤ 3000000 by omega) (by decide), ⟨_, _, rfl⟩, ⟨_, fo ++ faultsD f.ns fs f.kd [i, 4] f.bd, upd_same, ((hO2.imp fun _ _ a => FltAt.kp (FltAt.kp a k3) kL)).app (hO3.imp fun _ _ a => FltAt.kp a kL), ?_, ?_⟩, (hF2.trans k3).own nL, (kG2.trans k3).own nLH⟩
      · rw [← hall, List.drop_eq_getElem_cons hi]
        rw [List.getElem?_eq_getElem hi] at hf
        injection hf with hf
        rw [hf, List.append_assoc]
        rfl
      · rw [List.length_append, ewt]
        omega
    · rintro σ G ⟨⟨x3, x4, rfl⟩, ⟨fl, fo, hL, hO, hall, hlen⟩, hF, kG⟩
      rw [lx, List.drop_length] at hall
      have e : fo = allFaults fs := by rw [← hall]; exact (List.append_nil fo).symm
      exact ⟨_, rfl, k L fl G nLH hL (hO.cast e) kG⟩
end
end Ey
set_option maxHeartbeats 4000000
namespace Ey
open PySem PySem.Spec L2
abbrev sCheckP : Stmt := topS 37
def txtD : PyData → Str
  | .str y => y
  | _ => ""
def fnOf : PyData → Fn
  | .tuple [_, .str g, .str k, .tuple ns, b] => ⟨g, k, ns.map txtD, b⟩
  | _ => ⟨"", "", [], .none⟩
def fnsOf (d : PyData) : List Fn := (tupD d).map fnOf
theorem fnOf_ok {d : PyData} (h : isFunction d = true) : d = fD (fnOf d) ∧ isTerm (fnOf d).bd = true := by
  unfold isFunction at h
  split at h
  · rename_i a b c e t
    simp only [Bool.and_eq_true] at h
    obtain ⟨h1, h2, h3, h4, h5⟩ := h
    cases a with
    | str a =>
      have ea : a = kFun := of_decide_eq_true h1
      cases b with
      | str g =>
        cases c with
        | str k =>
          cases e with
          | tuple ns =>
            refine ⟨?_, h5⟩
            have hn : ns = (ns.map txtD).map PyData.str := by
              have h4' : ns.all isNameD = true := h4
              clear h4 h5 h3 h2 h1 ea
              induction ns with
              | nil => rfl
              | cons x r ih =>
                rw [List.all_cons, Bool.and_eq_true] at h4'
                rw [List.map_cons, List.map_cons, ← ih h4'.2]
                cases x with
                | str y => rfl
                | _ => cases h4'.1
            show PyData.tuple [.str a, .str g, .str k, .tuple ns, t] = .tuple [.str kFun, .str g, .str k, .tuple ((ns.map txtD).map PyData.str), t]
            rw [← hn, ea]
          | _ => cases h4
        | _ =>
          simp [isKindD, kindsL, isThe] at h3
      | _ => cases h2
    | _ => cases h1
  · cases h
theorem script_form {d : PyData} (h : isScript d = true) : d = .tuple ((fnsOf d).map fD) ∧ ∀ f ∈ fnsOf d, isTerm f.bd = true := by
  cases d with
  | tuple ds =>
    have h' : ds.all isFunction = true := h
    show PyData.tuple ds = .tuple ((ds.map fnOf).map fD) ∧ ∀ f ∈ ds.map fnOf, _
    rw [List.all_eq_true] at h'
    refine ⟨?_, fun f hf => ?_⟩
    · congr 1
      rw [List.map_map]
      conv => lhs; rw [← List.map_id ds]
      exact List.map_congr_left fun x hx => (fnOf_ok (h' x hx)).1
    · obtain ⟨x, hx, rfl⟩ := List.mem_map.mp hf
      exact (fnOf_ok (h' x hx)).2
  | _ => cases h
def isProgD (d : PyData) : Bool := isScript d && (allFaults (fnsOf d)).isEmpty
structure KP (K : PySem.W.Frag) (w : World) (mg : Str → Option Value) (a : Adr) (aO : Addr) : Prop extends KF K w mg a aO where
  checkP : Df K mg "check_program" sCheckP ["program"] (a.A 37) (a.D 37)
section
variable {Pr : Program} {w : World} {K : PySem.W.Frag} {mg : Str → Option Value} {base : Heap} {ms : List Addr} {a : Adr} {aO : Addr}
abbrev NIp : List Str := ["thing"]
theorem scIsProg : FnScope NIp ["thing"] (defScope sIsProg) := ⟨rfl, rfl, rfl, by decide +kernel, rfl, by decide +kernel, by decide +kernel⟩
def spProg (ms Ts : List Addr) (g : PyData → Bool) : Sp := fun vs H Q _ => ∃ (v : V) (d : PyData), vs = [v] ∧ An ms H v d ∧ wd d ≤ 400000 ∧ TTs Ts H ∧ (∀ P ∈ Ts, P ∈ ms) ∧ ∀ H', TTs Ts H' → Kp Ts H H' → Q (.bl (g d)) H'
theorem ok_isProg (F : KF K w mg a aO) (b : BF base mg a) : FnOk Pr w K mg base CX0 9 (a.A 36) (a.D 36) ["thing"] (spProg ms a.Ts isProgD) := by
  have B := F.B
  refine F.isProg.F.ok scIsProg (fun vs H Q E h => ?_) (fun cdv Ar outer s0 H vs Q E hr h => ?_)
  · obtain ⟨v, d, rfl, _⟩ := h
    rfl
  · obtain ⟨v, d, rfl, hv, hz, hT, hs, k⟩ := h
    refine ⟨_, pss_one (ps_ret (pe_and (pe_call (ok_script (ms := ms) F.toPF b) (hr.mono (by decide)) (by rfl) F.script.g F.script.F.kp F.script.b .nil pass0 (pa_cons (pv 0) pa_nil)) (pe_one (pe_notT (pe_call (ok_faults (ms := ms) F) (hr.mono (by decide)) (by rfl) F.faults.g F.faults.F.kp F.faults.b .nil pass0 (pa_cons (pv 0) pa_nil)))))), ?_⟩
    refine ⟨_, rfl, v, d, rfl, hv, by omega, hT, hs, fun H1 g1 k1 => ⟨_, rfl, ?_⟩⟩
    cases e : isScript d with
    | false =>
      refine iteF ?_
      have := k H1 g1 k1
      unfold isProgD at this
      rw [e] at this
      exact this
    | true =>
      obtain ⟨ed, hterm⟩ := script_form e
      have hv1 := hv.kp k1 hs d
      rw [ed] at hv1
      cases hv1 with
      | @tup t xs _ et hx =>
        have hz2 : wdAll ((fnsOf d).map fD) + 3 ≤ 400000 := by
          rw [ed] at hz
          exact hz
        refine iteT ⟨_, rfl, t, xs, fnsOf d, rfl, et, hx, by omega, hterm, fun L ys G nL hL hO k2 => ?_⟩
        refine ⟨_, .inl ⟨_, sql_of hL, rfl⟩, ?_⟩
        have := k G (g1.kp0 k2) (k1.trans (k2.more (by simp)))
        unfold isProgD at this
        rw [e] at this
        have el : ys.isEmpty = (allFaults (fnsOf d)).isEmpty := by
          have h1 := hO.len
          clear this hO hL
          generalize allFaults (fnsOf d) = zs at h1
          cases ys with
          | nil => cases zs with
            | nil => rfl
            | cons _ _ => cases h1
          | cons _ _ => cases zs with
            | nil => cases h1
            | cons _ _ => rfl
        rw [el, Bool.not_not]
        exact this
/-! ### check_program, of a program -/
abbrev NCp : List Str := ["program"]
theorem scCheckP : FnScope NCp ["program"] (defScope sCheckP) := ⟨rfl, rfl, rfl, by decide +kernel, rfl, by decide +kernel, by decide +kernel⟩
def spCheckP (ms Ts : List Addr) : Sp := fun vs H Q _ => ∃ (v : V) (d : PyData), vs = [v] ∧ An ms H v d ∧ wd d ≤ 400000 ∧ isProgD d = true ∧ TTs Ts H ∧ (∀ P ∈ Ts, P ∈ ms) ∧ ∀ H', TTs Ts H' → Kp Ts H H' → Q .non H'
theorem ok_checkP (F : KP K w mg a aO) (b : BF base mg a) : FnOk Pr w K mg base CX0 10 (a.A 37) (a.D 37) ["program"] (spCheckP ms a.Ts) := by
  refine F.checkP.F.ok scCheckP (fun vs H Q E h => ?_) (fun cdv Ar outer s0 H vs Q E hr h => ?_)
  · obtain ⟨v, d, rfl, _⟩ := h
    rfl
  · obtain ⟨v, d, rfl, hv, hz, hp, hT, hs, k⟩ := h
    refine ⟨_, pss_one (ps_if (pt_not (pt_val (pe_call (ok_isProg (ms := ms) F.toKF b) (hr.mono (by decide)) (by rfl) F.isProg.g F.isProg.F.kp F.isProg.b .nil pass0 (pa_cons (pv 0) pa_nil))))
        (pss_one ps_never) pss_nil), ?_⟩
    refine ⟨_, rfl, v, d, rfl, hv, hz, hT, hs, fun H1 g1 k1 => ⟨_, rfl, ?_⟩⟩
    rw [hp]
    exact iteF (k H1 g1 k1)
end
end Ey
set_option maxHeartbeats 4000000
namespace Ey
open PySem PySem.Spec L2
/-! ### the program: pairs, powers -/
abbrev sPlain : Stmt := topS 7
abbrev sNat : Stmt := topS 8
abbrev sPair : Stmt := topS 42
abbrev sPower : Stmt := topS 44
def natD : PyData → Bool
  | .int i => decide (0 ≤ i)
  | .none | .bool _ | .str _ | .list _ | .tuple _ | .dict _ => false
def posD : PyData → Bool
  | .int i => decide (0 < i)
  | .none | .bool _ | .str _ | .list _ | .tuple _ | .dict _ => false
def pairD : PyData → Bool
  | .tuple [x, y] => natD x && posD y
  | _ => false
structure PB (K : PySem.W.Frag) (mg : Str → Option Value) (A : Nat → Addr) (D : Nat → FuncData) : Prop where
  B : BI mg
  plain : Df K mg "is_plain_int" sPlain ["thing"] (A 7) (D 7)
  nat : Df K mg "is_natural" sNat ["thing"] (A 8) (D 8)
  pair : Df K mg "is_pair" sPair ["thing"] (A 42) (D 42)
  power : Df K mg "power" sPower ["base", "exponent"] (A 44) (D 44)
section
variable {Pr : Program} {w : World} {K : PySem.W.Frag} {mg : Str → Option Value} {base : Heap} {ms : List Addr} {A : Nat → Addr} {D : Nat → FuncData}
theorem scPlain : FnScope ["thing"] ["thing"] (defScope sPlain) := ⟨rfl, rfl, rfl, by decide +kernel, rfl, by decide +kernel, by decide +kernel⟩
def isIntD : PyData → Bool
  | .int _ => true
  | .none | .bool _ | .str _ | .list _ | .tuple _ | .dict _ => false
def spI (ms : List Addr) (g : PyData → Bool) : Sp := fun vs H Q _ => ∃ (v : V) (d : PyData), vs = [v] ∧ An ms H v d ∧ Q (.bl (g d)) H
theorem ok_plain {x y : Str} {st : Stmt} {f : Addr} {fd : FuncData} (F : Fun K x x st f fd) (sc : FnScope [y] [y] (defScope st)) 
    (ht : ∀ (cdv : Value) (Ar : Around) (outer : List Env) (s : Shared) (H : Hp) (E : XK), PSs (cxOf CX0 Pr w K mg base [y] x (defScope st) f cdv Ar outer s H E).nox (defBody st)
      (tRet (tAndV (tCB (rIsi K) (tCons (tVar 0) (tCons (tC (.ty "int")) tNil))) (tNotV (tCB (rIsi K) (tCons (tVar 0) (tCons (tC (.ty "bool")) tNil))))))) : FnOk Pr w K mg base CX0 1 f fd [y] (spI ms isIntD) := by
  refine F.ok sc (fun vs H Q E h => ?_) (fun cdv Ar outer s H vs Q E hr h => ?_)
  · obtain ⟨v, d, rfl, _⟩ := h
    rfl
  · obtain ⟨v, d, rfl, hv, k⟩ := h
    refine ⟨_, ht cdv Ar outer s H E, ?_⟩
    cases hv with
    | non => exact ⟨_, rfl, _, .ty "int", _, .type "int", false, rfl, .ty "int", .base .non, kit_ty (by decide +kernel), false, rfl, iteF k⟩
    | bl b => exact ⟨_, rfl, _, .ty "int", _, .type "int", true, rfl, .ty "int", .base (.bl b), kit_ty (by decide +kernel), true, rfl, iteT ⟨_, rfl, _, .ty "bool", _, .type "bool", true, rfl, .ty "bool", .base (.bl b), kit_ty (by decide +kernel), _, rfl, k⟩⟩
    | int i => exact ⟨_, rfl, _, .ty "int", _, .type "int", true, rfl, .ty "int", .base (.int i), kit_ty (by decide +kernel), true, rfl, iteT ⟨_, rfl, _, .ty "bool", _, .type "bool", false, rfl, .ty "bool", .base (.int i), kit_ty (by decide +kernel), _, rfl, k⟩⟩
    | str x => exact ⟨_, rfl, _, .ty "int", _, .type "int", false, rfl, .ty "int", .base (.str x), kit_ty (by decide +kernel), false, rfl, iteF k⟩
    | lst e => exact ⟨_, rfl, _, .ty "int", _, .type "int", false, rfl, .ty "int", .base (.lst e), kit_ty (by decide +kernel), false, rfl, iteF k⟩
    | tup e => exact ⟨_, rfl, _, .ty "int", _, .type "int", false, rfl, .ty "int", .base (.tup e), kit_ty (by decide +kernel), false, rfl, iteF k⟩
    | dct e => exact ⟨_, rfl, _, .ty "int", _, .type "int", false, rfl, .ty "int", .base (.dK e), kit_ty (by decide +kernel), false, rfl, iteF k⟩
theorem go_plain (F : PB K mg A D) : FnOk Pr w K mg base CX0 1 (A 7) (D 7) ["thing"] (spI ms isIntD) :=
  ok_plain F.plain.F scPlain fun cdv Ar outer s H E => pss_one (ps_ret (pe_and (pe_callB call_isi (by rfl) F.B.isi (by decide +kernel) (pa_cons (pv 0) (pa_cons (pe_bltn (v := .ty "int") (by rfl) F.B.int (by decide +kernel) rfl) pa_nil)))
      (pe_one (pe_not (pe_callB call_isi (by rfl) F.B.isi (by decide +kernel) (pa_cons (pv 0) (pa_cons (pe_bltn (v := .ty "bool") (by rfl) F.B.bool (by decide +kernel) rfl) pa_nil)))))))
theorem scNat : FnScope ["thing"] ["thing"] (defScope sNat) := ⟨rfl, rfl, rfl, by decide +kernel, rfl, by decide +kernel, by decide +kernel⟩
theorem ok_nat (F : PB K mg A D) : FnOk Pr w K mg base CX0 2 (A 8) (D 8) ["thing"] (spI ms natD) := by
  refine F.nat.F.ok scNat (fun vs H Q E h => ?_) (fun cdv Ar outer s H vs Q E hr h => ?_)
  · obtain ⟨v, d, rfl, _⟩ := h
    rfl
  · obtain ⟨v, d, rfl, hv, k⟩ := h
    refine ⟨_, pss_one (ps_ret (pe_and (pe_call (go_plain (ms := ms) F) hr (by rfl) F.plain.g F.plain.F.kp F.plain.b .nil pass0 (pa_cons (pv 0) pa_nil)) (pe_one (pe_cmpR op_ge (pv 0) pe_int (nomark _))))), ?_⟩
    refine ⟨_, rfl, v, d, rfl, hv, _, rfl, ?_⟩
    cases hv with
    | int i =>
      refine iteT ⟨_, rfl, _, _, rfl, rfl, ?_⟩
      exact k
    | non => exact iteF k
    | bl b => exact iteF k
    | str x => exact iteF k
    | lst e => exact iteF k
    | tup e => exact iteF k
    | dct e => exact iteF k
theorem scPair : FnScope ["thing"] ["thing"] (defScope sPair) := ⟨rfl, rfl, rfl, by decide +kernel, rfl, by decide +kernel, by decide +kernel⟩
theorem ok_pair (F : PB K mg A D) : FnOk Pr w K mg base CX0 3 (A 42) (D 42) ["thing"] (spI ms pairD) := by
  have B := F.B
  refine F.pair.F.ok scPair (fun vs H Q E h => ?_) (fun cdv Ar outer s H vs Q E hr h => ?_)
  · obtain ⟨v, d, rfl, _⟩ := h
    rfl
  · obtain ⟨v, d, rfl, hv, k⟩ := h
    refine ⟨_, pss_cons (ps_if (PW.pt (pw_or (pt_not (pt_val (pe_callB call_isi (by rfl) B.isi (by decide +kernel) (pa_cons (pv 0) (pa_cons (pe_bltn (v := .ty "tuple") (by rfl) B.tuple (by decide +kernel) rfl) pa_nil)))))
        (pw_or1 (pt_cmpR op_ne (pe_callB call_len_seq (by rfl) B.len PySem.boot_len (pa_cons (pv 0) pa_nil)) pe_int (nomark _))))) (pss_one (ps_ret pe_bl)) pss_nil)
      (pss_one (ps_ret (pe_and (pe_call (ok_nat (ms := ms) F) hr (by rfl) F.nat.g F.nat.F.kp F.nat.b .nil pass0 (pa_cons (pe_ix ix_tup (pv 0) pe_int (fun _ _ => rfl)) pa_nil)) (pe_and (pe_call (ok_nat (ms := ms) F) hr (by rfl) F.nat.g F.nat.F.kp F.nat.b .nil pass0 (pa_cons (pe_ix ix_tup (pv 0) pe_int (fun _ _ => rfl)) pa_nil)) (pe_one (pe_cmpR op_gt (pe_ix ix_tup (pv 0) pe_int (fun _ _ => rfl)) pe_int (nomark _))))))), ?_⟩
    obtain ⟨ty, hty, kty⟩ := hv.tupK (K := K)
    refine ⟨_, rfl, _, .ty "tuple", ty, .type "tuple", _, rfl, .ty "tuple", hty, kty, ?_⟩
    cases hv with
    | non => exact ⟨false, rfl, iteT k⟩
    | bl b => exact ⟨false, rfl, iteT k⟩
    | int i => exact ⟨false, rfl, iteT k⟩
    | str g => exact ⟨false, rfl, iteT k⟩
    | lst e => exact ⟨false, rfl, iteT k⟩
    | dct e => exact ⟨false, rfl, iteT k⟩
    | @tup t xs ds e hds =>
      refine ⟨true, rfl, iteF ⟨_, rfl, t, _, rfl, .inr (sqt_of e), rfl, _, rfl, ?_⟩⟩
      have hl := hds.length
      by_cases h2 : xs.length = 2
      · match xs, ds, hds, h2 with
        | [v0, v1], [x, y], .cons a0 (.cons a1 .nil), _ =>
          refine iteF ?_
          have k2 : Q (.bl (natD x && posD y)) H := k
          refine ⟨_, rfl, t, _, _, _, rfl, rfl, sqt_of e, atI_nat (j := 0) rfl, v0, x, rfl, a0, _, rfl, ?_⟩
          cases e0 : natD x with
          | false =>
            rw [e0] at k2
            exact iteF k2
          | true =>
            rw [e0] at k2
            refine iteT ⟨_, rfl, t, _, _, _, rfl, rfl, sqt_of e, atI_nat (j := 1) rfl, v1, y, rfl, a1, _, rfl, ?_⟩
            cases e1 : natD y with
            | false =>
              have : posD y = false := by
                cases y with
                | int i =>
                  have : ¬ 0 ≤ i := of_decide_eq_false e1
                  exact decide_eq_false (by omega)
                | none => rfl
                | bool _ => rfl
                | str _ => rfl
                | list _ => rfl
                | tuple _ => rfl
                | dict _ => rfl
              rw [this] at k2
              exact iteF k2
            | true =>
              cases a1 with
              | int i => exact iteT ⟨_, rfl, t, _, _, _, rfl, rfl, sqt_of e, atI_nat (j := 1) rfl, _, _, rfl, rfl, k2⟩
              | non => cases e1
              | bl _ => cases e1
              | str _ => cases e1
              | lst _ _ _ => cases e1
              | tup _ _ => cases e1
              | dct _ _ _ => cases e1
      · have : pairD (.tuple ds) = false := by
          match ds, hl with
          | [], _ => rfl
          | [_], _ => rfl
          | [_, _], hl => exact absurd hl h2
          | _ :: _ :: _ :: _, _ => rfl
        rw [this] at k
        rw [decide_eq_false (show ¬ V.int ((xs.length : Nat) : Int) = V.int 2 from fun z => h2 (by have := V.int.inj z; omega))]
        exact iteT k
end
end Ey
set_option exponentiation.threshold 1000
set_option maxHeartbeats 4000000
namespace Ey
open PySem PySem.Spec L2
theorem and_one : ∀ l : Fin 16, Builtin.bitAnd (l.1 : Int) 1 = ((l.1 % 2 : Nat) : Int) := by decide +kernel
theorem pow_lt {b n : Nat} (hb : b < 2 ^ 20) (hn : 0 < n) : b ^ n < 2 ^ (20 * n) := by
  rw [Nat.pow_mul]
  exact Nat.pow_lt_pow_left hb (by omega)
theorem cast_pow (b n : Nat) : ((b ^ n : Nat) : Int).natAbs = b ^ n := by
  rw [Int.natAbs_natCast]
theorem shr1 (n : Nat) : ((n : Nat) : Int) / 2 ^ (1 : Int).toNat = ((n / 2 : Nat) : Int) := by
  rw [show (2 : Int) ^ (1 : Int).toNat = 2 from rfl]
  omega
theorem half_lt {n : Nat} (h : ¬ n = 0) : ((n / 2 : Nat) : Int).toNat < ((n : Nat) : Int).toNat := by omega
/-- the parts of an exponent -/
theorem exp_step (e i : Nat) : e % 2 ^ (i + 1) = e % 2 ^ i + 2 ^ i * (e / 2 ^ i % 2) := by
  rw [Nat.pow_succ, Nat.mod_mul]
def tTr (K : PySem.W.Frag) (te : TE) : TT := fun σ H Q => te σ H fun x H1 => ∃ k, TruV K x H1 k ∧ Q k H1
theorem while_ex {c : TT} {tb : TS} {D : Ends} {σ : L2.St} {H : Hp} (Pv : L2.St → Hp → Prop) (μ : L2.St → Hp → Nat) (h0 : Pv σ H)
    (hs : ∀ σ H, Pv σ H → c σ H fun b H1 => if b = true then tb { D with nx := fun σ' H' => Pv σ' H' ∧ μ σ' H' < μ σ H, ct := fun σ' H' => Pv σ' H' ∧ μ σ' H' < μ σ H, bk := D.nx } σ H1 else D.nx σ H1)
    (mono : ∀ σ H Q Q', (∀ b H1, Q b H1 → Q' b H1) → c σ H Q → c σ H Q') :
    ∃ W : Nat → L2.St → Hp → Prop, (∃ m, W m σ H) ∧ ∀ m σ H, W m σ H → c σ H fun b H1 => if b = true then ∃ N : L2.St → Hp → Prop, (∀ σ' H', N σ' H' → ∃ m', m' < m ∧ W m' σ' H') ∧ tb { D with nx := N, ct := N, bk := D.nx } σ H1 else D.nx σ H1 :=
  while_by Pv μ h0 hs mono
section
variable {Pr : Program} {w : World} {K : PySem.W.Frag} {mg : Str → Option Value} {base : Heap} {ms : List Addr} {A : Nat → Addr} {D : Nat → FuncData}
abbrev NPw : List Str := ["base", "exponent", "found", "factor", "left"]
theorem scPower : FnScope NPw ["base", "exponent"] (defScope sPower) := ⟨rfl, rfl, rfl, by decide +kernel, rfl, by decide +kernel, by decide +kernel⟩
def spPow : Sp := fun vs H Q _ => ∃ (b e : Nat), vs = [.int b, .int e] ∧ b < 2 ^ 20 ∧ e < 16 ∧ Q (.int ((b ^ e : Nat) : Int)) H
theorem ok_power (F : PB K mg A D) : FnOk Pr w K mg base CX0 1 (A 44) (D 44) ["base", "exponent"] spPow := by
  refine F.power.F.ok scPower (fun vs H Q E h => ?_) (fun cdv Ar outer s H vs Q E hr h => ?_)
  · obtain ⟨b, e, rfl, _⟩ := h
    rfl
  · obtain ⟨b, e, rfl, hb, he, k⟩ := h
    refine ⟨_, pss_cons (ps_set (i := 2) scPower.nd rfl (.inl rfl) pe_int) (pss_cons (ps_set (i := 3) scPower.nd rfl (.inl rfl) (pv 0)) (pss_cons (ps_set (i := 4) scPower.nd rfl (.inl rfl) (pv 1))
      (pss_cons (ps_while PassesOwn.never (tc := tTr K (tVar 4)) (pt_truth (pv 4) (by intro _; rfl)) (pss_cons (ps_if (pt_truth (pe_op op_and (pv 4) pe_int) (by intro _; rfl)) (pss_one (ps_set (i := 2) scPower.nd rfl (.inl rfl) (pe_op op_mulW (pv 2) (pv 3)))) pss_nil)
        (pss_cons (ps_set (i := 3) scPower.nd rfl (.inl rfl) (pe_op op_mulW (pv 3) (pv 3))) (pss_one (ps_set (i := 4) scPower.nd rfl (.inl rfl) (pe_op op_shr (pv 4) pe_int))))))
      (pss_one (ps_ret (pv 2)))))), ?_⟩
    refine ⟨_, rfl, _, rfl, ?_⟩
    refine while_ex (fun σ H2 => H2 = H ∧ ∃ i, i ≤ 4 ∧ σ = [some (.int b), some (.int e), some (.int ((b ^ (e % 2 ^ i) : Nat) : Int)), some (.int ((b ^ 2 ^ i : Nat) : Int)), some (.int ((e / 2 ^ i : Nat) : Int))])
      (fun σ _ => match σ with | [_, _, _, _, some (.int z)] => z.toNat | _ => 0) ?_ ?_ ?_
    · refine ⟨rfl, 0, by decide, ?_⟩
      show [some (V.int b), some (V.int e), some (V.int 1), some (V.int b), some (V.int e)] = _
      simp [Nat.mod_one]
    · rintro σ H2 ⟨rfl, i, hi, rfl⟩
      refine ⟨_, rfl, _, rfl, ?_⟩
      have hf : b ^ (e % 2 ^ i) < 2 ^ 400 := by
        refine Nat.lt_of_le_of_lt (Nat.pow_le_pow_left (Nat.le_of_lt hb) _) ?_
        rw [← Nat.pow_mul]
        refine Nat.pow_lt_pow_right (by decide) ?_
        have := Nat.mod_le e (2 ^ i)
        omega
      have hgi : 2 ^ i ≤ 16 := Nat.pow_le_pow_right (by decide) hi
      have hg : b ^ 2 ^ i < 2 ^ 400 := by
        refine Nat.lt_of_le_of_lt (Nat.pow_le_pow_left (Nat.le_of_lt hb) _) ?_
        rw [← Nat.pow_mul]
        exact Nat.pow_lt_pow_right (by decide) (by omega)
      by_cases h0 : e / 2 ^ i = 0
      · have el : e % 2 ^ i = e := Nat.mod_eq_of_lt ((Nat.div_eq_zero_iff_lt (Nat.pow_pos (by decide))).mp h0)
        rw [h0, el]
        exact iteF ⟨_, rfl, k⟩
      · have hi3 : i ≤ 3 := by
          rcases Nat.lt_or_ge i 4 with h | h
          · omega
          · have : i = 4 := by omega
            subst this
            exact absurd (Nat.div_eq_of_lt (by omega)) h0
        have hle : e / 2 ^ i < 16 := Nat.lt_of_le_of_lt (Nat.div_le_self _ _) he
        have ht : (((e / 2 ^ i : Nat) : Int) != 0) = true := by
          simp only [bne_iff_ne, ne_eq]
          omega
        rw [ht]
        have hand := and_one ⟨e / 2 ^ i, hle⟩
        have hand : Builtin.bitAnd ((e / 2 ^ i : Nat) : Int) 1 = ((e / 2 ^ i % 2 : Nat) : Int) := hand
        have hstep := exp_step e i
        have hsq : ((b ^ 2 ^ i : Nat) : Int) * ((b ^ 2 ^ i : Nat) : Int) = ((b ^ 2 ^ (i + 1) : Nat) : Int) := by
          rw [← Int.natCast_mul, ← Nat.pow_add, Nat.pow_succ, Nat.mul_two]
        have hsh : ((e / 2 ^ i : Nat) : Int) / 2 ^ (1 : Int).toNat = ((e / 2 ^ (i + 1) : Nat) : Int) := by
          rw [shr1, Nat.pow_succ, ← Nat.div_div_eq_div_mul]
        have cw : CMulW ((b ^ 2 ^ i : Nat) : Int) ((b ^ 2 ^ i : Nat) : Int) := wide_mul (a := 400) (b := 400) (by rw [cast_pow]; exact hg) (by rw [cast_pow]; exact hg) (by decide) (by decide) (by decide)
        have hlt : (((e / 2 ^ i : Nat) : Int) / 2 ^ (1 : Int).toNat).toNat < ((e / 2 ^ i : Nat) : Int).toNat := by
          rw [shr1]
          exact half_lt h0
        refine iteT ⟨_, rfl, _, _, rfl, rfl, _, rfl, ?_⟩
        rw [hand]
        by_cases h1 : e / 2 ^ i % 2 = 1
        · rw [h1]
          have hfg : ((b ^ (e % 2 ^ i) : Nat) : Int) * ((b ^ 2 ^ i : Nat) : Int) = ((b ^ (e % 2 ^ (i + 1)) : Nat) : Int) := by
            rw [← Int.natCast_mul, ← Nat.pow_add, hstep, h1, Nat.mul_one]
          refine iteT ⟨_, rfl, _, rfl, _, _, rfl, rfl, wide_mul (a := 400) (b := 400) (by rw [cast_pow]; exact hf) (by rw [cast_pow]; exact hg) (by decide) (by decide) (by decide), ?_⟩
          refine ⟨_, rfl, _, rfl, _, _, rfl, rfl, cw, _, rfl, _, _, rfl, rfl, (by show (0 : Int) ≤ 1; decide), ⟨rfl, i + 1, by omega, ?_⟩, hlt⟩
          show [some (V.int b), some (V.int e), some (V.int (((b ^ (e % 2 ^ i) : Nat) : Int) * ((b ^ 2 ^ i : Nat) : Int))), some (V.int (((b ^ 2 ^ i : Nat) : Int) * ((b ^ 2 ^ i : Nat) : Int))), some (V.int (((e / 2 ^ i : Nat) : Int) / 2 ^ (1 : Int).toNat))] = _
          rw [hfg, hsq, hsh]
        · have h1' : e / 2 ^ i % 2 = 0 := by omega
          rw [h1']
          have he2 : e % 2 ^ (i + 1) = e % 2 ^ i := by rw [hstep, h1', Nat.mul_zero, Nat.add_zero]
          refine iteF ⟨_, rfl, _, rfl, _, _, rfl, rfl, cw, _, rfl, _, _, rfl, rfl, (by show (0 : Int) ≤ 1; decide), ⟨rfl, i + 1, by omega, ?_⟩, hlt⟩
          show [some (V.int b), some (V.int e), some (V.int ((b ^ (e % 2 ^ i) : Nat) : Int)), some (V.int (((b ^ 2 ^ i : Nat) : Int) * ((b ^ 2 ^ i : Nat) : Int))), some (V.int (((e / 2 ^ i : Nat) : Int) / 2 ^ (1 : Int).toNat))] = _
          rw [he2, hsq, hsh]
    · intro σ H2 Q1 Q2 hm h
      obtain ⟨v, e1, kk, t, q⟩ := h
      exact ⟨v, e1, kk, t, hm _ _ q⟩
end
end Ey
set_option maxHeartbeats 2000000
namespace Ey
open PySem PySem.Spec PyProof.Rows L2 GxR
/-! ### all(e for x in it), e any expression that HandS can tell -/
/-- the generator's own frame -/
def gxOfC (X : Cx) (A : Around) (s : Shared) (H : Hp) (ge : Env) (x : Str) (ys : List Str) (fp : List Addr) : Cx :=
  { X with A := A, N := x :: ys, s_0 := s, H_0 := H, env := ge, outer := X.stack, stack := ge :: X.stack, ex := fp, fn := fun _ => false, calm := true, pn := [], xe := fun _ _ => False }
abbrev gcodeC (elt iter : Expr) (x : Str) (px : Pos) (sc : Scope) (gp : Pos) (it : Addr) (ge : Env) : Code := .compLoop (.GeneratorExp elt [⟨.Name x px, iter, [], 0⟩] sc gp) 0 (.ref it) .none ge
/-- the generator stands at turn i -/
structure GInC (Xg : Cx) (cs : L2.St) (fp : List Addr) (tn : Nat → Heap → Prop) (ga : Addr) (go : Obj) (g : Nat) (W : Nat → Hp → Prop) (i : Nat) (s : Shared) : Prop where
  ex : ∃ (H : Hp) (y : Option V), Inv Xg [(ga, go)] (y :: cs) H s ∧ tn i s.heap ∧ (∀ b ∈ fp, FpOk Xg [(ga, go)] H b) ∧ W i H
  sz : g + 1 ≤ s.gens.size
/-- it is over -/
def GEdC (Xg : Cx) (cs : L2.St) (ga : Addr) (go : Obj) (Qe : Hp → Prop) (s : Shared) : Prop := ∃ (H : Hp) (y : Option V), Inv Xg [(ga, go)] (y :: cs) H s ∧ Qe H
def YGC (GI : Nat → Shared → Prop) (GF : Shared → Prop) (n0 : Nat) : Protocol := fun m _ v s kap => ∃ b : Bool, v = .bool b ∧ (b = true → GI (n0 - m) s ∧ ∀ s'', GI (n0 - m) s'' → kap (.send .none) s'') ∧ (b = false → GF s)
def RGC (GT : Shared → Prop) : GenEnd := fun _ _ r s => r = .ok .next ∧ GT s
section
variable {X : Cx} {A : Around} {sG : Shared} {HG : Hp} {ge : Env} {x : Str} {fp : List Addr} {tn : Nat → Heap → Prop} {ga it : Addr} {go : Obj} {g : Nat} {W : Nat → Hp → Prop} {Qf Qt : Hp → Prop} {J : It} {elt iter : Expr} {px gp : Pos} {sc : Scope} {te : TE} {n0 : Nat} {ys : List Str} {cs : L2.St}
theorem seg_gloopC (T : Turn X.prog X.w X.K (.Name x px) J fp it tn) (hx : ge.scope.names.lookup x = some .local) (hnd : (x :: ys).Nodup) (hco : ge.scope.isCoroutine = false)
    (hel : PE (gxOfC X (A.over (gcodeC elt iter x px sc gp it ge) []) sG HG ge x ys fp) elt te)
    (hW : ∀ i H, W i H → (i < n0 ∧ J.go i H ∧ ∀ v H', J.yld i H v H' → te (some v :: cs) H' fun y H3 => ∃ b, y = .bl b ∧ if b = true then W (i + 1) H3 else Qf H3) ∨ (J.stop i H ∧ Qt H)) :
    ∀ (k i : Nat) (s₀ s : Shared), n0 - i = k → GInC (gxOfC X (A.over (gcodeC elt iter x px sc gp it ge) []) sG HG ge x ys fp) cs fp tn ga go g W i s →
      Seg (model X.prog X.w) A (RGC (GEdC (gxOfC X (A.over (gcodeC elt iter x px sc gp it ge) []) sG HG ge x ys fp) cs ga go Qt))
        (YGC (GInC (gxOfC X (A.over (gcodeC elt iter x px sc gp it ge) []) sG HG ge x ys fp) cs fp tn ga go g W) (GEdC (gxOfC X (A.over (gcodeC elt iter x px sc gp it ge) []) sG HG ge x ys fp) cs ga go Qf) n0) (n0 - i) s₀
        (gcodeC elt iter x px sc gp it ge) ((model X.prog X.w).den (gcodeC elt iter x px sc gp it ge)) [] s := by
  generalize hXg : gxOfC X (A.over (gcodeC elt iter x px sc gp it ge) []) sG HG ge x ys fp = Xg at *
  have eP : Xg.prog = X.prog := by rw [← hXg]; rfl
  have eW : Xg.w = X.w := by rw [← hXg]; rfl
  have eK : Xg.K = X.K := by rw [← hXg]; rfl
  have eC : Xg.calm = true := by rw [← hXg]; rfl
  have eA : Xg.A = A.over (gcodeC elt iter x px sc gp it ge) [] := by rw [← hXg]; rfl
  have eE : Xg.env = ge := by rw [← hXg]; rfl
  have eN : Xg.N = x :: ys := by rw [← hXg]; rfl
  have eX : Xg.xe = fun _ _ => False := by rw [← hXg]; rfl
  have ePn : Xg.pn = [] := by rw [← hXg]; rfl
  have stat : ∀ {pins : List (Addr × Obj)} {H H' : Hp}, (∀ b ∈ fp, FpOk Xg pins H b) → (∀ b ∈ fp, H' b = none) → ∀ b ∈ fp, FpOk Xg pins H' b := fun f2 hn b hb => ⟨hn b hb, (f2 b hb).2⟩
  intro k
  induction k with
  | zero =>
    intro i s₀ s hk gi
    obtain ⟨⟨H, y, I, st, fo, w⟩, sz⟩ := gi
    rcases hW i H w with ⟨lt, _⟩ | ⟨stop, qt⟩
    · omega
    show Seg _ A _ _ _ s₀ _ ((compTurn (.GeneratorExp elt [⟨.Name x px, iter, [], 0⟩] sc gp) 0 (.ref it) .none ge).onRaise (leaving ge)) [] s
    rw [compTurn_gen, Sem.onRaise_eq_wrap]
    refine seg_bind_wrap (wpAny_standAt ?_)
    refine seg_bind_wrap (eA ▸ wpAny_mono (T.done Xg eP eW eK eC i _ s (y :: cs) H (fun _ _ => False) I fo st stop) (fun r s1 ⟨hr, I1⟩ => ?_) fun _ _ e => e.elim)
    subst hr
    exact seg_end (.ok .next) ⟨rfl, H, y, I1, qt⟩
  | succ k ih =>
    intro i s₀ s hk gi
    obtain ⟨⟨H, y, I, st, fo, w⟩, sz⟩ := gi
    show Seg _ A _ _ _ s₀ _ ((compTurn (.GeneratorExp elt [⟨.Name x px, iter, [], 0⟩] sc gp) 0 (.ref it) .none ge).onRaise (leaving ge)) [] s
    rw [compTurn_gen, Sem.onRaise_eq_wrap]
    refine seg_bind_wrap (wpAny_standAt ?_)
    rcases hW i H w with ⟨lt, gg, step⟩ | ⟨stop, qt⟩
    · refine seg_bind_wrap (eA ▸ GenW.wpAny_gsz sz (wpAny_mono (T.item Xg eP eW eK eC i _ s (y :: cs) H (fun _ _ => False) I fo st gg) (fun r s1 ⟨u, hr, rest⟩ sz1 => ?_) fun _ _ e _ => e.elim))
      subst hr
      refine seg_bind_wrap (eA ▸ GenW.wpAny_gsz sz1 (wpAny_mono rest (fun _ s2 ⟨v, H2, I2, rv, yl, st2, fr2⟩ sz2 => ?_) fun _ _ e _ => e.elim))
      have fo2 := stat fo fr2
      have I2' := I2.pinned fo2 (T.obj _ _ st2)
      have pgn : PG Xg (.Name x px) (gName 0) := pg_name (by rw [eN]; exact hnd) (by rw [eN]; rfl) (.inl (by rw [eE]; exact hx)) (.inr (by rw [eE]; exact hx))
      have run1 := pgn.run _ s2 (y :: cs) H2 v u (fun σ' H' => σ' = some v :: cs ∧ H' = H2) I2' rv ⟨rfl, rfl⟩
      rw [eE, eX] at run1
      refine seg_bind_wrap (eA ▸ GenW.wpAny_gsz sz2 (wpAny_mono (eP ▸ eW ▸ run1) (fun _ s3 ⟨σ3, H3, I3, e3, e4⟩ sz3 => ?_) fun _ _ e _ => e.elim))
      subst e3 e4
      simp only [List.forIn_nil]
      refine seg_bind_wrap (wpAny_pure ?_)
      rw [if_pos rfl]
      have hy : ∀ v, yieldOut ge v = yieldValue v := fun v => by simp only [yieldOut, hco, Bool.false_eq_true, if_false]
      simp only [hy]
      rw [Sem.bind_eq_wrap', Sem.bind_eq_wrap', Sem.wrap_wrap, Sem.wrap_wrap]
      have run2 := hel.run _ s3 (some v :: cs) H3 _ I3 (step v H3 yl)
      rw [eE, eX] at run2
      refine seg_wrap (eA ▸ GenW.wpAny_gsz sz3 (wpAny_mono (eP ▸ eW ▸ run2) (fun z s4 ⟨zv, H4, I4, rz, b, ez, q⟩ sz4 => ?_) fun _ _ e _ => e.elim))
      subst ez
      have ez' : z = .bool b := rz
      subst ez'
      have hn : n0 - i = (n0 - (i + 1)) + 1 := by omega
      have hm : n0 - (n0 - (i + 1)) = i + 1 := by omega
      rw [hn]
      have st4 : tn (i + 1) s4.heap := T.keep _ _ _ st2 fun b hb o e => (I4.pin (b, o) (List.mem_append_right _ (List.mem_append_right _ (mem_pinsAt hb e)))).1
      have fr4 : ∀ b ∈ fp, H4 b = none := fun b hb => by
        obtain ⟨o, e, d⟩ := T.obj _ _ st2 b hb
        exact (I4.pin (b, o) (List.mem_append_right _ (List.mem_append_right _ (mem_pinsAt hb e)))).2.1
      refine seg_at (seg_yield rfl rfl rfl ⟨b, rfl, fun hb => ?_, fun hb => ?_⟩)
      · rw [hb, if_pos rfl] at q
        rw [hm]
        exact ⟨⟨⟨H4, _, I4.unpinned, st4, stat fo fr4, q⟩, sz4⟩, fun s'' gi => seg_again rfl (ih (i + 1) s'' s'' (by omega) gi)⟩
      · rw [hb, if_neg Bool.false_ne_true] at q
        exact ⟨H4, _, I4.unpinned, q⟩
    · refine seg_bind_wrap (eA ▸ wpAny_mono (T.done Xg eP eW eK eC i _ s (y :: cs) H (fun _ _ => False) I fo st stop) (fun r s1 ⟨hr, I1⟩ => ?_) fun _ _ e => e.elim)
      subst hr
      exact seg_end (.ok .next) ⟨rfl, H, y, I1, qt⟩
/-- the generator as its consumer has it -/
def CStC (M : Model) (A : Around) (R : GenEnd) (Y : Protocol) (GI : Nat → Shared → Prop) (g n0 i : Nat) (s : Shared) : Prop :=
  GI i s ∧ ∃ gs, s.gens[g]? = some gs ∧ ∀ s'', GI i s'' → gs.Goes M A R Y (n0 - i) (.send .none) s''
theorem Inv.gensC {Xg : Cx} {pins : List (Addr × Obj)} {σ : L2.St} {H : Hp} {s : Shared} {gs : Array GenState} (I : Inv Xg pins σ H s) (h : AllBare gs) : Inv Xg pins σ H { s with gens := gs } :=
  ⟨I.ok, I.os, h, I.base, I.loc, I.cell, I.free, I.freeC, I.pin, I.hok, I.len⟩
theorem GInC.set {Xg : Cx} {i : Nat} {s : Shared} {gs : GenState} (h : GInC Xg cs fp tn ga go g W i s) (hb : gs.bare = true) : GInC Xg cs fp tn ga go g W i (s.setGen g gs) := by
  obtain ⟨⟨H, y, I, st, fo, w⟩, sz⟩ := h
  refine ⟨⟨H, y, Inv.gensC I (L2.allBare_setGen I.bare hb), st, fo, w⟩, ?_⟩
  rw [GenW.setGen_size]
  exact sz
theorem GEdC.set {Xg : Cx} {s : Shared} {gs : GenState} {Qe : Hp → Prop} (h : GEdC Xg cs ga go Qe s) (hb : gs.bare = true) : GEdC Xg cs ga go Qe (s.setGen g gs) := by
  obtain ⟨H, y, I, q⟩ := h
  exact ⟨H, y, Inv.gensC I (L2.allBare_setGen I.bare hb), q⟩
theorem gen_nextC {Xg : Cx} {E : Value → Shared → Prop} {s : Shared} {i : Nat} (hc : go.cls = .type "generator") (hd : ∃ nm qn, go.data = .fields #[.int g 0, nm, qn]) (hs : go.slots = #[]) (hh : A.handled = none) (hroom : A.depth < recursionLimit)
    (h : CStC (model X.prog X.w) A.in1 (RGC (GEdC Xg cs ga go Qt)) (YGC (GInC Xg cs fp tn ga go g W) (GEdC Xg cs ga go Qf) n0) (GInC Xg cs fp tn ga go g W) g n0 i s) :
    wpAny (model X.prog X.w) A (pyNext (.ref ga)) (fun r s' => (r = some (.bool true) ∧ i < n0 ∧ CStC (model X.prog X.w) A.in1 (RGC (GEdC Xg cs ga go Qt)) (YGC (GInC Xg cs fp tn ga go g W) (GEdC Xg cs ga go Qf) n0) (GInC Xg cs fp tn ga go g W) g n0 (i + 1) s') ∨
      (r = some (.bool false) ∧ GEdC Xg cs ga go Qf s') ∨ (r = none ∧ GEdC Xg cs ga go Qt s')) E s := by
  obtain ⟨gi, gs, hgs, hgo⟩ := h
  obtain ⟨nm, qn, hd⟩ := hd
  have hg : s.heap.IsGen ga g := by
    obtain ⟨⟨H, y, I, _⟩, _⟩ := gi
    exact ⟨go, nm, qn, (I.pin (ga, go) (List.mem_append_right _ (List.mem_singleton.mpr rfl))).1, hc, hd, hs⟩
  have hl : s.heap.NoLimit := by
    obtain ⟨⟨H, y, I, _⟩, _⟩ := gi
    exact I.nolimit
  refine wpAny_pyNext_genexpQ (P := fun _ _ s₁ => GEdC Xg cs ga go Qt s₁) hh hl hroom hg hgs (hgo _ (gi.set rfl)) (fun v s₁ gs' hb hv => ?_) (fun s₁ hp h' hk => ?_)
  · obtain ⟨b, rfl, ht, hf⟩ := hv
    cases b with
    | false => exact .inr (.inl ⟨rfl, (hf rfl).set hb⟩)
    | true =>
      obtain ⟨g1, g2⟩ := ht rfl
      cases hn : n0 - i with
      | zero =>
        rw [hn] at g1 g2
        exact (g2 s₁ g1).elim
      | succ m =>
        rw [hn] at g1 g2
        have e : n0 - (m + 1 - 1) = i + 1 := by omega
        rw [e] at g1 g2
        refine .inl ⟨rfl, by omega, g1.set hb, gs', L2.setGen_at (Nat.lt_of_succ_le g1.sz), fun s'' gi'' => ?_⟩
        have e2 : n0 - (i + 1) = m := by omega
        rw [e2]
        exact g2 s'' gi''
  · obtain ⟨H, y, I, q⟩ := hp
    refine .inr (.inr ⟨rfl, H, y, ?_, q⟩)
    have I2 := Inv.gensC (gs := (s₁.setGen g .finished).gens) I (L2.allBare_setGen I.bare rfl)
    exact I2.kept (t' := s₁.toks) hk
theorem all_loopXC {Xg : Cx} {R : Result → Shared → Prop} (hc : go.cls = .type "generator") (hd : ∃ nm qn, go.data = .fields #[.int g 0, nm, qn]) (hs : go.slots = #[]) (hh : A.handled = none) (hroom : A.in1.depth < recursionLimit)
    (hT : ∀ s', GEdC Xg cs ga go Qt s' → R (.ok (.ret (.bool true))) s') (hF : ∀ s', GEdC Xg cs ga go Qf s' → R (.ok (.ret (.bool false))) s') : ∀ (k i : Nat) (s : Shared), n0 - i = k →
    CStC (model X.prog X.w) A.in1.in1 (RGC (GEdC Xg cs ga go Qt)) (YGC (GInC Xg cs fp tn ga go g W) (GEdC Xg cs ga go Qf) n0) (GInC Xg cs fp tn ga go g W) g n0 i s → codeAny (model X.prog X.w) A (.builtin "all.loop" ⟨[.ref ga], []⟩) R s := by
  intro k
  induction k with
  | zero =>
    intro i s hk cs
    refine codeAny_builtin F.entry_all_loop ?_
    rw [Around.under_plainId F.plain_all_loop _]
    show wpAny _ A.in1 (pyNext (.ref ga) >>= _) _ _ s
    refine wpAny_bind (wpAny_mono (gen_nextC hc hd hs hh hroom cs) (fun r s' h => ?_) fun _ _ e => e)
    rcases h with ⟨rfl, lt, _⟩ | ⟨rfl, q⟩ | ⟨rfl, q⟩
    · omega
    · refine wpAny_bind (wpAny_holding (wpAny_truthy_bool ?_))
      refine wpAny_bind (wpAny_letGo ?_)
      simp only [Bool.false_eq_true, if_false]
      exact wpAny_bind (wpAny_rule (wpAny_pure (hF s' q)))
    · exact wpAny_bind (wpAny_rule (wpAny_pure (hT s' q)))
  | succ k ih =>
    intro i s hk cs
    refine codeAny_builtin F.entry_all_loop ?_
    rw [Around.under_plainId F.plain_all_loop _]
    show wpAny _ A.in1 (pyNext (.ref ga) >>= _) _ _ s
    refine wpAny_bind (wpAny_mono (gen_nextC hc hd hs hh hroom cs) (fun r s' h => ?_) fun _ _ e => e)
    rcases h with ⟨rfl, lt, cs'⟩ | ⟨rfl, q⟩ | ⟨rfl, q⟩
    · refine wpAny_bind (wpAny_holding (wpAny_truthy_bool ?_))
      refine wpAny_bind (wpAny_letGo ?_)
      simp only [if_true]
      exact wpAny_pure ⟨plainId_quiet F.plain_all_loop _, ih (i + 1) s' (by omega) cs'⟩
    · refine wpAny_bind (wpAny_holding (wpAny_truthy_bool ?_))
      refine wpAny_bind (wpAny_letGo ?_)
      simp only [Bool.false_eq_true, if_false]
      exact wpAny_bind (wpAny_rule (wpAny_pure (hF s' q)))
    · exact wpAny_bind (wpAny_rule (wpAny_pure (hT s' q)))
end
end Ey
set_option maxHeartbeats 4000000
namespace Ey
open PySem PySem.Spec PyProof.Rows L2 GxR
section
variable {X : Cx} {pins : List (Addr × Obj)} {σ : L2.St} {H : Hp} {s : Shared}
/-- the generator's frame begins -/
theorem inv_gxC {A : Around} {sc : Scope} {x : Str} {ys : List Str} {cs : L2.St} {fp : List Addr} {code : Value} {h5 : Heap} {g5 : Array GenState} {t5 : Nat} {m : Str → Option Value} (I : Inv X pins σ H s)
    (hk : sc.kind = .function) (hc : ∀ y ∈ sc.names, y.2 ≠ .cell) (hfree : ∀ y ∈ sc.names, y.2 = .free → ∃ c, X.env.cells.lookup y.1 = some c) (hvis : ∀ y ∈ sc.names, y.2 = .free → X.env.scope.names.lookup y.1 = some .cell ∨ X.env.scope.names.lookup y.1 = some .free)
    (hys : ∀ y ∈ ys, sc.names.lookup y = some .free) (hln : cs.length = ys.length) (hsel : ∀ (j : Nat) (y : Str) (v : V), ys[j]? = some y → cs[j]? = some (some v) → ∃ i : Nat, X.N[i]? = some y ∧ σ[i]? = some (some v))
    (hns : h5.Ns s.heap.objs.size m) (keep : ∀ b o, s.heap.get? b = some o → h5.get? b = some o) (bare : AllBare g5) (hh : A.handled = none)
    (fr : A.frames = some (genEnv sc (cloFrom X.env.cells sc.names []) s.heap.objs.size code builtinsNs X.env :: X.stack)) (ho : ∀ b ∈ fp, FpOk X pins H b ∧ b < s.heap.objs.size) :
    Inv (gxOfC X A s H (genEnv sc (cloFrom X.env.cells sc.names []) s.heap.objs.size code builtinsNs X.env) x ys fp) [] (none :: cs) H { s with heap := h5, gens := g5, toks := t5 } := by
  have cm : ∀ {y c}, (cloFrom X.env.cells sc.names []).lookup y = some c → X.env.cells.lookup y = some c := fun {y c} e => by
    rcases cloFrom_mem (PySem.mem_of_lookup e) with hm | ⟨q1, q2⟩
    · cases hm
    · obtain ⟨c1, hc1⟩ := hfree _ q1 rfl
      have hc2 : X.env.cells.lookup y = some c1 := hc1
      have e2 : c = c1 := by
        rw [q2, hc2] <;> rfl
      rw [e2]
      exact hc2
  have lk : ∀ {y}, sc.names.lookup y = some .free → ∃ c, (cloFrom X.env.cells sc.names []).lookup y = some c := fun {y} hl => by
    have hy : (y, NameKind.free) ∈ sc.names := PySem.mem_of_lookup hl
    exact mem_lookup (cloFrom_has (cells := X.env.cells) (acc := []) hy)
  have cellK : ∀ {c : Addr} {v : Option Value}, s.heap.IsCell c v → h5.IsCell c v := fun {c v} ⟨o, q1, q2⟩ => ⟨o, keep _ _ q1, q2⟩
  have nofs : ∀ b ∈ fp, b ∉ frs X.stack := fun b hb z => by
    obtain ⟨⟨_, h1, h2, _⟩, _⟩ := ho b hb
    rcases List.mem_cons.mp (I.stkSub b z) with q | q
    · exact h1 q
    · exact h2 q
  refine ⟨⟨I.ok.mod, hk, I.ok.glob, rfl, Nat.le_refl _, fun y z c e1 e2 => I.ok.inj y z c (cm e1) (cm e2), fun y hy => ?_, fun y c e _ => ?_, fun _ => hh, fr, .inr ⟨rfl, rfl⟩, fun b hb => ⟨Nat.ne_of_lt (ho b hb).2, fun y c e => ?_⟩, fun b o e => I.bs b o e, Nat.le_trans I.ok.bsz I.sz, fun b o e hb => ?_, fun b hb => nofs b hb, I.stack, I.stkFree⟩,
    rfl, bare, Un.kept keep, ⟨m, hns, fun i y v h1 h2 h3 => ?_⟩, fun y c e => ?_, I.hok.fresh (Nat.le_refl _), fun y c e => ?_, fun p hp => ?_, I.hok.kept keep, ?_⟩
  · have hy' : sc.names.lookup y = some .cell ∨ sc.names.lookup y = some .free := hy
    rcases hy' with q | q
    · exact absurd rfl (hc _ (PySem.mem_of_lookup q))
    · exact lk q
  · exact absurd e (by intro z; cases z)
  · exact fun z => (ho b hb).1.2.2.2.2.1 y c (cm e) (by first | exact z | exact z.symm)
  · obtain ⟨⟨_, _, _, h3, _⟩, _⟩ := ho b hb
    rcases h3 with q | q
    · exact I.ok.noex b o e q
    · exact Nat.lt_irrefl _ (Nat.lt_of_lt_of_le (Heap.lt_size e) (Nat.le_trans I.ok.bsz q))
  · cases i with
    | zero => cases h2
    | succ i =>
      have h1 : ys[i]? = some y := h1
      have h2 : cs[i]? = some (some v) := h2
      have kf := hys y (List.mem_of_getElem? h1)
      obtain ⟨i', e1, e2⟩ := hsel i y v h1 h2
      obtain ⟨m0, hn0, hl0⟩ := I.loc
      have kv := hvis _ (PySem.mem_of_lookup kf) rfl
      have hV : Vis X.env.scope y := kv.elim (fun k => .inr (.inl k)) (fun k => .inr (.inr k))
      obtain ⟨w1, r1, q1⟩ := hl0 i' y v e1 e2 hV
      obtain ⟨c2, z2⟩ := lk kf
      refine ⟨w1, r1, .inr ⟨.inr kf, c2, z2, ?_⟩⟩
      have c1 := cm z2
      rcases q1 with ⟨k', _⟩ | ⟨_, c3, e', z⟩
      · have k' : X.env.scope.names.lookup y = some .local := k'
        rcases kv with k2 | k2 <;> rw [show X.env.scope.names.lookup y = _ from k2] at k' <;> cases k'
      · rw [c1] at e'
        cases e'
        exact cellK z
  · obtain ⟨w1, z⟩ := I.cell y c (cm e)
    exact ⟨w1, cellK z⟩
  · exact I.freeC y c (cm e)
  · exact absurd hp (by intro z; cases z)
  · show cs.length + 1 = ys.length + 1
    rw [hln]
/-- all(e for x in it): the table of the running def's code may have grown; then, item by item -/
def selV (ix : List Nat) (σ : L2.St) : L2.St := ix.map fun i => (σ[i]?).join
def tAllC (P : Addr) (ix : List Nat) (wi : TI) (te : TE) : TE := fun σ H Q => wi σ H fun J H1 => TabG H1 P ∧ ∀ H2, Tabbed P H1 H2 → ∃ (n0 : Nat) (W : Nat → Hp → Prop), W 0 H2 ∧
  ∀ i H', W i H' → (i < n0 ∧ J.go i H' ∧ ∀ v H'', J.yld i H' v H'' → te (some v :: selV ix σ) H'' fun y H3 => ∃ b, y = .bl b ∧ if b = true then W (i + 1) H3 else Q (.bl false) H3) ∨ (J.stop i H' ∧ Q (.bl true) H')
theorem pe_allC {c P : Addr} {elt iter : Expr} {x : Str} {px p pos gp : Pos} {sc : Scope} {wi : TI} {te : TE} {k : Nat} {ix : List Nat} {ys : List Str}
    (hr : Room (k + 2) X.A) (hg : Gl X "all") (hm : X.mg "all" = none) (hb : bootBuiltins "all" = some (.builtin "all")) (TB : TabB X.base X.mg c P) (hco : X.env.code = .ref c) (S : GenS X.env sc x) (hnd : (x :: ys).Nodup) (hvis : ∀ y ∈ sc.names, y.2 = .free → X.env.scope.names.lookup y.1 = some .cell ∨ X.env.scope.names.lookup y.1 = some .free) (hys : ∀ y ∈ ys, sc.names.lookup y = some .free) (hln : ix.length = ys.length) (hix : ∀ (j : Nat) (y : Str), ys[j]? = some y → ∃ i : Nat, ix[j]? = some i ∧ X.N[i]? = some y)
    (hi : PI X (.Name x px) iter wi)
    (hel : ∀ (A : Around) (s : Shared) (H : Hp) (C : Addr) (code : Value) (fp : List Addr), Room k A → PE (gxOfC X A s H (genEnv sc (cloFrom X.env.cells sc.names []) C code builtinsNs X.env) x ys fp) elt te)
    (hs : ∀ v, genFold iter X.env v = pure v)
    (he : starEach [.GeneratorExp elt [⟨.Name x px, iter, [], 0⟩] sc gp] X.env = (false, eval (.GeneratorExp elt [⟨.Name x px, iter, [], 0⟩] sc gp) X.env) :: starEach [] X.env := by rfl) :
    PE X (.Call (.Name "all" p) [.GeneratorExp elt [⟨.Name x px, iter, [], 0⟩] sc gp] [] pos) (tAllC P ix wi te) := by
  refine ⟨fun pins s σ H Q I h => wpAny_Call_Name_kw (ld_blt I hg hm hb ?_)⟩
  refine PyProof.Rows.callWith_builtin1 ?_ he (by rfl)
  rw [he]
  show wpAny _ _ (spliced ((false, eval (.GeneratorExp elt [⟨.Name x px, iter, [], 0⟩] sc gp) X.env) :: backTo pos (starEach [] X.env))) _ _ s
  refine Calls.spliced_cons (wpAny_GeneratorExp_make S.co (cl := cloFrom X.env.cells sc.names []) (closure_ok S.free) S.cell S.dot S.kind (Nat.lt_of_le_of_lt (by omega) hr.dp) ?_ hs)
  refine thn (hi.run pins s σ H _ I h) fun v s1 h1 => thn h1 fun itv s2 h2 => ?_
  obtain ⟨it, fp, tn, J, H1, e, J1, T, st, fo, ⟨ps, tP, tok⟩, q⟩ := h2
  subst e
  have gP : s2.heap.get? P = some { cls := .none, data := .fields ps } := J1.hok P _ tP
  have head : PySem.W.CodeHd s2.heap c P := TB.code.keeps fun b u e => J1.bk b u e
  have ncP : cStatics ≠ P := fun e => by
    obtain ⟨_, ns, _⟩ := J1.nolimit
    obtain ⟨o', es, ep, g', d', _⟩ := ns
    rw [e, gP] at g'
    cases g'
    cases d'
  have hlc : (selV ix σ).length = ys.length := by
    unfold selV
    rw [List.length_map, hln]
  have hsel : ∀ (j : Nat) (y : Str) (v : V), ys[j]? = some y → (selV ix σ)[j]? = some (some v) → ∃ i : Nat, X.N[i]? = some y ∧ σ[i]? = some (some v) := fun j y v h1 h2 => by
    obtain ⟨i, e1, e2⟩ := hix j y h1
    refine ⟨i, e2, ?_⟩
    unfold selV at h2
    rw [List.getElem?_map, e1] at h2
    have h2 : (σ[i]?).join = some v := Option.some.inj h2
    cases q : σ[i]? with
    | none =>
      rw [q] at h2
      cases h2
    | some o =>
      rw [q] at h2
      have h2 : o = some v := h2
      rw [h2]
  have fpP : ∀ b ∈ fp, b ≠ P := fun b hb z => by
    have := (fo b hb).1
    rw [z, tP] at this
    cases this
  refine ⟨J1.nolimit, ?_⟩
  have go : ∀ (code : Value) (hN : Heap) (tk : Nat) (qs : Array Value), Heap.ExtBut P s2.heap hN → hN.get? P = some { cls := .none, data := .fields qs } → (∃ more, qs = ps ++ more) → TriplesOk qs.toList →
      wpAny (model X.prog X.w) X.A (builtinsFor X.env.globals X.env.builtins) (fun bi s₄ =>
        ∀ h', h'.Ns s₄.heap.objs.size (fun y => if y = ".0" then some (.ref it) else none) → Heap.SameBut s₄.heap.objs.size (s₄.heap.push { cls := .type "frame", data := .dict #[] }) h' →
          wpAny (model X.prog X.w) X.A (spliced (backTo pos (starEach [] X.env))) (fun us s' => wpAny (model X.prog X.w) X.A (call (.builtin "all") (.ref h'.objs.size :: us)) (EP X pins σ Q) X.xe s') X.xe { s₄ with
            gens := s₄.gens.push (.fresh (.compStart (.GeneratorExp elt [⟨.Name x px, iter, [], 0⟩] sc gp) 0 (.ref it) .none (genEnv sc (cloFrom X.env.cells sc.names []) s₄.heap.objs.size code bi X.env))),
            toks := s₄.toks + 1 + 1 + 1,
            heap := h'.push { cls := .type "generator", data := .fields #[.int s₄.gens.size 0, .str "<genexpr>" (s₄.toks + 1), .str (X.env.qual ++ "<genexpr>") (s₄.toks + 1 + 1)] } }) X.xe { s2 with heap := hN, toks := tk } := by
    intro code hN tk qs ext gPN more okN
    obtain ⟨bm, obm, e1, e2, e3, e4, e5, e6, e7, e8⟩ := TB.bm
    have stay : ∀ b u, b ≠ P → s2.heap.get? b = some u → hN.get? b = some u := fun b u nb e => ext b u nb e
    obtain ⟨mo, em⟩ := more
    subst em
    have J2 : Inv X pins σ (upd H1 P (.tbl (ps ++ mo))) { s2 with heap := hN, toks := tk } := inv_tab (more := mo) (h' := hN) (g' := s2.gens) (d' := s2.drawn) (t' := tk) J1 tP stay gPN J1.bare
    refine wpAny_builtinsFor (m := X.mg) (by rw [J1.ok.glob]; exact (J1.mod.glob.keeps J1.bk).extBut ext TB.gP) e1 e2 (stay _ _ e4 (J1.bk _ _ e5)) e6 e7 e8 ?_
    intro h' hn' hs'
    refine Calls.spliced_nil ?_
    obtain ⟨n0, W, w0, hW⟩ := q (upd H1 P (.tbl (ps ++ mo))) ⟨⟨ps ++ mo, upd_same, okN⟩, fun b nb => upd_ne nb⟩
    have sz' : h'.objs.size = hN.objs.size + 1 := by
      rw [hs'.1, Heap.size_push]
    have keep' : ∀ b o, hN.get? b = some o → h'.get? b = some o := fun b o e => hs'.extBut b o (Nat.ne_of_lt (Heap.lt_size e)) (Heap.get?_push_of_some _ e)
    generalize hgo : ({ cls := .type "generator", data := .fields #[.int s2.gens.size 0, .str "<genexpr>" (tk + 1), .str (X.env.qual ++ "<genexpr>") (tk + 1 + 1)] } : Obj) = gob
    have gc : gob.cls = .type "generator" := by rw [← hgo]
    have gd : ∃ nm qn, gob.data = .fields #[.int s2.gens.size 0, nm, qn] := ⟨_, _, by rw [← hgo]⟩
    have gs : gob.slots = #[] := by rw [← hgo]
    show wpAny (model X.prog X.w) X.A (call (.builtin "all") [.ref h'.objs.size]) (EP X pins σ Q) X.xe { s2 with
            gens := s2.gens.push (.fresh (.compStart (.GeneratorExp elt [⟨.Name x px, iter, [], 0⟩] sc gp) 0 (.ref it) .none (genEnv sc (cloFrom X.env.cells sc.names []) hN.objs.size code builtinsNs X.env))),
            toks := tk + 1 + 1 + 1, heap := h'.push gob }
    have keep5 : ∀ b o, hN.get? b = some o → (h'.push gob).get? b = some o := fun b o e => Heap.get?_push_of_some _ (keep' b o e)
    have atG : (h'.push gob).get? h'.objs.size = some gob := Heap.get?_push_size _ (by
      obtain ⟨nm, qn, e⟩ := gd
      exact Obj.isFreed_of_fields e)
    -- the frame
    generalize hge : genEnv sc (cloFrom X.env.cells sc.names []) hN.objs.size code builtinsNs X.env = ge
    have fpl : ∀ b ∈ fp, b < hN.objs.size := fun b hb => by
      obtain ⟨o, e, _⟩ := T.obj _ _ st b hb
      exact Heap.lt_size (stay b o (fpP b hb) e)
    have foN : ∀ b ∈ fp, FpOk X pins (upd H1 P (.tbl (ps ++ mo))) b := fun b hb => ⟨by rw [upd_ne (fpP b hb)]; exact (fo b hb).1, (fo b hb).2⟩
    have stN : tn 0 (h'.push gob) := T.keep _ _ _ st fun b hb o e => keep5 b o (stay b o (fpP b hb) e)
    have hAh : (X.A.in1.in1.over (gcodeC elt iter x px sc gp it ge) []).handled = none := hr.hd
    have hAf : (X.A.in1.in1.over (gcodeC elt iter x px sc gp it ge) []).frames = some (ge :: X.stack) := by
      show pushEnvs (gcodeC elt iter x px sc gp it ge).envs (pushEnvs [] X.A.frames) = _
      rw [J1.ok.frames]
      rfl
    have IG0 := inv_gxC (A := X.A.in1.in1.over (gcodeC elt iter x px sc gp it ge) []) (sc := sc) (x := x) (ys := ys) (cs := selV ix σ) (fp := fp) (code := code) (h5 := h'.push gob)
      (g5 := s2.gens.push (.fresh (.compStart (.GeneratorExp elt [⟨.Name x px, iter, [], 0⟩] sc gp) 0 (.ref it) .none ge))) (t5 := tk + 1 + 1 + 1) J2 S.kind S.cell S.free hvis hys hlc hsel (hn'.push gob) keep5 (AllBare.push J1.bare rfl) hAh (by rw [hAf, ← hge]) (fun b hb => ⟨foN b hb, fpl b hb⟩)
    rw [hge] at IG0
    generalize hXg : gxOfC X (X.A.in1.in1.over (gcodeC elt iter x px sc gp it ge) []) { s2 with heap := hN, toks := tk } (upd H1 P (.tbl (ps ++ mo))) ge x ys fp = Xg at IG0
    have gne : ∀ b ∈ fp, h'.objs.size ≠ b := fun b hb => Nat.ne_of_gt (Nat.lt_trans (fpl b hb) (by omega))
    have fpXg : ∀ b ∈ fp, FpOk Xg [(h'.objs.size, gob)] (upd H1 P (.tbl (ps ++ mo))) b := fun b hb => by
      rw [← hXg]
      refine ⟨(foN b hb).1, ?_, fun z => ?_, .inl hb, fun y cc e => ?_, fun p hp => ?_⟩
      · show b ≠ ge.locals
        rw [← hge]
        exact Nat.ne_of_lt (fpl b hb)
      · obtain ⟨_, q1, q2, _⟩ := foN b hb
        rcases List.mem_cons.mp (J2.stkSub b z) with q | q
        · exact q1 q
        · exact q2 q
      · have e' : ge.cells.lookup y = some cc := e
        rw [← hge] at e'
        have e' : (cloFrom X.env.cells sc.names []).lookup y = some cc := e'
        have e2 : X.env.cells.lookup y = some cc := by
          rcases cloFrom_mem (PySem.mem_of_lookup e') with hm | ⟨q1, q2⟩
          · cases hm
          · obtain ⟨c1, hc1⟩ := S.free _ q1 rfl
            have hc2 : X.env.cells.lookup y = some c1 := hc1
            have e3 : cc = c1 := by
              rw [q2, hc2] <;> rfl
            rw [e3]
            exact hc2
        exact (foN b hb).2.2.2.2.1 y cc e2
      · have hp' : p ∈ [(h'.objs.size, gob)] := hp
        rw [List.mem_singleton.mp hp']
        exact gne b hb
    have IG : Inv Xg [(h'.objs.size, gob)] (none :: selV ix σ) (upd H1 P (.tbl (ps ++ mo))) { s2 with heap := h'.push gob, gens := s2.gens.push (.fresh (.compStart (.GeneratorExp elt [⟨.Name x px, iter, [], 0⟩] sc gp) 0 (.ref it) .none ge)), toks := tk + 1 + 1 + 1 } := by
      refine IG0.pins_of fun p hp => ?_
      rw [List.mem_singleton.mp hp]
      have big : hN.objs.size < h'.objs.size := by omega
      refine ⟨atG, J2.hok.fresh (Nat.le_of_lt big), ?_, ?_, fun v e => ?_⟩
      · rw [← hXg]
        show h'.objs.size ≠ ge.locals
        rw [← hge]
        exact Nat.ne_of_gt big
      · rw [← hXg]
        intro z
        rcases List.mem_cons.mp (J2.stkSub _ z) with q | q
        · have l := J2.lt
          rw [← q] at l
          exact absurd (Nat.lt_trans big l) (Nat.lt_irrefl _)
        · exact J2.nofs (Nat.le_of_lt big) q
      · obtain ⟨nm, qn, e2⟩ := gd
        have e' : gob.data = .cell v := e
        rw [e2] at e'
        cases e'
    have back : ∀ (b : Bool) (s' : Shared), GEdC Xg (selV ix σ) h'.objs.size gob (Q (.bl b)) s' → EP X pins σ Q (.bool b) s' := fun b s' ⟨H', y, K, q⟩ => by
      rw [← hXg] at K
      exact ⟨.bl b, H', J2.call' (ch := fp) K.os K.base K.hok K.bare (fun c hc => ⟨(foN c hc).2.2.2.1, (foN c hc).2.1, (foN c hc).2.2.2.2.1, (foN c hc).2.2.2.2.2⟩), rfl, q⟩
    have loopS := seg_gloopC (X := X) (A := X.A.in1.in1) (sG := { s2 with heap := hN, toks := tk }) (HG := upd H1 P (.tbl (ps ++ mo))) (ge := ge) (fp := fp) (tn := tn) (ga := h'.objs.size) (go := gob) (g := s2.gens.size) (W := W) (Qf := Q (.bl false)) (Qt := Q (.bl true))
      (gp := gp) (sc := sc) (elt := elt) (iter := iter) (n0 := n0) (te := te) (ys := ys) (cs := selV ix σ) T (by rw [← hge]; exact S.loc) hnd (by rw [← hge]; exact S.co) (by
        rw [← hge]
        refine hel _ _ _ _ _ _ ⟨hr.hd, ?_, ?_⟩
        · have := hr.dp
          show X.A.depth + 0 + 1 + 3 * k + 5 < _
          omega
        · have := hr.un
          show X.A.units + 1 + 1 + 0 + 3 + 16 * k + 200 < _
          omega) hW
    rw [hXg] at loopS
    have GI0 : GInC Xg (selV ix σ) fp tn h'.objs.size gob s2.gens.size W 0 { s2 with heap := h'.push gob, gens := s2.gens.push (.fresh (.compStart (.GeneratorExp elt [⟨.Name x px, iter, [], 0⟩] sc gp) 0 (.ref it) .none ge)), toks := tk + 1 + 1 + 1 } :=
      ⟨⟨_, _, IG, stN, fpXg, w0⟩, by show s2.gens.size + 1 ≤ (s2.gens.push _).size; rw [Array.size_push]; exact Nat.le_refl _⟩
    refine call_function_tree F.kind_all F.plain_all F.entry_all (F.args_all1 _) ?_
    unfold Builtin.«all»
    refine wpAny_bind (m := oneArg "all" _) (wpAny_pure ?_)
    refine wpAny_bind (wpAny_pyIter_gen ⟨gob, _, _, atG, gc, gd.choose_spec.choose_spec, gs⟩ ?_)
    refine wpAny_pure ⟨plainId_quiet F.plain_all_loop _, all_loopXC (X := X) (A := X.A) (R := fun r s' => match r with | .ok (.ret v) => EP X pins σ Q v s' | .ok _ => False | .error e => X.xe e s') (Xg := Xg) (Qf := Q (.bl false)) (Qt := Q (.bl true)) (W := W) (fp := fp) (tn := tn) (n0 := n0) (cs := selV ix σ) gc gd gs hr.hd (Nat.lt_of_le_of_lt (by show X.A.depth ≤ X.A.depth + 3 * (k + 2) + 5; omega) hr.dp) (fun s' q => back true s' q) (fun s' q => back false s' q) n0 0 _ (Nat.sub_zero _) ⟨GI0, _, Array.getElem?_push_size .., fun s'' gi => ⟨rfl, ?_⟩⟩⟩
    have loop := loopS n0 0 s'' s'' (Nat.sub_zero _) gi
    obtain ⟨_, _, _, sti, _⟩ := gi.ex
    show Seg _ X.A.in1.in1 _ _ _ s'' _ ((compStart (.GeneratorExp elt [⟨.Name x px, iter, [], 0⟩] sc gp) 0 (.ref it) .none ge).onRaise (leaving ge)) [] s''
    unfold compStart
    rw [Sem.onRaise_eq_wrap]
    show Seg _ X.A.in1.in1 _ _ _ s'' _ ((ask >>= _).wrap _ _ _ _) [] s''
    refine seg_bind_wrap (wpAny_askSetting ?_)
    split
    · exact seg_again rfl loop
    · first
        | exact seg_bind_wrap (wpAny_rule (seg_bind_wrap (wpAny_standAt (seg_bind_wrap (T.self _ 0 _ _ _ sti (seg_again rfl loop))))))
        | (refine seg_bind_wrap (wpAny_rule ?_); show Seg _ X.A.in1.in1 _ _ _ s'' _ ((standAt iter.pos >>= _).wrap _ _ _ _) [] s''; exact seg_bind_wrap (wpAny_standAt (seg_bind_wrap (T.self _ 0 _ _ _ sti (seg_again rfl loop)))))
  cases am : codeAmong gp ps.toList with
  | none =>
    refine wpAny_genexprCodeX hco (head.code gP tok) (head.tab gP) am fun c' hN tk ext hge hlt hc' _ tab' _ => ?_
    obtain ⟨o1, vs, f1, tf, fl, tg, inF, tx, tt, op, _, _, _, _, _, _, _, _, _, tr, _⟩ := hc'
    exact go _ hN tk _ ext tab'.2 ⟨_, rfl⟩ tr
  | some cv =>
    refine wpAny_genexprCode_hit hco (head.code gP tok) am ?_
    exact go cv s2.heap s2.toks ps (Heap.ExtBut.refl _ _) gP ⟨#[], by simp⟩ tok
end
end Ey
set_option maxHeartbeats 4000000
namespace Ey
open PySem PySem.Spec L2
/-! ### polynomials as data -/
def expD : PyData → Int
  | .tuple (.int i :: _) => i
  | _ => 0
def numD : PyData → Int
  | .tuple (_ :: .int i :: _) => i
  | _ => 0
def upI (es : List Int) (i : Nat) : Bool := decide (es.getD i 0 < es.getD (i + 1) 0)
def ascI (es : List Int) : Bool := (List.range (es.length - 1)).all (upI es)
def polyL (ds : List PyData) : Bool := ds.all pairD && ascI (ds.map expD)
def polyD : PyData → Bool
  | .tuple ds => polyL ds
  | .none | .bool _ | .int _ | .str _ | .list _ | .dict _ => false
theorem pair_parts {d : PyData} (h : pairD d = true) : ∃ i j : Int, d = .tuple [.int i, .int j] ∧ 0 ≤ i ∧ 0 < j := by
  unfold pairD at h
  split at h
  · rename_i x y
    rw [Bool.and_eq_true] at h
    cases x with
    | int i =>
      cases y with
      | int j => exact ⟨i, j, rfl, of_decide_eq_true h.1, of_decide_eq_true h.2⟩
      | none => cases h.2
      | bool _ => cases h.2
      | str _ => cases h.2
      | list _ => cases h.2
      | tuple _ => cases h.2
      | dict _ => cases h.2
    | none => cases h.1
    | bool _ => cases h.1
    | str _ => cases h.1
    | list _ => cases h.1
    | tuple _ => cases h.1
    | dict _ => cases h.1
  · cases h
theorem range_all {f : Nat → Bool} {i : Nat} : (List.range (i + 1)).all f = ((List.range i).all f && f i) := by
  rw [List.range_succ, List.all_append]
  simp
theorem pair_an {ms : List Addr} {H : Hp} {v : V} {d : PyData} (a : An ms H v d) (h : pairD d = true) : ∃ (t : Addr) (i j : Int), v = .ref t ∧ H t = some (.tup [.int i, .int j]) ∧ d = .tuple [.int i, .int j] ∧ 0 ≤ i ∧ 0 < j := by
  obtain ⟨i, j, rfl, h1, h2⟩ := pair_parts h
  cases a with
  | tup e hs =>
    cases hs with
    | cons a0 hr =>
      cases hr with
      | cons a1 hr2 =>
        cases hr2
        cases a0
        cases a1
        exact ⟨_, i, j, rfl, e, rfl, h1, h2⟩
abbrev sPoly : Stmt := topS 43
/-- all(..) over a range -/
theorem all_range {lo : Int} {n : Nat} {cs : L2.St} {te : TE} {Q : VK} {H1 : Hp} (Pv : Nat → Hp → Prop) (h0 : Pv 0 H1)
    (hs : ∀ i H, i < n → Pv i H → te (some (.int (lo + i)) :: cs) H fun y H3 => ∃ b, y = .bl b ∧ if b = true then Pv (i + 1) H3 else Q (.bl false) H3) (hd : ∀ H, Pv n H → Q (.bl true) H) :
    ∃ (n0 : Nat) (W : Nat → Hp → Prop), W 0 H1 ∧ ∀ i H', W i H' → (i < n0 ∧ (Itr lo n).go i H' ∧ ∀ v H'', (Itr lo n).yld i H' v H'' → te (some v :: cs) H'' fun y H3 => ∃ b, y = .bl b ∧ if b = true then W (i + 1) H3 else Q (.bl false) H3) ∨ ((Itr lo n).stop i H' ∧ Q (.bl true) H') := by
  refine ⟨n, fun i H => i ≤ n ∧ Pv i H, ⟨Nat.zero_le _, h0⟩, fun i H ⟨hi, p⟩ => ?_⟩
  by_cases lt : i < n
  · refine .inl ⟨lt, lt, fun v H'' y => ?_⟩
    obtain ⟨e, y⟩ := y
    subst e
    subst y
    have h := hs i H'' lt p
    have e : (fun (y : V) (H3 : Hp) => ∃ b, y = .bl b ∧ if b = true then (i + 1 ≤ n ∧ Pv (i + 1) H3) else Q (.bl false) H3) = fun y H3 => ∃ b, y = .bl b ∧ if b = true then Pv (i + 1) H3 else Q (.bl false) H3 := by
      funext y H3
      refine propext ⟨fun ⟨b, e, h⟩ => ⟨b, e, ?_⟩, fun ⟨b, e, h⟩ => ⟨b, e, ?_⟩⟩
      · cases b
        · exact h
        · rw [if_pos rfl] at h ⊢
          exact h.2
      · cases b
        · exact h
        · rw [if_pos rfl] at h ⊢
          exact ⟨lt, h⟩
    rw [e]
    exact h
  · have e : i = n := by omega
    subst e
    exact .inr ⟨Nat.le_refl _, hd H p⟩
/-- all(..) over a tuple, beside captured names -/
theorem all_tupC {K : PySem.W.Frag} {a : Addr} {xs : List V} {cs : L2.St} {te : TE} {Q : VK} {H1 : Hp} (Pv : Nat → Hp → Prop) (h0 : Pv 0 H1) (hl : ∀ i H, Pv i H → SqT K H a xs)
    (hs : ∀ i x H, xs[i]? = some x → Pv i H → te (some x :: cs) H fun y H3 => ∃ b, y = .bl b ∧ if b = true then Pv (i + 1) H3 else Q (.bl false) H3) (hd : ∀ H, Pv xs.length H → Q (.bl true) H) :
    ∃ (n0 : Nat) (W : Nat → Hp → Prop), W 0 H1 ∧ ∀ i H', W i H' → (i < n0 ∧ (Itt K a).go i H' ∧ ∀ v H'', (Itt K a).yld i H' v H'' → te (some v :: cs) H'' fun y H3 => ∃ b, y = .bl b ∧ if b = true then W (i + 1) H3 else Q (.bl false) H3) ∨ ((Itt K a).stop i H' ∧ Q (.bl true) H') := by
  obtain ⟨n0, W, h1, h2⟩ := all_tup (K := K) (a := a) (xs := xs) (te := fun σ H R => te (σ ++ cs) H R) (Q := Q) Pv h0 hl hs hd
  exact ⟨n0, W, h1, h2⟩
def BK (Q : Bool → Hp → Prop) : VK := fun x H1 => ∃ c, x = .bl c ∧ Q c H1
def tBN (te : TE) : TT := fun σ H Q => te σ H (BK Q)
theorem pt_valN {X : Cx} {e : Expr} {te : TE} (h : PE X e te) (he : ∀ whole, PySem.isTrue e X.env whole = (do let v ← whole; standAt e.pos; holding [v] (truthy v)) := by intro _; rfl) : PT X e (tBN te) := pt_val h he
structure PP (K : PySem.W.Frag) (mg : Str → Option Value) (A : Nat → Addr) (D : Nat → FuncData) (c0 : Addr) : Prop extends PB K mg A D where
  poly : DfT K mg "is_poly" sPoly ["thing"] (A 43) (D 43) c0
section
variable {Pr : Program} {w : World} {K : PySem.W.Frag} {mg : Str → Option Value} {base : Heap} {ms : List Addr} {A : Nat → Addr} {D : Nat → FuncData} {c0 P0 : Addr}
theorem scPoly : FnScope ["thing"] ["thing"] (defScope sPoly) := ⟨rfl, rfl, rfl, by decide +kernel, rfl, by decide +kernel, by decide +kernel⟩
theorem ok_poly (F : PP K mg A D c0) (b : GxR.TabB base mg c0 P0) : FnOk Pr w K mg base CX0 8 (A 43) (D 43) ["thing"] (spD ms [P0] polyD) := by
  have B := F.B
  obtain ⟨oc, od, kV, doc, pm, an, ct, osl, efd, lk, code⟩ := F.poly.ex
  rw [efd]
  rw [efd] at lk
  refine fn_of lk code scPoly (fun vs H Q E h => ?_) (fun A outer s H vs Q E hr h => ?_)
  · obtain ⟨v, d, rfl, _⟩ := h
    rfl
  · obtain ⟨v, d, rfl, hv, hz, hT, hsub, k⟩ := h
    refine ⟨_, pss_cons (ps_if (PW.pt (pw_or (pt_not (pt_val (pe_callB call_isi (by rfl) B.isi (by decide +kernel) (pa_cons (pv 0) (pa_cons (pe_bltn (v := .ty "tuple") (by rfl) B.tuple (by decide +kernel) rfl) pa_nil)))))
        (pw_or1 (pt_not (pt_valN (pe_allC (k := 5) (P := P0) (c := c0) (ix := []) (ys := []) hr (by rfl) B.all (by decide +kernel) b rfl ⟨rfl, rfl, by decide +kernel, rfl, rfl, (by intro y hy e; exfalso; revert y; decide +kernel)⟩ (by decide +kernel) (by intro y hy e; exfalso; revert y; decide +kernel) (fun y hy => absurd hy List.not_mem_nil) rfl (fun j y h => by cases h) (pi_tup (pv 0))
          (fun A s H C code fp hr => pe_call (ok_pair (ms := ms) F.toPB) (hr.mono (by decide)) (by rfl) F.pair.g F.pair.F.kp F.pair.b .nil pass0 (pa_cons (pv 0) pa_nil)) (fun _ => rfl))))))) (pss_one (ps_ret pe_bl)) pss_nil)
      (pss_one (ps_ret (pe_allC (k := 5) (P := P0) (c := c0) (ix := [0]) (ys := ["thing"]) hr (by rfl) B.all (by decide +kernel) b rfl ⟨rfl, rfl, by decide +kernel, rfl, rfl, (by intro y hy e; simp only [List.mem_cons, List.not_mem_nil, or_false] at hy; rcases hy with rfl | rfl | rfl <;> first | (cases e; done) | exact ⟨_, rfl⟩)⟩ (by decide +kernel) (by intro y hy e; simp only [List.mem_cons, List.not_mem_nil, or_false] at hy; rcases hy with rfl | rfl | rfl <;> first | (cases e; done) | exact .inl rfl) (by intro y hy; rw [List.mem_singleton.mp hy]; rfl) rfl (by intro j y h; cases j with | zero => exact ⟨0, rfl, h⟩ | succ j => cases h)
          (pi_range1 (by rfl) B.range (pa_cons (pe_op op_sub (pe_callB call_len_seq (by rfl) B.len PySem.boot_len (pa_cons (pv 0) pa_nil)) pe_int) pa_nil))
          (fun A s H C code fp hr => pe_cmpR op_lt (pe_ix (r := rIxT K) ix_tup (pe_ix (r := rIxT K) ix_tup (pv 1) (pv 0) (fun _ _ => rfl)) pe_int (fun _ _ => rfl)) (pe_ix (r := rIxT K) ix_tup (pe_ix (r := rIxT K) ix_tup (pv 1) (pe_op op_add (pv 0) pe_int) (fun _ _ => rfl)) pe_int (fun _ _ => rfl)) (nomark _)) (fun _ => rfl)))), ?_⟩
    have kH := k H hT .refl
    obtain ⟨ty, hty, kty⟩ := hv.tupK (K := K)
    refine ⟨_, rfl, _, .ty "tuple", ty, .type "tuple", _, rfl, .ty "tuple", hty, kty, ?_⟩
    cases hv with
    | non => exact ⟨false, rfl, iteT kH⟩
    | bl b => exact ⟨false, rfl, iteT kH⟩
    | int i => exact ⟨false, rfl, iteT kH⟩
    | str g => exact ⟨false, rfl, iteT kH⟩
    | lst e => exact ⟨false, rfl, iteT kH⟩
    | dct e => exact ⟨false, rfl, iteT kH⟩
    | @tup t xs ds e hds =>
      refine ⟨true, rfl, iteF ?_⟩
      have lx := hds.length
      have hw1 := len_wd ds
      have hw2 : wd (.tuple ds) = wdAll ds + 3 := rfl
      have kw : ∀ b H', polyL ds = b → TTs [P0] H' → Kp [P0] H H' → Q (.bl b) H' := fun b H' e' g' k' => e' ▸ k H' g' k'
      refine ⟨_, rfl, t, rfl, ⟨_, sqt_of e⟩, hT _ (by simp), fun H2 h2 => ?_⟩
      obtain ⟨g2, kt2⟩ := hT.tab (by simp) h2
      refine all_tupC (K := K) (a := t) (xs := xs) (fun i H' => TTs [P0] H' ∧ Kp [P0] H H' ∧ (ds.take i).all pairD = true) ⟨g2, kt2, rfl⟩ (fun i H' h => sqt_of (h.2.1.tup _ _ e)) ?_ ?_
      · rintro i x H' hx ⟨g', k', qa⟩
        obtain ⟨dx, ex, ax⟩ := hds.get hx
        refine ⟨_, rfl, x, dx, rfl, ax.kp k' hsub dx, _, rfl, ?_⟩
        cases e2 : pairD dx with
        | true =>
          refine iteT ⟨g', k', ?_⟩
          rw [take_all ex, qa, e2]
          rfl
        | false =>
          refine iteF ⟨false, rfl, iteT (kw false H' ?_ g' k')⟩
          unfold polyL
          rw [List.all_eq_false.mpr ⟨dx, List.mem_of_getElem? ex, by rw [e2]; exact Bool.false_ne_true⟩, Bool.false_and]
      · rintro H' ⟨g', k', qa⟩
        rw [lx, List.take_length] at qa
        refine ⟨true, rfl, iteF ?_⟩
        have e' := k'.tup _ _ e
        have hds' := hds.kp k' hsub ds
        refine ⟨_, rfl, t, _, rfl, .inr (sqt_of e'), _, _, rfl, rfl, _, rfl, by omega, by omega, g' _ (by simp), fun H3 h3 => ?_⟩
        obtain ⟨g3, kt3⟩ := g'.tab (by simp) h3
        rw [show ((xs.length : Nat) - 1 : Int).toNat = xs.length - 1 by omega]
        have pr : ∀ j, j < xs.length → ∃ (tj : Addr) (a b : Int), xs[j]? = some (.ref tj) ∧ H' tj = some (.tup [.int a, .int b]) ∧ (ds.map expD).getD j 0 = a := fun j hj => by
          obtain ⟨dj, ej, aj⟩ := hds'.get (List.getElem?_eq_getElem hj)
          obtain ⟨tj, a, b, ev, et, rfl, _, _⟩ := pair_an aj (List.all_eq_true.mp qa dj (List.mem_of_getElem? ej))
          refine ⟨tj, a, b, ?_, et, ?_⟩
          · rw [List.getElem?_eq_getElem hj, ev]
          · rw [List.getD_eq_getElem?_getD, List.getElem?_map, ej]
            rfl
        refine all_range (lo := 0) (n := xs.length - 1) (fun i H4 => TTs [P0] H4 ∧ Kp [P0] H' H4 ∧ (List.range i).all (upI (ds.map expD)) = true) ⟨g3, kt3, rfl⟩ ?_ ?_
        · rintro i H4 hi ⟨g4, k4, qr⟩
          obtain ⟨t1, a1, b1, e1, h1, g1⟩ := pr i (by omega)
          obtain ⟨t2, a2, b2, e2, h2, g2'⟩ := pr (i + 1) (by omega)
          have c1 : atI xs (0 + (i : Int)) = some (.ref t1) := by
            rw [Int.zero_add]
            exact atI_nat e1
          have c2 : atI xs (0 + (i : Int) + 1) = some (.ref t2) := by
            rw [show (0 + (i : Int) + 1) = ((i + 1 : Nat) : Int) by omega]
            exact atI_nat e2
          have te := k4.tup _ _ e'
          refine ⟨_, rfl, _, rfl, t, _, _, _, rfl, rfl, sqt_of te, c1, t1, _, _, _, rfl, rfl, sqt_of (k4.tup _ _ h1), atI_nat (j := 0) rfl, _, rfl, _, rfl, _, _, rfl, rfl, t, _, _, _, rfl, rfl, sqt_of te, c2, t2, _, _, _, rfl, rfl, sqt_of (k4.tup _ _ h2), atI_nat (j := 0) rfl, _, _, rfl, rfl, _, rfl, ?_⟩
          have hup : upI (ds.map expD) i = decide (a1 < a2) := by
            unfold upI
            rw [g1, g2']
          by_cases hc : a1 < a2
          · rw [decide_eq_true hc]
            refine iteT ⟨g4, k4, ?_⟩
            rw [range_all, qr, hup, decide_eq_true hc]
            rfl
          · rw [decide_eq_false hc]
            refine iteF (kw false H4 ?_ g4 (k'.trans k4))
            unfold polyL ascI
            rw [qa, Bool.true_and, List.all_eq_false]
            refine ⟨i, List.mem_range.mpr (by rw [List.length_map, ← lx]; exact hi), ?_⟩
            rw [hup, decide_eq_false hc]
            exact Bool.false_ne_true
        · rintro H4 ⟨g4, k4, qr⟩
          refine kw true H4 ?_ g4 (k'.trans k4)
          unfold polyL ascI
          rw [qa, List.length_map, ← lx, qr]
          rfl
end
end Ey
set_option maxHeartbeats 4000000
namespace PySem
namespace OwE
open Builtin Builtin.ObjectAttr PySem.HandSPX
/-! ### own exceptions whose chain of own classes ends in Exception -/
abbrev exTl : List Value := [.type "Exception", .type "BaseException", .type "object"]
def refsEx : List Value → Bool
  | .ref _ :: r => refsEx r
  | l => l == exTl
theorem refsEx_cases : ∀ l : List Value, refsEx l = true → (∃ c r, l = .ref c :: r ∧ refsEx r = true) ∨ l = exTl
  | [], e => .inr (beq_iff_eq.mp e)
  | .ref c :: r, e => .inl ⟨c, r, rfl, e⟩
  | .none :: _, e => .inr (beq_iff_eq.mp e)
  | .ellipsis :: _, e => .inr (beq_iff_eq.mp e)
  | .notImplemented :: _, e => .inr (beq_iff_eq.mp e)
  | .bool _ :: _, e => .inr (beq_iff_eq.mp e)
  | .int _ _ :: _, e => .inr (beq_iff_eq.mp e)
  | .float _ _ :: _, e => .inr (beq_iff_eq.mp e)
  | .str _ _ :: _, e => .inr (beq_iff_eq.mp e)
  | .bytes _ _ :: _, e => .inr (beq_iff_eq.mp e)
  | .type _ :: _, e => .inr (beq_iff_eq.mp e)
  | .builtin _ :: _, e => .inr (beq_iff_eq.mp e)
theorem refsEx_pass (self : Value) : ∀ l : List Value, refsEx l = true → refuseLoop self "__setattr__" l = pure () := by
  intro l
  induction l with
  | nil => intro e; exact absurd e (by decide)
  | cons a r ih =>
    intro e
    rcases refsEx_cases (a :: r) e with ⟨c, r', q, h⟩ | q
    · obtain ⟨rfl, rfl⟩ := List.cons.inj q
      rw [refuseLoop_ref]
      exact ih h
    · rw [q]
      exact F.store_Exception.passes self
theorem refsEx_has (X : String) : ∀ l : List Value, refsEx l = true → l.contains (.type X) = exTl.contains (.type X) := by
  intro l
  induction l with
  | nil => intro e; exact absurd e (by decide)
  | cons a r ih =>
    intro e
    rcases refsEx_cases (a :: r) e with ⟨c, r', q, h⟩ | q
    · obtain ⟨rfl, rfl⟩ := List.cons.inj q
      rw [List.contains_cons, ih h]
      rfl
    · rw [q]
theorem refsEx_ne {l : List Value} (e : refsEx l = true) : l.isEmpty = false := by
  cases l with
  | nil => exact absurd e (by decide)
  | cons _ _ => rfl
section
variable {prog : Program} {w : World} {A : Around} {E : Value → Shared → Prop} {R : Result → Shared → Prop} {hp : Heap} {g : Array GenState} {d : Drawn} {t : Nat} {os : OsState}
theorem osa_first {K : W.Frag} {name : Str} {tk : Tok} {v : Value} {x C : Addr} {fv : Array Value} {cd : ClassData}
    (X : K.In hp) (hx : hp.get? x = some { cls := .ref C, data := .fields fv }) (hcd : W.clsIn K C = some cd) (hm : refsEx cd.mro = true) (hh : cd.hasDict = true) (ha : W.findIn K (.ref C) name = some none)
    (hq : ∀ h' tk' dx, (∀ b o, b ≠ x → hp.get? b = some o → h'.get? b = some o) → hp.objs.size ≤ dx → dx ≠ x → h'.get? x = some { cls := .ref C, dict := some dx, data := .fields fv } →
      h'.Ns1 dx (fun y => if y = name then some v else none) → R (.ok (.ret .none)) ⟨h', g, d, tk', os⟩) :
    codeAny (model prog w) A (.call (.builtin "object.__setattr__") ⟨[.ref x, .str name tk, v], []⟩) R ⟨hp, g, d, t, os⟩ := by
  have hIn : W.InstAt hp x { cls := .ref C, data := .fields fv } C none := ⟨hx, rfl, rfl, trivial⟩
  have hSF := F.store_object
  have hne := refsEx_ne hm
  have hobj : cd.mro.contains (.type "object") = true := (refsEx_has "object" _ hm).trans (by decide +kernel)
  have hxs : x ≠ hp.objs.size := Nat.ne_of_lt (Heap.lt_size hx)
  have hsub : W.Looks (model prog w) hp (isInstance (.ref x) (.type "object")) true := hIn.type.andThen (W.looks_mroIn X (by unfold W.mroIn; rw [hcd, Option.bind_some, if_neg (by rw [hne]; decide), hobj]))
  refine codeAny_call_builtin hSF.slot.plain hSF.entry (@W.check_slot (model prog w) _ _ ⟨hp, g, d, t, os⟩ "object.__setattr__" "object" "__setattr__" (.ref x) [.str name tk, v] [] _ hSF.kind hSF.split hsub (hSF.args (.ref x) (.str name tk) v) ?_)
  have hmr : W.Looks (model prog w) hp (mroOf (.ref C)) cd.mro := (W.looks_clsIn X hcd).andThen .now
  have hst : W.Looks (model prog w) hp (storeTaker? none) none := .now
  have hcls : W.Looks (model prog w) hp (classData C) cd := W.looks_clsIn X hcd
  rw [W.osa_eq, refuse_eq]
  refine wpAny_bind (wpAny_bind (hIn.type.at (wpAny_bind (hmr.at ?_))))
  rw [refsEx_pass _ _ hm]
  refine wpAny_pure (wpAny_bind (hIn.type.at (wpAny_bind ((W.looks_findIn X ha).at (wpAny_bind (hst.at ?_))))))
  show wpAny _ _ (storeInOwnDict (.ref x) (.ref C) (.str name tk) name v false) _ _ _
  obtain ⟨nm, bs, mro, ns, qn, hd, sn, sb, ab, col, del⟩ := cd
  dsimp only at hh
  subst hh
  unfold storeInOwnDict ownDictForStores
  repeat (first | with_reducible refine store_in_new ?_ ?_ | with_reducible refine wpAny_loadPart_at hx ?_ | with_reducible refine hcls.at ?_ | wp_step)
  · exact ⟨_, #[], _, (Heap.get?_update_ne _ _ _ _ hxs.symm).trans (Heap.get?_push_at rfl rfl), rfl, fun e he => absurd he (by simp), fun _ => rfl⟩
  · intro h' tk' hn' hs
    have hx₁ : (hp.push { cls := .type "dict", data := .dict #[] }).get? x = some { cls := .ref C, data := .fields fv } := Heap.get?_push_of_some _ hx
    refine hq h' tk' hp.objs.size (fun b o hb ho => ?_) (Nat.le_refl _) hxs.symm ?_ hn'
    · exact (hs.2 b (Nat.ne_of_lt (Heap.lt_size ho))).trans ((Heap.get?_update_ne _ _ _ _ hb).trans (Heap.get?_push_of_some _ ho))
    · exact (hs.2 x hxs).trans (Heap.get?_update_self _ hx₁ rfl)
end
end OwE
end PySem
set_option maxHeartbeats 4000000
namespace PySem
namespace OwE
open PySem PySem.Spec PySem.Calls PyProof.Rows PySem.W
/-! ### isinstance of a caught own exception that has a dict -/
section
variable {prog : Program} {w : World} {A : Around} {E : Value → Shared → Prop} {s : Shared} {K : Frag} {e D : Addr} {oE : Obj} {dE : Option Obj}
/-- what the class says of its own __class__ -/
structure SaysC (K : Frag) (D : Addr) : Prop where
  ga : findIn K (.ref D) "__getattribute__" = some (some (.builtin "BaseException.__getattribute__"))
  gg : findIn K (.ref D) "__getattr__" = some none
  sb : subIn K (.ref D) (.type "BaseException") = some true
  hd : hasDictIn K D = true
  cl : findIn K (.ref D) "__class__" = some (some (.builtin "object.__class__"))
  sp : specialIn K (.builtin "object.__class__") "__get__" = some (some (.builtin "getset_descriptor.__get__"))
  tk : takesIn K (.builtin "object.__class__") = some true
  mo : mroIn K D (.type "object") = some true
theorem SaysC.found (S : SaysC K D) : findObj K D dE "__class__" = some (.bind (.builtin "getset_descriptor.__get__") (.builtin "object.__class__")) := by
  obtain ⟨cd, hc, _⟩ := any_some S.hd
  unfold findObj
  rw [hc, Option.bind_some, S.cl, Option.bind_some]
  simp [S.sp, S.tk]
theorem asked_class {Q : Option Value → Shared → Prop} (S : SaysC K D) (hK : K.In s.heap) (hI : InstAt s.heap e oE D dE) (hq : Q (some (.ref D)) { s with toks := s.toks + 1 }) : wpAny (model prog w) A (getAttr? (.ref e) "__class__") Q E s := by
  have hf := S.found (dE := dE)
  obtain ⟨hp, gg, dd, tt, oo⟩ := s
  have hT := hI.type (M := model prog w)
  have hA := looks_findIn (M := model prog w) hK S.ga
  have hB := looks_findIn (M := model prog w) hK S.gg
  have hC := looks_find (M := model prog w) hK hI hf
  have hS : Looks (model prog w) hp (isInstance (.ref e) (.type "BaseException")) true := hT.andThen (looks_subIn hK S.sb)
  have n0 : (false && onTheHeap (Value.builtin "BaseException.__getattribute__")) = false := rfl
  have n2 : (Value.builtin "BaseException.__getattribute__" == Value.builtin "object.__getattribute__") = false := by decide +kernel
  have n1 : (onTheHeap (Value.ref D) && Value.builtin "BaseException.__getattribute__" == Value.builtin "object.__getattribute__") = false := by
    rw [n2]
    rfl
  unfold getAttr?
  unfold getAttrBy? getAttrBy
  refine wpAny_bind (wpAny_mkText (wpAny_bind (wpAny_attempt (wpAny_holding (wpAny_bind (hT.at (wpAny_bind (hA.at ?_))))))))
  show wpAny _ _ (if (onTheHeap (Value.ref D) && Value.builtin "BaseException.__getattribute__" == Value.builtin "object.__getattribute__") = true then _ else _) _ _ _
  rw [n1, if_neg Bool.false_ne_true]
  unfold getAttrByItsOwn
  unfold hookBefore
  refine wpAny_bind ?_
  rw [if_pos (show (onTheHeap (Value.ref D)) = true from rfl)]
  refine hB.at ?_
  refine wpAny_bind (wpAny_attempt ?_)
  refine wpAny_holding ?_
  unfold callGetattribute
  rw [n0, if_neg Bool.false_ne_true]
  unfold boundAndCalled
  rw [PySem.F.excAttr_ValueError.ga.bind (.ref e)]
  refine wpAny_bind (wpAny_pure ?_)
  show wpAny _ _ (call (.builtin "BaseException.__getattribute__") [.ref e, .str "__class__" tt]) _ _ _
  refine wpAny_call ?_
  refine codeAny_call_builtin PySem.F.excAttr_ValueError.ga.plain PySem.F.entry_bexc_ga ?_
  refine @check_slot (model prog w) _ _ ⟨hp, gg, dd, tt + 1, oo⟩ "BaseException.__getattribute__" "BaseException" "__getattribute__" (.ref e) [.str "__class__" tt] [] _ (by decide +kernel) (by decide +kernel) hS (PySem.F.args_bexc_ga (.ref e) (.str "__class__" tt)) ?_
  unfold Builtin.«object.__getattribute__»
  refine wpAny_bind (wpAny_of_eq (a := ((Value.ref e : Value), [Value.str "__class__" tt])) (by first | rfl | (simp only [slotArgs]; rfl)) ?_)
  refine wpAny_bind (wpAny_pure (wpAny_bind (hT.at (wpAny_bind (hC.at ?_)))))
  show wpAny _ _ (holding [Value.builtin "object.__class__"] (call (.builtin "getset_descriptor.__get__") [.builtin "object.__class__", .ref e, .ref D]) >>= ret) _ _ _
  refine wpAny_bind (wpAny_holding (wpAny_call (class_get (s := ⟨hp, gg, dd, tt + 1, oo⟩) (ox := oE) (od := dE) hK hI S.mo ?_)))
  refine wpAny_pure ?_
  show wpAny _ _ (handedOut (.ref D)) _ _ _
  rw [handedOut_of (v := Value.ref D) rfl]
  first
    | exact wpAny_pure (wpAny_pure hq)
    | exact wpAny_pure hq
    | exact wpAny_pure (wpAny_bind (wpAny_pure (wpAny_pure hq)))
theorem kitx (S : SaysC K D) : KitX K (.ref e) (.ref D) (fun h => InstAt h e oE D dE) where
  ty := fun _ _ _ hI => hI.type
  it := fun _ _ hK _ => by
    obtain ⟨cd, hc, _⟩ := any_some S.hd
    unfold clsIn at hc
    split at hc
    · rename_i c' d' cd' sl' ho
      intro A' Q' E' s' k q
      unfold isType
      unfold loadHead
      exact wpAny_bind (wpAny_loadPart (k _ _ (hK _ _ ho)) (wpAny_pure q))
    · cases hc
  ne := fun h tp dd its n sl hK htp => by
    obtain ⟨cd, hc, _⟩ := any_some S.hd
    refine Bool.eq_false_iff.mpr fun q => ?_
    have hh : D = tp := Value.ref.inj (beq_iff_eq.mp q)
    subst hh
    unfold clsIn at hc
    split at hc
    · rename_i c' d' cd' sl' ho
      have z := (hK _ _ ho).symm.trans htp
      cases z
    · cases hc
  ca := fun hK hI k => asked_class S hK hI k
end
end OwE
end PySem
namespace L2
open PySem PySem.Spec PyProof.Rows
/-- isinstance(e, c), e the exception that the suite holds, its class D, its dict at dd -/
def rIsE2 (K : PySem.W.Frag) (D a : Addr) (cls : Value) (d : Option Addr) : List V → Hp → VK → Prop := fun xs H Q => cls = .ref D ∧ ∃ (dd : Addr) (fs : List (Str × V)), d = some dd ∧ H dd = some (.xd fs) ∧ rIsE K D a xs H Q
theorem call_isE2 {X : Cx} {a D : Addr} {oe : Obj} {pn : List (Addr × Obj)} {cls : Value} {d : Option Addr} (S : PySem.OwE.SaysC X.K D) (hz : Zc cls d oe) (hf : ∃ vs, oe.data = .fields vs) :
    CallR (X.suite a ((a, oe) :: pn)) (.builtin "isinstance") (rIsE2 X.K D a cls d) := by
  intro pins s σ H xs us Q I r h
  obtain ⟨ec, dd, fs, ed, hdd, c, cv, b, rfl, hcv, e, q⟩ := h
  subst ec
  subst ed
  cases r with
  | cons rx rr =>
    cases rr with
    | cons rt rr =>
      cases rr
      cases rx
      have ec := hcv _ rt
      subst ec
      obtain ⟨hget, _⟩ := I.pin (a, oe) (List.mem_append.mpr (.inl List.mem_cons_self))
      have hx : ObjOk X.prog X.w H s.heap dd (.xd fs) := I.hok dd _ hdd
      obtain ⟨mA, hns, _⟩ := hx
      obtain ⟨od, ho, _⟩ := lookIn_ns hns
      have J : PySem.W.InstAt s.heap a oe D (some od) := ⟨hget, hz.1, by unfold PySem.W.notCls; obtain ⟨vs, hd⟩ := hf; rw [hd] <;> rfl, by rw [hz.2]; exact ho⟩
      exact PySem.W.kia_one (PySem.OwE.kitx S) I.kIn J e (fun z => nomatch z) fun tk => ⟨.bl b, H, I.kept (t' := tk) fun _ _ z => z, rfl, q⟩
end L2
set_option maxHeartbeats 4000000
namespace Ey
open PySem PySem.Spec PyProof.Rows L2 LamX
/-! ### x(lambda: e): nothing but the table of the running code is another one behind it -/
section
variable {X : Cx} {pins : List (Addr × Obj)} {σ : L2.St} {H : Hp} {s : Shared}
theorem lam_made {c P : Addr} {lp : Arguments} {lb : Expr} {ls : Scope} {pos : Pos} {E Q : Value → Shared → Prop} (hI : Inv X pins σ H s) (TB : LamX.TabB X.base X.mg c P) (hcode : X.env.code = .ref c)
    (hT : TabS H P (X.env.qual ++ "<lambda>")) (hdef : defaultsOf lp X.env = ([], [])) (hfree : ∀ y ∈ ls.names, y.2 = .free → ∃ c, X.env.cells.lookup y.1 = some c)
    (next : ∀ (f cN : Addr) (pm ctv : Value) (H1 : Hp) (sN : Shared), Inv X pins σ H1 sN → Kp [P] H H1 → TabS H1 P (X.env.qual ++ "<lambda>") →
      sN.heap.get? f = some (PySem.W.kla_obj "<lambda>" (X.env.qual ++ "<lambda>") lp lb ls (cloFrom X.env.cells ls.names []) pm cN ctv) → H1 f = none → f ∉ frs X.stack → H1 cN = some (CodeO cN (X.env.qual ++ "<lambda>")) → Q (.ref f) sN) :
    wpAny (model X.prog X.w) X.A (eval (.Lambda lp lb ls pos) X.env) Q E s := by
  obtain ⟨qs, hP, okq, named⟩ := hT
  refine PySem.W.kla_eval hdef ?_
  have bltP : s.heap.BuiltinsAt X.mg P := TB.bm.keeps hI.bk
  have atP : s.heap.get? P = some { cls := .none, data := .fields qs } := hI.hok P _ hP
  have noFr : ∀ f, s.heap.objs.size ≤ f → f ∉ frs X.stack := by
    intro f hf z
    rcases List.mem_cons.mp (hI.stkSub _ z) with e | e
    · have hl := hI.lt
      rw [← e] at hl
      exact absurd (Nat.lt_of_lt_of_le hl hf) (Nat.lt_irrefl _)
    · exact hI.nofs hf e
  cases hc : codeAmong pos qs.toList with
  | none =>
    refine PySem.W.kla_makeFunction (mg := X.mg) (c := c) (P := P) (ps := qs) (closure_ok hfree) hI.ok.glob (hI.mod.glob.keeps hI.bk) hcode (TB.code.keeps hI.bk) atP okq hc TB.gP bltP fun cN ctv hN tN kx kge klt krec ktab => ?_
    obtain ⟨c2, oc, vs, t, e2, hoc, hd, hv⟩ := krec
    cases e2
    have size_le : s.heap.objs.size ≤ hN.objs.size := Nat.le_trans kge (Nat.le_of_lt klt)
    have freeC : H cN = none := hI.hok.fresh kge
    have J := inv_table (t' := tN) (more := #[rawInt pos.line, rawInt pos.col, .ref cN]) (h' := hN.push (PySem.W.kla_obj "<lambda>" (X.env.qual ++ "<lambda>") lp lb ls (cloFrom X.env.cells ls.names []) ((X.mg "__name__").getD .none) cN ctv)) hI hP
      (fun b o hb e => Heap.get?_push_of_some _ (kx b o hb e)) (Heap.get?_push_of_some _ ktab) kge ⟨oc, vs, t, Heap.get?_push_of_some _ hoc, hd, hv⟩
    have neC : ∀ b o, H b = some o → b ≠ cN := fun b o e => ne_of_none e freeC
    have kp : Kp [P] H (upd (upd H P (.tbl (qs ++ #[rawInt pos.line, rawInt pos.col, .ref cN]))) cN (CodeO cN (X.env.qual ++ "<lambda>"))) := by
      refine ⟨fun b o e n => ?_, fun b xs e => ?_⟩
      · rw [upd_ne (neC b o e), upd_ne (fun z => n (by rw [z]; simp))]
        exact e
      · rw [upd_ne (neC b _ e), upd_ne (fun z => by rw [z, hP] at e; cases e)]
        exact e
    have eqL : (qs ++ #[rawInt pos.line, rawInt pos.col, .ref cN]).toList = qs.toList ++ [rawInt pos.line, rawInt pos.col, .ref cN] := by simp
    refine next hN.objs.size cN ((X.mg "__name__").getD .none) ctv _ _ J kp ⟨_, by rw [upd_ne (neC P _ hP), upd_same], ?_, ?_⟩ (Heap.get?_push_size _ rfl) ?_ (noFr _ size_le) upd_same
    · rw [eqL]
      exact PySem.TriplesOk_snoc _ _ _ _ okq
    · intro p2 cv hcv
      rw [eqL] at hcv
      rcases among_app _ okq hcv with z | z
      · obtain ⟨c0, e1, e2⟩ := named p2 cv z
        refine ⟨c0, e1, ?_⟩
        rw [upd_ne (neC c0 _ e2), upd_ne (fun z => by rw [z, hP] at e2; exact codeO_ne _ (Option.some.inj e2).symm)]
        exact e2
      · exact ⟨cN, z, upd_same⟩
    · have n1 : hN.objs.size ≠ cN := Nat.ne_of_gt klt
      have n2 : hN.objs.size ≠ P := Nat.ne_of_gt (Nat.lt_of_lt_of_le (Heap.lt_size atP) size_le)
      rw [upd_ne n1, upd_ne n2]
      exact hI.hok.fresh size_le
  | some cv =>
    obtain ⟨cN, e, hco⟩ := named pos cv hc
    subst e
    refine PySem.W.kla_makeFunctionHit (mg := X.mg) (c := c) (P := P) (ps := qs) (closure_ok hfree) hI.ok.glob (hI.mod.glob.keeps hI.bk) hcode (TB.code.keeps hI.bk) atP okq hc bltP fun ctv hN tN kx ksz => ?_
    have J : Inv X pins σ H { s with heap := hN.push (PySem.W.kla_obj "<lambda>" (X.env.qual ++ "<lambda>") lp lb ls (cloFrom X.env.cells ls.names []) ((X.mg "__name__").getD .none) cN ctv), toks := tN } := hI.kept fun b o e => Heap.get?_push_of_some _ (kx b o e)
    exact next hN.objs.size cN ((X.mg "__name__").getD .none) ctv H _ J .refl ⟨qs, hP, okq, named⟩ (Heap.get?_push_size _ rfl) (hI.hok.fresh ksz) (noFr _ ksz) hco
end
/-- what is asked: the table; then what the def makes of the lambda's reading -/
def tLamK (P : Addr) (q : Str) (TT : (XK → Hp → VK → Prop) → Hp → VK → Prop) (t : XK → TE) : TE := fun σ H Q => TabS H P q ∧ ∀ H1, Kp [P] H H1 → TabS H1 P q → TT (fun E H' Q' => t E σ H' Q') H1 Q
section
variable {X : Cx}
theorem pe_lamK {TT : (XK → Hp → VK → Prop) → Hp → VK → Prop} {x a : Str} {g c P : Addr} {k : Nat} {pg : Arguments} {bg : List Stmt} {sg : Scope} {dV kV doc pm cdv ct oc : Value} {an od : Option Addr} {osl : Array (Option Value)} {Ng : List Str}
    {lp : Arguments} {lb : Expr} {ls : Scope} {t : XK → TE} {p lpos pos : Pos} (hg : Gl X x) (hm : X.mg x = some (.ref g)) (hk : PySem.W.keepIn X.K (.ref g) = true)
    (lk : X.K.lookup g = some ⟨oc, od, .func (PySem.W.fnOf x x pg bg sg dV kV doc pm an cdv ct), osl⟩) (hcg : PySem.W.codeIn X.K cdv x = true) (hb : L2.Binds X.K (PySem.W.fnOf x x pg bg sg dV kV doc pm an cdv ct) [a] []) (Sg : FnScope Ng [a] sg) (hNg : Ng[0]? = some a) (hva : Vis sg a)
    (hG : GivesTo X Ng x sg g cdv bg a (X.env.qual ++ "<lambda>") TT)
    (TB : LamX.TabB X.base X.mg c P) (hcode : X.env.code = .ref c) (hr : Room (k + 2) X.A) (L : LamS X.env.scope ls) (hdef : defaultsOf lp X.env = ([], []))
    (hbind : ∀ (q : Str) (cl : List (Str × Addr)) (pm cv ctv : Value), bindArgs (PySem.W.kla_fn "<lambda>" q lp lb ls cl pm cv ctv) ⟨[], []⟩ = pure [])
    (hbody : ∀ (A : Around) (outer : List Env) (s : Shared) (H : Hp) (E : XK) (f c' : Addr), Room k (A.deeper (lamEnv X ls s.heap.objs.size f c')) → PE (lamCx X A outer s H E ls f c') lb (t E))
    (hdb : (x == ("__debug__" : Str)) = false := by decide) (hd : (a == ("__debug__" : Str)) = false := by decide) (hcd : (a == ("__classdict__" : Str)) = false := by decide) :
    PE X (.Call (.Name x p) [.Lambda lp lb ls lpos] [] pos) (tLamK P (X.env.qual ++ "<lambda>") TT t) := by
  refine ⟨fun pins s σ H Q hI h => ?_⟩
  obtain ⟨hT, h⟩ := h
  refine wpAny_Call_Name_kw (ld_glob hI hg hm ?_ hdb)
  refine PySem.W.callWith_K (h₀ := X.base) hI.ok.mod.kin hk ?_ (by rfl) (by rfl)
  show wpAny _ _ (spliced ((false, eval (.Lambda lp lb ls lpos) X.env) :: backTo pos (starEach [] X.env))) _ _ s
  refine Calls.spliced_cons (lam_made hI TB hcode hT hdef (L.has hI.ok) fun f cN pmN ctv H1 sN J kp T1 hf hfn hfr hco => ?_)
  refine Calls.spliced_nil ⟨J.kIn, ?_⟩
  have rc : codeAny (model X.prog X.w) X.A (.call (.ref g) ⟨[.ref f], []⟩) (CR C8.CX0 X.stack X.prog X.w H1 sN Q C8.E0) sN := by
    refine run_ofS (N := Ng) (ps := [a]) (us := [.ref f]) (vs := [.ref f]) lk hcg Sg hr J.env0 (hb sN [.ref f] J.kIn rfl) (.cons rfl .nil) rfl fun hr' => ?_
    obtain ⟨t1, ht1, hq1⟩ := hG f cN sN H1 Q (fun E H' Q' => t E σ H' Q') (fun W pn xe E p1 p2 tk hW => pe_act (i := 0) J L hf hfn hfr (hbind _ _ _ _ _) tk hW hr' (fun A outer s H hr2 => hbody A outer s H E f cN hr2) hNg hva hd hcd) hco (h H1 kp T1)
    exact ⟨t1, ht1.nox, hq1⟩
  refine wpAny_call (codeAny_mono rc fun r s2 hq => ?_)
  cases r with
  | error e => exact (show False from hq).elim
  | ok fl =>
    cases fl with
    | ret u => exact J.after hq
    | next => exact False.elim hq
    | brk => exact False.elim hq
    | cont => exact False.elim hq
end
/-- repr, wherever there is room in the units -/
theorem cr_reprU {X : Cx} (hs : ∃ mm, X.base.Ns sysModules mm) (hg : X.A.guards = some []) (hu : X.A.units + 200 < cLine) : CallR X (.builtin "repr") rReprE := by
  intro pins s σ H xs us Q I r h
  obtain ⟨ms, v, d, rfl, hd, hf, hp, hz, q⟩ := h
  obtain ⟨u, rfl, ru⟩ := vals1 r
  obtain ⟨as, rd, ns⟩ := An.reads I hs d hd ru
  obtain ⟨sh, ln⟩ := fit_told d hf
  have z : d.shown.length ≤ sizeLine := Nat.le_trans ln (Nat.le_trans hz (by decide))
  have room : X.A.units + (d.depth + 1) < cLine := by omega
  have fin : ∀ (hN : Heap) (tk : Nat) (t : Tok), (∀ b o, s.heap.get? b = some o → hN.get? b = some o) → EP X pins σ Q (.str d.shown t) { s with heap := hN, toks := tk } :=
    fun hN tk t hk => ⟨.str d.shown, H, I.kept hk, ⟨t, rfl⟩, q⟩
  cases rd with
  | none => exact PySem.P.repr_of_none (fin s.heap _ _ fun _ _ e => e)
  | bool b => exact PySem.P.repr_of_bool (fin s.heap _ _ fun _ _ e => e)
  | int i t => exact PySem.P.repr_of_int (of_decide_eq_true sh) (fin s.heap _ _ fun _ _ e => e)
  | str x t => exact PySem.P.repr_of_str (fin s.heap _ _ fun _ _ e => e) z
  | list a b c e => exact repr_of_reads' (.list a b c e) sh (fun _ => ns) hg room (fun _ _ e => e) (fun hN u tk hk => fin hN tk u hk) z
  | tuple a b c e => exact repr_of_reads' (.tuple a b c e) sh (fun _ => ns) hg room (fun _ _ e => e) (fun hN u tk hk => fin hN tk u hk) z
  | dict a b c e f => exact repr_of_reads' (.dict a b c e f) sh (fun _ => ns) hg room (fun _ _ e => e) (fun hN u tk hk => fin hN tk u hk) z
end Ey
set_option exponentiation.threshold 1000
set_option maxHeartbeats 4000000
namespace Ey
open PySem PySem.Spec PyProof.Rows L2
/-! ### repr of data with great integers -/
def rReprW : List V → Hp → VK → Prop := fun xs H Q => ∃ (ms : List Addr) (v : V) (d : PyData), xs = [v] ∧ An ms H v d ∧ d.showable = true ∧ d.depth ≤ 100 ∧ d.shown.length ≤ 1000000 ∧ Q (.str d.shown) H
theorem cr_reprW {X : Cx} (hs : ∃ mm, X.base.Ns sysModules mm) (hg : X.A.guards = some []) (hu : X.A.units + 200 < cLine) : CallR X (.builtin "repr") rReprW := by
  intro pins s σ H xs us Q I r h
  obtain ⟨ms, v, d, rfl, hd, sh, hp, ln, q⟩ := h
  obtain ⟨u, rfl, ru⟩ := vals1 r
  obtain ⟨as, rd, ns⟩ := An.reads I hs d hd ru
  have z : d.shown.length ≤ sizeLine := Nat.le_trans ln (by decide)
  have room : X.A.units + (d.depth + 1) < cLine := by omega
  have fin : ∀ (hN : Heap) (tk : Nat) (t : Tok), (∀ b o, s.heap.get? b = some o → hN.get? b = some o) → EP X pins σ Q (.str d.shown t) { s with heap := hN, toks := tk } :=
    fun hN tk t hk => ⟨.str d.shown, H, I.kept hk, ⟨t, rfl⟩, q⟩
  cases rd with
  | none => exact PySem.P.repr_of_none (fin s.heap _ _ fun _ _ e => e)
  | bool b => exact PySem.P.repr_of_bool (fin s.heap _ _ fun _ _ e => e)
  | int i t => exact PySem.P.repr_of_int (of_decide_eq_true sh) (fin s.heap _ _ fun _ _ e => e)
  | str x t => exact PySem.P.repr_of_str (fin s.heap _ _ fun _ _ e => e) z
  | list a b c e => exact repr_of_reads' (.list a b c e) sh (fun _ => ns) hg room (fun _ _ e => e) (fun hN u tk hk => fin hN tk u hk) z
  | tuple a b c e => exact repr_of_reads' (.tuple a b c e) sh (fun _ => ns) hg room (fun _ _ e => e) (fun hN u tk hk => fin hN tk u hk) z
  | dict a b c e f => exact repr_of_reads' (.dict a b c e f) sh (fun _ => ns) hg room (fun _ _ e => e) (fun hN u tk hk => fin hN tk u hk) z
theorem nat_big {n : Nat} (h : n < 10 ^ 90) : (Str.ofString (toString (n : Int))).length ≤ 90 := by
  rw [ofString_len]
  show (Nat.repr n).length ≤ 90
  have e : (Nat.repr n).length = (Nat.toDigits 10 n).length := by
    unfold Nat.repr
    simp
  rw [e]
  exact digits10_le (by decide) h
theorem int_big {n : Nat} (h : n < 10 ^ 90) : (PyData.int n).showable = true ∧ (PyData.shown (.int n)).length ≤ 90 := by
  refine ⟨decide_eq_true ?_, nat_big h⟩
  show n.log2 < 1920
  by_cases h0 : n = 0
  · rw [h0]
    decide
  · rw [Nat.log2_lt h0]
    exact Nat.lt_trans h (by decide +kernel)
theorem pair_big {n : Nat} (h : n < 10 ^ 90) : (PyData.tuple [.int n, .int n]).showable = true ∧ (PyData.shown (.tuple [.int n, .int n])).length ≤ 1000000 := by
  obtain ⟨a, b⟩ := int_big h
  refine ⟨?_, ?_⟩
  · show ((PyData.int n).showable && ((PyData.int n).showable && true)) = true
    rw [a]
    rfl
  · refine Nat.le_trans (lenT _) ?_
    have e : piled (PyData.shownAll [.int n, .int n]) = (PyData.shown (.int n)).length + 2 + ((PyData.shown (.int n)).length + 2 + 0) := by
      show piled [PyData.shown (.int n), PyData.shown (.int n)] = _
      rw [piled_cons, piled_cons]
      rfl
    omega
end Ey
set_option maxHeartbeats 4000000
namespace Ey
open PySem PySem.Spec PyProof.Rows L2 PySem.SeqAt
section
variable {X : Cx}
/-- t != (), t any tuple -/
def rNeE : R2 := fun x y H Q => ∃ a b xs, x = .ref a ∧ y = .ref b ∧ H a = some (.tup xs) ∧ H b = some (.tup []) ∧ Q (.bl (!xs.isEmpty)) H
theorem op_neE (hu : X.A.units + 64 < cLine) : OpR X (compareOp .NotEq) rNeE := by
  intro pins s σ H x y v u Q I rx ry h
  obtain ⟨a, b, xs, rfl, rfl, h1, h2, q⟩ := h
  cases rx
  cases ry
  obtain ⟨its, r, p⟩ := tup_obj I h1
  obtain ⟨its2, r2, p2⟩ := tup_obj I h2
  cases r2
  refine RcNeAt.tuples (e := fun _ => true) p p2 (by omega) (fun j h1 h2 => absurd h2 (by simp)) _ _ _ _ ⟨.bl (!xs.isEmpty), H, I, ?_, q⟩
  cases r with
  | nil => rfl
  | cons _ _ => rfl
/-- xs != [], xs any list -/
def rNeEL : R2 := fun x y H Q => ∃ a b xs, x = .ref a ∧ y = .ref b ∧ H a = some (.lst xs) ∧ H b = some (.lst []) ∧ Q (.bl (!xs.isEmpty)) H
theorem op_neEL (hu : X.A.units + 64 < cLine) : OpR X (compareOp .NotEq) rNeEL := by
  intro pins s σ H x y v u Q I rx ry h
  obtain ⟨a, b, xs, rfl, rfl, h1, h2, q⟩ := h
  cases rx
  cases ry
  obtain ⟨its, r, p⟩ := lst_obj I h1
  obtain ⟨its2, r2, p2⟩ := lst_obj I h2
  cases r2
  cases r with
  | nil => exact RcNeAt.lists (e := fun _ => true) p p2 rfl (by omega) (fun j h1 h2 => absurd h2 (by simp)) _ _ _ _ ⟨.bl false, H, I, rfl, q⟩
  | cons _ _ => exact RcNeAt.lists_lengths p p2 (by simp) (by omega) _ _ _ _ ⟨.bl true, H, I, rfl, q⟩
end
end Ey
set_option exponentiation.threshold 1000
set_option maxHeartbeats 4000000
namespace Ey
open PySem PySem.Spec L2
abbrev sVal : Stmt := topS 45
abbrev sLPower : Stmt := topS 58
abbrev sLVal : Stmt := topS 59
/-- a polynomial's terms within bounds -/
def inB (d : PyData) : Bool := decide ((expD d).toNat < 16) && decide (numD d < 2 ^ 50)
def valD (m : Nat) (d : PyData) : Int := numD d * ((m ^ (expD d).toNat : Nat) : Int)
def valL (m : Nat) (ds : List PyData) : Int := (ds.map (valD m)).sum
structure PV (K : PySem.W.Frag) (mg : Str → Option Value) (A : Nat → Addr) (D : Nat → FuncData) (c0 : Addr) : Prop extends PP K mg A D c0 where
  val : Df K mg "value_at" sVal ["poly", "number"] (A 45) (D 45)
section
variable {Pr : Program} {w : World} {K : PySem.W.Frag} {mg : Str → Option Value} {base : Heap} {ms : List Addr} {A : Nat → Addr} {D : Nat → FuncData} {c0 P0 BP BN CE fP fN : Addr}
abbrev NVa : List Str := ["poly", "number", "exponent", "coefficient"]
theorem scVal : FnScope NVa ["poly", "number"] (defScope sVal) := ⟨rfl, rfl, rfl, by decide +kernel, rfl, by decide +kernel, by decide +kernel⟩
def spVA (ms Ts : List Addr) : Sp := fun vs H Q _ => ∃ (v : V) (ds : List PyData) (m : Nat), vs = [v, .int m] ∧ An ms H v (.tuple ds) ∧ wd (.tuple ds) ≤ 1000000 ∧ TTs Ts H ∧ (∀ P ∈ Ts, P ∈ ms) ∧ polyL ds = true ∧ ds.all inB = true ∧ m < 2 ^ 20 ∧ ds.length ≤ 1000 ∧ ∀ H', TTs Ts H' → Kp Ts H H' → Q (.int (valL m ds)) H'
theorem ok_val (F : PV K mg A D c0) (b : GxR.TabB base mg c0 P0) : FnOk Pr w K mg base CX0 9 (A 45) (D 45) ["poly", "number"] (spVA ms [P0]) := by
  have B := F.B
  refine F.val.F.ok scVal (fun vs H Q E h => ?_) (fun cdv Ar outer s H vs Q E hr h => ?_)
  · obtain ⟨v, ds, m, rfl, _⟩ := h
    rfl
  · obtain ⟨v, ds, m, rfl, hv, hz, hT, hsub, ep, hb, hm, hl, k⟩ := h
    have hr2 := hr.mono (show 2 ≤ 8 by decide)
    have hr1 := hr.mono (show 1 ≤ 8 by decide)
    refine ⟨_, pss_cons (ps_if (pt_not (pt_val (pe_call (ok_poly (ms := ms) F.toPP b) hr (by rfl) F.poly.g F.poly.F.kp F.poly.b .nil pass0 (by exact (pa_cons (pv 0) pa_nil))))) (pss_one ps_never) pss_nil)
      (pss_cons (ps_if (pt_not (pt_val (pe_call (ok_nat (ms := ms) F.toPB) hr2 (by rfl) F.nat.g F.nat.F.kp F.nat.b .nil pass0 (by exact (pa_cons (pv 1) pa_nil))))) (pss_one ps_never) pss_nil)
      (pss_one (ps_ret (pe_callB (cr_sum rfl) (by rfl) B.sum (by decide +kernel) (pa_cons (pe_lc (own := [("exponent", 2), ("coefficient", 3)]) (g := gTup K 2 (gCons (gName 2) (gCons (gName 3) gNil))) (tt := tYes) rfl scVal.nd
        (pi_tup (pv 0)) (blkOk_by (N := NVa) (sc := defScope sVal) (by decide +kernel)) (fun _ _ _ _ _ => pg_tup (n := 2) rfl (pgs_cons (pg_name (i := 2) scVal.nd rfl (Or.inl rfl)) (pgs_cons (pg_name (i := 3) scVal.nd rfl (Or.inl rfl)) pgs_nil)))
        (fun _ _ _ _ _ => pts_nil) (fun _ _ _ _ _ => pe_op op_mulW (pv 3) (pe_call (ok_power F.toPB) hr1 (by rfl) F.power.g F.power.F.kp F.power.b .nil pass0 (by exact (pa_cons (pv 1) (pa_cons (pv 2) pa_nil)))))) pa_nil))))), ?_⟩
    refine ⟨_, rfl, v, .tuple ds, rfl, hv, hz, hT, hsub, fun H1 g1 k1 => ⟨_, rfl, ?_⟩⟩
    rw [show polyD (.tuple ds) = true from ep]
    refine iteF ⟨_, rfl, .int m, .int m, rfl, .int _, _, rfl, ?_⟩
    rw [show natD (.int (m : Int)) = true from by
      unfold natD
      first | exact decide_eq_true (Int.natCast_nonneg m) | (simp [isIntD])]
    refine iteF ?_
    have hp : ds.all pairD = true := by
      unfold polyL at ep
      rw [Bool.and_eq_true] at ep
      exact ep.1
    have hv1 := hv.kp k1 hsub _
    cases hv1 with
    | @tup t xs _ e hds =>
      have lx := hds.length
      refine ⟨_, rfl, t, rfl, ⟨_, sqt_of e⟩, fun D nD => ?_⟩
      refine lc_tup (K := K) (a := t) (xs := xs) (fun i H' => H' D = some (.lst (((ds.take i).map (valD m)).map V.int)) ∧ Kp [] H1 H') ⟨upd_same, .new nD⟩ (fun i H' _ h => sqt_of (h.2.tup _ _ e)) ?_ ?_
      · rintro i x H' hx ⟨hD, k'⟩
        obtain ⟨dx, ex, ax⟩ := hds.get hx
        have hmem := List.mem_of_getElem? ex
        obtain ⟨tj, a, b, rfl, et, rfl, ha, hb'⟩ := pair_an ax (List.all_eq_true.mp hp dx hmem)
        have hin := List.all_eq_true.mp hb _ hmem
        have hin : (decide (a.toNat < 16) && decide (b < 2 ^ 50)) = true := hin
        rw [Bool.and_eq_true] at hin
        have h16 : a.toNat < 16 := of_decide_eq_true hin.1
        have h50 : b < 2 ^ 50 := of_decide_eq_true hin.2
        obtain ⟨n, rfl⟩ : ∃ n : Nat, a = (n : Int) := ⟨a.toNat, by omega⟩
        rw [Int.toNat_natCast] at h16
        have hpw : m ^ n < 2 ^ 400 := by
          refine Nat.lt_of_le_of_lt (Nat.pow_le_pow_left (Nat.le_of_lt hm) _) ?_
          rw [← Nat.pow_mul]
          exact Nat.pow_lt_pow_right (by decide) (by omega)
        have bl : i < ds.length := (List.getElem?_eq_some_iff.mp ex).1
        refine ⟨tj, _, rfl, sqt_of (k'.tup _ _ et), rfl, _, _, rfl, _, _, rfl, rfl, rfl, ?_⟩
        refine ⟨_, rfl, _, rfl, _, rfl, m, n, rfl, hm, h16, _, _, rfl, rfl, wide_mul (a := 50) (b := 400) (by omega) (by rw [cast_pow]; exact hpw) (by decide) (by decide) (by decide), ?_⟩
        refine ⟨_, hD, Nat.lt_of_le_of_lt (show _ ≤ 1000 by rw [List.length_map, List.length_map, List.length_take]; omega) (by decide), ?_, k'.own nD⟩
        rw [upd_same, List.take_add_one, ex, List.map_append, List.map_append]
        rfl
      · rintro H' ⟨hD, k'⟩
        rw [lx, List.take_length] at hD
        exact ⟨D, _, rfl, sql_of hD, k H' (g1.kp0 k') (k1.trans (k'.more (by simp)))⟩
end
structure LV (K : PySem.W.Frag) (mg : Str → Option Value) (A : Nat → Addr) (D : Nat → FuncData) : Prop where
  B : BI mg
  lpow : Df K mg "_law_power" sLPower ["_law_m", "_law_many"] (A 58) (D 58)
  lval : Df K mg "_law_value_at" sLVal ["_law_poly", "_law_m"] (A 59) (D 59)
section
variable {Pr : Program} {w : World} {K : PySem.W.Frag} {mg : Str → Option Value} {base : Heap} {ms : List Addr} {A : Nat → Addr} {D : Nat → FuncData}
abbrev NLp : List Str := ["_law_m", "_law_many", "_law_found", "_law_turn"]
theorem scLPower : FnScope NLp ["_law_m", "_law_many"] (defScope sLPower) := ⟨rfl, rfl, rfl, by decide +kernel, rfl, by decide +kernel, by decide +kernel⟩
theorem ok_lPower (L : LV K mg A D) : FnOk Pr w K mg base CX0 1 (A 58) (D 58) ["_law_m", "_law_many"] spPow := by
  have B := L.B
  refine L.lpow.F.ok scLPower (fun vs H Q E h => ?_) (fun cdv Ar outer s H vs Q E hr h => ?_)
  · obtain ⟨b, e, rfl, _⟩ := h
    rfl
  · obtain ⟨b, e, rfl, hb, he, k⟩ := h
    refine ⟨_, pss_cons (ps_set (i := 2) scLPower.nd rfl (.inl rfl) pe_int)
      (pss_cons (ps_for PassesOwn.never rfl (pi_range1 (by rfl) B.range (pa_cons (pv 1) pa_nil)) (pg_name (i := 3) scLPower.nd rfl (Or.inl rfl)) (pss_one (ps_set (i := 2) scLPower.nd rfl (.inl rfl) (pe_op op_mulW (pv 2) (pv 0)))))
      (pss_one (ps_ret (pv 2)))), ?_⟩
    refine ⟨_, rfl, e, rfl, by omega, by omega, ?_⟩
    rw [Int.toNat_natCast]
    refine for_range (lo := 0) (n := e) (fun i σ H2 => H2 = H ∧ ∃ y, σ = [some (.int b), some (.int e), some (.int ((b ^ i : Nat) : Int)), y]) ⟨rfl, none, rfl⟩ ?_ ?_
    · rintro i σ H2 hi ⟨rfl, y, rfl⟩
      have hf : b ^ i < 2 ^ 400 := by
        refine Nat.lt_of_le_of_lt (Nat.pow_le_pow_left (Nat.le_of_lt hb) _) ?_
        rw [← Nat.pow_mul]
        exact Nat.pow_lt_pow_right (by decide) (by omega)
      refine ⟨_, rfl, _, rfl, _, _, rfl, rfl, wide_mul (a := 400) (b := 20) (by rw [cast_pow]; exact hf) (by rw [Int.natAbs_natCast]; exact hb) (by decide) (by decide) (by decide), rfl, some (.int (0 + (i : Nat))), ?_⟩
      show [some (V.int b), some (V.int e), some (V.int (((b ^ i : Nat) : Int) * (b : Int))), some (V.int (0 + (i : Nat)))] = _
      rw [← Int.natCast_mul, ← Nat.pow_succ]
    · rintro σ H2 ⟨rfl, y, rfl⟩
      exact ⟨_, rfl, k⟩
abbrev NV : List Str := ["_law_poly", "_law_m", "_law_many", "_law_number"]
theorem scLVal : FnScope NV ["_law_poly", "_law_m"] (defScope sLVal) := ⟨rfl, rfl, rfl, by decide +kernel, rfl, by decide +kernel, by decide +kernel⟩
def spVal (ms : List Addr) : Sp := fun vs H Q _ => ∃ (v : V) (ds : List PyData) (m : Nat), vs = [v, .int m] ∧ An ms H v (.tuple ds) ∧ ds.all pairD = true ∧ ds.all inB = true ∧ m < 2 ^ 20 ∧ ds.length ≤ 1000 ∧ ∀ H', Kp [] H H' → Q (.int (valL m ds)) H'
theorem ok_lVal (L : LV K mg A D) : FnOk Pr w K mg base CX0 2 (A 59) (D 59) ["_law_poly", "_law_m"] (spVal ms) := by
  have B := L.B
  refine L.lval.F.ok scLVal (fun vs H Q E h => ?_) (fun cdv Ar outer s H vs Q E hr h => ?_)
  · obtain ⟨v, ds, m, rfl, _⟩ := h
    rfl
  · obtain ⟨v, ds, m, rfl, hv, hp, hb, hm, hl, k⟩ := h
    refine ⟨_, pss_one (ps_ret (pe_callB (cr_sum rfl) (by rfl) B.sum (by decide +kernel) (pa_cons (pe_lc (own := [("_law_many", 2), ("_law_number", 3)]) (g := gTup K 2 (gCons (gName 2) (gCons (gName 3) gNil))) (tt := tYes) rfl scLVal.nd
        (pi_tup (pv 0)) (blkOk_by (N := NV) (sc := defScope sLVal) (by decide +kernel)) (fun _ _ _ _ _ => pg_tup (n := 2) rfl (pgs_cons (pg_name (i := 2) scLVal.nd rfl (Or.inl rfl)) (pgs_cons (pg_name (i := 3) scLVal.nd rfl (Or.inl rfl)) pgs_nil)))
        (fun _ _ _ _ _ => pts_nil) (fun _ _ _ _ _ => pe_op op_mulW (pv 3) (pe_call (ok_lPower L) hr (by rfl) L.lpow.g L.lpow.F.kp L.lpow.b .nil pass0 (pa_cons (pv 1) (pa_cons (pv 2) pa_nil))))) pa_nil))), ?_⟩
    cases hv with
    | @tup t xs _ e hds =>
      have lx := hds.length
      refine ⟨_, rfl, t, rfl, ⟨_, sqt_of e⟩, fun D nD => ?_⟩
      refine lc_tup (K := K) (a := t) (xs := xs) (fun i H' => H' D = some (.lst (((ds.take i).map (valD m)).map V.int)) ∧ Kp [] H H') ⟨upd_same, .new nD⟩ (fun i H' _ h => sqt_of (h.2.tup _ _ e)) ?_ ?_
      · rintro i x H' hx ⟨hD, k'⟩
        obtain ⟨dx, ex, ax⟩ := hds.get hx
        have hmem := List.mem_of_getElem? ex
        obtain ⟨tj, a, b, rfl, et, rfl, ha, hb'⟩ := pair_an ax (List.all_eq_true.mp hp dx hmem)
        have hin := List.all_eq_true.mp hb _ hmem
        have hin : (decide (a.toNat < 16) && decide (b < 2 ^ 50)) = true := hin
        rw [Bool.and_eq_true] at hin
        have h16 : a.toNat < 16 := of_decide_eq_true hin.1
        have h50 : b < 2 ^ 50 := of_decide_eq_true hin.2
        obtain ⟨n, rfl⟩ : ∃ n : Nat, a = (n : Int) := ⟨a.toNat, by omega⟩
        rw [Int.toNat_natCast] at h16
        have hpw : m ^ n < 2 ^ 400 := by
          refine Nat.lt_of_le_of_lt (Nat.pow_le_pow_left (Nat.le_of_lt hm) _) ?_
          rw [← Nat.pow_mul]
          exact Nat.pow_lt_pow_right (by decide) (by omega)
        have bl : i < ds.length := (List.getElem?_eq_some_iff.mp ex).1
        refine ⟨tj, _, rfl, sqt_of (k'.tup _ _ et), rfl, _, _, rfl, _, _, rfl, rfl, rfl, ?_⟩
        refine ⟨_, rfl, _, rfl, _, rfl, m, n, rfl, hm, h16, _, _, rfl, rfl, wide_mul (a := 50) (b := 400) (by omega) (by rw [cast_pow]; exact hpw) (by decide) (by decide) (by decide), ?_⟩
        refine ⟨_, hD, Nat.lt_of_le_of_lt (show _ ≤ 1000 by rw [List.length_map, List.length_map, List.length_take]; omega) (by decide), ?_, k'.own nD⟩
        rw [upd_same, List.take_add_one, ex, List.map_append, List.map_append]
        rfl
      · rintro H' ⟨hD, k'⟩
        rw [lx, List.take_length] at hD
        exact ⟨D, _, rfl, sql_of hD, k H' k'⟩
end
end Ey
set_option maxHeartbeats 2000000
/-! sorted(d.items()), keys and values ints -/
namespace Si
open PySem PySem.W PySem.Spec PyProof.Rows L2
section
variable {X : Cx} {e : Expr} {te : TE} {p apos cpos pos : Pos}
theorem tups_laid {pins : List (Addr × Obj)} {σ : L2.St} {H : Hp} {s : Shared} {h' : Heap} {tk : Nat} {lo : Addr} {kvs : List (Key × V)} {vs : List (Key × Value)} {as : List Addr} (I : Inv X pins σ H s) (kv : KV kvs vs) (hlo : s.heap.objs.size ≤ lo)
    (hk : ∀ b o, s.heap.get? b = some o → h'.get? b = some o) (hl : as.length = vs.length) (hG : PySem.W.KdxG (mixKind X.prog X.w) vs lo h' as) :
    ∃ H' : Hp, (∀ b o, H b = some o → H' b = some o) ∧ (∀ t ∈ as, H t = none) ∧ (∀ b, b ∉ as → H' b = H b) ∧ Paired (fun (t : Addr) (q : Key × V) => H' t = some (.tup [kV q.1, q.2])) as kvs ∧ Inv X pins σ H' { s with heap := h', toks := tk } := by
  have lk : kvs.length = vs.length := Paired.length kv
  have nd : as.Nodup := List.Pairwise.imp (fun {a b} (h : a < b) => Nat.ne_of_lt h) hG.rise
  have new : ∀ t ∈ as, H t = none := fun t ht => I.hok.fresh (Nat.le_of_lt (Nat.lt_of_le_of_lt hlo (hG.above t ht)))
  have atP := LiI.putT_at as kvs H (by omega) nd
  have off : ∀ b, b ∉ as → LiI.putT H as kvs b = H b := fun b h1 => LiI.putT_off as kvs _ h1
  have low : ∀ b o, s.heap.get? b = some o → b ∉ as := fun b o e z => absurd (Heap.lt_size e) (Nat.not_lt.mpr (Nat.le_of_lt (Nat.lt_of_le_of_lt hlo (hG.above b z))))
  have kp : ∀ b u, H b = some u → (LiI.putT H as kvs) b = some u := fun b u e => by
    rw [off b (fun z => by rw [new b z] at e; cases e)]
    exact e
  refine ⟨LiI.putT H as kvs, kp, new, off, atP, ?_⟩
  refine I.call' (ch := []) rfl ⟨fun b o q _ _ _ => hk b o q, fun b o q _ _ _ => ⟨o.slots, hk b o q⟩, fun b o q n _ => ?_, fun b o q _ => ⟨o, hk b o q⟩, fun b xs q => kp b _ q, fun b o u q => kp b _ q, fun b ps q => ⟨#[], by rw [kp b _ q]; simp⟩⟩ (fun b u q => ?_) I.bare fun b z => by simp at z
  · rw [off b (low b o q)]
    exact n
  · by_cases hb : b ∈ as
    · obtain ⟨j, pk, e1, e2, e3⟩ := LiI.paired_ix atP hb
      rw [e3] at q
      cases q
      obtain ⟨key, k, x, f1, f2, f3⟩ := hG.pairs j b e1
      obtain ⟨qv, g1, g2, g3⟩ := LiI.paired_get kv e2
      rw [f1] at g1
      cases g1
      have rk : RelV (kV pk.1) key := by
        rw [g2]
        exact relV_key (show keyIs k key = true from f2)
      exact ⟨by show 2 ≤ sizeLine; decide, [key, x], .cons rk (.cons g3 .nil), ⟨_, f3, rfl, _, rfl⟩⟩
    · rw [off b hb] at q
      exact (I.hok b u q).stay (fun d v _ y => hk d v y) (fun d y => kp d _ y) fun d xs y => kp d _ y
end
/-- the ints of the pair at v -/
def kf (h : Heap) (v : Value) : Int × Int := match v with
  | .ref a => (match h.get? a with
    | some o => (match o.data with
      | .seq xs _ => (match xs.toList with
        | [.int i _, .int j _] => (i, j)
        | _ => (0, 0))
      | _ => (0, 0))
    | none => (0, 0))
  | _ => (0, 0)
theorem kf_of {h : Heap} {a : Addr} {i j : Int} {t u : Tok} (e : h.get? a = some { cls := .type "tuple", data := .seq #[.int i t, .int j u] }) : kf h (.ref a) = (i, j) := by
  simp only [kf, e]
def kI (p : Int × Int) : Key × V := (.inl p.1, .int p.2)
def rItemsS : V → Hp → VK → Prop := fun x H Q => ∃ (d : Addr) (ks : List (Int × Int)), x = .ref d ∧ H d = some (.dK (ks.map kI)) ∧
  ∀ (H' : Hp) (q : Addr) (ts : List Addr) (qs : List (Int × Int)), (∀ b o, H b = some o → H' b = some o) → H q = none → H' q = some (.lst (ts.map V.ref)) → qs.Perm ks → qs.Pairwise (fun a b => SrtO.lexB b a = false) →
    Paired (fun (t : Addr) (q : Int × Int) => H' t = some (.tup [.int q.1, .int q.2])) ts qs → Q (.ref q) H'
def tSortItems (te : TE) : TE := fun σ H Q => te σ H fun x H1 => rItemsS x H1 Q
section
variable {X : Cx} {e : Expr} {te : TE} {p apos cpos pos : Pos}
/-- sorted(e.items()) -/
theorem pe_sortItems (hc : X.calm = true) (he : PE X e te) (hg : Gl X "sorted") (hm : X.mg "sorted" = none) (hv : bootBuiltins "sorted" = some (.builtin "sorted")) (hbase : attributeBase e "items" X.env (eval e X.env) = eval e X.env := by rfl) (hline : (apos.endLine == cpos.line) = true := by rfl)
    (hs : starEach [.Call (.Attribute e "items" apos) [] [] cpos] X.env = (false, eval (.Call (.Attribute e "items" apos) [] [] cpos) X.env) :: starEach [] X.env := by rfl) :
    PE X (.Call (.Name "sorted" p) [.Call (.Attribute e "items" apos) [] [] cpos] [] pos) (tSortItems te) := by
  refine ⟨fun pins s σ H Q I hq => ?_⟩
  refine wpAny_Call_Name_kw (ld_blt I hg hm hv ?_)
  refine Calls.callWith_builtin rfl (Calls.evalArgs_plain ?_)
  show wpAny _ _ (spliced ((false, eval (.Call (.Attribute e "items" apos) [] [] cpos) X.env) :: _)) _ _ s
  refine Calls.spliced_cons ?_
  refine wpAny_Call_method (T := "dict") (id := "dict.items") hbase rfl hline F.plainAttrs_dict F.slot_dict_items F.type_dict_items (thn (he.run pins s σ H _ I hq) fun u s1 ⟨x, H1, I1, rx, d, ks, ex, hd, q⟩ => ?_)
  subst ex
  obtain rfl : u = Value.ref d := rx
  obtain ⟨hz, hs0, vs, kv, hdo⟩ := I1.hok d _ hd
  obtain ⟨ep, hat⟩ := hdo.dictAt
  have lk : (ks.map kI).length = vs.length := Paired.length kv
  have hzl : vs.length ≤ sizeLine := by omega
  have I2 : Inv X pins σ H1 { s1 with heap := s1.heap.push { cls := .type "dict_items", data := .fields #[.ref d] } } := I1.kept (t' := s1.toks) fun b ob q => Heap.get?_push_of_some _ q
  refine ⟨hdo.typeIs, hdo.mapOf.noDict, ?_⟩
  show wpAny _ _ (callWith cpos (.builtin "dict.items") [.ref d] [] []) _ X.xe s1
  refine method_meetsIn F.slot_dict_items F.entry_dict_items rfl (PySem.evalArgs_none ⟨rfl, hdo.typeIs, F.args_dict_items_1 _, _, meets_dict_items (mixKind X.prog X.w) d hs0, ⟨vs, hdo⟩, ?_⟩)
  refine Calls.spliced_nil ?_
  refine Calls.call_function_entry kind_sorted plain_sorted entry_sorted (args_sorted1 _) ?_
  unfold Builtin.«sorted»
  refine wpAny_bind (m := checkCount "sorted" 1 1 _) (wpAny_pure ?_)
  refine wpAny_bind (PySem.W.kdx_collect (knd := mixKind X.prog X.w) (kvs := vs) (ep := ep) (A := X.A.in1) (I1.ok.hd hc) ⟨_, Heap.get?_push_size _ rfl, rfl, rfl⟩ (hat.push _) hzl fun h' tk as hk hl hG => ?_)
  refine wpAny_bind (wpAny_newList ?_ (by rw [List.length_map, hl]; exact hzl))
  have I3 : Inv X pins σ H1 { s1 with heap := s1.heap } := I1
  have hk1 : ∀ b o, s1.heap.get? b = some o → h'.get? b = some o := fun b o q => hk b o (Heap.get?_push_of_some _ q)
  have hsz : s1.heap.objs.size ≤ (s1.heap.push { cls := .type "dict_items", data := .fields #[.ref d] }).objs.size := by rw [Heap.size_push]; exact Nat.le_succ _
  obtain ⟨H2, kp2, new2, off2, atP, J⟩ := tups_laid (tk := tk) I1 kv hsz hk1 hl hG
  have lk2 : as.length = ks.length := by
    rw [hl, ← lk, List.length_map]
  have lth : s1.heap.objs.size ≤ h'.objs.size := by
    have := hk (s1.heap.objs.size) _ (Heap.get?_push_size _ rfl)
    exact Nat.le_of_lt (Heap.lt_size this)
  -- the pairs as they stand
  have pr : ∀ (j : Nat) (a : Addr), as[j]? = some a → ∃ (q : Int × Int) (t u : Tok), ks[j]? = some q ∧ h'.get? a = some { cls := .type "tuple", data := .seq #[.int q.1 t, .int q.2 u] } := by
    intro j a hj
    obtain ⟨key, k, x, f1, f2, f3⟩ := hG.pairs j a hj
    have hjl : j < ks.length := by
      have := (List.getElem?_eq_some_iff.mp hj).1
      omega
    have hkj : (ks.map kI)[j]? = some (kI ks[j]) := by rw [List.getElem?_map, List.getElem?_eq_getElem hjl]; rfl
    obtain ⟨qv, g1, g2, g3⟩ := LiI.paired_get kv hkj
    rw [f1] at g1
    cases g1
    have rk : RelV (kV (kI ks[j]).1) key := by
      rw [g2]
      exact relV_key (show keyIs k key = true from f2)
    obtain ⟨t, rfl⟩ := rk
    obtain ⟨u, rfl⟩ := g3
    exact ⟨ks[j], t, u, List.getElem?_eq_getElem hjl, f3⟩
  have hoL : (h'.push { cls := .type "list", data := .seq (as.map Value.ref).toArray }).get? h'.objs.size = some (seqObj "list" (as.map Value.ref).toArray 0) := Heap.get?_push_size _ rfl
  have kb : ∀ b o, h'.get? b = some o → (h'.push { cls := .type "list", data := .seq (as.map Value.ref).toArray }).get? b = some o := fun b o e => Heap.get?_push_of_some _ e
  generalize h'.push { cls := .type "list", data := .seq (as.map Value.ref).toArray } = h2 at hoL kb ⊢
  have lmz : (as.map Value.ref).length ≤ sizeLine := by rw [List.length_map, hl]; exact hzl
  have isP : ∀ v ∈ as.map Value.ref, Srt.IsPair h2 v (kf h' v).1 (kf h' v).2 := by
    intro v hv
    obtain ⟨a, ha, rfl⟩ := List.mem_map.mp hv
    obtain ⟨j, hj⟩ := List.mem_iff_getElem?.mp ha
    obtain ⟨q, t, u, _, hq⟩ := pr j a hj
    rw [kf_of hq]
    exact ⟨a, _, t, u, 0, rfl, kb _ _ hq, rfl, rfl⟩
  refine wpAny_bind (wpAny_holding (wpAny_call_entry slot_list_sort ⟨_, hoL, rfl⟩ entry_list_sort (SrtO.list_sort_ord (SrtO.swo_lex (kf h')) hoL lmz (fun h2l => SrtO.pairs_sortableO (by omega) isP fun o e c => ?_) fun out hs hb => ⟨_, rfl, ?_⟩) (args_list_sort _)))
  · rw [hoL] at e
    cases e
    exact absurd (Value.type.inj c) (by decide)
  · -- behind the sort
    have kF : ∀ b o, h'.get? b = some o → (sortedHeap h2 h'.objs.size (as.map Value.ref) out.toArray).get? b = some o := fun b o e => (PyProof.Rows.sortedHeap_old (Nat.ne_of_lt (Heap.lt_size e)) (Heap.lt_size (kb b o e))).trans (kb b o e)
    obtain ⟨eF, heF⟩ := PyProof.Rows.sortedHeap_at (vs := as.map Value.ref) (out := out.toArray) hoL
    obtain ⟨ts, hts⟩ : ∃ ts : List Addr, out = ts.map Value.ref := by
      refine ⟨out.map fun v => match v with | .ref a => a | _ => 0, ?_⟩
      rw [List.map_map]
      conv => lhs; rw [← List.map_id out]
      refine List.map_congr_left fun v hv => ?_
      obtain ⟨a, _, rfl⟩ := List.mem_map.mp (hb.perm.mem_iff.mp hv)
      rfl
    subst hts
    have hn0 : H1 h'.objs.size = none := I1.hok.fresh lth
    have pm : ts.Perm as := by
      have := hb.perm.map fun v => (match v with | .ref a => a | _ => 0 : Addr)
      simpa [List.map_map, Function.comp_def] using this
    have ekf : as.map (fun a => kf h' (.ref a)) = ks := by
      apply List.ext_getElem?
      intro j
      rw [List.getElem?_map]
      cases hj : as[j]? with
      | none =>
        have : as.length ≤ j := List.getElem?_eq_none_iff.mp hj
        rw [List.getElem?_eq_none (by omega)]
        rfl
      | some a =>
        obtain ⟨q, t, u, hq, hg⟩ := pr j a hj
        rw [hq]
        show some (kf h' (.ref a)) = some q
        rw [kf_of hg]
    have fits : (ts.map V.ref).length ≤ sizeLine := by
      rw [List.length_map, pm.length_eq, hl]
      exact hzl
    have I4 : Inv X pins σ (upd H2 h'.objs.size (.lst (ts.map V.ref))) { s1 with heap := sortedHeap h2 h'.objs.size (as.map Value.ref) (ts.map Value.ref).toArray, toks := tk } :=
      J.laid (t' := tk) kF (Nat.le_refl _) ⟨fits, ts.map Value.ref, eF, LiI.vals_refs ts, heF⟩
    have nS : H2 h'.objs.size = none := J.hok.fresh (Nat.le_refl _)
    have kpF : ∀ b o, H2 b = some o → (upd H2 h'.objs.size (.lst (ts.map V.ref))) b = some o := fun b o e => (upd_ne (ne_of_none e nS)).trans e
    refine wpAny_pure ⟨_, rfl, .ref h'.objs.size, _, I4, rfl, q _ _ ts (ts.map fun a => kf h' (.ref a)) (fun b o e => kpF b o (kp2 b o e)) hn0 upd_same ?_ ?_ ?_⟩
    · rw [← ekf]
      exact pm.map _
    · rw [List.pairwise_map]
      have := hs
      rw [SrtO.Srtd, List.pairwise_map] at this
      exact this
    · have gen : ∀ l : List Addr, (∀ a ∈ l, a ∈ as) → Paired (fun (t : Addr) (q : Int × Int) => (upd H2 h'.objs.size (.lst (ts.map V.ref))) t = some (.tup [.int q.1, .int q.2])) l (l.map fun a => kf h' (.ref a)) := by
        intro l
        induction l with
        | nil => exact fun _ => .nil
        | cons a r ih =>
          intro hm
          refine .cons ?_ (ih fun b hb => hm b (List.mem_cons_of_mem _ hb))
          obtain ⟨j, hj⟩ := List.mem_iff_getElem?.mp (hm a List.mem_cons_self)
          obtain ⟨q2, t, u, hq, hg⟩ := pr j a hj
          have hkj : (ks.map kI)[j]? = some (kI q2) := by rw [List.getElem?_map, hq]; rfl
          obtain ⟨y, y1, y2⟩ := LiI.paired_get atP hj
          rw [hkj] at y1
          cases y1
          show upd H2 h'.objs.size (.lst (ts.map V.ref)) a = some (.tup [.int (kf h' (.ref a)).1, .int (kf h' (.ref a)).2])
          rw [kf_of hg]
          exact kpF _ _ y2
      exact gen ts fun a ha => pm.mem_iff.mp ha
end
end Si
set_option maxHeartbeats 4000000
namespace Ey
open PySem PySem.Spec L2
/-! ### sums by exponents -/
def coefSum (ps : List (Int × Int)) (k : Int) : Int := ((ps.filter fun p => decide (p.1 = k)).map (·.2)).sum
def putI (ks : List (Int × Int)) (k v : Int) : List (Int × Int) := if (ks.any fun p => decide (p.1 = k)) = true then ks.map (fun p => if p.1 = k then (p.1, v) else p) else ks ++ [(k, v)]
def lookI (ks : List (Int × Int)) (k : Int) : Option Int := (ks.find? fun p => decide (p.1 = k)).map (·.2)
theorem valV_kI (k : Int) : ∀ ks : List (Int × Int), valV (ks.map Si.kI) (.inl k) = (lookI ks k).map V.int
  | [] => rfl
  | p :: r => by
    by_cases h : p.1 = k
    · rw [List.map_cons, valV_pos (show (Si.kI p).1 = .inl k by rw [← h]; rfl)]
      simp [lookI, List.find?_cons, h, Si.kI]
    · rw [List.map_cons, valV_neg (show ¬ (Si.kI p).1 = .inl k from fun z => h (by injection z)), valV_kI k r]
      simp [lookI, List.find?_cons, h]
theorem putK_kI (k v : Int) (ks : List (Int × Int)) : putK (ks.map Si.kI) (.inl k) (.int v) = (putI ks k v).map Si.kI := by
  have e : ((ks.map Si.kI).any fun kv => decide (kv.1 = .inl k)) = ks.any fun p => decide (p.1 = k) := by
    rw [List.any_map]
    congr 1
    funext p
    show decide ((Sum.inl p.1 : Key) = .inl k) = decide (p.1 = k)
    by_cases h : p.1 = k
    · rw [decide_eq_true h, decide_eq_true (by rw [h])]
    · rw [decide_eq_false h, decide_eq_false (fun z => h (by injection z))]
  unfold putK putI
  rw [e]
  by_cases h : (ks.any fun p => decide (p.1 = k)) = true
  · rw [if_pos h, if_pos h, List.map_map, List.map_map]
    refine List.map_congr_left fun p _ => ?_
    show (if (Sum.inl p.1 : Key) = .inl k then _ else _) = Si.kI (if p.1 = k then (p.1, v) else p)
    by_cases hp : p.1 = k
    · rw [if_pos hp, if_pos (by rw [hp])]
      exact (rfl : ((Sum.inl p.1 : Key), V.int v) = _)
    · rw [if_neg hp, if_neg (fun z => hp (by injection z))]
  · rw [if_neg h, if_neg h, List.map_append]
    rfl
theorem lookI_put (ks : List (Int × Int)) (k v j : Int) : lookI (putI ks k v) j = if j = k then some v else lookI ks j := by
  have h := valV_kI j (putI ks k v)
  rw [← putK_kI, valV_put, valV_kI] at h
  by_cases e : j = k
  · rw [if_pos e]
    rw [if_pos (by rw [e])] at h
    cases hl : lookI (putI ks k v) j with
    | none => rw [hl] at h; cases h
    | some x =>
      rw [hl] at h
      injection h with h
      injection h with h
      rw [h]
  · rw [if_neg e]
    rw [if_neg (fun z => e (by injection z))] at h
    cases h1 : lookI (putI ks k v) j with
    | none =>
      cases h2 : lookI ks j with
      | none => rfl
      | some y => rw [h1, h2] at h; cases h
    | some x =>
      cases h2 : lookI ks j with
      | none => rw [h1, h2] at h; cases h
      | some y =>
        rw [h1, h2] at h
        injection h with h
        injection h with h
        rw [h]
theorem putI_keys (ks : List (Int × Int)) (k v : Int) (h : (ks.map (·.1)).Nodup) : ((putI ks k v).map (·.1)).Nodup := by
  unfold putI
  split
  · rw [List.map_map]
    have e : (ks.map ((fun p : Int × Int => p.1) ∘ fun p => if p.1 = k then (p.1, v) else p)) = ks.map (·.1) := by
      refine List.map_congr_left fun p _ => ?_
      show (if p.1 = k then (p.1, v) else p).1 = p.1
      split <;> rfl
    rw [e]
    exact h
  · rename_i hn
    rw [List.map_append]
    refine List.nodup_append.mpr ⟨h, by simp, fun a ha b hb => ?_⟩
    rw [List.mem_map] at ha
    obtain ⟨p, hp, rfl⟩ := ha
    have hb' : b = k := by simpa using hb
    rintro rfl
    refine hn (List.any_eq_true.mpr ⟨p, hp, decide_eq_true hb'⟩)
structure SumOk (ps ks : List (Int × Int)) : Prop where
  nd : (ks.map (·.1)).Nodup
  lk : ∀ k, lookI ks k = if k ∈ ps.map (·.1) then some (coefSum ps k) else none
theorem SumOk.step {ps ks : List (Int × Int)} (h : SumOk ps ks) (e c : Int) : SumOk (ps ++ [(e, c)]) (putI ks e ((lookI ks e).getD 0 + c)) := by
  refine ⟨putI_keys _ _ _ h.nd, fun k => ?_⟩
  rw [lookI_put]
  have cs : coefSum (ps ++ [(e, c)]) k = coefSum ps k + if e = k then c else 0 := by
    unfold coefSum
    rw [List.filter_append, List.map_append, List.sum_append]
    by_cases z : e = k <;> simp [z]
  by_cases hk : k = e
  · subst hk
    rw [if_pos rfl, if_pos (by simp), cs, if_pos rfl, h.lk]
    by_cases hm : k ∈ ps.map (·.1)
    · rw [if_pos hm]
      rfl
    · rw [if_neg hm]
      have z : coefSum ps k = 0 := by
        unfold coefSum
        rw [List.filter_eq_nil_iff.mpr fun p hp => ?_]
        · rfl
        · simp
          rintro rfl
          exact hm (List.mem_map_of_mem hp)
      rw [z]
      rfl
  · rw [if_neg hk, h.lk, cs]
    have e2 : k ∈ (ps ++ [(e, c)]).map (·.1) ↔ k ∈ ps.map (·.1) := by
      rw [List.map_append, List.mem_append]
      simp
      intro z
      exact absurd z hk
    by_cases hm : k ∈ ps.map (·.1)
    · rw [if_pos hm, if_pos (e2.mpr hm), if_neg (fun z => hk z.symm), Int.add_zero]
    · rw [if_neg hm, if_neg (fun z => hm (e2.mp z))]
/-- the polynomial of the pairs ps -/
structure PolyOf (ps qs : List (Int × Int)) : Prop where
  up : qs.Pairwise fun a b => a.1 < b.1
  mem : ∀ x : Int × Int, x ∈ qs ↔ x.1 ∈ ps.map (·.1) ∧ x.2 = coefSum ps x.1
theorem up_uniq : ∀ {qs rs : List (Int × Int)}, qs.Pairwise (fun a b => a.1 < b.1) → rs.Pairwise (fun a b => a.1 < b.1) → (∀ x, x ∈ qs ↔ x ∈ rs) → qs = rs
  | [], [], _, _, _ => rfl
  | [], y :: _, _, _, h => absurd ((h y).mpr List.mem_cons_self) List.not_mem_nil
  | x :: _, [], _, _, h => absurd ((h x).mp List.mem_cons_self) List.not_mem_nil
  | x :: qs, y :: rs, h1, h2, h => by
    rw [List.pairwise_cons] at h1 h2
    have e : x = y := by
      rcases List.mem_cons.mp ((h x).mp List.mem_cons_self) with a | a
      · exact a
      · rcases List.mem_cons.mp ((h y).mpr List.mem_cons_self) with b | b
        · exact b.symm
        · have := h2.1 x a
          have := h1.1 y b
          omega
    subst e
    congr 1
    refine up_uniq h1.2 h2.2 fun z => ⟨fun hz => ?_, fun hz => ?_⟩
    · rcases List.mem_cons.mp ((h z).mp (List.mem_cons_of_mem _ hz)) with a | a
      · have := h1.1 z hz
        rw [a] at this
        omega
      · exact a
    · rcases List.mem_cons.mp ((h z).mpr (List.mem_cons_of_mem _ hz)) with a | a
      · have := h2.1 z hz
        rw [a] at this
        omega
      · exact a
theorem PolyOf.uniq {ps ps' qs rs : List (Int × Int)} (h : PolyOf ps qs) (g : PolyOf ps' rs) (hm : ∀ k, k ∈ ps.map (·.1) ↔ k ∈ ps'.map (·.1)) (hs : ∀ k, coefSum ps k = coefSum ps' k) : qs = rs :=
  up_uniq h.up g.up fun x => by rw [h.mem, g.mem, hm, hs]
theorem SumOk.mem {ps ks : List (Int × Int)} (h : SumOk ps ks) (x : Int × Int) : x ∈ ks ↔ x.1 ∈ ps.map (·.1) ∧ x.2 = coefSum ps x.1 := by
  have key : ∀ (l : List (Int × Int)), (l.map (·.1)).Nodup → (x ∈ l ↔ lookI l x.1 = some x.2) := by
    intro l
    induction l with
    | nil => intro _; simp [lookI]
    | cons p r ih =>
      intro nd
      rw [List.map_cons, List.nodup_cons] at nd
      by_cases hp : p.1 = x.1
      · have e : lookI (p :: r) x.1 = some p.2 := by simp [lookI, List.find?_cons, hp]
        rw [e, List.mem_cons]
        constructor
        · rintro (a | a)
          · rw [a]
          · exact absurd (by rw [hp]; exact List.mem_map_of_mem a) nd.1
        · intro a
          injection a with a
          exact .inl (Prod.ext hp.symm a.symm)
      · have e : lookI (p :: r) x.1 = lookI r x.1 := by simp [lookI, List.find?_cons, hp]
        rw [e, List.mem_cons, ih nd.2]
        constructor
        · rintro (a | a)
          · exact absurd (by rw [a]) hp
          · exact a
        · exact .inr
  rw [key ks h.nd, h.lk]
  by_cases hm : x.1 ∈ ps.map (·.1)
  · rw [if_pos hm]
    constructor
    · intro e
      injection e with e
      exact ⟨hm, e.symm⟩
    · rintro ⟨_, e⟩
      rw [e]
  · rw [if_neg hm]
    constructor
    · intro e; cases e
    · exact fun e => absurd e.1 hm
theorem SumOk.poly {ps ks qs : List (Int × Int)} (h : SumOk ps ks) (hp : qs.Perm ks) (hs : qs.Pairwise fun a b => SrtO.lexB b a = false) : PolyOf ps qs := by
  refine ⟨?_, fun x => by rw [hp.mem_iff, h.mem]⟩
  have nd : (qs.map (·.1)).Nodup := (hp.map (·.1)).nodup_iff.mpr h.nd
  rw [List.Nodup, List.pairwise_map] at nd
  refine (hs.and nd).imp fun {a b} hh => ?_
  have := SrtO.lexB_no.mp hh.1
  have := hh.2
  omega
end Ey
set_option maxHeartbeats 4000000
namespace Ey
open PySem PySem.Spec L2
abbrev sPolyOf : Stmt := topS 46
def PairAt (H : Hp) (v : V) (p : Int × Int) : Prop := ∃ t, v = .ref t ∧ H t = some (.tup [.int p.1, .int p.2])
theorem PairAt.kp {ms : List Addr} {H H1 : Hp} {v : V} {p : Int × Int} (h : PairAt H v p) (k : Kp ms H H1) : PairAt H1 v p := let ⟨t, e, h⟩ := h; ⟨t, e, k.tup _ _ h⟩
theorem paired_all2 {H : Hp} : ∀ {ts : List Addr} {qs : List (Int × Int)}, Paired (fun (t : Addr) (q : Int × Int) => H t = some (.tup [.int q.1, .int q.2])) ts qs → All2 (PairAt H) (ts.map V.ref) qs
  | _, _, .nil => .nil
  | _, _, .cons a r => .cons ⟨_, rfl, a⟩ (paired_all2 r)
section
variable {Pr : Program} {w : World} {K : PySem.W.Frag} {mg : Str → Option Value} {base : Heap} {ms : List Addr} 
abbrev NPf : List Str := ["pairs", "sums", "exponent", "coefficient"]
theorem scPolyOf : FnScope NPf ["pairs"] (defScope sPolyOf) := ⟨rfl, rfl, rfl, by decide +kernel, rfl, by decide +kernel, by decide +kernel⟩
def spPolyOf : Sp := fun vs H Q _ => ∃ (l : Addr) (xs : List V) (ps : List (Int × Int)), vs = [.ref l] ∧ H l = some (.lst xs) ∧ All2 (PairAt H) xs ps ∧ ps.length ≤ 1000000 ∧
  ∀ (r : Addr) (ys : List V) (qs : List (Int × Int)) (H' : Hp), H' r = some (.tup ys) → All2 (PairAt H') ys qs → PolyOf ps qs → Kp [] H H' → Q (.ref r) H'
theorem ok_polyOf {f : Addr} {fd : FuncData} (F : Fun K "poly_of" "poly_of" sPolyOf f fd) (B : BI mg) : FnOk Pr w K mg base CX0 1 f fd ["pairs"] spPolyOf := by
  refine F.ok scPolyOf (fun vs H Q E h => ?_) (fun cdv Ar outer s0 H vs Q E hr h => ?_)
  · obtain ⟨l, xs, ps, rfl, _⟩ := h
    rfl
  · obtain ⟨l, xs, ps, rfl, hl, hx, hz, k⟩ := h
    have hu : (cxOf CX0 Pr w K mg base NPf "poly_of" (defScope sPolyOf) f cdv Ar outer s0 H E).nox.A.units + 1 < cLine := Nat.lt_of_le_of_lt (Nat.add_le_add_left (by decide : 1 ≤ 64) _) hr.units
    refine ⟨_, pss_cons (ps_set (i := 1) scPolyOf.nd rfl (.inl rfl) pe_dnewK)
      (pss_cons (ps_for PassesOwn.never rfl (pi_list (pv 0)) (pg_tup (n := 2) (by rfl) (pgs_cons (pg_name (i := 2) scPolyOf.nd rfl (.inl rfl)) (pgs_cons (pg_name (i := 3) scPolyOf.nd rfl (.inl rfl)) pgs_nil)))
        (pss_one (ps_dput hu (pv 1) (pv 2) (pe_op op_add (pe_dget2 hu (pv 1) (pv 2) pe_int ⟨rfl, rfl, rfl, rfl⟩) (pv 3)) rfl)))
      (pss_one (ps_ret (pe_callTy call_tuple_of (by rfl) B.tuple (by decide +kernel) (pa_cons (Si.pe_sortItems rfl (pv 1) (by rfl) B.sorted (by decide +kernel)) pa_nil))))), ?_⟩
    refine fun D nD => ?_
    have k1 : Kp [] H (upd H D (.dK [])) := .new nD
    have hD1 : (upd H D (.dK [])) D = some (.dK (([] : List (Int × Int)).map Si.kI)) := upd_same
    have lD : D ≠ l := fun e => by rw [e, hl] at nD; cases nD
    generalize upd H D (.dK []) = H1 at k1 hD1
    have lx := hx.len
    refine ⟨_, rfl, l, rfl, ⟨xs, sql_of (k1.at_ _ _ hl List.not_mem_nil)⟩, ?_⟩
    refine for_list (K := K) (a := l) (xs := xs) (fun i σ G => (∃ x2 x3 : Option V, σ = [some (.ref l), some (.ref D), x2, x3]) ∧ (∃ ks, G D = some (.dK (ks.map Si.kI)) ∧ SumOk (ps.take i) ks ∧ ks.length ≤ i) ∧ Kp [] H G)
      ⟨⟨_, _, rfl⟩, ⟨[], hD1, ⟨by simp, fun k => by simp [lookI]⟩, Nat.le_refl _⟩, k1⟩ (fun i σ G _ h => sql_of (h.2.2.at_ _ _ hl List.not_mem_nil)) ?_ ?_
    · rintro i x σ G hxi ⟨⟨x2, x3, rfl⟩, ⟨ks, hD, hs, hlk⟩, kG⟩
      obtain ⟨p, hp, t, rfl, et⟩ := hx.getV hxi
      have hi : i < ps.length := (List.getElem?_eq_some_iff.mp hp).1
      have dg := DGet.k (k := .inl p.1) hD
      rw [valV_kI] at dg
      refine ⟨t, _, rfl, sqt_of (kG.tup _ _ et), rfl, _, _, rfl, _, _, rfl, rfl, ?_⟩
      have eg : ((lookI ks p.1).map V.int).getD (.int 0) = .int ((lookI ks p.1).getD 0) := by cases lookI ks p.1 <;> rfl
      have tk : ps.take (i + 1) = ps.take i ++ [(p.1, p.2)] := by rw [List.take_add_one, hp]; rfl
      have pl : (putI ks p.1 ((lookI ks p.1).getD 0 + p.2)).length ≤ ks.length + 1 := by
        unfold putI
        split
        · rw [List.length_map]
          omega
        · rw [List.length_append]
          exact Nat.le_refl _
      have dp := DPut.k (k := .inl p.1) (v := .int ((lookI ks p.1).getD 0 + p.2)) hD (by rw [List.length_map]; exact Nat.lt_of_le_of_lt (show ks.length ≤ 1000000 by omega) (by decide))
      rw [putK_kI] at dp
      refine ⟨_, rfl, D, rfl, .inl ⟨_, .inl hD⟩, _, rfl, _, dg, _, rfl, _, _, eg, rfl, _, rfl, _, rfl, D, _, rfl, dp, ⟨_, _, rfl⟩, ⟨_, upd_same, ?_, by omega⟩, kG.own nD⟩
      rw [tk]
      exact hs.step p.1 p.2
    · rintro σ G ⟨⟨x2, x3, rfl⟩, ⟨ks, hD, hs, hlk⟩, kG⟩
      rw [lx, List.take_length] at hs
      refine ⟨_, rfl, D, ks, rfl, hD, fun G2 q ts qs kp nq hq hperm hsort hpr => ?_⟩
      have k2 : Kp [] G G2 := ⟨fun b o e _ => kp b o e, fun b xs e => kp b _ e⟩
      refine ⟨q, _, rfl, .inl ⟨sql_of hq, fun r nr => ?_⟩⟩
      have k3 : Kp [] G2 (upd G2 r (.tup (ts.map V.ref))) := .new nr
      exact k r _ qs _ upd_same ((paired_all2 hpr).imp fun _ _ z => z.kp k3) (hs.poly hperm hsort) (kG.trans (k2.trans k3))
end
end Ey
set_option maxHeartbeats 2000000
/-! list.count of a list of flat values -/
namespace Ey
open PySem PySem.Spec PyProof.Rows L2
def cntV (x : V) (xs : List V) : Nat := xs.countP fun y => eqV y x
def rCntV (K : PySem.W.Frag) : V → List V → Hp → VK → Prop := fun x ys H Q => ∃ (p : Addr) (xs : List V) (k : V), x = .ref p ∧ ys = [k] ∧ SqL K H p xs ∧ flatV k = true ∧ xs.all flatV = true ∧ Q (.int (cntV k xs : Nat)) H
theorem count_eqU {x : V} : ∀ {xs : List V} {us : List Value}, Vals xs us → xs.all flatV = true → us.countP (eqU x) = cntV x xs
  | _, _, .nil, _ => rfl
  | y :: xs, u :: us, .cons r t, f => by
    rw [List.all_cons, Bool.and_eq_true] at f
    unfold cntV
    rw [List.countP_cons, List.countP_cons, eqU_of r f.1, count_eqU t f.2]
    rfl
section
variable {X : Cx}
theorem mt_lcountV : MtR X "list.count" (rCntV X.K) := by
  intro pins s σ H x xs v us Q I rx rxs h
  obtain ⟨p, ns, k, rfl, rfl, hs, fk, fs, q⟩ := h
  cases rx
  obtain ⟨u, rfl, ru⟩ := rxs.one
  obtain ⟨its, rv, ⟨⟨cls, dd, data, sl⟩, n, ho, hc, hdn, hd⟩, hlen⟩ := I.list hs
  simp only at hc hd
  subst hc hd
  refine call_meets PySem.F.slot_list_count ⟨_, ho, rfl⟩ PySem.F.entry_list_count (PySem.F.args_list_count_2 _ _)
    (SeqAt.list_countAt p its.toArray n dd sl u (eqU k)) ⟨ho, fun y hy => mem_eqAt ru fk rv fs y (by simpa using hy), ?_⟩
  refine ⟨.int (cntV k ns : Nat), H, I.tok _, ⟨s.toks, ?_⟩, q⟩
  show Value.int ((its.toArray.toList.countP (eqU k) : Nat) : Int) s.toks = _
  rw [List.toList_toArray, count_eqU rv fs]
end
end Ey
set_option maxHeartbeats 4000000
namespace Ey
open PySem PySem.Spec L2
abbrev sChooses : Stmt := topS 38
abbrev sChNames : Stmt := topS 39
abbrev sWithout : Stmt := topS 40
abbrev sWidth : Stmt := topS 47
abbrev sWords : Stmt := topS 48
abbrev sBoundOf : Stmt := topS 49
abbrev sBound : Stmt := topS 50
structure KW (K : PySem.W.Frag) (w : World) (mg : Str → Option Value) (a : Adr) (aO : Addr) : Prop extends KP K w mg a aO where
  chooses : Df K mg "chooses" sChooses ["term"] (a.A 38) (a.D 38)
  chNames : Df K mg "choosing_names" sChNames ["program"] (a.A 39) (a.D 39)
  without : Df K mg "check_without_choice" sWithout ["program"] (a.A 40) (a.D 40)
  polyOf : Df K mg "poly_of" sPolyOf ["pairs"] (a.A 46) (a.D 46)
  width : Df K mg "width" sWidth ["program"] (a.A 47) (a.D 47)
  words : Df K mg "words_of" sWords ["term"] (a.A 48) (a.D 48)
  boundOf : Df K mg "bound_of" sBoundOf ["function"] (a.A 49) (a.D 49)
  bound : Df K mg "bound" sBound ["program"] (a.A 50) (a.D 50)
/-- how many parts of a term have a word of p -/
def sumD (p : Str → Bool) (d : PyData) : Nat := (if p (wordD d) = true then 1 else 0) + ((partsD d).attach.map fun x => sumD p x.1).sum
termination_by wd d
decreasing_by exact parts_wd x.2
theorem sumD_eq (p : Str → Bool) (d : PyData) : sumD p d = (if p (wordD d) = true then 1 else 0) + ((partsD d).map (sumD p)).sum := by
  rw [sumD]
  congr 1
  have : ∀ l : List PyData, (l.attach.map fun x => sumD p x.1) = l.map (sumD p) := fun l => by
    conv => rhs; rw [← List.attach_map_subtype_val l]
    rw [List.map_map]
    rfl
  rw [this]
section
variable {Pr : Program} {w : World} {K : PySem.W.Frag} {mg : Str → Option Value} {base : Heap} {ms : List Addr} {a : Adr} {aO : Addr}
abbrev NWd : List Str := ["term", "found", "waiting", "part"]
theorem scWords : FnScope NWd ["term"] (defScope sWords) := ⟨rfl, rfl, rfl, by decide +kernel, rfl, by decide +kernel, by decide +kernel⟩
def spWords (ms : List Addr) : Sp := fun vs H Q _ => ∃ (v : V) (d : PyData), vs = [v] ∧ An ms H v d ∧ isTerm d = true ∧ wd d ≤ 1000000 ∧
  ∀ (L : Addr) (ws : List Str) (H' : Hp), H L = none → H' L = some (.lst (ws.map V.str)) → (∀ p, ws.countP p = sumD p d) → ws.length ≤ wd d → Kp [] H H' → Q (.ref L) H'
theorem ok_words (F : KW K w mg a aO) : FnOk Pr w K mg base CX0 2 (a.A 48) (a.D 48) ["term"] (spWords ms) := by
  have B := F.B
  refine F.words.F.ok scWords (fun vs H Q E h => ?_) (fun cdv Ar outer s0 H vs Q E hr h => ?_)
  · obtain ⟨v, d, rfl, _⟩ := h
    rfl
  · obtain ⟨v, d, rfl, hv, hT, hz, k⟩ := h
    refine ⟨_, pss_cons (ps_set (i := 1) scWords.nd rfl (.inl rfl) (pe_lst pa_nil))
      (pss_cons (ps_set (i := 2) scWords.nd rfl (.inl rfl) (pe_lst (pa_cons (pv 0) pa_nil)))
      (pss_cons (ps_while PassesOwn.never (pt_truth (pv 2) (by intro _; rfl))
        (pss_cons (ps_set (i := 3) scWords.nd rfl (.inl rfl) (pe_bm0 PySem.F.plainAttrs_list PySem.F.slot_list_pop PySem.F.type_list_pop mt_pop (pv 2)))
      (pss_cons (ps_expr (pe_bm PySem.F.plainAttrs_list PySem.F.slot_list_append PySem.F.type_list_append mt_append (pv 1) (pa_cons (pe_ix ix_tup (pv 3) pe_int (fun _ _ => rfl)) pa_nil)))
      (pss_one (ps_expr (pe_bm PySem.F.plainAttrs_list PySem.F.slot_list_extend PySem.F.type_list_extend mt_extendT (pv 2) (pa_cons (pe_call (ok_parts (ms := ms) F.toKP.toKF.toPF) (hr.mono (by decide)) (by rfl) F.parts.g F.parts.F.kp F.parts.b .nil pass0 (pa_cons (pv 3) pa_nil)) pa_nil)))))))
      (pss_one (ps_ret (pv 1))))), ?_⟩
    refine ⟨Nat.zero_le _, fun L nL => ?_⟩
    have k1 : Kp [] H (upd H L (.lst [])) := .new nL
    have hL1 : (upd H L (.lst [])) L = some (.lst []) := upd_same
    generalize upd H L (.lst []) = H1 at k1 hL1
    refine ⟨_, rfl, by show 1 ≤ sizeLine; decide, fun W nW => ?_⟩
    have k2 : Kp [] H1 (upd H1 W (.lst [v])) := .new nW
    have hW2 : (upd H1 W (.lst [v])) W = some (.lst [v]) := upd_same
    have hL2 := k2.at_ _ _ hL1 List.not_mem_nil
    have hWL : W ≠ L := fun e => by rw [e, hL1] at nW; cases nW
    have nWH : H W = none := k1.free nW List.not_mem_nil
    have kH := k1.trans k2
    generalize upd H1 W (.lst [v]) = H2 at hW2 hL2 kH
    refine ⟨fun m σ G => ∃ (us : List V) (ds : List PyData) (ws : List Str) (y : Option V), σ = [some v, some (.ref L), some (.ref W), y] ∧ G W = some (.lst us.reverse) ∧ AnAll ms H us ds ∧ G L = some (.lst (ws.map V.str)) ∧ m = wdAll ds ∧ wdAll ds ≤ wd d + 2 ∧ ds.all isTerm = true ∧ (∀ p, ws.countP p + (ds.map (sumD p)).sum = sumD p d) ∧ 2 * ws.length + wdAll ds ≤ wd d + 2 ∧ Kp [] H G,
      ⟨_, [v], [d], [], none, rfl, hW2, .cons hv .nil, hL2, rfl, Nat.le_refl _, by simp [hT], fun p => by simp, by show 0 + (wd d + 2 + 0) ≤ _; omega, kH⟩, fun m σ G hw => ?_⟩
    obtain ⟨us, ds, ws, y, rfl, hW, hp, hL, rfl, hm, hall, hcnt, hlen, kG⟩ := hw
    refine ⟨_, rfl, _, .inl ⟨_, sql_of hW, rfl⟩, ?_⟩
    cases hp with
    | nil =>
      refine iteF ⟨_, rfl, k L ws G nL hL (fun p => by simpa using hcnt p) ?_ kG⟩
      have : 2 * ws.length + 0 ≤ wd d + 2 := hlen
      have h1 := hcnt (fun _ => true)
      by_cases hd : wd d = 0
      · have : ws.length ≤ 1 := by omega
        have h2 := parts_lt (d := d) (by rw [isTerm_eq, Bool.and_eq_true] at hT; exact hT.1)
        omega
      · omega
    | @cons x us d1 ds hx hp =>
      have e0 : (!((x :: us).reverse).isEmpty) = true := by simp
      rw [e0]
      rw [List.all_cons, Bool.and_eq_true] at hall
      have hm' : wd d1 + 2 + wdAll ds ≤ wd d + 2 := hm
      have hlen' : 2 * ws.length + (wd d1 + 2 + wdAll ds) ≤ wd d + 2 := hlen
      have hh1 : headed d1 = true := by
        have := hall.1
        rw [isTerm_eq, Bool.and_eq_true] at this
        exact this.1
      have hpt : (partsD d1).all isTerm = true := by
        have := hall.1
        rw [isTerm_eq, Bool.and_eq_true] at this
        exact this.2
      refine iteT ⟨fun σ' G' => ∃ m', m' < wdAll (d1 :: ds) ∧ ∃ (us : List V) (ds : List PyData) (ws : List Str) (y : Option V), σ' = [some v, some (.ref L), some (.ref W), y] ∧ G' W = some (.lst us.reverse) ∧ AnAll ms H us ds ∧ G' L = some (.lst (ws.map V.str)) ∧ m' = wdAll ds ∧ wdAll ds ≤ wd d + 2 ∧ ds.all isTerm = true ∧ (∀ p, ws.countP p + (ds.map (sumD p)).sum = sumD p d) ∧ 2 * ws.length + wdAll ds ≤ wd d + 2 ∧ Kp [] H G', fun _ _ h => h, ?_⟩
      refine ⟨_, rfl, .inl ⟨rfl, _, sql_of hW⟩, W, _, x, rfl, rfl, hW, pile_top x us, ?_⟩
      rw [pile_pop]
      have kp1 : Kp [W] G (upd G W (.lst us.reverse)) := .put (by simp) hW (fun xs z => by cases z)
      have hW1 : (upd G W (.lst us.reverse)) W = some (.lst us.reverse) := upd_same
      have hL1' := kp1.at_ _ _ hL (by simp; exact Ne.symm hWL)
      have kG1 : Kp [] H (upd G W (.lst us.reverse)) := kG.own nWH
      generalize upd G W (.lst us.reverse) = G1 at hW1 hL1' kG1
      obtain ⟨wd0, r, ed, hr2⟩ := headed_form hh1
      have hx1 := hx
      rw [ed] at hx1
      obtain ⟨t, xs, rfl, et, _⟩ := hx1.headed
      have wlen : (ws.map V.str).length ≤ 1000000 := by rw [List.length_map]; omega
      refine ⟨_, rfl, .inl ⟨rfl, _, sql_of hL1'⟩, _, rfl, t, _, _, _, rfl, rfl, sqt_of (kG1.tup _ _ et), atI_nat (j := 0) rfl, L, _, _, rfl, rfl, hL1', Nat.lt_of_le_of_lt wlen (by decide), ?_⟩
      have kL : Kp [L] G1 (upd G1 L (.lst (ws.map V.str ++ [.str wd0]))) := .put (by simp) hL1' (fun _ z => by cases z)
      have hL2' : (upd G1 L (.lst (ws.map V.str ++ [.str wd0]))) L = some (.lst ((ws ++ [wd0]).map V.str)) := by rw [upd_same, List.map_append]; rfl
      have hW2' := kL.at_ _ _ hW1 (by simp; exact hWL)
      have kG2 : Kp [] H (upd G1 L (.lst (ws.map V.str ++ [.str wd0]))) := kG1.own nL
      generalize upd G1 L (.lst (ws.map V.str ++ [.str wd0])) = G2 at hL2' hW2' kG2
      refine ⟨_, rfl, .inl ⟨rfl, _, sql_of hW2'⟩, _, rfl, .ref t, d1, H, [], rfl, hx, kG2, hh1, by omega, fun p xs3 G3 ep ax k3 => ?_⟩
      have hW3 := k3.at_ _ _ hW2' List.not_mem_nil
      have hL3 := k3.at_ _ _ hL2' List.not_mem_nil
      have lp := parts_lt hh1
      have ln := ax.length
      have ln2 := hp.length
      have lw := len_wd2 ds
      have lw2 := len_wd2 (partsD d1)
      have kW : Kp [W] G3 (upd G3 W (.lst (us.reverse ++ xs3))) := .put (by simp) hW3 (fun xs z => by cases z)
      refine ⟨W, p, us.reverse, xs3, rfl, rfl, hW3, ep, ?_, ?_⟩
      · rw [List.length_reverse]
        exact Nat.le_trans (show us.length + xs3.length ≤ 2000000 by omega) (by decide)
      have e5 : us.reverse ++ xs3 = (xs3.reverse ++ us).reverse := by rw [List.reverse_append, List.reverse_reverse]
      rw [e5] at kW ⊢
      refine ⟨wdAll ((partsD d1).reverse ++ ds), ?_, xs3.reverse ++ us, (partsD d1).reverse ++ ds, ws ++ [wd0], _, rfl, upd_same, ax.rev.append hp, kW.at_ _ _ hL3 (by simp; exact Ne.symm hWL), rfl, ?_, ?_, fun q => ?_, ?_, (kG2.trans k3).own nWH⟩
      · rw [wdAll_app, wdAll_rev]
        show wdAll (partsD d1) + wdAll ds < wd d1 + 2 + wdAll ds
        omega
      · rw [wdAll_app, wdAll_rev]
        omega
      · rw [List.all_append, List.all_reverse, hpt, hall.2]
        rfl
      · have := hcnt q
        rw [List.map_cons, List.sum_cons, sumD_eq q d1] at this
        rw [List.countP_append, List.map_append, List.sum_append, List.map_reverse, List.sum_reverse, ← this, show wordD d1 = wd0 by rw [ed]; rfl]
        simp only [List.countP_cons, List.countP_nil]
        omega
      · rw [wdAll_app, wdAll_rev, List.length_append]
        show 2 * (ws.length + 1) + _ ≤ _
        omega
end
end Ey
set_option maxHeartbeats 4000000
namespace Ey
open PySem PySem.Spec L2
def pE : Str → Bool := fun w => decide (w = kEither)
def pC : Str → Bool := fun w => decide (w = kCall)
section
variable {Pr : Program} {w : World} {K : PySem.W.Frag} {mg : Str → Option Value} {base : Heap} {ms : List Addr} {a : Adr} {aO : Addr}
abbrev NCh : List Str := ["term", "waiting", "part"]
theorem scChooses : FnScope NCh ["term"] (defScope sChooses) := ⟨rfl, rfl, rfl, by decide +kernel, rfl, by decide +kernel, by decide +kernel⟩
def spChooses (ms : List Addr) : Sp := fun vs H Q _ => ∃ (v : V) (d : PyData), vs = [v] ∧ An ms H v d ∧ isTerm d = true ∧ wd d ≤ 1000000 ∧ ∀ H', Kp [] H H' → Q (.bl (decide (0 < sumD pE d))) H'
theorem ok_chooses (F : KW K w mg a aO) : FnOk Pr w K mg base CX0 2 (a.A 38) (a.D 38) ["term"] (spChooses ms) := by
  have B := F.B
  refine F.chooses.F.ok scChooses (fun vs H Q E h => ?_) (fun cdv Ar outer s0 H vs Q E hr h => ?_)
  · obtain ⟨v, d, rfl, _⟩ := h
    rfl
  · obtain ⟨v, d, rfl, hv, hT, hz, k⟩ := h
    refine ⟨_, pss_cons (ps_set (i := 1) scChooses.nd rfl (.inl rfl) (pe_lst (pa_cons (pv 0) pa_nil)))
      (pss_cons (ps_while PassesOwn.never (pt_truth (pv 1) (by intro _; rfl))
        (pss_cons (ps_set (i := 2) scChooses.nd rfl (.inl rfl) (pe_bm0 PySem.F.plainAttrs_list PySem.F.slot_list_pop PySem.F.type_list_pop mt_pop (pv 1)))
      (pss_cons (ps_if (pt_cmpR op_eq (pe_ix ix_tup (pv 2) pe_int (fun _ _ => rfl)) pe_str (nomark _))
        (pss_one (ps_ret pe_bl)) pss_nil)
      (pss_one (ps_expr (pe_bm PySem.F.plainAttrs_list PySem.F.slot_list_extend PySem.F.type_list_extend mt_extendT (pv 1) (pa_cons (pe_call (ok_parts (ms := ms) F.toKP.toKF.toPF) (hr.mono (by decide)) (by rfl) F.parts.g F.parts.F.kp F.parts.b .nil pass0 (pa_cons (pv 2) pa_nil)) pa_nil)))))))
      (pss_one (ps_ret pe_bl))), ?_⟩
    refine ⟨_, rfl, by show 1 ≤ sizeLine; decide, fun W nW => ?_⟩
    have kH : Kp [] H (upd H W (.lst [v])) := .new nW
    have hW2 : (upd H W (.lst [v])) W = some (.lst [v]) := upd_same
    generalize upd H W (.lst [v]) = H2 at hW2 kH
    refine ⟨fun m σ G => ∃ (us : List V) (ds : List PyData) (y : Option V), σ = [some v, some (.ref W), y] ∧ G W = some (.lst us.reverse) ∧ AnAll ms H us ds ∧ m = wdAll ds ∧ wdAll ds ≤ wd d + 2 ∧ ds.all isTerm = true ∧ (ds.map (sumD pE)).sum = sumD pE d ∧ Kp [] H G,
      ⟨_, [v], [d], none, rfl, hW2, .cons hv .nil, rfl, Nat.le_refl _, by simp [hT], by simp, kH⟩, fun m σ G hw => ?_⟩
    obtain ⟨us, ds, y, rfl, hW, hp, rfl, hm, hall, hcnt, kG⟩ := hw
    refine ⟨_, rfl, _, .inl ⟨_, sql_of hW, rfl⟩, ?_⟩
    cases hp with
    | nil =>
      refine iteF ?_
      have e : sumD pE d = 0 := hcnt.symm
      have := k G kG
      rw [e] at this
      exact this
    | @cons x us d1 ds hx hp =>
      have e0 : (!((x :: us).reverse).isEmpty) = true := by simp
      rw [e0]
      rw [List.all_cons, Bool.and_eq_true] at hall
      have hm' : wd d1 + 2 + wdAll ds ≤ wd d + 2 := hm
      have hh1 : headed d1 = true := by
        have := hall.1
        rw [isTerm_eq, Bool.and_eq_true] at this
        exact this.1
      have hpt : (partsD d1).all isTerm = true := by
        have := hall.1
        rw [isTerm_eq, Bool.and_eq_true] at this
        exact this.2
      refine iteT ⟨fun σ' G' => ∃ m', m' < wdAll (d1 :: ds) ∧ ∃ (us : List V) (ds : List PyData) (y : Option V), σ' = [some v, some (.ref W), y] ∧ G' W = some (.lst us.reverse) ∧ AnAll ms H us ds ∧ m' = wdAll ds ∧ wdAll ds ≤ wd d + 2 ∧ ds.all isTerm = true ∧ (ds.map (sumD pE)).sum = sumD pE d ∧ Kp [] H G', fun _ _ h => h, ?_⟩
      refine ⟨_, rfl, .inl ⟨rfl, _, sql_of hW⟩, W, _, x, rfl, rfl, hW, pile_top x us, ?_⟩
      rw [pile_pop]
      have hW1 : (upd G W (.lst us.reverse)) W = some (.lst us.reverse) := upd_same
      have kG1 : Kp [] H (upd G W (.lst us.reverse)) := kG.own nW
      generalize upd G W (.lst us.reverse) = G1 at hW1 kG1
      obtain ⟨wd0, r, ed, hr2⟩ := headed_form hh1
      have hx1 := hx
      rw [ed] at hx1
      obtain ⟨t, xs, rfl, et, _⟩ := hx1.headed
      have hc := hcnt
      rw [List.map_cons, List.sum_cons, sumD_eq pE d1, show wordD d1 = wd0 by rw [ed]; rfl] at hc
      refine ⟨_, rfl, t, _, _, _, rfl, rfl, sqt_of (kG1.tup _ _ et), atI_nat (j := 0) rfl, rfl, _, rfl, ite2 (fun q => ?_) (fun q => ?_)⟩
      · have e1 : wd0 = kEither := V.str.inj (of_decide_eq_true q)
        have hp1 : pE wd0 = true := decide_eq_true e1
        rw [if_pos hp1] at hc
        have := k G1 kG1
        rw [decide_eq_true (show 0 < sumD pE d by omega)] at this
        exact this
      · have n1 : ¬ pE wd0 = true := fun z => q (decide_eq_true (by rw [of_decide_eq_true z]; rfl))
        rw [if_neg n1] at hc
        refine ⟨_, rfl, .inl ⟨rfl, _, sql_of hW1⟩, _, rfl, .ref t, d1, H, [], rfl, hx, kG1, hh1, by omega, fun p xs3 G3 ep ax k3 => ?_⟩
        have hW3 := k3.at_ _ _ hW1 List.not_mem_nil
        have lp := parts_lt hh1
        have ln := ax.length
        have ln2 := hp.length
        have lw := len_wd2 ds
        have lw2 := len_wd2 (partsD d1)
        refine ⟨W, p, us.reverse, xs3, rfl, rfl, hW3, ep, ?_, ?_⟩
        · rw [List.length_reverse]
          exact Nat.le_trans (show us.length + xs3.length ≤ 2000000 by omega) (by decide)
        have e5 : us.reverse ++ xs3 = (xs3.reverse ++ us).reverse := by rw [List.reverse_append, List.reverse_reverse]
        rw [e5]
        refine ⟨wdAll ((partsD d1).reverse ++ ds), ?_, xs3.reverse ++ us, (partsD d1).reverse ++ ds, _, rfl, upd_same, ax.rev.append hp, rfl, ?_, ?_, ?_, (kG1.trans k3).own nW⟩
        · rw [wdAll_app, wdAll_rev]
          show wdAll (partsD d1) + wdAll ds < wd d1 + 2 + wdAll ds
          omega
        · rw [wdAll_app, wdAll_rev]
          omega
        · rw [List.all_append, List.all_reverse, hpt, hall.2]
          rfl
        · rw [List.map_append, List.sum_append, List.map_reverse, List.sum_reverse]
          omega
/-! ### bound_of -/
abbrev NBo : List Str := ["function", "words"]
theorem scBoundOf : FnScope NBo ["function"] (defScope sBoundOf) := ⟨rfl, rfl, rfl, by decide +kernel, rfl, by decide +kernel, by decide +kernel⟩
def spBoundOf (ms : List Addr) : Sp := fun vs H Q _ => ∃ (v : V) (f : Fn), vs = [v] ∧ An ms H v (fD f) ∧ isTerm f.bd = true ∧ wd f.bd ≤ 1000000 ∧ (1 + sumD pC f.bd) * sumD (fun _ => true) f.bd < 2 ^ 60 ∧
  ∀ (r : V) (H' : Hp), PairAt H' r ((f.ns.length : Int), ((1 + sumD pC f.bd) * sumD (fun _ => true) f.bd : Nat)) → Kp [] H H' → Q r H'
theorem ok_boundOf (F : KW K w mg a aO) : FnOk Pr w K mg base CX0 3 (a.A 49) (a.D 49) ["function"] (spBoundOf ms) := by
  have B := F.B
  refine F.boundOf.F.ok scBoundOf (fun vs H Q E h => ?_) (fun cdv Ar outer s0 H vs Q E hr h => ?_)
  · obtain ⟨v, f, rfl, _⟩ := h
    rfl
  · obtain ⟨v, f, rfl, hv, hT, hz, hb, k⟩ := h
    refine ⟨_, pss_cons (ps_set (i := 1) scBoundOf.nd rfl (.inl rfl) (pe_call (ok_words (ms := ms) F) (hr.mono (by decide)) (by rfl) F.words.g F.words.F.kp F.words.b .nil pass0 (pa_cons (pe_ix ix_tup (pv 0) pe_int (fun _ _ => rfl)) pa_nil)))
      (pss_one (ps_ret (pe_tup (pa_cons (pe_callB (r := rLenQ K) call_len_seq (by rfl) B.len PySem.boot_len (pa_cons (pe_ix ix_tup (pv 0) pe_int (fun _ _ => rfl)) pa_nil)) (pa_cons (pe_op op_mul (pe_op op_add pe_int (pe_bm PySem.F.plainAttrs_list PySem.F.slot_list_count PySem.F.type_list_count mt_lcountV (pv 1) (pa_cons pe_str pa_nil))) (pe_callB (r := rLenQ K) call_len_seq (by rfl) B.len PySem.boot_len (pa_cons (pv 1) pa_nil))) pa_nil))))), ?_⟩
    obtain ⟨ft, nt, bv, rfl, e1, e2, e3⟩ := hv.fn
    refine ⟨_, rfl, ft, _, _, _, rfl, rfl, sqt_of e1, atI_nat (j := 4) rfl, bv, f.bd, rfl, e3, hT, hz, fun L ws G nL hL hc hl k1 => ?_⟩
    have hlen : ws.length = sumD (fun _ => true) f.bd := by
      rw [← hc]
      simp
    have hcall : cntV (.str "call") (ws.map V.str) = sumD pC f.bd := by
      rw [← hc]
      unfold cntV
      rw [List.countP_map]
      congr 1
    refine ⟨_, rfl, ft, _, _, _, rfl, rfl, sqt_of (k1.tup _ _ e1), atI_nat (j := 3) rfl, nt, _, rfl, .inr (sqt_of (k1.tup _ _ e2)), ?_⟩
    have lws : ws.length ≤ 1000000 := by omega
    refine ⟨_, rfl, .inl ⟨rfl, _, sql_of hL⟩, L, _, .str "call", rfl, rfl, sql_of hL, rfl, flat_strs _, _, _, rfl, rfl, _, rfl, L, _, rfl, .inl (sql_of hL), _, _, rfl, rfl, .inr ⟨?_, ?_⟩, by show 2 ≤ sizeLine; decide, fun t nt => ?_⟩
    · omega
    · rw [List.length_map]
      omega
    · have kt : Kp [] G (upd G t (.tup [.int (((f.ns.map V.str).length : Nat) : Int), .int ((1 + ((cntV (.str "call") (ws.map V.str) : Nat) : Int)) * (((ws.map V.str).length : Nat) : Int))])) := .new nt
      refine k (.ref t) _ ⟨t, rfl, ?_⟩ (k1.trans kt)
      rw [upd_same, hcall, List.length_map, List.length_map, hlen]
      have : (1 + ((sumD pC f.bd : Nat) : Int)) * ((sumD (fun _ => true) f.bd : Nat) : Int) = (((1 + sumD pC f.bd) * sumD (fun _ => true) f.bd : Nat) : Int) := by
        rw [Int.natCast_mul, Int.natCast_add]
        rfl
      show some (HO.tup [V.int _, V.int ((1 + ((sumD pC f.bd : Nat) : Int)) * ((sumD (fun _ => true) f.bd : Nat) : Int))]) = _
      rw [this]
end
end Ey
set_option maxHeartbeats 4000000
namespace Ey
open PySem PySem.Spec L2
def chD (f : Fn) : Bool := decide (0 < sumD pE f.bd)
theorem fnOf_fD (f : Fn) : fnOf (fD f) = f := by
  obtain ⟨nm, kd, ns, bd⟩ := f
  show Fn.mk nm kd ((ns.map PyData.str).map txtD) bd = _
  rw [List.map_map]
  have : (ns.map (txtD ∘ PyData.str)) = ns := by
    conv => rhs; rw [← List.map_id ns]
    rfl
  rw [this]
theorem fnsOf_fD (fs : List Fn) : fnsOf (.tuple (fs.map fD)) = fs := by
  show (fs.map fD).map fnOf = fs
  rw [List.map_map]
  conv => rhs; rw [← List.map_id fs]
  exact List.map_congr_left fun f _ => fnOf_fD f
theorem prog_terms {fs : List Fn} (h : isProgD (.tuple (fs.map fD)) = true) : ∀ f ∈ fs, isTerm f.bd = true := by
  unfold isProgD at h
  rw [Bool.and_eq_true] at h
  have := (script_form h.1).2
  rw [fnsOf_fD] at this
  exact this
theorem wd_fn {fs : List Fn} {f : Fn} (h : f ∈ fs) : wd f.bd + 10 ≤ wd (.tuple (fs.map fD)) := by
  have h1 := wd_mem (List.mem_map_of_mem (f := fD) h)
  have h5 : wd (fD f) = wd (.str kFun) + 2 + (wd (.str f.nm) + 2 + (wd (.str f.kd) + 2 + (wdAll (f.ns.map PyData.str) + 3 + 2 + (wd f.bd + 2 + 0)))) + 3 := rfl
  show _ ≤ wdAll (fs.map fD) + 3
  omega
theorem fs_len (fs : List Fn) : 2 * fs.length ≤ wd (.tuple (fs.map fD)) := by
  have := len_wd2 (fs.map fD)
  rw [List.length_map] at this
  show _ ≤ wdAll (fs.map fD) + 3
  omega
section
variable {Pr : Program} {w : World} {K : PySem.W.Frag} {mg : Str → Option Value} {base : Heap} {ms : List Addr} {a : Adr} {aO : Addr}
abbrev NCn : List Str := ["program", "function"]
theorem scChNames : FnScope NCn ["program"] (defScope sChNames) := ⟨rfl, rfl, rfl, by decide +kernel, rfl, by decide +kernel, by decide +kernel⟩
def spChNames (ms : List Addr) : Sp := fun vs H Q _ => ∃ (v : V) (fs : List Fn), vs = [v] ∧ An ms H v (.tuple (fs.map fD)) ∧ (∀ f ∈ fs, isTerm f.bd = true) ∧ wd (.tuple (fs.map fD)) ≤ 1000000 ∧
  ∀ (L : Addr) (H' : Hp), H L = none → H' L = some (.lst (((fs.filter chD).map (·.nm)).map V.str)) → Kp [] H H' → Q (.ref L) H'
theorem ok_chNames (F : KW K w mg a aO) : FnOk Pr w K mg base CX0 3 (a.A 39) (a.D 39) ["program"] (spChNames ms) := by
  have B := F.B
  refine F.chNames.F.ok scChNames (fun vs H Q E h => ?_) (fun cdv Ar outer s0 H vs Q E hr h => ?_)
  · obtain ⟨v, fs, rfl, _⟩ := h
    rfl
  · obtain ⟨v, fs, rfl, hv, hT, hz, k⟩ := h
    refine ⟨_, pss_one (ps_ret (pe_lc (own := [("function", 1)]) (g := gName 1) rfl scChNames.nd (pi_tup (pv 0)) (blkOk_by (N := NCn) (sc := defScope sChNames) (by decide +kernel)) (fun _ _ _ _ _ => pg_name (i := 1) scChNames.nd rfl (Or.inl rfl)) (fun _ _ _ _ _ => pts_one (pt_val (pe_call (ok_chooses (ms := ms) F) (hr.mono (by decide)) (by rfl) F.chooses.g F.chooses.F.kp F.chooses.b .nil pass0 (pa_cons (pe_ix (r := rIxT K) ix_tup (pv 1) pe_int (fun _ _ => rfl)) pa_nil))))
          (fun _ _ _ _ _ => (pe_ix (r := rIxT K) ix_tup (pv 1) pe_int (fun _ _ => rfl))))), ?_⟩
    cases hv with
    | @tup t xs _ et hx =>
      have lx := hx.length
      rw [List.length_map] at lx
      have lfs := fs_len fs
      refine ⟨_, rfl, t, rfl, ⟨_, sqt_of et⟩, fun D nD => ?_⟩
      refine lc_tup (K := K) (a := t) (xs := xs) (fun i G => G D = some (.lst ((((fs.take i).filter chD).map (·.nm)).map V.str)) ∧ Kp [] H G) ⟨upd_same, .new nD⟩ (fun i G _ h => sqt_of (h.2.tup _ _ et)) ?_ ?_
      · rintro i x G hxi ⟨hD, kG⟩
        obtain ⟨d, hd, hxd⟩ := hx.get hxi
        rw [List.getElem?_map] at hd
        obtain ⟨f, hf, rfl⟩ := Option.map_eq_some_iff.mp hd
        have hfm := List.mem_of_getElem? hf
        have hi : i < fs.length := (List.getElem?_eq_some_iff.mp hf).1
        have hxG := hxd.kp kG (by simp) _
        obtain ⟨ft, nt, bv, rfl, e1, e2, e3⟩ := hxG.fn
        have hw := wd_fn hfm
        have tk : fs.take (i + 1) = fs.take i ++ [f] := by rw [List.take_add_one, hf]; rfl
        refine ⟨rfl, _, rfl, ft, _, _, _, rfl, rfl, sqt_of e1, atI_nat (j := 4) rfl, bv, f.bd, rfl, e3, hT f hfm, by omega, fun G2 k2 => ⟨_, rfl, ?_⟩⟩
        have hD2 := k2.at_ _ _ hD List.not_mem_nil
        cases hc : decide (0 < sumD pE f.bd) with
        | false =>
          refine iteF ⟨?_, kG.trans k2⟩
          rw [hD2, tk, List.filter_append, show List.filter chD [f] = [] by simp [chD, of_decide_eq_false hc], List.append_nil]
        | true =>
          have lfl : ((((fs.take i).filter chD).map (·.nm)).map V.str).length ≤ 1000000 := by
            rw [List.length_map, List.length_map]
            have := List.length_filter_le chD (fs.take i)
            rw [List.length_take] at this
            omega
          refine iteT ⟨_, rfl, ft, _, _, _, rfl, rfl, sqt_of (k2.tup _ _ e1), atI_nat (j := 1) rfl, _, hD2, Nat.lt_of_le_of_lt lfl (by decide), ?_, (kG.trans k2).own nD⟩
          rw [upd_same, tk, List.filter_append, show List.filter chD [f] = [f] by simp [chD, of_decide_eq_true hc], List.map_append, List.map_append]
          rfl
      · rintro G ⟨hD, kG⟩
        rw [lx, List.take_length] at hD
        exact k D G nD hD kG
/-! ### width -/
def wPairs (fs : List Fn) : List (Int × Int) := fs.map fun f => ((f.ns.length : Int), 1)
abbrev NWi : List Str := ["program", "function"]
theorem scWidth : FnScope NWi ["program"] (defScope sWidth) := ⟨rfl, rfl, rfl, by decide +kernel, rfl, by decide +kernel, by decide +kernel⟩
def spWidth (ms Ts : List Addr) (g : List Fn → List (Int × Int)) (C : List Fn → Prop) : Sp := fun vs H Q _ => ∃ (v : V) (fs : List Fn), vs = [v] ∧ An ms H v (.tuple (fs.map fD)) ∧ isProgD (.tuple (fs.map fD)) = true ∧ wd (.tuple (fs.map fD)) ≤ 400000 ∧ C fs ∧ TTs Ts H ∧ (∀ P ∈ Ts, P ∈ ms) ∧
  ∀ (r : Addr) (ys : List V) (qs : List (Int × Int)) (H' : Hp), H' r = some (.tup ys) → All2 (PairAt H') ys qs → PolyOf (g fs) qs → TTs Ts H' → Kp Ts H H' → Q (.ref r) H'
theorem ok_width (F : KW K w mg a aO) (b : BF base mg a) : FnOk Pr w K mg base CX0 11 (a.A 47) (a.D 47) ["program"] (spWidth ms a.Ts wPairs fun _ => True) := by
  have B := F.B
  refine F.width.F.ok scWidth (fun vs H Q E h => ?_) (fun cdv Ar outer s0 H vs Q E hr h => ?_)
  · obtain ⟨v, fs, rfl, _⟩ := h
    rfl
  · obtain ⟨v, fs, rfl, hv, hp, hz, _, hT, hs, k⟩ := h
    refine ⟨_, pss_cons (ps_expr (pe_call (ok_checkP (ms := ms) F.toKP b) (hr.mono (by decide)) (by rfl) F.checkP.g F.checkP.F.kp F.checkP.b .nil pass0 (pa_cons (pv 0) pa_nil)))
      (pss_one (ps_ret (pe_call (ok_polyOf F.polyOf.F B) (hr.mono (by decide)) (by rfl) F.polyOf.g F.polyOf.F.kp F.polyOf.b .nil pass0 (pa_cons (pe_lc (own := [("function", 1)]) (g := gName 1) (tt := tYes) rfl scWidth.nd (pi_tup (pv 0)) (blkOk_by (N := NWi) (sc := defScope sWidth) (by decide +kernel)) (fun _ _ _ _ _ => pg_name (i := 1) scWidth.nd rfl (Or.inl rfl)) (fun _ _ _ _ _ => pts_nil)
          (fun _ _ _ _ _ => (pe_tup (pa_cons (pe_callB (r := rLenQ K) call_len_seq (by rfl) B.len PySem.boot_len (pa_cons (pe_ix (r := rIxT K) ix_tup (pv 1) pe_int (fun _ _ => rfl)) pa_nil)) (pa_cons pe_int pa_nil))))) pa_nil)))), ?_⟩
    refine ⟨_, rfl, v, _, rfl, hv, hz, hp, hT, hs, fun H1 g1 k1 => ?_⟩
    have hv1 := hv.kp k1 hs _
    cases hv1 with
    | @tup t xs _ et hx =>
      have lx := hx.length
      rw [List.length_map] at lx
      have lfs := fs_len fs
      refine ⟨_, rfl, t, rfl, ⟨_, sqt_of et⟩, fun D nD => ?_⟩
      refine lc_tup (K := K) (a := t) (xs := xs) (fun i G => (∃ ys, G D = some (.lst ys) ∧ All2 (PairAt G) ys (wPairs (fs.take i))) ∧ Kp [] H1 G) ⟨⟨[], upd_same, .nil⟩, .new nD⟩ (fun i G _ h => sqt_of (h.2.tup _ _ et)) ?_ ?_
      · rintro i x G hxi ⟨⟨ys, hD, hA⟩, kG⟩
        obtain ⟨d, hd, hxd⟩ := hx.get hxi
        rw [List.getElem?_map] at hd
        obtain ⟨f, hf, rfl⟩ := Option.map_eq_some_iff.mp hd
        have hi : i < fs.length := (List.getElem?_eq_some_iff.mp hf).1
        have hxG := hxd.kp kG (by simp) _
        obtain ⟨ft, nt, bv, rfl, e1, e2, e3⟩ := hxG.fn
        have tk : fs.take (i + 1) = fs.take i ++ [f] := by rw [List.take_add_one, hf]; rfl
        refine ⟨rfl, _, rfl, ft, _, _, _, rfl, rfl, sqt_of e1, atI_nat (j := 3) rfl, nt, _, rfl, .inr (sqt_of e2), by show 2 ≤ sizeLine; decide, fun z nz => ?_⟩
        have kz : Kp [] G (upd G z (.tup [.int (((f.ns.map V.str).length : Nat) : Int), .int 1])) := .new nz
        have ez : (upd G z (.tup [.int (((f.ns.map V.str).length : Nat) : Int), .int 1])) z = some (.tup [.int ((f.ns.length : Nat) : Int), .int 1]) := by rw [upd_same, List.length_map]
        have hD1 := kz.at_ _ _ hD List.not_mem_nil
        generalize upd G z (.tup [.int (((f.ns.map V.str).length : Nat) : Int), .int 1]) = G1 at kz ez hD1
        have kD : Kp [D] G1 (upd G1 D (.lst (ys ++ [.ref z]))) := .put (by simp) hD1 (fun _ z => by cases z)
        have lA := hA.len
        unfold wPairs at lA
        rw [List.length_map, List.length_take] at lA
        refine ⟨ys, hD1, Nat.lt_of_le_of_lt (show ys.length ≤ 1000000 by omega) (by decide), ⟨ys ++ [.ref z], upd_same, ?_⟩, (kG.trans kz).own nD⟩
        rw [tk]
        unfold wPairs
        rw [List.map_append]
        exact (hA.imp fun _ _ q => PairAt.kp (PairAt.kp q kz) kD).app (.cons ⟨z, rfl, kD.tup _ _ ez⟩ .nil)
      · rintro G ⟨⟨ys, hD, hA⟩, kG⟩
        rw [lx, List.take_length] at hA
        refine ⟨D, ys, wPairs fs, rfl, hD, hA, by unfold wPairs; rw [List.length_map]; omega, fun r zs qs G2 hr2 hA2 hpo k2 => k r zs qs G2 hr2 hA2 hpo (g1.kp0 (kG.trans k2)) (k1.trans ((kG.trans k2).more (by simp)))⟩
end
end Ey
set_option maxHeartbeats 4000000
namespace Ey
open PySem PySem.Spec L2
def bPairs (fs : List Fn) : List (Int × Int) := fs.map fun f => ((f.ns.length : Int), (((1 + sumD pC f.bd) * sumD (fun _ => true) f.bd : Nat) : Int))
/-- no function chooses, and the bounds are small -/
def Plain (fs : List Fn) : Prop := ∀ f ∈ fs, chD f = false ∧ (1 + sumD pC f.bd) * sumD (fun _ => true) f.bd < 2 ^ 60
section
variable {Pr : Program} {w : World} {K : PySem.W.Frag} {mg : Str → Option Value} {base : Heap} {ms : List Addr} {a : Adr} {aO : Addr}
abbrev NWo : List Str := ["program", "names"]
theorem scWithout : FnScope NWo ["program"] (defScope sWithout) := ⟨rfl, rfl, rfl, by decide +kernel, rfl, by decide +kernel, by decide +kernel⟩
def spWithout (ms : List Addr) : Sp := fun vs H Q _ => ∃ (v : V) (fs : List Fn), vs = [v] ∧ An ms H v (.tuple (fs.map fD)) ∧ (∀ f ∈ fs, isTerm f.bd = true) ∧ wd (.tuple (fs.map fD)) ≤ 1000000 ∧ (∀ f ∈ fs, chD f = false) ∧ ∀ H', Kp [] H H' → Q .non H'
theorem ok_without (F : KW K w mg a aO) : FnOk Pr w K mg base CX0 4 (a.A 40) (a.D 40) ["program"] (spWithout ms) := by
  refine F.without.F.ok scWithout (fun vs H Q E h => ?_) (fun cdv Ar outer s0 H vs Q E hr h => ?_)
  · obtain ⟨v, fs, rfl, _⟩ := h
    rfl
  · obtain ⟨v, fs, rfl, hv, hT, hz, hc, k⟩ := h
    refine ⟨_, pss_cons (ps_set (i := 1) scWithout.nd rfl (.inl rfl) (pe_call (ok_chNames (ms := ms) F) (hr.mono (by decide)) (by rfl) F.chNames.g F.chNames.F.kp F.chNames.b .nil pass0 (pa_cons (pv 0) pa_nil)))
      (pss_one (ps_if (pt_truth (pv 1) (by intro _; rfl))
        (pss_one ps_never) pss_nil)), ?_⟩
    refine ⟨_, rfl, v, fs, rfl, hv, hT, hz, fun L G nL hL k1 => ?_⟩
    have e : fs.filter chD = [] := List.filter_eq_nil_iff.mpr fun f hf => by rw [hc f hf]; exact Bool.false_ne_true
    rw [e] at hL
    exact ⟨_, rfl, _, .inl ⟨_, sql_of hL, rfl⟩, iteF (k G k1)⟩
abbrev NBd : List Str := ["program", "function"]
theorem scBound : FnScope NBd ["program"] (defScope sBound) := ⟨rfl, rfl, rfl, by decide +kernel, rfl, by decide +kernel, by decide +kernel⟩
theorem ok_bound (F : KW K w mg a aO) (b : BF base mg a) : FnOk Pr w K mg base CX0 11 (a.A 50) (a.D 50) ["program"] (spWidth ms a.Ts bPairs Plain) := by
  have B := F.B
  refine F.bound.F.ok scBound (fun vs H Q E h => ?_) (fun cdv Ar outer s0 H vs Q E hr h => ?_)
  · obtain ⟨v, fs, rfl, _⟩ := h
    rfl
  · obtain ⟨v, fs, rfl, hv, hp, hz, hpl, hT, hs, k⟩ := h
    refine ⟨_, pss_cons (ps_expr (pe_call (ok_checkP (ms := ms) F.toKP b) (hr.mono (by decide)) (by rfl) F.checkP.g F.checkP.F.kp F.checkP.b .nil pass0 (pa_cons (pv 0) pa_nil)))
      (pss_cons (ps_expr (pe_call (ok_without (ms := ms) F) (hr.mono (by decide)) (by rfl) F.without.g F.without.F.kp F.without.b .nil pass0 (pa_cons (pv 0) pa_nil)))
      (pss_one (ps_ret (pe_call (ok_polyOf F.polyOf.F B) (hr.mono (by decide)) (by rfl) F.polyOf.g F.polyOf.F.kp F.polyOf.b .nil pass0 (pa_cons (pe_lc (own := [("function", 1)]) (g := gName 1) (tt := tYes) rfl scBound.nd (pi_tup (pv 0)) (blkOk_by (N := NBd) (sc := defScope sBound) (by decide +kernel)) (fun _ _ _ _ _ => pg_name (i := 1) scBound.nd rfl (Or.inl rfl)) (fun _ _ _ _ _ => pts_nil)
          (fun _ _ _ _ _ => (pe_call (ok_boundOf (ms := ms) F) (hr.mono (by decide)) (by rfl) F.boundOf.g F.boundOf.F.kp F.boundOf.b .nil pass0 (pa_cons (pv 1) pa_nil)))) pa_nil))))), ?_⟩
    refine ⟨_, rfl, v, _, rfl, hv, hz, hp, hT, hs, fun H1 g1 k1 => ?_⟩
    have hterm := prog_terms hp
    refine ⟨_, rfl, v, fs, rfl, hv.kp k1 hs _, hterm, by omega, fun f hf => (hpl f hf).1, fun H2 k2 => ?_⟩
    have k12 : Kp a.Ts H H2 := k1.trans (k2.more (by simp))
    have g2 := g1.kp0 k2
    have hv1 := hv.kp k12 hs _
    cases hv1 with
    | @tup t xs _ et hx =>
      have lx := hx.length
      rw [List.length_map] at lx
      have lfs := fs_len fs
      refine ⟨_, rfl, t, rfl, ⟨_, sqt_of et⟩, fun D nD => ?_⟩
      refine lc_tup (K := K) (a := t) (xs := xs) (fun i G => (∃ ys, G D = some (.lst ys) ∧ All2 (PairAt G) ys (bPairs (fs.take i))) ∧ Kp [] H2 G) ⟨⟨[], upd_same, .nil⟩, .new nD⟩ (fun i G _ h => sqt_of (h.2.tup _ _ et)) ?_ ?_
      · rintro i x G hxi ⟨⟨ys, hD, hA⟩, kG⟩
        obtain ⟨d, hd, hxd⟩ := hx.get hxi
        rw [List.getElem?_map] at hd
        obtain ⟨f, hf, rfl⟩ := Option.map_eq_some_iff.mp hd
        have hfm := List.mem_of_getElem? hf
        have hi : i < fs.length := (List.getElem?_eq_some_iff.mp hf).1
        have hw := wd_fn hfm
        have tk : fs.take (i + 1) = fs.take i ++ [f] := by rw [List.take_add_one, hf]; rfl
        refine ⟨rfl, _, rfl, x, f, rfl, hxd.kp kG (by simp) _, hterm f hfm, by omega, (hpl f hfm).2, fun r G1 hr1 kz => ?_⟩
        have hD1 := kz.at_ _ _ hD List.not_mem_nil
        have kD : Kp [D] G1 (upd G1 D (.lst (ys ++ [r]))) := .put (by simp) hD1 (fun _ z => by cases z)
        have lA := hA.len
        unfold bPairs at lA
        rw [List.length_map, List.length_take] at lA
        refine ⟨ys, hD1, Nat.lt_of_le_of_lt (show ys.length ≤ 1000000 by omega) (by decide), ⟨ys ++ [r], upd_same, ?_⟩, (kG.trans kz).own nD⟩
        rw [tk]
        unfold bPairs
        rw [List.map_append]
        exact (hA.imp fun _ _ q => PairAt.kp (PairAt.kp q kz) kD).app (.cons (hr1.kp kD) .nil)
      · rintro G ⟨⟨ys, hD, hA⟩, kG⟩
        rw [lx, List.take_length] at hA
        refine ⟨D, ys, bPairs fs, rfl, hD, hA, by unfold bPairs; rw [List.length_map]; omega, fun r zs qs G2 hr2 hA2 hpo k2 => k r zs qs G2 hr2 hA2 hpo (g2.kp0 (kG.trans k2)) (k12.trans ((kG.trans k2).more (by simp)))⟩
end
end Ey
set_option maxHeartbeats 4000000
namespace Ey
open PySem PySem.Spec L2
abbrev sTIn : Stmt := topS 60
abbrev sSummed : Stmt := topS 61
abbrev sLWidth : Stmt := topS 62
abbrev sLBound : Stmt := topS 63
abbrev sHasC : Stmt := topS 64
abbrev sChoosing : Stmt := topS 65
abbrev sRefused : Stmt := topS 66
structure LF (K : PySem.W.Frag) (mg : Str → Option Value) (A : Nat → Addr) (D : Nat → FuncData) : Prop extends LV K mg A D where
  tin : Df K mg "_law_terms_in" sTIn ["_law_term"] (A 60) (D 60)
  summed : Df K mg "_law_summed" sSummed ["_law_some"] (A 61) (D 61)
  lwidth : Df K mg "_law_width" sLWidth ["_law_program"] (A 62) (D 62)
  lbound : Df K mg "_law_bound" sLBound ["_law_program"] (A 63) (D 63)
  hasC : Df K mg "_law_has_choice" sHasC ["_law_term"] (A 64) (D 64)
  choosing : Df K mg "_law_choosing" sChoosing ["_law_program"] (A 65) (D 65)
section
variable {Pr : Program} {w : World} {K : PySem.W.Frag} {mg : Str → Option Value} {base : Heap} {ms : List Addr} {A : Nat → Addr} {D : Nat → FuncData}
theorem mem_poly {ps ks : List (Int × Int)} (hs : SumOk ps ks) {ys : List Int} (hp : ys.Perm (ks.map (·.1))) (hu : ys.Pairwise (· ≤ ·)) : PolyOf ps (ys.map fun m => (m, (lookI ks m).getD 0)) := by
  have nd : ys.Nodup := hp.nodup_iff.mpr hs.nd
  refine ⟨?_, fun x => ?_⟩
  · rw [List.pairwise_map]
    refine (hu.and nd).imp fun {a b} h => ?_
    have := h.1
    have := h.2
    show a < b
    omega
  · have key : x.1 ∈ ys ↔ x.1 ∈ ps.map (·.1) := by
      rw [hp.mem_iff, List.mem_map]
      constructor
      · rintro ⟨p, hp, e⟩
        rw [← e]
        exact ((hs.mem p).mp hp).1
      · intro h
        exact ⟨(x.1, coefSum ps x.1), (hs.mem _).mpr ⟨h, rfl⟩, rfl⟩
    rw [List.mem_map]
    constructor
    · rintro ⟨m, hm, rfl⟩
      have h1 := key.mp hm
      refine ⟨h1, ?_⟩
      show (lookI ks m).getD 0 = coefSum ps m
      rw [hs.lk, if_pos h1]
      rfl
    · rintro ⟨h1, h2⟩
      refine ⟨x.1, key.mpr h1, ?_⟩
      rw [hs.lk, if_pos h1]
      exact Prod.ext rfl h2.symm
abbrev NSu : List Str := ["_law_some", "_law_found", "_law_many", "_law_number"]
theorem scSummed : FnScope NSu ["_law_some"] (defScope sSummed) := ⟨rfl, rfl, rfl, by decide +kernel, rfl, by decide +kernel, by decide +kernel⟩
def spSummed : Sp := fun vs H Q _ => ∃ (l : Addr) (xs : List V) (ps : List (Int × Int)), vs = [.ref l] ∧ H l = some (.lst xs) ∧ All2 (PairAt H) xs ps ∧ ps.length < 64 ∧
  ∀ (r : Addr) (ys : List V) (qs : List (Int × Int)) (H' : Hp), H' r = some (.tup ys) → All2 (PairAt H') ys qs → PolyOf ps qs → Kp [] H H' → Q (.ref r) H'
theorem ok_summed (L : LF K mg A D) : FnOk Pr w K mg base CX0 1 (A 61) (D 61) ["_law_some"] spSummed := by
  have B := L.B
  refine L.summed.F.ok scSummed (fun vs H Q E h => ?_) (fun cdv Ar outer s0 H vs Q E hr h => ?_)
  · obtain ⟨l, xs, ps, rfl, _⟩ := h
    rfl
  · obtain ⟨l, xs, ps, rfl, hl, hx, hz, k⟩ := h
    have hu : (cxOf CX0 Pr w K mg base NSu "_law_summed" (defScope sSummed) (A 61) cdv Ar outer s0 H E).nox.A.units + 1 < cLine := Nat.lt_of_le_of_lt (Nat.add_le_add_left (by decide : 1 ≤ 64) _) hr.units
    refine ⟨_, pss_cons (ps_set (i := 1) scSummed.nd rfl (.inr rfl) pe_dnewK)
      (pss_cons (ps_for PassesOwn.never rfl (pi_list (pv 0)) (pg_tup (n := 2) (by rfl) (pgs_cons (pg_name (i := 2) scSummed.nd rfl (.inl rfl)) (pgs_cons (pg_name (i := 3) scSummed.nd rfl (.inl rfl)) pgs_nil)))
        (pss_one (ps_dput hu (pv 1) (pv 2) (pe_op op_add (pe_dget2 hu (pv 1) (pv 2) pe_int ⟨rfl, rfl, rfl, rfl⟩) (pv 3)) rfl)))
      (pss_one (ps_ret (pe_callTy call_tuple_of (by rfl) B.tuple (by decide +kernel) (pa_cons (pe_lc (own := [("_law_many", 2)]) (g := gName 2) (tt := tYes) rfl scSummed.nd (pi_list (pe_callB (call_sortedDI rfl) (by rfl) B.sorted (by decide +kernel) (pa_cons (pv 1) pa_nil))) (blkOk_by (N := NSu) (sc := defScope sSummed) (by decide +kernel)) (fun _ _ _ _ _ => pg_name (i := 2) scSummed.nd rfl (Or.inl rfl)) (fun _ _ _ _ _ => pts_nil)
          (fun _ _ _ _ _ => (pe_tup (pa_cons (pv 2) (pa_cons (pe_dget hu (pv 1) (pv 2) (fun _ _ => rfl)) pa_nil))))) pa_nil))))), ?_⟩
    refine fun D nD => ?_
    have k1 : Kp [] H (upd H D (.dK [])) := .new nD
    have hD1 : (upd H D (.dK [])) D = some (.dK (([] : List (Int × Int)).map Si.kI)) := upd_same
    generalize upd H D (.dK []) = H1 at k1 hD1
    have lx := hx.len
    refine ⟨_, rfl, l, rfl, ⟨xs, sql_of (k1.at_ _ _ hl List.not_mem_nil)⟩, ?_⟩
    refine for_list (K := K) (a := l) (xs := xs) (fun i σ G => (∃ x2 x3 : Option V, σ = [some (.ref l), some (.ref D), x2, x3]) ∧ (∃ ks, G D = some (.dK (ks.map Si.kI)) ∧ SumOk (ps.take i) ks ∧ ks.length ≤ i) ∧ Kp [] H G)
      ⟨⟨_, _, rfl⟩, ⟨[], hD1, ⟨by simp, fun k => by simp [lookI]⟩, Nat.le_refl _⟩, k1⟩ (fun i σ G _ h => sql_of (h.2.2.at_ _ _ hl List.not_mem_nil)) ?_ ?_
    · rintro i x σ G hxi ⟨⟨x2, x3, rfl⟩, ⟨ks, hD, hs, hlk⟩, kG⟩
      obtain ⟨p, hp, t, rfl, et⟩ := hx.getV hxi
      have hi : i < ps.length := (List.getElem?_eq_some_iff.mp hp).1
      have dg := DGet.k (k := .inl p.1) hD
      rw [valV_kI] at dg
      refine ⟨t, _, rfl, sqt_of (kG.tup _ _ et), rfl, _, _, rfl, _, _, rfl, rfl, ?_⟩
      have eg : ((lookI ks p.1).map V.int).getD (.int 0) = .int ((lookI ks p.1).getD 0) := by cases lookI ks p.1 <;> rfl
      have tk : ps.take (i + 1) = ps.take i ++ [(p.1, p.2)] := by rw [List.take_add_one, hp]; rfl
      have pl : (putI ks p.1 ((lookI ks p.1).getD 0 + p.2)).length ≤ ks.length + 1 := by
        unfold putI
        split
        · rw [List.length_map]
          omega
        · rw [List.length_append]
          exact Nat.le_refl _
      have dp := DPut.k (k := .inl p.1) (v := .int ((lookI ks p.1).getD 0 + p.2)) hD (by rw [List.length_map]; exact Nat.lt_of_le_of_lt (show ks.length ≤ 1000000 by omega) (by decide))
      rw [putK_kI] at dp
      refine ⟨_, rfl, D, rfl, .inl ⟨_, .inl hD⟩, _, rfl, _, dg, _, rfl, _, _, eg, rfl, _, rfl, _, rfl, D, _, rfl, dp, ⟨_, _, rfl⟩, ⟨_, upd_same, ?_, by omega⟩, kG.own nD⟩
      rw [tk]
      exact hs.step p.1 p.2
    · rintro σ G ⟨⟨x2, x3, rfl⟩, ⟨ks, hD, hs, hlk⟩, kG⟩
      rw [lx, List.take_length] at hs
      refine ⟨_, rfl, D, _, ks.map (·.1), rfl, .inl hD, by rw [List.map_map, List.map_map]; rfl, by rw [List.length_map]; omega, fun ys q hperm hsort nq => ?_⟩
      have k4 : Kp [] G (upd G q (.lst (ys.map V.int))) := .new nq
      have hq : (upd G q (.lst (ys.map V.int))) q = some (.lst (ys.map V.int)) := upd_same
      have hD4 := k4.at_ _ _ hD List.not_mem_nil
      generalize upd G q (.lst (ys.map V.int)) = G1 at k4 hq hD4
      have lys : ys.length < 64 := by
        rw [hperm.length_eq, List.length_map]
        omega
      refine ⟨q, rfl, ⟨_, sql_of hq⟩, fun C nC => ?_⟩
      have nCq : C ≠ q := fun e => by rw [e, hq] at nC; cases nC
      have nCD : C ≠ D := fun e => by rw [e, hD4] at nC; cases nC
      refine lc_list (K := K) (a := q) (xs := ys.map V.int) (fun i G2 => (∃ zs, G2 C = some (.lst zs) ∧ All2 (PairAt G2) zs ((ys.take i).map fun m => (m, (lookI ks m).getD 0))) ∧ G2 D = some (.dK (ks.map Si.kI)) ∧ G2 q = some (.lst (ys.map V.int)) ∧ Kp [] G1 G2)
        ⟨⟨[], upd_same, .nil⟩, (upd_ne (Ne.symm nCD)).trans hD4, (upd_ne (Ne.symm nCq)).trans hq, .new nC⟩ (fun i G2 _ h => sql_of h.2.2.1) ?_ ?_
      · rintro i x G2 hxi ⟨⟨zs, hC, hA⟩, hD2, hq2, k2⟩
        rw [List.getElem?_map] at hxi
        obtain ⟨m, hm, rfl⟩ := Option.map_eq_some_iff.mp hxi
        have hmk : m ∈ ks.map (·.1) := hperm.mem_iff.mp (List.mem_of_getElem? hm)
        obtain ⟨p, hp, rfl⟩ := List.mem_map.mp hmk
        have hlook : lookI ks p.1 = some (coefSum ps p.1) := by
          rw [hs.lk, if_pos ((hs.mem p).mp hp).1]
        have dg := DGet.k (k := .inl p.1) hD2
        rw [valV_kI, hlook] at dg
        refine ⟨rfl, _, rfl, _, rfl, _, rfl, D, _, rfl, dg, by show 2 ≤ sizeLine; decide, fun z nz => ?_⟩
        have kz : Kp [] G2 (upd G2 z (.tup [.int p.1, .int (coefSum ps p.1)])) := .new nz
        have ez : (upd G2 z (.tup [.int p.1, .int (coefSum ps p.1)])) z = some (.tup [.int p.1, .int (coefSum ps p.1)]) := upd_same
        have hC1 := kz.at_ _ _ hC List.not_mem_nil
        have hD3 := kz.at_ _ _ hD2 List.not_mem_nil
        have hq3 := kz.at_ _ _ hq2 List.not_mem_nil
        generalize upd G2 z (.tup [.int p.1, .int (coefSum ps p.1)]) = G3 at kz ez hC1 hD3 hq3
        have kC : Kp [C] G3 (upd G3 C (.lst (zs ++ [.ref z]))) := .put (by simp) hC1 (fun _ z => by cases z)
        have lA := hA.len
        rw [List.length_map, List.length_take] at lA
        refine ⟨zs, hC1, Nat.lt_of_le_of_lt (show zs.length ≤ 64 by omega) (by decide), ⟨zs ++ [.ref z], upd_same, ?_⟩, kC.at_ _ _ hD3 (by simp; exact Ne.symm nCD), kC.at_ _ _ hq3 (by simp; exact Ne.symm nCq), (k2.trans kz).own nC⟩
        rw [List.take_add_one, hm]
        show All2 _ _ ((ys.take i ++ [p.1]).map _)
        rw [List.map_append]
        refine (hA.imp fun _ _ a => PairAt.kp (PairAt.kp a kz) kC).app (.cons ⟨z, rfl, ?_⟩ .nil)
        rw [kC.tup _ _ ez]
        show _ = some (HO.tup [.int p.1, .int ((lookI ks p.1).getD 0)])
        rw [hlook]
        rfl
      · rintro G2 ⟨⟨zs, hC, hA⟩, hD2, hq2, k2⟩
        rw [List.length_map, List.take_length] at hA
        refine ⟨C, _, rfl, .inl ⟨sql_of hC, fun r nr => ?_⟩⟩
        have kr : Kp [] G2 (upd G2 r (.tup zs)) := .new nr
        exact k r zs _ _ upd_same (hA.imp fun _ _ a => a.kp kr) (mem_poly hs hperm hsort) (kG.trans (k4.trans (k2.trans kr)))
end
end Ey
set_option maxHeartbeats 4000000
namespace Ey
open PySem PySem.Spec L2
theorem pe_weakW {X : Cx} {e : Expr} {te t1 : TE} (h : PE X e te) (c : ∀ σ H Q, t1 σ H Q → te σ H Q) : PE X e t1 := ⟨fun pins s σ H Q I q => h.run pins s σ H Q I (c σ H Q q)⟩
def seqD : PyData → List PyData
  | .tuple (.str w :: r) => if w = kCall then tupD (r.getD 1 .none) else r
  | _ => []
/-- the items that the law walks -/
def tSeqW (ms : List Addr) (H : Hp) (d : PyData) (v : V) : TE := fun σ G Q => σ[0]? = some (some v) ∧ Kp [] H G ∧ ∀ (p : Addr) (xs : List V) (G' : Hp), G' p = some (.tup xs) → AnAll ms H xs (seqD d) → Kp [] G G' → Q (.ref p) G'
theorem term_tup {x : PyData} (h : isTerm x = true) : isTup x = true := by
  rw [isTerm_eq, Bool.and_eq_true] at h
  obtain ⟨w, r, rfl, _⟩ := headed_form h.1
  rfl
theorem filt_terms {l : List PyData} (h : ∀ x ∈ l, isTerm x = true) : l.filter isTup = l := List.filter_eq_self.mpr fun x hx => term_tup (h x hx)
theorem seq_parts {d : PyData} (h : isTerm d = true) : (seqD d).filter isTup = partsD d := by
  rw [isTerm_eq, Bool.and_eq_true] at h
  obtain ⟨hh, hp⟩ := h
  rw [List.all_eq_true] at hp
  obtain ⟨w, r, rfl, hr⟩ := headed_form hh
  have hp' : ∀ x ∈ partsR w r, isTerm x = true := hp
  show (if w = kCall then tupD (r.getD 1 .none) else r).filter isTup = partsR w r
  unfold partsR at hp' ⊢
  by_cases h1 : w = kName
  · obtain ⟨g, rfl⟩ := name_form h1 hr
    rw [if_pos h1, if_neg (by rw [h1]; decide +kernel)]
    rfl
  · rw [if_neg h1] at hp' ⊢
    by_cases h2 : w = kHas
    · rw [if_pos h2] at hp' ⊢
      rw [if_neg (by rw [h2]; decide +kernel)]
      have hH : hdH r = true := by
        unfold headedR at hr
        rw [if_neg h1, if_pos h2] at hr
        exact hr
      match r, hH, hp' with
      | [x, y], hH, hp' =>
        have hx := term_tup (hp' x (by simp))
        have hy : isTup y = false := by
          have : isTagD y = true := hH
          cases y <;> first | rfl | cases this
        simp [List.filter_cons, hx, hy]
    · rw [if_neg h2] at hp' ⊢
      by_cases h3 : w = kCall
      · rw [if_pos h3] at hp' ⊢
        exact filt_terms hp'
      · rw [if_neg h3] at hp' ⊢
        exact filt_terms hp'
theorem dep_memK {x : PyData} : ∀ {ds : List PyData}, x ∈ ds → x.depth ≤ PyData.depthAll ds
  | y :: r, hx => by
    show x.depth ≤ max y.depth (PyData.depthAll r)
    rcases List.mem_cons.mp hx with rfl | hx
    · omega
    · have := dep_memK hx
      omega
theorem parts_dep {d x : PyData} (hh : headed d = true) (h : x ∈ partsD d) : x.depth < d.depth := by
  obtain ⟨w, r, rfl, hr⟩ := headed_form hh
  have e : (PyData.tuple (.str w :: r)).depth = max 0 (PyData.depthAll r) + 1 := rfl
  have h' : x ∈ partsR w r := h
  unfold partsR at h'
  split at h'
  · cases h'
  · split at h'
    · have := dep_memK (List.mem_of_mem_take h')
      omega
    · split at h'
      · match r, h' with
        | [], h' => cases h'
        | [_], h' => cases h'
        | a :: b :: r, h' =>
          have hb : x ∈ tupD b := h'
          have e2 : PyData.depthAll (a :: b :: r) = max a.depth (max b.depth (PyData.depthAll r)) := rfl
          cases b with
          | tuple ds =>
            have := dep_memK (show x ∈ ds from hb)
            have e3 : (PyData.tuple ds).depth = PyData.depthAll ds + 1 := rfl
            omega
          | _ => cases hb
      · have := dep_memK h'
        omega
section
variable {Pr : Program} {w : World} {K : PySem.W.Frag} {mg : Str → Option Value} {base : Heap} {ms : List Addr} {A : Nat → Addr} {D : Nat → FuncData}
abbrev NTi : List Str := ["_law_term", "_law_terms", "_law_calls", "_law_t", "_law_more", "_law_others"]
theorem scTIn : FnScope NTi ["_law_term"] (defScope sTIn) := ⟨rfl, rfl, rfl, by decide +kernel, rfl, by decide +kernel, by decide +kernel⟩
def spTIn (ms : List Addr) (n : Nat) : Sp := fun vs H Q _ => ∃ (v : V) (d : PyData), vs = [v] ∧ An ms H v d ∧ isTerm d = true ∧ d.depth < n ∧
  ∀ (r : Addr) (H' : Hp), H' r = some (.tup [.int (sumD (fun _ => true) d : Nat), .int (sumD pC d : Nat)]) → Kp [] H H' → Q (.ref r) H'
theorem ok_tin (L : LF K mg A D) : ∀ n : Nat, FnOk Pr w K mg base CX0 (n + 2) (A 60) (D 60) ["_law_term"] (spTIn ms n)
  | 0 => by
    refine L.tin.F.ok scTIn (fun vs H Q E h => ?_) (fun cdv Ar outer s0 H vs Q E hr h => ?_)
    · obtain ⟨v, d, rfl, _⟩ := h
      rfl
    · obtain ⟨v, d, rfl, _, _, hd, _⟩ := h
      exact absurd hd (Nat.not_lt_zero _)
  | n + 1 => by
    have ih := ok_tin L n
    have B := L.B
    refine L.tin.F.ok scTIn (fun vs H Q E h => ?_) (fun cdv Ar outer s0 H vs Q E hr h => ?_)
    · obtain ⟨v, d, rfl, _⟩ := h
      rfl
    · obtain ⟨v, d, rfl, hv, hT, hdep, k⟩ := h
      have hh : headed d = true := by
        have := hT
        rw [isTerm_eq, Bool.and_eq_true] at this
        exact this.1
      obtain ⟨wd0, r, ed, hr2⟩ := headed_form hh
      subst ed
      have hv0 := hv
      obtain ⟨t, xs, rfl, et, hx⟩ := hv.headed
      refine ⟨_, pss_cons (ps_par (i := 1) (j := 2) (by rfl) scTIn.nd rfl rfl (by decide) rfl rfl (pa_cons pe_int (pa_cons (pe_weakW (t1 := fun σ G Q => σ[0]? = some (some (.ref t)) ∧ Kp [] H G ∧ Q (.int ((if pC wd0 = true then 1 else 0 : Nat) : Nat)) G) (pe_ifExp (pt_cmpR op_eq (pe_ix ix_tup (pv 0) pe_int (fun _ _ => rfl)) pe_str (nomark _)) pe_int pe_int) (fun σ G Q h => by
          obtain ⟨e0, kG, kn⟩ := h
          refine ⟨_, e0, t, _, _, _, rfl, rfl, sqt_of (kG.tup _ _ et), atI_nat (j := 0) rfl, rfl, _, rfl, ite2 (fun q => ?_) (fun q => ?_)⟩
          · have e1 : wd0 = kCall := V.str.inj (of_decide_eq_true q)
            rw [show pC wd0 = true from decide_eq_true e1] at kn
            exact kn
          · have n1 : ¬ wd0 = kCall := fun z => q (decide_eq_true (by rw [z]; rfl))
            rw [show pC wd0 = false from decide_eq_false n1] at kn
            exact kn)) pa_nil)) (by rfl))
      (pss_cons (ps_for PassesOwn.never rfl (pi_tup (pe_weakW (t1 := tSeqW ms H (.tuple (.str wd0 :: r)) (.ref t)) (pe_ifExp (pt_cmpR op_eq (pe_ix ix_tup (pv 0) pe_int (fun _ _ => rfl)) pe_str (nomark _)) (pe_ix ix_tup (pv 0) pe_int (fun _ _ => rfl)) (pe_slice sl_cut (pv 0) (po_some pe_int) po_none)) (fun σ G Q h => by
          obtain ⟨e0, kG, kn⟩ := h
          refine ⟨_, e0, t, _, _, _, rfl, rfl, sqt_of (kG.tup _ _ et), atI_nat (j := 0) rfl, rfl, _, rfl, ite2 (fun q => ?_) (fun q => ?_)⟩
          · have e1 : wd0 = kCall := V.str.inj (of_decide_eq_true q)
            obtain ⟨g, ds, rfl, _⟩ := call_form e1 hr2
            match xs, hx with
            | [v1, v2], .cons a1 (.cons a2 .nil) =>
              cases a2 with
              | @tup t2 ys _ e2' hes =>
                refine ⟨_, e0, t, _, _, .ref t2, rfl, rfl, sqt_of (kG.tup _ _ et), atI_nat (j := 2) rfl, kn t2 ys G (kG.tup _ _ e2') ?_ .refl⟩
                rw [show seqD (.tuple [.str wd0, .str g, .tuple ds]) = ds from if_pos e1]
                exact hes
          · have n1 : ¬ wd0 = kCall := fun z => q (decide_eq_true (by rw [z]; rfl))
            refine ⟨_, e0, _, rfl, t, _, rfl, kG.tup _ _ et, fun p H' ep kp => ?_⟩
            have ec : cutV (V.str wd0 :: xs) (some 1) none = xs := cut_drop (V.str wd0 :: xs) 1
            refine kn p xs H' (ec ▸ ep) ?_ kp
            rw [show seqD (.tuple (.str wd0 :: r)) = r from if_neg n1]
            exact hx))) (pg_name (i := 3) scTIn.nd rfl (.inl rfl))
        (pss_one (ps_if (pt_val (pe_callB call_isi (by rfl) B.isi (by decide +kernel) (pa_cons (pv 3) (pa_cons (pe_bltn (v := .ty "tuple") (by rfl) B.tuple (by decide +kernel) rfl) pa_nil))))
        (pss_cons (ps_asg (pe_call (ih) hr (by rfl) L.tin.g L.tin.F.kp L.tin.b .nil pass0 (pa_cons (pv 3) pa_nil)) (pg_tup (n := 2) (by rfl) (pgs_cons (pg_name (i := 4) scTIn.nd rfl (.inl rfl)) (pgs_cons (pg_name (i := 5) scTIn.nd rfl (.inl rfl)) pgs_nil))))
      (pss_one (ps_par (i := 1) (j := 2) (by rfl) scTIn.nd rfl rfl (by decide) rfl rfl (pa_cons (pe_op op_add (pv 1) (pv 4)) (pa_cons (pe_op op_add (pv 2) (pv 5)) pa_nil)) (by rfl)))) pss_nil)))
      (pss_one (ps_ret (pe_tup (pa_cons (pv 1) (pa_cons (pv 2) pa_nil)))))), ?_⟩
      have hsp := seq_parts hT
      generalize hd : PyData.tuple (.str wd0 :: r) = d at hv0 hT hh hsp hdep k
      have wdd : wordD d = wd0 := by rw [← hd]; rfl
      refine ⟨rfl, .refl, _, _, rfl, ?_⟩
      refine ⟨rfl, .refl, fun p xs2 G1 ep ax k1 => ?_⟩
      have lx := ax.length
      refine ⟨p, rfl, ⟨_, sqt_of ep⟩, ?_⟩
      refine for_tup (K := K) (a := p) (xs := xs2) (fun i σ G => (∃ x3 x4 x5 : Option V, σ = [some (.ref t), some (.int ((1 + ((((seqD d).take i).filter isTup).map (sumD fun _ => true)).sum : Nat) : Int)), some (.int ((((if pC wd0 = true then 1 else 0 : Nat) + ((((seqD d).take i).filter isTup).map (sumD pC)).sum : Nat) : Int))), x3, x4, x5]) ∧ G p = some (.tup xs2) ∧ Kp [] H G)
        ⟨⟨_, _, _, by simp; rfl⟩, ep, k1⟩ (fun i σ G _ h => sqt_of h.2.1) ?_ ?_
      · rintro i x σ G hxi ⟨⟨x3, x4, x5, rfl⟩, hp, kG⟩
        obtain ⟨dx, hdx, hax⟩ := ax.get hxi
        have haG := hax.kp kG (by simp) _
        obtain ⟨ty, hty, kty⟩ := haG.tupK (K := K)
        refine ⟨_, rfl, _, .ty "tuple", ty, .type "tuple", _, rfl, .ty "tuple", hty, kty, ?_⟩
        have tk : (seqD d).take (i + 1) = (seqD d).take i ++ [dx] := by rw [List.take_add_one, hdx]; rfl
        cases hdt : isTup dx with
        | false =>
          have ef : ((seqD d).take (i + 1)).filter isTup = ((seqD d).take i).filter isTup := by rw [tk, List.filter_append, show List.filter isTup [dx] = [] by simp [hdt], List.append_nil]
          refine ⟨false, rfl, iteF ?_⟩
          rw [ef]
          exact ⟨⟨_, _, _, rfl⟩, hp, kG⟩
        | true =>
          have hmem : dx ∈ partsD d := by
            rw [← hsp]
            exact List.mem_filter.mpr ⟨List.mem_of_getElem? hdx, hdt⟩
          have hTx : isTerm dx = true := by
            have := hT
            rw [isTerm_eq, Bool.and_eq_true] at this
            exact List.all_eq_true.mp this.2 _ hmem
          refine ⟨true, rfl, iteT ⟨_, rfl, x, dx, rfl, haG, hTx, by have := parts_dep hh hmem; omega, fun r2 G2 hr3 k2 => ?_⟩⟩
          refine ⟨r2, _, rfl, sqt_of hr3, rfl, _, _, rfl, _, _, rfl, rfl, _, rfl, _, rfl, _, _, rfl, rfl, _, rfl, _, rfl, _, _, rfl, rfl, _, _, rfl, ?_⟩
          have ef : ((seqD d).take (i + 1)).filter isTup = ((seqD d).take i).filter isTup ++ [dx] := by rw [tk, List.filter_append, show List.filter isTup [dx] = [dx] by simp [hdt]]
          rw [ef, List.map_append, List.map_append, List.sum_append, List.sum_append]
          have eS : ∀ a b c : Nat, ((a + b : Nat) : Int) + (c : Nat) = ((a + (b + (c + 0)) : Nat) : Int) := fun a b c => by omega
          refine ⟨⟨some x, some (.int (sumD (fun _ => true) dx : Nat)), some (.int (sumD pC dx : Nat)), ?_⟩, k2.tup _ _ hp, kG.trans k2⟩
          have q1 := eS 1 ((((seqD d).take i).filter isTup).map (sumD fun _ => true)).sum (sumD (fun _ => true) dx)
          have q2 := eS (if pC wd0 = true then 1 else 0) ((((seqD d).take i).filter isTup).map (sumD pC)).sum (sumD pC dx)
          show [some (V.ref t), some (V.int _), some (V.int _), some x, some (V.int _), some (V.int _)] = [some (V.ref t), some (V.int ((1 + (_ + (sumD (fun _ => true) dx + 0)) : Nat) : Int)), some (V.int (((if pC wd0 = true then 1 else 0) + (_ + (sumD pC dx + 0)) : Nat) : Int)), some x, _, _]
          rw [← q1, ← q2]
      · rintro σ G ⟨⟨x3, x4, x5, rfl⟩, hp, kG⟩
        rw [lx, List.take_length, hsp]
        refine ⟨_, rfl, _, rfl, by show 2 ≤ sizeLine; decide, fun r nr => k r _ ?_ (kG.trans (.new nr))⟩
        rw [upd_same, sumD_eq (fun _ => true) d, sumD_eq pC d, wdd]
        rfl
end
end Ey
set_option maxHeartbeats 4000000
namespace Ey
open PySem PySem.Spec L2
section
variable {Pr : Program} {w : World} {K : PySem.W.Frag} {mg : Str → Option Value} {base : Heap} {ms : List Addr} {A : Nat → Addr} {D : Nat → FuncData}
abbrev NLw : List Str := ["_law_program", "_law_fun"]
theorem scLWidth : FnScope NLw ["_law_program"] (defScope sLWidth) := ⟨rfl, rfl, rfl, by decide +kernel, rfl, by decide +kernel, by decide +kernel⟩
def spLW (ms : List Addr) (g : List Fn → List (Int × Int)) (C : List Fn → Prop) : Sp := fun vs H Q _ => ∃ (v : V) (fs : List Fn), vs = [v] ∧ An ms H v (.tuple (fs.map fD)) ∧ fs.length < 64 ∧ C fs ∧
  ∀ (r : Addr) (ys : List V) (qs : List (Int × Int)) (H' : Hp), H' r = some (.tup ys) → All2 (PairAt H') ys qs → PolyOf (g fs) qs → Kp [] H H' → Q (.ref r) H'
theorem ok_lWidth (L : LF K mg A D) : FnOk Pr w K mg base CX0 2 (A 62) (D 62) ["_law_program"] (spLW ms wPairs fun _ => True) := by
  have B := L.B
  refine L.lwidth.F.ok scLWidth (fun vs H Q E h => ?_) (fun cdv Ar outer s0 H vs Q E hr h => ?_)
  · obtain ⟨v, fs, rfl, _⟩ := h
    rfl
  · obtain ⟨v, fs, rfl, hv, hz, _, k⟩ := h
    refine ⟨_, pss_one (ps_ret (pe_call (ok_summed L) (hr.mono (by decide)) (by rfl) L.summed.g L.summed.F.kp L.summed.b .nil pass0 (pa_cons (pe_lc (own := [("_law_fun", 1)]) (g := gName 1) (tt := tYes) rfl scLWidth.nd (pi_tup (pv 0)) (blkOk_by (N := NLw) (sc := defScope sLWidth) (by decide +kernel)) (fun _ _ _ _ _ => pg_name (i := 1) scLWidth.nd rfl (Or.inl rfl)) (fun _ _ _ _ _ => pts_nil)
          (fun _ _ _ _ _ => (pe_tup (pa_cons (pe_callB (r := rLenQ K) call_len_seq (by rfl) B.len PySem.boot_len (pa_cons (pe_ix (r := rIxT K) ix_tup (pv 1) pe_int (fun _ _ => rfl)) pa_nil)) (pa_cons pe_int pa_nil))))) pa_nil))), ?_⟩
    cases hv with
    | @tup t xs _ et hx =>
      have lx := hx.length
      rw [List.length_map] at lx
      refine ⟨_, rfl, t, rfl, ⟨_, sqt_of et⟩, fun D nD => ?_⟩
      refine lc_tup (K := K) (a := t) (xs := xs) (fun i G => (∃ ys, G D = some (.lst ys) ∧ All2 (PairAt G) ys (wPairs (fs.take i))) ∧ Kp [] H G) ⟨⟨[], upd_same, .nil⟩, .new nD⟩ (fun i G _ h => sqt_of (h.2.tup _ _ et)) ?_ ?_
      · rintro i x G hxi ⟨⟨ys, hD, hA⟩, kG⟩
        obtain ⟨d, hd, hxd⟩ := hx.get hxi
        rw [List.getElem?_map] at hd
        obtain ⟨f, hf, rfl⟩ := Option.map_eq_some_iff.mp hd
        have hi : i < fs.length := (List.getElem?_eq_some_iff.mp hf).1
        have hxG := hxd.kp kG (by simp) _
        obtain ⟨ft, nt, bv, rfl, e1, e2, e3⟩ := hxG.fn
        have tk : fs.take (i + 1) = fs.take i ++ [f] := by rw [List.take_add_one, hf]; rfl
        refine ⟨rfl, _, rfl, ft, _, _, _, rfl, rfl, sqt_of e1, atI_nat (j := 3) rfl, nt, _, rfl, .inr (sqt_of e2), by show 2 ≤ sizeLine; decide, fun z nz => ?_⟩
        have kz : Kp [] G (upd G z (.tup [.int (((f.ns.map V.str).length : Nat) : Int), .int 1])) := .new nz
        have ez : (upd G z (.tup [.int (((f.ns.map V.str).length : Nat) : Int), .int 1])) z = some (.tup [.int ((f.ns.length : Nat) : Int), .int 1]) := by rw [upd_same, List.length_map]
        have hD1 := kz.at_ _ _ hD List.not_mem_nil
        generalize upd G z (.tup [.int (((f.ns.map V.str).length : Nat) : Int), .int 1]) = G1 at kz ez hD1
        have kD : Kp [D] G1 (upd G1 D (.lst (ys ++ [.ref z]))) := .put (by simp) hD1 (fun _ z => by cases z)
        have lA := hA.len
        unfold wPairs at lA
        rw [List.length_map, List.length_take] at lA
        refine ⟨ys, hD1, Nat.lt_of_le_of_lt (show ys.length ≤ 1000000 by omega) (by decide), ⟨ys ++ [.ref z], upd_same, ?_⟩, (kG.trans kz).own nD⟩
        rw [tk]
        unfold wPairs
        rw [List.map_append]
        exact (hA.imp fun _ _ q => PairAt.kp (PairAt.kp q kz) kD).app (.cons ⟨z, rfl, kD.tup _ _ ez⟩ .nil)
      · rintro G ⟨⟨ys, hD, hA⟩, kG⟩
        rw [lx, List.take_length] at hA
        exact ⟨D, ys, wPairs fs, rfl, hD, hA, by unfold wPairs; rw [List.length_map]; exact hz, fun r zs qs G2 hr2 hA2 hpo k2 => k r zs qs G2 hr2 hA2 hpo (kG.trans k2)⟩
/-- the bounds' bounds -/
def BOk (fs : List Fn) : Prop := ∀ f ∈ fs, isTerm f.bd = true ∧ f.bd.depth < 40 ∧ sumD pC f.bd < 2 ^ 30 ∧ sumD (fun _ => true) f.bd < 2 ^ 30
abbrev NLb : List Str := ["_law_program", "_law_some", "_law_fun", "_law_terms", "_law_calls"]
theorem scLBound : FnScope NLb ["_law_program"] (defScope sLBound) := ⟨rfl, rfl, rfl, by decide +kernel, rfl, by decide +kernel, by decide +kernel⟩
theorem ok_lBound (L : LF K mg A D) : FnOk Pr w K mg base CX0 43 (A 63) (D 63) ["_law_program"] (spLW ms bPairs BOk) := by
  have B := L.B
  refine L.lbound.F.ok scLBound (fun vs H Q E h => ?_) (fun cdv Ar outer s0 H vs Q E hr h => ?_)
  · obtain ⟨v, fs, rfl, _⟩ := h
    rfl
  · obtain ⟨v, fs, rfl, hv, hz, hB, k⟩ := h
    refine ⟨_, pss_cons (ps_set (i := 1) scLBound.nd rfl (.inl rfl) (pe_lst pa_nil))
      (pss_cons (ps_for PassesOwn.never rfl (pi_tup (pv 0)) (pg_name (i := 2) scLBound.nd rfl (.inl rfl))
        (pss_cons (ps_asg (pe_call (ok_tin (ms := ms) L 40) (hr.mono (by decide)) (by rfl) L.tin.g L.tin.F.kp L.tin.b .nil pass0 (pa_cons (pe_ix ix_tup (pv 2) pe_int (fun _ _ => rfl)) pa_nil)) (pg_tup (n := 2) (by rfl) (pgs_cons (pg_name (i := 3) scLBound.nd rfl (.inl rfl)) (pgs_cons (pg_name (i := 4) scLBound.nd rfl (.inl rfl)) pgs_nil))))
      (pss_one (ps_expr (pe_bm PySem.F.plainAttrs_list PySem.F.slot_list_append PySem.F.type_list_append mt_append (pv 1) (pa_cons (pe_tup (pa_cons (pe_callB (r := rLenQ K) call_len_seq (by rfl) B.len PySem.boot_len (pa_cons (pe_ix ix_tup (pv 2) pe_int (fun _ _ => rfl)) pa_nil)) (pa_cons (pe_op op_mul (pe_op op_add pe_int (pv 4)) (pv 3)) pa_nil))) pa_nil))))))
      (pss_one (ps_ret (pe_call (ok_summed L) (hr.mono (by decide)) (by rfl) L.summed.g L.summed.F.kp L.summed.b .nil pass0 (pa_cons (pv 1) pa_nil))))), ?_⟩
    cases hv with
    | @tup t xs _ et hx =>
      have lx := hx.length
      rw [List.length_map] at lx
      refine ⟨Nat.zero_le _, fun D nD => ?_⟩
      have k1 : Kp [] H (upd H D (.lst [])) := .new nD
      have hD1 : (upd H D (.lst [])) D = some (.lst []) := upd_same
      generalize upd H D (.lst []) = H1 at k1 hD1
      refine ⟨_, rfl, t, rfl, ⟨_, sqt_of (k1.tup _ _ et)⟩, ?_⟩
      refine for_tup (K := K) (a := t) (xs := xs) (fun i σ G => (∃ x2 x3 x4 : Option V, σ = [some (.ref t), some (.ref D), x2, x3, x4]) ∧ (∃ ys, G D = some (.lst ys) ∧ All2 (PairAt G) ys (bPairs (fs.take i))) ∧ Kp [] H G) ⟨⟨_, _, _, rfl⟩, ⟨[], hD1, .nil⟩, k1⟩ (fun i σ G _ h => sqt_of (h.2.2.tup _ _ et)) ?_ ?_
      · rintro i x σ G hxi ⟨⟨x2, x3, x4, rfl⟩, ⟨ys, hD, hA⟩, kG⟩
        obtain ⟨d, hd, hxd⟩ := hx.get hxi
        rw [List.getElem?_map] at hd
        obtain ⟨f, hf, rfl⟩ := Option.map_eq_some_iff.mp hd
        have hfm := List.mem_of_getElem? hf
        have hi : i < fs.length := (List.getElem?_eq_some_iff.mp hf).1
        have hxG := hxd.kp kG (by simp) _
        obtain ⟨ft, nt, bv, rfl, e1, e2, e3⟩ := hxG.fn
        obtain ⟨b1, b2, b3, b4⟩ := hB f hfm
        have tk : fs.take (i + 1) = fs.take i ++ [f] := by rw [List.take_add_one, hf]; rfl
        refine ⟨_, rfl, ft, _, _, _, rfl, rfl, sqt_of e1, atI_nat (j := 4) rfl, bv, f.bd, rfl, e3, b1, b2, fun r G1 hr1 k2 => ?_⟩
        have hD2 := k2.at_ _ _ hD List.not_mem_nil
        refine ⟨r, _, rfl, sqt_of hr1, rfl, _, _, rfl, _, _, rfl, rfl, ?_⟩
        refine ⟨_, rfl, .inl ⟨rfl, _, sql_of hD2⟩, _, rfl, ft, _, _, _, rfl, rfl, sqt_of (k2.tup _ _ e1), atI_nat (j := 3) rfl, nt, _, rfl, .inr (sqt_of (k2.tup _ _ e2)), _, rfl, _, _, rfl, rfl, _, rfl, _, _, rfl, rfl, .inr ⟨by omega, by omega⟩, by show 2 ≤ sizeLine; decide, fun z nz => ?_⟩
        have em : (1 + ((sumD pC f.bd : Nat) : Int)) * ((sumD (fun _ => true) f.bd : Nat) : Int) = (((1 + sumD pC f.bd) * sumD (fun _ => true) f.bd : Nat) : Int) := by
          rw [Int.natCast_mul, Int.natCast_add]
          rfl
        have kz : Kp [] G1 (upd G1 z (.tup [.int (((f.ns.map V.str).length : Nat) : Int), .int ((1 + ((sumD pC f.bd : Nat) : Int)) * ((sumD (fun _ => true) f.bd : Nat) : Int))])) := .new nz
        have ez : (upd G1 z (.tup [.int (((f.ns.map V.str).length : Nat) : Int), .int ((1 + ((sumD pC f.bd : Nat) : Int)) * ((sumD (fun _ => true) f.bd : Nat) : Int))])) z = some (.tup [.int ((f.ns.length : Nat) : Int), .int (((1 + sumD pC f.bd) * sumD (fun _ => true) f.bd : Nat) : Int)]) := by rw [upd_same, List.length_map, em]
        have hD3 := kz.at_ _ _ hD2 List.not_mem_nil
        have kk := k2.trans kz
        generalize upd G1 z (.tup [.int (((f.ns.map V.str).length : Nat) : Int), .int ((1 + ((sumD pC f.bd : Nat) : Int)) * ((sumD (fun _ => true) f.bd : Nat) : Int))]) = G3 at kz ez hD3 kk
        have kD : Kp [D] G3 (upd G3 D (.lst (ys ++ [.ref z]))) := .put (by simp) hD3 (fun _ z => by cases z)
        have lA := hA.len
        unfold bPairs at lA
        rw [List.length_map, List.length_take] at lA
        refine ⟨D, ys, .ref z, rfl, rfl, hD3, Nat.lt_of_le_of_lt (show ys.length ≤ 1000000 by omega) (by decide), ⟨_, _, _, rfl⟩, ⟨ys ++ [.ref z], upd_same, ?_⟩, (kG.trans kk).own nD⟩
        rw [tk]
        unfold bPairs
        rw [List.map_append]
        exact (hA.imp fun _ _ q => PairAt.kp (PairAt.kp q kk) kD).app (.cons ⟨z, rfl, kD.tup _ _ ez⟩ .nil)
      · rintro σ G ⟨⟨x2, x3, x4, rfl⟩, ⟨ys, hD, hA⟩, kG⟩
        rw [lx, List.take_length] at hA
        exact ⟨_, rfl, D, ys, bPairs fs, rfl, hD, hA, by unfold bPairs; rw [List.length_map]; exact hz, fun r zs qs G2 hr2 hA2 hpo k2 => k r zs qs G2 hr2 hA2 hpo (kG.trans k2)⟩
end
end Ey
set_option maxHeartbeats 4000000
namespace Ey
open PySem PySem.Spec L2
section
variable {Pr : Program} {w : World} {K : PySem.W.Frag} {mg : Str → Option Value} {base : Heap} {ms : List Addr} {A : Nat → Addr} {D : Nat → FuncData}
abbrev NHc : List Str := ["_law_term", "_law_t"]
theorem scHasC : FnScope NHc ["_law_term"] (defScope sHasC) := ⟨rfl, rfl, rfl, by decide +kernel, rfl, by decide +kernel, by decide +kernel⟩
def spHC (ms : List Addr) (n : Nat) : Sp := fun vs H Q _ => ∃ (v : V) (d : PyData), vs = [v] ∧ An ms H v d ∧ isTerm d = true ∧ d.depth < n ∧ wd d ≤ 1000000 ∧ ∀ H', Kp [] H H' → Q (.bl (decide (0 < sumD pE d))) H'
theorem ok_hasC (L : LF K mg A D) : ∀ n : Nat, FnOk Pr w K mg base CX0 (n + 2) (A 64) (D 64) ["_law_term"] (spHC ms n)
  | 0 => by
    refine L.hasC.F.ok scHasC (fun vs H Q E h => ?_) (fun cdv Ar outer s0 H vs Q E hr h => ?_)
    · obtain ⟨v, d, rfl, _⟩ := h
      rfl
    · obtain ⟨v, d, rfl, _, _, hd, _⟩ := h
      exact absurd hd (Nat.not_lt_zero _)
  | n + 1 => by
    have ih := ok_hasC L n
    have B := L.B
    refine L.hasC.F.ok scHasC (fun vs H Q E h => ?_) (fun cdv Ar outer s0 H vs Q E hr h => ?_)
    · obtain ⟨v, d, rfl, _⟩ := h
      rfl
    · obtain ⟨v, d, rfl, hv, hT, hdep, hz, k⟩ := h
      have hh : headed d = true := by
        have := hT
        rw [isTerm_eq, Bool.and_eq_true] at this
        exact this.1
      obtain ⟨wd0, r, ed, hr2⟩ := headed_form hh
      subst ed
      have hv0 := hv
      obtain ⟨t, xs, rfl, et, hx⟩ := hv.headed
      refine ⟨_, pss_one (ps_ret (pe_or (pe_cmpR op_eq (pe_ix ix_tup (pv 0) pe_int (fun _ _ => rfl)) pe_str (nomark _)) (pe_one (pe_cmpR (op_neEL hr.units) (pe_lc (own := [("_law_t", 1)]) (g := gName 1) rfl scHasC.nd (pi_tup (pe_weakW (t1 := tSeqW ms H (.tuple (.str wd0 :: r)) (.ref t)) (pe_ifExp (pt_cmpR op_eq (pe_ix ix_tup (pv 0) pe_int (fun _ _ => rfl)) pe_str (nomark _)) (pe_ix ix_tup (pv 0) pe_int (fun _ _ => rfl)) (pe_slice sl_cut (pv 0) (po_some pe_int) po_none)) (fun σ G Q h => by
          obtain ⟨e0, kG, kn⟩ := h
          refine ⟨_, e0, t, _, _, _, rfl, rfl, sqt_of (kG.tup _ _ et), atI_nat (j := 0) rfl, rfl, _, rfl, ite2 (fun q => ?_) (fun q => ?_)⟩
          · have e1 : wd0 = kCall := V.str.inj (of_decide_eq_true q)
            obtain ⟨g, ds, rfl, _⟩ := call_form e1 hr2
            match xs, hx with
            | [v1, v2], .cons a1 (.cons a2 .nil) =>
              cases a2 with
              | @tup t2 ys _ e2' hes =>
                refine ⟨_, e0, t, _, _, .ref t2, rfl, rfl, sqt_of (kG.tup _ _ et), atI_nat (j := 2) rfl, kn t2 ys G (kG.tup _ _ e2') ?_ .refl⟩
                rw [show seqD (.tuple [.str wd0, .str g, .tuple ds]) = ds from if_pos e1]
                exact hes
          · have n1 : ¬ wd0 = kCall := fun z => q (decide_eq_true (by rw [z]; rfl))
            refine ⟨_, e0, _, rfl, t, _, rfl, kG.tup _ _ et, fun p H' ep kp => ?_⟩
            have ec : cutV (V.str wd0 :: xs) (some 1) none = xs := cut_drop (V.str wd0 :: xs) 1
            refine kn p xs H' (ec ▸ ep) ?_ kp
            rw [show seqD (.tuple (.str wd0 :: r)) = r from if_neg n1]
            exact hx))) (blkOk_by (N := NHc) (sc := defScope sHasC) (by decide +kernel)) (fun _ _ _ _ _ => pg_name (i := 1) scHasC.nd rfl (Or.inl rfl)) (fun _ _ _ _ _ => pts_one (PW.pt (pw_and (pt_val (pe_callB (r := rIsi K) call_isi (by rfl) B.isi (by decide +kernel) (pa_cons (pv 1) (pa_cons (pe_bltn (v := .ty "tuple") (by rfl) B.tuple (by decide +kernel) rfl) pa_nil)))) (pw_and1 (pt_val (pe_call (ih) hr (by rfl) L.hasC.g L.hasC.F.kp L.hasC.b .nil pass0 (pa_cons (pv 1) pa_nil)))))))
          (fun _ _ _ _ _ => (pv 1))) (pe_lst pa_nil) (nomark _))))), ?_⟩
      have hsp := seq_parts hT
      generalize hd : PyData.tuple (.str wd0 :: r) = d at hv0 hT hh hsp hdep hz k
      have wdd : wordD d = wd0 := by rw [← hd]; rfl
      have sm := sumD_eq pE d
      rw [wdd] at sm
      refine ⟨_, rfl, t, _, _, _, rfl, rfl, sqt_of et, atI_nat (j := 0) rfl, rfl, _, rfl, ite2 (fun q => ?_) (fun q => ?_)⟩
      · have e1 : wd0 = kEither := V.str.inj (of_decide_eq_true q)
        rw [if_pos (show pE wd0 = true from decide_eq_true e1)] at sm
        have := k H .refl
        rw [decide_eq_true (show 0 < sumD pE d by omega)] at this
        exact this
      · have n1 : ¬ pE wd0 = true := fun z => q (decide_eq_true (by rw [of_decide_eq_true z]; rfl))
        rw [if_neg n1] at sm
        refine ⟨rfl, .refl, fun p xs2 G1 ep ax k1 => ⟨p, rfl, ⟨_, sqt_of ep⟩, fun C nC => ?_⟩⟩
        have lx := ax.length
        have lsq : (seqD d).length ≤ 1000000 := by
          have h1 : wd d = wd (.str wd0) + 2 + wdAll r + 3 := by rw [← hd]; rfl
          have h2 := len_wd2 r
          by_cases hc : wd0 = kCall
          · obtain ⟨g, ds, rfl, _⟩ := call_form hc hr2
            have h3 := len_wd2 ds
            have h4 : wdAll [.str g, .tuple ds] = wd (.str g) + 2 + (wdAll ds + 3 + 2 + 0) := rfl
            rw [← hd, show seqD (.tuple [.str wd0, .str g, .tuple ds]) = ds from if_pos hc]
            omega
          · rw [← hd, show seqD (.tuple (.str wd0 :: r)) = r from if_neg hc]
            omega
        refine lc_tup (K := K) (a := p) (xs := xs2) (fun i G => (∃ ys, G C = some (.lst ys) ∧ ys.length ≤ i ∧ ys.isEmpty = decide (((((seqD d).take i).filter isTup).map (sumD pE)).sum = 0)) ∧ Kp [] G1 G) ⟨⟨[], upd_same, Nat.le_refl _, by simp⟩, .new nC⟩ (fun i G _ h => sqt_of (h.2.tup _ _ ep)) ?_ ?_
        · rintro i x G hxi ⟨⟨ys, hC, hl, he⟩, kG⟩
          obtain ⟨dx, hdx, hax⟩ := ax.get hxi
          have haG := hax.kp (k1.trans kG) (by simp) _
          obtain ⟨ty, hty, kty⟩ := haG.tupK (K := K)
          have tk : (seqD d).take (i + 1) = (seqD d).take i ++ [dx] := by rw [List.take_add_one, hdx]; rfl
          have hil : i < (seqD d).length := (List.getElem?_eq_some_iff.mp hdx).1
          refine ⟨rfl, _, rfl, _, .ty "tuple", ty, .type "tuple", _, rfl, .ty "tuple", hty, kty, _, rfl, ?_⟩
          cases hdt : isTup dx with
          | false =>
            have ef : ((seqD d).take (i + 1)).filter isTup = ((seqD d).take i).filter isTup := by rw [tk, List.filter_append, show List.filter isTup [dx] = [] by simp [hdt], List.append_nil]
            exact iteF (iteF ⟨⟨ys, hC, by omega, by rw [ef]; exact he⟩, kG⟩)
          | true =>
            have ef : ((seqD d).take (i + 1)).filter isTup = ((seqD d).take i).filter isTup ++ [dx] := by rw [tk, List.filter_append, show List.filter isTup [dx] = [dx] by simp [hdt]]
            have hmem : dx ∈ partsD d := by
              rw [← hsp]
              exact List.mem_filter.mpr ⟨List.mem_of_getElem? hdx, hdt⟩
            have hTx : isTerm dx = true := by
              have := hT
              rw [isTerm_eq, Bool.and_eq_true] at this
              exact List.all_eq_true.mp this.2 _ hmem
            have hwx := parts_wd hmem
            refine iteT ⟨_, rfl, x, dx, rfl, haG, hTx, by have := parts_dep hh hmem; omega, by omega, fun G2 k2 => ⟨_, rfl, ?_⟩⟩
            have hC2 := k2.at_ _ _ hC List.not_mem_nil
            cases hc : decide (0 < sumD pE dx) with
            | false =>
              have z := of_decide_eq_false hc
              refine iteF ⟨⟨ys, hC2, by omega, ?_⟩, kG.trans k2⟩
              rw [ef, List.map_append, List.sum_append, he]
              have z2 : sumD pE dx = 0 := by omega
              simp [z2]
            | true =>
              have z := of_decide_eq_true hc
              refine iteT ⟨_, rfl, ys, hC2, Nat.lt_of_le_of_lt (show ys.length ≤ 1000000 by omega) (by decide), ⟨ys ++ [x], upd_same, by rw [List.length_append]; show _ + 1 ≤ _; omega, ?_⟩, (kG.trans k2).own nC⟩
              rw [ef, List.map_append, List.sum_append, show (ys ++ [x]).isEmpty = false by simp]
              symm
              refine decide_eq_false ?_
              simp
              intro _
              omega
        · rintro G ⟨⟨ys, hC, hl, he⟩, kG⟩
          rw [lx, List.take_length, hsp] at he
          refine ⟨Nat.zero_le _, fun E2 nE => ?_⟩
          have kE : Kp [] G (upd G E2 (.lst [])) := .new nE
          refine ⟨C, E2, ys, rfl, rfl, kE.at_ _ _ hC List.not_mem_nil, upd_same, ?_⟩
          have := k _ (k1.trans (kG.trans kE))
          rw [he]
          have e : (!decide (((partsD d).map (sumD pE)).sum = 0)) = decide (0 < sumD pE d) := by
            rw [sm]
            by_cases z : ((partsD d).map (sumD pE)).sum = 0
            · rw [decide_eq_true z, decide_eq_false (by omega)]
              rfl
            · rw [decide_eq_false z, decide_eq_true (by omega)]
              rfl
          rw [e]
          exact this
end
end Ey
set_option maxHeartbeats 4000000
namespace Ey
open PySem PySem.Spec L2
section
variable {Pr : Program} {w : World} {K : PySem.W.Frag} {mg : Str → Option Value} {base : Heap} {ms : List Addr} {A : Nat → Addr} {D : Nat → FuncData}
abbrev NCg : List Str := ["_law_program", "_law_names", "_law_fun"]
theorem scChoosing : FnScope NCg ["_law_program"] (defScope sChoosing) := ⟨rfl, rfl, rfl, by decide +kernel, rfl, by decide +kernel, by decide +kernel⟩
def spChoosing (ms : List Addr) : Sp := fun vs H Q _ => ∃ (v : V) (fs : List Fn), vs = [v] ∧ An ms H v (.tuple (fs.map fD)) ∧ (∀ f ∈ fs, isTerm f.bd = true ∧ f.bd.depth < 40) ∧ wd (.tuple (fs.map fD)) ≤ 1000000 ∧
  ∀ H', Kp [] H H' → Q (optV ((fs.filter chD).head?.map (·.nm))) H'
theorem ok_choosing (L : LF K mg A D) : FnOk Pr w K mg base CX0 43 (A 65) (D 65) ["_law_program"] (spChoosing ms) := by
  have B := L.B
  refine L.choosing.F.ok scChoosing (fun vs H Q E h => ?_) (fun cdv Ar outer s0 H vs Q E hr h => ?_)
  · obtain ⟨v, fs, rfl, _⟩ := h
    rfl
  · obtain ⟨v, fs, rfl, hv, hT, hz, k⟩ := h
    refine ⟨_, pss_cons (ps_setLc (i := 1) (own := [("_law_fun", 2)]) (g := gName 2) (by rfl) scChoosing.nd rfl rfl (sw_true rfl rfl rfl (by decide +kernel)) (pi_tup (pv 0)) (blkOk_by (N := NCg) (sc := defScope sChoosing) (by decide +kernel)) (fun _ _ _ _ _ => pg_name (i := 2) scChoosing.nd rfl (Or.inl rfl)) (fun _ _ _ _ _ => pts_one (pt_val (pe_call (ok_hasC (ms := ms) L 40) (hr.mono (by decide)) (by rfl) L.hasC.g L.hasC.F.kp L.hasC.b .nil pass0 (pa_cons (pe_ix (r := rIxT K) ix_tup (pv 2) pe_int (fun _ _ => rfl)) pa_nil))))
          (fun _ _ _ _ _ => (pe_ix (r := rIxT K) ix_tup (pv 2) pe_int (fun _ _ => rfl))))
      (pss_one (ps_ret (pe_ifExp (pt_cmpR (op_neEL hr.units) (pv 1) (pe_lst pa_nil) (nomark _)) (pe_ix ix_list (pv 1) pe_int (fun _ _ => rfl)) pe_non))), ?_⟩
    cases hv with
    | @tup t xs _ et hx =>
      have lx := hx.length
      rw [List.length_map] at lx
      have lfs := fs_len fs
      refine ⟨_, rfl, t, rfl, ⟨_, sqt_of et⟩, fun C nC => ?_⟩
      refine lc_tup (K := K) (a := t) (xs := xs) (fun i G => G C = some (.lst ((((fs.take i).filter chD).map (·.nm)).map V.str)) ∧ Kp [] H G) ⟨upd_same, .new nC⟩ (fun i G _ h => sqt_of (h.2.tup _ _ et)) ?_ ?_
      · rintro i x G hxi ⟨hD, kG⟩
        obtain ⟨d, hd, hxd⟩ := hx.get hxi
        rw [List.getElem?_map] at hd
        obtain ⟨f, hf, rfl⟩ := Option.map_eq_some_iff.mp hd
        have hfm := List.mem_of_getElem? hf
        have hi : i < fs.length := (List.getElem?_eq_some_iff.mp hf).1
        have hxG := hxd.kp kG (by simp) _
        obtain ⟨ft, nt, bv, rfl, e1, e2, e3⟩ := hxG.fn
        have hw := wd_fn hfm
        have tk : fs.take (i + 1) = fs.take i ++ [f] := by rw [List.take_add_one, hf]; rfl
        refine ⟨rfl, _, rfl, ft, _, _, _, rfl, rfl, sqt_of e1, atI_nat (j := 4) rfl, bv, f.bd, rfl, e3, (hT f hfm).1, (hT f hfm).2, by omega, fun G2 k2 => ⟨_, rfl, ?_⟩⟩
        have hD2 := k2.at_ _ _ hD List.not_mem_nil
        cases hc : decide (0 < sumD pE f.bd) with
        | false =>
          refine iteF ⟨?_, kG.trans k2⟩
          rw [hD2, tk, List.filter_append, show List.filter chD [f] = [] by simp [chD, of_decide_eq_false hc], List.append_nil]
        | true =>
          have lfl : ((((fs.take i).filter chD).map (·.nm)).map V.str).length ≤ 1000000 := by
            rw [List.length_map, List.length_map]
            have := List.length_filter_le chD (fs.take i)
            rw [List.length_take] at this
            omega
          refine iteT ⟨_, rfl, ft, _, _, _, rfl, rfl, sqt_of (k2.tup _ _ e1), atI_nat (j := 1) rfl, _, hD2, Nat.lt_of_le_of_lt lfl (by decide), ?_, (kG.trans k2).own nC⟩
          rw [upd_same, tk, List.filter_append, show List.filter chD [f] = [f] by simp [chD, of_decide_eq_true hc], List.map_append, List.map_append]
          rfl
      · rintro G ⟨hD, kG⟩
        rw [lx, List.take_length] at hD
        refine ⟨_, rfl, Nat.zero_le _, fun E2 nE => ?_⟩
        have kE : Kp [] G (upd G E2 (.lst [])) := .new nE
        have hC3 := kE.at_ _ _ hD List.not_mem_nil
        refine ⟨C, E2, _, rfl, rfl, hC3, upd_same, _, rfl, ?_⟩
        generalize upd G E2 (.lst []) = G3 at kE hC3
        cases hl : fs.filter chD with
        | nil =>
          rw [hl] at k
          exact iteF (k G3 (kG.trans kE))
        | cons f r =>
          rw [hl] at k hC3
          exact iteT ⟨_, rfl, C, _, _, _, rfl, rfl, sql_of hC3, atI_nat (j := 0) rfl, k G3 (kG.trans kE)⟩
end
end Ey
set_option maxHeartbeats 4000000
namespace Ey
open PySem PySem.Spec L2
/-! ### terms without a fault -/
inductive WK (ns : List Str) (fs : List Fn) : Str → PyData → Prop
  | mk {k : Str} {d : PyData} : headed d = true → faultsT d k ns fs = [] → (∀ x ∈ kids d k, WK ns fs x.2.1 x.1) → WK ns fs k d
theorem WK.term {ns : List Str} {fs : List Fn} {k : Str} {d : PyData} (h : WK ns fs k d) : isTerm d = true := by
  induction h with
  | @mk k d hh hf hk ih =>
    rw [isTerm_eq, hh, Bool.true_and, ← kids_parts (k := k) hh, List.all_map]
    exact List.all_eq_true.mpr fun x hx => ih x hx
theorem WK.faults {ns : List Str} {fs : List Fn} {k : Str} {d : PyData} (h : WK ns fs k d) : ∀ p, faultsD ns fs k p d = [] := by
  induction h with
  | @mk k d hh hf hk ih =>
    intro p
    rw [faultsD_eq, hf]
    show [] ++ _ = []
    rw [List.nil_append, List.flatMap_eq_nil_iff]
    exact fun x hx => ih x hx _
theorem kid_zip {d : PyData} {k : Str} {x : PyData × Str × List Nat} (h : x ∈ kids d k) : (x.1, x.2.1) ∈ (partsD d).zip (kindsW (wordD d) k (partsD d).length) := by
  obtain ⟨j, hj⟩ := List.getElem?_of_mem h
  obtain ⟨a, b, _⟩ := kids_at hj
  exact List.mem_of_getElem? (i := j) (by rw [List.getElem?_zip_eq_some]; exact ⟨a, b⟩)
section
variable {ns : List Str} {fs : List Fn} {k w : Str} {r : List PyData}
theorem WK.plain (h : headedR w r = true) (n1 : ¬ w = kName) (n2 : ¬ w = kHas) (n3 : ¬ w = kCall) (ho : (ownT.find? fun p => decide (p.1 = w)).map (·.2) = none ∨ (ownT.find? fun p => decide (p.1 = w)).map (·.2) = some k)
    (hk : ∀ x kd, (x, kd) ∈ r.zip (kindsW w k r.length) → WK ns fs kd x) : WK ns fs k (.tuple (.str w :: r)) := by
  have pd : partsD (.tuple (.str w :: r)) = r := by
    show partsR w r = r
    unfold partsR
    rw [if_neg n1, if_neg n2, if_neg n3]
  refine .mk h ?_ fun x hx => hk x.1 x.2.1 ?_
  · have e1 : ex1 (.tuple (.str w :: r)) ns = [] := if_neg fun z => n1 z.1
    have e2 : ex2 (.tuple (.str w :: r)) fs = [] := if_neg n3
    have e3 : ex3 (.tuple (.str w :: r)) k fs = [] := by
      unfold ex3
      rw [show ownF (.tuple (.str w :: r)) fs = (ownT.find? fun p => decide (p.1 = w)).map (·.2) from if_neg n3]
      exact if_pos ho
    unfold faultsT
    rw [e1, e2, e3]
    rfl
  · have := kid_zip hx
    rw [pd] at this
    exact this
theorem ownF_ne (h : ¬ w = kCall) : ownF (.tuple (.str w :: r)) fs = (ownT.find? fun p => decide (p.1 = w)).map (·.2) := if_neg h
theorem ownF_call {g : Str} (h : w = kCall) : ownF (.tuple (.str w :: .str g :: r)) fs = (firstF g fs).map (·.kd) := if_pos h
theorem parts_name (h : w = kName) : partsD (.tuple (.str w :: r)) = [] := by
  show partsR w r = []
  unfold partsR
  exact if_pos h
theorem WK.name {g : Str} (hg : isName g = true) (hm : g ∈ ns) : WK ns fs kPlace (.tuple [.str kName, .str g]) := by
  refine .mk (by show headedR kName [.str g] = true; unfold headedR; rw [if_pos rfl]; exact hg) ?_ fun x hx => by
    have := kids_mem hx
    rw [parts_name rfl] at this
    cases this
  have e1 : ex1 (.tuple [.str kName, .str g]) ns = [] := if_neg fun z => z.2 (List.any_eq_true.mpr ⟨g, hm, decide_eq_true rfl⟩)
  have e2 : ex2 (.tuple [.str kName, .str g]) fs = [] := if_neg (by show ¬ kName = kCall; decide +kernel)
  have e3 : ex3 (.tuple [.str kName, .str g]) kPlace fs = [] := by
    unfold ex3
    rw [ownF_ne (show ¬ kName = kCall by decide +kernel)]
    exact if_pos (.inr (by decide +kernel))
  unfold faultsT
  rw [e1, e2, e3]
  rfl
theorem WK.has {t : PyData} {g : Str} (hg : isTag g = true) (ht : WK ns fs kPlace t) : WK ns fs kTruth (.tuple [.str kHas, t, .str g]) := by
  have pd : partsD (.tuple [.str kHas, t, .str g]) = [t] := by
    show partsR kHas _ = _
    unfold partsR
    rw [if_neg (by decide +kernel), if_pos rfl]
    rfl
  refine .mk ?_ ?_ fun x hx => ?_
  · show headedR kHas _ = true
    unfold headedR
    rw [if_neg (by decide +kernel), if_pos rfl]
    exact hg
  · have e1 : ex1 (.tuple [.str kHas, t, .str g]) ns = [] := if_neg fun z => absurd z.1 (by show ¬ kHas = kName; decide +kernel)
    have e2 : ex2 (.tuple [.str kHas, t, .str g]) fs = [] := if_neg (by show ¬ kHas = kCall; decide +kernel)
    have e3 : ex3 (.tuple [.str kHas, t, .str g]) kTruth fs = [] := by
      unfold ex3
      rw [ownF_ne (show ¬ kHas = kCall by decide +kernel)]
      exact if_pos (.inr (by decide +kernel))
    unfold faultsT
    rw [e1, e2, e3]
    rfl
  · have := kid_zip hx
    rw [pd, show kindsW (wordD (.tuple [.str kHas, t, .str g])) kTruth [t].length = [kPlace] by show kindsW kHas kTruth 1 = _; decide +kernel] at this
    have e := List.mem_singleton.mp this
    have e1 : x.1 = t := congrArg (·.1) e
    have e2 : x.2.1 = kPlace := congrArg (·.2) e
    rw [e1, e2]
    exact ht
theorem WK.call {g : Str} {f : Fn} {ts : List PyData} (hg : isName g = true) (hf : firstF g fs = some f) (hl : f.ns.length = ts.length) (hts : ∀ t ∈ ts, WK ns fs kPlace t) : WK ns fs f.kd (.tuple [.str kCall, .str g, .tuple ts]) := by
  have pd : partsD (.tuple [.str kCall, .str g, .tuple ts]) = ts := by
    show partsR kCall _ = _
    unfold partsR
    rw [if_neg (by decide +kernel), if_neg (by decide +kernel), if_pos rfl]
    rfl
  refine .mk ?_ ?_ fun x hx => ?_
  · show headedR kCall _ = true
    unfold headedR
    rw [if_neg (by decide +kernel), if_neg (by decide +kernel), if_pos rfl]
    show (isName g && true) = true
    rw [hg]
    rfl
  · have e1 : ex1 (.tuple [.str kCall, .str g, .tuple ts]) ns = [] := if_neg fun z => absurd z.1 (by show ¬ kCall = kName; decide +kernel)
    have e2 : ex2 (.tuple [.str kCall, .str g, .tuple ts]) fs = [] := by
      unfold ex2
      rw [if_pos (show wordD (.tuple [.str kCall, .str g, .tuple ts]) = kCall from rfl), show argN (.tuple [.str kCall, .str g, .tuple ts]) = g from rfl, hf, pd]
      exact if_pos hl
    have e3 : ex3 (.tuple [.str kCall, .str g, .tuple ts]) f.kd fs = [] := by
      unfold ex3
      rw [ownF_call rfl, hf]
      exact if_pos (.inr rfl)
    unfold faultsT
    rw [e1, e2, e3]
    rfl
  · have h1 := kid_zip hx
    have h2 := List.of_mem_zip h1
    rw [pd] at h2
    have h3 : x.2.1 ∈ kindsW kCall f.kd (partsD (.tuple [.str kCall, .str g, .tuple ts])).length := h2.2
    have e : kindsW kCall f.kd (partsD (.tuple [.str kCall, .str g, .tuple ts])).length = List.replicate (partsD (.tuple [.str kCall, .str g, .tuple ts])).length kPlace := by
      unfold kindsW
      rw [if_neg (by decide +kernel), if_neg (by decide +kernel), if_neg (by decide +kernel)]
    rw [e] at h3
    rw [(List.mem_replicate.mp h3).2]
    exact hts _ h2.1
end
end Ey
set_option maxHeartbeats 4000000
namespace Ey
open PySem PySem.Spec L2
def plainT : List (Str × Str × Nat) := [("top", kPlace, 0), ("yes", kTruth, 0), ("no", kTruth, 0), ("left", kPlace, 1), ("right", kPlace, 1), ("up", kPlace, 1), ("empty", kTruth, 1), ("same", kTruth, 2)]
def truthT : List (Str × Nat) := [("not", 1), ("and", 2), ("or", 2)]
theorem plain_facts : ∀ x ∈ plainT, arity x.1 = some x.2.2 ∧ ¬ x.1 = kName ∧ ¬ x.1 = kHas ∧ ¬ x.1 = kCall ∧ ¬ x.1 = kIf ∧ ¬ x.1 = kEither ∧ ¬ ((["not", "and", "or"] : List Str).any fun t => decide (t = x.1)) = true ∧ (ownT.find? fun p => decide (p.1 = x.1)).map (·.2) = some x.2.1 := by decide +kernel
theorem truth_facts : ∀ x ∈ truthT, arity x.1 = some x.2 ∧ ¬ x.1 = kName ∧ ¬ x.1 = kHas ∧ ¬ x.1 = kCall ∧ ¬ x.1 = kIf ∧ ¬ x.1 = kEither ∧ ((["not", "and", "or"] : List Str).any fun t => decide (t = x.1)) = true ∧ (ownT.find? fun p => decide (p.1 = x.1)).map (·.2) = some kTruth := by decide +kernel
section
variable {ns : List Str} {fs : List Fn} {k w : Str} {r : List PyData}
theorem head_arity {n : Nat} (ha : arity w = some n) (n1 : ¬ w = kName) (n2 : ¬ w = kHas) (n3 : ¬ w = kCall) (hl : r.length = n) : headedR w r = true := by
  unfold headedR
  rw [if_neg n1, if_neg n2, if_neg n3, ha]
  exact decide_eq_true hl
theorem WK.pl {n : Nat} (h : (w, k, n) ∈ plainT) (hl : r.length = n) (hr : ∀ t ∈ r, WK ns fs kPlace t) : WK ns fs k (.tuple (.str w :: r)) := by
  obtain ⟨a, n1, n2, n3, n4, n5, n6, o⟩ := plain_facts _ h
  refine .plain (head_arity a n1 n2 n3 hl) n1 n2 n3 (.inr o) fun x kd hx => ?_
  have h2 := List.of_mem_zip hx
  have e : kindsW w k r.length = List.replicate r.length kPlace := by
    unfold kindsW
    rw [if_neg n4, if_neg n5, if_neg n6]
  rw [e] at h2
  rw [(List.mem_replicate.mp h2.2).2]
  exact hr x h2.1
theorem WK.tr {n : Nat} (h : (w, n) ∈ truthT) (hl : r.length = n) (hr : ∀ t ∈ r, WK ns fs kTruth t) : WK ns fs kTruth (.tuple (.str w :: r)) := by
  obtain ⟨a, n1, n2, n3, n4, n5, n6, o⟩ := truth_facts _ h
  refine .plain (head_arity a n1 n2 n3 hl) n1 n2 n3 (.inr o) fun x kd hx => ?_
  have h2 := List.of_mem_zip hx
  have e : kindsW w kTruth r.length = [kTruth, kTruth] := by
    unfold kindsW
    rw [if_neg n4, if_neg n5, if_pos n6]
  rw [e] at h2
  have e2 : kd = kTruth := by simpa using h2.2
  rw [e2]
  exact hr x h2.1
theorem WK.ifT {c a b : PyData} (hc : WK ns fs kTruth c) (ha : WK ns fs k a) (hb : WK ns fs k b) : WK ns fs k (.tuple [.str kIf, c, a, b]) := by
  refine .plain (head_arity (n := 3) (by decide +kernel) (by decide +kernel) (by decide +kernel) (by decide +kernel) rfl) (by decide +kernel) (by decide +kernel) (by decide +kernel) (.inl (by decide +kernel)) fun x kd hx => ?_
  have e : kindsW kIf k 3 = [kTruth, k, k] := if_pos rfl
  have hx' : (x, kd) ∈ ([c, a, b] : List PyData).zip (kindsW kIf k 3) := hx
  rw [e] at hx'
  have hx2 : (x, kd) = (c, kTruth) ∨ (x, kd) = (a, k) ∨ (x, kd) = (b, k) := by simpa using hx'
  rcases hx2 with z | z | z
  · cases z; exact hc
  · cases z; exact ha
  · cases z; exact hb
theorem WK.either {a b : PyData} (ha : WK ns fs k a) (hb : WK ns fs k b) : WK ns fs k (.tuple [.str kEither, a, b]) := by
  refine .plain (head_arity (n := 2) (by decide +kernel) (by decide +kernel) (by decide +kernel) (by decide +kernel) rfl) (by decide +kernel) (by decide +kernel) (by decide +kernel) (.inl (by decide +kernel)) fun x kd hx => ?_
  have e : kindsW kEither k 2 = [k, k] := by
    unfold kindsW
    rw [if_neg (by decide +kernel), if_pos rfl]
  have hx' : (x, kd) ∈ ([a, b] : List PyData).zip (kindsW kEither k 2) := hx
  rw [e] at hx'
  have hx2 : (x, kd) = (a, k) ∨ (x, kd) = (b, k) := by simpa using hx'
  rcases hx2 with z | z
  · cases z; exact ha
  · cases z; exact hb
end
/-! ### programs without a fault -/
structure FnOkD (fs : List Fn) (f : Fn) : Prop where
  nm : isName f.nm = true
  kd : f.kd = kPlace ∨ f.kd = kTruth
  ns : ∀ g ∈ f.ns, isName g = true
  nd : f.ns.Nodup
  bd : WK f.ns fs f.kd f.bd
theorem fnD_ok {fs : List Fn} {f : Fn} (h : FnOkD fs f) : isFunction (fD f) = true := by
  show (isThe kFun (.str kFun) && (isNameD (.str f.nm) && (isKindD (.str f.kd) && (areNames (.tuple (f.ns.map PyData.str)) && isTerm f.bd)))) = true
  have h1 : isThe kFun (.str kFun) = true := by decide +kernel
  have h2 : isNameD (.str f.nm) = true := h.nm
  have h3 : isKindD (.str f.kd) = true := by
    rcases h.kd with e | e
    · rw [e]; decide +kernel
    · rw [e]; decide +kernel
  have h4 : areNames (.tuple (f.ns.map PyData.str)) = true := by
    show (f.ns.map PyData.str).all isNameD = true
    rw [List.all_map]
    exact List.all_eq_true.mpr fun g hg => h.ns g hg
  rw [h1, h2, h3, h4, h.bd.term]
  rfl
theorem dup_none (i : Nat) : ∀ (ns pre : List Str), (pre ++ ns).Nodup → dupFrom i pre ns = []
  | [], _, _ => rfl
  | g :: r, pre, h => by
    have hg : ¬ (pre.any fun t => decide (t = g)) = true := fun z => by
      obtain ⟨t, ht, e⟩ := List.any_eq_true.mp z
      rw [List.nodup_append] at h
      exact h.2.2 t ht g List.mem_cons_self (of_decide_eq_true e)
    show (if (pre.any fun t => decide (t = g)) = true then _ else _) ++ dupFrom i (pre ++ [g]) r = []
    rw [if_neg hg, dup_none i r (pre ++ [g]) (by rw [List.append_assoc]; exact h)]
    rfl
theorem twice_none : ∀ (fs : List Fn) (mets : List Str) (i : Nat), (mets ++ fs.map (·.nm)).Nodup → (∀ f ∈ fs, f.ns.Nodup) → twiceFrom mets i fs = []
  | [], _, _, _, _ => rfl
  | f :: r, mets, i, h, hn => by
    have hg : ¬ (mets.any fun t => decide (t = f.nm)) = true := fun z => by
      obtain ⟨t, ht, e⟩ := List.any_eq_true.mp z
      rw [List.nodup_append] at h
      exact h.2.2 t ht f.nm List.mem_cons_self (of_decide_eq_true e)
    show tw1 i mets f.nm ++ dupFrom i [] f.ns ++ twiceFrom (mets ++ [f.nm]) (i + 1) r = []
    rw [show tw1 i mets f.nm = [] from if_neg hg, dup_none i f.ns [] (hn f List.mem_cons_self), twice_none r (mets ++ [f.nm]) (i + 1) (by rw [List.append_assoc]; exact h) fun g hg => hn g (List.mem_cons_of_mem _ hg)]
    rfl
theorem from_none (all : List Fn) : ∀ (fs : List Fn) (i : Nat), (∀ f ∈ fs, WK f.ns all f.kd f.bd) → faultsFrom all i fs = []
  | [], _, _ => rfl
  | f :: r, i, h => by
    show faultsD f.ns all f.kd [i, 4] f.bd ++ faultsFrom all (i + 1) r = []
    rw [(h f List.mem_cons_self).faults, from_none all r (i + 1) fun g hg => h g (List.mem_cons_of_mem _ hg)]
    rfl
theorem prog_ok {fs : List Fn} (h : ∀ f ∈ fs, FnOkD fs f) (nd : (fs.map (·.nm)).Nodup) : isProgD (.tuple (fs.map fD)) = true := by
  unfold isProgD
  rw [fnsOf_fD]
  have h1 : isScript (.tuple (fs.map fD)) = true := by
    show (fs.map fD).all isFunction = true
    rw [List.all_map]
    exact List.all_eq_true.mpr fun f hf => fnD_ok (h f hf)
  have h2 : allFaults fs = [] := by
    unfold allFaults
    rw [twice_none fs [] 0 nd fun f hf => (h f hf).nd, from_none fs fs 0 fun f hf => (h f hf).bd]
    rfl
  rw [h1, h2]
  rfl
end Ey
set_option maxHeartbeats 4000000
namespace Ey
open PySem PySem.Spec L2
/-! ### other programs in which a term is without a fault -/
/-- whatever fs knows, fs' knows alike -/
def Knows (fs fs' : List Fn) : Prop := ∀ n f, firstF n fs = some f → ∃ f', firstF n fs' = some f' ∧ f'.kd = f.kd ∧ f'.ns.length = f.ns.length
theorem faultsT_knows {d : PyData} {k : Str} {ns : List Str} {fs fs' : List Fn} (hk : Knows fs fs') (hh : headed d = true) (h : faultsT d k ns fs = []) : faultsT d k ns fs' = [] := by
  obtain ⟨w, r, rfl, hr⟩ := headed_form hh
  unfold faultsT at h ⊢
  rw [List.append_eq_nil_iff, List.append_eq_nil_iff] at h
  obtain ⟨⟨h1, h2⟩, h3⟩ := h
  rw [h1]
  by_cases hc : w = kCall
  · obtain ⟨g, ds, rfl, _⟩ := call_form hc hr
    unfold ex2 at h2
    rw [if_pos (show wordD (.tuple [.str w, .str g, .tuple ds]) = kCall from hc), show argN (.tuple [.str w, .str g, .tuple ds]) = g from rfl] at h2
    cases e : firstF g fs with
    | none => rw [e] at h2; cases h2
    | some f =>
      rw [e] at h2
      obtain ⟨f', e', ek, el⟩ := hk g f e
      have q2 : ex2 (.tuple [.str w, .str g, .tuple ds]) fs' = [] := by
        unfold ex2
        rw [if_pos (show wordD (.tuple [.str w, .str g, .tuple ds]) = kCall from hc), show argN (.tuple [.str w, .str g, .tuple ds]) = g from rfl, e']
        show (if f'.ns.length = _ then [] else [kCnt]) = []
        rw [el]
        exact h2
      have q3 : ex3 (.tuple [.str w, .str g, .tuple ds]) k fs' = [] := by
        unfold ex3 at h3 ⊢
        rw [ownF_call hc, e] at h3
        rw [ownF_call hc, e']
        show (if some f'.kd = none ∨ some f'.kd = some k then [] else [kKnd]) = []
        rw [ek]
        exact h3
      rw [q2, q3]
      rfl
  · have q2 : ex2 (.tuple (.str w :: r)) fs' = [] := if_neg hc
    have q3 : ex3 (.tuple (.str w :: r)) k fs' = [] := by
      unfold ex3 at h3 ⊢
      rw [ownF_ne hc] at h3 ⊢
      exact h3
    rw [q2, q3]
    rfl
theorem WK.knows {ns : List Str} {fs fs' : List Fn} {k : Str} {d : PyData} (h : WK ns fs k d) (hk : Knows fs fs') : WK ns fs' k d := by
  induction h with
  | @mk k d hh hf _ ih => exact .mk hh (faultsT_knows hk hh hf) fun x hx => ih x hx
theorem firstF_mem {n : Str} {fs : List Fn} {f : Fn} (h : firstF n fs = some f) : f ∈ fs ∧ f.nm = n := by
  unfold firstF at h
  exact ⟨List.mem_of_find?_eq_some h, by have := List.find?_some h; simpa using this⟩
theorem firstF_nd {fs : List Fn} (nd : (fs.map (·.nm)).Nodup) {f : Fn} (h : f ∈ fs) : firstF f.nm fs = some f := by
  induction fs with
  | nil => cases h
  | cons g r ih =>
    rw [List.map_cons, List.nodup_cons] at nd
    unfold firstF
    rw [List.find?_cons]
    by_cases e : g.nm = f.nm
    · rw [decide_eq_true e]
      rcases List.mem_cons.mp h with z | z
      · rw [z]
      · exact absurd (by rw [e]; exact List.mem_map_of_mem z) nd.1
    · rw [decide_eq_false e]
      rcases List.mem_cons.mp h with z | z
      · exact absurd (by rw [z]) e
      · exact ih nd.2 z
/-- a program with the same functions and more, each name once -/
theorem knows_sub {fs fs' : List Fn} (nd : (fs'.map (·.nm)).Nodup) (h : ∀ f ∈ fs, ∃ f' ∈ fs', f'.nm = f.nm ∧ f'.kd = f.kd ∧ f'.ns.length = f.ns.length) : Knows fs fs' := by
  intro n f hf
  obtain ⟨hm, hn⟩ := firstF_mem hf
  obtain ⟨f', hm', e1, e2, e3⟩ := h f hm
  refine ⟨f', ?_, e2, e3⟩
  rw [← hn, ← e1]
  exact firstF_nd nd hm'
theorem FnOkD.knows {fs fs' : List Fn} {f : Fn} (h : FnOkD fs f) (hk : Knows fs fs') : FnOkD fs' f := ⟨h.nm, h.kd, h.ns, h.nd, h.bd.knows hk⟩
theorem prog_rev {fs : List Fn} (h : ∀ f ∈ fs, FnOkD fs f) (nd : (fs.map (·.nm)).Nodup) : (∀ f ∈ fs.reverse, FnOkD fs.reverse f) ∧ (fs.reverse.map (·.nm)).Nodup := by
  have nd' : (fs.reverse.map (·.nm)).Nodup := by
    rw [List.map_reverse]
    exact (List.reverse_perm _).nodup_iff.mpr nd
  refine ⟨fun f hf => (h f (List.mem_reverse.mp hf)).knows (knows_sub nd' fun g hg => ⟨g, List.mem_reverse.mpr hg, rfl, rfl, rfl⟩), nd'⟩
theorem sum_perm {l l' : List Int} (h : l.Perm l') : l.sum = l'.sum := by
  induction h with
  | nil => rfl
  | cons x _ ih => rw [List.sum_cons, List.sum_cons, ih]
  | swap x y l =>
    simp only [List.sum_cons]
    omega
  | trans _ _ a b => exact a.trans b
/-- sums do not hang on the order -/
theorem coef_perm {ps qs : List (Int × Int)} (h : ps.Perm qs) (k : Int) : coefSum ps k = coefSum qs k := by
  unfold coefSum
  exact sum_perm ((h.filter _).map _)
theorem keys_perm {ps qs : List (Int × Int)} (h : ps.Perm qs) (k : Int) : k ∈ ps.map (·.1) ↔ k ∈ qs.map (·.1) := (h.map _).mem_iff
theorem PolyOf.perm {ps ps' qs rs : List (Int × Int)} (h : PolyOf ps qs) (g : PolyOf ps' rs) (hp : ps.Perm ps') : qs = rs := h.uniq g (keys_perm hp) (coef_perm hp)
end Ey
set_option maxHeartbeats 4000000
namespace Ey
open PySem PySem.Spec L2
/-! ### the heads of drawn functions -/
def bases : List Str := ["f", "go", "is_it", "at2"]
def nmB (b : Str) (i : Nat) : Str := b ++ Str.ofString (toString ((i : Nat) : Int))
theorem nm_ok : ∀ i, i < 5 → ∀ b ∈ bases, isName (nmB b i) = true := by decide +kernel
theorem nm_len : ∀ i, i < 5 → ∀ b ∈ bases, (nmB b i).length ≤ 6 := by decide +kernel
theorem nm_ne : ∀ i, i < 5 → ∀ j, j < 5 → ∀ b ∈ bases, ∀ c ∈ bases, nmB b i = nmB c j → i = j := by decide +kernel
structure Hd where
  nm : Str
  kd : Str
  many : Nat
structure HdOk (i : Nat) (h : Hd) : Prop where
  nm : ∃ b ∈ bases, h.nm = nmB b i
  kd : h.kd = kPlace ∨ h.kd = kTruth
  many : h.many ≤ 2
def HdsOk (hs : List Hd) : Prop := ∀ (i : Nat) (h : Hd), hs[i]? = some h → HdOk i h
theorem hds_nd {hs : List Hd} (ok : HdsOk hs) (hl : hs.length ≤ 5) : (hs.map (·.nm)).Nodup := by
  rw [List.Nodup, List.pairwise_map, List.pairwise_iff_getElem]
  intro i j hi hj hij e
  obtain ⟨b, hb, e1⟩ := (ok i _ (List.getElem?_eq_getElem hi)).nm
  obtain ⟨c, hc, e2⟩ := (ok j _ (List.getElem?_eq_getElem hj)).nm
  rw [e1, e2] at e
  have := nm_ne i (by omega) j (by omega) b hb c hc e
  omega
/-- functions that have these heads, whatever their bodies -/
def hdF (h : Hd) : Fn := ⟨h.nm, h.kd, List.replicate h.many "", .none⟩
structure Fits (f : Fn) (h : Hd) : Prop where
  nm : f.nm = h.nm
  kd : f.kd = h.kd
  many : f.ns.length = h.many
inductive FitsAll : List Fn → List Hd → Prop
  | nil : FitsAll [] []
  | cons {f : Fn} {h : Hd} {fs : List Fn} {hs : List Hd} : Fits f h → FitsAll fs hs → FitsAll (f :: fs) (h :: hs)
theorem FitsAll.names {fs : List Fn} {hs : List Hd} (h : FitsAll fs hs) : fs.map (·.nm) = hs.map (·.nm) := by
  induction h with
  | nil => rfl
  | cons a _ ih => rw [List.map_cons, List.map_cons, ih, a.nm]
theorem FitsAll.mem {fs : List Fn} {hs : List Hd} (h : FitsAll fs hs) : ∀ x ∈ hs, ∃ f ∈ fs, Fits f x := by
  induction h with
  | nil => intro x hx; cases hx
  | cons a _ ih =>
    intro x hx
    rcases List.mem_cons.mp hx with rfl | hx
    · exact ⟨_, List.mem_cons_self, a⟩
    · obtain ⟨f, hf, e⟩ := ih x hx
      exact ⟨f, List.mem_cons_of_mem _ hf, e⟩
theorem hdF_names (hs : List Hd) : (hs.map hdF).map (·.nm) = hs.map (·.nm) := by rw [List.map_map]; rfl
/-- a term without a fault among the heads is one among the functions -/
theorem FitsAll.knows {fs : List Fn} {hs : List Hd} (h : FitsAll fs hs) (nd : (hs.map (·.nm)).Nodup) : Knows (hs.map hdF) fs := by
  refine knows_sub (by rw [h.names]; exact nd) fun f hf => ?_
  obtain ⟨x, hx, rfl⟩ := List.mem_map.mp hf
  obtain ⟨g, hg, e⟩ := h.mem x hx
  exact ⟨g, hg, e.nm, e.kd, by rw [e.many]; exact (List.length_replicate ..).symm⟩
/-- a head is known by its name -/
theorem first_hd {hs : List Hd} (nd : (hs.map (·.nm)).Nodup) {h : Hd} (hm : h ∈ hs) : firstF h.nm (hs.map hdF) = some (hdF h) :=
  firstF_nd (f := hdF h) (by rw [hdF_names]; exact nd) (List.mem_map_of_mem hm)
/-- the names of a function's places -/
def nsA : List Str := ["x", "y", "far"]
def nsB : List Str := ["p", "x", "z_1"]
theorem ns_ok : ∀ n, n < 4 → (∀ g ∈ nsA.take n, isName g = true) ∧ (∀ g ∈ nsB.take n, isName g = true) ∧ (nsA.take n).Nodup ∧ (nsB.take n).Nodup := by decide +kernel
/-- a call of a head with terms that are places -/
theorem WK.callH {ns : List Str} {hs : List Hd} (nd : (hs.map (·.nm)).Nodup) {h : Hd} (hm : h ∈ hs) (hg : isName h.nm = true) {ts : List PyData} (hl : ts.length = h.many) (hts : ∀ t ∈ ts, WK ns (hs.map hdF) kPlace t) :
    WK ns (hs.map hdF) h.kd (.tuple [.str kCall, .str h.nm, .tuple ts]) :=
  WK.call (f := hdF h) hg (first_hd nd hm) (by rw [hl]; exact List.length_replicate ..) hts
end Ey
set_option maxHeartbeats 4000000
namespace Ey
open PySem PySem.Spec L2
/-! ### the world that a drawn term reads -/
def kFuns : Key := .inr "funs"
def kNamesK : Key := .inr "names"
def kChoice : Key := .inr "has choice"
theorem kFN : ¬ kFuns = kNamesK := by decide +kernel
theorem kFL : ¬ kFuns = kLeft := by decide +kernel
theorem kFC : ¬ kFuns = kChoice := by decide +kernel
theorem kNL : ¬ kNamesK = kLeft := by decide +kernel
theorem kNC : ¬ kNamesK = kChoice := by decide +kernel
theorem kLC : ¬ kLeft = kChoice := by decide +kernel
def boxD (fl nt : Addr) (z : Int) (c : Bool) : List (Key × V) := [(kFuns, .ref fl), (kNamesK, .ref nt), (kLeft, .int z), (kChoice, .bl c)]
def BoxAt (H : Hp) (b fl nt : Addr) (z : Int) (c : Bool) : Prop := H b = some (.dK (boxD fl nt z c))
section
variable {H : Hp} {b fl nt : Addr} {z : Int} {c : Bool}
theorem box_funs : valV (boxD fl nt z c) kFuns = some (.ref fl) := valV_pos rfl
theorem box_names : valV (boxD fl nt z c) kNamesK = some (.ref nt) := (valV_neg kFN).trans (valV_pos rfl)
theorem box_left : valV (boxD fl nt z c) kLeft = some (.int z) := (valV_neg kFL).trans ((valV_neg kNL).trans (valV_pos rfl))
theorem box_choice : valV (boxD fl nt z c) kChoice = some (.bl c) := (valV_neg kFC).trans ((valV_neg kNC).trans ((valV_neg kLC).trans (valV_pos rfl)))
theorem get_bfuns (h : BoxAt H b fl nt z c) : DGet H b (kV kFuns) (some (.ref fl)) := (box_funs (fl := fl) (nt := nt) (z := z) (c := c)) ▸ DGet.k h
theorem get_bnames (h : BoxAt H b fl nt z c) : DGet H b (kV kNamesK) (some (.ref nt)) := (box_names (fl := fl) (nt := nt) (z := z) (c := c)) ▸ DGet.k h
theorem get_bleft (h : BoxAt H b fl nt z c) : DGet H b (kV kLeft) (some (.int z)) := (box_left (fl := fl) (nt := nt) (z := z) (c := c)) ▸ DGet.k h
theorem get_bchoice (h : BoxAt H b fl nt z c) : DGet H b (kV kChoice) (some (.bl c)) := (box_choice (fl := fl) (nt := nt) (z := z) (c := c)) ▸ DGet.k h
theorem put_bleft (y : Int) : putK (boxD fl nt z c) kLeft (.int y) = boxD fl nt y c := by
  unfold putK
  rw [if_pos (by rw [valV_any, box_left]; rfl)]
  have e1 : ¬ kFuns = kLeft := kFL
  have e2 : ¬ kNamesK = kLeft := kNL
  have e3 : ¬ kChoice = kLeft := fun h => kLC h.symm
  simp [boxD, e1, e2, e3]
theorem set_bleft (h : BoxAt H b fl nt z c) (y : Int) : DPut H b (kV kLeft) (.int y) (upd H b (.dK (boxD fl nt y c))) := put_bleft (fl := fl) (nt := nt) (z := z) (c := c) y ▸ DPut.k h (small1000 (show 4 ≤ 1000 by decide))
end
/-- a head of a function, as drawn -/
def HeadV (H : Hp) (v : V) (h : Hd) : Prop := ∃ r : Addr, v = .ref r ∧ H r = some (.tup [.str h.nm, .str h.kd, .int (h.many : Int)])
theorem HeadV.kp {ms : List Addr} {H H1 : Hp} {v : V} {h : Hd} (a : HeadV H v h) (k : Kp ms H H1) : HeadV H1 v h :=
  let ⟨r, e, q⟩ := a
  ⟨r, e, k.tup _ _ q⟩
structure TC (d l b fl nt : Addr) (z : Int) (c : Bool) (vs : List V) (hs : List Hd) (ns : List Str) (H : Hp) : Prop where
  dk : DeckAt H d l
  bx : BoxAt H b fl nt z c
  fk : H fl = some (.lst vs)
  nfl : fl ≠ l
  heads : ∀ v ∈ vs, ∃ h ∈ hs, HeadV H v h
  hlen : vs.length ≤ 100
  nk : H nt = some (.tup (ns.map V.str))
section
variable {d l b fl nt : Addr} {z : Int} {c : Bool} {vs : List V} {hs : List Hd} {ns : List Str} {H H1 : Hp}
theorem TC.bd (T : TC d l b fl nt z c vs hs ns H) : b ≠ d := by
  obtain ⟨m, k, ns, h1, h2, _⟩ := T.dk.ex
  exact ne_of T.bx h1 (by intro z; injection z with z; injection z with z _; injection z with z _; exact absurd z kFL)
theorem TC.bl (T : TC d l b fl nt z c vs hs ns H) : b ≠ l := by
  obtain ⟨m, k, ns, h1, h2, _⟩ := T.dk.ex
  exact ne_of T.bx h2 (by intro z; cases z)
theorem TC.fd (T : TC d l b fl nt z c vs hs ns H) : fl ≠ d := by
  obtain ⟨m, k, ns, h1, h2, _⟩ := T.dk.ex
  exact ne_of T.fk h1 (by intro z; cases z)
theorem TC.fb (T : TC d l b fl nt z c vs hs ns H) : fl ≠ b := ne_of T.fk T.bx (by intro z; cases z)
theorem TC.go (T : TC d l b fl nt z c vs hs ns H) (k : Kp [d, l] H H1) (D : DeckAt H1 d l) : TC d l b fl nt z c vs hs ns H1 :=
  ⟨D, k.at_ _ _ T.bx (by simp [T.bd, T.bl]), k.at_ _ _ T.fk (by simp [T.fd, T.nfl]), T.nfl, fun v hv => let ⟨h, hh, a⟩ := T.heads v hv; ⟨h, hh, a.kp k⟩, T.hlen, k.tup _ _ T.nk⟩
theorem TC.kp0 (T : TC d l b fl nt z c vs hs ns H) (k : Kp [] H H1) : TC d l b fl nt z c vs hs ns H1 :=
  ⟨T.dk.kp k (by simp) (by simp), k.at_ _ _ T.bx (by simp), k.at_ _ _ T.fk (by simp), T.nfl, fun v hv => let ⟨h, hh, a⟩ := T.heads v hv; ⟨h, hh, a.kp k⟩, T.hlen, k.tup _ _ T.nk⟩
theorem TC.new (T : TC d l b fl nt z c vs hs ns H) {p : Addr} {o : HO} (n : H p = none) : TC d l b fl nt z c vs hs ns (upd H p o) := T.kp0 (.new n)
theorem TC.ne (T : TC d l b fl nt z c vs hs ns H) {p : Addr} (n : H p = none) : p ≠ d ∧ p ≠ l ∧ p ≠ b ∧ p ≠ fl := by
  obtain ⟨m, k, ns, h1, h2, _⟩ := T.dk.ex
  exact ⟨(ne_of_none h1 n).symm, (ne_of_none h2 n).symm, (ne_of_none T.bx n).symm, (ne_of_none T.fk n).symm⟩
theorem TC.left (T : TC d l b fl nt z c vs hs ns H) (y : Int) : TC d l b fl nt y c vs hs ns (upd H b (.dK (boxD fl nt y c))) ∧ Kp [d, l, b] H (upd H b (.dK (boxD fl nt y c))) := by
  have k : Kp [b] H (upd H b (.dK (boxD fl nt y c))) := .put (by simp) T.bx (fun xs z => by cases z)
  exact ⟨⟨T.dk.kp k (by simp [T.bd.symm]) (by simp [T.bl.symm]), upd_same, k.at_ _ _ T.fk (by simp [T.fb]), T.nfl, fun v hv => let ⟨h, hh, a⟩ := T.heads v hv; ⟨h, hh, a.kp k⟩, T.hlen, k.tup _ _ T.nk⟩, k.more (by simp)⟩
end
end Ey
set_option maxHeartbeats 4000000
namespace Ey
open PySem PySem.Spec L2
/-! ### what is told of a drawn term -/
def tr (k : Str) : Nat := if k = kTruth then 1 else 0
theorem tr_le (k : Str) : tr k ≤ 1 := by
  unfold tr
  split <;> decide
theorem tr_t : tr kTruth = 1 := if_pos rfl
theorem tr_p : tr kPlace = 0 := if_neg (by decide +kernel)
theorem dep_all {n : Nat} : ∀ {ds : List PyData}, (∀ x ∈ ds, x.depth ≤ n) → PyData.depthAll ds ≤ n
  | [], _ => Nat.zero_le _
  | y :: r, h => by
    have h1 := h y (by simp)
    have h2 := dep_all fun x hx => h x (List.mem_cons_of_mem _ hx)
    show max y.depth (PyData.depthAll r) ≤ n
    omega
structure TermOk (ns : List Str) (fs : List Fn) (k : Str) (m : Nat) (z z' : Int) (t : PyData) : Prop where
  wk : WK ns fs k t
  d : t.depth ≤ m + 1
  w : (wd t : Int) ≤ 280 * (z - z')
  lo : z' ≤ z - 1
  hi : z - 1 - (tr k : Int) ≤ z' ∨ (2 ≤ z ∧ 3 - 4 * z ≤ z')
section
variable {ns : List Str} {fs : List Fn} {k k1 k2 k3 w : Str} {m m1 m2 m3 : Nat} {z z' z1 z2 z3 : Int} {t t1 t2 t3 : PyData}
theorem TermOk.leaf {ds : List PyData} (wk : WK ns fs k (.tuple ds)) (hd : PyData.depthAll ds ≤ m) (hw : wdAll ds ≤ 270) : TermOk ns fs k m z (z - 1) (.tuple ds) := by
  refine ⟨wk, Nat.succ_le_succ hd, ?_, by omega, .inl (by omega)⟩
  show ((wdAll ds + 3 : Nat) : Int) ≤ _
  omega
theorem TermOk.one (o : TermOk ns fs k1 m1 (z - 1) z' t) (hm : m1 < m) (ew : wd (.str w) ≤ 100) (wk : WK ns fs k (.tuple [.str w, t])) (hg : 2 ≤ z ∨ (tr k1 = 0 ∧ tr k = 1)) : TermOk ns fs k m z z' (.tuple [.str w, t]) := by
  have h1 := o.d
  have h2 := o.w
  have h3 := o.lo
  have h4 := o.hi
  have h5 := tr_le k1
  refine ⟨wk, ?_, ?_, by omega, ?_⟩
  · show max 0 (max t.depth 0) + 1 ≤ _
    omega
  · show ((wd (.str w) + 2 + (wd t + 2 + 0) + 3 : Nat) : Int) ≤ _
    omega
  · omega
theorem TermOk.has1 {g : Str} (o : TermOk ns fs kPlace m1 (z - 1) z' t) (hm : m1 < m) (eg : wd (.str g) ≤ 82) (wk : WK ns fs kTruth (.tuple [.str kHas, t, .str g])) : TermOk ns fs kTruth m z z' (.tuple [.str kHas, t, .str g]) := by
  have h1 := o.d
  have h2 := o.w
  have h3 := o.lo
  have h4 := o.hi
  have h5 := tr_p
  have h6 := tr_t
  have e4 : wd (.str kHas) = 32 := by decide +kernel
  refine ⟨wk, ?_, ?_, by omega, ?_⟩
  · show max 0 (max t.depth (max 0 0)) + 1 ≤ _
    omega
  · show ((wd (.str kHas) + 2 + (wd t + 2 + (wd (.str g) + 2 + 0)) + 3 : Nat) : Int) ≤ _
    omega
  · omega
theorem TermOk.two (o1 : TermOk ns fs k1 m1 (z - 1) z1 t1) (o2 : TermOk ns fs k2 m2 z1 z2 t2) (h1 : m1 < m) (h2 : m2 < m) (ew : wd (.str w) ≤ 100) (wk : WK ns fs k (.tuple [.str w, t1, t2])) (hg : 2 ≤ z) : TermOk ns fs k m z z2 (.tuple [.str w, t1, t2]) := by
  have a1 := o1.d
  have a2 := o1.w
  have a3 := o1.lo
  have a4 := o1.hi
  have a5 := tr_le k1
  have b1 := o2.d
  have b2 := o2.w
  have b3 := o2.lo
  have b4 := o2.hi
  have b5 := tr_le k2
  refine ⟨wk, ?_, ?_, by omega, ?_⟩
  · show max 0 (max t1.depth (max t2.depth 0)) + 1 ≤ _
    omega
  · show ((wd (.str w) + 2 + (wd t1 + 2 + (wd t2 + 2 + 0)) + 3 : Nat) : Int) ≤ _
    omega
  · omega
theorem TermOk.three (o1 : TermOk ns fs k1 m1 (z - 1) z1 t1) (o2 : TermOk ns fs k2 m2 z1 z2 t2) (o3 : TermOk ns fs k3 m3 z2 z3 t3) (h1 : m1 < m) (h2 : m2 < m) (h3 : m3 < m) (ew : wd (.str w) ≤ 100) (wk : WK ns fs k (.tuple [.str w, t1, t2, t3])) (hg : 2 ≤ z) : TermOk ns fs k m z z3 (.tuple [.str w, t1, t2, t3]) := by
  have a1 := o1.d
  have a2 := o1.w
  have a3 := o1.lo
  have a4 := o1.hi
  have a5 := tr_le k1
  have b1 := o2.d
  have b2 := o2.w
  have b3 := o2.lo
  have b4 := o2.hi
  have b5 := tr_le k2
  have c1 := o3.d
  have c2 := o3.w
  have c3 := o3.lo
  have c4 := o3.hi
  have c5 := tr_le k3
  refine ⟨wk, ?_, ?_, by omega, ?_⟩
  · show max 0 (max t1.depth (max t2.depth (max t3.depth 0))) + 1 ≤ _
    omega
  · show ((wd (.str w) + 2 + (wd t1 + 2 + (wd t2 + 2 + (wd t3 + 2 + 0))) + 3 : Nat) : Int) ≤ _
    omega
  · omega
/-- terms drawn one after another, beneath a call -/
structure SeqOk (ns : List Str) (fs : List Fn) (m : Nat) (z z' : Int) (ts : List PyData) : Prop where
  wk : ∀ t ∈ ts, WK ns fs kPlace t ∧ t.depth ≤ m + 1
  w : (wdAll ts : Int) ≤ 280 * (z - z') + 2 * ts.length
  lo : z' ≤ z - ts.length
  hi : z - ts.length ≤ z' ∨ (2 ≤ z ∧ 3 - 4 * z - ts.length ≤ z')
theorem SeqOk.nil : SeqOk ns fs m z z [] := ⟨by simp, by show ((0 : Nat) : Int) ≤ _; simp, by simp, .inl (by simp)⟩
theorem wd_app (b : List PyData) : ∀ a : List PyData, wdAll (a ++ b) = wdAll a + wdAll b
  | [] => (Nat.zero_add _).symm
  | x :: r => by
    show wd x + 2 + wdAll (r ++ b) = wd x + 2 + wdAll r + wdAll b
    rw [wd_app b r]
    omega
theorem SeqOk.snoc {ts : List PyData} (s : SeqOk ns fs m z z1 ts) (o : TermOk ns fs kPlace m z1 z2 t) : SeqOk ns fs m z z2 (ts ++ [t]) := by
  have a2 := s.w
  have a3 := s.lo
  have a4 := s.hi
  have b2 := o.w
  have b3 := o.lo
  have b4 := o.hi
  have e := tr_p
  have l : (ts ++ [t]).length = ts.length + 1 := by rw [List.length_append]; rfl
  refine ⟨fun x hx => ?_, ?_, by omega, by omega⟩
  · rcases List.mem_append.mp hx with hx | hx
    · exact s.wk x hx
    · rw [List.mem_singleton.mp hx]
      exact ⟨o.wk, o.d⟩
  · rw [wd_app, l]
    show ((wdAll ts + (wd t + 2 + 0) : Nat) : Int) ≤ _
    omega
theorem TermOk.call1 {g : Str} {ts : List PyData} (s : SeqOk ns fs m1 (z - 1) z' ts) (hl : ts.length ≤ 2) (hm : m1 + 2 ≤ m) (eg : wd (.str g) ≤ 100) (wk : WK ns fs k (.tuple [.str kCall, .str g, .tuple ts])) (hg : 2 ≤ z) : TermOk ns fs k m z z' (.tuple [.str kCall, .str g, .tuple ts]) := by
  have h2 := s.w
  have h3 := s.lo
  have h4 := s.hi
  have dts := dep_all fun t ht => (s.wk t ht).2
  have e4 : wd (.str kCall) = 42 := by decide +kernel
  refine ⟨wk, ?_, ?_, by omega, by omega⟩
  · show max 0 (max 0 (max (PyData.depthAll ts + 1) 0)) + 1 ≤ _
    omega
  · show ((wd (.str kCall) + 2 + (wd (.str g) + 2 + (wdAll ts + 3 + 2 + 0)) + 3 : Nat) : Int) ≤ _
    omega
end
end Ey
set_option maxHeartbeats 4000000
namespace Ey
open PySem PySem.Spec L2
def ib : Stmt → List Stmt
  | .If _ b _ _ => b
  | _ => []
def noSt : Stmt := .Pass ⟨0, 0, 0, 0⟩
/-! ### a drawn term -/
abbrev sDTerm : Stmt := topS 55
structure LG (K : PySem.W.Frag) (mg : Str → Option Value) (A : Nat → Addr) (D : Nat → FuncData) : Prop extends LF K mg A D where
  draw : Df K mg "_law_draw" sDraw ["_law_deck_here", "_law_many"] (A 53) (D 53)
  pick : Df K mg "_law_pick" sPick ["_law_deck_here", "_law_some"] (A 54) (D 54)
  dterm : Df K mg "_law_drawn_term" sDTerm ["_law_deck_here", "_law_world", "_law_kind", "_law_deep"] (A 55) (D 55)
abbrev PDt : List Str := ["_law_deck_here", "_law_world", "_law_kind", "_law_deep"]
def mea (k : Str) (deep : Nat) : Nat := 2 * deep + tr k
def AnT (H : Hp) (v : V) (t : PyData) : Prop := ∀ ms, An ms H v t
def AnTs (H : Hp) (vs : List V) (ts : List PyData) : Prop := ∀ ms, AnAll ms H vs ts
theorem AnT.kp {ms : List Addr} {H H1 : Hp} {v : V} {t : PyData} (h : AnT H v t) (k : Kp ms H H1) : AnT H1 v t := fun m => ((h (ms ++ m)).kp k (fun x hx => List.mem_append_left _ hx) t).mono (fun x hx => List.mem_append_right _ hx) t
theorem AnTs.kp {ms : List Addr} {H H1 : Hp} {vs : List V} {ts : List PyData} (h : AnTs H vs ts) (k : Kp ms H H1) : AnTs H1 vs ts := fun m => ((h (ms ++ m)).kp k (fun x hx => List.mem_append_left _ hx) ts).mono (fun x hx => List.mem_append_right _ hx) ts
theorem name_w {g : Str} (h : isName g = true) : wd (.str g) ≤ 202 := by
  unfold isName at h
  simp only [Bool.and_eq_true, decide_eq_true_eq] at h
  show 10 * g.length + 2 ≤ 202
  omega
def spTerm (n : Nat) : Sp := fun vs H Q _ => ∃ (d l b fl nt : Addr) (z : Int) (c : Bool) (ws : List V) (hs : List Hd) (ns : List Str) (kd : Str) (deep : Nat), vs = [.ref d, .ref b, .str kd, .int (deep : Int)] ∧ (kd = kPlace ∨ kd = kTruth) ∧ mea kd deep < n ∧ TC d l b fl nt z c ws hs ns H ∧
  (∀ g ∈ ns, isName g = true) ∧ ns.length ≤ 10 ∧ (∀ h ∈ hs, isName h.nm = true ∧ h.nm.length ≤ 6 ∧ h.many ≤ 2) ∧ (hs.map (·.nm)).Nodup ∧
  ∀ (v : V) (t : PyData) (z' : Int) (H' : Hp), AnT H' v t → TermOk ns (hs.map hdF) kd (mea kd deep) z z' t → TC d l b fl nt z' c ws hs ns H' → Kp [d, l, b] H H' → Q v H'
section
variable {Pr : Program} {w : World} {K : PySem.W.Frag} {mg : Str → Option Value} {base : Heap} {A : Nat → Addr} {D : Nat → FuncData}
abbrev NDt : List Str := ["_law_deck_here", "_law_world", "_law_kind", "_law_deep", "_law_way", "_law_test", "_law_some", "_law_name", "_law_of", "_law_many", "_law_t", "_law_it", "_law_k"]
theorem scDTerm : FnScope NDt ["_law_deck_here", "_law_world", "_law_kind", "_law_deep"] (defScope sDTerm) := ⟨rfl, rfl, rfl, by decide +kernel, rfl, by decide +kernel, by decide +kernel⟩

theorem ok_dterm (L : LG K mg A D) : ∀ n : Nat, FnOk Pr w K mg base CX0 (n + 3) (A 55) (D 55) PDt (spTerm n)
  | 0 => by
    refine L.dterm.F.ok scDTerm (fun vs H Q E h => ?_) (fun cdv Ar outer s H vs Q E hr h => ?_)
    · obtain ⟨d, l, b, fl, nt, z, c, ws, hs, ns, kd, deep, rfl, _⟩ := h
      rfl
    · obtain ⟨d, l, b, fl, nt, z, c, ws, hs, ns, kd, deep, rfl, hk, hd, _⟩ := h
      exact absurd hd (Nat.not_lt_zero _)
  | n + 1 => by
    have ih := ok_dterm L n
    have B := L.B
    refine L.dterm.F.ok scDTerm (fun vs H Q E h => ?_) (fun cdv Ar outer s H vs Q E hr h => ?_)
    · obtain ⟨d, l, b, fl, nt, z, c, ws, hs, ns, kd, deep, rfl, _⟩ := h
      rfl
    · obtain ⟨d, l, b, fl, nt, z, c, ws, hs, ns, kd, deep, rfl, hk, hd, T0, hns, hnl, hhs, hnd, k⟩ := h
      have hu := hu_of hr
      have hr2 := hr.mono (show 2 ≤ n + 3 by omega)
      have hr1 := hr.mono (show 1 ≤ n + 3 by omega)
      have self : ∀ (z1 : Int) (H1 : Hp) (kd1 : Str) (dp : Nat) (i : Int) (Q1 : VK), i = (dp : Int) → (kd1 = kPlace ∨ kd1 = kTruth) → mea kd1 dp < mea kd deep → TC d l b fl nt z1 c ws hs ns H1 →
          (∀ (v : V) (t : PyData) (z2 : Int) (H2 : Hp), AnT H2 v t → TermOk ns (hs.map hdF) kd1 (mea kd1 dp) z1 z2 t → TC d l b fl nt z2 c ws hs ns H2 → Kp [d, l, b] H1 H2 → Q1 v H2) →
          spTerm n [.ref d, .ref b, .str kd1, .int i] H1 Q1 E0 := fun z1 H1 kd1 dp i Q1 ei h1 h2 T1 q =>
        ⟨d, l, b, fl, nt, z1, c, ws, hs, ns, kd1, dp, by rw [ei], h1, by omega, T1, hns, hnl, hhs, hnd, q⟩
      have fin : ∀ (z' : Int) (H4 : Hp) (xs : List V) (ds : List PyData) (q : Addr), TC d l b fl nt z' c ws hs ns H4 → Kp [d, l, b] H H4 → AnTs H4 xs ds → H4 q = none → TermOk ns (hs.map hdF) kd (mea kd deep) z z' (.tuple ds) → Q (.ref q) (upd H4 q (.tup xs)) := fun z' H4 xs ds q T4 k4 ax nq o =>
        k _ (.tuple ds) z' _ (fun ms => .tup upd_same (ax.kp (Kp.new (ms := []) nq) ms)) o (T4.new nq) (k4.trans (.new nq))
      have mt := tr_t
      have mp := tr_p
      -- two ways, or a choice
      obtain ⟨tB, dB, rB⟩ : ∃ tt, PSs (cxOf CX0 Pr w K mg base NDt "_law_drawn_term" (defScope sDTerm) (A 55) cdv Ar outer s H E).nox (ib ((defBody sDTerm).getD 2 noSt)) tt ∧
          ∀ (De : Ends) (H3 : Hp) (wy : Int) (x5 x6 x7 x8 x9 x10 x11 x12 : Option V), De.rt = Q → 1 ≤ deep → 2 ≤ z → TC d l b fl nt (z - 1) c ws hs ns H3 → Kp [d, l, b] H H3 → tt De [some (.ref d), some (.ref b), some (.str kd), some (.int deep), some (.int wy), x5, x6, x7, x8, x9, x10, x11, x12] H3 := by
        refine ⟨_, (pss_cons (ps_if (pt_cmpR op_eq (pv 4) pe_int (nomark _)) (pss_one (ps_ret (pe_tup (pa_cons pe_str (pa_cons (pe_call (ih) hr (by rfl) L.dterm.g L.dterm.F.kp L.dterm.b .nil pass0 (pa_cons (pv 0) (pa_cons (pv 1) (pa_cons (pv 2) (pa_cons (pe_op op_sub (pv 3) pe_int) pa_nil))))) (pa_cons (pe_call (ih) hr (by rfl) L.dterm.g L.dterm.F.kp L.dterm.b .nil pass0 (pa_cons (pv 0) (pa_cons (pv 1) (pa_cons (pv 2) (pa_cons (pe_op op_sub (pv 3) pe_int) pa_nil))))) pa_nil)))))) pss_nil) (pss_cons (ps_set (i := 5) scDTerm.nd rfl (.inl rfl) (pe_call (ih) hr (by rfl) L.dterm.g L.dterm.F.kp L.dterm.b .nil pass0 (pa_cons (pv 0) (pa_cons (pv 1) (pa_cons pe_str (pa_cons (pe_op op_sub (pv 3) pe_int) pa_nil)))))) (pss_one (ps_ret (pe_tup (pa_cons pe_str (pa_cons (pv 5) (pa_cons (pe_call (ih) hr (by rfl) L.dterm.g L.dterm.F.kp L.dterm.b .nil pass0 (pa_cons (pv 0) (pa_cons (pv 1) (pa_cons (pv 2) (pa_cons (pe_op op_sub (pv 3) pe_int) pa_nil))))) (pa_cons (pe_call (ih) hr (by rfl) L.dterm.g L.dterm.F.kp L.dterm.b .nil pass0 (pa_cons (pv 0) (pa_cons (pv 1) (pa_cons (pv 2) (pa_cons (pe_op op_sub (pv 3) pe_int) pa_nil))))) pa_nil))))))))), ?_⟩
        intro De H3 wy x5 x6 x7 x8 x9 x10 x11 x12 eD hd1 hz T3 k3
        subst eD
        have hm1 : mea kd (deep - 1) < mea kd deep := by unfold mea; omega
        have hm2 : mea kTruth (deep - 1) < mea kd deep := by unfold mea; omega
        have hc : (deep : Int) - 1 = ((deep - 1 : Nat) : Int) := by omega
        refine ⟨_, rfl, rfl, _, rfl, ite2 (fun _ => ?_) (fun _ => ?_)⟩
        · refine ⟨_, rfl, _, rfl, _, rfl, _, rfl, _, _, rfl, rfl, self (z - 1) H3 kd _ _ _ hc hk hm1 T3 fun v1 t1 z2 H4 a1 o1 T4 k4 => ?_⟩
          refine ⟨_, rfl, _, rfl, _, rfl, _, rfl, _, _, rfl, rfl, self z2 H4 kd _ _ _ hc hk hm1 T4 fun v2 t2 z3 H5 a2 o2 T5 k5 => ⟨by show 3 ≤ sizeLine; decide, fun q nq => ?_⟩⟩
          exact fin z3 H5 _ [.str kEither, t1, t2] q T5 ((k3.trans k4).trans k5) (fun m => .cons (.str _) (.cons (a1.kp k5 m) (.cons (a2 m) .nil))) nq (o1.two o2 hm1 hm1 (by decide +kernel) (WK.either o1.wk o2.wk) hz)
        · refine ⟨_, rfl, _, rfl, _, rfl, _, _, rfl, rfl, self (z - 1) H3 kTruth _ _ _ hc (.inr rfl) hm2 T3 fun v1 t1 z2 H4 a1 o1 T4 k4 => ?_⟩
          refine ⟨_, rfl, _, rfl, _, rfl, _, rfl, _, rfl, _, _, rfl, rfl, self z2 H4 kd _ _ _ hc hk hm1 T4 fun v2 t2 z3 H5 a2 o2 T5 k5 => ?_⟩
          refine ⟨_, rfl, _, rfl, _, rfl, _, rfl, _, _, rfl, rfl, self z3 H5 kd _ _ _ hc hk hm1 T5 fun v3 t3 z4 H6 a3 o3 T6 k6 => ⟨by show 4 ≤ sizeLine; decide, fun q nq => ?_⟩⟩
          exact fin z4 H6 _ [.str kIf, t1, t2, t3] q T6 (((k3.trans k4).trans k5).trans k6) (fun m => .cons (.str _) (.cons ((a1.kp k5).kp k6 m) (.cons (a2.kp k6 m) (.cons (a3 m) .nil)))) nq (o1.three o2 o3 hm2 hm1 hm1 (by decide +kernel) (WK.ifT o1.wk o2.wk o3.wk) hz)
      -- a place
      obtain ⟨tP, dP, rP⟩ : ∃ tt, PSs (cxOf CX0 Pr w K mg base NDt "_law_drawn_term" (defScope sDTerm) (A 55) cdv Ar outer s H E).nox (ib ((defBody sDTerm).getD 5 noSt)) tt ∧
          ∀ (De : Ends) (H3 : Hp) (wy : Int) (x5 x6 x7 x8 x9 x10 x11 x12 : Option V), De.rt = Q → kd = kPlace → (wy < 9 → 1 ≤ deep ∧ 2 ≤ z) → TC d l b fl nt (z - 1) c ws hs ns H3 → Kp [d, l, b] H H3 → tt De [some (.ref d), some (.ref b), some (.str kd), some (.int deep), some (.int wy), x5, x6, x7, x8, x9, x10, x11, x12] H3 := by
        refine ⟨_, (pss_cons (ps_if (pt_cmpR op_lt (pv 4) pe_int (nomark _)) (pss_one (ps_ret (pe_tup (pa_cons (pe_call (ok_pick L.pick.F B L.draw) hr2 (by rfl) L.pick.g L.pick.F.kp L.pick.b .nil pass0 (pa_cons (pv 0) (pa_cons (pe_lst (pa_cons pe_str (pa_cons pe_str (pa_cons pe_str (pa_cons pe_str (pa_cons pe_str pa_nil)))))) pa_nil))) (pa_cons (pe_call (ih) hr (by rfl) L.dterm.g L.dterm.F.kp L.dterm.b .nil pass0 (pa_cons (pv 0) (pa_cons (pv 1) (pa_cons pe_str (pa_cons (pe_op op_sub (pv 3) pe_int) pa_nil))))) pa_nil))))) pss_nil) (pss_one (ps_ret (pe_ifExp (PW.pt (pw_and (pt_cmpR (op_neE hr.units) (pe_dget hu (pv 1) pe_str (fun _ _ => rfl)) (pe_tup pa_nil) (nomark _)) (pw_and1 (pt_cmpR op_gt (pe_call (ok_draw L.draw.F B) hr1 (by rfl) L.draw.g L.draw.F.kp L.draw.b .nil pass0 (pa_cons (pv 0) (pa_cons pe_int pa_nil))) pe_int (nomark _))))) (pe_tup (pa_cons pe_str (pa_cons (pe_call (ok_pick L.pick.F B L.draw) hr2 (by rfl) L.pick.g L.pick.F.kp L.pick.b .nil pass0 (pa_cons (pv 0) (pa_cons (pe_callTy call_list_of (by rfl) B.list (by decide +kernel) (pa_cons (pe_dget hu (pv 1) pe_str (fun _ _ => rfl)) pa_nil)) pa_nil))) pa_nil))) (pe_tup (pa_cons pe_str pa_nil)))))), ?_⟩
        intro De H3 wy x5 x6 x7 x8 x9 x10 x11 x12 eD ek hg T3 k3
        subst eD
        have hkd : tr kd = 0 := by rw [ek]; exact mp
        refine ⟨_, rfl, _, _, rfl, rfl, _, rfl, ite2 (fun q0 => ?_) (fun _ => ?_)⟩
        · obtain ⟨hd1, hz⟩ := hg (of_decide_eq_true q0)
          have hm2 : mea kPlace (deep - 1) < mea kd deep := by unfold mea; omega
          have hc : (deep : Int) - 1 = ((deep - 1 : Nat) : Int) := by omega
          refine ⟨_, rfl, by show 5 ≤ sizeLine; decide, fun p np => ?_⟩
          have T4 := T3.new (o := .lst [.str "left", .str "right", .str "up", .str "left", .str "right"]) np
          have n4 := T3.ne np
          refine ⟨d, l, p, _, rfl, T4.dk, sql_of upd_same, by simp, by show 5 ≤ 1000000; decide, n4.1, n4.2.1, fun x H5 hx D5 k5 => ?_⟩
          obtain ⟨g, hgm, rfl⟩ : ∃ g : Str, g ∈ (["left", "right", "up"] : List Str) ∧ x = V.str g := by
            simp only [List.mem_cons, List.not_mem_nil, or_false] at hx
            rcases hx with rfl | rfl | rfl | rfl | rfl
            · exact ⟨"left", by simp, rfl⟩
            · exact ⟨"right", by simp, rfl⟩
            · exact ⟨"up", by simp, rfl⟩
            · exact ⟨"left", by simp, rfl⟩
            · exact ⟨"right", by simp, rfl⟩
          obtain ⟨ea, ew⟩ := (by decide +kernel : ∀ g ∈ (["left", "right", "up"] : List Str), (g, kPlace, 1) ∈ plainT ∧ wd (.str g) ≤ 100) g hgm
          have T5 := T4.go k5 D5
          have k5' : Kp [d, l, b] H H5 := k3.trans ((Kp.new np).trans (k5.more (by simp)))
          refine ⟨_, rfl, _, rfl, _, rfl, _, _, rfl, rfl, self (z - 1) H5 kPlace _ _ _ hc (.inl rfl) hm2 T5 fun v1 t1 z2 H6 a1 o1 T6 k6 => ⟨by show 2 ≤ sizeLine; decide, fun q nq => ?_⟩⟩
          exact fin z2 H6 _ [.str g, t1] q T6 (k5'.trans k6) (fun m => .cons (.str _) (.cons (a1 m) .nil)) nq (o1.one hm2 ew (by rw [ek]; exact WK.pl ea rfl (by simpa using o1.wk)) (.inl hz))
        · have top : ∀ H5 : Hp, TC d l b fl nt (z - 1) c ws hs ns H5 → Kp [d, l, b] H H5 → ∀ q, H5 q = none → De.rt (.ref q) (upd H5 q (.tup [.str "top"])) := fun H5 T5 k5 q nq =>
            fin (z - 1) H5 _ [.str "top"] q T5 k5 (fun _ => .cons (.str _) .nil) nq (.leaf (by rw [ek]; exact WK.pl (n := 0) (by decide +kernel) rfl (by simp)) (Nat.zero_le _) (by decide +kernel))
          refine ⟨_, rfl, b, _, rfl, get_bnames T3.bx, Nat.zero_le _, fun p np => ?_⟩
          have kp : Kp [] H3 (upd H3 p (.tup [])) := .new np
          have T4 := T3.new (o := .tup []) np
          have ep : (upd H3 p (.tup [])) p = some (.tup []) := upd_same
          have k4 : Kp [d, l, b] H (upd H3 p (.tup [])) := k3.trans (.new np)
          generalize upd H3 p (.tup []) = H4 at T4 ep k4
          refine ⟨nt, p, _, rfl, rfl, T4.nk, ep, _, rfl, ?_⟩
          cases hne : (ns.map V.str).isEmpty with
          | true =>
            refine iteF (iteF ?_)
            exact ⟨by show 1 ≤ sizeLine; decide, fun q nq => top H4 T4 k4 q nq⟩
          | false =>
            refine iteT ?_
            refine ⟨_, rfl, d, l, 6, rfl, T4.dk, by decide, by decide, fun r H5 r0 r1 D5 k5 => ⟨_, _, rfl, rfl, _, rfl, ite2 (fun _ => ?_) (fun _ => ?_)⟩⟩
            · have T5 := T4.go k5 D5
              have k5' : Kp [d, l, b] H H5 := k4.trans (k5.more (by simp))
              refine ⟨_, rfl, _, rfl, b, _, rfl, get_bnames T5.bx, nt, _, rfl, .inr (sqt_of T5.nk), fun C nC => ?_⟩
              have T6 := T5.new (o := .lst (ns.map V.str)) nC
              have n6 := T5.ne nC
              refine ⟨d, l, C, _, rfl, T6.dk, sql_of upd_same, (by intro z; rw [z] at hne; cases hne), by rw [List.length_map]; omega, n6.1, n6.2.1, fun x H7 hx D7 k7 => ?_⟩
              obtain ⟨g, hg', rfl⟩ := List.mem_map.mp hx
              have hgn := hns g hg'
              have ew := name_w hgn
              refine ⟨by show 2 ≤ sizeLine; decide, fun q nq => ?_⟩
              refine fin (z - 1) H7 _ [.str kName, .str g] q (T6.go k7 D7) (k5'.trans ((Kp.new nC).trans (k7.more (by simp)))) (fun _ => .cons (.str _) (.cons (.str _) .nil)) nq (.leaf (by rw [ek]; exact WK.name hgn hg') (Nat.zero_le _) ?_)
              have e4 : wd (.str kName) = 42 := by decide +kernel
              show wd (.str kName) + 2 + (wd (.str g) + 2 + 0) ≤ 270
              omega
            · have T5 := T4.go k5 D5
              exact ⟨by show 1 ≤ sizeLine; decide, fun q nq => top H5 T5 (k4.trans (k5.more (by simp))) q nq⟩
      -- a call
      obtain ⟨tC, dC, rC⟩ : ∃ tt, PSs (cxOf CX0 Pr w K mg base NDt "_law_drawn_term" (defScope sDTerm) (A 55) cdv Ar outer s H E).nox (ib ((defBody sDTerm).getD 4 noSt)) tt ∧
          ∀ (De : Ends) (H3 : Hp) (C : Addr) (cs : List V) (wy : Int) (x5 x7 x8 x9 x10 x11 x12 : Option V), De.rt = Q → 1 ≤ deep → 2 ≤ z → H3 C = some (.lst cs) → (∀ v ∈ cs, ∃ h ∈ hs, h.kd = kd ∧ HeadV H3 v h) → cs ≠ [] → cs.length ≤ 100 → C ≠ d → C ≠ l → TC d l b fl nt (z - 1) c ws hs ns H3 → Kp [d, l, b] H H3 → tt De [some (.ref d), some (.ref b), some (.str kd), some (.int deep), some (.int wy), x5, some (.ref C), x7, x8, x9, x10, x11, x12] H3 := by
        refine ⟨_, (pss_cons (ps_asg (pe_call (ok_pick L.pick.F B L.draw) hr2 (by rfl) L.pick.g L.pick.F.kp L.pick.b .nil pass0 (pa_cons (pv 0) (pa_cons (pv 6) pa_nil))) (pg_tup (n := 3) (by rfl) (pgs_cons (pg_name (i := 7) scDTerm.nd rfl (.inl rfl)) (pgs_cons (pg_name (i := 8) scDTerm.nd rfl (.inl rfl)) (pgs_cons (pg_name (i := 9) scDTerm.nd rfl (.inl rfl)) pgs_nil))))) (pss_one (ps_ret (pe_tup (pa_cons pe_str (pa_cons (pv 7) (pa_cons (pe_callTy call_tuple_of (by rfl) B.tuple (by decide +kernel) (pa_cons (pe_lc (own := [("_law_k", 12)]) (g := gName 12) (tt := tYes) rfl scDTerm.nd (pi_range1 (by rfl) B.range (pa_cons (pv 9) pa_nil)) (blkOk_by (N := NDt) (sc := defScope sDTerm) (by decide +kernel)) (fun _ _ _ _ _ => pg_name (i := 12) scDTerm.nd rfl (Or.inl rfl)) (fun _ _ _ _ _ => pts_nil) (fun _ _ _ _ _ => (pe_call (ih) hr (by rfl) L.dterm.g L.dterm.F.kp L.dterm.b .nil pass0 (pa_cons (pv 0) (pa_cons (pv 1) (pa_cons pe_str (pa_cons (pe_callB (call_min2 rfl) (by rfl) B.min (by decide +kernel) (pa_cons (pe_op op_sub (pv 3) pe_int) (pa_cons pe_int pa_nil))) pa_nil))))))) pa_nil)) pa_nil))))))), ?_⟩
        intro De H3 C cs wy x5 x7 x8 x9 x10 x11 x12 eD hd1 hz hC hcs hne hcl nCd nCl T3 k3
        subst eD
        refine ⟨_, rfl, _, rfl, d, l, C, cs, rfl, T3.dk, sql_of hC, hne, by omega, nCd, nCl, fun x H4 hx D4 k4 => ?_⟩
        have T4 := T3.go k4 D4
        have k4' : Kp [d, l, b] H H4 := k3.trans (k4.more (by simp))
        obtain ⟨h, hh, hkd, hv⟩ := hcs x hx
        obtain ⟨r, rfl, er⟩ := hv.kp k4
        obtain ⟨hn1, hn2, hn3⟩ := hhs h hh
        refine ⟨r, _, rfl, sqt_of er, rfl, _, _, rfl, _, _, rfl, _, _, rfl, rfl, ?_⟩
        refine ⟨_, rfl, _, rfl, (h.many : Int), rfl, by omega, by omega, ?_⟩
        rw [Int.toNat_natCast]
        intro Dq nD
        have nq4 := T4.ne nD
        have hc : (if (1 : Int) < (deep : Int) - 1 then (1 : Int) else (deep : Int) - 1) = ((min (deep - 1) 1 : Nat) : Int) := by
          split <;> omega
        have hmm : min (deep - 1) 1 ≤ deep - 1 := Nat.min_le_left _ _
        have hm2 : mea kPlace (min (deep - 1) 1) < mea kd deep := by unfold mea; omega
        have hm3 : mea kPlace (min (deep - 1) 1) + 2 ≤ mea kd deep := by unfold mea; omega
        refine lc_range (lo := 0) (n := h.many) (fun i H' => ∃ (acc : List V) (ts : List PyData) (zi : Int), H' Dq = some (.lst acc) ∧ AnTs H' acc ts ∧ ts.length = i ∧ SeqOk ns (hs.map hdF) (mea kPlace (min (deep - 1) 1)) (z - 1) zi ts ∧ TC d l b fl nt zi c ws hs ns H' ∧ Kp [d, l, b] H H')
          ⟨[], [], z - 1, upd_same, fun _ => .nil, rfl, .nil, T4.new nD, k4'.trans (.new nD)⟩ ?_ ?_
        · rintro i H5 hi ⟨acc, ts, zi, hD, hA, hl, hs5, T5, k5⟩
          refine ⟨rfl, _, rfl, _, rfl, _, rfl, _, _, rfl, rfl, _, _, rfl, self zi H5 kPlace _ _ _ hc (.inl rfl) hm2 T5 fun v t z2 H6 a o T6 k6 => ?_⟩
          have hD6 : H6 Dq = some (.lst acc) := k6.at_ _ _ hD (by simp [nq4])
          have la := (hA []).length
          have kD : Kp [Dq] H6 (upd H6 Dq (.lst (acc ++ [v]))) := .put (by simp) hD6 (fun _ z => by cases z)
          refine ⟨acc, hD6, Nat.lt_of_le_of_lt (show acc.length ≤ 3 by omega) (by decide), acc ++ [v], ts ++ [t], z2, upd_same, fun ms => ((hA.kp k6).kp kD ms).append (.cons ((a.kp kD) ms) .nil), by rw [List.length_append, hl]; rfl, hs5.snoc o, ?_, (k5.trans k6).own ?_⟩
          · exact ⟨T6.dk.kp kD (by simp [nq4.1.symm]) (by simp [nq4.2.1.symm]), kD.at_ _ _ T6.bx (by simp [nq4.2.2.1.symm]), kD.at_ _ _ T6.fk (by simp [nq4.2.2.2.symm]), T6.nfl, fun v hv => let ⟨h, hh, a⟩ := T6.heads v hv; ⟨h, hh, a.kp kD⟩, T6.hlen, kD.tup _ _ T6.nk⟩
          · exact k4'.free nD (by simp [nq4])
        · rintro H5 ⟨acc, ts, zi, hD, hA, hl, hs5, T5, k5⟩
          refine ⟨Dq, _, rfl, .inl ⟨sql_of hD, fun q nq => ⟨by show 3 ≤ sizeLine; decide, fun q2 nq2 => ?_⟩⟩⟩
          have kq : Kp [] H5 (upd H5 q (.tup acc)) := .new nq
          have eg : wd (.str h.nm) ≤ 100 := by
            show 10 * h.nm.length + 2 ≤ 100
            omega
          refine fin zi _ _ [.str kCall, .str h.nm, .tuple ts] q2 (T5.new nq) (k5.trans (.new nq)) (fun ms => .cons (.str _) (.cons (.str _) (.cons (.tup upd_same ((hA.kp kq) ms)) .nil))) nq2 (.call1 hs5 (by omega) hm3 eg ?_ hz)
          rw [← hkd]
          exact WK.callH hnd hh hn1 hl fun t ht => (hs5.wk t ht).1
      -- a truth, its last two ways
      obtain ⟨tR, dR, rR⟩ : ∃ tt, PSs (cxOf CX0 Pr w K mg base NDt "_law_drawn_term" (defScope sDTerm) (A 55) cdv Ar outer s H E).nox ((ib ((defBody sDTerm).getD 9 noSt)).drop 1) tt ∧
          ∀ (De : Ends) (H3 : Hp) (v1 : V) (t1 : PyData) (m1 : Nat) (z2 : Int) (x4 x5 x6 x7 x8 x9 x11 x12 : Option V), De.rt = Q → kd = kTruth → m1 < mea kd deep → AnT H3 v1 t1 → TermOk ns (hs.map hdF) kPlace m1 (z - 1) z2 t1 → TC d l b fl nt z2 c ws hs ns H3 → Kp [d, l, b] H H3 → tt De [some (.ref d), some (.ref b), some (.str kd), some (.int deep), x4, x5, x6, x7, x8, x9, some v1, x11, x12] H3 := by
        refine ⟨_, (pss_one (ps_ret (pe_ifExp (pt_cmpR op_eq (pe_call (ok_draw L.draw.F B) hr1 (by rfl) L.draw.g L.draw.F.kp L.draw.b .nil pass0 (pa_cons (pv 0) (pa_cons pe_int pa_nil))) pe_int (nomark _)) (pe_tup (pa_cons pe_str (pa_cons (pv 10) pa_nil))) (pe_tup (pa_cons pe_str (pa_cons (pv 10) (pa_cons (pe_call (ok_pick L.pick.F B L.draw) hr2 (by rfl) L.pick.g L.pick.F.kp L.pick.b .nil pass0 (pa_cons (pv 0) (pa_cons (pe_lst (pa_cons pe_str (pa_cons pe_str (pa_cons pe_str (pa_cons pe_str pa_nil))))) pa_nil))) pa_nil))))))), ?_⟩
        intro De H3 v1 t1 m1 z2 x4 x5 x6 x7 x8 x9 x11 x12 eD ek hm a1 o1 T3 k3
        subst eD
        have hkd : tr kd = 1 := by rw [ek]; exact mt
        refine ⟨_, rfl, d, l, 2, rfl, T3.dk, by decide, by decide, fun r H4 r0 r1 D4 k4 => ?_⟩
        have T4 := T3.go k4 D4
        have k4' : Kp [d, l, b] H H4 := k3.trans (k4.more (by simp))
        refine ⟨rfl, _, rfl, ite2 (fun _ => ?_) (fun _ => ?_)⟩
        · refine ⟨_, rfl, by show 2 ≤ sizeLine; decide, fun q nq => ?_⟩
          exact fin z2 H4 _ [.str "empty", t1] q T4 k4' (fun m => .cons (.str _) (.cons (a1.kp k4 m) .nil)) nq (o1.one hm (by decide +kernel) (by rw [ek]; exact WK.pl (n := 1) (by decide +kernel) rfl (by simpa using o1.wk)) (.inr ⟨mp, hkd⟩))
        · refine ⟨_, rfl, _, rfl, by show 4 ≤ sizeLine; decide, fun p np => ?_⟩
          have T5 := T4.new (o := .lst [.str "a", .str "b", .str "ab", .str "c"]) np
          have n5 := T4.ne np
          refine ⟨d, l, p, _, rfl, T5.dk, sql_of upd_same, by simp, by show 4 ≤ 1000000; decide, n5.1, n5.2.1, fun x H6 hx D6 k6 => ?_⟩
          obtain ⟨g, hgm, rfl⟩ : ∃ g : Str, g ∈ (["a", "b", "ab", "c"] : List Str) ∧ x = V.str g := by
            simp only [List.mem_cons, List.not_mem_nil, or_false] at hx
            rcases hx with rfl | rfl | rfl | rfl
            · exact ⟨"a", by simp, rfl⟩
            · exact ⟨"b", by simp, rfl⟩
            · exact ⟨"ab", by simp, rfl⟩
            · exact ⟨"c", by simp, rfl⟩
          obtain ⟨ea, ew⟩ := (by decide +kernel : ∀ g ∈ (["a", "b", "ab", "c"] : List Str), isTag g = true ∧ wd (.str g) ≤ 82) g hgm
          have k46 : Kp [d, l, b] H4 H6 := (Kp.new np).trans (k6.more (by simp))
          refine ⟨by show 3 ≤ sizeLine; decide, fun q nq => ?_⟩
          refine fin z2 H6 _ [.str kHas, t1, .str g] q (T5.go k6 D6) (k4'.trans k46) (fun m => .cons (.str _) (.cons ((a1.kp k4).kp k46 m) (.cons (.str _) .nil))) nq ?_
          rw [ek] at hm ⊢
          exact o1.has1 hm ew (WK.has ea o1.wk)
      obtain ⟨tM, dM, rM⟩ : ∃ tt, PSs (cxOf CX0 Pr w K mg base NDt "_law_drawn_term" (defScope sDTerm) (A 55) cdv Ar outer s H E).nox (ib ((defBody sDTerm).getD 9 noSt)) tt ∧
          ∀ (De : Ends) (H3 : Hp) (wy : Int) (x5 x6 x7 x8 x9 x10 x11 x12 : Option V), De.rt = Q → kd = kTruth → TC d l b fl nt (z - 1) c ws hs ns H3 → Kp [d, l, b] H H3 → tt De [some (.ref d), some (.ref b), some (.str kd), some (.int deep), some (.int wy), x5, x6, x7, x8, x9, x10, x11, x12] H3 := by
        refine ⟨_, (pss_cons (ps_set (i := 10) scDTerm.nd rfl (.inl rfl) (pe_call (ih) hr (by rfl) L.dterm.g L.dterm.F.kp L.dterm.b .nil pass0 (pa_cons (pv 0) (pa_cons (pv 1) (pa_cons pe_str (pa_cons (pe_ifExp (pt_cmpR op_gt (pv 3) pe_int (nomark _)) (pe_callB (call_min2 rfl) (by rfl) B.min (by decide +kernel) (pa_cons (pe_op op_sub (pv 3) pe_int) (pa_cons pe_int pa_nil))) pe_int) pa_nil)))))) dR), ?_⟩
        intro De H3 wy x5 x6 x7 x8 x9 x10 x11 x12 eD ek T3 k3
        have hkd : tr kd = 1 := by rw [ek]; exact mt
        refine ⟨_, rfl, _, rfl, _, rfl, _, _, rfl, rfl, _, rfl, ite2 (fun q0 => ?_) (fun _ => ?_)⟩
        · have hd1 : 0 < (deep : Int) := of_decide_eq_true q0
          have hc : (if (1 : Int) < (deep : Int) - 1 then (1 : Int) else (deep : Int) - 1) = ((min (deep - 1) 1 : Nat) : Int) := by
            split <;> omega
          have hmm : min (deep - 1) 1 ≤ deep - 1 := Nat.min_le_left _ _
          have hm2 : mea kPlace (min (deep - 1) 1) < mea kd deep := by unfold mea; omega
          exact ⟨_, rfl, _, _, rfl, rfl, _, _, rfl, self (z - 1) H3 kPlace _ _ _ hc (.inl rfl) hm2 T3 fun v t z2 H6 a o T6 k6 => rR De H6 v t _ z2 _ _ _ _ _ _ _ _ eD ek hm2 a o T6 (k3.trans k6)⟩
        · have hm2 : mea kPlace 0 < mea kd deep := by unfold mea; omega
          exact self (z - 1) H3 kPlace 0 0 _ rfl (.inl rfl) hm2 T3 fun v t z2 H6 a o T6 k6 => rR De H6 v t _ z2 _ _ _ _ _ _ _ _ eD ek hm2 a o T6 (k3.trans k6)
      obtain ⟨tE, dE, rE⟩ : ∃ tt, PSs (cxOf CX0 Pr w K mg base NDt "_law_drawn_term" (defScope sDTerm) (A 55) cdv Ar outer s H E).nox ((defBody sDTerm).drop 6) tt ∧
          ∀ (De : Ends) (H3 : Hp) (wy : Int) (x5 x6 x7 x8 x9 x10 x11 x12 : Option V), De.rt = Q → kd = kTruth → (wy < 12 → 1 ≤ deep ∧ 2 ≤ z) → TC d l b fl nt (z - 1) c ws hs ns H3 → Kp [d, l, b] H H3 → tt De [some (.ref d), some (.ref b), some (.str kd), some (.int deep), some (.int wy), x5, x6, x7, x8, x9, x10, x11, x12] H3 := by
        refine ⟨_, (pss_cons (ps_if (pt_cmpR (r := rIn K false) op_in_seq (pv 4) (pe_tup (pa_cons pe_int (pa_cons pe_int pa_nil))) (by rfl)) (pss_one (ps_ret (pe_tup (pa_cons (pe_call (ok_pick L.pick.F B L.draw) hr2 (by rfl) L.pick.g L.pick.F.kp L.pick.b .nil pass0 (pa_cons (pv 0) (pa_cons (pe_lst (pa_cons pe_str (pa_cons pe_str pa_nil))) pa_nil))) (pa_cons (pe_call (ih) hr (by rfl) L.dterm.g L.dterm.F.kp L.dterm.b .nil pass0 (pa_cons (pv 0) (pa_cons (pv 1) (pa_cons pe_str (pa_cons (pe_op op_sub (pv 3) pe_int) pa_nil))))) (pa_cons (pe_call (ih) hr (by rfl) L.dterm.g L.dterm.F.kp L.dterm.b .nil pass0 (pa_cons (pv 0) (pa_cons (pv 1) (pa_cons pe_str (pa_cons (pe_op op_sub (pv 3) pe_int) pa_nil))))) pa_nil)))))) pss_nil) (pss_cons (ps_if (pt_cmpR op_eq (pv 4) pe_int (nomark _)) (pss_one (ps_ret (pe_tup (pa_cons pe_str (pa_cons (pe_call (ih) hr (by rfl) L.dterm.g L.dterm.F.kp L.dterm.b .nil pass0 (pa_cons (pv 0) (pa_cons (pv 1) (pa_cons pe_str (pa_cons (pe_op op_sub (pv 3) pe_int) pa_nil))))) pa_nil))))) pss_nil) (pss_cons (ps_if (pt_cmpR op_eq (pv 4) pe_int (nomark _)) (pss_one (ps_ret (pe_tup (pa_cons pe_str (pa_cons (pe_call (ih) hr (by rfl) L.dterm.g L.dterm.F.kp L.dterm.b .nil pass0 (pa_cons (pv 0) (pa_cons (pv 1) (pa_cons pe_str (pa_cons (pe_op op_sub (pv 3) pe_int) pa_nil))))) (pa_cons (pe_call (ih) hr (by rfl) L.dterm.g L.dterm.F.kp L.dterm.b .nil pass0 (pa_cons (pv 0) (pa_cons (pv 1) (pa_cons pe_str (pa_cons (pe_op op_sub (pv 3) pe_int) pa_nil))))) pa_nil)))))) pss_nil) (pss_cons (ps_if (PW.pt (pw_or (pt_cmpR op_lt (pv 4) pe_int (nomark _)) (pw_or1 (pt_cmpR op_gt (pe_call (ok_draw L.draw.F B) hr1 (by rfl) L.draw.g L.draw.F.kp L.draw.b .nil pass0 (pa_cons (pv 0) (pa_cons pe_int pa_nil))) pe_int (nomark _))))) dM pss_nil) (pss_one (ps_ret (pe_tup (pa_cons (pe_call (ok_pick L.pick.F B L.draw) hr2 (by rfl) L.pick.g L.pick.F.kp L.pick.b .nil pass0 (pa_cons (pv 0) (pa_cons (pe_lst (pa_cons pe_str (pa_cons pe_str pa_nil))) pa_nil))) pa_nil)))))))), ?_⟩
        intro De H3' wy x5 x6 x7 x8 x9 x10 x11 x12 eD ek hg T3' k3'
        have hkd : tr kd = 1 := by rw [ek]; exact mt
        refine ⟨_, rfl, by show 2 ≤ sizeLine; decide, fun p0 np0 => ?_⟩
        have T3 := T3'.new (o := .tup [.int 5, .int 6]) np0
        have k3 : Kp [d, l, b] H (upd H3' p0 (.tup [.int 5, .int 6])) := k3'.trans (.new np0)
        refine ⟨p0, _, rfl, .inr (sqt_of upd_same), rfl, rfl, _, rfl, ?_⟩
        generalize upd H3' p0 (.tup [.int 5, .int 6]) = H3 at T3 k3
        refine ite2 (fun q0 => ?_) (fun _ => ?_)
        · subst eD
          have q1 : inV (.int wy) [.int 5, .int 6] = true := q0
          have hw : wy < 12 := by
            rcases Int.lt_or_le wy 12 with h | h
            · exact h
            · exfalso
              simp [inV, eqV] at q1
              omega
          obtain ⟨hd1, hz⟩ := hg hw
          have hm2 : mea kTruth (deep - 1) < mea kd deep := by unfold mea; omega
          have hc : (deep : Int) - 1 = ((deep - 1 : Nat) : Int) := by omega
          refine ⟨_, rfl, by show 2 ≤ sizeLine; decide, fun p np => ?_⟩
          have Tp := T3.new (o := .lst [.str "and", .str "or"]) np
          have np4 := T3.ne np
          refine ⟨d, l, p, _, rfl, Tp.dk, sql_of upd_same, by simp, by show 2 ≤ 1000000; decide, np4.1, np4.2.1, fun x H5 hx D5 k5 => ?_⟩
          obtain ⟨g, hgm, rfl⟩ : ∃ g : Str, g ∈ (["and", "or"] : List Str) ∧ x = V.str g := by
            simp only [List.mem_cons, List.not_mem_nil, or_false] at hx
            rcases hx with rfl | rfl
            · exact ⟨"and", by simp, rfl⟩
            · exact ⟨"or", by simp, rfl⟩
          obtain ⟨ea, ew⟩ := (by decide +kernel : ∀ g ∈ (["and", "or"] : List Str), (g, 2) ∈ truthT ∧ wd (.str g) ≤ 100) g hgm
          have T5 := Tp.go k5 D5
          have k5' : Kp [d, l, b] H H5 := k3.trans ((Kp.new np).trans (k5.more (by simp)))
          refine ⟨_, rfl, _, rfl, _, rfl, _, _, rfl, rfl, self (z - 1) H5 kTruth _ _ _ hc (.inr rfl) hm2 T5 fun v1 t1 z2 H6 a1 o1 T6 k6 => ?_⟩
          refine ⟨_, rfl, _, rfl, _, rfl, _, _, rfl, rfl, self z2 H6 kTruth _ _ _ hc (.inr rfl) hm2 T6 fun v2 t2 z3 H7 a2 o2 T7 k7 => ⟨by show 3 ≤ sizeLine; decide, fun q nq => ?_⟩⟩
          exact fin z3 H7 _ [.str g, t1, t2] q T7 ((k5'.trans k6).trans k7) (fun m => .cons (.str _) (.cons (a1.kp k7 m) (.cons (a2 m) .nil))) nq (o1.two o2 hm2 hm2 ew (by rw [ek]; exact WK.tr ea rfl (by simpa using ⟨o1.wk, o2.wk⟩)) hz)
        refine ⟨_, rfl, rfl, _, rfl, ite2 (fun q0 => ?_) (fun _ => ?_)⟩
        · subst eD
          have hw : wy = 7 := V.int.inj (of_decide_eq_true q0)
          obtain ⟨hd1, hz⟩ := hg (by omega)
          have hm2 : mea kTruth (deep - 1) < mea kd deep := by unfold mea; omega
          have hc : (deep : Int) - 1 = ((deep - 1 : Nat) : Int) := by omega
          refine ⟨_, rfl, _, rfl, _, rfl, _, _, rfl, rfl, self (z - 1) H3 kTruth _ _ _ hc (.inr rfl) hm2 T3 fun v1 t1 z2 H6 a1 o1 T6 k6 => ⟨by show 2 ≤ sizeLine; decide, fun q nq => ?_⟩⟩
          exact fin z2 H6 _ [.str "not", t1] q T6 (k3.trans k6) (fun m => .cons (.str _) (.cons (a1 m) .nil)) nq (o1.one hm2 (by decide +kernel) (by rw [ek]; exact WK.tr (n := 1) (by decide +kernel) rfl (by simpa using o1.wk)) (.inl hz))
        refine ⟨_, rfl, rfl, _, rfl, ite2 (fun q0 => ?_) (fun _ => ?_)⟩
        · subst eD
          have hw : wy = 8 := V.int.inj (of_decide_eq_true q0)
          obtain ⟨hd1, hz⟩ := hg (by omega)
          have hm2 : mea kPlace (deep - 1) < mea kd deep := by unfold mea; omega
          have hc : (deep : Int) - 1 = ((deep - 1 : Nat) : Int) := by omega
          refine ⟨_, rfl, _, rfl, _, rfl, _, _, rfl, rfl, self (z - 1) H3 kPlace _ _ _ hc (.inl rfl) hm2 T3 fun v1 t1 z2 H6 a1 o1 T6 k6 => ?_⟩
          refine ⟨_, rfl, _, rfl, _, rfl, _, _, rfl, rfl, self z2 H6 kPlace _ _ _ hc (.inl rfl) hm2 T6 fun v2 t2 z3 H7 a2 o2 T7 k7 => ⟨by show 3 ≤ sizeLine; decide, fun q nq => ?_⟩⟩
          exact fin z3 H7 _ [.str "same", t1, t2] q T7 ((k3.trans k6).trans k7) (fun m => .cons (.str _) (.cons (a1.kp k7 m) (.cons (a2 m) .nil))) nq (o1.two o2 hm2 hm2 (by decide +kernel) (by rw [ek]; exact WK.pl (n := 2) (by decide +kernel) rfl (by simpa using ⟨o1.wk, o2.wk⟩)) hz)
        refine ⟨_, rfl, _, _, rfl, rfl, _, rfl, ite2 (fun _ => iteT (rM _ H3 wy _ _ _ _ _ _ _ _ eD ek T3 k3)) (fun _ => ?_)⟩
        refine ⟨_, rfl, d, l, 3, rfl, T3.dk, by decide, by decide, fun r H4 r0 r1 D4 k4 => ?_⟩
        have T4 := T3.go k4 D4
        have k4' : Kp [d, l, b] H H4 := k3.trans (k4.more (by simp))
        refine ⟨_, _, rfl, rfl, _, rfl, ite2 (fun _ => rM _ H4 wy _ _ _ _ _ _ _ _ eD ek T4 k4') (fun _ => ?_)⟩
        · subst eD
          refine ⟨_, rfl, by show 2 ≤ sizeLine; decide, fun p np => ?_⟩
          have Tp := T4.new (o := .lst [.str "yes", .str "no"]) np
          have np4 := T4.ne np
          refine ⟨d, l, p, _, rfl, Tp.dk, sql_of upd_same, by simp, by show 2 ≤ 1000000; decide, np4.1, np4.2.1, fun x H5 hx D5 k5 => ?_⟩
          obtain ⟨g, hgm, rfl⟩ : ∃ g : Str, g ∈ (["yes", "no"] : List Str) ∧ x = V.str g := by
            simp only [List.mem_cons, List.not_mem_nil, or_false] at hx
            rcases hx with rfl | rfl
            · exact ⟨"yes", by simp, rfl⟩
            · exact ⟨"no", by simp, rfl⟩
          obtain ⟨ea, ew⟩ := (by decide +kernel : ∀ g ∈ (["yes", "no"] : List Str), (g, kTruth, 0) ∈ plainT ∧ wd (.str g) ≤ 100) g hgm
          have T5 := Tp.go k5 D5
          have k5' : Kp [d, l, b] H H5 := k4'.trans ((Kp.new np).trans (k5.more (by simp)))
          refine ⟨by show 1 ≤ sizeLine; decide, fun q nq => ?_⟩
          refine fin (z - 1) H5 _ [.str g] q T5 k5' (fun m => .cons (.str _) .nil) nq (.leaf (by rw [ek]; exact WK.pl ea rfl (by simp)) (Nat.zero_le _) ?_)
          show wd (.str g) + 2 + 0 ≤ 270
          omega
      obtain ⟨tD5, dD5, rD5⟩ : ∃ tt, PSs (cxOf CX0 Pr w K mg base NDt "_law_drawn_term" (defScope sDTerm) (A 55) cdv Ar outer s H E).nox ((defBody sDTerm).drop 5) tt ∧
          ∀ (De : Ends) (H3 : Hp) (wy : Int) (x5 x6 x7 x8 x9 x10 x11 x12 : Option V), De.rt = Q → (wy < 12 → 1 ≤ deep ∧ 2 ≤ z) → TC d l b fl nt (z - 1) c ws hs ns H3 → Kp [d, l, b] H H3 → tt De [some (.ref d), some (.ref b), some (.str kd), some (.int deep), some (.int wy), x5, x6, x7, x8, x9, x10, x11, x12] H3 := by
        refine ⟨_, (pss_cons (ps_if (pt_cmpR op_eq (pv 2) pe_str (nomark _)) dP pss_nil) dE), ?_⟩
        intro De H3 wy x5 x6 x7 x8 x9 x10 x11 x12 eD hg T3 k3
        refine ⟨_, rfl, rfl, _, rfl, ite2 (fun q => ?_) (fun q => ?_)⟩
        · exact rP _ H3 wy _ _ _ _ _ _ _ _ eD (V.str.inj (of_decide_eq_true q)) (fun h => hg (by omega)) T3 k3
        · exact rE _ H3 wy _ _ _ _ _ _ _ _ eD (hk.resolve_left fun e => q (decide_eq_true (by rw [e]; rfl))) hg T3 k3
      obtain ⟨tD, dD, rD⟩ : ∃ tt, PSs (cxOf CX0 Pr w K mg base NDt "_law_drawn_term" (defScope sDTerm) (A 55) cdv Ar outer s H E).nox ((defBody sDTerm).drop 4) tt ∧
          ∀ (De : Ends) (H3 : Hp) (C : Addr) (cs : List V) (wy : Int) (x5 x7 x8 x9 x10 x11 x12 : Option V), De.rt = Q → (wy < 12 → 1 ≤ deep ∧ 2 ≤ z) → H3 C = some (.lst cs) → (∀ v ∈ cs, ∃ h ∈ hs, h.kd = kd ∧ HeadV H3 v h) → cs.length ≤ 100 → C ≠ d → C ≠ l → TC d l b fl nt (z - 1) c ws hs ns H3 → Kp [d, l, b] H H3 → tt De [some (.ref d), some (.ref b), some (.str kd), some (.int deep), some (.int wy), x5, some (.ref C), x7, x8, x9, x10, x11, x12] H3 := by
        refine ⟨_, (pss_cons (ps_if (PW.pt (pw_and (pt_cmpR (r := rIn K false) op_in_seq (pv 4) (pe_tup (pa_cons pe_int (pa_cons pe_int (pa_cons pe_int pa_nil)))) (by rfl)) (pw_and1 (pt_cmpR (op_neEL hr.units) (pv 6) (pe_lst pa_nil) (nomark _))))) dC pss_nil) dD5), ?_⟩
        intro De H3' C cs wy x5 x7 x8 x9 x10 x11 x12 eD hg hC' hcs' hcl nCd nCl T3' k3'
        refine ⟨_, rfl, by show 3 ≤ sizeLine; decide, fun p0 np0 => ?_⟩
        have kp0 : Kp [] H3' (upd H3' p0 (.tup [.int 2, .int 3, .int 4])) := .new np0
        have T3 := T3'.kp0 kp0
        have k3 := k3'.trans (kp0.more (by simp))
        have hC := kp0.at_ _ _ hC' (by simp)
        have hcs : ∀ v ∈ cs, ∃ h ∈ hs, h.kd = kd ∧ HeadV (upd H3' p0 (.tup [.int 2, .int 3, .int 4])) v h := fun v hv => let ⟨h, hh, e, a⟩ := hcs' v hv; ⟨h, hh, e, a.kp kp0⟩
        refine ⟨p0, _, rfl, .inr (sqt_of upd_same), rfl, rfl, _, rfl, ?_⟩
        generalize upd H3' p0 (.tup [.int 2, .int 3, .int 4]) = H3 at T3 k3 hC hcs
        refine ite2 (fun q0 => ?_) (fun _ => iteF (rD5 _ H3 wy _ _ _ _ _ _ _ _ eD hg T3 k3))
        have q1 : inV (.int wy) [.int 2, .int 3, .int 4] = true := q0
        have hw : wy < 12 := by
          rcases Int.lt_or_le wy 12 with h | h
          · exact h
          · exfalso
            simp [inV, eqV] at q1
            omega
        obtain ⟨hd1, hz⟩ := hg hw
        refine ⟨_, rfl, Nat.zero_le _, fun p np => ?_⟩
        have kp : Kp [] H3 (upd H3 p (.lst [])) := .new np
        have T4 := T3.kp0 kp
        have ep : (upd H3 p (.lst [])) p = some (.lst []) := upd_same
        have k4 := k3.trans (kp.more (by simp))
        have hC4 := kp.at_ _ _ hC (by simp)
        have hcs4 : ∀ v ∈ cs, ∃ h ∈ hs, h.kd = kd ∧ HeadV (upd H3 p (.lst [])) v h := fun v hv => let ⟨h, hh, e, a⟩ := hcs v hv; ⟨h, hh, e, a.kp kp⟩
        generalize upd H3 p (.lst []) = H4 at T4 ep k4 hC4 hcs4
        refine ⟨C, p, cs, rfl, rfl, hC4, ep, _, rfl, ?_⟩
        cases hc : cs.isEmpty with
        | true => exact iteF (rD5 _ H4 wy _ _ _ _ _ _ _ _ eD hg T4 k4)
        | false =>
          refine iteT ?_
          exact rC _ H4 C cs wy _ _ _ _ _ _ _ eD hd1 hz hC4 hcs4 (by intro z; rw [z] at hc; cases hc) hcl nCd nCl T4 k4
      obtain ⟨tS, dS, rS⟩ : ∃ tt, PSs (cxOf CX0 Pr w K mg base NDt "_law_drawn_term" (defScope sDTerm) (A 55) cdv Ar outer s H E).nox ((defBody sDTerm).drop 3) tt ∧
          ∀ (De : Ends) (H1 : Hp) (wy : Int) (x5 x6 x7 x8 x9 x10 x11 x12 : Option V), De.rt = Q → (wy < 12 → 1 ≤ deep ∧ 2 ≤ z) → TC d l b fl nt (z - 1) c ws hs ns H1 → Kp [d, l, b] H H1 → tt De [some (.ref d), some (.ref b), some (.str kd), some (.int deep), some (.int wy), x5, x6, x7, x8, x9, x10, x11, x12] H1 := by
        refine ⟨_, (pss_cons (ps_setLc (i := 6) (own := [("_law_it", 11)]) (g := gName 11) (by rfl) scDTerm.nd rfl rfl (sw_true rfl rfl rfl (by decide +kernel)) (pi_list (pe_dget hu (pv 1) pe_str (fun _ _ => rfl))) (blkOk_by (N := NDt) (sc := defScope sDTerm) (by decide +kernel)) (fun _ _ _ _ _ => pg_name (i := 11) scDTerm.nd rfl (Or.inl rfl)) (fun _ _ _ _ _ => pts_one (pt_cmpR op_eq (pe_ix (r := rIxT K) ix_tup (pv 11) pe_int (fun _ _ => rfl)) (pv 2) (nomark _))) (fun _ _ _ _ _ => (pv 11))) dD), ?_⟩
        intro De H1 wy x5 x6 x7 x8 x9 x10 x11 x12 eD hg T1 k1
        refine ⟨_, rfl, b, _, rfl, get_bfuns T1.bx, fl, rfl, ⟨_, sql_of T1.fk⟩, fun Dl nD => ?_⟩
        have nq1 := T1.ne nD
        refine lc_list (xs := ws) (fun i H' => ∃ cs, H' Dl = some (.lst cs) ∧ (∀ v ∈ cs, ∃ h ∈ hs, h.kd = kd ∧ HeadV H' v h) ∧ cs.length ≤ i ∧ Kp [] H1 H')
          ⟨[], upd_same, by simp, Nat.le_refl _, .new nD⟩ (fun i H' _ ⟨_, _, _, _, k'⟩ => sql_of (T1.kp0 k').fk) ?_ ?_
        · rintro i x H2 hx ⟨cs, hD, hcs, hl, k2⟩
          have T2 := T1.kp0 k2
          have hmem := List.mem_of_getElem? hx
          have hi := (List.getElem?_eq_some_iff.mp hx).1
          have hh := T2.hlen
          obtain ⟨h, hhs', r, rfl, er⟩ := T2.heads x hmem
          refine ⟨rfl, _, rfl, r, _, _, _, rfl, rfl, sqt_of er, atI_nat (j := 1) rfl, _, rfl, rfl, _, rfl, ite2 (fun q => ?_) (fun _ => ?_)⟩
          · have ekd : h.kd = kd := V.str.inj (of_decide_eq_true q)
            have kD : Kp [Dl] H2 (upd H2 Dl (.lst (cs ++ [.ref r]))) := .put (by simp) hD (fun _ z => by cases z)
            refine ⟨_, rfl, cs, hD, Nat.lt_of_le_of_lt (show cs.length ≤ 100 by omega) (by decide), cs ++ [.ref r], upd_same, ?_, ?_, k2.own nD⟩
            · intro y hy
              rcases List.mem_append.mp hy with hy | hy
              · obtain ⟨h', a1, a2, a3⟩ := hcs y hy
                exact ⟨h', a1, a2, a3.kp kD⟩
              · rw [List.mem_singleton.mp hy]
                exact ⟨h, hhs', ekd, r, rfl, kD.tup _ _ er⟩
            · rw [List.length_append]
              show cs.length + 1 ≤ i + 1
              omega
          · exact ⟨cs, hD, hcs, by omega, k2⟩
        rintro H2 ⟨cs, hD, hcs, hl, k2⟩
        have T2 := T1.kp0 k2
        have hh := T2.hlen
        exact rD _ H2 Dl cs wy _ _ _ _ _ _ _ eD hg hD hcs (by omega) nq1.1 nq1.2.1 T2 (k1.trans (k2.more (by simp)))
      obtain ⟨tK, dK, rK⟩ : ∃ tt, PSs (cxOf CX0 Pr w K mg base NDt "_law_drawn_term" (defScope sDTerm) (A 55) cdv Ar outer s H E).nox ((defBody sDTerm).drop 2) tt ∧
          ∀ (De : Ends) (H1 : Hp) (wy : Int) (x5 x6 x7 x8 x9 x10 x11 x12 : Option V), De.rt = Q → (wy < 12 → 1 ≤ deep ∧ 2 ≤ z) → TC d l b fl nt (z - 1) c ws hs ns H1 → Kp [d, l, b] H H1 → tt De [some (.ref d), some (.ref b), some (.str kd), some (.int deep), some (.int wy), x5, x6, x7, x8, x9, x10, x11, x12] H1 := by
        refine ⟨_, (pss_cons (ps_if (PW.pt (pw_or (pt_cmpR op_eq (pv 4) pe_int (nomark _)) (pw_or1 (PW.pt (pw_and (pt_cmpR op_eq (pv 4) pe_int (nomark _)) (pw_and1 (pt_truth (pe_dget hu (pv 1) pe_str (fun _ _ => rfl)) (by intro _; rfl)))))))) dB pss_nil) dS), ?_⟩
        intro De H1 wy x5 x6 x7 x8 x9 x10 x11 x12 eD hg T1 k1
        refine ⟨_, rfl, rfl, _, rfl, ite2 (fun q => ?_) (fun _ => ?_)⟩
        · have hw : wy = 0 := V.int.inj (of_decide_eq_true q)
          obtain ⟨hd1, hz⟩ := hg (by omega)
          exact iteT (rB _ H1 wy _ _ _ _ _ _ _ _ eD hd1 hz T1 k1)
        refine ⟨_, rfl, rfl, _, rfl, ite2 (fun q => ?_) (fun _ => ?_)⟩
        · have hw : wy = 1 := V.int.inj (of_decide_eq_true q)
          obtain ⟨hd1, hz⟩ := hg (by omega)
          refine ⟨_, rfl, b, _, rfl, get_bchoice T1.bx, _, rfl, ?_⟩
          cases c with
          | true => exact iteT (rB _ H1 wy _ _ _ _ _ _ _ _ eD hd1 hz T1 k1)
          | false => exact iteF (rS _ H1 wy _ _ _ _ _ _ _ _ eD hg T1 k1)
        · exact iteF (rS _ H1 wy _ _ _ _ _ _ _ _ eD hg T1 k1)
      refine ⟨_, (pss_cons (ps_dput hu (pv 1) pe_str (pe_op op_sub (pe_dget hu (pv 1) pe_str (fun _ _ => rfl)) pe_int) rfl) (pss_cons (ps_set (i := 4) scDTerm.nd rfl (.inl rfl) (pe_ifExp (PW.pt (pw_and (pt_cmpR op_gt (pv 3) pe_int (nomark _)) (pw_and1 (pt_cmpR op_gt (pe_dget hu (pv 1) pe_str (fun _ _ => rfl)) pe_int (nomark _))))) (pe_call (ok_draw L.draw.F B) hr1 (by rfl) L.draw.g L.draw.F.kp L.draw.b .nil pass0 (pa_cons (pv 0) (pa_cons pe_int pa_nil))) pe_int)) dK)), ?_⟩
      refine ⟨_, rfl, b, _, rfl, get_bleft T0.bx, _, _, rfl, rfl, _, rfl, b, _, rfl, set_bleft T0.bx (z - 1), ?_⟩
      obtain ⟨T1, k1⟩ := T0.left (z - 1)
      generalize upd H b (.dK (boxD fl nt (z - 1) c)) = H1 at T1 k1
      refine ⟨_, rfl, _, _, rfl, rfl, _, rfl, ite2 (fun q0 => ?_) (fun _ => ?_)⟩
      · have hd1 : (0 : Int) < (deep : Int) := of_decide_eq_true q0
        refine ⟨_, rfl, b, _, rfl, get_bleft T1.bx, _, _, rfl, rfl, _, rfl, ite2 (fun q1 => ?_) (fun _ => ?_)⟩
        · have hz : (0 : Int) < z - 1 := of_decide_eq_true q1
          refine ⟨_, rfl, d, l, 12, rfl, T1.dk, by decide, by decide, fun r H3 r0 r1' D3 k3 => ?_⟩
          exact rK _ H3 r _ _ _ _ _ _ _ _ rfl (fun _ => ⟨by omega, by omega⟩) (T1.go k3 D3) (k1.trans (k3.more (by simp)))
        · exact rK _ H1 99 _ _ _ _ _ _ _ _ rfl (fun h => absurd h (by decide)) T1 k1
      · exact iteF (rK _ H1 99 _ _ _ _ _ _ _ _ rfl (fun h => absurd h (by decide)) T1 k1)
end
end Ey
set_option maxHeartbeats 4000000
namespace Ey
open PySem PySem.Spec L2
/-! ### values that are terms without a fault -/
structure TOk (ns : List Str) (fs : List Fn) (k : Str) (n m : Nat) (t : PyData) : Prop where
  wk : WK ns fs k t
  d : t.depth ≤ n
  w : wd t ≤ m
def TV (ns : List Str) (fs : List Fn) (k : Str) (n m : Nat) (H : Hp) (v : V) : Prop := ∃ t, AnT H v t ∧ TOk ns fs k n m t
section
variable {ns : List Str} {fs : List Fn} {k k1 k2 k3 w : Str} {n n1 n2 n3 m m1 m2 m3 : Nat} {t t1 t2 t3 : PyData} {H H1 : Hp} {v v1 v2 v3 : V} {p : Addr}
theorem TV.kp {ms : List Addr} (h : TV ns fs k n m H v) (kk : Kp ms H H1) : TV ns fs k n m H1 v :=
  let ⟨t, a, o⟩ := h
  ⟨t, a.kp kk, o⟩
theorem TV.up (h : TV ns fs k n1 m1 H v) (h1 : n1 ≤ n) (h2 : m1 ≤ m) : TV ns fs k n m H v :=
  let ⟨t, a, o⟩ := h
  ⟨t, a, o.wk, Nat.le_trans o.d h1, Nat.le_trans o.w h2⟩
/-- ('empty', t) and the like -/
theorem TV.one (h : TV ns fs kPlace n1 m1 H v1) (e : H p = some (.tup [.str w, v1])) (hw : (w, k, 1) ∈ plainT) (ew : wd (.str w) ≤ 100) (hn : n1 + 1 ≤ n) (hm : m1 + 107 ≤ m) : TV ns fs k n m H (.ref p) := by
  obtain ⟨t, a, o⟩ := h
  have h1 := o.d
  have h2 := o.w
  refine ⟨.tuple [.str w, t], fun ms => .tup e (.cons (.str _) (.cons (a ms) .nil)), WK.pl hw rfl (by simpa using o.wk), ?_, ?_⟩
  · show max 0 (max t.depth 0) + 1 ≤ _
    omega
  · show wd (.str w) + 2 + (wd t + 2 + 0) + 3 ≤ _
    omega
/-- ('top',) and the like -/
theorem TV.zero (e : H p = some (.tup [.str w])) (hw : (w, k, 0) ∈ plainT) (ew : wd (.str w) ≤ 100) (hn : 1 ≤ n) (hm : 105 ≤ m) : TV ns fs k n m H (.ref p) := by
  refine ⟨.tuple [.str w], fun ms => .tup e (.cons (.str _) .nil), WK.pl hw rfl (by simp), hn, ?_⟩
  show wd (.str w) + 2 + 0 + 3 ≤ _
  omega
theorem TV.same (h1 : TV ns fs kPlace n1 m1 H v1) (h2 : TV ns fs kPlace n2 m2 H v2) (e : H p = some (.tup [.str w, v1, v2])) (hw : (w, k, 2) ∈ plainT) (ew : wd (.str w) ≤ 100) (hn1 : n1 + 1 ≤ n) (hn2 : n2 + 1 ≤ n) (hm : m1 + m2 + 109 ≤ m) : TV ns fs k n m H (.ref p) := by
  obtain ⟨t1, a1, o1⟩ := h1
  obtain ⟨t2, a2, o2⟩ := h2
  have b1 := o1.d
  have b2 := o1.w
  have c1 := o2.d
  have c2 := o2.w
  refine ⟨.tuple [.str w, t1, t2], fun ms => .tup e (.cons (.str _) (.cons (a1 ms) (.cons (a2 ms) .nil))), WK.pl hw rfl (by simpa using ⟨o1.wk, o2.wk⟩), ?_, ?_⟩
  · show max 0 (max t1.depth (max t2.depth 0)) + 1 ≤ _
    omega
  · show wd (.str w) + 2 + (wd t1 + 2 + (wd t2 + 2 + 0)) + 3 ≤ _
    omega
/-- ('and', t, u), ('or', t, u) -/
theorem TV.both (h1 : TV ns fs kTruth n1 m1 H v1) (h2 : TV ns fs kTruth n2 m2 H v2) (e : H p = some (.tup [.str w, v1, v2])) (hw : (w, 2) ∈ truthT) (ew : wd (.str w) ≤ 100) (hn1 : n1 + 1 ≤ n) (hn2 : n2 + 1 ≤ n) (hm : m1 + m2 + 109 ≤ m) : TV ns fs kTruth n m H (.ref p) := by
  obtain ⟨t1, a1, o1⟩ := h1
  obtain ⟨t2, a2, o2⟩ := h2
  have b1 := o1.d
  have b2 := o1.w
  have c1 := o2.d
  have c2 := o2.w
  refine ⟨.tuple [.str w, t1, t2], fun ms => .tup e (.cons (.str _) (.cons (a1 ms) (.cons (a2 ms) .nil))), WK.tr hw rfl (by simpa using ⟨o1.wk, o2.wk⟩), ?_, ?_⟩
  · show max 0 (max t1.depth (max t2.depth 0)) + 1 ≤ _
    omega
  · show wd (.str w) + 2 + (wd t1 + 2 + (wd t2 + 2 + 0)) + 3 ≤ _
    omega
/-- ('has', t, g) -/
theorem TV.has {g : Str} (h : TV ns fs kPlace n1 m1 H v1) (e : H p = some (.tup [.str kHas, v1, .str g])) (hg : isTag g = true) (ew : wd (.str g) ≤ 82) (hn : n1 + 1 ≤ n) (hm : m1 + 130 ≤ m) : TV ns fs kTruth n m H (.ref p) := by
  obtain ⟨t, a, o⟩ := h
  have h1 := o.d
  have h2 := o.w
  have e4 : wd (.str kHas) = 32 := by decide +kernel
  refine ⟨.tuple [.str kHas, t, .str g], fun ms => .tup e (.cons (.str _) (.cons (a ms) (.cons (.str _) .nil))), WK.has hg o.wk, ?_, ?_⟩
  · show max 0 (max t.depth (max 0 0)) + 1 ≤ _
    omega
  · show wd (.str kHas) + 2 + (wd t + 2 + (wd (.str g) + 2 + 0)) + 3 ≤ _
    omega
/-- ('if', c, t, u) -/
theorem TV.ifT (h1 : TV ns fs kTruth n1 m1 H v1) (h2 : TV ns fs k n2 m2 H v2) (h3 : TV ns fs k n3 m3 H v3) (e : H p = some (.tup [.str kIf, v1, v2, v3])) (hn1 : n1 + 1 ≤ n) (hn2 : n2 + 1 ≤ n) (hn3 : n3 + 1 ≤ n) (hm : m1 + m2 + m3 + 111 ≤ m) : TV ns fs k n m H (.ref p) := by
  obtain ⟨t1, a1, o1⟩ := h1
  obtain ⟨t2, a2, o2⟩ := h2
  obtain ⟨t3, a3, o3⟩ := h3
  have b1 := o1.d
  have b2 := o1.w
  have c1 := o2.d
  have c2 := o2.w
  have d1 := o3.d
  have d2 := o3.w
  have ew : wd (.str kIf) ≤ 100 := by decide +kernel
  refine ⟨.tuple [.str kIf, t1, t2, t3], fun ms => .tup e (.cons (.str _) (.cons (a1 ms) (.cons (a2 ms) (.cons (a3 ms) .nil)))), WK.ifT o1.wk o2.wk o3.wk, ?_, ?_⟩
  · show max 0 (max t1.depth (max t2.depth (max t3.depth 0))) + 1 ≤ _
    omega
  · show wd (.str kIf) + 2 + (wd t1 + 2 + (wd t2 + 2 + (wd t3 + 2 + 0))) + 3 ≤ _
    omega
/-- ('either', t, u) -/
theorem TV.either (h1 : TV ns fs k n1 m1 H v1) (h2 : TV ns fs k n2 m2 H v2) (e : H p = some (.tup [.str kEither, v1, v2])) (hn1 : n1 + 1 ≤ n) (hn2 : n2 + 1 ≤ n) (hm : m1 + m2 + 109 ≤ m) : TV ns fs k n m H (.ref p) := by
  obtain ⟨t1, a1, o1⟩ := h1
  obtain ⟨t2, a2, o2⟩ := h2
  have b1 := o1.d
  have b2 := o1.w
  have c1 := o2.d
  have c2 := o2.w
  have ew : wd (.str kEither) ≤ 100 := by decide +kernel
  refine ⟨.tuple [.str kEither, t1, t2], fun ms => .tup e (.cons (.str _) (.cons (a1 ms) (.cons (a2 ms) .nil))), WK.either o1.wk o2.wk, ?_, ?_⟩
  · show max 0 (max t1.depth (max t2.depth 0)) + 1 ≤ _
    omega
  · show wd (.str kEither) + 2 + (wd t1 + 2 + (wd t2 + 2 + 0)) + 3 ≤ _
    omega
/-- ('name', g) -/
theorem TV.name {g : Str} (e : H p = some (.tup [.str kName, .str g])) (hg : isName g = true) (hm' : g ∈ ns) (hn : 1 ≤ n) (hm : 251 ≤ m) : TV ns fs kPlace n m H (.ref p) := by
  have ew := name_w hg
  have e4 : wd (.str kName) = 42 := by decide +kernel
  refine ⟨.tuple [.str kName, .str g], fun ms => .tup e (.cons (.str _) (.cons (.str _) .nil)), WK.name hg hm', hn, ?_⟩
  show wd (.str kName) + 2 + (wd (.str g) + 2 + 0) + 3 ≤ _
  omega
inductive TVs (ns : List Str) (fs : List Fn) (k : Str) (n m : Nat) (H : Hp) : List V → Prop
  | nil : TVs ns fs k n m H []
  | cons {v : V} {vs : List V} : TV ns fs k n m H v → TVs ns fs k n m H vs → TVs ns fs k n m H (v :: vs)
theorem TVs.data {vs : List V} (h : TVs ns fs k n m H vs) : ∃ ts, AnTs H vs ts ∧ ts.length = vs.length ∧ (∀ t ∈ ts, TOk ns fs k n m t) ∧ wdAll ts ≤ (m + 2) * vs.length := by
  induction h with
  | nil => exact ⟨[], fun _ => .nil, rfl, by simp, Nat.zero_le _⟩
  | @cons v vs a _ ih =>
    obtain ⟨ts, h1, h2, h3, h4⟩ := ih
    obtain ⟨t, a1, o⟩ := a
    refine ⟨t :: ts, fun ms => .cons (a1 ms) (h1 ms), by rw [List.length_cons, List.length_cons, h2], ?_, ?_⟩
    · intro x hx
      rcases List.mem_cons.mp hx with rfl | hx
      · exact o
      · exact h3 x hx
    · have := o.w
      rw [List.length_cons, Nat.mul_succ]
      show wd t + 2 + wdAll ts ≤ _
      omega
/-- ('call', name, places) -/
theorem TV.call {hs : List Hd} {h : Hd} {q : Addr} {vs : List V} (nd : (hs.map (·.nm)).Nodup) (hm' : h ∈ hs) (hg : isName h.nm = true) (hl : h.nm.length ≤ 6) (hv : TVs ns (hs.map hdF) kPlace n1 m1 H vs) (e : H p = some (.tup [.str kCall, .str h.nm, .ref q])) (eq : H q = some (.tup vs)) (el : vs.length = h.many) (h2 : h.many ≤ 2) (hn : n1 + 2 ≤ n) (hm : 2 * m1 + 130 ≤ m) : TV ns (hs.map hdF) h.kd n m H (.ref p) := by
  obtain ⟨ts, a, b, c, d⟩ := hv.data
  have e4 : wd (.str kCall) = 42 := by decide +kernel
  have dts := dep_all fun t ht => (c t ht).d
  have d2 : wdAll ts ≤ (m1 + 2) * 2 := Nat.le_trans d (Nat.mul_le_mul_left _ (by omega))
  refine ⟨.tuple [.str kCall, .str h.nm, .tuple ts], fun ms => .tup e (.cons (.str _) (.cons (.str _) (.cons (.tup eq (a ms)) .nil))), WK.callH nd hm' hg (by omega) fun t ht => (c t ht).wk, ?_, ?_⟩
  · show max 0 (max 0 (max (PyData.depthAll ts + 1) 0)) + 1 ≤ _
    omega
  · show wd (.str kCall) + 2 + (10 * h.nm.length + 2 + 2 + (wdAll ts + 3 + 2 + 0)) + 3 ≤ _
    omega
end
end Ey
set_option maxHeartbeats 4000000
namespace Ey
open PySem PySem.Spec L2
/-! ### a led body -/
abbrev sLed : Stmt := topS 56
structure LL (K : PySem.W.Frag) (mg : Str → Option Value) (A : Nat → Addr) (D : Nat → FuncData) : Prop extends LG K mg A D where
  led : Df K mg "_law_led_body" sLed ["_law_deck_here", "_law_names", "_law_kind", "_law_funs", "_law_own"] (A 56) (D 56)
abbrev PLd : List Str := ["_law_deck_here", "_law_names", "_law_kind", "_law_funs", "_law_own"]
def spLed : Sp := fun vs H Q _ => ∃ (d l nt fl ow : Addr) (ws : List V) (hs : List Hd) (ns : List Str) (kd : Str) (h0 : Hd), vs = [.ref d, .ref nt, .str kd, .ref fl, .ref ow] ∧ (kd = kPlace ∨ kd = kTruth) ∧ DeckAt H d l ∧ H nt = some (.tup (ns.map V.str)) ∧ (∀ g ∈ ns, isName g = true) ∧ ns ≠ [] ∧ ns.length ≤ 10 ∧
  H fl = some (.lst ws) ∧ fl ≠ l ∧ (∀ v ∈ ws, ∃ h ∈ hs, HeadV H v h) ∧ ws.length ≤ 100 ∧ (∀ h ∈ hs, isName h.nm = true ∧ h.nm.length ≤ 6 ∧ h.many ≤ 2) ∧ (hs.map (·.nm)).Nodup ∧ HeadV H (.ref ow) h0 ∧ h0 ∈ hs ∧ h0.kd = kd ∧ 0 < h0.many ∧
  ∀ (v : V) (H' : Hp), TV ns (hs.map hdF) kd 8 5000 H' v → DeckAt H' d l → Kp [d, l] H H' → Q v H'
theorem DeckAt.fresh {H : Hp} {d l p : Addr} (D : DeckAt H d l) (n : H p = none) : p ≠ d ∧ p ≠ l := by
  obtain ⟨m, k, ns, h1, h2, _⟩ := D.ex
  exact ⟨(ne_of_none h1 n).symm, (ne_of_none h2 n).symm⟩
def rListOf (K : PySem.W.Frag) : List V → Hp → VK → Prop := fun xs H Q => ∃ p ys, xs = [.ref p] ∧ (SqL K H p ys ∨ SqT K H p ys) ∧ ∀ l, H l = none → Q (.ref l) (upd H l (.lst ys))
theorem TVs.kp {ns : List Str} {fs : List Fn} {k : Str} {n m : Nat} {H H1 : Hp} {ms : List Addr} {vs : List V} (h : TVs ns fs k n m H vs) (kk : Kp ms H H1) : TVs ns fs k n m H1 vs := by
  induction h with
  | nil => exact .nil
  | cons a _ ih => exact .cons (a.kp kk) ih
theorem TVs.snoc {ns : List Str} {fs : List Fn} {k : Str} {n m : Nat} {H : Hp} {vs : List V} {v : V} (h : TVs ns fs k n m H vs) (a : TV ns fs k n m H v) : TVs ns fs k n m H (vs ++ [v]) := by
  induction h with
  | nil => exact .cons a .nil
  | cons b _ ih => exact .cons b ih
def WayV (H : Hp) (v : V) : Prop := ∃ (r : Addr) (a b : Str), v = .ref r ∧ H r = some (.tup [.str a, .str b]) ∧ ((a, kPlace, 1) ∈ plainT ∧ wd (.str a) ≤ 100) ∧ (b, kPlace, 1) ∈ plainT ∧ wd (.str b) ≤ 100
theorem WayV.kp {ms : List Addr} {H H1 : Hp} {v : V} (h : WayV H v) (k : Kp ms H H1) : WayV H1 v :=
  let ⟨r, a, b, e, q, s⟩ := h
  ⟨r, a, b, e, k.tup _ _ q, s⟩
theorem way_ok : ∀ g ∈ (["left", "right", "up"] : List Str), (g, kPlace, 1) ∈ plainT ∧ wd (.str g) ≤ 100 := by decide +kernel
theorem WayV.mk {H : Hp} {r : Addr} {a b : Str} (e : H r = some (.tup [.str a, .str b])) (ha : a ∈ (["left", "right", "up"] : List Str)) (hb : b ∈ (["left", "right", "up"] : List Str)) : WayV H (.ref r) :=
  ⟨r, a, b, rfl, e, way_ok a ha, way_ok b hb⟩
structure L0 (ns : List Str) (fs : List Fn) (d l : Addr) (xv : V) (H H3 : Hp) : Prop where
  x : TV ns fs kPlace 1 251 H3 xv
  D : DeckAt H3 d l
  k : Kp [d, l] H H3
section
variable {ns : List Str} {fs : List Fn} {d l : Addr} {xv : V} {H H3 H4 : Hp}
theorem L0.go (S : L0 ns fs d l xv H H3) (k : Kp [d, l] H3 H4) (D4 : DeckAt H4 d l) : L0 ns fs d l xv H H4 := ⟨S.x.kp k, D4, S.k.trans k⟩
theorem L0.kp0 (S : L0 ns fs d l xv H H3) (k : Kp [] H3 H4) : L0 ns fs d l xv H H4 := S.go (k.more (by simp)) (S.D.kp k (by simp) (by simp))
end
structure LW (ns : List Str) (fs : List Fn) (kd : Str) (d l C : Addr) (xv : V) (cs : List V) (H H3 : Hp) : Prop where
  x : TV ns fs kPlace 1 251 H3 xv
  c : H3 C = some (.lst cs)
  cv : TVs ns fs kd 4 846 H3 cs
  D : DeckAt H3 d l
  nd : C ≠ d
  nl : C ≠ l
  k : Kp [d, l] H H3
section
variable {ns : List Str} {fs : List Fn} {kd : Str} {d l C p : Addr} {xv : V} {cs : List V} {H H3 H4 : Hp}
theorem LW.go (S : LW ns fs kd d l C xv cs H H3) (k : Kp [d, l] H3 H4) (D4 : DeckAt H4 d l) : LW ns fs kd d l C xv cs H H4 :=
  ⟨S.x.kp k, k.at_ _ _ S.c (by simp [S.nd, S.nl]), S.cv.kp k, D4, S.nd, S.nl, S.k.trans k⟩
theorem LW.kp0 (S : LW ns fs kd d l C xv cs H H3) (k : Kp [] H3 H4) : LW ns fs kd d l C xv cs H H4 := S.go (k.more (by simp)) (S.D.kp k (by simp) (by simp))
end
structure LS (ns : List Str) (fs : List Fn) (kd : Str) (d l C : Addr) (xv c0 c1 : V) (H H3 : Hp) : Prop where
  x : TV ns fs kPlace 1 251 H3 xv
  c : H3 C = some (.lst [c0, c1])
  h0 : TV ns fs kd 4 846 H3 c0
  h1 : TV ns fs kd 4 846 H3 c1
  D : DeckAt H3 d l
  nd : C ≠ d
  nl : C ≠ l
  k : Kp [d, l] H H3
section
variable {ns : List Str} {fs : List Fn} {kd : Str} {d l C p : Addr} {xv c0 c1 : V} {H H3 H4 : Hp}
theorem LS.go (S : LS ns fs kd d l C xv c0 c1 H H3) (k : Kp [d, l] H3 H4) (D4 : DeckAt H4 d l) : LS ns fs kd d l C xv c0 c1 H H4 :=
  ⟨S.x.kp k, k.at_ _ _ S.c (by simp [S.nd, S.nl]), S.h0.kp k, S.h1.kp k, D4, S.nd, S.nl, S.k.trans k⟩
theorem LS.kp0 (S : LS ns fs kd d l C xv c0 c1 H H3) (k : Kp [] H3 H4) : LS ns fs kd d l C xv c0 c1 H H4 := S.go (k.more (by simp)) (S.D.kp k (by simp) (by simp))
end
section
variable {Pr : Program} {w : World} {K : PySem.W.Frag} {mg : Str → Option Value} {base : Heap} {A : Nat → Addr} {D : Nat → FuncData}
abbrev NLd : List Str := ["_law_deck_here", "_law_names", "_law_kind", "_law_funs", "_law_own", "_law_x", "_law_some", "_law_name", "_law_of", "_law_many", "_law_ways", "_law_calls", "_law_way", "_law_rest", "_law_test", "_law_both", "_law_word", "_law_first", "_law_it", "_law_k"]
theorem scLed : FnScope NLd ["_law_deck_here", "_law_names", "_law_kind", "_law_funs", "_law_own"] (defScope sLed) := ⟨rfl, rfl, rfl, by decide +kernel, rfl, by decide +kernel, by decide +kernel⟩

theorem ok_led (L : LL K mg A D) : FnOk Pr w K mg base CX0 4 (A 56) (D 56) PLd spLed := by
  have B := L.B
  refine L.led.F.ok scLed (fun vs H Q E h => ?_) (fun cdv Ar outer s H vs Q E hr h => ?_)
  · obtain ⟨d, l, nt, fl, ow, ws, hs, ns, kd, h0, rfl, _⟩ := h
    rfl
  · obtain ⟨d, l, nt, fl, ow, ws, hs, ns, kd, h0, rfl, hk, D0, hnt, hns, hne, hnl, hfl, nfl, hws, hwl, hhs, hnd, how, hm0, hk0, hp0, k⟩ := h
    have hr2 := hr.mono (show 2 ≤ 3 by decide)
    have hr1 := hr.mono (show 1 ≤ 3 by decide)
    have hdl := D0.ne
    have hu := hu_of hr
    obtain ⟨fs, efs⟩ : ∃ fs, hs.map hdF = fs := ⟨_, rfl⟩
    obtain ⟨t8, d8, r8⟩ : ∃ tt, PSs (cxOf CX0 Pr w K mg base NLd "_law_led_body" (defScope sLed) (A 56) cdv Ar outer s H E).nox ((defBody sLed).drop 8) tt ∧
        ∀ (De : Ends) (H3 : Hp) (xv tv c0 c1 fv : V) (g : Str) (C : Addr) (x6 x7 x8 x9 x10 x12 x13 x15 x18 x19 : Option V), De.rt = Q → kd = kTruth → (g, 2) ∈ truthT → wd (.str g) ≤ 100 → LS ns fs kd d l C xv c0 c1 H H3 → TV ns fs kTruth 3 848 H3 tv → TV ns fs kTruth 1 105 H3 fv →
        tt De [some (.ref d), some (.ref nt), some (.str kd), some (.ref fl), some (.ref ow), some xv, x6, x7, x8, x9, x10, some (.ref C), x12, x13, some tv, x15, some (.str g), some fv, x18, x19] H3 := by
      refine ⟨_, (pss_one (ps_ret (pe_tup (pa_cons pe_str (pa_cons (pv 14) (pa_cons (pe_call (ok_pick L.pick.F B L.draw) hr2 (by rfl) L.pick.g L.pick.F.kp L.pick.b .nil pass0 (pa_cons (pv 0) (pa_cons (pe_lst (pa_cons (pv 17) (pa_cons (pv 17) (pa_cons (pe_tup (pa_cons pe_str (pa_cons (pv 5) (pa_cons pe_str pa_nil)))) pa_nil)))) pa_nil))) (pa_cons (pe_tup (pa_cons (pv 16) (pa_cons (pe_ix ix_list (pv 11) pe_int (fun _ _ => rfl)) (pa_cons (pe_ix ix_list (pv 11) pe_int (fun _ _ => rfl)) pa_nil)))) pa_nil))))))), ?_⟩
      intro De H3 xv tv c0 c1 fv g C x6 x7 x8 x9 x10 x12 x13 x15 x18 x19 eD ek eg ew S ht hf
      subst eD ek
      refine ⟨_, rfl, _, rfl, _, rfl, _, rfl, _, rfl, by show 3 ≤ sizeLine; decide, fun p1 np1 => ?_⟩
      have k1 : Kp [] H3 (upd H3 p1 (.tup [.str "has", xv, .str "b"])) := .new np1
      have q1 : (upd H3 p1 (.tup [.str "has", xv, .str "b"])) p1 = some (.tup [.str "has", xv, .str "b"]) := upd_same
      replace S := S.kp0 k1
      replace ht := ht.kp k1
      replace hf := hf.kp k1
      generalize upd H3 p1 (.tup [.str "has", xv, .str "b"]) = H4 at k1 q1 S ht hf ⊢
      have e1 : TV ns fs kTruth 2 381 H4 (.ref p1) := S.x.has q1 (by decide +kernel) (by decide +kernel) (by omega) (by omega)
      refine ⟨by show 3 ≤ sizeLine; decide, fun p2 np2 => ?_⟩
      have k2 : Kp [] H4 (upd H4 p2 (.lst [fv, fv, .ref p1])) := .new np2
      have f2 := S.D.fresh np2
      refine ⟨d, l, p2, _, rfl, (S.kp0 k2).D, sql_of upd_same, by simp, by show 3 ≤ 1000000; decide, f2.1, f2.2, fun y2 H5 hy2 D2 ky2 => ?_⟩
      have kk2 : Kp [d, l] H4 H5 := (k2.more (by simp)).trans ky2
      replace S := S.go kk2 D2
      replace ht := ht.kp kk2
      replace hf := hf.kp kk2
      replace e1 := e1.kp kk2
      have hy : TV ns fs kTruth 2 381 H5 y2 := by
        simp only [List.mem_cons, List.not_mem_nil, or_false] at hy2
        rcases hy2 with rfl | rfl | rfl
        · exact hf.up (by omega) (by omega)
        · exact hf.up (by omega) (by omega)
        · exact e1
      refine ⟨_, rfl, _, rfl, C, _, _, _, rfl, rfl, sql_of S.c, atI_nat (j := 0) rfl, _, rfl, C, _, _, _, rfl, rfl, sql_of S.c, atI_nat (j := 1) rfl, by show 3 ≤ sizeLine; decide, fun p3 np3 => ?_⟩
      have k3 : Kp [] H5 (upd H5 p3 (.tup [.str g, c0, c1])) := .new np3
      have q3 : (upd H5 p3 (.tup [.str g, c0, c1])) p3 = some (.tup [.str g, c0, c1]) := upd_same
      replace S := S.kp0 k3
      replace ht := ht.kp k3
      replace hy := hy.kp k3
      generalize upd H5 p3 (.tup [.str g, c0, c1]) = H6 at k3 q3 S ht hy ⊢
      have e3 : TV ns fs kTruth 5 1801 H6 (.ref p3) := TV.both S.h0 S.h1 q3 eg ew (by omega) (by omega) (by omega)
      refine ⟨by show 4 ≤ sizeLine; decide, fun p4 np4 => ?_⟩
      have k4 : Kp [] H6 (upd H6 p4 (.tup [.str "if", tv, y2, .ref p3])) := .new np4
      have q4 : (upd H6 p4 (.tup [.str "if", tv, y2, .ref p3])) p4 = some (.tup [.str "if", tv, y2, .ref p3]) := upd_same
      replace S := S.kp0 k4
      replace ht := ht.kp k4
      replace hy := hy.kp k4
      replace e3 := e3.kp k4
      generalize upd H6 p4 (.tup [.str "if", tv, y2, .ref p3]) = H7 at k4 q4 S ht hy e3 ⊢
      exact k _ _ (by rw [efs]; exact TV.ifT ht hy e3 q4 (by omega) (by omega) (by omega) (by omega)) S.D S.k
    obtain ⟨t6, d6, r6⟩ : ∃ tt, PSs (cxOf CX0 Pr w K mg base NLd "_law_led_body" (defScope sLed) (A 56) cdv Ar outer s H E).nox ((defBody sLed).drop 6) tt ∧
        ∀ (De : Ends) (H3 : Hp) (xv tv c0 c1 : V) (C : Addr) (x6 x7 x8 x9 x10 x12 x13 x15 x16 x17 x18 x19 : Option V), De.rt = Q → kd = kTruth → LS ns fs kd d l C xv c0 c1 H H3 → TV ns fs kTruth 3 848 H3 tv →
        tt De [some (.ref d), some (.ref nt), some (.str kd), some (.ref fl), some (.ref ow), some xv, x6, x7, x8, x9, x10, some (.ref C), x12, x13, some tv, x15, x16, x17, x18, x19] H3 := by
      refine ⟨_, (pss_cons (ps_set (i := 16) scLed.nd rfl (.inl rfl) (pe_call (ok_pick L.pick.F B L.draw) hr2 (by rfl) L.pick.g L.pick.F.kp L.pick.b .nil pass0 (pa_cons (pv 0) (pa_cons (pe_lst (pa_cons pe_str (pa_cons pe_str pa_nil))) pa_nil)))) (pss_cons (ps_set (i := 17) scLed.nd rfl (.inl rfl) (pe_ifExp (pt_cmpR op_eq (pe_cmpR op_eq (pv 16) pe_str (nomark _)) (pe_cmpR op_gt (pe_call (ok_draw L.draw.F B) hr1 (by rfl) L.draw.g L.draw.F.kp L.draw.b .nil pass0 (pa_cons (pv 0) (pa_cons pe_int pa_nil))) pe_int (nomark _)) (nomark _)) (pe_tup (pa_cons pe_str pa_nil)) (pe_tup (pa_cons pe_str pa_nil)))) d8)), ?_⟩
      intro De H3 xv tv c0 c1 C x6 x7 x8 x9 x10 x12 x13 x15 x16 x17 x18 x19 eD ek S ht
      refine ⟨_, rfl, by show 2 ≤ sizeLine; decide, fun p1 np1 => ?_⟩
      have k1 : Kp [] H3 (upd H3 p1 (.lst [.str "and", .str "or"])) := .new np1
      have f1 := S.D.fresh np1
      refine ⟨d, l, p1, _, rfl, (S.kp0 k1).D, sql_of upd_same, by simp, by show 2 ≤ 1000000; decide, f1.1, f1.2, fun y1 H4 hy1 D1 ky1 => ?_⟩
      have kk1 : Kp [d, l] H3 H4 := (k1.more (by simp)).trans ky1
      replace S := S.go kk1 D1
      replace ht := ht.kp kk1
      obtain ⟨g, hgm, rfl⟩ : ∃ g : Str, g ∈ (["and", "or"] : List Str) ∧ y1 = V.str g := by
        simp only [List.mem_cons, List.not_mem_nil, or_false] at hy1
        rcases hy1 with rfl | rfl
        · exact ⟨"and", by simp, rfl⟩
        · exact ⟨"or", by simp, rfl⟩
      obtain ⟨ea, ew⟩ := (by decide +kernel : ∀ g ∈ (["and", "or"] : List Str), (g, 2) ∈ truthT ∧ wd (.str g) ≤ 100) g hgm
      refine ⟨_, rfl, rfl, _, rfl, d, l, 4, rfl, S.D, by decide, by decide, fun r H5 r0 r1 D5 k5 => ?_⟩
      replace S := S.go k5 D5
      replace ht := ht.kp k5
      refine ⟨_, _, rfl, rfl, rfl, _, rfl, ite2 (fun _ => ?_) (fun _ => ?_)⟩
      · refine ⟨by show 1 ≤ sizeLine; decide, fun p2 np2 => ?_⟩
        have k2 : Kp [] H5 (upd H5 p2 (.tup [.str "yes"])) := .new np2
        have q2 : (upd H5 p2 (.tup [.str "yes"])) p2 = some (.tup [.str "yes"]) := upd_same
        replace S := S.kp0 k2
        replace ht := ht.kp k2
        generalize upd H5 p2 (.tup [.str "yes"]) = H6 at k2 q2 S ht ⊢
        exact r8 _ H6 xv tv c0 c1 _ g C _ _ _ _ _ _ _ _ _ _ eD ek ea ew S ht (TV.zero q2 (by decide +kernel) (by decide +kernel) (by omega) (by omega))
      · refine ⟨by show 1 ≤ sizeLine; decide, fun p2 np2 => ?_⟩
        have k2 : Kp [] H5 (upd H5 p2 (.tup [.str "no"])) := .new np2
        have q2 : (upd H5 p2 (.tup [.str "no"])) p2 = some (.tup [.str "no"]) := upd_same
        replace S := S.kp0 k2
        replace ht := ht.kp k2
        generalize upd H5 p2 (.tup [.str "no"]) = H6 at k2 q2 S ht ⊢
        exact r8 _ H6 xv tv c0 c1 _ g C _ _ _ _ _ _ _ _ _ _ eD ek ea ew S ht (TV.zero q2 (by decide +kernel) (by decide +kernel) (by omega) (by omega))
    obtain ⟨tP, dP, rP⟩ : ∃ tt, PSs (cxOf CX0 Pr w K mg base NLd "_law_led_body" (defScope sLed) (A 56) cdv Ar outer s H E).nox (ib ((defBody sLed).getD 5 noSt)) tt ∧
        ∀ (De : Ends) (H3 : Hp) (xv tv c0 c1 : V) (C : Addr) (x6 x7 x8 x9 x10 x12 x13 x15 x16 x17 x18 x19 : Option V), De.rt = Q → kd = kPlace → LS ns fs kd d l C xv c0 c1 H H3 → TV ns fs kTruth 3 848 H3 tv →
        tt De [some (.ref d), some (.ref nt), some (.str kd), some (.ref fl), some (.ref ow), some xv, x6, x7, x8, x9, x10, some (.ref C), x12, x13, some tv, x15, x16, x17, x18, x19] H3 := by
      refine ⟨_, (pss_cons (ps_set (i := 15) scLed.nd rfl (.inl rfl) (pe_call (ok_pick L.pick.F B L.draw) hr2 (by rfl) L.pick.g L.pick.F.kp L.pick.b .nil pass0 (pa_cons (pv 0) (pa_cons (pe_lst (pa_cons (pe_tup (pa_cons pe_str (pa_cons (pe_tup (pa_cons pe_str (pa_cons (pv 5) (pa_cons pe_str pa_nil)))) (pa_cons (pe_ix ix_list (pv 11) pe_int (fun _ _ => rfl)) (pa_cons (pe_ix ix_list (pv 11) pe_int (fun _ _ => rfl)) pa_nil))))) (pa_cons (pe_tup (pa_cons pe_str (pa_cons (pe_tup (pa_cons pe_str (pa_cons (pe_ix ix_list (pv 11) pe_int (fun _ _ => rfl)) (pa_cons (pe_tup (pa_cons pe_str pa_nil)) pa_nil)))) (pa_cons (pe_ix ix_list (pv 11) pe_int (fun _ _ => rfl)) (pa_cons (pe_ix ix_list (pv 11) pe_int (fun _ _ => rfl)) pa_nil))))) (pa_cons (pe_ix ix_list (pv 11) pe_int (fun _ _ => rfl)) pa_nil)))) pa_nil)))) (pss_one (ps_ret (pe_tup (pa_cons pe_str (pa_cons (pv 14) (pa_cons (pe_call (ok_pick L.pick.F B L.draw) hr2 (by rfl) L.pick.g L.pick.F.kp L.pick.b .nil pass0 (pa_cons (pv 0) (pa_cons (pe_lst (pa_cons (pv 5) (pa_cons (pe_tup (pa_cons pe_str pa_nil)) (pa_cons (pe_tup (pa_cons pe_str (pa_cons (pv 5) pa_nil))) pa_nil)))) pa_nil))) (pa_cons (pv 15) pa_nil)))))))), ?_⟩
      intro De H3 xv tv c0 c1 C x6 x7 x8 x9 x10 x12 x13 x15 x16 x17 x18 x19 eD ek S ht
      subst eD ek
      refine ⟨_, rfl, _, rfl, by show 3 ≤ sizeLine; decide, fun p1 np1 => ?_⟩
      have k1 : Kp [] H3 (upd H3 p1 (.tup [.str "has", xv, .str "ab"])) := .new np1
      have q1 : (upd H3 p1 (.tup [.str "has", xv, .str "ab"])) p1 = some (.tup [.str "has", xv, .str "ab"]) := upd_same
      replace S := S.kp0 k1
      replace ht := ht.kp k1
      generalize upd H3 p1 (.tup [.str "has", xv, .str "ab"]) = H4 at k1 q1 S ht ⊢
      have e1 : TV ns fs kTruth 2 381 H4 (.ref p1) := S.x.has q1 (by decide +kernel) (by decide +kernel) (by omega) (by omega)
      refine ⟨_, rfl, C, _, _, _, rfl, rfl, sql_of S.c, atI_nat (j := 0) rfl, _, rfl, C, _, _, _, rfl, rfl, sql_of S.c, atI_nat (j := 1) rfl, by show 4 ≤ sizeLine; decide, fun p2 np2 => ?_⟩
      have k2 : Kp [] H4 (upd H4 p2 (.tup [.str "if", .ref p1, c0, c1])) := .new np2
      have q2 : (upd H4 p2 (.tup [.str "if", .ref p1, c0, c1])) p2 = some (.tup [.str "if", .ref p1, c0, c1]) := upd_same
      replace S := S.kp0 k2
      replace ht := ht.kp k2
      replace e1 := e1.kp k2
      generalize upd H4 p2 (.tup [.str "if", .ref p1, c0, c1]) = H5 at k2 q2 S ht e1 ⊢
      have e2 : TV ns fs kPlace 6 2863 H5 (.ref p2) := TV.ifT e1 S.h0 S.h1 q2 (by omega) (by omega) (by omega) (by omega)
      refine ⟨_, rfl, C, _, _, _, rfl, rfl, sql_of S.c, atI_nat (j := 0) rfl, by show 1 ≤ sizeLine; decide, fun p3 np3 => ?_⟩
      have k3 : Kp [] H5 (upd H5 p3 (.tup [.str "top"])) := .new np3
      have q3 : (upd H5 p3 (.tup [.str "top"])) p3 = some (.tup [.str "top"]) := upd_same
      replace S := S.kp0 k3
      replace ht := ht.kp k3
      replace e2 := e2.kp k3
      generalize upd H5 p3 (.tup [.str "top"]) = H6 at k3 q3 S ht e2 ⊢
      have e3 : TV ns fs kPlace 1 105 H6 (.ref p3) := TV.zero q3 (by decide +kernel) (by decide +kernel) (by omega) (by omega)
      refine ⟨by show 3 ≤ sizeLine; decide, fun p4 np4 => ?_⟩
      have k4 : Kp [] H6 (upd H6 p4 (.tup [.str "same", c0, .ref p3])) := .new np4
      have q4 : (upd H6 p4 (.tup [.str "same", c0, .ref p3])) p4 = some (.tup [.str "same", c0, .ref p3]) := upd_same
      replace S := S.kp0 k4
      replace ht := ht.kp k4
      replace e2 := e2.kp k4
      replace e3 := e3.kp k4
      generalize upd H6 p4 (.tup [.str "same", c0, .ref p3]) = H7 at k4 q4 S ht e2 e3 ⊢
      have e4 : TV ns fs kTruth 5 1060 H7 (.ref p4) := TV.same S.h0 e3 q4 (by decide +kernel) (by decide +kernel) (by omega) (by omega) (by omega)
      refine ⟨_, rfl, C, _, _, _, rfl, rfl, sql_of S.c, atI_nat (j := 1) rfl, _, rfl, C, _, _, _, rfl, rfl, sql_of S.c, atI_nat (j := 0) rfl, by show 4 ≤ sizeLine; decide, fun p5 np5 => ?_⟩
      have k5 : Kp [] H7 (upd H7 p5 (.tup [.str "if", .ref p4, c1, c0])) := .new np5
      have q5 : (upd H7 p5 (.tup [.str "if", .ref p4, c1, c0])) p5 = some (.tup [.str "if", .ref p4, c1, c0]) := upd_same
      replace S := S.kp0 k5
      replace ht := ht.kp k5
      replace e2 := e2.kp k5
      replace e4 := e4.kp k5
      generalize upd H7 p5 (.tup [.str "if", .ref p4, c1, c0]) = H8 at k5 q5 S ht e2 e4 ⊢
      have e5 : TV ns fs kPlace 6 2863 H8 (.ref p5) := TV.ifT e4 S.h1 S.h0 q5 (by omega) (by omega) (by omega) (by omega)
      refine ⟨_, rfl, C, _, _, _, rfl, rfl, sql_of S.c, atI_nat (j := 0) rfl, by show 3 ≤ sizeLine; decide, fun p6 np6 => ?_⟩
      have k6 : Kp [] H8 (upd H8 p6 (.lst [.ref p2, .ref p5, c0])) := .new np6
      have f6 := S.D.fresh np6
      refine ⟨d, l, p6, _, rfl, (S.kp0 k6).D, sql_of upd_same, by simp, by show 3 ≤ 1000000; decide, f6.1, f6.2, fun y6 H9 hy6 D6 ky6 => ?_⟩
      have kk6 : Kp [d, l] H8 H9 := (k6.more (by simp)).trans ky6
      replace S := S.go kk6 D6
      replace ht := ht.kp kk6
      replace e2 := e2.kp kk6
      replace e5 := e5.kp kk6
      have hb : TV ns fs kPlace 6 2863 H9 y6 := by
        simp only [List.mem_cons, List.not_mem_nil, or_false] at hy6
        rcases hy6 with rfl | rfl | rfl
        · exact e2
        · exact e5
        · exact S.h0.up (by omega) (by omega)
      refine ⟨_, rfl, _, rfl, _, rfl, by show 1 ≤ sizeLine; decide, fun p7 np7 => ?_⟩
      have k7 : Kp [] H9 (upd H9 p7 (.tup [.str "top"])) := .new np7
      have q7 : (upd H9 p7 (.tup [.str "top"])) p7 = some (.tup [.str "top"]) := upd_same
      replace S := S.kp0 k7
      replace ht := ht.kp k7
      replace hb := hb.kp k7
      generalize upd H9 p7 (.tup [.str "top"]) = H10 at k7 q7 S ht hb ⊢
      have e7 : TV ns fs kPlace 1 105 H10 (.ref p7) := TV.zero q7 (by decide +kernel) (by decide +kernel) (by omega) (by omega)
      refine ⟨_, rfl, by show 2 ≤ sizeLine; decide, fun p8 np8 => ?_⟩
      have k8 : Kp [] H10 (upd H10 p8 (.tup [.str "up", xv])) := .new np8
      have q8 : (upd H10 p8 (.tup [.str "up", xv])) p8 = some (.tup [.str "up", xv]) := upd_same
      replace S := S.kp0 k8
      replace ht := ht.kp k8
      replace hb := hb.kp k8
      replace e7 := e7.kp k8
      generalize upd H10 p8 (.tup [.str "up", xv]) = H11 at k8 q8 S ht hb e7 ⊢
      have e8 : TV ns fs kPlace 2 358 H11 (.ref p8) := TV.one S.x q8 (by decide +kernel) (by decide +kernel) (by omega) (by omega)
      refine ⟨by show 3 ≤ sizeLine; decide, fun p9 np9 => ?_⟩
      have k9 : Kp [] H11 (upd H11 p9 (.lst [xv, .ref p7, .ref p8])) := .new np9
      have f9 := S.D.fresh np9
      refine ⟨d, l, p9, _, rfl, (S.kp0 k9).D, sql_of upd_same, by simp, by show 3 ≤ 1000000; decide, f9.1, f9.2, fun y9 H12 hy9 D9 ky9 => ?_⟩
      have kk9 : Kp [d, l] H11 H12 := (k9.more (by simp)).trans ky9
      replace S := S.go kk9 D9
      replace ht := ht.kp kk9
      replace hb := hb.kp kk9
      replace e7 := e7.kp kk9
      replace e8 := e8.kp kk9
      have hc : TV ns fs kPlace 2 358 H12 y9 := by
        simp only [List.mem_cons, List.not_mem_nil, or_false] at hy9
        rcases hy9 with rfl | rfl | rfl
        · exact S.x.up (by omega) (by omega)
        · exact e7.up (by omega) (by omega)
        · exact e8
      refine ⟨_, rfl, by show 4 ≤ sizeLine; decide, fun p10 np10 => ?_⟩
      have k10 : Kp [] H12 (upd H12 p10 (.tup [.str "if", tv, y9, y6])) := .new np10
      have q10 : (upd H12 p10 (.tup [.str "if", tv, y9, y6])) p10 = some (.tup [.str "if", tv, y9, y6]) := upd_same
      replace S := S.kp0 k10
      replace ht := ht.kp k10
      replace hb := hb.kp k10
      replace hc := hc.kp k10
      generalize upd H12 p10 (.tup [.str "if", tv, y9, y6]) = H13 at k10 q10 S ht hb hc ⊢
      exact k _ _ (by rw [efs]; exact TV.ifT ht hc hb q10 (by omega) (by omega) (by omega) (by omega)) S.D S.k
    obtain ⟨t4, d4, r4⟩ : ∃ tt, PSs (cxOf CX0 Pr w K mg base NLd "_law_led_body" (defScope sLed) (A 56) cdv Ar outer s H E).nox ((defBody sLed).drop 4) tt ∧
        ∀ (De : Ends) (H3 : Hp) (xv c0 c1 : V) (C : Addr) (x6 x7 x8 x9 x10 x12 x13 x14 x15 x16 x17 x18 x19 : Option V), De.rt = Q → LS ns fs kd d l C xv c0 c1 H H3 →
        tt De [some (.ref d), some (.ref nt), some (.str kd), some (.ref fl), some (.ref ow), some xv, x6, x7, x8, x9, x10, some (.ref C), x12, x13, x14, x15, x16, x17, x18, x19] H3 := by
      refine ⟨_, (pss_cons (ps_set (i := 14) scLed.nd rfl (.inl rfl) (pe_call (ok_pick L.pick.F B L.draw) hr2 (by rfl) L.pick.g L.pick.F.kp L.pick.b .nil pass0 (pa_cons (pv 0) (pa_cons (pe_op op_cat (pe_op op_rep (pe_lst (pa_cons (pe_tup (pa_cons pe_str (pa_cons (pv 5) pa_nil))) pa_nil)) pe_int) (pe_lst (pa_cons (pe_tup (pa_cons pe_str (pa_cons (pv 5) (pa_cons pe_str pa_nil)))) (pa_cons (pe_tup (pa_cons pe_str (pa_cons (pv 5) (pa_cons (pe_tup (pa_cons pe_str pa_nil)) pa_nil)))) (pa_cons (pe_tup (pa_cons pe_str (pa_cons (pe_tup (pa_cons pe_str (pa_cons (pv 5) pa_nil))) pa_nil))) (pa_cons (pe_tup (pa_cons pe_str (pa_cons (pe_tup (pa_cons pe_str (pa_cons (pv 5) pa_nil))) (pa_cons (pe_tup (pa_cons pe_str (pa_cons (pv 5) (pa_cons pe_str pa_nil)))) pa_nil)))) pa_nil)))))) pa_nil)))) (pss_cons (ps_if (pt_cmpR op_eq (pv 2) pe_str (nomark _)) dP pss_nil) d6)), ?_⟩
      intro De H3 xv c0 c1 C x6 x7 x8 x9 x10 x12 x13 x14 x15 x16 x17 x18 x19 eD S
      refine ⟨_, rfl, _, rfl, by show 2 ≤ sizeLine; decide, fun p1 np1 => ?_⟩
      have k1 : Kp [] H3 (upd H3 p1 (.tup [.str "empty", xv])) := .new np1
      have q1 : (upd H3 p1 (.tup [.str "empty", xv])) p1 = some (.tup [.str "empty", xv]) := upd_same
      replace S := S.kp0 k1
      generalize upd H3 p1 (.tup [.str "empty", xv]) = H4 at k1 q1 S ⊢
      have e1 : TV ns fs kTruth 3 848 H4 (.ref p1) := TV.one S.x q1 (by decide +kernel) (by decide +kernel) (by omega) (by omega)
      refine ⟨by show 1 ≤ sizeLine; decide, fun p2 np2 => ?_⟩
      have k2 : Kp [] H4 (upd H4 p2 (.lst [.ref p1])) := .new np2
      have q2 : (upd H4 p2 (.lst [.ref p1])) p2 = some (.lst [.ref p1]) := upd_same
      replace S := S.kp0 k2
      replace e1 := e1.kp k2
      generalize upd H4 p2 (.lst [.ref p1]) = H5 at k2 q2 S e1 ⊢
      refine ⟨_, _, _, rfl, rfl, q2, by decide, by decide, by show 1 * (6 : Int).toNat ≤ sizeLine; decide, fun p3 np3 => ?_⟩
      rw [show (List.replicate (Int.toNat 6) [V.ref p1]).flatten = [.ref p1, .ref p1, .ref p1, .ref p1, .ref p1, .ref p1] from rfl]
      have k3 : Kp [] H5 (upd H5 p3 (.lst [.ref p1, .ref p1, .ref p1, .ref p1, .ref p1, .ref p1])) := .new np3
      have q3 : (upd H5 p3 (.lst [.ref p1, .ref p1, .ref p1, .ref p1, .ref p1, .ref p1])) p3 = some (.lst [.ref p1, .ref p1, .ref p1, .ref p1, .ref p1, .ref p1]) := upd_same
      replace S := S.kp0 k3
      replace e1 := e1.kp k3
      generalize upd H5 p3 (.lst [.ref p1, .ref p1, .ref p1, .ref p1, .ref p1, .ref p1]) = H6 at k3 q3 S e1 ⊢
      refine ⟨_, rfl, by show 3 ≤ sizeLine; decide, fun p4 np4 => ?_⟩
      have k4 : Kp [] H6 (upd H6 p4 (.tup [.str "has", xv, .str "a"])) := .new np4
      have q4 : (upd H6 p4 (.tup [.str "has", xv, .str "a"])) p4 = some (.tup [.str "has", xv, .str "a"]) := upd_same
      replace S := S.kp0 k4
      replace e1 := e1.kp k4
      generalize upd H6 p4 (.tup [.str "has", xv, .str "a"]) = H7 at k4 q4 S e1 ⊢
      replace q3 := k4.at_ _ _ q3 (by simp)
      have e4 : TV ns fs kTruth 3 848 H7 (.ref p4) := (S.x.has (n := 2) (m := 381) q4 (by decide +kernel) (by decide +kernel) (by omega) (by omega)).up (by omega) (by omega)
      refine ⟨_, rfl, by show 1 ≤ sizeLine; decide, fun p5 np5 => ?_⟩
      have k5 : Kp [] H7 (upd H7 p5 (.tup [.str "top"])) := .new np5
      have q5 : (upd H7 p5 (.tup [.str "top"])) p5 = some (.tup [.str "top"]) := upd_same
      replace S := S.kp0 k5
      replace e1 := e1.kp k5
      replace e4 := e4.kp k5
      generalize upd H7 p5 (.tup [.str "top"]) = H8 at k5 q5 S e1 e4 ⊢
      replace q3 := k5.at_ _ _ q3 (by simp)
      have e5 : TV ns fs kPlace 1 105 H8 (.ref p5) := TV.zero q5 (by decide +kernel) (by decide +kernel) (by omega) (by omega)
      refine ⟨by show 3 ≤ sizeLine; decide, fun p6 np6 => ?_⟩
      have k6 : Kp [] H8 (upd H8 p6 (.tup [.str "same", xv, .ref p5])) := .new np6
      have q6 : (upd H8 p6 (.tup [.str "same", xv, .ref p5])) p6 = some (.tup [.str "same", xv, .ref p5]) := upd_same
      replace S := S.kp0 k6
      replace e1 := e1.kp k6
      replace e4 := e4.kp k6
      replace e5 := e5.kp k6
      generalize upd H8 p6 (.tup [.str "same", xv, .ref p5]) = H9 at k6 q6 S e1 e4 e5 ⊢
      replace q3 := k6.at_ _ _ q3 (by simp)
      have e6 : TV ns fs kTruth 3 848 H9 (.ref p6) := TV.same S.x e5 q6 (by decide +kernel) (by decide +kernel) (by omega) (by omega) (by omega)
      refine ⟨_, rfl, by show 2 ≤ sizeLine; decide, fun p7 np7 => ?_⟩
      have k7 : Kp [] H9 (upd H9 p7 (.tup [.str "left", xv])) := .new np7
      have q7 : (upd H9 p7 (.tup [.str "left", xv])) p7 = some (.tup [.str "left", xv]) := upd_same
      replace S := S.kp0 k7
      replace e1 := e1.kp k7
      replace e4 := e4.kp k7
      replace e6 := e6.kp k7
      generalize upd H9 p7 (.tup [.str "left", xv]) = H10 at k7 q7 S e1 e4 e6 ⊢
      replace q3 := k7.at_ _ _ q3 (by simp)
      have e7 : TV ns fs kPlace 2 358 H10 (.ref p7) := TV.one S.x q7 (by decide +kernel) (by decide +kernel) (by omega) (by omega)
      refine ⟨by show 2 ≤ sizeLine; decide, fun p8 np8 => ?_⟩
      have k8 : Kp [] H10 (upd H10 p8 (.tup [.str "empty", .ref p7])) := .new np8
      have q8 : (upd H10 p8 (.tup [.str "empty", .ref p7])) p8 = some (.tup [.str "empty", .ref p7]) := upd_same
      replace S := S.kp0 k8
      replace e1 := e1.kp k8
      replace e4 := e4.kp k8
      replace e6 := e6.kp k8
      replace e7 := e7.kp k8
      generalize upd H10 p8 (.tup [.str "empty", .ref p7]) = H11 at k8 q8 S e1 e4 e6 e7 ⊢
      replace q3 := k8.at_ _ _ q3 (by simp)
      have e8 : TV ns fs kTruth 3 848 H11 (.ref p8) := TV.one e7 q8 (by decide +kernel) (by decide +kernel) (by omega) (by omega)
      refine ⟨_, rfl, by show 2 ≤ sizeLine; decide, fun p9 np9 => ?_⟩
      have k9 : Kp [] H11 (upd H11 p9 (.tup [.str "empty", xv])) := .new np9
      have q9 : (upd H11 p9 (.tup [.str "empty", xv])) p9 = some (.tup [.str "empty", xv]) := upd_same
      replace S := S.kp0 k9
      replace e1 := e1.kp k9
      replace e4 := e4.kp k9
      replace e6 := e6.kp k9
      replace e8 := e8.kp k9
      generalize upd H11 p9 (.tup [.str "empty", xv]) = H12 at k9 q9 S e1 e4 e6 e8 ⊢
      replace q3 := k9.at_ _ _ q3 (by simp)
      have e9 : TV ns fs kTruth 2 358 H12 (.ref p9) := TV.one S.x q9 (by decide +kernel) (by decide +kernel) (by omega) (by omega)
      refine ⟨_, rfl, by show 3 ≤ sizeLine; decide, fun p10 np10 => ?_⟩
      have k10 : Kp [] H12 (upd H12 p10 (.tup [.str "has", xv, .str "b"])) := .new np10
      have q10 : (upd H12 p10 (.tup [.str "has", xv, .str "b"])) p10 = some (.tup [.str "has", xv, .str "b"]) := upd_same
      replace S := S.kp0 k10
      replace e1 := e1.kp k10
      replace e4 := e4.kp k10
      replace e6 := e6.kp k10
      replace e8 := e8.kp k10
      replace e9 := e9.kp k10
      generalize upd H12 p10 (.tup [.str "has", xv, .str "b"]) = H13 at k10 q10 S e1 e4 e6 e8 e9 ⊢
      replace q3 := k10.at_ _ _ q3 (by simp)
      have e10 : TV ns fs kTruth 2 381 H13 (.ref p10) := S.x.has q10 (by decide +kernel) (by decide +kernel) (by omega) (by omega)
      refine ⟨by show 3 ≤ sizeLine; decide, fun p11 np11 => ?_⟩
      have k11 : Kp [] H13 (upd H13 p11 (.tup [.str "or", .ref p9, .ref p10])) := .new np11
      have q11 : (upd H13 p11 (.tup [.str "or", .ref p9, .ref p10])) p11 = some (.tup [.str "or", .ref p9, .ref p10]) := upd_same
      replace S := S.kp0 k11
      replace e1 := e1.kp k11
      replace e4 := e4.kp k11
      replace e6 := e6.kp k11
      replace e8 := e8.kp k11
      replace e9 := e9.kp k11
      replace e10 := e10.kp k11
      generalize upd H13 p11 (.tup [.str "or", .ref p9, .ref p10]) = H14 at k11 q11 S e1 e4 e6 e8 e9 e10 ⊢
      replace q3 := k11.at_ _ _ q3 (by simp)
      have e11 : TV ns fs kTruth 3 848 H14 (.ref p11) := TV.both e9 e10 q11 (by decide +kernel) (by decide +kernel) (by omega) (by omega) (by omega)
      refine ⟨by show 4 ≤ sizeLine; decide, fun p12 np12 => ?_⟩
      have k12 : Kp [] H14 (upd H14 p12 (.lst [.ref p4, .ref p6, .ref p8, .ref p11])) := .new np12
      have q12 : (upd H14 p12 (.lst [.ref p4, .ref p6, .ref p8, .ref p11])) p12 = some (.lst [.ref p4, .ref p6, .ref p8, .ref p11]) := upd_same
      replace S := S.kp0 k12
      replace e1 := e1.kp k12
      replace e4 := e4.kp k12
      replace e6 := e6.kp k12
      replace e8 := e8.kp k12
      replace e11 := e11.kp k12
      generalize upd H14 p12 (.lst [.ref p4, .ref p6, .ref p8, .ref p11]) = H15 at k12 q12 S e1 e4 e6 e8 e11 ⊢
      replace q3 := k12.at_ _ _ q3 (by simp)
      refine ⟨_, _, _, _, rfl, rfl, q3, q12, by show 10 ≤ sizeLine; decide, fun p13 np13 => ?_⟩
      rw [show [V.ref p1, .ref p1, .ref p1, .ref p1, .ref p1, .ref p1] ++ [.ref p4, .ref p6, .ref p8, .ref p11] = [.ref p1, .ref p1, .ref p1, .ref p1, .ref p1, .ref p1, .ref p4, .ref p6, .ref p8, .ref p11] from rfl]
      have k13 : Kp [] H15 (upd H15 p13 (.lst [.ref p1, .ref p1, .ref p1, .ref p1, .ref p1, .ref p1, .ref p4, .ref p6, .ref p8, .ref p11])) := .new np13
      have f13 := S.D.fresh np13
      refine ⟨d, l, p13, _, rfl, (S.kp0 k13).D, sql_of upd_same, by simp, by show 10 ≤ 1000000; decide, f13.1, f13.2, fun y13 H16 hy13 D13 ky13 => ?_⟩
      have kk13 : Kp [d, l] H15 H16 := (k13.more (by simp)).trans ky13
      replace S := S.go kk13 D13
      replace e1 := e1.kp kk13
      replace e4 := e4.kp kk13
      replace e6 := e6.kp kk13
      replace e8 := e8.kp kk13
      replace e11 := e11.kp kk13
      have ht : TV ns fs kTruth 3 848 H16 y13 := by
        simp only [List.mem_cons, List.not_mem_nil, or_false] at hy13
        rcases hy13 with rfl | rfl | rfl | rfl | rfl | rfl | rfl | rfl | rfl | rfl
        all_goals first | exact e1 | exact e4 | exact e6 | exact e8 | exact e11
      refine ⟨_, rfl, rfl, _, rfl, ite2 (fun q => ?_) (fun q => ?_)⟩
      · exact rP _ H16 xv y13 c0 c1 C _ _ _ _ _ _ _ _ _ _ _ _ eD (V.str.inj (of_decide_eq_true q)) S ht
      · exact r6 _ H16 xv y13 c0 c1 C _ _ _ _ _ _ _ _ _ _ _ _ eD (hk.resolve_left fun e => q (decide_eq_true (by rw [e]; rfl))) S ht
    obtain ⟨t3, d3, r3⟩ : ∃ tt, PSs (cxOf CX0 Pr w K mg base NLd "_law_led_body" (defScope sLed) (A 56) cdv Ar outer s H E).nox ((defBody sLed).drop 3) tt ∧
        ∀ (De : Ends) (H3 : Hp) (xv wv : V) (C : Addr) (hd : Hd) (x6 x8 x12 x13 x14 x15 x16 x17 x18 x19 : Option V), De.rt = Q → hd ∈ hs → hd.kd = kd → 0 < hd.many → WayV H3 wv → LW ns fs kd d l C xv [] H H3 → H C = none →
        tt De [some (.ref d), some (.ref nt), some (.str kd), some (.ref fl), some (.ref ow), some xv, x6, some (.str hd.nm), x8, some (.int (hd.many : Int)), some wv, some (.ref C), x12, x13, x14, x15, x16, x17, x18, x19] H3 := by
      refine ⟨_, (pss_cons (ps_for PassesOwn.never rfl (pi_tup (pv 10)) (pg_name (i := 12) scLed.nd rfl (.inl rfl)) (pss_cons (ps_setLc (i := 13) (own := [("_law_k", 19)]) (g := gName 19) (tt := tYes) (by rfl) scLed.nd rfl rfl (sw_true rfl rfl rfl (by decide +kernel)) (pi_range1 (by rfl) B.range (pa_cons (pe_op op_sub (pv 9) pe_int) pa_nil)) (blkOk_by (N := NLd) (sc := defScope sLed) (by decide +kernel)) (fun _ _ _ _ _ => pg_name (i := 19) scLed.nd rfl (Or.inl rfl)) (fun _ _ _ _ _ => pts_nil) (fun _ _ _ _ _ => (pe_tup (pa_cons pe_str (pa_cons (pe_call (ok_pick L.pick.F B L.draw) hr2 (by rfl) L.pick.g L.pick.F.kp L.pick.b .nil pass0 (pa_cons (pv 0) (pa_cons (pe_callTy (r := rListOf K) call_list_of (by rfl) B.list (by decide +kernel) (pa_cons (pv 1) pa_nil)) pa_nil))) pa_nil))))) (pss_one (ps_expr (pe_bm PySem.F.plainAttrs_list PySem.F.slot_list_append PySem.F.type_list_append mt_append (pv 11) (pa_cons (pe_tup (pa_cons pe_str (pa_cons (pv 7) (pa_cons (pe_callTy call_tuple_of (by rfl) B.tuple (by decide +kernel) (pa_cons (pe_op op_cat (pe_lst (pa_cons (pe_tup (pa_cons (pv 12) (pa_cons (pv 5) pa_nil))) pa_nil)) (pv 13)) pa_nil)) pa_nil)))) pa_nil)))))) d4), ?_⟩
      intro De H3 xv wv C hd x6 x8 x12 x13 x14 x15 x16 x17 x18 x19 eD hm ek hp hw S nC
      obtain ⟨wr, a, b, rfl, ew, ha, hb⟩ := hw
      obtain ⟨hn1, hn2, hn3⟩ := hhs hd hm
      refine ⟨_, rfl, wr, rfl, ⟨_, sqt_of ew⟩, for_tup (K := K) (a := wr) (xs := [.str a, .str b]) (fun i σ G => ∃ (x6 x8 x12 x13 x14 x15 x16 x17 x18 x19 : Option V) (cs : List V), σ = [some (.ref d), some (.ref nt), some (.str kd), some (.ref fl), some (.ref ow), some xv, x6, some (.str hd.nm), x8, some (.int (hd.many : Int)), some (.ref wr), some (.ref C), x12, x13, x14, x15, x16, x17, x18, x19] ∧ LW ns fs kd d l C xv cs H G ∧ cs.length = i ∧ G wr = some (.tup [.str a, .str b]))
        ⟨_, _, _, _, _, _, _, _, _, _, [], rfl, S, rfl, ew⟩ (fun i σ G _ h => by
          obtain ⟨_, _, _, _, _, _, _, _, _, _, _, _, _, _, h⟩ := h
          exact sqt_of h) ?_ ?_⟩
      · rintro i x σ G hx ⟨x6, x8, x12, x13, x14, x15, x16, x17, x18, x19, cs, rfl, S, hl, ew⟩
        have hi : i < 2 := (List.getElem?_eq_some_iff.mp hx).1
        obtain ⟨g, rfl, hg1, hg2⟩ : ∃ g, x = V.str g ∧ (g, kPlace, 1) ∈ plainT ∧ wd (.str g) ≤ 100 := by
          match i, hx with
          | 0, hx =>
            cases hx
            exact ⟨a, rfl, ha⟩
          | 1, hx =>
            cases hx
            exact ⟨b, rfl, hb⟩
          | (_ + 2), hx => cases hx
        refine ⟨_, rfl, _, _, rfl, rfl, ((hd.many : Int) - 1), rfl, by omega, by omega, ?_⟩
        obtain ⟨mm, emm⟩ : ∃ mm : Nat, ((hd.many : Int) - 1).toNat = mm := ⟨_, rfl⟩
        have emn : mm + 1 = hd.many := by omega
        rw [emm]
        intro Dq nD
        have nq := S.D.fresh nD
        have nqC : Dq ≠ C := (ne_of_none S.c nD).symm
        have nDH : H Dq = none := S.k.free nD (by simp [nq])
        refine lc_range (lo := 0) (n := mm) (fun j G' => ∃ acc : List V, G' Dq = some (.lst acc) ∧ TVs ns fs kPlace 2 358 G' acc ∧ acc.length = j ∧ LW ns fs kd d l C xv cs H G' ∧ G' wr = some (.tup [.str a, .str b]))
          ⟨[], upd_same, .nil, rfl, S.kp0 (.new nD), (Kp.new (ms := []) nD).tup _ _ ew⟩ ?_ ?_
        · rintro j G1 hj ⟨acc, hD, hA, hl1, S1, ew1⟩
          have hnt1 := S1.k.tup _ _ hnt
          refine ⟨rfl, _, rfl, _, rfl, nt, _, rfl, .inr (sqt_of hnt1), fun p1 np1 => ?_⟩
          have k1 : Kp [] G1 (upd G1 p1 (.lst (ns.map V.str))) := .new np1
          have f1 := S1.D.fresh np1
          refine ⟨d, l, p1, _, rfl, (S1.kp0 k1).D, sql_of upd_same, by simpa using hne, by rw [List.length_map]; omega, f1.1, f1.2, fun y1 G2 hy1 D1 ky1 => ?_⟩
          have kk1 : Kp [d, l] G1 G2 := (k1.more (by simp)).trans ky1
          have S2 := S1.go kk1 D1
          obtain ⟨g2, hg2, rfl⟩ := List.mem_map.mp hy1
          refine ⟨by show 2 ≤ sizeLine; decide, fun p2 np2 => ?_⟩
          have k2 : Kp [] G2 (upd G2 p2 (.tup [.str "name", .str g2])) := .new np2
          have e2 : TV ns fs kPlace 2 358 (upd G2 p2 (.tup [.str "name", .str g2])) (.ref p2) := TV.name (g := g2) upd_same (hns g2 hg2) hg2 (by omega) (by omega)
          have S3 := S2.kp0 k2
          have hD3 : (upd G2 p2 (.tup [.str "name", .str g2])) Dq = some (.lst acc) := k2.at_ _ _ (kk1.at_ _ _ hD (by simp [nq])) (by simp)
          have hA3 := (hA.kp kk1).kp k2
          have ew3 := k2.tup _ _ (kk1.tup _ _ ew1)
          generalize upd G2 p2 (.tup [.str "name", .str g2]) = G3 at e2 S3 hD3 hA3 ew3 ⊢
          have kD : Kp [Dq] G3 (upd G3 Dq (.lst (acc ++ [.ref p2]))) := .put (by simp) hD3 (fun _ z => by cases z)
          refine ⟨acc, hD3, Nat.lt_of_le_of_lt (show acc.length ≤ 3 by omega) (by decide), acc ++ [.ref p2], upd_same, (hA3.kp kD).snoc (e2.kp kD), by rw [List.length_append, hl1]; rfl, ⟨S3.x.kp kD, kD.at_ _ _ S3.c (by simp [nqC.symm]), S3.cv.kp kD, S3.D.kp kD (by simp [nq.1.symm]) (by simp [nq.2.symm]), S3.nd, S3.nl, S3.k.own nDH⟩, kD.tup _ _ ew3⟩
        · rintro G1 ⟨acc, hD, hA, hl1, S1, ew1⟩
          refine ⟨_, rfl, .inl ⟨rfl, _, sql_of S1.c⟩, _, rfl, _, rfl, _, rfl, by show 2 ≤ sizeLine; decide, fun p1 np1 => ?_⟩
          replace S := S1
          have k1 : Kp [] G1 (upd G1 p1 (.tup [.str g, xv])) := .new np1
          have q1 : (upd G1 p1 (.tup [.str g, xv])) p1 = some (.tup [.str g, xv]) := upd_same
          replace S := S.kp0 k1
          replace hA := hA.kp k1
          generalize upd G1 p1 (.tup [.str g, xv]) = G2 at k1 q1 S hA ⊢
          replace hD := k1.at_ _ _ hD (by simp)
          replace ew1 := k1.tup _ _ ew1
          have e1 : TV ns fs kPlace 2 358 G2 (.ref p1) := TV.one S.x q1 hg1 hg2 (by omega) (by omega)
          refine ⟨by show 1 ≤ sizeLine; decide, fun p2 np2 => ?_⟩
          have k2 : Kp [] G2 (upd G2 p2 (.lst [.ref p1])) := .new np2
          have q2 : (upd G2 p2 (.lst [.ref p1])) p2 = some (.lst [.ref p1]) := upd_same
          replace S := S.kp0 k2
          replace hA := hA.kp k2
          replace e1 := e1.kp k2
          generalize upd G2 p2 (.lst [.ref p1]) = G3 at k2 q2 S hA e1 ⊢
          replace hD := k2.at_ _ _ hD (by simp)
          replace ew1 := k2.tup _ _ ew1
          refine ⟨_, rfl, _, _, _, _, rfl, rfl, q2, hD, Nat.le_trans (show 1 + acc.length ≤ 4 by omega) (by decide), fun p3 np3 => ?_⟩
          rw [show [V.ref p1] ++ acc = V.ref p1 :: acc from rfl]
          have hB : TVs ns fs kPlace 2 358 G3 (.ref p1 :: acc) := .cons e1 hA
          have k3 : Kp [] G3 (upd G3 p3 (.lst (V.ref p1 :: acc))) := .new np3
          have q3 : (upd G3 p3 (.lst (V.ref p1 :: acc))) p3 = some (.lst (V.ref p1 :: acc)) := upd_same
          replace S := S.kp0 k3
          replace hB := hB.kp k3
          generalize upd G3 p3 (.lst (V.ref p1 :: acc)) = G4 at k3 q3 S hB ⊢
          replace ew1 := k3.tup _ _ ew1
          refine ⟨_, _, rfl, .inl ⟨sql_of q3, fun p4 np4 => ?_⟩⟩
          have k4 : Kp [] G4 (upd G4 p4 (.tup (V.ref p1 :: acc))) := .new np4
          have q4 : (upd G4 p4 (.tup (V.ref p1 :: acc))) p4 = some (.tup (V.ref p1 :: acc)) := upd_same
          replace S := S.kp0 k4
          replace hB := hB.kp k4
          generalize upd G4 p4 (.tup (V.ref p1 :: acc)) = G5 at k4 q4 S hB ⊢
          replace ew1 := k4.tup _ _ ew1
          refine ⟨by show 3 ≤ sizeLine; decide, fun p5 np5 => ?_⟩
          have k5 : Kp [] G5 (upd G5 p5 (.tup [.str "call", .str hd.nm, .ref p4])) := .new np5
          have q5 : (upd G5 p5 (.tup [.str "call", .str hd.nm, .ref p4])) p5 = some (.tup [.str "call", .str hd.nm, .ref p4]) := upd_same
          replace S := S.kp0 k5
          replace hB := hB.kp k5
          generalize upd G5 p5 (.tup [.str "call", .str hd.nm, .ref p4]) = G6 at k5 q5 S hB ⊢
          replace ew1 := k5.tup _ _ ew1
          replace q4 := k5.tup _ _ q4
          have e5 : TV ns fs kd 4 846 G6 (.ref p5) := by
            rw [← efs] at hB ⊢
            rw [← ek]
            exact TV.call hnd hm hn1 hn2 hB q5 q4 (by rw [List.length_cons]; omega) hn3 (by omega) (by omega)
          have kC : Kp [C] G6 (upd G6 C (.lst (cs ++ [.ref p5]))) := .put (by simp) S.c (fun _ z => by cases z)
          refine ⟨C, _, _, rfl, rfl, S.c, Nat.lt_of_le_of_lt (show cs.length ≤ 3 by omega) (by decide), _, _, _, _, _, _, _, _, _, _, cs ++ [.ref p5], rfl, ⟨S.x.kp kC, upd_same, (S.cv.kp kC).snoc (e5.kp kC), S.D.kp kC (by simp [S.nd.symm]) (by simp [S.nl.symm]), S.nd, S.nl, S.k.own nC⟩, by rw [List.length_append, hl]; rfl, kC.tup _ _ ew1⟩
      · rintro σ G ⟨x6, x8, x12, x13, x14, x15, x16, x17, x18, x19, cs, rfl, S, hl, ew⟩
        obtain ⟨c0, c1, rfl⟩ : ∃ c0 c1, cs = [c0, c1] := by
          match cs, hl with
          | [a, b], _ => exact ⟨a, b, rfl⟩
        cases S.cv with
        | cons a0 r =>
          cases r with
          | cons a1 r => exact r4 _ G xv c0 c1 C _ _ _ _ _ _ _ _ _ _ _ _ _ eD ⟨S.x, S.c, a0, a1, S.D, S.nd, S.nl, S.k⟩
    obtain ⟨t2, d2, r2⟩ : ∃ tt, PSs (cxOf CX0 Pr w K mg base NLd "_law_led_body" (defScope sLed) (A 56) cdv Ar outer s H E).nox ((defBody sLed).drop 2) tt ∧
        ∀ (De : Ends) (H3 : Hp) (xv : V) (hd : Hd) (x6 x8 x10 x11 x12 x13 x14 x15 x16 x17 x18 x19 : Option V), De.rt = Q → hd ∈ hs → hd.kd = kd → 0 < hd.many → L0 ns fs d l xv H H3 →
        tt De [some (.ref d), some (.ref nt), some (.str kd), some (.ref fl), some (.ref ow), some xv, x6, some (.str hd.nm), x8, some (.int (hd.many : Int)), x10, x11, x12, x13, x14, x15, x16, x17, x18, x19] H3 := by
      refine ⟨_, (pss_cons (ps_par (i := 10) (j := 11) (by rfl) scLed.nd rfl rfl (by decide) rfl rfl (pa_cons (pe_call (ok_pick L.pick.F B L.draw) hr2 (by rfl) L.pick.g L.pick.F.kp L.pick.b .nil pass0 (pa_cons (pv 0) (pa_cons (pe_lst (pa_cons (pe_tup (pa_cons pe_str (pa_cons pe_str pa_nil))) (pa_cons (pe_tup (pa_cons pe_str (pa_cons pe_str pa_nil))) (pa_cons (pe_tup (pa_cons pe_str (pa_cons pe_str pa_nil))) (pa_cons (pe_tup (pa_cons pe_str (pa_cons pe_str pa_nil))) (pa_cons (pe_tup (pa_cons pe_str (pa_cons pe_str pa_nil))) (pa_cons (pe_tup (pa_cons pe_str (pa_cons pe_str pa_nil))) pa_nil))))))) pa_nil))) (pa_cons (pe_lst pa_nil) pa_nil)) (by rfl)) d3), ?_⟩
      intro De H1 xv hd x6 x8 x10 x11 x12 x13 x14 x15 x16 x17 x18 x19 eD hm ek hp S
      refine ⟨_, rfl, by show 2 ≤ sizeLine; decide, fun p1 np1 => ?_⟩
      have k1 : Kp [] H1 (upd H1 p1 (.tup [.str "left", .str "right"])) := .new np1
      have q1 : (upd H1 p1 (.tup [.str "left", .str "right"])) p1 = some (.tup [.str "left", .str "right"]) := upd_same
      replace S := S.kp0 k1
      generalize upd H1 p1 (.tup [.str "left", .str "right"]) = H2 at k1 q1 S ⊢
      have w1 : WayV H2 (.ref p1) := .mk q1 (by decide) (by decide)
      refine ⟨by show 2 ≤ sizeLine; decide, fun p2 np2 => ?_⟩
      have k2 : Kp [] H2 (upd H2 p2 (.tup [.str "right", .str "left"])) := .new np2
      have q2 : (upd H2 p2 (.tup [.str "right", .str "left"])) p2 = some (.tup [.str "right", .str "left"]) := upd_same
      replace S := S.kp0 k2
      replace w1 := w1.kp k2
      generalize upd H2 p2 (.tup [.str "right", .str "left"]) = H3 at k2 q2 S w1 ⊢
      have w2 : WayV H3 (.ref p2) := .mk q2 (by decide) (by decide)
      refine ⟨by show 2 ≤ sizeLine; decide, fun p3 np3 => ?_⟩
      have k3 : Kp [] H3 (upd H3 p3 (.tup [.str "left", .str "right"])) := .new np3
      have q3 : (upd H3 p3 (.tup [.str "left", .str "right"])) p3 = some (.tup [.str "left", .str "right"]) := upd_same
      replace S := S.kp0 k3
      replace w1 := w1.kp k3
      replace w2 := w2.kp k3
      generalize upd H3 p3 (.tup [.str "left", .str "right"]) = H4 at k3 q3 S w1 w2 ⊢
      have w3 : WayV H4 (.ref p3) := .mk q3 (by decide) (by decide)
      refine ⟨by show 2 ≤ sizeLine; decide, fun p4 np4 => ?_⟩
      have k4 : Kp [] H4 (upd H4 p4 (.tup [.str "left", .str "up"])) := .new np4
      have q4 : (upd H4 p4 (.tup [.str "left", .str "up"])) p4 = some (.tup [.str "left", .str "up"]) := upd_same
      replace S := S.kp0 k4
      replace w1 := w1.kp k4
      replace w2 := w2.kp k4
      replace w3 := w3.kp k4
      generalize upd H4 p4 (.tup [.str "left", .str "up"]) = H5 at k4 q4 S w1 w2 w3 ⊢
      have w4 : WayV H5 (.ref p4) := .mk q4 (by decide) (by decide)
      refine ⟨by show 2 ≤ sizeLine; decide, fun p5 np5 => ?_⟩
      have k5 : Kp [] H5 (upd H5 p5 (.tup [.str "right", .str "right"])) := .new np5
      have q5 : (upd H5 p5 (.tup [.str "right", .str "right"])) p5 = some (.tup [.str "right", .str "right"]) := upd_same
      replace S := S.kp0 k5
      replace w1 := w1.kp k5
      replace w2 := w2.kp k5
      replace w3 := w3.kp k5
      replace w4 := w4.kp k5
      generalize upd H5 p5 (.tup [.str "right", .str "right"]) = H6 at k5 q5 S w1 w2 w3 w4 ⊢
      have w5 : WayV H6 (.ref p5) := .mk q5 (by decide) (by decide)
      refine ⟨by show 2 ≤ sizeLine; decide, fun p6 np6 => ?_⟩
      have k6 : Kp [] H6 (upd H6 p6 (.tup [.str "up", .str "up"])) := .new np6
      have q6 : (upd H6 p6 (.tup [.str "up", .str "up"])) p6 = some (.tup [.str "up", .str "up"]) := upd_same
      replace S := S.kp0 k6
      replace w1 := w1.kp k6
      replace w2 := w2.kp k6
      replace w3 := w3.kp k6
      replace w4 := w4.kp k6
      replace w5 := w5.kp k6
      generalize upd H6 p6 (.tup [.str "up", .str "up"]) = H7 at k6 q6 S w1 w2 w3 w4 w5 ⊢
      have w6 : WayV H7 (.ref p6) := .mk q6 (by decide) (by decide)
      refine ⟨by show 6 ≤ sizeLine; decide, fun p7 np7 => ?_⟩
      have k7 : Kp [] H7 (upd H7 p7 (.lst [.ref p1, .ref p2, .ref p3, .ref p4, .ref p5, .ref p6])) := .new np7
      have f7 := S.D.fresh np7
      refine ⟨d, l, p7, _, rfl, (S.kp0 k7).D, sql_of upd_same, by simp, by show 6 ≤ 1000000; decide, f7.1, f7.2, fun y7 H8 hy7 D7 ky7 => ?_⟩
      have kk7 : Kp [d, l] H7 H8 := (k7.more (by simp)).trans ky7
      replace S := S.go kk7 D7
      replace w1 := w1.kp kk7
      replace w2 := w2.kp kk7
      replace w3 := w3.kp kk7
      replace w4 := w4.kp kk7
      replace w5 := w5.kp kk7
      replace w6 := w6.kp kk7
      have hw : WayV H8 y7 := by
        simp only [List.mem_cons, List.not_mem_nil, or_false] at hy7
        rcases hy7 with rfl | rfl | rfl | rfl | rfl | rfl
        all_goals first | exact w1 | exact w2 | exact w3 | exact w4 | exact w5 | exact w6
      refine ⟨Nat.zero_le _, fun C nC => ⟨_, _, rfl, ?_⟩⟩
      have fC := S.D.fresh nC
      have kC : Kp [] H8 (upd H8 C (.lst [])) := .new nC
      have S9 := S.kp0 kC
      exact r3 _ _ xv y7 C hd _ _ _ _ _ _ _ _ _ _ eD hm ek hp (hw.kp kC) ⟨S9.x, upd_same, .nil, S9.D, fC.1, fC.2, S9.k⟩ (S.k.free nC (by simp [fC]))
    refine ⟨_, (pss_cons (ps_par (i := 5) (j := 6) (by rfl) scLed.nd rfl rfl (by decide) rfl rfl (pa_cons (pe_tup (pa_cons pe_str (pa_cons (pe_ix ix_tup (pv 1) pe_int (fun _ _ => rfl)) pa_nil))) (pa_cons (pe_lc (own := [("_law_it", 18)]) (g := gName 18) rfl scLed.nd (pi_list (pv 3)) (blkOk_by (N := NLd) (sc := defScope sLed) (by decide +kernel)) (fun _ _ _ _ _ => pg_name (i := 18) scLed.nd rfl (Or.inl rfl)) (fun _ _ _ _ _ => pts_one (PW.pt (pw_and (pt_cmpR op_eq (pe_ix (r := rIxT K) ix_tup (pv 18) pe_int (fun _ _ => rfl)) (pv 2) (nomark _)) (pw_and1 (pt_cmpR op_gt (pe_ix (r := rIxT K) ix_tup (pv 18) pe_int (fun _ _ => rfl)) pe_int (nomark _)))))) (fun _ _ _ _ _ => (pv 18))) pa_nil)) (by rfl)) (pss_cons (ps_asg (pe_call (ok_pick L.pick.F B L.draw) hr2 (by rfl) L.pick.g L.pick.F.kp L.pick.b .nil pass0 (pa_cons (pv 0) (pa_cons (pe_op op_cat (pv 6) (pe_op op_rep (pe_lst (pa_cons (pv 4) pa_nil)) pe_int)) pa_nil))) (pg_tup (n := 3) (by rfl) (pgs_cons (pg_name (i := 7) scLed.nd rfl (.inl rfl)) (pgs_cons (pg_name (i := 8) scLed.nd rfl (.inl rfl)) (pgs_cons (pg_name (i := 9) scLed.nd rfl (.inl rfl)) pgs_nil))))) d2)), ?_⟩
    obtain ⟨n0, nr, rfl⟩ : ∃ n0 nr, ns = n0 :: nr := by
      match ns, hne with
      | a :: r, _ => exact ⟨a, r, rfl⟩
    refine ⟨_, rfl, nt, _, _, _, rfl, rfl, sqt_of hnt, atI_nat (j := 0) rfl, by show 2 ≤ sizeLine; decide, fun p1 np1 => ?_⟩
    have k1 : Kp [] H (upd H p1 (.tup [.str "name", .str n0])) := .new np1
    have e1 : TV (n0 :: nr) fs kPlace 1 251 (upd H p1 (.tup [.str "name", .str n0])) (.ref p1) := TV.name (g := n0) upd_same (hns n0 (by simp)) (by simp) (by omega) (by omega)
    have S : L0 (n0 :: nr) fs d l (.ref p1) H (upd H p1 (.tup [.str "name", .str n0])) := ⟨e1, D0.kp k1 (by simp) (by simp), k1.more (by simp)⟩
    generalize upd H p1 (.tup [.str "name", .str n0]) = H1 at S ⊢
    have nfd : fl ≠ d := by
      obtain ⟨m, k, ns, h1, h2, _⟩ := D0.ex
      exact ne_of hfl h1 (by intro z; cases z)
    have hflG : ∀ G, Kp [d, l] H G → G fl = some (.lst ws) := fun G kG => kG.at_ _ _ hfl (by simp [nfd, nfl])
    refine ⟨_, rfl, fl, rfl, ⟨_, sql_of (hflG _ S.k)⟩, fun Dl nD => ?_⟩
    have fD := S.D.fresh nD
    have nDH : H Dl = none := S.k.free nD (by simp [fD])
    refine lc_list (xs := ws) (fun i H' => ∃ cs, H' Dl = some (.lst cs) ∧ (∀ v ∈ cs, ∃ h ∈ hs, h.kd = kd ∧ 0 < h.many ∧ HeadV H' v h) ∧ cs.length ≤ i ∧ L0 (n0 :: nr) fs d l (.ref p1) H H')
      ⟨[], upd_same, by simp, Nat.le_refl _, S.kp0 (.new nD)⟩ (fun i H' _ ⟨_, _, _, _, S⟩ => sql_of (hflG _ S.k)) ?_ ?_
    · rintro i x H2 hx ⟨cs, hD, hcs, hl, S⟩
      have hmem := List.mem_of_getElem? hx
      have hi := (List.getElem?_eq_some_iff.mp hx).1
      obtain ⟨h, hhs', hv⟩ := hws x hmem
      obtain ⟨r, rfl, er⟩ := hv.kp S.k
      refine ⟨rfl, _, rfl, r, _, _, _, rfl, rfl, sqt_of er, atI_nat (j := 1) rfl, _, rfl, rfl, _, rfl, ite2 (fun q => ?_) (fun _ => iteF ?_)⟩
      · refine ⟨_, rfl, r, _, _, _, rfl, rfl, sqt_of er, atI_nat (j := 2) rfl, _, _, rfl, rfl, _, rfl, ite2 (fun q' => ?_) (fun _ => ?_)⟩
        · have ekd : h.kd = kd := V.str.inj (of_decide_eq_true q)
          have ep : (0 : Int) < (h.many : Int) := of_decide_eq_true q'
          have kD : Kp [Dl] H2 (upd H2 Dl (.lst (cs ++ [.ref r]))) := .put (by simp) hD (fun _ z => by cases z)
          refine ⟨_, rfl, cs, hD, Nat.lt_of_le_of_lt (show cs.length ≤ 100 by omega) (by decide), cs ++ [.ref r], upd_same, ?_, ?_, ⟨S.x.kp kD, S.D.kp kD (by simp [fD.1.symm]) (by simp [fD.2.symm]), S.k.own nDH⟩⟩
          · intro y hy
            rcases List.mem_append.mp hy with hy | hy
            · obtain ⟨h', a1, a2, a3, a4⟩ := hcs y hy
              exact ⟨h', a1, a2, a3, a4.kp kD⟩
            · rw [List.mem_singleton.mp hy]
              exact ⟨h, hhs', ekd, by omega, r, rfl, kD.tup _ _ er⟩
          · rw [List.length_append]
            show cs.length + 1 ≤ i + 1
            omega
        · exact ⟨cs, hD, hcs, by omega, S⟩
      · exact ⟨cs, hD, hcs, by omega, S⟩
    rintro H2 ⟨cs, hD, hcs, hl, S⟩
    refine ⟨_, _, rfl, ?_⟩
    refine ⟨_, rfl, _, rfl, _, rfl, by show 1 ≤ sizeLine; decide, fun p2 np2 => ?_⟩
    have k2 : Kp [] H2 (upd H2 p2 (.lst [.ref ow])) := .new np2
    have q2 : (upd H2 p2 (.lst [.ref ow])) p2 = some (.lst [.ref ow]) := upd_same
    replace hD := k2.at_ _ _ hD (by simp)
    replace S := S.kp0 k2
    replace hcs : ∀ v ∈ cs, ∃ h ∈ hs, h.kd = kd ∧ 0 < h.many ∧ HeadV (upd H2 p2 (.lst [.ref ow])) v h := fun v hv => let ⟨h, a, b, c, e⟩ := hcs v hv; ⟨h, a, b, c, e.kp k2⟩
    generalize upd H2 p2 (.lst [.ref ow]) = H3 at q2 hD S hcs ⊢
    refine ⟨_, _, _, rfl, rfl, q2, by decide, by decide, by show 1 * (3 : Int).toNat ≤ sizeLine; decide, fun p3 np3 => ?_⟩
    rw [show (List.replicate (Int.toNat 3) [V.ref ow]).flatten = [.ref ow, .ref ow, .ref ow] from rfl]
    have k3 : Kp [] H3 (upd H3 p3 (.lst [.ref ow, .ref ow, .ref ow])) := .new np3
    have q3 : (upd H3 p3 (.lst [.ref ow, .ref ow, .ref ow])) p3 = some (.lst [.ref ow, .ref ow, .ref ow]) := upd_same
    replace hD := k3.at_ _ _ hD (by simp)
    replace S := S.kp0 k3
    replace hcs : ∀ v ∈ cs, ∃ h ∈ hs, h.kd = kd ∧ 0 < h.many ∧ HeadV (upd H3 p3 (.lst [.ref ow, .ref ow, .ref ow])) v h := fun v hv => let ⟨h, a, b, c, e⟩ := hcs v hv; ⟨h, a, b, c, e.kp k3⟩
    generalize upd H3 p3 (.lst [.ref ow, .ref ow, .ref ow]) = H4 at q3 hD S hcs ⊢
    refine ⟨_, _, _, _, rfl, rfl, hD, q3, Nat.le_trans (show cs.length + 3 ≤ 103 by omega) (by decide), fun p4 np4 => ?_⟩
    have hcs5 : ∀ v ∈ cs ++ [V.ref ow, V.ref ow, V.ref ow], ∃ h ∈ hs, h.kd = kd ∧ 0 < h.many ∧ HeadV H4 v h := by
      intro v hv
      rcases List.mem_append.mp hv with hv | hv
      · exact hcs v hv
      · have ev : v = .ref ow := by simpa using hv
        rw [ev]
        exact ⟨h0, hm0, hk0, hp0, how.kp S.k⟩
    have hlen : (cs ++ [V.ref ow, V.ref ow, V.ref ow]).length ≤ 1000000 := by
      rw [List.length_append]
      show cs.length + 3 ≤ 1000000
      omega
    have hne5 : cs ++ [V.ref ow, .ref ow, .ref ow] ≠ [] := by simp
    generalize cs ++ [V.ref ow, .ref ow, .ref ow] = cs5 at hcs5 hlen hne5 ⊢
    have k4 : Kp [] H4 (upd H4 p4 (.lst cs5)) := .new np4
    have f4 := S.D.fresh np4
    refine ⟨d, l, p4, _, rfl, (S.kp0 k4).D, sql_of upd_same, hne5, hlen, f4.1, f4.2, fun y4 H5 hy4 D4 ky4 => ?_⟩
    have kk4 : Kp [d, l] H4 H5 := (k4.more (by simp)).trans ky4
    obtain ⟨hd, b1, b2, b3, b4⟩ := hcs5 y4 hy4
    obtain ⟨r, rfl, er⟩ := b4.kp kk4
    refine ⟨r, _, rfl, sqt_of er, rfl, _, _, rfl, _, _, rfl, _, _, rfl, rfl, ?_⟩
    exact r2 _ H5 (.ref p1) hd _ _ _ _ _ _ _ _ _ _ _ _ rfl b1 b2 b3 (S.go kk4 D4)
end
end Ey
set_option maxHeartbeats 4000000
namespace Ey
open PySem PySem.Spec PyProof.Rows L2 PySem.SeqAt
section
variable {X : Cx}
/-- xs == [], xs any list -/
def rEqEL : R2 := fun x y H Q => ∃ a b xs, x = .ref a ∧ y = .ref b ∧ H a = some (.lst xs) ∧ H b = some (.lst []) ∧ Q (.bl xs.isEmpty) H
theorem op_eqEL (hu : X.A.units + 64 < cLine) : OpR X (compareOp .Eq) rEqEL := by
  intro pins s σ H x y v u Q I rx ry h
  obtain ⟨a, b, xs, rfl, rfl, h1, h2, q⟩ := h
  cases rx
  cases ry
  obtain ⟨its, r, p⟩ := lst_obj I h1
  obtain ⟨its2, r2, p2⟩ := lst_obj I h2
  cases r2
  cases r with
  | nil => exact PySem.W.eq_listsT (n := 1) (e := fun _ => true) p p2 rfl (fun j h1 h2 => absurd h2 (by simp)) (by omega) ⟨.bl true, H, I, rfl, q⟩
  | cons _ _ => exact RcAt.lists_lengths p p2 (by simp) (by omega) _ _ _ _ ⟨.bl false, H, I, rfl, q⟩
end
end Ey
set_option maxHeartbeats 4000000
namespace Ey
open PySem PySem.Spec L2
/-! ### a drawn program -/
abbrev sDProg : Stmt := topS 57
structure LP (K : PySem.W.Frag) (mg : Str → Option Value) (A : Nat → Addr) (D : Nat → FuncData) : Prop extends LL K mg A D where
  dprog : Df K mg "_law_drawn_program" sDProg ["_law_deck_here", "_law_most", "_law_has_choice_here"] (A 57) (D 57)
abbrev PDp : List Str := ["_law_deck_here", "_law_most", "_law_has_choice_here"]
def eb : Stmt → List Stmt
  | .If _ _ b _ => b
  | _ => []
def fb : Stmt → List Stmt
  | .For _ _ b _ _ => b
  | _ => []
theorem Kp.less {ms ms' : List Addr} {H H1 : Hp} (k : Kp ms' H H1) (h : ∀ x ∈ ms', x ∈ ms ∨ H x = none) : Kp ms H H1 := by
  refine ⟨fun c o e n => k.at_ c o e fun hc => ?_, k.tup⟩
  rcases h c hc with h | h
  · exact n h
  · rw [e] at h
    cases h
structure FG (hs : List Hd) (f : Fn) : Prop where
  ns : ∀ g ∈ f.ns, isName g = true
  nd : f.ns.Nodup
  nl : f.ns.length ≤ 2
  ok : TOk f.ns (hs.map hdF) f.kd 12 25000 f.bd
theorem FitsAll.snoc {fs : List Fn} {hs : List Hd} {f : Fn} {h : Hd} (a : FitsAll fs hs) (b : Fits f h) : FitsAll (fs ++ [f]) (hs ++ [h]) := by
  induction a with
  | nil => exact .cons b .nil
  | cons x _ ih => exact .cons x ih
structure DP (d l fl fo : Addr) (vs : List V) (hs : List Hd) (ys : List V) (fs : List Fn) (H H3 : Hp) : Prop where
  D : DeckAt H3 d l
  fk : H3 fl = some (.lst vs)
  fok : H3 fo = some (.lst ys)
  hv : All2 (HeadV H3) vs hs
  fv : All2 (fun v f => AnT H3 v (fD f)) ys fs
  n1 : fl ≠ d ∧ fl ≠ l ∧ fl ≠ fo
  n2 : fo ≠ d ∧ fo ≠ l
  nfl : H fl = none
  nfo : H fo = none
  k : Kp [d, l] H H3
section
variable {d l fl fo p : Addr} {vs ys : List V} {hs : List Hd} {fs : List Fn} {H H3 H4 : Hp}
theorem DP.go (S : DP d l fl fo vs hs ys fs H H3) (k : Kp [d, l] H3 H4) (D4 : DeckAt H4 d l) : DP d l fl fo vs hs ys fs H H4 :=
  ⟨D4, k.at_ _ _ S.fk (by simp [S.n1]), k.at_ _ _ S.fok (by simp [S.n2]), S.hv.imp fun _ _ a => a.kp k, S.fv.imp fun _ _ a => a.kp k, S.n1, S.n2, S.nfl, S.nfo, S.k.trans k⟩
theorem DP.kp0 (S : DP d l fl fo vs hs ys fs H H3) (k : Kp [] H3 H4) : DP d l fl fo vs hs ys fs H H4 := S.go (k.more (by simp)) (S.D.kp k (by simp) (by simp))
theorem DP.go3 {b : Addr} (S : DP d l fl fo vs hs ys fs H H3) (k : Kp [d, l, b] H3 H4) (D4 : DeckAt H4 d l) (nb : H b = none) (h1 : b ≠ fl) (h2 : b ≠ fo) : DP d l fl fo vs hs ys fs H H4 :=
  ⟨D4, k.at_ _ _ S.fk (by simp [S.n1, h1.symm]), k.at_ _ _ S.fok (by simp [S.n2, h2.symm]), S.hv.imp fun _ _ a => a.kp k, S.fv.imp fun _ _ a => a.kp k, S.n1, S.n2, S.nfl, S.nfo, ((S.k.more (by simp)).trans k).less (by simp [nb])⟩
theorem DP.head (S : DP d l fl fo vs hs ys fs H H3) {v : V} {h : Hd} (a : HeadV H3 v h) : DP d l fl fo (vs ++ [v]) (hs ++ [h]) ys fs H (upd H3 fl (.lst (vs ++ [v]))) := by
  have k : Kp [fl] H3 (upd H3 fl (.lst (vs ++ [v]))) := .put (by simp) S.fk (fun _ z => by cases z)
  exact ⟨S.D.kp k (by simp [S.n1.1.symm]) (by simp [S.n1.2.1.symm]), upd_same, k.at_ _ _ S.fok (by simp [S.n1.2.2.symm]), (S.hv.imp fun _ _ a => a.kp k).app (.cons (a.kp k) .nil), S.fv.imp fun _ _ a => a.kp k, S.n1, S.n2, S.nfl, S.nfo, S.k.own S.nfl⟩
theorem DP.body (S : DP d l fl fo vs hs ys fs H H3) {v : V} {f : Fn} (a : AnT H3 v (fD f)) : DP d l fl fo vs hs (ys ++ [v]) (fs ++ [f]) H (upd H3 fo (.lst (ys ++ [v]))) := by
  have k : Kp [fo] H3 (upd H3 fo (.lst (ys ++ [v]))) := .put (by simp) S.fok (fun _ z => by cases z)
  exact ⟨S.D.kp k (by simp [S.n2.1.symm]) (by simp [S.n2.2.symm]), k.at_ _ _ S.fk (by simp [S.n1.2.2]), upd_same, S.hv.imp fun _ _ a => a.kp k, (S.fv.imp fun _ _ a => a.kp k).app (.cons (a.kp k) .nil), S.n1, S.n2, S.nfl, S.nfo, S.k.own S.nfo⟩
end
theorem all2_ants {H : Hp} {ys : List V} {fs : List Fn} (h : All2 (fun v f => AnT H v (fD f)) ys fs) : AnTs H ys (fs.map fD) := by
  induction h with
  | nil => exact fun _ => .nil
  | cons a _ ih => exact fun ms => .cons (a ms) (ih ms)
theorem an_strs {ms : List Addr} {H : Hp} : ∀ gs : List Str, AnAll ms H (gs.map V.str) (gs.map PyData.str)
  | [] => .nil
  | g :: r => .cons (.str g) (an_strs r)
theorem merge_box (fl nt : Addr) (z : Int) (c : Bool) : mergeK [] (boxD fl nt z c) = boxD fl nt z c := by
  have e1 : putK ([] : List (Key × V)) kFuns (.ref fl) = [(kFuns, .ref fl)] := putK_new _ rfl
  have e2 : putK [(kFuns, V.ref fl)] kNamesK (.ref nt) = [(kFuns, V.ref fl), (kNamesK, .ref nt)] := putK_new _ (valV_neg kFN)
  have e3 : putK [(kFuns, V.ref fl), (kNamesK, V.ref nt)] kLeft (.int z) = [(kFuns, V.ref fl), (kNamesK, .ref nt), (kLeft, .int z)] := putK_new _ ((valV_neg kFL).trans (valV_neg kNL))
  have e4 : putK [(kFuns, V.ref fl), (kNamesK, V.ref nt), (kLeft, V.int z)] kChoice (.bl c) = boxD fl nt z c := putK_new _ ((valV_neg kFC).trans ((valV_neg kNC).trans (valV_neg kLC)))
  show putK (putK (putK (putK [] kFuns (.ref fl)) kNamesK (.ref nt)) kLeft (.int z)) kChoice (.bl c) = _
  rw [e1, e2, e3, e4]
def tNm (d l : Addr) : TE := fun σ G Q => ∃ n : Nat, σ[0]? = some (some (.ref d)) ∧ σ[8]? = some (some (.int (n : Int))) ∧ n ≤ 2 ∧ DeckAt G d l ∧ ∀ (p : Addr) (ns : List Str) (G' : Hp), G' p = some (.tup (ns.map V.str)) → (∀ g ∈ ns, isName g = true) → ns.Nodup → ns.length = n → DeckAt G' d l → Kp [d, l] G G' → Q (.ref p) G'
def tMn (d l : Addr) : TE := fun σ G Q => ∃ i : Int, σ[0]? = some (some (.ref d)) ∧ σ[5]? = some (some (.int i)) ∧ DeckAt G d l ∧ ∀ (n : Nat) (G' : Hp), n ≤ 2 → DeckAt G' d l → Kp [d, l] G G' → Q (.int (n : Int)) G'
theorem TermOk.tv {ns : List Str} {fs : List Fn} {k : Str} {n : Nat} {z : Int} {t : PyData} (o : TermOk ns fs k n 14 z t) (hn : n ≤ 9) : TOk ns fs k 10 18760 t := by
  have h1 := o.d
  have h2 := o.w
  have h3 := o.hi
  have h4 := tr_le k
  exact ⟨o.wk, by omega, by omega⟩
def spDP : Sp := fun vs H Q _ => ∃ (d l : Addr) (m : Nat) (c : Bool), vs = [.ref d, .int (m : Int), .bl c] ∧ DeckAt H d l ∧ 1 ≤ m ∧ m ≤ 5 ∧
  ∀ (v : V) (fs : List Fn) (H' : Hp), AnT H' v (.tuple (fs.map fD)) → (∀ f ∈ fs, FnOkD fs f ∧ f.bd.depth ≤ 12 ∧ wd f.bd ≤ 25000 ∧ f.ns.length ≤ 2 ∧ f.nm.length ≤ 6 ∧ ¬ f.nm = "more") → (fs.map (·.nm)).Nodup → 1 ≤ fs.length → fs.length ≤ 5 → DeckAt H' d l → Kp [d, l] H H' → Q v H'
section
variable {Pr : Program} {w : World} {K : PySem.W.Frag} {mg : Str → Option Value} {base : Heap} {A : Nat → Addr} {D : Nat → FuncData}
abbrev NDp : List Str := ["_law_deck_here", "_law_most", "_law_has_choice_here", "_law_funs", "_law_found", "_law_at", "_law_name", "_law_kind", "_law_many", "_law_names", "_law_world", "_law_body"]
theorem scDProg : FnScope NDp ["_law_deck_here", "_law_most", "_law_has_choice_here"] (defScope sDProg) := ⟨rfl, rfl, rfl, by decide +kernel, rfl, by decide +kernel, by decide +kernel⟩

theorem log_small : ∀ i : Nat, i < 5 → ((i : Nat) : Int).natAbs.log2 < 1920 := by decide +kernel
theorem FitsAll.mem' {fs : List Fn} {hs : List Hd} (h : FitsAll fs hs) : ∀ f ∈ fs, ∃ x ∈ hs, Fits f x := by
  induction h with
  | nil => intro x hx; cases hx
  | cons a _ ih =>
    intro x hx
    rcases List.mem_cons.mp hx with rfl | hx
    · exact ⟨_, List.mem_cons_self, a⟩
    · obtain ⟨f, hf, e⟩ := ih x hx
      exact ⟨f, List.mem_cons_of_mem _ hf, e⟩
theorem hds_all {hs : List Hd} (ok : HdsOk hs) (h5 : hs.length ≤ 5) : ∀ h ∈ hs, isName h.nm = true ∧ h.nm.length ≤ 6 ∧ h.many ≤ 2 := by
  intro h hm
  obtain ⟨i, hi, e⟩ := List.getElem_of_mem hm
  have o := ok i h (by rw [List.getElem?_eq_getElem hi, e])
  obtain ⟨b, hb, en⟩ := o.nm
  exact ⟨by rw [en]; exact nm_ok i (by omega) b hb, by rw [en]; exact nm_len i (by omega) b hb, o.many⟩
theorem nm_more : ∀ i, i < 5 → ∀ b ∈ bases, ¬ nmB b i = "more" := by decide +kernel
theorem hds_more {hs : List Hd} (ok : HdsOk hs) (h5 : hs.length ≤ 5) : ∀ h ∈ hs, ¬ h.nm = "more" := by
  intro h hm
  obtain ⟨i, hi, e⟩ := List.getElem_of_mem hm
  obtain ⟨b, hb, en⟩ := (ok i h (by rw [List.getElem?_eq_getElem hi, e])).nm
  rw [en]
  exact nm_more i (by omega) b hb
theorem hds_kd {hs : List Hd} (ok : HdsOk hs) {h : Hd} (hm : h ∈ hs) : h.kd = kPlace ∨ h.kd = kTruth := by
  obtain ⟨i, hi, e⟩ := List.getElem_of_mem hm
  exact (ok i h (by rw [List.getElem?_eq_getElem hi, e])).kd
theorem heads_of {H : Hp} {vs : List V} {hs : List Hd} (a : All2 (HeadV H) vs hs) : ∀ v ∈ vs, ∃ h ∈ hs, HeadV H v h := by
  induction a with
  | nil => intro v hv; cases hv
  | cons x _ ih =>
    intro v hv
    rcases List.mem_cons.mp hv with rfl | hv
    · exact ⟨_, List.mem_cons_self, x⟩
    · obtain ⟨h, hh, e⟩ := ih v hv
      exact ⟨h, List.mem_cons_of_mem _ hh, e⟩
theorem ok_dprog (L : LP K mg A D) : FnOk Pr w K mg base CX0 14 (A 57) (D 57) PDp spDP := by
  have B := L.B
  refine L.dprog.F.ok scDProg (fun vs H Q E h => ?_) (fun cdv Ar outer s H vs Q E hr h => ?_)
  · obtain ⟨d, l, m, c, rfl, _⟩ := h
    rfl
  · obtain ⟨d, l, m, c, rfl, D0, hm1, hm5, k⟩ := h
    have hr13 := hr.mono (show 13 ≤ 13 by decide)
    have hr4 := hr.mono (show 4 ≤ 13 by decide)
    have hr2 := hr.mono (show 2 ≤ 13 by decide)
    have hr1 := hr.mono (show 1 ≤ 13 by decide)
    have hdl := D0.ne
    have hu := hu_of hr
    obtain ⟨tA, dA, rA⟩ : ∃ tt, PSs (cxOf CX0 Pr w K mg base NDp "_law_drawn_program" (defScope sDProg) (A 57) cdv Ar outer s H E).nox ((fb ((defBody sDProg).getD 2 noSt)).drop 3) tt ∧
        ∀ (De : Ends) (H3 : Hp) (fl fo : Addr) (vs ys : List V) (hs : List Hd) (fs : List Fn) (h : Hd) (x5 : Option V) (x10 : Option V) (nt : Addr) (ns : List Str) (bv : V) (bd : PyData), DP d l fl fo vs hs ys fs H H3 → fs.length ≤ 5 → H3 nt = some (.tup (ns.map V.str)) → (∀ g ∈ ns, isName g = true) → ns.Nodup → ns.length = h.many → ns.length ≤ 2 → AnT H3 bv bd → TOk ns (hs.map hdF) h.kd 12 25000 bd → (∀ (G : Hp) (v : V) (f : Fn) (x9 x10 x11 : Option V), DP d l fl fo vs hs (ys ++ [v]) (fs ++ [f]) H G → FG hs f → Fits f h → De.nx [some (.ref d), some (.int (m : Int)), some (.bl c), some (.ref fl), some (.ref fo), x5, some (.str h.nm), some (.str h.kd), some (.int (h.many : Int)), x9, x10, x11] G) →
        tt De [some (.ref d), some (.int (m : Int)), some (.bl c), some (.ref fl), some (.ref fo), x5, some (.str h.nm), some (.str h.kd), some (.int (h.many : Int)), some (.ref nt), x10, some bv] H3 := by
      refine ⟨_, (pss_one (ps_expr (pe_bm PySem.F.plainAttrs_list PySem.F.slot_list_append PySem.F.type_list_append mt_append (pv 4) (pa_cons (pe_tup (pa_cons pe_str (pa_cons (pv 6) (pa_cons (pv 7) (pa_cons (pv 9) (pa_cons (pv 11) pa_nil)))))) pa_nil)))), ?_⟩
      intro De H3 fl fo vs ys hs fs h x5 x10 nt ns bv bd S hfl5 hnt hns hnd hnm hn2 ab ob cont
      refine ⟨_, rfl, .inl ⟨rfl, _, sql_of S.fok⟩, _, rfl, _, rfl, _, rfl, _, rfl, by show 5 ≤ sizeLine; decide, fun p np => ?_⟩
      have kp : Kp [] H3 (upd H3 p (.tup [.str "fun", .str h.nm, .str h.kd, .ref nt, bv])) := .new np
      have av : AnT (upd H3 p (.tup [.str "fun", .str h.nm, .str h.kd, .ref nt, bv])) (.ref p) (fD ⟨h.nm, h.kd, ns, bd⟩) := fun ms => .tup upd_same (.cons (.str _) (.cons (.str _) (.cons (.str _) (.cons (.tup (kp.tup _ _ hnt) (an_strs ns)) (.cons (ab.kp kp ms) .nil)))))
      have S1 := S.kp0 kp
      have hl := S.fv.len
      exact ⟨fo, _, _, rfl, rfl, S1.fok, Nat.lt_of_le_of_lt (show ys.length ≤ 5 by omega) (by decide), cont _ _ ⟨h.nm, h.kd, ns, bd⟩ _ _ _ (S1.body av) ⟨hns, hnd, hn2, ob⟩ ⟨rfl, rfl, hnm⟩⟩
    obtain ⟨tL, dL, rL⟩ : ∃ tt, PSs (cxOf CX0 Pr w K mg base NDp "_law_drawn_program" (defScope sDProg) (A 57) cdv Ar outer s H E).nox (ib ((fb ((defBody sDProg).getD 2 noSt)).getD 2 noSt)) tt ∧
        ∀ (De : Ends) (H3 : Hp) (fl fo : Addr) (vs ys : List V) (hs : List Hd) (fs : List Fn) (h : Hd) (x5 : Option V) (x11 : Option V) (nt b : Addr) (ns : List Str), DP d l fl fo vs hs ys fs H H3 → HdsOk hs → hs.length ≤ 5 → h ∈ hs → 0 < h.many → H3 nt = some (.tup (ns.map V.str)) → (∀ g ∈ ns, isName g = true) → ns.length = h.many → BoxAt H3 b fl nt 14 c → H b = none → b ≠ d ∧ b ≠ l ∧ b ≠ fo →
          (∀ (G : Hp) (bv : V) (bd : PyData), DP d l fl fo vs hs ys fs H G → G nt = some (.tup (ns.map V.str)) → AnT G bv bd → TOk ns (hs.map hdF) h.kd 12 25000 bd → De.nx [some (.ref d), some (.int (m : Int)), some (.bl c), some (.ref fl), some (.ref fo), x5, some (.str h.nm), some (.str h.kd), some (.int (h.many : Int)), some (.ref nt), some (.ref b), some bv] G) →
        tt De [some (.ref d), some (.int (m : Int)), some (.bl c), some (.ref fl), some (.ref fo), x5, some (.str h.nm), some (.str h.kd), some (.int (h.many : Int)), some (.ref nt), some (.ref b), x11] H3 := by
      refine ⟨_, (pss_cons (ps_set (i := 11) scDProg.nd rfl (.inl rfl) (pe_call (ok_led L.toLL) hr4 (by rfl) L.led.g L.led.F.kp L.led.b .nil pass0 (pa_cons (pv 0) (pa_cons (pv 9) (pa_cons (pv 7) (pa_cons (pv 3) (pa_cons (pe_tup (pa_cons (pv 6) (pa_cons (pv 7) (pa_cons (pv 8) pa_nil)))) pa_nil))))))) (pss_one (ps_set (i := 11) scDProg.nd rfl (.inl rfl) (pe_ifExp (PW.pt (pw_and (pt_truth (pv 2) (by intro _; rfl)) (pw_and1 (pt_cmpR op_eq (pe_call (ok_draw L.draw.F B) hr1 (by rfl) L.draw.g L.draw.F.kp L.draw.b .nil pass0 (pa_cons (pv 0) (pa_cons pe_int pa_nil))) pe_int (nomark _))))) (pe_tup (pa_cons pe_str (pa_cons (pv 11) (pa_cons (pe_call (ok_dterm L.toLG 10) hr13 (by rfl) L.dterm.g L.dterm.F.kp L.dterm.b .nil pass0 (pa_cons (pv 0) (pa_cons (pv 10) (pa_cons (pv 7) (pa_cons pe_int pa_nil))))) pa_nil)))) (pv 11))))), ?_⟩
      intro De H3 fl fo vs ys hs fs h x5 x11 nt b ns S ok h5 hm hp hnt hns hnm hb nb nbo cont
      have hnd := hds_nd ok h5
      have hhs : ∀ h ∈ hs, isName h.nm = true ∧ h.nm.length ≤ 6 ∧ h.many ≤ 2 := hds_all ok h5
      have hk : h.kd = kPlace ∨ h.kd = kTruth := hds_kd ok hm
      have hm2 := (hhs h hm).2.2
      have hwl := S.hv.len
      refine ⟨_, rfl, _, rfl, _, rfl, _, rfl, _, rfl, _, rfl, _, rfl, by show 3 ≤ sizeLine; decide, fun p np => ?_⟩
      have kp : Kp [] H3 (upd H3 p (.tup [.str h.nm, .str h.kd, .int (h.many : Int)])) := .new np
      have S1 := S.kp0 kp
      have ep : (upd H3 p (.tup [.str h.nm, .str h.kd, .int (h.many : Int)])) p = some (.tup [.str h.nm, .str h.kd, .int (h.many : Int)]) := upd_same
      have hnt1 := kp.tup _ _ hnt
      have hb1 : BoxAt (upd H3 p (.tup [.str h.nm, .str h.kd, .int (h.many : Int)])) b fl nt 14 c := kp.at_ _ _ hb (by simp)
      generalize upd H3 p (.tup [.str h.nm, .str h.kd, .int (h.many : Int)]) = G1 at kp S1 ep hnt1 hb1 ⊢
      refine ⟨d, l, nt, fl, p, vs, hs, ns, h.kd, h, rfl, hk, S1.D, hnt1, hns, by intro z; rw [z] at hnm; exact absurd hnm (by show ¬ 0 = _; omega), by omega, S1.fk, S1.n1.2.1, heads_of S1.hv, by omega, hhs, hnd, ⟨p, rfl, ep⟩, hm, rfl, hp, fun v G2 tv D2 k2 => ?_⟩
      have S2 := S1.go k2 D2
      have hnt2 := k2.tup _ _ hnt1
      obtain ⟨t, at2, ot⟩ := tv
      refine ⟨_, rfl, c, rfl, ?_⟩
      have plain : ∀ G, Kp [d, l] G2 G → DeckAt G d l → De.nx [some (.ref d), some (.int (m : Int)), some (.bl c), some (.ref fl), some (.ref fo), x5, some (.str h.nm), some (.str h.kd), some (.int (h.many : Int)), some (.ref nt), some (.ref b), some v] G := fun G kG DG =>
        cont G v t (S2.go kG DG) (kG.tup _ _ hnt2) (at2.kp kG) ⟨ot.wk, by have := ot.d; omega, by have := ot.w; omega⟩
      cases c with
      | false => exact iteF (iteF ⟨_, rfl, plain G2 .refl D2⟩)
      | true =>
        refine iteT ⟨_, rfl, d, l, 3, rfl, D2, by decide, by decide, fun r G3 r0 r1 D3 k3 => ⟨rfl, _, rfl, ite2 (fun _ => ?_) (fun _ => ⟨_, rfl, plain G3 k3 D3⟩)⟩⟩
        have S3 := S2.go k3 D3
        have nb3 := nbo
        have hb3 : BoxAt G3 b fl nt 14 true := k3.at_ _ _ (k2.at_ _ _ hb1 (by simp [nb3])) (by simp [nb3])
        have T3 : TC d l b fl nt 14 true vs hs ns G3 := ⟨D3, hb3, S3.fk, S3.n1.2.1, heads_of S3.hv, by omega, k3.tup _ _ hnt2⟩
        refine ⟨_, rfl, _, rfl, _, rfl, _, rfl, ⟨d, l, b, fl, nt, 14, true, vs, hs, ns, h.kd, 2, rfl, hk, by have := tr_le h.kd; show 2 * 2 + tr h.kd < 10; omega, T3, hns, by omega, hhs, hnd, fun v2 t2 z2 G4 a2 o2 T4 k4 => ⟨by show 3 ≤ sizeLine; decide, fun q nq => ?_⟩⟩⟩
        have S4 := S3.go3 k4 T4.dk nb (fun e => T3.fb e.symm) nbo.2.2
        have hnt4 := k4.tup _ _ (k3.tup _ _ hnt2)
        have kq : Kp [] G4 (upd G4 q (.tup [.str "either", v, v2])) := .new nq
        have v1' : TV ns (hs.map hdF) h.kd 8 5000 (upd G4 q (.tup [.str "either", v, v2])) v := ⟨t, ((at2.kp k3).kp k4).kp kq, ot⟩
        have v2' : TV ns (hs.map hdF) h.kd 10 18760 (upd G4 q (.tup [.str "either", v, v2])) v2 := ⟨t2, a2.kp kq, o2.tv (by have := tr_le h.kd; show 2 * 2 + tr h.kd ≤ 9; omega)⟩
        obtain ⟨t5, a5, o5⟩ := TV.either (n := 12) (m := 25000) v1' v2' upd_same (by omega) (by omega) (by omega)
        exact cont _ _ t5 (S4.kp0 kq) (kq.tup _ _ hnt4) a5 o5
    obtain ⟨tE, dE, rE⟩ : ∃ tt, PSs (cxOf CX0 Pr w K mg base NDp "_law_drawn_program" (defScope sDProg) (A 57) cdv Ar outer s H E).nox (eb ((fb ((defBody sDProg).getD 2 noSt)).getD 2 noSt)) tt ∧
        ∀ (De : Ends) (H3 : Hp) (fl fo : Addr) (vs ys : List V) (hs : List Hd) (fs : List Fn) (h : Hd) (x5 : Option V) (x11 : Option V) (nt b : Addr) (ns : List Str), DP d l fl fo vs hs ys fs H H3 → HdsOk hs → hs.length ≤ 5 → h ∈ hs → H3 nt = some (.tup (ns.map V.str)) → (∀ g ∈ ns, isName g = true) → ns.length = h.many → BoxAt H3 b fl nt 14 c → H b = none → b ≠ d ∧ b ≠ l ∧ b ≠ fo →
          (∀ (G : Hp) (bv : V) (bd : PyData), DP d l fl fo vs hs ys fs H G → G nt = some (.tup (ns.map V.str)) → AnT G bv bd → TOk ns (hs.map hdF) h.kd 12 25000 bd → De.nx [some (.ref d), some (.int (m : Int)), some (.bl c), some (.ref fl), some (.ref fo), x5, some (.str h.nm), some (.str h.kd), some (.int (h.many : Int)), some (.ref nt), some (.ref b), some bv] G) →
        tt De [some (.ref d), some (.int (m : Int)), some (.bl c), some (.ref fl), some (.ref fo), x5, some (.str h.nm), some (.str h.kd), some (.int (h.many : Int)), some (.ref nt), some (.ref b), x11] H3 := by
      refine ⟨_, (pss_one (ps_set (i := 11) scDProg.nd rfl (.inl rfl) (pe_call (ok_dterm L.toLG 10) hr13 (by rfl) L.dterm.g L.dterm.F.kp L.dterm.b .nil pass0 (pa_cons (pv 0) (pa_cons (pv 10) (pa_cons (pv 7) (pa_cons pe_int pa_nil))))))), ?_⟩
      intro De H3 fl fo vs ys hs fs h x5 x11 nt b ns S ok h5 hm hnt hns hnm hb nb nbo cont
      have hnd := hds_nd ok h5
      have hhs : ∀ h ∈ hs, isName h.nm = true ∧ h.nm.length ≤ 6 ∧ h.many ≤ 2 := hds_all ok h5
      have hk : h.kd = kPlace ∨ h.kd = kTruth := hds_kd ok hm
      have hm2 := (hhs h hm).2.2
      have hwl := S.hv.len
      have T3 : TC d l b fl nt 14 c vs hs ns H3 := ⟨S.D, hb, S.fk, S.n1.2.1, heads_of S.hv, by omega, hnt⟩
      have htr := tr_le h.kd
      refine ⟨_, rfl, _, rfl, _, rfl, ⟨d, l, b, fl, nt, 14, c, vs, hs, ns, h.kd, 4, rfl, hk, by show 2 * 4 + tr h.kd < 10; omega, T3, hns, by omega, hhs, hnd, fun v2 t2 z2 G4 a2 o2 T4 k4 => ?_⟩⟩
      have o3 := o2.tv (by show 2 * 4 + tr h.kd ≤ 9; omega)
      exact cont _ _ t2 (S.go3 k4 T4.dk nb (fun e => T3.fb e.symm) nbo.2.2) (k4.tup _ _ hnt) a2 ⟨o3.wk, Nat.le_trans o3.d (by decide), Nat.le_trans o3.w (by decide)⟩
    obtain ⟨tI, dI, rI⟩ : ∃ tt, PSs (cxOf CX0 Pr w K mg base NDp "_law_drawn_program" (defScope sDProg) (A 57) cdv Ar outer s H E).nox ((fb ((defBody sDProg).getD 2 noSt)).drop 2) tt ∧
        ∀ (De : Ends) (H3 : Hp) (fl fo : Addr) (vs ys : List V) (hs : List Hd) (fs : List Fn) (h : Hd) (x5 : Option V) (x11 : Option V) (nt b : Addr) (ns : List Str), DP d l fl fo vs hs ys fs H H3 → fs.length ≤ 5 → HdsOk hs → hs.length ≤ 5 → h ∈ hs → H3 nt = some (.tup (ns.map V.str)) → (∀ g ∈ ns, isName g = true) → ns.Nodup → ns.length = h.many → BoxAt H3 b fl nt 14 c → H b = none → b ≠ d ∧ b ≠ l ∧ b ≠ fo → (∀ (G : Hp) (v : V) (f : Fn) (x9 x10 x11 : Option V), DP d l fl fo vs hs (ys ++ [v]) (fs ++ [f]) H G → FG hs f → Fits f h → De.nx [some (.ref d), some (.int (m : Int)), some (.bl c), some (.ref fl), some (.ref fo), x5, some (.str h.nm), some (.str h.kd), some (.int (h.many : Int)), x9, x10, x11] G) →
        tt De [some (.ref d), some (.int (m : Int)), some (.bl c), some (.ref fl), some (.ref fo), x5, some (.str h.nm), some (.str h.kd), some (.int (h.many : Int)), some (.ref nt), some (.ref b), x11] H3 := by
      refine ⟨_, (pss_cons (ps_if (PW.pt (pw_and (pt_cmpR op_gt (pv 8) pe_int (nomark _)) (pw_and1 (PW.pt (pw_or (pt_cmpR op_gt (pe_call (ok_draw L.draw.F B) hr1 (by rfl) L.draw.g L.draw.F.kp L.draw.b .nil pass0 (pa_cons (pv 0) (pa_cons pe_int pa_nil))) pe_int (nomark _)) (pw_or1 (pt_cmpR (op_eqEL hr.units) (pv 4) (pe_lst pa_nil) (nomark _)))))))) dL dE) dA), ?_⟩
      intro De H3 fl fo vs ys hs fs h x5 x11 nt b ns S hf5 ok h5 hm hnt hns hnd hnm hb nb nbo cont
      have hm2 := (hds_all ok h5 h hm).2.2
      have goL : ∀ G, Kp [d, l] H3 G → DeckAt G d l → 0 < h.many → _ := fun G kG DG hp =>
        rL ⟨fun σ G => tA De σ G, De.rt, De.bk, De.ct⟩ G fl fo vs ys hs fs h x5 x11 nt b ns (S.go kG DG) ok h5 hm hp (kG.tup _ _ hnt) hns hnm (kG.at_ _ _ hb (by simp [nbo])) nb nbo
          (fun G2 bv bd S2 hn2 a2 o2 => rA De G2 fl fo vs ys hs fs h x5 _ nt ns bv bd S2 hf5 hn2 hns hnd hnm (by omega) a2 o2 cont)
      have goE : ∀ G, Kp [d, l] H3 G → DeckAt G d l → _ := fun G kG DG =>
        rE ⟨fun σ G => tA De σ G, De.rt, De.bk, De.ct⟩ G fl fo vs ys hs fs h x5 x11 nt b ns (S.go kG DG) ok h5 hm (kG.tup _ _ hnt) hns hnm (kG.at_ _ _ hb (by simp [nbo])) nb nbo
          (fun G2 bv bd S2 hn2 a2 o2 => rA De G2 fl fo vs ys hs fs h x5 _ nt ns bv bd S2 hf5 hn2 hns hnd hnm (by omega) a2 o2 cont)
      refine ⟨_, rfl, _, _, rfl, rfl, _, rfl, ite2 (fun q => ?_) (fun _ => iteF (goE _ .refl S.D))⟩
      have hp : (0 : Int) < (h.many : Int) := of_decide_eq_true q
      refine ⟨_, rfl, d, l, 3, rfl, S.D, by decide, by decide, fun r G1 r0 r1 D1 k1 => ⟨_, _, rfl, rfl, _, rfl, ite2 (fun _ => iteT (goL _ k1 D1 (by omega))) (fun _ => ?_)⟩⟩
      refine ⟨_, rfl, Nat.zero_le _, fun p np => ?_⟩
      have kp : Kp [] G1 (upd G1 p (.lst [])) := .new np
      have S2 := (S.go k1 D1).kp0 kp
      refine ⟨fo, p, _, rfl, rfl, S2.fok, upd_same, _, rfl, ite2 (fun _ => goL _ (k1.trans (kp.more (by simp))) S2.D (by omega)) (fun _ => goE _ (k1.trans (kp.more (by simp))) S2.D)⟩
    obtain ⟨tW, dW, rW⟩ : ∃ tt, PSs (cxOf CX0 Pr w K mg base NDp "_law_drawn_program" (defScope sDProg) (A 57) cdv Ar outer s H E).nox ((fb ((defBody sDProg).getD 2 noSt)).drop 0) tt ∧
        ∀ (De : Ends) (H3 : Hp) (fl fo : Addr) (vs ys : List V) (hs : List Hd) (fs : List Fn) (h : Hd) (x5 : Option V) (x9 x10 x11 : Option V), DP d l fl fo vs hs ys fs H H3 → fs.length ≤ 5 → HdsOk hs → hs.length ≤ 5 → h ∈ hs → (∀ (G : Hp) (v : V) (f : Fn) (x9 x10 x11 : Option V), DP d l fl fo vs hs (ys ++ [v]) (fs ++ [f]) H G → FG hs f → Fits f h → De.nx [some (.ref d), some (.int (m : Int)), some (.bl c), some (.ref fl), some (.ref fo), x5, some (.str h.nm), some (.str h.kd), some (.int (h.many : Int)), x9, x10, x11] G) →
        tt De [some (.ref d), some (.int (m : Int)), some (.bl c), some (.ref fl), some (.ref fo), x5, some (.str h.nm), some (.str h.kd), some (.int (h.many : Int)), x9, x10, x11] H3 := by
      refine ⟨_, (pss_cons (ps_set (i := 9) scDProg.nd rfl (.inl rfl) (pe_weakW (t1 := tNm d l) (pe_ifExp (pt_cmpR op_eq (pe_call (ok_draw L.draw.F B) hr1 (by rfl) L.draw.g L.draw.F.kp L.draw.b .nil pass0 (pa_cons (pv 0) (pa_cons pe_int pa_nil))) pe_int (nomark _)) (pe_callTy call_tuple_of (by rfl) B.tuple (by decide +kernel) (pa_cons (pe_slice sl_list (pe_lst (pa_cons pe_str (pa_cons pe_str (pa_cons pe_str pa_nil)))) po_none (po_some (pv 8))) pa_nil)) (pe_callTy call_tuple_of (by rfl) B.tuple (by decide +kernel) (pa_cons (pe_slice sl_list (pe_lst (pa_cons pe_str (pa_cons pe_str (pa_cons pe_str pa_nil)))) po_none (po_some (pv 8))) pa_nil))) (fun σ G Q h => by
            obtain ⟨n, e0, e8, hn, DG, kq⟩ := h
            refine ⟨_, e0, d, l, 2, rfl, DG, by decide, by decide, fun r G1 r0 r1 D1 k1 => ⟨rfl, _, rfl, ite2 (fun _ => ?_) (fun _ => ?_)⟩⟩
            · refine ⟨by show 3 ≤ sizeLine; decide, fun p1 np1 => ⟨_, e8, _, rfl, p1, _, rfl, sql_of upd_same, fun p2 np2 => ?_⟩⟩
              rw [cut_take]
              refine ⟨p2, _, rfl, .inl ⟨sql_of upd_same, fun p3 np3 => ?_⟩⟩
              exact kq p3 (nsA.take n) _ (by rw [upd_same, List.map_take]; rfl) (ns_ok n (by omega)).1 (ns_ok n (by omega)).2.2.1 (by rw [List.length_take]; show min n 3 = n; omega) (((D1.kp (Kp.new (ms := []) np1) (by simp) (by simp)).kp (Kp.new (ms := []) np2) (by simp) (by simp)).kp (Kp.new (ms := []) np3) (by simp) (by simp)) ((k1.trans (Kp.new np1)).trans ((Kp.new np2).trans (.new np3)))
            · refine ⟨by show 3 ≤ sizeLine; decide, fun p1 np1 => ⟨_, e8, _, rfl, p1, _, rfl, sql_of upd_same, fun p2 np2 => ?_⟩⟩
              rw [cut_take]
              refine ⟨p2, _, rfl, .inl ⟨sql_of upd_same, fun p3 np3 => ?_⟩⟩
              exact kq p3 (nsB.take n) _ (by rw [upd_same, List.map_take]; rfl) (ns_ok n (by omega)).2.1 (ns_ok n (by omega)).2.2.2 (by rw [List.length_take]; show min n 3 = n; omega) (((D1.kp (Kp.new (ms := []) np1) (by simp) (by simp)).kp (Kp.new (ms := []) np2) (by simp) (by simp)).kp (Kp.new (ms := []) np3) (by simp) (by simp)) ((k1.trans (Kp.new np1)).trans ((Kp.new np2).trans (.new np3)))))) (pss_cons (ps_set (i := 10) scDProg.nd rfl (.inl rfl) (pe_disp (pps_cons pe_str (pv 3) (pps_cons pe_str (pv 9) (pps_cons pe_str pe_int (pps_cons pe_str (pv 2) pps_nil)))) (by rfl) (by rfl) (fun z => by cases z) (by decide))) dI)), ?_⟩
      intro De H3 fl fo vs ys hs fs h x5 x9 x10 x11 S hf5 ok h5 hm cont
      have hm2 := (hds_all ok h5 h hm).2.2
      refine ⟨h.many, rfl, rfl, hm2, S.D, fun nt ns G1 hnt hns hnd hnm D1 k1 => ?_⟩
      have S1 := S.go k1 D1
      intro b nb
      have kb : Kp [] G1 (upd G1 b (.dK [])) := .new nb
      refine ⟨_, rfl, _, rfl, _, rfl, upd_same, boxD fl nt 14 c, rfl, by show 4 ≤ 15; decide, ?_⟩
      rw [merge_box]
      have fb := S1.D.fresh nb
      have e2 : upd (upd G1 b (.dK [])) b (.dK (boxD fl nt 14 c)) = upd G1 b (.dK (boxD fl nt 14 c)) := by
        funext x
        by_cases hx : x = b
        · rw [hx, upd_same, upd_same]
        · rw [upd_ne hx, upd_ne hx, upd_ne hx]
      rw [e2]
      have kb2 : Kp [] G1 (upd G1 b (.dK (boxD fl nt 14 c))) := .new nb
      exact rI De _ fl fo vs ys hs fs h x5 x11 nt b ns (S1.kp0 kb2) hf5 ok h5 hm (kb2.tup _ _ hnt) hns hnd hnm upd_same (S1.k.free nb (by simp [fb])) ⟨fb.1, fb.2, (ne_of_none S1.fok nb).symm⟩ cont
    obtain ⟨tC, dC, rC⟩ : ∃ tt, PSs (cxOf CX0 Pr w K mg base NDp "_law_drawn_program" (defScope sDProg) (A 57) cdv Ar outer s H E).nox ((defBody sDProg).drop 2) tt ∧
        ∀ (De : Ends) (H3 : Hp) (fl fo : Addr) (vs : List V) (hs : List Hd) (x5 x6 x7 x8 x9 x10 x11 : Option V), De.rt = Q → DP d l fl fo vs hs [] [] H H3 → HdsOk hs → 1 ≤ hs.length → hs.length ≤ 5 →
        tt De [some (.ref d), some (.int (m : Int)), some (.bl c), some (.ref fl), some (.ref fo), x5, x6, x7, x8, x9, x10, x11] H3 := by
      refine ⟨_, (pss_cons (ps_for PassesOwn.never rfl (pi_list (pv 3)) (pg_tup (n := 3) (by rfl) (pgs_cons (pg_name (i := 6) scDProg.nd rfl (.inl rfl)) (pgs_cons (pg_name (i := 7) scDProg.nd rfl (.inl rfl)) (pgs_cons (pg_name (i := 8) scDProg.nd rfl (.inl rfl)) pgs_nil)))) dW) (pss_one (ps_ret (pe_callTy call_tuple_of (by rfl) B.tuple (by decide +kernel) (pa_cons (pv 4) pa_nil))))), ?_⟩
      intro De H3 fl fo vs hs x5 x6 x7 x8 x9 x10 x11 eD S ok h1 h5
      subst eD
      refine ⟨_, rfl, fl, rfl, ⟨_, sql_of S.fk⟩, for_list (K := K) (a := fl) (xs := vs) (fun i σ G => ∃ (x6 x7 x8 x9 x10 x11 : Option V) (ys : List V) (fs : List Fn), σ = [some (.ref d), some (.int (m : Int)), some (.bl c), some (.ref fl), some (.ref fo), x5, x6, x7, x8, x9, x10, x11] ∧ DP d l fl fo vs hs ys fs H G ∧ fs.length = i ∧ (∀ f ∈ fs, FG hs f) ∧ FitsAll fs (hs.take i))
        ⟨_, _, _, _, _, _, [], [], rfl, S, rfl, by simp, .nil⟩ (fun i σ G _ h => by
          obtain ⟨_, _, _, _, _, _, _, _, _, S, _⟩ := h
          exact sql_of S.fk) ?_ ?_⟩
      · rintro i x σ G hx ⟨x6, x7, x8, x9, x10, x11, ys, fs, rfl, S, hi, hF, hA⟩
        obtain ⟨h, hh, r, rfl, er⟩ := S.hv.getV hx
        have hlt := (List.getElem?_eq_some_iff.mp hh).1
        have hm := List.mem_of_getElem? hh
        refine ⟨r, _, rfl, sqt_of er, rfl, _, _, rfl, _, _, rfl, _, _, rfl, rfl, ?_⟩
        refine rW _ G fl fo vs ys hs fs h x5 _ _ _ S (by omega) ok h5 hm fun G2 v f y9 y10 y11 S2 hf hfit => ⟨_, _, _, _, _, _, _, _, rfl, S2, by rw [List.length_append, hi]; rfl, ?_, ?_⟩
        · intro g hg
          rcases List.mem_append.mp hg with hg | hg
          · exact hF g hg
          · rw [List.mem_singleton.mp hg]
            exact hf
        · rw [List.take_add_one, hh]
          exact hA.snoc hfit
      · rintro σ G ⟨x6, x7, x8, x9, x10, x11, ys, fs, rfl, S, hi, hF, hA⟩
        have hvl := S.hv.len
        rw [hvl, List.take_length] at hA
        have hnd := hds_nd ok h5
        have hkn := hA.knows hnd
        refine ⟨_, rfl, fo, _, rfl, .inl ⟨sql_of S.fok, fun p np => ?_⟩⟩
        have kp : Kp [] G (upd G p (.tup ys)) := .new np
        refine k _ fs _ (fun ms => .tup upd_same ((all2_ants S.fv).kp kp ms)) ?_ (by rw [hA.names]; exact hnd) (by omega) (by omega) (S.D.kp kp (by simp) (by simp)) (S.k.trans (kp.more (by simp)))
        intro f hf
        obtain ⟨h, hh, e⟩ := hA.mem' f hf
        have g := hF f hf
        have q := hds_all ok h5 h hh
        refine ⟨⟨by rw [e.nm]; exact q.1, by rw [e.kd]; exact hds_kd ok hh, g.ns, g.nd, g.ok.wk.knows hkn⟩, g.ok.d, g.ok.w, g.nl, by rw [e.nm]; exact q.2.1, by rw [e.nm]; exact hds_more ok h5 h hh⟩
    refine ⟨_, (pss_cons (ps_par (i := 3) (j := 4) (by rfl) scDProg.nd rfl rfl (by decide) rfl rfl (pa_cons (pe_lst pa_nil) (pa_cons (pe_lst pa_nil) pa_nil)) (by rfl)) (pss_cons (ps_for PassesOwn.never rfl (pi_range1 (by rfl) B.range (pa_cons (pe_op op_add pe_int (pe_call (ok_draw L.draw.F B) hr1 (by rfl) L.draw.g L.draw.F.kp L.draw.b .nil pass0 (pa_cons (pv 0) (pa_cons (pv 1) pa_nil)))) pa_nil)) (pg_name (i := 5) scDProg.nd rfl (.inl rfl)) (pss_cons (ps_set (i := 6) scDProg.nd rfl (.inl rfl) (pe_op op_add_str (pe_call (ok_pick L.pick.F B L.draw) hr2 (by rfl) L.pick.g L.pick.F.kp L.pick.b .nil pass0 (pa_cons (pv 0) (pa_cons (pe_lst (pa_cons pe_str (pa_cons pe_str (pa_cons pe_str (pa_cons pe_str pa_nil))))) pa_nil))) (pe_callTy call_str_int (by rfl) B.str (by decide +kernel) (pa_cons (pv 5) pa_nil)))) (pss_one (ps_expr (pe_bm PySem.F.plainAttrs_list PySem.F.slot_list_append PySem.F.type_list_append mt_append (pv 3) (pa_cons (pe_tup (pa_cons (pv 6) (pa_cons (pe_call (ok_pick L.pick.F B L.draw) hr2 (by rfl) L.pick.g L.pick.F.kp L.pick.b .nil pass0 (pa_cons (pv 0) (pa_cons (pe_lst (pa_cons pe_str (pa_cons pe_str (pa_cons pe_str pa_nil)))) pa_nil))) (pa_cons (pe_weakW (t1 := tMn d l) (pe_ifExp (pt_cmpR op_gt (pv 5) pe_int (nomark _)) (pe_call (ok_pick L.pick.F B L.draw) hr2 (by rfl) L.pick.g L.pick.F.kp L.pick.b .nil pass0 (pa_cons (pv 0) (pa_cons (pe_lst (pa_cons pe_int (pa_cons pe_int (pa_cons pe_int (pa_cons pe_int (pa_cons pe_int pa_nil)))))) pa_nil))) (pe_call (ok_pick L.pick.F B L.draw) hr2 (by rfl) L.pick.g L.pick.F.kp L.pick.b .nil pass0 (pa_cons (pv 0) (pa_cons (pe_lst (pa_cons pe_int (pa_cons pe_int (pa_cons pe_int pa_nil)))) pa_nil)))) (fun σ G Q h => by
            obtain ⟨i, e0, e5, DG, kq⟩ := h
            refine ⟨_, e5, _, _, rfl, rfl, _, rfl, ite2 (fun _ => ?_) (fun _ => ?_)⟩
            · refine ⟨_, e0, by show 5 ≤ sizeLine; decide, fun p np => ?_⟩
              have k1 : Kp [] G (upd G p (.lst [.int 1, .int 1, .int 2, .int 0, .int 1])) := .new np
              have f1 := DG.fresh np
              refine ⟨d, l, p, _, rfl, DG.kp k1 (by simp) (by simp), sql_of upd_same, by simp, by show 5 ≤ 1000000; decide, f1.1, f1.2, fun y G2 hy D2 k2 => ?_⟩
              have kk : Kp [d, l] G G2 := (k1.more (by simp)).trans k2
              simp only [List.mem_cons, List.not_mem_nil, or_false] at hy
              rcases hy with rfl | rfl | rfl | rfl | rfl
              · exact kq 1 G2 (by omega) D2 kk
              · exact kq 1 G2 (by omega) D2 kk
              · exact kq 2 G2 (by omega) D2 kk
              · exact kq 0 G2 (by omega) D2 kk
              · exact kq 1 G2 (by omega) D2 kk
            · refine ⟨_, e0, by show 3 ≤ sizeLine; decide, fun p np => ?_⟩
              have k1 : Kp [] G (upd G p (.lst [.int 1, .int 1, .int 2])) := .new np
              have f1 := DG.fresh np
              refine ⟨d, l, p, _, rfl, DG.kp k1 (by simp) (by simp), sql_of upd_same, by simp, by show 3 ≤ 1000000; decide, f1.1, f1.2, fun y G2 hy D2 k2 => ?_⟩
              have kk : Kp [d, l] G G2 := (k1.more (by simp)).trans k2
              simp only [List.mem_cons, List.not_mem_nil, or_false] at hy
              rcases hy with rfl | rfl | rfl
              · exact kq 1 G2 (by omega) D2 kk
              · exact kq 1 G2 (by omega) D2 kk
              · exact kq 2 G2 (by omega) D2 kk)) pa_nil)))) pa_nil)))))) dC)), ?_⟩
    refine ⟨Nat.zero_le _, fun fl nfl => ⟨Nat.zero_le _, fun fo nfo => ⟨_, _, rfl, ?_⟩⟩⟩
    have k1 : Kp [] H (upd H fl (.lst [])) := .new nfl
    have k2 : Kp [] (upd H fl (.lst [])) (upd (upd H fl (.lst [])) fo (.lst [])) := .new nfo
    have f1 := D0.fresh nfl
    have D1 := D0.kp k1 (by simp) (by simp)
    have f2 := D1.fresh nfo
    have nff : fl ≠ fo := ne_of_none (upd_same (H := H) (o := .lst [])) nfo
    have S : DP d l fl fo [] [] [] [] H (upd (upd H fl (.lst [])) fo (.lst [])) := ⟨D1.kp k2 (by simp) (by simp), by rw [upd_ne nff]; exact upd_same, upd_same, .nil, .nil, ⟨f1.1, f1.2, nff⟩, f2, nfl, k1.free nfo (by simp), (k1.trans k2).more (by simp)⟩
    generalize upd (upd H fl (.lst [])) fo (.lst []) = H2 at S ⊢
    refine ⟨_, rfl, _, rfl, d, l, (m : Int), rfl, S.D, by omega, by omega, fun r H3 r0 r1 D3 k3 => ?_⟩
    replace S := S.go k3 D3
    obtain ⟨n, rfl⟩ : ∃ n : Nat, r = (n : Int) := ⟨r.toNat, by omega⟩
    refine ⟨_, _, rfl, rfl, 1 + (n : Int), rfl, by omega, by omega, ?_⟩
    rw [show (1 + (n : Int)).toNat = n + 1 by omega]
    refine for_range (lo := 0) (n := n + 1) (fun i σ G => ∃ (x5 x6 : Option V) (vs : List V) (hs : List Hd), σ = [some (.ref d), some (.int (m : Int)), some (.bl c), some (.ref fl), some (.ref fo), x5, x6, none, none, none, none, none] ∧ DP d l fl fo vs hs [] [] H G ∧ hs.length = i ∧ HdsOk hs)
      ⟨_, _, [], [], rfl, S, rfl, fun i h e => by cases e⟩ ?_ ?_
    · rintro i σ G hi ⟨x5, x6, vs, hs, rfl, S, hl, ok⟩
      rw [Int.zero_add]
      refine ⟨_, rfl, by show 4 ≤ sizeLine; decide, fun p1 np1 => ?_⟩
      have k1 : Kp [] G (upd G p1 (.lst [.str "f", .str "go", .str "is_it", .str "at2"])) := .new np1
      have f1 := S.D.fresh np1
      refine ⟨d, l, p1, _, rfl, (S.kp0 k1).D, sql_of upd_same, by simp, by show 4 ≤ 1000000; decide, f1.1, f1.2, fun y1 G1 hy1 D1 ky1 => ?_⟩
      have kk1 : Kp [d, l] G G1 := (k1.more (by simp)).trans ky1
      replace S := S.go kk1 D1
      obtain ⟨g, hg, rfl⟩ : ∃ g : Str, g ∈ bases ∧ y1 = V.str g := by
        simp only [List.mem_cons, List.not_mem_nil, or_false] at hy1
        rcases hy1 with rfl | rfl | rfl | rfl
        · exact ⟨_, by simp [bases], rfl⟩
        · exact ⟨_, by simp [bases], rfl⟩
        · exact ⟨_, by simp [bases], rfl⟩
        · exact ⟨_, by simp [bases], rfl⟩
      have i5 : i < 5 := by omega
      have gl := nm_len i i5 g hg
      refine ⟨_, rfl, (i : Int), rfl, log_small i i5, _, _, rfl, rfl, Nat.le_trans (Nat.le_of_eq (len_app _ _).symm) (Nat.le_trans gl (by decide)), ?_⟩
      refine ⟨_, rfl, .inl ⟨rfl, _, sql_of S.fk⟩, _, rfl, _, rfl, by show 3 ≤ sizeLine; decide, fun p2 np2 => ?_⟩
      have k2 : Kp [] G1 (upd G1 p2 (.lst [.str "place", .str "truth", .str "truth"])) := .new np2
      have f2 := S.D.fresh np2
      refine ⟨d, l, p2, _, rfl, (S.kp0 k2).D, sql_of upd_same, by simp, by show 3 ≤ 1000000; decide, f2.1, f2.2, fun y2 G2 hy2 D2 ky2 => ?_⟩
      have kk2 : Kp [d, l] G1 G2 := (k2.more (by simp)).trans ky2
      replace S := S.go kk2 D2
      obtain ⟨kd, hkd, rfl⟩ : ∃ kd : Str, (kd = kPlace ∨ kd = kTruth) ∧ y2 = V.str kd := by
        simp only [List.mem_cons, List.not_mem_nil, or_false] at hy2
        rcases hy2 with rfl | rfl | rfl
        · exact ⟨_, .inl rfl, rfl⟩
        · exact ⟨_, .inr rfl, rfl⟩
        · exact ⟨_, .inr rfl, rfl⟩
      refine ⟨(i : Int), rfl, rfl, S.D, fun mn G3 hmn D3 k3 => ⟨by show 3 ≤ sizeLine; decide, fun p3 np3 => ?_⟩⟩
      replace S := S.go k3 D3
      have k4 : Kp [] G3 (upd G3 p3 (.tup [.str (nmB g i), .str kd, .int (mn : Int)])) := .new np3
      have hv : HeadV (upd G3 p3 (.tup [.str (nmB g i), .str kd, .int (mn : Int)])) (.ref p3) ⟨nmB g i, kd, mn⟩ := ⟨p3, rfl, upd_same⟩
      replace S := S.kp0 k4
      have hvl := S.hv.len
      refine ⟨fl, _, _, rfl, rfl, S.fk, Nat.lt_of_le_of_lt (show vs.length ≤ 5 by omega) (by decide), _, _, _, _, rfl, S.head hv, by rw [List.length_append, hl]; rfl, ?_⟩
      intro j h e
      rcases Nat.lt_or_ge j hs.length with hj | hj
      · rw [List.getElem?_append_left hj] at e
        exact ok j h e
      · rw [List.getElem?_append_right hj] at e
        have e0 : j - hs.length = 0 := by
          have := (List.getElem?_eq_some_iff.mp e).1
          simp only [List.length_singleton] at this
          omega
        rw [e0] at e
        cases e
        have ej : j = i := by omega
        rw [ej]
        exact ⟨⟨g, hg, rfl⟩, hkd, hmn⟩
    · rintro σ G ⟨x5, x6, vs, hs, rfl, S, hl, ok⟩
      exact rC _ G fl fo vs hs _ _ _ _ _ _ _ rfl S ok (by omega) (by omega)
end
end Ey
set_option maxHeartbeats 4000000
namespace PySem
namespace ChoosingX
open PySem.W PySem.Calls PyProof.Rows PySem.HandSPX
/-! ### the text of __init__ -/
def iA (p1 p2 : Pos) : Arguments := { posonlyargs := [], args := [{ arg := "self", annotation := none, pos := p1 }, { arg := "thing", annotation := none, pos := p2 }], vararg := none, kwonlyargs := [], kw_defaults := [], kwarg := none, defaults := [] }
def iB (q1 q2 q3 q4 : Pos) : List Stmt := [.Assign [.Attribute (.Name "self" q1) "thing" q2] (.Name "thing" q3) q4]
def iS : Scope := { kind := .function, names := [(PySem.Str.ofString "self", .local), (PySem.Str.ofString "thing", .local)], isGenerator := false, isCoroutine := false, more := [] }
/-- what the written part says of Low, at C, and of its __init__, at fI -/
structure ChoosingTxt (K : Frag) (mg : Str → Option Value) (C fI : Addr) : Prop where
  gC : mg "Choosing" = some (.ref C)
  cls : ∃ nm q N bs bm sn sub ab col dd k0 k1 k2 k3 k5, K.lookup C = some (excClassObj nm q C N bs bm true sn sub ab col dd k0 k1 k2 k3 k5 "Exception.__new__") ∧ OwE.refsEx bm = true
  sa : findIn K (.ref C) "__setattr__" = some (some (.builtin "object.__setattr__"))
  ga : findIn K (.ref C) "__getattribute__" = some (some (.builtin "BaseException.__getattribute__"))
  gg : findIn K (.ref C) "__getattr__" = some none
  noN : findIn K (.ref C) "thing" = some none
  iC : findIn K (.ref C) "__init__" = some (some (.ref fI))
  tC : typeIn K (.ref fI) = some (.type "function")
  kC : keepIn K (.ref C) = true
  exC : subIn K (.ref C) (.type "BaseException") = some true
  tyC : typeIn K (.ref C) = some (.type "type")
  hdC : hasDictIn K C = true
  te : exmOne K (.ref C) (.ref C) = some true
  fn : ∃ (oc : Value) (od : Option Addr) (doc pm : Value) (an : Option Addr) (cdv ct : Value) (osl : Array (Option Value)) (p1 p2 q1 q2 q3 q4 : Pos),
    K.lookup fI = some ⟨oc, od, .func (fnOf "__init__" "Choosing.__init__" (iA p1 p2) (iB q1 q2 q3 q4) iS .none .none doc pm an cdv ct), osl⟩ ∧ codeIn K cdv "Choosing.__init__" = true
theorem one_size (v : Value) : [v].length ≤ sizeLine := by
  rw [sizeLine_eq]
  exact (by decide : 1 ≤ 16777216)
theorem kept_but {K : Frag} {h h' : Heap} {x : Addr} (X : K.In h) (hx : K.lookup x = none) (k : ∀ b o, b ≠ x → h.get? b = some o → h'.get? b = some o) : K.In h' := fun a o e =>
  k a o (fun z => by rw [z, hx] at e; cases e) (X a o e)
theorem ldC {M : Model} {s : Shared} {name : Str} {scope : Scope} {L a : Addr} {cd : Value} {m : Str → Option Value} {x : Str} {pos : Pos} {v : Value} {Q : Value → Shared → Prop} {A : Around} {E : Value → Shared → Prop} (hn : s.heap.Ns L m) (hv : m x = some v) (h : Q v s)
    (hk : scope.kind = .function := by rfl) (hl : (envOfC name scope L a cd).kindOf x = some .local := by rfl) (hd : (x == ("__debug__" : Str)) = false := by decide) :
    wpAny M A (eval (.Name x pos) (envOfC name scope L a cd)) Q E s := wpAny_Name (wpAny_loadName_local hk hl hn hv h) hd
/-- what __init__ leaves of a fresh exception at x -/
structure InitEnd (h h' : Heap) (x C dx t1 : Addr) (v : Value) : Prop where
  keep : ∀ b o, b ≠ x → h.get? b = some o → h'.get? b = some o
  obj : h'.get? x = some { cls := .ref C, dict := some dx, data := .fields #[.ref t1, .none, .none, .none, .bool false, .none] }
  dbig : h.objs.size ≤ dx
  dne : dx ≠ x
  ns : h'.Ns1 dx (fun y => if y = "thing" then some v else none)
/-- a made Low -/
structure OwnMade (h h' : Heap) (e C d : Addr) (v : Value) : Prop where
  keep : ∀ b o, h.get? b = some o → h'.get? b = some o
  new : h.objs.size ≤ e
  obj : ∃ oe vs, h'.get? e = some oe ∧ oe.cls = .ref C ∧ oe.dict = some d ∧ oe.data = .fields vs ∧ vs[1]? = some .none
  dbig : h.objs.size ≤ d
  dne : d ≠ e
  ns : h'.Ns1 d (fun y => if y = "thing" then some v else none)
section
variable {prog : Program} {w : World} {A : Around} {E : Value → Shared → Prop} {R : Result → Shared → Prop} {s : Shared} {K : Frag} {mg : Str → Option Value} {C fI : Addr}
theorem low_init (T : ChoosingTxt K mg C fI) {x t0 : Addr} {v : Value} (X : K.In s.heap) (hlim : s.heap.NoLimit) (hx : s.heap.get? x = some (excO C t0)) (hnx : K.lookup x = none) (hroom : A.depth < recursionLimit)
    (hq : ∀ h' tk dx, InitEnd s.heap h' x C dx t0 v → R (.ok (.ret .none)) { s with heap := h', toks := tk }) :
    codeAny (model prog w) A (.call (.ref fI) ⟨[.ref x, v], []⟩) R s := by
  obtain ⟨oc, od, doc, pm, an, cdv, ct, osl, p1, p2, q1, q2, q3, q4, ho, hcd⟩ := T.fn
  obtain ⟨nm, q, N, bs, bm, sn, sub, ab, col, dd, k0, k1, k2, k3, k5, hC, hbm⟩ := T.cls
  have hcl : clsIn K C = some { name := nm, bases := bs, mro := .ref C :: bm, ns := N, qualname := q, hasDict := true, slotNames := sn, subclasses := sub, abstract := ab, collection := col, hasDel := false } := by unfold clsIn; rw [hC] <;> rfl
  refine Att.call_fn (binds := [("self", .ref x), ("thing", v)]) X hlim ho hcd hroom (BindsTo.of_eq (by first | rfl | with_unfolding_all rfl)) (by first | rfl | decide | with_unfolding_all rfl) (fun s₁ IC => ?_) rfl rfl rfl
  obtain ⟨h₁, tk₁, rfl⟩ := IC.toInCall.same
  have k : ∀ b o, s.heap.get? b = some o → h₁.get? b = some o := IC.toInCall.keep
  have hn := IC.toInCall.ns
  have hxL : s.heap.objs.size ≠ x := Nat.ne_of_gt (Heap.lt_size hx)
  have X₁ : K.In h₁ := X.keeps k
  have hx₁ := k _ _ hx
  -- self.by = by
  show wpAny _ _ (execs _ _) _ _ _
  refine wpAny_execs_cons (plainObj_wpAny_Assign_Attribute ?_)
  refine ldC (v := v) hn (by first | rfl | with_unfolding_all rfl | kernel_rfl) (ldC (v := .ref x) hn (by first | rfl | with_unfolding_all rfl | kernel_rfl) ?_)
  refine set_plain X₁ (ox := excO C t0) (od := none) ⟨hx₁, rfl, rfl, trivial⟩ T.sa ?_
  refine OwE.osa_first X₁ hx₁ hcl (show OwE.refsEx (.ref C :: bm) = true from hbm) rfl T.noN (fun h₃ tk₃ dx k₃ dn dne hx₃ hn₃ => ?_)
  show wpAny _ _ (execs _ _) _ _ _
  have z : s.heap.objs.size < h₁.objs.size := hn.lt
  exact wpAny_execs_nil (hq h₃ tk₃ dx ⟨fun b o hb e => k₃ b o hb (k b o e), hx₃, Nat.le_of_lt (Nat.lt_of_lt_of_le z dn), dne, hn₃⟩)
theorem low_made (T : ChoosingTxt K mg C fI) {v : Value} (X : K.In s.heap) (hlim : s.heap.NoLimit) (hroom : A.depth + 1 < recursionLimit)
    (hq : ∀ h' tk e d, OwnMade s.heap h' e C d v → R (.ok (.ret (.ref e))) { s with heap := h', toks := tk }) :
    codeAny (model prog w) A (.call (.ref C) ⟨[v], []⟩) R s := by
  obtain ⟨nm, q, N, bs, bm, sn, sub, ab, col, dd, k0, k1, k2, k3, k5, hC, hbm⟩ := T.cls
  obtain ⟨hp, g, dr, tk, os⟩ := s
  have k : ∀ b o, hp.get? b = some o → ((hp.push (kdv_tup [v])).push (excO C hp.objs.size)).get? b = some o := fun b o e => Heap.get?_push_of_some _ (Heap.get?_push_of_some _ e)
  have hget : ((hp.push (kdv_tup [v])).push (excO C hp.objs.size)).get? (hp.objs.size + 1) = some (excO C hp.objs.size) := by heap_get
  have hnx : K.lookup (hp.objs.size + 1) = none := by
    cases e : K.lookup (hp.objs.size + 1) with
    | none => rfl
    | some o =>
      have z : hp.get? (hp.objs.size + 1) = some o := X _ _ e
      exact absurd (Nat.lt_of_succ_lt (Heap.lt_size z)) (Nat.lt_irrefl _)
  refine call_own F.excBase_Exception (fun X => OwE.refsEx_has X bm hbm) (X _ _ hC) (looks_findIn X T.iC) (fun self => bind_fn X self T.tC) (one_size v) ?_
  refine low_init (s := ⟨(hp.push (kdv_tup [v])).push (excO C hp.objs.size), g, dr, tk, os⟩) T (X.keeps k) (hlim.keeps k) hget hnx ?_ fun h' tk' dx ⟨k', hx, dn, dne, hns⟩ => ?_
  · show A.depth + 1 < recursionLimit
    exact hroom
  · have old : ∀ b o, hp.get? b = some o → h'.get? b = some o := fun b o e => k' b o (Nat.ne_of_lt (Nat.lt_succ_of_lt (Heap.lt_size e))) (k b o e)
    have z : hp.objs.size + 1 + 1 ≤ dx := by
      first
        | (simpa only [Heap.size_push] using dn)
        | exact dn
        | (have q := dn; rw [Heap.size_push, Heap.size_push] at q; exact q)
    exact ⟨rfl, hq h' tk' (hp.objs.size + 1) dx ⟨old, Nat.le_succ _, ⟨_, _, hx, rfl, rfl, rfl, rfl⟩, Nat.le_trans (Nat.le_trans (Nat.le_succ _) (Nat.le_succ _)) z, dne, hns⟩⟩
end
end ChoosingX
end PySem
namespace L2
open PySem PySem.Spec PyProof.Rows
theorem relO_Choosing {v : V} {v' : Value} (r : RelV v v') (f : Str) : RelO (List.lookup f [(("thing" : Str), v)]) (if f = "thing" then some v' else none) := by
  by_cases hw : f = "thing"
  · subst hw
    rw [if_pos rfl]
    have q : List.lookup ("thing" : Str) [(("thing" : Str), v)] = some v := by simp [List.lookup]
    rw [q]
    exact r
  · rw [if_neg hw]
    have qw : (f == ("thing" : Str)) = false := by simpa using hw
    have q2 : List.lookup f [(("thing" : Str), v)] = none := by simp [List.lookup, qw]
    rw [q2]
    trivial
section
variable {X : Cx} {C fI : Addr}
/-- Low(e) -/
def tMkChoosing (C : Addr) (ta : TA) : St → Hp → XK → Prop := fun σ H Q => ta σ H fun vs H1 => ∃ v, vs = [v] ∧ ∀ d, H1 d = none → Q (.ref C) (some d) (upd H1 d (.xd [(("thing" : Str), v)]))
theorem pmk_Choosing {a : Expr} {ta : TA} {p pos : Pos} {k : Nat} (T : PySem.ChoosingX.ChoosingTxt X.K X.mg C fI) (hr : Room k X.A) (ha : PA X [a] ta) (hg : Gl X "Choosing" := by rfl)
    (he : starEach (a :: []) X.env = (false, eval a X.env) :: starEach [] X.env := by rfl) (hpl : (backTo pos (starEach [] X.env)).any (·.1) = false := by rfl) :
    PMk X (.Call (.Name "Choosing" p) [a] [] pos) (tMkChoosing C ta) := by
  intro pins s σ H Q I h
  refine wpAny_Call_Name_kw (ld_glob I hg T.gC ?_)
  refine PySem.W.callWith_K (h₀ := X.base) I.ok.mod.kin T.kC (thn (ha.run pos pins s σ H _ I h) fun us s1 hh => ?_) he hpl
  obtain ⟨vs, H1, I1, r1, v, ev, q1⟩ := hh
  subst ev
  refine ⟨I1.kIn, ?_⟩
  cases r1 with
  | cons rv rn =>
    rename_i v' us'
    cases rn
    show wpAny _ _ (call (.ref C) [v']) _ _ _
    have hlim := I1.nolimit
    obtain ⟨hp, g, dr, tk, os⟩ := s1
    refine wpAny_call (PySem.ChoosingX.low_made T I1.kIn hlim (by have := hr.dp; omega) fun h' tk' e d M => ?_)
    show MkP X pins σ Q (.ref e) ⟨h', g, dr, tk', os⟩
    obtain ⟨oe, fv, hoe, hc, hd, hdat, h1⟩ := M.obj
    have hns := M.ns
    obtain ⟨G', g1, g2⟩ := restrict h' fun b => decide (b ≠ e)
    have gk : ∀ b, b ≠ e → G'.get? b = h'.get? b := fun b hb => g1 b (decide_eq_true hb)
    have ge : G'.get? e = none := g2 e (by simp)
    have old : ∀ b o, hp.get? b = some o → G'.get? b = some o := fun b o q => (gk b (Nat.ne_of_lt (Nat.lt_of_lt_of_le (Heap.lt_size q) M.new))).trans (M.keep b o q)
    have ob : ObjOk X.prog X.w (upd H1 d (.xd [(("thing" : Str), v)])) G' d (.xd [(("thing" : Str), v)]) :=
      ⟨_, hns.at (fun o q => (gk d M.dne).trans q), fun f => relO_Choosing rv f⟩
    have J : Inv X pins σ (upd H1 d (.xd [(("thing" : Str), v)])) ⟨G', g, dr, tk', os⟩ := I1.laid (t' := tk') old M.dbig ob
    refine ⟨e, oe, fv, ⟨G', g, dr, tk', os⟩, _, .ref C, some d, rfl, J, fun b o q => ?_, ge, hoe, ⟨hc, hd⟩, hdat, h1, ?_, rfl, I1.bare, raises_own T.exC T.tyC, q1 d (I1.hok.fresh M.dbig)⟩
    · by_cases hb : b = e
      · have q' : G'.get? b = some o := q
        rw [hb, ge] at q'; cases q'
      · exact (gk b hb).symm.trans q
    · rw [upd_ne (Ne.symm M.dne)]
      exact I1.hok.fresh M.new
/-- raise Low(e) -/
def tRaiseChoosing (C : Addr) (W : WX) (ta : TA) : TS := fun _ σ H => tMkChoosing C ta σ H fun cls d H' => W cls d σ H'
theorem ps_raiseChoosing {a : Expr} {ta : TA} {W : WX} {p pos pos2 : Pos} {k : Nat} (hc : X.calm = true) (T : PySem.ChoosingX.ChoosingTxt X.K X.mg C fI) (hr : Room k X.A) (tk : Takes X W) (ha : PA X [a] ta) (hg : Gl X "Choosing" := by rfl)
    (he : starEach (a :: []) X.env = (false, eval a X.env) :: starEach [] X.env := by rfl) (hpl : (backTo pos (starEach [] X.env)).any (·.1) = false := by rfl) :
    PS X (.Raise (some (.Call (.Name "Choosing" p) [a] [] pos)) none pos2) (tRaiseChoosing C W ta) := ps_raise hc tk (pmk_Choosing T hr ha hg he hpl)
/-- low.by, low the exception that the suite holds (at a; its class cls, its dict d) -/
def tByChoosing (C : Addr) (a : Addr) (cls : Value) (d : Option Addr) (te : TE) : TE := fun σ H Q => te σ H fun x H1 => x = .ref a ∧ cls = .ref C ∧ ∃ (dd : Addr) (v : V), d = some dd ∧ H1 dd = some (.xd [(("thing" : Str), v)]) ∧ Q v H1
theorem pe_byChoosing {a : Addr} {oe : Obj} {cls : Value} {d : Option Addr} {pn : List (Addr × Obj)} {e : Expr} {te : TE} {pos : Pos} (T : PySem.ChoosingX.ChoosingTxt X.K X.mg C fI) (hz : Zc cls d oe) (hf : ∃ vs, oe.data = .fields vs) (he : PE (X.suite a ((a, oe) :: pn)) e te)
    (hb : attributeBase e "thing" X.env (eval e X.env) = eval e X.env := by rfl) :
    PE (X.suite a ((a, oe) :: pn)) (.Attribute e "thing" pos) (tByChoosing C a cls d te) := by
  refine ⟨fun pins s σ H Q I h => ?_⟩
  refine attr_of hb (thn (he.run pins s σ H _ I h) fun u s1 hh => ?_)
  obtain ⟨x, H1, I1, rx, ex, ec, dd, v, ed, ea, q⟩ := hh
  subst ex
  obtain rfl : u = Value.ref a := rx
  subst ec
  subst ed
  obtain ⟨ha, _⟩ := I1.pin (a, oe) (List.mem_append_left _ List.mem_cons_self)
  obtain ⟨vs, hd⟩ := hf
  have hx : ObjOk X.prog X.w H1 s1.heap dd (.xd [(("thing" : Str), v)]) := I1.hok dd _ ea
  obtain ⟨mA, hns, hr⟩ := hx
  obtain ⟨od, ho, hl⟩ := lookIn_ns hns
  have l : List.lookup ("thing" : Str) [(("thing" : Str), v)] = some v := by simp [List.lookup]
  obtain ⟨u, hu, ru⟩ := RelO.some_of (v := v) (o := mA "thing") (by rw [← l]; exact hr "thing")
  have J : PySem.W.InstAt s1.heap a oe C (some od) := ⟨ha, hz.1, by unfold PySem.W.notCls; rw [hd] <;> rfl, by rw [hz.2]; exact ho⟩
  exact HandSPX.exc_get I1.kIn J T.ga T.gg T.exC (PySem.W.findObj_own T.hdC T.noN rfl (by rw [hl, hu])) (handed_of ru) ⟨v, H1, I1.tok _, ru, q⟩
end
end L2
set_option maxHeartbeats 4000000
namespace Ey
open PySem PySem.Spec L2
/-! ### f(k = v, ..), the parameters told from the last one to the first -/
def gRv {α : Type} (us ws : List α) : List α := match us with
  | [] => ws.reverse
  | _ :: _ => []
theorem vals_rv {xs : List V} {us : List Value} (h : Vals xs us) : Vals xs.reverse us.reverse := by
  induction h with
  | nil => exact .nil
  | cons a _ ih =>
    rw [List.reverse_cons, List.reverse_cons]
    exact ih.append (.cons a .nil)
theorem kb_rv {K : PySem.W.Frag} {fd : FuncData} {ps ks : List Str} (hp : ps ≠ []) (h : ∀ ws : List Value, ws.length = ps.length → bindArgs fd ⟨[], ks.zip ws⟩ = pure (ps.zip ws.reverse)) : KBinds K fd ps ks gRv gRv := by
  refine ⟨fun s us ws _ hl => ?_, fun {vs us zs ws} r1 r2 => ?_⟩
  · cases us with
    | nil => exact .of_eq (h ws (by rw [← hl]; exact (List.length_reverse).symm))
    | cons a r => exact absurd hl (by intro e; exact hp (List.length_eq_zero_iff.mp e.symm))
  · cases r1 with
    | nil => exact vals_rv r2
    | cons _ _ => exact .nil
theorem Fun.rvs {K : PySem.W.Frag} {x qual : Str} {st : Stmt} {f : Addr} {fd : FuncData} {ps ks : List Str} (F : Fun K x qual st f fd) (hp : ps ≠ [])
    (h : ∀ (kV doc pm : Value) (an : Option Addr) (cdv ct : Value) (ws : List Value), ws.length = ps.length → bindArgs (PySem.W.fnOf x qual (defArgs st) (defBody st) (defScope st) .none kV doc pm an cdv ct) ⟨[], ks.zip ws⟩ = pure (ps.zip ws.reverse)) : KBinds K fd ps ks gRv gRv := by
  obtain ⟨oc, od, kV, doc, pm, an, cdv, ct, osl, rfl, lk, _⟩ := F.ex
  exact kb_rv hp (h kV doc pm an cdv ct)
section
variable {X : Cx} {CX : CXT} {k : Nat} {f : Addr} {fd : FuncData} {qs ks : List Str} {sp : Sp} {E : XK} {x : Str} {p pos : Pos} {kws : List Keyword} {tk : TA} {g : List Value → List Value → List Value} {gV : List V → List V → List V}
theorem pe_callKR (F : FnOk X.prog X.w X.K X.mg X.base CX k f fd qs sp) (hr : Room k X.A) (hg : Gl X x) (hm : X.mg x = some (.ref f)) (hk : PySem.W.keepIn X.K (.ref f) = true) (hb : KBinds X.K fd qs ks g gV) (hx : Passes CX X E) (hkw : PK X kws tk)
    (hall : (backToKw pos (keywordEach kws X.env)).all (·.1.isSome) = true := by rfl) (hks : (backToKw pos (keywordEach kws X.env)).filterMap (·.1) = ks := by rfl) (hdb : (x == ("__debug__" : Str)) = false := by decide)
    (hpl : ((backTo pos (starEach [] X.env)).any (·.1) || (backToKw pos (keywordEach kws X.env)).any (·.1.isNone)) = false := by rfl) :
    PE X (.Call (.Name x p) [] kws pos) (tCallK sp gV E tNil tk) := by
  refine ⟨fun pins s σ H Q I h => wpAny_Call_Name_kw (ld_glob I hg hm ?_ hdb)⟩
  refine PySem.W.callWith_KW0 (h₀ := X.base) I.ok.mod.kin hk hall ?_ hpl
  refine thn (hkw.run pos pins s σ H _ I h) fun ws s2 ⟨zs, H2, I2, rz, q2⟩ => ⟨I2.kIn, ?_⟩
  rw [hks]
  exact run_fnk (us := []) (vs := []) F hr hb hx I2 .nil rz q2
end
end Ey
set_option maxHeartbeats 4000000
namespace Ey
open PySem PySem.Spec L2
section
variable {X : Cx} {CX : CXT} {k : Nat} {f : Addr} {fd : FuncData} {qs ks : List Str} {sp : Sp} {E : XK} {x : Str} {p pos : Pos} {kws : List Keyword} {tk : TA} {g : List Value → List Value → List Value} {gV : List V → List V → List V}
/-- the same within a try: what it lets out is wished for at the slots as they stand -/
def tCallKS (sp : Sp) (gV : List V → List V → List V) (E : St → XK) (tk : TA) : TE := fun σ H Q => tk σ H fun zs H1 => sp (gV [] zs) H1 Q (E σ)
theorem pe_callKS {E : St → XK} (F : FnOk X.prog X.w X.K X.mg X.base CX k f fd qs sp) (hr : Room k X.A) (hg : Gl X x) (hm : X.mg x = some (.ref f)) (hk : PySem.W.keepIn X.K (.ref f) = true) (hb : KBinds X.K fd qs ks g gV) (hx : ∀ σ, PassesAt CX X σ (E σ)) (hkw : PK X kws tk)
    (hall : (backToKw pos (keywordEach kws X.env)).all (·.1.isSome) = true := by rfl) (hks : (backToKw pos (keywordEach kws X.env)).filterMap (·.1) = ks := by rfl) (hdb : (x == ("__debug__" : Str)) = false := by decide)
    (hpl : ((backTo pos (starEach [] X.env)).any (·.1) || (backToKw pos (keywordEach kws X.env)).any (·.1.isNone)) = false := by rfl) :
    PE X (.Call (.Name x p) [] kws pos) (tCallKS sp gV E tk) := by
  refine ⟨fun pins s σ H Q I h => wpAny_Call_Name_kw (ld_glob I hg hm ?_ hdb)⟩
  refine PySem.W.callWith_KW0 (h₀ := X.base) I.ok.mod.kin hk hall ?_ hpl
  refine thn (hkw.run pos pins s σ H _ I h) fun ws s2 ⟨zs, H2, I2, rz, q2⟩ => ⟨I2.kIn, ?_⟩
  rw [hks]
  have r2 : Vals (gV [] zs) (g [] ws) := hb.rel .nil rz
  have hl : (g [] ws).length = qs.length := by rw [← r2.length]; exact F.len _ _ _ _ q2
  refine wpAny_call (codeAny_mono (F.run X.A X.stack s2 H2 ⟨[], ks.zip ws⟩ (g [] ws) (gV [] zs) Q (E σ) hr I2.env0 (hb.to s2 [] ws I2.kIn hl) r2 q2) fun r s' hq => ?_)
  cases r with
  | error e => exact hx σ pins H2 s2 e s' I2 hq
  | ok fl =>
    cases fl with
    | ret u => exact I2.after hq
    | next => exact False.elim hq
    | brk => exact False.elim hq
    | cont => exact False.elim hq
end
end Ey
set_option maxHeartbeats 4000000
namespace Ey
open PySem PySem.Spec PyProof.Rows L2
/-! ### programs that choose -/
structure XC (K : PySem.W.Frag) (mg : Str → Option Value) (BC CE fC : Addr) : Prop where
  ch : PySem.ChoosingX.ChoosingTxt K mg BC fC
  gE : mg "EyesError" = some (.ref CE)
  says : PySem.OwE.SaysC K BC
  kit : PySem.W.kitOne K (.ref BC) (.ref CE) = some true
def chNames (fs : List Fn) : List Str := (fs.filter chD).map (·.nm)
section
variable {Pr : Program} {w : World} {K : PySem.W.Frag} {mg : Str → Option Value} {base : Heap} {ms : List Addr} {a : Adr} {aO BC CE fC : Addr}
def spWithoutX (ms : List Addr) (BC : Addr) : Sp := fun vs H Q E => ∃ (v : V) (fs : List Fn) (n : Str), vs = [v] ∧ An ms H v (.tuple (fs.map fD)) ∧ (∀ f ∈ fs, isTerm f.bd = true) ∧ wd (.tuple (fs.map fD)) ≤ 1000000 ∧ (chNames fs).head? = some n ∧
  ∀ (dd : Addr) (H' : Hp), H' dd = some (.xd [("thing", .str n)]) → Kp [] H H' → E (.ref BC) (some dd) H'
theorem ok_withoutX (F : KW K w mg a aO) (X : XC K mg BC CE fC) : FnOk Pr w K mg base (L2.CX Pr w) 4 (a.A 40) (a.D 40) ["program"] (spWithoutX ms BC) := by
  refine F.without.F.okX scWithout (fun vs H Q E h => ?_) (fun cdv Ar outer s0 H vs Q E hr h => ?_)
  · obtain ⟨v, fs, n, rfl, _⟩ := h
    rfl
  · obtain ⟨v, fs, n, rfl, hv, hT, hz, hc, kE⟩ := h
    refine ⟨_, pss_cons (ps_set (i := 1) scWithout.nd rfl (.inl rfl) (pe_call (ok_chNames (ms := ms) F) (hr.mono (by decide)) (by rfl) F.chNames.g F.chNames.F.kp F.chNames.b .nil pass0 (by exact (pa_cons (pv 0) pa_nil))))
      (pss_one (ps_if (pt_truth (pv 1) (by intro _; rfl))
        (pss_one (ps_raiseChoosing rfl X.ch hr (takes_of rfl rfl rfl rfl) (by exact (pa_cons (pe_ix ix_list (pv 1) pe_int (fun _ _ => rfl)) pa_nil)))) pss_nil)), ?_⟩
    refine ⟨_, rfl, v, fs, rfl, hv, hT, hz, fun L G nL hL k1 => ?_⟩
    obtain ⟨r, er⟩ : ∃ r, chNames fs = n :: r := by
      revert hc
      generalize chNames fs = l
      intro hc
      cases l with
      | nil => cases hc
      | cons x r => cases hc; exact ⟨r, rfl⟩
    have hL' : G L = some (.lst (V.str n :: r.map V.str)) := by
      rw [hL]
      show some (HO.lst ((chNames fs).map V.str)) = _
      rw [er]
      rfl
    exact ⟨_, rfl, _, .inl ⟨_, sql_of hL', rfl⟩, iteT ⟨_, rfl, L, _, _, _, rfl, rfl, sql_of hL', atI_nat (j := 0) rfl, _, rfl, fun dd hd => kE dd _ upd_same (k1.trans (.new hd))⟩⟩
def spBoundX (ms Ts : List Addr) (BC : Addr) : Sp := fun vs H Q E => ∃ (v : V) (fs : List Fn) (n : Str), vs = [v] ∧ An ms H v (.tuple (fs.map fD)) ∧ isProgD (.tuple (fs.map fD)) = true ∧ wd (.tuple (fs.map fD)) ≤ 400000 ∧ (chNames fs).head? = some n ∧ TTs Ts H ∧ (∀ P ∈ Ts, P ∈ ms) ∧
  ∀ (dd : Addr) (H' : Hp), H' dd = some (.xd [("thing", .str n)]) → TTs Ts H' → Kp Ts H H' → E (.ref BC) (some dd) H'
theorem ok_boundX (F : KW K w mg a aO) (b : BF base mg a) (X : XC K mg BC CE fC) : FnOk Pr w K mg base (L2.CX Pr w) 11 (a.A 50) (a.D 50) ["program"] (spBoundX ms a.Ts BC) := by
  have B := F.B
  refine F.bound.F.okX scBound (fun vs H Q E h => ?_) (fun cdv Ar outer s0 H vs Q E hr h => ?_)
  · obtain ⟨v, fs, n, rfl, _⟩ := h
    rfl
  · obtain ⟨v, fs, n, rfl, hv, hp, hz, hc, hT, hs, kE⟩ := h
    refine ⟨_, pss_cons (ps_expr (pe_call (ok_checkP (ms := ms) F.toKP b) (hr.mono (by decide)) (by rfl) F.checkP.g F.checkP.F.kp F.checkP.b .nil pass0 (by exact (pa_cons (pv 0) pa_nil))))
      (pss_cons (ps_expr (pe_call (E := E) (ok_withoutX (ms := ms) F X) (hr.mono (by decide)) (by rfl) F.without.g F.without.F.kp F.without.b .nil (passes_call (takes_of rfl rfl rfl rfl) (fun _ _ _ _ h => h)) (by exact (pa_cons (pv 0) pa_nil))))
      (pss_one (ps_ret (pe_call (ok_polyOf F.polyOf.F B) (hr.mono (by decide)) (by rfl) F.polyOf.g F.polyOf.F.kp F.polyOf.b .nil pass0 (pa_cons (pe_lc (own := [("function", 1)]) (g := gName 1) (tt := tYes) rfl scBound.nd (pi_tup (pv 0)) (blkOk_by (N := NBd) (sc := defScope sBound) (by decide +kernel)) (fun _ _ _ _ _ => pg_name (i := 1) scBound.nd rfl (Or.inl rfl)) (fun _ _ _ _ _ => pts_nil)
          (fun _ _ _ _ _ => (pe_call (ok_boundOf (ms := ms) F) (hr.mono (by decide)) (by rfl) F.boundOf.g F.boundOf.F.kp F.boundOf.b .nil pass0 (pa_cons (pv 1) pa_nil)))) pa_nil))))), ?_⟩
    refine ⟨_, rfl, v, _, rfl, hv, hz, hp, hT, hs, fun H1 g1 k1 => ?_⟩
    exact ⟨_, rfl, v, fs, n, rfl, hv.kp k1 hs _, prog_terms hp, by omega, hc, fun dd H2 hd k2 => kE dd H2 hd (g1.kp0 k2) (k1.trans (k2.more (by simp)))⟩
/-! ### the law's own look at a refusal -/
abbrev NRf : List Str := ["_law_program", "_law_name", "e"]
theorem scRefused : FnScope NRf ["_law_program", "_law_name"] (defScope sRefused) := ⟨rfl, rfl, rfl, by decide +kernel, rfl, by decide +kernel, by decide +kernel⟩
def spRefused (ms Ts : List Addr) : Sp := fun vs H Q _ => ∃ (v : V) (fs : List Fn) (n : Str), vs = [v, .str n] ∧ An ms H v (.tuple (fs.map fD)) ∧ isProgD (.tuple (fs.map fD)) = true ∧ wd (.tuple (fs.map fD)) ≤ 400000 ∧ (chNames fs).head? = some n ∧ TTs Ts H ∧ (∀ P ∈ Ts, P ∈ ms) ∧
  ∀ H', TTs Ts H' → Kp Ts H H' → Q (.bl true) H'
theorem ok_refused {fR : Addr} {dR : FuncData} (F : KW K w mg a aO) (b : BF base mg a) (X : XC K mg BC CE fC) (kB : KBinds K (a.D 50) ["program"] ["program"] gRv gRv) (R : Df K mg "_law_is_refused" sRefused ["_law_program", "_law_name"] fR dR) : FnOk Pr w K mg base CX0 12 fR dR ["_law_program", "_law_name"] (spRefused ms a.Ts) := by
  have B := F.B
  refine R.F.ok scRefused (fun vs H Q E h => ?_) (fun cdv Ar outer s0 H vs Q E hr h => ?_)
  · obtain ⟨v, fs, n, rfl, _⟩ := h
    rfl
  · obtain ⟨v, fs, n, rfl, hv, hp, hz, hc, hT, hs, k⟩ := h
    have g11 : FnOk Pr w K mg base (L2.CX Pr w) 11 (a.A 50) (a.D 50) ["program"] (spBoundX ms a.Ts BC) := ok_boundX F b X
    refine ⟨_, pss_cons (ps_try_as (i := 2) (Wout := fun _ _ _ _ => False) rfl rfl scRefused.nd rfl rfl ⟨rfl, by decide, Or.inl X.ch.gC⟩ takes0
        (fun W pn xe tk _ => pss_one (ps_expr (pe_callKS g11 hr (by rfl) F.bound.g F.bound.F.kp kB (fun σ => passAt tk σ) (by exact (pk_cons (pv 0) pk_nil)))))
        (fun a oe cls d pn hz hf => pss_one (ps_ret (pe_and (pe_callB (call_isE2 X.says hz hf) (by rfl) B.isi (by decide +kernel) (pa_cons (pv 2) (pa_cons (pe_glob (v := .ref CE) (by rfl) X.gE rfl) pa_nil)))
          (pe_one (pe_cmpR op_eq (pe_byChoosing X.ch hz hf (pv 2)) (pv 1) (nomark _)))))))
      (pss_one (ps_ret pe_bl)), ?_⟩
    refine ⟨_, rfl, v, fs, n, rfl, hv, hp, hz, hc, hT, hs, fun dd H' hd g k1 => ⟨true, X.ch.te, fun _ a ha => ?_, fun q => nomatch q⟩⟩
    refine ⟨_, rfl, rfl, dd, _, rfl, hd, .ref CE, .ref CE, true, rfl, fun u r => r, X.kit, true, rfl, ?_⟩
    refine ⟨_, rfl, rfl, rfl, dd, _, rfl, hd, _, rfl, rfl, ?_⟩
    rw [decide_eq_true rfl]
    exact k H' g k1
end
end Ey
set_option maxHeartbeats 4000000
namespace Ey
open PySem PySem.Spec L2
section
variable {X : Cx}
/-- x is True, x is not False ..: two bools -/
def rIsB : R2 := fun x y H Q => ∃ a b, x = .bl a ∧ y = .bl b ∧ Q (.bl (a == b)) H
def rNotB : R2 := fun x y H Q => ∃ a b, x = .bl a ∧ y = .bl b ∧ Q (.bl (!(a == b))) H
theorem op_isB : OpR X (compareOp .Is) rIsB := by
  intro pins s σ H x y v u Q I rx ry h
  obtain ⟨a, b, rfl, rfl, q⟩ := h
  cases rx
  cases ry
  exact wpAny_is_plain rfl (fin_bl I q (by cases a <;> cases b <;> decide))
theorem op_notB : OpR X (compareOp .IsNot) rNotB := by
  intro pins s σ H x y v u Q I rx ry h
  obtain ⟨a, b, rfl, rfl, q⟩ := h
  cases rx
  cases ry
  exact wpAny_isNot_plain rfl (fin_bl I q (by cases a <;> cases b <;> decide))
end
end Ey
set_option exponentiation.threshold 1000
set_option maxHeartbeats 4000000
namespace Ey
open PySem PySem.Spec L2
/-! ### sums over terms are small -/
theorem sum_wd (p : Str → Bool) : ∀ (n : Nat) (d : PyData), wd d ≤ n → isTerm d = true → sumD p d ≤ wd d
  | 0, d, h, ht => by
    have hh : headed d = true := by
      rw [isTerm_eq, Bool.and_eq_true] at ht
      exact ht.1
    have := parts_lt hh
    omega
  | n + 1, d, h, ht => by
    have hh : headed d = true := by
      rw [isTerm_eq, Bool.and_eq_true] at ht
      exact ht.1
    have hp := parts_lt hh
    have key : ∀ l : List PyData, (∀ x ∈ l, x ∈ partsD d) → (l.map (sumD p)).sum ≤ wdAll l := by
      intro l
      induction l with
      | nil => intro _; exact Nat.le_refl _
      | cons x r ih =>
        intro hx
        have hm := hx x List.mem_cons_self
        have h1 := parts_wd hm
        have tx : isTerm x = true := by
          rw [isTerm_eq, Bool.and_eq_true] at ht
          exact List.all_eq_true.mp ht.2 _ hm
        have h2 := sum_wd p n x (by omega) tx
        have h3 := ih fun y hy => hx y (List.mem_cons_of_mem _ hy)
        show sumD p x + (r.map (sumD p)).sum ≤ wd x + 2 + wdAll r
        omega
    have hk := key (partsD d) fun x hx => hx
    rw [sumD_eq]
    have : (if p (wordD d) = true then 1 else 0) ≤ 1 := by split <;> decide
    omega
/-! ### programs of the law -/
structure FB (f : Fn) : Prop where
  t : isTerm f.bd = true
  d : f.bd.depth ≤ 14
  w : wd f.bd ≤ 26000
  n : f.ns.length ≤ 5
theorem FB.bnd {f : Fn} (h : FB f) : (1 + sumD pC f.bd) * sumD (fun _ => true) f.bd ≤ 700000000 := by
  have a := sum_wd pC _ _ (Nat.le_refl _) h.t
  have b := sum_wd (fun _ => true) _ _ (Nat.le_refl _) h.t
  have w := h.w
  exact Nat.le_trans (Nat.mul_le_mul (show 1 + sumD pC f.bd ≤ 26001 by omega) (show sumD (fun _ => true) f.bd ≤ 26000 by omega)) (by decide)
theorem FB.pos {f : Fn} : 1 ≤ (1 + sumD pC f.bd) * sumD (fun _ => true) f.bd := by
  have : 1 ≤ sumD (fun _ => true) f.bd := by
    rw [sumD_eq, if_pos rfl]
    omega
  exact Nat.mul_pos (by omega) this
structure PB2 (fs : List Fn) : Prop where
  ok : isProgD (.tuple (fs.map fD)) = true
  b : ∀ f ∈ fs, FB f
  l : fs.length ≤ 6
  w : wd (.tuple (fs.map fD)) ≤ 400000
def fnW (f : Fn) : Nat := wd (.str f.nm) + wd (.str f.kd) + wdAll (f.ns.map PyData.str) + wd f.bd
theorem fD_w (f : Fn) : wd (fD f) = wd (.str kFun) + 2 + (wd (.str f.nm) + 2 + (wd (.str f.kd) + 2 + (wdAll (f.ns.map PyData.str) + 3 + 2 + (wd f.bd + 2 + 0)))) + 3 := rfl
theorem strs_w : ∀ ns : List Str, (∀ g ∈ ns, isName g = true) → wdAll (ns.map PyData.str) ≤ 204 * ns.length
  | [], _ => Nat.zero_le _
  | g :: r, h => by
    have h1 := name_w (h g List.mem_cons_self)
    have h2 := strs_w r fun x hx => h x (List.mem_cons_of_mem _ hx)
    show wd (.str g) + 2 + wdAll (r.map PyData.str) ≤ 204 * (r.length + 1)
    omega
theorem fn_w {fs : List Fn} {f : Fn} (h : FnOkD fs f) (b : FB f) : wd (fD f) ≤ 30000 := by
  have e1 : wd (.str kFun) = 32 := by decide +kernel
  have e2 : wd (.str f.kd) ≤ 52 := by
    rcases h.kd with e | e
    · rw [e]; decide +kernel
    · rw [e]; decide +kernel
  have e3 := name_w h.nm
  have e4 := strs_w f.ns h.ns
  have e5 := b.w
  have e6 := b.n
  rw [fD_w]
  omega
theorem fns_w {gs : List Fn} : ∀ {fs : List Fn}, (∀ f ∈ fs, FnOkD gs f ∧ FB f) → wdAll (fs.map fD) ≤ 30002 * fs.length
  | [], _ => Nat.zero_le _
  | f :: r, h => by
    have h1 := fn_w (h f List.mem_cons_self).1 (h f List.mem_cons_self).2
    have h2 := fns_w (fs := r) fun x hx => h x (List.mem_cons_of_mem _ hx)
    show wd (fD f) + 2 + wdAll (r.map fD) ≤ 30002 * (r.length + 1)
    omega
theorem PB2.mk' {fs : List Fn} (h : ∀ f ∈ fs, FnOkD fs f) (nd : (fs.map (·.nm)).Nodup) (b : ∀ f ∈ fs, FB f) (l : fs.length ≤ 6) : PB2 fs := by
  refine ⟨prog_ok h nd, b, l, ?_⟩
  have := fns_w (gs := fs) (fs := fs) fun f hf => ⟨h f hf, b f hf⟩
  show wdAll (fs.map fD) + 3 ≤ 400000
  omega
theorem PB2.plain {fs : List Fn} (p : PB2 fs) (h : fs.filter chD = []) : Plain fs := fun f hf => by
  refine ⟨?_, Nat.lt_of_le_of_lt (p.b f hf).bnd (by decide)⟩
  have := List.filter_eq_nil_iff.mp h f hf
  cases e : chD f with
  | false => rfl
  | true => exact absurd e this
theorem PB2.bok {fs : List Fn} (p : PB2 fs) : BOk fs := fun f hf => by
  have a := sum_wd pC _ _ (Nat.le_refl _) (p.b f hf).t
  have b := sum_wd (fun _ => true) _ _ (Nat.le_refl _) (p.b f hf).t
  have w := (p.b f hf).w
  have d := (p.b f hf).d
  exact ⟨(p.b f hf).t, by omega, by omega, by omega⟩
/-! ### polynomials in the heap -/
def prD (q : Int × Int) : PyData := .tuple [.int q.1, .int q.2]
def plyD (qs : List (Int × Int)) : List PyData := qs.map prD
def PolyAt (H : Hp) (v : V) (qs : List (Int × Int)) : Prop := ∃ (r : Addr) (ys : List V), v = .ref r ∧ H r = some (.tup ys) ∧ All2 (PairAt H) ys qs
theorem PolyAt.kp {ms : List Addr} {H H1 : Hp} {v : V} {qs : List (Int × Int)} (h : PolyAt H v qs) (k : Kp ms H H1) : PolyAt H1 v qs :=
  let ⟨r, ys, e, t, a⟩ := h
  ⟨r, ys, e, k.tup _ _ t, a.imp fun _ _ q => PairAt.kp q k⟩
theorem PolyAt.an {H : Hp} {v : V} {qs : List (Int × Int)} (h : PolyAt H v qs) : AnT H v (.tuple (plyD qs)) := by
  obtain ⟨r, ys, rfl, t, a⟩ := h
  intro ms
  refine .tup t ?_
  clear t
  induction a with
  | nil => exact .nil
  | cons b _ ih =>
    obtain ⟨q, rfl, eq⟩ := b
    exact .cons (.tup eq (.cons (.int _) (.cons (.int _) .nil))) ih
/-- a sum's pairs: few, small -/
structure SmallP (qs : List (Int × Int)) : Prop where
  up : qs.Pairwise fun a b => a.1 < b.1
  lo : ∀ q ∈ qs, 0 ≤ q.1 ∧ q.1 ≤ 5 ∧ 0 < q.2 ∧ q.2 ≤ 5000000000
theorem coef_bnd (k : Int) : ∀ ps : List (Int × Int), (∀ p ∈ ps, 1 ≤ p.2 ∧ p.2 ≤ 700000000) → 0 ≤ coefSum ps k ∧ coefSum ps k ≤ 700000000 * ps.length ∧ (k ∈ ps.map (·.1) → 1 ≤ coefSum ps k)
  | [], _ => ⟨Int.le_refl _, by simp [coefSum], fun h => by cases h⟩
  | p :: r, h => by
    obtain ⟨h1, h2, h3⟩ := coef_bnd k r fun x hx => h x (List.mem_cons_of_mem _ hx)
    obtain ⟨a, b⟩ := h p List.mem_cons_self
    have e : coefSum (p :: r) k = (if p.1 = k then p.2 else 0) + coefSum r k := by
      unfold coefSum
      by_cases q : p.1 = k
      · rw [List.filter_cons_of_pos (by simpa using q), if_pos q]
        rfl
      · rw [List.filter_cons_of_neg (by simpa using q), if_neg q]
        omega
    rw [e]
    have el : (((p :: r).length : Nat) : Int) = (r.length : Int) + 1 := by simp
    rw [el]
    refine ⟨by split <;> omega, by split <;> omega, fun hk => ?_⟩
    by_cases q : p.1 = k
    · rw [if_pos q]
      omega
    · rw [if_neg q]
      have : k ∈ r.map (·.1) := by
        rw [List.map_cons] at hk
        rcases List.mem_cons.mp hk with z | z
        · exact absurd z.symm q
        · exact z
      have := h3 this
      omega
theorem PolyOf.small {ps qs : List (Int × Int)} (h : PolyOf ps qs) (hl : ps.length ≤ 6) (hp : ∀ p ∈ ps, 0 ≤ p.1 ∧ p.1 ≤ 5 ∧ 1 ≤ p.2 ∧ p.2 ≤ 700000000) : SmallP qs := by
  refine ⟨h.up, fun q hq => ?_⟩
  obtain ⟨a, b⟩ := (h.mem q).mp hq
  obtain ⟨p, hp1, e⟩ := List.mem_map.mp a
  obtain ⟨c1, c2, _⟩ := hp p hp1
  obtain ⟨_, d2, d3⟩ := coef_bnd q.1 ps fun x hx => (hp x hx).2.2
  have d3 := d3 a
  have : (ps.length : Int) ≤ 6 := by omega
  have e' : p.1 = q.1 := e
  exact ⟨by omega, by omega, by rw [b]; omega, by rw [b]; omega⟩
theorem wPairs_small {fs : List Fn} (p : PB2 fs) : ∀ q ∈ wPairs fs, 0 ≤ q.1 ∧ q.1 ≤ 5 ∧ 1 ≤ q.2 ∧ q.2 ≤ 700000000 := by
  intro q hq
  obtain ⟨f, hf, rfl⟩ := List.mem_map.mp hq
  have := (p.b f hf).n
  exact ⟨Int.natCast_nonneg _, by show (f.ns.length : Int) ≤ 5; omega, by show (1 : Int) ≤ 1; decide, by show (1 : Int) ≤ 700000000; decide⟩
theorem bPairs_small {fs : List Fn} (p : PB2 fs) : ∀ q ∈ bPairs fs, 0 ≤ q.1 ∧ q.1 ≤ 5 ∧ 1 ≤ q.2 ∧ q.2 ≤ 700000000 := by
  intro q hq
  obtain ⟨f, hf, rfl⟩ := List.mem_map.mp hq
  have h1 := (p.b f hf).n
  have h2 := (p.b f hf).bnd
  have h3 := FB.pos (f := f)
  exact ⟨Int.natCast_nonneg _, by show (f.ns.length : Int) ≤ 5; omega, by show (1 : Int) ≤ (((1 + sumD pC f.bd) * sumD (fun _ => true) f.bd : Nat) : Int); omega, by show (((1 + sumD pC f.bd) * sumD (fun _ => true) f.bd : Nat) : Int) ≤ 700000000; omega⟩
theorem getD_map_int (qs : List (Int × Int)) (i : Nat) : ((plyD qs).map expD).getD i 0 = (qs.map (·.1)).getD i 0 := by
  have e : (plyD qs).map expD = qs.map (·.1) := by
    unfold plyD
    rw [List.map_map]
    rfl
  rw [e]
theorem up_len : ∀ (qs : List (Int × Int)) (lo : Int), qs.Pairwise (fun a b => a.1 < b.1) → (∀ q ∈ qs, lo ≤ q.1 ∧ q.1 ≤ 5) → (qs.length : Int) ≤ 6 - lo ∨ qs = []
  | [], _, _, _ => .inr rfl
  | q :: r, lo, hu, h => by
    rw [List.pairwise_cons] at hu
    have hq := h q List.mem_cons_self
    rcases up_len r (q.1 + 1) hu.2 (fun x hx => ⟨by have := hu.1 x hx; omega, (h x (List.mem_cons_of_mem _ hx)).2⟩) with z | z
    · refine .inl ?_
      rw [List.length_cons]
      omega
    · refine .inl ?_
      rw [z]
      show (1 : Int) ≤ _
      omega
theorem SmallP.len {qs : List (Int × Int)} (s : SmallP qs) : qs.length ≤ 6 := by
  rcases up_len qs 0 s.up (fun q hq => ⟨(s.lo q hq).1, (s.lo q hq).2.1⟩) with z | z
  · omega
  · rw [z]
    decide
theorem SmallP.poly {qs : List (Int × Int)} (s : SmallP qs) : polyL (plyD qs) = true := by
  unfold polyL
  rw [Bool.and_eq_true]
  constructor
  · rw [List.all_eq_true]
    intro x hx
    obtain ⟨q, hq, rfl⟩ := List.mem_map.mp hx
    have := s.lo q hq
    show (decide (0 ≤ q.1) && decide (0 < q.2)) = true
    rw [decide_eq_true (by omega), decide_eq_true (by omega)]
    rfl
  · unfold ascI
    rw [List.all_eq_true]
    intro i hi
    rw [List.mem_range, List.length_map] at hi
    unfold upI
    rw [getD_map_int, getD_map_int]
    have l : (plyD qs).length = qs.length := List.length_map ..
    rw [l] at hi
    have h1 : i < (qs.map (·.1)).length := by rw [List.length_map]; omega
    have h2 : i + 1 < (qs.map (·.1)).length := by rw [List.length_map]; omega
    rw [List.getD_eq_getElem?_getD, List.getD_eq_getElem?_getD, List.getElem?_eq_getElem h1, List.getElem?_eq_getElem h2]
    refine decide_eq_true ?_
    have := List.pairwise_iff_getElem.mp s.up i (i + 1) (by omega) (by omega) (by omega)
    simpa using this
theorem SmallP.inb {qs : List (Int × Int)} (s : SmallP qs) : (plyD qs).all inB = true := by
  rw [List.all_eq_true]
  intro x hx
  obtain ⟨q, hq, rfl⟩ := List.mem_map.mp hx
  have := s.lo q hq
  show (decide (q.1.toNat < 16) && decide (q.2 < 2 ^ 50)) = true
  rw [decide_eq_true (by omega), decide_eq_true (by omega)]
  rfl
theorem good_int {i : Int} (h : i.natAbs < 10 ^ 40) : Good 0 45 (.int i) := ⟨decide_eq_true h, Nat.le_refl _, Nat.le_refl _⟩
theorem SmallP.good {qs : List (Int × Int)} (s : SmallP qs) : Good 3 1000 (.tuple (plyD qs)) := by
  have hl := s.len
  have key : GoodAll 1 100 (plyD qs) := goodAll_of _ fun x hx => by
    obtain ⟨q, hq, rfl⟩ := List.mem_map.mp hx
    have := s.lo q hq
    have p40 : (5000000001 : Nat) ≤ 10 ^ 40 := by decide +kernel
    exact (two_good (good_int (i := q.1) (by omega)) (good_int (i := q.2) (by omega))).mono (Nat.le_refl _) (by decide)
  obtain ⟨a, b, c⟩ := key.facts
  refine ⟨a, ?_, ?_⟩
  · show PyData.depthAll _ + 1 ≤ 3
    omega
  · show wdAll _ + 3 ≤ 1000
    have l : (plyD qs).length = qs.length := List.length_map ..
    rw [l] at c
    omega
theorem val_bnd {m : Nat} (hm : m ≤ 64) : ∀ qs : List (Int × Int), (∀ q ∈ qs, 0 ≤ q.1 ∧ q.1 ≤ 5 ∧ 0 < q.2 ∧ q.2 ≤ 5000000000) → ∃ n : Nat, valL m (plyD qs) = (n : Int) ∧ n ≤ qs.length * (5000000000 * 64 ^ 5)
  | [], _ => ⟨0, rfl, Nat.zero_le _⟩
  | q :: r, h => by
    obtain ⟨n, e, hn⟩ := val_bnd hm r fun x hx => h x (List.mem_cons_of_mem _ hx)
    obtain ⟨h1, h2, h3, h4⟩ := h q List.mem_cons_self
    obtain ⟨b, hb⟩ : ∃ b : Nat, q.2 = (b : Int) := ⟨q.2.toNat, by omega⟩
    have hq : m ^ q.1.toNat ≤ 64 ^ 5 := Nat.le_trans (Nat.pow_le_pow_left hm _) (Nat.pow_le_pow_right (by decide) (by omega))
    have hj : b * m ^ q.1.toNat ≤ 5000000000 * 64 ^ 5 := Nat.mul_le_mul (by omega) hq
    refine ⟨b * m ^ q.1.toNat + n, ?_, ?_⟩
    · show (valD m (prD q) :: (plyD r).map (valD m)).sum = _
      rw [List.sum_cons]
      have e : ((plyD r).map (valD m)).sum = (n : Int) := e
      rw [e, Int.natCast_add, Int.natCast_mul, ← hb]
      rfl
    · show _ ≤ (r.length + 1) * _
      rw [Nat.add_mul]
      omega
theorem SmallP.val {qs : List (Int × Int)} (s : SmallP qs) {m : Nat} (hm : m ≤ 64) : Good 0 45 (.int (valL m (plyD qs))) := by
  obtain ⟨n, e, hn⟩ := val_bnd hm qs s.lo
  have hl := s.len
  rw [e]
  refine good_int ?_
  have h1 : n ≤ 6 * (5000000000 * 64 ^ 5) := Nat.le_trans hn (Nat.mul_le_mul_right _ hl)
  rw [Int.natAbs_natCast]
  exact Nat.lt_of_le_of_lt h1 (by decide +kernel)
end Ey
set_option maxHeartbeats 4000000
namespace Ey
open PySem PySem.Spec L2
/-! ### what the law asks, once and for all -/
theorem re_anT {n w : Nat} {H : Hp} {v : V} {d : PyData} {T : Str} {Q : VK} (h : AnT H v d) (g : Good n w d) (hn : n ≤ 100) (hw : w ≤ 1000000) (e : d.shown = T) (q : Q (.str T) H) : rReprE [v] H Q :=
  ⟨[], v, d, rfl, h [], g.f, Nat.le_trans g.d hn, Nat.le_trans g.w hw, e ▸ q⟩
theorem PolyOf.to {ps ps' qs : List (Int × Int)} (h : PolyOf ps qs) (hp : ps.Perm ps') : PolyOf ps' qs :=
  ⟨h.up, fun x => by rw [h.mem, keys_perm hp, coef_perm hp]⟩
theorem PolyOf.one {ps qs rs : List (Int × Int)} (h : PolyOf ps qs) (g : PolyOf ps rs) : rs = qs := g.perm h (List.Perm.refl _)
structure LI (Ts : List Addr) (P0 d l : Addr) (H : Hp) : Prop where
  D : DeckAt H d l
  ga : TTs Ts H
  gp : TTs [P0] H
  n1 : d ∉ Ts ∧ l ∉ Ts ∧ P0 ∉ Ts
  n2 : d ≠ P0 ∧ l ≠ P0
section
variable {Ts : List Addr} {P0 d l : Addr} {H H1 : Hp}
theorem LI.kp0 (I : LI Ts P0 d l H) (k : Kp [] H H1) : LI Ts P0 d l H1 := ⟨I.D.kp k (by simp) (by simp), I.ga.kp0 k, I.gp.kp0 k, I.n1, I.n2⟩
theorem LI.new (I : LI Ts P0 d l H) {p : Addr} {o : HO} (n : H p = none) : LI Ts P0 d l (upd H p o) := I.kp0 (.new n)
theorem LI.dk (I : LI Ts P0 d l H) (k : Kp [d, l] H H1) (D : DeckAt H1 d l) : LI Ts P0 d l H1 :=
  ⟨D, I.ga.kp k (fun P hP => by
    intro hm
    rcases List.mem_cons.mp hm with e | hm
    · exact I.n1.1 (e ▸ hP)
    · exact I.n1.2.1 (List.mem_singleton.mp hm ▸ hP)), I.gp.kp k (fun P hP => by
    rw [List.mem_singleton.mp hP]
    simp [I.n2.1.symm, I.n2.2.symm]), I.n1, I.n2⟩
theorem LI.tab (I : LI Ts P0 d l H) (k : Kp Ts H H1) (g : TTs Ts H1) : LI Ts P0 d l H1 :=
  ⟨I.D.kp k I.n1.1 I.n1.2.1, g, I.gp.kp k (fun P hP => by rw [List.mem_singleton.mp hP]; exact I.n1.2.2), I.n1, I.n2⟩
theorem LI.pol (I : LI Ts P0 d l H) (k : Kp [P0] H H1) (g : TTs [P0] H1) : LI Ts P0 d l H1 :=
  ⟨I.D.kp k (by simp [I.n2.1]) (by simp [I.n2.2]), I.ga.kp k (fun P hP hm => I.n1.2.2 (List.mem_singleton.mp hm ▸ hP)), g, I.n1, I.n2⟩
end
section
variable {a : Adr} {P0 d l : Addr} {H : Hp} {v : V} {fs : List Fn} {qs : List (Int × Int)} {Q : VK} {E : XK} {g : List Fn → List (Int × Int)} {C : List Fn → Prop}
/-- width or bound of a program, for the first time -/
theorem ask0 (av : AnT H v (.tuple (fs.map fD))) (pb : PB2 fs) (c : C fs) (I : LI a.Ts P0 d l H) (k : ∀ (x : V) (qs : List (Int × Int)) (G : Hp), PolyAt G x qs → PolyOf (g fs) qs → LI a.Ts P0 d l G → Kp a.Ts H G → Q x G) : spWidth a.Ts a.Ts g C [v] H Q E :=
  ⟨v, fs, rfl, av a.Ts, pb.ok, pb.w, c, I.ga, fun _ h => h, fun r ys qs G hr hA po gg kk => k _ qs G ⟨r, ys, rfl, hr, hA⟩ po (I.tab kk gg) kk⟩
theorem ask (av : AnT H v (.tuple (fs.map fD))) (pb : PB2 fs) (c : C fs) (po : PolyOf (g fs) qs) (I : LI a.Ts P0 d l H) (k : ∀ (x : V) (G : Hp), PolyAt G x qs → LI a.Ts P0 d l G → Kp a.Ts H G → Q x G) : spWidth a.Ts a.Ts g C [v] H Q E :=
  ask0 av pb c I fun x q G p po' I' kk => by
    cases po.one po'
    exact k x G p I' kk
theorem own0 {ms : List Addr} (av : AnT H v (.tuple (fs.map fD))) (pb : PB2 fs) (c : C fs) (I : LI a.Ts P0 d l H) (k : ∀ (x : V) (qs : List (Int × Int)) (G : Hp), PolyAt G x qs → PolyOf (g fs) qs → LI a.Ts P0 d l G → Kp [] H G → Q x G) : spLW ms g C [v] H Q E :=
  ⟨v, fs, rfl, av ms, Nat.lt_of_le_of_lt pb.l (by decide), c, fun r ys qs G hr hA po kk => k _ qs G ⟨r, ys, rfl, hr, hA⟩ po (I.kp0 kk) kk⟩
theorem own {ms : List Addr} (av : AnT H v (.tuple (fs.map fD))) (pb : PB2 fs) (c : C fs) (po : PolyOf (g fs) qs) (I : LI a.Ts P0 d l H) (k : ∀ (x : V) (G : Hp), PolyAt G x qs → LI a.Ts P0 d l G → Kp [] H G → Q x G) : spLW ms g C [v] H Q E :=
  own0 av pb c I fun x q G p po' I' kk => by
    cases po.one po'
    exact k x G p I' kk
/-- is_poly of a polynomial -/
theorem isPly (p : PolyAt H v qs) (s : SmallP qs) (I : LI a.Ts P0 d l H) (k : ∀ G : Hp, LI a.Ts P0 d l G → Kp [P0] H G → Q (.bl true) G) : spD [P0] [P0] polyD [v] H Q E :=
  ⟨v, _, rfl, p.an [P0], Nat.le_trans s.good.w (by decide), I.gp, fun _ h => h, fun G gg kk => by
    rw [show polyD (.tuple (plyD qs)) = true from s.poly]
    exact k G (I.pol kk gg) kk⟩
theorem valP {m : Nat} (p : PolyAt H v qs) (s : SmallP qs) (hm : m ≤ 64) (I : LI a.Ts P0 d l H) (k : ∀ G : Hp, LI a.Ts P0 d l G → Kp [P0] H G → Q (.int (valL m (plyD qs))) G) : spVA [P0] [P0] [v, .int m] H Q E :=
  ⟨v, plyD qs, m, rfl, p.an [P0], Nat.le_trans s.good.w (by decide), I.gp, fun _ h => h, s.poly, s.inb, Nat.lt_of_le_of_lt hm (by decide), by rw [show (plyD qs).length = qs.length from List.length_map ..]; exact Nat.le_trans s.len (by decide), fun G gg kk => k G (I.pol kk gg) kk⟩
theorem ownV {m : Nat} (p : PolyAt H v qs) (s : SmallP qs) (hm : m ≤ 64) (I : LI a.Ts P0 d l H) (k : ∀ G : Hp, LI a.Ts P0 d l G → Kp [] H G → Q (.int (valL m (plyD qs))) G) : spVal [] [v, .int m] H Q E :=
  ⟨v, plyD qs, m, rfl, p.an [], by have := s.poly; unfold polyL at this; rw [Bool.and_eq_true] at this; exact this.1, s.inb, Nat.lt_of_le_of_lt hm (by decide), by rw [show (plyD qs).length = qs.length from List.length_map ..]; exact Nat.le_trans s.len (by decide), fun G kk => k G (I.kp0 kk) kk⟩
end
/-! ### programs near a program -/
theorem WK.emptyTop (ns : List Str) (fs : List Fn) : WK ns fs kTruth (.tuple [.str "empty", .tuple [.str "top"]]) :=
  WK.pl (n := 1) (by decide +kernel) rfl (by simpa using WK.pl (n := 0) (w := "top") (k := kPlace) (by decide +kernel) rfl (by simp))
theorem sumE_one (p : Str → Bool) {w : Str} {t : PyData} (n1 : ¬ w = kName) (n2 : ¬ w = kHas) (n3 : ¬ w = kCall) (hp : p w = false) : sumD p (.tuple [.str w, t]) = sumD p t := by
  rw [sumD_eq, show wordD (.tuple [.str w, t]) = w from rfl, hp, show partsD (.tuple [.str w, t]) = [t] from by
    show partsR w [t] = [t]
    unfold partsR
    rw [if_neg n1, if_neg n2, if_neg n3]]
  show (if false = true then 1 else 0) + (sumD p t + 0) = sumD p t
  rw [if_neg (by decide)]
  omega
theorem sumE_top (p : Str → Bool) (hp : p "top" = false) : sumD p (.tuple [.str "top"]) = 0 := by
  rw [sumD_eq, show wordD (.tuple [.str "top"]) = "top" from rfl, hp, show partsD (.tuple [.str "top"]) = [] from by decide +kernel]
  rfl
theorem more_ok {A B : List Fn} {m : Fn} (h : ∀ x ∈ A ++ B, FnOkD (A ++ B) x) (nd : ((A ++ B).map (·.nm)).Nodup) (hm : ∀ x ∈ A ++ B, ¬ x.nm = m.nm) (h1 : isName m.nm = true) (h2 : m.kd = kPlace ∨ m.kd = kTruth) (h3 : ∀ g ∈ m.ns, isName g = true) (h4 : m.ns.Nodup) (h5 : ∀ fs, WK m.ns fs m.kd m.bd) :
    (∀ x ∈ A ++ [m] ++ B, FnOkD (A ++ [m] ++ B) x) ∧ ((A ++ [m] ++ B).map (·.nm)).Nodup := by
  have nd2 : ((A ++ [m] ++ B).map (·.nm)).Nodup := by
    have e : (A ++ [m] ++ B).Perm (m :: (A ++ B)) := by
      rw [List.append_assoc]
      exact List.perm_middle
    refine (e.map _).nodup_iff.mpr ?_
    rw [List.map_cons, List.nodup_cons]
    refine ⟨fun hx => ?_, nd⟩
    obtain ⟨x, hx, e⟩ := List.mem_map.mp hx
    exact hm x hx e
  have kn : Knows (A ++ B) (A ++ [m] ++ B) := knows_sub nd2 fun f hf => ⟨f, by
    rcases List.mem_append.mp hf with z | z
    · exact List.mem_append_left _ (List.mem_append_left _ z)
    · exact List.mem_append_right _ z, rfl, rfl, rfl⟩
  refine ⟨fun x hx => ?_, nd2⟩
  have : x = m ∨ x ∈ A ++ B := by
    rcases List.mem_append.mp hx with z | z
    · rcases List.mem_append.mp z with z | z
      · exact .inr (List.mem_append_left _ z)
      · exact .inl (List.mem_singleton.mp z)
    · exact .inr (List.mem_append_right _ z)
  rcases this with rfl | z
  · exact ⟨h1, h2, h3, h4, h5 _⟩
  · exact (h x z).knows kn
theorem near_ok {A B : List Fn} {f f' : Fn} (h : ∀ x ∈ A ++ [f] ++ B, FnOkD (A ++ [f] ++ B) x) (nd : ((A ++ [f] ++ B).map (·.nm)).Nodup) (e1 : f'.nm = f.nm) (e2 : f'.kd = f.kd) (e3 : f'.ns = f.ns) (hb : ∀ fs, WK f.ns fs f.kd f.bd → WK f.ns fs f.kd f'.bd) :
    (∀ x ∈ A ++ [f'] ++ B, FnOkD (A ++ [f'] ++ B) x) ∧ ((A ++ [f'] ++ B).map (·.nm)).Nodup := by
  have nd2 : ((A ++ [f'] ++ B).map (·.nm)).Nodup := by
    rw [List.map_append, List.map_append] at nd ⊢
    rw [show [f'].map (·.nm) = [f].map (·.nm) from by show [f'.nm] = [f.nm]; rw [e1]]
    exact nd
  have kn : Knows (A ++ [f] ++ B) (A ++ [f'] ++ B) := knows_sub nd2 fun x hx => by
    rcases List.mem_append.mp hx with z | z
    · rcases List.mem_append.mp z with z | z
      · exact ⟨x, List.mem_append_left _ (List.mem_append_left _ z), rfl, rfl, rfl⟩
      · rw [List.mem_singleton.mp z]
        exact ⟨f', by simp, e1, e2, by rw [e3]⟩
    · exact ⟨x, List.mem_append_right _ z, rfl, rfl, rfl⟩
  refine ⟨fun x hx => ?_, nd2⟩
  have : x = f' ∨ x ∈ A ++ [f] ++ B := by
    rcases List.mem_append.mp hx with z | z
    · rcases List.mem_append.mp z with z | z
      · exact .inr (List.mem_append_left _ (List.mem_append_left _ z))
      · exact .inl (List.mem_singleton.mp z)
    · exact .inr (List.mem_append_right _ z)
  rcases this with rfl | z
  · have o := (h f (by simp)).knows kn
    refine ⟨by rw [e1]; exact o.nm, by rw [e2]; exact o.kd, by rw [e3]; exact o.ns, by rw [e3]; exact o.nd, ?_⟩
    rw [e3, e2]
    exact hb _ o.bd
  · exact (h x z).knows kn
end Ey
set_option maxHeartbeats 4000000
namespace Ey
open PySem PySem.Spec L2
/-! ### the law -/
abbrev sLaw : Stmt := topS 67
structure LA (K : PySem.W.Frag) (w : World) (mg : Str → Option Value) (A : Nat → Addr) (D : Nat → FuncData) (a : Adr) (aO cP BC CE fC : Addr) : Prop extends LP K mg A D where
  deck : Df K mg "_law_deck" sDeck ["_law_script"] (A 52) (D 52)
  F : KW K w mg a aO
  P : PV K mg A D cP
  X : XC K mg BC CE fC
  kW : KBinds K (a.D 47) ["program"] ["program"] gRv gRv
  kB : KBinds K (a.D 50) ["program"] ["program"] gRv gRv
  refused : Df K mg "_law_is_refused" sRefused ["_law_program", "_law_name"] (A 66) (D 66)
def wrapW (kd : Str) : Str := if kd = kTruth then "not" else "left"
def tWrap : TE := fun σ G Q => ∃ (kd : Str) (bv : V), σ[12]? = some (some (.str kd)) ∧ σ[13]? = some (some bv) ∧ ∀ (q : Addr) (G' : Hp), G' q = some (.tup [.str (wrapW kd), bv]) → Kp [] G G' → Q (.ref q) G'
/-- what is told of a drawn program -/
structure PF0 (fs : List Fn) : Prop where
  ok : ∀ f ∈ fs, FnOkD fs f
  nd : (fs.map (·.nm)).Nodup
  sm : ∀ f ∈ fs, f.bd.depth ≤ 12 ∧ wd f.bd ≤ 25000 ∧ f.ns.length ≤ 2 ∧ ¬ f.nm = "more"
  l1 : 1 ≤ fs.length
  l5 : fs.length ≤ 5
theorem PF0.b {fs : List Fn} (p : PF0 fs) : ∀ f ∈ fs, FB f := fun f hf =>
  have := p.sm f hf
  ⟨(p.ok f hf).bd.term, by omega, by omega, by omega⟩
theorem PF0.p {fs : List Fn} (p : PF0 fs) : PB2 fs := .mk' p.ok p.nd p.b (by have := p.l5; omega)
theorem PF0.rev {fs : List Fn} (p : PF0 fs) : PB2 fs.reverse :=
  .mk' (prog_rev p.ok p.nd).1 (prog_rev p.ok p.nd).2 (fun f hf => p.b f (List.mem_reverse.mp hf)) (by rw [List.length_reverse]; have := p.l5; omega)
def moreF (ns : List Str) : Fn := ⟨"more", kTruth, ns, .tuple [.str "empty", .tuple [.str "top"]]⟩
def nsM : List Str := ["x", "y", "z", "u", "v"]
theorem nsM_ok : ∀ n, n < 6 → (∀ g ∈ nsM.take n, isName g = true) ∧ (nsM.take n).Nodup := by decide +kernel
theorem chD_more (ns : List Str) : chD (moreF ns) = false := by
  unfold chD
  rw [show sumD pE (moreF ns).bd = 0 from (sumE_one pE (w := "empty") (by decide +kernel) (by decide +kernel) (by decide +kernel) (by decide +kernel)).trans (sumE_top pE (by decide +kernel))]
  rfl
theorem more_p {A B : List Fn} {ns : List Str} (p : PF0 (A ++ B)) (hn : ∀ g ∈ ns, isName g = true) (nd : ns.Nodup) (hl : ns.length ≤ 5) : PB2 (A ++ [moreF ns] ++ B) := by
  obtain ⟨h1, h2⟩ := more_ok (m := moreF ns) p.ok p.nd (fun x hx => (p.sm x hx).2.2.2) (by show isName "more" = true; decide +kernel) (.inr rfl) hn nd (fun fs => WK.emptyTop ns fs)
  refine .mk' h1 h2 (fun f hf => ?_) ?_
  · have : f = moreF ns ∨ f ∈ A ++ B := by
      rcases List.mem_append.mp hf with z | z
      · rcases List.mem_append.mp z with z | z
        · exact .inr (List.mem_append_left _ z)
        · exact .inl (List.mem_singleton.mp z)
      · exact .inr (List.mem_append_right _ z)
    rcases this with rfl | z
    · exact ⟨(WK.emptyTop ns []).term, by show PyData.depth (.tuple [.str "empty", .tuple [.str "top"]]) ≤ 14; decide, by show wd (.tuple [.str "empty", .tuple [.str "top"]]) ≤ 26000; decide +kernel, hl⟩
    · exact p.b f z
  · have := p.l5
    rw [List.length_append] at this
    rw [List.length_append, List.length_append]
    show A.length + 1 + B.length ≤ 6
    omega
theorem wrap_wk {kd : Str} (hk : kd = kPlace ∨ kd = kTruth) {ns : List Str} {t : PyData} (fs : List Fn) (h : WK ns fs kd t) : WK ns fs kd (.tuple [.str (wrapW kd), t]) := by
  rcases hk with rfl | rfl
  · rw [show wrapW kPlace = "left" from if_neg (by decide +kernel)]
    exact WK.pl (n := 1) (by decide +kernel) rfl (by simpa using h)
  · rw [show wrapW kTruth = "not" from if_pos rfl]
    exact WK.tr (n := 1) (by decide +kernel) rfl (by simpa using h)
def wrapF (f : Fn) : Fn := ⟨f.nm, f.kd, f.ns, .tuple [.str (wrapW f.kd), f.bd]⟩
theorem wrap_w {kd : Str} (hk : kd = kPlace ∨ kd = kTruth) : wd (.str (wrapW kd)) ≤ 42 ∧ ¬ wrapW kd = kName ∧ ¬ wrapW kd = kHas ∧ ¬ wrapW kd = kCall ∧ pE (wrapW kd) = false := by
  rcases hk with rfl | rfl <;> decide +kernel
theorem chD_wrap {f : Fn} (hk : f.kd = kPlace ∨ f.kd = kTruth) (h : chD f = false) : chD (wrapF f) = false := by
  obtain ⟨_, n1, n2, n3, hp⟩ := wrap_w hk
  unfold chD at h ⊢
  rw [show sumD pE (wrapF f).bd = sumD pE f.bd from sumE_one pE n1 n2 n3 hp]
  exact h
theorem near_p {A B : List Fn} {f : Fn} (p : PF0 (A ++ [f] ++ B)) : PB2 (A ++ [wrapF f] ++ B) := by
  have o := p.ok f (by simp)
  obtain ⟨h1, h2⟩ := near_ok (f' := wrapF f) p.ok p.nd rfl rfl rfl (fun fs h => wrap_wk o.kd fs h)
  refine .mk' h1 h2 (fun x hx => ?_) ?_
  · have : x = wrapF f ∨ x ∈ A ++ [f] ++ B := by
      rcases List.mem_append.mp hx with z | z
      · rcases List.mem_append.mp z with z | z
        · exact .inr (List.mem_append_left _ (List.mem_append_left _ z))
        · exact .inl (List.mem_singleton.mp z)
      · exact .inr (List.mem_append_right _ z)
    rcases this with rfl | z
    · have b := p.sm f (by simp)
      have w1 := (wrap_w o.kd).1
      refine ⟨(wrap_wk o.kd _ o.bd).term, ?_, ?_, by show f.ns.length ≤ 5; omega⟩
      · show max 0 (max f.bd.depth 0) + 1 ≤ 14
        omega
      · show wd (.str (wrapW f.kd)) + 2 + (wd f.bd + 2 + 0) + 3 ≤ 26000
        omega
    · exact p.b x z
  · have := p.l5
    rw [List.length_append, List.length_append] at this ⊢
    exact Nat.le_trans this (by decide)
theorem polys_an {H : Hp} {x y : V} {q r : List (Int × Int)} {p : Addr} (h1 : PolyAt H x q) (h2 : PolyAt H y r) (e : H p = some (.tup [x, y])) : AnT H (.ref p) (.tuple [.tuple (plyD q), .tuple (plyD r)]) := fun ms => .tup e (.cons (h1.an ms) (.cons (h2.an ms) .nil))
theorem fn_an {H : Hp} {p nt : Addr} {nm kd : Str} {ns : List Str} {bv : V} {bd : PyData} (e : H p = some (.tup [.str "fun", .str nm, .str kd, .ref nt, bv])) (en : H nt = some (.tup (ns.map V.str))) (ab : AnT H bv bd) : AnT H (.ref p) (fD ⟨nm, kd, ns, bd⟩) := fun ms => .tup e (.cons (.str _) (.cons (.str _) (.cons (.str _) (.cons (.tup en (an_strs ns)) (.cons (ab ms) .nil)))))
theorem splice_an {H : Hp} {ts : List V} {fs : List Fn} {v : V} {g : Fn} {q : Addr} {i j : Nat} (av : AnTs H ts (fs.map fD)) (a : AnT H v (fD g)) (e : H q = some (.tup (ts.take i ++ [v] ++ ts.drop j))) : AnT H (.ref q) (.tuple ((fs.take i ++ [g] ++ fs.drop j).map fD)) := fun ms => by
  rw [List.map_append, List.map_append, List.map_take, List.map_drop]
  exact .tup e ((((av ms).take i).append (.cons (a ms) .nil)).append ((av ms).drop j))
theorem wsmall {fs : List Fn} {qs : List (Int × Int)} (p : PB2 fs) (po : PolyOf (wPairs fs) qs) : SmallP qs := po.small (by unfold wPairs; rw [List.length_map]; exact p.l) (wPairs_small p)
theorem bsmall {fs : List Fn} {qs : List (Int × Int)} (p : PB2 fs) (po : PolyOf (bPairs fs) qs) : SmallP qs := po.small (by unfold bPairs; rw [List.length_map]; exact p.l) (bPairs_small p)
theorem fil_mid {A B : List Fn} {f : Fn} (h : (A ++ B).filter chD = []) (hf : chD f = false) : (A ++ [f] ++ B).filter chD = [] := by
  rw [List.filter_append] at h
  rw [List.filter_append, List.filter_append]
  have h1 := List.append_eq_nil_iff.mp h
  rw [h1.1, h1.2, show List.filter chD [f] = [] by simp [hf]]
  rfl
section
variable {Pr : Program} {w : World} {K : PySem.W.Frag} {mg : Str → Option Value} {base : Heap} {A : Nat → Addr} {D : Nat → FuncData} {a : Adr} {aO cP BC CE fC P0 : Addr}
abbrev NLaw : List Str := ["_law_script", "_law_deck_here", "_law_turn", "_law_program", "_law_due", "_law_name", "_law_most", "_law_m", "_law_at", "_law_names", "_law_more", "_law_word", "_law_kind", "_law_body", "_law_near"]
theorem scLaw : FnScope NLaw ["_law_script"] (defScope sLaw) := ⟨rfl, rfl, rfl, by decide +kernel, rfl, by decide +kernel, by decide +kernel⟩

abbrev XL (Pr : Program) (w : World) (K : PySem.W.Frag) (mg : Str → Option Value) (base : Heap) (f : Addr) (cdv : Value) (s : Shared) (H0 : Hp) : Cx := (cxOf CX0 Pr w K mg base NLaw "law" (defScope sLaw) f cdv callerA [] s H0 E0).nox
abbrev LBo : List Stmt := fb ((defBody sLaw).getD 2 noSt)
theorem p12 (L : LA K w mg A D a aO cP BC CE fC) (b : BF base mg a) (bP : GxR.TabB base mg cP P0) (hsm : ∃ mm, base.Ns sysModules mm) (f : Addr) (cdv : Value) (s : Shared) (H : Hp) (hr : Room 80 (XL Pr w K mg base f cdv s H).A) :
    ∃ tt, PSs (XL Pr w K mg base f cdv s H) (LBo.drop 12) tt ∧ ∀ (De : Ends) (H3 : Hp) (d l pr : Addr) (v0 dv : V) (fs : List Fn) (qs : List (Int × Int)) (x2 x5 x6 x7 x9 x10 x11 x12 x13 x14 : Option V) (i : Nat),
      PF0 fs → AnT H3 (.ref pr) (.tuple (fs.map fD)) → LI a.Ts P0 d l H3 → PolyAt H3 dv qs → PolyOf (wPairs fs) qs → i < fs.length → fs.filter chD = [] → (∀ (y2 y3 y4 y5 y6 y7 y8 y9 y10 y11 y12 y13 y14 : Option V) (G : Hp), LI a.Ts P0 d l G → De.nx [some v0, some (.ref d), y2, y3, y4, y5, y6, y7, y8, y9, y10, y11, y12, y13, y14] G) →
      tt De [some v0, some (.ref d), x2, some (.ref pr), some dv, x5, x6, x7, some (.int (i : Int)), x9, x10, x11, x12, x13, x14] H3 := by
  have B := L.B
  have hr1 := hr.mono (show 1 ≤ 80 by decide)
  have hr2 := hr.mono (show 2 ≤ 80 by decide)
  have hr8 := hr.mono (show 8 ≤ 80 by decide)
  have hr9 := hr.mono (show 9 ≤ 80 by decide)
  have hr11 := hr.mono (show 11 ≤ 80 by decide)
  have hr12 := hr.mono (show 12 ≤ 80 by decide)
  have hr14 := hr.mono (show 14 ≤ 80 by decide)
  have hr43 := hr.mono (show 43 ≤ 80 by decide)
  refine ⟨_, (pss_cons (ps_asg (pe_ix ix_tup (pv 3) (pv 8) (fun _ _ => rfl)) (pg_tup (n := 5) (by rfl) (pgs_cons (pg_name (i := 11) scLaw.nd rfl (.inl rfl)) (pgs_cons (pg_name (i := 5) scLaw.nd rfl (.inl rfl)) (pgs_cons (pg_name (i := 12) scLaw.nd rfl (.inl rfl)) (pgs_cons (pg_name (i := 9) scLaw.nd rfl (.inl rfl)) (pgs_cons (pg_name (i := 13) scLaw.nd rfl (.inl rfl)) pgs_nil))))))) (pss_cons (ps_set (i := 13) scLaw.nd rfl (.inl rfl) (pe_weakW (t1 := tWrap) (pe_ifExp (pt_cmpR op_eq (pv 12) pe_str (nomark _)) (pe_tup (pa_cons pe_str (pa_cons (pv 13) pa_nil))) (pe_tup (pa_cons pe_str (pa_cons (pv 13) pa_nil)))) (fun σ G Q h => by
        obtain ⟨kd, bv, e12, e13, kq⟩ := h
        refine ⟨_, e12, rfl, _, rfl, ite2 (fun q => ?_) (fun q => ?_)⟩
        · have ek : kd = kTruth := V.str.inj (of_decide_eq_true q)
          rw [show wrapW kd = "not" from if_pos ek] at kq
          exact ⟨_, e13, by show 2 ≤ sizeLine; decide, fun p np => kq p _ upd_same (.new np)⟩
        · have ek : ¬ kd = kTruth := fun z => q (decide_eq_true (by rw [z]; rfl))
          rw [show wrapW kd = "left" from if_neg ek] at kq
          exact ⟨_, e13, by show 2 ≤ sizeLine; decide, fun p np => kq p _ upd_same (.new np)⟩))) (pss_cons (ps_set (i := 14) scLaw.nd rfl (.inl rfl) (pe_op op_cat2 (pe_op op_cat2 (pe_slice sl_cut (pv 3) po_none (po_some (pv 8))) (pe_tup (pa_cons (pe_tup (pa_cons (pv 11) (pa_cons (pv 5) (pa_cons (pv 12) (pa_cons (pv 9) (pa_cons (pv 13) pa_nil)))))) pa_nil))) (pe_slice sl_cut (pv 3) (po_some (pe_op op_add (pv 8) pe_int)) po_none))) (pss_one (ps_if (pt_cmpR op_ne (pe_callB (cr_reprE hsm rfl hr) (by rfl) B.repr (by decide +kernel) (pa_cons (pe_tup (pa_cons (pe_call (ok_width (ms := a.Ts) L.F b) hr11 (by rfl) L.F.width.g L.F.width.F.kp L.F.width.b .nil pass0 (pa_cons (pv 14) pa_nil)) (pa_cons (pe_call (ok_bound (ms := a.Ts) L.F b) hr11 (by rfl) L.F.bound.g L.F.bound.F.kp L.F.bound.b .nil pass0 (pa_cons (pv 14) pa_nil)) pa_nil))) pa_nil)) (pe_callB (cr_reprE hsm rfl hr) (by rfl) B.repr (by decide +kernel) (pa_cons (pe_tup (pa_cons (pv 4) (pa_cons (pe_call (ok_lBound (ms := a.Ts) L.toLF) hr43 (by rfl) L.lbound.g L.lbound.F.kp L.lbound.b .nil pass0 (pa_cons (pv 14) pa_nil)) pa_nil))) pa_nil)) (nomark _)) (pss_one (ps_ret pe_bl)) pss_nil))))), ?_⟩
  intro De H3 d l pr v0 dv fs qs x2 x5 x6 x7 x9 x10 x11 x12 x13 x14 i pf av I pdv po hi hch cont
  have pb := pf.p
  have av0 := av []
  cases av0 with
  | @tup _ ts _ et hx =>
  have ltx := hx.length
  rw [List.length_map] at ltx
  have hit : i < ts.length := by omega
  obtain ⟨dx, hdx, hax⟩ := hx.get (List.getElem?_eq_getElem hit)
  rw [List.getElem?_map] at hdx
  obtain ⟨g, hg, rfl⟩ := Option.map_eq_some_iff.mp hdx
  obtain ⟨ft, nt, bv, eft, e1, e2, e3⟩ := hax.fn
  refine ⟨_, rfl, _, rfl, pr, _, _, _, rfl, rfl, sqt_of et, atI_nat (List.getElem?_eq_getElem hit), ?_⟩
  rw [eft]
  refine ⟨ft, _, rfl, sqt_of e1, rfl, _, _, rfl, _, _, rfl, _, _, rfl, _, _, rfl, _, _, rfl, rfl, ?_⟩
  refine ⟨g.kd, bv, rfl, rfl, fun q G0 eq k0 => ?_⟩
  have et0 := k0.tup _ _ et
  have av1 : ∀ ms, AnAll ms G0 ts (fs.map fD) := fun ms => by
    have := (av.kp k0) ms
    cases this with
    | tup e' h' =>
      rw [et0] at e'
      cases e'
      exact h'
  have hbv : AnT G0 bv g.bd := fun ms => by
    have hx1 := av1 ms
    obtain ⟨dx2, hdx2, hax2⟩ := hx1.get (List.getElem?_eq_getElem hit)
    rw [List.getElem?_map, hg] at hdx2
    cases hdx2
    obtain ⟨ft2, nt2, bv2, eft2, e12, e22, e32⟩ := hax2.fn
    rw [eft] at eft2
    cases eft2
    rw [k0.tup _ _ e1] at e12
    cases e12
    exact e32
  have hwb : AnT G0 (.ref q) (wrapF g).bd := fun ms => .tup eq (.cons (.str _) (.cons (hbv ms) .nil))
  have e2' := k0.tup _ _ e2
  replace I := I.kp0 k0
  replace pdv := pdv.kp k0
  clear hx hax e1 e2 e3 eq
  -- near
  refine ⟨_, rfl, _, rfl, _, rfl, pr, _, rfl, et0, fun q1 G1 eq1 k1 => ?_⟩
  rw [cut_take] at eq1
  refine ⟨_, rfl, _, rfl, _, rfl, _, rfl, _, rfl, by show 5 ≤ sizeLine; decide, fun p1 np1 => ⟨by show 1 ≤ sizeLine; decide, fun p2 np2 => ?_⟩⟩
  have k2 : Kp [] G1 (upd G1 p1 (.tup [.str kFun, .str g.nm, .str g.kd, .ref nt, .ref q])) := .new np1
  have ep1 : (upd G1 p1 (.tup [.str kFun, .str g.nm, .str g.kd, .ref nt, .ref q])) p1 = some (.tup [.str kFun, .str g.nm, .str g.kd, .ref nt, .ref q]) := upd_same
  have e2a := k2.tup _ _ (k1.tup _ _ e2')
  have hwb2 := (hwb.kp k1).kp k2
  have eq2 := k2.tup _ _ eq1
  have et2 := k2.tup _ _ (k1.tup _ _ et0)
  have av2 : AnTs (upd G1 p1 (.tup [.str kFun, .str g.nm, .str g.kd, .ref nt, .ref q])) ts (fs.map fD) := (AnTs.kp av1 k1).kp k2
  have I2 := (I.kp0 k1).kp0 k2
  have pdv2 := (pdv.kp k1).kp k2
  have af : AnT (upd G1 p1 (.tup [.str kFun, .str g.nm, .str g.kd, .ref nt, .ref q])) (.ref p1) (fD (wrapF g)) := fn_an ep1 e2a hwb2
  generalize upd G1 p1 (.tup [.str kFun, .str g.nm, .str g.kd, .ref nt, .ref q]) = G2 at np2 eq2 et2 av2 I2 pdv2 af ⊢
  have k3 : Kp [] G2 (upd G2 p2 (.tup [.ref p1])) := .new np2
  refine ⟨_, _, _, _, rfl, rfl, k3.tup _ _ eq2, upd_same, Nat.le_trans (show (ts.take i).length + 1 ≤ 7 by rw [List.length_take]; have := pf.l5; omega) (by decide), fun q3 G3 e3 k4 => ?_⟩
  have k24 := k3.trans k4
  refine ⟨_, rfl, _, rfl, _, _, rfl, rfl, _, rfl, pr, _, rfl, k24.tup _ _ et2, fun q4 G4 e4 k5 => ?_⟩
  rw [show ((i : Int) + 1) = ((i + 1 : Nat) : Int) by omega, cut_drop] at e4
  refine ⟨_, _, _, _, rfl, rfl, k5.tup _ _ e3, e4, Nat.le_trans (show (ts.take i ++ [V.ref p1]).length + (ts.drop (i + 1)).length ≤ 20 by rw [List.length_append, List.length_take, List.length_drop]; show min i ts.length + 1 + _ ≤ 20; have := pf.l5; omega) (by decide), fun q5 G5 e5 k6 => ?_⟩
  have k26 := (k24.trans k5).trans k6
  have avn : AnT G5 (.ref q5) (.tuple ((fs.take i ++ [wrapF g] ++ fs.drop (i + 1)).map fD)) := splice_an (av2.kp k26) (af.kp k26) e5
  replace I := I2.kp0 k26
  replace pdv := pdv2.kp k26
  clear e3 e4 e5 av2 af I2 pdv2 et2 eq2 hwb2 e2a
  have efs : fs.take i ++ [g] ++ fs.drop (i + 1) = fs := by
    have : fs.take (i + 1) = fs.take i ++ [g] := by rw [List.take_add_one, hg]; rfl
    rw [← this, List.take_append_drop]
  have pn : PB2 (fs.take i ++ [wrapF g] ++ fs.drop (i + 1)) := near_p (by rw [efs]; exact pf)
  have hall : ∀ x ∈ fs, chD x = false := fun x hx => by
    cases e : chD x with
    | false => rfl
    | true => exact absurd e (List.filter_eq_nil_iff.mp hch x hx)
  have hgm := List.mem_of_getElem? hg
  have hch2 : (fs.take i ++ [wrapF g] ++ fs.drop (i + 1)).filter chD = [] := List.filter_eq_nil_iff.mpr fun x hx => by
    have : chD x = false := by
      rcases List.mem_append.mp hx with z | z
      · rcases List.mem_append.mp z with z | z
        · exact hall x (List.mem_of_mem_take z)
        · rw [List.mem_singleton.mp z]
          exact chD_wrap (pf.ok g hgm).kd (hall g hgm)
      · exact hall x (List.mem_of_mem_drop z)
    rw [this]
    exact Bool.false_ne_true
  have ew : wPairs (fs.take i ++ [wrapF g] ++ fs.drop (i + 1)) = wPairs fs := by
    have : wPairs (fs.take i ++ [wrapF g] ++ fs.drop (i + 1)) = wPairs (fs.take i ++ [g] ++ fs.drop (i + 1)) := by
      unfold wPairs
      rw [List.map_append, List.map_append, List.map_append, List.map_append]
      rfl
    rw [this, efs]
  have pon : PolyOf (wPairs (fs.take i ++ [wrapF g] ++ fs.drop (i + 1))) qs := ew ▸ po
  generalize fs.take i ++ [wrapF g] ++ fs.drop (i + 1) = near at avn pn hch2 pon
  refine ⟨_, rfl, ⟨_, near, rfl, avn a.Ts, pn.ok, pn.w, trivial, I.ga, fun _ h => h, fun r1 ys1 qs1 G1 hr1 hA1 po1 gg1 kk1 => ?_⟩⟩
  replace I := I.tab kk1 gg1
  replace avn := avn.kp kk1
  replace pdv := pdv.kp kk1
  have p1 : PolyAt G1 (.ref r1) qs1 := ⟨_, _, rfl, hr1, hA1⟩
  cases pon.one po1
  refine ⟨_, rfl, ⟨_, near, rfl, avn a.Ts, pn.ok, pn.w, (pn.plain hch2), I.ga, fun _ h => h, fun r2 ys2 qs2 G2 hr2 hA2 po2 gg2 kk2 => ?_⟩⟩
  replace I := I.tab kk2 gg2
  replace avn := avn.kp kk2
  replace pdv := pdv.kp kk2
  replace p1 := p1.kp kk2
  have p2 : PolyAt G2 (.ref r2) qs2 := ⟨_, _, rfl, hr2, hA2⟩
  refine ⟨by show 2 ≤ sizeLine; decide, fun z3 nz3 => ?_⟩
  have kz3 : Kp [] G2 (upd G2 z3 (.tup [.ref r1, .ref r2])) := .new nz3
  have ez3 : (upd G2 z3 (.tup [.ref r1, .ref r2])) z3 = some (.tup [.ref r1, .ref r2]) := upd_same
  replace I := I.kp0 kz3
  replace avn := avn.kp kz3
  replace pdv := pdv.kp kz3
  replace p1 := p1.kp kz3
  replace p2 := p2.kp kz3
  generalize upd G2 z3 (.tup [.ref r1, .ref r2]) = G3 at kz3 ez3 I avn pdv p1 p2 ⊢
  have gg := two_good (wsmall pb po).good (bsmall pn po2).good
  obtain ⟨T, hT⟩ : ∃ T, (PyData.tuple [.tuple (plyD qs), .tuple (plyD qs2)]).shown = T := ⟨_, rfl⟩
  refine re_anT (polys_an p1 p2 ez3) gg (by decide) (by decide) hT ?_
  refine ⟨_, rfl, _, rfl, ⟨_, near, rfl, avn a.Ts, Nat.lt_of_le_of_lt pn.l (by decide), pn.bok, fun r4 ys4 qs4 G4 hr4 hA4 po4 kk4 => ?_⟩⟩
  replace I := I.kp0 kk4
  replace avn := avn.kp kk4
  replace pdv := pdv.kp kk4
  replace p1 := p1.kp kk4
  replace p2 := p2.kp kk4
  have p4 : PolyAt G4 (.ref r4) qs4 := ⟨_, _, rfl, hr4, hA4⟩
  cases po2.one po4
  refine ⟨by show 2 ≤ sizeLine; decide, fun z5 nz5 => ?_⟩
  have kz5 : Kp [] G4 (upd G4 z5 (.tup [dv, .ref r4])) := .new nz5
  have ez5 : (upd G4 z5 (.tup [dv, .ref r4])) z5 = some (.tup [dv, .ref r4]) := upd_same
  replace I := I.kp0 kz5
  replace avn := avn.kp kz5
  replace pdv := pdv.kp kz5
  replace p1 := p1.kp kz5
  replace p2 := p2.kp kz5
  replace p4 := p4.kp kz5
  generalize upd G4 z5 (.tup [dv, .ref r4]) = G5 at kz5 ez5 I avn pdv p1 p2 p4 ⊢
  refine re_anT (polys_an pdv p4 ez5) gg (by decide) (by decide) hT ?_
  exact ⟨rfl, _, rfl, iteNS rfl (cont _ _ _ _ _ _ _ _ _ _ _ _ _ _ I)⟩
end
end Ey
set_option maxHeartbeats 4000000
namespace Ey
open PySem PySem.Spec L2
section
variable {Pr : Program} {w : World} {K : PySem.W.Frag} {mg : Str → Option Value} {base : Heap} {A : Nat → Addr} {D : Nat → FuncData} {a : Adr} {aO cP BC CE fC P0 : Addr}
theorem p9 (L : LA K w mg A D a aO cP BC CE fC) (b : BF base mg a) (bP : GxR.TabB base mg cP P0) (hsm : ∃ mm, base.Ns sysModules mm) (f : Addr) (cdv : Value) (s : Shared) (H : Hp) (hr : Room 80 (XL Pr w K mg base f cdv s H).A) :
    ∃ tt, PSs (XL Pr w K mg base f cdv s H) (LBo.drop 9) tt ∧ ∀ (De : Ends) (H3 : Hp) (d l pr : Addr) (v0 dv : V) (fs : List Fn) (qs : List (Int × Int)) (x2 x5 x6 x7 x8 x9 x10 x11 x12 x13 x14 : Option V),
      PF0 fs → AnT H3 (.ref pr) (.tuple (fs.map fD)) → LI a.Ts P0 d l H3 → PolyAt H3 dv qs → PolyOf (wPairs fs) qs → fs.filter chD = [] → (∀ (y2 y3 y4 y5 y6 y7 y8 y9 y10 y11 y12 y13 y14 : Option V) (G : Hp), LI a.Ts P0 d l G → De.nx [some v0, some (.ref d), y2, y3, y4, y5, y6, y7, y8, y9, y10, y11, y12, y13, y14] G) →
      tt De [some v0, some (.ref d), x2, some (.ref pr), some dv, x5, x6, x7, x8, x9, x10, x11, x12, x13, x14] H3 := by
  have B := L.B
  have hr1 := hr.mono (show 1 ≤ 80 by decide)
  have hr2 := hr.mono (show 2 ≤ 80 by decide)
  have hr8 := hr.mono (show 8 ≤ 80 by decide)
  have hr9 := hr.mono (show 9 ≤ 80 by decide)
  have hr11 := hr.mono (show 11 ≤ 80 by decide)
  have hr12 := hr.mono (show 12 ≤ 80 by decide)
  have hr14 := hr.mono (show 14 ≤ 80 by decide)
  have hr43 := hr.mono (show 43 ≤ 80 by decide)
  obtain ⟨t12, d12, r12⟩ := p12 (Pr := Pr) L b bP hsm f cdv s H hr
  refine ⟨_, (pss_cons (ps_par (i := 8) (j := 9) (by rfl) scLaw.nd rfl rfl (by decide) rfl rfl (pa_cons (pe_call (ok_draw L.draw.F B) hr1 (by rfl) L.draw.g L.draw.F.kp L.draw.b .nil pass0 (pa_cons (pv 1) (pa_cons (pe_callB (r := rLenQ K) call_len_seq (by rfl) B.len PySem.boot_len (pa_cons (pv 3) pa_nil)) pa_nil))) (pa_cons (pe_callTy call_tuple_of (by rfl) B.tuple (by decide +kernel) (pa_cons (pe_slice sl_list (pe_lst (pa_cons pe_str (pa_cons pe_str (pa_cons pe_str (pa_cons pe_str (pa_cons pe_str pa_nil)))))) po_none (po_some (pe_call (ok_draw L.draw.F B) hr1 (by rfl) L.draw.g L.draw.F.kp L.draw.b .nil pass0 (pa_cons (pv 1) (pa_cons pe_int pa_nil))))) pa_nil)) pa_nil)) (by rfl)) (pss_cons (ps_set (i := 10) scLaw.nd rfl (.inl rfl) (pe_op op_cat2 (pe_op op_cat2 (pe_slice sl_cut (pv 3) po_none (po_some (pv 8))) (pe_tup (pa_cons (pe_tup (pa_cons pe_str (pa_cons pe_str (pa_cons pe_str (pa_cons (pv 9) (pa_cons (pe_tup (pa_cons pe_str (pa_cons (pe_tup (pa_cons pe_str pa_nil)) pa_nil))) pa_nil)))))) pa_nil))) (pe_slice sl_cut (pv 3) (po_some (pv 8)) po_none))) (pss_cons (ps_if (pt_cmpR op_ne (pe_callB (cr_reprE hsm rfl hr) (by rfl) B.repr (by decide +kernel) (pa_cons (pe_tup (pa_cons (pe_call (ok_width (ms := a.Ts) L.F b) hr11 (by rfl) L.F.width.g L.F.width.F.kp L.F.width.b .nil pass0 (pa_cons (pv 10) pa_nil)) (pa_cons (pe_call (ok_bound (ms := a.Ts) L.F b) hr11 (by rfl) L.F.bound.g L.F.bound.F.kp L.F.bound.b .nil pass0 (pa_cons (pv 10) pa_nil)) pa_nil))) pa_nil)) (pe_callB (cr_reprE hsm rfl hr) (by rfl) B.repr (by decide +kernel) (pa_cons (pe_tup (pa_cons (pe_call (ok_lWidth (ms := a.Ts) L.toLF) hr2 (by rfl) L.lwidth.g L.lwidth.F.kp L.lwidth.b .nil pass0 (pa_cons (pv 10) pa_nil)) (pa_cons (pe_call (ok_lBound (ms := a.Ts) L.toLF) hr43 (by rfl) L.lbound.g L.lbound.F.kp L.lbound.b .nil pass0 (pa_cons (pv 10) pa_nil)) pa_nil))) pa_nil)) (nomark _)) (pss_one (ps_ret pe_bl)) pss_nil) d12))), ?_⟩
  intro De H3 d l pr v0 dv fs qs x2 x5 x6 x7 x8 x9 x10 x11 x12 x13 x14 pf av I pdv po hch cont
  have pb := pf.p
  have l1 := pf.l1
  have l5 := pf.l5
  obtain ⟨ts, et, hx⟩ : ∃ ts, H3 pr = some (.tup ts) ∧ AnTs H3 ts (fs.map fD) := by
    have av0 := av []
    cases av0 with
    | @tup _ ts _ et hx =>
      refine ⟨ts, et, fun ms => ?_⟩
      have := av ms
      cases this with
      | tup e' h' =>
        rw [et] at e'
        cases e'
        exact h'
  have ltx := (hx []).length
  rw [List.length_map] at ltx
  refine ⟨_, rfl, _, rfl, pr, _, rfl, .inr (sqt_of et), d, l, _, rfl, I.D, by show (0 : Int) < (ts.length : Int); omega, by show (ts.length : Int) < 4611686018427387904; omega, fun r G1 r0 r1 D1 k1 => ?_⟩
  obtain ⟨i, rfl⟩ : ∃ i : Nat, r = (i : Int) := ⟨r.toNat, by omega⟩
  have hi : i < fs.length := by omega
  replace I := I.dk k1 D1
  replace av := av.kp k1
  replace pdv := pdv.kp k1
  replace et := k1.tup _ _ et
  replace hx := hx.kp k1
  refine ⟨by show 5 ≤ sizeLine; decide, fun z1 nz1 => ?_⟩
  have ne1 := I.D.fresh nz1
  have kz1 : Kp [] G1 (upd G1 z1 (.lst [.str "x", .str "y", .str "z", .str "u", .str "v"])) := .new nz1
  have ez1 : (upd G1 z1 (.lst [.str "x", .str "y", .str "z", .str "u", .str "v"])) z1 = some (.lst [.str "x", .str "y", .str "z", .str "u", .str "v"]) := upd_same
  replace I := I.kp0 kz1
  replace av := av.kp kz1
  replace pdv := pdv.kp kz1
  replace hx := hx.kp kz1
  replace et := kz1.tup _ _ et
  generalize upd G1 z1 (.lst [.str "x", .str "y", .str "z", .str "u", .str "v"]) = G2 at kz1 ez1 I av pdv hx et ⊢
  refine ⟨_, rfl, d, l, 6, rfl, I.D, by decide, by decide, fun r2 G3 s0 s1 D2 k2 => ?_⟩
  obtain ⟨n, rfl⟩ : ∃ n : Nat, r2 = (n : Int) := ⟨r2.toNat, by omega⟩
  replace I := I.dk k2 D2
  replace av := av.kp k2
  replace pdv := pdv.kp k2
  replace hx := hx.kp k2
  replace et := k2.tup _ _ et
  replace ez1 := k2.at_ _ _ ez1 (by simp [ne1])
  refine ⟨_, rfl, z1, _, rfl, sql_of ez1, fun z2 nz2 => ?_⟩
  rw [cut_take]
  have kz2 : Kp [] G3 (upd G3 z2 (.lst ([V.str "x", .str "y", .str "z", .str "u", .str "v"].take n))) := .new nz2
  have ez2 : (upd G3 z2 (.lst ([V.str "x", .str "y", .str "z", .str "u", .str "v"].take n))) z2 = some (.lst ([V.str "x", .str "y", .str "z", .str "u", .str "v"].take n)) := upd_same
  replace I := I.kp0 kz2
  replace av := av.kp kz2
  replace pdv := pdv.kp kz2
  replace hx := hx.kp kz2
  replace et := kz2.tup _ _ et
  generalize upd G3 z2 (.lst ([V.str "x", .str "y", .str "z", .str "u", .str "v"].take n)) = G4 at kz2 ez2 I av pdv hx et ⊢
  refine ⟨z2, _, rfl, .inl ⟨sql_of ez2, fun z3 nz3 => ⟨_, _, rfl, ?_⟩⟩⟩
  have kz3 : Kp [] G4 (upd G4 z3 (.tup ([V.str "x", .str "y", .str "z", .str "u", .str "v"].take n))) := .new nz3
  have ez3 : (upd G4 z3 (.tup ([V.str "x", .str "y", .str "z", .str "u", .str "v"].take n))) z3 = some (.tup ([V.str "x", .str "y", .str "z", .str "u", .str "v"].take n)) := upd_same
  replace I := I.kp0 kz3
  replace av := av.kp kz3
  replace pdv := pdv.kp kz3
  replace hx := hx.kp kz3
  replace et := kz3.tup _ _ et
  generalize upd G4 z3 (.tup ([V.str "x", .str "y", .str "z", .str "u", .str "v"].take n)) = G5 at kz3 ez3 I av pdv hx et ⊢
  have hns : G5 z3 = some (.tup ((nsM.take n).map V.str)) := by
    rw [ez3, List.map_take]
    rfl
  obtain ⟨on1, on2⟩ := nsM_ok n (by omega)
  have on3 : (nsM.take n).length ≤ 5 := by
    rw [List.length_take]
    exact Nat.min_le_right _ _
  generalize nsM.take n = mns at hns on1 on2 on3
  -- more
  refine ⟨_, rfl, _, rfl, _, rfl, pr, _, rfl, et, fun q1 G6 eq1 k6 => ?_⟩
  rw [cut_take] at eq1
  replace I := I.kp0 k6
  replace av := av.kp k6
  replace pdv := pdv.kp k6
  replace hx := hx.kp k6
  replace et := k6.tup _ _ et
  replace hns := k6.tup _ _ hns
  refine ⟨_, rfl, by show 1 ≤ sizeLine; decide, fun z4 nz4 => ?_⟩
  have kz4 : Kp [] G6 (upd G6 z4 (.tup [.str "top"])) := .new nz4
  have ez4 : (upd G6 z4 (.tup [.str "top"])) z4 = some (.tup [.str "top"]) := upd_same
  replace I := I.kp0 kz4
  replace av := av.kp kz4
  replace pdv := pdv.kp kz4
  replace hx := hx.kp kz4
  replace et := kz4.tup _ _ et
  replace hns := kz4.tup _ _ hns
  generalize upd G6 z4 (.tup [.str "top"]) = G7 at kz4 ez4 I av pdv hx et hns ⊢
  refine ⟨by show 2 ≤ sizeLine; decide, fun z5 nz5 => ?_⟩
  have kz5 : Kp [] G7 (upd G7 z5 (.tup [.str "empty", .ref z4])) := .new nz5
  have ez5 : (upd G7 z5 (.tup [.str "empty", .ref z4])) z5 = some (.tup [.str "empty", .ref z4]) := upd_same
  replace I := I.kp0 kz5
  replace av := av.kp kz5
  replace pdv := pdv.kp kz5
  replace hx := hx.kp kz5
  replace et := kz5.tup _ _ et
  replace hns := kz5.tup _ _ hns
  generalize upd G7 z5 (.tup [.str "empty", .ref z4]) = G8 at kz5 ez5 I av pdv hx et hns ⊢
  refine ⟨by show 5 ≤ sizeLine; decide, fun z6 nz6 => ?_⟩
  have kz6 : Kp [] G8 (upd G8 z6 (.tup [.str "fun", .str "more", .str "truth", .ref z3, .ref z5])) := .new nz6
  have ez6 : (upd G8 z6 (.tup [.str "fun", .str "more", .str "truth", .ref z3, .ref z5])) z6 = some (.tup [.str "fun", .str "more", .str "truth", .ref z3, .ref z5]) := upd_same
  replace I := I.kp0 kz6
  replace av := av.kp kz6
  replace pdv := pdv.kp kz6
  replace hx := hx.kp kz6
  replace et := kz6.tup _ _ et
  replace hns := kz6.tup _ _ hns
  generalize upd G8 z6 (.tup [.str "fun", .str "more", .str "truth", .ref z3, .ref z5]) = G9 at kz6 ez6 I av pdv hx et hns ⊢
  have af : AnT G9 (.ref z6) (fD (moreF mns)) := fn_an ez6 hns (fun ms => .tup (kz6.tup _ _ ez5) (.cons (.str _) (.cons (.tup (kz6.tup _ _ (kz5.tup _ _ ez4)) (.cons (.str _) .nil)) .nil)))
  refine ⟨by show 1 ≤ sizeLine; decide, fun z7 nz7 => ?_⟩
  replace eq1 := kz6.tup _ _ (kz5.tup _ _ (kz4.tup _ _ eq1))
  have kz7 : Kp [] G9 (upd G9 z7 (.tup [.ref z6])) := .new nz7
  have ez7 : (upd G9 z7 (.tup [.ref z6])) z7 = some (.tup [.ref z6]) := upd_same
  replace I := I.kp0 kz7
  replace av := av.kp kz7
  replace pdv := pdv.kp kz7
  replace hx := hx.kp kz7
  replace et := kz7.tup _ _ et
  replace hns := kz7.tup _ _ hns
  generalize upd G9 z7 (.tup [.ref z6]) = G10 at kz7 ez7 I av pdv hx et hns ⊢
  replace af := af.kp kz7
  replace eq1 := kz7.tup _ _ eq1
  refine ⟨_, _, _, _, rfl, rfl, eq1, ez7, Nat.le_trans (show (ts.take i).length + 1 ≤ 7 by rw [List.length_take]; omega) (by decide), fun q3 G11 e3 k11 => ?_⟩
  replace I := I.kp0 k11
  replace av := av.kp k11
  replace pdv := pdv.kp k11
  replace hx := hx.kp k11
  replace et := k11.tup _ _ et
  replace af := af.kp k11
  refine ⟨_, rfl, _, rfl, _, rfl, pr, _, rfl, et, fun q4 G12 e4 k12 => ?_⟩
  rw [cut_drop] at e4
  replace I := I.kp0 k12
  replace av := av.kp k12
  replace pdv := pdv.kp k12
  replace hx := hx.kp k12
  replace et := k12.tup _ _ et
  replace af := af.kp k12
  replace e3 := k12.tup _ _ e3
  refine ⟨_, _, _, _, rfl, rfl, e3, e4, Nat.le_trans (show (ts.take i ++ [V.ref z6]).length + (ts.drop i).length ≤ 20 by rw [List.length_append, List.length_take, List.length_drop]; show min i ts.length + 1 + _ ≤ 20; omega) (by decide), fun q5 G13 e5 k13 => ?_⟩
  replace I := I.kp0 k13
  replace av := av.kp k13
  replace pdv := pdv.kp k13
  replace hx := hx.kp k13
  replace et := k13.tup _ _ et
  have avn : AnT G13 (.ref q5) (.tuple ((fs.take i ++ [moreF mns] ++ fs.drop i).map fD)) := splice_an hx (af.kp k13) e5
  have pn : PB2 (fs.take i ++ [moreF mns] ++ fs.drop i) := more_p (by rw [List.take_append_drop]; exact pf) on1 on2 on3
  have hch2 : (fs.take i ++ [moreF mns] ++ fs.drop i).filter chD = [] := fil_mid (by rw [List.take_append_drop]; exact hch) (chD_more mns)
  generalize fs.take i ++ [moreF mns] ++ fs.drop i = more at avn pn hch2
  clear hx et e3 e4 e5 af eq1 hns
  refine ⟨_, rfl, ⟨_, more, rfl, avn a.Ts, pn.ok, pn.w, trivial, I.ga, fun _ h => h, fun r21 ys21 qs21 H21 hr21 hA21 po21 gg21 kk21 => ?_⟩⟩
  replace I := I.tab kk21 gg21
  replace avn := avn.kp kk21
  replace pdv := pdv.kp kk21
  replace av := av.kp kk21
  have p21 : PolyAt H21 (.ref r21) qs21 := ⟨_, _, rfl, hr21, hA21⟩
  refine ⟨_, rfl, ⟨_, more, rfl, avn a.Ts, pn.ok, pn.w, (pn.plain hch2), I.ga, fun _ h => h, fun r22 ys22 qs22 H22 hr22 hA22 po22 gg22 kk22 => ?_⟩⟩
  replace I := I.tab kk22 gg22
  replace avn := avn.kp kk22
  replace pdv := pdv.kp kk22
  replace av := av.kp kk22
  replace p21 := p21.kp kk22
  have p22 : PolyAt H22 (.ref r22) qs22 := ⟨_, _, rfl, hr22, hA22⟩
  refine ⟨by show 2 ≤ sizeLine; decide, fun z23 nz23 => ?_⟩
  have kz23 : Kp [] H22 (upd H22 z23 (.tup [.ref r21, .ref r22])) := .new nz23
  have ez23 : (upd H22 z23 (.tup [.ref r21, .ref r22])) z23 = some (.tup [.ref r21, .ref r22]) := upd_same
  replace I := I.kp0 kz23
  replace avn := avn.kp kz23
  replace pdv := pdv.kp kz23
  replace av := av.kp kz23
  replace p21 := p21.kp kz23
  replace p22 := p22.kp kz23
  generalize upd H22 z23 (.tup [.ref r21, .ref r22]) = H23 at kz23 ez23 I avn pdv av p21 p22 ⊢
  have gg := two_good (wsmall pn po21).good (bsmall pn po22).good
  obtain ⟨T, hT⟩ : ∃ T, (PyData.tuple [.tuple (plyD qs21), .tuple (plyD qs22)]).shown = T := ⟨_, rfl⟩
  refine re_anT (polys_an p21 p22 ez23) gg (by decide) (by decide) hT ?_
  refine ⟨_, rfl, ⟨_, more, rfl, avn a.Ts, Nat.lt_of_le_of_lt pn.l (by decide), trivial, fun r24 ys24 qs24 H24 hr24 hA24 po24 kk24 => ?_⟩⟩
  replace I := I.kp0 kk24
  replace avn := avn.kp kk24
  replace pdv := pdv.kp kk24
  replace av := av.kp kk24
  replace p21 := p21.kp kk24
  replace p22 := p22.kp kk24
  have p24 : PolyAt H24 (.ref r24) qs24 := ⟨_, _, rfl, hr24, hA24⟩
  cases po21.one po24
  refine ⟨_, rfl, ⟨_, more, rfl, avn a.Ts, Nat.lt_of_le_of_lt pn.l (by decide), pn.bok, fun r25 ys25 qs25 H25 hr25 hA25 po25 kk25 => ?_⟩⟩
  replace I := I.kp0 kk25
  replace avn := avn.kp kk25
  replace pdv := pdv.kp kk25
  replace av := av.kp kk25
  replace p21 := p21.kp kk25
  replace p22 := p22.kp kk25
  replace p24 := p24.kp kk25
  have p25 : PolyAt H25 (.ref r25) qs25 := ⟨_, _, rfl, hr25, hA25⟩
  cases po22.one po25
  refine ⟨by show 2 ≤ sizeLine; decide, fun z26 nz26 => ?_⟩
  have kz26 : Kp [] H25 (upd H25 z26 (.tup [.ref r24, .ref r25])) := .new nz26
  have ez26 : (upd H25 z26 (.tup [.ref r24, .ref r25])) z26 = some (.tup [.ref r24, .ref r25]) := upd_same
  replace I := I.kp0 kz26
  replace avn := avn.kp kz26
  replace pdv := pdv.kp kz26
  replace av := av.kp kz26
  replace p21 := p21.kp kz26
  replace p22 := p22.kp kz26
  replace p24 := p24.kp kz26
  replace p25 := p25.kp kz26
  generalize upd H25 z26 (.tup [.ref r24, .ref r25]) = H26 at kz26 ez26 I avn pdv av p21 p22 p24 p25 ⊢
  refine re_anT (polys_an p24 p25 ez26) gg (by decide) (by decide) hT ?_
  refine ⟨rfl, _, rfl, iteNS rfl ?_⟩
  exact r12 De H26 d l pr v0 dv fs qs _ _ _ _ _ _ _ _ _ _ i pf av I pdv po hi hch cont
end
end Ey
set_option maxHeartbeats 4000000
namespace Ey
open PySem PySem.Spec L2
theorem tup_of {H : Hp} {p : Addr} {ds : List PyData} (av : AnT H (.ref p) (.tuple ds)) : ∃ ts, H p = some (.tup ts) ∧ AnTs H ts ds := by
  have av0 := av []
  cases av0 with
  | @tup _ ts _ et hx =>
    refine ⟨ts, et, fun ms => ?_⟩
    have := av ms
    cases this with
    | tup e' h' =>
      rw [et] at e'
      cases e'
      exact h'
theorem an_rev {ms : List Addr} {H : Hp} : ∀ {vs : List V} {ds : List PyData}, AnAll ms H vs ds → AnAll ms H vs.reverse ds.reverse
  | _, _, .nil => .nil
  | _, _, .cons a r => by
    rw [List.reverse_cons, List.reverse_cons]
    exact (an_rev r).append (.cons a .nil)
section
variable {Pr : Program} {w : World} {K : PySem.W.Frag} {mg : Str → Option Value} {base : Heap} {A : Nat → Addr} {D : Nat → FuncData} {a : Adr} {aO cP BC CE fC P0 : Addr}
theorem p5 (L : LA K w mg A D a aO cP BC CE fC) (b : BF base mg a) (bP : GxR.TabB base mg cP P0) (hsm : ∃ mm, base.Ns sysModules mm) (f : Addr) (cdv : Value) (s : Shared) (H : Hp) (hr : Room 80 (XL Pr w K mg base f cdv s H).A) :
    ∃ tt, PSs (XL Pr w K mg base f cdv s H) (LBo.drop 5) tt ∧ ∀ (De : Ends) (H3 : Hp) (d l pr : Addr) (v0 dv : V) (fs : List Fn) (qs : List (Int × Int)) (x2 x5 x6 x7 x8 x9 x10 x11 x12 x13 x14 : Option V),
      PF0 fs → AnT H3 (.ref pr) (.tuple (fs.map fD)) → LI a.Ts P0 d l H3 → PolyAt H3 dv qs → PolyOf (wPairs fs) qs → fs.filter chD = [] → (∀ (y2 y3 y4 y5 y6 y7 y8 y9 y10 y11 y12 y13 y14 : Option V) (G : Hp), LI a.Ts P0 d l G → De.nx [some v0, some (.ref d), y2, y3, y4, y5, y6, y7, y8, y9, y10, y11, y12, y13, y14] G) →
      tt De [some v0, some (.ref d), x2, some (.ref pr), some dv, x5, x6, x7, x8, x9, x10, x11, x12, x13, x14] H3 := by
  have B := L.B
  have hr1 := hr.mono (show 1 ≤ 80 by decide)
  have hr2 := hr.mono (show 2 ≤ 80 by decide)
  have hr8 := hr.mono (show 8 ≤ 80 by decide)
  have hr9 := hr.mono (show 9 ≤ 80 by decide)
  have hr11 := hr.mono (show 11 ≤ 80 by decide)
  have hr12 := hr.mono (show 12 ≤ 80 by decide)
  have hr14 := hr.mono (show 14 ≤ 80 by decide)
  have hr43 := hr.mono (show 43 ≤ 80 by decide)
  obtain ⟨t9, d9, r9⟩ := p9 (Pr := Pr) L b bP hsm f cdv s H hr
  refine ⟨_, (pss_cons (ps_set (i := 6) scLaw.nd rfl (.inl rfl) (pe_call (ok_lBound (ms := a.Ts) L.toLF) hr43 (by rfl) L.lbound.g L.lbound.F.kp L.lbound.b .nil pass0 (pa_cons (pv 3) pa_nil))) (pss_cons (ps_if (PW.pt (pw_or (pt_cmpR op_ne (pe_callB (cr_reprE hsm rfl hr) (by rfl) B.repr (by decide +kernel) (pa_cons (pe_tup (pa_cons (pe_call (ok_bound (ms := a.Ts) L.F b) hr11 (by rfl) L.F.bound.g L.F.bound.F.kp L.F.bound.b .nil pass0 (pa_cons (pv 3) pa_nil)) (pa_cons (pe_callKR (ok_bound (ms := a.Ts) L.F b) hr11 (by rfl) L.F.bound.g L.F.bound.F.kp L.kB pass0 (pk_cons (pe_revA (pv 3)) pk_nil)) pa_nil))) pa_nil)) (pe_callB (cr_reprE hsm rfl hr) (by rfl) B.repr (by decide +kernel) (pa_cons (pe_tup (pa_cons (pv 6) (pa_cons (pv 6) pa_nil))) pa_nil)) (nomark _)) (pw_or1 (pt_cmpR op_notB (pe_call (ok_poly (ms := [P0]) L.P.toPP bP) hr8 (by rfl) L.P.poly.g L.P.poly.F.kp L.P.poly.b .nil pass0 (pa_cons (pv 6) pa_nil)) pe_bl (nomark _))))) (pss_one (ps_ret pe_bl)) pss_nil) (pss_cons (ps_set (i := 7) scLaw.nd rfl (.inl rfl) (pe_op op_add pe_int (pe_op op_mul pe_int (pe_call (ok_draw L.draw.F B) hr1 (by rfl) L.draw.g L.draw.F.kp L.draw.b .nil pass0 (pa_cons (pv 1) (pa_cons pe_int pa_nil)))))) (pss_cons (ps_if (pt_cmpR op_ne (pe_callB (cr_reprE hsm rfl hr) (by rfl) B.repr (by decide +kernel) (pa_cons (pe_tup (pa_cons (pe_call (ok_val (ms := [P0]) L.P bP) hr9 (by rfl) L.P.val.g L.P.val.F.kp L.P.val.b .nil pass0 (pa_cons (pe_call (ok_width (ms := a.Ts) L.F b) hr11 (by rfl) L.F.width.g L.F.width.F.kp L.F.width.b .nil pass0 (pa_cons (pv 3) pa_nil)) (pa_cons (pv 7) pa_nil))) (pa_cons (pe_call (ok_val (ms := [P0]) L.P bP) hr9 (by rfl) L.P.val.g L.P.val.F.kp L.P.val.b .nil pass0 (pa_cons (pe_call (ok_bound (ms := a.Ts) L.F b) hr11 (by rfl) L.F.bound.g L.F.bound.F.kp L.F.bound.b .nil pass0 (pa_cons (pv 3) pa_nil)) (pa_cons (pv 7) pa_nil))) pa_nil))) pa_nil)) (pe_callB (cr_reprE hsm rfl hr) (by rfl) B.repr (by decide +kernel) (pa_cons (pe_tup (pa_cons (pe_call (ok_lVal (ms := []) L.toLV) hr2 (by rfl) L.lval.g L.lval.F.kp L.lval.b .nil pass0 (pa_cons (pv 4) (pa_cons (pv 7) pa_nil))) (pa_cons (pe_call (ok_lVal (ms := []) L.toLV) hr2 (by rfl) L.lval.g L.lval.F.kp L.lval.b .nil pass0 (pa_cons (pv 6) (pa_cons (pv 7) pa_nil))) pa_nil))) pa_nil)) (nomark _)) (pss_one (ps_ret pe_bl)) pss_nil) d9)))), ?_⟩
  intro De H3 d l pr v0 dv fs qs x2 x5 x6 x7 x8 x9 x10 x11 x12 x13 x14 pf av I pdv po hch cont
  have pb := pf.p
  have plr : Plain fs.reverse := pf.rev.plain (by rw [List.filter_reverse, hch]; rfl)
  refine ⟨_, rfl, ⟨_, fs, rfl, av a.Ts, Nat.lt_of_le_of_lt pb.l (by decide), pb.bok, fun r31 ys31 qs31 H31 hr31 hA31 po31 kk31 => ?_⟩⟩
  replace I := I.kp0 kk31
  replace av := av.kp kk31
  replace pdv := pdv.kp kk31
  have p31 : PolyAt H31 (.ref r31) qs31 := ⟨_, _, rfl, hr31, hA31⟩
  have por : PolyOf (bPairs fs.reverse) qs31 := po31.to (by unfold bPairs; rw [List.map_reverse]; exact (List.reverse_perm _).symm)
  have sb := bsmall pb po31
  have sw := wsmall pb po
  refine ⟨_, rfl, ⟨_, fs, rfl, av a.Ts, pb.ok, pb.w, (pb.plain hch), I.ga, fun _ h => h, fun r32 ys32 qs32 H32 hr32 hA32 po32 gg32 kk32 => ?_⟩⟩
  replace I := I.tab kk32 gg32
  replace av := av.kp kk32
  replace pdv := pdv.kp kk32
  replace p31 := p31.kp kk32
  have p32 : PolyAt H32 (.ref r32) qs32 := ⟨_, _, rfl, hr32, hA32⟩
  cases po31.one po32
  have het33 := tup_of av
  obtain ⟨ts33, et33, hx33⟩ := het33
  refine ⟨_, rfl, .inl ⟨pr, _, rfl, sqt_of et33, fun z33 nz33 => ?_⟩⟩
  have kz33 : Kp [] H32 (upd H32 z33 (.tup ts33.reverse)) := .new nz33
  have avr : AnT (upd H32 z33 (.tup ts33.reverse)) (.ref z33) (.tuple (fs.reverse.map fD)) := by
    rw [List.map_reverse]
    exact fun ms => .tup upd_same (an_rev ((hx33.kp kz33) ms))
  clear hx33
  replace I := I.kp0 kz33
  replace av := av.kp kz33
  replace pdv := pdv.kp kz33
  replace p31 := p31.kp kz33
  replace p32 := p32.kp kz33
  generalize upd H32 z33 (.tup ts33.reverse) = H33 at kz33 avr I av pdv p31 p32 ⊢
  refine ⟨_, fs.reverse, rfl, avr a.Ts, pf.rev.ok, pf.rev.w, plr, I.ga, fun _ h => h, fun r34 ys34 qs34 H34 hr34 hA34 po34 gg34 kk34 => ?_⟩
  replace I := I.tab kk34 gg34
  replace av := av.kp kk34
  replace pdv := pdv.kp kk34
  replace p31 := p31.kp kk34
  replace p32 := p32.kp kk34
  have p34 : PolyAt H34 (.ref r34) qs34 := ⟨_, _, rfl, hr34, hA34⟩
  cases por.one po34
  refine ⟨by show 2 ≤ sizeLine; decide, fun z35 nz35 => ?_⟩
  have kz35 : Kp [] H34 (upd H34 z35 (.tup [.ref r32, .ref r34])) := .new nz35
  have ez35 : (upd H34 z35 (.tup [.ref r32, .ref r34])) z35 = some (.tup [.ref r32, .ref r34]) := upd_same
  replace I := I.kp0 kz35
  replace av := av.kp kz35
  replace pdv := pdv.kp kz35
  replace p31 := p31.kp kz35
  replace p32 := p32.kp kz35
  replace p34 := p34.kp kz35
  generalize upd H34 z35 (.tup [.ref r32, .ref r34]) = H35 at kz35 ez35 I av pdv p31 p32 p34 ⊢
  obtain ⟨T, hT⟩ : ∃ T, (PyData.tuple [.tuple (plyD qs31), .tuple (plyD qs31)]).shown = T := ⟨_, rfl⟩
  refine re_anT (polys_an p32 p34 ez35) (two_good sb.good sb.good) (by decide) (by decide) hT ?_
  refine ⟨_, rfl, _, rfl, ?_⟩
  refine ⟨by show 2 ≤ sizeLine; decide, fun z36 nz36 => ?_⟩
  have kz36 : Kp [] H35 (upd H35 z36 (.tup [.ref r31, .ref r31])) := .new nz36
  have ez36 : (upd H35 z36 (.tup [.ref r31, .ref r31])) z36 = some (.tup [.ref r31, .ref r31]) := upd_same
  replace I := I.kp0 kz36
  replace av := av.kp kz36
  replace pdv := pdv.kp kz36
  replace p31 := p31.kp kz36
  replace p32 := p32.kp kz36
  replace p34 := p34.kp kz36
  generalize upd H35 z36 (.tup [.ref r31, .ref r31]) = H36 at kz36 ez36 I av pdv p31 p32 p34 ⊢
  refine re_anT (polys_an p31 p31 ez36) (two_good sb.good sb.good) (by decide) (by decide) hT ?_
  refine ⟨rfl, _, rfl, iteNS rfl ⟨_, rfl, ⟨_, _, rfl, p31.an [P0], Nat.le_trans sb.good.w (by decide), I.gp, fun _ h => h, fun H37 gg37 kk37 => ?_⟩⟩⟩
  rw [show polyD (.tuple (plyD qs31)) = true from sb.poly]
  replace I := I.pol kk37 gg37
  replace av := av.kp kk37
  replace pdv := pdv.kp kk37
  replace p31 := p31.kp kk37
  replace p32 := p32.kp kk37
  replace p34 := p34.kp kk37
  refine ⟨_, _, rfl, rfl, _, rfl, ite2 (fun q => absurd q (by decide)) (fun _ => ?_)⟩
  clear hT T
  refine ⟨_, rfl, d, l, 30, rfl, I.D, by decide, by decide, fun r38 H38 s0 s1 D38 k38 => ⟨_, _, rfl, rfl, .inl ⟨by decide, by decide⟩, _, _, rfl, rfl, ?_⟩⟩
  replace I := I.dk k38 D38
  replace av := av.kp k38
  replace pdv := pdv.kp k38
  replace p31 := p31.kp k38
  replace p32 := p32.kp k38
  replace p34 := p34.kp k38
  obtain ⟨n38, rfl⟩ : ∃ n38 : Nat, r38 = (n38 : Int) := ⟨r38.toNat, by omega⟩
  have hmn : 1 + 2 * n38 ≤ 64 := by omega
  refine ⟨_, rfl, ⟨_, fs, rfl, av a.Ts, pb.ok, pb.w, trivial, I.ga, fun _ h => h, fun r39 ys39 qs39 H39 hr39 hA39 po39 gg39 kk39 => ?_⟩⟩
  replace I := I.tab kk39 gg39
  replace av := av.kp kk39
  replace pdv := pdv.kp kk39
  replace p31 := p31.kp kk39
  replace p32 := p32.kp kk39
  replace p34 := p34.kp kk39
  have p39 : PolyAt H39 (.ref r39) qs39 := ⟨_, _, rfl, hr39, hA39⟩
  cases po.one po39
  refine ⟨_, rfl, ⟨_, plyD qs, (1 + 2 * n38), rfl, p39.an [P0], Nat.le_trans sw.good.w (by decide), I.gp, fun _ h => h, sw.poly, sw.inb, Nat.lt_of_le_of_lt hmn (by decide), by rw [show (plyD qs).length = qs.length from List.length_map ..]; exact Nat.le_trans sw.len (by decide), fun H40 gg40 kk40 => ?_⟩⟩
  replace I := I.pol kk40 gg40
  replace av := av.kp kk40
  replace pdv := pdv.kp kk40
  replace p31 := p31.kp kk40
  replace p32 := p32.kp kk40
  replace p34 := p34.kp kk40
  replace p39 := p39.kp kk40
  refine ⟨_, rfl, ⟨_, fs, rfl, av a.Ts, pb.ok, pb.w, (pb.plain hch), I.ga, fun _ h => h, fun r41 ys41 qs41 H41 hr41 hA41 po41 gg41 kk41 => ?_⟩⟩
  replace I := I.tab kk41 gg41
  replace av := av.kp kk41
  replace pdv := pdv.kp kk41
  replace p31 := p31.kp kk41
  replace p32 := p32.kp kk41
  replace p34 := p34.kp kk41
  replace p39 := p39.kp kk41
  have p41 : PolyAt H41 (.ref r41) qs41 := ⟨_, _, rfl, hr41, hA41⟩
  cases po31.one po41
  refine ⟨_, rfl, ⟨_, plyD qs31, (1 + 2 * n38), rfl, p41.an [P0], Nat.le_trans sb.good.w (by decide), I.gp, fun _ h => h, sb.poly, sb.inb, Nat.lt_of_le_of_lt hmn (by decide), by rw [show (plyD qs31).length = qs31.length from List.length_map ..]; exact Nat.le_trans sb.len (by decide), fun H42 gg42 kk42 => ?_⟩⟩
  replace I := I.pol kk42 gg42
  replace av := av.kp kk42
  replace pdv := pdv.kp kk42
  replace p31 := p31.kp kk42
  replace p32 := p32.kp kk42
  replace p34 := p34.kp kk42
  replace p39 := p39.kp kk42
  replace p41 := p41.kp kk42
  refine ⟨by show 2 ≤ sizeLine; decide, fun z43 nz43 => ?_⟩
  have kz43 : Kp [] H42 (upd H42 z43 (.tup [.int (valL (1 + 2 * n38) (plyD qs)), .int (valL (1 + 2 * n38) (plyD qs31))])) := .new nz43
  have ez43 : (upd H42 z43 (.tup [.int (valL (1 + 2 * n38) (plyD qs)), .int (valL (1 + 2 * n38) (plyD qs31))])) z43 = some (.tup [.int (valL (1 + 2 * n38) (plyD qs)), .int (valL (1 + 2 * n38) (plyD qs31))]) := upd_same
  replace I := I.kp0 kz43
  replace av := av.kp kz43
  replace pdv := pdv.kp kz43
  replace p31 := p31.kp kz43
  replace p32 := p32.kp kz43
  replace p34 := p34.kp kz43
  replace p39 := p39.kp kz43
  replace p41 := p41.kp kz43
  generalize upd H42 z43 (.tup [.int (valL (1 + 2 * n38) (plyD qs)), .int (valL (1 + 2 * n38) (plyD qs31))]) = H43 at kz43 ez43 I av pdv p31 p32 p34 p39 p41 ⊢
  obtain ⟨T, hT⟩ : ∃ T, (PyData.tuple [.int (valL (1 + 2 * n38) (plyD qs)), .int (valL (1 + 2 * n38) (plyD qs31))]).shown = T := ⟨_, rfl⟩
  have gi := two_good (sw.val hmn) (sb.val hmn)
  refine re_anT (fun ms => .tup ez43 (.cons (.int _) (.cons (.int _) .nil))) gi (by decide) (by decide) hT ?_
  refine ⟨_, rfl, _, rfl, ⟨_, plyD qs, (1 + 2 * n38), rfl, pdv.an [], (by have := sw.poly; unfold polyL at this; rw [Bool.and_eq_true] at this; exact this.1), sw.inb, Nat.lt_of_le_of_lt hmn (by decide), by rw [show (plyD qs).length = qs.length from List.length_map ..]; exact Nat.le_trans sw.len (by decide), fun H44 kk44 => ?_⟩⟩
  replace I := I.kp0 kk44
  replace av := av.kp kk44
  replace pdv := pdv.kp kk44
  replace p31 := p31.kp kk44
  replace p32 := p32.kp kk44
  replace p34 := p34.kp kk44
  replace p39 := p39.kp kk44
  replace p41 := p41.kp kk44
  refine ⟨_, rfl, _, rfl, ⟨_, plyD qs31, (1 + 2 * n38), rfl, p31.an [], (by have := sb.poly; unfold polyL at this; rw [Bool.and_eq_true] at this; exact this.1), sb.inb, Nat.lt_of_le_of_lt hmn (by decide), by rw [show (plyD qs31).length = qs31.length from List.length_map ..]; exact Nat.le_trans sb.len (by decide), fun H45 kk45 => ?_⟩⟩
  replace I := I.kp0 kk45
  replace av := av.kp kk45
  replace pdv := pdv.kp kk45
  replace p31 := p31.kp kk45
  replace p32 := p32.kp kk45
  replace p34 := p34.kp kk45
  replace p39 := p39.kp kk45
  replace p41 := p41.kp kk45
  refine ⟨by show 2 ≤ sizeLine; decide, fun z46 nz46 => ?_⟩
  have kz46 : Kp [] H45 (upd H45 z46 (.tup [.int (valL (1 + 2 * n38) (plyD qs)), .int (valL (1 + 2 * n38) (plyD qs31))])) := .new nz46
  have ez46 : (upd H45 z46 (.tup [.int (valL (1 + 2 * n38) (plyD qs)), .int (valL (1 + 2 * n38) (plyD qs31))])) z46 = some (.tup [.int (valL (1 + 2 * n38) (plyD qs)), .int (valL (1 + 2 * n38) (plyD qs31))]) := upd_same
  replace I := I.kp0 kz46
  replace av := av.kp kz46
  replace pdv := pdv.kp kz46
  replace p31 := p31.kp kz46
  replace p32 := p32.kp kz46
  replace p34 := p34.kp kz46
  replace p39 := p39.kp kz46
  replace p41 := p41.kp kz46
  generalize upd H45 z46 (.tup [.int (valL (1 + 2 * n38) (plyD qs)), .int (valL (1 + 2 * n38) (plyD qs31))]) = H46 at kz46 ez46 I av pdv p31 p32 p34 p39 p41 ⊢
  refine re_anT (fun ms => .tup ez46 (.cons (.int _) (.cons (.int _) .nil))) gi (by decide) (by decide) hT ?_
  refine ⟨rfl, _, rfl, iteNS rfl ?_⟩
  exact r9 De H46 d l pr v0 dv fs qs _ _ _ _ _ _ _ _ _ _ _ pf av I pdv po hch cont
end
end Ey
set_option maxHeartbeats 4000000
namespace Ey
open PySem PySem.Spec L2
section
variable {Pr : Program} {w : World} {K : PySem.W.Frag} {mg : Str → Option Value} {base : Heap} {A : Nat → Addr} {D : Nat → FuncData} {a : Adr} {aO cP BC CE fC P0 : Addr}
theorem p0 (L : LA K w mg A D a aO cP BC CE fC) (b : BF base mg a) (bP : GxR.TabB base mg cP P0) (hsm : ∃ mm, base.Ns sysModules mm) (f : Addr) (cdv : Value) (s : Shared) (H : Hp) (hr : Room 80 (XL Pr w K mg base f cdv s H).A) :
    ∃ tt, PSs (XL Pr w K mg base f cdv s H) (LBo.drop 0) tt ∧ ∀ (De : Ends) (H3 : Hp) (d l : Addr) (v0 : V) (i : Nat) (x3 x4 x5 x6 x7 x8 x9 x10 x11 x12 x13 x14 : Option V),
      LI a.Ts P0 d l H3 → (∀ (y2 y3 y4 y5 y6 y7 y8 y9 y10 y11 y12 y13 y14 : Option V) (G : Hp), LI a.Ts P0 d l G → De.nx [some v0, some (.ref d), y2, y3, y4, y5, y6, y7, y8, y9, y10, y11, y12, y13, y14] G) → (∀ (y2 y3 y4 y5 y6 y7 y8 y9 y10 y11 y12 y13 y14 : Option V) (G : Hp), LI a.Ts P0 d l G → De.ct [some v0, some (.ref d), y2, y3, y4, y5, y6, y7, y8, y9, y10, y11, y12, y13, y14] G) →
      tt De [some v0, some (.ref d), some (.int (0 + (i : Int))), x3, x4, x5, x6, x7, x8, x9, x10, x11, x12, x13, x14] H3 := by
  have B := L.B
  have hr1 := hr.mono (show 1 ≤ 80 by decide)
  have hr2 := hr.mono (show 2 ≤ 80 by decide)
  have hr8 := hr.mono (show 8 ≤ 80 by decide)
  have hr9 := hr.mono (show 9 ≤ 80 by decide)
  have hr11 := hr.mono (show 11 ≤ 80 by decide)
  have hr12 := hr.mono (show 12 ≤ 80 by decide)
  have hr14 := hr.mono (show 14 ≤ 80 by decide)
  have hr43 := hr.mono (show 43 ≤ 80 by decide)
  obtain ⟨t5, d5, r5⟩ := p5 (Pr := Pr) L b bP hsm f cdv s H hr
  refine ⟨_, (pss_cons (ps_set (i := 3) scLaw.nd rfl (.inl rfl) (pe_call (ok_dprog L.toLP) hr14 (by rfl) L.dprog.g L.dprog.F.kp L.dprog.b .nil pass0 (pa_cons (pv 1) (pa_cons pe_int (pa_cons (pe_cmpR op_eq (pv 2) pe_int (nomark _)) pa_nil))))) (pss_cons (ps_set (i := 4) scLaw.nd rfl (.inl rfl) (pe_call (ok_lWidth (ms := a.Ts) L.toLF) hr2 (by rfl) L.lwidth.g L.lwidth.F.kp L.lwidth.b .nil pass0 (pa_cons (pv 3) pa_nil))) (pss_cons (ps_if (PW.pt (pw_or (pt_cmpR op_ne (pe_callB (cr_reprE hsm rfl hr) (by rfl) B.repr (by decide +kernel) (pa_cons (pe_tup (pa_cons (pe_call (ok_width (ms := a.Ts) L.F b) hr11 (by rfl) L.F.width.g L.F.width.F.kp L.F.width.b .nil pass0 (pa_cons (pv 3) pa_nil)) (pa_cons (pe_callKR (ok_width (ms := a.Ts) L.F b) hr11 (by rfl) L.F.width.g L.F.width.F.kp L.kW pass0 (pk_cons (pe_revA (pv 3)) pk_nil)) pa_nil))) pa_nil)) (pe_callB (cr_reprE hsm rfl hr) (by rfl) B.repr (by decide +kernel) (pa_cons (pe_tup (pa_cons (pv 4) (pa_cons (pv 4) pa_nil))) pa_nil)) (nomark _)) (pw_or1 (pt_cmpR op_notB (pe_call (ok_poly (ms := [P0]) L.P.toPP bP) hr8 (by rfl) L.P.poly.g L.P.poly.F.kp L.P.poly.b .nil pass0 (pa_cons (pv 4) pa_nil)) pe_bl (nomark _))))) (pss_one (ps_ret pe_bl)) pss_nil) (pss_cons (ps_set (i := 5) scLaw.nd rfl (.inl rfl) (pe_call (ok_choosing (ms := a.Ts) L.toLF) hr43 (by rfl) L.choosing.g L.choosing.F.kp L.choosing.b .nil pass0 (pa_cons (pv 3) pa_nil))) (pss_cons (ps_if (pt_cmpR op_notN (pv 5) pe_non (nomark _)) (pss_cons (ps_if (pt_not (pt_val (pe_call (ok_refused (ms := a.Ts) L.F b L.X L.kB L.refused) hr12 (by rfl) L.refused.g L.refused.F.kp L.refused.b .nil pass0 (pa_cons (pv 3) (pa_cons (pv 5) pa_nil))))) (pss_one (ps_ret pe_bl)) pss_nil) (pss_one ps_continue)) pss_nil) d5))))), ?_⟩
  intro De H3 d l v0 i x3 x4 x5 x6 x7 x8 x9 x10 x11 x12 x13 x14 I cont contc
  refine ⟨_, rfl, _, rfl, rfl, d, l, 5, _, rfl, I.D, by decide, by decide, fun pv0 fs G50 av hf hnd l1 l5 D50 k50 => ?_⟩
  replace I := I.dk k50 D50
  have pf : PF0 fs := ⟨fun f h => (hf f h).1, hnd, fun f h => ⟨(hf f h).2.1, (hf f h).2.2.1, (hf f h).2.2.2.1, (hf f h).2.2.2.2.2⟩, l1, l5⟩
  have pb := pf.p
  obtain ⟨pr, rfl⟩ : ∃ pr, pv0 = .ref pr := by
    cases av [] with
    | @tup a _ _ _ _ => exact ⟨a, rfl⟩
  refine ⟨_, rfl, ⟨_, fs, rfl, av a.Ts, Nat.lt_of_le_of_lt pb.l (by decide), trivial, fun r61 ys61 qs61 H61 hr61 hA61 po61 kk61 => ?_⟩⟩
  replace I := I.kp0 kk61
  replace av := av.kp kk61
  have p61 : PolyAt H61 (.ref r61) qs61 := ⟨_, _, rfl, hr61, hA61⟩
  have sw := wsmall pb po61
  have por : PolyOf (wPairs fs.reverse) qs61 := po61.to (by unfold wPairs; rw [List.map_reverse]; exact (List.reverse_perm _).symm)
  refine ⟨_, rfl, ⟨_, fs, rfl, av a.Ts, pb.ok, pb.w, trivial, I.ga, fun _ h => h, fun r62 ys62 qs62 H62 hr62 hA62 po62 gg62 kk62 => ?_⟩⟩
  replace I := I.tab kk62 gg62
  replace av := av.kp kk62
  replace p61 := p61.kp kk62
  have p62 : PolyAt H62 (.ref r62) qs62 := ⟨_, _, rfl, hr62, hA62⟩
  cases po61.one po62
  have het63 := tup_of av
  obtain ⟨ts63, et63, hx63⟩ := het63
  refine ⟨_, rfl, .inl ⟨pr, _, rfl, sqt_of et63, fun z63 nz63 => ?_⟩⟩
  have kz63 : Kp [] H62 (upd H62 z63 (.tup ts63.reverse)) := .new nz63
  have avr : AnT (upd H62 z63 (.tup ts63.reverse)) (.ref z63) (.tuple (fs.reverse.map fD)) := by
    rw [List.map_reverse]
    exact fun ms => .tup upd_same (an_rev ((hx63.kp kz63) ms))
  clear hx63
  replace I := I.kp0 kz63
  replace av := av.kp kz63
  replace p61 := p61.kp kz63
  replace p62 := p62.kp kz63
  generalize upd H62 z63 (.tup ts63.reverse) = H63 at kz63 avr I av p61 p62 ⊢
  refine ⟨_, fs.reverse, rfl, avr a.Ts, pf.rev.ok, pf.rev.w, trivial, I.ga, fun _ h => h, fun r64 ys64 qs64 H64 hr64 hA64 po64 gg64 kk64 => ?_⟩
  replace I := I.tab kk64 gg64
  replace av := av.kp kk64
  replace p61 := p61.kp kk64
  replace p62 := p62.kp kk64
  have p64 : PolyAt H64 (.ref r64) qs64 := ⟨_, _, rfl, hr64, hA64⟩
  cases por.one po64
  refine ⟨by show 2 ≤ sizeLine; decide, fun z65 nz65 => ?_⟩
  have kz65 : Kp [] H64 (upd H64 z65 (.tup [.ref r62, .ref r64])) := .new nz65
  have ez65 : (upd H64 z65 (.tup [.ref r62, .ref r64])) z65 = some (.tup [.ref r62, .ref r64]) := upd_same
  replace I := I.kp0 kz65
  replace av := av.kp kz65
  replace p61 := p61.kp kz65
  replace p62 := p62.kp kz65
  replace p64 := p64.kp kz65
  generalize upd H64 z65 (.tup [.ref r62, .ref r64]) = H65 at kz65 ez65 I av p61 p62 p64 ⊢
  obtain ⟨T, hT⟩ : ∃ T, (PyData.tuple [.tuple (plyD qs61), .tuple (plyD qs61)]).shown = T := ⟨_, rfl⟩
  refine re_anT (polys_an p62 p64 ez65) (two_good sw.good sw.good) (by decide) (by decide) hT ?_
  refine ⟨_, rfl, _, rfl, ?_⟩
  refine ⟨by show 2 ≤ sizeLine; decide, fun z66 nz66 => ?_⟩
  have kz66 : Kp [] H65 (upd H65 z66 (.tup [.ref r61, .ref r61])) := .new nz66
  have ez66 : (upd H65 z66 (.tup [.ref r61, .ref r61])) z66 = some (.tup [.ref r61, .ref r61]) := upd_same
  replace I := I.kp0 kz66
  replace av := av.kp kz66
  replace p61 := p61.kp kz66
  replace p62 := p62.kp kz66
  replace p64 := p64.kp kz66
  generalize upd H65 z66 (.tup [.ref r61, .ref r61]) = H66 at kz66 ez66 I av p61 p62 p64 ⊢
  refine re_anT (polys_an p61 p61 ez66) (two_good sw.good sw.good) (by decide) (by decide) hT ?_
  refine ⟨rfl, _, rfl, iteNS rfl ⟨_, rfl, ⟨_, _, rfl, p61.an [P0], Nat.le_trans sw.good.w (by decide), I.gp, fun _ h => h, fun H67 gg67 kk67 => ?_⟩⟩⟩
  rw [show polyD (.tuple (plyD qs61)) = true from sw.poly]
  replace I := I.pol kk67 gg67
  replace av := av.kp kk67
  replace p61 := p61.kp kk67
  replace p62 := p62.kp kk67
  replace p64 := p64.kp kk67
  refine ⟨_, _, rfl, rfl, _, rfl, ite2 (fun q => absurd q (by decide)) (fun _ => ?_)⟩
  clear hT T
  refine ⟨_, rfl, ⟨_, fs, rfl, av a.Ts, fun f hf => ⟨(pb.b f hf).t, Nat.lt_of_le_of_lt (pb.b f hf).d (by decide)⟩, Nat.le_trans pb.w (by decide), fun H68 kk68 => ?_⟩⟩
  replace I := I.kp0 kk68
  replace av := av.kp kk68
  replace p61 := p61.kp kk68
  replace p62 := p62.kp kk68
  replace p64 := p64.kp kk68
  cases hc : fs.filter chD with
  | nil =>
    refine ⟨_, rfl, rfl, _, rfl, ite2 (fun q => absurd q (by decide)) (fun _ => ?_)⟩
    exact r5 De H68 d l pr v0 _ fs qs61 _ _ _ _ _ _ _ _ _ _ _ pf av I p61 po61 hc cont
  | cons f0 fr =>
    refine ⟨_, rfl, rfl, _, rfl, ite2 (fun _ => ?_) (fun q => absurd rfl q)⟩
    refine ⟨_, rfl, _, rfl, ⟨_, fs, f0.nm, rfl, av a.Ts, pb.ok, pb.w, (by unfold chNames; rw [hc]; rfl), I.ga, fun _ h => h, fun H69 gg69 kk69 => ⟨_, rfl, iteF ?_⟩⟩⟩
    exact contc _ _ _ _ _ _ _ _ _ _ _ _ _ _ (I.tab kk69 gg69)
end
end Ey
set_option maxHeartbeats 4000000
namespace Ey
open PySem PySem.Spec L2
section
variable {Pr : Program} {w : World} {K : PySem.W.Frag} {mg : Str → Option Value} {base : Heap} {A : Nat → Addr} {D : Nat → FuncData} {a : Adr} {aO cP BC CE fC P0 : Addr}
def spLaw (K : PySem.W.Frag) (Ts : List Addr) (P0 : Addr) : Sp := fun vs H Q _ => ∃ (c : Addr) (ns : List Int), vs = [.ref c] ∧ SqL K H c (ns.map V.int) ∧ ns.length ≤ 63 ∧ TTs Ts H ∧ TTs [P0] H ∧ P0 ∉ Ts ∧ ∀ H', Q (.bl true) H'
theorem poly_nil {qs : List (Int × Int)} (h : PolyOf [] qs) : qs = [] := by
  cases qs with
  | nil => rfl
  | cons x r => exact absurd ((h.mem x).mp List.mem_cons_self).1 List.not_mem_nil
theorem pb_nil : PB2 [] := .mk' (fun f h => absurd h List.not_mem_nil) List.nodup_nil (fun f h => absurd h List.not_mem_nil) (by decide)
theorem ok_law {f : Addr} {fd : FuncData} (Fl : Fun K "law" "law" sLaw f fd) (L : LA K w mg A D a aO cP BC CE fC) (b : BF base mg a) (bP : GxR.TabB base mg cP P0) (hsm : ∃ mm, base.Ns sysModules mm) : LawOk Pr w K mg base f fd "_law_script" (spLaw K a.Ts P0) := by
  refine law_ok (k := 80) Fl scLaw ⟨rfl, by decide, by decide⟩ fun cdv s H v Q hr h => ?_
  obtain ⟨c, ns, e, hS, hn, g, gP, hP, k⟩ := h
  cases e
  have B := L.B
  have hr1 := hr.mono (show 1 ≤ 80 by decide)
  have hr2 := hr.mono (show 2 ≤ 80 by decide)
  have hr8 := hr.mono (show 8 ≤ 80 by decide)
  have hr9 := hr.mono (show 9 ≤ 80 by decide)
  have hr11 := hr.mono (show 11 ≤ 80 by decide)
  have hr12 := hr.mono (show 12 ≤ 80 by decide)
  have hr14 := hr.mono (show 14 ≤ 80 by decide)
  have hr43 := hr.mono (show 43 ≤ 80 by decide)
  obtain ⟨t0, d0, r0⟩ := p0 (Pr := Pr) L b bP hsm f cdv s H hr
  refine ⟨_, (pss_cons (ps_set (i := 1) scLaw.nd rfl (.inl rfl) (pe_call (ok_deck L.deck.F B) hr1 (by rfl) L.deck.g L.deck.F.kp L.deck.b .nil pass0 (pa_cons (pv 0) pa_nil))) (pss_cons (ps_if (pt_cmpR op_ne (pe_callB (cr_reprE hsm rfl hr) (by rfl) B.repr (by decide +kernel) (pa_cons (pe_tup (pa_cons (pe_call (ok_width (ms := a.Ts) L.F b) hr11 (by rfl) L.F.width.g L.F.width.F.kp L.F.width.b .nil pass0 (pa_cons (pe_tup pa_nil) pa_nil)) (pa_cons (pe_call (ok_bound (ms := a.Ts) L.F b) hr11 (by rfl) L.F.bound.g L.F.bound.F.kp L.F.bound.b .nil pass0 (pa_cons (pe_tup pa_nil) pa_nil)) pa_nil))) pa_nil)) (pe_callB (cr_reprE hsm rfl hr) (by rfl) B.repr (by decide +kernel) (pa_cons (pe_tup (pa_cons (pe_tup pa_nil) (pa_cons (pe_tup pa_nil) pa_nil))) pa_nil)) (nomark _)) (pss_one (ps_ret pe_bl)) pss_nil) (pss_cons (ps_for PassesOwn.never rfl (pi_range1 (by rfl) B.range (pa_cons pe_int pa_nil)) (pg_name (i := 2) scLaw.nd rfl (.inl rfl)) d0) (pss_one (ps_ret pe_bl))))), ?_⟩
  refine ⟨_, rfl, c, ns, rfl, hS, hn, fun d l H1 D1 k1 nd nl => ?_⟩
  have g1 := g.kp0 k1
  have gp1 := gP.kp0 k1
  have I : LI a.Ts P0 d l H1 := ⟨D1, g1, gp1, ⟨g.nin nd, g.nin nl, hP⟩, (gP.ne List.mem_cons_self nd).symm, (gP.ne List.mem_cons_self nl).symm⟩
  have z : ∀ {G : Hp} {p : Addr}, G p = some (.tup []) → AnT G (.ref p) (.tuple (([] : List Fn).map fD)) := fun e ms => .tup e .nil
  refine ⟨Nat.zero_le _, fun z1 nz1 => ?_⟩
  replace I := I.new (o := .tup []) nz1
  refine ⟨_, [], rfl, z upd_same a.Ts, pb_nil.ok, pb_nil.w, trivial, I.ga, fun _ h => h, fun r1 ys1 qs1 G1 hr1' hA1 po1 gg1 kk1 => ?_⟩
  replace I := I.tab kk1 gg1
  have p1 : PolyAt G1 (.ref r1) qs1 := ⟨_, _, rfl, hr1', hA1⟩
  cases poly_nil po1
  refine ⟨Nat.zero_le _, fun z2 nz2 => ?_⟩
  have kz2 : Kp [] G1 (upd G1 z2 (.tup [])) := .new nz2
  replace I := I.kp0 kz2
  replace p1 := p1.kp kz2
  refine ⟨_, [], rfl, z upd_same a.Ts, pb_nil.ok, pb_nil.w, pb_nil.plain rfl, I.ga, fun _ h => h, fun r2 ys2 qs2 G2 hr2' hA2 po2 gg2 kk2 => ?_⟩
  replace I := I.tab kk2 gg2
  replace p1 := p1.kp kk2
  have p2 : PolyAt G2 (.ref r2) qs2 := ⟨_, _, rfl, hr2', hA2⟩
  cases poly_nil po2
  refine ⟨by show 2 ≤ sizeLine; decide, fun z3 nz3 => ?_⟩
  have kz3 : Kp [] G2 (upd G2 z3 (.tup [.ref r1, .ref r2])) := .new nz3
  replace I := I.kp0 kz3
  obtain ⟨T, hT⟩ : ∃ T, (PyData.tuple [.tuple (plyD []), .tuple (plyD [])]).shown = T := ⟨_, rfl⟩
  have sn : SmallP [] := ⟨.nil, fun q h => absurd h List.not_mem_nil⟩
  refine re_anT (polys_an (p1.kp kz3) (p2.kp kz3) upd_same) (two_good sn.good sn.good) (by decide) (by decide) hT ?_
  refine ⟨Nat.zero_le _, fun z4 nz4 => ?_⟩
  replace I := I.new (o := .tup []) nz4
  have e4 : (upd (upd G2 z3 (.tup [.ref r1, .ref r2])) z4 (.tup [])) z4 = some (.tup []) := upd_same
  generalize upd (upd G2 z3 (.tup [.ref r1, .ref r2])) z4 (.tup []) = G4 at I e4 ⊢
  refine ⟨Nat.zero_le _, fun z5 nz5 => ?_⟩
  have kz5 : Kp [] G4 (upd G4 z5 (.tup [])) := .new nz5
  have e5 : (upd G4 z5 (.tup [])) z5 = some (.tup []) := upd_same
  replace e4 := kz5.tup _ _ e4
  replace I := I.kp0 kz5
  generalize upd G4 z5 (.tup []) = G5 at I e4 e5 ⊢
  refine ⟨by show 2 ≤ sizeLine; decide, fun z6 nz6 => ?_⟩
  have kz6 : Kp [] G5 (upd G5 z6 (.tup [.ref z4, .ref z5])) := .new nz6
  refine re_anT (d := .tuple [.tuple (plyD []), .tuple (plyD [])]) (fun ms => .tup upd_same (.cons (.tup (kz6.tup _ _ e4) .nil) (.cons (.tup (kz6.tup _ _ e5) .nil) .nil))) (two_good sn.good sn.good) (by decide) (by decide) hT ?_
  refine ⟨rfl, _, rfl, iteNS rfl ?_⟩
  replace I := I.kp0 kz6
  refine ⟨3, rfl, by decide, by decide, ?_⟩
  refine for_range (lo := 0) (n := 3) (fun i σ G => ∃ (y2 y3 y4 y5 y6 y7 y8 y9 y10 y11 y12 y13 y14 : Option V), σ = [some (.ref c), some (.ref d), y2, y3, y4, y5, y6, y7, y8, y9, y10, y11, y12, y13, y14] ∧ LI a.Ts P0 d l G)
    ⟨_, _, _, _, _, _, _, _, _, _, _, _, _, rfl, I⟩ ?_ ?_
  · rintro i σ G hi ⟨y2, y3, y4, y5, y6, y7, y8, y9, y10, y11, y12, y13, y14, rfl, I2⟩
    exact r0 _ G d l (.ref c) i _ _ _ _ _ _ _ _ _ _ _ _ I2 (fun q2 q3 q4 q5 q6 q7 q8 q9 q10 q11 q12 q13 q14 G2 I3 => ⟨_, _, _, _, _, _, _, _, _, _, _, _, _, rfl, I3⟩) (fun q2 q3 q4 q5 q6 q7 q8 q9 q10 q11 q12 q13 q14 G2 I3 => ⟨_, _, _, _, _, _, _, _, _, _, _, _, _, rfl, I3⟩)
  · rintro σ G ⟨y2, y3, y4, y5, y6, y7, y8, y9, y10, y11, y12, y13, y14, rfl, I2⟩
    exact k G
end
end Ey
/-! ### the end -/
namespace Ey
open PySem PySem.Spec L2
/-- what the head tells of one def -/
structure DfK (K : PySem.W.Frag) (x : Str) (st : Stmt) (f : Addr) (oc kV dc pm cd ct : Value) (od an : Option Addr) (sl : Array (Option Value)) : Prop where
  a : PySem.W.nsIn K mainGlobals x = some (some (.ref f))
  l : K.lookup f = some ⟨oc, od, .func (PySem.W.fnOf x x (defArgs st) (defBody st) (defScope st) .none kV dc pm an cd ct), sl⟩
  c : PySem.W.codeIn K cd x = true
  k : PySem.W.keepIn K (.ref f) = true
theorem DfK.df {K : PySem.W.Frag} {x : Str} {st : Stmt} {f : Addr} {oc kV dc pm cd ct : Value} {od an : Option Addr} {sl : Array (Option Value)} {mg : Str → Option Value} {h : Heap} {ps : List Str} (e : DfK K x st f oc kV dc pm cd ct od an sl) (X : K.In h) (G : h.Ns mainGlobals mg)
    (hb : ∀ (kV doc pm : Value) (an : Option Addr) (cdv ct : Value) (us : List Value), us.length = ps.length → bindArgs (PySem.W.fnOf x x (defArgs st) (defBody st) (defScope st) .none kV doc pm an cdv ct) ⟨us, []⟩ = pure (ps.zip us)) :
    Df K mg x st ps f (PySem.W.fnOf x x (defArgs st) (defBody st) (defScope st) .none kV dc pm an cd ct) :=
  ⟨fun_mk e.l e.c e.k, (fun_mk e.l e.c e.k).binds hb, PySem.W.mg_of X G e.a⟩


abbrev sOwCh : Stmt := inClass (topS 4) 0
set_option maxHeartbeats 8000000 in
theorem all_mk {P : Program} {q : Program} {lo : List Str} {mean : ExcName → Option Value} {w : World} {K : PySem.W.Frag} {h : Heap} {mg mb : Str → Option Value} {fa : Addr} (X : K.In h) (T : PyProof.Rows.Top q lo mean mg mb h) (hfa : mg "law" = some (.ref fa))
    {c0 P0 c1 P1 c2 P2 c3 P3 c4 P4 : Addr} {dr0 dr1 dr2 dr3 dr4 : DefRec}
    {f7 f8 f12 f19 f20 f21 f22 f23 f24 f25 f28 f29 f30 f31 f32 f33 f34 f35 f36 f37 f38 f39 f40 f42 f43 f44 f45 f46 f47 f48 f49 f50 f52 f53 f54 f55 f56 f57 f58 f59 f60 f61 f62 f63 f64 f65 f66 f67 : Addr}
    {oc7 kV7 dc7 pm7 ct7 cd7 oc8 kV8 dc8 pm8 ct8 cd8 oc12 kV12 dc12 pm12 ct12 oc19 kV19 dc19 pm19 ct19 oc20 kV20 dc20 pm20 ct20 oc21 kV21 dc21 pm21 ct21 cd21 oc22 kV22 dc22 pm22 ct22 cd22 oc23 kV23 dc23 pm23 ct23 cd23 oc24 kV24 dc24 pm24 ct24 cd24 oc25 kV25 dc25 pm25 ct25 oc28 kV28 dc28 pm28 ct28 cd28 oc29 kV29 dc29 pm29 ct29 cd29 oc30 kV30 dc30 pm30 ct30 cd30 oc31 kV31 dc31 pm31 ct31 cd31 oc32 kV32 dc32 pm32 ct32 cd32 oc33 kV33 dc33 pm33 ct33 cd33 oc34 kV34 dc34 pm34 ct34 cd34 oc35 kV35 dc35 pm35 ct35 cd35 oc36 kV36 dc36 pm36 ct36 cd36 oc37 kV37 dc37 pm37 ct37 cd37 oc38 kV38 dc38 pm38 ct38 cd38 oc39 kV39 dc39 pm39 ct39 cd39 oc40 kV40 dc40 pm40 ct40 cd40 oc42 kV42 dc42 pm42 ct42 cd42 oc43 kV43 dc43 pm43 ct43 oc44 kV44 dc44 pm44 ct44 cd44 oc45 kV45 dc45 pm45 ct45 cd45 oc46 kV46 dc46 pm46 ct46 cd46 oc47 kV47 dc47 pm47 ct47 cd47 oc48 kV48 dc48 pm48 ct48 cd48 oc49 kV49 dc49 pm49 ct49 cd49 oc50 kV50 dc50 pm50 ct50 cd50 oc52 kV52 dc52 pm52 ct52 cd52 oc53 kV53 dc53 pm53 ct53 cd53 oc54 kV54 dc54 pm54 ct54 cd54 oc55 kV55 dc55 pm55 ct55 cd55 oc56 kV56 dc56 pm56 ct56 cd56 oc57 kV57 dc57 pm57 ct57 cd57 oc58 kV58 dc58 pm58 ct58 cd58 oc59 kV59 dc59 pm59 ct59 cd59 oc60 kV60 dc60 pm60 ct60 cd60 oc61 kV61 dc61 pm61 ct61 cd61 oc62 kV62 dc62 pm62 ct62 cd62 oc63 kV63 dc63 pm63 ct63 cd63 oc64 kV64 dc64 pm64 ct64 cd64 oc65 kV65 dc65 pm65 ct65 cd65 oc66 kV66 dc66 pm66 ct66 cd66 oc67 kV67 dc67 pm67 ct67 cd67 : Value}
    {od7 an7 od8 an8 od12 an12 od19 an19 od20 an20 od21 an21 od22 an22 od23 an23 od24 an24 od25 an25 od28 an28 od29 an29 od30 an30 od31 an31 od32 an32 od33 an33 od34 an34 od35 an35 od36 an36 od37 an37 od38 an38 od39 an39 od40 an40 od42 an42 od43 an43 od44 an44 od45 an45 od46 an46 od47 an47 od48 an48 od49 an49 od50 an50 od52 an52 od53 an53 od54 an54 od55 an55 od56 an56 od57 an57 od58 an58 od59 an59 od60 an60 od61 an61 od62 an62 od63 an63 od64 an64 od65 an65 od66 an66 od67 an67 : Option Addr}
    {sl7 sl8 sl12 sl19 sl20 sl21 sl22 sl23 sl24 sl25 sl28 sl29 sl30 sl31 sl32 sl33 sl34 sl35 sl36 sl37 sl38 sl39 sl40 sl42 sl43 sl44 sl45 sl46 sl47 sl48 sl49 sl50 sl52 sl53 sl54 sl55 sl56 sl57 sl58 sl59 sl60 sl61 sl62 sl63 sl64 sl65 sl66 sl67 : Array (Option Value)}
    {CE : Addr} {CCh fICh : Addr}
    {nmCh qCh : Str} {NCh : Addr} {bsCh : List Value} {snCh : List Str} {subCh : List Value} {abCh : Bool} {colCh : Option Bool} {ddCh : Option Addr} {mCh0 mCh1 mCh2 mCh3 mCh5 : Option Value} {ocCh dcCh pmCh cdCh ctCh : Value} {odCh anCh : Option Addr} {slCh : Array (Option Value)}
    (e7 : DfK K "is_plain_int" sPlain f7 oc7 kV7 dc7 pm7 cd7 ct7 od7 an7 sl7)
    (e8 : DfK K "is_natural" sNat f8 oc8 kV8 dc8 pm8 cd8 ct8 od8 an8 sl8)
    (e12 : DfK K "is_tag" sIsTag f12 oc12 kV12 dc12 pm12 (.ref c0) ct12 od12 an12 sl12)
    (e19 : DfK K "is_name" sIsName f19 oc19 kV19 dc19 pm19 (.ref c1) ct19 od19 an19 sl19)
    (e20 : DfK K "are_names" sAreNames f20 oc20 kV20 dc20 pm20 (.ref c2) ct20 od20 an20 sl20)
    (e21 : DfK K "parts_of" sPartsOf f21 oc21 kV21 dc21 pm21 cd21 ct21 od21 an21 sl21)
    (e22 : DfK K "is_headed" sIsHeaded f22 oc22 kV22 dc22 pm22 cd22 ct22 od22 an22 sl22)
    (e23 : DfK K "is_term" sIsTerm f23 oc23 kV23 dc23 pm23 cd23 ct23 od23 an23 sl23)
    (e24 : DfK K "is_function" sIsFunction f24 oc24 kV24 dc24 pm24 cd24 ct24 od24 an24 sl24)
    (e25 : DfK K "is_script" sIsScript f25 oc25 kV25 dc25 pm25 (.ref c3) ct25 od25 an25 sl25)
    (e28 : DfK K "first_functions" sFirst f28 oc28 kV28 dc28 pm28 cd28 ct28 od28 an28 sl28)
    (e29 : DfK K "kinds_within" sKinds f29 oc29 kV29 dc29 pm29 cd29 ct29 od29 an29 sl29)
    (e30 : DfK K "paths_within" sWays f30 oc30 kV30 dc30 pm30 cd30 ct30 od30 an30 sl30)
    (e31 : DfK K "own_kind" sOwn f31 oc31 kV31 dc31 pm31 cd31 ct31 od31 an31 sl31)
    (e32 : DfK K "faults_of_term" sFterm f32 oc32 kV32 dc32 pm32 cd32 ct32 od32 an32 sl32)
    (e33 : DfK K "faults_of_body" sFbody f33 oc33 kV33 dc33 pm33 cd33 ct33 od33 an33 sl33)
    (e34 : DfK K "names_twice" sTwice f34 oc34 kV34 dc34 pm34 cd34 ct34 od34 an34 sl34)
    (e35 : DfK K "faults_of" sFaults f35 oc35 kV35 dc35 pm35 cd35 ct35 od35 an35 sl35)
    (e36 : DfK K "is_program" sIsProg f36 oc36 kV36 dc36 pm36 cd36 ct36 od36 an36 sl36)
    (e37 : DfK K "check_program" sCheckP f37 oc37 kV37 dc37 pm37 cd37 ct37 od37 an37 sl37)
    (e38 : DfK K "chooses" sChooses f38 oc38 kV38 dc38 pm38 cd38 ct38 od38 an38 sl38)
    (e39 : DfK K "choosing_names" sChNames f39 oc39 kV39 dc39 pm39 cd39 ct39 od39 an39 sl39)
    (e40 : DfK K "check_without_choice" sWithout f40 oc40 kV40 dc40 pm40 cd40 ct40 od40 an40 sl40)
    (e42 : DfK K "is_pair" sPair f42 oc42 kV42 dc42 pm42 cd42 ct42 od42 an42 sl42)
    (e43 : DfK K "is_poly" sPoly f43 oc43 kV43 dc43 pm43 (.ref c4) ct43 od43 an43 sl43)
    (e44 : DfK K "power" sPower f44 oc44 kV44 dc44 pm44 cd44 ct44 od44 an44 sl44)
    (e45 : DfK K "value_at" sVal f45 oc45 kV45 dc45 pm45 cd45 ct45 od45 an45 sl45)
    (e46 : DfK K "poly_of" sPolyOf f46 oc46 kV46 dc46 pm46 cd46 ct46 od46 an46 sl46)
    (e47 : DfK K "width" sWidth f47 oc47 kV47 dc47 pm47 cd47 ct47 od47 an47 sl47)
    (e48 : DfK K "words_of" sWords f48 oc48 kV48 dc48 pm48 cd48 ct48 od48 an48 sl48)
    (e49 : DfK K "bound_of" sBoundOf f49 oc49 kV49 dc49 pm49 cd49 ct49 od49 an49 sl49)
    (e50 : DfK K "bound" sBound f50 oc50 kV50 dc50 pm50 cd50 ct50 od50 an50 sl50)
    (e52 : DfK K "_law_deck" sDeck f52 oc52 kV52 dc52 pm52 cd52 ct52 od52 an52 sl52)
    (e53 : DfK K "_law_draw" sDraw f53 oc53 kV53 dc53 pm53 cd53 ct53 od53 an53 sl53)
    (e54 : DfK K "_law_pick" sPick f54 oc54 kV54 dc54 pm54 cd54 ct54 od54 an54 sl54)
    (e55 : DfK K "_law_drawn_term" sDTerm f55 oc55 kV55 dc55 pm55 cd55 ct55 od55 an55 sl55)
    (e56 : DfK K "_law_led_body" sLed f56 oc56 kV56 dc56 pm56 cd56 ct56 od56 an56 sl56)
    (e57 : DfK K "_law_drawn_program" sDProg f57 oc57 kV57 dc57 pm57 cd57 ct57 od57 an57 sl57)
    (e58 : DfK K "_law_power" sLPower f58 oc58 kV58 dc58 pm58 cd58 ct58 od58 an58 sl58)
    (e59 : DfK K "_law_value_at" sLVal f59 oc59 kV59 dc59 pm59 cd59 ct59 od59 an59 sl59)
    (e60 : DfK K "_law_terms_in" sTIn f60 oc60 kV60 dc60 pm60 cd60 ct60 od60 an60 sl60)
    (e61 : DfK K "_law_summed" sSummed f61 oc61 kV61 dc61 pm61 cd61 ct61 od61 an61 sl61)
    (e62 : DfK K "_law_width" sLWidth f62 oc62 kV62 dc62 pm62 cd62 ct62 od62 an62 sl62)
    (e63 : DfK K "_law_bound" sLBound f63 oc63 kV63 dc63 pm63 cd63 ct63 od63 an63 sl63)
    (e64 : DfK K "_law_has_choice" sHasC f64 oc64 kV64 dc64 pm64 cd64 ct64 od64 an64 sl64)
    (e65 : DfK K "_law_choosing" sChoosing f65 oc65 kV65 dc65 pm65 cd65 ct65 od65 an65 sl65)
    (e66 : DfK K "_law_is_refused" sRefused f66 oc66 kV66 dc66 pm66 cd66 ct66 od66 an66 sl66)
    (e67 : DfK K "law" sLaw f67 oc67 kV67 dc67 pm67 cd67 ct67 od67 an67 sl67)
    (z_int : PySem.W.nsIn K mainGlobals "int" = some none)
    (z_max : PySem.W.nsIn K mainGlobals "max" = some none)
    (z_list : PySem.W.nsIn K mainGlobals "list" = some none)
    (z_len : PySem.W.nsIn K mainGlobals "len" = some none)
    (z_range : PySem.W.nsIn K mainGlobals "range" = some none)
    (z_tuple : PySem.W.nsIn K mainGlobals "tuple" = some none)
    (z_sorted : PySem.W.nsIn K mainGlobals "sorted" = some none)
    (z_repr : PySem.W.nsIn K mainGlobals "repr" = some none)
    (z_isi : PySem.W.nsIn K mainGlobals "isinstance" = some none)
    (z_str : PySem.W.nsIn K mainGlobals "str" = some none)
    (z_all : PySem.W.nsIn K mainGlobals "all" = some none)
    (z_bool : PySem.W.nsIn K mainGlobals "bool" = some none)
    (z_sum : PySem.W.nsIn K mainGlobals "sum" = some none)
    (z_min : PySem.W.nsIn K mainGlobals "min" = some none)
    (z_zip : PySem.W.nsIn K mainGlobals "zip" = some none)
    (z_enum : PySem.W.nsIn K mainGlobals "enumerate" = some none)
    (z_rev : PySem.W.nsIn K mainGlobals "reversed" = some none)
    (tb0 : PySem.W.tabIn K "is_tag" = some (c0, P0)) (rc0 : (PyProof.Rows.recsOf q).find? (fun e => e.name == ("is_tag" : Str)) = some dr0) (nT0 : K.lookup P0 = none)
    (tb1 : PySem.W.tabIn K "is_name" = some (c1, P1)) (rc1 : (PyProof.Rows.recsOf q).find? (fun e => e.name == ("is_name" : Str)) = some dr1) (nT1 : K.lookup P1 = none)
    (tb2 : PySem.W.tabIn K "are_names" = some (c2, P2)) (rc2 : (PyProof.Rows.recsOf q).find? (fun e => e.name == ("are_names" : Str)) = some dr2) (nT2 : K.lookup P2 = none)
    (tb3 : PySem.W.tabIn K "is_script" = some (c3, P3)) (rc3 : (PyProof.Rows.recsOf q).find? (fun e => e.name == ("is_script" : Str)) = some dr3) (nT3 : K.lookup P3 = none)
    (tb4 : PySem.W.tabIn K "is_poly" = some (c4, P4)) (rc4 : (PyProof.Rows.recsOf q).find? (fun e => e.name == ("is_poly" : Str)) = some dr4) (nT4 : K.lookup P4 = none)
    {tL : Tok}
    (gL : PySem.W.nsIn K mainGlobals "LETTERS" = some (some (.str "abcdefghijklmnopqrstuvwxyz" tL)))
    {tT : Tok}
    (gT : PySem.W.nsIn K mainGlobals "TAG_LENGTH" = some (some (.int 8 tT)))
    {tN : Tok}
    (gN : PySem.W.nsIn K mainGlobals "NAME_SIGNS" = some (some (.str "abcdefghijklmnopqrstuvwxyz0123456789_" tN)))
    {tM : Tok}
    (gM : PySem.W.nsIn K mainGlobals "NAME_LENGTH" = some (some (.int 20 tM)))
    {aW : Addr} {odW : Option Addr} {itW : Array Value} {nW : Nat} {slW : Array (Option Value)}
    (gW : PySem.W.nsIn K mainGlobals "WORDS" = some (some (.ref aW)))
    (lW : K.lookup aW = some ⟨.type "tuple", odW, .seq itW nW, slW⟩)
    (vW : Vals (wordsL.map V.str) itW.toList)
    (yW : itW.size ≤ sizeLine)
    {aK : Addr} {odK : Option Addr} {itK : Array Value} {nK : Nat} {slK : Array (Option Value)}
    (gK : PySem.W.nsIn K mainGlobals "KINDS" = some (some (.ref aK)))
    (lK : K.lookup aK = some ⟨.type "tuple", odK, .seq itK nK, slK⟩)
    (vK : Vals (kindsL.map V.str) itK.toList)
    (yK : itK.size ≤ sizeLine)
    {aS : Addr} {esS : Array DictEntry} {nS : Nat} {tsS0 tsS1 tsS2 tsS3 tsS4 tsS5 tsS6 tsS7 tsS8 tsS9 tsS10 tsS11 tsS12 : Tok}
    (gS : PySem.W.nsIn K mainGlobals "PLAIN_SHAPES" = some (some (.ref aS)))
    (lS : K.lookup aS = some ⟨.type "dict", none, .dict esS nS, #[]⟩)
    (kS : PySem.W.KeysLit w.params esS.toList)
    (sS : (aS == sysModules) = false)
    (mS : esS.toList.map keyS = (shapes.map (·.1)).map some)
    (sgS0 : PySem.W.nsIn K aS "top" = some (some (.int 0 tsS0)))
    (sgS1 : PySem.W.nsIn K aS "yes" = some (some (.int 0 tsS1)))
    (sgS2 : PySem.W.nsIn K aS "no" = some (some (.int 0 tsS2)))
    (sgS3 : PySem.W.nsIn K aS "left" = some (some (.int 1 tsS3)))
    (sgS4 : PySem.W.nsIn K aS "right" = some (some (.int 1 tsS4)))
    (sgS5 : PySem.W.nsIn K aS "up" = some (some (.int 1 tsS5)))
    (sgS6 : PySem.W.nsIn K aS "empty" = some (some (.int 1 tsS6)))
    (sgS7 : PySem.W.nsIn K aS "not" = some (some (.int 1 tsS7)))
    (sgS8 : PySem.W.nsIn K aS "same" = some (some (.int 2 tsS8)))
    (sgS9 : PySem.W.nsIn K aS "and" = some (some (.int 2 tsS9)))
    (sgS10 : PySem.W.nsIn K aS "or" = some (some (.int 2 tsS10)))
    (sgS11 : PySem.W.nsIn K aS "either" = some (some (.int 2 tsS11)))
    (sgS12 : PySem.W.nsIn K aS "if" = some (some (.int 3 tsS12)))
    {aO : Addr} {esO : Array DictEntry} {nO : Nat} {tsO0 tsO1 tsO2 tsO3 tsO4 tsO5 tsO6 tsO7 tsO8 tsO9 tsO10 tsO11 tsO12 : Tok}
    (gO : PySem.W.nsIn K mainGlobals "OWN_KINDS" = some (some (.ref aO)))
    (lO : K.lookup aO = some ⟨.type "dict", none, .dict esO nO, #[]⟩)
    (kO : PySem.W.KeysLit w.params esO.toList)
    (sO : (aO == sysModules) = false)
    (sgO0 : PySem.W.nsIn K aO "name" = some (some (.str "place" tsO0)))
    (sgO1 : PySem.W.nsIn K aO "top" = some (some (.str "place" tsO1)))
    (sgO2 : PySem.W.nsIn K aO "left" = some (some (.str "place" tsO2)))
    (sgO3 : PySem.W.nsIn K aO "right" = some (some (.str "place" tsO3)))
    (sgO4 : PySem.W.nsIn K aO "up" = some (some (.str "place" tsO4)))
    (sgO5 : PySem.W.nsIn K aO "yes" = some (some (.str "truth" tsO5)))
    (sgO6 : PySem.W.nsIn K aO "no" = some (some (.str "truth" tsO6)))
    (sgO7 : PySem.W.nsIn K aO "has" = some (some (.str "truth" tsO7)))
    (sgO8 : PySem.W.nsIn K aO "empty" = some (some (.str "truth" tsO8)))
    (sgO9 : PySem.W.nsIn K aO "same" = some (some (.str "truth" tsO9)))
    (sgO10 : PySem.W.nsIn K aO "not" = some (some (.str "truth" tsO10)))
    (sgO11 : PySem.W.nsIn K aO "and" = some (some (.str "truth" tsO11)))
    (sgO12 : PySem.W.nsIn K aO "or" = some (some (.str "truth" tsO12)))
    (snO0 : PySem.W.nsIn K aO "if" = some none)
    (snO1 : PySem.W.nsIn K aO "either" = some none)
    (aE : PySem.W.nsIn K mainGlobals "EyesError" = some (some (.ref CE)))
    (eE : PySem.W.subIn K (.ref CE) (.type "BaseException") = some true)
    (tE : PySem.W.typeIn K (.ref CE) = some (.type "type"))
    (hE : PySem.W.hasDictIn K CE = true)
    (spB : PySem.W.specialIn K (.builtin "object.__class__") "__get__" = some (some (.builtin "getset_descriptor.__get__")))
    (tkB : PySem.W.takesIn K (.builtin "object.__class__") = some true)
    (aCh : PySem.W.nsIn K mainGlobals "Choosing" = some (some (.ref CCh)))
    (xCh : K.lookup CCh = some (excClassObj nmCh qCh CCh NCh bsCh [.ref CE, .type "Exception", .type "BaseException", .type "object"] true snCh subCh abCh colCh ddCh mCh0 mCh1 mCh2 mCh3 mCh5 "Exception.__new__"))
    (saCh : PySem.W.findIn K (.ref CCh) "__setattr__" = some (some (.builtin "object.__setattr__")))
    (gaCh : PySem.W.findIn K (.ref CCh) "__getattribute__" = some (some (.builtin "BaseException.__getattribute__")))
    (ggCh : PySem.W.findIn K (.ref CCh) "__getattr__" = some none)
    (nbCh : PySem.W.findIn K (.ref CCh) "thing" = some none)
    (a1Ch : PySem.W.findIn K (.ref CCh) "__init__" = some (some (.ref fICh)))
    (t1Ch : PySem.W.typeIn K (.ref fICh) = some (.type "function"))
    (l1Ch : K.lookup fICh = some ⟨ocCh, odCh, .func (PySem.W.fnOf "__init__" "Choosing.__init__" (defArgs sOwCh) (defBody sOwCh) (defScope sOwCh) .none .none dcCh pmCh anCh cdCh ctCh), slCh⟩)
    (c1Ch : PySem.W.codeIn K cdCh "Choosing.__init__" = true)
    (kCh : PySem.W.keepIn K (.ref CCh) = true)
    (eCh : PySem.W.subIn K (.ref CCh) (.type "BaseException") = some true)
    (tCh : PySem.W.typeIn K (.ref CCh) = some (.type "type"))
    (hCh : PySem.W.hasDictIn K CCh = true)
    (sCh : PySem.W.subIn K (.ref CCh) (.ref CCh) = some true)
    (sECh : PySem.W.subIn K (.ref CCh) (.ref CE) = some true)
    (clCh : PySem.W.findIn K (.ref CCh) "__class__" = some (some (.builtin "object.__class__")))
    (moCh : PySem.W.mroIn K CCh (.type "object") = some true)
    (kECh : PySem.W.kitOne K (.ref CCh) (.ref CE) = some true)
    (hPL : P4 ∉ [P0, P1, P2, P3])
    :
    ∃ (fd : FuncData) (cs : List (Addr × Addr)) (sp : Sp), Tabs K h cs ∧ (∀ (s : Shared) (u : Value), BindsTo s fd ⟨[u], []⟩ [("_law_script", u)]) ∧
      (∀ (H : Hp) (a : Addr) (ns : List Int), ns.length ≤ 63 → (∀ p ∈ cs, H p.2 = some (.tbl #[])) → SqL K H a (ns.map V.int) → sp [.ref a] H (fun v _ => v = .bl true) L2.E0) ∧
      ∀ base : Heap, K.In base → base.Ns mainGlobals mg → (∀ p ∈ cs, GxR.TabB base mg p.1 p.2) → (∃ mm, base.Ns sysModules mm) → LawOk P w K mg base fa fd "_law_script" sp := by
  have G := T.g
  have e := hfa.symm.trans (PySem.W.mg_of X G e67.a)
  cases e
  obtain ⟨hd0, tq0⟩ := PySem.W.tab_of T X rc0 tb0
  obtain ⟨hd1, tq1⟩ := PySem.W.tab_of T X rc1 tb1
  obtain ⟨hd2, tq2⟩ := PySem.W.tab_of T X rc2 tb2
  obtain ⟨hd3, tq3⟩ := PySem.W.tab_of T X rc3 tb3
  obtain ⟨hd4, tq4⟩ := PySem.W.tab_of T X rc4 tb4
  have B : BI mg := ⟨PySem.W.mg_none_of X G z_int, PySem.W.mg_none_of X G z_max, PySem.W.mg_none_of X G z_list, PySem.W.mg_none_of X G z_len, PySem.W.mg_none_of X G z_range, PySem.W.mg_none_of X G z_tuple, PySem.W.mg_none_of X G z_sorted, PySem.W.mg_none_of X G z_repr, PySem.W.mg_none_of X G z_isi, PySem.W.mg_none_of X G z_str, PySem.W.mg_none_of X G z_all, PySem.W.mg_none_of X G z_bool, PySem.W.mg_none_of X G z_sum, PySem.W.mg_none_of X G z_min, PySem.W.mg_none_of X G z_zip, PySem.W.mg_none_of X G z_enum, PySem.W.mg_none_of X G z_rev⟩
  have D7 := e7.df (ps := ["thing"]) X G fun _ _ _ _ _ _ us hl => match us, hl with | [_], _ => rfl
  have D8 := e8.df (ps := ["thing"]) X G fun _ _ _ _ _ _ us hl => match us, hl with | [_], _ => rfl
  have D12 := e12.df (ps := ["thing"]) X G fun _ _ _ _ _ _ us hl => match us, hl with | [_], _ => rfl
  have D19 := e19.df (ps := ["thing"]) X G fun _ _ _ _ _ _ us hl => match us, hl with | [_], _ => rfl
  have D20 := e20.df (ps := ["thing"]) X G fun _ _ _ _ _ _ us hl => match us, hl with | [_], _ => rfl
  have D21 := e21.df (ps := ["term"]) X G fun _ _ _ _ _ _ us hl => match us, hl with | [_], _ => rfl
  have D22 := e22.df (ps := ["thing"]) X G fun _ _ _ _ _ _ us hl => match us, hl with | [_], _ => rfl
  have D23 := e23.df (ps := ["thing"]) X G fun _ _ _ _ _ _ us hl => match us, hl with | [_], _ => rfl
  have D24 := e24.df (ps := ["thing"]) X G fun _ _ _ _ _ _ us hl => match us, hl with | [_], _ => rfl
  have D25 := e25.df (ps := ["thing"]) X G fun _ _ _ _ _ _ us hl => match us, hl with | [_], _ => rfl
  have D28 := e28.df (ps := ["script"]) X G fun _ _ _ _ _ _ us hl => match us, hl with | [_], _ => rfl
  have D29 := e29.df (ps := ["term", "kind"]) X G fun _ _ _ _ _ _ us hl => match us, hl with | [_, _], _ => rfl
  have D30 := e30.df (ps := ["term"]) X G fun _ _ _ _ _ _ us hl => match us, hl with | [_], _ => rfl
  have D31 := e31.df (ps := ["term", "first"]) X G fun _ _ _ _ _ _ us hl => match us, hl with | [_, _], _ => rfl
  have D32 := e32.df (ps := ["term", "kind", "names", "first"]) X G fun _ _ _ _ _ _ us hl => match us, hl with | [_, _, _, _], _ => rfl
  have D33 := e33.df (ps := ["function", "path", "first"]) X G fun _ _ _ _ _ _ us hl => match us, hl with | [_, _, _], _ => rfl
  have D34 := e34.df (ps := ["script"]) X G fun _ _ _ _ _ _ us hl => match us, hl with | [_], _ => rfl
  have D35 := e35.df (ps := ["script"]) X G fun _ _ _ _ _ _ us hl => match us, hl with | [_], _ => rfl
  have D36 := e36.df (ps := ["thing"]) X G fun _ _ _ _ _ _ us hl => match us, hl with | [_], _ => rfl
  have D37 := e37.df (ps := ["program"]) X G fun _ _ _ _ _ _ us hl => match us, hl with | [_], _ => rfl
  have D38 := e38.df (ps := ["term"]) X G fun _ _ _ _ _ _ us hl => match us, hl with | [_], _ => rfl
  have D39 := e39.df (ps := ["program"]) X G fun _ _ _ _ _ _ us hl => match us, hl with | [_], _ => rfl
  have D40 := e40.df (ps := ["program"]) X G fun _ _ _ _ _ _ us hl => match us, hl with | [_], _ => rfl
  have D42 := e42.df (ps := ["thing"]) X G fun _ _ _ _ _ _ us hl => match us, hl with | [_], _ => rfl
  have D43 := e43.df (ps := ["thing"]) X G fun _ _ _ _ _ _ us hl => match us, hl with | [_], _ => rfl
  have D44 := e44.df (ps := ["base", "exponent"]) X G fun _ _ _ _ _ _ us hl => match us, hl with | [_, _], _ => rfl
  have D45 := e45.df (ps := ["poly", "number"]) X G fun _ _ _ _ _ _ us hl => match us, hl with | [_, _], _ => rfl
  have D46 := e46.df (ps := ["pairs"]) X G fun _ _ _ _ _ _ us hl => match us, hl with | [_], _ => rfl
  have D47 := e47.df (ps := ["program"]) X G fun _ _ _ _ _ _ us hl => match us, hl with | [_], _ => rfl
  have D48 := e48.df (ps := ["term"]) X G fun _ _ _ _ _ _ us hl => match us, hl with | [_], _ => rfl
  have D49 := e49.df (ps := ["function"]) X G fun _ _ _ _ _ _ us hl => match us, hl with | [_], _ => rfl
  have D50 := e50.df (ps := ["program"]) X G fun _ _ _ _ _ _ us hl => match us, hl with | [_], _ => rfl
  have D52 := e52.df (ps := ["_law_script"]) X G fun _ _ _ _ _ _ us hl => match us, hl with | [_], _ => rfl
  have D53 := e53.df (ps := ["_law_deck_here", "_law_many"]) X G fun _ _ _ _ _ _ us hl => match us, hl with | [_, _], _ => rfl
  have D54 := e54.df (ps := ["_law_deck_here", "_law_some"]) X G fun _ _ _ _ _ _ us hl => match us, hl with | [_, _], _ => rfl
  have D55 := e55.df (ps := ["_law_deck_here", "_law_world", "_law_kind", "_law_deep"]) X G fun _ _ _ _ _ _ us hl => match us, hl with | [_, _, _, _], _ => rfl
  have D56 := e56.df (ps := ["_law_deck_here", "_law_names", "_law_kind", "_law_funs", "_law_own"]) X G fun _ _ _ _ _ _ us hl => match us, hl with | [_, _, _, _, _], _ => rfl
  have D57 := e57.df (ps := ["_law_deck_here", "_law_most", "_law_has_choice_here"]) X G fun _ _ _ _ _ _ us hl => match us, hl with | [_, _, _], _ => rfl
  have D58 := e58.df (ps := ["_law_m", "_law_many"]) X G fun _ _ _ _ _ _ us hl => match us, hl with | [_, _], _ => rfl
  have D59 := e59.df (ps := ["_law_poly", "_law_m"]) X G fun _ _ _ _ _ _ us hl => match us, hl with | [_, _], _ => rfl
  have D60 := e60.df (ps := ["_law_term"]) X G fun _ _ _ _ _ _ us hl => match us, hl with | [_], _ => rfl
  have D61 := e61.df (ps := ["_law_some"]) X G fun _ _ _ _ _ _ us hl => match us, hl with | [_], _ => rfl
  have D62 := e62.df (ps := ["_law_program"]) X G fun _ _ _ _ _ _ us hl => match us, hl with | [_], _ => rfl
  have D63 := e63.df (ps := ["_law_program"]) X G fun _ _ _ _ _ _ us hl => match us, hl with | [_], _ => rfl
  have D64 := e64.df (ps := ["_law_term"]) X G fun _ _ _ _ _ _ us hl => match us, hl with | [_], _ => rfl
  have D65 := e65.df (ps := ["_law_program"]) X G fun _ _ _ _ _ _ us hl => match us, hl with | [_], _ => rfl
  have D66 := e66.df (ps := ["_law_program", "_law_name"]) X G fun _ _ _ _ _ _ us hl => match us, hl with | [_, _], _ => rfl
  have D67 := e67.df (ps := ["_law_script"]) X G fun _ _ _ _ _ _ us hl => match us, hl with | [_], _ => rfl
  have DT12 : DfT K mg "is_tag" sIsTag ["thing"] f12 _ c0 := ⟨D12, _, _, _, _, _, _, _, _, rfl, e12.l, e12.c⟩
  have DT19 : DfT K mg "is_name" sIsName ["thing"] f19 _ c1 := ⟨D19, _, _, _, _, _, _, _, _, rfl, e19.l, e19.c⟩
  have DT20 : DfT K mg "are_names" sAreNames ["thing"] f20 _ c2 := ⟨D20, _, _, _, _, _, _, _, _, rfl, e20.l, e20.c⟩
  have DT25 : DfT K mg "is_script" sIsScript ["thing"] f25 _ c3 := ⟨D25, _, _, _, _, _, _, _, _, rfl, e25.l, e25.c⟩
  have DT43 : DfT K mg "is_poly" sPoly ["thing"] f43 _ c4 := ⟨D43, _, _, _, _, _, _, _, _, rfl, e43.l, e43.c⟩
  have btCh : PySem.ChoosingX.ChoosingTxt K mg CCh fICh :=
    { gC := PySem.W.mg_of X G aCh, cls := ⟨nmCh, qCh, NCh, bsCh, _, snCh, subCh, abCh, colCh, ddCh, mCh0, mCh1, mCh2, mCh3, mCh5, xCh, rfl⟩, sa := saCh, ga := gaCh, gg := ggCh, noN := nbCh, iC := a1Ch, tC := t1Ch, kC := kCh, exC := eCh, tyC := tCh, hdC := hCh, te := PySem.W.exm_ref eCh hCh tCh sCh,
      fn := ⟨ocCh, odCh, dcCh, pmCh, anCh, cdCh, ctCh, slCh, _, _, _, _, _, _, l1Ch, c1Ch⟩ }
  have syCh : PySem.OwE.SaysC K CCh := ⟨gaCh, ggCh, eCh, hCh, clCh, spB, tkB, moCh⟩
  let AA : Nat → Addr := fun i => match i with
    | 7 => f7
    | 8 => f8
    | 12 => f12
    | 19 => f19
    | 20 => f20
    | 21 => f21
    | 22 => f22
    | 23 => f23
    | 24 => f24
    | 25 => f25
    | 28 => f28
    | 29 => f29
    | 30 => f30
    | 31 => f31
    | 32 => f32
    | 33 => f33
    | 34 => f34
    | 35 => f35
    | 36 => f36
    | 37 => f37
    | 38 => f38
    | 39 => f39
    | 40 => f40
    | 42 => f42
    | 43 => f43
    | 44 => f44
    | 45 => f45
    | 46 => f46
    | 47 => f47
    | 48 => f48
    | 49 => f49
    | 50 => f50
    | 52 => f52
    | 53 => f53
    | 54 => f54
    | 55 => f55
    | 56 => f56
    | 57 => f57
    | 58 => f58
    | 59 => f59
    | 60 => f60
    | 61 => f61
    | 62 => f62
    | 63 => f63
    | 64 => f64
    | 65 => f65
    | 66 => f66
    | _ => 0
  let DD : Nat → FuncData := fun i => match i with
    | 7 => PySem.W.fnOf "is_plain_int" "is_plain_int" (defArgs sPlain) (defBody sPlain) (defScope sPlain) .none kV7 dc7 pm7 an7 cd7 ct7
    | 8 => PySem.W.fnOf "is_natural" "is_natural" (defArgs sNat) (defBody sNat) (defScope sNat) .none kV8 dc8 pm8 an8 cd8 ct8
    | 12 => PySem.W.fnOf "is_tag" "is_tag" (defArgs sIsTag) (defBody sIsTag) (defScope sIsTag) .none kV12 dc12 pm12 an12 (.ref c0) ct12
    | 19 => PySem.W.fnOf "is_name" "is_name" (defArgs sIsName) (defBody sIsName) (defScope sIsName) .none kV19 dc19 pm19 an19 (.ref c1) ct19
    | 20 => PySem.W.fnOf "are_names" "are_names" (defArgs sAreNames) (defBody sAreNames) (defScope sAreNames) .none kV20 dc20 pm20 an20 (.ref c2) ct20
    | 21 => PySem.W.fnOf "parts_of" "parts_of" (defArgs sPartsOf) (defBody sPartsOf) (defScope sPartsOf) .none kV21 dc21 pm21 an21 cd21 ct21
    | 22 => PySem.W.fnOf "is_headed" "is_headed" (defArgs sIsHeaded) (defBody sIsHeaded) (defScope sIsHeaded) .none kV22 dc22 pm22 an22 cd22 ct22
    | 23 => PySem.W.fnOf "is_term" "is_term" (defArgs sIsTerm) (defBody sIsTerm) (defScope sIsTerm) .none kV23 dc23 pm23 an23 cd23 ct23
    | 24 => PySem.W.fnOf "is_function" "is_function" (defArgs sIsFunction) (defBody sIsFunction) (defScope sIsFunction) .none kV24 dc24 pm24 an24 cd24 ct24
    | 25 => PySem.W.fnOf "is_script" "is_script" (defArgs sIsScript) (defBody sIsScript) (defScope sIsScript) .none kV25 dc25 pm25 an25 (.ref c3) ct25
    | 28 => PySem.W.fnOf "first_functions" "first_functions" (defArgs sFirst) (defBody sFirst) (defScope sFirst) .none kV28 dc28 pm28 an28 cd28 ct28
    | 29 => PySem.W.fnOf "kinds_within" "kinds_within" (defArgs sKinds) (defBody sKinds) (defScope sKinds) .none kV29 dc29 pm29 an29 cd29 ct29
    | 30 => PySem.W.fnOf "paths_within" "paths_within" (defArgs sWays) (defBody sWays) (defScope sWays) .none kV30 dc30 pm30 an30 cd30 ct30
    | 31 => PySem.W.fnOf "own_kind" "own_kind" (defArgs sOwn) (defBody sOwn) (defScope sOwn) .none kV31 dc31 pm31 an31 cd31 ct31
    | 32 => PySem.W.fnOf "faults_of_term" "faults_of_term" (defArgs sFterm) (defBody sFterm) (defScope sFterm) .none kV32 dc32 pm32 an32 cd32 ct32
    | 33 => PySem.W.fnOf "faults_of_body" "faults_of_body" (defArgs sFbody) (defBody sFbody) (defScope sFbody) .none kV33 dc33 pm33 an33 cd33 ct33
    | 34 => PySem.W.fnOf "names_twice" "names_twice" (defArgs sTwice) (defBody sTwice) (defScope sTwice) .none kV34 dc34 pm34 an34 cd34 ct34
    | 35 => PySem.W.fnOf "faults_of" "faults_of" (defArgs sFaults) (defBody sFaults) (defScope sFaults) .none kV35 dc35 pm35 an35 cd35 ct35
    | 36 => PySem.W.fnOf "is_program" "is_program" (defArgs sIsProg) (defBody sIsProg) (defScope sIsProg) .none kV36 dc36 pm36 an36 cd36 ct36
    | 37 => PySem.W.fnOf "check_program" "check_program" (defArgs sCheckP) (defBody sCheckP) (defScope sCheckP) .none kV37 dc37 pm37 an37 cd37 ct37
    | 38 => PySem.W.fnOf "chooses" "chooses" (defArgs sChooses) (defBody sChooses) (defScope sChooses) .none kV38 dc38 pm38 an38 cd38 ct38
    | 39 => PySem.W.fnOf "choosing_names" "choosing_names" (defArgs sChNames) (defBody sChNames) (defScope sChNames) .none kV39 dc39 pm39 an39 cd39 ct39
    | 40 => PySem.W.fnOf "check_without_choice" "check_without_choice" (defArgs sWithout) (defBody sWithout) (defScope sWithout) .none kV40 dc40 pm40 an40 cd40 ct40
    | 42 => PySem.W.fnOf "is_pair" "is_pair" (defArgs sPair) (defBody sPair) (defScope sPair) .none kV42 dc42 pm42 an42 cd42 ct42
    | 43 => PySem.W.fnOf "is_poly" "is_poly" (defArgs sPoly) (defBody sPoly) (defScope sPoly) .none kV43 dc43 pm43 an43 (.ref c4) ct43
    | 44 => PySem.W.fnOf "power" "power" (defArgs sPower) (defBody sPower) (defScope sPower) .none kV44 dc44 pm44 an44 cd44 ct44
    | 45 => PySem.W.fnOf "value_at" "value_at" (defArgs sVal) (defBody sVal) (defScope sVal) .none kV45 dc45 pm45 an45 cd45 ct45
    | 46 => PySem.W.fnOf "poly_of" "poly_of" (defArgs sPolyOf) (defBody sPolyOf) (defScope sPolyOf) .none kV46 dc46 pm46 an46 cd46 ct46
    | 47 => PySem.W.fnOf "width" "width" (defArgs sWidth) (defBody sWidth) (defScope sWidth) .none kV47 dc47 pm47 an47 cd47 ct47
    | 48 => PySem.W.fnOf "words_of" "words_of" (defArgs sWords) (defBody sWords) (defScope sWords) .none kV48 dc48 pm48 an48 cd48 ct48
    | 49 => PySem.W.fnOf "bound_of" "bound_of" (defArgs sBoundOf) (defBody sBoundOf) (defScope sBoundOf) .none kV49 dc49 pm49 an49 cd49 ct49
    | 50 => PySem.W.fnOf "bound" "bound" (defArgs sBound) (defBody sBound) (defScope sBound) .none kV50 dc50 pm50 an50 cd50 ct50
    | 52 => PySem.W.fnOf "_law_deck" "_law_deck" (defArgs sDeck) (defBody sDeck) (defScope sDeck) .none kV52 dc52 pm52 an52 cd52 ct52
    | 53 => PySem.W.fnOf "_law_draw" "_law_draw" (defArgs sDraw) (defBody sDraw) (defScope sDraw) .none kV53 dc53 pm53 an53 cd53 ct53
    | 54 => PySem.W.fnOf "_law_pick" "_law_pick" (defArgs sPick) (defBody sPick) (defScope sPick) .none kV54 dc54 pm54 an54 cd54 ct54
    | 55 => PySem.W.fnOf "_law_drawn_term" "_law_drawn_term" (defArgs sDTerm) (defBody sDTerm) (defScope sDTerm) .none kV55 dc55 pm55 an55 cd55 ct55
    | 56 => PySem.W.fnOf "_law_led_body" "_law_led_body" (defArgs sLed) (defBody sLed) (defScope sLed) .none kV56 dc56 pm56 an56 cd56 ct56
    | 57 => PySem.W.fnOf "_law_drawn_program" "_law_drawn_program" (defArgs sDProg) (defBody sDProg) (defScope sDProg) .none kV57 dc57 pm57 an57 cd57 ct57
    | 58 => PySem.W.fnOf "_law_power" "_law_power" (defArgs sLPower) (defBody sLPower) (defScope sLPower) .none kV58 dc58 pm58 an58 cd58 ct58
    | 59 => PySem.W.fnOf "_law_value_at" "_law_value_at" (defArgs sLVal) (defBody sLVal) (defScope sLVal) .none kV59 dc59 pm59 an59 cd59 ct59
    | 60 => PySem.W.fnOf "_law_terms_in" "_law_terms_in" (defArgs sTIn) (defBody sTIn) (defScope sTIn) .none kV60 dc60 pm60 an60 cd60 ct60
    | 61 => PySem.W.fnOf "_law_summed" "_law_summed" (defArgs sSummed) (defBody sSummed) (defScope sSummed) .none kV61 dc61 pm61 an61 cd61 ct61
    | 62 => PySem.W.fnOf "_law_width" "_law_width" (defArgs sLWidth) (defBody sLWidth) (defScope sLWidth) .none kV62 dc62 pm62 an62 cd62 ct62
    | 63 => PySem.W.fnOf "_law_bound" "_law_bound" (defArgs sLBound) (defBody sLBound) (defScope sLBound) .none kV63 dc63 pm63 an63 cd63 ct63
    | 64 => PySem.W.fnOf "_law_has_choice" "_law_has_choice" (defArgs sHasC) (defBody sHasC) (defScope sHasC) .none kV64 dc64 pm64 an64 cd64 ct64
    | 65 => PySem.W.fnOf "_law_choosing" "_law_choosing" (defArgs sChoosing) (defBody sChoosing) (defScope sChoosing) .none kV65 dc65 pm65 an65 cd65 ct65
    | 66 => PySem.W.fnOf "_law_is_refused" "_law_is_refused" (defArgs sRefused) (defBody sRefused) (defScope sRefused) .none kV66 dc66 pm66 an66 cd66 ct66
    | _ => PySem.W.fnOf "law" "law" (defArgs sLaw) (defBody sLaw) (defScope sLaw) .none kV67 dc67 pm67 an67 cd67 ct67
  have sG : ∀ p ∈ shapes, ∃ t, PySem.W.nsIn K aS p.1 = some (some (.int (p.2 : Int) t)) := by
    intro p hp
    simp only [shapes, List.mem_cons, List.not_mem_nil, or_false] at hp
    rcases hp with rfl | rfl | rfl | rfl | rfl | rfl | rfl | rfl | rfl | rfl | rfl | rfl | rfl
    · exact ⟨_, sgS0⟩
    · exact ⟨_, sgS1⟩
    · exact ⟨_, sgS2⟩
    · exact ⟨_, sgS3⟩
    · exact ⟨_, sgS4⟩
    · exact ⟨_, sgS5⟩
    · exact ⟨_, sgS6⟩
    · exact ⟨_, sgS7⟩
    · exact ⟨_, sgS8⟩
    · exact ⟨_, sgS9⟩
    · exact ⟨_, sgS10⟩
    · exact ⟨_, sgS11⟩
    · exact ⟨_, sgS12⟩
  have oG : ∀ p ∈ ownT, ∃ t, PySem.W.nsIn K aO p.1 = some (some (.str p.2 t)) := by
    intro p hp
    simp only [ownT, List.mem_cons, List.not_mem_nil, or_false] at hp
    rcases hp with rfl | rfl | rfl | rfl | rfl | rfl | rfl | rfl | rfl | rfl | rfl | rfl | rfl
    · exact ⟨_, sgO0⟩
    · exact ⟨_, sgO1⟩
    · exact ⟨_, sgO2⟩
    · exact ⟨_, sgO3⟩
    · exact ⟨_, sgO4⟩
    · exact ⟨_, sgO5⟩
    · exact ⟨_, sgO6⟩
    · exact ⟨_, sgO7⟩
    · exact ⟨_, sgO8⟩
    · exact ⟨_, sgO9⟩
    · exact ⟨_, sgO10⟩
    · exact ⟨_, sgO11⟩
    · exact ⟨_, sgO12⟩
  have oN : ∀ x ∈ (["if", "either"] : List Str), PySem.W.nsIn K aO x = some none := by
    intro x hx
    simp only [List.mem_cons, List.not_mem_nil, or_false] at hx
    rcases hx with rfl | rfl
    · exact snO0
    · exact snO1
  let ad : Adr := ⟨AA, DD, c0, P0, c1, P1, c2, P2, c3, P3, aW, aK, aS⟩
  have Fp : PF K w mg ad := ⟨B, DT12, DT19, DT20, D21, D22, D23, D24, DT25, ⟨tL, PySem.W.mg_of X G gL⟩, ⟨tT, PySem.W.mg_of X G gT⟩, ⟨tN, PySem.W.mg_of X G gN⟩, ⟨tM, PySem.W.mg_of X G gM⟩, ⟨PySem.W.mg_of X G gW, _, _, _, lW, rfl, rfl, yW, vW⟩, ⟨PySem.W.mg_of X G gK, _, _, _, lK, rfl, rfl, yK, vK⟩, PySem.W.mg_of X G gS, ⟨esS, nS, ⟨lS, kS, sS⟩, mS⟩, sG⟩
  have Fk : KF K w mg ad aO := { toPF := Fp, first := D28, kinds := D29, ways := D30, own := D31, fterm := D32, fbody := D33, twice := D34, faults := D35, isProg := D36, okind := PySem.W.mg_of X G gO, oD := ⟨esO, nO, ⟨lO, kO, sO⟩⟩, oG := oG, oN := oN }
  have Fw : KW K w mg ad aO := { toKP := { toKF := Fk, checkP := D37 }, chooses := D38, chNames := D39, without := D40, polyOf := D46, width := D47, words := D48, boundOf := D49, bound := D50 }
  have Pv : PV K mg AA DD c4 := { toPP := { toPB := ⟨B, D7, D8, D42, D44⟩, poly := DT43 }, val := D45 }
  have L1 : LV K mg AA DD := ⟨B, D58, D59⟩
  have L2 : LF K mg AA DD := ⟨L1, D60, D61, D62, D63, D64, D65⟩
  have L3 : LG K mg AA DD := ⟨L2, D53, D54, D55⟩
  have L4 : LL K mg AA DD := ⟨L3, D56⟩
  have L5 : LP K mg AA DD := ⟨L4, D57⟩
  have XCx : XC K mg CCh CE fICh := ⟨btCh, PySem.W.mg_of X G aE, syCh, kECh⟩
  have kw : KBinds K (DD 47) ["program"] ["program"] gRv gRv := Ey.Fun.rvs D47.F (by simp) fun _ _ _ _ _ _ us hl => match us, hl with | [_], _ => rfl
  have kb : KBinds K (DD 50) ["program"] ["program"] gRv gRv := Ey.Fun.rvs D50.F (by simp) fun _ _ _ _ _ _ us hl => match us, hl with | [_], _ => rfl
  have L : LA K w mg AA DD ad aO c4 CCh CE fICh := { toLP := L5, deck := D52, F := Fw, P := Pv, X := XCx, kW := kw, kB := kb, refused := D66 }
  have casesT : ∀ {R : Addr × Addr → Prop}, R (c0, P0) → R (c1, P1) → R (c2, P2) → R (c3, P3) → R (c4, P4) → ∀ p ∈ [(c0, P0), (c1, P1), (c2, P2), (c3, P3), (c4, P4)], R p := by
    intro R h0 h1 h2 h3 h4 p hp
    simp only [List.mem_cons, List.not_mem_nil, or_false] at hp
    rcases hp with rfl | rfl | rfl | rfl | rfl
    · exact h0
    · exact h1
    · exact h2
    · exact h3
    · exact h4
  refine ⟨_, [(c0, P0), (c1, P1), (c2, P2), (c3, P3), (c4, P4)], spLaw K [P0, P1, P2, P3] P4, ⟨casesT tq0 tq1 tq2 tq3 tq4, casesT nT0 nT1 nT2 nT3 nT4, casesT hd0 hd1 hd2 hd3 hd4⟩, fun s u => .of_eq rfl, fun H a ns hn hT hS => ?_, fun base KB MB TB hs => ok_law D67.F L ⟨TB (c0, P0) (by simp), TB (c1, P1) (by simp), TB (c2, P2) (by simp), TB (c3, P3) (by simp), MB⟩ (TB (c4, P4) (by simp)) hs⟩
  refine ⟨a, ns, rfl, hS, hn, fun P hP => ?_, fun P hP => ?_, hPL, fun _ => rfl⟩
  · simp only [List.mem_cons, List.not_mem_nil, or_false] at hP
    rcases hP with e | e | e | e
    · rw [e]
      exact ⟨#[], hT (c0, P0) (by simp), trivial⟩
    · rw [e]
      exact ⟨#[], hT (c1, P1) (by simp), trivial⟩
    · rw [e]
      exact ⟨#[], hT (c2, P2) (by simp), trivial⟩
    · rw [e]
      exact ⟨#[], hT (c3, P3) (by simp), trivial⟩
  · rw [List.mem_singleton.mp hP]
    exact ⟨#[], hT (c4, P4) (by simp), trivial⟩
end Ey
open PySem PySem.W PyProof.Rows
set_option maxRecDepth 100000 in
set_option maxHeartbeats 0 in
theorem PySem.Challenge.cw_eyesonly_k27_whole_widths_and_bounds_by_holds : PySem.Challenge.rw_eyesonly_k27_whole_widths_and_bounds_by.Holds := by
  w_on; o_law; k_head; (case hw => w_witness2)
  k_fill
  refine Ey.walk_law (l := PySem.Challenge.rw_eyesonly_k27_whole_widths_and_bounds_by) (x := "_law_script") (by decide +kernel) rfl (by decide) rfl (fun w h Y => PySem.W.kIn_of Y) ?F
  case F =>
    intro w mg fa h lo mean mb KX T hmg
    refine' Ey.all_mk (w := w) KX T hmg ⟨?a7, ?l7, ?c7, ?k7⟩ ⟨?a8, ?l8, ?c8, ?k8⟩ ⟨?a12, ?l12, ?c12, ?k12⟩ ⟨?a19, ?l19, ?c19, ?k19⟩ ⟨?a20, ?l20, ?c20, ?k20⟩ ⟨?a21, ?l21, ?c21, ?k21⟩ ⟨?a22, ?l22, ?c22, ?k22⟩ ⟨?a23, ?l23, ?c23, ?k23⟩ ⟨?a24, ?l24, ?c24, ?k24⟩ ⟨?a25, ?l25, ?c25, ?k25⟩ ⟨?a28, ?l28, ?c28, ?k28⟩ ⟨?a29, ?l29, ?c29, ?k29⟩ ⟨?a30, ?l30, ?c30, ?k30⟩ ⟨?a31, ?l31, ?c31, ?k31⟩ ⟨?a32, ?l32, ?c32, ?k32⟩ ⟨?a33, ?l33, ?c33, ?k33⟩ ⟨?a34, ?l34, ?c34, ?k34⟩ ⟨?a35, ?l35, ?c35, ?k35⟩ ⟨?a36, ?l36, ?c36, ?k36⟩ ⟨?a37, ?l37, ?c37, ?k37⟩ ⟨?a38, ?l38, ?c38, ?k38⟩ ⟨?a39, ?l39, ?c39, ?k39⟩ ⟨?a40, ?l40, ?c40, ?k40⟩ ⟨?a42, ?l42, ?c42, ?k42⟩ ⟨?a43, ?l43, ?c43, ?k43⟩ ⟨?a44, ?l44, ?c44, ?k44⟩ ⟨?a45, ?l45, ?c45, ?k45⟩ ⟨?a46, ?l46, ?c46, ?k46⟩ ⟨?a47, ?l47, ?c47, ?k47⟩ ⟨?a48, ?l48, ?c48, ?k48⟩ ⟨?a49, ?l49, ?c49, ?k49⟩ ⟨?a50, ?l50, ?c50, ?k50⟩ ⟨?a52, ?l52, ?c52, ?k52⟩ ⟨?a53, ?l53, ?c53, ?k53⟩ ⟨?a54, ?l54, ?c54, ?k54⟩ ⟨?a55, ?l55, ?c55, ?k55⟩ ⟨?a56, ?l56, ?c56, ?k56⟩ ⟨?a57, ?l57, ?c57, ?k57⟩ ⟨?a58, ?l58, ?c58, ?k58⟩ ⟨?a59, ?l59, ?c59, ?k59⟩ ⟨?a60, ?l60, ?c60, ?k60⟩ ⟨?a61, ?l61, ?c61, ?k61⟩ ⟨?a62, ?l62, ?c62, ?k62⟩ ⟨?a63, ?l63, ?c63, ?k63⟩ ⟨?a64, ?l64, ?c64, ?k64⟩ ⟨?a65, ?l65, ?c65, ?k65⟩ ⟨?a66, ?l66, ?c66, ?k66⟩ ⟨?a67, ?l67, ?c67, ?k67⟩ ?zint ?zmax ?zlist ?zlen ?zrange ?ztuple ?zsorted ?zrepr ?zisinstance ?zstr ?zall ?zbool ?zsum ?zmin ?zzip ?zenumerate ?zreversed ?tb0 ?rc0 ?nT0 ?tb1 ?rc1 ?nT1 ?tb2 ?rc2 ?nT2 ?tb3 ?rc3 ?nT3 ?tb4 ?rc4 ?nT4 ?gL ?gT ?gN ?gM ?gW ?lW ?vW ?yW ?gK ?lK ?vK ?yK ?gS ?lS ?kS ?sS ?mS ?sgS0 ?sgS1 ?sgS2 ?sgS3 ?sgS4 ?sgS5 ?sgS6 ?sgS7 ?sgS8 ?sgS9 ?sgS10 ?sgS11 ?sgS12 ?gO ?lO ?kO ?sO ?sgO0 ?sgO1 ?sgO2 ?sgO3 ?sgO4 ?sgO5 ?sgO6 ?sgO7 ?sgO8 ?sgO9 ?sgO10 ?sgO11 ?sgO12 ?snO0 ?snO1 ?aE ?eE ?tE ?hE ?spB ?tkB ?aCh ?xCh ?saCh ?gaCh ?ggCh ?nbCh ?a1Ch ?t1Ch ?l1Ch ?c1Ch ?kCh ?eCh ?tCh ?hCh ?sCh ?sECh ?clCh ?moCh ?kECh ?hPL
    (case a7 => k_is); (case l7 => k_is); (case c7 => k_is); (case k7 => k_is)
    (case a8 => k_is); (case l8 => k_is); (case c8 => k_is); (case k8 => k_is)
    (case a12 => k_is); (case l12 => k_is); (case c12 => k_is); (case k12 => k_is)
    (case a19 => k_is); (case l19 => k_is); (case c19 => k_is); (case k19 => k_is)
    (case a20 => k_is); (case l20 => k_is); (case c20 => k_is); (case k20 => k_is)
    (case a21 => k_is); (case l21 => k_is); (case c21 => k_is); (case k21 => k_is)
    (case a22 => k_is); (case l22 => k_is); (case c22 => k_is); (case k22 => k_is)
    (case a23 => k_is); (case l23 => k_is); (case c23 => k_is); (case k23 => k_is)
    (case a24 => k_is); (case l24 => k_is); (case c24 => k_is); (case k24 => k_is)
    (case a25 => k_is); (case l25 => k_is); (case c25 => k_is); (case k25 => k_is)
    (case a28 => k_is); (case l28 => k_is); (case c28 => k_is); (case k28 => k_is)
    (case a29 => k_is); (case l29 => k_is); (case c29 => k_is); (case k29 => k_is)
    (case a30 => k_is); (case l30 => k_is); (case c30 => k_is); (case k30 => k_is)
    (case a31 => k_is); (case l31 => k_is); (case c31 => k_is); (case k31 => k_is)
    (case a32 => k_is); (case l32 => k_is); (case c32 => k_is); (case k32 => k_is)
    (case a33 => k_is); (case l33 => k_is); (case c33 => k_is); (case k33 => k_is)
    (case a34 => k_is); (case l34 => k_is); (case c34 => k_is); (case k34 => k_is)
    (case a35 => k_is); (case l35 => k_is); (case c35 => k_is); (case k35 => k_is)
    (case a36 => k_is); (case l36 => k_is); (case c36 => k_is); (case k36 => k_is)
    (case a37 => k_is); (case l37 => k_is); (case c37 => k_is); (case k37 => k_is)
    (case a38 => k_is); (case l38 => k_is); (case c38 => k_is); (case k38 => k_is)
    (case a39 => k_is); (case l39 => k_is); (case c39 => k_is); (case k39 => k_is)
    (case a40 => k_is); (case l40 => k_is); (case c40 => k_is); (case k40 => k_is)
    (case a42 => k_is); (case l42 => k_is); (case c42 => k_is); (case k42 => k_is)
    (case a43 => k_is); (case l43 => k_is); (case c43 => k_is); (case k43 => k_is)
    (case a44 => k_is); (case l44 => k_is); (case c44 => k_is); (case k44 => k_is)
    (case a45 => k_is); (case l45 => k_is); (case c45 => k_is); (case k45 => k_is)
    (case a46 => k_is); (case l46 => k_is); (case c46 => k_is); (case k46 => k_is)
    (case a47 => k_is); (case l47 => k_is); (case c47 => k_is); (case k47 => k_is)
    (case a48 => k_is); (case l48 => k_is); (case c48 => k_is); (case k48 => k_is)
    (case a49 => k_is); (case l49 => k_is); (case c49 => k_is); (case k49 => k_is)
    (case a50 => k_is); (case l50 => k_is); (case c50 => k_is); (case k50 => k_is)
    (case a52 => k_is); (case l52 => k_is); (case c52 => k_is); (case k52 => k_is)
    (case a53 => k_is); (case l53 => k_is); (case c53 => k_is); (case k53 => k_is)
    (case a54 => k_is); (case l54 => k_is); (case c54 => k_is); (case k54 => k_is)
    (case a55 => k_is); (case l55 => k_is); (case c55 => k_is); (case k55 => k_is)
    (case a56 => k_is); (case l56 => k_is); (case c56 => k_is); (case k56 => k_is)
    (case a57 => k_is); (case l57 => k_is); (case c57 => k_is); (case k57 => k_is)
    (case a58 => k_is); (case l58 => k_is); (case c58 => k_is); (case k58 => k_is)
    (case a59 => k_is); (case l59 => k_is); (case c59 => k_is); (case k59 => k_is)
    (case a60 => k_is); (case l60 => k_is); (case c60 => k_is); (case k60 => k_is)
    (case a61 => k_is); (case l61 => k_is); (case c61 => k_is); (case k61 => k_is)
    (case a62 => k_is); (case l62 => k_is); (case c62 => k_is); (case k62 => k_is)
    (case a63 => k_is); (case l63 => k_is); (case c63 => k_is); (case k63 => k_is)
    (case a64 => k_is); (case l64 => k_is); (case c64 => k_is); (case k64 => k_is)
    (case a65 => k_is); (case l65 => k_is); (case c65 => k_is); (case k65 => k_is)
    (case a66 => k_is); (case l66 => k_is); (case c66 => k_is); (case k66 => k_is)
    (case a67 => k_is); (case l67 => k_is); (case c67 => k_is); (case k67 => k_is)
    (case zint => k_is); (case zmax => k_is); (case zlist => k_is); (case zlen => k_is); (case zrange => k_is); (case ztuple => k_is); (case zsorted => k_is); (case zrepr => k_is); (case zisinstance => k_is); (case zstr => k_is); (case zall => k_is); (case zbool => k_is); (case zsum => k_is); (case zmin => k_is); (case zzip => k_is); (case zenumerate => k_is); (case zreversed => k_is)
    (case tb0 => rfl); (case rc0 => rfl); (case nT0 => rfl)
    (case tb1 => rfl); (case rc1 => rfl); (case nT1 => rfl)
    (case tb2 => rfl); (case rc2 => rfl); (case nT2 => rfl)
    (case tb3 => rfl); (case rc3 => rfl); (case nT3 => rfl)
    (case tb4 => rfl); (case rc4 => rfl); (case nT4 => rfl)
    (case gL => k_is)
    (case gT => k_is)
    (case gN => k_is)
    (case gM => k_is)
    (case gW => k_is)
    (case lW => k_is)
    (case vW => exact (.cons ⟨_, rfl⟩ (.cons ⟨_, rfl⟩ (.cons ⟨_, rfl⟩ (.cons ⟨_, rfl⟩ (.cons ⟨_, rfl⟩ (.cons ⟨_, rfl⟩ (.cons ⟨_, rfl⟩ (.cons ⟨_, rfl⟩ (.cons ⟨_, rfl⟩ (.cons ⟨_, rfl⟩ (.cons ⟨_, rfl⟩ (.cons ⟨_, rfl⟩ (.cons ⟨_, rfl⟩ (.cons ⟨_, rfl⟩ (.cons ⟨_, rfl⟩ (.cons ⟨_, rfl⟩ (.cons ⟨_, rfl⟩ (.cons ⟨_, rfl⟩ (.cons ⟨_, rfl⟩ .nil))))))))))))))))))))
    (case yW => decide)
    (case gK => k_is)
    (case lK => k_is)
    (case vK => exact (.cons ⟨_, rfl⟩ (.cons ⟨_, rfl⟩ .nil)))
    (case yK => decide)
    (case gS => k_is)
    (case lS => k_is)
    (case kS => exact ⟨⟨_, _, rfl, rfl⟩, ⟨_, _, rfl, rfl⟩, ⟨_, _, rfl, rfl⟩, ⟨_, _, rfl, rfl⟩, ⟨_, _, rfl, rfl⟩, ⟨_, _, rfl, rfl⟩, ⟨_, _, rfl, rfl⟩, ⟨_, _, rfl, rfl⟩, ⟨_, _, rfl, rfl⟩, ⟨_, _, rfl, rfl⟩, ⟨_, _, rfl, rfl⟩, ⟨_, _, rfl, rfl⟩, ⟨_, _, rfl, rfl⟩, trivial⟩)
    (case sS => decide)
    (case mS => rfl)
    (case sgS0 => k_is)
    (case sgS1 => k_is)
    (case sgS2 => k_is)
    (case sgS3 => k_is)
    (case sgS4 => k_is)
    (case sgS5 => k_is)
    (case sgS6 => k_is)
    (case sgS7 => k_is)
    (case sgS8 => k_is)
    (case sgS9 => k_is)
    (case sgS10 => k_is)
    (case sgS11 => k_is)
    (case sgS12 => k_is)
    (case gO => k_is)
    (case lO => k_is)
    (case kO => exact ⟨⟨_, _, rfl, rfl⟩, ⟨_, _, rfl, rfl⟩, ⟨_, _, rfl, rfl⟩, ⟨_, _, rfl, rfl⟩, ⟨_, _, rfl, rfl⟩, ⟨_, _, rfl, rfl⟩, ⟨_, _, rfl, rfl⟩, ⟨_, _, rfl, rfl⟩, ⟨_, _, rfl, rfl⟩, ⟨_, _, rfl, rfl⟩, ⟨_, _, rfl, rfl⟩, ⟨_, _, rfl, rfl⟩, ⟨_, _, rfl, rfl⟩, trivial⟩)
    (case sO => decide)
    (case sgO0 => k_is)
    (case sgO1 => k_is)
    (case sgO2 => k_is)
    (case sgO3 => k_is)
    (case sgO4 => k_is)
    (case sgO5 => k_is)
    (case sgO6 => k_is)
    (case sgO7 => k_is)
    (case sgO8 => k_is)
    (case sgO9 => k_is)
    (case sgO10 => k_is)
    (case sgO11 => k_is)
    (case sgO12 => k_is)
    (case snO0 => k_is)
    (case snO1 => k_is)
    (case aE => k_is)
    (case eE => k_is)
    (case tE => k_is)
    (case hE => k_is)
    (case spB => first | k_is | rfl | decide +kernel)
    (case tkB => first | k_is | rfl | decide +kernel)
    (case aCh => k_is)
    (case xCh => k_is)
    (case saCh => k_is)
    (case gaCh => k_is)
    (case ggCh => k_is)
    (case nbCh => k_is)
    (case a1Ch => k_is)
    (case t1Ch => k_is)
    (case l1Ch => k_is)
    (case c1Ch => k_is)
    (case kCh => k_is)
    (case eCh => k_is)
    (case tCh => k_is)
    (case hCh => k_is)
    (case sCh => first | rfl | k_is)
    (case sECh => first | rfl | k_is)
    (case clCh => first | k_is | rfl | decide +kernel)
    (case moCh => first | k_is | rfl | decide +kernel)
    (case kECh => first | k_is | rfl | decide +kernel)
    (case hPL => decide)
