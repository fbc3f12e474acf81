import PyProof.Rows.All
import Wide.All
import OpenK.AllK
import Wide.FinOn
import PyProof.ReprRoads
import KE.KSortAny
import PyProof.Rows.SortShellAny
import HandS.ForMost
import HandS.IsInst
import HandS.AnyAll
import HandS.EndTab
import HandS.HeadWalk
import HandS.WrittenGet
import HandS.GenList
import PyProof.EqKinds
import PyProof.NeKinds
import PyProof.NeData
import PyProof.TupleOfGen
import HandS.Conv
import HandS.StrMore
import PyProof.RowDictHeap
import PyProof.Rows.StrDigitsNeg
import PyProof.Rows.StrIntSpec
import KE.KEqNest
import PyProof.Rows.StrRev
import HandS.TupAny
import HandS.Comp
import HandS.Style
import HandS.Wide
import HandS.More
import HandS.Iter
import KE.GoesEnum
import HandS.Walk
import HandS.Exc
import HandS.TryOnly
import KE.KIsAll
import KE.KTryMore
import HandS.ExcIs
import HandS.Lambda
import HandS.Flow
import HandS.WordsExc
import HandS.TupMul
import PySem.Challenge.RW_eyesonly_k26_polynomials_and_their_value
set_option Elab.async false
set_option linter.all false
set_option maxRecDepth 100000
set_option maxHeartbeats 4000000
namespace Ey
open PySem PySem.Spec PyProof.Rows L2
/-! ### repr of data -/
mutual
theorem dp_plain {K : PySem.W.Frag} {H : Hp} : ∀ (d : PyData) (v : V), Dp K H v d → d.hasDict = false
  | .none, _, _ => rfl
  | .bool _, _, _ => rfl
  | .int _, _, _ => rfl
  | .str _, _, _ => rfl
  | .list ds, _, h => by
    cases h with
    | lst _ q => exact dp_plains ds _ q
  | .tuple ds, _, h => by
    cases h with
    | tup _ q => exact dp_plains ds _ q
  | .dict _, _, h => by cases h
theorem dp_plains {K : PySem.W.Frag} {H : Hp} : ∀ (ds : List PyData) (vs : List V), DpAll K H vs ds → PyData.hasDictAll ds = false
  | [], _, _ => rfl
  | d :: r, _, h => by
    cases h with
    | cons a b =>
      show (d.hasDict || PyData.hasDictAll r) = false
      rw [dp_plain d _ a, dp_plains r _ b]
      rfl
end
def rRepr (K : PySem.W.Frag) : List V → Hp → VK → Prop := fun xs H Q =>
  ∃ v d, xs = [v] ∧ Dp K H v d ∧ d.showable = true ∧ d.depth ≤ 100 ∧ d.shown.length ≤ sizeLine ∧ Q (.str d.shown) H
section
variable {X : Cx} {k : Nat}
theorem cr_repr (hg : X.A.guards = some []) (hr : Room k X.A) : CallR X (.builtin "repr") (rRepr X.K) := by
  intro pins s σ H xs us Q I r h
  obtain ⟨v, d, rfl, hd, hs, hp, hz, q⟩ := h
  obtain ⟨u, rfl, ru⟩ := vals1 r
  obtain ⟨as, rd⟩ := Dp.reads I d v u hd ru
  have nd := dp_plain d v hd
  have room : X.A.units + (d.depth + 1) < cLine := by
    have := hr.un
    omega
  have fin : ∀ (h' : Heap) (tk : Nat) (t : Tok), (∀ b o, s.heap.get? b = some o → h'.get? b = some o) → EP X pins σ Q (.str d.shown t) { s with heap := h', toks := tk } :=
    fun h' tk t hk => ⟨.str d.shown, H, I.kept hk, ⟨t, rfl⟩, q⟩
  cases rd with
  | none => exact PySem.P.repr_of_none (fin s.heap _ _ fun _ _ e => e)
  | bool b => exact PySem.P.repr_of_bool (fin s.heap _ _ fun _ _ e => e)
  | int i t => exact PySem.P.repr_of_int (of_decide_eq_true hs) (fin s.heap _ _ fun _ _ e => e)
  | str x t => exact PySem.P.repr_of_str (fin s.heap _ _ fun _ _ e => e) hz
  | list a b c e => exact repr_of_reads' (.list a b c e) hs (PyData.noDict_hsm nd) hg room (fun _ _ e => e) (fun h' u tk hk => fin h' tk u hk) hz
  | tuple a b c e => exact repr_of_reads' (.tuple a b c e) hs (PyData.noDict_hsm nd) hg room (fun _ _ e => e) (fun h' u tk hk => fin h' tk u hk) hz
  | dict a b c e f => cases nd
/-! ### sorted of texts, at any length -/
def rSortT (K : PySem.W.Frag) : List V → Hp → VK → Prop := fun vs H Q => ∃ (a : Addr) (xs : List Str), vs = [V.ref a] ∧ SqL K H a (xs.map V.str) ∧ xs.length ≤ sizeLine ∧
  ∀ (ys : List Str) (p : Addr), ys.Perm xs → sortedS ys = true → H p = none → Q (.ref p) (upd H p (.lst (ys.map V.str)))
theorem cr_sortT : CallR X (.builtin "sorted") (rSortT X.K) := by
  intro pins s σ H vs us Q I r h
  obtain ⟨a, xs, rfl, hs, hl, q⟩ := h
  obtain ⟨its, rv, pl, _⟩ := I.list hs
  rw [Vals.ref1 r]
  have n0 := rv.length
  rw [List.length_map] at n0
  refine PyProof.Rows.sorted_strsAny pl.isList rv.strs (by rw [← n0]; exact hl) fun out ys h1 h2 h3 => ?_
  obtain ⟨ep, at'⟩ := PyProof.Rows.sortedAll_at s.heap its out
  have n1 : (ys.map V.str).length ≤ sizeLine := by rw [List.length_map, h2.length_eq]; exact hl
  refine ⟨.ref _, upd H (s.heap.objs.size + 1) (.lst (ys.map V.str)), ?_, rfl, q ys _ h2 h3 (I.hok.fresh (Nat.le_succ _))⟩
  exact I.laid (t' := s.toks) (fun _ _ => PyProof.Rows.sortedAll_old) (Nat.le_succ _) ⟨n1, out.toList, ep, vals_of_strs h1, at'⟩
end
end Ey
set_option maxHeartbeats 2000000
namespace Ey
open PySem PySem.Spec PyProof.Rows L2 GxR
/-! ### all(test of sign for sign in text), where the test reads a name of the module -/
/-- the test, in the generator's own frame: the module stands as it stood -/
def EltG (X : Cx) (sc : Scope) (x : Str) (elt : Expr) (pb : Nat → Bool) : Prop :=
  ∀ (ge : Env) (B : Around) (F' : Value → Shared → Prop) (c : Nat) (t : Tok) (z : Shared) (m : Str → Option Value), ge.scope = sc → ge.globals = X.env.globals →
    (∀ b o, X.base.get? b = some o → z.heap.get? b = some o) → z.heap.Ns ge.locals m → m x = some (.str ⟨#[c]⟩ t) →
    wpAny (model X.prog X.w) B (eval elt ge) (fun y z' => y = .bool (pb c) ∧ Keeps z z') F' z
section
variable {X : Cx} {pins : List (Addr × Obj)} {σ : L2.St} {H : Hp} {s : Shared}
theorem gen_glob {c P : Addr} {elt iter : Expr} {x : Str} {px gp : Pos} {sc : Scope} {pb : Nat → Bool} {te : TE} {k : Nat} {Q' : Value → Shared → Prop} {R : Str → Hp → Prop}
    (hr : Room k X.A) (TB : TabB X.base X.mg c P) (hco : X.env.code = .ref c) (S : GenS X.env sc x) (hi : PE X iter te) (hel : EltG X sc x elt pb)
    (hs : ∀ v, genFold iter X.env v = pure v) (I : Inv X pins σ H s) (h : te σ H fun v H1 => ∃ a : Str, v = .str a ∧ TabG H1 P ∧ R a H1)
    (hQ : ∀ a H1 g s5, R a H1 → Ready X pins σ H1 P a pb g s5 → Q' (.ref g) s5) :
    wpAny (model X.prog X.w) X.A (eval (.GeneratorExp elt [⟨.Name x px, iter, [], 0⟩] sc gp) X.env) Q' X.xe s := by
  refine wpAny_GeneratorExp_walksQ hr.hd S.co (closure_ok S.free) S.cell S.dot S.loc S.kind (Nat.lt_of_le_of_lt (by omega) hr.dp) ?_ hs
  refine thn (hi.run pins s σ H _ I h) fun xv sA ⟨v, H1, J, rv, q⟩ => ?_
  obtain ⟨a, rfl, ⟨ps, tP, tok⟩, q⟩ := q
  obtain ⟨t, rfl⟩ := _root_.id rv
  refine wpAny_pyIter_str fun ob St W start => ?_
  have gP : sA.heap.get? P = some { cls := .none, data := .fields ps } := J.hok P _ tP
  have ltP : P < sA.heap.objs.size := Heap.lt_size gP
  have gP2 : (sA.heap.push ob).get? P = some { cls := .none, data := .fields ps } := Heap.get?_push_of_some _ gP
  have head : PySem.W.CodeHd (sA.heap.push ob) c P := TB.code.keeps fun b u e => Heap.get?_push_of_some _ (J.bk b u e)
  have noL : (sA.heap.push ob).NoLimit := J.nolimit.push ob
  have go : ∀ (code : Value) (hN : Heap) (tk : Nat) (qs : Array Value), Heap.ExtBut P (sA.heap.push ob) hN → (sA.heap.push ob).objs.size ≤ hN.objs.size → hN.get? P = some { cls := .none, data := .fields qs } → (∃ more, qs = ps ++ more) → TriplesOk qs.toList →
      wpAny (model X.prog X.w) X.A (builtinsFor X.env.globals X.env.builtins) (fun bi sB =>
        ∃ Ia fp wr n₀ Pf St₀ pz F, Value.ref sA.heap.objs.size = .ref Ia ∧ (∀ B : Around, B.handled = none → Walks X.prog X.w B Ia fp wr n₀ Pf St₀) ∧ St₀ 0 sB.heap ∧ (∀ b ∈ fp, b < sB.heap.objs.size) ∧ sB.heap.NoLimit ∧ cStatics ∉ wr ∧
          (∀ hf : Heap, (∀ b o, sB.heap.get? b = some o → hf.get? b = some o) →
            QuietGen X.prog X.w (genEnv sc (cloFrom X.env.cells sc.names []) sB.heap.objs.size code bi X.env) x [] elt (List.range sB.heap.objs.size) wr Pf pz F hf) ∧
          (∀ g hG tg gs, gs.bare = true → sB.heap.objs.size < g → hG.objs.size = g + 1 → (∀ b o, sB.heap.get? b = some o → hG.get? b = some o) →
            WalksS X.prog X.w X.A.in4 g (g :: sB.heap.objs.size :: List.range sB.heap.objs.size) (sB.heap.objs.size :: wr) (GenOnlyQ sB.gens.size) (passing pz n₀ 0).length
              (fun j y => ∃ i, (passing pz n₀ 0)[j]? = some i ∧ F i y) (GenAt X.prog X.w X.A.in4 g sB.gens.size sB.heap.objs.size (List.range sB.heap.objs.size) wr pz n₀ F) →
            GenAt X.prog X.w X.A.in4 g sB.gens.size sB.heap.objs.size (List.range sB.heap.objs.size) wr pz n₀ F 0 { sB with gens := sB.gens.push gs, toks := tg, heap := hG } →
            Q' (.ref g) { sB with gens := sB.gens.push gs, toks := tg, heap := hG })) X.xe { sA with heap := hN, toks := tk } := by
    intro code hN tk qs ext hsz gPN more okN
    obtain ⟨bm, obm, e1, e2, e3, e4, e5, e6, e7, e8⟩ := TB.bm
    have ncP : cStatics ≠ P := fun e => by
      obtain ⟨_, ns, _⟩ := J.nolimit
      obtain ⟨o', es, ep, g', d', _⟩ := ns
      rw [e, gP] at g'
      cases g'
      cases d'
    have ltC : cStatics < sA.heap.objs.size := let ⟨_, ns, _⟩ := J.nolimit; ns.lt
    have szA : (sA.heap.push ob).objs.size = sA.heap.objs.size + 1 := Heap.size_push ..
    have stay : ∀ b u, b ≠ P → sA.heap.get? b = some u → hN.get? b = some u := fun b u nb e => ext b u nb (Heap.get?_push_of_some _ e)
    have old : ∀ b u, X.base.get? b = some u → hN.get? b = some u ∧ b < sA.heap.objs.size := fun b u e => by
      obtain ⟨e1, e2⟩ := J.bs b u e
      refine ⟨stay b u (fun z => ?_) e1, Heap.lt_size e1⟩
      rw [z, tP] at e2
      cases e2
    refine wpAny_builtinsFor (m := X.mg) (by rw [J.ok.glob]; exact ((J.mod.glob.keeps J.bk).push ob).extBut ext TB.gP) e1 e2 (stay _ _ e4 (J.bk _ _ e5)) e6 e7 e8 ?_
    refine ⟨sA.heap.objs.size, [sA.heap.objs.size], [sA.heap.objs.size], a.cps.size, SignAt a, St, (fun _ => true), (fun i y => ∃ cc, a.cps[i]? = some cc ∧ y = .bool (pb cc)), rfl, W, ?_, ?_, noL.extBut ext ncP, ?_, ?_, ?_⟩
    · refine (W X.A hr.hd).frame _ _ _ start fun b hb u e => ext b u (fun z => ?_) e
      have hb' : b = sA.heap.objs.size := List.mem_singleton.mp hb
      exact Nat.ne_of_lt ltP (z.symm.trans hb')
    · intro b hb
      have hb' : b = sA.heap.objs.size := List.mem_singleton.mp hb
      rw [hb']
      show sA.heap.objs.size < hN.objs.size
      omega
    · intro z
      have z' : cStatics = sA.heap.objs.size := List.mem_singleton.mp z
      exact Nat.ne_of_lt ltC z'
    · intro hf sub
      refine ⟨fun B F' i v z m hB hv hn hm hk => ?_, fun B F' i v z m hB hv hp hn hm hk => ?_⟩
      · simp only [List.forIn_nil]
        exact wpAny_pure ⟨rfl, keeps_refl _⟩
      · obtain ⟨cc, u, hcc, rfl⟩ := hv
        refine wpAny_mono (hel _ B F' cc u z m rfl rfl (fun b o e => ?_) hn hm) (fun y z' r => ⟨⟨cc, hcc, r.1⟩, r.2⟩) fun _ _ e => e
        obtain ⟨e1, e2⟩ := old b o e
        refine hk b (List.mem_range.mpr (Heap.lt_size e1)) (fun w => ?_) o (sub b o e1)
        have w' : b = sA.heap.objs.size := List.mem_singleton.mp w
        exact Nat.ne_of_lt e2 w'
    · intro g hG tg gs bare ltg szg keepg Wg atg
      simp only [GxR.passing_true, List.length_range] at Wg
      refine hQ a H1 g _ q ⟨_, _, _, _, _, Wg.in4_1, atg, ?_, fun s' mv => ?_⟩
      · intro j y sj Qj Ej hy hj
        obtain ⟨i, ij, cc, hcc, rfl⟩ := hy
        obtain ⟨lj, ej⟩ := List.getElem?_eq_some_iff.mp ij
        rw [List.getElem_range] at ej
        subst ej
        have sign : a.cps.toList[j]? = some cc := (Array.getElem?_toList).trans hcc
        have hj' : Qj (trF pb a.cps.toList j) sj := hj
        rw [trF_some sign] at hj'
        exact wpAny_truthy_bool hj'
      · obtain ⟨mo, em⟩ := more
        have nw : ∀ b u, sA.heap.get? b = some u → b ∉ hN.objs.size :: [sA.heap.objs.size] := fun b u e z => by
          have l := Heap.lt_size e
          rcases List.mem_cons.mp z with z | z
          · rw [z] at l
            have l2 : (hN.objs.size : Nat) < sA.heap.objs.size := l
            omega
          · exact Nat.ne_of_lt l (List.mem_singleton.mp z)
        have L := inv_tab (more := mo) (h' := s'.heap) (g' := s'.gens) (d' := s'.drawn) (t' := s'.toks) J tP (fun b u nb e => mv.heap b u (nw b u e) (keepg b u (stay b u nb e)))
          (by rw [← em]; exact mv.heap P _ (nw P _ gP) (keepg P _ gPN)) (AllBare.movedS (J.bare.push bare) mv)
        rw [sh_eta sA s' mv.os] at L
        refine ⟨upd H1 P (.tbl (ps ++ mo)), ⟨⟨ps ++ mo, upd_same, ?_⟩, fun b nb => upd_ne nb⟩, L⟩
        rw [← em]
        exact okN
  refine ⟨noL, ?_⟩
  cases am : codeAmong gp ps.toList with
  | none =>
    refine wpAny_genexprCodeX hco (head.code gP2 tok) (head.tab gP2) am fun c' hN tk ext hge hlt hc' _ tab' _ => ?_
    obtain ⟨o1, vs, f1, tf, fl, tg, inF, tx, tt, op, _, _, _, _, _, _, _, _, _, tr, _⟩ := hc'
    exact go _ hN tk _ ext (Nat.le_trans hge (Nat.le_of_lt hlt)) tab'.2 ⟨_, rfl⟩ tr
  | some cv =>
    refine wpAny_genexprCode_hit hco (head.code gP2 tok) am ?_
    exact go cv (sA.heap.push ob) sA.toks ps (Heap.ExtBut.refl _ _) (Nat.le_refl _) gP2 ⟨#[], by simp⟩ tok
theorem pe_allG {c P : Addr} {elt iter : Expr} {x : Str} {px p pos gp : Pos} {sc : Scope} {pb : Nat → Bool} {te : TE} {k : Nat}
    (hr : Room k X.A) (hg : Gl X "all") (hm : X.mg "all" = none) (hb : bootBuiltins "all" = some (.builtin "all")) (TB : TabB X.base X.mg c P) (hco : X.env.code = .ref c) (S : GenS X.env sc x) (hi : PE X iter te) (hel : EltG X sc x elt pb)
    (hs : ∀ v, genFold iter X.env v = pure v)
    (he : starEach [.GeneratorExp elt [⟨.Name x px, iter, [], 0⟩] sc gp] X.env = (false, eval (.GeneratorExp elt [⟨.Name x px, iter, [], 0⟩] sc gp) X.env) :: starEach [] X.env := by rfl) :
    PE X (.Call (.Name "all" p) [.GeneratorExp elt [⟨.Name x px, iter, [], 0⟩] sc gp] [] pos) (tAllS P pb te) := by
  refine ⟨fun pins s σ H Q I h => wpAny_Call_Name_kw (ld_blt I hg hm hb ?_)⟩
  refine PyProof.Rows.callWith_builtin1 ?_ he (by rfl)
  rw [he]
  show wpAny _ _ (spliced ((false, eval (.GeneratorExp elt [⟨.Name x px, iter, [], 0⟩] sc gp) X.env) :: backTo pos (starEach [] X.env))) _ _ s
  refine Calls.spliced_cons (gen_glob (R := fun a H1 => ∀ H2, Tabbed P H1 H2 → Q (.bl (a.cps.toList.all pb)) H2) hr TB hco S hi hel hs I h fun a H1 g s5 hR rdy => ?_)
  obtain ⟨fp, wr, G, F, St, W, st0, tru, inv⟩ := rdy
  refine Calls.spliced_nil (call_all_walkS (W.self 0 _ _ _ st0 ⟨g, fp, wr, G, _, F, St, _, rfl, W, st0, tru, fun s' mv => ?_⟩))
  obtain ⟨H2, hT, L⟩ := inv s' mv
  refine ⟨.bl _, H2, L, rfl, ?_⟩
  rw [all_signs a pb]
  exact hR H2 hT
/-- sign in NAME, NAME a text of the module -/
theorem elt_inG {sc : Scope} {x y : Str} {T : Str} {p1 p2 p3 : Pos} {tk : Tok} (hk : sc.kind = .function) (hl : sc.names.lookup x = some .local) (hy : sc.names.lookup y = some .globalImplicit) (hG : X.env.globals = mainGlobals) (M : X.base.Ns mainGlobals X.mg) (hm : X.mg y = some (.str T tk))
    (hd : (x == ("__debug__" : Str)) = false := by decide) (hd2 : (y == ("__debug__" : Str)) = false := by decide) :
    EltG X sc x (.Compare (.Name x p1) [.In] [.Name y p2] p3) (fun c => decide (c ∈ T.cps.toList)) := by
  intro ge B F' c t z m h1 h2 h3 h4 h5
  have k1 : ge.scope.kind = .function := by rw [h1]; exact hk
  refine wpAny_Compare1 (wpAny_Name (wpAny_loadName_local k1 (show ge.scope.names.lookup x = some .local by rw [h1]; exact hl) h4 h5 ?_) hd)
  refine Calls.Name_function_global k1 (show ge.scope.names.lookup y = some .globalImplicit by rw [h1]; exact hy) (Calls.loadGlobal_global (by rw [h2, hG]; exact M.keeps h3) hm ?_) hd2
  refine PyProof.Rows.in_str ?_
  refine ⟨congrArg Value.bool ?_, keeps_refl _⟩
  exact PySem.StrLaws.found_one T c
end
end Ey
set_option maxHeartbeats 2000000
namespace Ey
open PySem PySem.Spec PyProof.Rows L2 GxR
/-! ### all(e for x in it), e any expression that HandS can tell -/
/-- the generator's own frame -/
def gxOf (X : Cx) (A : Around) (s : Shared) (H : Hp) (ge : Env) (x : Str) (fp : List Addr) : Cx :=
  { X with A := A, N := [x], s_0 := s, H_0 := H, env := ge, outer := X.stack, stack := ge :: X.stack, ex := fp, fn := fun _ => false, calm := true, pn := [], xe := fun _ _ => False }
abbrev gcode (elt iter : Expr) (x : Str) (px : Pos) (sc : Scope) (gp : Pos) (it : Addr) (ge : Env) : Code := .compLoop (.GeneratorExp elt [⟨.Name x px, iter, [], 0⟩] sc gp) 0 (.ref it) .none ge
/-- the generator stands at turn i -/
structure GIn (Xg : Cx) (fp : List Addr) (tn : Nat → Heap → Prop) (ga : Addr) (go : Obj) (g : Nat) (W : Nat → Hp → Prop) (i : Nat) (s : Shared) : Prop where
  ex : ∃ (H : Hp) (y : Option V), Inv Xg [(ga, go)] [y] H s ∧ tn i s.heap ∧ (∀ b ∈ fp, FpOk Xg [(ga, go)] H b) ∧ W i H
  sz : g + 1 ≤ s.gens.size
/-- it is over -/
def GEd (Xg : Cx) (ga : Addr) (go : Obj) (Qe : Hp → Prop) (s : Shared) : Prop := ∃ (H : Hp) (y : Option V), Inv Xg [(ga, go)] [y] H s ∧ Qe H
def YG (GI : Nat → Shared → Prop) (GF : Shared → Prop) (n0 : Nat) : Protocol := fun m _ v s kap => ∃ b : Bool, v = .bool b ∧ (b = true → GI (n0 - m) s ∧ ∀ s'', GI (n0 - m) s'' → kap (.send .none) s'') ∧ (b = false → GF s)
def RG (GT : Shared → Prop) : GenEnd := fun _ _ r s => r = .ok .next ∧ GT s
section
variable {X : Cx} {A : Around} {sG : Shared} {HG : Hp} {ge : Env} {x : Str} {fp : List Addr} {tn : Nat → Heap → Prop} {ga it : Addr} {go : Obj} {g : Nat} {W : Nat → Hp → Prop} {Qf Qt : Hp → Prop} {J : It} {elt iter : Expr} {px gp : Pos} {sc : Scope} {te : TE} {n0 : Nat}
theorem seg_gloop (T : Turn X.prog X.w X.K (.Name x px) J fp it tn) (hx : ge.scope.names.lookup x = some .local) (hco : ge.scope.isCoroutine = false)
    (hel : PE (gxOf X (A.over (gcode elt iter x px sc gp it ge) []) sG HG ge x fp) elt te)
    (hW : ∀ i H, W i H → (i < n0 ∧ J.go i H ∧ ∀ v H', J.yld i H v H' → te [some v] H' fun y H3 => ∃ b, y = .bl b ∧ if b = true then W (i + 1) H3 else Qf H3) ∨ (J.stop i H ∧ Qt H)) :
    ∀ (k i : Nat) (s₀ s : Shared), n0 - i = k → GIn (gxOf X (A.over (gcode elt iter x px sc gp it ge) []) sG HG ge x fp) fp tn ga go g W i s →
      Seg (model X.prog X.w) A (RG (GEd (gxOf X (A.over (gcode elt iter x px sc gp it ge) []) sG HG ge x fp) ga go Qt))
        (YG (GIn (gxOf X (A.over (gcode elt iter x px sc gp it ge) []) sG HG ge x fp) fp tn ga go g W) (GEd (gxOf X (A.over (gcode elt iter x px sc gp it ge) []) sG HG ge x fp) ga go Qf) n0) (n0 - i) s₀
        (gcode elt iter x px sc gp it ge) ((model X.prog X.w).den (gcode elt iter x px sc gp it ge)) [] s := by
  generalize hXg : gxOf X (A.over (gcode elt iter x px sc gp it ge) []) sG HG ge x fp = Xg at *
  have eP : Xg.prog = X.prog := by rw [← hXg]; rfl
  have eW : Xg.w = X.w := by rw [← hXg]; rfl
  have eK : Xg.K = X.K := by rw [← hXg]; rfl
  have eC : Xg.calm = true := by rw [← hXg]; rfl
  have eA : Xg.A = A.over (gcode elt iter x px sc gp it ge) [] := by rw [← hXg]; rfl
  have eE : Xg.env = ge := by rw [← hXg]; rfl
  have eN : Xg.N = [x] := by rw [← hXg]; rfl
  have eX : Xg.xe = fun _ _ => False := by rw [← hXg]; rfl
  have ePn : Xg.pn = [] := by rw [← hXg]; rfl
  have stat : ∀ {pins : List (Addr × Obj)} {H H' : Hp}, (∀ b ∈ fp, FpOk Xg pins H b) → (∀ b ∈ fp, H' b = none) → ∀ b ∈ fp, FpOk Xg pins H' b := fun f2 hn b hb => ⟨hn b hb, (f2 b hb).2⟩
  intro k
  induction k with
  | zero =>
    intro i s₀ s hk gi
    obtain ⟨⟨H, y, I, st, fo, w⟩, sz⟩ := gi
    rcases hW i H w with ⟨lt, _⟩ | ⟨stop, qt⟩
    · omega
    show Seg _ A _ _ _ s₀ _ ((compTurn (.GeneratorExp elt [⟨.Name x px, iter, [], 0⟩] sc gp) 0 (.ref it) .none ge).onRaise (leaving ge)) [] s
    rw [compTurn_gen, Sem.onRaise_eq_wrap]
    refine seg_bind_wrap (wpAny_standAt ?_)
    refine seg_bind_wrap (eA ▸ wpAny_mono (T.done Xg eP eW eK eC i _ s [y] H (fun _ _ => False) I fo st stop) (fun r s1 ⟨hr, I1⟩ => ?_) fun _ _ e => e.elim)
    subst hr
    exact seg_end (.ok .next) ⟨rfl, H, y, I1, qt⟩
  | succ k ih =>
    intro i s₀ s hk gi
    obtain ⟨⟨H, y, I, st, fo, w⟩, sz⟩ := gi
    show Seg _ A _ _ _ s₀ _ ((compTurn (.GeneratorExp elt [⟨.Name x px, iter, [], 0⟩] sc gp) 0 (.ref it) .none ge).onRaise (leaving ge)) [] s
    rw [compTurn_gen, Sem.onRaise_eq_wrap]
    refine seg_bind_wrap (wpAny_standAt ?_)
    rcases hW i H w with ⟨lt, gg, step⟩ | ⟨stop, qt⟩
    · refine seg_bind_wrap (eA ▸ GenW.wpAny_gsz sz (wpAny_mono (T.item Xg eP eW eK eC i _ s [y] H (fun _ _ => False) I fo st gg) (fun r s1 ⟨u, hr, rest⟩ sz1 => ?_) fun _ _ e _ => e.elim))
      subst hr
      refine seg_bind_wrap (eA ▸ GenW.wpAny_gsz sz1 (wpAny_mono rest (fun _ s2 ⟨v, H2, I2, rv, yl, st2, fr2⟩ sz2 => ?_) fun _ _ e _ => e.elim))
      have fo2 := stat fo fr2
      have I2' := I2.pinned fo2 (T.obj _ _ st2)
      have pgn : PG Xg (.Name x px) (gName 0) := pg_name (by rw [eN]; simp) (by rw [eN]; rfl) (.inl (by rw [eE]; exact hx)) (.inr (by rw [eE]; exact hx))
      have run1 := pgn.run _ s2 [y] H2 v u (fun σ' H' => σ' = [some v] ∧ H' = H2) I2' rv ⟨rfl, rfl⟩
      rw [eE, eX] at run1
      refine seg_bind_wrap (eA ▸ GenW.wpAny_gsz sz2 (wpAny_mono (eP ▸ eW ▸ run1) (fun _ s3 ⟨σ3, H3, I3, e3, e4⟩ sz3 => ?_) fun _ _ e _ => e.elim))
      subst e3 e4
      simp only [List.forIn_nil]
      refine seg_bind_wrap (wpAny_pure ?_)
      rw [if_pos rfl]
      have hy : ∀ v, yieldOut ge v = yieldValue v := fun v => by simp only [yieldOut, hco, Bool.false_eq_true, if_false]
      simp only [hy]
      rw [Sem.bind_eq_wrap', Sem.bind_eq_wrap', Sem.wrap_wrap, Sem.wrap_wrap]
      have run2 := hel.run _ s3 [some v] H3 _ I3 (step v H3 yl)
      rw [eE, eX] at run2
      refine seg_wrap (eA ▸ GenW.wpAny_gsz sz3 (wpAny_mono (eP ▸ eW ▸ run2) (fun z s4 ⟨zv, H4, I4, rz, b, ez, q⟩ sz4 => ?_) fun _ _ e _ => e.elim))
      subst ez
      have ez' : z = .bool b := rz
      subst ez'
      have hn : n0 - i = (n0 - (i + 1)) + 1 := by omega
      have hm : n0 - (n0 - (i + 1)) = i + 1 := by omega
      rw [hn]
      have st4 : tn (i + 1) s4.heap := T.keep _ _ _ st2 fun b hb o e => (I4.pin (b, o) (List.mem_append_right _ (List.mem_append_right _ (mem_pinsAt hb e)))).1
      have fr4 : ∀ b ∈ fp, H4 b = none := fun b hb => by
        obtain ⟨o, e, d⟩ := T.obj _ _ st2 b hb
        exact (I4.pin (b, o) (List.mem_append_right _ (List.mem_append_right _ (mem_pinsAt hb e)))).2.1
      refine seg_at (seg_yield rfl rfl rfl ⟨b, rfl, fun hb => ?_, fun hb => ?_⟩)
      · rw [hb, if_pos rfl] at q
        rw [hm]
        exact ⟨⟨⟨H4, _, I4.unpinned, st4, stat fo fr4, q⟩, sz4⟩, fun s'' gi => seg_again rfl (ih (i + 1) s'' s'' (by omega) gi)⟩
      · rw [hb, if_neg Bool.false_ne_true] at q
        exact ⟨H4, _, I4.unpinned, q⟩
    · refine seg_bind_wrap (eA ▸ wpAny_mono (T.done Xg eP eW eK eC i _ s [y] H (fun _ _ => False) I fo st stop) (fun r s1 ⟨hr, I1⟩ => ?_) fun _ _ e => e.elim)
      subst hr
      exact seg_end (.ok .next) ⟨rfl, H, y, I1, qt⟩
/-- the generator as its consumer has it -/
def CSt (M : Model) (A : Around) (R : GenEnd) (Y : Protocol) (GI : Nat → Shared → Prop) (g n0 i : Nat) (s : Shared) : Prop :=
  GI i s ∧ ∃ gs, s.gens[g]? = some gs ∧ ∀ s'', GI i s'' → gs.Goes M A R Y (n0 - i) (.send .none) s''
theorem Inv.gens {Xg : Cx} {pins : List (Addr × Obj)} {σ : L2.St} {H : Hp} {s : Shared} {gs : Array GenState} (I : Inv Xg pins σ H s) (h : AllBare gs) : Inv Xg pins σ H { s with gens := gs } :=
  ⟨I.ok, I.os, h, I.base, I.loc, I.cell, I.free, I.freeC, I.pin, I.hok, I.len⟩
theorem GIn.set {Xg : Cx} {i : Nat} {s : Shared} {gs : GenState} (h : GIn Xg fp tn ga go g W i s) (hb : gs.bare = true) : GIn Xg fp tn ga go g W i (s.setGen g gs) := by
  obtain ⟨⟨H, y, I, st, fo, w⟩, sz⟩ := h
  refine ⟨⟨H, y, Inv.gens I (L2.allBare_setGen I.bare hb), st, fo, w⟩, ?_⟩
  rw [GenW.setGen_size]
  exact sz
theorem GEd.set {Xg : Cx} {s : Shared} {gs : GenState} {Qe : Hp → Prop} (h : GEd Xg ga go Qe s) (hb : gs.bare = true) : GEd Xg ga go Qe (s.setGen g gs) := by
  obtain ⟨H, y, I, q⟩ := h
  exact ⟨H, y, Inv.gens I (L2.allBare_setGen I.bare hb), q⟩
theorem gen_next {Xg : Cx} {E : Value → Shared → Prop} {s : Shared} {i : Nat} (hc : go.cls = .type "generator") (hd : ∃ nm qn, go.data = .fields #[.int g 0, nm, qn]) (hs : go.slots = #[]) (hh : A.handled = none) (hroom : A.depth < recursionLimit)
    (h : CSt (model X.prog X.w) A.in1 (RG (GEd Xg ga go Qt)) (YG (GIn Xg fp tn ga go g W) (GEd Xg ga go Qf) n0) (GIn Xg fp tn ga go g W) g n0 i s) :
    wpAny (model X.prog X.w) A (pyNext (.ref ga)) (fun r s' => (r = some (.bool true) ∧ i < n0 ∧ CSt (model X.prog X.w) A.in1 (RG (GEd Xg ga go Qt)) (YG (GIn Xg fp tn ga go g W) (GEd Xg ga go Qf) n0) (GIn Xg fp tn ga go g W) g n0 (i + 1) s') ∨
      (r = some (.bool false) ∧ GEd Xg ga go Qf s') ∨ (r = none ∧ GEd Xg ga go Qt s')) E s := by
  obtain ⟨gi, gs, hgs, hgo⟩ := h
  obtain ⟨nm, qn, hd⟩ := hd
  have hg : s.heap.IsGen ga g := by
    obtain ⟨⟨H, y, I, _⟩, _⟩ := gi
    exact ⟨go, nm, qn, (I.pin (ga, go) (List.mem_append_right _ (List.mem_singleton.mpr rfl))).1, hc, hd, hs⟩
  have hl : s.heap.NoLimit := by
    obtain ⟨⟨H, y, I, _⟩, _⟩ := gi
    exact I.nolimit
  refine wpAny_pyNext_genexpQ (P := fun _ _ s₁ => GEd Xg ga go Qt s₁) hh hl hroom hg hgs (hgo _ (gi.set rfl)) (fun v s₁ gs' hb hv => ?_) (fun s₁ hp h' hk => ?_)
  · obtain ⟨b, rfl, ht, hf⟩ := hv
    cases b with
    | false => exact .inr (.inl ⟨rfl, (hf rfl).set hb⟩)
    | true =>
      obtain ⟨g1, g2⟩ := ht rfl
      cases hn : n0 - i with
      | zero =>
        rw [hn] at g1 g2
        exact (g2 s₁ g1).elim
      | succ m =>
        rw [hn] at g1 g2
        have e : n0 - (m + 1 - 1) = i + 1 := by omega
        rw [e] at g1 g2
        refine .inl ⟨rfl, by omega, g1.set hb, gs', L2.setGen_at (Nat.lt_of_succ_le g1.sz), fun s'' gi'' => ?_⟩
        have e2 : n0 - (i + 1) = m := by omega
        rw [e2]
        exact g2 s'' gi''
  · obtain ⟨H, y, I, q⟩ := hp
    refine .inr (.inr ⟨rfl, H, y, ?_, q⟩)
    have I2 := Inv.gens (gs := (s₁.setGen g .finished).gens) I (L2.allBare_setGen I.bare rfl)
    exact I2.kept (t' := s₁.toks) hk
theorem all_loopX {Xg : Cx} {R : Result → Shared → Prop} (hc : go.cls = .type "generator") (hd : ∃ nm qn, go.data = .fields #[.int g 0, nm, qn]) (hs : go.slots = #[]) (hh : A.handled = none) (hroom : A.in1.depth < recursionLimit)
    (hT : ∀ s', GEd Xg ga go Qt s' → R (.ok (.ret (.bool true))) s') (hF : ∀ s', GEd Xg ga go Qf s' → R (.ok (.ret (.bool false))) s') : ∀ (k i : Nat) (s : Shared), n0 - i = k →
    CSt (model X.prog X.w) A.in1.in1 (RG (GEd Xg ga go Qt)) (YG (GIn Xg fp tn ga go g W) (GEd Xg ga go Qf) n0) (GIn Xg fp tn ga go g W) g n0 i s → codeAny (model X.prog X.w) A (.builtin "all.loop" ⟨[.ref ga], []⟩) R s := by
  intro k
  induction k with
  | zero =>
    intro i s hk cs
    refine codeAny_builtin F.entry_all_loop ?_
    rw [Around.under_plainId F.plain_all_loop _]
    show wpAny _ A.in1 (pyNext (.ref ga) >>= _) _ _ s
    refine wpAny_bind (wpAny_mono (gen_next hc hd hs hh hroom cs) (fun r s' h => ?_) fun _ _ e => e)
    rcases h with ⟨rfl, lt, _⟩ | ⟨rfl, q⟩ | ⟨rfl, q⟩
    · omega
    · refine wpAny_bind (wpAny_holding (wpAny_truthy_bool ?_))
      refine wpAny_bind (wpAny_letGo ?_)
      simp only [Bool.false_eq_true, if_false]
      exact wpAny_bind (wpAny_rule (wpAny_pure (hF s' q)))
    · exact wpAny_bind (wpAny_rule (wpAny_pure (hT s' q)))
  | succ k ih =>
    intro i s hk cs
    refine codeAny_builtin F.entry_all_loop ?_
    rw [Around.under_plainId F.plain_all_loop _]
    show wpAny _ A.in1 (pyNext (.ref ga) >>= _) _ _ s
    refine wpAny_bind (wpAny_mono (gen_next hc hd hs hh hroom cs) (fun r s' h => ?_) fun _ _ e => e)
    rcases h with ⟨rfl, lt, cs'⟩ | ⟨rfl, q⟩ | ⟨rfl, q⟩
    · refine wpAny_bind (wpAny_holding (wpAny_truthy_bool ?_))
      refine wpAny_bind (wpAny_letGo ?_)
      simp only [if_true]
      exact wpAny_pure ⟨plainId_quiet F.plain_all_loop _, ih (i + 1) s' (by omega) cs'⟩
    · refine wpAny_bind (wpAny_holding (wpAny_truthy_bool ?_))
      refine wpAny_bind (wpAny_letGo ?_)
      simp only [Bool.false_eq_true, if_false]
      exact wpAny_bind (wpAny_rule (wpAny_pure (hF s' q)))
    · exact wpAny_bind (wpAny_rule (wpAny_pure (hT s' q)))
end
end Ey
set_option maxHeartbeats 4000000
namespace Ey
open PySem PySem.Spec PyProof.Rows L2 GxR
section
variable {X : Cx} {pins : List (Addr × Obj)} {σ : L2.St} {H : Hp} {s : Shared}
/-- the generator's frame begins -/
theorem inv_gx {A : Around} {sc : Scope} {x : Str} {fp : List Addr} {code : Value} {h5 : Heap} {g5 : Array GenState} {t5 : Nat} {m : Str → Option Value} (I : Inv X pins σ H s)
    (hk : sc.kind = .function) (hc : ∀ y ∈ sc.names, y.2 ≠ .cell) (hf : ∀ y ∈ sc.names, y.2 ≠ .free) (hns : h5.Ns s.heap.objs.size m) (keep : ∀ b o, s.heap.get? b = some o → h5.get? b = some o) (bare : AllBare g5) (hh : A.handled = none)
    (fr : A.frames = some (genEnv sc [] s.heap.objs.size code builtinsNs X.env :: X.stack)) (ho : ∀ b ∈ fp, FpOk X pins H b ∧ b < s.heap.objs.size) :
    Inv (gxOf X A s H (genEnv sc [] s.heap.objs.size code builtinsNs X.env) x fp) [] [none] H { s with heap := h5, gens := g5, toks := t5 } := by
  have nofs : ∀ b ∈ fp, b ∉ frs X.stack := fun b hb z => by
    obtain ⟨⟨_, h1, h2, _⟩, _⟩ := ho b hb
    rcases List.mem_cons.mp (I.stkSub b z) with q | q
    · exact h1 q
    · exact h2 q
  refine ⟨⟨I.ok.mod, hk, I.ok.glob, rfl, Nat.le_refl _, fun y z c e _ => ?_, fun y hy => ?_, fun y c e _ => ?_, fun _ => hh, fr, .inr ⟨rfl, rfl⟩, fun b hb => ⟨Nat.ne_of_lt (ho b hb).2, fun y c e => ?_⟩, fun b o e => I.bs b o e, Nat.le_trans I.ok.bsz I.sz, fun b o e hb => ?_, fun b hb => nofs b hb, I.stack, I.stkFree⟩,
    rfl, bare, Un.kept keep, ⟨m, hns, fun i y v h1 h2 _ => ?_⟩, fun y c e => ?_, I.hok.fresh (Nat.le_refl _), fun y c e => ?_, fun p hp => ?_, I.hok.kept keep, rfl⟩
  · exact absurd e (by intro z; cases z)
  · have hy' : sc.names.lookup y = some .cell ∨ sc.names.lookup y = some .free := hy
    rcases hy' with q | q
    · exact absurd rfl (hc _ (PySem.mem_of_lookup q))
    · exact absurd rfl (hf _ (PySem.mem_of_lookup q))
  · exact absurd e (by intro z; cases z)
  · exact absurd e (by intro z; cases z)
  · obtain ⟨⟨_, _, _, h3, _⟩, _⟩ := ho b hb
    rcases h3 with q | q
    · exact I.ok.noex b o e q
    · exact Nat.lt_irrefl _ (Nat.lt_of_lt_of_le (Heap.lt_size e) (Nat.le_trans I.ok.bsz q))
  · cases i with
    | zero => cases h2
    | succ i => cases h2
  · exact absurd e (by intro z; cases z)
  · exact absurd e (by intro z; cases z)
  · exact absurd hp (by intro z; cases z)
/-- all(e for x in it): the table of the running def's code may have grown; then, item by item -/
def tAllX (P : Addr) (wi : TI) (te : TE) : TE := fun σ H Q => wi σ H fun J H1 => TabG H1 P ∧ ∀ H2, Tabbed P H1 H2 → ∃ (n0 : Nat) (W : Nat → Hp → Prop), W 0 H2 ∧
  ∀ i H', W i H' → (i < n0 ∧ J.go i H' ∧ ∀ v H'', J.yld i H' v H'' → te [some v] H'' fun y H3 => ∃ b, y = .bl b ∧ if b = true then W (i + 1) H3 else Q (.bl false) H3) ∨ (J.stop i H' ∧ Q (.bl true) H')
theorem pe_allX {c P : Addr} {elt iter : Expr} {x : Str} {px p pos gp : Pos} {sc : Scope} {wi : TI} {te : TE} {k : Nat}
    (hr : Room (k + 2) X.A) (hg : Gl X "all") (hm : X.mg "all" = none) (hb : bootBuiltins "all" = some (.builtin "all")) (TB : TabB X.base X.mg c P) (hco : X.env.code = .ref c) (S : GenS X.env sc x) (nf : ∀ y ∈ sc.names, y.2 ≠ .free)
    (hi : PI X (.Name x px) iter wi)
    (hel : ∀ (A : Around) (s : Shared) (H : Hp) (C : Addr) (code : Value) (fp : List Addr), Room k A → PE (gxOf X A s H (genEnv sc [] C code builtinsNs X.env) x fp) elt te)
    (hs : ∀ v, genFold iter X.env v = pure v) (hcl : cloFrom X.env.cells sc.names [] = [] := by rfl)
    (he : starEach [.GeneratorExp elt [⟨.Name x px, iter, [], 0⟩] sc gp] X.env = (false, eval (.GeneratorExp elt [⟨.Name x px, iter, [], 0⟩] sc gp) X.env) :: starEach [] X.env := by rfl) :
    PE X (.Call (.Name "all" p) [.GeneratorExp elt [⟨.Name x px, iter, [], 0⟩] sc gp] [] pos) (tAllX P wi te) := by
  refine ⟨fun pins s σ H Q I h => wpAny_Call_Name_kw (ld_blt I hg hm hb ?_)⟩
  refine PyProof.Rows.callWith_builtin1 ?_ he (by rfl)
  rw [he]
  show wpAny _ _ (spliced ((false, eval (.GeneratorExp elt [⟨.Name x px, iter, [], 0⟩] sc gp) X.env) :: backTo pos (starEach [] X.env))) _ _ s
  refine Calls.spliced_cons (wpAny_GeneratorExp_make S.co (cl := []) (hcl ▸ closure_ok S.free) S.cell S.dot S.kind (Nat.lt_of_le_of_lt (by omega) hr.dp) ?_ hs)
  refine thn (hi.run pins s σ H _ I h) fun v s1 h1 => thn h1 fun itv s2 h2 => ?_
  obtain ⟨it, fp, tn, J, H1, e, J1, T, st, fo, ⟨ps, tP, tok⟩, q⟩ := h2
  subst e
  have gP : s2.heap.get? P = some { cls := .none, data := .fields ps } := J1.hok P _ tP
  have head : PySem.W.CodeHd s2.heap c P := TB.code.keeps fun b u e => J1.bk b u e
  have ncP : cStatics ≠ P := fun e => by
    obtain ⟨_, ns, _⟩ := J1.nolimit
    obtain ⟨o', es, ep, g', d', _⟩ := ns
    rw [e, gP] at g'
    cases g'
    cases d'
  have fpP : ∀ b ∈ fp, b ≠ P := fun b hb z => by
    have := (fo b hb).1
    rw [z, tP] at this
    cases this
  refine ⟨J1.nolimit, ?_⟩
  have go : ∀ (code : Value) (hN : Heap) (tk : Nat) (qs : Array Value), Heap.ExtBut P s2.heap hN → hN.get? P = some { cls := .none, data := .fields qs } → (∃ more, qs = ps ++ more) → TriplesOk qs.toList →
      wpAny (model X.prog X.w) X.A (builtinsFor X.env.globals X.env.builtins) (fun bi s₄ =>
        ∀ h', h'.Ns s₄.heap.objs.size (fun y => if y = ".0" then some (.ref it) else none) → Heap.SameBut s₄.heap.objs.size (s₄.heap.push { cls := .type "frame", data := .dict #[] }) h' →
          wpAny (model X.prog X.w) X.A (spliced (backTo pos (starEach [] X.env))) (fun us s' => wpAny (model X.prog X.w) X.A (call (.builtin "all") (.ref h'.objs.size :: us)) (EP X pins σ Q) X.xe s') X.xe { s₄ with
            gens := s₄.gens.push (.fresh (.compStart (.GeneratorExp elt [⟨.Name x px, iter, [], 0⟩] sc gp) 0 (.ref it) .none (genEnv sc [] s₄.heap.objs.size code bi X.env))),
            toks := s₄.toks + 1 + 1 + 1,
            heap := h'.push { cls := .type "generator", data := .fields #[.int s₄.gens.size 0, .str "<genexpr>" (s₄.toks + 1), .str (X.env.qual ++ "<genexpr>") (s₄.toks + 1 + 1)] } }) X.xe { s2 with heap := hN, toks := tk } := by
    intro code hN tk qs ext gPN more okN
    obtain ⟨bm, obm, e1, e2, e3, e4, e5, e6, e7, e8⟩ := TB.bm
    have stay : ∀ b u, b ≠ P → s2.heap.get? b = some u → hN.get? b = some u := fun b u nb e => ext b u nb e
    obtain ⟨mo, em⟩ := more
    subst em
    have J2 : Inv X pins σ (upd H1 P (.tbl (ps ++ mo))) { s2 with heap := hN, toks := tk } := inv_tab (more := mo) (h' := hN) (g' := s2.gens) (d' := s2.drawn) (t' := tk) J1 tP stay gPN J1.bare
    refine wpAny_builtinsFor (m := X.mg) (by rw [J1.ok.glob]; exact (J1.mod.glob.keeps J1.bk).extBut ext TB.gP) e1 e2 (stay _ _ e4 (J1.bk _ _ e5)) e6 e7 e8 ?_
    intro h' hn' hs'
    refine Calls.spliced_nil ?_
    obtain ⟨n0, W, w0, hW⟩ := q (upd H1 P (.tbl (ps ++ mo))) ⟨⟨ps ++ mo, upd_same, okN⟩, fun b nb => upd_ne nb⟩
    have sz' : h'.objs.size = hN.objs.size + 1 := by
      rw [hs'.1, Heap.size_push]
    have keep' : ∀ b o, hN.get? b = some o → h'.get? b = some o := fun b o e => hs'.extBut b o (Nat.ne_of_lt (Heap.lt_size e)) (Heap.get?_push_of_some _ e)
    generalize hgo : ({ cls := .type "generator", data := .fields #[.int s2.gens.size 0, .str "<genexpr>" (tk + 1), .str (X.env.qual ++ "<genexpr>") (tk + 1 + 1)] } : Obj) = gob
    have gc : gob.cls = .type "generator" := by rw [← hgo]
    have gd : ∃ nm qn, gob.data = .fields #[.int s2.gens.size 0, nm, qn] := ⟨_, _, by rw [← hgo]⟩
    have gs : gob.slots = #[] := by rw [← hgo]
    show wpAny (model X.prog X.w) X.A (call (.builtin "all") [.ref h'.objs.size]) (EP X pins σ Q) X.xe { s2 with
            gens := s2.gens.push (.fresh (.compStart (.GeneratorExp elt [⟨.Name x px, iter, [], 0⟩] sc gp) 0 (.ref it) .none (genEnv sc [] hN.objs.size code builtinsNs X.env))),
            toks := tk + 1 + 1 + 1, heap := h'.push gob }
    have keep5 : ∀ b o, hN.get? b = some o → (h'.push gob).get? b = some o := fun b o e => Heap.get?_push_of_some _ (keep' b o e)
    have atG : (h'.push gob).get? h'.objs.size = some gob := Heap.get?_push_size _ (by
      obtain ⟨nm, qn, e⟩ := gd
      exact Obj.isFreed_of_fields e)
    -- the frame
    generalize hge : genEnv sc [] hN.objs.size code builtinsNs X.env = ge
    have fpl : ∀ b ∈ fp, b < hN.objs.size := fun b hb => by
      obtain ⟨o, e, _⟩ := T.obj _ _ st b hb
      exact Heap.lt_size (stay b o (fpP b hb) e)
    have foN : ∀ b ∈ fp, FpOk X pins (upd H1 P (.tbl (ps ++ mo))) b := fun b hb => ⟨by rw [upd_ne (fpP b hb)]; exact (fo b hb).1, (fo b hb).2⟩
    have stN : tn 0 (h'.push gob) := T.keep _ _ _ st fun b hb o e => keep5 b o (stay b o (fpP b hb) e)
    have hAh : (X.A.in1.in1.over (gcode elt iter x px sc gp it ge) []).handled = none := hr.hd
    have hAf : (X.A.in1.in1.over (gcode elt iter x px sc gp it ge) []).frames = some (ge :: X.stack) := by
      show pushEnvs (gcode elt iter x px sc gp it ge).envs (pushEnvs [] X.A.frames) = _
      rw [J1.ok.frames]
      rfl
    have IG0 := inv_gx (A := X.A.in1.in1.over (gcode elt iter x px sc gp it ge) []) (sc := sc) (x := x) (fp := fp) (code := code) (h5 := h'.push gob)
      (g5 := s2.gens.push (.fresh (.compStart (.GeneratorExp elt [⟨.Name x px, iter, [], 0⟩] sc gp) 0 (.ref it) .none ge))) (t5 := tk + 1 + 1 + 1) J2 S.kind S.cell nf (hn'.push gob) keep5 (AllBare.push J1.bare rfl) hAh (by rw [hAf, ← hge]) (fun b hb => ⟨foN b hb, fpl b hb⟩)
    rw [hge] at IG0
    generalize hXg : gxOf X (X.A.in1.in1.over (gcode elt iter x px sc gp it ge) []) { s2 with heap := hN, toks := tk } (upd H1 P (.tbl (ps ++ mo))) ge x fp = Xg at IG0
    have gne : ∀ b ∈ fp, h'.objs.size ≠ b := fun b hb => Nat.ne_of_gt (Nat.lt_trans (fpl b hb) (by omega))
    have fpXg : ∀ b ∈ fp, FpOk Xg [(h'.objs.size, gob)] (upd H1 P (.tbl (ps ++ mo))) b := fun b hb => by
      rw [← hXg]
      refine ⟨(foN b hb).1, ?_, fun z => ?_, .inl hb, fun y cc e => ?_, fun p hp => ?_⟩
      · show b ≠ ge.locals
        rw [← hge]
        exact Nat.ne_of_lt (fpl b hb)
      · obtain ⟨_, q1, q2, _⟩ := foN b hb
        rcases List.mem_cons.mp (J2.stkSub b z) with q | q
        · exact q1 q
        · exact q2 q
      · have e' : ge.cells.lookup y = some cc := e
        rw [← hge] at e'
        cases e'
      · have hp' : p ∈ [(h'.objs.size, gob)] := hp
        rw [List.mem_singleton.mp hp']
        exact gne b hb
    have IG : Inv Xg [(h'.objs.size, gob)] [none] (upd H1 P (.tbl (ps ++ mo))) { s2 with heap := h'.push gob, gens := s2.gens.push (.fresh (.compStart (.GeneratorExp elt [⟨.Name x px, iter, [], 0⟩] sc gp) 0 (.ref it) .none ge)), toks := tk + 1 + 1 + 1 } := by
      refine IG0.pins_of fun p hp => ?_
      rw [List.mem_singleton.mp hp]
      have big : hN.objs.size < h'.objs.size := by omega
      refine ⟨atG, J2.hok.fresh (Nat.le_of_lt big), ?_, ?_, fun v e => ?_⟩
      · rw [← hXg]
        show h'.objs.size ≠ ge.locals
        rw [← hge]
        exact Nat.ne_of_gt big
      · rw [← hXg]
        intro z
        rcases List.mem_cons.mp (J2.stkSub _ z) with q | q
        · have l := J2.lt
          rw [← q] at l
          exact absurd (Nat.lt_trans big l) (Nat.lt_irrefl _)
        · exact J2.nofs (Nat.le_of_lt big) q
      · obtain ⟨nm, qn, e2⟩ := gd
        have e' : gob.data = .cell v := e
        rw [e2] at e'
        cases e'
    have back : ∀ (b : Bool) (s' : Shared), GEd Xg h'.objs.size gob (Q (.bl b)) s' → EP X pins σ Q (.bool b) s' := fun b s' ⟨H', y, K, q⟩ => by
      rw [← hXg] at K
      exact ⟨.bl b, H', J2.call' (ch := fp) K.os K.base K.hok K.bare (fun c hc => ⟨(foN c hc).2.2.2.1, (foN c hc).2.1, (foN c hc).2.2.2.2.1, (foN c hc).2.2.2.2.2⟩), rfl, q⟩
    have loopS := seg_gloop (X := X) (A := X.A.in1.in1) (sG := { s2 with heap := hN, toks := tk }) (HG := upd H1 P (.tbl (ps ++ mo))) (ge := ge) (fp := fp) (tn := tn) (ga := h'.objs.size) (go := gob) (g := s2.gens.size) (W := W) (Qf := Q (.bl false)) (Qt := Q (.bl true))
      (gp := gp) (sc := sc) (elt := elt) (iter := iter) (n0 := n0) (te := te) T (by rw [← hge]; exact S.loc) (by rw [← hge]; exact S.co) (by
        rw [← hge]
        refine hel _ _ _ _ _ _ ⟨hr.hd, ?_, ?_⟩
        · have := hr.dp
          show X.A.depth + 0 + 1 + 3 * k + 5 < _
          omega
        · have := hr.un
          show X.A.units + 1 + 1 + 0 + 3 + 16 * k + 200 < _
          omega) hW
    rw [hXg] at loopS
    have GI0 : GIn Xg fp tn h'.objs.size gob s2.gens.size W 0 { s2 with heap := h'.push gob, gens := s2.gens.push (.fresh (.compStart (.GeneratorExp elt [⟨.Name x px, iter, [], 0⟩] sc gp) 0 (.ref it) .none ge)), toks := tk + 1 + 1 + 1 } :=
      ⟨⟨_, _, IG, stN, fpXg, w0⟩, by show s2.gens.size + 1 ≤ (s2.gens.push _).size; rw [Array.size_push]; exact Nat.le_refl _⟩
    refine call_function_tree F.kind_all F.plain_all F.entry_all (F.args_all1 _) ?_
    unfold Builtin.«all»
    refine wpAny_bind (m := oneArg "all" _) (wpAny_pure ?_)
    refine wpAny_bind (wpAny_pyIter_gen ⟨gob, _, _, atG, gc, gd.choose_spec.choose_spec, gs⟩ ?_)
    refine wpAny_pure ⟨plainId_quiet F.plain_all_loop _, all_loopX (X := X) (A := X.A) (R := fun r s' => match r with | .ok (.ret v) => EP X pins σ Q v s' | .ok _ => False | .error e => X.xe e s') (Xg := Xg) (Qf := Q (.bl false)) (Qt := Q (.bl true)) (W := W) (fp := fp) (tn := tn) (n0 := n0) gc gd gs hr.hd (Nat.lt_of_le_of_lt (by show X.A.depth ≤ X.A.depth + 3 * (k + 2) + 5; omega) hr.dp) (fun s' q => back true s' q) (fun s' q => back false s' q) n0 0 _ (Nat.sub_zero _) ⟨GI0, _, Array.getElem?_push_size .., fun s'' gi => ⟨rfl, ?_⟩⟩⟩
    have loop := loopS n0 0 s'' s'' (Nat.sub_zero _) gi
    obtain ⟨_, _, _, sti, _⟩ := gi.ex
    show Seg _ X.A.in1.in1 _ _ _ s'' _ ((compStart (.GeneratorExp elt [⟨.Name x px, iter, [], 0⟩] sc gp) 0 (.ref it) .none ge).onRaise (leaving ge)) [] s''
    unfold compStart
    rw [Sem.onRaise_eq_wrap]
    show Seg _ X.A.in1.in1 _ _ _ s'' _ ((ask >>= _).wrap _ _ _ _) [] s''
    refine seg_bind_wrap (wpAny_askSetting ?_)
    split
    · exact seg_again rfl loop
    · first
        | exact seg_bind_wrap (wpAny_rule (seg_bind_wrap (wpAny_standAt (seg_bind_wrap (T.self _ 0 _ _ _ sti (seg_again rfl loop))))))
        | (refine seg_bind_wrap (wpAny_rule ?_); show Seg _ X.A.in1.in1 _ _ _ s'' _ ((standAt iter.pos >>= _).wrap _ _ _ _) [] s''; exact seg_bind_wrap (wpAny_standAt (seg_bind_wrap (T.self _ 0 _ _ _ sti (seg_again rfl loop)))))
  cases am : codeAmong gp ps.toList with
  | none =>
    refine wpAny_genexprCodeX hco (head.code gP tok) (head.tab gP) am fun c' hN tk ext hge hlt hc' _ tab' _ => ?_
    obtain ⟨o1, vs, f1, tf, fl, tg, inF, tx, tt, op, _, _, _, _, _, _, _, _, _, tr, _⟩ := hc'
    exact go _ hN tk _ ext tab'.2 ⟨_, rfl⟩ tr
  | some cv =>
    refine wpAny_genexprCode_hit hco (head.code gP tok) am ?_
    exact go cv s2.heap s2.toks ps (Heap.ExtBut.refl _ _) gP ⟨#[], by simp⟩ tok
end
end Ey
set_option maxHeartbeats 4000000
namespace Ey
open PySem PySem.Spec PyProof.Rows L2 GxR PySem.SeqAt
open AutoSeq1 (wpAny_loadPart')
open MeetsSeq MeetsSeq2 MeetsSeq3
/-! ### a dict beside a text -/
theorem dict_eq_declines_str (l : Addr) (es : Array DictEntry) (n : Nat) (dd : Option Addr) (sl : Array (Option Value)) (b : Str) (u : Tok) :
    Meets (Builtin.«dict.__eq__» ⟨[.ref l, .str b u], []⟩) (fun _ R s => s.heap.get? l = some { cls := .type "dict", dict := dd, data := .dict es n, slots := sl } ∧ R (.ok (.ret .notImplemented)) s) :=
  .of_wp fun prog w A R s h => by obtain ⟨hp, g, d, tk, os⟩ := s; obtain ⟨hl, h⟩ := h; have f1 := F.sub_str_dict; wp_walk using wpAny_loadPart' hl, wpAny_load hl; exact ⟨_, rfl, h⟩
theorem dict_ne_declines_str (l : Addr) (es : Array DictEntry) (n : Nat) (dd : Option Addr) (sl : Array (Option Value)) (b : Str) (u : Tok) :
    Meets (Builtin.«dict.__ne__» ⟨[.ref l, .str b u], []⟩) (fun _ R s => s.heap.get? l = some { cls := .type "dict", dict := dd, data := .dict es n, slots := sl } ∧ R (.ok (.ret .notImplemented)) s) :=
  .of_wp fun prog w A R s h => by obtain ⟨hp, g, d, tk, os⟩ := s; obtain ⟨hl, h⟩ := h; have f1 := F.sub_str_dict; wp_walk using wpAny_loadPart' hl, wpAny_load hl; exact ⟨_, rfl, h⟩
theorem str_eq_declines_dict (b : Str) (u : Tok) (l : Addr) (es : Array DictEntry) (n : Nat) (dd : Option Addr) (sl : Array (Option Value)) :
    Meets (Builtin.«str.__eq__» ⟨[.str b u, .ref l], []⟩) (fun _ R s => s.heap.get? l = some { cls := .type "dict", dict := dd, data := .dict es n, slots := sl } ∧ R (.ok (.ret .notImplemented)) s) :=
  .of_wp fun prog w A R s h => by obtain ⟨hp, g, d, tk, os⟩ := s; obtain ⟨hl, h⟩ := h; wp_walk using wpAny_loadPart' hl, wpAny_load hl; exact ⟨_, rfl, h⟩
theorem str_ne_declines_dict (b : Str) (u : Tok) (l : Addr) (es : Array DictEntry) (n : Nat) (dd : Option Addr) (sl : Array (Option Value)) :
    Meets (Builtin.«str.__ne__» ⟨[.str b u, .ref l], []⟩) (fun _ R s => s.heap.get? l = some { cls := .type "dict", dict := dd, data := .dict es n, slots := sl } ∧ R (.ok (.ret .notImplemented)) s) :=
  .of_wp fun prog w A R s h => by obtain ⟨hp, g, d, tk, os⟩ := s; obtain ⟨hl, h⟩ := h; wp_walk using wpAny_loadPart' hl, wpAny_load hl; exact ⟨_, rfl, h⟩
end Ey
set_option maxHeartbeats 2000000
namespace Ey
open PySem PySem.Spec PyProof.Rows L2 GxR
/-! ### a law's own call: nothing is under way around it, so that repr is told of data -/
def LawOk (P : Program) (w : World) (K : PySem.W.Frag) (mg : Str → Option Value) (base : Heap) (f : Addr) (fd : FuncData) (x : Str) (sp : Sp) : Prop :=
  ∀ (s : Shared) (H : Hp) (u : Value) (v : V) (Q : VK), Env0 P w K mg base callerA [] s H → BindsTo s fd ⟨[u], []⟩ [(x, u)] → RelV v u → sp [v] H Q E0 →
    codeAny (model P w) callerA (.call (.ref f) ⟨[u], []⟩) (CR CX0 [] P w H s Q E0) s
section
variable {P : Program} {w : World} {K : PySem.W.Frag} {mg : Str → Option Value} {base : Heap}
theorem law_ok {x qual p : Str} {st : Stmt} {f : Addr} {fd : FuncData} {N : List Str} {k : Nat} {sp : Sp} (F : Fun K x qual st f fd) (S : FnScope N [p] (defScope st)) (hr : Room (k + 1) callerA)
    (body : ∀ (cdv : Value) (s : Shared) (H : Hp) (v : V) (Q : VK), Room k (callerA.deeper (envOfC qual (defScope st) s.heap.objs.size f cdv)) → sp [v] H Q E0 →
      ∃ t, PSs (cxOf CX0 P w K mg base N qual (defScope st) f cdv callerA [] s H E0).nox (defBody st) t ∧ t { nx := fun _ H' => Q .non H', rt := Q } (start N [v]) H) :
    LawOk P w K mg base f fd p sp := by
  obtain ⟨oc, od, kV, doc, pm, an, cdv, ct, osl, rfl, lk, code⟩ := F.ex
  intro s H u v Q e0 hb rv hsp
  have inK : K.In s.heap := e0.mod.kin.keeps fun b o e => (e0.bs b o e).1
  have noL : s.heap.NoLimit := e0.mod.nolimit.keeps fun b o e => (e0.bs b o e).1
  have kinds : ∀ y ∈ [p].zip [u], (defScope st).names.lookup y.1 = some .local ∨ ((defScope st).names.lookup y.1 = some .cell ∧ ((cellsFrom (s.heap.objs.size + 1) (defScope st).names []).lookup y.1).isSome = true) := fun ⟨n, z⟩ hy => by
    rcases S.par n (List.of_mem_zip hy).1 with q | q
    · exact .inl q
    · exact .inr ⟨q, PySem.W.cellsFrom_some _ _ _ (.inl q)⟩
  refine codeAny_call_function (Nat.lt_of_le_of_lt (by omega) hr.dp) (inK _ _ lk) rfl S.co S.gen rfl (PySem.W.codeRec_of inK code) (hb _ _ _ _ ?_)
  refine wpAny_newFunctionEnv_cells (binds := [p].zip [u]) S.kind kinds fun env he s1 xc => ?_
  subst he
  refine ⟨noL.keeps xc.toInCall.keep, codeAny_func ?_⟩
  obtain ⟨t, dv, rd⟩ := body cdv s H v Q (hr.deeper _) hsp
  have I := inv_start (CX := CX0) (E := E0) (P := P) (w := w) (K := K) (mg := mg) (base := base) (N := N) (ps := [p]) (A := callerA) (vs := [v]) (us := [u]) S rfl e0 rfl (.cons rv .nil) xc
  refine wpAny_mono (dv.nox.run [] s1 (start N [v]) H _ I rd) (fun fl s' hs => ?_) fun e s' hs => hs
  cases fl with
  | next =>
    obtain ⟨σ', H', J, q⟩ := hs
    exact ⟨V.non, H', J.os, J.bare, J.base, J.hok, rfl, q⟩
  | ret z =>
    obtain ⟨y, σ', H', J, ry, q⟩ := hs
    exact ⟨y, H', J.os, J.bare, J.base, J.hok, ry, q⟩
  | brk =>
    obtain ⟨_, _, _, q⟩ := hs
    exact q.elim
  | cont =>
    obtain ⟨_, _, _, q⟩ := hs
    exact q.elim
end
end Ey
set_option maxHeartbeats 2000000
namespace Ey
open PySem PySem.Spec PyProof.Rows L2 GxR
/-- the tables cs stand empty in h, outside the written part -/
structure Tabs (K : PySem.W.Frag) (h : Heap) (cs : List (Addr × Addr)) : Prop where
  at_ : ∀ p ∈ cs, h.get? p.2 = some { cls := .none, data := .fields #[] }
  out : ∀ p ∈ cs, K.lookup p.2 = none
  hd : ∀ p ∈ cs, PySem.W.CodeHd h p.1 p.2
/-- what a heap says of the module's own builtins -/
def BMain (mg : Str → Option Value) (h : Heap) : Prop :=
  ∃ (bm : Addr) (ob : Obj), mg "__builtins__" = some (.ref bm) ∧ bm ≠ builtinsNs ∧ h.get? bm = some ob ∧ ob.cls = .type "module" ∧ ob.dict = some builtinsNs ∧ ob.data = .plain
section
variable {P : Program} {w : World} {K : PySem.W.Frag} {mg mb : Str → Option Value}
/-- the script at a, the tables cs: what is tracked ahead of the law -/
def start0 (K : PySem.W.Frag) (a : Addr) (o : Obj) (ns : List Int) (cs : List (Addr × Addr)) : Hp := fun b =>
  if b ∈ cs.map (·.2) then some (.tbl #[]) else if b = a ∧ K.lookup a = none then some (.frz o (.lst (ns.map V.int))) else none
theorem call_law {f a : Addr} {cs : List (Addr × Addr)} {fd : FuncData} {x : Str} {sp : Sp} {z : Shared} {vs : List Value} {ns : List Int}
    (KX : K.In z.heap) (hns : z.heap.Ns mainGlobals mg) (hb : z.heap.Ns builtinsNs mb) (hbb : ∀ x : Str, x ≠ "__name__" → mb x = bootBuiltins x) (lim : z.heap.NoLimit) (hsm : ∃ mm, z.heap.Ns sysModules mm) (hg : z.gens = #[])
    (T : Tabs K z.heap cs) (hbm : BMain mg z.heap) (ha : z.heap.get? a = some { cls := .type "list", data := .seq vs.toArray }) (hi : IntsAre vs ns) (hl : ns.length ≤ sizeLine)
    (F : ∀ base : Heap, K.In base → base.Ns mainGlobals mg → (∀ p ∈ cs, TabB base mg p.1 p.2) → (∃ mm, base.Ns sysModules mm) → LawOk P w K mg base f fd x sp) (hbind : ∀ (s : Shared) (u : Value), BindsTo s fd ⟨[u], []⟩ [(x, u)])
    (hsp : ∀ H : Hp, (∀ p ∈ cs, H p.2 = some (.tbl #[])) → SqL K H a (ns.map V.int) → sp [.ref a] H (fun v _ => v = .bl true) E0) :
    codeAny (model P w) callerA (.call (.ref f) ⟨[.ref a], []⟩) (fun r s' => r = .ok (.ret (.bool true)) ∧ OldK z.heap s'.heap ∧ s'.os = z.os ∧ AllBare s'.gens) z := by
  have rv := vals_ints hi
  have nV : vs.length = ns.length := hi.length
  have tabAt : ∀ b : Addr, b ∈ cs.map (·.2) → z.heap.get? b = some { cls := .none, data := .fields #[] } ∧ K.lookup b = none := fun b m => by
    obtain ⟨p, hp, rfl⟩ := List.mem_map.mp m
    exact ⟨T.at_ p hp, T.out p hp⟩
  have aT : a ∉ cs.map (·.2) := fun m => by
    have e := (tabAt a m).1
    rw [ha] at e
    injection e with e
    have e' : Data.seq vs.toArray _ = Data.fields #[] := congrArg Obj.data e
    cases e'
  let H : Hp := start0 K a { cls := .type "list", data := .seq vs.toArray } ns cs
  have HT : ∀ p ∈ cs, H p.2 = some (.tbl #[]) := fun p hp => if_pos (List.mem_map.mpr ⟨p, hp, rfl⟩)
  have Hcase : ∀ b, H b = none ∨ (b ∈ cs.map (·.2) ∧ H b = some (.tbl #[])) ∨ (b = a ∧ K.lookup a = none ∧ H b = some (.frz { cls := .type "list", data := .seq vs.toArray } (.lst (ns.map V.int)))) := fun b => by
    by_cases h1 : b ∈ cs.map (·.2)
    · exact .inr (.inl ⟨h1, if_pos h1⟩)
    · by_cases h2 : b = a ∧ K.lookup a = none
      · exact .inr (.inr ⟨h2.1, h2.2, (if_neg h1).trans (if_pos h2)⟩)
      · exact .inl ((if_neg h1).trans (if_neg h2))
  have HS : SqL K H a (ns.map V.int) := by
    cases hk : K.lookup a with
    | some o =>
      have e := KX a o hk
      rw [ha] at e
      injection e with e
      subst e
      exact .inr ⟨_, vs.toArray, _, hk, rfl, rfl, rfl, by rw [List.size_toArray, nV]; exact hl, by simpa using rv⟩
    | none => exact .inl (.inr ⟨_, (if_neg aT).trans (if_pos ⟨rfl, hk⟩)⟩)
  have HO : HOk P w H z.heap := fun b u e => by
    rcases Hcase b with q | ⟨m, q⟩ | ⟨m, _, q⟩
    · rw [q] at e
      cases e
    · rw [q] at e
      cases e
      exact (tabAt b m).1
    · rw [q] at e
      cases e
      subst m
      exact ⟨ha, by rw [List.length_map]; exact hl, vs, _, rv, ha⟩
  -- what is neither the script nor a table stands in the base
  have inB : ∀ {b : Addr} {o : Obj}, z.heap.get? b = some o → (∀ xs n, o.data ≠ .seq xs n) → o.data ≠ .fields #[] → (hidT z.heap H).get? b = some o := fun {b o} e h1 h2 => by
    refine hidT_get e ?_
    rcases Hcase b with q | ⟨m, q⟩ | ⟨m, _, q⟩
    · exact q
    · rw [(tabAt b m).1] at e
      injection e with e
      subst e
      exact absurd rfl h2
    · subst m
      rw [ha] at e
      injection e with e
      subst e
      exact absurd rfl (h1 _ _)
  have nsB : ∀ {b : Addr} {m : Str → Option Value}, z.heap.Ns b m → (hidT z.heap H).Ns b m := fun {b m} ⟨o, es, ep, e, d, r⟩ =>
    ⟨o, es, ep, inB e (fun xs n q => by rw [d] at q; cases q) (fun q => by rw [d] at q; cases q), d, r⟩
  have KB : K.In (hidT z.heap H) := fun b o e => by
    refine hidT_get (KX b o e) ?_
    rcases Hcase b with q | ⟨m, q⟩ | ⟨m, n, q⟩
    · exact q
    · rw [(tabAt b m).2] at e
      cases e
    · subst m
      rw [n] at e
      cases e
  have M : L2.Mod K mg (hidT z.heap H) := ⟨KB, nsB hns, ⟨mb, nsB hb, hbb⟩, let ⟨mc, h1, h2⟩ := lim; ⟨mc, nsB h1, h2⟩⟩
  have TB : ∀ p ∈ cs, TabB (hidT z.heap H) mg p.1 p.2 := fun p hp => by
    have pT := T.at_ p hp
    refine ⟨?_, ?_, fun q => ?_⟩
    · obtain ⟨o, us, fi, tf, fl, tg, nf, tx, tt, e1, r1, r2, r3, rest⟩ := T.hd p hp
      refine ⟨o, us, fi, tf, fl, tg, nf, tx, tt, inB e1 (fun xs n q => ?_) (fun q => ?_), r1, r2, r3, rest⟩
      · rw [r2] at q
        cases q
      · rw [r2] at q
        cases q
        simp at r3
    · obtain ⟨bm, ob, b1, b2, b3, b4, b5, b6⟩ := hbm
      refine ⟨bm, ob, b1, b2, fun q => ?_, fun q => ?_, inB b3 (fun xs n q => ?_) (fun q => ?_), b4, b5, b6⟩
      · obtain ⟨o, es, ep, e, d, _⟩ := hns
        rw [q, e] at b3
        injection b3 with b3
        subst b3
        rw [d] at b6
        cases b6
      · rw [q, pT] at b3
        injection b3 with b3
        subst b3
        cases b6
      · rw [b6] at q
        cases q
      · rw [b6] at q
        cases q
    · obtain ⟨o, es, ep, e, d, _⟩ := hns
      rw [q, pT] at e
      injection e with e
      subst e
      cases d
  have e0 : Env0 P w K mg (hidT z.heap H) callerA [] z H := ⟨rfl, M, fun b o e => of_hidT e, Nat.le_of_eq (hidT_size _ _), trivial, fun b m => absurd m List.not_mem_nil, HO, .of_eq hg⟩
  refine codeAny_mono (F _ KB (nsB hns) TB (let ⟨mm, q⟩ := hsm; ⟨mm, nsB q⟩) z H (.ref a) (.ref a) _ e0 (hbind z _) rfl (hsp H HT HS)) fun r s' h => ?_
  cases r with
  | error e => exact h.elim
  | ok fl =>
    cases fl with
    | next => exact h.elim
    | brk => exact h.elim
    | cont => exact h.elim
    | ret u =>
      obtain ⟨v, H', os, bare, un, ok', r', q⟩ := h
      have q' : v = .bl true := q
      subst q'
      obtain rfl : u = Value.bool true := r'
      have keep : ∀ b o, b ∉ cs.map (·.2) → z.heap.get? b = some o → s'.heap.get? b = some o := fun b o nb e => by
        rcases Hcase b with q | ⟨m, q⟩ | ⟨m, _, q⟩
        · exact un.keep b o e q List.not_mem_nil List.not_mem_nil
        · exact absurd m nb
        · have e1 := (HO b _ q).1
          rw [e] at e1
          injection e1 with e1
          subst e1
          exact (ok' b _ (un.frzs b _ _ q)).1
      have grown : ∀ b, b ∈ cs.map (·.2) → ∃ more : Array Value, s'.heap.get? b = some { cls := .none, data := .fields more } := fun b m => by
        obtain ⟨p, hp, rfl⟩ := List.mem_map.mp m
        obtain ⟨more, q⟩ := un.tbls p.2 #[] (HT p hp)
        exact ⟨_, ok' p.2 _ q⟩
      refine ⟨rfl, ⟨fun b o e => ?_, fun b o e => ?_⟩, os, bare⟩
      · by_cases m : b ∈ cs.map (·.2)
        · obtain ⟨more, g⟩ := grown b m
          obtain ⟨p, hp, rfl⟩ := List.mem_map.mp m
          rw [T.at_ p hp] at e
          injection e with e
          subst e
          exact .inr (.inl ⟨((T.hd p hp).tab (T.at_ p hp)).isCodeTable, rfl, #[], more, rfl, by rw [Array.empty_append]; exact g⟩)
        · exact .inl (keep b o m e)
      · by_cases m : b ∈ cs.map (·.2)
        · obtain ⟨more, g⟩ := grown b m
          exact ⟨_, g⟩
        · exact ⟨o, keep b o m e⟩
end
/-- the goal that k_head leaves, from the law's promise at any base -/
theorem walk_law {l : PySem.W.OpenLaw} {n : Nat} {q : Program} {loose : List Str} {XP : (Str → Option Value) → Heap → Prop} {YP : World → Heap → Prop} {d : DefRec} {K : Params → PySem.W.Frag} {x : Str}
    (hi0 : PyProof.Rows.importsNone q = true) (hn : l.most = some n) (hn2 : n ≤ sizeLine) (hdf : d.params.defaults = []) (hY : ∀ (w : World) (h : Heap), YP w h → (K w.params).In h)
    (F : ∀ (w : World) (mg : Str → Option Value) (f : Addr) (h : Heap) (lo : List Str) (mean : ExcName → Option Value) (mb : Str → Option Value), (K w.params).In h → PyProof.Rows.Top q lo mean mg mb h → mg d.name = some (.ref f) →
      ∃ (fd : FuncData) (cs : List (Addr × Addr)) (sp : Sp), Tabs (K w.params) h cs ∧ (∀ (s : Shared) (u : Value), BindsTo s fd ⟨[u], []⟩ [(x, u)]) ∧
        (∀ (H : Hp) (a : Addr) (ns : List Int), ns.length ≤ n → (∀ p ∈ cs, H p.2 = some (.tbl #[])) → SqL (K w.params) H a (ns.map V.int) → sp [.ref a] H (fun v _ => v = .bl true) E0) ∧
        ∀ base : Heap, (K w.params).In base → base.Ns mainGlobals mg → (∀ p ∈ cs, TabB base mg p.1 p.2) → (∃ mm, base.Ns sysModules mm) → LawOk l.prog w (K w.params) mg base f fd x sp) :
    PySem.W.WalkO q loose XP YP l.row.toRowW d [] (fun f vs => PySem.call f vs) := by
  refine Att.attach_call hn hdf fun w s₀ z mg mb f o pm cd doc a vs ns G Y ho hd hcd hmg hobj hi hlen hg => ?_
  obtain ⟨fd, cs, sp, T, hb, hsp, hF⟩ := F w mg f _ _ _ _ (hY w _ Y) G.T hmg
  exact call_law (hY w _ Y) G.T.g G.T.b G.T.builtins G.T.nolimit (let ⟨mm, q, _⟩ := (G.T.seer hi0).mods; ⟨mm, q⟩) hg T G.T.bmain hobj hi (Nat.le_trans hlen hn2) hF hb fun H h1 h2 => hsp H a ns hlen h1 h2
end Ey
set_option maxHeartbeats 2000000
namespace PySem.W
open PySem PySem.Calls PyProof.Rows PyProof.V PySem.Spec Builtin
section
variable {prog : Program} {w : World} {A : Around} {E : Value → Shared → Prop} {s : Shared} {T : String} {r d : Addr} {n : Nat} {P : Nat → Value → Prop} {OK : Heap → Prop}
/-- what a source yields, collected -/
theorem ey_collect {Q : List Value → Shared → Prop} (K : KdlSrc prog w T r d n P OK) (hh : A.handled = none) (hok : OK s.heap) (hn : n ≤ sizeLine)
    (hQ : ∀ h' tk (acc : Array Value), (∀ b o, s.heap.get? b = some o → h'.get? b = some o) → ItemsOf P acc n → Q acc.toList { s with heap := h', toks := tk }) :
    wpAny (model prog w) A (collect (.ref r)) Q E s := by
  unfold collect
  refine wpAny_bind (wpAny_runValue (codeAny_builtin PySem.F.entry_proto_collect ?_))
  rw [Around.under_plainId PySem.F.plain_proto_collect _]
  show wpAny _ A.in1 (newList [] >>= fun l => again (.builtin "list.__iadd__" ⟨[l, .ref r], []⟩)) _ _ s
  refine wpAny_bind (wpAny_newObj_type (wpAny_pure ⟨plainId_quiet PySem.F.plain_list_iadd _, codeAny_builtin PySem.F.entry_list_iadd ?_⟩))
  rw [Around.under_plainId PySem.F.plain_list_iadd _]
  show wpAny _ A.in1 (Builtin.List.listExtendWith (.ref s.heap.objs.size) (.ref r) (.ref s.heap.objs.size)) _ _ _
  have at0 : (s.heap.push { cls := .type "list", data := .seq ([] : List Value).toArray }).get? s.heap.objs.size = some { cls := .type "list", data := .seq #[] 0 } := Heap.get?_push_size _ rfl
  have lt := K.there _ hok
  have ok1 : OK (s.heap.push { cls := .type "list", data := .seq ([] : List Value).toArray }) := K.keep _ _ hok fun b _ o e => Heap.get?_push_of_some _ e
  have fin : ∀ (h' : Heap) (tk : Nat) (acc : Array Value) (c : Nat), (∀ b o, s.heap.get? b = some o → h'.get? b = some o) → h'.get? s.heap.objs.size = some { cls := .type "list", dict := none, data := .seq acc c, slots := #[] } → ItemsOf P acc n →
      wpAny (model prog w) A (match Value.ref s.heap.objs.size with
      | Value.ref a => do
        match (← load a).data with
          | Data.seq xs _ => pure xs.toList
          | _ => unsupported "internal:collect"
      | _ => unsupported "internal:collect") Q E { s with heap := h', toks := tk } := fun h' tk acc c hk at1 it => by
    show wpAny _ A (load s.heap.objs.size >>= _) _ _ _
    exact wpAny_bind (wpAny_load at1 (wpAny_pure (hQ h' tk acc hk it)))
  refine wpAny_mono (kdl_extend (A := A) (s := { s with heap := s.heap.push { cls := .type "list", data := .seq ([] : List Value).toArray } })
    (R := fun q s' => q = .ok (.ret (.ref s.heap.objs.size)) ∧ ∃ (h' : Heap) (tk : Nat) (acc : Array Value) (c : Nat), s' = { s with heap := h', toks := tk } ∧ (∀ b o, s.heap.get? b = some o → h'.get? b = some o) ∧ h'.get? s.heap.objs.size = some { cls := .type "list", dict := none, data := .seq acc c, slots := #[] } ∧ ItemsOf P acc n)
    K hh ok1 s.heap.objs.size (Nat.ne_of_gt lt.1) (Nat.ne_of_gt lt.2) (.ref s.heap.objs.size) 0 at0 (fun h' tk acc c hk at1 it => ⟨rfl, h', tk, acc, c, rfl, fun b o e => hk b o (Nat.ne_of_lt (Heap.lt_size e)) (Heap.get?_push_of_some _ e), at1, it⟩) hn) (fun q s' h => ?_) (fun e s' h => ?_)
  · cases q with
    | done f =>
      obtain ⟨e, h', tk, acc, c, rfl, hk, at1, it⟩ := h
      cases e
      exact fin h' tk acc c hk at1 it
    | again c' =>
      refine ⟨h.1, codeAny_mono h.2 fun q s2 hq => ?_⟩
      obtain ⟨rfl, h', tk, acc, c, rfl, hk, at1, it⟩ := hq
      exact fin h' tk acc c hk at1 it
  · exact absurd h.1 (by simp)
/-- tuple(of it) -/
theorem ey_tuple_new {Q₁ : Value → Shared → Prop} (K : KdlSrc prog w "dict" r d n P OK) (hh : A.handled = none) (hok : OK s.heap) (hn : n ≤ sizeLine)
    (h : ∀ (h' : Heap) (tk : Nat) (acc : Array Value), (∀ b o, s.heap.get? b = some o → h'.get? b = some o) → ItemsOf P acc n → Q₁ (.ref h'.objs.size) { s with heap := h'.push { cls := .type "tuple", data := .seq acc }, toks := tk }) :
    codeAny (model prog w) A (.call (.builtin "tuple.__new__") ⟨[.type "tuple", .ref r], []⟩) (wants Q₁ E) s := by
  refine codeAny_of_tree ?_
  show wpAny _ A.in1 (do checkBuiltinCall "tuple.__new__" ⟨[.type "tuple", .ref r], []⟩; again (.builtin "tuple.__new__" ⟨[.type "tuple", .ref r], []⟩)) _ _ s
  refine wpAny_bind (wpAny_of_eq (PySem.F.newCall_tuple_1 _) (wpAny_pure ⟨plainId_quiet PySem.F.plain_tuple_new _, codeAny_builtin PySem.F.entry_tuple_new ?_⟩))
  rw [Around.under_plainId PySem.F.plain_tuple_new _]
  have sub1 := sub_tuple_self
  have init1 := init_tuple_lookup
  have made1 := madeHere_tuple
  have ty1 := K.type s hok
  wp_walk using wpAny_typeOf ty1, ey_collect (A := A.in1) K hh hok hn
  intro h' tk acc hk it
  show wpAny _ _ (Builtin.Tuple.tupleExact acc.toList.toArray >>= fun v => ret v) _ _ _
  unfold Builtin.Tuple.tupleExact
  refine wpAny_bind (wpAny_newObj_type ?_ (by show acc.toList.toArray.size ≤ sizeLine; rw [Array.toArray_toList, it.1]; exact hn))
  refine wpAny_pure ?_
  rw [Array.toArray_toList]
  exact h h' tk acc hk it
theorem ey_tuple {Q : Value → Shared → Prop} (K : KdlSrc prog w "dict" r d n P OK) (hh : A.handled = none) (hok : OK s.heap) (hn : n ≤ sizeLine)
    (h : ∀ (h' : Heap) (tk : Nat) (acc : Array Value), (∀ b o, s.heap.get? b = some o → h'.get? b = some o) → ItemsOf P acc n → Q (.ref h'.objs.size) { s with heap := h'.push { cls := .type "tuple", data := .seq acc }, toks := tk }) :
    wpAny (model prog w) A (call (.type "tuple") [.ref r]) Q E s := by
  refine callType_codes (Q₁ := fun o z => z.TypeIs o "tuple" ∧ Q o z) PySem.F.called_tuple (PySem.F.typeCall_tuple_1 _) PySem.F.entry_object_init
    (ey_tuple_new (A := A.in1) K hh hok hn fun h' tk acc hk it => ⟨⟨_, Heap.get?_push_size _ rfl, rfl⟩, h h' tk acc hk it⟩) fun o z hz => ?_
  exact ⟨hz.1, PySem.F.args_object_init_2 o _, object_init_meets PySem.F.called_tuple.init.lookup PySem.F.called_tuple.made (by decide) prog w A.in1 _ z ⟨hz.1, rfl, hz.2⟩⟩
end
end PySem.W
namespace Ey
open PySem PySem.Spec PyProof.Rows L2
/-- tuple(d), d a dict: its keys -/
def rTupD : List V → Hp → VK → Prop := fun xs H Q => ∃ p kvs, xs = [.ref p] ∧ H p = some (.dK kvs) ∧ ∀ q, H q = none → Q (.ref q) (upd H q (.tup (kvs.map fun kv => kV kv.1)))
theorem call_tupD {X : Cx} (hc : X.calm = true) : CallR X (.type "tuple") rTupD := by
  intro pins s σ H xs us Q I r h
  obtain ⟨p, kvs, rfl, hk, q⟩ := h
  obtain ⟨u, rfl, rx⟩ := vals1 r
  obtain rfl : u = Value.ref p := rx
  obtain ⟨z, lo, vs, rk, hd⟩ := (show ObjOk X.prog X.w H s.heap p (.dK kvs) from I.hok p _ hk)
  obtain ⟨ep, at0⟩ := hd.dictAt
  have nl : kvs.length = vs.length := Paired.length rk
  refine PySem.W.ey_tuple (PySem.W.kdl_dict (knd := mixKind X.prog X.w) (kvs := vs) (ep := ep) lo) (I.ok.hd hc) at0 (by rw [← nl]; exact z) fun h' tk acc keep it => ?_
  have I1 : Inv X pins σ H { s with heap := h', toks := tk } := I.kept keep
  refine ⟨.ref h'.objs.size, upd H h'.objs.size (.tup (kvs.map fun kv => kV kv.1)), I1.laid (t' := tk) (fun b o e => Heap.get?_push_of_some _ e) (Nat.le_refl _) (show ObjOk X.prog X.w _ _ _ (.tup _) from ⟨?_, acc.toList, ?_, ?_⟩), rfl, q _ (I1.hok.fresh (Nat.le_refl _))⟩
  · rw [List.length_map]
    exact z
  · have nA : acc.toList.length = acc.size := by simp
    refine vals_of_at (by rw [List.length_map, nA, it.1, nl]) fun j x v h1 h2 => ?_
    obtain ⟨k, y, e, ki⟩ := it.2 j v (by rw [← Array.getElem?_toList]; exact h2)
    have e1 : (kvs.map (·.1))[j]? = some k := by
      rw [KV.keys rk, List.getElem?_map, e]
      rfl
    rw [List.getElem?_map] at h1 e1
    cases g : kvs[j]? with
    | none =>
      rw [g] at e1
      cases e1
    | some kv =>
      rw [g] at e1 h1
      injection e1 with e1
      injection h1 with h1
      have e2 : kv.1 = k := e1
      rw [← h1]
      show L2.RelV (kV kv.1) v
      rw [e2]
      exact keyIs_rel ki
  · have := IsTup.new h' acc
    rw [Array.toArray_toList]
    exact this
end Ey
/-! Trees, places: the mathematics. -/
namespace Ey
open PySem PySem.Spec PyProof.Rows
/-! ### texts as lists of signs -/
def st (p : List Nat) : Str := ⟨p.toArray⟩
theorem st_inj {p q : List Nat} (h : st p = st q) : p = q := by
  have h2 : p.toArray = q.toArray := congrArg Str.cps h
  simpa using h2
theorem st_app (p q : List Nat) : st p ++ st q = st (p ++ q) := by
  show (⟨p.toArray ++ q.toArray⟩ : Str) = ⟨(p ++ q).toArray⟩
  rw [List.append_toArray]
theorem st_len (p : List Nat) : (st p).length = p.length := rfl
theorem st_list (p : List Nat) : (st p).cps.toList = p := rfl
theorem st_of (x : Str) : x = st x.cps.toList := by
  cases x
  rfl
theorem st_ne {p q : List Nat} (h : p ≠ q) : st p ≠ st q := fun e => h (st_inj e)
/-! ### trees -/
inductive Tr where
  | nil
  | nd (tag : Str) (l r : Tr)
def abc : List Nat := [97, 98, 99, 100, 101, 102, 103, 104, 105, 106, 107, 108, 109, 110, 111, 112, 113, 114, 115, 116, 117, 118, 119, 120, 121, 122]
def isTag (x : Str) : Bool := decide (1 ≤ x.length) && decide (x.length ≤ 8) && x.cps.toList.all fun c => decide (c ∈ abc)
def Tr.ok : Tr → Prop
  | .nil => True
  | .nd g l r => isTag g = true ∧ l.ok ∧ r.ok
def Tr.sz : Tr → Nat
  | .nil => 0
  | .nd _ l r => l.sz + r.sz + 1
def Tr.ht : Tr → Nat
  | .nil => 0
  | .nd _ l r => max l.ht r.ht + 1
def Tr.full : Tr → Bool
  | .nil => false
  | .nd _ _ _ => true
def pl : Tr → List (List Nat)
  | .nil => [[]]
  | .nd _ l r => [] :: ((pl l).map (108 :: ·) ++ (pl r).map (114 :: ·))
def pt : Tr → List Nat → Tr
  | t, [] => t
  | .nil, _ :: _ => .nil
  | .nd _ l r, c :: p => if c = 108 then pt l p else pt r p
def isP : Tr → List Nat → Bool
  | _, [] => true
  | .nil, _ :: _ => false
  | .nd _ l r, c :: p => if c = 108 then isP l p else if c = 114 then isP r p else false
theorem pt_nil (t : Tr) : pt t [] = t := by cases t <;> rfl
theorem isP_nil (t : Tr) : isP t [] = true := by cases t <;> rfl
theorem isP_iff : ∀ (t : Tr) (p : List Nat), isP t p = true ↔ p ∈ pl t
  | .nil, [] => by simp [pl, isP]
  | .nil, c :: p => by simp [pl, isP]
  | .nd g l r, [] => by simp [pl, isP]
  | .nd g l r, c :: p => by
    have il := isP_iff l p
    have ir := isP_iff r p
    have e : (c :: p) ∈ pl (.nd g l r) ↔ (c = 108 ∧ p ∈ pl l) ∨ (c = 114 ∧ p ∈ pl r) := by
      simp only [pl, List.mem_cons, List.mem_append, List.mem_map, reduceCtorEq, false_or]
      constructor
      · rintro (⟨q, hq, e⟩ | ⟨q, hq, e⟩)
        · cases e
          exact .inl ⟨rfl, hq⟩
        · cases e
          exact .inr ⟨rfl, hq⟩
      · rintro (⟨rfl, h⟩ | ⟨rfl, h⟩)
        · exact .inl ⟨p, h, rfl⟩
        · exact .inr ⟨p, h, rfl⟩
    rw [e, ← il, ← ir]
    show (if c = 108 then isP l p else if c = 114 then isP r p else false) = true ↔ _
    by_cases h1 : c = 108
    · subst h1
      simp
    · by_cases h2 : c = 114
      · subst h2
        simp
      · simp [h1, h2]
theorem pl_len : ∀ t : Tr, (pl t).length = 2 * t.sz + 1
  | .nil => rfl
  | .nd g l r => by
    simp only [pl, List.length_cons, List.length_append, List.length_map, pl_len l, pl_len r, Tr.sz]
    omega
theorem pl_ht : ∀ (t : Tr) (p : List Nat), p ∈ pl t → p.length ≤ t.ht
  | .nil, p, h => by
    simp only [pl, List.mem_singleton] at h
    subst h
    exact Nat.zero_le _
  | .nd g l r, p, h => by
    simp only [pl, List.mem_cons, List.mem_append, List.mem_map] at h
    rcases h with rfl | ⟨q, hq, rfl⟩ | ⟨q, hq, rfl⟩
    · exact Nat.zero_le _
    · have := pl_ht l q hq
      simp only [List.length_cons, Tr.ht]
      omega
    · have := pl_ht r q hq
      simp only [List.length_cons, Tr.ht]
      omega
theorem ht_sz : ∀ t : Tr, t.ht ≤ t.sz
  | .nil => Nat.le_refl _
  | .nd g l r => by
    have a := ht_sz l
    have b := ht_sz r
    simp only [Tr.ht, Tr.sz]
    omega
theorem pl_ne (t : Tr) : pl t ≠ [] := by cases t <;> simp [pl]
theorem pl_head (t : Tr) : (pl t)[0]? = some [] := by cases t <;> rfl
theorem pl_signs : ∀ (t : Tr) (p : List Nat), p ∈ pl t → ∀ c ∈ p, c = 108 ∨ c = 114
  | .nil, p, h => by
    simp only [pl, List.mem_singleton] at h
    subst h
    exact fun c hc => absurd hc List.not_mem_nil
  | .nd g l r, p, h => by
    simp only [pl, List.mem_cons, List.mem_append, List.mem_map] at h
    rcases h with rfl | ⟨q, hq, rfl⟩ | ⟨q, hq, rfl⟩
    · exact fun c hc => absurd hc List.not_mem_nil
    · intro c hc
      rcases List.mem_cons.mp hc with e | e
      · exact .inl e
      · exact pl_signs l q hq c e
    · intro c hc
      rcases List.mem_cons.mp hc with e | e
      · exact .inr e
      · exact pl_signs r q hq c e
/-! ### the order -/
def ltL (a b : List Nat) : Prop := ltCps a b = true
theorem ltL_cons {c : Nat} {a b : List Nat} : ltL (c :: a) (c :: b) ↔ ltL a b := by simp [ltL, ltCps]
theorem ltL_nil {c : Nat} {a : List Nat} : ltL [] (c :: a) := rfl
theorem ltL_lt {c d : Nat} {a b : List Nat} (h : c < d) : ltL (c :: a) (d :: b) := by simp [ltL, ltCps, h]
theorem ltL_irr : ∀ a : List Nat, ¬ ltL a a
  | [] => by simp [ltL, ltCps]
  | c :: a => by
    rw [ltL_cons]
    exact ltL_irr a
theorem ltL_trans : ∀ {a b c : List Nat}, ltL a b → ltL b c → ltL a c
  | [], [], _, h, _ => absurd h (ltL_irr [])
  | [], _ :: _, [], _, h => by simp [ltL, ltCps] at h
  | [], _ :: _, _ :: _, _, _ => rfl
  | _ :: _, [], _, h, _ => by simp [ltL, ltCps] at h
  | _ :: _, _ :: _, [], _, h => by simp [ltL, ltCps] at h
  | x :: a, y :: b, z :: c, h1, h2 => by
    simp only [ltL, ltCps, Bool.or_eq_true, decide_eq_true_eq, Bool.and_eq_true, beq_iff_eq] at h1 h2 ⊢
    rcases h1 with h1 | ⟨rfl, h1⟩
    · rcases h2 with h2 | ⟨rfl, h2⟩
      · exact .inl (Nat.lt_trans h1 h2)
      · exact .inl h1
    · rcases h2 with h2 | ⟨rfl, h2⟩
      · exact .inl h2
      · exact .inr ⟨rfl, ltL_trans h1 h2⟩
theorem ltL_tri : ∀ a b : List Nat, ltL a b ∨ a = b ∨ ltL b a
  | [], [] => .inr (.inl rfl)
  | [], _ :: _ => .inl rfl
  | _ :: _, [] => .inr (.inr rfl)
  | x :: a, y :: b => by
    rcases Nat.lt_trichotomy x y with h | rfl | h
    · exact .inl (ltL_lt h)
    · rcases ltL_tri a b with h | rfl | h
      · exact .inl (ltL_cons.mpr h)
      · exact .inr (.inl rfl)
      · exact .inr (.inr (ltL_cons.mpr h))
    · exact .inr (.inr (ltL_lt h))
theorem pl_up : ∀ t : Tr, (pl t).Pairwise ltL
  | .nil => by simp [pl]
  | .nd g l r => by
    simp only [pl, List.pairwise_cons, List.pairwise_append, List.pairwise_map]
    refine ⟨fun p hp => ?_, (pl_up l).imp fun h => ltL_cons.mpr h, (pl_up r).imp fun h => ltL_cons.mpr h, fun a ha b hb => ?_⟩
    · simp only [List.mem_append, List.mem_map] at hp
      rcases hp with ⟨q, _, rfl⟩ | ⟨q, _, rfl⟩
      · exact rfl
      · exact rfl
    · simp only [List.mem_map] at ha hb
      obtain ⟨p, _, rfl⟩ := ha
      obtain ⟨q, _, rfl⟩ := hb
      exact ltL_lt (by decide)
theorem pl_nodup (t : Tr) : (pl t).Nodup := (pl_up t).imp fun {a b} h e => by
  subst e
  exact ltL_irr _ h
/-- what sorted hands back, of texts that are all unlike -/
theorem rising_pw : ∀ (l : List Str) (p : Str), risingS p l = true → (p :: l).Pairwise fun a b => ¬ ltL b.cps.toList a.cps.toList
  | [], p, _ => by simp
  | x :: r, p, h => by
    simp only [risingS, Bool.and_eq_true, Bool.not_eq_true'] at h
    have ih := rising_pw r x h.2
    have h1 : ¬ ltL x.cps.toList p.cps.toList := by
      intro e
      rw [ltL, h.1] at e
      cases e
    rw [List.pairwise_cons]
    refine ⟨fun y hy => ?_, ih⟩
    rcases List.mem_cons.mp hy with rfl | hy
    · exact h1
    · have h2 := (List.pairwise_cons.mp ih).1 y hy
      intro e
      rcases ltL_tri x.cps.toList p.cps.toList with q | q | q
      · exact h1 q
      · rw [← q] at e
        exact h2 e
      · exact h2 (ltL_trans e q)
theorem sorted_is {l : List Str} {ps : List (List Nat)} (h : l.Perm (ps.map st)) (hs : sortedS l = true) (hp : ps.Pairwise ltL) : l = ps.map st := by
  have pw : l.Pairwise fun a b => ¬ ltL b.cps.toList a.cps.toList := by
    cases l with
    | nil => simp
    | cons x r => exact rising_pw r x hs
  have pw2 : (ps.map st).Pairwise fun a b => ¬ ltL b.cps.toList a.cps.toList := by
    rw [List.pairwise_map]
    exact hp.imp fun {a b} h e => ltL_irr _ (ltL_trans h e)
  refine List.Perm.eq_of_pairwise (fun a b _ _ h1 h2 => ?_) pw pw2 h
  rcases ltL_tri a.cps.toList b.cps.toList with q | q | q
  · exact absurd q h2
  · rw [st_of a, st_of b, q]
  · exact absurd q h1
/-! ### the next place -/
def stripR (p : List Nat) : List Nat := (p.reverse.dropWhile fun c => c == 114).reverse
def nxt (full : Bool) (p : List Nat) : Option (List Nat) :=
  if full = true then some (p ++ [108]) else if stripR p = [] then none else some ((stripR p).dropLast ++ [114])
theorem dropWhile_snoc (f : Nat → Bool) (a : List Nat) (c : Nat) : (a ++ [c]).dropWhile f = if a.dropWhile f = [] then [c].dropWhile f else a.dropWhile f ++ [c] := by
  induction a with
  | nil => simp
  | cons x a ih =>
    rw [List.cons_append]
    by_cases h : f x = true
    · rw [List.dropWhile_cons_of_pos h, List.dropWhile_cons_of_pos h]
      exact ih
    · rw [List.dropWhile_cons_of_neg h, List.dropWhile_cons_of_neg h]
      simp
theorem stripR_cons (c : Nat) (p : List Nat) : stripR (c :: p) = if stripR p = [] then (if c = 114 then [] else [c]) else c :: stripR p := by
  unfold stripR
  rw [List.reverse_cons, dropWhile_snoc]
  by_cases h : (p.reverse.dropWhile fun c => c == 114) = []
  · rw [if_pos h, if_pos (by rw [h]; rfl)]
    by_cases hc : c = 114
    · simp [hc]
    · simp [hc]
  · rw [if_neg h, if_neg (by rw [List.reverse_eq_nil_iff]; exact h)]
    simp
theorem nxt_cons {f : Bool} {c : Nat} {p q : List Nat} (h : nxt f p = some q) : nxt f (c :: p) = some (c :: q) := by
  unfold nxt at h ⊢
  by_cases hf : f = true
  · rw [if_pos hf] at h ⊢
    cases h
    rfl
  · rw [if_neg hf] at h ⊢
    by_cases hp : stripR p = []
    · rw [if_pos hp] at h
      cases h
    · rw [if_neg hp] at h
      injection h with h
      have e : stripR (c :: p) = c :: stripR p := by rw [stripR_cons, if_neg hp]
      rw [e, if_neg (by simp), ← h, List.dropLast_cons_of_ne_nil hp]
      rfl
theorem nxt_last {f : Bool} {p : List Nat} (h : nxt f p = none) : nxt f (108 :: p) = some [114] ∧ nxt f (114 :: p) = none := by
  unfold nxt at h ⊢
  by_cases hf : f = true
  · rw [if_pos hf] at h
    cases h
  · rw [if_neg hf] at h
    by_cases hp : stripR p = []
    · rw [if_neg hf, if_neg hf, stripR_cons, stripR_cons, if_pos hp, if_pos hp]
      simp
    · rw [if_neg hp] at h
      cases h
theorem nxt_pl : ∀ (t : Tr) (i : Nat) (p : List Nat), (pl t)[i]? = some p → nxt (pt t p).full p = (pl t)[i + 1]?
  | .nil, i, p, h => by
    cases i with
    | zero =>
      cases h
      rfl
    | succ i => simp [pl] at h
  | .nd g l r, i, p, h => by
    cases i with
    | zero =>
      have e : p = [] := by
        simp only [pl, List.getElem?_cons_zero] at h
        exact (Option.some.inj h).symm
      subst e
      have e2 : (pl (.nd g l r))[0 + 1]? = some [108] := by
        have hl := pl_head l
        simp only [pl, List.getElem?_cons_succ]
        rw [List.getElem?_append_left (by rw [List.length_map]; exact List.length_pos_iff.mpr (pl_ne l)), List.getElem?_map, hl]
        rfl
      rw [e2]
      rfl
    | succ i =>
      simp only [pl, List.getElem?_cons_succ] at h ⊢
      by_cases hi : i < (pl l).length
      · rw [List.getElem?_append_left (by rw [List.length_map]; exact hi), List.getElem?_map] at h
        obtain ⟨q, hq, rfl⟩ := Option.map_eq_some_iff.mp h
        have ih := nxt_pl l i q hq
        have ef : pt (.nd g l r) (108 :: q) = pt l q := by show (if 108 = 108 then _ else _) = _; rw [if_pos rfl]
        rw [ef]
        by_cases hn : i + 1 < (pl l).length
        · rw [List.getElem?_append_left (by rw [List.length_map]; exact hn), List.getElem?_map]
          rw [List.getElem?_eq_getElem hn] at ih ⊢
          exact nxt_cons ih
        · have en : i + 1 = (pl l).length := by omega
          rw [List.getElem?_eq_none (by omega)] at ih
          rw [List.getElem?_append_right (by rw [List.length_map]; omega), List.length_map, en, Nat.sub_self, List.getElem?_map, pl_head r]
          exact (nxt_last ih).1
      · rw [List.getElem?_append_right (by rw [List.length_map]; omega), List.length_map, List.getElem?_map] at h
        obtain ⟨q, hq, rfl⟩ := Option.map_eq_some_iff.mp h
        have ih := nxt_pl r (i - (pl l).length) q hq
        have ef : pt (.nd g l r) (114 :: q) = pt r q := by show (if 114 = 108 then _ else _) = _; rw [if_neg (by decide)]
        rw [ef, List.getElem?_append_right (by rw [List.length_map]; omega), List.length_map, List.getElem?_map]
        have en : i + 1 - (pl l).length = i - (pl l).length + 1 := by omega
        rw [en]
        cases hr : (pl r)[i - (pl l).length + 1]? with
        | none =>
          rw [hr] at ih
          exact (nxt_last ih).2
        | some z =>
          rw [hr] at ih
          exact nxt_cons ih
/-! ### the places below a place -/
theorem below : ∀ (t : Tr) (p : List Nat), isP t p = true → (pl t).filter (fun q => decide (q.take p.length = p)) = (pl (pt t p)).map (p ++ ·)
  | t, [], _ => by
    rw [pt_nil]
    simp
  | .nil, c :: p, h => by cases h
  | .nd g l r, c :: p, h => by
    simp only [pl, List.filter_cons, List.filter_append, List.filter_map]
    have e0 : decide (([] : List Nat).take (c :: p).length = c :: p) = false := by simp
    rw [if_neg (by rw [e0]; exact Bool.false_ne_true)]
    by_cases h1 : c = 108
    · subst h1
      have hp : isP l p = true := h
      have ih := below l p hp
      have ea : ((fun q => decide (q.take (108 :: p).length = 108 :: p)) ∘ (108 :: ·)) = fun q : List Nat => decide (q.take p.length = p) := by
        funext q
        simp
      have eb : (pl r).filter ((fun q => decide (q.take (108 :: p).length = 108 :: p)) ∘ (114 :: ·)) = [] := by
        rw [List.filter_eq_nil_iff]
        intro q _
        simp
      rw [ea, eb, ih]
      show _ = (pl (if 108 = 108 then pt l p else pt r p)).map _
      rw [if_pos rfl]
      simp
    · by_cases h2 : c = 114
      · subst h2
        have hp : isP r p = true := h
        have ih := below r p hp
        have ea : ((fun q => decide (q.take (114 :: p).length = 114 :: p)) ∘ (114 :: ·)) = fun q : List Nat => decide (q.take p.length = p) := by
          funext q
          simp
        have eb : (pl l).filter ((fun q => decide (q.take (114 :: p).length = 114 :: p)) ∘ (108 :: ·)) = [] := by
          rw [List.filter_eq_nil_iff]
          intro q _
          simp
        rw [ea, eb, ih]
        show _ = (pl (if 114 = 108 then pt l p else pt r p)).map _
        rw [if_neg (by decide)]
        simp
      · have : isP (.nd g l r) (c :: p) = false := by
          show (if c = 108 then isP l p else if c = 114 then isP r p else false) = false
          rw [if_neg h1, if_neg h2]
        rw [this] at h
        cases h
end Ey
namespace Ey
open PySem PySem.Spec L2
theorem dw_drop (f : Nat → Bool) : ∀ l : List Nat, l.dropWhile f = l.drop (l.takeWhile f).length
  | [] => rfl
  | a :: l => by
    cases h : f a
    · simp [List.dropWhile_cons, List.takeWhile_cons, h]
    · simp [List.dropWhile_cons, List.takeWhile_cons, h, dw_drop f l]
theorem stripR_take (p : List Nat) : stripR p = p.take (p.length - (p.reverse.takeWhile fun c => c == 114).length) := by
  have hle : (p.reverse.takeWhile fun c => c == 114).length ≤ p.length := by
    have := (List.takeWhile_sublist (fun c => c == 114) (l := p.reverse)).length_le
    rwa [List.length_reverse] at this
  unfold stripR
  rw [dw_drop, ← List.reverse_reverse (p.take _), List.reverse_take]
  have e : p.length - (p.length - (p.reverse.takeWhile fun c => c == 114).length) = (p.reverse.takeWhile fun c => c == 114).length := by omega
  rw [e]
theorem rstrip_st (p : List Nat) : Txt.rstripChars (st p) (st [114]) = st (stripR p) := by
  have e1 : (st [114]).cps.contains = fun c => c == 114 := by
    funext c
    show (#[114] : Array Nat).contains c = (c == 114)
    simp [Array.contains]
  have e3 := stripR_take p
  have lo : stripLo (st [114]).cps.contains false (st p) = 0 := rfl
  have hi : stripHi (st [114]).cps.contains true (st p) 0 = p.length - (p.reverse.takeWhile fun c => c == 114).length := by
    rw [e1]
    rfl
  unfold Txt.rstripChars Txt.stripBy stripSame stripped
  rw [lo, hi]
  have ex : Builtin.Str.strSub (st p) 0 (p.length - (p.reverse.takeWhile fun c => c == 114).length) = st (stripR p) := by
    rw [e3]
    show (⟨p.toArray.extract 0 _⟩ : Str) = ⟨_⟩
    simp
  rw [ex]
  split
  · rename_i h
    simp only [Bool.and_eq_true, beq_iff_eq] at h
    rw [e3, h.2]
    show st p = st (p.take p.length)
    rw [List.take_length]
  · rfl
theorem for_str {x : Str} {g : TG} {tb : TS} {D : Ends} {σ : St} {H : Hp} (Pv : Nat → St → Hp → Prop) (h0 : Pv 0 σ H)
    (hs : ∀ i c σ H, x.cps.toList[i]? = some c → Pv i σ H → g (.str (st [c])) σ H fun σ2 H2 => tb { D with nx := Pv (i + 1), ct := Pv (i + 1), bk := D.nx } σ2 H2)
    (hd : ∀ σ H, Pv x.cps.toList.length σ H → D.nx σ H) :
    ∃ W : Nat → Nat → St → Hp → Prop, (∃ m, W 0 m σ H) ∧ ∀ i m σ H, W i m σ H →
      ((Its x).stop i H ∧ D.nx σ H) ∨ ((Its x).go i H ∧ ∃ N : St → Hp → Prop, (∀ σ' H', N σ' H' → ∃ m', m' < m ∧ W (i + 1) m' σ' H') ∧ ∀ v H', (Its x).yld i H v H' → g v σ H' fun σ2 H2 => tb { D with nx := N, ct := N, bk := D.nx } σ2 H2) := by
  refine ⟨fun i m σ H => m = x.cps.size - i ∧ i ≤ x.cps.size ∧ Pv i σ H, ⟨_, rfl, Nat.zero_le _, h0⟩, fun i m σ H hw => ?_⟩
  obtain ⟨rfl, hi, p⟩ := hw
  by_cases lt : i < x.cps.size
  · refine .inr ⟨lt, Pv (i + 1), fun σ' H' p' => ⟨x.cps.size - (i + 1), by omega, rfl, lt, p'⟩, fun v H' y => ?_⟩
    obtain ⟨rfl, c, hc, rfl⟩ := y
    exact hs i c σ _ (by rw [Array.getElem?_toList]; exact hc) p
  · have e : i = x.cps.size := by omega
    subst e
    exact .inl ⟨Nat.le_refl _, hd σ H (by rw [Array.length_toList]; exact p)⟩
end Ey
namespace Ey
open PySem PySem.Spec L2
/-! ### heaps -/
/-- all that was tracked is as it was, but what stands at ms; tuples never change -/
structure Kp (ms : List Addr) (H H' : Hp) : Prop where
  at_ : ∀ b o, H b = some o → b ∉ ms → H' b = some o
  tup : ∀ b xs, H b = some (.tup xs) → H' b = some (.tup xs)
section
variable {ms : List Addr} {H H' H1 H2 : Hp}
theorem Kp.refl : Kp ms H H := ⟨fun _ _ e _ => e, fun _ _ e => e⟩
theorem Kp.trans (a : Kp ms H H1) (b : Kp ms H1 H2) : Kp ms H H2 := ⟨fun c o e n => b.at_ c o (a.at_ c o e n) n, fun c xs e => b.tup c xs (a.tup c xs e)⟩
theorem Kp.more {ms' : List Addr} (a : Kp ms H H1) (h : ∀ x ∈ ms, x ∈ ms') : Kp ms' H H1 := ⟨fun c o e n => a.at_ c o e fun q => n (h c q), a.tup⟩
theorem Kp.new {p : Addr} {o : HO} (h : H p = none) : Kp ms H (upd H p o) :=
  ⟨fun c u e _ => by rw [upd_ne (ne_of_none e h)]; exact e, fun c xs e => by rw [upd_ne (ne_of_none e h)]; exact e⟩
theorem Kp.put {p : Addr} {o u : HO} (hm : p ∈ ms) (h : H p = some u) (nt : ∀ xs, u ≠ .tup xs) : Kp ms H (upd H p o) := by
  refine ⟨fun c v e n => ?_, fun c xs e => ?_⟩
  · rw [upd_ne (fun q => n (by rw [q]; exact hm))]
    exact e
  · rw [upd_ne (fun q => ?_)]
    · exact e
    · rw [q, h] at e
      exact nt xs (Option.some.inj e)
theorem Kp.same (s : Same H H1) : Kp ms H H1 := ⟨fun c o e _ => s c o e, fun c xs e => s c _ e⟩
theorem Kp.free (a : Kp ms H H1) {p : Addr} (h : H1 p = none) (n : p ∉ ms) : H p = none := by
  cases q : H p with
  | none => rfl
  | some o =>
    rw [a.at_ p o q n] at h
    cases h
theorem Kp.lst {K : PySem.W.Frag} {a : Addr} {xs : List V} (k : Kp ms H H1) (n : a ∉ ms) (h : SqL K H a xs) : SqL K H1 a xs := by
  rcases h with (h | ⟨o, h⟩) | h
  · exact .inl (.inl (k.at_ _ _ h n))
  · exact .inl (.inr ⟨o, k.at_ _ _ h n⟩)
  · exact .inr h
end
/-! ### trees in the heap -/
inductive TreeAt (H : Hp) : V → Tr → Prop where
  | nil : TreeAt H .non .nil
  | nd {a : Addr} {g : Str} {l r : Tr} {v w : V} : H a = some (.tup [.str g, v, w]) → TreeAt H v l → TreeAt H w r → TreeAt H (.ref a) (.nd g l r)
theorem TreeAt.kp {ms : List Addr} {H H1 : Hp} {v : V} {t : Tr} (k : Kp ms H H1) (h : TreeAt H v t) : TreeAt H1 v t := by
  induction h with
  | nil => exact .nil
  | nd e _ _ ih1 ih2 => exact .nd (k.tup _ _ e) ih1 ih2
theorem TreeAt.non {H : Hp} {v : V} {t : Tr} (h : TreeAt H v t) : decide (v = .non) = !t.full := by
  cases h <;> rfl
theorem sqt_of {K : PySem.W.Frag} {H : Hp} {a : Addr} {xs : List V} (h : H a = some (.tup xs)) : SqT K H a xs := .inl (.inl h)
theorem sql_of {K : PySem.W.Frag} {H : Hp} {a : Addr} {xs : List V} (h : H a = some (.lst xs)) : SqL K H a xs := .inl (.inl h)
/-- a tree as data -/
def td : Tr → PyData
  | .nil => .none
  | .nd g l r => .tuple [.str g, td l, td r]
theorem TreeAt.dp {K : PySem.W.Frag} {H : Hp} {v : V} {t : Tr} (h : TreeAt H v t) : Dp K H v (td t) := by
  induction h with
  | nil => exact .non
  | nd e _ _ ih1 ih2 => exact .tup (sqt_of e) (.cons (.str _) (.cons ih1 (.cons ih2 .nil)))
theorem td_show : ∀ t : Tr, (td t).showable = true
  | .nil => rfl
  | .nd g l r => by
    show (true && ((td l).showable && ((td r).showable && true))) = true
    rw [td_show l, td_show r]
    rfl
theorem td_depth : ∀ t : Tr, (td t).depth ≤ 1 + t.ht
  | .nil => by decide
  | .nd g l r => by
    have a := td_depth l
    have b := td_depth r
    simp only [td, PyData.depth, PyData.depthAll, Tr.ht]
    omega
theorem tag_signs {g : Str} (h : isTag g = true) : ∀ c ∈ g.cps.toList, c < 16 ^ 8 := fun c hc => by
  simp only [isTag, Bool.and_eq_true, List.all_eq_true, decide_eq_true_eq] at h
  have := h.2 c hc
  simp only [abc, List.mem_cons, List.not_mem_nil, or_false] at this
  omega
theorem tag_len {g : Str} (h : isTag g = true) : g.length ≤ 8 := by
  simp only [isTag, Bool.and_eq_true, decide_eq_true_eq] at h
  exact h.1.2
theorem len_app (a b : Str) : (a ++ b).length = a.length + b.length := by
  show (a.cps ++ b.cps).size = _
  rw [Array.size_append]
  rfl
theorem td_len : ∀ t : Tr, t.ok → (td t).shown.length ≤ 100 * t.sz + 4
  | .nil, _ => by decide +kernel
  | .nd g l r, h => by
    obtain ⟨hg, hl, hr⟩ := h
    have a := td_len l hl
    have b := td_len r hr
    have c := StrLaws.reprText_len g (tag_signs hg)
    have d := tag_len hg
    have e : (td (.nd g l r)).shown.length ≤ (reprText g).length + (td l).shown.length + (td r).shown.length + 6 := by
      show (tupleText [reprText g, (td l).shown, (td r).shown]).length ≤ _
      unfold tupleText
      rw [len_app, len_app]
      simp only [Str.join, len_app]
      have q1 : (", " : Str).length = 2 := by decide +kernel
      have q2 : ("(" : Str).length = 1 := by decide +kernel
      have q3 : (Str.ofString (if (([reprText g, (td l).shown, (td r).shown] : List Str).length == 1) = true then ",)" else ")")).length = 1 := by
        show (Str.ofString (if ((3 : Nat) == 1) = true then ",)" else ")")).length = 1
        decide +kernel
      rw [q1, q2]
      omega
    simp only [Tr.sz]
    omega
end Ey
set_option maxHeartbeats 4000000
namespace Ey
open PySem PySem.Spec PyProof.Rows L2
/-! ### data: what is a tree, what may be told -/
def isTagD : PyData → Bool
  | .str g => isTag g
  | .none | .bool _ | .int _ | .list _ | .tuple _ | .dict _ => false
def tri : List PyData → List Bool → Bool
  | [x, _, _], [_, b, c] => isTagD x && (b && c)
  | _, _ => false
mutual
def isT : PyData → Bool
  | .none => true
  | .tuple ds => tri ds (isTs ds)
  | .bool _ | .int _ | .str _ | .list _ | .dict _ => false
def isTs : List PyData → List Bool
  | [] => []
  | x :: r => isT x :: isTs r
end
mutual
def fit : PyData → Bool
  | .none | .bool _ => true
  | .int i => decide (i.natAbs < 10 ^ 40)
  | .str x => x.cps.toList.all fun c => decide (c < 1000)
  | .list ds | .tuple ds => fitAll ds
  | .dict kvs => fitKv kvs
def fitAll : List PyData → Bool
  | [] => true
  | x :: r => fit x && fitAll r
def fitKv : List (PyData × PyData) → Bool
  | [] => true
  | (k, v) :: r => (fit k && fit v) && fitKv r
end
mutual
def wd : PyData → Nat
  | .none => 4
  | .bool _ => 5
  | .int _ => 45
  | .str x => 10 * x.length + 2
  | .list ds | .tuple ds => wdAll ds + 3
  | .dict kvs => wdKv kvs + 3
def wdAll : List PyData → Nat
  | [] => 0
  | x :: r => wd x + 2 + wdAll r
def wdKv : List (PyData × PyData) → Nat
  | [] => 0
  | (k, v) :: r => wd k + wd v + 4 + wdKv r
end
theorem nat_len {n : Nat} (h : n < 10 ^ 40) : (Str.ofString (toString (n : Int))).length ≤ 40 := by
  rw [ofString_len]
  show (Nat.repr n).length ≤ 40
  have e : (Nat.repr n).length = (Nat.toDigits 10 n).length := by
    unfold Nat.repr
    simp
  rw [e]
  exact digits10_le (by decide) h
theorem int_ok (i : Int) (h : i.natAbs < 10 ^ 40) : i.natAbs.log2 < 1920 ∧ (PyData.shown (.int i)).length ≤ 45 := by
  refine ⟨?_, ?_⟩
  · by_cases h0 : i.natAbs = 0
    · rw [h0]
      decide
    · rw [Nat.log2_lt h0]
      exact Nat.lt_trans h (by decide +kernel)
  · show (Str.ofString (toString i)).length ≤ 45
    by_cases hn : i < 0
    · rw [len_text_neg hn]
      obtain ⟨n, e⟩ : ∃ n : Nat, 0 - i = (n : Int) := ⟨(0 - i).toNat, by omega⟩
      rw [e]
      have := nat_len (n := n) (by omega)
      omega
    · obtain ⟨n, rfl⟩ : ∃ n : Nat, i = (n : Int) := ⟨i.toNat, by omega⟩
      have := nat_len (n := n) (by simpa using h)
      omega
theorem lenD (ts : List Str) : (listText ts).length ≤ piled ts + 2 := by
  have q1 : ("[" : Str).length = 1 := by decide +kernel
  have q2 : ("]" : Str).length = 1 := by decide +kernel
  unfold listText
  rw [len_app, q2]
  cases ts with
  | nil =>
    show (textFrom 0 "[" []).length + 1 ≤ _
    unfold textFrom
    rw [q1]
    omega
  | cons t r =>
    show (textFrom 1 (("[" : Str) ++ Str.ofString "" ++ t) r).length + 1 ≤ piled (t :: r) + 2
    have e : (Str.ofString "").length = 0 := by decide +kernel
    rw [textFrom_length_pos r 1 _ (by decide), len_app, len_app, q1, e, piled_cons]
    omega
theorem joinD (ts : List Str) : (Str.join ", " ts).length ≤ piled ts := by
  cases ts with
  | nil => exact Nat.zero_le _
  | cons t r =>
    have := join_length_add (t :: r) (by simp)
    omega
theorem lenT (ts : List Str) : (tupleText ts).length ≤ piled ts + 3 := by
  have q1 : ("(" : Str).length = 1 := by decide +kernel
  have q2 : (Str.ofString ",)").length = 2 := by decide +kernel
  have q3 : (Str.ofString ")").length = 1 := by decide +kernel
  have q : (Str.ofString (if (ts.length == 1) = true then ",)" else ")")).length ≤ 2 := by
    split
    · rw [q2]
      exact Nat.le_refl _
    · rw [q3]
      decide
  have := joinD ts
  unfold tupleText
  rw [len_app, len_app, q1]
  omega
theorem lenK (ts : List Str) : (dictText ts).length ≤ piled ts + 3 := by
  have q1 : ("{" : Str).length = 1 := by decide +kernel
  have q2 : ("}" : Str).length = 1 := by decide +kernel
  have := joinD ts
  unfold dictText
  rw [len_app, len_app, q1, q2]
  omega
mutual
theorem fit_told : ∀ d : PyData, fit d = true → d.showable = true ∧ d.shown.length ≤ wd d
  | .none, _ => ⟨rfl, by show ("None" : Str).length ≤ 4; decide +kernel⟩
  | .bool b, _ => ⟨rfl, by
      show (PyData.shown (.bool b)).length ≤ 5
      cases b <;> decide +kernel⟩
  | .int i, h => by
    have a := int_ok i (of_decide_eq_true h)
    exact ⟨decide_eq_true a.1, a.2⟩
  | .str x, h => by
    refine ⟨rfl, StrLaws.reprText_len x fun c hc => ?_⟩
    have h2 : (x.cps.toList.all fun c => decide (c < 1000)) = true := h
    exact Nat.lt_of_lt_of_le (of_decide_eq_true (List.all_eq_true.mp h2 c hc)) (by decide)
  | .list ds, h => by
    obtain ⟨a, b⟩ := fit_tolds ds h
    exact ⟨a, Nat.le_trans (lenD _) (by show piled (PyData.shownAll ds) + 2 ≤ wdAll ds + 3; omega)⟩
  | .tuple ds, h => by
    obtain ⟨a, b⟩ := fit_tolds ds h
    exact ⟨a, Nat.le_trans (lenT _) (by show piled (PyData.shownAll ds) + 3 ≤ wdAll ds + 3; omega)⟩
  | .dict kvs, h => by
    obtain ⟨a, b⟩ := fit_toldKv kvs h
    exact ⟨a, Nat.le_trans (lenK _) (by show piled (PyData.shownKv kvs) + 3 ≤ wdKv kvs + 3; omega)⟩
theorem fit_tolds : ∀ ds : List PyData, fitAll ds = true → PyData.showableAll ds = true ∧ piled (PyData.shownAll ds) ≤ wdAll ds
  | [], _ => ⟨rfl, Nat.le_refl _⟩
  | x :: r, h => by
    have h2 : (fit x && fitAll r) = true := h
    rw [Bool.and_eq_true] at h2
    obtain ⟨a, b⟩ := fit_told x h2.1
    obtain ⟨c, d⟩ := fit_tolds r h2.2
    refine ⟨?_, ?_⟩
    · show (x.showable && PyData.showableAll r) = true
      rw [a, c]
      rfl
    · show piled (x.shown :: PyData.shownAll r) ≤ wd x + 2 + wdAll r
      rw [piled_cons]
      omega
theorem fit_toldKv : ∀ kvs : List (PyData × PyData), fitKv kvs = true → PyData.showableKv kvs = true ∧ piled (PyData.shownKv kvs) ≤ wdKv kvs
  | [], _ => ⟨rfl, Nat.le_refl _⟩
  | (k, v) :: r, h => by
    have h2 : ((fit k && fit v) && fitKv r) = true := h
    rw [Bool.and_eq_true, Bool.and_eq_true] at h2
    obtain ⟨a, b⟩ := fit_told k h2.1.1
    obtain ⟨a2, b2⟩ := fit_told v h2.1.2
    obtain ⟨c, d⟩ := fit_toldKv r h2.2
    refine ⟨?_, ?_⟩
    · show (k.showable && v.showable && PyData.showableKv r) = true
      rw [a, a2, c]
      rfl
    · show piled ((k.shown ++ ": " ++ v.shown) :: PyData.shownKv r) ≤ wd k + wd v + 4 + wdKv r
      have q : (Str.ofString ": ").length = 2 := by decide +kernel
      rw [piled_cons, len_app, len_app, q]
      omega
end
/-! ### trees as data -/
theorem td_isT : ∀ t : Tr, t.ok → isT (td t) = true
  | .nil, _ => rfl
  | .nd g l r, h => by
    show (isTag g && (isT (td l) && isT (td r))) = true
    rw [h.1, td_isT l h.2.1, td_isT r h.2.2]
    rfl
theorem tag_low {g : Str} (h : isTag g = true) : ∀ c ∈ g.cps.toList, c < 1000 := fun c hc => by
  simp only [isTag, Bool.and_eq_true, List.all_eq_true, decide_eq_true_eq] at h
  have := h.2 c hc
  simp only [abc, List.mem_cons, List.not_mem_nil, or_false] at this
  omega
theorem td_fit : ∀ t : Tr, t.ok → fit (td t) = true
  | .nil, _ => rfl
  | .nd g l r, h => by
    have a : (g.cps.toList.all fun c => decide (c < 1000)) = true := List.all_eq_true.mpr fun c hc => decide_eq_true (tag_low h.1 c hc)
    show ((g.cps.toList.all fun c => decide (c < 1000)) && (fit (td l) && (fit (td r) && true))) = true
    rw [a, td_fit l h.2.1, td_fit r h.2.2]
    rfl
theorem td_wd : ∀ t : Tr, t.ok → wd (td t) ≤ 100 * t.sz + 4
  | .nil, _ => Nat.le_refl _
  | .nd g l r, h => by
    have a := td_wd l h.2.1
    have b := td_wd r h.2.2
    have c := tag_len h.1
    show (10 * g.length + 2) + 2 + (wd (td l) + 2 + (wd (td r) + 2 + 0)) + 3 ≤ 100 * (l.sz + r.sz + 1) + 4
    omega
theorem sz_wd : ∀ t : Tr, t.sz ≤ wd (td t)
  | .nil => Nat.zero_le _
  | .nd g l r => by
    have a := sz_wd l
    have b := sz_wd r
    show l.sz + r.sz + 1 ≤ (10 * g.length + 2) + 2 + (wd (td l) + 2 + (wd (td r) + 2 + 0)) + 3
    omega
theorem ht_depth : ∀ t : Tr, t.ht ≤ (td t).depth
  | .nil => Nat.le_refl _
  | .nd g l r => by
    have a := ht_depth l
    have b := ht_depth r
    show max l.ht r.ht + 1 ≤ max 0 (max (td l).depth (max (td r).depth 0)) + 1
    omega
mutual
theorem isT_td : ∀ d : PyData, isT d = true → ∃ t : Tr, t.ok ∧ td t = d
  | .none, _ => ⟨.nil, trivial, rfl⟩
  | .bool _, h => by cases h
  | .int _, h => by cases h
  | .str _, h => by cases h
  | .list _, h => by cases h
  | .dict _, h => by cases h
  | .tuple ds, h => isTs_td ds h
theorem isTs_td : ∀ ds : List PyData, tri ds (isTs ds) = true → ∃ t : Tr, t.ok ∧ td t = .tuple ds
  | [], h => by cases h
  | [_], h => by cases h
  | [_, _], h => by cases h
  | _ :: _ :: _ :: _ :: _, h => by cases h
  | [x, a, b], h => by
    have h2 : (isTagD x && (isT a && isT b)) = true := h
    rw [Bool.and_eq_true, Bool.and_eq_true] at h2
    obtain ⟨l, ol, el⟩ := isT_td a h2.2.1
    obtain ⟨r, or', er⟩ := isT_td b h2.2.2
    cases x with
    | str g => exact ⟨.nd g l r, ⟨h2.1, ol, or'⟩, by rw [td, el, er]⟩
    | none => cases h2.1
    | bool _ => cases h2.1
    | int _ => cases h2.1
    | list _ => cases h2.1
    | tuple _ => cases h2.1
    | dict _ => cases h2.1
end
/-! ### data in the heap, none of its lists and dicts at ms -/
def kD : Key → PyData
  | .inl i => .int i
  | .inr x => .str x
mutual
inductive An (ms : List Addr) (H : Hp) : V → PyData → Prop
  | non : An ms H .non .none
  | bl (b : Bool) : An ms H (.bl b) (.bool b)
  | int (i : Int) : An ms H (.int i) (.int i)
  | str (x : Str) : An ms H (.str x) (.str x)
  | lst {a : Addr} {xs : List V} {ds : List PyData} : H a = some (.lst xs) → a ∉ ms → AnAll ms H xs ds → An ms H (.ref a) (.list ds)
  | tup {a : Addr} {xs : List V} {ds : List PyData} : H a = some (.tup xs) → AnAll ms H xs ds → An ms H (.ref a) (.tuple ds)
  | dct {a : Addr} {kvs : List (Key × V)} {ds : List (PyData × PyData)} : H a = some (.dK kvs) → a ∉ ms → AnKv ms H kvs ds → An ms H (.ref a) (.dict ds)
inductive AnAll (ms : List Addr) (H : Hp) : List V → List PyData → Prop
  | nil : AnAll ms H [] []
  | cons {v : V} {vs : List V} {d : PyData} {ds : List PyData} : An ms H v d → AnAll ms H vs ds → AnAll ms H (v :: vs) (d :: ds)
inductive AnKv (ms : List Addr) (H : Hp) : List (Key × V) → List (PyData × PyData) → Prop
  | nil : AnKv ms H [] []
  | cons {k : Key} {v : V} {kvs : List (Key × V)} {d : PyData} {ds : List (PyData × PyData)} : An ms H v d → AnKv ms H kvs ds → AnKv ms H ((k, v) :: kvs) ((kD k, d) :: ds)
end
section
variable {ms ms' : List Addr} {H H1 : Hp}
mutual
theorem An.kp (k : Kp ms' H H1) (hs : ∀ x ∈ ms', x ∈ ms) : ∀ {v : V} (d : PyData), An ms H v d → An ms H1 v d
  | _, .none, h => by cases h; exact .non
  | _, .bool b, h => by cases h; exact .bl b
  | _, .int i, h => by cases h; exact .int i
  | _, .str x, h => by cases h; exact .str x
  | _, .list ds, h => by
    cases h with
    | lst e n a => exact .lst (k.at_ _ _ e fun q => n (hs _ q)) n (AnAll.kp k hs ds a)
  | _, .tuple ds, h => by
    cases h with
    | tup e a => exact .tup (k.tup _ _ e) (AnAll.kp k hs ds a)
  | _, .dict ds, h => by
    cases h with
    | dct e n a => exact .dct (k.at_ _ _ e fun q => n (hs _ q)) n (AnKv.kp k hs ds a)
theorem AnAll.kp (k : Kp ms' H H1) (hs : ∀ x ∈ ms', x ∈ ms) : ∀ {vs : List V} (ds : List PyData), AnAll ms H vs ds → AnAll ms H1 vs ds
  | _, [], h => by cases h; exact .nil
  | _, d :: r, h => by
    cases h with
    | cons a b => exact .cons (An.kp k hs d a) (AnAll.kp k hs r b)
theorem AnKv.kp (k : Kp ms' H H1) (hs : ∀ x ∈ ms', x ∈ ms) : ∀ {vs : List (Key × V)} (ds : List (PyData × PyData)), AnKv ms H vs ds → AnKv ms H1 vs ds
  | _, [], h => by cases h; exact .nil
  | _, (y, d) :: r, h => by
    cases h with
    | cons a b => exact .cons (An.kp k hs d a) (AnKv.kp k hs r b)
end
theorem TreeAt.an {v : V} {t : Tr} (h : TreeAt H v t) : An ms H v (td t) := by
  induction h with
  | nil => exact .non
  | nd e _ _ ih1 ih2 => exact .tup e (.cons (.str _) (.cons ih1 (.cons ih2 .nil)))
theorem An.tree : ∀ (t : Tr) {v : V}, An ms H v (td t) → TreeAt H v t
  | .nil, _, h => by cases h; exact .nil
  | .nd g l r, _, h => by
    cases h with
    | tup e a =>
      cases a with
      | cons a1 a =>
        cases a1
        cases a with
        | cons a2 a =>
          cases a with
          | cons a3 a =>
            cases a
            exact .nd e (An.tree l a2) (An.tree r a3)
theorem AnAll.append {vs ws : List V} {ds es : List PyData} (h : AnAll ms H vs ds) (g : AnAll ms H ws es) : AnAll ms H (vs ++ ws) (ds ++ es) := by
  induction ds generalizing vs with
  | nil => cases h; exact g
  | cons d r ih =>
    cases h with
    | cons a b => exact .cons a (ih b)
theorem AnAll.length {vs : List V} {ds : List PyData} (h : AnAll ms H vs ds) : vs.length = ds.length := by
  induction ds generalizing vs with
  | nil => cases h; rfl
  | cons d r ih =>
    cases h with
    | cons a b => rw [List.length_cons, List.length_cons, ih b]
theorem AnAll.take {vs : List V} {ds : List PyData} (h : AnAll ms H vs ds) (n : Nat) : AnAll ms H (vs.take n) (ds.take n) := by
  induction ds generalizing vs n with
  | nil =>
    cases h
    rw [List.take_nil, List.take_nil]
    exact .nil
  | cons d r ih =>
    cases h with
    | cons a b =>
      cases n with
      | zero => exact .nil
      | succ n => exact .cons a (ih b n)
theorem AnAll.drop {vs : List V} {ds : List PyData} (h : AnAll ms H vs ds) (n : Nat) : AnAll ms H (vs.drop n) (ds.drop n) := by
  induction ds generalizing vs n with
  | nil =>
    cases h
    rw [List.drop_nil, List.drop_nil]
    exact .nil
  | cons d r ih =>
    cases h with
    | cons a b =>
      cases n with
      | zero => exact .cons a b
      | succ n => exact ih b n
theorem AnAll.rev {vs : List V} {ds : List PyData} (h : AnAll ms H vs ds) : AnAll ms H vs.reverse ds.reverse := by
  induction ds generalizing vs with
  | nil => cases h; exact .nil
  | cons d r ih =>
    cases h with
    | cons a b =>
      rw [List.reverse_cons, List.reverse_cons]
      exact (ih b).append (.cons a .nil)
theorem AnAll.get {vs : List V} {ds : List PyData} (h : AnAll ms H vs ds) {i : Nat} {v : V} (e : vs[i]? = some v) : ∃ d, ds[i]? = some d ∧ An ms H v d := by
  induction ds generalizing vs i with
  | nil => cases h; cases e
  | cons d r ih =>
    cases h with
    | cons a b =>
      cases i with
      | zero =>
        cases e
        exact ⟨d, rfl, a⟩
      | succ i => exact ih b e
/-- all at ms is tracked -/
def Has (ms : List Addr) (H : Hp) : Prop := ∀ b ∈ ms, H b ≠ none
theorem Has.fresh {p : Addr} (h : Has ms H) (n : H p = none) : p ∉ ms := fun q => h p q n
theorem Has.new {p : Addr} {o : HO} (h : Has ms H) : Has ms (upd H p o) := fun b q => by
  by_cases e : b = p
  · rw [e, upd_same]
    exact fun z => nomatch z
  · rw [upd_ne e]
    exact h b q
theorem Has.kp (h : Has ms H) (k : Kp ms' H H1) (hs : ∀ b ∈ ms', H1 b ≠ none) : Has ms H1 := fun b q => by
  by_cases m : b ∈ ms'
  · exact hs b m
  · cases e : H b with
    | none => exact absurd e (h b q)
    | some o =>
      rw [k.at_ b o e m]
      exact fun z => nomatch z
end
section
variable {X : Cx} {pins : List (Addr × Obj)} {σ : L2.St} {H : Hp} {s : Shared} {ms : List Addr}
theorem low (I : Inv X pins σ H s) (hs : ∃ mm, X.base.Ns sysModules mm) {a : Addr} {o : HO} (e : H a = some o) : a ≠ sysModules := by
  rintro rfl
  obtain ⟨mm, ob, es, ep, g, _⟩ := hs
  rw [(I.bs _ _ g).2] at e
  cases e
theorem key_reads (k : Key) (y : Value) (h : keyIs k y = true) : Reads s.heap y (kD k) [] := by
  rcases keyIs_shape h with ⟨i, t, rfl, rfl⟩ | ⟨x, t, rfl, rfl⟩
  · exact .int i t
  · exact .str x t
mutual
theorem An.reads (I : Inv X pins σ H s) (hs : ∃ mm, X.base.Ns sysModules mm) : ∀ {v : V} {u : Value} (d : PyData), An ms H v d → RelV v u → ∃ as, Reads s.heap u d as ∧ sysModules ∉ as
  | _, _, .none, h, r => by
    cases h
    cases r
    exact ⟨_, .none, List.not_mem_nil⟩
  | _, _, .bool b, h, r => by
    cases h
    cases r
    exact ⟨_, .bool b, List.not_mem_nil⟩
  | _, _, .int i, h, r => by
    cases h
    obtain ⟨t, rfl⟩ := r
    exact ⟨_, .int i t, List.not_mem_nil⟩
  | _, _, .str x, h, r => by
    cases h
    obtain ⟨t, rfl⟩ := r
    exact ⟨_, .str x t, List.not_mem_nil⟩
  | _, _, .list ds, h, r => by
    cases h with
    | @lst a xs _ e n hd =>
      cases r
      obtain ⟨_, its, m, rv, at0⟩ := (show ObjOk X.prog X.w H s.heap a (.lst xs) from I.hok a _ e)
      obtain ⟨as, q, nq⟩ := AnAll.reads I hs ds hd rv
      refine ⟨_, .list at0 rfl rfl q, fun z => ?_⟩
      rcases List.mem_cons.mp z with z | z
      · exact low I hs e z.symm
      · exact nq z
  | _, _, .tuple ds, h, r => by
    cases h with
    | @tup a xs _ e hd =>
      cases r
      obtain ⟨_, its, rv, o, h1, h2, n, h3⟩ := (show ObjOk X.prog X.w H s.heap a (.tup xs) from I.hok a _ e)
      obtain ⟨as, q, nq⟩ := AnAll.reads I hs ds hd rv
      exact ⟨_, .tuple h1 h2 h3 q, nq⟩
  | _, _, .dict ds, h, r => by
    cases h with
    | @dct a kvs _ e n hd =>
      cases r
      obtain ⟨_, lo, vs, rk, dd⟩ := (show ObjOk X.prog X.w H s.heap a (.dK kvs) from I.hok a _ e)
      obtain ⟨as, q, nq⟩ := AnKv.reads I hs ds hd rk
      refine ⟨_, PyProof.V.reads_dictOf (fun k y hk => key_reads k y hk) dd q, fun z => ?_⟩
      rcases List.mem_cons.mp z with z | z
      · exact low I hs e z.symm
      · exact nq z
theorem AnAll.reads (I : Inv X pins σ H s) (hs : ∃ mm, X.base.Ns sysModules mm) : ∀ {vs : List V} {us : List Value} (ds : List PyData), AnAll ms H vs ds → Vals vs us → ∃ as, ReadsAll s.heap us ds as ∧ sysModules ∉ as
  | _, _, [], h, r => by
    cases h
    cases r
    exact ⟨_, .nil, List.not_mem_nil⟩
  | _, _, d :: ds, h, r => by
    cases h with
    | cons h1 h2 =>
      cases r with
      | cons r1 r2 =>
        obtain ⟨as, q1, n1⟩ := An.reads I hs d h1 r1
        obtain ⟨bs, q2, n2⟩ := AnAll.reads I hs ds h2 r2
        exact ⟨_, .cons q1 q2, fun z => (List.mem_append.mp z).elim n1 n2⟩
theorem AnKv.reads (I : Inv X pins σ H s) (hs : ∃ mm, X.base.Ns sysModules mm) : ∀ {kvs : List (Key × V)} {vs : List (Key × Value)} (ds : List (PyData × PyData)), AnKv ms H kvs ds → KV kvs vs → ∃ as, PyProof.V.PairsRead s.heap kD vs ds as ∧ sysModules ∉ as
  | _, _, [], h, r => by
    cases h
    cases r
    exact ⟨_, .nil, List.not_mem_nil⟩
  | _, _, (y, d) :: ds, h, r => by
    cases h with
    | @cons k v kvs _ _ h1 h2 =>
      cases r with
      | @cons _ b _ _ r1 r2 =>
        obtain ⟨k2, u⟩ := b
        obtain ⟨e, r1⟩ := r1
        have e' : k = k2 := e
        subst e'
        obtain ⟨as, q1, n1⟩ := An.reads I hs d h1 r1
        obtain ⟨bs, q2, n2⟩ := AnKv.reads I hs ds h2 r2
        exact ⟨_, .cons q1 q2, fun z => (List.mem_append.mp z).elim n1 n2⟩
end
/-- repr of data, dicts among it -/
def rReprA (ms : List Addr) : List V → Hp → VK → Prop := fun xs H Q =>
  ∃ v d, xs = [v] ∧ An ms H v d ∧ fit d = true ∧ d.depth ≤ 100 ∧ wd d ≤ 1000000 ∧ Q (.str d.shown) H
theorem cr_reprA {k : Nat} (hs : ∃ mm, X.base.Ns sysModules mm) (hg : X.A.guards = some []) (hr : Room k X.A) : CallR X (.builtin "repr") (rReprA ms) := by
  intro pins s σ H xs us Q I r h
  obtain ⟨v, d, rfl, hd, hf, hp, hz, q⟩ := h
  obtain ⟨u, rfl, ru⟩ := vals1 r
  obtain ⟨as, rd, ns⟩ := An.reads I hs d hd ru
  obtain ⟨sh, ln⟩ := fit_told d hf
  have z : d.shown.length ≤ sizeLine := Nat.le_trans ln (Nat.le_trans hz (by decide))
  have room : X.A.units + (d.depth + 1) < cLine := by
    have := hr.un
    omega
  have fin : ∀ (h' : Heap) (tk : Nat) (t : Tok), (∀ b o, s.heap.get? b = some o → h'.get? b = some o) → EP X pins σ Q (.str d.shown t) { s with heap := h', toks := tk } :=
    fun h' tk t hk => ⟨.str d.shown, H, I.kept hk, ⟨t, rfl⟩, q⟩
  cases rd with
  | none => exact PySem.P.repr_of_none (fin s.heap _ _ fun _ _ e => e)
  | bool b => exact PySem.P.repr_of_bool (fin s.heap _ _ fun _ _ e => e)
  | int i t => exact PySem.P.repr_of_int (of_decide_eq_true sh) (fin s.heap _ _ fun _ _ e => e)
  | str x t => exact PySem.P.repr_of_str (fin s.heap _ _ fun _ _ e => e) z
  | list a b c e => exact repr_of_reads' (.list a b c e) sh (fun _ => ns) hg room (fun _ _ e => e) (fun h' u tk hk => fin h' tk u hk) z
  | tuple a b c e => exact repr_of_reads' (.tuple a b c e) sh (fun _ => ns) hg room (fun _ _ e => e) (fun h' u tk hk => fin h' tk u hk) z
  | dict a b c e f => exact repr_of_reads' (.dict a b c e f) sh (fun _ => ns) hg room (fun _ _ e => e) (fun h' u tk hk => fin h' tk u hk) z
end
/-! ### kinds -/
def isTup : PyData → Bool
  | .tuple _ => true
  | .none | .bool _ | .int _ | .list _ | .str _ | .dict _ => false
def isStr : PyData → Bool
  | .str _ => true
  | .none | .bool _ | .int _ | .list _ | .tuple _ | .dict _ => false
theorem An.tupK {ms : List Addr} {K : PySem.W.Frag} {H : Hp} {v : V} {d : PyData} (h : An ms H v d) : ∃ t, TyX K H v t ∧ PySem.W.kitOne K t (.type "tuple") = some (isTup d) := by
  cases h with
  | non => exact ⟨_, .base .non, kit_ty (r := false) (by decide +kernel)⟩
  | bl b => exact ⟨_, .base (.bl b), kit_ty (r := false) (by decide +kernel)⟩
  | int i => exact ⟨_, .base (.int i), kit_ty (r := false) (by decide +kernel)⟩
  | str x => exact ⟨_, .base (.str x), kit_ty (r := false) (by decide +kernel)⟩
  | lst e => exact ⟨_, .base (.lst e), kit_ty (r := false) (by decide +kernel)⟩
  | tup e => exact ⟨_, .base (.tup e), kit_ty (r := true) (by decide +kernel)⟩
  | dct e => exact ⟨_, .base (.dK e), kit_ty (r := false) (by decide +kernel)⟩
theorem An.strK {ms : List Addr} {K : PySem.W.Frag} {H : Hp} {v : V} {d : PyData} (h : An ms H v d) : ∃ t, TyX K H v t ∧ PySem.W.kitOne K t (.type "str") = some (isStr d) := by
  cases h with
  | non => exact ⟨_, .base .non, kit_ty (r := false) (by decide +kernel)⟩
  | bl b => exact ⟨_, .base (.bl b), kit_ty (r := false) (by decide +kernel)⟩
  | int i => exact ⟨_, .base (.int i), kit_ty (r := false) (by decide +kernel)⟩
  | str x => exact ⟨_, .base (.str x), kit_ty (r := true) (by decide +kernel)⟩
  | lst e => exact ⟨_, .base (.lst e), kit_ty (r := false) (by decide +kernel)⟩
  | tup e => exact ⟨_, .base (.tup e), kit_ty (r := false) (by decide +kernel)⟩
  | dct e => exact ⟨_, .base (.dK e), kit_ty (r := false) (by decide +kernel)⟩
theorem An.noneK {ms : List Addr} {H : Hp} {v : V} {d : PyData} (h : An ms H v d) : v = .non ↔ d = .none := by
  cases h <;> simp
theorem isi_tup {ms : List Addr} {K : PySem.W.Frag} {H : Hp} {v : V} {d : PyData} {Q : VK} (h : An ms H v d) (q : Q (.bl (isTup d)) H) : rIsi K [v, .ty "tuple"] H Q := by
  obtain ⟨t, a, b⟩ := h.tupK (K := K)
  exact ⟨v, .ty "tuple", t, .type "tuple", _, rfl, .ty "tuple", a, b, q⟩
theorem isi_str {ms : List Addr} {K : PySem.W.Frag} {H : Hp} {v : V} {d : PyData} {Q : VK} (h : An ms H v d) (q : Q (.bl (isStr d)) H) : rIsi K [v, .ty "str"] H Q := by
  obtain ⟨t, a, b⟩ := h.strK (K := K)
  exact ⟨v, .ty "str", t, .type "str", _, rfl, .ty "str", a, b, q⟩
end Ey
set_option maxHeartbeats 4000000
namespace Ey
open PySem PySem.Spec PyProof.Rows L2 PySem.SeqAt
/-! ### any data beside a text -/
def isThe (t : Str) : PyData → Bool
  | .str g => decide (g = t)
  | .none | .bool _ | .int _ | .list _ | .tuple _ | .dict _ => false
section
variable {A : Around} {s : Shared}
theorem rcNe_dict_str {l : Addr} {o : Obj} {es : Array DictEntry} {n : Nat} (b : Str) (u : Tok) (ho : s.heap.get? l = some o) (hc : o.cls = .type "dict") (hd : o.data = .dict es n) (hu : A.units < cLine) : RcNeAt A s (.ref l) (.str b u) true := fun prog w E Q h => by
  obtain ⟨cls, dd, data, sl⟩ := o
  simp only at hc hd
  subst hc hd
  exact rc_ne_decline_or (k := false) ⟨_, ho, rfl⟩ (typeIs_str s b u) (by decide) F.sub_str_dict F.slot_dict_ne F.slot_str_ne_refl
    (fun _ hq => call_meets F.slot_dict_ne ⟨_, ho, rfl⟩ F.entry_dict_ne (F.args_dict_ne_2 _ _) (dict_ne_declines_str l es n dd sl b u) ⟨ho, hq⟩)
    (fun _ hq => call_meets F.slot_str_ne_refl (typeIs_str s b u) F.entry_str_ne (F.args_str_ne_2 _ _) (str_ne_declines_dict b u l es n dd sl) ⟨ho, hq⟩)
    (fun _ hq => wpAny_of_eq (rfl : isSame (.ref l) (.str b u) = pure false) hq) (.inr hu) h
theorem rc_str_dict {l : Addr} {o : Obj} {es : Array DictEntry} {n : Nat} (b : Str) (u : Tok) (ho : s.heap.get? l = some o) (hc : o.cls = .type "dict") (hd : o.data = .dict es n) (hu : A.units < cLine) : RcAt A s (.str b u) (.ref l) false := fun prog w E Q h => by
  obtain ⟨cls, dd, data, sl⟩ := o
  simp only at hc hd
  subst hc hd
  exact rc_eq_decline_or (k := false) (typeIs_str s b u) ⟨_, ho, rfl⟩ (by decide) F.sub_dict_str F.slot_str_eq F.slot_dict_eq_refl
    (fun _ hq => call_meets F.slot_str_eq (typeIs_str s b u) F.entry_str_eq (F.args_str_eq_2 _ _) (str_eq_declines_dict b u l es n dd sl) ⟨ho, hq⟩)
    (fun _ hq => call_meets F.slot_dict_eq_refl ⟨_, ho, rfl⟩ F.entry_dict_eq (F.args_dict_eq_2 _ _) (dict_eq_declines_str l es n dd sl b u) ⟨ho, hq⟩)
    (fun _ hq => wpAny_of_eq (rfl : isSame (.str b u) (.ref l) = pure false) hq) (.inr hu) h
theorem eq_str_dict {l : Addr} {o : Obj} {es : Array DictEntry} {n : Nat} (b : Str) (u : Tok) (ho : s.heap.get? l = some o) (hc : o.cls = .type "dict") (hd : o.data = .dict es n) (hu : A.units < cLine) : EqAt A s (.str b u) (.ref l) false := fun prog w E Q h => by
  unfold eqBool
  refine wpAny_holding ?_
  refine wpAny_ite_split (fun hab => absurd (eq_of_beq hab) nofun) (fun _ => ?_)
  exact wpAny_bind (rc_str_dict b u ho hc hd hu prog w E _ (wpAny_truthy_bool h))
end
section
variable {X : Cx} {pins : List (Addr × Obj)} {σ : L2.St} {H : Hp} {s : Shared}
theorem dict_obj {a : Addr} {kvs : List (Key × V)} (I : Inv X pins σ H s) (e : H a = some (.dK kvs)) : ∃ (o : Obj) (es : Array DictEntry) (n : Nat), s.heap.get? a = some o ∧ o.cls = .type "dict" ∧ o.data = .dict es n := by
  obtain ⟨_, _, vs, _, o, es, ep, h1, h2, h3, _⟩ := (show ObjOk X.prog X.w H s.heap a (.dK kvs) from I.hok a _ e)
  exact ⟨o, es, ep, h1, h2.1, h3⟩
theorem tup_obj {a : Addr} {xs : List V} (I : Inv X pins σ H s) (e : H a = some (.tup xs)) : ∃ its : List Value, Vals xs its ∧ s.heap.IsTuple a its.toArray := by
  obtain ⟨_, its, r, t⟩ := (show ObjOk X.prog X.w H s.heap a (.tup xs) from I.hok a _ e)
  exact ⟨its, r, t⟩
theorem lst_obj {a : Addr} {xs : List V} (I : Inv X pins σ H s) (e : H a = some (.lst xs)) : ∃ its : List Value, Vals xs its ∧ s.heap.IsList a its.toArray := by
  obtain ⟨_, its, n, r, t⟩ := (show ObjOk X.prog X.w H s.heap a (.lst xs) from I.hok a _ e)
  exact ⟨its, r, ⟨_, t, rfl, n, rfl⟩⟩
/-- x != t, t a text -/
def rNeAn : R2 := fun x y H Q => ∃ ms d t, An ms H x d ∧ y = .str t ∧ Q (.bl (!isThe t d)) H
theorem op_neAn (hu : X.A.units < cLine) : OpR X (compareOp .NotEq) rNeAn := by
  intro pins s σ H x y v u Q I rx ry h
  obtain ⟨ms, d, t, hx, rfl, q⟩ := h
  obtain ⟨tk, rfl⟩ := ry
  have fin : ∀ b : Bool, (!isThe t d) = b → EP X pins σ Q (.bool b) s := fun b e => ⟨.bl b, H, I, rfl, e ▸ q⟩
  show wpAny _ _ (richCompare .NotEq v (.str t tk)) _ _ s
  cases hx with
  | non =>
    cases rx
    exact RcNeAt.none_str t tk _ _ _ _ (fin _ rfl)
  | bl b =>
    cases rx
    exact RcNeAt.bool_str b t tk _ _ _ _ (fin _ rfl)
  | int i =>
    obtain ⟨t2, rfl⟩ := rx
    exact RcNeAt.int_str i t2 t tk _ _ _ _ (fin _ rfl)
  | str g =>
    obtain ⟨t2, rfl⟩ := rx
    refine RcNeAt.str_str g t2 t tk _ _ _ _ (fin _ ?_)
    show (!decide (g = t)) = !(g == t)
    by_cases e : g = t
    · subst e
      simp
    · simp [e]
  | @lst a xs ds e n hd =>
    cases rx
    obtain ⟨its, r, p⟩ := lst_obj I e
    exact RcNeAt.list_str t tk p hu _ _ _ _ (fin _ rfl)
  | @tup a xs ds e hd =>
    cases rx
    obtain ⟨its, r, p⟩ := tup_obj I e
    exact RcNeAt.tuple_str t tk p hu _ _ _ _ (fin _ rfl)
  | @dct a kvs ds e n hd =>
    cases rx
    obtain ⟨o, es, ep, h1, h2, h3⟩ := dict_obj I e
    exact rcNe_dict_str t tk h1 h2 h3 hu _ _ _ _ (fin _ rfl)
/-- x in (t, ..), a tuple or list of texts -/
def rInAn (K : PySem.W.Frag) : R2 := fun x y H Q => ∃ (ms : List Addr) (d : PyData) (p : Addr) (ts : List Str), An ms H x d ∧ y = .ref p ∧ SqT K H p (ts.map V.str) ∧ Q (.bl (ts.any fun t => isThe t d)) H
theorem op_inAn (hu : X.A.units + 1 < cLine) : OpR X (compareOp .In) (rInAn X.K) := by
  intro pins s σ H x y v u Q I rx ry h
  obtain ⟨ms, d, p, ts, hx, rfl, hq, q⟩ := h
  cases ry
  obtain ⟨its, r, pl, hz⟩ := I.tuple hq
  let eU : Value → Bool := fun w => match w with
    | .str z _ => isThe z d
    | _ => false
  have ev : ∀ (ts : List Str) (us : List Value), Vals (ts.map V.str) us → us.any eU = ts.any fun t => isThe t d := by
    intro ts
    induction ts with
    | nil =>
      intro us h
      cases h
      rfl
    | cons t r ih =>
      intro us h
      cases h with
      | cons a b =>
        obtain ⟨tk, rfl⟩ := a
        rw [List.any_cons, List.any_cons, ih _ b]
  have each : ∀ (ts : List Str) (us : List Value), Vals (ts.map V.str) us → ∀ w ∈ us, ∃ z tk, w = .str z tk := by
    intro ts
    induction ts with
    | nil =>
      intro us h
      cases h
      exact fun w hw => absurd hw List.not_mem_nil
    | cons t r ih =>
      intro us h
      cases h with
      | cons a b =>
        obtain ⟨tk, rfl⟩ := a
        intro w hw
        rcases List.mem_cons.mp hw with rfl | hw
        · exact ⟨_, _, rfl⟩
        · exact ih _ b w hw
  refine SeqAt.in_tupleAt eU pl (fun w hw => ?_) ⟨.bl _, H, I, rfl, ?_⟩
  · obtain ⟨z, tk, rfl⟩ := each ts its r w (by simpa using hw)
    cases hx with
    | non =>
      cases rx
      exact EqAt.str_none z tk
    | bl b =>
      cases rx
      exact EqAt.str_bool z tk b
    | int i =>
      obtain ⟨t2, rfl⟩ := rx
      exact EqAt.str_int z tk i t2
    | str g =>
      obtain ⟨t2, rfl⟩ := rx
      have e : eU (.str z tk) = (z == g) := by
        show decide (g = z) = (z == g)
        by_cases e : g = z
        · subst e
          simp
        · have e2 : ¬ z = g := fun h => e h.symm
          simp [e, e2]
      rw [e]
      exact EqAt.str_str z tk g t2
    | @lst a xs ds e n hd =>
      cases rx
      obtain ⟨its, r, p⟩ := lst_obj I e
      exact EqAt.str_list z tk p (show X.A.units + 1 < cLine from hu)
    | @tup a xs ds e hd =>
      cases rx
      obtain ⟨its, r, p⟩ := tup_obj I e
      exact EqAt.str_tuple z tk p (show X.A.units + 1 < cLine from hu)
    | @dct a kvs ds e n hd =>
      cases rx
      obtain ⟨o, es, ep, h1, h2, h3⟩ := dict_obj I e
      exact eq_str_dict z tk h1 h2 h3 (show X.A.units + 1 < cLine from hu)
  · rw [show its.toArray.any eU = its.any eU by simp, ev ts its r]
    exact q
/-- t == (), t any tuple -/
def rEqE : R2 := fun x y H Q => ∃ a b xs, x = .ref a ∧ y = .ref b ∧ H a = some (.tup xs) ∧ H b = some (.tup []) ∧ Q (.bl xs.isEmpty) H
theorem op_eqE (hu : X.A.units + 64 < cLine) : OpR X (compareOp .Eq) rEqE := by
  intro pins s σ H x y v u Q I rx ry h
  obtain ⟨a, b, xs, rfl, rfl, h1, h2, q⟩ := h
  cases rx
  cases ry
  obtain ⟨its, r, p⟩ := tup_obj I h1
  obtain ⟨its2, r2, p2⟩ := tup_obj I h2
  cases r2
  refine PySem.W.eq_tuplesT (n := 1) (e := fun _ => true) p p2 (fun j h1 h2 => absurd h2 (by simp)) (by omega) ⟨.bl xs.isEmpty, H, I, ?_, q⟩
  cases r with
  | nil => rfl
  | cons _ _ => rfl

end
end Ey
set_option maxHeartbeats 4000000
namespace Ey
open PySem PySem.Spec L2
/-! ### a list of one's own as a pile, its top first -/
theorem pile_top (x : V) (us : List V) : ((x :: us).reverse)[(x :: us).reverse.length - 1]? = some x := by
  rw [List.reverse_cons, List.length_append]
  show (us.reverse ++ [x])[us.reverse.length + 1 - 1]? = some x
  rw [Nat.add_sub_cancel, List.getElem?_append_right (Nat.le_refl _), Nat.sub_self]
  rfl
theorem pile_pop (x : V) (us : List V) : ((x :: us).reverse).dropLast = us.reverse := by
  rw [List.reverse_cons]
  exact List.dropLast_concat
theorem pile_push (x : V) (us : List V) : us.reverse ++ [x] = (x :: us).reverse := (List.reverse_cons).symm
theorem Kp.own {ms : List Addr} {H H1 : Hp} {p : Addr} {o : HO} (k : Kp ms H H1) (n : H p = none) : Kp ms H (upd H1 p o) :=
  ⟨fun b u e h => by rw [upd_ne (ne_of_none e n)]; exact k.at_ b u e h, fun b xs e => by rw [upd_ne (ne_of_none e n)]; exact k.tup b xs e⟩
theorem tabg_kp {ms : List Addr} {H H1 : Hp} {P : Addr} (g : GxR.TabG H P) (k : Kp ms H H1) (n : P ∉ ms) : GxR.TabG H1 P := by
  obtain ⟨ps, h, t⟩ := g
  exact ⟨ps, k.at_ _ _ h n, t⟩
theorem tabg_upd {H : Hp} {P p : Addr} {o : HO} (g : GxR.TabG H P) (n : P ≠ p) : GxR.TabG (upd H p o) P := by
  obtain ⟨ps, h, t⟩ := g
  exact ⟨ps, by rw [upd_ne n]; exact h, t⟩
/-- H' is H but for the table at P -/
abbrev Tb (P : Addr) (H H' : Hp) : Prop := GxR.Tabbed P H H'
theorem tb_refl {P : Addr} {H : Hp} (h : GxR.TabG H P) : Tb P H H := ⟨h, fun _ _ => rfl⟩
theorem tb_kp {P : Addr} {H H1 : Hp} (g : GxR.TabG H P) (a : Tb P H H1) : Kp [P] H H1 := by
  refine ⟨fun b o e n => ?_, fun b xs e => ?_⟩
  · rw [a.2 b (fun q => n (by rw [q]; simp))]
    exact e
  · rw [a.2 b (fun q => ?_)]
    · exact e
    · obtain ⟨ps, h, _⟩ := g
      rw [q, h] at e
      cases e
/-- the tables of all defs that have generators -/
def TTs (Ts : List Addr) (H : Hp) : Prop := ∀ P ∈ Ts, GxR.TabG H P
theorem TTs.tab {Ts : List Addr} {H H1 : Hp} {P : Addr} (h : TTs Ts H) (hP : P ∈ Ts) (t : Tb P H H1) : TTs Ts H1 ∧ Kp Ts H H1 := by
  refine ⟨fun q hq => ?_, (tb_kp (h P hP) t).more fun x hx => by rw [List.mem_singleton.mp hx]; exact hP⟩
  by_cases e : q = P
  · rw [e]
    exact t.1
  · obtain ⟨ps, a, b⟩ := h q hq
    exact ⟨ps, (t.2 q e).trans a, b⟩
theorem TTs.kp {ms Ts : List Addr} {H H1 : Hp} (h : TTs Ts H) (k : Kp ms H H1) (n : ∀ P ∈ Ts, P ∉ ms) : TTs Ts H1 := fun P hP => tabg_kp (h P hP) k (n P hP)
theorem TTs.kp0 {Ts : List Addr} {H H1 : Hp} (h : TTs Ts H) (k : Kp [] H H1) : TTs Ts H1 := h.kp k fun _ _ => List.not_mem_nil
theorem TTs.ne {Ts : List Addr} {H : Hp} {P p : Addr} (h : TTs Ts H) (hP : P ∈ Ts) (n : H p = none) : P ≠ p := by
  obtain ⟨ps, e, _⟩ := h P hP
  exact ne_of_none e n
theorem TTs.nin {Ts : List Addr} {H : Hp} {p : Addr} (h : TTs Ts H) (n : H p = none) : p ∉ Ts := fun hp => h.ne hp n rfl
theorem TTs.nino {Ts : List Addr} {H : Hp} {p : Addr} {o : HO} (h : TTs Ts H) (e : H p = some o) (no : ∀ ps, o ≠ .tbl ps) : p ∉ Ts := fun hp => by
  obtain ⟨ps, e2, _⟩ := h p hp
  rw [e2] at e
  exact no ps (Option.some.inj e).symm
/-- all(..) over a tuple that stays -/
theorem all_tup {K : PySem.W.Frag} {a : Addr} {xs : List V} {te : TE} {Q : VK} {H1 : Hp} (Pv : Nat → Hp → Prop) (h0 : Pv 0 H1) (hl : ∀ i H, Pv i H → SqT K H a xs)
    (hs : ∀ i x H, xs[i]? = some x → Pv i H → te [some x] H fun y H3 => ∃ b, y = .bl b ∧ if b = true then Pv (i + 1) H3 else Q (.bl false) H3) (hd : ∀ H, Pv xs.length H → Q (.bl true) H) :
    ∃ (n0 : Nat) (W : Nat → Hp → Prop), W 0 H1 ∧ ∀ i H', W i H' → (i < n0 ∧ (Itt K a).go i H' ∧ ∀ v H'', (Itt K a).yld i H' v H'' → te [some v] H'' fun y H3 => ∃ b, y = .bl b ∧ if b = true then W (i + 1) H3 else Q (.bl false) H3) ∨ ((Itt K a).stop i H' ∧ Q (.bl true) H') := by
  refine ⟨xs.length, fun i H => i ≤ xs.length ∧ Pv i H, ⟨Nat.zero_le _, h0⟩, fun i H ⟨hi, p⟩ => ?_⟩
  have q := hl i H p
  by_cases lt : i < xs.length
  · refine .inl ⟨lt, ⟨xs, xs[i], q, List.getElem?_eq_getElem lt⟩, fun v H'' y => ?_⟩
    obtain ⟨e, y⟩ := y
    subst e
    have h := hs i v H'' (y xs q) p
    have e : (fun (y : V) (H3 : Hp) => ∃ b, y = .bl b ∧ if b = true then (i + 1 ≤ xs.length ∧ Pv (i + 1) H3) else Q (.bl false) H3) = fun y H3 => ∃ b, y = .bl b ∧ if b = true then Pv (i + 1) H3 else Q (.bl false) H3 := by
      funext y H3
      refine propext ⟨fun ⟨b, e, h⟩ => ⟨b, e, ?_⟩, fun ⟨b, e, h⟩ => ⟨b, e, ?_⟩⟩
      · cases b
        · exact h
        · rw [if_pos rfl] at h ⊢
          exact h.2
      · cases b
        · exact h
        · rw [if_pos rfl] at h ⊢
          exact ⟨lt, h⟩
    rw [e]
    exact h
  · have e : i = xs.length := by omega
    subst e
    exact .inr ⟨⟨xs, q, Nat.le_refl _⟩, hd H p⟩
/-- a tuple of the written part -/
def KTup (K : PySem.W.Frag) (a : Addr) (xs : List V) : Prop := ∃ (o : Obj) (its : Array Value) (n : Nat), K.lookup a = some o ∧ o.cls = .type "tuple" ∧ o.data = .seq its n ∧ its.size ≤ sizeLine ∧ Vals xs its.toList
theorem KTup.sqt {K : PySem.W.Frag} {a : Addr} {xs : List V} (h : KTup K a xs) (H : Hp) : SqT K H a xs := by
  obtain ⟨o, its, n, h1, h2, h3, h4, h5⟩ := h
  exact .inr ⟨o, its, n, h1, h2, h3, h4, h5⟩
/-- a dict of the written part: its keys are just these -/
def keyS (e : DictEntry) : Option Str := match e.key with
  | .str x _ => some x
  | _ => none
theorem no_key {K : PySem.W.Frag} {a : Addr} {o d : _} {es : Array DictEntry} {n : Nat} {sl : _} {ks : List Str} (h : K.lookup a = some ⟨o, d, .dict es n, sl⟩) (hk : es.toList.map keyS = ks.map some) {z : Str} (hz : z ∉ ks) : PySem.W.nsIn K a z = some none := by
  have all : ∀ e ∈ es.toList, ∃ x t, e.key = .str x t ∧ x ∈ ks := fun e he => by
    have m : keyS e ∈ ks.map some := hk ▸ List.mem_map.mpr ⟨e, he, rfl⟩
    obtain ⟨x, hx, ex⟩ := List.mem_map.mp m
    unfold keyS at ex
    split at ex
    · rename_i x' t' e'
      refine ⟨x', t', e', ?_⟩
      rw [← Option.some.inj ex]
      exact hx
    · cases ex
  unfold PySem.W.nsIn
  rw [h]
  have f : es.toList.find? (fun e => e.key.isStr z) = none := List.find?_eq_none.mpr fun e he q => by
    obtain ⟨x, t, e1, e2⟩ := all e he
    rw [e1] at q
    have : (x == z) = true := q
    rw [beq_iff_eq] at this
    exact hz (this ▸ e2)
  show (match es.toList.find? (fun e => e.key.isStr z) with
    | some e => some (some e.val)
    | none => if es.toList.any (fun e => e.refKey) then none else some none) = some none
  rw [f]
  have g : es.toList.any (fun e => e.refKey) = false := List.any_eq_false.mpr fun e he q => by
    obtain ⟨x, t, e1, e2⟩ := all e he
    unfold DictEntry.refKey at q
    rw [e1] at q
    cases q
  show (if es.toList.any (fun e => e.refKey) = true then none else some none) = some none
  rw [g]
  rfl
theorem fn_any {ι : Type} {P : Program} {w : World} {K : PySem.W.Frag} {mg : Str → Option Value} {base : Heap} {CX : CXT} {k : Nat} {f : Addr} {fd : FuncData} {ps : List Str} {sp : ι → Sp} (h : ∀ i, FnOk P w K mg base CX k f fd ps (sp i)) :
    FnOk P w K mg base CX k f fd ps (fun vs H Q E => ∃ i, sp i vs H Q E) :=
  ⟨fun vs H Q E ⟨i, q⟩ => (h i).len vs H Q E q, fun A outer s H args us vs Q E hr e b v ⟨i, q⟩ => (h i).run A outer s H args us vs Q E hr e b v q⟩
/-- repr of any data -/
def rReprE : List V → Hp → VK → Prop := fun xs H Q => ∃ ms, rReprA ms xs H Q
theorem cr_reprE {X : Cx} {k : Nat} (hs : ∃ mm, X.base.Ns sysModules mm) (hg : X.A.guards = some []) (hr : Room k X.A) : CallR X (.builtin "repr") rReprE := by
  intro pins s σ H xs us Q I r h
  obtain ⟨ms, h⟩ := h
  exact cr_reprA (ms := ms) hs hg hr pins s σ H xs us Q I r h
end Ey
set_option maxHeartbeats 4000000
namespace Ey
open PySem PySem.Calls PySem.Spec PyProof.Rows L2 HT
section
variable {prog : Program} {w : World} {A : Around} {E : Value → Shared → Prop} {s : Shared}
theorem ey_steps (n : Nat) : Builtin.Slice.slicePlaces ((n : Int) - 1) (-1) (-1) = n := by
  unfold Builtin.Slice.slicePlaces
  rw [if_neg (by decide)]
  by_cases hn : (n : Int) - 1 > -1
  · rw [if_pos hn]
    have q : (- -1 : Int) = 1 := by decide
    rw [q, Int.ediv_one]
    omega
  · rw [if_neg hn]
    omega
theorem ey_applied_rev {sl : Addr} {vl vu vs : Value} {n : Nat} {Q : Int × Int × Nat → Shared → Prop} (q : s.heap.IsSliceOf sl vl vu vs) (pl : IsPart vl none) (pu : IsPart vu none) (ps : IsPart vs (some (-1)))
    (h : Q ((n : Int) - 1, -1, n) s) : wpAny (model prog w) A (Builtin.Slice.sliceApplied (.ref sl) (pure (n : Int))) Q E s := by
  obtain ⟨ob, hob, hcl, hda⟩ := id q
  unfold Builtin.Slice.sliceApplied Builtin.Slice.sliceFields
  refine wpAny_bind (wpAny_bind (wpAny_field hob hda (x := vl) rfl (wpAny_bind (wpAny_field hob hda (x := vu) rfl (wpAny_bind (wpAny_field hob hda (x := vs) rfl (wpAny_pure ?_)))))))
  refine wpAny_bind (slicePart_ ps ?_)
  show wpAny _ _ (if ((-1 : Int) == 0) = true then _ else _) _ _ s
  rw [if_neg (by decide)]
  refine wpAny_bind (slicePart_ pl (wpAny_bind (slicePart_ pu (wpAny_bind (wpAny_pure ?_)))))
  show wpAny _ _ (pure ((n : Int) - 1, (-1 : Int), Builtin.Slice.slicePlaces ((n : Int) - 1) (-1) (-1))) _ _ s
  rw [ey_steps]
  exact wpAny_pure h
theorem ey_back (xs : Array Value) : ((List.range xs.size).filterMap fun (m : Nat) => xs[((xs.size : Int) - 1 + (m : Int) * -1).toNat]?).toArray = xs.toList.reverse.toArray := by
  congr 1
  refine List.ext_getElem? fun i => ?_
  have key : ∀ m, m < xs.size → xs[((xs.size : Int) - 1 + (m : Int) * -1).toNat]? = (xs.toList.reverse)[m]? := fun m hm => by
    have e : ((xs.size : Int) - 1 + (m : Int) * -1).toNat = xs.size - 1 - m := by omega
    rw [e, List.getElem?_reverse (by rw [Array.length_toList]; exact hm), Array.length_toList, Array.getElem?_toList]
  have all : ∀ l : List Nat, (∀ m ∈ l, m < xs.size) → (l.filterMap fun (m : Nat) => xs[((xs.size : Int) - 1 + (m : Int) * -1).toNat]?) = l.filterMap fun m => (xs.toList.reverse)[m]? := fun l => by
    induction l with
    | nil => intro _; rfl
    | cons a r ih =>
      intro h
      rw [List.filterMap_cons, List.filterMap_cons, key a (h a List.mem_cons_self), ih fun m hm => h m (List.mem_cons_of_mem _ hm)]
  rw [all _ fun m hm => List.mem_range.mp hm]
  have fin : ∀ ys : List Value, (List.range ys.length).filterMap (fun m => ys[m]?) = ys := fun ys => by
    induction ys with
    | nil => rfl
    | cons y r ih =>
      rw [List.length_cons, List.range_succ_eq_map, List.filterMap_cons]
      show y :: List.filterMap _ _ = _
      rw [List.filterMap_map]
      exact congrArg (List.cons y) ih
  have := fin xs.toList.reverse
  rw [List.length_reverse, Array.length_toList] at this
  rw [this]
theorem ey_tuple_rev {tp sl : Addr} {items : Array Value} {vl vu vs : Value} {Q : Value → Shared → Prop} (it : IsTup s.heap tp items) (q : s.heap.IsSliceOf sl vl vu vs) (pl : IsPart vl none) (pu : IsPart vu none) (ps : IsPart vs (some (-1)))
    (h : Q (.ref s.heap.objs.size) { s with heap := s.heap.push { cls := .type "tuple", data := .seq items.toList.reverse.toArray } })
    (hz : items.size ≤ sizeLine) : wpAny (model prog w) A (getItem (.ref tp) (.ref sl)) Q E s := by
  have fits : sizeOk (.seq items.toList.reverse.toArray) := by
    show items.toList.reverse.toArray.size ≤ sizeLine
    rw [List.size_toArray, List.length_reverse, Array.length_toList]
    exact hz
  obtain ⟨ob, hob, hcl, hda⟩ := id q
  have kind : s.TypeIs (.ref sl) "slice" := ⟨ob, hob, hcl⟩
  unfold getItem
  try with_reducible refine wpAny_holding ?_
  first | refine wpAny_bind (wpAny_pure ?_) | skip
  refine wpAny_bind (wpAny_sequenceKey it.typeIs (by decide) ?_)
  refine wpAny_bind (wpAny_callSpecial?_slot (name := Str.ofString "__getitem__") it.typeIs PyProof.Rows.slot_tuple_getitem (wpAny_call_entry PyProof.Rows.slot_tuple_getitem it.typeIs entry_tuple_getitem ?_ (args_tuple_getitem _ _)))
  show wpAny _ _ (Builtin.Tuple.tupleItemsOf (.ref tp) >>= _) _ _ s
  refine wpAny_bind (tupleItemsOf_ it ?_)
  refine wpAny_bind (wpAny_typeOf kind ?_)
  rw [if_pos (by decide)]
  refine wpAny_bind (ey_applied_rev q pl pu ps ?_)
  have off : ¬ ((((items.size : Int) - 1 == 0) && ((-1 : Int) == 1) && (items.size == items.size)) = true) := by
    rw [show ((-1 : Int) == 1) = false from rfl, Bool.and_false, Bool.false_and]
    exact Bool.false_ne_true
  show wpAny _ _ (if (((items.size : Int) - 1 == 0) && ((-1 : Int) == 1) && (items.size == items.size)) = true then _ else _) _ _ s
  rw [if_neg off, ey_back]
  first
    | exact wpAny_bind (m := Builtin.Tuple.tupleExact _) (wpAny_newObj_type (wpAny_pure ⟨_, rfl, wpAny_pure h⟩) fits)
    | exact wpAny_bind (m := Builtin.Tuple.tupleExact _) (wpAny_newObj_type (wpAny_bind (wpAny_pure (wpAny_pure ⟨_, rfl, wpAny_pure h⟩))) fits)
    | exact wpAny_bind (wpAny_bind (m := Builtin.Tuple.tupleExact _) (wpAny_newObj_type (wpAny_pure (wpAny_pure ⟨_, rfl, wpAny_pure h⟩)) fits))
    | exact wpAny_bind (wpAny_bind (m := Builtin.Tuple.tupleExact _) (wpAny_newObj_type (wpAny_pure ⟨_, rfl, wpAny_pure h⟩) fits))
end
section
variable {X : Cx}
/-- e[::-1], e a tuple or a text -/
def tRevA (K : PySem.W.Frag) (te : TE) : TE := fun σ H Q => te σ H fun x H1 => (∃ a xs, x = .ref a ∧ SqT K H1 a xs ∧ ∀ p, H1 p = none → Q (.ref p) (upd H1 p (.tup xs.reverse))) ∨ ∃ p : List Nat, x = .str (st p) ∧ p.length ≤ sizeLine ∧ Q (.str (st p.reverse)) H1
theorem sb_rev (p : List Nat) (u : Tok) : Txt.sliceBy (st p) none none (-1, u) = st p.reverse := by
  have e := step_rev_list (st p) u
  have e2 : (Txt.sliceBy (st p) none none (-1, u)) = st ((List.range p.length).map fun k => p.toArray.getD (p.length - 1 - k) 0) := by
    rw [st_of (Txt.sliceBy (st p) none none (-1, u)), e]
    rfl
  rw [e2]
  congr 1
  refine List.ext_getElem? fun i => ?_
  rw [List.getElem?_map]
  by_cases hi : i < p.length
  · rw [List.getElem?_range hi, List.getElem?_reverse hi]
    show some (p.toArray.getD (p.length - 1 - i) 0) = _
    rw [List.getElem?_eq_getElem (by omega)]
    congr 1
    simp [Array.getD, show p.length - 1 - i < p.length by omega]
  · rw [List.getElem?_eq_none (by rw [List.length_range]; omega), List.getElem?_eq_none (by rw [List.length_reverse]; omega)]
    rfl
theorem pe_revA {e : Expr} {te : TE} {k : Nat} {p1 p2 p3 pos : Pos} (he : PE X e te) : PE X (.Subscript e (.Slice none none (some (.UnaryOp .USub (.Constant (.int 1) k p1) p2)) p3) pos) (tRevA X.K te) := by
  refine ⟨fun pins s σ H Q I h => ?_⟩
  refine Subscript_ (thn (he.run pins s σ H _ I h) fun v s1 ⟨x, H1, I1, r1, q1⟩ => ?_)
  have step : PO X (some (.UnaryOp .USub (.Constant (.int 1) k p1) p2)) (tPart (tUn (rU fun i => .int (-i)) (tC (.int 1)))) := po_some (pe_un un_neg pe_int)
  refine wpAny_Slice (thn (po_none.run pins s1 σ H1 (fun o H2 => o = none ∧ H2 = H1) I1 ⟨rfl, rfl⟩) fun vl s2 ⟨lo, H2, I2, pl, ea, eb⟩ => ?_)
  subst ea eb
  refine thn (po_none.run pins s2 σ H2 (fun o H3 => o = none ∧ H3 = H2) I2 ⟨rfl, rfl⟩) fun vu s3 ⟨up, H3, I3, pu, ec, ed⟩ => ?_
  subst ec ed
  refine thn (step.run pins s3 σ H3 (fun o H4 => o = some (-1) ∧ H4 = H3) I3 ⟨1, rfl, -1, rfl, rfl, rfl⟩) fun vs s4 ⟨o, H4, I4, pst, ee, ef⟩ => ?_
  subst ee ef
  have I5 : Inv X pins σ H4 { s4 with heap := s4.heap.push { cls := .type "slice", data := .fields #[vl, vu, vs] } } := I4.kept (t' := s4.toks) fun b ob q => Heap.get?_push_of_some _ q
  rcases q1 with ⟨a, xs, ex, hx, q⟩ | ⟨p, ex, hz, q⟩
  · subst ex
    cases r1
    obtain ⟨its, r, it, hz⟩ := I5.tuple hx
    have hlen : its.toArray.size = xs.length := by rw [List.size_toArray]; exact r.length.symm
    show wpAny (model X.prog X.w) X.A (subscriptTail e (.Slice none none (some (.UnaryOp .USub (.Constant (.int 1) k p1) p2)) p3) (.ref a) (.ref s4.heap.objs.size)) (EP X pins σ Q) X.xe { s4 with heap := s4.heap.push { cls := .type "slice", data := .fields #[vl, vu, vs] } }
    refine tail_any (ops := [.ref a, .ref s4.heap.objs.size]) it.typeIs PyProof.Rows.slot_tuple_getitem.lookup ?_ (by with_unfolding_all rfl)
    refine ey_tuple_rev it (Heap.IsSliceOf.new _ vl vu vs) pl pu pst ?_ (by rw [hlen]; exact hz)
    refine ⟨.ref _, _, I5.laid (t' := s4.toks) (o := .tup xs.reverse) (fun b ob q => Heap.get?_push_of_some _ q) (Nat.le_refl _) ?_, rfl, q _ (I5.hok.fresh (Nat.le_refl _))⟩
    refine ⟨by rw [List.length_reverse]; exact hz, its.reverse, r.reverse, ?_⟩
    have := IsTup.new { s4 with heap := s4.heap.push { cls := .type "slice", data := .fields #[vl, vu, vs] } }.heap its.reverse.toArray
    simpa using this
  · subst ex
    obtain ⟨t, rfl⟩ := r1
    cases pl
    cases pu
    cases pst with
    | int _ u =>
      show wpAny (model X.prog X.w) X.A (subscriptTail e (.Slice none none (some (.UnaryOp .USub (.Constant (.int 1) k p1) p2)) p3) (.str (st p) t) (.ref s4.heap.objs.size)) (EP X pins σ Q) X.xe { s4 with heap := s4.heap.push { cls := .type "slice", data := .fields #[.none, .none, .int (-1) u] } }
      refine tail_any (ops := [.str (st p) t, .ref s4.heap.objs.size]) (typeIs_str _ _ _) F.slot_str_getitem.lookup ?_ (by with_unfolding_all rfl)
      refine wpAny_getItem_str_slice (l := none) (u := none) (st := some (-1, u)) ⟨_, Heap.get?_push_size _ rfl, rfl, rfl⟩ rfl ?_
      have made : sliceMade (st p) t none none (some (-1, u)) = .str (st p.reverse) := by
        rw [← sb_rev p u]
        rfl
      rw [made]
      refine ⟨?_, .str (st p.reverse), _, I5.tok _, ⟨_, rfl⟩, q⟩
      rw [st_len, List.length_reverse]
      exact hz
end
end Ey
set_option maxHeartbeats 4000000
namespace Ey
open PySem PySem.Spec L2
/-- a comprehension over a text -/
theorem lcStr {z : Str} {g : TG} {tests : TT} {each : TE} {slots : List Nat} {σ : L2.St} {H1 : Hp} {D : Addr} {Qd : Hp → Prop} (Pv : Nat → Hp → Prop) (h0 : Pv 0 (upd H1 D (.lst [])))
    (hs : ∀ i c H, z.cps.toList[i]? = some c → Pv i H → g (.str (st [c])) (wipe σ slots) H fun σ2 H2 => wipe σ2 slots = wipe σ slots ∧ tests σ2 H2 fun b H3 => if b = true then each σ2 H3 fun y H4 => ∃ acc, H4 D = some (.lst acc) ∧ acc.length < sizeLine ∧ Pv (i + 1) (upd H4 D (.lst (acc ++ [y]))) else Pv (i + 1) H3)
    (hd : ∀ H, Pv z.cps.toList.length H → Qd H) :
    ∃ W : Nat → Nat → Hp → Prop, (∃ m, W 0 m (upd H1 D (.lst []))) ∧ ∀ i m H, W i m H → ((Its z).stop i H ∧ Qd H) ∨ ((Its z).go i H ∧ ∃ Nx : Hp → Prop, (∀ H', Nx H' → ∃ m', m' < m ∧ W (i + 1) m' H') ∧ ∀ x H', (Its z).yld i H x H' → g x (wipe σ slots) H' fun σ2 H2 => wipe σ2 slots = wipe σ slots ∧ tests σ2 H2 fun b H3 => if b = true then each σ2 H3 fun y H4 => ∃ acc, H4 D = some (.lst acc) ∧ acc.length < sizeLine ∧ Nx (upd H4 D (.lst (acc ++ [y]))) else Nx H3) := by
  refine ⟨fun i m H => m = z.cps.size - i ∧ i ≤ z.cps.size ∧ Pv i H, ⟨_, rfl, Nat.zero_le _, h0⟩, fun i m H hw => ?_⟩
  obtain ⟨rfl, hi, p⟩ := hw
  by_cases lt : i < z.cps.size
  · refine .inr ⟨lt, Pv (i + 1), fun H' p' => ⟨z.cps.size - (i + 1), by omega, rfl, lt, p'⟩, fun v H' y => ?_⟩
    obtain ⟨rfl, c, hc, rfl⟩ := y
    exact hs i c _ (by rw [Array.getElem?_toList]; exact hc) p
  · have e : i = z.cps.size := by omega
    subst e
    exact .inl ⟨Nat.le_refl _, hd H (by rw [Array.length_toList]; exact p)⟩
theorem wd_get {ds : List PyData} {i : Nat} {d : PyData} (h : ds[i]? = some d) : wd d + 2 ≤ wdAll ds := by
  induction ds generalizing i with
  | nil => cases h
  | cons x r ih =>
    cases i with
    | zero =>
      have q : x = d := Option.some.inj h
      rw [q]
      show wd d + 2 ≤ wd d + 2 + wdAll r
      omega
    | succ i =>
      have := ih h
      show wd d + 2 ≤ wd x + 2 + wdAll r
      omega
theorem len_wd (ds : List PyData) : ds.length ≤ wdAll ds := by
  induction ds with
  | nil => exact Nat.le_refl _
  | cons x r ih =>
    show r.length + 1 ≤ wd x + 2 + wdAll r
    omega
theorem eqv_strs (ps : List Nat) : PyData.eqv (.list (ps.map fun c => .str (st [c]))) (.list []) = ps.isEmpty := by
  cases ps <;> rfl
theorem dp_signs {K : PySem.W.Frag} {H : Hp} : ∀ ps : List Nat, DpAll K H (ps.map fun c => V.str (st [c])) (ps.map fun c => .str (st [c]))
  | [] => .nil
  | c :: r => .cons (.str _) (dp_signs r)
theorem lay_signs : ∀ ps : List Nat, (∀ c ∈ ps, c < 1000) → PyData.canLayAll0 (ps.map fun c => .str (st [c])) = true ∧ PyData.depthAll (ps.map fun c => .str (st [c])) = 0
  | [], _ => ⟨rfl, rfl⟩
  | c :: r, h => by
    obtain ⟨a, b⟩ := lay_signs r fun x hx => h x (List.mem_cons_of_mem _ hx)
    refine ⟨?_, ?_⟩
    · show (PyData.canLay0 (.str (st [c])) && PyData.canLayAll0 (r.map fun c => .str (st [c]))) = true
      have q : PyData.canLay0 (.str (st [c])) = true := by
        have := h c List.mem_cons_self
        have e : (st [c]).cps = #[c] := rfl
        simp only [PyData.canLay0, PyData.strOk, e]
        simp
        omega
      rw [a, q]
      rfl
    · show max 0 (PyData.depthAll (r.map fun c => .str (st [c]))) = 0
      rw [b]
      rfl
theorem shaped_signs (ps : List Nat) (h : ∀ c ∈ ps, c < 1000) : SeqAt.shaped (.list (ps.map fun c => .str (st [c]))) = true := by
  obtain ⟨a, b⟩ := lay_signs ps h
  show (PyData.canLayAll0 (ps.map fun c => .str (st [c])) && decide (PyData.depthAll (ps.map fun c => .str (st [c])) + 1 ≤ 64)) = true
  rw [a, b]
  rfl
theorem isTag_alt (g : Str) (h1 : 1 ≤ g.length) (h2 : g.length ≤ 8) : isTag g = (g.cps.toList.filter fun c => !decide (c ∈ abc)).isEmpty := by
  rw [isTag, decide_eq_true h1, decide_eq_true h2]
  show (g.cps.toList.all fun c => decide (c ∈ abc)) = _
  generalize g.cps.toList = l
  induction l with
  | nil => rfl
  | cons a r ih =>
    rw [List.all_cons, List.filter_cons, ih]
    cases decide (a ∈ abc) <;> rfl
theorem take_filter {l : List Nat} {f : Nat → Bool} {i c : Nat} (h : l[i]? = some c) : (l.take (i + 1)).filter f = (l.take i).filter f ++ if f c = true then [c] else [] := by
  rw [List.take_add_one, h, List.filter_append]
  congr 1
  show List.filter f [c] = _
  rw [List.filter_cons]
  rfl
def wAny : Nat → Nat
  | 0 => 130
  | n + 1 => 3 * wAny n + 140
theorem wAny_ge : ∀ n, 130 ≤ wAny n
  | 0 => Nat.le_refl _
  | n + 1 => by
    have := wAny_ge n
    show 130 ≤ 3 * wAny n + 140
    omega
/-- what is told of a drawn value -/
structure Good (n w : Nat) (x : PyData) : Prop where
  f : fit x = true
  d : x.depth ≤ n
  w : wd x ≤ w
theorem Good.mono {n w n' w' : Nat} {x : PyData} (g : Good n w x) (h1 : n ≤ n') (h2 : w ≤ w') : Good n' w' x := ⟨g.f, Nat.le_trans g.d h1, Nat.le_trans g.w h2⟩
inductive GoodAll (n w : Nat) : List PyData → Prop
  | nil : GoodAll n w []
  | cons {x : PyData} {r : List PyData} : Good n w x → GoodAll n w r → GoodAll n w (x :: r)
theorem GoodAll.facts {n w : Nat} {ds : List PyData} (h : GoodAll n w ds) : fitAll ds = true ∧ PyData.depthAll ds ≤ n ∧ wdAll ds ≤ (w + 2) * ds.length := by
  induction h with
  | nil => exact ⟨rfl, Nat.zero_le _, Nat.zero_le _⟩
  | @cons x r g _ ih =>
    obtain ⟨a, b, c⟩ := ih
    refine ⟨?_, ?_, ?_⟩
    · show (fit x && fitAll r) = true
      rw [g.f, a]
      rfl
    · show max x.depth (PyData.depthAll r) ≤ n
      have := g.d
      omega
    · show wd x + 2 + wdAll r ≤ (w + 2) * (r.length + 1)
      have := g.w
      rw [Nat.mul_add]
      omega
theorem GoodAll.snoc {n w : Nat} {ds : List PyData} {x : PyData} (h : GoodAll n w ds) (g : Good n w x) : GoodAll n w (ds ++ [x]) := by
  induction h with
  | nil => exact .cons g .nil
  | cons a _ ih => exact .cons a ih
section
variable {ms ms' : List Addr} {H : Hp}
mutual
theorem An.mono (hs : ∀ x ∈ ms', x ∈ ms) : ∀ {v : V} (d : PyData), An ms H v d → An ms' H v d
  | _, .none, h => by cases h; exact .non
  | _, .bool b, h => by cases h; exact .bl b
  | _, .int i, h => by cases h; exact .int i
  | _, .str x, h => by cases h; exact .str x
  | _, .list ds, h => by
    cases h with
    | lst e n a => exact .lst e (fun q => n (hs _ q)) (AnAll.mono hs ds a)
  | _, .tuple ds, h => by
    cases h with
    | tup e a => exact .tup e (AnAll.mono hs ds a)
  | _, .dict ds, h => by
    cases h with
    | dct e n a => exact .dct e (fun q => n (hs _ q)) (AnKv.mono hs ds a)
theorem AnAll.mono (hs : ∀ x ∈ ms', x ∈ ms) : ∀ {vs : List V} (ds : List PyData), AnAll ms H vs ds → AnAll ms' H vs ds
  | _, [], h => by cases h; exact .nil
  | _, d :: r, h => by
    cases h with
    | cons a b => exact .cons (An.mono hs d a) (AnAll.mono hs r b)
theorem AnKv.mono (hs : ∀ x ∈ ms', x ∈ ms) : ∀ {vs : List (Key × V)} (ds : List (PyData × PyData)), AnKv ms H vs ds → AnKv ms' H vs ds
  | _, [], h => by cases h; exact .nil
  | _, (y, d) :: r, h => by
    cases h with
    | cons a b => exact .cons (An.mono hs d a) (AnKv.mono hs r b)
end
end
section
variable {X : Cx}
/-- t[lo:hi] of a tuple, as one case -/
def rCut : V → Option Int → Option Int → Hp → VK → Prop := fun x lo hi H Q => ∃ (a : Addr) (xs : List V), x = .ref a ∧ H a = some (.tup xs) ∧ ∀ (q : Addr) (H' : Hp), H' q = some (.tup (cutV xs lo hi)) → Kp [] H H' → Q (.ref q) H'
theorem sl_cut : SlR X rCut := by
  intro pins s σ H x v vl vu lo hi sl Q I rx hs pl pu h
  obtain ⟨a, xs, rfl, e, k⟩ := h
  refine sl_tupA pins s σ H _ v vl vu lo hi sl Q I rx hs pl pu ⟨a, xs, rfl, sqt_of e, fun w => k a H ?_ .refl, fun _ p np => k p _ upd_same (.new np)⟩
  have whole : cutV xs lo hi = xs := by
    unfold cutV
    rw [w.1, w.2, List.drop_zero, Nat.sub_zero, List.take_length]
  rw [whole]
  exact e
/-- t + u of tuples, as one case -/
def rCat2 : R2 := fun x y H Q => ∃ (a b : Addr) (xs ys : List V), x = .ref a ∧ y = .ref b ∧ H a = some (.tup xs) ∧ H b = some (.tup ys) ∧ xs.length + ys.length ≤ sizeLine ∧ ∀ (q : Addr) (H' : Hp), H' q = some (.tup (xs ++ ys)) → Kp [] H H' → Q (.ref q) H'
theorem op_cat2 : OpR X (binaryOp .Add) rCat2 := by
  intro pins s σ H x y v u Q I rx ry h
  obtain ⟨a, b, xs, ys, rfl, rfl, ea, eb, hz, k⟩ := h
  refine op_catA pins s σ H _ _ v u Q I rx ry ⟨a, b, xs, ys, rfl, rfl, sqt_of ea, sqt_of eb, hz, fun e => k b H ?_ .refl, fun _ e => k a H ?_ .refl, fun _ _ p np => k p _ upd_same (.new np)⟩
  · rw [e]
    exact eb
  · rw [e, List.append_nil]
    exact ea
theorem cut_take (xs : List V) (i : Nat) : cutV xs none (some (i : Int)) = xs.take i := by
  unfold cutV
  rw [HT.sIx_none, HT.sIx_nat, List.drop_zero, Nat.sub_zero, ← List.take_take, List.take_length]
theorem cut_drop (xs : List V) (i : Nat) : cutV xs (some (i : Int)) none = xs.drop i := by
  unfold cutV
  rw [HT.sIx_none, HT.sIx_nat]
  by_cases h : i ≤ xs.length
  · rw [Nat.min_eq_left h]
    exact List.take_of_length_le (by rw [List.length_drop]; exact Nat.le_refl _)
  · rw [Nat.min_eq_right (by omega), Nat.sub_self, List.take_zero, List.drop_of_length_le (by omega)]
theorem pe_nev {e : Expr} : PE X e (fun _ _ _ => False) := ⟨fun _ _ _ _ _ _ h => h.elim⟩
end
theorem goodAll_of {n w : Nat} : ∀ ds : List PyData, (∀ x ∈ ds, Good n w x) → GoodAll n w ds
  | [], _ => .nil
  | x :: r, h => .cons (h x List.mem_cons_self) (goodAll_of r fun y hy => h y (List.mem_cons_of_mem _ hy))
theorem two_good {n w : Nat} {x y : PyData} (a : Good n w x) (b : Good n w y) : Good (n + 1) (2 * w + 7) (.tuple [x, y]) := by
  refine ⟨?_, ?_, ?_⟩
  · show (fit x && (fit y && true)) = true
    rw [a.f, b.f]
    rfl
  · show max x.depth (max y.depth 0) + 1 ≤ n + 1
    have := a.d
    have := b.d
    omega
  · show wd x + 2 + (wd y + 2 + 0) + 3 ≤ 2 * w + 7
    have := a.w
    have := b.w
    omega
theorem bl_good (b : Bool) : Good 0 5 (.bool b) := ⟨rfl, Nat.le_refl _, Nat.le_refl _⟩
end Ey
set_option maxHeartbeats 4000000
namespace Ey
open PySem PySem.Spec L2
def topS (i : Nat) : Stmt := PySem.Challenge.pw_eyesonly_k26_polynomials_and_their_value.main.body.getD i (.Pass ⟨0, 0, 0, 0⟩)
abbrev sDeck : Stmt := topS 13
abbrev sDraw : Stmt := topS 14
abbrev sPick : Stmt := topS 15
/-- what the module leaves of the built-in names -/
structure BI (mg : Str → Option Value) : Prop where
  int : mg "int" = none
  max : mg "max" = none
  list : mg "list" = none
  len : mg "len" = none
  range : mg "range" = none
  tuple : mg "tuple" = none
  sorted : mg "sorted" = none
  repr : mg "repr" = none
  isi : mg "isinstance" = none
  str : mg "str" = none
  all : mg "all" = none
  bool : mg "bool" = none
  sum : mg "sum" = none
/-! ### the deck -/
def kLeft : Key := .inr "left"
def kMix : Key := .inr "mixed"
def kDraw : Key := .inr "draws"
theorem kLM : ¬ kLeft = kMix := by decide +kernel
theorem kLD : ¬ kLeft = kDraw := by decide +kernel
theorem kMD : ¬ kMix = kDraw := by decide +kernel
def deckD (l : Addr) (m n : Int) : List (Key × V) := [(kLeft, .ref l), (kMix, .int m), (kDraw, .int n)]
section
variable (l : Addr) (m n : Int)
theorem deck_left : valV (deckD l m n) kLeft = some (.ref l) := valV_pos rfl
theorem deck_mix : valV (deckD l m n) kMix = some (.int m) := (valV_neg kLM).trans (valV_pos rfl)
theorem deck_draw : valV (deckD l m n) kDraw = some (.int n) := (valV_neg kLD).trans ((valV_neg kMD).trans (valV_pos rfl))
theorem put_mix (z : Int) : putK (deckD l m n) kMix (.int z) = deckD l z n := by
  have h : ((deckD l m n).any fun kv => decide (kv.1 = kMix)) = true := by rw [valV_any, deck_mix]; rfl
  unfold putK
  rw [if_pos h]
  have h2 : ¬ kDraw = kMix := fun e => kMD e.symm
  simp [deckD, kLM, h2]
theorem put_draw (z : Int) : putK (deckD l m n) kDraw (.int z) = deckD l m z := by
  have h : ((deckD l m n).any fun kv => decide (kv.1 = kDraw)) = true := by rw [valV_any, deck_draw]; rfl
  unfold putK
  rw [if_pos h]
  simp [deckD, kLD, kMD]
end
theorem merge_deck (l : Addr) (m n : Int) : mergeK [] (deckD l m n) = deckD l m n := by
  have e1 : putK ([] : List (Key × V)) kLeft (.ref l) = [(kLeft, .ref l)] := putK_new _ rfl
  have e2 : putK [(kLeft, V.ref l)] kMix (.int m) = [(kLeft, V.ref l), (kMix, .int m)] := putK_new _ (valV_neg kLM)
  have e3 : putK [(kLeft, V.ref l), (kMix, V.int m)] kDraw (.int n) = deckD l m n := putK_new _ ((valV_neg kLD).trans (valV_neg kMD))
  show putK (putK (putK [] kLeft (.ref l)) kMix (.int m)) kDraw (.int n) = _
  rw [e1, e2, e3]
theorem deck_sz (l : Addr) (m n : Int) : (deckD l m n).length < sizeLine := small1000 (by show 3 ≤ 1000; decide)
section
variable {H : Hp} {d l : Addr} {m n : Int}
theorem get_left (h : H d = some (.dK (deckD l m n))) : DGet H d (kV kLeft) (some (.ref l)) := deck_left l m n ▸ DGet.k h
theorem get_mix (h : H d = some (.dK (deckD l m n))) : DGet H d (kV kMix) (some (.int m)) := deck_mix l m n ▸ DGet.k h
theorem get_draw (h : H d = some (.dK (deckD l m n))) : DGet H d (kV kDraw) (some (.int n)) := deck_draw l m n ▸ DGet.k h
theorem set_mix (h : H d = some (.dK (deckD l m n))) (z : Int) : DPut H d (kV kMix) (.int z) (upd H d (.dK (deckD l z n))) := put_mix l m n z ▸ DPut.k h (deck_sz l m n)
theorem set_draw (h : H d = some (.dK (deckD l m n))) (z : Int) : DPut H d (kV kDraw) (.int z) (upd H d (.dK (deckD l m z))) := put_draw l m n z ▸ DPut.k h (deck_sz l m n)
end
structure DeckAt (H : Hp) (d l : Addr) : Prop where
  ex : ∃ (m n : Int) (ns : List Int), H d = some (.dK (deckD l m n)) ∧ H l = some (.lst (ns.map V.int)) ∧ ns.length ≤ 63
theorem DeckAt.ne {H : Hp} {d l : Addr} (D : DeckAt H d l) : d ≠ l := by
  obtain ⟨m, n, ns, h1, h2, _⟩ := D.ex
  exact ne_of h1 h2 (by intro z; cases z)
theorem DeckAt.kp {ms : List Addr} {H H1 : Hp} {d l : Addr} (D : DeckAt H d l) (k : Kp ms H H1) (nd : d ∉ ms) (nl : l ∉ ms) : DeckAt H1 d l := by
  obtain ⟨m, n, ns, h1, h2, h3⟩ := D.ex
  exact ⟨m, n, ns, k.at_ _ _ h1 nd, k.at_ _ _ h2 nl, h3⟩
def spDraw : Sp := fun vs H Q _ => ∃ (d l : Addr) (many : Int), vs = [.ref d, .int many] ∧ DeckAt H d l ∧ 0 < many ∧ many < 4611686018427387904 ∧
  ∀ (r : Int) (H' : Hp), 0 ≤ r → r < many → DeckAt H' d l → Kp [d, l] H H' → Q (.int r) H'
section
variable {P : Program} {w : World} {K : PySem.W.Frag} {mg : Str → Option Value} {base : Heap}
theorem scDraw : FnScope ["_law_deck_here", "_law_many", "_law_cell", "_law_figure"] ["_law_deck_here", "_law_many"] (defScope sDraw) := ⟨rfl, rfl, rfl, by decide +kernel, rfl, by decide +kernel, by decide +kernel⟩
theorem fmod_lt {i j : Int} (h : 0 < j) : 0 ≤ i.fmod j ∧ i.fmod j < j := ⟨Int.fmod_nonneg_of_pos _ h, Int.fmod_lt_of_pos _ h⟩
theorem fdiv_ne : (2147483647 : Int) ≠ 0 := by decide
theorem lt64 {i : Int} (h0 : 0 ≤ i) (h1 : i < 2147483647) : -(2 ^ 64) < i ∧ i < 2 ^ 64 := by
  constructor
  · exact Int.lt_of_lt_of_le (by decide) h0
  · exact Int.lt_trans h1 (by decide)
theorem eqv_nil (ns : List Int) : PyData.eqv (.list (ns.map PyData.int)) (.list []) = ns.isEmpty := by
  cases ns <;> rfl
theorem dp_ints {K : PySem.W.Frag} {H : Hp} : ∀ ns : List Int, DpAll K H (ns.map V.int) (ns.map PyData.int)
  | [] => .nil
  | n :: r => .cons (.int n) (dp_ints r)
theorem lay_ints : ∀ ns : List Int, PyData.canLayAll0 (ns.map PyData.int) = true ∧ PyData.depthAll (ns.map PyData.int) = 0
  | [] => ⟨rfl, rfl⟩
  | n :: r => by
    obtain ⟨a, b⟩ := lay_ints r
    refine ⟨?_, ?_⟩
    · show (PyData.canLay0 (.int n) && PyData.canLayAll0 (r.map PyData.int)) = true
      rw [a]
      rfl
    · show max 0 (PyData.depthAll (r.map PyData.int)) = 0
      rw [b]
      rfl
theorem shaped_ints (ns : List Int) : SeqAt.shaped (.list (ns.map PyData.int)) = true := by
  obtain ⟨a, b⟩ := lay_ints ns
  show (PyData.canLayAll0 (ns.map PyData.int) && decide (PyData.depthAll (ns.map PyData.int) + 1 ≤ 64)) = true
  rw [a, b]
  rfl
theorem ok_draw {f : Addr} {fd : FuncData} (F : Fun K "_law_draw" "_law_draw" sDraw f fd) (B : BI mg) : FnOk P w K mg base CX0 1 f fd ["_law_deck_here", "_law_many"] spDraw := by
  refine F.ok scDraw (fun vs H Q E h => ?_) (fun cdv A outer s H vs Q E hr h => ?_)
  · obtain ⟨d, l, many, rfl, _⟩ := h
    rfl
  · obtain ⟨d, l, many, rfl, D, m0, m1, k⟩ := h
    have hu := hu_of hr
    have mne : many ≠ 0 := by omega
    -- the tail: figure, figure, figure, return
    obtain ⟨tt, dt, rt⟩ : ∃ tt, PSs (cxOf CX0 P w K mg base ["_law_deck_here", "_law_many", "_law_cell", "_law_figure"] "_law_draw" (defScope sDraw) f cdv A outer s H E).nox ((defBody sDraw).drop 2) tt ∧
        ∀ (H2 : Hp) (y : Option V), DeckAt H2 d l → Kp [d, l] H H2 → tt { nx := fun _ H' => Q .non H', rt := Q } [some (.ref d), some (.int many), y, none] H2 := by
      refine ⟨_, pss_cons (ps_set (i := 3) scDraw.nd rfl (.inl rfl) (pe_op op_modN (pe_callTy call_int1 (by rfl) B.int (by decide +kernel) (pa_cons (pe_op op_add (pe_dget hu (pv 0) pe_str (fun _ _ => rfl)) (pe_op op_mul pe_int (pe_dget hu (pv 0) pe_str (fun _ _ => rfl)))) pa_nil)) pe_int))
        (pss_cons (ps_set (i := 3) scDraw.nd rfl (.inl rfl) (pe_op op_modN (pe_callTy call_int1 (by rfl) B.int (by decide +kernel) (pa_cons (pe_op op_add (pe_op op_add (pe_op op_mul (pv 3) (pv 3)) (pe_op op_mul pe_int (pe_dget hu (pv 0) pe_str (fun _ _ => rfl)))) pe_int) pa_nil)) pe_int))
        (pss_cons (ps_set (i := 3) scDraw.nd rfl (.inl rfl) (pe_op op_modN (pe_callTy call_int1 (by rfl) B.int (by decide +kernel) (pa_cons (pe_op op_add (pe_op op_mul (pv 3) pe_int) pe_int) pa_nil)) pe_int))
        (pss_one (ps_ret (pe_op op_modN (pe_callTy call_int1 (by rfl) B.int (by decide +kernel) (pa_cons (pe_op op_fdivN (pv 3) pe_int) pa_nil)) (pv 1)))))), fun H2 y D2 k2 => ?_⟩
      obtain ⟨m, n, ns, hd, hl, hn⟩ := id D2
      refine ⟨_, rfl, d, _, rfl, get_mix hd, _, rfl, d, _, rfl, get_draw hd, _, _, rfl, rfl, .inl ⟨by decide, by decide⟩, _, _, rfl, rfl, .inl ⟨_, rfl, ?_⟩⟩
      refine ⟨_, _, rfl, rfl, (by decide : (2147483647 : Int) ≠ 0), ?_⟩
      have b1 := fmod_lt (i := m + 31337 * n) (j := 2147483647) (by decide)
      refine ⟨_, rfl, _, rfl, _, _, rfl, rfl, .inl (lt64 b1.1 b1.2), _, rfl, d, _, rfl, get_draw hd, _, _, rfl, rfl, .inl ⟨by decide, by decide⟩, _, _, rfl, rfl, _, _, rfl, rfl, .inl ⟨_, rfl, ?_⟩⟩
      refine ⟨_, _, rfl, rfl, (by decide : (2147483629 : Int) ≠ 0), ?_⟩
      have b2 := fmod_lt (i := (m + 31337 * n).fmod 2147483647 * (m + 31337 * n).fmod 2147483647 + 48271 * n + 3) (j := 2147483629) (by decide)
      refine ⟨_, rfl, _, _, rfl, rfl, .inl (lt64 b2.1 (Int.lt_trans b2.2 (by decide : (2147483629 : Int) < 2147483647))), _, _, rfl, rfl, .inl ⟨_, rfl, ?_⟩⟩
      refine ⟨_, _, rfl, rfl, (by decide : (2147483563 : Int) ≠ 0), ?_⟩
      refine ⟨_, rfl, _, _, rfl, rfl, (⟨by decide, by decide⟩ : (64 : Int) ≠ 0 ∧ (64 : Int).natAbs < 1073741824), .inl ⟨_, rfl, _, rfl, _, _, rfl, rfl, mne, ?_⟩⟩
      have b3 := fun i : Int => fmod_lt (i := i) m0
      exact k _ H2 (b3 _).1 (b3 _).2 D2 k2
    refine ⟨_, pss_cons (ps_dput hu (pv 0) pe_str (pe_op op_add (pe_dget hu (pv 0) pe_str (fun _ _ => rfl)) pe_int) rfl)
      (pss_cons (ps_if (pt_cmpR (op_neD hr.units) (pe_dget hu (pv 0) pe_str (fun _ _ => rfl)) (pe_lst pa_nil) (nomark _))
        (pss_cons (ps_set (i := 2) scDraw.nd rfl (.inl rfl) (pe_bm0 PySem.F.plainAttrs_list PySem.F.slot_list_pop PySem.F.type_list_pop mt_pop (pe_dget hu (pv 0) pe_str (fun _ _ => rfl))))
        (pss_cons (ps_if (pt_cmpR op_ge (pv 2) (pe_op op_pow pe_int pe_int) (nomark _))
          (pss_cons (ps_expr (pe_bm PySem.F.plainAttrs_list PySem.F.slot_list_append PySem.F.type_list_append mt_append (pe_dget hu (pv 0) pe_str (fun _ _ => rfl))
            (pa_cons (pe_op op_fdivW (pv 2) (pe_callB (call_max2 rfl) (by rfl) B.max (by decide +kernel) (pa_cons pe_int (pa_cons (pv 1) pa_nil)))) pa_nil)))
          (pss_one (ps_ret (pe_op op_modN (pe_callTy call_int1 (by rfl) B.int (by decide +kernel) (pa_cons (pv 2) pa_nil)) (pv 1))))) pss_nil)
        (pss_one (ps_dput hu (pv 0) pe_str (pe_op op_modN (pe_callTy call_int1 (by rfl) B.int (by decide +kernel) (pa_cons (pe_op op_add (pe_op op_add (pe_op op_mul (pe_dget hu (pv 0) pe_str (fun _ _ => rfl)) pe_int)
          (pe_op op_modN (pe_callTy call_int1 (by rfl) B.int (by decide +kernel) (pa_cons (pv 2) pa_nil)) pe_int)) pe_int) pa_nil)) pe_int) rfl)))) pss_nil)
      dt), ?_⟩
    obtain ⟨m, n, ns, hd, hl, hn⟩ := D.ex
    have ndl := D.ne
    -- deck['draws'] = deck['draws'] + 1
    refine ⟨_, rfl, d, _, rfl, get_draw hd, _, _, rfl, rfl, _, rfl, d, _, rfl, set_draw hd _, ?_⟩
    have kd : Kp [d, l] H (upd H d (.dK (deckD l m (n + 1)))) := .put (by simp) hd (fun xs z => by cases z)
    have hd1 : (upd H d (.dK (deckD l m (n + 1)))) d = some (.dK (deckD l m (n + 1))) := upd_same
    have hl1 : (upd H d (.dK (deckD l m (n + 1)))) l = some (.lst (ns.map V.int)) := by rw [upd_ne ndl.symm]; exact hl
    generalize upd H d (.dK (deckD l m (n + 1))) = H1 at kd hd1 hl1
    -- if deck['left'] != []
    refine ⟨_, rfl, d, _, rfl, get_left hd1, Nat.zero_le _, fun p np => ⟨.list (ns.map PyData.int), .list [], .lst (sql_of (by rw [upd_ne (ne_of_none hl1 np)]; exact hl1)) (dp_ints ns), .lst (sql_of upd_same) .nil, shaped_ints ns, rfl, ?_⟩⟩
    rw [eqv_nil]
    have kp : Kp [d, l] H (upd H1 p (.lst [])) := kd.trans (.new np)
    have hd2 : (upd H1 p (.lst [])) d = some (.dK (deckD l m (n + 1))) := by rw [upd_ne (ne_of_none hd1 np)]; exact hd1
    have hl2 : (upd H1 p (.lst [])) l = some (.lst (ns.map V.int)) := by rw [upd_ne (ne_of_none hl1 np)]; exact hl1
    generalize upd H1 p (.lst []) = H2 at kp hd2 hl2
    refine ⟨_, rfl, ?_⟩
    cases e : ns.isEmpty with
    | true =>
      refine iteF ?_
      exact rt H2 _ ⟨_, _, _, hd2, hl2, hn⟩ kp
    | false =>
      refine iteT ?_
      -- cell = deck['left'].pop()
      obtain ⟨ini, z, rfl⟩ : ∃ ini z, ns = ini ++ [z] := by
        refine ⟨ns.dropLast, ns.getLast (fun q => by rw [q] at e; cases e), (List.dropLast_concat_getLast _).symm⟩
      have lst : ((ini ++ [z]).map V.int)[((ini ++ [z]).map V.int).length - 1]? = some (.int z) := by
        rw [List.map_append, List.length_append]
        show (ini.map V.int ++ [V.int z])[(ini.map V.int).length + 1 - 1]? = _
        rw [Nat.add_sub_cancel, List.getElem?_append_right (Nat.le_refl _), Nat.sub_self]
        rfl
      have dr : ((ini ++ [z]).map V.int).dropLast = ini.map V.int := by
        rw [List.map_append]
        exact List.dropLast_concat
      rw [List.length_append] at hn
      have hn' : ini.length + 1 ≤ 63 := hn
      refine ⟨_, rfl, d, _, rfl, get_left hd2, .inl ⟨rfl, _, sql_of hl2⟩, l, _, _, rfl, rfl, hl2, lst, ?_⟩
      rw [dr]
      have k3 : Kp [d, l] H (upd H2 l (.lst (ini.map V.int))) := kp.trans (.put (by simp) hl2 (fun xs z => by cases z))
      have hd3 : (upd H2 l (.lst (ini.map V.int))) d = some (.dK (deckD l m (n + 1))) := by rw [upd_ne ndl]; exact hd2
      have hl3 : (upd H2 l (.lst (ini.map V.int))) l = some (.lst (ini.map V.int)) := upd_same
      generalize upd H2 l (.lst (ini.map V.int)) = H3 at k3 hd3 hl3
      -- if cell >= 10 ** 18
      refine ⟨_, rfl, _, _, rfl, rfl, (⟨by decide, by decide, by decide⟩ : (0 : Int) ≤ 18 ∧ (18 : Int) ≤ 1000000 ∧ (10 : Int).natAbs < 2 ^ 64), _, _, rfl, rfl, _, rfl, ite2 (fun _ => ?_) (fun _ => ?_)⟩
      · -- append, return
        refine ⟨_, rfl, d, _, rfl, get_left hd3, .inl ⟨rfl, _, sql_of hl3⟩, _, rfl, _, rfl, _, _, rfl, _, _, rfl, rfl, ?_, ?_⟩
        · refine wide_div (b := 62) ?_ ?_ (by decide) (by decide)
          · show 0 < (if many > 2 then many else 2)
            split <;> omega
          · show (if many > 2 then many else 2).natAbs < 4611686018427387904
            split <;> omega
        · refine ⟨l, _, _, rfl, rfl, hl3, ?_, ?_⟩
          · rw [List.length_map]
            exact small1000 (by omega)
          · refine ⟨_, rfl, .inl ⟨_, rfl, _, rfl, _, _, rfl, rfl, mne, ?_⟩⟩
            have b3 := fun i : Int => fmod_lt (i := i) m0
            refine k _ _ (b3 _).1 (b3 _).2 ⟨m, n + 1, ini ++ [z / (if many > 2 then many else 2)], ?_, ?_, ?_⟩ (k3.trans (.put (by simp) hl3 (fun xs z => by cases z)))
            · rw [upd_ne ndl]
              exact hd3
            · rw [upd_same, List.map_append]
              rfl
            · rw [List.length_append]
              show ini.length + 1 ≤ 63
              omega
      · refine ⟨_, rfl, d, _, rfl, get_mix hd3, _, _, rfl, rfl, .inr ⟨by decide, by decide⟩, _, rfl, .inl ⟨_, rfl, _, _, rfl, rfl, (by decide : (2147483629 : Int) ≠ 0), _, _, rfl, rfl, _, _, rfl, rfl, .inl ⟨_, rfl, ?_⟩⟩⟩
        refine ⟨_, _, rfl, rfl, (by decide : (2147483587 : Int) ≠ 0), _, rfl, d, _, rfl, set_mix hd3 _, ?_⟩
        refine rt _ _ ⟨_, _, ini, upd_same, ?_, by omega⟩ (k3.trans (.put (by simp) hd3 (fun xs z => by cases z)))
        rw [upd_ne ndl.symm]
        exact hl3
theorem cut63 (xs : List V) (h : xs.length ≤ 63) : cutV xs none (some 63) = xs := by
  unfold cutV
  rw [HT.sIx_none, show HT.sIx xs.length xs.length (some 63) = min 63 xs.length from HT.sIx_nat _ _ 63, Nat.min_eq_right h]
  show List.take xs.length xs = xs
  exact List.take_length
theorem scDeck : FnScope ["_law_script", "_law_mixed", "_law_cell"] ["_law_script"] (defScope sDeck) := ⟨rfl, rfl, rfl, by decide +kernel, rfl, by decide +kernel, by decide +kernel⟩
def spDeck (K : PySem.W.Frag) : Sp := fun vs H Q _ => ∃ (a : Addr) (ns : List Int), vs = [.ref a] ∧ SqL K H a (ns.map V.int) ∧ ns.length ≤ 63 ∧
  ∀ (d l : Addr) (H' : Hp), DeckAt H' d l → Kp [] H H' → H d = none → H l = none → Q (.ref d) H'
theorem ok_deck {f : Addr} {fd : FuncData} (F : Fun K "_law_deck" "_law_deck" sDeck f fd) (B : BI mg) : FnOk P w K mg base CX0 1 f fd ["_law_script"] (spDeck K) := by
  refine F.ok scDeck (fun vs H Q E h => ?_) (fun cdv A outer s H vs Q E hr h => ?_)
  · obtain ⟨a, ns, rfl, _⟩ := h
    rfl
  · obtain ⟨a, ns, rfl, hS, hn, k⟩ := h
    refine ⟨_, pss_cons (ps_set (i := 1) scDeck.nd rfl (.inl rfl) pe_int)
      (pss_cons (ps_for PassesOwn.never rfl (pi_list (pe_slice sl_list (pv 0) po_none (po_some pe_int))) (pg_name (i := 2) scDeck.nd rfl (.inl rfl))
        (pss_one (ps_set (i := 1) scDeck.nd rfl (.inl rfl) (pe_op op_modN (pe_callTy call_int1 (by rfl) B.int (by decide +kernel) (pa_cons (pe_op op_add (pe_op op_add (pe_op op_mul (pv 1) pe_int)
          (pe_op op_modN (pe_callTy call_int1 (by rfl) B.int (by decide +kernel) (pa_cons (pv 2) pa_nil)) pe_int)) pe_int) pa_nil)) pe_int))))
      (pss_one (ps_ret (pe_disp (pps_cons pe_str (pe_revL (pe_callTy call_list_of (by rfl) B.list (by decide +kernel) (pa_cons (pe_slice sl_list (pv 0) po_none (po_some pe_int)) pa_nil)))
        (pps_cons pe_str (pv 1) (pps_cons pe_str pe_int pps_nil))) (by rfl) (by rfl) (fun z => by cases z) (by decide))))), ?_⟩
    have hl63 : (ns.map V.int).length ≤ 63 := by rw [List.length_map]; exact hn
    refine ⟨_, rfl, 63, rfl, a, ns.map V.int, rfl, hS, fun c nc => ?_⟩
    rw [cut63 _ hl63]
    have k0 : Kp [] H (upd H c (.lst (ns.map V.int))) := .new nc
    refine ⟨c, rfl, ⟨_, sql_of upd_same⟩, for_list (K := K) (a := c) (xs := ns.map V.int) (fun i σ H2 => ∃ (m : Int) (y : Option V), σ = [some (.ref a), some (.int m), y] ∧ Kp [] H H2 ∧ SqL K H2 c (ns.map V.int))
      ⟨_, none, rfl, k0, sql_of upd_same⟩ (fun i σ H2 _ ⟨_, _, _, _, q⟩ => q) ?_ ?_⟩
    · rintro i x σ H2 hi ⟨m, y, rfl, k2, hc⟩
      obtain ⟨z, rfl⟩ : ∃ z, x = V.int z := by
        rw [List.getElem?_map] at hi
        obtain ⟨z, _, e⟩ := Option.map_eq_some_iff.mp hi
        exact ⟨z, e.symm⟩
      refine ⟨_, rfl, _, _, rfl, rfl, .inr ⟨by decide, by decide⟩, _, rfl, .inl ⟨_, rfl, _, _, rfl, rfl, (by decide : (2147483647 : Int) ≠ 0), _, _, rfl, rfl, _, _, rfl, rfl, .inl ⟨_, rfl, ?_⟩⟩⟩
      exact ⟨_, _, rfl, rfl, (by decide : (2147483563 : Int) ≠ 0), _, _, rfl, k2, hc⟩
    · rintro σ H2 ⟨m, y, rfl, k2, hc⟩
      intro d nd
      have kd : Kp [] H2 (upd H2 d (.dK [])) := .new nd
      have hdd : (upd H2 d (.dK [])) d = some (.dK []) := upd_same
      generalize upd H2 d (.dK []) = H3 at kd hdd
      have hS3 : SqL K H3 a (ns.map V.int) := (k2.trans kd).lst List.not_mem_nil hS
      refine ⟨_, rfl, 63, rfl, a, ns.map V.int, rfl, hS3, fun e ne => ?_⟩
      rw [cut63 _ hl63]
      refine ⟨e, _, rfl, .inl (sql_of upd_same), fun g ng => ?_⟩
      refine ⟨g, _, rfl, sql_of upd_same, fun l nl => ?_⟩
      have k5 : Kp [] H3 (upd (upd (upd H3 e (.lst (ns.map V.int))) g (.lst (ns.map V.int))) l (.lst (ns.map V.int).reverse)) := (Kp.new ne).trans ((Kp.new ng).trans (Kp.new nl))
      have hl5 : (upd (upd (upd H3 e (.lst (ns.map V.int))) g (.lst (ns.map V.int))) l (.lst (ns.map V.int).reverse)) l = some (.lst (ns.map V.int).reverse) := upd_same
      have nl3 : H3 l = none := ((Kp.new (ms := []) ne).trans (Kp.new ng)).free nl List.not_mem_nil
      generalize upd (upd (upd H3 e (.lst (ns.map V.int))) g (.lst (ns.map V.int))) l (.lst (ns.map V.int).reverse) = H4 at k5 hl5
      have hd4 : H4 d = some (.dK []) := k5.at_ _ _ hdd List.not_mem_nil
      refine ⟨_, rfl, hd4, deckD l m 0, rfl, by show 3 ≤ 15; decide, ?_⟩
      rw [merge_deck]
      have ndl : d ≠ l := ne_of hd4 hl5 (by intro z; cases z)
      refine k d l _ ⟨m, 0, ns.reverse, upd_same, ?_, by rw [List.length_reverse]; exact hn⟩ ?_ (k2.free nd List.not_mem_nil) ((k2.trans kd).free nl3 List.not_mem_nil)
      · rw [upd_ne ndl.symm, hl5, List.map_reverse]
      · refine ⟨fun b o e1 _ => ?_, fun b xs e1 => ?_⟩
        · have nb : b ≠ d := ne_of_none e1 (k2.free nd List.not_mem_nil)
          rw [upd_ne nb]
          exact k5.at_ _ _ (kd.at_ _ _ (k2.at_ _ _ e1 List.not_mem_nil) List.not_mem_nil) List.not_mem_nil
        · have nb : b ≠ d := ne_of_none e1 (k2.free nd List.not_mem_nil)
          rw [upd_ne nb]
          exact k5.tup _ _ (kd.tup _ _ (k2.tup _ _ e1))
theorem scPick : FnScope ["_law_deck_here", "_law_some"] ["_law_deck_here", "_law_some"] (defScope sPick) := ⟨rfl, rfl, rfl, by decide +kernel, rfl, by decide +kernel, by decide +kernel⟩
def spPick (K : PySem.W.Frag) : Sp := fun vs H Q _ => ∃ (d l a : Addr) (xs : List V), vs = [.ref d, .ref a] ∧ DeckAt H d l ∧ SqL K H a xs ∧ xs ≠ [] ∧ xs.length ≤ 1000000 ∧ a ≠ d ∧ a ≠ l ∧
  ∀ (x : V) (H' : Hp), x ∈ xs → DeckAt H' d l → Kp [d, l] H H' → Q x H'
/-- a def of the module, as callers need it -/
structure Df (K : PySem.W.Frag) (mg : Str → Option Value) (x : Str) (st : Stmt) (ps : List Str) (f : Addr) (fd : FuncData) : Prop where
  F : Fun K x x st f fd
  b : Binds K fd ps []
  g : mg x = some (.ref f)
theorem ok_pick {f fD : Addr} {fd fdD : FuncData} (F : Fun K "_law_pick" "_law_pick" sPick f fd) (B : BI mg) (D : Df K mg "_law_draw" sDraw ["_law_deck_here", "_law_many"] fD fdD) : FnOk P w K mg base CX0 2 f fd ["_law_deck_here", "_law_some"] (spPick K) := by
  refine F.ok scPick (fun vs H Q E h => ?_) (fun cdv A outer s H vs Q E hr h => ?_)
  · obtain ⟨d, l, a, xs, rfl, _⟩ := h
    rfl
  · obtain ⟨d, l, a, xs, rfl, DA, hS, hne, hlen, had, hal, k⟩ := h
    refine ⟨_, pss_one (ps_ret (pe_ix ix_list (pv 1) (pe_call (ok_draw D.F B) hr (by rfl) D.g D.F.kp D.b .nil pass0 (pa_cons (pv 0) (pa_cons (pe_callB call_len_seq (by rfl) B.len PySem.boot_len (pa_cons (pv 1) pa_nil)) pa_nil))) (fun _ _ => rfl))), ?_⟩
    have hpos : 0 < xs.length := List.length_pos_iff.mpr hne
    refine ⟨_, rfl, _, rfl, _, rfl, a, xs, rfl, .inl hS, d, l, _, rfl, DA, by omega, by omega, fun r H' r0 r1 D' kp => ?_⟩
    have hn : a ∉ [d, l] := by simp [had, hal]
    obtain ⟨i, rfl⟩ : ∃ i : Nat, r = (i : Int) := ⟨r.toNat, by omega⟩
    have hi : i < xs.length := by omega
    refine ⟨a, xs, _, xs[i], rfl, rfl, kp.lst hn hS, ?_, ?_⟩
    · exact atI_nat (List.getElem?_eq_getElem hi)
    · exact k _ H' (List.getElem_mem hi) D' kp
end
end Ey
set_option maxHeartbeats 4000000
namespace Ey
open PySem PySem.Spec L2
/-! ### the program: pairs, powers -/
abbrev sPlain : Stmt := topS 5
abbrev sNat : Stmt := topS 6
abbrev sPair : Stmt := topS 8
abbrev sPower : Stmt := topS 10
def natD : PyData → Bool
  | .int i => decide (0 ≤ i)
  | .none | .bool _ | .str _ | .list _ | .tuple _ | .dict _ => false
def posD : PyData → Bool
  | .int i => decide (0 < i)
  | .none | .bool _ | .str _ | .list _ | .tuple _ | .dict _ => false
def pairD : PyData → Bool
  | .tuple [x, y] => natD x && posD y
  | _ => false
structure PB (K : PySem.W.Frag) (mg : Str → Option Value) (A : Nat → Addr) (D : Nat → FuncData) : Prop where
  B : BI mg
  plain : Df K mg "is_plain_int" sPlain ["thing"] (A 5) (D 5)
  nat : Df K mg "is_natural" sNat ["thing"] (A 6) (D 6)
  pair : Df K mg "is_pair" sPair ["thing"] (A 8) (D 8)
  power : Df K mg "power" sPower ["base", "exponent"] (A 10) (D 10)
section
variable {Pr : Program} {w : World} {K : PySem.W.Frag} {mg : Str → Option Value} {base : Heap} {ms : List Addr} {A : Nat → Addr} {D : Nat → FuncData}
theorem scPlain : FnScope ["thing"] ["thing"] (defScope sPlain) := ⟨rfl, rfl, rfl, by decide +kernel, rfl, by decide +kernel, by decide +kernel⟩
def isIntD : PyData → Bool
  | .int _ => true
  | .none | .bool _ | .str _ | .list _ | .tuple _ | .dict _ => false
def spI (ms : List Addr) (g : PyData → Bool) : Sp := fun vs H Q _ => ∃ (v : V) (d : PyData), vs = [v] ∧ An ms H v d ∧ Q (.bl (g d)) H
theorem ok_plain {x y : Str} {st : Stmt} {f : Addr} {fd : FuncData} (F : Fun K x x st f fd) (sc : FnScope [y] [y] (defScope st)) 
    (ht : ∀ (cdv : Value) (Ar : Around) (outer : List Env) (s : Shared) (H : Hp) (E : XK), PSs (cxOf CX0 Pr w K mg base [y] x (defScope st) f cdv Ar outer s H E).nox (defBody st)
      (tRet (tAndV (tCB (rIsi K) (tCons (tVar 0) (tCons (tC (.ty "int")) tNil))) (tNotV (tCB (rIsi K) (tCons (tVar 0) (tCons (tC (.ty "bool")) tNil))))))) : FnOk Pr w K mg base CX0 1 f fd [y] (spI ms isIntD) := by
  refine F.ok sc (fun vs H Q E h => ?_) (fun cdv Ar outer s H vs Q E hr h => ?_)
  · obtain ⟨v, d, rfl, _⟩ := h
    rfl
  · obtain ⟨v, d, rfl, hv, k⟩ := h
    refine ⟨_, ht cdv Ar outer s H E, ?_⟩
    cases hv with
    | non => exact ⟨_, rfl, _, .ty "int", _, .type "int", false, rfl, .ty "int", .base .non, kit_ty (by decide +kernel), false, rfl, iteF k⟩
    | bl b => exact ⟨_, rfl, _, .ty "int", _, .type "int", true, rfl, .ty "int", .base (.bl b), kit_ty (by decide +kernel), true, rfl, iteT ⟨_, rfl, _, .ty "bool", _, .type "bool", true, rfl, .ty "bool", .base (.bl b), kit_ty (by decide +kernel), _, rfl, k⟩⟩
    | int i => exact ⟨_, rfl, _, .ty "int", _, .type "int", true, rfl, .ty "int", .base (.int i), kit_ty (by decide +kernel), true, rfl, iteT ⟨_, rfl, _, .ty "bool", _, .type "bool", false, rfl, .ty "bool", .base (.int i), kit_ty (by decide +kernel), _, rfl, k⟩⟩
    | str x => exact ⟨_, rfl, _, .ty "int", _, .type "int", false, rfl, .ty "int", .base (.str x), kit_ty (by decide +kernel), false, rfl, iteF k⟩
    | lst e => exact ⟨_, rfl, _, .ty "int", _, .type "int", false, rfl, .ty "int", .base (.lst e), kit_ty (by decide +kernel), false, rfl, iteF k⟩
    | tup e => exact ⟨_, rfl, _, .ty "int", _, .type "int", false, rfl, .ty "int", .base (.tup e), kit_ty (by decide +kernel), false, rfl, iteF k⟩
    | dct e => exact ⟨_, rfl, _, .ty "int", _, .type "int", false, rfl, .ty "int", .base (.dK e), kit_ty (by decide +kernel), false, rfl, iteF k⟩
theorem go_plain (F : PB K mg A D) : FnOk Pr w K mg base CX0 1 (A 5) (D 5) ["thing"] (spI ms isIntD) :=
  ok_plain F.plain.F scPlain fun cdv Ar outer s H E => pss_one (ps_ret (pe_and (pe_callB call_isi (by rfl) F.B.isi (by decide +kernel) (pa_cons (pv 0) (pa_cons (pe_bltn (v := .ty "int") (by rfl) F.B.int (by decide +kernel) rfl) pa_nil)))
      (pe_one (pe_not (pe_callB call_isi (by rfl) F.B.isi (by decide +kernel) (pa_cons (pv 0) (pa_cons (pe_bltn (v := .ty "bool") (by rfl) F.B.bool (by decide +kernel) rfl) pa_nil)))))))
theorem scNat : FnScope ["thing"] ["thing"] (defScope sNat) := ⟨rfl, rfl, rfl, by decide +kernel, rfl, by decide +kernel, by decide +kernel⟩
theorem ok_nat (F : PB K mg A D) : FnOk Pr w K mg base CX0 2 (A 6) (D 6) ["thing"] (spI ms natD) := by
  refine F.nat.F.ok scNat (fun vs H Q E h => ?_) (fun cdv Ar outer s H vs Q E hr h => ?_)
  · obtain ⟨v, d, rfl, _⟩ := h
    rfl
  · obtain ⟨v, d, rfl, hv, k⟩ := h
    refine ⟨_, pss_one (ps_ret (pe_and (pe_call (go_plain (ms := ms) F) hr (by rfl) F.plain.g F.plain.F.kp F.plain.b .nil pass0 (pa_cons (pv 0) pa_nil)) (pe_one (pe_cmpR op_ge (pv 0) pe_int (nomark _))))), ?_⟩
    refine ⟨_, rfl, v, d, rfl, hv, _, rfl, ?_⟩
    cases hv with
    | int i =>
      refine iteT ⟨_, rfl, _, _, rfl, rfl, ?_⟩
      exact k
    | non => exact iteF k
    | bl b => exact iteF k
    | str x => exact iteF k
    | lst e => exact iteF k
    | tup e => exact iteF k
    | dct e => exact iteF k
theorem scPair : FnScope ["thing"] ["thing"] (defScope sPair) := ⟨rfl, rfl, rfl, by decide +kernel, rfl, by decide +kernel, by decide +kernel⟩
theorem ok_pair (F : PB K mg A D) : FnOk Pr w K mg base CX0 3 (A 8) (D 8) ["thing"] (spI ms pairD) := by
  have B := F.B
  refine F.pair.F.ok scPair (fun vs H Q E h => ?_) (fun cdv Ar outer s H vs Q E hr h => ?_)
  · obtain ⟨v, d, rfl, _⟩ := h
    rfl
  · obtain ⟨v, d, rfl, hv, k⟩ := h
    refine ⟨_, pss_cons (ps_if (PW.pt (pw_or (pt_not (pt_val (pe_callB call_isi (by rfl) B.isi (by decide +kernel) (pa_cons (pv 0) (pa_cons (pe_bltn (v := .ty "tuple") (by rfl) B.tuple (by decide +kernel) rfl) pa_nil)))))
        (pw_or1 (pt_cmpR op_ne (pe_callB call_len_seq (by rfl) B.len PySem.boot_len (pa_cons (pv 0) pa_nil)) pe_int (nomark _))))) (pss_one (ps_ret pe_bl)) pss_nil)
      (pss_one (ps_ret (pe_and (pe_call (ok_nat (ms := ms) F) hr (by rfl) F.nat.g F.nat.F.kp F.nat.b .nil pass0 (pa_cons (pe_ix ix_tup (pv 0) pe_int (fun _ _ => rfl)) pa_nil)) (pe_and (pe_call (ok_nat (ms := ms) F) hr (by rfl) F.nat.g F.nat.F.kp F.nat.b .nil pass0 (pa_cons (pe_ix ix_tup (pv 0) pe_int (fun _ _ => rfl)) pa_nil)) (pe_one (pe_cmpR op_gt (pe_ix ix_tup (pv 0) pe_int (fun _ _ => rfl)) pe_int (nomark _))))))), ?_⟩
    obtain ⟨ty, hty, kty⟩ := hv.tupK (K := K)
    refine ⟨_, rfl, _, .ty "tuple", ty, .type "tuple", _, rfl, .ty "tuple", hty, kty, ?_⟩
    cases hv with
    | non => exact ⟨false, rfl, iteT k⟩
    | bl b => exact ⟨false, rfl, iteT k⟩
    | int i => exact ⟨false, rfl, iteT k⟩
    | str g => exact ⟨false, rfl, iteT k⟩
    | lst e => exact ⟨false, rfl, iteT k⟩
    | dct e => exact ⟨false, rfl, iteT k⟩
    | @tup t xs ds e hds =>
      refine ⟨true, rfl, iteF ⟨_, rfl, t, _, rfl, .inr (sqt_of e), rfl, _, rfl, ?_⟩⟩
      have hl := hds.length
      by_cases h2 : xs.length = 2
      · match xs, ds, hds, h2 with
        | [v0, v1], [x, y], .cons a0 (.cons a1 .nil), _ =>
          refine iteF ?_
          have k2 : Q (.bl (natD x && posD y)) H := k
          refine ⟨_, rfl, t, _, _, _, rfl, rfl, sqt_of e, atI_nat (j := 0) rfl, v0, x, rfl, a0, _, rfl, ?_⟩
          cases e0 : natD x with
          | false =>
            rw [e0] at k2
            exact iteF k2
          | true =>
            rw [e0] at k2
            refine iteT ⟨_, rfl, t, _, _, _, rfl, rfl, sqt_of e, atI_nat (j := 1) rfl, v1, y, rfl, a1, _, rfl, ?_⟩
            cases e1 : natD y with
            | false =>
              have : posD y = false := by
                cases y with
                | int i =>
                  have : ¬ 0 ≤ i := of_decide_eq_false e1
                  exact decide_eq_false (by omega)
                | none => rfl
                | bool _ => rfl
                | str _ => rfl
                | list _ => rfl
                | tuple _ => rfl
                | dict _ => rfl
              rw [this] at k2
              exact iteF k2
            | true =>
              cases a1 with
              | int i => exact iteT ⟨_, rfl, t, _, _, _, rfl, rfl, sqt_of e, atI_nat (j := 1) rfl, _, _, rfl, rfl, k2⟩
              | non => cases e1
              | bl _ => cases e1
              | str _ => cases e1
              | lst _ _ _ => cases e1
              | tup _ _ => cases e1
              | dct _ _ _ => cases e1
      · have : pairD (.tuple ds) = false := by
          match ds, hl with
          | [], _ => rfl
          | [_], _ => rfl
          | [_, _], hl => exact absurd hl h2
          | _ :: _ :: _ :: _, _ => rfl
        rw [this] at k
        rw [decide_eq_false (show ¬ V.int ((xs.length : Nat) : Int) = V.int 2 from fun z => h2 (by have := V.int.inj z; omega))]
        exact iteT k
end
end Ey
set_option exponentiation.threshold 1000
set_option maxHeartbeats 4000000
namespace Ey
open PySem PySem.Spec L2
theorem and_one : ∀ l : Fin 16, Builtin.bitAnd (l.1 : Int) 1 = ((l.1 % 2 : Nat) : Int) := by decide +kernel
theorem pow_lt {b n : Nat} (hb : b < 2 ^ 20) (hn : 0 < n) : b ^ n < 2 ^ (20 * n) := by
  rw [Nat.pow_mul]
  exact Nat.pow_lt_pow_left hb (by omega)
theorem cast_pow (b n : Nat) : ((b ^ n : Nat) : Int).natAbs = b ^ n := by
  rw [Int.natAbs_natCast]
theorem shr1 (n : Nat) : ((n : Nat) : Int) / 2 ^ (1 : Int).toNat = ((n / 2 : Nat) : Int) := by
  rw [show (2 : Int) ^ (1 : Int).toNat = 2 from rfl]
  omega
theorem half_lt {n : Nat} (h : ¬ n = 0) : ((n / 2 : Nat) : Int).toNat < ((n : Nat) : Int).toNat := by omega
/-- the parts of an exponent -/
theorem exp_step (e i : Nat) : e % 2 ^ (i + 1) = e % 2 ^ i + 2 ^ i * (e / 2 ^ i % 2) := by
  rw [Nat.pow_succ, Nat.mod_mul]
def tTr (K : PySem.W.Frag) (te : TE) : TT := fun σ H Q => te σ H fun x H1 => ∃ k, TruV K x H1 k ∧ Q k H1
theorem while_ex {c : TT} {tb : TS} {D : Ends} {σ : L2.St} {H : Hp} (Pv : L2.St → Hp → Prop) (μ : L2.St → Hp → Nat) (h0 : Pv σ H)
    (hs : ∀ σ H, Pv σ H → c σ H fun b H1 => if b = true then tb { D with nx := fun σ' H' => Pv σ' H' ∧ μ σ' H' < μ σ H, ct := fun σ' H' => Pv σ' H' ∧ μ σ' H' < μ σ H, bk := D.nx } σ H1 else D.nx σ H1)
    (mono : ∀ σ H Q Q', (∀ b H1, Q b H1 → Q' b H1) → c σ H Q → c σ H Q') :
    ∃ W : Nat → L2.St → Hp → Prop, (∃ m, W m σ H) ∧ ∀ m σ H, W m σ H → c σ H fun b H1 => if b = true then ∃ N : L2.St → Hp → Prop, (∀ σ' H', N σ' H' → ∃ m', m' < m ∧ W m' σ' H') ∧ tb { D with nx := N, ct := N, bk := D.nx } σ H1 else D.nx σ H1 :=
  while_by Pv μ h0 hs mono
section
variable {Pr : Program} {w : World} {K : PySem.W.Frag} {mg : Str → Option Value} {base : Heap} {ms : List Addr} {A : Nat → Addr} {D : Nat → FuncData}
abbrev NPw : List Str := ["base", "exponent", "found", "factor", "left"]
theorem scPower : FnScope NPw ["base", "exponent"] (defScope sPower) := ⟨rfl, rfl, rfl, by decide +kernel, rfl, by decide +kernel, by decide +kernel⟩
def spPow : Sp := fun vs H Q _ => ∃ (b e : Nat), vs = [.int b, .int e] ∧ b < 2 ^ 20 ∧ e < 16 ∧ Q (.int ((b ^ e : Nat) : Int)) H
theorem ok_power (F : PB K mg A D) : FnOk Pr w K mg base CX0 1 (A 10) (D 10) ["base", "exponent"] spPow := by
  refine F.power.F.ok scPower (fun vs H Q E h => ?_) (fun cdv Ar outer s H vs Q E hr h => ?_)
  · obtain ⟨b, e, rfl, _⟩ := h
    rfl
  · obtain ⟨b, e, rfl, hb, he, k⟩ := h
    refine ⟨_, pss_cons (ps_set (i := 2) scPower.nd rfl (.inl rfl) pe_int) (pss_cons (ps_set (i := 3) scPower.nd rfl (.inl rfl) (pv 0)) (pss_cons (ps_set (i := 4) scPower.nd rfl (.inl rfl) (pv 1))
      (pss_cons (ps_while PassesOwn.never (tc := tTr K (tVar 4)) (pt_truth (pv 4) (by intro _; rfl)) (pss_cons (ps_if (pt_truth (pe_op op_and (pv 4) pe_int) (by intro _; rfl)) (pss_one (ps_set (i := 2) scPower.nd rfl (.inl rfl) (pe_op op_mulW (pv 2) (pv 3)))) pss_nil)
        (pss_cons (ps_set (i := 3) scPower.nd rfl (.inl rfl) (pe_op op_mulW (pv 3) (pv 3))) (pss_one (ps_set (i := 4) scPower.nd rfl (.inl rfl) (pe_op op_shr (pv 4) pe_int))))))
      (pss_one (ps_ret (pv 2)))))), ?_⟩
    refine ⟨_, rfl, _, rfl, ?_⟩
    refine while_ex (fun σ H2 => H2 = H ∧ ∃ i, i ≤ 4 ∧ σ = [some (.int b), some (.int e), some (.int ((b ^ (e % 2 ^ i) : Nat) : Int)), some (.int ((b ^ 2 ^ i : Nat) : Int)), some (.int ((e / 2 ^ i : Nat) : Int))])
      (fun σ _ => match σ with | [_, _, _, _, some (.int z)] => z.toNat | _ => 0) ?_ ?_ ?_
    · refine ⟨rfl, 0, by decide, ?_⟩
      show [some (V.int b), some (V.int e), some (V.int 1), some (V.int b), some (V.int e)] = _
      simp [Nat.mod_one]
    · rintro σ H2 ⟨rfl, i, hi, rfl⟩
      refine ⟨_, rfl, _, rfl, ?_⟩
      have hf : b ^ (e % 2 ^ i) < 2 ^ 400 := by
        refine Nat.lt_of_le_of_lt (Nat.pow_le_pow_left (Nat.le_of_lt hb) _) ?_
        rw [← Nat.pow_mul]
        refine Nat.pow_lt_pow_right (by decide) ?_
        have := Nat.mod_le e (2 ^ i)
        omega
      have hgi : 2 ^ i ≤ 16 := Nat.pow_le_pow_right (by decide) hi
      have hg : b ^ 2 ^ i < 2 ^ 400 := by
        refine Nat.lt_of_le_of_lt (Nat.pow_le_pow_left (Nat.le_of_lt hb) _) ?_
        rw [← Nat.pow_mul]
        exact Nat.pow_lt_pow_right (by decide) (by omega)
      by_cases h0 : e / 2 ^ i = 0
      · have el : e % 2 ^ i = e := Nat.mod_eq_of_lt ((Nat.div_eq_zero_iff_lt (Nat.pow_pos (by decide))).mp h0)
        rw [h0, el]
        exact iteF ⟨_, rfl, k⟩
      · have hi3 : i ≤ 3 := by
          rcases Nat.lt_or_ge i 4 with h | h
          · omega
          · have : i = 4 := by omega
            subst this
            exact absurd (Nat.div_eq_of_lt (by omega)) h0
        have hle : e / 2 ^ i < 16 := Nat.lt_of_le_of_lt (Nat.div_le_self _ _) he
        have ht : (((e / 2 ^ i : Nat) : Int) != 0) = true := by
          simp only [bne_iff_ne, ne_eq]
          omega
        rw [ht]
        have hand := and_one ⟨e / 2 ^ i, hle⟩
        have hand : Builtin.bitAnd ((e / 2 ^ i : Nat) : Int) 1 = ((e / 2 ^ i % 2 : Nat) : Int) := hand
        have hstep := exp_step e i
        have hsq : ((b ^ 2 ^ i : Nat) : Int) * ((b ^ 2 ^ i : Nat) : Int) = ((b ^ 2 ^ (i + 1) : Nat) : Int) := by
          rw [← Int.natCast_mul, ← Nat.pow_add, Nat.pow_succ, Nat.mul_two]
        have hsh : ((e / 2 ^ i : Nat) : Int) / 2 ^ (1 : Int).toNat = ((e / 2 ^ (i + 1) : Nat) : Int) := by
          rw [shr1, Nat.pow_succ, ← Nat.div_div_eq_div_mul]
        have cw : CMulW ((b ^ 2 ^ i : Nat) : Int) ((b ^ 2 ^ i : Nat) : Int) := wide_mul (a := 400) (b := 400) (by rw [cast_pow]; exact hg) (by rw [cast_pow]; exact hg) (by decide) (by decide) (by decide)
        have hlt : (((e / 2 ^ i : Nat) : Int) / 2 ^ (1 : Int).toNat).toNat < ((e / 2 ^ i : Nat) : Int).toNat := by
          rw [shr1]
          exact half_lt h0
        refine iteT ⟨_, rfl, _, _, rfl, rfl, _, rfl, ?_⟩
        rw [hand]
        by_cases h1 : e / 2 ^ i % 2 = 1
        · rw [h1]
          have hfg : ((b ^ (e % 2 ^ i) : Nat) : Int) * ((b ^ 2 ^ i : Nat) : Int) = ((b ^ (e % 2 ^ (i + 1)) : Nat) : Int) := by
            rw [← Int.natCast_mul, ← Nat.pow_add, hstep, h1, Nat.mul_one]
          refine iteT ⟨_, rfl, _, rfl, _, _, rfl, rfl, wide_mul (a := 400) (b := 400) (by rw [cast_pow]; exact hf) (by rw [cast_pow]; exact hg) (by decide) (by decide) (by decide), ?_⟩
          refine ⟨_, rfl, _, rfl, _, _, rfl, rfl, cw, _, rfl, _, _, rfl, rfl, (by show (0 : Int) ≤ 1; decide), ⟨rfl, i + 1, by omega, ?_⟩, hlt⟩
          show [some (V.int b), some (V.int e), some (V.int (((b ^ (e % 2 ^ i) : Nat) : Int) * ((b ^ 2 ^ i : Nat) : Int))), some (V.int (((b ^ 2 ^ i : Nat) : Int) * ((b ^ 2 ^ i : Nat) : Int))), some (V.int (((e / 2 ^ i : Nat) : Int) / 2 ^ (1 : Int).toNat))] = _
          rw [hfg, hsq, hsh]
        · have h1' : e / 2 ^ i % 2 = 0 := by omega
          rw [h1']
          have he2 : e % 2 ^ (i + 1) = e % 2 ^ i := by rw [hstep, h1', Nat.mul_zero, Nat.add_zero]
          refine iteF ⟨_, rfl, _, rfl, _, _, rfl, rfl, cw, _, rfl, _, _, rfl, rfl, (by show (0 : Int) ≤ 1; decide), ⟨rfl, i + 1, by omega, ?_⟩, hlt⟩
          show [some (V.int b), some (V.int e), some (V.int ((b ^ (e % 2 ^ i) : Nat) : Int)), some (V.int (((b ^ 2 ^ i : Nat) : Int) * ((b ^ 2 ^ i : Nat) : Int))), some (V.int (((e / 2 ^ i : Nat) : Int) / 2 ^ (1 : Int).toNat))] = _
          rw [he2, hsq, hsh]
    · intro σ H2 Q1 Q2 hm h
      obtain ⟨v, e1, kk, t, q⟩ := h
      exact ⟨v, e1, kk, t, hm _ _ q⟩
end
end Ey
set_option maxHeartbeats 4000000
namespace Ey
open PySem PySem.AutoSeq1
theorem extend_tuple (l : Addr) (items : Array Value) (n : Nat) (b : Addr) (items2 : Array Value) (n2 : Nat) (dd : Option Addr) (sl : Array (Option Value)) (hs0 : ¬(!items.isEmpty && Builtin.List.listTooLong (items.size + items2.size)) = true) (hs1 : items.size ≤ sizeLine) (hs2 : items.size + items2.size ≤ sizeLine + 1) :
    Meets (Builtin.«list.extend» ⟨[.ref l, .ref b], []⟩) (fun _ R s => s.heap.get? l = some { cls := .type "list", dict := none, data := .seq items n, slots := #[] } ∧ s.heap.get? b = some { cls := .type "tuple", dict := dd, data := .seq items2 n2, slots := sl } ∧ R (.ok (.ret Value.none)) { s with heap := s.heap.update l (Obj.mapSeq fun x => x ++ items2), toks := s.toks }) :=
  .of_wp fun prog w A R s h => by
    obtain ⟨hp, g, d, tk, os⟩ := s; obtain ⟨hl, hb, h⟩ := h; have f1 := idx_int; have f2 := sub_tuple_tuple; have f3 := sub_list_list; have f4 := sub_tuple_list; have f5 := sub_list_tuple;
    have hz' : (items ++ items2).size ≤ sizeLine + 1 := by rw [Array.size_append]; exact hs2
    wp_walk using (wpAny_updateSeq hl rfl (hz := hs1) (_hz' := hz')), wpAny_loadPart' hl, wpAny_loadPart' hb; exact ⟨_, rfl, h⟩
end Ey
namespace Ey
open PySem PySem.Spec PyProof.Rows L2
section
variable {X : Cx}
def rExtendT : V → List V → Hp → VK → Prop := fun x vs H Q => ∃ l b xs zs, x = .ref l ∧ vs = [.ref b] ∧ H l = some (.lst xs) ∧ H b = some (.tup zs) ∧ xs.length + zs.length ≤ sizeLine ∧ Q .non (upd H l (.lst (xs ++ zs)))
theorem mt_extendT : MtM X "list.extend" rExtendT := by
  intro pins s σ H x vs v us Q I rx rv h
  obtain ⟨l, b, xs, zs, rfl, rfl, hH, hB, hz, q⟩ := h
  cases rx
  obtain ⟨u, rfl, ru⟩ := rv.one
  cases ru
  obtain ⟨z, its, n, r, hl, e⟩ := I.lstM hH
  obtain ⟨_, its2, r2, ⟨cls, dd, data, sl⟩, e2, hc, n2, hd⟩ := (show ObjOk X.prog X.w H s.heap b (.tup zs) from I.hok b _ hB)
  simp only at hc hd
  subst hc hd
  have hl2 := r2.length
  have hsz : its.toArray.size + its2.toArray.size ≤ sizeLine := by rw [List.size_toArray, List.size_toArray]; omega
  have hlong : ¬ (!its.toArray.isEmpty && Builtin.List.listTooLong (its.toArray.size + its2.toArray.size)) = true := by
    rw [notLongL hsz, Bool.and_false]
    exact Bool.false_ne_true
  refine call_meets PySem.F.slot_list_extend ⟨_, e, rfl⟩ PySem.F.entry_list_extend (PySem.F.args_list_extend_2 _ _)
    (extend_tuple l its.toArray n b its2.toArray n2 dd sl hlong (by rw [List.size_toArray]; omega) (by omega)) ⟨e, e2, ?_⟩
  refine ⟨.non, _, I.lset (its' := its ++ its2) hH e (by simp) (r.append r2) ?_, rfl, q⟩
  rw [List.length_append]
  omega
end
end Ey
set_option maxHeartbeats 4000000
namespace Ey
open PySem PySem.Spec L2 PyProof.Rows
open Sem (wp)
theorem meets_enumerate_newT {v : Value} {o : Obj} {H : Heap → Prop} (B : Begins v o H) :
    Meets (Builtin.«enumerate.__new__» ⟨[.type "enumerate", v], []⟩) (fun _ R s => H s.heap ∧
      R (.ok (.ret (.ref (s.heap.push o).objs.size))) { s with heap := (s.heap.push o).push { cls := .type "enumerate", data := .fields #[.none, .bool false, .ref s.heap.objs.size, rawInt 0, .none, .none] } }) :=
  .of_wp fun prog w A R s h => by
    obtain ⟨hp, g, d, tk, os⟩ := s; obtain ⟨h1, h⟩ := h
    have hsub := sub_enumerate
    have q1 : ∀ {A' : Around} {E : Value → Shared → Prop} {Q : Value → Shared → Prop}, Q (.ref hp.objs.size) ⟨hp.push o, g, d, tk, os⟩ → wpAny (model prog w) A' (pyIter v) Q E ⟨hp, g, d, tk, os⟩ :=
      fun q => B.iter prog w _ _ ⟨hp, g, d, tk, os⟩ _ h1 q
    wp_walk using q1
    refine wpAny_stack_any fun st => wpAny_pure ?_
    split
    · rename_i c _ _ _ _ _
      cases (c == Value.type "enumerate")
      · wp_walk using q1
        exact ⟨_, rfl, h⟩
      · wp_walk using q1
        exact ⟨_, rfl, h⟩
    · wp_walk using q1
      exact ⟨_, rfl, h⟩
section
variable {prog : Program} {w : World} {A : Around} {E : Value → Shared → Prop} {s : Shared}
theorem enum_begins1 {v : Value} {o : Obj} {H : Heap → Prop} {Q : Value → Shared → Prop} (B : Begins v o H) (h1 : H s.heap)
    (h : ∀ h', IsEnum h' (s.heap.objs.size + 1) s.heap.objs.size 0 .none → h'.get? s.heap.objs.size = some o → h'.objs.size = s.heap.objs.size + 2 →
      (∀ b o, s.heap.get? b = some o → h'.get? b = some o) → Q (.ref (s.heap.objs.size + 1)) { s with heap := h' }) :
    wpAny (model prog w) A (call (.type "enumerate") [v]) Q E s := by
  refine callType_new F.called_enumerate (by decide) (F.typeCall_enumerate_1 _) (F.newCall_enumerate_1 _) (fun obj => F.args_object_init_2 obj _) F.entry_enumerate_new
    (meets_enumerate_newT B) ⟨h1, ?_⟩
  have hz : (s.heap.push o).objs.size = s.heap.objs.size + 1 := Heap.size_push ..
  show _ ∧ _
  rw [hz]
  have he : IsEnum ((s.heap.push o).push { cls := .type "enumerate", data := .fields #[.none, .bool false, .ref s.heap.objs.size, rawInt 0, .none, .none] }) (s.heap.objs.size + 1) s.heap.objs.size 0 .none := by
    have := Heap.get?_push_size (s.heap.push o) (o := { cls := .type "enumerate", data := .fields #[.none, .bool false, .ref s.heap.objs.size, rawInt 0, .none, .none] }) rfl
    rw [hz] at this; exact this
  refine ⟨⟨_, he, rfl⟩, h _ he (Heap.get?_push_of_some _ (Heap.get?_push_size _ B.free)) (by rw [Heap.size_push, hz]) fun b o x => Heap.get?_push_of_some _ (Heap.get?_push_of_some _ x)⟩
end
section
variable {prog : Program} {w : World} {A : Around} {E : Value → Shared → Prop} {s : Shared}
theorem enum_endT {e it t : Addr} {items : Array Value} {j : Nat} {i : Int} {old : Value} {Q : Option Value → Shared → Prop} (hh : A.handled = none)
    (he : IsEnum s.heap e it i old) (hit : s.heap.IsTupleIter it t j) (ht : s.heap.IsTuple t items) (hx : items[j]? = none)
    (hQ : ∀ h', Heap.ExtBut it s.heap h' → Q none { s with heap := h' }) : wpAny (model prog w) A (pyNext (.ref e)) Q E s := by
  have hT : s.TypeIs (.ref e) "enumerate" := ⟨_, he, rfl⟩
  unfold pyNext
  refine wpAny_bind (wpAny_attempt (wpAny_callSpecial?_slot (name := Str.ofString "__next__") hT F.slot_enumerate_next
    (wpAny_call_entry F.slot_enumerate_next hT F.entry_enumerate_next ?_ (F.args_enumerate_next_1 _))))
  show wpAny _ _ (field (.ref e) 2 >>= _) _ _ _
  refine wpAny_bind (wpAny_field he rfl (x := .ref it) rfl ?_)
  refine wpAny_bind (wpAny_nextOf_tuple_end hh hit ht hx fun h' x he' hx' => ?_)
  obtain ⟨o, ho, hc⟩ := hx'
  refine wpAny_bind (wpAny_isInstance (T := "StopIteration") (b := true) ⟨o, ho, hc⟩ isSubtype_stop ?_)
  exact wpAny_pure (hQ _ he')
end
/-- the tuple at a, each item in a new pair -/
def Itet (K : PySem.W.Frag) (a : Addr) : It :=
  ⟨fun i H => ∃ (xs : List V) (x : V), SqT K H a xs ∧ xs[i]? = some x, fun i H v H' => ∃ T x, v = .ref T ∧ H T = none ∧ H' = upd H T (.tup [.int (i : Nat), x]) ∧ ∀ xs, SqT K H a xs → xs[i]? = some x, fun i H => ∃ xs : List V, SqT K H a xs ∧ xs.length ≤ i⟩
theorem turn_enumT {P : Program} {w : World} {K : PySem.W.Frag} {elts : List Expr} {kk : Nat} {tpos : Pos} (a e it : Addr) :
    Turn P w K (.Tuple elts kk tpos) (Itet K a) [e, it] e (fun i h => (∃ old, IsEnum h e it ((i : Nat) : Int) old) ∧ h.IsTupleIter it a i ∧ e ≠ it) where
  mem := by simp
  obj := fun i h st b hb => by
    obtain ⟨⟨old, he⟩, ⟨o, ho, hc, hd⟩, _⟩ := st
    have e' : b = e ∨ b = it := by simpa using hb
    rcases e' with z | z
    · rw [z]; exact ⟨_, he, fun v q => nomatch q⟩
    · rw [z]; exact ⟨o, ho, fun v q => by rw [hd] at q; cases q⟩
  keep := fun i h h' st k => let ⟨⟨old, he⟩, hi, hne⟩ := st; ⟨⟨old, k e (by simp) _ he⟩, hi.at fun o q => k it (by simp) o q, hne⟩
  item := by
    intro X hP hw hK hc i pins s σ H E I hf st hg
    subst hP hw hK
    obtain ⟨⟨old, he⟩, hit, hne⟩ := st
    obtain ⟨xs, x, hq, hx⟩ := hg
    obtain ⟨its, rv, p, hz⟩ := I.tuple hq
    obtain ⟨u, hu, ru⟩ := rv.get hx
    have hel : e < s.heap.objs.size := Heap.lt_size he
    have hil : it < s.heap.objs.size := by obtain ⟨_, q, _⟩ := hit; exact Heap.lt_size q
    have hai : a ≠ it := by
      intro z
      subst z
      obtain ⟨o, q, c, _⟩ := hit
      obtain ⟨o2, q2, c2, _⟩ := (show s.heap.IsTuple a its.toArray from p)
      rw [q] at q2
      cases q2
      rw [c] at c2
      injection c2 with c3
      exact absurd c3 (by decide)
    have hae : a ≠ e := by
      intro z
      subst z
      obtain ⟨o2, q2, c2, _⟩ := (show s.heap.IsTuple a its.toArray from p)
      rw [he] at q2
      cases q2
      injection c2 with c3
      exact absurd c3 (by decide)
    have D := Draws.tuple (prog := X.prog) (w := X.w) (A := X.A.in1) (I.ok.hd hc) it a hai its.toArray
    have hlt : i < its.toArray.size := by
      have := (List.getElem?_eq_some_iff.mp hu).1
      simpa using this
    refine wpAny_pyNext_enum_itemD D he ⟨hit, p⟩ hlt hne (by simp [hne, hae.symm]) fun u' h' tk hP ho hst hT hsz hk => ?_
    have eu : u' = u := by
      have q1 : its.toArray[i]? = some u' := hP
      have q2 : its.toArray[i]? = some u := by simpa using hu
      rw [q1] at q2
      exact Option.some.inj q2
    subst eu
    have hit' := hst.1
    refine ⟨_, rfl, wpAny_letOwnedTupleGo_enum (s := { s with heap := h', toks := tk + 1 }) ho fun h'' he' sb => ?_⟩
    have hT2 : h''.get? s.heap.objs.size = some { cls := .type "tuple", data := .seq #[.int i tk, u'] } := (sb.2 _ (Nat.ne_of_gt hel)).trans hT
    have new : ObjOk X.prog X.w (upd H s.heap.objs.size (.tup [.int (i : Nat), x])) h'' s.heap.objs.size (.tup [.int (i : Nat), x]) :=
      ⟨by show 2 ≤ sizeLine; decide, [.int i tk, u'], .cons ⟨_, rfl⟩ (.cons ru .nil), ⟨_, hT2, rfl, _, rfl⟩⟩
    have I1 : Inv X pins σ (upd H s.heap.objs.size (.tup [.int (i : Nat), x])) { s with heap := h'', toks := tk + 1 } :=
      I.turnedNew (ch := [e, it]) (fun b ob hb q => (sb.2 b (fun z => hb (by simp [z]))).trans (hk b ob (fun z => hb (by simp [z])) (fun z => hb (by simp [z])) q)) hf (Nat.le_refl _) new
    refine ⟨.ref s.heap.objs.size, _, I1, rfl, ⟨_, x, rfl, I.hok.fresh (Nat.le_refl _), rfl, fun ys hy => by rw [I.tuple_inj hy hq]; exact hx⟩, ⟨⟨u', ?_⟩, hit'.at fun o q => (sb.2 it (Ne.symm hne)).trans q, hne⟩, fun b hb => ?_⟩
    · have e1 : ((i + 1 : Nat) : Int) = (i : Int) + 1 := by omega
      rw [e1]; exact he'
    · have hb' : b < s.heap.objs.size := by
        have e' : b = e ∨ b = it := by simpa using hb
        rcases e' with z | z
        · rw [z]; exact hel
        · rw [z]; exact hil
      rw [upd_ne (Nat.ne_of_lt hb')]
      exact (hf b hb).1
  done := by
    intro X hP hw hK hc i pins s σ H E I hf st hg
    subst hP hw hK
    obtain ⟨⟨old, he⟩, hit, hne⟩ := st
    obtain ⟨xs, hq, hx⟩ := hg
    obtain ⟨its, rv, p, hz⟩ := I.tuple hq
    obtain ⟨f0, f1, f2, f3, f4, f5⟩ := hf it (by simp)
    have hl := rv.length
    exact enum_endT (I.ok.hd hc) he hit p (by simp; omega) fun h' eb => ⟨rfl, I.turned (t' := s.toks) (fun b o hb q => eb b o hb q) f0 f1 f3 f4 f5⟩
  self := fun A i s Q E st h => let ⟨⟨_, he⟩, _⟩ := st; wpAny_pyIter_enum he h
def iEnumT (K : PySem.W.Frag) (ta : TA) : TI := fun σ H R => ta σ H fun vs H1 => ∃ a xs, vs = [.ref a] ∧ SqT K H1 a xs ∧ R (Itet K a) H1
theorem pi_enumT {X : Cx} {e : Expr} {ta : TA} {p pos tpos : Pos} {elts : List Expr} {kk : Nat} (hg : Gl X "enumerate") (hm : X.mg "enumerate" = none) (ha : PA X [e] ta) (hs : starEach [e] X.env = [(false, eval e X.env)] := by rfl) :
    PI X (.Tuple elts kk tpos) (.Call (.Name "enumerate" p) [e] [] pos) (iEnumT X.K ta) := by
  refine ⟨fun pins s σ H R I h => ?_⟩
  refine Call_ (ld_blt I hg hm boot_enumerate (PyProof.Rows.callWith_type1 (thn (ha.run pos pins s σ H _ I h) fun us s1 ⟨vs, H1, I1, r1, q1⟩ => ?_) hs rfl))
  obtain ⟨a, xs, ex, hq, q⟩ := q1
  subst ex
  cases r1 with
  | cons r rr =>
    cases rr
    cases r
    obtain ⟨its, rv, p', hz⟩ := I1.tuple hq
    refine enum_begins1 (begins_tuple a its.toArray) p' fun h' he hit hsz hk => wpAny_pyIter_enum he ?_
    have I2 : Inv X pins σ H1 { s1 with heap := h' } := I1.kept (t' := s1.toks) hk
    refine ⟨s1.heap.objs.size + 1, [s1.heap.objs.size + 1, s1.heap.objs.size], _, _, H1, rfl, I2, turn_enumT a (s1.heap.objs.size + 1) s1.heap.objs.size, ⟨⟨.none, he⟩, ⟨_, hit, rfl, rfl⟩, Nat.succ_ne_self _⟩, fun b hb => ?_, q⟩
    have e' : b = s1.heap.objs.size + 1 ∨ b = s1.heap.objs.size := by simpa using hb
    have hle : s1.heap.objs.size ≤ b := by
      rcases e' with z | z
      · rw [z]; exact Nat.le_add_right _ _
      · rw [z]; exact Nat.le_refl _
    exact I1.fpOk hle (I1.hok.fresh hle)
end Ey
set_option maxHeartbeats 4000000
namespace Ey
open PySem PySem.Spec PyProof.Rows L2 PySem.SeqAt
section
variable {X : Cx}
/-- t != (), t any tuple -/
def rNeE : R2 := fun x y H Q => ∃ a b xs, x = .ref a ∧ y = .ref b ∧ H a = some (.tup xs) ∧ H b = some (.tup []) ∧ Q (.bl (!xs.isEmpty)) H
theorem op_neE (hu : X.A.units + 64 < cLine) : OpR X (compareOp .NotEq) rNeE := by
  intro pins s σ H x y v u Q I rx ry h
  obtain ⟨a, b, xs, rfl, rfl, h1, h2, q⟩ := h
  cases rx
  cases ry
  obtain ⟨its, r, p⟩ := tup_obj I h1
  obtain ⟨its2, r2, p2⟩ := tup_obj I h2
  cases r2
  refine RcNeAt.tuples (e := fun _ => true) p p2 (by omega) (fun j h1 h2 => absurd h2 (by simp)) _ _ _ _ ⟨.bl (!xs.isEmpty), H, I, ?_, q⟩
  cases r with
  | nil => rfl
  | cons _ _ => rfl
/-- xs != [], xs any list -/
def rNeEL : R2 := fun x y H Q => ∃ a b xs, x = .ref a ∧ y = .ref b ∧ H a = some (.lst xs) ∧ H b = some (.lst []) ∧ Q (.bl (!xs.isEmpty)) H
theorem op_neEL (hu : X.A.units + 64 < cLine) : OpR X (compareOp .NotEq) rNeEL := by
  intro pins s σ H x y v u Q I rx ry h
  obtain ⟨a, b, xs, rfl, rfl, h1, h2, q⟩ := h
  cases rx
  cases ry
  obtain ⟨its, r, p⟩ := lst_obj I h1
  obtain ⟨its2, r2, p2⟩ := lst_obj I h2
  cases r2
  cases r with
  | nil => exact RcNeAt.lists (e := fun _ => true) p p2 rfl (by omega) (fun j h1 h2 => absurd h2 (by simp)) _ _ _ _ ⟨.bl false, H, I, rfl, q⟩
  | cons _ _ => exact RcNeAt.lists_lengths p p2 (by simp) (by omega) _ _ _ _ ⟨.bl true, H, I, rfl, q⟩
end
end Ey
set_option exponentiation.threshold 1000
set_option maxHeartbeats 4000000
namespace Ey
open PySem PySem.Spec L2
/-! ### the law's own looking -/
abbrev sLInt : Stmt := topS 16
abbrev sOdd : Stmt := topS 17
abbrev sLPower : Stmt := topS 20
structure LR (K : PySem.W.Frag) (mg : Str → Option Value) (A : Nat → Addr) (D : Nat → FuncData) : Prop where
  B : BI mg
  draw : Df K mg "_law_draw" sDraw ["_law_deck_here", "_law_many"] (A 14) (D 14)
  pick : Df K mg "_law_pick" sPick ["_law_deck_here", "_law_some"] (A 15) (D 15)
  int : Df K mg "_law_is_integer" sLInt ["_law_thing"] (A 16) (D 16)
  odd : Df K mg "_law_odd" sOdd ["_law_deck_here"] (A 17) (D 17)
  lpow : Df K mg "_law_power" sLPower ["_law_m", "_law_many"] (A 20) (D 20)
section
variable {Pr : Program} {w : World} {K : PySem.W.Frag} {mg : Str → Option Value} {base : Heap} {ms : List Addr} {A : Nat → Addr} {D : Nat → FuncData}
theorem scLInt : FnScope ["_law_thing"] ["_law_thing"] (defScope sLInt) := ⟨rfl, rfl, rfl, by decide +kernel, rfl, by decide +kernel, by decide +kernel⟩
theorem go_lInt (L : LR K mg A D) : FnOk Pr w K mg base CX0 1 (A 16) (D 16) ["_law_thing"] (spI ms isIntD) :=
  ok_plain L.int.F scLInt fun cdv Ar outer s H E => pss_one (ps_ret (pe_and (pe_callB call_isi (by rfl) L.B.isi (by decide +kernel) (pa_cons (pv 0) (pa_cons (pe_bltn (v := .ty "int") (by rfl) L.B.int (by decide +kernel) rfl) pa_nil)))
      (pe_one (pe_not (pe_callB call_isi (by rfl) L.B.isi (by decide +kernel) (pa_cons (pv 0) (pa_cons (pe_bltn (v := .ty "bool") (by rfl) L.B.bool (by decide +kernel) rfl) pa_nil)))))))
/-! ### a power by products -/
abbrev NLp : List Str := ["_law_m", "_law_many", "_law_found", "_law_turn"]
theorem scLPower : FnScope NLp ["_law_m", "_law_many"] (defScope sLPower) := ⟨rfl, rfl, rfl, by decide +kernel, rfl, by decide +kernel, by decide +kernel⟩
theorem ok_lPower (L : LR K mg A D) : FnOk Pr w K mg base CX0 1 (A 20) (D 20) ["_law_m", "_law_many"] spPow := by
  have B := L.B
  refine L.lpow.F.ok scLPower (fun vs H Q E h => ?_) (fun cdv Ar outer s H vs Q E hr h => ?_)
  · obtain ⟨b, e, rfl, _⟩ := h
    rfl
  · obtain ⟨b, e, rfl, hb, he, k⟩ := h
    refine ⟨_, pss_cons (ps_set (i := 2) scLPower.nd rfl (.inl rfl) pe_int)
      (pss_cons (ps_for PassesOwn.never rfl (pi_range1 (by rfl) B.range (pa_cons (pv 1) pa_nil)) (pg_name (i := 3) scLPower.nd rfl (Or.inl rfl)) (pss_one (ps_set (i := 2) scLPower.nd rfl (.inl rfl) (pe_op op_mulW (pv 2) (pv 0)))))
      (pss_one (ps_ret (pv 2)))), ?_⟩
    refine ⟨_, rfl, e, rfl, by omega, by omega, ?_⟩
    rw [Int.toNat_natCast]
    refine for_range (lo := 0) (n := e) (fun i σ H2 => H2 = H ∧ ∃ y, σ = [some (.int b), some (.int e), some (.int ((b ^ i : Nat) : Int)), y]) ⟨rfl, none, rfl⟩ ?_ ?_
    · rintro i σ H2 hi ⟨rfl, y, rfl⟩
      have hf : b ^ i < 2 ^ 400 := by
        refine Nat.lt_of_le_of_lt (Nat.pow_le_pow_left (Nat.le_of_lt hb) _) ?_
        rw [← Nat.pow_mul]
        exact Nat.pow_lt_pow_right (by decide) (by omega)
      refine ⟨_, rfl, _, rfl, _, _, rfl, rfl, wide_mul (a := 400) (b := 20) (by rw [cast_pow]; exact hf) (by rw [Int.natAbs_natCast]; exact hb) (by decide) (by decide) (by decide), rfl, some (.int (0 + (i : Nat))), ?_⟩
      show [some (V.int b), some (V.int e), some (V.int (((b ^ i : Nat) : Int) * (b : Int))), some (V.int (0 + (i : Nat)))] = _
      rw [← Int.natCast_mul, ← Nat.pow_succ]
    · rintro σ H2 ⟨rfl, y, rfl⟩
      exact ⟨_, rfl, k⟩
end
end Ey
set_option maxHeartbeats 4000000
namespace Ey
open PySem PySem.Spec L2
/-! ### bounds of any data; the deck beside it -/
theorem cps_len (z : Str) : z.cps.toList.length = z.length := by
  rw [Array.length_toList]
  rfl
theorem wd_mem {x : PyData} : ∀ {ds : List PyData}, x ∈ ds → wd x + 2 ≤ wdAll ds
  | y :: r, h => by
    rcases List.mem_cons.mp h with rfl | h
    · show wd x + 2 ≤ wd x + 2 + wdAll r
      omega
    · have := wd_mem h
      show wd x + 2 ≤ wd y + 2 + wdAll r
      omega
mutual
def fitJ (B : Nat) : PyData → Bool
  | .none | .bool _ => true
  | .int i => decide (i.natAbs < B)
  | .str x => x.cps.toList.all fun c => decide (c < 128)
  | .list ds | .tuple ds => fitJAll B ds
  | .dict kvs => fitJKv B kvs
def fitJAll (B : Nat) : List PyData → Bool
  | [] => true
  | x :: r => fitJ B x && fitJAll B r
def fitJKv (B : Nat) : List (PyData × PyData) → Bool
  | [] => true
  | (k, v) :: r => (fitJ B k && fitJ B v) && fitJKv B r
end
mutual
theorem fitJ_le {B C : Nat} (h : B ≤ C) : ∀ d : PyData, fitJ B d = true → fitJ C d = true
  | .none, _ => rfl
  | .bool _, _ => rfl
  | .int i, e => by
    have q : i.natAbs < B := of_decide_eq_true e
    exact decide_eq_true (Nat.lt_of_lt_of_le q h)
  | .str x, e => e
  | .list ds, e => fitJAll_le h ds e
  | .tuple ds, e => fitJAll_le h ds e
  | .dict ds, e => fitJKv_le h ds e
theorem fitJAll_le {B C : Nat} (h : B ≤ C) : ∀ d : List PyData, fitJAll B d = true → fitJAll C d = true
  | [], _ => rfl
  | x :: r, e => by
    have q : (fitJ B x && fitJAll B r) = true := e
    rw [Bool.and_eq_true] at q
    show (fitJ C x && fitJAll C r) = true
    rw [fitJ_le h x q.1, fitJAll_le h r q.2]
    rfl
theorem fitJKv_le {B C : Nat} (h : B ≤ C) : ∀ d : List (PyData × PyData), fitJKv B d = true → fitJKv C d = true
  | [], _ => rfl
  | (k, v) :: r, e => by
    have q : ((fitJ B k && fitJ B v) && fitJKv B r) = true := e
    rw [Bool.and_eq_true, Bool.and_eq_true] at q
    show ((fitJ C k && fitJ C v) && fitJKv C r) = true
    rw [fitJ_le h k q.1.1, fitJ_le h v q.1.2, fitJKv_le h r q.2]
    rfl
end
mutual
theorem fitJ_is : ∀ d : PyData, fitJ (10 ^ 40) d = true → fit d = true
  | .none, _ => rfl
  | .bool _, _ => rfl
  | .int i, h => h
  | .str x, h => by
    have q : (x.cps.toList.all fun c => decide (c < 128)) = true := h
    rw [List.all_eq_true] at q
    show (x.cps.toList.all fun c => decide (c < 1000)) = true
    rw [List.all_eq_true]
    intro c hc
    have := of_decide_eq_true (q c hc)
    exact decide_eq_true (by omega)
  | .list ds, h => fitJAll_is ds h
  | .tuple ds, h => fitJAll_is ds h
  | .dict ds, h => fitJKv_is ds h
theorem fitJAll_is : ∀ d : List PyData, fitJAll (10 ^ 40) d = true → fitAll d = true
  | [], _ => rfl
  | x :: r, h => by
    have q : (fitJ (10 ^ 40) x && fitJAll (10 ^ 40) r) = true := h
    rw [Bool.and_eq_true] at q
    show (fit x && fitAll r) = true
    rw [fitJ_is x q.1, fitJAll_is r q.2]
    rfl
theorem fitJKv_is : ∀ d : List (PyData × PyData), fitJKv (10 ^ 40) d = true → fitKv d = true
  | [], _ => rfl
  | (k, v) :: r, h => by
    have q : ((fitJ (10 ^ 40) k && fitJ (10 ^ 40) v) && fitJKv (10 ^ 40) r) = true := h
    rw [Bool.and_eq_true, Bool.and_eq_true] at q
    show ((fit k && fit v) && fitKv r) = true
    rw [fitJ_is k q.1.1, fitJ_is v q.1.2, fitJKv_is r q.2]
    rfl
end
theorem fitJ_mem {B : Nat} {x : PyData} : ∀ {ds : List PyData}, fitJAll B ds = true → x ∈ ds → fitJ B x = true
  | y :: r, h, hx => by
    have h2 : (fitJ B y && fitJAll B r) = true := h
    rw [Bool.and_eq_true] at h2
    rcases List.mem_cons.mp hx with rfl | hx
    · exact h2.1
    · exact fitJ_mem h2.2 hx
theorem fitJ_all {B : Nat} : ∀ {ds : List PyData}, (∀ x ∈ ds, fitJ B x = true) → fitJAll B ds = true
  | [], _ => rfl
  | y :: r, h => by
    show (fitJ B y && fitJAll B r) = true
    rw [h y (by simp), fitJ_all fun x hx => h x (List.mem_cons_of_mem _ hx)]
    rfl
structure GoodJ (B n w : Nat) (x : PyData) : Prop where
  f : fitJ B x = true
  d : x.depth ≤ n
  w : wd x ≤ w
theorem GoodJ.mono {B C n w n' w' : Nat} {x : PyData} (g : GoodJ B n w x) (h0 : B ≤ C) (h1 : n ≤ n') (h2 : w ≤ w') : GoodJ C n' w' x := ⟨fitJ_le h0 x g.f, Nat.le_trans g.d h1, Nat.le_trans g.w h2⟩
theorem GoodJ.good {B n w : Nat} {x : PyData} (g : GoodJ B n w x) (h0 : B ≤ 10 ^ 40) : Good n w x := ⟨fitJ_is x (fitJ_le h0 x g.f), g.d, g.w⟩
inductive GoodJAll (B n w : Nat) : List PyData → Prop
  | nil : GoodJAll B n w []
  | cons {x : PyData} {r : List PyData} : GoodJ B n w x → GoodJAll B n w r → GoodJAll B n w (x :: r)
theorem GoodJAll.facts {B n w : Nat} {ds : List PyData} (h : GoodJAll B n w ds) : fitJAll B ds = true ∧ PyData.depthAll ds ≤ n ∧ wdAll ds ≤ (w + 2) * ds.length := by
  induction h with
  | nil => exact ⟨rfl, Nat.zero_le _, Nat.zero_le _⟩
  | @cons x r g _ ih =>
    obtain ⟨a, b, c⟩ := ih
    refine ⟨?_, ?_, ?_⟩
    · show (fitJ B x && fitJAll B r) = true
      rw [g.f, a]
      rfl
    · show max x.depth (PyData.depthAll r) ≤ n
      have := g.d
      omega
    · show wd x + 2 + wdAll r ≤ (w + 2) * (r.length + 1)
      have := g.w
      rw [Nat.mul_add]
      omega
theorem GoodJAll.snoc {B n w : Nat} {ds : List PyData} {x : PyData} (h : GoodJAll B n w ds) (g : GoodJ B n w x) : GoodJAll B n w (ds ++ [x]) := by
  induction h with
  | nil => exact .cons g .nil
  | cons a _ ih => exact .cons a ih
def wJ : Nat → Nat
  | 0 => 140
  | n + 1 => 3 * wJ n + 150
theorem wJ_ge : ∀ n, 140 ≤ wJ n
  | 0 => Nat.le_refl _
  | n + 1 => by
    have := wJ_ge n
    show 140 ≤ 3 * wJ n + 150
    omega
/-- the deck, and what else is not data -/
structure Frame (ms : List Addr) (d l : Addr) (H : Hp) : Prop where
  dk : DeckAt H d l
  dm : d ∈ ms
  lm : l ∈ ms
  has : Has ms H
theorem Frame.sub {ms : List Addr} {d l : Addr} {H : Hp} (F : Frame ms d l H) : ∀ x ∈ [d, l], x ∈ ms := fun x hx => by
  rcases List.mem_cons.mp hx with rfl | hx
  · exact F.dm
  · rw [List.mem_singleton.mp hx]
    exact F.lm
theorem DeckAt.some_ {d l : Addr} {H : Hp} (D : DeckAt H d l) : ∀ b ∈ [d, l], H b ≠ none := fun b hb => by
  obtain ⟨m, n, ns, h1, h2, _⟩ := D.ex
  rcases List.mem_cons.mp hb with rfl | hb
  · rw [h1]
    exact fun z => nomatch z
  · rw [List.mem_singleton.mp hb, h2]
    exact fun z => nomatch z
theorem Frame.go {ms : List Addr} {d l : Addr} {H H1 : Hp} (F : Frame ms d l H) (k : Kp [d, l] H H1) (D : DeckAt H1 d l) : Frame ms d l H1 := ⟨D, F.dm, F.lm, F.has.kp k D.some_⟩
theorem Frame.kp0 {ms : List Addr} {d l : Addr} {H H1 : Hp} (F : Frame ms d l H) (k : Kp [] H H1) : Frame ms d l H1 := ⟨F.dk.kp k List.not_mem_nil List.not_mem_nil, F.dm, F.lm, F.has.kp k fun b hb => absurd hb List.not_mem_nil⟩
theorem Frame.new {ms : List Addr} {d l p : Addr} {H : Hp} {o : HO} (F : Frame ms d l H) (n : H p = none) : Frame ms d l (upd H p o) := F.kp0 (.new n)
theorem Frame.ne {ms : List Addr} {d l p : Addr} {H : Hp} (F : Frame ms d l H) (n : H p = none) : p ≠ d ∧ p ≠ l :=
  ⟨fun e => F.has d F.dm (e ▸ n), fun e => F.has l F.lm (e ▸ n)⟩
def bAny : Nat := 10 ^ 39 + 1
theorem nat_low (n : Nat) : ∀ c ∈ (toString n).toList, c.toNat < 128 := by
  intro c hc
  have e : (toString n).toList = Nat.toDigits 10 n := by
    show (Nat.repr n).toList = _
    unfold Nat.repr
    simp
  rw [e] at hc
  have := Nat.isDigit_of_mem_toDigits (by decide) (by decide) hc
  unfold Char.isDigit at this
  simp only [Bool.and_eq_true, decide_eq_true_eq] at this
  have h2 : c.val.toNat ≤ 57 := this.2
  show c.val.toNat < 128
  omega
theorem int_low (B : Nat) (i : Int) : fitJ B (.str (Str.ofString (toString i))) = true := by
  show ((Str.ofString (toString i)).cps.toList.all fun c => decide (c < 128)) = true
  have e : (Str.ofString (toString i)).cps.toList = (toString i).toList.map Char.toNat := by
    rw [Str.ofString_eq_toList]
  rw [e, List.all_map, List.all_eq_true]
  intro c hc
  refine decide_eq_true ?_
  show c.toNat < 128
  cases i with
  | ofNat n => exact nat_low n c hc
  | negSucc n =>
    have e2 : (toString (Int.negSucc n)).toList = '-' :: (toString (n + 1)).toList := by
      show ("-" ++ Nat.repr (n + 1)).toList = _
      rw [String.toList_append]
      rfl
    rw [e2] at hc
    rcases List.mem_cons.mp hc with rfl | hc
    · decide
    · exact nat_low _ c hc
theorem dep_mem {x : PyData} : ∀ {ds : List PyData}, x ∈ ds → x.depth ≤ PyData.depthAll ds
  | y :: r, hx => by
    show x.depth ≤ max y.depth (PyData.depthAll r)
    rcases List.mem_cons.mp hx with rfl | hx
    · omega
    · have := dep_mem hx
      omega
theorem fitJ_app (B : Nat) (b : List PyData) : ∀ a : List PyData, fitJAll B (a ++ b) = (fitJAll B a && fitJAll B b)
  | [] => rfl
  | x :: r => by
    show (fitJ B x && fitJAll B (r ++ b)) = ((fitJ B x && fitJAll B r) && fitJAll B b)
    rw [fitJ_app B b r, Bool.and_assoc]
theorem dep_app (b : List PyData) : ∀ a : List PyData, PyData.depthAll (a ++ b) = max (PyData.depthAll a) (PyData.depthAll b)
  | [] => by
    show PyData.depthAll b = max 0 (PyData.depthAll b)
    omega
  | x :: r => by
    show max x.depth (PyData.depthAll (r ++ b)) = max (max x.depth (PyData.depthAll r)) (PyData.depthAll b)
    rw [dep_app b r]
    omega
theorem wd_app (b : List PyData) : ∀ a : List PyData, wdAll (a ++ b) = wdAll a + wdAll b
  | [] => (Nat.zero_add _).symm
  | x :: r => by
    show wd x + 2 + wdAll (r ++ b) = wd x + 2 + wdAll r + wdAll b
    rw [wd_app b r]
    omega
theorem fitJ_rev (B : Nat) (a : List PyData) (h : fitJAll B a = true) : fitJAll B a.reverse = true := fitJ_all fun x hx => fitJ_mem h (List.mem_reverse.mp hx)
theorem dep_rev : ∀ a : List PyData, PyData.depthAll a.reverse = PyData.depthAll a
  | [] => rfl
  | x :: r => by
    rw [List.reverse_cons, dep_app, dep_rev r]
    show max (PyData.depthAll r) (max x.depth 0) = max x.depth (PyData.depthAll r)
    omega
theorem wd_rev : ∀ a : List PyData, wdAll a.reverse = wdAll a
  | [] => rfl
  | x :: r => by
    rw [List.reverse_cons, wd_app, wd_rev r]
    show wdAll r + (wd x + 2 + 0) = wd x + 2 + wdAll r
    omega
theorem cut_facts (B : Nat) (ds : List PyData) (n : Nat) (h : fitJAll B ds = true) : fitJAll B (ds.take n) = true ∧ fitJAll B (ds.drop n) = true ∧ PyData.depthAll (ds.take n) ≤ PyData.depthAll ds ∧ PyData.depthAll (ds.drop n) ≤ PyData.depthAll ds ∧ wdAll (ds.take n) + wdAll (ds.drop n) = wdAll ds := by
  have e := List.take_append_drop n ds
  have h1 := fitJ_app B (ds.drop n) (ds.take n)
  have h2 := dep_app (ds.drop n) (ds.take n)
  have h3 := wd_app (ds.drop n) (ds.take n)
  rw [e] at h1 h2 h3
  rw [h1, Bool.and_eq_true] at h
  refine ⟨h.1, h.2, ?_, ?_, h3.symm⟩ <;> rw [h2] <;> omega
/-- one part told otherwise -/
theorem swap_good {B C n w : Nat} {ds : List PyData} {i : Nat} {xi x' : PyData} (h : fitJAll B ds = true) (e : ds[i]? = some xi) (hBC : B ≤ C) (g : GoodJ C (xi.depth + n) (2 * wd xi + w) x') :
    GoodJ C ((PyData.tuple ds).depth + n) (2 * wd (.tuple ds) + w) (.tuple (ds.take i ++ [x'] ++ ds.drop (i + 1))) := by
  obtain ⟨a1, a2, a3, a4, a5⟩ := cut_facts B ds (i + 1) h
  obtain ⟨b1, b2, b3, b4, b5⟩ := cut_facts B ds i h
  have et : wdAll (ds.take (i + 1)) = wdAll (ds.take i) + (wd xi + 2 + 0) := by
    rw [List.take_add_one, e, wd_app]
    rfl
  have hm := dep_mem (List.mem_of_getElem? e)
  have hw := wd_mem (List.mem_of_getElem? e)
  have gd := g.d
  have gw := g.w
  have f2 := g.f
  refine ⟨?_, ?_, ?_⟩
  · show fitJAll C (ds.take i ++ [x'] ++ ds.drop (i + 1)) = true
    rw [fitJ_app, fitJ_app, fitJAll_le hBC _ b1, fitJAll_le hBC _ a2]
    show (true && (fitJ C x' && true)) && true = true
    rw [f2]
    rfl
  · show PyData.depthAll (ds.take i ++ [x'] ++ ds.drop (i + 1)) + 1 ≤ PyData.depthAll ds + 1 + n
    rw [dep_app, dep_app]
    show max (max (PyData.depthAll (ds.take i)) (max x'.depth 0)) (PyData.depthAll (ds.drop (i + 1))) + 1 ≤ _
    omega
  · show wdAll (ds.take i ++ [x'] ++ ds.drop (i + 1)) + 3 ≤ 2 * (wdAll ds + 3) + w
    rw [wd_app, wd_app]
    show wdAll (ds.take i) + (wd x' + 2 + 0) + wdAll (ds.drop (i + 1)) + 3 ≤ _
    omega
theorem cut_mid (xs : List V) (i : Nat) : cutV xs (some (i : Int)) (some ((i + 1 : Nat) : Int)) = (xs.take (i + 1)).drop i := by
  unfold cutV
  rw [HT.sIx_nat, HT.sIx_nat, List.drop_take]
  by_cases h : i + 1 ≤ xs.length
  · rw [Nat.min_eq_left h, Nat.min_eq_left (by omega)]
  · rw [Nat.min_eq_right (by omega)]
    by_cases h2 : i ≤ xs.length
    · rw [Nat.min_eq_left h2, List.take_of_length_le (by rw [List.length_drop]; exact Nat.le_refl _), List.take_of_length_le (by rw [List.length_drop]; omega)]
    · rw [Nat.min_eq_right (by omega), List.drop_length, List.drop_of_length_le (by omega)]
      simp
theorem str_eta (z : Str) : z = st z.cps.toList := by
  cases z
  rfl
theorem cut_oneS (p : List Nat) : cutS (st p) (some 1) none = st (p.drop 1) := by
  unfold cutS
  rw [HT.sIx_none]
  have e : HT.sIx (st p).length 0 (some 1) = min 1 p.length := HT.sIx_nat _ _ 1
  rw [e, st_list, st_len]
  cases p with
  | nil => rfl
  | cons c r =>
    have : min 1 (c :: r).length = 1 := by rw [List.length_cons]; omega
    rw [this]
    show st (List.take (r.length + 1 - 1) r) = st r
    rw [Nat.add_sub_cancel, List.take_length]
theorem cut_fromS (z : Str) : (cutS z (some 1) none).cps.toList = z.cps.toList.drop 1 := by
  rw [str_eta z, cut_oneS, st_list, st_list]
theorem app_lo {a b : Str} (h : ∀ c ∈ a.cps.toList, c < 128) (h2 : ∀ c ∈ b.cps.toList, c < 128) : ∀ c ∈ (a ++ b).cps.toList, c < 128 := by
  rw [str_eta a, str_eta b, st_app, st_list]
  intro c hc
  rcases List.mem_append.mp hc with q | q
  · exact h c q
  · exact h2 c q
theorem up_lo {a : Str} (h : ∀ c ∈ a.cps.toList, c < 128) : (∀ c ∈ (PySem.Txt.upper a).cps.toList, c < 128) ∧ (PySem.Txt.upper a).length = a.length := by
  rw [PyProof.Rows.upper_ascii h]
  refine ⟨fun c hc => ?_, ?_⟩
  · have hc : c ∈ (a.cps.map PyProof.Rows.up1).toList := hc
    rw [Array.toList_map] at hc
    obtain ⟨x, hx, rfl⟩ := List.mem_map.mp hc
    have := h x hx
    unfold PyProof.Rows.up1
    split <;> omega
  · show (a.cps.map PyProof.Rows.up1).size = a.cps.size
    rw [Array.size_map]
end Ey
namespace Ey
open PySem PySem.Spec PyProof.Rows L2
def Lw (x : Str) : Prop := ∀ c ∈ x.cps.toList, c < 1000
theorem lw_app {a b : Str} (h : Lw a) (h2 : Lw b) : Lw (a ++ b) := by
  show ∀ c ∈ (a ++ b).cps.toList, c < 1000
  rw [str_eta a, str_eta b, st_app, st_list]
  intro c hc
  rcases List.mem_append.mp hc with q | q
  · exact h c q
  · exact h2 c q
theorem lw_char : ∀ c, c < 128 → ((Builtin.Str.reprChar 39 c).all fun x => decide (x < 1000)) = true ∧ ((Builtin.Str.reprChar 34 c).all fun x => decide (x < 1000)) = true := by decide +kernel
theorem lw_fold (q : Nat) (hq : q = 39 ∨ q = 34) : ∀ (l : List Nat) (acc : Array Nat), (∀ c ∈ l, c < 128) → (∀ c ∈ acc.toList, c < 1000) → ∀ c ∈ (l.foldl (fun out c => out ++ (Builtin.Str.reprChar q c).toArray) acc).toList, c < 1000
  | [], acc, _, h => h
  | x :: r, acc, hl, h => by
    refine lw_fold q hq r _ (fun c hc => hl c (List.mem_cons_of_mem _ hc)) fun c hc => ?_
    rw [Array.toList_append] at hc
    rcases List.mem_append.mp hc with z | z
    · exact h c z
    · obtain ⟨a, b⟩ := lw_char x (hl x List.mem_cons_self)
      rcases hq with rfl | rfl
      · exact of_decide_eq_true (List.all_eq_true.mp a c z)
      · exact of_decide_eq_true (List.all_eq_true.mp b c z)
theorem lw_repr {x : Str} (h : ∀ c ∈ x.cps.toList, c < 128) : Lw (reprText x) := by
  have hq : reprQuote x = 39 ∨ reprQuote x = 34 := by
    unfold reprQuote
    split
    · exact .inr rfl
    · exact .inl rfl
  intro c hc
  have hc : c ∈ ((x.cps.foldl (fun out c => out ++ (Builtin.Str.reprChar (reprQuote x) c).toArray) #[reprQuote x]).push (reprQuote x)).toList := hc
  rw [Array.toList_push, ← Array.foldl_toList] at hc
  have q0 : reprQuote x < 1000 := by omega
  rcases List.mem_append.mp hc with z | z
  · refine lw_fold _ hq _ _ h (fun c hc => ?_) c z
    have : c = reprQuote x := by simpa using hc
    omega
  · have : c = reprQuote x := by simpa using z
    omega
theorem lw_from : ∀ (ts : List Str) (k : Nat) (acc : Str), Lw acc → (∀ t ∈ ts, Lw t) → Lw (textFrom k acc ts)
  | [], _, _, h, _ => h
  | t :: r, k, acc, h, hr => by
    refine lw_from r (k + 1) _ (lw_app (lw_app h ?_) (hr t List.mem_cons_self)) fun x hx => hr x (List.mem_cons_of_mem _ hx)
    by_cases e : k > 0
    · rw [if_pos e]
      unfold Lw
      decide +kernel
    · rw [if_neg e]
      unfold Lw
      decide +kernel
theorem lw_join : ∀ ts : List Str, (∀ t ∈ ts, Lw t) → Lw (Str.join ", " ts)
  | [], _ => by
    unfold Lw
    decide +kernel
  | [x], h => h x List.mem_cons_self
  | x :: y :: r, h => by
    have sep : Lw ", " := by
      unfold Lw
      decide +kernel
    exact lw_app (lw_app (h x List.mem_cons_self) sep) (lw_join (y :: r) fun t ht => h t (List.mem_cons_of_mem _ ht))
mutual
theorem lw_shown {B : Nat} : ∀ d : PyData, fitJ B d = true → Lw d.shown
  | .none, _ => by
    show Lw "None"
    unfold Lw
    decide +kernel
  | .bool b, _ => by
    cases b
    · show Lw "False"
      unfold Lw
      decide +kernel
    · show Lw "True"
      unfold Lw
      decide +kernel
  | .int i, _ => by
    intro c hc
    have h := int_low 0 i
    have q : ((Str.ofString (toString i)).cps.toList.all fun c => decide (c < 128)) = true := h
    have := of_decide_eq_true (List.all_eq_true.mp q c hc)
    omega
  | .str x, h => by
    have q : (x.cps.toList.all fun c => decide (c < 128)) = true := h
    exact lw_repr fun c hc => of_decide_eq_true (List.all_eq_true.mp q c hc)
  | .list ds, h => by
    show Lw (textFrom 0 "[" (PyData.shownAll ds) ++ "]")
    exact lw_app (lw_from _ _ _ (by unfold Lw; decide +kernel) (lw_shownAll ds h)) (by unfold Lw; decide +kernel)
  | .tuple ds, h => by
    show Lw (("(" : Str) ++ Str.join ", " (PyData.shownAll ds) ++ (if (PyData.shownAll ds).length == 1 then ",)" else ")" : String))
    refine lw_app (lw_app (by unfold Lw; decide +kernel) (lw_join _ (lw_shownAll ds h))) ?_
    split <;> (unfold Lw; decide +kernel)
  | .dict ds, h => by
    show Lw (("{" : Str) ++ Str.join ", " (PyData.shownKv ds) ++ "}")
    exact lw_app (lw_app (by unfold Lw; decide +kernel) (lw_join _ (lw_shownKv ds h))) (by unfold Lw; decide +kernel)
theorem lw_shownAll {B : Nat} : ∀ ds : List PyData, fitJAll B ds = true → ∀ t ∈ PyData.shownAll ds, Lw t
  | [], _ => fun t ht => absurd ht List.not_mem_nil
  | x :: r, h => by
    have q : (fitJ B x && fitJAll B r) = true := h
    rw [Bool.and_eq_true] at q
    intro t ht
    have ht : t ∈ x.shown :: PyData.shownAll r := ht
    rcases List.mem_cons.mp ht with rfl | z
    · exact lw_shown x q.1
    · exact lw_shownAll r q.2 t z
theorem lw_shownKv {B : Nat} : ∀ ds : List (PyData × PyData), fitJKv B ds = true → ∀ t ∈ PyData.shownKv ds, Lw t
  | [], _ => fun t ht => absurd ht List.not_mem_nil
  | (k, v) :: r, h => by
    have q : ((fitJ B k && fitJ B v) && fitJKv B r) = true := h
    rw [Bool.and_eq_true, Bool.and_eq_true] at q
    intro t ht
    have ht : t ∈ (k.shown ++ ": " ++ v.shown) :: PyData.shownKv r := ht
    rcases List.mem_cons.mp ht with rfl | z
    · exact lw_app (lw_app (lw_shown k q.1.1) (by unfold Lw; decide +kernel)) (lw_shown v q.1.2)
    · exact lw_shownKv r q.2 t z
end
end Ey
set_option maxHeartbeats 4000000
namespace Ey
open PySem PySem.Spec L2
section
variable {Pr : Program} {w : World} {K : PySem.W.Frag} {mg : Str → Option Value} {base : Heap} {A : Nat → Addr} {D : Nat → FuncData}
theorem scOdd : FnScope ["_law_deck_here"] ["_law_deck_here"] (defScope sOdd) := ⟨rfl, rfl, rfl, by decide +kernel, rfl, by decide +kernel, by decide +kernel⟩
def spOdd : Sp := fun vs H Q _ => ∃ (d l : Addr) (ms : List Addr), vs = [.ref d] ∧ Frame ms d l H ∧
  ∀ (v : V) (x : PyData) (H' : Hp), An ms H' v x → GoodJ bAny 2 130 x → Frame ms d l H' → Kp [d, l] H H' → Q v H'
theorem ok_odd (L : LR K mg A D) : FnOk Pr w K mg base CX0 3 (A 17) (D 17) ["_law_deck_here"] spOdd := by
  refine L.odd.F.ok scOdd (fun vs H Q E h => ?_) (fun cdv Ar outer s H vs Q E hr h => ?_)
  · obtain ⟨d, l, ms, rfl, _⟩ := h
    rfl
  · obtain ⟨d, l, ms, rfl, F0, k⟩ := h
    refine ⟨_, pss_one (ps_ret (pe_call (ok_pick L.pick.F L.B L.draw) hr (by rfl) L.pick.g L.pick.F.kp L.pick.b .nil pass0 (pa_cons (pv 0) (pa_cons (pe_lst (pa_cons pe_bl (pa_cons pe_non (pa_cons pe_int (pa_cons pe_str (pa_cons (pe_tup pa_nil) (pa_cons (pe_lst pa_nil) (pa_cons pe_dnewK (pa_cons (pe_un un_neg pe_int) (pa_cons pe_int (pa_cons pe_bl (pa_cons (pe_tup (pa_cons pe_str (pa_cons (pe_tup pa_nil) pa_nil))) (pa_cons pe_str (pa_cons pe_str (pa_cons pe_int (pa_cons pe_str (pa_cons (pe_tup (pa_cons pe_int pa_nil)) (pa_cons (pe_tup (pa_cons pe_str pa_nil)) (pa_cons (pe_op op_pow pe_int pe_int) (pa_cons pe_str (pa_cons (pe_tup (pa_cons pe_str pa_nil)) pa_nil))))))))))))))))))))) pa_nil)))), ?_⟩
    refine ⟨_, rfl, ?_⟩
    refine ⟨by show 0 ≤ sizeLine; decide, fun t1 n1 => ?_⟩
    have c1 : Kp [] H (upd H t1 (.tup [])) := .new n1
    have e1 : (upd H t1 (.tup [])) t1 = some (.tup []) := upd_same
    have f1 := F0.has.fresh n1
    have F1 := F0.new (o := .tup []) n1
    generalize upd H t1 (.tup []) = G1 at c1 e1 F1 ⊢
    refine ⟨by show 0 ≤ sizeLine; decide, fun t2 n2 => ?_⟩
    have c2 : Kp [] G1 (upd G1 t2 (.lst [])) := .new n2
    have e2 : (upd G1 t2 (.lst [])) t2 = some (.lst []) := upd_same
    have f2 := F1.has.fresh n2
    have F2 := F1.new (o := .lst []) n2
    generalize upd G1 t2 (.lst []) = G2 at c2 e2 F2 ⊢
    intro t3 n3
    have c3 : Kp [] G2 (upd G2 t3 (.dK [])) := .new n3
    have e3 : (upd G2 t3 (.dK [])) t3 = some (.dK []) := upd_same
    have f3 := F2.has.fresh n3
    have F3 := F2.new (o := .dK []) n3
    generalize upd G2 t3 (.dK []) = G3 at c3 e3 F3 ⊢
    refine ⟨1, rfl, ?_⟩
    refine ⟨by show 0 ≤ sizeLine; decide, fun t4 n4 => ?_⟩
    have c4 : Kp [] G3 (upd G3 t4 (.tup [])) := .new n4
    have e4 : (upd G3 t4 (.tup [])) t4 = some (.tup []) := upd_same
    have f4 := F3.has.fresh n4
    have F4 := F3.new (o := .tup []) n4
    generalize upd G3 t4 (.tup []) = G4 at c4 e4 F4 ⊢
    refine ⟨by show 2 ≤ sizeLine; decide, fun t5 n5 => ?_⟩
    have c5 : Kp [] G4 (upd G4 t5 (.tup [.str "f0", .ref t4])) := .new n5
    have e5 : (upd G4 t5 (.tup [.str "f0", .ref t4])) t5 = some (.tup [.str "f0", .ref t4]) := upd_same
    have f5 := F4.has.fresh n5
    have F5 := F4.new (o := .tup [.str "f0", .ref t4]) n5
    generalize upd G4 t5 (.tup [.str "f0", .ref t4]) = G5 at c5 e5 F5 ⊢
    refine ⟨by show 1 ≤ sizeLine; decide, fun t6 n6 => ?_⟩
    have c6 : Kp [] G5 (upd G5 t6 (.tup [.int 0])) := .new n6
    have e6 : (upd G5 t6 (.tup [.int 0])) t6 = some (.tup [.int 0]) := upd_same
    have f6 := F5.has.fresh n6
    have F6 := F5.new (o := .tup [.int 0]) n6
    generalize upd G5 t6 (.tup [.int 0]) = G6 at c6 e6 F6 ⊢
    refine ⟨by show 1 ≤ sizeLine; decide, fun t7 n7 => ?_⟩
    have c7 : Kp [] G6 (upd G6 t7 (.tup [.str ""])) := .new n7
    have e7 : (upd G6 t7 (.tup [.str ""])) t7 = some (.tup [.str ""]) := upd_same
    have f7 := F6.has.fresh n7
    have F7 := F6.new (o := .tup [.str ""]) n7
    generalize upd G6 t7 (.tup [.str ""]) = G7 at c7 e7 F7 ⊢
    refine ⟨_, _, rfl, rfl, (⟨by decide, by decide, by decide⟩ : (0 : Int) ≤ 39 ∧ (39 : Int) ≤ 1000000 ∧ (10 : Int).natAbs < 2 ^ 64), ?_⟩
    refine ⟨by show 1 ≤ sizeLine; decide, fun t8 n8 => ?_⟩
    have c8 : Kp [] G7 (upd G7 t8 (.tup [.str "given"])) := .new n8
    have e8 : (upd G7 t8 (.tup [.str "given"])) t8 = some (.tup [.str "given"]) := upd_same
    have f8 := F7.has.fresh n8
    have F8 := F7.new (o := .tup [.str "given"]) n8
    generalize upd G7 t8 (.tup [.str "given"]) = G8 at c8 e8 F8 ⊢
    refine ⟨by show 20 ≤ sizeLine; decide, fun p np => ?_⟩
    have nn := F8.ne np
    refine ⟨d, l, p, _, rfl, (F8.new np).dk, sql_of upd_same, by simp, by show 20 ≤ 1000000; decide, nn.1, nn.2, fun x H4 hx D4 k4 => ?_⟩
    have q8 : Kp [d, l] G8 H4 := (Kp.new np).trans k4
    have q7 : Kp [d, l] G7 H4 := (c8.more (by simp)).trans q8
    have q6 : Kp [d, l] G6 H4 := (c7.more (by simp)).trans q7
    have q5 : Kp [d, l] G5 H4 := (c6.more (by simp)).trans q6
    have q4 : Kp [d, l] G4 H4 := (c5.more (by simp)).trans q5
    have q3 : Kp [d, l] G3 H4 := (c4.more (by simp)).trans q4
    have q2 : Kp [d, l] G2 H4 := (c3.more (by simp)).trans q3
    have q1 : Kp [d, l] G1 H4 := (c2.more (by simp)).trans q2
    have kk : Kp [d, l] H H4 := (c1.more (by simp)).trans q1
    have n_ : ∀ {t : Addr}, t ∉ ms → t ∉ [d, l] := fun {t} h hm => h (F0.sub t hm)
    have leaf : ∀ (v : V) (x : PyData), An ms H4 v x → fitJ bAny x = true → x.depth ≤ 2 → wd x ≤ 130 → Q v H4 := fun v x a b c e => k v x H4 a ⟨b, c, e⟩ (F0.go kk D4) kk
    simp only [List.mem_cons, List.not_mem_nil, or_false] at hx
    rcases hx with rfl | rfl | rfl | rfl | rfl | rfl | rfl | rfl | rfl | rfl | rfl | rfl | rfl | rfl | rfl | rfl | rfl | rfl | rfl | rfl
    · exact leaf _ (.bool true) (.bl true) (by decide +kernel) (by decide +kernel) (by decide +kernel)
    · exact leaf _ .none (.non) (by decide +kernel) (by decide +kernel) (by decide +kernel)
    · exact leaf _ (.int 0) (.int _) (by decide +kernel) (by decide +kernel) (by decide +kernel)
    · exact leaf _ (.str _) (.str _) (by decide +kernel) (by decide +kernel) (by decide +kernel)
    · exact leaf _ (.tuple []) (.tup (q1.tup _ _ e1) .nil) (by decide +kernel) (by decide +kernel) (by decide +kernel)
    · exact leaf _ (.list []) (.lst (q2.at_ _ _ e2 (n_ f2)) f2 .nil) (by decide +kernel) (by decide +kernel) (by decide +kernel)
    · exact leaf _ (.dict []) (.dct (q3.at_ _ _ e3 (n_ f3)) f3 .nil) (by decide +kernel) (by decide +kernel) (by decide +kernel)
    · exact leaf _ (.int _) (.int _) (by decide +kernel) (by decide +kernel) (by decide +kernel)
    · exact leaf _ (.int _) (.int _) (by decide +kernel) (by decide +kernel) (by decide +kernel)
    · exact leaf _ (.bool false) (.bl false) (by decide +kernel) (by decide +kernel) (by decide +kernel)
    · exact leaf _ (.tuple [.str "f0", .tuple []]) (.tup (q5.tup _ _ e5) (.cons (.str _) (.cons (.tup (q4.tup _ _ e4) .nil) .nil))) (by decide +kernel) (by decide +kernel) (by decide +kernel)
    · exact leaf _ (.str _) (.str _) (by decide +kernel) (by decide +kernel) (by decide +kernel)
    · exact leaf _ (.str _) (.str _) (by decide +kernel) (by decide +kernel) (by decide +kernel)
    · exact leaf _ (.int _) (.int _) (by decide +kernel) (by decide +kernel) (by decide +kernel)
    · exact leaf _ (.str _) (.str _) (by decide +kernel) (by decide +kernel) (by decide +kernel)
    · exact leaf _ (.tuple [.int 0]) (.tup (q6.tup _ _ e6) (.cons (.int 0) .nil)) (by decide +kernel) (by decide +kernel) (by decide +kernel)
    · exact leaf _ (.tuple [.str ""]) (.tup (q7.tup _ _ e7) (.cons (.str _) .nil)) (by decide +kernel) (by decide +kernel) (by decide +kernel)
    · exact leaf _ (.int _) (.int _) (by decide +kernel) (by decide +kernel) (by decide +kernel)
    · exact leaf _ (.str _) (.str _) (by decide +kernel) (by decide +kernel) (by decide +kernel)
    · exact leaf _ (.tuple [.str "given"]) (.tup (q8.tup _ _ e8) (.cons (.str _) .nil)) (by decide +kernel) (by decide +kernel) (by decide +kernel)
end
end Ey
set_option maxHeartbeats 4000000
namespace Ey
open PySem PySem.Spec L2
/-! ### t[:at] + (e,) + t[at + 1:] -/
abbrev tBehind : TE := tSl rCut (tVar 1) (tPart (tOp (rI0 fun i j => .int (i + j)) (tVar 3) (tC (.int 1)))) tNoPart
abbrev tSwp (te : TE) : TE := tOp rCat2 (tOp rCat2 (tSl rCut (tVar 1) tNoPart (tPart (tVar 3))) (tTup (tCons te tNil))) tBehind
/-- what is made of e's value -/
def SwK (Q : VK) (q1 : Addr) (σ : L2.St) : VK := fun v H2 => [v].length ≤ sizeLine ∧ ∀ p, H2 p = none → rCat2 (.ref q1) (.ref p) (upd H2 p (.tup [v])) fun y H3 => tBehind σ H3 fun z H4 => rCat2 y z H4 Q
theorem swp {te : TE} {σ : L2.St} {H : Hp} {Q : VK} {a : Addr} {xs : List V} {i : Nat} (h1 : σ[1]? = some (some (.ref a))) (h3 : σ[3]? = some (some (.int (i : Nat)))) (e : H a = some (.tup xs))
    (k : ∀ (q1 : Addr) (H1 : Hp), H1 q1 = some (.tup (xs.take i)) → Kp [] H H1 → te σ H1 (SwK Q q1 σ)) : tSwp te σ H Q := by
  refine ⟨_, h1, _, h3, _, rfl, a, xs, rfl, e, fun q1 H1 e1 k1 => ?_⟩
  rw [cut_take] at e1
  exact k q1 H1 e1 k1
theorem swK {Q : VK} {q1 a : Addr} {σ : L2.St} {v : V} {H2 : Hp} {xs : List V} {i : Nat} (h1 : σ[1]? = some (some (.ref a))) (h3 : σ[3]? = some (some (.int (i : Nat)))) (hl : xs.length ≤ 300000) (e1 : H2 q1 = some (.tup (xs.take i))) (e : H2 a = some (.tup xs))
    (k : ∀ (q : Addr) (H3 : Hp), H3 q = some (.tup (xs.take i ++ [v] ++ xs.drop (i + 1))) → Kp [] H2 H3 → Q (.ref q) H3) : SwK Q q1 σ v H2 := by
  have ei1 : ((i : Int) + 1) = ((i + 1 : Nat) : Int) := by omega
  have lim : ∀ n, n ≤ 900010 → n ≤ sizeLine := fun n h => Nat.le_trans h (by decide)
  have cut : ∀ n, (xs.take n).length ≤ 300000 ∧ (xs.drop n).length ≤ 300000 := fun n => by
    rw [List.length_take, List.length_drop]
    omega
  refine ⟨by show 1 ≤ sizeLine; decide, fun p np => ?_⟩
  have k7 : Kp [] H2 (upd H2 p (.tup [v])) := .new np
  have e7 : (upd H2 p (.tup [v])) p = some (.tup [v]) := upd_same
  generalize upd H2 p (.tup [v]) = H7 at k7 e7
  refine ⟨q1, p, _, _, rfl, rfl, k7.tup _ _ e1, e7, lim _ (by show (xs.take i).length + 1 ≤ 900010; have := cut i; omega), fun q3 H8 e8 k8 => ?_⟩
  have k28 := k7.trans k8
  refine ⟨_, h1, _, h3, _, _, rfl, rfl, _, rfl, a, xs, rfl, k28.tup _ _ e, fun q4 H9 e9 k9 => ?_⟩
  rw [ei1, cut_drop] at e9
  refine ⟨q3, q4, _, _, rfl, rfl, k9.tup _ _ e8, e9, lim _ (by rw [List.length_append]; show (xs.take i).length + 1 + _ ≤ 900010; have := cut i; have := cut (i + 1); omega), fun q5 H10 e10 k10 => ?_⟩
  exact k q5 H10 e10 (k28.trans (k9.trans k10))
end Ey
set_option maxHeartbeats 4000000
namespace Ey
open PySem PySem.Spec L2
abbrev sBent : Stmt := topS 18
structure LB (K : PySem.W.Frag) (mg : Str → Option Value) (A : Nat → Addr) (D : Nat → FuncData) : Prop extends LR K mg A D where
  bent : Df K mg "_law_bent" sBent ["_law_deck_here", "_law_thing", "_law_deep"] (A 18) (D 18)
def isBoolD : PyData → Bool
  | .bool _ => true
  | .none | .int _ | .str _ | .list _ | .tuple _ | .dict _ => false
theorem An.boolK {K : PySem.W.Frag} {ms : List Addr} {H : Hp} {v : V} {d : PyData} (h : An ms H v d) : ∃ ty, TyX K H v ty ∧ PySem.W.kitOne K ty (.type "bool") = some (isBoolD d) := by
  cases h with
  | non => exact ⟨_, .base .non, kit_ty (r := false) (by decide +kernel)⟩
  | bl b => exact ⟨_, .base (.bl b), kit_ty (r := true) (by decide +kernel)⟩
  | int i => exact ⟨_, .base (.int i), kit_ty (r := false) (by decide +kernel)⟩
  | str x => exact ⟨_, .base (.str x), kit_ty (r := false) (by decide +kernel)⟩
  | lst e => exact ⟨_, .base (.lst e), kit_ty (r := false) (by decide +kernel)⟩
  | tup e => exact ⟨_, .base (.tup e), kit_ty (r := false) (by decide +kernel)⟩
  | dct e => exact ⟨_, .base (.dK e), kit_ty (r := false) (by decide +kernel)⟩
theorem app1 {g t : Str} (h : t.length = 1) : (g ++ t).length = g.length + 1 := by
  rw [str_eta g, str_eta t, st_app, st_len, List.length_append, st_len]
  have : t.cps.toList.length = t.length := cps_len t
  omega
theorem cut_lastS (p : List Nat) : cutS (st p) none (some (-1)) = st p.dropLast := by
  unfold cutS
  rw [HT.sIx_none]
  have e : HT.sIx (st p).length (st p).length (some (-1)) = p.length - 1 := by
    show (if (-1 : Int) < 0 then (-1 + ((st p).length : Int)).toNat else min (-1 : Int).toNat (st p).length) = p.length - 1
    rw [if_pos (by decide), st_len]
    omega
  rw [e, st_list, List.dropLast_eq_take]
  rfl
theorem cut_sub (g : Str) : ∀ c ∈ (cutS g none (some (-1))).cps.toList, c ∈ g.cps.toList := by
  rw [str_eta g, cut_lastS, st_list, st_list]
  exact fun c hc => List.dropLast_sublist _ |>.subset hc
theorem cut_le (g : Str) : (cutS g none (some (-1))).length ≤ g.length := by
  rw [← cps_len, ← cps_len, str_eta g, cut_lastS, st_list, st_list, List.length_dropLast]
  omega
/-- where a tuple is bent -/
structure BSt (ms : List Addr) (d l a : Addr) (H : Hp) (xs : List V) (ds : List PyData) (H5 : Hp) : Prop where
  e : H5 a = some (.tup xs)
  hP : AnAll ms H5 xs ds
  F : Frame ms d l H5
  k : Kp [d, l] H H5
theorem BSt.own {ms : List Addr} {d l a : Addr} {H H5 H6 : Hp} {xs : List V} {ds : List PyData} (b : BSt ms d l a H xs ds H5) (k : Kp [d, l] H5 H6) (F : Frame ms d l H6) : BSt ms d l a H xs ds H6 :=
  ⟨k.tup _ _ b.e, b.hP.kp k b.F.sub ds, F, b.k.trans k⟩
theorem BSt.kp0 {ms : List Addr} {d l a : Addr} {H H5 H6 : Hp} {xs : List V} {ds : List PyData} (b : BSt ms d l a H xs ds H5) (k : Kp [] H5 H6) : BSt ms d l a H xs ds H6 := b.own (k.more (by simp)) (b.F.kp0 k)
section
variable {Pr : Program} {w : World} {K : PySem.W.Frag} {mg : Str → Option Value} {base : Heap} {A : Nat → Addr} {D : Nat → FuncData}
abbrev NB : List Str := ["_law_deck_here", "_law_thing", "_law_deep", "_law_at", "_law_way"]
theorem scBent : FnScope NB ["_law_deck_here", "_law_thing", "_law_deep"] (defScope sBent) := ⟨rfl, rfl, rfl, by decide +kernel, rfl, by decide +kernel, by decide +kernel⟩
def spBent (ms : List Addr) (n : Nat) : Sp := fun vs H Q _ => ∃ (d l : Addr) (v : V) (x : PyData) (deep B : Nat), vs = [.ref d, v, .int deep] ∧ deep < n ∧ An ms H v x ∧ fitJ B x = true ∧ bAny ≤ B ∧ B ≤ 10 ^ 39 + 1000 ∧ wd x ≤ 300000 ∧ Frame ms d l H ∧
  ∀ (v' : V) (x' : PyData) (H' : Hp), An ms H' v' x' → GoodJ (B + 5) (x.depth + 6) (2 * wd x + 6000) x' → Frame ms d l H' → Kp [d, l] H H' → Q v' H'
theorem ok_bent {ms : List Addr} (L : LB K mg A D) : ∀ n : Nat, FnOk Pr w K mg base CX0 (n + 5) (A 18) (D 18) ["_law_deck_here", "_law_thing", "_law_deep"] (spBent ms n)
  | 0 => by
    refine L.bent.F.ok scBent (fun vs H Q E h => ?_) (fun cdv Ar outer s H vs Q E hr h => ?_)
    · obtain ⟨d, l, v, x, deep, B, rfl, _⟩ := h
      rfl
    · obtain ⟨d, l, v, x, deep, B, rfl, hd, _⟩ := h
      exact absurd hd (Nat.not_lt_zero _)
  | n + 1 => by
    have ih := ok_bent (ms := ms) L n
    have D0 := L.bent
    have Bt := L.B
    refine D0.F.ok scBent (fun vs H Q E h => ?_) (fun cdv Ar outer s H vs Q E hr h => ?_)
    · obtain ⟨d, l, v, x, deep, B, rfl, _⟩ := h
      rfl
    · obtain ⟨d, l, v, x, deep, B, rfl, hdn, hT, hfx, hB1, hB2, hwx, Fr, k⟩ := h
      have hr3 := hr.mono (show 3 ≤ n + 5 by omega)
      have hr2 := hr.mono (show 2 ≤ n + 5 by omega)
      have hr1 := hr.mono (show 1 ≤ n + 5 by omega)
      have hx : ∀ ds : List PyData, (PyData.tuple ds).depth = PyData.depthAll ds + 1 := fun _ => rfl
      have hw : ∀ ds : List PyData, wd (.tuple ds) = wdAll ds + 3 := fun _ => rfl
      -- an item exchanged
      have fin : ∀ (a : Addr) (xs : List V) (ds : List PyData) (i : Nat) (r4 : Int) (xi : PyData) (q1 : Addr) (v' : V) (x' : PyData) (H6 : Hp), x = .tuple ds → ds[i]? = some xi → H6 q1 = some (.tup (xs.take i)) → BSt ms d l a H xs ds H6 → An ms H6 v' x' → GoodJ (B + 5) (xi.depth + 6) (2 * wd xi + 6000) x' →
          SwK Q q1 [some (.ref d), some (.ref a), some (.int deep), some (.int i), some (.int r4)] v' H6 := fun a xs ds i r4 xi q1 v' x' H6 ed exi e1 b ax gx => by
        subst ed
        have lx := b.hP.length
        have ll := len_wd ds
        have hw1 := hw ds
        refine swK rfl rfl (by omega) e1 b.e fun q H7 e7 k7 => ?_
        have hP7 := b.hP.kp k7 (by simp) ds
        have gg := swap_good (B := B) (C := B + 5) (n := 6) (w := 6000) (show fitJAll B ds = true from hfx) exi (by omega) gx
        exact k _ (.tuple (ds.take i ++ [x'] ++ ds.drop (i + 1))) _ (.tup e7 (((hP7.take i).append (.cons (ax.kp k7 (by simp) _) .nil)).append (hP7.drop (i + 1)))) gg (b.F.kp0 k7) (b.k.trans (k7.more (by simp)))
      -- one of some
      have pickEnd : ∀ (a : Addr) (xs : List V) (ds : List PyData) (i : Nat) (r4 : Int) (xi : PyData) (q1 p3 : Addr) (us : List V) (H5 : Hp), x = .tuple ds → ds[i]? = some xi → H5 q1 = some (.tup (xs.take i)) → BSt ms d l a H xs ds H5 → H5 p3 = none → us ≠ [] → us.length ≤ 100 → (∀ u ∈ us, ∃ x', (∀ H6, An ms H6 u x') ∧ GoodJ (B + 5) (xi.depth + 6) (2 * wd xi + 6000) x') →
          spPick K [.ref d, .ref p3] (upd H5 p3 (.lst us)) (SwK Q q1 [some (.ref d), some (.ref a), some (.int deep), some (.int i), some (.int r4)]) E0 := fun a xs ds i r4 xi q1 p3 us H5 ed exi e1 b n3 hne hlu hus => by
        have nn := b.F.ne n3
        have k6 : Kp [] H5 (upd H5 p3 (.lst us)) := .new n3
        refine ⟨d, l, p3, us, rfl, (b.F.new n3).dk, sql_of upd_same, hne, Nat.le_trans hlu (by decide), nn.1, nn.2, fun u H7 hu D7 k7 => ?_⟩
        obtain ⟨x', ax, gx⟩ := hus u hu
        have k67 : Kp [d, l] H5 H7 := (k6.more (by simp)).trans k7
        exact fin a xs ds i r4 xi q1 u x' H7 ed exi (k67.tup _ _ e1) (b.own k67 (b.F.go k67 D7)) (ax H7) gx
      have fint : ∀ (xi : PyData) (j : Int), j.natAbs < B + 5 → ∃ x', (∀ H6, An ms H6 (.int j) x') ∧ GoodJ (B + 5) (xi.depth + 6) (2 * wd xi + 6000) x' := fun xi j hj => ⟨.int j, fun _ => .int j, decide_eq_true hj, Nat.zero_le _, by show 45 ≤ _; omega⟩
      have fstr : ∀ (xi : PyData) (z : Str), (∀ c ∈ z.cps.toList, c < 128) → 10 * z.length + 2 ≤ 2 * wd xi + 6000 → ∃ x', (∀ H6, An ms H6 (.str z) x') ∧ GoodJ (B + 5) (xi.depth + 6) (2 * wd xi + 6000) x' := fun xi z hz2 hl2 => ⟨.str z, fun _ => .str z, (by
        show (z.cps.toList.all fun c => decide (c < 128)) = true
        rw [List.all_eq_true]
        exact fun c hc => decide_eq_true (hz2 c hc)), Nat.zero_le _, hl2⟩
      -- the item bent itself
      obtain ⟨t8, d8, r8⟩ : ∃ tt, PSs (cxOf CX0 Pr w K mg base NB "_law_bent" (defScope sBent) (A 18) cdv Ar outer s H E).nox ((defBody sBent).drop 10) tt ∧
          ∀ (De : Ends) (a : Addr) (xs : List V) (ds : List PyData) (i : Nat) (r4 : Int) (xi : PyData) (xv : V) (H5 : Hp), De.rt = Q → v = .ref a → x = .tuple ds → BSt ms d l a H xs ds H5 → (hi : i < xs.length) → ds[i]? = some xi → xs[i] = xv → An ms H5 xv xi → 0 < deep →
            tt De [some (.ref d), some (.ref a), some (.int deep), some (.int i), some (.int r4)] H5 := by
        refine ⟨_, (pss_one (ps_ret (pe_op op_cat2 (pe_op op_cat2 (pe_slice sl_cut (pv 1) po_none (po_some (pv 3))) (pe_tup (pa_cons (pe_call ih hr (by rfl) D0.g D0.F.kp D0.b .nil pass0 (pa_cons (pv 0) (pa_cons (pe_ix ix_tup (pv 1) (pv 3) (fun _ _ => rfl)) (pa_cons (pe_op op_sub (pv 2) pe_int) pa_nil)))) pa_nil))) (pe_slice sl_cut (pv 1) (po_some (pe_op op_add (pv 3) pe_int)) po_none)))), ?_⟩
        intro De a xs ds i r4 xi xv H5 eD ev ed b hi exi exv axi hd0
        subst eD
        refine swp (xs := xs) (i := i) rfl rfl b.e fun q1 H6 e6 k6 => ?_
        have b6 := b.kp0 k6
        have ax6 := axi.kp k6 (by simp) xi
        have hmem := List.mem_of_getElem? exi
        have hfd : fitJAll B ds = true := by
          rw [ed] at hfx
          exact hfx
        have hwi := wd_mem hmem
        have hwd : wdAll ds + 3 ≤ 300000 := by
          rw [ed] at hwx
          exact hwx
        refine ⟨_, rfl, _, rfl, _, rfl, a, _, _, xv, rfl, rfl, sqt_of b6.e, exv ▸ atI_nat (List.getElem?_eq_getElem hi), _, rfl, _, _, rfl, rfl, d, l, xv, xi, deep - 1, B, ?_, by omega, ax6, fitJ_mem hfd hmem, hB1, hB2, by omega, b6.F, fun v' x' H7 ax gx F7 k7 => ?_⟩
        · show [V.ref d, xv, V.int ((deep : Int) - 1)] = _
          rw [show (deep : Int) - 1 = ((deep - 1 : Nat) : Int) by omega]
        · exact fin a xs ds i r4 xi q1 v' x' H7 ed exi (k7.tup _ _ e6) (b6.own k7 F7) ax gx
      obtain ⟨t7, d7, r7⟩ : ∃ tt, PSs (cxOf CX0 Pr w K mg base NB "_law_bent" (defScope sBent) (A 18) cdv Ar outer s H E).nox ((defBody sBent).drop 9) tt ∧
          ∀ (De : Ends) (a : Addr) (xs : List V) (ds : List PyData) (i : Nat) (r4 : Int) (xi : PyData) (xv : V) (H5 : Hp), De.rt = Q → v = .ref a → x = .tuple ds → BSt ms d l a H xs ds H5 → (hi : i < xs.length) → ds[i]? = some xi → xs[i] = xv → An ms H5 xv xi → 0 < deep →
            tt De [some (.ref d), some (.ref a), some (.int deep), some (.int i), some (.int r4)] H5 := by
        refine ⟨_, (pss_cons (ps_if (PW.pt (pw_and (pt_val (pe_callB call_isi (by rfl) Bt.isi (by decide +kernel) (pa_cons (pe_ix ix_tup (pv 1) (pv 3) (fun _ _ => rfl)) (pa_cons (pe_bltn (v := .ty "str") (by rfl) Bt.str (by decide +kernel) rfl) pa_nil)))) (pw_and1 (pt_cmpR op_eq (pe_call (ok_draw L.draw.F Bt) hr1 (by rfl) L.draw.g L.draw.F.kp L.draw.b .nil pass0 (pa_cons (pv 0) (pa_cons pe_int pa_nil))) pe_int (nomark _))))) (pss_one (ps_ret (pe_op op_cat2 (pe_op op_cat2 (pe_slice sl_cut (pv 1) po_none (po_some (pv 3))) (pe_tup (pa_cons (pe_call (ok_pick L.pick.F Bt L.draw) hr2 (by rfl) L.pick.g L.pick.F.kp L.pick.b .nil pass0 (pa_cons (pv 0) (pa_cons (pe_lst (pa_cons (pe_op op_add_str (pe_ix ix_tup (pv 1) (pv 3) (fun _ _ => rfl)) pe_str) (pa_cons (pe_slice sl_str (pe_ix ix_tup (pv 1) (pv 3) (fun _ _ => rfl)) po_none (po_some (pe_un un_neg pe_int))) (pa_cons pe_str (pa_cons pe_str (pa_cons (pe_op op_add_str (pe_ix ix_tup (pv 1) (pv 3) (fun _ _ => rfl)) pe_str) pa_nil)))))) pa_nil))) pa_nil))) (pe_slice sl_cut (pv 1) (po_some (pe_op op_add (pv 3) pe_int)) po_none)))) pss_nil) d8), ?_⟩
        intro De a xs ds i r4 xi xv H5 eD ev ed b hi exi exv axi hd0
        have ix : atI xs (i : Int) = some xv := exv ▸ atI_nat (List.getElem?_eq_getElem hi)
        have rest : ∀ H6, Kp [d, l] H5 H6 → DeckAt H6 d l → t8 De [some (.ref d), some (.ref a), some (.int deep), some (.int i), some (.int r4)] H6 := fun H6 k6 D6 =>
          r8 De a xs ds i r4 xi xv H6 eD ev ed (b.own k6 (b.F.go k6 D6)) hi exi exv (axi.kp k6 b.F.sub xi) hd0
        obtain ⟨ty, hty, kty⟩ := axi.strK (K := K)
        refine ⟨_, rfl, _, rfl, a, _, _, _, rfl, rfl, sqt_of b.e, ix, _, .ty "str", ty, .type "str", _, rfl, .ty "str", hty, kty, _, rfl, ?_⟩
        cases es : isStr xi with
        | false => exact iteF (rest H5 .refl b.F.dk)
        | true =>
          refine iteT ⟨_, rfl, d, l, 2, rfl, b.F.dk, by decide, by decide, fun r H6 r0 r1 D6 k6 => ⟨rfl, _, rfl, ite2 (fun _ => ?_) (fun _ => rest H6 k6 D6)⟩⟩
          have b6 := b.own k6 (b.F.go k6 D6)
          subst eD
          refine swp (xs := xs) (i := i) rfl rfl b6.e fun q1 H7 e7 k7 => ?_
          have b7 := b6.kp0 k7
          have hmem := List.mem_of_getElem? exi
          have hfd : fitJAll B ds = true := by
            rw [ed] at hfx
            exact hfx
          have hfi := fitJ_mem hfd hmem
          have hwi := wd_mem hmem
          have hwd : wdAll ds + 3 ≤ 300000 := by
            rw [ed] at hwx
            exact hwx
          cases axi with
          | str g =>
            have hgw : 10 * g.length + 2 ≤ 300000 := by
              have : wd (.str g) = 10 * g.length + 2 := rfl
              omega
            have hg1 : g.length + 1 ≤ sizeLine := Nat.le_trans (show g.length + 1 ≤ 30000 by omega) (by decide)
            have hgl : ∀ c ∈ g.cps.toList, c < 128 := by
              have q : (g.cps.toList.all fun c => decide (c < 128)) = true := hfi
              rw [List.all_eq_true] at q
              exact fun c hc => of_decide_eq_true (q c hc)
            refine ⟨_, rfl, _, rfl, _, rfl, a, _, _, _, rfl, rfl, sqt_of b7.e, ix, _, _, rfl, rfl, hg1, _, rfl, _, rfl, a, _, _, _, rfl, rfl, sqt_of b7.e, ix, 1, rfl, _, rfl, g, rfl, Nat.le_of_succ_le hg1, _, rfl, _, rfl, a, _, _, _, rfl, rfl, sqt_of b7.e, ix, _, _, rfl, rfl, hg1, by show 5 ≤ sizeLine; decide, fun p3 n3 => ?_⟩
            refine pickEnd a xs ds i r4 _ q1 p3 _ H7 ed exi e7 b7 n3 (by simp) (by show 5 ≤ 100; decide) fun u hu => ?_
            have hwg : wd (.str g) = 10 * g.length + 2 := rfl
            simp only [List.mem_cons, List.not_mem_nil, or_false] at hu
            rcases hu with rfl | rfl | rfl | rfl | rfl
            · exact fstr _ _ (app_lo hgl (by decide +kernel)) (by rw [app1 (by decide +kernel)]; omega)
            · exact fstr _ _ (fun c hc => hgl c (cut_sub g c hc)) (by have := cut_le g; omega)
            · exact fstr _ _ (by decide +kernel) (Nat.le_trans (show _ ≤ 20 by decide +kernel) (by omega))
            · exact fstr _ _ (by decide +kernel) (Nat.le_trans (show _ ≤ 20 by decide +kernel) (by omega))
            · exact fstr _ _ (app_lo hgl (by decide +kernel)) (by rw [app1 (by decide +kernel)]; omega)
          | non => cases es
          | bl _ => cases es
          | int _ => cases es
          | lst _ _ _ => cases es
          | tup _ _ => cases es
          | dct _ _ _ => cases es
      obtain ⟨t6, d6, r6⟩ : ∃ tt, PSs (cxOf CX0 Pr w K mg base NB "_law_bent" (defScope sBent) (A 18) cdv Ar outer s H E).nox ((defBody sBent).drop 8) tt ∧
          ∀ (De : Ends) (a : Addr) (xs : List V) (ds : List PyData) (i : Nat) (r4 : Int) (xi : PyData) (xv : V) (H5 : Hp), De.rt = Q → v = .ref a → x = .tuple ds → BSt ms d l a H xs ds H5 → (hi : i < xs.length) → ds[i]? = some xi → xs[i] = xv → An ms H5 xv xi → 0 < deep →
            tt De [some (.ref d), some (.ref a), some (.int deep), some (.int i), some (.int r4)] H5 := by
        refine ⟨_, (pss_cons (ps_if (PW.pt (pw_and (pt_val (pe_call (go_lInt (ms := ms) L.toLR) hr1 (by rfl) L.int.g L.int.F.kp L.int.b .nil pass0 (pa_cons (pe_ix ix_tup (pv 1) (pv 3) (fun _ _ => rfl)) pa_nil))) (pw_and1 (pt_cmpR op_eq (pe_call (ok_draw L.draw.F Bt) hr1 (by rfl) L.draw.g L.draw.F.kp L.draw.b .nil pass0 (pa_cons (pv 0) (pa_cons pe_int pa_nil))) pe_int (nomark _))))) (pss_one (ps_ret (pe_op op_cat2 (pe_op op_cat2 (pe_slice sl_cut (pv 1) po_none (po_some (pv 3))) (pe_tup (pa_cons (pe_call (ok_pick L.pick.F Bt L.draw) hr2 (by rfl) L.pick.g L.pick.F.kp L.pick.b .nil pass0 (pa_cons (pv 0) (pa_cons (pe_lst (pa_cons (pe_op op_add (pe_ix ix_tup (pv 1) (pv 3) (fun _ _ => rfl)) pe_int) (pa_cons (pe_op op_sub (pe_ix ix_tup (pv 1) (pv 3) (fun _ _ => rfl)) pe_int) (pa_cons pe_int (pa_cons pe_int pa_nil))))) pa_nil))) pa_nil))) (pe_slice sl_cut (pv 1) (po_some (pe_op op_add (pv 3) pe_int)) po_none)))) pss_nil) d7), ?_⟩
        intro De a xs ds i r4 xi xv H5 eD ev ed b hi exi exv axi hd0
        have ix : atI xs (i : Int) = some xv := exv ▸ atI_nat (List.getElem?_eq_getElem hi)
        have rest : ∀ H6, Kp [d, l] H5 H6 → DeckAt H6 d l → t7 De [some (.ref d), some (.ref a), some (.int deep), some (.int i), some (.int r4)] H6 := fun H6 k6 D6 =>
          r7 De a xs ds i r4 xi xv H6 eD ev ed (b.own k6 (b.F.go k6 D6)) hi exi exv (axi.kp k6 b.F.sub xi) hd0
        refine ⟨_, rfl, _, rfl, a, _, _, _, rfl, rfl, sqt_of b.e, ix, xv, xi, rfl, axi, _, rfl, ?_⟩
        cases es : isIntD xi with
        | false => exact iteF (rest H5 .refl b.F.dk)
        | true =>
          refine iteT ⟨_, rfl, d, l, 2, rfl, b.F.dk, by decide, by decide, fun r H6 r0 r1 D6 k6 => ⟨rfl, _, rfl, ite2 (fun _ => ?_) (fun _ => rest H6 k6 D6)⟩⟩
          have b6 := b.own k6 (b.F.go k6 D6)
          subst eD
          refine swp (xs := xs) (i := i) rfl rfl b6.e fun q1 H7 e7 k7 => ?_
          have b7 := b6.kp0 k7
          have hmem := List.mem_of_getElem? exi
          have hfd : fitJAll B ds = true := by
            rw [ed] at hfx
            exact hfx
          have hfi := fitJ_mem hfd hmem
          cases axi with
          | int j =>
            have hj : j.natAbs < B := of_decide_eq_true hfi
            refine ⟨_, rfl, _, rfl, _, rfl, a, _, _, _, rfl, rfl, sqt_of b7.e, ix, _, _, rfl, rfl, _, rfl, _, rfl, a, _, _, _, rfl, rfl, sqt_of b7.e, ix, _, _, rfl, rfl, by show 4 ≤ sizeLine; decide, fun p3 n3 => ?_⟩
            refine pickEnd a xs ds i r4 _ q1 p3 _ H7 ed exi e7 b7 n3 (by simp) (by show 4 ≤ 100; decide) fun u hu => ?_
            have hb9 : 9 < B := Nat.lt_of_lt_of_le (by decide +kernel) hB1
            simp only [List.mem_cons, List.not_mem_nil, or_false] at hu
            rcases hu with rfl | rfl | rfl | rfl
            · exact fint _ _ (by omega)
            · exact fint _ _ (by omega)
            · exact fint _ _ (by omega)
            · exact fint _ _ (by omega)
          | non => cases es
          | bl _ => cases es
          | str _ => cases es
          | lst _ _ _ => cases es
          | tup _ _ => cases es
          | dct _ _ _ => cases es
      obtain ⟨t5, d5, r5⟩ : ∃ tt, PSs (cxOf CX0 Pr w K mg base NB "_law_bent" (defScope sBent) (A 18) cdv Ar outer s H E).nox ((defBody sBent).drop 7) tt ∧
          ∀ (De : Ends) (a : Addr) (xs : List V) (ds : List PyData) (i : Nat) (r4 : Int) (xi : PyData) (xv : V) (H5 : Hp), De.rt = Q → v = .ref a → x = .tuple ds → BSt ms d l a H xs ds H5 → (hi : i < xs.length) → ds[i]? = some xi → xs[i] = xv → An ms H5 xv xi → 0 < deep →
            tt De [some (.ref d), some (.ref a), some (.int deep), some (.int i), some (.int r4)] H5 := by
        refine ⟨_, (pss_cons (ps_if (PW.pt (pw_and (pt_val (pe_callB call_isi (by rfl) Bt.isi (by decide +kernel) (pa_cons (pe_ix ix_tup (pv 1) (pv 3) (fun _ _ => rfl)) (pa_cons (pe_bltn (v := .ty "bool") (by rfl) Bt.bool (by decide +kernel) rfl) pa_nil)))) (pw_and1 (pt_cmpR op_eq (pe_call (ok_draw L.draw.F Bt) hr1 (by rfl) L.draw.g L.draw.F.kp L.draw.b .nil pass0 (pa_cons (pv 0) (pa_cons pe_int pa_nil))) pe_int (nomark _))))) (pss_one (ps_ret (pe_op op_cat2 (pe_op op_cat2 (pe_slice sl_cut (pv 1) po_none (po_some (pv 3))) (pe_tup (pa_cons (pe_call (ok_pick L.pick.F Bt L.draw) hr2 (by rfl) L.pick.g L.pick.F.kp L.pick.b .nil pass0 (pa_cons (pv 0) (pa_cons (pe_lst (pa_cons (pe_not (pe_ix ix_tup (pv 1) (pv 3) (fun _ _ => rfl))) (pa_cons (pe_ifExp (pt_val (pe_ix ix_tup (pv 1) (pv 3) (fun _ _ => rfl))) pe_int pe_int) pa_nil))) pa_nil))) pa_nil))) (pe_slice sl_cut (pv 1) (po_some (pe_op op_add (pv 3) pe_int)) po_none)))) pss_nil) d6), ?_⟩
        intro De a xs ds i r4 xi xv H5 eD ev ed b hi exi exv axi hd0
        have ix : atI xs (i : Int) = some xv := exv ▸ atI_nat (List.getElem?_eq_getElem hi)
        have rest : ∀ H6, Kp [d, l] H5 H6 → DeckAt H6 d l → t6 De [some (.ref d), some (.ref a), some (.int deep), some (.int i), some (.int r4)] H6 := fun H6 k6 D6 =>
          r6 De a xs ds i r4 xi xv H6 eD ev ed (b.own k6 (b.F.go k6 D6)) hi exi exv (axi.kp k6 b.F.sub xi) hd0
        obtain ⟨ty, hty, kty⟩ := axi.boolK (K := K)
        refine ⟨_, rfl, _, rfl, a, _, _, _, rfl, rfl, sqt_of b.e, ix, _, .ty "bool", ty, .type "bool", _, rfl, .ty "bool", hty, kty, _, rfl, ?_⟩
        cases es : isBoolD xi with
        | false => exact iteF (rest H5 .refl b.F.dk)
        | true =>
          refine iteT ⟨_, rfl, d, l, 2, rfl, b.F.dk, by decide, by decide, fun r H6 r0 r1 D6 k6 => ⟨rfl, _, rfl, ite2 (fun _ => ?_) (fun _ => rest H6 k6 D6)⟩⟩
          have b6 := b.own k6 (b.F.go k6 D6)
          subst eD
          refine swp (xs := xs) (i := i) rfl rfl b6.e fun q1 H7 e7 k7 => ?_
          have b7 := b6.kp0 k7
          cases axi with
          | bl c =>
            have goal : ∀ j : Int, j.natAbs < 2 → ∀ p3, H7 p3 = none → spPick K [.ref d, .ref p3] (upd H7 p3 (.lst [.bl (!c), .int j])) (SwK De.rt q1 [some (.ref d), some (.ref a), some (.int deep), some (.int i), some (.int r4)]) E0 := fun j hj p3 n3 => by
              refine pickEnd a xs ds i r4 _ q1 p3 _ H7 ed exi e7 b7 n3 (by simp) (by show 2 ≤ 100; decide) fun u hu => ?_
              simp only [List.mem_cons, List.not_mem_nil, or_false] at hu
              rcases hu with rfl | rfl
              · exact ⟨_, fun _ => .bl _, rfl, Nat.zero_le _, by show 5 ≤ _; omega⟩
              · exact fint _ _ (by omega)
            refine ⟨_, rfl, _, rfl, _, rfl, a, _, _, _, rfl, rfl, sqt_of b7.e, ix, _, rfl, _, rfl, _, rfl, a, _, _, _, rfl, rfl, sqt_of b7.e, ix, _, rfl, ?_⟩
            cases c with
            | true => exact iteT ⟨by show 2 ≤ sizeLine; decide, goal 1 (by decide)⟩
            | false => exact iteF ⟨by show 2 ≤ sizeLine; decide, goal 0 (by decide)⟩
          | non => cases es
          | int _ => cases es
          | str _ => cases es
          | lst _ _ _ => cases es
          | tup _ _ => cases es
          | dct _ _ _ => cases es
      refine ⟨_, (pss_cons (ps_if (PW.pt (pw_or (pt_not (pt_val (pe_callB call_isi (by rfl) Bt.isi (by decide +kernel) (pa_cons (pv 1) (pa_cons (pe_bltn (v := .ty "tuple") (by rfl) Bt.tuple (by decide +kernel) rfl) pa_nil))))) (pw_or (pt_cmpR (op_eqE hr.units) (pv 1) (pe_tup pa_nil) (nomark _)) (pw_or1 (pt_cmpR op_eq (pv 2) pe_int (nomark _)))))) (pss_one (ps_ret (pe_call (ok_odd L.toLR) hr3 (by rfl) L.odd.g L.odd.F.kp L.odd.b .nil pass0 (pa_cons (pv 0) pa_nil)))) pss_nil)
        (pss_cons (ps_par (i := 3) (j := 4) (by rfl) scBent.nd rfl rfl (by decide) rfl rfl (pa_cons (pe_call (ok_draw L.draw.F Bt) hr1 (by rfl) L.draw.g L.draw.F.kp L.draw.b .nil pass0 (pa_cons (pv 0) (pa_cons (pe_callB call_len_seq (by rfl) Bt.len PySem.boot_len (pa_cons (pv 1) pa_nil)) pa_nil))) (pa_cons (pe_call (ok_draw L.draw.F Bt) hr1 (by rfl) L.draw.g L.draw.F.kp L.draw.b .nil pass0 (pa_cons (pv 0) (pa_cons pe_int pa_nil))) pa_nil)) (by rfl))
        (pss_cons (ps_if (pt_cmpR op_eq (pv 4) pe_int (nomark _)) (pss_one (ps_ret (pe_op op_cat2 (pe_slice sl_cut (pv 1) po_none (po_some (pv 3))) (pe_slice sl_cut (pv 1) (po_some (pe_op op_add (pv 3) pe_int)) po_none)))) pss_nil)
        (pss_cons (ps_if (pt_cmpR op_eq (pv 4) pe_int (nomark _)) (pss_one (ps_ret (pe_op op_cat2 (pe_slice sl_cut (pv 1) po_none (po_some (pe_op op_add (pv 3) pe_int))) (pe_slice sl_cut (pv 1) (po_some (pv 3)) po_none)))) pss_nil)
        (pss_cons (ps_if (pt_cmpR op_eq (pv 4) pe_int (nomark _)) (pss_one (ps_ret (pe_revA (pv 1)))) pss_nil)
        (pss_cons (ps_if (pt_cmpR op_eq (pv 4) pe_int (nomark _)) (pss_one (ps_ret (pe_callTy call_list_of (by rfl) Bt.list (by decide +kernel) (pa_cons (pv 1) pa_nil)))) pss_nil)
        (pss_cons (ps_if (pt_cmpR op_eq (pv 4) pe_int (nomark _)) (pss_one (ps_ret (pe_op op_cat2 (pe_op op_cat2 (pe_slice sl_cut (pv 1) po_none (po_some (pv 3))) (pe_tup (pa_cons (pe_call (ok_odd L.toLR) hr3 (by rfl) L.odd.g L.odd.F.kp L.odd.b .nil pass0 (pa_cons (pv 0) pa_nil)) pa_nil))) (pe_slice sl_cut (pv 1) (po_some (pe_op op_add (pv 3) pe_int)) po_none)))) pss_nil)
        d5))))))), ?_⟩
      -- odd, at once
      have odd : ∀ H3 : Hp, Frame ms d l H3 → Kp [d, l] H H3 → spOdd [.ref d] H3 Q E0 := fun H3 F3 k3 => ⟨d, l, ms, rfl, F3, fun v' x' H4 a g F4 k4 => k v' x' H4 a (g.mono (by omega) (by omega) (by omega)) F4 (k3.trans k4)⟩
      obtain ⟨ty, hty, kty⟩ := hT.tupK (K := K)
      refine ⟨_, rfl, _, .ty "tuple", ty, .type "tuple", _, rfl, .ty "tuple", hty, kty, _, rfl, ?_⟩
      cases e : isTup x with
      | false => exact iteT ⟨_, rfl, odd H Fr .refl⟩
      | true =>
        refine iteF ?_
        refine ⟨_, rfl, Nat.zero_le _, fun p np => ?_⟩
        have kp : Kp [] H (upd H p (.tup [])) := .new np
        have F1 := Fr.new (o := .tup []) np
        have hT1 := hT.kp kp (by simp) x
        have ep : (upd H p (.tup [])) p = some (.tup []) := upd_same
        have kp1 : Kp [d, l] H (upd H p (.tup [])) := .new np
        generalize upd H p (.tup []) = H1 at kp F1 hT1 ep kp1
        cases hT1 with
        | non => cases e
        | bl _ => cases e
        | int _ => cases e
        | str _ => cases e
        | lst _ _ _ => cases e
        | dct _ _ _ => cases e
        | @tup a xs ds ea hP =>
          have lx := hP.length
          have ll := len_wd ds
          have hx : (PyData.tuple ds).depth = PyData.depthAll ds + 1 := rfl
          have hw : wd (.tuple ds) = wdAll ds + 3 := rfl
          have hfd : fitJAll B ds = true := hfx
          have hf5 : fitJAll (B + 5) ds = true := fitJAll_le (by omega) ds hfd
          refine ⟨a, p, xs, rfl, rfl, ea, ep, _, rfl, ?_⟩
          cases ex : xs.isEmpty with
          | true => exact iteT ⟨_, rfl, odd H1 F1 kp1⟩
          | false =>
            refine iteF ?_
            have hpos : 0 < xs.length := by
              cases xs with
              | nil => cases ex
              | cons _ _ => exact Nat.succ_pos _
            refine ⟨_, rfl, rfl, _, rfl, ite2 (fun _ => ?_) (fun q0 => ?_)⟩
            · exact ⟨_, rfl, odd H1 F1 kp1⟩
            refine ⟨_, rfl, _, rfl, a, _, rfl, .inr (sqt_of ea), d, l, _, rfl, F1.dk, by omega, by omega, fun at' H3 a0 a1 D3 k3 => ?_⟩
            have F3 := F1.go k3 D3
            have e3 := k3.tup _ _ ea
            obtain ⟨i, rfl⟩ : ∃ i : Nat, at' = (i : Int) := ⟨at'.toNat, by omega⟩
            have hi : i < xs.length := by omega
            have hP3 := hP.kp k3 F1.sub ds
            have k13 := kp1.trans k3
            refine ⟨_, rfl, d, l, 14, rfl, F3.dk, by decide, by decide, fun r4 H4 r40 r41 D4 k4 => ?_⟩
            have F4 := F3.go k4 D4
            have e4 := k4.tup _ _ e3
            have hP4 := hP3.kp k4 F3.sub ds
            have k14 := k13.trans k4
            have ei1 : ((i : Int) + 1) = ((i + 1 : Nat) : Int) := by omega
            have hz : xs.length ≤ 300000 := by omega
            have cut : ∀ n, (xs.take n).length ≤ 300000 ∧ (xs.drop n).length ≤ 300000 := fun n => by
              rw [List.length_take, List.length_drop]
              omega
            have lim : ∀ n, n ≤ 900010 → n ≤ sizeLine := fun n h => Nat.le_trans h (by decide)
            obtain ⟨a1', a2', a3', a4', a5'⟩ := cut_facts (B + 5) ds (i + 1) hf5
            obtain ⟨b1', b2', b3', b4', b5'⟩ := cut_facts (B + 5) ds i hf5
            obtain ⟨xi, exi, axi⟩ := hP4.get (List.getElem?_eq_getElem hi)
            have hmem := List.mem_of_getElem? exi
            have hwi := wd_mem hmem
            have hfi := fitJ_mem hfd hmem
            rw [hx, hw] at k
            -- an item exchanged
            have fin : ∀ (q1 : Addr) (v' : V) (x' : PyData) (H6 : Hp), H6 q1 = some (.tup (xs.take i)) → H6 a = some (.tup xs) → AnAll ms H6 xs ds → An ms H6 v' x' → GoodJ (B + 5) (xi.depth + 6) (2 * wd xi + 6000) x' → Frame ms d l H6 → Kp [d, l] H H6 →
                SwK Q q1 [some (.ref d), some (.ref a), some (.int deep), some (.int i), some (.int r4)] v' H6 := fun q1 v' x' H6 e1 e6 hP6 ax gx F6 k6 => by
              refine swK rfl rfl hz e1 e6 fun q H7 e7 k7 => ?_
              have hP7 := hP6.kp k7 (by simp) ds
              have gg := swap_good (B := B) (C := B + 5) (n := 6) (w := 6000) hfd exi (by omega) gx
              rw [hx, hw] at gg
              exact k _ (.tuple (ds.take i ++ [x'] ++ ds.drop (i + 1))) _ (.tup e7 (((hP7.take i).append (.cons (ax.kp k7 (by simp) _) .nil)).append (hP7.drop (i + 1)))) gg (F6.kp0 k7) (k6.trans (k7.more (by simp)))
            -- one of some
            have pickEnd : ∀ (q1 p3 : Addr) (us : List V) (H5 : Hp), H5 q1 = some (.tup (xs.take i)) → H5 a = some (.tup xs) → AnAll ms H5 xs ds → H5 p3 = none → us ≠ [] → us.length ≤ 100 → (∀ u ∈ us, ∃ x', (∀ H6, An ms H6 u x') ∧ GoodJ (B + 5) (xi.depth + 6) (2 * wd xi + 6000) x') → Frame ms d l H5 → Kp [d, l] H H5 →
                spPick K [.ref d, .ref p3] (upd H5 p3 (.lst us)) (SwK Q q1 [some (.ref d), some (.ref a), some (.int deep), some (.int i), some (.int r4)]) E0 := fun q1 p3 us H5 e1 e5 hP5 n3 hne hlu hus F5 k5 => by
              have nn := F5.ne n3
              have k6 : Kp [] H5 (upd H5 p3 (.lst us)) := .new n3
              refine ⟨d, l, p3, us, rfl, (F5.new n3).dk, sql_of upd_same, hne, Nat.le_trans hlu (by decide), nn.1, nn.2, fun u H7 hu D7 k7 => ?_⟩
              obtain ⟨x', ax, gx⟩ := hus u hu
              have k67 : Kp [d, l] H5 H7 := (k6.more (by simp)).trans k7
              exact fin q1 u x' H7 (k67.tup _ _ e1) (k67.tup _ _ e5) (hP5.kp k67 F5.sub ds) (ax H7) gx (F5.go k67 D7) (k5.trans k67)
            refine ⟨_, _, rfl, _, rfl, rfl, _, rfl, ite2 (fun _ => ?_) (fun _ => ?_)⟩
            · -- one left out
              refine ⟨_, rfl, _, rfl, _, rfl, a, xs, rfl, e4, fun q1 H5 e5 k5 => ?_⟩
              rw [cut_take] at e5
              refine ⟨_, rfl, _, rfl, _, _, rfl, rfl, _, rfl, a, xs, rfl, k5.tup _ _ e4, fun q2 H6 e6 k6 => ?_⟩
              rw [ei1, cut_drop] at e6
              refine ⟨q1, q2, _, _, rfl, rfl, k6.tup _ _ e5, e6, lim _ (by have := cut i; have := cut (i + 1); omega), fun q3 H7 e7 k7 => ?_⟩
              have k47 := k5.trans (k6.trans k7)
              have hP7 := hP4.kp k47 (by simp) ds
              refine k _ (.tuple (ds.take i ++ ds.drop (i + 1))) _ (.tup e7 ((hP7.take i).append (hP7.drop (i + 1)))) ⟨?_, ?_, ?_⟩ (F4.kp0 k47) (k14.trans (k47.more (by simp)))
              · show fitJAll (B + 5) (ds.take i ++ ds.drop (i + 1)) = true
                rw [fitJ_app, b1', a2']
                rfl
              · show PyData.depthAll (ds.take i ++ ds.drop (i + 1)) + 1 ≤ _
                rw [dep_app]
                omega
              · show wdAll (ds.take i ++ ds.drop (i + 1)) + 3 ≤ _
                rw [wd_app]
                omega
            refine ⟨_, rfl, rfl, _, rfl, ite2 (fun _ => ?_) (fun _ => ?_)⟩
            · -- one doubled
              refine ⟨_, rfl, _, rfl, _, _, rfl, rfl, _, rfl, a, xs, rfl, e4, fun q1 H5 e5 k5 => ?_⟩
              rw [ei1, cut_take] at e5
              refine ⟨_, rfl, _, rfl, _, rfl, a, xs, rfl, k5.tup _ _ e4, fun q2 H6 e6 k6 => ?_⟩
              rw [cut_drop] at e6
              refine ⟨q1, q2, _, _, rfl, rfl, k6.tup _ _ e5, e6, lim _ (by have := cut i; have := cut (i + 1); omega), fun q3 H7 e7 k7 => ?_⟩
              have k47 := k5.trans (k6.trans k7)
              have hP7 := hP4.kp k47 (by simp) ds
              refine k _ (.tuple (ds.take (i + 1) ++ ds.drop i)) _ (.tup e7 ((hP7.take (i + 1)).append (hP7.drop i))) ⟨?_, ?_, ?_⟩ (F4.kp0 k47) (k14.trans (k47.more (by simp)))
              · show fitJAll (B + 5) (ds.take (i + 1) ++ ds.drop i) = true
                rw [fitJ_app, a1', b2']
                rfl
              · show PyData.depthAll (ds.take (i + 1) ++ ds.drop i) + 1 ≤ _
                rw [dep_app]
                omega
              · show wdAll (ds.take (i + 1) ++ ds.drop i) + 3 ≤ _
                rw [wd_app]
                omega
            refine ⟨_, rfl, rfl, _, rfl, ite2 (fun _ => ?_) (fun _ => ?_)⟩
            · refine ⟨_, rfl, .inl ⟨a, _, rfl, sqt_of e4, fun q nq => ?_⟩⟩
              have kq : Kp [] H4 (upd H4 q (.tup xs.reverse)) := .new nq
              refine k _ (.tuple ds.reverse) _ (.tup upd_same ((AnAll.kp kq (by simp) _ hP4).rev)) ⟨fitJ_rev _ _ hf5, ?_, ?_⟩ (F4.new nq) (k14.trans (.new nq))
              · show PyData.depthAll ds.reverse + 1 ≤ _
                rw [dep_rev]
                omega
              · show wdAll ds.reverse + 3 ≤ _
                rw [wd_rev]
                omega
            refine ⟨_, rfl, rfl, _, rfl, ite2 (fun _ => ?_) (fun _ => ?_)⟩
            · refine ⟨_, rfl, a, _, rfl, .inr (sqt_of e4), fun q nq => ?_⟩
              have kq : Kp [] H4 (upd H4 q (.lst xs)) := .new nq
              exact k _ (.list ds) _ (.lst upd_same (F4.has.fresh nq) (hP4.kp kq (by simp) _)) ⟨hf5, by show PyData.depthAll ds + 1 ≤ _; omega, by show wdAll ds + 3 ≤ _; omega⟩ (F4.new nq) (k14.trans (.new nq))
            refine ⟨_, rfl, rfl, _, rfl, ite2 (fun _ => ?_) (fun _ => ?_)⟩
            · -- an odd one in its place
              refine swp (xs := xs) (i := i) rfl rfl e4 fun q1 H5 e5 k5 => ?_
              have F5 := F4.kp0 k5
              refine ⟨_, rfl, d, l, ms, rfl, F5, fun v' x' H6 ax gx F6 k6 => ?_⟩
              exact fin q1 v' x' H6 (k6.tup _ _ e5) (k6.tup _ _ (k5.tup _ _ e4)) ((hP4.kp k5 (by simp) ds).kp k6 F5.sub ds) ax (gx.mono (by omega) (by omega) (by omega)) F6 (k14.trans ((k5.more (by simp)).trans k6))
            exact r5 _ a xs ds i r4 xi xs[i] H4 rfl rfl rfl ⟨e4, hP4, F4, k14⟩ hi exi rfl axi (by
              cases deep with
              | zero => exact absurd (decide_eq_true rfl) q0
              | succ z => exact Nat.succ_pos z)
end
end Ey
set_option maxHeartbeats 4000000
namespace Ey
open PySem PySem.Spec L2
abbrev sLIsPoly : Stmt := topS 19
/-! ### polynomials as data -/
def expD : PyData → Int
  | .tuple (.int i :: _) => i
  | _ => 0
def numD : PyData → Int
  | .tuple (_ :: .int i :: _) => i
  | _ => 0
def upI (es : List Int) (i : Nat) : Bool := decide (es.getD i 0 < es.getD (i + 1) 0)
def ascI (es : List Int) : Bool := (List.range (es.length - 1)).all (upI es)
def polyL (ds : List PyData) : Bool := ds.all pairD && ascI (ds.map expD)
def polyD : PyData → Bool
  | .tuple ds => polyL ds
  | .none | .bool _ | .int _ | .str _ | .list _ | .dict _ => false
theorem pair_parts {d : PyData} (h : pairD d = true) : ∃ i j : Int, d = .tuple [.int i, .int j] ∧ 0 ≤ i ∧ 0 < j := by
  unfold pairD at h
  split at h
  · rename_i x y
    rw [Bool.and_eq_true] at h
    cases x with
    | int i =>
      cases y with
      | int j => exact ⟨i, j, rfl, of_decide_eq_true h.1, of_decide_eq_true h.2⟩
      | none => cases h.2
      | bool _ => cases h.2
      | str _ => cases h.2
      | list _ => cases h.2
      | tuple _ => cases h.2
      | dict _ => cases h.2
    | none => cases h.1
    | bool _ => cases h.1
    | str _ => cases h.1
    | list _ => cases h.1
    | tuple _ => cases h.1
    | dict _ => cases h.1
  · cases h
theorem take_all {α : Type} {f : α → Bool} {l : List α} {i : Nat} {x : α} (h : l[i]? = some x) : (l.take (i + 1)).all f = ((l.take i).all f && f x) := by
  rw [List.take_add_one, h, List.all_append]
  simp
theorem range_all {f : Nat → Bool} {i : Nat} : (List.range (i + 1)).all f = ((List.range i).all f && f i) := by
  rw [List.range_succ, List.all_append]
  simp
theorem pair_an {ms : List Addr} {H : Hp} {v : V} {d : PyData} (a : An ms H v d) (h : pairD d = true) : ∃ (t : Addr) (i j : Int), v = .ref t ∧ H t = some (.tup [.int i, .int j]) ∧ d = .tuple [.int i, .int j] ∧ 0 ≤ i ∧ 0 < j := by
  obtain ⟨i, j, rfl, h1, h2⟩ := pair_parts h
  cases a with
  | tup e hs =>
    cases hs with
    | cons a0 hr =>
      cases hr with
      | cons a1 hr2 =>
        cases hr2
        cases a0
        cases a1
        exact ⟨_, i, j, rfl, e, rfl, h1, h2⟩
section
variable {X : Cx}
/-- xs == [], xs any list -/
def rEqEL : R2 := fun x y H Q => ∃ a b xs, x = .ref a ∧ y = .ref b ∧ H a = some (.lst xs) ∧ H b = some (.lst []) ∧ Q (.bl xs.isEmpty) H
theorem op_eqEL (hu : X.A.units + 64 < cLine) : OpR X (compareOp .Eq) rEqEL := by
  intro pins s σ H x y v u Q I rx ry h
  obtain ⟨a, b, xs, rfl, rfl, h1, h2, q⟩ := h
  cases rx
  cases ry
  obtain ⟨its, r, p⟩ := lst_obj I h1
  obtain ⟨its2, r2, p2⟩ := lst_obj I h2
  cases r2
  cases r with
  | nil => exact PySem.W.eq_listsT (n := 1) (e := fun _ => true) p p2 rfl (fun j h1 h2 => absurd h2 (by simp)) (by omega) ⟨.bl true, H, I, rfl, q⟩
  | cons _ _ => exact SeqAt.RcAt.lists_lengths p p2 (by simp) (by omega) _ _ _ _ ⟨.bl false, H, I, rfl, q⟩
end
structure LP (K : PySem.W.Frag) (mg : Str → Option Value) (A : Nat → Addr) (D : Nat → FuncData) : Prop extends LB K mg A D where
  lpoly : Df K mg "_law_is_poly" sLIsPoly ["_law_thing"] (A 19) (D 19)
section
variable {Pr : Program} {w : World} {K : PySem.W.Frag} {mg : Str → Option Value} {base : Heap} {ms : List Addr} {A : Nat → Addr} {D : Nat → FuncData}
abbrev NPo : List Str := ["_law_thing", "_law_pair", "_law_at"]
theorem scLIsPoly : FnScope NPo ["_law_thing"] (defScope sLIsPoly) := ⟨rfl, rfl, rfl, by decide +kernel, rfl, by decide +kernel, by decide +kernel⟩
def spL (ms : List Addr) (g : PyData → Bool) : Sp := fun vs H Q _ => ∃ (v : V) (d : PyData), vs = [v] ∧ An ms H v d ∧ wd d ≤ 1000000 ∧ ∀ H', Kp [] H H' → Q (.bl (g d)) H'
theorem ok_lIsPoly (L : LP K mg A D) : FnOk Pr w K mg base CX0 2 (A 19) (D 19) ["_law_thing"] (spL ms polyD) := by
  have B := L.B
  refine L.lpoly.F.ok scLIsPoly (fun vs H Q E h => ?_) (fun cdv Ar outer s H vs Q E hr h => ?_)
  · obtain ⟨v, d, rfl, _⟩ := h
    rfl
  · obtain ⟨v, d, rfl, hv, hz, k⟩ := h
    refine ⟨_, pss_cons (ps_if (pt_not (pt_val (pe_callB call_isi (by rfl) B.isi (by decide +kernel) (pa_cons (pv 0) (pa_cons (pe_bltn (v := .ty "tuple") (by rfl) B.tuple (by decide +kernel) rfl) pa_nil))))) (pss_one (ps_ret pe_bl)) pss_nil)
      (pss_cons (ps_for PassesOwn.never rfl (pi_tup (pv 0)) (pg_name (i := 1) scLIsPoly.nd rfl (Or.inl rfl))
        (pss_cons (ps_if (PW.pt (pw_or (pt_not (pt_val (pe_callB call_isi (by rfl) B.isi (by decide +kernel) (pa_cons (pv 1) (pa_cons (pe_bltn (v := .ty "tuple") (by rfl) B.tuple (by decide +kernel) rfl) pa_nil)))))
            (pw_or (pt_cmpR op_ne (pe_callB call_len_seq (by rfl) B.len PySem.boot_len (pa_cons (pv 1) pa_nil)) pe_int (nomark _))
            (pw_or (pt_not (pt_val (pe_call (go_lInt (ms := ms) L.toLR) hr (by rfl) L.int.g L.int.F.kp L.int.b .nil pass0 (pa_cons (pe_ix ix_tup (pv 1) pe_int (fun _ _ => rfl)) pa_nil))))
            (pw_or1 (pt_not (pt_val (pe_call (go_lInt (ms := ms) L.toLR) hr (by rfl) L.int.g L.int.F.kp L.int.b .nil pass0 (pa_cons (pe_ix ix_tup (pv 1) pe_int (fun _ _ => rfl)) pa_nil))))))))) (pss_one (ps_ret pe_bl)) pss_nil)
        (pss_one (ps_if (PW.pt (pw_or (pt_cmpR op_lt (pe_ix ix_tup (pv 1) pe_int (fun _ _ => rfl)) pe_int (nomark _)) (pw_or1 (pt_cmpR op_lt (pe_ix ix_tup (pv 1) pe_int (fun _ _ => rfl)) pe_int (nomark _))))) (pss_one (ps_ret pe_bl)) pss_nil))))
      (pss_one (ps_ret (pe_cmpR (op_eqEL hr.units) (pe_lc (own := [("_law_at", 2)]) (g := gName 2) rfl scLIsPoly.nd (pi_range1 (by rfl) B.range (pa_cons (pe_op op_sub (pe_callB call_len_seq (by rfl) B.len PySem.boot_len (pa_cons (pv 0) pa_nil)) pe_int) pa_nil)) (blkOk_by (N := NPo) (sc := defScope sLIsPoly) (by decide +kernel)) (fun _ _ _ _ _ => pg_name (i := 2) scLIsPoly.nd rfl (Or.inl rfl))
        (fun _ _ _ _ _ => pts_one (pt_cmpR op_ge (pe_ix (r := rIxT K) ix_tup (pe_ix (r := rIxT K) ix_tup (pv 0) (pv 2) (fun _ _ => rfl)) pe_int (fun _ _ => rfl)) (pe_ix (r := rIxT K) ix_tup (pe_ix (r := rIxT K) ix_tup (pv 0) (pe_op op_add (pv 2) pe_int) (fun _ _ => rfl)) pe_int (fun _ _ => rfl)) (nomark _))) (fun _ _ _ _ _ => pv 2)) (pe_lst pa_nil) (nomark _))))), ?_⟩
    have kH := k H .refl
    obtain ⟨ty, hty, kty⟩ := hv.tupK (K := K)
    refine ⟨_, rfl, _, .ty "tuple", ty, .type "tuple", _, rfl, .ty "tuple", hty, kty, _, rfl, ?_⟩
    cases hv with
    | non => exact iteT kH
    | bl b => exact iteT kH
    | int i => exact iteT kH
    | str g => exact iteT kH
    | lst e => exact iteT kH
    | dct e => exact iteT kH
    | @tup t xs ds e hds =>
      refine iteF ?_
      have lx := hds.length
      have kw : ∀ b H', polyL ds = b → Kp [] H H' → Q (.bl b) H' := fun b H' e' k' => e' ▸ k H' k'
      refine ⟨_, rfl, t, rfl, ⟨_, sqt_of e⟩, ?_⟩
      refine for_tup (K := K) (a := t) (xs := xs) (fun i σ H' => (∃ y z, σ = [some (.ref t), y, z]) ∧ H' = H ∧ (ds.take i).all pairD = true) ⟨⟨none, none, rfl⟩, rfl, rfl⟩ (fun i σ H' _ h => by rw [h.2.1]; exact sqt_of e) ?_ ?_
      · rintro i x σ H' hx ⟨⟨y0, z0, rfl⟩, rfl, qa⟩
        obtain ⟨dx, ex, ax⟩ := hds.get hx
        have ta := take_all (f := pairD) ex
        have no : pairD dx = false → Q (.bl false) H' := fun e8 => kw false H' (by
          unfold polyL
          rw [List.all_eq_false.mpr ⟨dx, List.mem_of_getElem? ex, by rw [e8]; exact Bool.false_ne_true⟩, Bool.false_and]) .refl
        obtain ⟨ty3, hty3, kty3⟩ := ax.tupK (K := K)
        refine ⟨_, rfl, _, .ty "tuple", ty3, .type "tuple", _, rfl, .ty "tuple", hty3, kty3, ?_⟩
        cases ax with
        | non => exact ⟨false, rfl, iteT (no rfl)⟩
        | bl b => exact ⟨false, rfl, iteT (no rfl)⟩
        | int i => exact ⟨false, rfl, iteT (no rfl)⟩
        | str g => exact ⟨false, rfl, iteT (no rfl)⟩
        | lst e => exact ⟨false, rfl, iteT (no rfl)⟩
        | dct e => exact ⟨false, rfl, iteT (no rfl)⟩
        | @tup t2 us es e2 hes =>
          refine ⟨true, rfl, iteF ⟨_, rfl, t2, _, rfl, .inr (sqt_of e2), rfl, _, rfl, ?_⟩⟩
          have hl := hes.length
          by_cases h2 : us.length = 2
          · match us, es, hes, h2 with
            | [v0, v1], [x0, x1], .cons b0 (.cons b1 .nil), _ =>
              refine iteF ⟨_, rfl, t2, _, _, _, rfl, rfl, sqt_of e2, atI_nat (j := 0) rfl, v0, x0, rfl, b0, _, rfl, ?_⟩
              cases b0 with
              | non => exact iteT (no rfl)
              | bl b => exact iteT (no rfl)
              | str g => exact iteT (no rfl)
              | lst e => exact iteT (no rfl)
              | tup e => exact iteT (no rfl)
              | dct e => exact iteT (no rfl)
              | int i0 =>
                refine iteF ⟨_, rfl, t2, _, _, _, rfl, rfl, sqt_of e2, atI_nat (j := 1) rfl, v1, x1, rfl, b1, _, rfl, ?_⟩
                have nf : ∀ {y : PyData}, posD y = false → pairD (.tuple [.int i0, y]) = false := fun {y} h => by
                  show (natD (.int i0) && posD y) = false
                  rw [h, Bool.and_false]
                cases b1 with
                | non => exact iteT (no (nf rfl))
                | bl b => exact iteT (no (nf rfl))
                | str g => exact iteT (no (nf rfl))
                | lst e => exact iteT (no (nf rfl))
                | tup e => exact iteT (no (nf rfl))
                | dct e => exact iteT (no (nf rfl))
                | int i1 =>
                  refine iteF ⟨_, rfl, t2, _, _, _, rfl, rfl, sqt_of e2, atI_nat (j := 0) rfl, _, _, rfl, rfl, _, rfl, ?_⟩
                  by_cases h0 : i0 < 0
                  · rw [decide_eq_true h0]
                    refine iteT (no ?_)
                    show (decide (0 ≤ i0) && decide (0 < i1)) = false
                    rw [decide_eq_false (by omega), Bool.false_and]
                  · rw [decide_eq_false h0]
                    refine iteF ⟨_, rfl, t2, _, _, _, rfl, rfl, sqt_of e2, atI_nat (j := 1) rfl, _, _, rfl, rfl, _, rfl, ?_⟩
                    by_cases h1 : i1 < 1
                    · rw [decide_eq_true h1]
                      refine iteT (no ?_)
                      show (decide (0 ≤ i0) && decide (0 < i1)) = false
                      rw [decide_eq_false (show ¬ 0 < i1 by omega), Bool.and_false]
                    · rw [decide_eq_false h1]
                      refine iteF ⟨⟨_, _, rfl⟩, rfl, ?_⟩
                      rw [ta, qa]
                      show (true && (decide (0 ≤ i0) && decide (0 < i1))) = true
                      rw [decide_eq_true (by omega), decide_eq_true (by omega)]
                      rfl
          · rw [decide_eq_false (show ¬ V.int ((us.length : Nat) : Int) = V.int 2 from fun z => h2 (by have := V.int.inj z; omega))]
            refine iteT (no ?_)
            match es, hl with
            | [], _ => rfl
            | [_], _ => rfl
            | [_, _], hl => exact absurd hl h2
            | _ :: _ :: _ :: _, _ => rfl
      · rintro σ H' ⟨⟨y0, z0, rfl⟩, rfl, qa⟩
        rw [lx, List.take_length] at qa
        have hw1 := len_wd ds
        have hw2 : wd (.tuple ds) = wdAll ds + 3 := rfl
        have hlx : xs.length ≤ 1000000 := by omega
        have pr : ∀ j, j < xs.length → ∃ (tj : Addr) (a b : Int), xs[j]? = some (.ref tj) ∧ H' tj = some (.tup [.int a, .int b]) ∧ (ds.map expD).getD j 0 = a := fun j hj => by
          obtain ⟨dj, ej, aj⟩ := hds.get (List.getElem?_eq_getElem hj)
          obtain ⟨tj, a, b, ev, et, rfl, _, _⟩ := pair_an aj (List.all_eq_true.mp qa dj (List.mem_of_getElem? ej))
          refine ⟨tj, a, b, ?_, et, ?_⟩
          · rw [List.getElem?_eq_getElem hj, ev]
          · rw [List.getD_eq_getElem?_getD, List.getElem?_map, ej]
            rfl
        refine ⟨_, rfl, t, _, rfl, .inr (sqt_of e), _, _, rfl, rfl, _, rfl, by omega, by omega, ?_⟩
        rw [show ((xs.length : Nat) - 1 : Int).toNat = xs.length - 1 by omega]
        intro D nD
        refine lc_range (lo := 0) (n := xs.length - 1) (fun i H2 => ∃ us, H2 D = some (.lst us) ∧ us.isEmpty = (List.range i).all (upI (ds.map expD)) ∧ us.length ≤ i ∧ Kp [] H' H2)
          ⟨[], upd_same, rfl, Nat.le_refl _, .new nD⟩ ?_ ?_
        · rintro i H2 hi ⟨us, hD, hus, hlu, k2⟩
          obtain ⟨t1, a1, b1, e1, h1, g1⟩ := pr i (by omega)
          obtain ⟨t2, a2, b2, e2, h2, g2⟩ := pr (i + 1) (by omega)
          have c1 : atI xs (0 + (i : Int)) = some (.ref t1) := by
            rw [Int.zero_add]
            exact atI_nat e1
          have c2 : atI xs (0 + (i : Int) + 1) = some (.ref t2) := by
            rw [show (0 + (i : Int) + 1) = ((i + 1 : Nat) : Int) by omega]
            exact atI_nat e2
          have te := k2.tup _ _ e
          refine ⟨rfl, _, rfl, _, rfl, t, _, _, _, rfl, rfl, sqt_of te, c1, t1, _, _, _, rfl, rfl, sqt_of (k2.tup _ _ h1), atI_nat (j := 0) rfl, _, rfl, _, rfl, _, _, rfl, rfl, t, _, _, _, rfl, rfl, sqt_of te, c2, t2, _, _, _, rfl, rfl, sqt_of (k2.tup _ _ h2), atI_nat (j := 0) rfl, _, _, rfl, rfl, _, rfl, ?_⟩
          have hup : upI (ds.map expD) i = decide (a1 < a2) := by
            unfold upI
            rw [g1, g2]
          by_cases hc : a1 < a2
          · rw [decide_eq_false (show ¬ a1 ≥ a2 by omega)]
            refine iteF ⟨us, hD, ?_, by omega, k2⟩
            rw [range_all, hup, decide_eq_true hc, Bool.and_true]
            exact hus
          · rw [decide_eq_true (show a1 ≥ a2 by omega)]
            refine iteT ⟨_, rfl, us, hD, Nat.lt_of_le_of_lt (show us.length ≤ 1000000 by omega) (by decide), us ++ [.int (0 + (i : Int))], upd_same, ?_, by rw [List.length_append]; exact Nat.succ_le_succ hlu, k2.own nD⟩
            rw [range_all, hup, decide_eq_false hc, Bool.and_false]
            cases us <;> rfl
        · rintro H2 ⟨us, hD, hus, hlu, k2⟩
          refine ⟨Nat.zero_le _, fun p np => ⟨D, p, us, rfl, rfl, by rw [upd_ne (ne_of_none hD np)]; exact hD, upd_same, ?_⟩⟩
          refine kw _ _ ?_ (k2.trans (.new np))
          unfold polyL ascI
          rw [qa, Bool.true_and, List.length_map, ← lx, hus]
end
end Ey
set_option exponentiation.threshold 1000
set_option maxHeartbeats 4000000
namespace Ey
open PySem PySem.Spec L2
abbrev sLVal : Stmt := topS 21
/-- a polynomial's terms within bounds -/
def inB (d : PyData) : Bool := decide ((expD d).toNat < 16) && decide (numD d < 2 ^ 50)
def valD (m : Nat) (d : PyData) : Int := numD d * ((m ^ (expD d).toNat : Nat) : Int)
def valL (m : Nat) (ds : List PyData) : Int := (ds.map (valD m)).sum
structure LV (K : PySem.W.Frag) (mg : Str → Option Value) (A : Nat → Addr) (D : Nat → FuncData) : Prop extends LP K mg A D where
  lval : Df K mg "_law_value_at" sLVal ["_law_poly", "_law_m"] (A 21) (D 21)
section
variable {Pr : Program} {w : World} {K : PySem.W.Frag} {mg : Str → Option Value} {base : Heap} {ms : List Addr} {A : Nat → Addr} {D : Nat → FuncData}
abbrev NV : List Str := ["_law_poly", "_law_m", "_law_many", "_law_number"]
theorem scLVal : FnScope NV ["_law_poly", "_law_m"] (defScope sLVal) := ⟨rfl, rfl, rfl, by decide +kernel, rfl, by decide +kernel, by decide +kernel⟩
def spVal (ms : List Addr) : Sp := fun vs H Q _ => ∃ (v : V) (ds : List PyData) (m : Nat), vs = [v, .int m] ∧ An ms H v (.tuple ds) ∧ ds.all pairD = true ∧ ds.all inB = true ∧ m < 2 ^ 20 ∧ ds.length ≤ 1000 ∧ ∀ H', Kp [] H H' → Q (.int (valL m ds)) H'
theorem ok_lVal (L : LV K mg A D) : FnOk Pr w K mg base CX0 2 (A 21) (D 21) ["_law_poly", "_law_m"] (spVal ms) := by
  have B := L.B
  refine L.lval.F.ok scLVal (fun vs H Q E h => ?_) (fun cdv Ar outer s H vs Q E hr h => ?_)
  · obtain ⟨v, ds, m, rfl, _⟩ := h
    rfl
  · obtain ⟨v, ds, m, rfl, hv, hp, hb, hm, hl, k⟩ := h
    refine ⟨_, pss_one (ps_ret (pe_callB (cr_sum rfl) (by rfl) B.sum (by decide +kernel) (pa_cons (pe_lc (own := [("_law_many", 2), ("_law_number", 3)]) (g := gTup K 2 (gCons (gName 2) (gCons (gName 3) gNil))) (tt := tYes) rfl scLVal.nd
        (pi_tup (pv 0)) (blkOk_by (N := NV) (sc := defScope sLVal) (by decide +kernel)) (fun _ _ _ _ _ => pg_tup (n := 2) rfl (pgs_cons (pg_name (i := 2) scLVal.nd rfl (Or.inl rfl)) (pgs_cons (pg_name (i := 3) scLVal.nd rfl (Or.inl rfl)) pgs_nil)))
        (fun _ _ _ _ _ => pts_nil) (fun _ _ _ _ _ => pe_op op_mulW (pv 3) (pe_call (ok_lPower L.toLR) hr (by rfl) L.lpow.g L.lpow.F.kp L.lpow.b .nil pass0 (pa_cons (pv 1) (pa_cons (pv 2) pa_nil))))) pa_nil))), ?_⟩
    cases hv with
    | @tup t xs _ e hds =>
      have lx := hds.length
      refine ⟨_, rfl, t, rfl, ⟨_, sqt_of e⟩, fun D nD => ?_⟩
      refine lc_tup (K := K) (a := t) (xs := xs) (fun i H' => H' D = some (.lst (((ds.take i).map (valD m)).map V.int)) ∧ Kp [] H H') ⟨upd_same, .new nD⟩ (fun i H' _ h => sqt_of (h.2.tup _ _ e)) ?_ ?_
      · rintro i x H' hx ⟨hD, k'⟩
        obtain ⟨dx, ex, ax⟩ := hds.get hx
        have hmem := List.mem_of_getElem? ex
        obtain ⟨tj, a, b, rfl, et, rfl, ha, hb'⟩ := pair_an ax (List.all_eq_true.mp hp dx hmem)
        have hin := List.all_eq_true.mp hb _ hmem
        have hin : (decide (a.toNat < 16) && decide (b < 2 ^ 50)) = true := hin
        rw [Bool.and_eq_true] at hin
        have h16 : a.toNat < 16 := of_decide_eq_true hin.1
        have h50 : b < 2 ^ 50 := of_decide_eq_true hin.2
        obtain ⟨n, rfl⟩ : ∃ n : Nat, a = (n : Int) := ⟨a.toNat, by omega⟩
        rw [Int.toNat_natCast] at h16
        have hpw : m ^ n < 2 ^ 400 := by
          refine Nat.lt_of_le_of_lt (Nat.pow_le_pow_left (Nat.le_of_lt hm) _) ?_
          rw [← Nat.pow_mul]
          exact Nat.pow_lt_pow_right (by decide) (by omega)
        have bl : i < ds.length := (List.getElem?_eq_some_iff.mp ex).1
        refine ⟨tj, _, rfl, sqt_of (k'.tup _ _ et), rfl, _, _, rfl, _, _, rfl, rfl, rfl, ?_⟩
        refine ⟨_, rfl, _, rfl, _, rfl, m, n, rfl, hm, h16, _, _, rfl, rfl, wide_mul (a := 50) (b := 400) (by omega) (by rw [cast_pow]; exact hpw) (by decide) (by decide) (by decide), ?_⟩
        refine ⟨_, hD, Nat.lt_of_le_of_lt (show _ ≤ 1000 by rw [List.length_map, List.length_map, List.length_take]; omega) (by decide), ?_, k'.own nD⟩
        rw [upd_same, List.take_add_one, ex, List.map_append, List.map_append]
        rfl
      · rintro H' ⟨hD, k'⟩
        rw [lx, List.take_length] at hD
        exact ⟨D, _, rfl, sql_of hD, k H' k'⟩
end
end Ey
set_option exponentiation.threshold 1000
set_option maxHeartbeats 4000000
namespace Ey
open PySem PySem.Spec L2
abbrev sDPoly : Stmt := topS 22
theorem getD_left {es : List Int} {m : Int} {i : Nat} (h : i < es.length) : (es ++ [m]).getD i 0 = es.getD i 0 := by
  rw [List.getD_eq_getElem?_getD, List.getD_eq_getElem?_getD, List.getElem?_append_left h]
theorem asc_snoc {es : List Int} {m : Int} (h : ascI es = true) (hm : ∀ e ∈ es, e < m) : ascI (es ++ [m]) = true := by
  unfold ascI at h ⊢
  rw [List.all_eq_true] at h ⊢
  intro i hi
  have hi := List.mem_range.mp hi
  rw [List.length_append] at hi
  have hi : i < es.length := by
    have : [m].length = 1 := rfl
    omega
  by_cases hl : i + 1 < es.length
  · have := h i (List.mem_range.mpr (by omega))
    unfold upI at this ⊢
    rw [getD_left (by omega), getD_left hl]
    exact this
  · unfold upI
    rw [getD_left hi]
    have e1 : (es ++ [m]).getD (i + 1) 0 = m := by
      rw [List.getD_eq_getElem?_getD, List.getElem?_append_right (by omega), show i + 1 - es.length = 0 by omega]
      rfl
    rw [e1]
    refine decide_eq_true (hm _ ?_)
    rw [List.getD_eq_getElem?_getD, List.getElem?_eq_getElem hi]
    exact List.getElem_mem hi
/-- a drawn term -/
def termOk (d : PyData) : Prop := ∃ i j : Nat, d = .tuple [.int i, .int j] ∧ i < 13 ∧ 1 ≤ j ∧ j ≤ 10 ^ 12
/-- a drawn polynomial -/
structure PolyOk (ds : List PyData) : Prop where
  t : ∀ d ∈ ds, termOk d
  a : ascI (ds.map expD) = true
  l : ds.length ≤ 12
theorem termOk.good {d : PyData} (h : termOk d) : pairD d = true ∧ inB d = true ∧ GoodJ bAny 1 97 d := by
  obtain ⟨i, j, rfl, h1, h2, h3⟩ := h
  have hb : 10 ^ 12 < bAny := by decide +kernel
  refine ⟨?_, ?_, ?_, ?_, ?_⟩
  · show (decide ((0 : Int) ≤ i) && decide ((0 : Int) < j)) = true
    rw [decide_eq_true (by omega), decide_eq_true (by omega)]
    rfl
  · show (decide ((i : Int).toNat < 16) && decide ((j : Int) < 2 ^ 50)) = true
    rw [decide_eq_true (by omega), decide_eq_true (by omega)]
    rfl
  · show (decide ((i : Int).natAbs < bAny) && (decide ((j : Int).natAbs < bAny) && true)) = true
    rw [decide_eq_true (by omega), decide_eq_true (by omega)]
    rfl
  · show max 0 (max 0 0) + 1 ≤ 1
    omega
  · show 45 + 2 + (45 + 2 + 0) + 3 ≤ 97
    omega
theorem PolyOk.facts {ds : List PyData} (h : PolyOk ds) : polyL ds = true ∧ ds.all pairD = true ∧ ds.all inB = true ∧ GoodJ bAny 2 1300 (.tuple ds) := by
  have hp : ds.all pairD = true := List.all_eq_true.mpr fun d hd => (h.t d hd).good.1
  have hg : ∀ ds : List PyData, (∀ d ∈ ds, termOk d) → fitJAll bAny ds = true ∧ PyData.depthAll ds ≤ 1 ∧ wdAll ds ≤ 99 * ds.length := by
    intro ds
    induction ds with
    | nil => exact fun _ => ⟨rfl, Nat.zero_le _, Nat.zero_le _⟩
    | cons x r ih =>
      intro ht
      obtain ⟨a, b, c⟩ := ih fun d hd => ht d (List.mem_cons_of_mem _ hd)
      have g := (ht x List.mem_cons_self).good.2.2
      refine ⟨?_, ?_, ?_⟩
      · show (fitJ bAny x && fitJAll bAny r) = true
        rw [g.f, a]
        rfl
      · show max x.depth (PyData.depthAll r) ≤ 1
        have := g.d
        omega
      · show wd x + 2 + wdAll r ≤ 99 * (r.length + 1)
        have := g.w
        omega
  obtain ⟨a, b, c⟩ := hg ds h.t
  refine ⟨?_, hp, List.all_eq_true.mpr fun d hd => (h.t d hd).good.2.1, a, ?_, ?_⟩
  · unfold polyL
    rw [hp, h.a]
    rfl
  · show PyData.depthAll ds + 1 ≤ 2
    omega
  · show wdAll ds + 3 ≤ 1300
    have := h.l
    omega
structure LD (K : PySem.W.Frag) (mg : Str → Option Value) (A : Nat → Addr) (D : Nat → FuncData) : Prop extends LV K mg A D where
  dpoly : Df K mg "_law_drawn_poly" sDPoly ["_law_deck_here", "_law_most"] (A 22) (D 22)
structure DI (ms : List Addr) (d l D : Addr) (most : Int) (H : Hp) (i : Nat) (σ : L2.St) (H' : Hp) : Prop where
  s : ∃ (m : Nat) (y z : Option V), σ = [some (.ref d), some (.int most), some (.ref D), some (.int m), y, z] ∧ ∃ (xs : List V) (ds : List PyData), H' D = some (.lst xs) ∧ AnAll (D :: ms) H' xs ds ∧ (∀ d ∈ ds, termOk d) ∧ ascI (ds.map expD) = true ∧ (∀ e ∈ ds.map expD, e ≤ m) ∧ ds.length ≤ i
  F : Frame ms d l H'
  k : Kp [d, l] H H'
section
variable {Pr : Program} {w : World} {K : PySem.W.Frag} {mg : Str → Option Value} {base : Heap} {A : Nat → Addr} {D : Nat → FuncData}
def fb : Stmt → List Stmt
  | .For _ _ b _ _ => b
  | _ => []
def noSt : Stmt := .Pass ⟨0, 0, 0, 0⟩
abbrev NDp : List Str := ["_law_deck_here", "_law_most", "_law_found", "_law_many", "_law_turn", "_law_pair"]
theorem scDPoly : FnScope NDp ["_law_deck_here", "_law_most"] (defScope sDPoly) := ⟨rfl, rfl, rfl, by decide +kernel, rfl, by decide +kernel, by decide +kernel⟩
def spDPoly : Sp := fun vs H Q _ => ∃ (d l : Addr) (ms : List Addr) (most : Nat), vs = [.ref d, .int most] ∧ most ≤ 12 ∧ Frame ms d l H ∧
  ∀ (v : V) (ds : List PyData) (H' : Hp), An ms H' v (.tuple ds) → PolyOk ds → Frame ms d l H' → Kp [d, l] H H' → Q v H'
theorem ok_dPoly (L : LD K mg A D) : FnOk Pr w K mg base CX0 3 (A 22) (D 22) ["_law_deck_here", "_law_most"] spDPoly := by
  have Bt := L.B
  refine L.dpoly.F.ok scDPoly (fun vs H Q E h => ?_) (fun cdv Ar outer s H vs Q E hr h => ?_)
  · obtain ⟨d, l, ms, most, rfl, _⟩ := h
    rfl
  · obtain ⟨d, l, ms, most, rfl, hm, Fr, k⟩ := h
    have hr1 := hr.mono (show 1 ≤ 2 by decide)
    obtain ⟨tI, dI, rI⟩ : ∃ tt, PSs (cxOf CX0 Pr w K mg base NDp "_law_drawn_poly" (defScope sDPoly) (A 22) cdv Ar outer s H E).nox ((fb ((defBody sDPoly).getD 1 noSt)).drop 1) tt ∧
        ∀ (De : Ends) (H3 : Hp) (D : Addr) (i m : Nat) (y z : Option V) (xs : List V) (ds : List PyData), H3 D = some (.lst xs) → AnAll (D :: ms) H3 xs ds → (∀ d ∈ ds, termOk d) → ascI (ds.map expD) = true → (∀ e ∈ ds.map expD, e ≤ m) → ds.length ≤ i → i ≤ 12 → Frame ms d l H3 → Kp [d, l] H H3 → H D = none → D ≠ d → D ≠ l →
          (∀ σ H4, DI ms d l D most H (i + 1) σ H4 → De.nx σ H4) → tt De [some (.ref d), some (.int most), some (.ref D), some (.int m), y, z] H3 := by
      refine ⟨_, (pss_one (ps_if (PW.pt (pw_and (pt_cmpR op_lt (pv 3) pe_int (nomark _)) (pw_and1 (pt_cmpR op_notIn_seq (pv 3) (pe_lc (own := [("_law_pair", 5)]) (g := gName 5) (tt := tYes) rfl scDPoly.nd (pi_list (pv 2)) (blkOk_by (N := NDp) (sc := defScope sDPoly) (by decide +kernel)) (fun _ _ _ _ _ => pg_name (i := 5) scDPoly.nd rfl (Or.inl rfl))
            (fun _ _ _ _ _ => pts_nil) (fun _ _ _ _ _ => pe_ix (r := rIxT K) ix_tup (pv 5) pe_int (fun _ _ => rfl))) (by rfl)))))
          (pss_one (ps_expr (pe_bm PySem.F.plainAttrs_list PySem.F.slot_list_append PySem.F.type_list_append mt_append (pv 2) (pa_cons (pe_tup (pa_cons (pv 3) (pa_cons (pe_op op_add pe_int (pe_call (ok_draw L.draw.F Bt) hr1 (by rfl) L.draw.g L.draw.F.kp L.draw.b .nil pass0 (pa_cons (pv 0) (pa_cons (pe_call (ok_pick L.pick.F Bt L.draw) hr (by rfl) L.pick.g L.pick.F.kp L.pick.b .nil pass0 (pa_cons (pv 0) (pa_cons (pe_lst (pa_cons pe_int (pa_cons pe_int (pa_cons (pe_op op_pow pe_int pe_int) pa_nil)))) pa_nil))) pa_nil)))) pa_nil))) pa_nil)))) pss_nil)), ?_⟩
      intro De H3 D i m y z xs ds hD hA ht ha hle hl hi F3 k3 nD nDd nDl k
      have lx := hA.length
      have sub : ∀ x ∈ [d, l], x ∈ D :: ms := fun x hx => List.mem_cons_of_mem _ (F3.sub x hx)
      have stay : ∀ H4 z', Kp [d, l] H3 H4 → DeckAt H4 d l → De.nx [some (.ref d), some (.int most), some (.ref D), some (.int m), y, z'] H4 := fun H4 z' k4 D4 =>
        k _ _ ⟨⟨m, y, z', rfl, xs, ds, k4.at_ _ _ hD (by simp [nDd, nDl]), hA.kp k4 sub ds, ht, ha, hle, by omega⟩, F3.go k4 D4, k3.trans k4⟩
      refine ⟨_, rfl, _, _, rfl, rfl, _, rfl, ?_⟩
      by_cases h13 : m < 13
      · rw [decide_eq_true (show (m : Int) < 13 by omega)]
        refine iteT ⟨_, rfl, _, rfl, D, rfl, ⟨_, sql_of hD⟩, fun D2 nD2 => ?_⟩
        refine lc_list (K := K) (a := D) (xs := xs) (fun j H4 => H4 D2 = some (.lst (((ds.take j).map expD).map V.int)) ∧ Kp [] H3 H4) ⟨upd_same, .new nD2⟩ (fun j H4 _ h => sql_of (h.2.at_ _ _ hD List.not_mem_nil)) ?_ ?_
        · rintro j x H4 hx ⟨hD4, k4⟩
          obtain ⟨dx, ex, ax⟩ := hA.get hx
          obtain ⟨tj, a, b, rfl, et, rfl, _, _⟩ := pair_an ax (ht _ (List.mem_of_getElem? ex)).good.1
          refine ⟨rfl, _, rfl, tj, _, _, _, rfl, rfl, sqt_of (k4.tup _ _ et), atI_nat (j := 0) rfl, _, hD4, Nat.lt_of_le_of_lt (show _ ≤ 12 by rw [List.length_map, List.length_map, List.length_take]; omega) (by decide), ?_, k4.own nD2⟩
          rw [upd_same, List.take_add_one, ex, List.map_append, List.map_append]
          rfl
        · rintro H4 ⟨hD4, k4⟩
          rw [lx, List.take_length] at hD4
          have F4 := F3.kp0 k4
          refine ⟨D2, _, rfl, .inl (sql_of hD4), rfl, by rw [List.all_map]; exact List.all_eq_true.mpr fun _ _ => rfl, _, rfl, ?_⟩
          cases hin : inV (V.int m) ((ds.map expD).map V.int) with
          | true => exact iteF (stay H4 _ (k4.more (by simp)) F4.dk)
          | false =>
            refine iteT ?_
            have hlt : ∀ e ∈ ds.map expD, e < (m : Int) := fun e he => by
              have h1 := hle e he
              have h2 : e ≠ (m : Int) := fun q => by
                subst q
                unfold inV at hin
                rw [List.any_eq_false] at hin
                exact hin (.int m) (List.mem_map.mpr ⟨_, he, rfl⟩) (by simp [eqV])
              omega
            have hD4' := k4.at_ _ _ hD List.not_mem_nil
            refine ⟨_, rfl, .inl ⟨rfl, _, sql_of hD4'⟩, _, rfl, _, rfl, _, rfl, _, _, rfl, rfl, (⟨by decide, by decide, by decide⟩ : (0 : Int) ≤ 12 ∧ (12 : Int) ≤ 1000000 ∧ (10 : Int).natAbs < 2 ^ 64), by show 3 ≤ sizeLine; decide, fun p3 n3 => ?_⟩
            have nn := F4.ne n3
            have k5 : Kp [] H4 (upd H4 p3 (.lst [.int 9, .int 1000, .int (10 ^ (12 : Int).toNat)])) := .new n3
            refine ⟨d, l, p3, _, rfl, (F4.new n3).dk, sql_of upd_same, by simp, by show 3 ≤ 1000000; decide, nn.1, nn.2, fun u H6 hu D6 k6 => ?_⟩
            have k46 : Kp [d, l] H4 H6 := (k5.more (by simp)).trans k6
            have F6 := F4.go k46 D6
            obtain ⟨M, rfl, hM1, hM2⟩ : ∃ M : Nat, u = .int M ∧ 0 < M ∧ M ≤ 10 ^ 12 := by
              simp only [List.mem_cons, List.not_mem_nil, or_false] at hu
              rcases hu with rfl | rfl | rfl
              · exact ⟨9, rfl, by decide, by decide⟩
              · exact ⟨1000, rfl, by decide, by decide⟩
              · exact ⟨10 ^ 12, rfl, by decide, by decide⟩
            refine ⟨d, l, M, rfl, F6.dk, by omega, by omega, fun r H7 r0 r1 D7 k7 => ?_⟩
            have F7 := F6.go k7 D7
            have k37 : Kp [d, l] H3 H7 := (k4.more (by simp)).trans (k46.trans k7)
            obtain ⟨c, rfl⟩ : ∃ c : Nat, r = (c : Int) := ⟨r.toNat, by omega⟩
            refine ⟨_, _, rfl, rfl, by show 2 ≤ sizeLine; decide, fun p8 n8 => ?_⟩
            have k8 : Kp [] H7 (upd H7 p8 (.tup [.int m, .int (1 + (c : Int))])) := .new n8
            have e8 : (upd H7 p8 (.tup [.int m, .int (1 + (c : Int))])) p8 = some (.tup [.int m, .int (1 + (c : Int))]) := upd_same
            have F8 := F7.new (o := .tup [.int m, .int (1 + (c : Int))]) n8
            generalize upd H7 p8 (.tup [.int m, .int (1 + (c : Int))]) = H8 at k8 e8 F8
            have k38 : Kp [d, l] H3 H8 := k37.trans (k8.more (by simp))
            have hD8 := k38.at_ _ _ hD (by simp [nDd, nDl])
            refine ⟨D, xs, _, rfl, rfl, hD8, Nat.lt_of_le_of_lt (show xs.length ≤ 12 by omega) (by decide), ?_⟩
            have kD : Kp [D] H8 (upd H8 D (.lst (xs ++ [.ref p8]))) := .put (by simp) hD8 (fun _ z => by cases z)
            refine k _ _ ⟨⟨m, y, _, rfl, xs ++ [.ref p8], ds ++ [.tuple [.int m, .int (1 + (c : Int))]], upd_same, ?_, ?_, ?_, ?_, ?_⟩, ?_, (k3.trans k38).own nD⟩
            · exact ((hA.kp k38 sub ds).kp kD (by simp) ds).append (.cons (.tup (kD.tup _ _ e8) (.cons (.int _) (.cons (.int _) .nil))) .nil)
            · intro x hx
              rcases List.mem_append.mp hx with h | h
              · exact ht x h
              · rw [List.mem_singleton.mp h]
                exact ⟨m, 1 + c, by rw [show ((1 + c : Nat) : Int) = 1 + (c : Int) by omega], h13, by omega, by omega⟩
            · rw [List.map_append]
              exact asc_snoc ha hlt
            · intro e he
              rw [List.map_append] at he
              rcases List.mem_append.mp he with h | h
              · exact hle e h
              · rw [List.mem_singleton.mp h]
                exact Int.le_refl _
            · rw [List.length_append]
              exact Nat.succ_le_succ hl
            · refine ⟨F8.dk.kp kD (by simp [nDd.symm]) (by simp [nDl.symm]), F8.dm, F8.lm, F8.has.kp kD fun b hb => ?_⟩
              rw [List.mem_singleton.mp hb, upd_same]
              exact fun z => nomatch z
      · rw [decide_eq_false (show ¬ (m : Int) < 13 by omega)]
        exact iteF (stay H3 z .refl F3.dk)
    refine ⟨_, pss_cons (ps_par (i := 2) (j := 3) (by rfl) scDPoly.nd rfl rfl (by decide) rfl rfl (pa_cons (pe_lst pa_nil) (pa_cons pe_int pa_nil)) (by rfl))
      (pss_cons (ps_for PassesOwn.never rfl (pi_range1 (by rfl) Bt.range (pa_cons (pe_call (ok_draw L.draw.F Bt) hr1 (by rfl) L.draw.g L.draw.F.kp L.draw.b .nil pass0 (pa_cons (pv 0) (pa_cons (pe_op op_add (pv 1) pe_int) pa_nil))) pa_nil)) (pg_name (i := 4) scDPoly.nd rfl (Or.inl rfl))
        (pss_cons (ps_set (i := 3) scDPoly.nd rfl (.inl rfl) (pe_ifExp (pt_cmpR op_gt (pv 4) pe_int (nomark _)) (pe_op op_add (pv 3) (pe_call (ok_draw L.draw.F Bt) hr1 (by rfl) L.draw.g L.draw.F.kp L.draw.b .nil pass0 (pa_cons (pv 0) (pa_cons pe_int pa_nil)))) (pe_call (ok_draw L.draw.F Bt) hr1 (by rfl) L.draw.g L.draw.F.kp L.draw.b .nil pass0 (pa_cons (pv 0) (pa_cons pe_int pa_nil)))))
        dI))
      (pss_one (ps_ret (pe_callTy call_tuple_of (by rfl) Bt.tuple (by decide +kernel) (pa_cons (pv 2) pa_nil))))), ?_⟩
    refine ⟨Nat.zero_le _, fun D nD => ⟨_, _, rfl, ?_⟩⟩
    have nDm := Fr.has.fresh nD
    have nDk := Fr.ne nD
    have F1 := Fr.new (o := .lst []) nD
    have k1 : Kp [d, l] H (upd H D (.lst [])) := .new nD
    have e1 : (upd H D (.lst [])) D = some (.lst []) := upd_same
    generalize upd H D (.lst []) = H1 at F1 k1 e1
    refine ⟨_, rfl, _, rfl, _, _, rfl, rfl, d, l, _, rfl, F1.dk, by omega, by omega, fun r H2 r0 r1 D2 k2 => ?_⟩
    have F2 := F1.go k2 D2
    obtain ⟨n, rfl⟩ : ∃ n : Nat, r = (n : Int) := ⟨r.toNat, by omega⟩
    refine ⟨n, rfl, by omega, by omega, ?_⟩
    rw [Int.toNat_natCast]
    refine for_range (lo := 0) (n := n) (DI ms d l D most H) ⟨⟨0, none, none, rfl, [], [], k2.at_ _ _ e1 (by simp [nDk.1, nDk.2]), .nil, fun d hd => absurd hd List.not_mem_nil, rfl, fun e he => absurd he List.not_mem_nil, Nat.zero_le _⟩, F2, k1.trans k2⟩ ?_ ?_
    · rintro i σ H3 hi ⟨⟨m, y, z, rfl, xs, ds, hD, hA, ht, ha, hle, hl⟩, F3, k3⟩
      have sub : ∀ x ∈ [d, l], x ∈ D :: ms := fun x hx => List.mem_cons_of_mem _ (F3.sub x hx)
      refine ⟨_, rfl, _, _, rfl, rfl, _, rfl, ?_⟩
      by_cases h0 : (0 : Int) + i > 0
      · rw [decide_eq_true h0]
        refine iteT ⟨_, rfl, _, rfl, d, l, 3, rfl, F3.dk, by decide, by decide, fun c H4 c0 c1 D4 k4 => ?_⟩
        have F4 := F3.go k4 D4
        obtain ⟨c, rfl⟩ : ∃ c' : Nat, c = (c' : Int) := ⟨c.toNat, by omega⟩
        refine ⟨_, _, rfl, rfl, ?_⟩
        refine rI _ H4 D i (m + c) _ _ xs ds (k4.at_ _ _ hD (by simp [nDk.1, nDk.2])) (hA.kp k4 sub ds) ht ha (fun e he => by have := hle e he; omega) hl (by omega) F4 (k3.trans k4) nD nDk.1 nDk.2 (fun σ H5 h => h)
      · rw [decide_eq_false h0]
        have hi0 : i = 0 := by omega
        have hds : ds = [] := List.eq_nil_of_length_eq_zero (by omega)
        refine iteF ⟨_, rfl, d, l, 2, rfl, F3.dk, by decide, by decide, fun c H4 c0 c1 D4 k4 => ?_⟩
        have F4 := F3.go k4 D4
        obtain ⟨c, rfl⟩ : ∃ c' : Nat, c = (c' : Int) := ⟨c.toNat, by omega⟩
        refine rI _ H4 D i c _ _ xs ds (k4.at_ _ _ hD (by simp [nDk.1, nDk.2])) (hA.kp k4 sub ds) ht ha (fun e he => by rw [hds] at he; exact absurd he List.not_mem_nil) hl (by omega) F4 (k3.trans k4) nD nDk.1 nDk.2 (fun σ H5 h => h)
    · rintro σ H3 ⟨⟨m, y, z, rfl, xs, ds, hD, hA, ht, ha, hle, hl⟩, F3, k3⟩
      refine ⟨_, rfl, D, _, rfl, .inl ⟨sql_of hD, fun q nq => ?_⟩⟩
      have kq : Kp [] H3 (upd H3 q (.tup xs)) := .new nq
      exact k _ ds _ (.tup upd_same ((hA.mono (fun x hx => List.mem_cons_of_mem _ hx) ds).kp kq (by simp) ds)) ⟨ht, ha, by omega⟩ (F3.new nq) (k3.trans (.new nq))
end
end Ey
set_option maxHeartbeats 4000000
namespace Ey
open PySem PySem.Spec L2
abbrev sNear : Stmt := topS 23
structure LN (K : PySem.W.Frag) (mg : Str → Option Value) (A : Nat → Addr) (D : Nat → FuncData) : Prop extends LD K mg A D where
  near : Df K mg "_law_near_poly" sNear ["_law_deck_here", "_law_poly"] (A 23) (D 23)
theorem fn_ex {P : Program} {w : World} {K : PySem.W.Frag} {mg : Str → Option Value} {base : Heap} {CX : CXT} {k : Nat} {f : Addr} {fd : FuncData} {ps : List Str} {sp : List Addr → Sp} (h : ∀ ms, FnOk P w K mg base CX k f fd ps (sp ms)) :
    FnOk P w K mg base CX k f fd ps (fun vs H Q E => ∃ ms, sp ms vs H Q E) :=
  ⟨fun vs H Q E ⟨ms, x⟩ => (h ms).len vs H Q E x, fun A outer s H args us vs Q E a b c d ⟨ms, x⟩ => (h ms).run A outer s H args us vs Q E a b c d x⟩
section
variable {Pr : Program} {w : World} {K : PySem.W.Frag} {mg : Str → Option Value} {base : Heap} {A : Nat → Addr} {D : Nat → FuncData}
abbrev NNp : List Str := ["_law_deck_here", "_law_poly", "_law_some"]
theorem scNear : FnScope NNp ["_law_deck_here", "_law_poly"] (defScope sNear) := ⟨rfl, rfl, rfl, by decide +kernel, rfl, by decide +kernel, by decide +kernel⟩
def spNear : Sp := fun vs H Q _ => ∃ (d l : Addr) (ms : List Addr) (v : V) (ds : List PyData), vs = [.ref d, v] ∧ An ms H v (.tuple ds) ∧ GoodJ bAny 2 1300 (.tuple ds) ∧ Frame ms d l H ∧
  ∀ (v' : V) (x' : PyData) (H' : Hp), An ms H' v' x' → GoodJ (bAny + 5) 8 8600 x' → Frame ms d l H' → Kp [d, l] H H' → Q v' H'
theorem ok_near (L : LN K mg A D) : FnOk Pr w K mg base CX0 10 (A 23) (D 23) ["_law_deck_here", "_law_poly"] spNear := by
  have Bt := L.B
  have gB : FnOk Pr w K mg base CX0 9 (A 18) (D 18) ["_law_deck_here", "_law_thing", "_law_deep"] (fun vs H Q E => ∃ ms, spBent ms 4 vs H Q E) := fn_ex fun ms => ok_bent (ms := ms) L.toLB 4
  refine L.near.F.ok scNear (fun vs H Q E h => ?_) (fun cdv Ar outer s H vs Q E hr h => ?_)
  · obtain ⟨d, l, ms, v, ds, rfl, _⟩ := h
    rfl
  · obtain ⟨d, l, ms, v, ds, rfl, hv, hg, F0, k⟩ := h
    have hr1 := hr.mono (show 1 ≤ 9 by decide)
    have hr2 := hr.mono (show 2 ≤ 9 by decide)
    refine ⟨_, pss_cons (ps_set (i := 2) scNear.nd rfl (.inl rfl) (pe_lst (pa_cons (pe_revA (pv 1)) (pa_cons (pe_callTy call_list_of (by rfl) Bt.list (by decide +kernel) (pa_cons (pv 1) pa_nil)) (pa_cons (pe_op op_cat2 (pv 1) (pe_slice sl_cut (pv 1) po_none (po_some pe_int))) (pa_cons (pe_op op_cat2 (pv 1) (pe_tup (pa_cons (pe_tup (pa_cons pe_int (pa_cons pe_int pa_nil))) pa_nil))) (pa_cons (pe_op op_cat2 (pv 1) (pe_tup (pa_cons (pe_tup (pa_cons pe_int (pa_cons (pe_un un_neg pe_int) pa_nil))) pa_nil))) (pa_cons (pe_op op_cat2 (pe_tup (pa_cons (pe_tup (pa_cons (pe_un un_neg pe_int) (pa_cons pe_int pa_nil))) pa_nil)) (pv 1)) (pa_cons (pe_op op_cat2 (pv 1) (pe_tup (pa_cons (pe_tup (pa_cons pe_bl (pa_cons pe_int pa_nil))) pa_nil))) (pa_cons (pe_op op_cat2 (pv 1) (pe_tup (pa_cons (pe_tup (pa_cons pe_int (pa_cons pe_bl pa_nil))) pa_nil))) (pa_cons (pe_tup (pa_cons (pe_tup (pa_cons pe_int (pa_cons pe_int (pa_cons pe_int pa_nil)))) pa_nil)) pa_nil)))))))))))
      (pss_cons (ps_expr (pe_bm PySem.F.plainAttrs_list PySem.F.slot_list_extend PySem.F.type_list_extend mt_extend (pv 2) (pa_cons (pe_lst (pa_cons (pe_tup (pa_cons (pe_tup (pa_cons pe_int pa_nil)) pa_nil)) (pa_cons (pe_tup (pa_cons (pe_lst (pa_cons pe_int (pa_cons pe_int pa_nil))) pa_nil)) (pa_cons (pe_tup (pa_cons (pe_tup (pa_cons pe_str (pa_cons pe_int pa_nil))) pa_nil)) (pa_cons (pe_tup (pa_cons (pe_tup (pa_cons pe_int (pa_cons pe_str pa_nil))) pa_nil)) (pa_cons pe_int (pa_cons pe_non (pa_cons pe_str (pa_cons pe_dnewK (pa_cons (pe_tup (pa_cons pe_int (pa_cons pe_int pa_nil))) (pa_cons (pe_tup (pa_cons (pe_tup (pa_cons pe_int (pa_cons pe_non pa_nil))) pa_nil)) (pa_cons (pe_tup (pa_cons (pe_tup (pa_cons pe_int (pa_cons pe_int pa_nil))) (pa_cons (pe_tup (pa_cons pe_int (pa_cons pe_int pa_nil))) pa_nil))) (pa_cons (pe_tup (pa_cons (pe_tup (pa_cons pe_int (pa_cons pe_int pa_nil))) (pa_cons (pe_tup (pa_cons pe_int (pa_cons pe_int pa_nil))) pa_nil))) pa_nil))))))))))))) pa_nil)))
      (pss_one (ps_ret (pe_ifExp (pt_cmpR op_eq (pe_call (ok_draw L.draw.F Bt) hr1 (by rfl) L.draw.g L.draw.F.kp L.draw.b .nil pass0 (pa_cons (pv 0) (pa_cons pe_int pa_nil))) pe_int (nomark _))
        (pe_call gB hr (by rfl) L.bent.g L.bent.F.kp L.bent.b .nil pass0 (pa_cons (pv 0) (pa_cons (pv 1) (pa_cons pe_int pa_nil))))
        (pe_call (ok_pick L.pick.F Bt L.draw) hr2 (by rfl) L.pick.g L.pick.F.kp L.pick.b .nil pass0 (pa_cons (pv 0) (pa_cons (pv 2) pa_nil))))))), ?_⟩
    have hf : fitJAll (bAny + 5) ds = true := fitJAll_le (by omega) ds hg.f
    have hd2 : PyData.depthAll ds + 1 ≤ 2 := hg.d
    have hw2 : wdAll ds + 3 ≤ 1300 := hg.w
    have hvv := hv
    cases hv with
    | @tup a xs _ ep hP =>
    have lx := hP.length
    have ll := len_wd ds
    have lim : ∀ n, n ≤ 900010 → n ≤ sizeLine := fun n h => Nat.le_trans h (by decide)
    have tc := cut_facts (bAny + 5) ds 1 hf
    have catG : ∀ es : List PyData, fitJAll (bAny + 5) es = true → PyData.depthAll es ≤ 2 → wdAll es ≤ 1300 → GoodJ (bAny + 5) 8 8600 (.tuple (ds ++ es)) := fun es h1 h2 h3 => by
      refine ⟨?_, ?_, ?_⟩
      · show fitJAll (bAny + 5) (ds ++ es) = true
        rw [fitJ_app, hf, h1]
        rfl
      · show PyData.depthAll (ds ++ es) + 1 ≤ 8
        rw [dep_app]
        omega
      · show wdAll (ds ++ es) + 3 ≤ 8600
        rw [wd_app]
        omega
    have catH : ∀ es : List PyData, fitJAll (bAny + 5) es = true → PyData.depthAll es ≤ 2 → wdAll es ≤ 1300 → GoodJ (bAny + 5) 8 8600 (.tuple (es ++ ds)) := fun es h1 h2 h3 => by
      refine ⟨?_, ?_, ?_⟩
      · show fitJAll (bAny + 5) (es ++ ds) = true
        rw [fitJ_app, hf, h1]
        rfl
      · show PyData.depthAll (es ++ ds) + 1 ≤ 8
        rw [dep_app]
        omega
      · show wdAll (es ++ ds) + 3 ≤ 8600
        rw [wd_app]
        omega
    have small : ∀ {x : PyData}, fitJ bAny x = true → x.depth ≤ 8 → wd x ≤ 8600 → GoodJ (bAny + 5) 8 8600 x := fun {x} h1 h2 h3 => ⟨fitJ_le (by omega) x h1, h2, h3⟩
    refine ⟨_, rfl, ?_⟩
    refine .inl ⟨a, _, rfl, sqt_of ep, fun t1 n1 => ?_⟩
    have c1 : Kp [] H (upd H t1 (.tup xs.reverse)) := .new n1
    have e1 : (upd H t1 (.tup xs.reverse)) t1 = some (.tup xs.reverse) := upd_same
    have F1 := F0.new (o := .tup xs.reverse) n1
    generalize upd H t1 (.tup xs.reverse) = G1 at c1 e1 F1 ⊢
    refine ⟨_, rfl, a, _, rfl, .inr (sqt_of (c1.tup _ _ ep)), ?_⟩
    intro t2 n2
    have c2 : Kp [] G1 (upd G1 t2 (.lst xs)) := .new n2
    have e2 : (upd G1 t2 (.lst xs)) t2 = some (.lst xs) := upd_same
    have f2 := F1.has.fresh n2
    have F2 := F1.new (o := .lst xs) n2
    generalize upd G1 t2 (.lst xs) = G2 at c2 e2 F2 ⊢
    refine ⟨_, rfl, _, rfl, 1, rfl, ?_⟩
    refine ⟨a, _, rfl, (c2.tup _ _ (c1.tup _ _ ep)), fun t3 G3 e3 c3 => ?_⟩
    have F3 := F2.kp0 c3
    rw [show cutV xs none (some 1) = xs.take 1 from cut_take xs 1] at e3
    refine ⟨a, t3, _, _, rfl, rfl, (c3.tup _ _ (c2.tup _ _ (c1.tup _ _ ep))), e3, lim _ (by simp only [List.length_append, List.length_take, List.length_cons, List.length_nil]; omega), fun t4 G4 e4 c4 => ?_⟩
    have F4 := F3.kp0 c4
    refine ⟨_, rfl, ?_⟩
    refine ⟨by show 2 ≤ sizeLine; decide, fun t5 n5 => ?_⟩
    have c5 : Kp [] G4 (upd G4 t5 (.tup [.int 13, .int 0])) := .new n5
    have e5 : (upd G4 t5 (.tup [.int 13, .int 0])) t5 = some (.tup [.int 13, .int 0]) := upd_same
    have f5 := F4.has.fresh n5
    have F5 := F4.new (o := .tup [.int 13, .int 0]) n5
    generalize upd G4 t5 (.tup [.int 13, .int 0]) = G5 at c5 e5 F5 ⊢
    refine ⟨by show 1 ≤ sizeLine; decide, fun t6 n6 => ?_⟩
    have c6 : Kp [] G5 (upd G5 t6 (.tup [.ref t5])) := .new n6
    have e6 : (upd G5 t6 (.tup [.ref t5])) t6 = some (.tup [.ref t5]) := upd_same
    have f6 := F5.has.fresh n6
    have F6 := F5.new (o := .tup [.ref t5]) n6
    generalize upd G5 t6 (.tup [.ref t5]) = G6 at c6 e6 F6 ⊢
    refine ⟨a, t6, _, _, rfl, rfl, (c6.tup _ _ (c5.tup _ _ (c4.tup _ _ (c3.tup _ _ (c2.tup _ _ (c1.tup _ _ ep)))))), e6, lim _ (by simp only [List.length_append, List.length_take, List.length_cons, List.length_nil]; omega), fun t7 G7 e7 c7 => ?_⟩
    have F7 := F6.kp0 c7
    refine ⟨_, rfl, ?_⟩
    refine ⟨1, rfl, ?_⟩
    refine ⟨by show 2 ≤ sizeLine; decide, fun t8 n8 => ?_⟩
    have c8 : Kp [] G7 (upd G7 t8 (.tup [.int 13, .int (-1)])) := .new n8
    have e8 : (upd G7 t8 (.tup [.int 13, .int (-1)])) t8 = some (.tup [.int 13, .int (-1)]) := upd_same
    have f8 := F7.has.fresh n8
    have F8 := F7.new (o := .tup [.int 13, .int (-1)]) n8
    generalize upd G7 t8 (.tup [.int 13, .int (-1)]) = G8 at c8 e8 F8 ⊢
    refine ⟨by show 1 ≤ sizeLine; decide, fun t9 n9 => ?_⟩
    have c9 : Kp [] G8 (upd G8 t9 (.tup [.ref t8])) := .new n9
    have e9 : (upd G8 t9 (.tup [.ref t8])) t9 = some (.tup [.ref t8]) := upd_same
    have f9 := F8.has.fresh n9
    have F9 := F8.new (o := .tup [.ref t8]) n9
    generalize upd G8 t9 (.tup [.ref t8]) = G9 at c9 e9 F9 ⊢
    refine ⟨a, t9, _, _, rfl, rfl, (c9.tup _ _ (c8.tup _ _ (c7.tup _ _ (c6.tup _ _ (c5.tup _ _ (c4.tup _ _ (c3.tup _ _ (c2.tup _ _ (c1.tup _ _ ep))))))))), e9, lim _ (by simp only [List.length_append, List.length_take, List.length_cons, List.length_nil]; omega), fun t10 G10 e10 c10 => ?_⟩
    have F10 := F9.kp0 c10
    refine ⟨1, rfl, ?_⟩
    refine ⟨by show 2 ≤ sizeLine; decide, fun t11 n11 => ?_⟩
    have c11 : Kp [] G10 (upd G10 t11 (.tup [.int (-1), .int 1])) := .new n11
    have e11 : (upd G10 t11 (.tup [.int (-1), .int 1])) t11 = some (.tup [.int (-1), .int 1]) := upd_same
    have f11 := F10.has.fresh n11
    have F11 := F10.new (o := .tup [.int (-1), .int 1]) n11
    generalize upd G10 t11 (.tup [.int (-1), .int 1]) = G11 at c11 e11 F11 ⊢
    refine ⟨by show 1 ≤ sizeLine; decide, fun t12 n12 => ?_⟩
    have c12 : Kp [] G11 (upd G11 t12 (.tup [.ref t11])) := .new n12
    have e12 : (upd G11 t12 (.tup [.ref t11])) t12 = some (.tup [.ref t11]) := upd_same
    have f12 := F11.has.fresh n12
    have F12 := F11.new (o := .tup [.ref t11]) n12
    generalize upd G11 t12 (.tup [.ref t11]) = G12 at c12 e12 F12 ⊢
    refine ⟨_, rfl, ?_⟩
    refine ⟨t12, a, _, _, rfl, rfl, e12, (c12.tup _ _ (c11.tup _ _ (c10.tup _ _ (c9.tup _ _ (c8.tup _ _ (c7.tup _ _ (c6.tup _ _ (c5.tup _ _ (c4.tup _ _ (c3.tup _ _ (c2.tup _ _ (c1.tup _ _ ep)))))))))))), lim _ (by simp only [List.length_append, List.length_take, List.length_cons, List.length_nil]; omega), fun t13 G13 e13 c13 => ?_⟩
    have F13 := F12.kp0 c13
    refine ⟨_, rfl, ?_⟩
    refine ⟨by show 2 ≤ sizeLine; decide, fun t14 n14 => ?_⟩
    have c14 : Kp [] G13 (upd G13 t14 (.tup [.bl true, .int 2])) := .new n14
    have e14 : (upd G13 t14 (.tup [.bl true, .int 2])) t14 = some (.tup [.bl true, .int 2]) := upd_same
    have f14 := F13.has.fresh n14
    have F14 := F13.new (o := .tup [.bl true, .int 2]) n14
    generalize upd G13 t14 (.tup [.bl true, .int 2]) = G14 at c14 e14 F14 ⊢
    refine ⟨by show 1 ≤ sizeLine; decide, fun t15 n15 => ?_⟩
    have c15 : Kp [] G14 (upd G14 t15 (.tup [.ref t14])) := .new n15
    have e15 : (upd G14 t15 (.tup [.ref t14])) t15 = some (.tup [.ref t14]) := upd_same
    have f15 := F14.has.fresh n15
    have F15 := F14.new (o := .tup [.ref t14]) n15
    generalize upd G14 t15 (.tup [.ref t14]) = G15 at c15 e15 F15 ⊢
    refine ⟨a, t15, _, _, rfl, rfl, (c15.tup _ _ (c14.tup _ _ (c13.tup _ _ (c12.tup _ _ (c11.tup _ _ (c10.tup _ _ (c9.tup _ _ (c8.tup _ _ (c7.tup _ _ (c6.tup _ _ (c5.tup _ _ (c4.tup _ _ (c3.tup _ _ (c2.tup _ _ (c1.tup _ _ ep))))))))))))))), e15, lim _ (by simp only [List.length_append, List.length_take, List.length_cons, List.length_nil]; omega), fun t16 G16 e16 c16 => ?_⟩
    have F16 := F15.kp0 c16
    refine ⟨_, rfl, ?_⟩
    refine ⟨by show 2 ≤ sizeLine; decide, fun t17 n17 => ?_⟩
    have c17 : Kp [] G16 (upd G16 t17 (.tup [.int 12, .bl true])) := .new n17
    have e17 : (upd G16 t17 (.tup [.int 12, .bl true])) t17 = some (.tup [.int 12, .bl true]) := upd_same
    have f17 := F16.has.fresh n17
    have F17 := F16.new (o := .tup [.int 12, .bl true]) n17
    generalize upd G16 t17 (.tup [.int 12, .bl true]) = G17 at c17 e17 F17 ⊢
    refine ⟨by show 1 ≤ sizeLine; decide, fun t18 n18 => ?_⟩
    have c18 : Kp [] G17 (upd G17 t18 (.tup [.ref t17])) := .new n18
    have e18 : (upd G17 t18 (.tup [.ref t17])) t18 = some (.tup [.ref t17]) := upd_same
    have f18 := F17.has.fresh n18
    have F18 := F17.new (o := .tup [.ref t17]) n18
    generalize upd G17 t18 (.tup [.ref t17]) = G18 at c18 e18 F18 ⊢
    refine ⟨a, t18, _, _, rfl, rfl, (c18.tup _ _ (c17.tup _ _ (c16.tup _ _ (c15.tup _ _ (c14.tup _ _ (c13.tup _ _ (c12.tup _ _ (c11.tup _ _ (c10.tup _ _ (c9.tup _ _ (c8.tup _ _ (c7.tup _ _ (c6.tup _ _ (c5.tup _ _ (c4.tup _ _ (c3.tup _ _ (c2.tup _ _ (c1.tup _ _ ep)))))))))))))))))), e18, lim _ (by simp only [List.length_append, List.length_take, List.length_cons, List.length_nil]; omega), fun t19 G19 e19 c19 => ?_⟩
    have F19 := F18.kp0 c19
    refine ⟨by show 3 ≤ sizeLine; decide, fun t20 n20 => ?_⟩
    have c20 : Kp [] G19 (upd G19 t20 (.tup [.int 0, .int 1, .int 1])) := .new n20
    have e20 : (upd G19 t20 (.tup [.int 0, .int 1, .int 1])) t20 = some (.tup [.int 0, .int 1, .int 1]) := upd_same
    have f20 := F19.has.fresh n20
    have F20 := F19.new (o := .tup [.int 0, .int 1, .int 1]) n20
    generalize upd G19 t20 (.tup [.int 0, .int 1, .int 1]) = G20 at c20 e20 F20 ⊢
    refine ⟨by show 1 ≤ sizeLine; decide, fun t21 n21 => ?_⟩
    have c21 : Kp [] G20 (upd G20 t21 (.tup [.ref t20])) := .new n21
    have e21 : (upd G20 t21 (.tup [.ref t20])) t21 = some (.tup [.ref t20]) := upd_same
    have f21 := F20.has.fresh n21
    have F21 := F20.new (o := .tup [.ref t20]) n21
    generalize upd G20 t21 (.tup [.ref t20]) = G21 at c21 e21 F21 ⊢
    refine ⟨by show 9 ≤ sizeLine; decide, fun t22 n22 => ?_⟩
    have c22 : Kp [] G21 (upd G21 t22 (.lst [.ref t1, .ref t2, .ref t4, .ref t7, .ref t10, .ref t13, .ref t16, .ref t19, .ref t21])) := .new n22
    have e22 : (upd G21 t22 (.lst [.ref t1, .ref t2, .ref t4, .ref t7, .ref t10, .ref t13, .ref t16, .ref t19, .ref t21])) t22 = some (.lst [.ref t1, .ref t2, .ref t4, .ref t7, .ref t10, .ref t13, .ref t16, .ref t19, .ref t21]) := upd_same
    have f22 := F21.has.fresh n22
    have F22 := F21.new (o := .lst [.ref t1, .ref t2, .ref t4, .ref t7, .ref t10, .ref t13, .ref t16, .ref t19, .ref t21]) n22
    generalize upd G21 t22 (.lst [.ref t1, .ref t2, .ref t4, .ref t7, .ref t10, .ref t13, .ref t16, .ref t19, .ref t21]) = G22 at c22 e22 F22 ⊢
    refine ⟨_, rfl, .inl ⟨rfl, _, sql_of e22⟩, ?_⟩
    refine ⟨by show 1 ≤ sizeLine; decide, fun t23 n23 => ?_⟩
    have c23 : Kp [] G22 (upd G22 t23 (.tup [.int 0])) := .new n23
    have e23 : (upd G22 t23 (.tup [.int 0])) t23 = some (.tup [.int 0]) := upd_same
    have f23 := F22.has.fresh n23
    have F23 := F22.new (o := .tup [.int 0]) n23
    generalize upd G22 t23 (.tup [.int 0]) = G23 at c23 e23 F23 ⊢
    refine ⟨by show 1 ≤ sizeLine; decide, fun t24 n24 => ?_⟩
    have c24 : Kp [] G23 (upd G23 t24 (.tup [.ref t23])) := .new n24
    have e24 : (upd G23 t24 (.tup [.ref t23])) t24 = some (.tup [.ref t23]) := upd_same
    have f24 := F23.has.fresh n24
    have F24 := F23.new (o := .tup [.ref t23]) n24
    generalize upd G23 t24 (.tup [.ref t23]) = G24 at c24 e24 F24 ⊢
    refine ⟨by show 2 ≤ sizeLine; decide, fun t25 n25 => ?_⟩
    have c25 : Kp [] G24 (upd G24 t25 (.lst [.int 0, .int 1])) := .new n25
    have e25 : (upd G24 t25 (.lst [.int 0, .int 1])) t25 = some (.lst [.int 0, .int 1]) := upd_same
    have f25 := F24.has.fresh n25
    have F25 := F24.new (o := .lst [.int 0, .int 1]) n25
    generalize upd G24 t25 (.lst [.int 0, .int 1]) = G25 at c25 e25 F25 ⊢
    refine ⟨by show 1 ≤ sizeLine; decide, fun t26 n26 => ?_⟩
    have c26 : Kp [] G25 (upd G25 t26 (.tup [.ref t25])) := .new n26
    have e26 : (upd G25 t26 (.tup [.ref t25])) t26 = some (.tup [.ref t25]) := upd_same
    have f26 := F25.has.fresh n26
    have F26 := F25.new (o := .tup [.ref t25]) n26
    generalize upd G25 t26 (.tup [.ref t25]) = G26 at c26 e26 F26 ⊢
    refine ⟨by show 2 ≤ sizeLine; decide, fun t27 n27 => ?_⟩
    have c27 : Kp [] G26 (upd G26 t27 (.tup [.str "0", .int 1])) := .new n27
    have e27 : (upd G26 t27 (.tup [.str "0", .int 1])) t27 = some (.tup [.str "0", .int 1]) := upd_same
    have f27 := F26.has.fresh n27
    have F27 := F26.new (o := .tup [.str "0", .int 1]) n27
    generalize upd G26 t27 (.tup [.str "0", .int 1]) = G27 at c27 e27 F27 ⊢
    refine ⟨by show 1 ≤ sizeLine; decide, fun t28 n28 => ?_⟩
    have c28 : Kp [] G27 (upd G27 t28 (.tup [.ref t27])) := .new n28
    have e28 : (upd G27 t28 (.tup [.ref t27])) t28 = some (.tup [.ref t27]) := upd_same
    have f28 := F27.has.fresh n28
    have F28 := F27.new (o := .tup [.ref t27]) n28
    generalize upd G27 t28 (.tup [.ref t27]) = G28 at c28 e28 F28 ⊢
    refine ⟨by show 2 ≤ sizeLine; decide, fun t29 n29 => ?_⟩
    have c29 : Kp [] G28 (upd G28 t29 (.tup [.int 0, .str "1"])) := .new n29
    have e29 : (upd G28 t29 (.tup [.int 0, .str "1"])) t29 = some (.tup [.int 0, .str "1"]) := upd_same
    have f29 := F28.has.fresh n29
    have F29 := F28.new (o := .tup [.int 0, .str "1"]) n29
    generalize upd G28 t29 (.tup [.int 0, .str "1"]) = G29 at c29 e29 F29 ⊢
    refine ⟨by show 1 ≤ sizeLine; decide, fun t30 n30 => ?_⟩
    have c30 : Kp [] G29 (upd G29 t30 (.tup [.ref t29])) := .new n30
    have e30 : (upd G29 t30 (.tup [.ref t29])) t30 = some (.tup [.ref t29]) := upd_same
    have f30 := F29.has.fresh n30
    have F30 := F29.new (o := .tup [.ref t29]) n30
    generalize upd G29 t30 (.tup [.ref t29]) = G30 at c30 e30 F30 ⊢
    intro t31 n31
    have c31 : Kp [] G30 (upd G30 t31 (.dK [])) := .new n31
    have e31 : (upd G30 t31 (.dK [])) t31 = some (.dK []) := upd_same
    have f31 := F30.has.fresh n31
    have F31 := F30.new (o := .dK []) n31
    generalize upd G30 t31 (.dK []) = G31 at c31 e31 F31 ⊢
    refine ⟨by show 2 ≤ sizeLine; decide, fun t32 n32 => ?_⟩
    have c32 : Kp [] G31 (upd G31 t32 (.tup [.int 0, .int 1])) := .new n32
    have e32 : (upd G31 t32 (.tup [.int 0, .int 1])) t32 = some (.tup [.int 0, .int 1]) := upd_same
    have f32 := F31.has.fresh n32
    have F32 := F31.new (o := .tup [.int 0, .int 1]) n32
    generalize upd G31 t32 (.tup [.int 0, .int 1]) = G32 at c32 e32 F32 ⊢
    refine ⟨by show 2 ≤ sizeLine; decide, fun t33 n33 => ?_⟩
    have c33 : Kp [] G32 (upd G32 t33 (.tup [.int 0, .non])) := .new n33
    have e33 : (upd G32 t33 (.tup [.int 0, .non])) t33 = some (.tup [.int 0, .non]) := upd_same
    have f33 := F32.has.fresh n33
    have F33 := F32.new (o := .tup [.int 0, .non]) n33
    generalize upd G32 t33 (.tup [.int 0, .non]) = G33 at c33 e33 F33 ⊢
    refine ⟨by show 1 ≤ sizeLine; decide, fun t34 n34 => ?_⟩
    have c34 : Kp [] G33 (upd G33 t34 (.tup [.ref t33])) := .new n34
    have e34 : (upd G33 t34 (.tup [.ref t33])) t34 = some (.tup [.ref t33]) := upd_same
    have f34 := F33.has.fresh n34
    have F34 := F33.new (o := .tup [.ref t33]) n34
    generalize upd G33 t34 (.tup [.ref t33]) = G34 at c34 e34 F34 ⊢
    refine ⟨by show 2 ≤ sizeLine; decide, fun t35 n35 => ?_⟩
    have c35 : Kp [] G34 (upd G34 t35 (.tup [.int 3, .int 2])) := .new n35
    have e35 : (upd G34 t35 (.tup [.int 3, .int 2])) t35 = some (.tup [.int 3, .int 2]) := upd_same
    have f35 := F34.has.fresh n35
    have F35 := F34.new (o := .tup [.int 3, .int 2]) n35
    generalize upd G34 t35 (.tup [.int 3, .int 2]) = G35 at c35 e35 F35 ⊢
    refine ⟨by show 2 ≤ sizeLine; decide, fun t36 n36 => ?_⟩
    have c36 : Kp [] G35 (upd G35 t36 (.tup [.int 3, .int 1])) := .new n36
    have e36 : (upd G35 t36 (.tup [.int 3, .int 1])) t36 = some (.tup [.int 3, .int 1]) := upd_same
    have f36 := F35.has.fresh n36
    have F36 := F35.new (o := .tup [.int 3, .int 1]) n36
    generalize upd G35 t36 (.tup [.int 3, .int 1]) = G36 at c36 e36 F36 ⊢
    refine ⟨by show 2 ≤ sizeLine; decide, fun t37 n37 => ?_⟩
    have c37 : Kp [] G36 (upd G36 t37 (.tup [.ref t35, .ref t36])) := .new n37
    have e37 : (upd G36 t37 (.tup [.ref t35, .ref t36])) t37 = some (.tup [.ref t35, .ref t36]) := upd_same
    have f37 := F36.has.fresh n37
    have F37 := F36.new (o := .tup [.ref t35, .ref t36]) n37
    generalize upd G36 t37 (.tup [.ref t35, .ref t36]) = G37 at c37 e37 F37 ⊢
    refine ⟨by show 2 ≤ sizeLine; decide, fun t38 n38 => ?_⟩
    have c38 : Kp [] G37 (upd G37 t38 (.tup [.int 3, .int 2])) := .new n38
    have e38 : (upd G37 t38 (.tup [.int 3, .int 2])) t38 = some (.tup [.int 3, .int 2]) := upd_same
    have f38 := F37.has.fresh n38
    have F38 := F37.new (o := .tup [.int 3, .int 2]) n38
    generalize upd G37 t38 (.tup [.int 3, .int 2]) = G38 at c38 e38 F38 ⊢
    refine ⟨by show 2 ≤ sizeLine; decide, fun t39 n39 => ?_⟩
    have c39 : Kp [] G38 (upd G38 t39 (.tup [.int 2, .int 1])) := .new n39
    have e39 : (upd G38 t39 (.tup [.int 2, .int 1])) t39 = some (.tup [.int 2, .int 1]) := upd_same
    have f39 := F38.has.fresh n39
    have F39 := F38.new (o := .tup [.int 2, .int 1]) n39
    generalize upd G38 t39 (.tup [.int 2, .int 1]) = G39 at c39 e39 F39 ⊢
    refine ⟨by show 2 ≤ sizeLine; decide, fun t40 n40 => ?_⟩
    have c40 : Kp [] G39 (upd G39 t40 (.tup [.ref t38, .ref t39])) := .new n40
    have e40 : (upd G39 t40 (.tup [.ref t38, .ref t39])) t40 = some (.tup [.ref t38, .ref t39]) := upd_same
    have f40 := F39.has.fresh n40
    have F40 := F39.new (o := .tup [.ref t38, .ref t39]) n40
    generalize upd G39 t40 (.tup [.ref t38, .ref t39]) = G40 at c40 e40 F40 ⊢
    refine ⟨by show 12 ≤ sizeLine; decide, fun t41 n41 => ?_⟩
    have c41 : Kp [] G40 (upd G40 t41 (.lst [.ref t24, .ref t26, .ref t28, .ref t30, .int 5, .non, .str "poly", .ref t31, .ref t32, .ref t34, .ref t37, .ref t40])) := .new n41
    have e41 : (upd G40 t41 (.lst [.ref t24, .ref t26, .ref t28, .ref t30, .int 5, .non, .str "poly", .ref t31, .ref t32, .ref t34, .ref t37, .ref t40])) t41 = some (.lst [.ref t24, .ref t26, .ref t28, .ref t30, .int 5, .non, .str "poly", .ref t31, .ref t32, .ref t34, .ref t37, .ref t40]) := upd_same
    have f41 := F40.has.fresh n41
    have F41 := F40.new (o := .lst [.ref t24, .ref t26, .ref t28, .ref t30, .int 5, .non, .str "poly", .ref t31, .ref t32, .ref t34, .ref t37, .ref t40]) n41
    generalize upd G40 t41 (.lst [.ref t24, .ref t26, .ref t28, .ref t30, .int 5, .non, .str "poly", .ref t31, .ref t32, .ref t34, .ref t37, .ref t40]) = G41 at c41 e41 F41 ⊢
    -- both lists in one
    have fS := f22
    have eS := (c41.at_ _ _ (c40.at_ _ _ (c39.at_ _ _ (c38.at_ _ _ (c37.at_ _ _ (c36.at_ _ _ (c35.at_ _ _ (c34.at_ _ _ (c33.at_ _ _ (c32.at_ _ _ (c31.at_ _ _ (c30.at_ _ _ (c29.at_ _ _ (c28.at_ _ _ (c27.at_ _ _ (c26.at_ _ _ (c25.at_ _ _ (c24.at_ _ _ (c23.at_ _ _ e22 List.not_mem_nil) List.not_mem_nil) List.not_mem_nil) List.not_mem_nil) List.not_mem_nil) List.not_mem_nil) List.not_mem_nil) List.not_mem_nil) List.not_mem_nil) List.not_mem_nil) List.not_mem_nil) List.not_mem_nil) List.not_mem_nil) List.not_mem_nil) List.not_mem_nil) List.not_mem_nil) List.not_mem_nil) List.not_mem_nil) List.not_mem_nil)
    refine ⟨t22, t41, _, _, rfl, rfl, eS, e41, by show 9 + 12 ≤ sizeLine; decide, ?_⟩
    have kHS := ((((((((((((((((((((c1.trans c2).trans c3).trans c4).trans c5).trans c6).trans c7).trans c8).trans c9).trans c10).trans c11).trans c12).trans c13).trans c14).trans c15).trans c16).trans c17).trans c18).trans c19).trans c20).trans c21)
    have kHN := ((((((((((((((((((((((((((((((((((((((((c1.trans c2).trans c3).trans c4).trans c5).trans c6).trans c7).trans c8).trans c9).trans c10).trans c11).trans c12).trans c13).trans c14).trans c15).trans c16).trans c17).trans c18).trans c19).trans c20).trans c21).trans c22).trans c23).trans c24).trans c25).trans c26).trans c27).trans c28).trans c29).trans c30).trans c31).trans c32).trans c33).trans c34).trans c35).trans c36).trans c37).trans c38).trans c39).trans c40).trans c41)
    have nSH : H t22 = none := kHS.free n22 List.not_mem_nil
    have kHE : Kp [] H (upd G41 t22 (.lst ([.ref t1, .ref t2, .ref t4, .ref t7, .ref t10, .ref t13, .ref t16, .ref t19, .ref t21] ++ [.ref t24, .ref t26, .ref t28, .ref t30, .int 5, .non, .str "poly", .ref t31, .ref t32, .ref t34, .ref t37, .ref t40]))) := kHN.own nSH
    have kput : Kp [t22] G41 (upd G41 t22 (.lst ([.ref t1, .ref t2, .ref t4, .ref t7, .ref t10, .ref t13, .ref t16, .ref t19, .ref t21] ++ [.ref t24, .ref t26, .ref t28, .ref t30, .int 5, .non, .str "poly", .ref t31, .ref t32, .ref t34, .ref t37, .ref t40]))) := .put (by simp) eS (fun _ z => by cases z)
    have eE : (upd G41 t22 (.lst ([.ref t1, .ref t2, .ref t4, .ref t7, .ref t10, .ref t13, .ref t16, .ref t19, .ref t21] ++ [.ref t24, .ref t26, .ref t28, .ref t30, .int 5, .non, .str "poly", .ref t31, .ref t32, .ref t34, .ref t37, .ref t40]))) t22 = some (.lst ([.ref t1, .ref t2, .ref t4, .ref t7, .ref t10, .ref t13, .ref t16, .ref t19, .ref t21] ++ [.ref t24, .ref t26, .ref t28, .ref t30, .int 5, .non, .str "poly", .ref t31, .ref t32, .ref t34, .ref t37, .ref t40])) := upd_same
    generalize upd G41 t22 (.lst ([.ref t1, .ref t2, .ref t4, .ref t7, .ref t10, .ref t13, .ref t16, .ref t19, .ref t21] ++ [.ref t24, .ref t26, .ref t28, .ref t30, .int 5, .non, .str "poly", .ref t31, .ref t32, .ref t34, .ref t37, .ref t40])) = GE at kHE kput eE ⊢
    have FE := F0.kp0 kHE
    have nSm : t22 ≠ d ∧ t22 ≠ l := F0.ne nSH
    have x2 : t2 ≠ t22 := ne_of_none (c21.at_ _ _ (c20.at_ _ _ (c19.at_ _ _ (c18.at_ _ _ (c17.at_ _ _ (c16.at_ _ _ (c15.at_ _ _ (c14.at_ _ _ (c13.at_ _ _ (c12.at_ _ _ (c11.at_ _ _ (c10.at_ _ _ (c9.at_ _ _ (c8.at_ _ _ (c7.at_ _ _ (c6.at_ _ _ (c5.at_ _ _ (c4.at_ _ _ (c3.at_ _ _ e2 List.not_mem_nil) List.not_mem_nil) List.not_mem_nil) List.not_mem_nil) List.not_mem_nil) List.not_mem_nil) List.not_mem_nil) List.not_mem_nil) List.not_mem_nil) List.not_mem_nil) List.not_mem_nil) List.not_mem_nil) List.not_mem_nil) List.not_mem_nil) List.not_mem_nil) List.not_mem_nil) List.not_mem_nil) List.not_mem_nil) List.not_mem_nil) n22
    have x25 : t25 ≠ t22 := (ne_of_none (c24.at_ _ _ (c23.at_ _ _ e22 List.not_mem_nil) List.not_mem_nil) n25).symm
    have x31 : t31 ≠ t22 := (ne_of_none (c30.at_ _ _ (c29.at_ _ _ (c28.at_ _ _ (c27.at_ _ _ (c26.at_ _ _ (c25.at_ _ _ (c24.at_ _ _ (c23.at_ _ _ e22 List.not_mem_nil) List.not_mem_nil) List.not_mem_nil) List.not_mem_nil) List.not_mem_nil) List.not_mem_nil) List.not_mem_nil) List.not_mem_nil) n31).symm
    have n_ : ∀ {t : Addr}, t ∉ ms → t ≠ t22 → t ∉ [t22, d, l] := fun {t} h h2 hm => by
      rcases List.mem_cons.mp hm with e | hm
      · exact h2 e
      · exact h (F0.sub t hm)
    refine ⟨_, rfl, d, l, 2, rfl, FE.dk, by decide, by decide, fun r H3 r0 r1 D3 k3 => ⟨rfl, _, rfl, ite2 (fun _ => ?_) (fun _ => ?_)⟩⟩
    · have F3 := FE.go k3 D3
      have kH3 : Kp [d, l] H H3 := (kHE.more (by simp)).trans k3
      refine ⟨_, rfl, _, rfl, ms, d, l, _, .tuple ds, 3, bAny, rfl, by decide, hvv.kp kH3 F0.sub _, hg.f, Nat.le_refl _, by decide +kernel, by show wdAll ds + 3 ≤ 300000; omega, F3, fun v' x' H' a' g' F' k' => k v' x' H' a' (g'.mono (Nat.le_refl _) ?_ ?_) F' (kH3.trans k')⟩
      · show PyData.depthAll ds + 1 + 6 ≤ 8
        omega
      · show 2 * (wdAll ds + 3) + 6000 ≤ 8600
        omega
    · have F3 := FE.go k3 D3
      refine ⟨_, rfl, _, rfl, d, l, t22, _, rfl, F3.dk, sql_of (k3.at_ _ _ eE (by simp [nSm.1, nSm.2])), by simp, by show 21 ≤ 1000000; decide, nSm.1, nSm.2, fun x H4 hx D4 k4 => ?_⟩
      have kE : Kp [t22, d, l] G41 H4 := (kput.more (by simp)).trans ((k3.more (by simp)).trans (k4.more (by simp)))
      have q41 : Kp [t22, d, l] G41 H4 := kE
      have q40 : Kp [t22, d, l] G40 H4 := (c41.more (by simp)).trans q41
      have q39 : Kp [t22, d, l] G39 H4 := (c40.more (by simp)).trans q40
      have q38 : Kp [t22, d, l] G38 H4 := (c39.more (by simp)).trans q39
      have q37 : Kp [t22, d, l] G37 H4 := (c38.more (by simp)).trans q38
      have q36 : Kp [t22, d, l] G36 H4 := (c37.more (by simp)).trans q37
      have q35 : Kp [t22, d, l] G35 H4 := (c36.more (by simp)).trans q36
      have q34 : Kp [t22, d, l] G34 H4 := (c35.more (by simp)).trans q35
      have q33 : Kp [t22, d, l] G33 H4 := (c34.more (by simp)).trans q34
      have q32 : Kp [t22, d, l] G32 H4 := (c33.more (by simp)).trans q33
      have q31 : Kp [t22, d, l] G31 H4 := (c32.more (by simp)).trans q32
      have q30 : Kp [t22, d, l] G30 H4 := (c31.more (by simp)).trans q31
      have q29 : Kp [t22, d, l] G29 H4 := (c30.more (by simp)).trans q30
      have q28 : Kp [t22, d, l] G28 H4 := (c29.more (by simp)).trans q29
      have q27 : Kp [t22, d, l] G27 H4 := (c28.more (by simp)).trans q28
      have q26 : Kp [t22, d, l] G26 H4 := (c27.more (by simp)).trans q27
      have q25 : Kp [t22, d, l] G25 H4 := (c26.more (by simp)).trans q26
      have q24 : Kp [t22, d, l] G24 H4 := (c25.more (by simp)).trans q25
      have q23 : Kp [t22, d, l] G23 H4 := (c24.more (by simp)).trans q24
      have q22 : Kp [t22, d, l] G22 H4 := (c23.more (by simp)).trans q23
      have q21 : Kp [t22, d, l] G21 H4 := (c22.more (by simp)).trans q22
      have q20 : Kp [t22, d, l] G20 H4 := (c21.more (by simp)).trans q21
      have q19 : Kp [t22, d, l] G19 H4 := (c20.more (by simp)).trans q20
      have q18 : Kp [t22, d, l] G18 H4 := (c19.more (by simp)).trans q19
      have q17 : Kp [t22, d, l] G17 H4 := (c18.more (by simp)).trans q18
      have q16 : Kp [t22, d, l] G16 H4 := (c17.more (by simp)).trans q17
      have q15 : Kp [t22, d, l] G15 H4 := (c16.more (by simp)).trans q16
      have q14 : Kp [t22, d, l] G14 H4 := (c15.more (by simp)).trans q15
      have q13 : Kp [t22, d, l] G13 H4 := (c14.more (by simp)).trans q14
      have q12 : Kp [t22, d, l] G12 H4 := (c13.more (by simp)).trans q13
      have q11 : Kp [t22, d, l] G11 H4 := (c12.more (by simp)).trans q12
      have q10 : Kp [t22, d, l] G10 H4 := (c11.more (by simp)).trans q11
      have q9 : Kp [t22, d, l] G9 H4 := (c10.more (by simp)).trans q10
      have q8 : Kp [t22, d, l] G8 H4 := (c9.more (by simp)).trans q9
      have q7 : Kp [t22, d, l] G7 H4 := (c8.more (by simp)).trans q8
      have q6 : Kp [t22, d, l] G6 H4 := (c7.more (by simp)).trans q7
      have q5 : Kp [t22, d, l] G5 H4 := (c6.more (by simp)).trans q6
      have q4 : Kp [t22, d, l] G4 H4 := (c5.more (by simp)).trans q5
      have q3 : Kp [t22, d, l] G3 H4 := (c4.more (by simp)).trans q4
      have q2 : Kp [t22, d, l] G2 H4 := (c3.more (by simp)).trans q3
      have q1 : Kp [t22, d, l] G1 H4 := (c2.more (by simp)).trans q2
      have kk : Kp [d, l] H H4 := (kHE.more (by simp)).trans (k3.trans k4)
      have hP4 := hP.kp kk F0.sub ds
      have leaf : ∀ {v : V} (x : PyData), An ms H4 v x → GoodJ (bAny + 5) 8 8600 x → Q v H4 := fun {v} x a b => k v x H4 a b (F0.go kk D4) kk
      simp only [List.mem_append, List.mem_cons, List.not_mem_nil, or_false] at hx
      rcases hx with (rfl | rfl | rfl | rfl | rfl | rfl | rfl | rfl | rfl) | (rfl | rfl | rfl | rfl | rfl | rfl | rfl | rfl | rfl | rfl | rfl | rfl)
      · exact leaf (.tuple ds.reverse) (.tup (q1.tup _ _ e1) hP4.rev) (⟨fitJ_rev _ _ hf, by show PyData.depthAll ds.reverse + 1 ≤ 8; rw [dep_rev]; omega, by show wdAll ds.reverse + 3 ≤ 8600; rw [wd_rev]; omega⟩)
      · exact leaf (.list ds) (.lst (q2.at_ _ _ e2 (n_ f2 x2)) f2 hP4) (⟨hf, by show PyData.depthAll ds + 1 ≤ 8; omega, by show wdAll ds + 3 ≤ 8600; omega⟩)
      · exact leaf (.tuple (ds ++ ds.take 1)) (.tup (q4.tup _ _ e4) (hP4.append (hP4.take 1))) (catG (ds.take 1) tc.1 (by omega) (by omega))
      · exact leaf (.tuple (ds ++ [.tuple [.int 13, .int 0]])) (.tup (q7.tup _ _ e7) (hP4.append (.cons (.tup (q5.tup _ _ e5) (.cons (.int _) (.cons (.int _) (.nil)))) .nil))) (catG [.tuple [.int 13, .int 0]] (by decide +kernel) (by decide +kernel) (by decide +kernel))
      · exact leaf (.tuple (ds ++ [.tuple [.int 13, .int (-1)]])) (.tup (q10.tup _ _ e10) (hP4.append (.cons (.tup (q8.tup _ _ e8) (.cons (.int _) (.cons (.int _) (.nil)))) .nil))) (catG [.tuple [.int 13, .int (-1)]] (by decide +kernel) (by decide +kernel) (by decide +kernel))
      · exact leaf (.tuple ([.tuple [.int (-1), .int 1]] ++ ds)) (.tup (q13.tup _ _ e13) ((.cons (.tup (q11.tup _ _ e11) (.cons (.int _) (.cons (.int _) (.nil)))) .nil : AnAll ms H4 _ _).append hP4)) (catH [.tuple [.int (-1), .int 1]] (by decide +kernel) (by decide +kernel) (by decide +kernel))
      · exact leaf (.tuple (ds ++ [.tuple [.bool true, .int 2]])) (.tup (q16.tup _ _ e16) (hP4.append (.cons (.tup (q14.tup _ _ e14) (.cons (.bl _) (.cons (.int _) (.nil)))) .nil))) (catG [.tuple [.bool true, .int 2]] (by decide +kernel) (by decide +kernel) (by decide +kernel))
      · exact leaf (.tuple (ds ++ [.tuple [.int 12, .bool true]])) (.tup (q19.tup _ _ e19) (hP4.append (.cons (.tup (q17.tup _ _ e17) (.cons (.int _) (.cons (.bl _) (.nil)))) .nil))) (catG [.tuple [.int 12, .bool true]] (by decide +kernel) (by decide +kernel) (by decide +kernel))
      · exact leaf (.tuple [.tuple [.int 0, .int 1, .int 1]]) (.tup (q21.tup _ _ e21) (.cons (.tup (q20.tup _ _ e20) (.cons (.int _) (.cons (.int _) (.cons (.int _) (.nil))))) .nil)) (small (by decide +kernel) (by decide +kernel) (by decide +kernel))
      · exact leaf (.tuple [.tuple [.int 0]]) (.tup (q24.tup _ _ e24) (.cons (.tup (q23.tup _ _ e23) (.cons (.int _) (.nil))) .nil)) (small (by decide +kernel) (by decide +kernel) (by decide +kernel))
      · exact leaf (.tuple [.list [.int 0, .int 1]]) (.tup (q26.tup _ _ e26) (.cons (.lst (q25.at_ _ _ e25 (n_ f25 x25)) f25 (.cons (.int _) (.cons (.int _) .nil))) .nil)) (small (by decide +kernel) (by decide +kernel) (by decide +kernel))
      · exact leaf (.tuple [.tuple [.str "0", .int 1]]) (.tup (q28.tup _ _ e28) (.cons (.tup (q27.tup _ _ e27) (.cons (.str _) (.cons (.int _) (.nil)))) .nil)) (small (by decide +kernel) (by decide +kernel) (by decide +kernel))
      · exact leaf (.tuple [.tuple [.int 0, .str "1"]]) (.tup (q30.tup _ _ e30) (.cons (.tup (q29.tup _ _ e29) (.cons (.int _) (.cons (.str _) (.nil)))) .nil)) (small (by decide +kernel) (by decide +kernel) (by decide +kernel))
      · exact leaf (.int 5) (.int _) (small (by decide +kernel) (by decide +kernel) (by decide +kernel))
      · exact leaf (.none) (.non) (small (by decide +kernel) (by decide +kernel) (by decide +kernel))
      · exact leaf (.str "poly") (.str _) (small (by decide +kernel) (by decide +kernel) (by decide +kernel))
      · exact leaf (.dict []) (.dct (q31.at_ _ _ e31 (n_ f31 x31)) f31 .nil) (small (by decide +kernel) (by decide +kernel) (by decide +kernel))
      · exact leaf (.tuple [.int 0, .int 1]) (.tup (q32.tup _ _ e32) (.cons (.int _) (.cons (.int _) .nil))) (small (by decide +kernel) (by decide +kernel) (by decide +kernel))
      · exact leaf (.tuple [.tuple [.int 0, .none]]) (.tup (q34.tup _ _ e34) (.cons (.tup (q33.tup _ _ e33) (.cons (.int _) (.cons .non (.nil)))) .nil)) (small (by decide +kernel) (by decide +kernel) (by decide +kernel))
      · exact leaf (.tuple [.tuple [.int 3, .int 2], .tuple [.int 3, .int 1]]) (.tup (q37.tup _ _ e37) (.cons (.tup (q35.tup _ _ e35) (.cons (.int _) (.cons (.int _) .nil))) (.cons (.tup (q36.tup _ _ e36) (.cons (.int _) (.cons (.int _) .nil))) .nil))) (small (by decide +kernel) (by decide +kernel) (by decide +kernel))
      · exact leaf (.tuple [.tuple [.int 3, .int 2], .tuple [.int 2, .int 1]]) (.tup (q40.tup _ _ e40) (.cons (.tup (q38.tup _ _ e38) (.cons (.int _) (.cons (.int _) .nil))) (.cons (.tup (q39.tup _ _ e39) (.cons (.int _) (.cons (.int _) .nil))) .nil))) (small (by decide +kernel) (by decide +kernel) (by decide +kernel))
end
end Ey
set_option maxHeartbeats 4000000
namespace PySem
namespace OwE
open Builtin Builtin.ObjectAttr PySem.HandSPX
/-! ### own exceptions whose chain of own classes ends in Exception -/
abbrev exTl : List Value := [.type "Exception", .type "BaseException", .type "object"]
def refsEx : List Value → Bool
  | .ref _ :: r => refsEx r
  | l => l == exTl
theorem refsEx_cases : ∀ l : List Value, refsEx l = true → (∃ c r, l = .ref c :: r ∧ refsEx r = true) ∨ l = exTl
  | [], e => .inr (beq_iff_eq.mp e)
  | .ref c :: r, e => .inl ⟨c, r, rfl, e⟩
  | .none :: _, e => .inr (beq_iff_eq.mp e)
  | .ellipsis :: _, e => .inr (beq_iff_eq.mp e)
  | .notImplemented :: _, e => .inr (beq_iff_eq.mp e)
  | .bool _ :: _, e => .inr (beq_iff_eq.mp e)
  | .int _ _ :: _, e => .inr (beq_iff_eq.mp e)
  | .float _ _ :: _, e => .inr (beq_iff_eq.mp e)
  | .str _ _ :: _, e => .inr (beq_iff_eq.mp e)
  | .bytes _ _ :: _, e => .inr (beq_iff_eq.mp e)
  | .type _ :: _, e => .inr (beq_iff_eq.mp e)
  | .builtin _ :: _, e => .inr (beq_iff_eq.mp e)
theorem refsEx_pass (self : Value) : ∀ l : List Value, refsEx l = true → refuseLoop self "__setattr__" l = pure () := by
  intro l
  induction l with
  | nil => intro e; exact absurd e (by decide)
  | cons a r ih =>
    intro e
    rcases refsEx_cases (a :: r) e with ⟨c, r', q, h⟩ | q
    · obtain ⟨rfl, rfl⟩ := List.cons.inj q
      rw [refuseLoop_ref]
      exact ih h
    · rw [q]
      exact F.store_Exception.passes self
theorem refsEx_has (X : String) : ∀ l : List Value, refsEx l = true → l.contains (.type X) = exTl.contains (.type X) := by
  intro l
  induction l with
  | nil => intro e; exact absurd e (by decide)
  | cons a r ih =>
    intro e
    rcases refsEx_cases (a :: r) e with ⟨c, r', q, h⟩ | q
    · obtain ⟨rfl, rfl⟩ := List.cons.inj q
      rw [List.contains_cons, ih h]
      rfl
    · rw [q]
theorem refsEx_ne {l : List Value} (e : refsEx l = true) : l.isEmpty = false := by
  cases l with
  | nil => exact absurd e (by decide)
  | cons _ _ => rfl
section
variable {prog : Program} {w : World} {A : Around} {E : Value → Shared → Prop} {R : Result → Shared → Prop} {hp : Heap} {g : Array GenState} {d : Drawn} {t : Nat} {os : OsState}
theorem osa_first {K : W.Frag} {name : Str} {tk : Tok} {v : Value} {x C : Addr} {fv : Array Value} {cd : ClassData}
    (X : K.In hp) (hx : hp.get? x = some { cls := .ref C, data := .fields fv }) (hcd : W.clsIn K C = some cd) (hm : refsEx cd.mro = true) (hh : cd.hasDict = true) (ha : W.findIn K (.ref C) name = some none)
    (hq : ∀ h' tk' dx, (∀ b o, b ≠ x → hp.get? b = some o → h'.get? b = some o) → hp.objs.size ≤ dx → dx ≠ x → h'.get? x = some { cls := .ref C, dict := some dx, data := .fields fv } →
      h'.Ns1 dx (fun y => if y = name then some v else none) → R (.ok (.ret .none)) ⟨h', g, d, tk', os⟩) :
    codeAny (model prog w) A (.call (.builtin "object.__setattr__") ⟨[.ref x, .str name tk, v], []⟩) R ⟨hp, g, d, t, os⟩ := by
  have hIn : W.InstAt hp x { cls := .ref C, data := .fields fv } C none := ⟨hx, rfl, rfl, trivial⟩
  have hSF := F.store_object
  have hne := refsEx_ne hm
  have hobj : cd.mro.contains (.type "object") = true := (refsEx_has "object" _ hm).trans (by decide +kernel)
  have hxs : x ≠ hp.objs.size := Nat.ne_of_lt (Heap.lt_size hx)
  have hsub : W.Looks (model prog w) hp (isInstance (.ref x) (.type "object")) true := hIn.type.andThen (W.looks_mroIn X (by unfold W.mroIn; rw [hcd, Option.bind_some, if_neg (by rw [hne]; decide), hobj]))
  refine codeAny_call_builtin hSF.slot.plain hSF.entry (@W.check_slot (model prog w) _ _ ⟨hp, g, d, t, os⟩ "object.__setattr__" "object" "__setattr__" (.ref x) [.str name tk, v] [] _ hSF.kind hSF.split hsub (hSF.args (.ref x) (.str name tk) v) ?_)
  have hmr : W.Looks (model prog w) hp (mroOf (.ref C)) cd.mro := (W.looks_clsIn X hcd).andThen .now
  have hst : W.Looks (model prog w) hp (storeTaker? none) none := .now
  have hcls : W.Looks (model prog w) hp (classData C) cd := W.looks_clsIn X hcd
  rw [W.osa_eq, refuse_eq]
  refine wpAny_bind (wpAny_bind (hIn.type.at (wpAny_bind (hmr.at ?_))))
  rw [refsEx_pass _ _ hm]
  refine wpAny_pure (wpAny_bind (hIn.type.at (wpAny_bind ((W.looks_findIn X ha).at (wpAny_bind (hst.at ?_))))))
  show wpAny _ _ (storeInOwnDict (.ref x) (.ref C) (.str name tk) name v false) _ _ _
  obtain ⟨nm, bs, mro, ns, qn, hd, sn, sb, ab, col, del⟩ := cd
  dsimp only at hh
  subst hh
  unfold storeInOwnDict ownDictForStores
  repeat (first | with_reducible refine store_in_new ?_ ?_ | with_reducible refine wpAny_loadPart_at hx ?_ | with_reducible refine hcls.at ?_ | wp_step)
  · exact ⟨_, #[], _, (Heap.get?_update_ne _ _ _ _ hxs.symm).trans (Heap.get?_push_at rfl rfl), rfl, fun e he => absurd he (by simp), fun _ => rfl⟩
  · intro h' tk' hn' hs
    have hx₁ : (hp.push { cls := .type "dict", data := .dict #[] }).get? x = some { cls := .ref C, data := .fields fv } := Heap.get?_push_of_some _ hx
    refine hq h' tk' hp.objs.size (fun b o hb ho => ?_) (Nat.le_refl _) hxs.symm ?_ hn'
    · exact (hs.2 b (Nat.ne_of_lt (Heap.lt_size ho))).trans ((Heap.get?_update_ne _ _ _ _ hb).trans (Heap.get?_push_of_some _ ho))
    · exact (hs.2 x hxs).trans (Heap.get?_update_self _ hx₁ rfl)
end
end OwE
end PySem
set_option maxHeartbeats 4000000
namespace PySem
namespace OwE
open PySem PySem.Spec PySem.Calls PyProof.Rows PySem.W
/-! ### isinstance of a caught own exception that has a dict -/
section
variable {prog : Program} {w : World} {A : Around} {E : Value → Shared → Prop} {s : Shared} {K : Frag} {e D : Addr} {oE : Obj} {dE : Option Obj}
/-- what the class says of its own __class__ -/
structure SaysC (K : Frag) (D : Addr) : Prop where
  ga : findIn K (.ref D) "__getattribute__" = some (some (.builtin "BaseException.__getattribute__"))
  gg : findIn K (.ref D) "__getattr__" = some none
  sb : subIn K (.ref D) (.type "BaseException") = some true
  hd : hasDictIn K D = true
  cl : findIn K (.ref D) "__class__" = some (some (.builtin "object.__class__"))
  sp : specialIn K (.builtin "object.__class__") "__get__" = some (some (.builtin "getset_descriptor.__get__"))
  tk : takesIn K (.builtin "object.__class__") = some true
  mo : mroIn K D (.type "object") = some true
theorem SaysC.found (S : SaysC K D) : findObj K D dE "__class__" = some (.bind (.builtin "getset_descriptor.__get__") (.builtin "object.__class__")) := by
  obtain ⟨cd, hc, _⟩ := any_some S.hd
  unfold findObj
  rw [hc, Option.bind_some, S.cl, Option.bind_some]
  simp [S.sp, S.tk]
theorem asked_class {Q : Option Value → Shared → Prop} (S : SaysC K D) (hK : K.In s.heap) (hI : InstAt s.heap e oE D dE) (hq : Q (some (.ref D)) { s with toks := s.toks + 1 }) : wpAny (model prog w) A (getAttr? (.ref e) "__class__") Q E s := by
  have hf := S.found (dE := dE)
  obtain ⟨hp, gg, dd, tt, oo⟩ := s
  have hT := hI.type (M := model prog w)
  have hA := looks_findIn (M := model prog w) hK S.ga
  have hB := looks_findIn (M := model prog w) hK S.gg
  have hC := looks_find (M := model prog w) hK hI hf
  have hS : Looks (model prog w) hp (isInstance (.ref e) (.type "BaseException")) true := hT.andThen (looks_subIn hK S.sb)
  have n0 : (false && onTheHeap (Value.builtin "BaseException.__getattribute__")) = false := rfl
  have n2 : (Value.builtin "BaseException.__getattribute__" == Value.builtin "object.__getattribute__") = false := by decide +kernel
  have n1 : (onTheHeap (Value.ref D) && Value.builtin "BaseException.__getattribute__" == Value.builtin "object.__getattribute__") = false := by
    rw [n2]
    rfl
  unfold getAttr?
  unfold getAttrBy? getAttrBy
  refine wpAny_bind (wpAny_mkText (wpAny_bind (wpAny_attempt (wpAny_holding (wpAny_bind (hT.at (wpAny_bind (hA.at ?_))))))))
  show wpAny _ _ (if (onTheHeap (Value.ref D) && Value.builtin "BaseException.__getattribute__" == Value.builtin "object.__getattribute__") = true then _ else _) _ _ _
  rw [n1, if_neg Bool.false_ne_true]
  unfold getAttrByItsOwn
  unfold hookBefore
  refine wpAny_bind ?_
  rw [if_pos (show (onTheHeap (Value.ref D)) = true from rfl)]
  refine hB.at ?_
  refine wpAny_bind (wpAny_attempt ?_)
  refine wpAny_holding ?_
  unfold callGetattribute
  rw [n0, if_neg Bool.false_ne_true]
  unfold boundAndCalled
  rw [PySem.F.excAttr_ValueError.ga.bind (.ref e)]
  refine wpAny_bind (wpAny_pure ?_)
  show wpAny _ _ (call (.builtin "BaseException.__getattribute__") [.ref e, .str "__class__" tt]) _ _ _
  refine wpAny_call ?_
  refine codeAny_call_builtin PySem.F.excAttr_ValueError.ga.plain PySem.F.entry_bexc_ga ?_
  refine @check_slot (model prog w) _ _ ⟨hp, gg, dd, tt + 1, oo⟩ "BaseException.__getattribute__" "BaseException" "__getattribute__" (.ref e) [.str "__class__" tt] [] _ (by decide +kernel) (by decide +kernel) hS (PySem.F.args_bexc_ga (.ref e) (.str "__class__" tt)) ?_
  unfold Builtin.«object.__getattribute__»
  refine wpAny_bind (wpAny_of_eq (a := ((Value.ref e : Value), [Value.str "__class__" tt])) (by first | rfl | (simp only [slotArgs]; rfl)) ?_)
  refine wpAny_bind (wpAny_pure (wpAny_bind (hT.at (wpAny_bind (hC.at ?_)))))
  show wpAny _ _ (holding [Value.builtin "object.__class__"] (call (.builtin "getset_descriptor.__get__") [.builtin "object.__class__", .ref e, .ref D]) >>= ret) _ _ _
  refine wpAny_bind (wpAny_holding (wpAny_call (class_get (s := ⟨hp, gg, dd, tt + 1, oo⟩) (ox := oE) (od := dE) hK hI S.mo ?_)))
  refine wpAny_pure ?_
  show wpAny _ _ (handedOut (.ref D)) _ _ _
  rw [handedOut_of (v := Value.ref D) rfl]
  first
    | exact wpAny_pure (wpAny_pure hq)
    | exact wpAny_pure hq
    | exact wpAny_pure (wpAny_bind (wpAny_pure (wpAny_pure hq)))
theorem kitx (S : SaysC K D) : KitX K (.ref e) (.ref D) (fun h => InstAt h e oE D dE) where
  ty := fun _ _ _ hI => hI.type
  it := fun _ _ hK _ => by
    obtain ⟨cd, hc, _⟩ := any_some S.hd
    unfold clsIn at hc
    split at hc
    · rename_i c' d' cd' sl' ho
      intro A' Q' E' s' k q
      unfold isType
      unfold loadHead
      exact wpAny_bind (wpAny_loadPart (k _ _ (hK _ _ ho)) (wpAny_pure q))
    · cases hc
  ne := fun h tp dd its n sl hK htp => by
    obtain ⟨cd, hc, _⟩ := any_some S.hd
    refine Bool.eq_false_iff.mpr fun q => ?_
    have hh : D = tp := Value.ref.inj (beq_iff_eq.mp q)
    subst hh
    unfold clsIn at hc
    split at hc
    · rename_i c' d' cd' sl' ho
      have z := (hK _ _ ho).symm.trans htp
      cases z
    · cases hc
  ca := fun hK hI k => asked_class S hK hI k
end
end OwE
end PySem
namespace L2
open PySem PySem.Spec PyProof.Rows
/-- isinstance(e, c), e the exception that the suite holds, its class D, its dict at dd -/
def rIsE2 (K : PySem.W.Frag) (D a : Addr) (cls : Value) (d : Option Addr) : List V → Hp → VK → Prop := fun xs H Q => cls = .ref D ∧ ∃ (dd : Addr) (fs : List (Str × V)), d = some dd ∧ H dd = some (.xd fs) ∧ rIsE K D a xs H Q
theorem call_isE2 {X : Cx} {a D : Addr} {oe : Obj} {pn : List (Addr × Obj)} {cls : Value} {d : Option Addr} (S : PySem.OwE.SaysC X.K D) (hz : Zc cls d oe) (hf : ∃ vs, oe.data = .fields vs) :
    CallR (X.suite a ((a, oe) :: pn)) (.builtin "isinstance") (rIsE2 X.K D a cls d) := by
  intro pins s σ H xs us Q I r h
  obtain ⟨ec, dd, fs, ed, hdd, c, cv, b, rfl, hcv, e, q⟩ := h
  subst ec
  subst ed
  cases r with
  | cons rx rr =>
    cases rr with
    | cons rt rr =>
      cases rr
      cases rx
      have ec := hcv _ rt
      subst ec
      obtain ⟨hget, _⟩ := I.pin (a, oe) (List.mem_append.mpr (.inl List.mem_cons_self))
      have hx : ObjOk X.prog X.w H s.heap dd (.xd fs) := I.hok dd _ hdd
      obtain ⟨mA, hns, _⟩ := hx
      obtain ⟨od, ho, _⟩ := lookIn_ns hns
      have J : PySem.W.InstAt s.heap a oe D (some od) := ⟨hget, hz.1, by unfold PySem.W.notCls; obtain ⟨vs, hd⟩ := hf; rw [hd] <;> rfl, by rw [hz.2]; exact ho⟩
      exact PySem.W.kia_one (PySem.OwE.kitx S) I.kIn J e (fun z => nomatch z) fun tk => ⟨.bl b, H, I.kept (t' := tk) fun _ _ z => z, rfl, q⟩
end L2
set_option maxHeartbeats 4000000
namespace Ey
open PySem PySem.Spec PyProof.Rows L2 LamX
/-! ### x(lambda: e): nothing but the table of the running code is another one behind it -/
section
variable {X : Cx} {pins : List (Addr × Obj)} {σ : L2.St} {H : Hp} {s : Shared}
theorem lam_made {c P : Addr} {lp : Arguments} {lb : Expr} {ls : Scope} {pos : Pos} {E Q : Value → Shared → Prop} (hI : Inv X pins σ H s) (TB : LamX.TabB X.base X.mg c P) (hcode : X.env.code = .ref c)
    (hT : TabS H P (X.env.qual ++ "<lambda>")) (hdef : defaultsOf lp X.env = ([], [])) (hfree : ∀ y ∈ ls.names, y.2 = .free → ∃ c, X.env.cells.lookup y.1 = some c)
    (next : ∀ (f cN : Addr) (pm ctv : Value) (H1 : Hp) (sN : Shared), Inv X pins σ H1 sN → Kp [P] H H1 → TabS H1 P (X.env.qual ++ "<lambda>") →
      sN.heap.get? f = some (PySem.W.kla_obj "<lambda>" (X.env.qual ++ "<lambda>") lp lb ls (cloFrom X.env.cells ls.names []) pm cN ctv) → H1 f = none → f ∉ frs X.stack → H1 cN = some (CodeO cN (X.env.qual ++ "<lambda>")) → Q (.ref f) sN) :
    wpAny (model X.prog X.w) X.A (eval (.Lambda lp lb ls pos) X.env) Q E s := by
  obtain ⟨qs, hP, okq, named⟩ := hT
  refine PySem.W.kla_eval hdef ?_
  have bltP : s.heap.BuiltinsAt X.mg P := TB.bm.keeps hI.bk
  have atP : s.heap.get? P = some { cls := .none, data := .fields qs } := hI.hok P _ hP
  have noFr : ∀ f, s.heap.objs.size ≤ f → f ∉ frs X.stack := by
    intro f hf z
    rcases List.mem_cons.mp (hI.stkSub _ z) with e | e
    · have hl := hI.lt
      rw [← e] at hl
      exact absurd (Nat.lt_of_lt_of_le hl hf) (Nat.lt_irrefl _)
    · exact hI.nofs hf e
  cases hc : codeAmong pos qs.toList with
  | none =>
    refine PySem.W.kla_makeFunction (mg := X.mg) (c := c) (P := P) (ps := qs) (closure_ok hfree) hI.ok.glob (hI.mod.glob.keeps hI.bk) hcode (TB.code.keeps hI.bk) atP okq hc TB.gP bltP fun cN ctv hN tN kx kge klt krec ktab => ?_
    obtain ⟨c2, oc, vs, t, e2, hoc, hd, hv⟩ := krec
    cases e2
    have size_le : s.heap.objs.size ≤ hN.objs.size := Nat.le_trans kge (Nat.le_of_lt klt)
    have freeC : H cN = none := hI.hok.fresh kge
    have J := inv_table (t' := tN) (more := #[rawInt pos.line, rawInt pos.col, .ref cN]) (h' := hN.push (PySem.W.kla_obj "<lambda>" (X.env.qual ++ "<lambda>") lp lb ls (cloFrom X.env.cells ls.names []) ((X.mg "__name__").getD .none) cN ctv)) hI hP
      (fun b o hb e => Heap.get?_push_of_some _ (kx b o hb e)) (Heap.get?_push_of_some _ ktab) kge ⟨oc, vs, t, Heap.get?_push_of_some _ hoc, hd, hv⟩
    have neC : ∀ b o, H b = some o → b ≠ cN := fun b o e => ne_of_none e freeC
    have kp : Kp [P] H (upd (upd H P (.tbl (qs ++ #[rawInt pos.line, rawInt pos.col, .ref cN]))) cN (CodeO cN (X.env.qual ++ "<lambda>"))) := by
      refine ⟨fun b o e n => ?_, fun b xs e => ?_⟩
      · rw [upd_ne (neC b o e), upd_ne (fun z => n (by rw [z]; simp))]
        exact e
      · rw [upd_ne (neC b _ e), upd_ne (fun z => by rw [z, hP] at e; cases e)]
        exact e
    have eqL : (qs ++ #[rawInt pos.line, rawInt pos.col, .ref cN]).toList = qs.toList ++ [rawInt pos.line, rawInt pos.col, .ref cN] := by simp
    refine next hN.objs.size cN ((X.mg "__name__").getD .none) ctv _ _ J kp ⟨_, by rw [upd_ne (neC P _ hP), upd_same], ?_, ?_⟩ (Heap.get?_push_size _ rfl) ?_ (noFr _ size_le) upd_same
    · rw [eqL]
      exact PySem.TriplesOk_snoc _ _ _ _ okq
    · intro p2 cv hcv
      rw [eqL] at hcv
      rcases among_app _ okq hcv with z | z
      · obtain ⟨c0, e1, e2⟩ := named p2 cv z
        refine ⟨c0, e1, ?_⟩
        rw [upd_ne (neC c0 _ e2), upd_ne (fun z => by rw [z, hP] at e2; exact codeO_ne _ (Option.some.inj e2).symm)]
        exact e2
      · exact ⟨cN, z, upd_same⟩
    · have n1 : hN.objs.size ≠ cN := Nat.ne_of_gt klt
      have n2 : hN.objs.size ≠ P := Nat.ne_of_gt (Nat.lt_of_lt_of_le (Heap.lt_size atP) size_le)
      rw [upd_ne n1, upd_ne n2]
      exact hI.hok.fresh size_le
  | some cv =>
    obtain ⟨cN, e, hco⟩ := named pos cv hc
    subst e
    refine PySem.W.kla_makeFunctionHit (mg := X.mg) (c := c) (P := P) (ps := qs) (closure_ok hfree) hI.ok.glob (hI.mod.glob.keeps hI.bk) hcode (TB.code.keeps hI.bk) atP okq hc bltP fun ctv hN tN kx ksz => ?_
    have J : Inv X pins σ H { s with heap := hN.push (PySem.W.kla_obj "<lambda>" (X.env.qual ++ "<lambda>") lp lb ls (cloFrom X.env.cells ls.names []) ((X.mg "__name__").getD .none) cN ctv), toks := tN } := hI.kept fun b o e => Heap.get?_push_of_some _ (kx b o e)
    exact next hN.objs.size cN ((X.mg "__name__").getD .none) ctv H _ J .refl ⟨qs, hP, okq, named⟩ (Heap.get?_push_size _ rfl) (hI.hok.fresh ksz) (noFr _ ksz) hco
end
/-- what is asked: the table; then what the def makes of the lambda's reading -/
def tLamK (P : Addr) (q : Str) (TT : (XK → Hp → VK → Prop) → Hp → VK → Prop) (t : XK → TE) : TE := fun σ H Q => TabS H P q ∧ ∀ H1, Kp [P] H H1 → TabS H1 P q → TT (fun E H' Q' => t E σ H' Q') H1 Q
section
variable {X : Cx}
theorem pe_lamK {TT : (XK → Hp → VK → Prop) → Hp → VK → Prop} {x a : Str} {g c P : Addr} {k : Nat} {pg : Arguments} {bg : List Stmt} {sg : Scope} {dV kV doc pm cdv ct oc : Value} {an od : Option Addr} {osl : Array (Option Value)} {Ng : List Str}
    {lp : Arguments} {lb : Expr} {ls : Scope} {t : XK → TE} {p lpos pos : Pos} (hg : Gl X x) (hm : X.mg x = some (.ref g)) (hk : PySem.W.keepIn X.K (.ref g) = true)
    (lk : X.K.lookup g = some ⟨oc, od, .func (PySem.W.fnOf x x pg bg sg dV kV doc pm an cdv ct), osl⟩) (hcg : PySem.W.codeIn X.K cdv x = true) (hb : L2.Binds X.K (PySem.W.fnOf x x pg bg sg dV kV doc pm an cdv ct) [a] []) (Sg : FnScope Ng [a] sg) (hNg : Ng[0]? = some a) (hva : Vis sg a)
    (hG : GivesTo X Ng x sg g cdv bg a (X.env.qual ++ "<lambda>") TT)
    (TB : LamX.TabB X.base X.mg c P) (hcode : X.env.code = .ref c) (hr : Room (k + 2) X.A) (L : LamS X.env.scope ls) (hdef : defaultsOf lp X.env = ([], []))
    (hbind : ∀ (q : Str) (cl : List (Str × Addr)) (pm cv ctv : Value), bindArgs (PySem.W.kla_fn "<lambda>" q lp lb ls cl pm cv ctv) ⟨[], []⟩ = pure [])
    (hbody : ∀ (A : Around) (outer : List Env) (s : Shared) (H : Hp) (E : XK) (f c' : Addr), Room k (A.deeper (lamEnv X ls s.heap.objs.size f c')) → PE (lamCx X A outer s H E ls f c') lb (t E))
    (hdb : (x == ("__debug__" : Str)) = false := by decide) (hd : (a == ("__debug__" : Str)) = false := by decide) (hcd : (a == ("__classdict__" : Str)) = false := by decide) :
    PE X (.Call (.Name x p) [.Lambda lp lb ls lpos] [] pos) (tLamK P (X.env.qual ++ "<lambda>") TT t) := by
  refine ⟨fun pins s σ H Q hI h => ?_⟩
  obtain ⟨hT, h⟩ := h
  refine wpAny_Call_Name_kw (ld_glob hI hg hm ?_ hdb)
  refine PySem.W.callWith_K (h₀ := X.base) hI.ok.mod.kin hk ?_ (by rfl) (by rfl)
  show wpAny _ _ (spliced ((false, eval (.Lambda lp lb ls lpos) X.env) :: backTo pos (starEach [] X.env))) _ _ s
  refine Calls.spliced_cons (lam_made hI TB hcode hT hdef (L.has hI.ok) fun f cN pmN ctv H1 sN J kp T1 hf hfn hfr hco => ?_)
  refine Calls.spliced_nil ⟨J.kIn, ?_⟩
  have rc : codeAny (model X.prog X.w) X.A (.call (.ref g) ⟨[.ref f], []⟩) (CR C8.CX0 X.stack X.prog X.w H1 sN Q C8.E0) sN := by
    refine run_ofS (N := Ng) (ps := [a]) (us := [.ref f]) (vs := [.ref f]) lk hcg Sg hr J.env0 (hb sN [.ref f] J.kIn rfl) (.cons rfl .nil) rfl fun hr' => ?_
    obtain ⟨t1, ht1, hq1⟩ := hG f cN sN H1 Q (fun E H' Q' => t E σ H' Q') (fun W pn xe E p1 p2 tk hW => pe_act (i := 0) J L hf hfn hfr (hbind _ _ _ _ _) tk hW hr' (fun A outer s H hr2 => hbody A outer s H E f cN hr2) hNg hva hd hcd) hco (h H1 kp T1)
    exact ⟨t1, ht1.nox, hq1⟩
  refine wpAny_call (codeAny_mono rc fun r s2 hq => ?_)
  cases r with
  | error e => exact (show False from hq).elim
  | ok fl =>
    cases fl with
    | ret u => exact J.after hq
    | next => exact False.elim hq
    | brk => exact False.elim hq
    | cont => exact False.elim hq
end
/-- repr, wherever there is room in the units -/
theorem cr_reprU {X : Cx} (hs : ∃ mm, X.base.Ns sysModules mm) (hg : X.A.guards = some []) (hu : X.A.units + 200 < cLine) : CallR X (.builtin "repr") rReprE := by
  intro pins s σ H xs us Q I r h
  obtain ⟨ms, v, d, rfl, hd, hf, hp, hz, q⟩ := h
  obtain ⟨u, rfl, ru⟩ := vals1 r
  obtain ⟨as, rd, ns⟩ := An.reads I hs d hd ru
  obtain ⟨sh, ln⟩ := fit_told d hf
  have z : d.shown.length ≤ sizeLine := Nat.le_trans ln (Nat.le_trans hz (by decide))
  have room : X.A.units + (d.depth + 1) < cLine := by omega
  have fin : ∀ (hN : Heap) (tk : Nat) (t : Tok), (∀ b o, s.heap.get? b = some o → hN.get? b = some o) → EP X pins σ Q (.str d.shown t) { s with heap := hN, toks := tk } :=
    fun hN tk t hk => ⟨.str d.shown, H, I.kept hk, ⟨t, rfl⟩, q⟩
  cases rd with
  | none => exact PySem.P.repr_of_none (fin s.heap _ _ fun _ _ e => e)
  | bool b => exact PySem.P.repr_of_bool (fin s.heap _ _ fun _ _ e => e)
  | int i t => exact PySem.P.repr_of_int (of_decide_eq_true sh) (fin s.heap _ _ fun _ _ e => e)
  | str x t => exact PySem.P.repr_of_str (fin s.heap _ _ fun _ _ e => e) z
  | list a b c e => exact repr_of_reads' (.list a b c e) sh (fun _ => ns) hg room (fun _ _ e => e) (fun hN u tk hk => fin hN tk u hk) z
  | tuple a b c e => exact repr_of_reads' (.tuple a b c e) sh (fun _ => ns) hg room (fun _ _ e => e) (fun hN u tk hk => fin hN tk u hk) z
  | dict a b c e f => exact repr_of_reads' (.dict a b c e f) sh (fun _ => ns) hg room (fun _ _ e => e) (fun hN u tk hk => fin hN tk u hk) z
end Ey
set_option maxHeartbeats 4000000
namespace PySem
namespace BadPolyX
open PySem.W PySem.Calls PyProof.Rows PySem.HandSPX
/-! ### the text of __init__ -/
def iA (p1 p2 : Pos) : Arguments := { posonlyargs := [], args := [{ arg := "self", annotation := none, pos := p1 }, { arg := "thing", annotation := none, pos := p2 }], vararg := none, kwonlyargs := [], kw_defaults := [], kwarg := none, defaults := [] }
def iB (q1 q2 q3 q4 : Pos) : List Stmt := [.Assign [.Attribute (.Name "self" q1) "thing" q2] (.Name "thing" q3) q4]
def iS : Scope := { kind := .function, names := [(PySem.Str.ofString "self", .local), (PySem.Str.ofString "thing", .local)], isGenerator := false, isCoroutine := false, more := [] }
/-- what the written part says of Low, at C, and of its __init__, at fI -/
structure BadPolyTxt (K : Frag) (mg : Str → Option Value) (C fI : Addr) : Prop where
  gC : mg "BadPoly" = some (.ref C)
  cls : ∃ nm q N bs bm sn sub ab col dd k0 k1 k2 k3 k5, K.lookup C = some (excClassObj nm q C N bs bm true sn sub ab col dd k0 k1 k2 k3 k5 "Exception.__new__") ∧ OwE.refsEx bm = true
  sa : findIn K (.ref C) "__setattr__" = some (some (.builtin "object.__setattr__"))
  ga : findIn K (.ref C) "__getattribute__" = some (some (.builtin "BaseException.__getattribute__"))
  gg : findIn K (.ref C) "__getattr__" = some none
  noN : findIn K (.ref C) "thing" = some none
  iC : findIn K (.ref C) "__init__" = some (some (.ref fI))
  tC : typeIn K (.ref fI) = some (.type "function")
  kC : keepIn K (.ref C) = true
  exC : subIn K (.ref C) (.type "BaseException") = some true
  tyC : typeIn K (.ref C) = some (.type "type")
  hdC : hasDictIn K C = true
  te : exmOne K (.ref C) (.ref C) = some true
  fn : ∃ (oc : Value) (od : Option Addr) (doc pm : Value) (an : Option Addr) (cdv ct : Value) (osl : Array (Option Value)) (p1 p2 q1 q2 q3 q4 : Pos),
    K.lookup fI = some ⟨oc, od, .func (fnOf "__init__" "BadPoly.__init__" (iA p1 p2) (iB q1 q2 q3 q4) iS .none .none doc pm an cdv ct), osl⟩ ∧ codeIn K cdv "BadPoly.__init__" = true
theorem one_size (v : Value) : [v].length ≤ sizeLine := by
  rw [sizeLine_eq]
  exact (by decide : 1 ≤ 16777216)
theorem kept_but {K : Frag} {h h' : Heap} {x : Addr} (X : K.In h) (hx : K.lookup x = none) (k : ∀ b o, b ≠ x → h.get? b = some o → h'.get? b = some o) : K.In h' := fun a o e =>
  k a o (fun z => by rw [z, hx] at e; cases e) (X a o e)
theorem ldC {M : Model} {s : Shared} {name : Str} {scope : Scope} {L a : Addr} {cd : Value} {m : Str → Option Value} {x : Str} {pos : Pos} {v : Value} {Q : Value → Shared → Prop} {A : Around} {E : Value → Shared → Prop} (hn : s.heap.Ns L m) (hv : m x = some v) (h : Q v s)
    (hk : scope.kind = .function := by rfl) (hl : (envOfC name scope L a cd).kindOf x = some .local := by rfl) (hd : (x == ("__debug__" : Str)) = false := by decide) :
    wpAny M A (eval (.Name x pos) (envOfC name scope L a cd)) Q E s := wpAny_Name (wpAny_loadName_local hk hl hn hv h) hd
/-- what __init__ leaves of a fresh exception at x -/
structure InitEnd (h h' : Heap) (x C dx t1 : Addr) (v : Value) : Prop where
  keep : ∀ b o, b ≠ x → h.get? b = some o → h'.get? b = some o
  obj : h'.get? x = some { cls := .ref C, dict := some dx, data := .fields #[.ref t1, .none, .none, .none, .bool false, .none] }
  dbig : h.objs.size ≤ dx
  dne : dx ≠ x
  ns : h'.Ns1 dx (fun y => if y = "thing" then some v else none)
/-- a made Low -/
structure OwnMade (h h' : Heap) (e C d : Addr) (v : Value) : Prop where
  keep : ∀ b o, h.get? b = some o → h'.get? b = some o
  new : h.objs.size ≤ e
  obj : ∃ oe vs, h'.get? e = some oe ∧ oe.cls = .ref C ∧ oe.dict = some d ∧ oe.data = .fields vs ∧ vs[1]? = some .none
  dbig : h.objs.size ≤ d
  dne : d ≠ e
  ns : h'.Ns1 d (fun y => if y = "thing" then some v else none)
section
variable {prog : Program} {w : World} {A : Around} {E : Value → Shared → Prop} {R : Result → Shared → Prop} {s : Shared} {K : Frag} {mg : Str → Option Value} {C fI : Addr}
theorem low_init (T : BadPolyTxt K mg C fI) {x t0 : Addr} {v : Value} (X : K.In s.heap) (hlim : s.heap.NoLimit) (hx : s.heap.get? x = some (excO C t0)) (hnx : K.lookup x = none) (hroom : A.depth < recursionLimit)
    (hq : ∀ h' tk dx, InitEnd s.heap h' x C dx t0 v → R (.ok (.ret .none)) { s with heap := h', toks := tk }) :
    codeAny (model prog w) A (.call (.ref fI) ⟨[.ref x, v], []⟩) R s := by
  obtain ⟨oc, od, doc, pm, an, cdv, ct, osl, p1, p2, q1, q2, q3, q4, ho, hcd⟩ := T.fn
  obtain ⟨nm, q, N, bs, bm, sn, sub, ab, col, dd, k0, k1, k2, k3, k5, hC, hbm⟩ := T.cls
  have hcl : clsIn K C = some { name := nm, bases := bs, mro := .ref C :: bm, ns := N, qualname := q, hasDict := true, slotNames := sn, subclasses := sub, abstract := ab, collection := col, hasDel := false } := by unfold clsIn; rw [hC] <;> rfl
  refine Att.call_fn (binds := [("self", .ref x), ("thing", v)]) X hlim ho hcd hroom (BindsTo.of_eq (by first | rfl | with_unfolding_all rfl)) (by first | rfl | decide | with_unfolding_all rfl) (fun s₁ IC => ?_) rfl rfl rfl
  obtain ⟨h₁, tk₁, rfl⟩ := IC.toInCall.same
  have k : ∀ b o, s.heap.get? b = some o → h₁.get? b = some o := IC.toInCall.keep
  have hn := IC.toInCall.ns
  have hxL : s.heap.objs.size ≠ x := Nat.ne_of_gt (Heap.lt_size hx)
  have X₁ : K.In h₁ := X.keeps k
  have hx₁ := k _ _ hx
  -- self.by = by
  show wpAny _ _ (execs _ _) _ _ _
  refine wpAny_execs_cons (plainObj_wpAny_Assign_Attribute ?_)
  refine ldC (v := v) hn (by first | rfl | with_unfolding_all rfl | kernel_rfl) (ldC (v := .ref x) hn (by first | rfl | with_unfolding_all rfl | kernel_rfl) ?_)
  refine set_plain X₁ (ox := excO C t0) (od := none) ⟨hx₁, rfl, rfl, trivial⟩ T.sa ?_
  refine OwE.osa_first X₁ hx₁ hcl (show OwE.refsEx (.ref C :: bm) = true from hbm) rfl T.noN (fun h₃ tk₃ dx k₃ dn dne hx₃ hn₃ => ?_)
  show wpAny _ _ (execs _ _) _ _ _
  have z : s.heap.objs.size < h₁.objs.size := hn.lt
  exact wpAny_execs_nil (hq h₃ tk₃ dx ⟨fun b o hb e => k₃ b o hb (k b o e), hx₃, Nat.le_of_lt (Nat.lt_of_lt_of_le z dn), dne, hn₃⟩)
theorem low_made (T : BadPolyTxt K mg C fI) {v : Value} (X : K.In s.heap) (hlim : s.heap.NoLimit) (hroom : A.depth + 1 < recursionLimit)
    (hq : ∀ h' tk e d, OwnMade s.heap h' e C d v → R (.ok (.ret (.ref e))) { s with heap := h', toks := tk }) :
    codeAny (model prog w) A (.call (.ref C) ⟨[v], []⟩) R s := by
  obtain ⟨nm, q, N, bs, bm, sn, sub, ab, col, dd, k0, k1, k2, k3, k5, hC, hbm⟩ := T.cls
  obtain ⟨hp, g, dr, tk, os⟩ := s
  have k : ∀ b o, hp.get? b = some o → ((hp.push (kdv_tup [v])).push (excO C hp.objs.size)).get? b = some o := fun b o e => Heap.get?_push_of_some _ (Heap.get?_push_of_some _ e)
  have hget : ((hp.push (kdv_tup [v])).push (excO C hp.objs.size)).get? (hp.objs.size + 1) = some (excO C hp.objs.size) := by heap_get
  have hnx : K.lookup (hp.objs.size + 1) = none := by
    cases e : K.lookup (hp.objs.size + 1) with
    | none => rfl
    | some o =>
      have z : hp.get? (hp.objs.size + 1) = some o := X _ _ e
      exact absurd (Nat.lt_of_succ_lt (Heap.lt_size z)) (Nat.lt_irrefl _)
  refine call_own F.excBase_Exception (fun X => OwE.refsEx_has X bm hbm) (X _ _ hC) (looks_findIn X T.iC) (fun self => bind_fn X self T.tC) (one_size v) ?_
  refine low_init (s := ⟨(hp.push (kdv_tup [v])).push (excO C hp.objs.size), g, dr, tk, os⟩) T (X.keeps k) (hlim.keeps k) hget hnx ?_ fun h' tk' dx ⟨k', hx, dn, dne, hns⟩ => ?_
  · show A.depth + 1 < recursionLimit
    exact hroom
  · have old : ∀ b o, hp.get? b = some o → h'.get? b = some o := fun b o e => k' b o (Nat.ne_of_lt (Nat.lt_succ_of_lt (Heap.lt_size e))) (k b o e)
    have z : hp.objs.size + 1 + 1 ≤ dx := by
      first
        | (simpa only [Heap.size_push] using dn)
        | exact dn
        | (have q := dn; rw [Heap.size_push, Heap.size_push] at q; exact q)
    exact ⟨rfl, hq h' tk' (hp.objs.size + 1) dx ⟨old, Nat.le_succ _, ⟨_, _, hx, rfl, rfl, rfl, rfl⟩, Nat.le_trans (Nat.le_trans (Nat.le_succ _) (Nat.le_succ _)) z, dne, hns⟩⟩
end
end BadPolyX
end PySem
namespace L2
open PySem PySem.Spec PyProof.Rows
theorem relO_BadPoly {v : V} {v' : Value} (r : RelV v v') (f : Str) : RelO (List.lookup f [(("thing" : Str), v)]) (if f = "thing" then some v' else none) := by
  by_cases hw : f = "thing"
  · subst hw
    rw [if_pos rfl]
    have q : List.lookup ("thing" : Str) [(("thing" : Str), v)] = some v := by simp [List.lookup]
    rw [q]
    exact r
  · rw [if_neg hw]
    have qw : (f == ("thing" : Str)) = false := by simpa using hw
    have q2 : List.lookup f [(("thing" : Str), v)] = none := by simp [List.lookup, qw]
    rw [q2]
    trivial
section
variable {X : Cx} {C fI : Addr}
/-- Low(e) -/
def tMkBadPoly (C : Addr) (ta : TA) : St → Hp → XK → Prop := fun σ H Q => ta σ H fun vs H1 => ∃ v, vs = [v] ∧ ∀ d, H1 d = none → Q (.ref C) (some d) (upd H1 d (.xd [(("thing" : Str), v)]))
theorem pmk_BadPoly {a : Expr} {ta : TA} {p pos : Pos} {k : Nat} (T : PySem.BadPolyX.BadPolyTxt X.K X.mg C fI) (hr : Room k X.A) (ha : PA X [a] ta) (hg : Gl X "BadPoly" := by rfl)
    (he : starEach (a :: []) X.env = (false, eval a X.env) :: starEach [] X.env := by rfl) (hpl : (backTo pos (starEach [] X.env)).any (·.1) = false := by rfl) :
    PMk X (.Call (.Name "BadPoly" p) [a] [] pos) (tMkBadPoly C ta) := by
  intro pins s σ H Q I h
  refine wpAny_Call_Name_kw (ld_glob I hg T.gC ?_)
  refine PySem.W.callWith_K (h₀ := X.base) I.ok.mod.kin T.kC (thn (ha.run pos pins s σ H _ I h) fun us s1 hh => ?_) he hpl
  obtain ⟨vs, H1, I1, r1, v, ev, q1⟩ := hh
  subst ev
  refine ⟨I1.kIn, ?_⟩
  cases r1 with
  | cons rv rn =>
    rename_i v' us'
    cases rn
    show wpAny _ _ (call (.ref C) [v']) _ _ _
    have hlim := I1.nolimit
    obtain ⟨hp, g, dr, tk, os⟩ := s1
    refine wpAny_call (PySem.BadPolyX.low_made T I1.kIn hlim (by have := hr.dp; omega) fun h' tk' e d M => ?_)
    show MkP X pins σ Q (.ref e) ⟨h', g, dr, tk', os⟩
    obtain ⟨oe, fv, hoe, hc, hd, hdat, h1⟩ := M.obj
    have hns := M.ns
    obtain ⟨G', g1, g2⟩ := restrict h' fun b => decide (b ≠ e)
    have gk : ∀ b, b ≠ e → G'.get? b = h'.get? b := fun b hb => g1 b (decide_eq_true hb)
    have ge : G'.get? e = none := g2 e (by simp)
    have old : ∀ b o, hp.get? b = some o → G'.get? b = some o := fun b o q => (gk b (Nat.ne_of_lt (Nat.lt_of_lt_of_le (Heap.lt_size q) M.new))).trans (M.keep b o q)
    have ob : ObjOk X.prog X.w (upd H1 d (.xd [(("thing" : Str), v)])) G' d (.xd [(("thing" : Str), v)]) :=
      ⟨_, hns.at (fun o q => (gk d M.dne).trans q), fun f => relO_BadPoly rv f⟩
    have J : Inv X pins σ (upd H1 d (.xd [(("thing" : Str), v)])) ⟨G', g, dr, tk', os⟩ := I1.laid (t' := tk') old M.dbig ob
    refine ⟨e, oe, fv, ⟨G', g, dr, tk', os⟩, _, .ref C, some d, rfl, J, fun b o q => ?_, ge, hoe, ⟨hc, hd⟩, hdat, h1, ?_, rfl, I1.bare, raises_own T.exC T.tyC, q1 d (I1.hok.fresh M.dbig)⟩
    · by_cases hb : b = e
      · have q' : G'.get? b = some o := q
        rw [hb, ge] at q'; cases q'
      · exact (gk b hb).symm.trans q
    · rw [upd_ne (Ne.symm M.dne)]
      exact I1.hok.fresh M.new
/-- raise Low(e) -/
def tRaiseBadPoly (C : Addr) (W : WX) (ta : TA) : TS := fun _ σ H => tMkBadPoly C ta σ H fun cls d H' => W cls d σ H'
theorem ps_raiseBadPoly {a : Expr} {ta : TA} {W : WX} {p pos pos2 : Pos} {k : Nat} (hc : X.calm = true) (T : PySem.BadPolyX.BadPolyTxt X.K X.mg C fI) (hr : Room k X.A) (tk : Takes X W) (ha : PA X [a] ta) (hg : Gl X "BadPoly" := by rfl)
    (he : starEach (a :: []) X.env = (false, eval a X.env) :: starEach [] X.env := by rfl) (hpl : (backTo pos (starEach [] X.env)).any (·.1) = false := by rfl) :
    PS X (.Raise (some (.Call (.Name "BadPoly" p) [a] [] pos)) none pos2) (tRaiseBadPoly C W ta) := ps_raise hc tk (pmk_BadPoly T hr ha hg he hpl)
/-- low.by, low the exception that the suite holds (at a; its class cls, its dict d) -/
def tByBadPoly (C : Addr) (a : Addr) (cls : Value) (d : Option Addr) (te : TE) : TE := fun σ H Q => te σ H fun x H1 => x = .ref a ∧ cls = .ref C ∧ ∃ (dd : Addr) (v : V), d = some dd ∧ H1 dd = some (.xd [(("thing" : Str), v)]) ∧ Q v H1
theorem pe_byBadPoly {a : Addr} {oe : Obj} {cls : Value} {d : Option Addr} {pn : List (Addr × Obj)} {e : Expr} {te : TE} {pos : Pos} (T : PySem.BadPolyX.BadPolyTxt X.K X.mg C fI) (hz : Zc cls d oe) (hf : ∃ vs, oe.data = .fields vs) (he : PE (X.suite a ((a, oe) :: pn)) e te)
    (hb : attributeBase e "thing" X.env (eval e X.env) = eval e X.env := by rfl) :
    PE (X.suite a ((a, oe) :: pn)) (.Attribute e "thing" pos) (tByBadPoly C a cls d te) := by
  refine ⟨fun pins s σ H Q I h => ?_⟩
  refine attr_of hb (thn (he.run pins s σ H _ I h) fun u s1 hh => ?_)
  obtain ⟨x, H1, I1, rx, ex, ec, dd, v, ed, ea, q⟩ := hh
  subst ex
  obtain rfl : u = Value.ref a := rx
  subst ec
  subst ed
  obtain ⟨ha, _⟩ := I1.pin (a, oe) (List.mem_append_left _ List.mem_cons_self)
  obtain ⟨vs, hd⟩ := hf
  have hx : ObjOk X.prog X.w H1 s1.heap dd (.xd [(("thing" : Str), v)]) := I1.hok dd _ ea
  obtain ⟨mA, hns, hr⟩ := hx
  obtain ⟨od, ho, hl⟩ := lookIn_ns hns
  have l : List.lookup ("thing" : Str) [(("thing" : Str), v)] = some v := by simp [List.lookup]
  obtain ⟨u, hu, ru⟩ := RelO.some_of (v := v) (o := mA "thing") (by rw [← l]; exact hr "thing")
  have J : PySem.W.InstAt s1.heap a oe C (some od) := ⟨ha, hz.1, by unfold PySem.W.notCls; rw [hd] <;> rfl, by rw [hz.2]; exact ho⟩
  exact HandSPX.exc_get I1.kIn J T.ga T.gg T.exC (PySem.W.findObj_own T.hdC T.noN rfl (by rw [hl, hu])) (handed_of ru) ⟨v, H1, I1.tok _, ru, q⟩
end
end L2
set_option maxHeartbeats 4000000
namespace PySem
namespace BadNumberX
open PySem.W PySem.Calls PyProof.Rows PySem.HandSPX
/-! ### the text of __init__ -/
def iA (p1 p2 : Pos) : Arguments := { posonlyargs := [], args := [{ arg := "self", annotation := none, pos := p1 }, { arg := "thing", annotation := none, pos := p2 }], vararg := none, kwonlyargs := [], kw_defaults := [], kwarg := none, defaults := [] }
def iB (q1 q2 q3 q4 : Pos) : List Stmt := [.Assign [.Attribute (.Name "self" q1) "thing" q2] (.Name "thing" q3) q4]
def iS : Scope := { kind := .function, names := [(PySem.Str.ofString "self", .local), (PySem.Str.ofString "thing", .local)], isGenerator := false, isCoroutine := false, more := [] }
/-- what the written part says of Low, at C, and of its __init__, at fI -/
structure BadNumberTxt (K : Frag) (mg : Str → Option Value) (C fI : Addr) : Prop where
  gC : mg "BadNumber" = some (.ref C)
  cls : ∃ nm q N bs bm sn sub ab col dd k0 k1 k2 k3 k5, K.lookup C = some (excClassObj nm q C N bs bm true sn sub ab col dd k0 k1 k2 k3 k5 "Exception.__new__") ∧ OwE.refsEx bm = true
  sa : findIn K (.ref C) "__setattr__" = some (some (.builtin "object.__setattr__"))
  ga : findIn K (.ref C) "__getattribute__" = some (some (.builtin "BaseException.__getattribute__"))
  gg : findIn K (.ref C) "__getattr__" = some none
  noN : findIn K (.ref C) "thing" = some none
  iC : findIn K (.ref C) "__init__" = some (some (.ref fI))
  tC : typeIn K (.ref fI) = some (.type "function")
  kC : keepIn K (.ref C) = true
  exC : subIn K (.ref C) (.type "BaseException") = some true
  tyC : typeIn K (.ref C) = some (.type "type")
  hdC : hasDictIn K C = true
  te : exmOne K (.ref C) (.ref C) = some true
  fn : ∃ (oc : Value) (od : Option Addr) (doc pm : Value) (an : Option Addr) (cdv ct : Value) (osl : Array (Option Value)) (p1 p2 q1 q2 q3 q4 : Pos),
    K.lookup fI = some ⟨oc, od, .func (fnOf "__init__" "BadNumber.__init__" (iA p1 p2) (iB q1 q2 q3 q4) iS .none .none doc pm an cdv ct), osl⟩ ∧ codeIn K cdv "BadNumber.__init__" = true
theorem one_size (v : Value) : [v].length ≤ sizeLine := by
  rw [sizeLine_eq]
  exact (by decide : 1 ≤ 16777216)
theorem kept_but {K : Frag} {h h' : Heap} {x : Addr} (X : K.In h) (hx : K.lookup x = none) (k : ∀ b o, b ≠ x → h.get? b = some o → h'.get? b = some o) : K.In h' := fun a o e =>
  k a o (fun z => by rw [z, hx] at e; cases e) (X a o e)
theorem ldC {M : Model} {s : Shared} {name : Str} {scope : Scope} {L a : Addr} {cd : Value} {m : Str → Option Value} {x : Str} {pos : Pos} {v : Value} {Q : Value → Shared → Prop} {A : Around} {E : Value → Shared → Prop} (hn : s.heap.Ns L m) (hv : m x = some v) (h : Q v s)
    (hk : scope.kind = .function := by rfl) (hl : (envOfC name scope L a cd).kindOf x = some .local := by rfl) (hd : (x == ("__debug__" : Str)) = false := by decide) :
    wpAny M A (eval (.Name x pos) (envOfC name scope L a cd)) Q E s := wpAny_Name (wpAny_loadName_local hk hl hn hv h) hd
/-- what __init__ leaves of a fresh exception at x -/
structure InitEnd (h h' : Heap) (x C dx t1 : Addr) (v : Value) : Prop where
  keep : ∀ b o, b ≠ x → h.get? b = some o → h'.get? b = some o
  obj : h'.get? x = some { cls := .ref C, dict := some dx, data := .fields #[.ref t1, .none, .none, .none, .bool false, .none] }
  dbig : h.objs.size ≤ dx
  dne : dx ≠ x
  ns : h'.Ns1 dx (fun y => if y = "thing" then some v else none)
/-- a made Low -/
structure OwnMade (h h' : Heap) (e C d : Addr) (v : Value) : Prop where
  keep : ∀ b o, h.get? b = some o → h'.get? b = some o
  new : h.objs.size ≤ e
  obj : ∃ oe vs, h'.get? e = some oe ∧ oe.cls = .ref C ∧ oe.dict = some d ∧ oe.data = .fields vs ∧ vs[1]? = some .none
  dbig : h.objs.size ≤ d
  dne : d ≠ e
  ns : h'.Ns1 d (fun y => if y = "thing" then some v else none)
section
variable {prog : Program} {w : World} {A : Around} {E : Value → Shared → Prop} {R : Result → Shared → Prop} {s : Shared} {K : Frag} {mg : Str → Option Value} {C fI : Addr}
theorem low_init (T : BadNumberTxt K mg C fI) {x t0 : Addr} {v : Value} (X : K.In s.heap) (hlim : s.heap.NoLimit) (hx : s.heap.get? x = some (excO C t0)) (hnx : K.lookup x = none) (hroom : A.depth < recursionLimit)
    (hq : ∀ h' tk dx, InitEnd s.heap h' x C dx t0 v → R (.ok (.ret .none)) { s with heap := h', toks := tk }) :
    codeAny (model prog w) A (.call (.ref fI) ⟨[.ref x, v], []⟩) R s := by
  obtain ⟨oc, od, doc, pm, an, cdv, ct, osl, p1, p2, q1, q2, q3, q4, ho, hcd⟩ := T.fn
  obtain ⟨nm, q, N, bs, bm, sn, sub, ab, col, dd, k0, k1, k2, k3, k5, hC, hbm⟩ := T.cls
  have hcl : clsIn K C = some { name := nm, bases := bs, mro := .ref C :: bm, ns := N, qualname := q, hasDict := true, slotNames := sn, subclasses := sub, abstract := ab, collection := col, hasDel := false } := by unfold clsIn; rw [hC] <;> rfl
  refine Att.call_fn (binds := [("self", .ref x), ("thing", v)]) X hlim ho hcd hroom (BindsTo.of_eq (by first | rfl | with_unfolding_all rfl)) (by first | rfl | decide | with_unfolding_all rfl) (fun s₁ IC => ?_) rfl rfl rfl
  obtain ⟨h₁, tk₁, rfl⟩ := IC.toInCall.same
  have k : ∀ b o, s.heap.get? b = some o → h₁.get? b = some o := IC.toInCall.keep
  have hn := IC.toInCall.ns
  have hxL : s.heap.objs.size ≠ x := Nat.ne_of_gt (Heap.lt_size hx)
  have X₁ : K.In h₁ := X.keeps k
  have hx₁ := k _ _ hx
  -- self.by = by
  show wpAny _ _ (execs _ _) _ _ _
  refine wpAny_execs_cons (plainObj_wpAny_Assign_Attribute ?_)
  refine ldC (v := v) hn (by first | rfl | with_unfolding_all rfl | kernel_rfl) (ldC (v := .ref x) hn (by first | rfl | with_unfolding_all rfl | kernel_rfl) ?_)
  refine set_plain X₁ (ox := excO C t0) (od := none) ⟨hx₁, rfl, rfl, trivial⟩ T.sa ?_
  refine OwE.osa_first X₁ hx₁ hcl (show OwE.refsEx (.ref C :: bm) = true from hbm) rfl T.noN (fun h₃ tk₃ dx k₃ dn dne hx₃ hn₃ => ?_)
  show wpAny _ _ (execs _ _) _ _ _
  have z : s.heap.objs.size < h₁.objs.size := hn.lt
  exact wpAny_execs_nil (hq h₃ tk₃ dx ⟨fun b o hb e => k₃ b o hb (k b o e), hx₃, Nat.le_of_lt (Nat.lt_of_lt_of_le z dn), dne, hn₃⟩)
theorem low_made (T : BadNumberTxt K mg C fI) {v : Value} (X : K.In s.heap) (hlim : s.heap.NoLimit) (hroom : A.depth + 1 < recursionLimit)
    (hq : ∀ h' tk e d, OwnMade s.heap h' e C d v → R (.ok (.ret (.ref e))) { s with heap := h', toks := tk }) :
    codeAny (model prog w) A (.call (.ref C) ⟨[v], []⟩) R s := by
  obtain ⟨nm, q, N, bs, bm, sn, sub, ab, col, dd, k0, k1, k2, k3, k5, hC, hbm⟩ := T.cls
  obtain ⟨hp, g, dr, tk, os⟩ := s
  have k : ∀ b o, hp.get? b = some o → ((hp.push (kdv_tup [v])).push (excO C hp.objs.size)).get? b = some o := fun b o e => Heap.get?_push_of_some _ (Heap.get?_push_of_some _ e)
  have hget : ((hp.push (kdv_tup [v])).push (excO C hp.objs.size)).get? (hp.objs.size + 1) = some (excO C hp.objs.size) := by heap_get
  have hnx : K.lookup (hp.objs.size + 1) = none := by
    cases e : K.lookup (hp.objs.size + 1) with
    | none => rfl
    | some o =>
      have z : hp.get? (hp.objs.size + 1) = some o := X _ _ e
      exact absurd (Nat.lt_of_succ_lt (Heap.lt_size z)) (Nat.lt_irrefl _)
  refine call_own F.excBase_Exception (fun X => OwE.refsEx_has X bm hbm) (X _ _ hC) (looks_findIn X T.iC) (fun self => bind_fn X self T.tC) (one_size v) ?_
  refine low_init (s := ⟨(hp.push (kdv_tup [v])).push (excO C hp.objs.size), g, dr, tk, os⟩) T (X.keeps k) (hlim.keeps k) hget hnx ?_ fun h' tk' dx ⟨k', hx, dn, dne, hns⟩ => ?_
  · show A.depth + 1 < recursionLimit
    exact hroom
  · have old : ∀ b o, hp.get? b = some o → h'.get? b = some o := fun b o e => k' b o (Nat.ne_of_lt (Nat.lt_succ_of_lt (Heap.lt_size e))) (k b o e)
    have z : hp.objs.size + 1 + 1 ≤ dx := by
      first
        | (simpa only [Heap.size_push] using dn)
        | exact dn
        | (have q := dn; rw [Heap.size_push, Heap.size_push] at q; exact q)
    exact ⟨rfl, hq h' tk' (hp.objs.size + 1) dx ⟨old, Nat.le_succ _, ⟨_, _, hx, rfl, rfl, rfl, rfl⟩, Nat.le_trans (Nat.le_trans (Nat.le_succ _) (Nat.le_succ _)) z, dne, hns⟩⟩
end
end BadNumberX
end PySem
namespace L2
open PySem PySem.Spec PyProof.Rows
theorem relO_BadNumber {v : V} {v' : Value} (r : RelV v v') (f : Str) : RelO (List.lookup f [(("thing" : Str), v)]) (if f = "thing" then some v' else none) := by
  by_cases hw : f = "thing"
  · subst hw
    rw [if_pos rfl]
    have q : List.lookup ("thing" : Str) [(("thing" : Str), v)] = some v := by simp [List.lookup]
    rw [q]
    exact r
  · rw [if_neg hw]
    have qw : (f == ("thing" : Str)) = false := by simpa using hw
    have q2 : List.lookup f [(("thing" : Str), v)] = none := by simp [List.lookup, qw]
    rw [q2]
    trivial
section
variable {X : Cx} {C fI : Addr}
/-- Low(e) -/
def tMkBadNumber (C : Addr) (ta : TA) : St → Hp → XK → Prop := fun σ H Q => ta σ H fun vs H1 => ∃ v, vs = [v] ∧ ∀ d, H1 d = none → Q (.ref C) (some d) (upd H1 d (.xd [(("thing" : Str), v)]))
theorem pmk_BadNumber {a : Expr} {ta : TA} {p pos : Pos} {k : Nat} (T : PySem.BadNumberX.BadNumberTxt X.K X.mg C fI) (hr : Room k X.A) (ha : PA X [a] ta) (hg : Gl X "BadNumber" := by rfl)
    (he : starEach (a :: []) X.env = (false, eval a X.env) :: starEach [] X.env := by rfl) (hpl : (backTo pos (starEach [] X.env)).any (·.1) = false := by rfl) :
    PMk X (.Call (.Name "BadNumber" p) [a] [] pos) (tMkBadNumber C ta) := by
  intro pins s σ H Q I h
  refine wpAny_Call_Name_kw (ld_glob I hg T.gC ?_)
  refine PySem.W.callWith_K (h₀ := X.base) I.ok.mod.kin T.kC (thn (ha.run pos pins s σ H _ I h) fun us s1 hh => ?_) he hpl
  obtain ⟨vs, H1, I1, r1, v, ev, q1⟩ := hh
  subst ev
  refine ⟨I1.kIn, ?_⟩
  cases r1 with
  | cons rv rn =>
    rename_i v' us'
    cases rn
    show wpAny _ _ (call (.ref C) [v']) _ _ _
    have hlim := I1.nolimit
    obtain ⟨hp, g, dr, tk, os⟩ := s1
    refine wpAny_call (PySem.BadNumberX.low_made T I1.kIn hlim (by have := hr.dp; omega) fun h' tk' e d M => ?_)
    show MkP X pins σ Q (.ref e) ⟨h', g, dr, tk', os⟩
    obtain ⟨oe, fv, hoe, hc, hd, hdat, h1⟩ := M.obj
    have hns := M.ns
    obtain ⟨G', g1, g2⟩ := restrict h' fun b => decide (b ≠ e)
    have gk : ∀ b, b ≠ e → G'.get? b = h'.get? b := fun b hb => g1 b (decide_eq_true hb)
    have ge : G'.get? e = none := g2 e (by simp)
    have old : ∀ b o, hp.get? b = some o → G'.get? b = some o := fun b o q => (gk b (Nat.ne_of_lt (Nat.lt_of_lt_of_le (Heap.lt_size q) M.new))).trans (M.keep b o q)
    have ob : ObjOk X.prog X.w (upd H1 d (.xd [(("thing" : Str), v)])) G' d (.xd [(("thing" : Str), v)]) :=
      ⟨_, hns.at (fun o q => (gk d M.dne).trans q), fun f => relO_BadNumber rv f⟩
    have J : Inv X pins σ (upd H1 d (.xd [(("thing" : Str), v)])) ⟨G', g, dr, tk', os⟩ := I1.laid (t' := tk') old M.dbig ob
    refine ⟨e, oe, fv, ⟨G', g, dr, tk', os⟩, _, .ref C, some d, rfl, J, fun b o q => ?_, ge, hoe, ⟨hc, hd⟩, hdat, h1, ?_, rfl, I1.bare, raises_own T.exC T.tyC, q1 d (I1.hok.fresh M.dbig)⟩
    · by_cases hb : b = e
      · have q' : G'.get? b = some o := q
        rw [hb, ge] at q'; cases q'
      · exact (gk b hb).symm.trans q
    · rw [upd_ne (Ne.symm M.dne)]
      exact I1.hok.fresh M.new
/-- raise Low(e) -/
def tRaiseBadNumber (C : Addr) (W : WX) (ta : TA) : TS := fun _ σ H => tMkBadNumber C ta σ H fun cls d H' => W cls d σ H'
theorem ps_raiseBadNumber {a : Expr} {ta : TA} {W : WX} {p pos pos2 : Pos} {k : Nat} (hc : X.calm = true) (T : PySem.BadNumberX.BadNumberTxt X.K X.mg C fI) (hr : Room k X.A) (tk : Takes X W) (ha : PA X [a] ta) (hg : Gl X "BadNumber" := by rfl)
    (he : starEach (a :: []) X.env = (false, eval a X.env) :: starEach [] X.env := by rfl) (hpl : (backTo pos (starEach [] X.env)).any (·.1) = false := by rfl) :
    PS X (.Raise (some (.Call (.Name "BadNumber" p) [a] [] pos)) none pos2) (tRaiseBadNumber C W ta) := ps_raise hc tk (pmk_BadNumber T hr ha hg he hpl)
/-- low.by, low the exception that the suite holds (at a; its class cls, its dict d) -/
def tByBadNumber (C : Addr) (a : Addr) (cls : Value) (d : Option Addr) (te : TE) : TE := fun σ H Q => te σ H fun x H1 => x = .ref a ∧ cls = .ref C ∧ ∃ (dd : Addr) (v : V), d = some dd ∧ H1 dd = some (.xd [(("thing" : Str), v)]) ∧ Q v H1
theorem pe_byBadNumber {a : Addr} {oe : Obj} {cls : Value} {d : Option Addr} {pn : List (Addr × Obj)} {e : Expr} {te : TE} {pos : Pos} (T : PySem.BadNumberX.BadNumberTxt X.K X.mg C fI) (hz : Zc cls d oe) (hf : ∃ vs, oe.data = .fields vs) (he : PE (X.suite a ((a, oe) :: pn)) e te)
    (hb : attributeBase e "thing" X.env (eval e X.env) = eval e X.env := by rfl) :
    PE (X.suite a ((a, oe) :: pn)) (.Attribute e "thing" pos) (tByBadNumber C a cls d te) := by
  refine ⟨fun pins s σ H Q I h => ?_⟩
  refine attr_of hb (thn (he.run pins s σ H _ I h) fun u s1 hh => ?_)
  obtain ⟨x, H1, I1, rx, ex, ec, dd, v, ed, ea, q⟩ := hh
  subst ex
  obtain rfl : u = Value.ref a := rx
  subst ec
  subst ed
  obtain ⟨ha, _⟩ := I1.pin (a, oe) (List.mem_append_left _ List.mem_cons_self)
  obtain ⟨vs, hd⟩ := hf
  have hx : ObjOk X.prog X.w H1 s1.heap dd (.xd [(("thing" : Str), v)]) := I1.hok dd _ ea
  obtain ⟨mA, hns, hr⟩ := hx
  obtain ⟨od, ho, hl⟩ := lookIn_ns hns
  have l : List.lookup ("thing" : Str) [(("thing" : Str), v)] = some v := by simp [List.lookup]
  obtain ⟨u, hu, ru⟩ := RelO.some_of (v := v) (o := mA "thing") (by rw [← l]; exact hr "thing")
  have J : PySem.W.InstAt s1.heap a oe C (some od) := ⟨ha, hz.1, by unfold PySem.W.notCls; rw [hd] <;> rfl, by rw [hz.2]; exact ho⟩
  exact HandSPX.exc_get I1.kIn J T.ga T.gg T.exC (PySem.W.findObj_own T.hdC T.noN rfl (by rw [hl, hu])) (handed_of ru) ⟨v, H1, I1.tok _, ru, q⟩
end
end L2
set_option maxHeartbeats 4000000
namespace Ey
open PySem PySem.Spec PyProof.Rows L2
abbrev sTried : Stmt := topS 24
abbrev sLaw : Stmt := topS 25
abbrev NT : List Str := ["_law_call", "e", "_law_kinds"]
theorem scTried : FnScope NT ["_law_call"] (defScope sTried) := ⟨rfl, rfl, rfl, by decide +kernel, rfl, by decide +kernel, by decide +kernel⟩
theorem pe_either {X : Cx} {e : Expr} {t1 t2 : TE} (p1 : PE X e t1) (p2 : PE X e t2) : PE X e (fun σ H Q => t1 σ H Q ∨ t2 σ H Q) :=
  ⟨fun pins s σ H Q I h => h.elim (p1.run pins s σ H Q I) (p2.run pins s σ H Q I)⟩
theorem call_either {X : Cx} {f : Value} {r1 r2 : List V → Hp → VK → Prop} (c1 : CallR X f r1) (c2 : CallR X f r2) : CallR X f (fun xs H Q => r1 xs H Q ∨ r2 xs H Q) :=
  fun pins s σ H xs us Q I r h => h.elim (c1 pins s σ H xs us Q I r) (c2 pins s σ H xs us Q I r)
/-- what is known of the classes of errors -/
structure XF (K : PySem.W.Frag) (mg : Str → Option Value) (BP BN CE fP fN : Addr) : Prop where
  P : PySem.BadPolyX.BadPolyTxt K mg BP fP
  N : PySem.BadNumberX.BadNumberTxt K mg BN fN
  gE : mg "EyesError" = some (.ref CE)
  sP : PySem.OwE.SaysC K BP
  sN : PySem.OwE.SaysC K BN
  exP : PySem.W.exmOne K (.ref BP) (.ref CE) = some true
  exN : PySem.W.exmOne K (.ref BN) (.ref CE) = some true
  pp : PySem.W.kitOne K (.ref BP) (.ref BP) = some true
  pn : PySem.W.kitOne K (.ref BP) (.ref BN) = some false
  np : PySem.W.kitOne K (.ref BN) (.ref BP) = some false
  nn : PySem.W.kitOne K (.ref BN) (.ref BN) = some true
/-- the lambda's error, told: p for BadPoly, else BadNumber -/
def EchT (BP BN : Addr) (Q : VK) : XK := fun cls d H' => ∃ (p : Bool) (dd : Addr) (ms : List Addr) (v : V) (x : PyData), cls = .ref (if p = true then BP else BN) ∧ d = some dd ∧ H' dd = some (.xd [("thing", v)]) ∧ An ms H' v x ∧ fit x = true ∧ x.depth ≤ 60 ∧ wd x ≤ 400000 ∧
      ∀ z1 : Addr, H' z1 = none → ∀ z2 : Addr, (upd H' z1 (.tup [.bl p, .bl !p])) z2 = none → Q (.ref z2) (upd (upd H' z1 (.tup [.bl p, .bl !p])) z2 (.tup [.str "raised", .ref z1, .str x.shown]))
def RetT (Q : VK) : VK := fun v H' => [V.str "returned", v].length ≤ sizeLine ∧ ∀ z : Addr, H' z = none → Q (.ref z) (upd H' z (.tup [.str "returned", v]))
def TTried (BP BN : Addr) : (XK → Hp → VK → Prop) → Hp → VK → Prop := fun tl H Q => tl (EchT BP BN Q) H (RetT Q)
/-- a wish that knows how many names there are -/
theorem takes_len {X : Cx} {W : WX} (t : Takes X W) : Takes X (fun c d σ H => σ.length = X.N.length → W c d σ H) := fun u s1 z => by
  obtain ⟨a, B, sI, pins, σ, H, cls, d, e, I, z1, z2, z3, z4, z5, z6, w⟩ := z
  exact t u s1 ⟨a, B, sI, pins, σ, H, cls, d, e, I, z1, z2, z3, z4, z5, z6, w I.len⟩
abbrev tryB : List Stmt := match (defBody sTried).getD 0 noSt with
  | .Try b _ _ _ _ => b
  | _ => []
section
variable {X : Cx} {BP BN CE fP fN : Addr}
theorem tried_gives {q : Str} {g : Addr} {cdg : Value} (F : XF X.K X.mg BP BN CE fP fN) (B : BI X.mg) (hsm : ∃ mm, X.base.Ns sysModules mm) (hg : X.A.guards = some []) (hu : X.A.units + 400 < cLine) :
    LamX.GivesTo X NT "_law_tried" (defScope sTried) g cdg (defBody sTried) "_law_call" q (TTried BP BN) := by
  intro f c' s H Q tl act hc h
  refine ⟨_, pss_one (ps_try_as (i := 1) (Wout := fun _ _ _ _ => False) (X := (cxOf C8.CX0 X.prog X.w X.K X.mg X.base NT "_law_tried" (defScope sTried) g cdg X.A X.stack s H C8.E0).nox)
      (tb := fun W D σ H => ∃ Ech : XK, (∀ cls d σ' H', Ech cls d H' → σ'.length = 3 → W cls d σ' H') ∧ σ[0]? = some (some (.ref f)) ∧ H c' = some (LamX.CodeO c' q) ∧ tl Ech H (RetT D.rt))
      rfl rfl scTried.nd rfl rfl ⟨rfl, by decide, .inl F.gE⟩ takes0 (fun W pn xe tk _ => ?_)
      (fun a oe cls d pn hz hf => pss_cons (ps_set (i := 2) scTried.nd rfl (.inl rfl) (pe_tup (pa_cons (pe_callB (call_either (call_isE2 F.sP hz hf) (call_isE2 F.sN hz hf)) (by rfl) B.isi (by decide +kernel) (pa_cons (pv 1) (pa_cons (pe_glob (v := .ref BP) (by rfl) F.P.gC rfl) pa_nil)))
          (pa_cons (pe_callB (call_either (call_isE2 F.sP hz hf) (call_isE2 F.sN hz hf)) (by rfl) B.isi (by decide +kernel) (pa_cons (pv 1) (pa_cons (pe_glob (v := .ref BN) (by rfl) F.N.gC rfl) pa_nil))) pa_nil))))
        (pss_one (ps_ret (pe_tup (pa_cons pe_str (pa_cons (pv 2)
          (pa_cons (pe_ifExp (pt_cmpR (r := rIn X.K false) op_in_seq pe_bl (pv 2) (by rfl))
            (pe_callB (cr_reprU hsm hg (by show X.A.units + 3 + 200 < cLine; omega)) (by rfl) B.repr (by decide +kernel) (pa_cons (pe_either (pe_byBadPoly F.P hz hf (pv 1)) (pe_byBadNumber F.N hz hf (pv 1))) pa_nil)) pe_non) pa_nil)))))))), ?_⟩
  · refine ⟨fun pins s' σ H' D I h' => ?_⟩
    obtain ⟨Ech, hW, h1, h2, h3⟩ := h'
    have hq : PSs ((cxOf C8.CX0 X.prog X.w X.K X.mg X.base NT "_law_tried" (defScope sTried) g cdg X.A X.stack s H C8.E0).tr pn xe) tryB _ := pss_one (ps_ret (pe_tup (pa_cons pe_str (pa_cons (act _ pn xe Ech _ _ (takes_len tk) hW) pa_nil))))
    exact hq.run pins s' σ H' D I ⟨h1, h2, h3⟩
  · refine ⟨EchT BP BN Q, fun cls d σ' H' hh hl => ?_, rfl, hc, h⟩
    obtain ⟨p, dd, ms, v, x, rfl, rfl, hd, ha, hfx, hdx, hwx, k⟩ := hh
    have ex : PySem.W.exmOne X.K (.ref (if p = true then BP else BN)) (.ref CE) = some true := by
      cases p
      · exact F.exN
      · exact F.exP
    refine ⟨true, ex, fun _ a ha2 => ?_, fun q => nomatch q⟩
    match σ', hl with
    | [u0, u1, u2], _ =>
    cases p with
    | true =>
      refine ⟨_, rfl, .inl ⟨rfl, dd, _, rfl, hd, .ref BP, .ref BP, true, rfl, fun u r => r, F.pp, ?_⟩⟩
      refine ⟨_, rfl, .inl ⟨rfl, dd, _, rfl, hd, .ref BN, .ref BN, false, rfl, fun u r => r, F.pn, by show 2 ≤ sizeLine; decide, fun z1 n1 => ?_⟩⟩
      have hd1 : (upd H' z1 (.tup [.bl true, .bl !true])) dd = some (.xd [("thing", v)]) := (Kp.new (ms := []) n1).at_ _ _ hd List.not_mem_nil
      refine ⟨_, rfl, _, rfl, z1, _, rfl, .inr (sqt_of upd_same), rfl, rfl, _, rfl, iteT ?_⟩
      refine .inl ⟨_, rfl, rfl, rfl, dd, v, rfl, hd1, ?_⟩
      exact ⟨ms, v, x, rfl, ha.kp (Kp.new (ms := []) n1) (by simp) x, hfx, by omega, by omega, by show 3 ≤ sizeLine; decide, k z1 n1⟩
    | false =>
      refine ⟨_, rfl, .inr ⟨rfl, dd, _, rfl, hd, .ref BP, .ref BP, false, rfl, fun u r => r, F.np, ?_⟩⟩
      refine ⟨_, rfl, .inr ⟨rfl, dd, _, rfl, hd, .ref BN, .ref BN, true, rfl, fun u r => r, F.nn, by show 2 ≤ sizeLine; decide, fun z1 n1 => ?_⟩⟩
      have hd1 : (upd H' z1 (.tup [.bl false, .bl !false])) dd = some (.xd [("thing", v)]) := (Kp.new (ms := []) n1).at_ _ _ hd List.not_mem_nil
      refine ⟨_, rfl, _, rfl, z1, _, rfl, .inr (sqt_of upd_same), rfl, rfl, _, rfl, iteT ?_⟩
      refine .inr ⟨_, rfl, rfl, rfl, dd, v, rfl, hd1, ?_⟩
      exact ⟨ms, v, x, rfl, ha.kp (Kp.new (ms := []) n1) (by simp) x, hfx, by omega, by omega, by show 3 ≤ sizeLine; decide, k z1 n1⟩
end
end Ey
set_option maxHeartbeats 2000000
namespace Ey
open PySem PySem.Spec PyProof.Rows L2 GxR
/-! ### all(e for x in it), e any expression that HandS can tell -/
/-- the generator's own frame -/
def gxOfC (X : Cx) (A : Around) (s : Shared) (H : Hp) (ge : Env) (x : Str) (ys : List Str) (fp : List Addr) : Cx :=
  { X with A := A, N := x :: ys, s_0 := s, H_0 := H, env := ge, outer := X.stack, stack := ge :: X.stack, ex := fp, fn := fun _ => false, calm := true, pn := [], xe := fun _ _ => False }
abbrev gcodeC (elt iter : Expr) (x : Str) (px : Pos) (sc : Scope) (gp : Pos) (it : Addr) (ge : Env) : Code := .compLoop (.GeneratorExp elt [⟨.Name x px, iter, [], 0⟩] sc gp) 0 (.ref it) .none ge
/-- the generator stands at turn i -/
structure GInC (Xg : Cx) (cs : L2.St) (fp : List Addr) (tn : Nat → Heap → Prop) (ga : Addr) (go : Obj) (g : Nat) (W : Nat → Hp → Prop) (i : Nat) (s : Shared) : Prop where
  ex : ∃ (H : Hp) (y : Option V), Inv Xg [(ga, go)] (y :: cs) H s ∧ tn i s.heap ∧ (∀ b ∈ fp, FpOk Xg [(ga, go)] H b) ∧ W i H
  sz : g + 1 ≤ s.gens.size
/-- it is over -/
def GEdC (Xg : Cx) (cs : L2.St) (ga : Addr) (go : Obj) (Qe : Hp → Prop) (s : Shared) : Prop := ∃ (H : Hp) (y : Option V), Inv Xg [(ga, go)] (y :: cs) H s ∧ Qe H
def YGC (GI : Nat → Shared → Prop) (GF : Shared → Prop) (n0 : Nat) : Protocol := fun m _ v s kap => ∃ b : Bool, v = .bool b ∧ (b = true → GI (n0 - m) s ∧ ∀ s'', GI (n0 - m) s'' → kap (.send .none) s'') ∧ (b = false → GF s)
def RGC (GT : Shared → Prop) : GenEnd := fun _ _ r s => r = .ok .next ∧ GT s
section
variable {X : Cx} {A : Around} {sG : Shared} {HG : Hp} {ge : Env} {x : Str} {fp : List Addr} {tn : Nat → Heap → Prop} {ga it : Addr} {go : Obj} {g : Nat} {W : Nat → Hp → Prop} {Qf Qt : Hp → Prop} {J : It} {elt iter : Expr} {px gp : Pos} {sc : Scope} {te : TE} {n0 : Nat} {ys : List Str} {cs : L2.St}
theorem seg_gloopC (T : Turn X.prog X.w X.K (.Name x px) J fp it tn) (hx : ge.scope.names.lookup x = some .local) (hnd : (x :: ys).Nodup) (hco : ge.scope.isCoroutine = false)
    (hel : PE (gxOfC X (A.over (gcodeC elt iter x px sc gp it ge) []) sG HG ge x ys fp) elt te)
    (hW : ∀ i H, W i H → (i < n0 ∧ J.go i H ∧ ∀ v H', J.yld i H v H' → te (some v :: cs) H' fun y H3 => ∃ b, y = .bl b ∧ if b = true then W (i + 1) H3 else Qf H3) ∨ (J.stop i H ∧ Qt H)) :
    ∀ (k i : Nat) (s₀ s : Shared), n0 - i = k → GInC (gxOfC X (A.over (gcodeC elt iter x px sc gp it ge) []) sG HG ge x ys fp) cs fp tn ga go g W i s →
      Seg (model X.prog X.w) A (RGC (GEdC (gxOfC X (A.over (gcodeC elt iter x px sc gp it ge) []) sG HG ge x ys fp) cs ga go Qt))
        (YGC (GInC (gxOfC X (A.over (gcodeC elt iter x px sc gp it ge) []) sG HG ge x ys fp) cs fp tn ga go g W) (GEdC (gxOfC X (A.over (gcodeC elt iter x px sc gp it ge) []) sG HG ge x ys fp) cs ga go Qf) n0) (n0 - i) s₀
        (gcodeC elt iter x px sc gp it ge) ((model X.prog X.w).den (gcodeC elt iter x px sc gp it ge)) [] s := by
  generalize hXg : gxOfC X (A.over (gcodeC elt iter x px sc gp it ge) []) sG HG ge x ys fp = Xg at *
  have eP : Xg.prog = X.prog := by rw [← hXg]; rfl
  have eW : Xg.w = X.w := by rw [← hXg]; rfl
  have eK : Xg.K = X.K := by rw [← hXg]; rfl
  have eC : Xg.calm = true := by rw [← hXg]; rfl
  have eA : Xg.A = A.over (gcodeC elt iter x px sc gp it ge) [] := by rw [← hXg]; rfl
  have eE : Xg.env = ge := by rw [← hXg]; rfl
  have eN : Xg.N = x :: ys := by rw [← hXg]; rfl
  have eX : Xg.xe = fun _ _ => False := by rw [← hXg]; rfl
  have ePn : Xg.pn = [] := by rw [← hXg]; rfl
  have stat : ∀ {pins : List (Addr × Obj)} {H H' : Hp}, (∀ b ∈ fp, FpOk Xg pins H b) → (∀ b ∈ fp, H' b = none) → ∀ b ∈ fp, FpOk Xg pins H' b := fun f2 hn b hb => ⟨hn b hb, (f2 b hb).2⟩
  intro k
  induction k with
  | zero =>
    intro i s₀ s hk gi
    obtain ⟨⟨H, y, I, st, fo, w⟩, sz⟩ := gi
    rcases hW i H w with ⟨lt, _⟩ | ⟨stop, qt⟩
    · omega
    show Seg _ A _ _ _ s₀ _ ((compTurn (.GeneratorExp elt [⟨.Name x px, iter, [], 0⟩] sc gp) 0 (.ref it) .none ge).onRaise (leaving ge)) [] s
    rw [compTurn_gen, Sem.onRaise_eq_wrap]
    refine seg_bind_wrap (wpAny_standAt ?_)
    refine seg_bind_wrap (eA ▸ wpAny_mono (T.done Xg eP eW eK eC i _ s (y :: cs) H (fun _ _ => False) I fo st stop) (fun r s1 ⟨hr, I1⟩ => ?_) fun _ _ e => e.elim)
    subst hr
    exact seg_end (.ok .next) ⟨rfl, H, y, I1, qt⟩
  | succ k ih =>
    intro i s₀ s hk gi
    obtain ⟨⟨H, y, I, st, fo, w⟩, sz⟩ := gi
    show Seg _ A _ _ _ s₀ _ ((compTurn (.GeneratorExp elt [⟨.Name x px, iter, [], 0⟩] sc gp) 0 (.ref it) .none ge).onRaise (leaving ge)) [] s
    rw [compTurn_gen, Sem.onRaise_eq_wrap]
    refine seg_bind_wrap (wpAny_standAt ?_)
    rcases hW i H w with ⟨lt, gg, step⟩ | ⟨stop, qt⟩
    · refine seg_bind_wrap (eA ▸ GenW.wpAny_gsz sz (wpAny_mono (T.item Xg eP eW eK eC i _ s (y :: cs) H (fun _ _ => False) I fo st gg) (fun r s1 ⟨u, hr, rest⟩ sz1 => ?_) fun _ _ e _ => e.elim))
      subst hr
      refine seg_bind_wrap (eA ▸ GenW.wpAny_gsz sz1 (wpAny_mono rest (fun _ s2 ⟨v, H2, I2, rv, yl, st2, fr2⟩ sz2 => ?_) fun _ _ e _ => e.elim))
      have fo2 := stat fo fr2
      have I2' := I2.pinned fo2 (T.obj _ _ st2)
      have pgn : PG Xg (.Name x px) (gName 0) := pg_name (by rw [eN]; exact hnd) (by rw [eN]; rfl) (.inl (by rw [eE]; exact hx)) (.inr (by rw [eE]; exact hx))
      have run1 := pgn.run _ s2 (y :: cs) H2 v u (fun σ' H' => σ' = some v :: cs ∧ H' = H2) I2' rv ⟨rfl, rfl⟩
      rw [eE, eX] at run1
      refine seg_bind_wrap (eA ▸ GenW.wpAny_gsz sz2 (wpAny_mono (eP ▸ eW ▸ run1) (fun _ s3 ⟨σ3, H3, I3, e3, e4⟩ sz3 => ?_) fun _ _ e _ => e.elim))
      subst e3 e4
      simp only [List.forIn_nil]
      refine seg_bind_wrap (wpAny_pure ?_)
      rw [if_pos rfl]
      have hy : ∀ v, yieldOut ge v = yieldValue v := fun v => by simp only [yieldOut, hco, Bool.false_eq_true, if_false]
      simp only [hy]
      rw [Sem.bind_eq_wrap', Sem.bind_eq_wrap', Sem.wrap_wrap, Sem.wrap_wrap]
      have run2 := hel.run _ s3 (some v :: cs) H3 _ I3 (step v H3 yl)
      rw [eE, eX] at run2
      refine seg_wrap (eA ▸ GenW.wpAny_gsz sz3 (wpAny_mono (eP ▸ eW ▸ run2) (fun z s4 ⟨zv, H4, I4, rz, b, ez, q⟩ sz4 => ?_) fun _ _ e _ => e.elim))
      subst ez
      have ez' : z = .bool b := rz
      subst ez'
      have hn : n0 - i = (n0 - (i + 1)) + 1 := by omega
      have hm : n0 - (n0 - (i + 1)) = i + 1 := by omega
      rw [hn]
      have st4 : tn (i + 1) s4.heap := T.keep _ _ _ st2 fun b hb o e => (I4.pin (b, o) (List.mem_append_right _ (List.mem_append_right _ (mem_pinsAt hb e)))).1
      have fr4 : ∀ b ∈ fp, H4 b = none := fun b hb => by
        obtain ⟨o, e, d⟩ := T.obj _ _ st2 b hb
        exact (I4.pin (b, o) (List.mem_append_right _ (List.mem_append_right _ (mem_pinsAt hb e)))).2.1
      refine seg_at (seg_yield rfl rfl rfl ⟨b, rfl, fun hb => ?_, fun hb => ?_⟩)
      · rw [hb, if_pos rfl] at q
        rw [hm]
        exact ⟨⟨⟨H4, _, I4.unpinned, st4, stat fo fr4, q⟩, sz4⟩, fun s'' gi => seg_again rfl (ih (i + 1) s'' s'' (by omega) gi)⟩
      · rw [hb, if_neg Bool.false_ne_true] at q
        exact ⟨H4, _, I4.unpinned, q⟩
    · refine seg_bind_wrap (eA ▸ wpAny_mono (T.done Xg eP eW eK eC i _ s (y :: cs) H (fun _ _ => False) I fo st stop) (fun r s1 ⟨hr, I1⟩ => ?_) fun _ _ e => e.elim)
      subst hr
      exact seg_end (.ok .next) ⟨rfl, H, y, I1, qt⟩
/-- the generator as its consumer has it -/
def CStC (M : Model) (A : Around) (R : GenEnd) (Y : Protocol) (GI : Nat → Shared → Prop) (g n0 i : Nat) (s : Shared) : Prop :=
  GI i s ∧ ∃ gs, s.gens[g]? = some gs ∧ ∀ s'', GI i s'' → gs.Goes M A R Y (n0 - i) (.send .none) s''
theorem Inv.gensC {Xg : Cx} {pins : List (Addr × Obj)} {σ : L2.St} {H : Hp} {s : Shared} {gs : Array GenState} (I : Inv Xg pins σ H s) (h : AllBare gs) : Inv Xg pins σ H { s with gens := gs } :=
  ⟨I.ok, I.os, h, I.base, I.loc, I.cell, I.free, I.freeC, I.pin, I.hok, I.len⟩
theorem GInC.set {Xg : Cx} {i : Nat} {s : Shared} {gs : GenState} (h : GInC Xg cs fp tn ga go g W i s) (hb : gs.bare = true) : GInC Xg cs fp tn ga go g W i (s.setGen g gs) := by
  obtain ⟨⟨H, y, I, st, fo, w⟩, sz⟩ := h
  refine ⟨⟨H, y, Inv.gensC I (L2.allBare_setGen I.bare hb), st, fo, w⟩, ?_⟩
  rw [GenW.setGen_size]
  exact sz
theorem GEdC.set {Xg : Cx} {s : Shared} {gs : GenState} {Qe : Hp → Prop} (h : GEdC Xg cs ga go Qe s) (hb : gs.bare = true) : GEdC Xg cs ga go Qe (s.setGen g gs) := by
  obtain ⟨H, y, I, q⟩ := h
  exact ⟨H, y, Inv.gensC I (L2.allBare_setGen I.bare hb), q⟩
theorem gen_nextC {Xg : Cx} {E : Value → Shared → Prop} {s : Shared} {i : Nat} (hc : go.cls = .type "generator") (hd : ∃ nm qn, go.data = .fields #[.int g 0, nm, qn]) (hs : go.slots = #[]) (hh : A.handled = none) (hroom : A.depth < recursionLimit)
    (h : CStC (model X.prog X.w) A.in1 (RGC (GEdC Xg cs ga go Qt)) (YGC (GInC Xg cs fp tn ga go g W) (GEdC Xg cs ga go Qf) n0) (GInC Xg cs fp tn ga go g W) g n0 i s) :
    wpAny (model X.prog X.w) A (pyNext (.ref ga)) (fun r s' => (r = some (.bool true) ∧ i < n0 ∧ CStC (model X.prog X.w) A.in1 (RGC (GEdC Xg cs ga go Qt)) (YGC (GInC Xg cs fp tn ga go g W) (GEdC Xg cs ga go Qf) n0) (GInC Xg cs fp tn ga go g W) g n0 (i + 1) s') ∨
      (r = some (.bool false) ∧ GEdC Xg cs ga go Qf s') ∨ (r = none ∧ GEdC Xg cs ga go Qt s')) E s := by
  obtain ⟨gi, gs, hgs, hgo⟩ := h
  obtain ⟨nm, qn, hd⟩ := hd
  have hg : s.heap.IsGen ga g := by
    obtain ⟨⟨H, y, I, _⟩, _⟩ := gi
    exact ⟨go, nm, qn, (I.pin (ga, go) (List.mem_append_right _ (List.mem_singleton.mpr rfl))).1, hc, hd, hs⟩
  have hl : s.heap.NoLimit := by
    obtain ⟨⟨H, y, I, _⟩, _⟩ := gi
    exact I.nolimit
  refine wpAny_pyNext_genexpQ (P := fun _ _ s₁ => GEdC Xg cs ga go Qt s₁) hh hl hroom hg hgs (hgo _ (gi.set rfl)) (fun v s₁ gs' hb hv => ?_) (fun s₁ hp h' hk => ?_)
  · obtain ⟨b, rfl, ht, hf⟩ := hv
    cases b with
    | false => exact .inr (.inl ⟨rfl, (hf rfl).set hb⟩)
    | true =>
      obtain ⟨g1, g2⟩ := ht rfl
      cases hn : n0 - i with
      | zero =>
        rw [hn] at g1 g2
        exact (g2 s₁ g1).elim
      | succ m =>
        rw [hn] at g1 g2
        have e : n0 - (m + 1 - 1) = i + 1 := by omega
        rw [e] at g1 g2
        refine .inl ⟨rfl, by omega, g1.set hb, gs', L2.setGen_at (Nat.lt_of_succ_le g1.sz), fun s'' gi'' => ?_⟩
        have e2 : n0 - (i + 1) = m := by omega
        rw [e2]
        exact g2 s'' gi''
  · obtain ⟨H, y, I, q⟩ := hp
    refine .inr (.inr ⟨rfl, H, y, ?_, q⟩)
    have I2 := Inv.gensC (gs := (s₁.setGen g .finished).gens) I (L2.allBare_setGen I.bare rfl)
    exact I2.kept (t' := s₁.toks) hk
theorem all_loopXC {Xg : Cx} {R : Result → Shared → Prop} (hc : go.cls = .type "generator") (hd : ∃ nm qn, go.data = .fields #[.int g 0, nm, qn]) (hs : go.slots = #[]) (hh : A.handled = none) (hroom : A.in1.depth < recursionLimit)
    (hT : ∀ s', GEdC Xg cs ga go Qt s' → R (.ok (.ret (.bool true))) s') (hF : ∀ s', GEdC Xg cs ga go Qf s' → R (.ok (.ret (.bool false))) s') : ∀ (k i : Nat) (s : Shared), n0 - i = k →
    CStC (model X.prog X.w) A.in1.in1 (RGC (GEdC Xg cs ga go Qt)) (YGC (GInC Xg cs fp tn ga go g W) (GEdC Xg cs ga go Qf) n0) (GInC Xg cs fp tn ga go g W) g n0 i s → codeAny (model X.prog X.w) A (.builtin "all.loop" ⟨[.ref ga], []⟩) R s := by
  intro k
  induction k with
  | zero =>
    intro i s hk cs
    refine codeAny_builtin F.entry_all_loop ?_
    rw [Around.under_plainId F.plain_all_loop _]
    show wpAny _ A.in1 (pyNext (.ref ga) >>= _) _ _ s
    refine wpAny_bind (wpAny_mono (gen_nextC hc hd hs hh hroom cs) (fun r s' h => ?_) fun _ _ e => e)
    rcases h with ⟨rfl, lt, _⟩ | ⟨rfl, q⟩ | ⟨rfl, q⟩
    · omega
    · refine wpAny_bind (wpAny_holding (wpAny_truthy_bool ?_))
      refine wpAny_bind (wpAny_letGo ?_)
      simp only [Bool.false_eq_true, if_false]
      exact wpAny_bind (wpAny_rule (wpAny_pure (hF s' q)))
    · exact wpAny_bind (wpAny_rule (wpAny_pure (hT s' q)))
  | succ k ih =>
    intro i s hk cs
    refine codeAny_builtin F.entry_all_loop ?_
    rw [Around.under_plainId F.plain_all_loop _]
    show wpAny _ A.in1 (pyNext (.ref ga) >>= _) _ _ s
    refine wpAny_bind (wpAny_mono (gen_nextC hc hd hs hh hroom cs) (fun r s' h => ?_) fun _ _ e => e)
    rcases h with ⟨rfl, lt, cs'⟩ | ⟨rfl, q⟩ | ⟨rfl, q⟩
    · refine wpAny_bind (wpAny_holding (wpAny_truthy_bool ?_))
      refine wpAny_bind (wpAny_letGo ?_)
      simp only [if_true]
      exact wpAny_pure ⟨plainId_quiet F.plain_all_loop _, ih (i + 1) s' (by omega) cs'⟩
    · refine wpAny_bind (wpAny_holding (wpAny_truthy_bool ?_))
      refine wpAny_bind (wpAny_letGo ?_)
      simp only [Bool.false_eq_true, if_false]
      exact wpAny_bind (wpAny_rule (wpAny_pure (hF s' q)))
    · exact wpAny_bind (wpAny_rule (wpAny_pure (hT s' q)))
end
end Ey
set_option maxHeartbeats 4000000
namespace Ey
open PySem PySem.Spec PyProof.Rows L2 GxR
section
variable {X : Cx} {pins : List (Addr × Obj)} {σ : L2.St} {H : Hp} {s : Shared}
/-- the generator's frame begins -/
theorem inv_gxC {A : Around} {sc : Scope} {x : Str} {ys : List Str} {cs : L2.St} {fp : List Addr} {code : Value} {h5 : Heap} {g5 : Array GenState} {t5 : Nat} {m : Str → Option Value} (I : Inv X pins σ H s)
    (hk : sc.kind = .function) (hc : ∀ y ∈ sc.names, y.2 ≠ .cell) (hfree : ∀ y ∈ sc.names, y.2 = .free → ∃ c, X.env.cells.lookup y.1 = some c) (hvis : ∀ y ∈ sc.names, y.2 = .free → X.env.scope.names.lookup y.1 = some .cell ∨ X.env.scope.names.lookup y.1 = some .free)
    (hys : ∀ y ∈ ys, sc.names.lookup y = some .free) (hln : cs.length = ys.length) (hsel : ∀ (j : Nat) (y : Str) (v : V), ys[j]? = some y → cs[j]? = some (some v) → ∃ i : Nat, X.N[i]? = some y ∧ σ[i]? = some (some v))
    (hns : h5.Ns s.heap.objs.size m) (keep : ∀ b o, s.heap.get? b = some o → h5.get? b = some o) (bare : AllBare g5) (hh : A.handled = none)
    (fr : A.frames = some (genEnv sc (cloFrom X.env.cells sc.names []) s.heap.objs.size code builtinsNs X.env :: X.stack)) (ho : ∀ b ∈ fp, FpOk X pins H b ∧ b < s.heap.objs.size) :
    Inv (gxOfC X A s H (genEnv sc (cloFrom X.env.cells sc.names []) s.heap.objs.size code builtinsNs X.env) x ys fp) [] (none :: cs) H { s with heap := h5, gens := g5, toks := t5 } := by
  have cm : ∀ {y c}, (cloFrom X.env.cells sc.names []).lookup y = some c → X.env.cells.lookup y = some c := fun {y c} e => by
    rcases cloFrom_mem (PySem.mem_of_lookup e) with hm | ⟨q1, q2⟩
    · cases hm
    · obtain ⟨c1, hc1⟩ := hfree _ q1 rfl
      have hc2 : X.env.cells.lookup y = some c1 := hc1
      have e2 : c = c1 := by
        rw [q2, hc2] <;> rfl
      rw [e2]
      exact hc2
  have lk : ∀ {y}, sc.names.lookup y = some .free → ∃ c, (cloFrom X.env.cells sc.names []).lookup y = some c := fun {y} hl => by
    have hy : (y, NameKind.free) ∈ sc.names := PySem.mem_of_lookup hl
    exact mem_lookup (cloFrom_has (cells := X.env.cells) (acc := []) hy)
  have cellK : ∀ {c : Addr} {v : Option Value}, s.heap.IsCell c v → h5.IsCell c v := fun {c v} ⟨o, q1, q2⟩ => ⟨o, keep _ _ q1, q2⟩
  have nofs : ∀ b ∈ fp, b ∉ frs X.stack := fun b hb z => by
    obtain ⟨⟨_, h1, h2, _⟩, _⟩ := ho b hb
    rcases List.mem_cons.mp (I.stkSub b z) with q | q
    · exact h1 q
    · exact h2 q
  refine ⟨⟨I.ok.mod, hk, I.ok.glob, rfl, Nat.le_refl _, fun y z c e1 e2 => I.ok.inj y z c (cm e1) (cm e2), fun y hy => ?_, fun y c e _ => ?_, fun _ => hh, fr, .inr ⟨rfl, rfl⟩, fun b hb => ⟨Nat.ne_of_lt (ho b hb).2, fun y c e => ?_⟩, fun b o e => I.bs b o e, Nat.le_trans I.ok.bsz I.sz, fun b o e hb => ?_, fun b hb => nofs b hb, I.stack, I.stkFree⟩,
    rfl, bare, Un.kept keep, ⟨m, hns, fun i y v h1 h2 h3 => ?_⟩, fun y c e => ?_, I.hok.fresh (Nat.le_refl _), fun y c e => ?_, fun p hp => ?_, I.hok.kept keep, ?_⟩
  · have hy' : sc.names.lookup y = some .cell ∨ sc.names.lookup y = some .free := hy
    rcases hy' with q | q
    · exact absurd rfl (hc _ (PySem.mem_of_lookup q))
    · exact lk q
  · exact absurd e (by intro z; cases z)
  · exact fun z => (ho b hb).1.2.2.2.2.1 y c (cm e) (by first | exact z | exact z.symm)
  · obtain ⟨⟨_, _, _, h3, _⟩, _⟩ := ho b hb
    rcases h3 with q | q
    · exact I.ok.noex b o e q
    · exact Nat.lt_irrefl _ (Nat.lt_of_lt_of_le (Heap.lt_size e) (Nat.le_trans I.ok.bsz q))
  · cases i with
    | zero => cases h2
    | succ i =>
      have h1 : ys[i]? = some y := h1
      have h2 : cs[i]? = some (some v) := h2
      have kf := hys y (List.mem_of_getElem? h1)
      obtain ⟨i', e1, e2⟩ := hsel i y v h1 h2
      obtain ⟨m0, hn0, hl0⟩ := I.loc
      have kv := hvis _ (PySem.mem_of_lookup kf) rfl
      have hV : Vis X.env.scope y := kv.elim (fun k => .inr (.inl k)) (fun k => .inr (.inr k))
      obtain ⟨w1, r1, q1⟩ := hl0 i' y v e1 e2 hV
      obtain ⟨c2, z2⟩ := lk kf
      refine ⟨w1, r1, .inr ⟨.inr kf, c2, z2, ?_⟩⟩
      have c1 := cm z2
      rcases q1 with ⟨k', _⟩ | ⟨_, c3, e', z⟩
      · have k' : X.env.scope.names.lookup y = some .local := k'
        rcases kv with k2 | k2 <;> rw [show X.env.scope.names.lookup y = _ from k2] at k' <;> cases k'
      · rw [c1] at e'
        cases e'
        exact cellK z
  · obtain ⟨w1, z⟩ := I.cell y c (cm e)
    exact ⟨w1, cellK z⟩
  · exact I.freeC y c (cm e)
  · exact absurd hp (by intro z; cases z)
  · show cs.length + 1 = ys.length + 1
    rw [hln]
/-- all(e for x in it): the table of the running def's code may have grown; then, item by item -/
def selV (ix : List Nat) (σ : L2.St) : L2.St := ix.map fun i => (σ[i]?).join
def tAllC (P : Addr) (ix : List Nat) (wi : TI) (te : TE) : TE := fun σ H Q => wi σ H fun J H1 => TabG H1 P ∧ ∀ H2, Tabbed P H1 H2 → ∃ (n0 : Nat) (W : Nat → Hp → Prop), W 0 H2 ∧
  ∀ i H', W i H' → (i < n0 ∧ J.go i H' ∧ ∀ v H'', J.yld i H' v H'' → te (some v :: selV ix σ) H'' fun y H3 => ∃ b, y = .bl b ∧ if b = true then W (i + 1) H3 else Q (.bl false) H3) ∨ (J.stop i H' ∧ Q (.bl true) H')
theorem pe_allC {c P : Addr} {elt iter : Expr} {x : Str} {px p pos gp : Pos} {sc : Scope} {wi : TI} {te : TE} {k : Nat} {ix : List Nat} {ys : List Str}
    (hr : Room (k + 2) X.A) (hg : Gl X "all") (hm : X.mg "all" = none) (hb : bootBuiltins "all" = some (.builtin "all")) (TB : TabB X.base X.mg c P) (hco : X.env.code = .ref c) (S : GenS X.env sc x) (hnd : (x :: ys).Nodup) (hvis : ∀ y ∈ sc.names, y.2 = .free → X.env.scope.names.lookup y.1 = some .cell ∨ X.env.scope.names.lookup y.1 = some .free) (hys : ∀ y ∈ ys, sc.names.lookup y = some .free) (hln : ix.length = ys.length) (hix : ∀ (j : Nat) (y : Str), ys[j]? = some y → ∃ i : Nat, ix[j]? = some i ∧ X.N[i]? = some y)
    (hi : PI X (.Name x px) iter wi)
    (hel : ∀ (A : Around) (s : Shared) (H : Hp) (C : Addr) (code : Value) (fp : List Addr), Room k A → PE (gxOfC X A s H (genEnv sc (cloFrom X.env.cells sc.names []) C code builtinsNs X.env) x ys fp) elt te)
    (hs : ∀ v, genFold iter X.env v = pure v)
    (he : starEach [.GeneratorExp elt [⟨.Name x px, iter, [], 0⟩] sc gp] X.env = (false, eval (.GeneratorExp elt [⟨.Name x px, iter, [], 0⟩] sc gp) X.env) :: starEach [] X.env := by rfl) :
    PE X (.Call (.Name "all" p) [.GeneratorExp elt [⟨.Name x px, iter, [], 0⟩] sc gp] [] pos) (tAllC P ix wi te) := by
  refine ⟨fun pins s σ H Q I h => wpAny_Call_Name_kw (ld_blt I hg hm hb ?_)⟩
  refine PyProof.Rows.callWith_builtin1 ?_ he (by rfl)
  rw [he]
  show wpAny _ _ (spliced ((false, eval (.GeneratorExp elt [⟨.Name x px, iter, [], 0⟩] sc gp) X.env) :: backTo pos (starEach [] X.env))) _ _ s
  refine Calls.spliced_cons (wpAny_GeneratorExp_make S.co (cl := cloFrom X.env.cells sc.names []) (closure_ok S.free) S.cell S.dot S.kind (Nat.lt_of_le_of_lt (by omega) hr.dp) ?_ hs)
  refine thn (hi.run pins s σ H _ I h) fun v s1 h1 => thn h1 fun itv s2 h2 => ?_
  obtain ⟨it, fp, tn, J, H1, e, J1, T, st, fo, ⟨ps, tP, tok⟩, q⟩ := h2
  subst e
  have gP : s2.heap.get? P = some { cls := .none, data := .fields ps } := J1.hok P _ tP
  have head : PySem.W.CodeHd s2.heap c P := TB.code.keeps fun b u e => J1.bk b u e
  have ncP : cStatics ≠ P := fun e => by
    obtain ⟨_, ns, _⟩ := J1.nolimit
    obtain ⟨o', es, ep, g', d', _⟩ := ns
    rw [e, gP] at g'
    cases g'
    cases d'
  have hlc : (selV ix σ).length = ys.length := by
    unfold selV
    rw [List.length_map, hln]
  have hsel : ∀ (j : Nat) (y : Str) (v : V), ys[j]? = some y → (selV ix σ)[j]? = some (some v) → ∃ i : Nat, X.N[i]? = some y ∧ σ[i]? = some (some v) := fun j y v h1 h2 => by
    obtain ⟨i, e1, e2⟩ := hix j y h1
    refine ⟨i, e2, ?_⟩
    unfold selV at h2
    rw [List.getElem?_map, e1] at h2
    have h2 : (σ[i]?).join = some v := Option.some.inj h2
    cases q : σ[i]? with
    | none =>
      rw [q] at h2
      cases h2
    | some o =>
      rw [q] at h2
      have h2 : o = some v := h2
      rw [h2]
  have fpP : ∀ b ∈ fp, b ≠ P := fun b hb z => by
    have := (fo b hb).1
    rw [z, tP] at this
    cases this
  refine ⟨J1.nolimit, ?_⟩
  have go : ∀ (code : Value) (hN : Heap) (tk : Nat) (qs : Array Value), Heap.ExtBut P s2.heap hN → hN.get? P = some { cls := .none, data := .fields qs } → (∃ more, qs = ps ++ more) → TriplesOk qs.toList →
      wpAny (model X.prog X.w) X.A (builtinsFor X.env.globals X.env.builtins) (fun bi s₄ =>
        ∀ h', h'.Ns s₄.heap.objs.size (fun y => if y = ".0" then some (.ref it) else none) → Heap.SameBut s₄.heap.objs.size (s₄.heap.push { cls := .type "frame", data := .dict #[] }) h' →
          wpAny (model X.prog X.w) X.A (spliced (backTo pos (starEach [] X.env))) (fun us s' => wpAny (model X.prog X.w) X.A (call (.builtin "all") (.ref h'.objs.size :: us)) (EP X pins σ Q) X.xe s') X.xe { s₄ with
            gens := s₄.gens.push (.fresh (.compStart (.GeneratorExp elt [⟨.Name x px, iter, [], 0⟩] sc gp) 0 (.ref it) .none (genEnv sc (cloFrom X.env.cells sc.names []) s₄.heap.objs.size code bi X.env))),
            toks := s₄.toks + 1 + 1 + 1,
            heap := h'.push { cls := .type "generator", data := .fields #[.int s₄.gens.size 0, .str "<genexpr>" (s₄.toks + 1), .str (X.env.qual ++ "<genexpr>") (s₄.toks + 1 + 1)] } }) X.xe { s2 with heap := hN, toks := tk } := by
    intro code hN tk qs ext gPN more okN
    obtain ⟨bm, obm, e1, e2, e3, e4, e5, e6, e7, e8⟩ := TB.bm
    have stay : ∀ b u, b ≠ P → s2.heap.get? b = some u → hN.get? b = some u := fun b u nb e => ext b u nb e
    obtain ⟨mo, em⟩ := more
    subst em
    have J2 : Inv X pins σ (upd H1 P (.tbl (ps ++ mo))) { s2 with heap := hN, toks := tk } := inv_tab (more := mo) (h' := hN) (g' := s2.gens) (d' := s2.drawn) (t' := tk) J1 tP stay gPN J1.bare
    refine wpAny_builtinsFor (m := X.mg) (by rw [J1.ok.glob]; exact (J1.mod.glob.keeps J1.bk).extBut ext TB.gP) e1 e2 (stay _ _ e4 (J1.bk _ _ e5)) e6 e7 e8 ?_
    intro h' hn' hs'
    refine Calls.spliced_nil ?_
    obtain ⟨n0, W, w0, hW⟩ := q (upd H1 P (.tbl (ps ++ mo))) ⟨⟨ps ++ mo, upd_same, okN⟩, fun b nb => upd_ne nb⟩
    have sz' : h'.objs.size = hN.objs.size + 1 := by
      rw [hs'.1, Heap.size_push]
    have keep' : ∀ b o, hN.get? b = some o → h'.get? b = some o := fun b o e => hs'.extBut b o (Nat.ne_of_lt (Heap.lt_size e)) (Heap.get?_push_of_some _ e)
    generalize hgo : ({ cls := .type "generator", data := .fields #[.int s2.gens.size 0, .str "<genexpr>" (tk + 1), .str (X.env.qual ++ "<genexpr>") (tk + 1 + 1)] } : Obj) = gob
    have gc : gob.cls = .type "generator" := by rw [← hgo]
    have gd : ∃ nm qn, gob.data = .fields #[.int s2.gens.size 0, nm, qn] := ⟨_, _, by rw [← hgo]⟩
    have gs : gob.slots = #[] := by rw [← hgo]
    show wpAny (model X.prog X.w) X.A (call (.builtin "all") [.ref h'.objs.size]) (EP X pins σ Q) X.xe { s2 with
            gens := s2.gens.push (.fresh (.compStart (.GeneratorExp elt [⟨.Name x px, iter, [], 0⟩] sc gp) 0 (.ref it) .none (genEnv sc (cloFrom X.env.cells sc.names []) hN.objs.size code builtinsNs X.env))),
            toks := tk + 1 + 1 + 1, heap := h'.push gob }
    have keep5 : ∀ b o, hN.get? b = some o → (h'.push gob).get? b = some o := fun b o e => Heap.get?_push_of_some _ (keep' b o e)
    have atG : (h'.push gob).get? h'.objs.size = some gob := Heap.get?_push_size _ (by
      obtain ⟨nm, qn, e⟩ := gd
      exact Obj.isFreed_of_fields e)
    -- the frame
    generalize hge : genEnv sc (cloFrom X.env.cells sc.names []) hN.objs.size code builtinsNs X.env = ge
    have fpl : ∀ b ∈ fp, b < hN.objs.size := fun b hb => by
      obtain ⟨o, e, _⟩ := T.obj _ _ st b hb
      exact Heap.lt_size (stay b o (fpP b hb) e)
    have foN : ∀ b ∈ fp, FpOk X pins (upd H1 P (.tbl (ps ++ mo))) b := fun b hb => ⟨by rw [upd_ne (fpP b hb)]; exact (fo b hb).1, (fo b hb).2⟩
    have stN : tn 0 (h'.push gob) := T.keep _ _ _ st fun b hb o e => keep5 b o (stay b o (fpP b hb) e)
    have hAh : (X.A.in1.in1.over (gcodeC elt iter x px sc gp it ge) []).handled = none := hr.hd
    have hAf : (X.A.in1.in1.over (gcodeC elt iter x px sc gp it ge) []).frames = some (ge :: X.stack) := by
      show pushEnvs (gcodeC elt iter x px sc gp it ge).envs (pushEnvs [] X.A.frames) = _
      rw [J1.ok.frames]
      rfl
    have IG0 := inv_gxC (A := X.A.in1.in1.over (gcodeC elt iter x px sc gp it ge) []) (sc := sc) (x := x) (ys := ys) (cs := selV ix σ) (fp := fp) (code := code) (h5 := h'.push gob)
      (g5 := s2.gens.push (.fresh (.compStart (.GeneratorExp elt [⟨.Name x px, iter, [], 0⟩] sc gp) 0 (.ref it) .none ge))) (t5 := tk + 1 + 1 + 1) J2 S.kind S.cell S.free hvis hys hlc hsel (hn'.push gob) keep5 (AllBare.push J1.bare rfl) hAh (by rw [hAf, ← hge]) (fun b hb => ⟨foN b hb, fpl b hb⟩)
    rw [hge] at IG0
    generalize hXg : gxOfC X (X.A.in1.in1.over (gcodeC elt iter x px sc gp it ge) []) { s2 with heap := hN, toks := tk } (upd H1 P (.tbl (ps ++ mo))) ge x ys fp = Xg at IG0
    have gne : ∀ b ∈ fp, h'.objs.size ≠ b := fun b hb => Nat.ne_of_gt (Nat.lt_trans (fpl b hb) (by omega))
    have fpXg : ∀ b ∈ fp, FpOk Xg [(h'.objs.size, gob)] (upd H1 P (.tbl (ps ++ mo))) b := fun b hb => by
      rw [← hXg]
      refine ⟨(foN b hb).1, ?_, fun z => ?_, .inl hb, fun y cc e => ?_, fun p hp => ?_⟩
      · show b ≠ ge.locals
        rw [← hge]
        exact Nat.ne_of_lt (fpl b hb)
      · obtain ⟨_, q1, q2, _⟩ := foN b hb
        rcases List.mem_cons.mp (J2.stkSub b z) with q | q
        · exact q1 q
        · exact q2 q
      · have e' : ge.cells.lookup y = some cc := e
        rw [← hge] at e'
        have e' : (cloFrom X.env.cells sc.names []).lookup y = some cc := e'
        have e2 : X.env.cells.lookup y = some cc := by
          rcases cloFrom_mem (PySem.mem_of_lookup e') with hm | ⟨q1, q2⟩
          · cases hm
          · obtain ⟨c1, hc1⟩ := S.free _ q1 rfl
            have hc2 : X.env.cells.lookup y = some c1 := hc1
            have e3 : cc = c1 := by
              rw [q2, hc2] <;> rfl
            rw [e3]
            exact hc2
        exact (foN b hb).2.2.2.2.1 y cc e2
      · have hp' : p ∈ [(h'.objs.size, gob)] := hp
        rw [List.mem_singleton.mp hp']
        exact gne b hb
    have IG : Inv Xg [(h'.objs.size, gob)] (none :: selV ix σ) (upd H1 P (.tbl (ps ++ mo))) { s2 with heap := h'.push gob, gens := s2.gens.push (.fresh (.compStart (.GeneratorExp elt [⟨.Name x px, iter, [], 0⟩] sc gp) 0 (.ref it) .none ge)), toks := tk + 1 + 1 + 1 } := by
      refine IG0.pins_of fun p hp => ?_
      rw [List.mem_singleton.mp hp]
      have big : hN.objs.size < h'.objs.size := by omega
      refine ⟨atG, J2.hok.fresh (Nat.le_of_lt big), ?_, ?_, fun v e => ?_⟩
      · rw [← hXg]
        show h'.objs.size ≠ ge.locals
        rw [← hge]
        exact Nat.ne_of_gt big
      · rw [← hXg]
        intro z
        rcases List.mem_cons.mp (J2.stkSub _ z) with q | q
        · have l := J2.lt
          rw [← q] at l
          exact absurd (Nat.lt_trans big l) (Nat.lt_irrefl _)
        · exact J2.nofs (Nat.le_of_lt big) q
      · obtain ⟨nm, qn, e2⟩ := gd
        have e' : gob.data = .cell v := e
        rw [e2] at e'
        cases e'
    have back : ∀ (b : Bool) (s' : Shared), GEdC Xg (selV ix σ) h'.objs.size gob (Q (.bl b)) s' → EP X pins σ Q (.bool b) s' := fun b s' ⟨H', y, K, q⟩ => by
      rw [← hXg] at K
      exact ⟨.bl b, H', J2.call' (ch := fp) K.os K.base K.hok K.bare (fun c hc => ⟨(foN c hc).2.2.2.1, (foN c hc).2.1, (foN c hc).2.2.2.2.1, (foN c hc).2.2.2.2.2⟩), rfl, q⟩
    have loopS := seg_gloopC (X := X) (A := X.A.in1.in1) (sG := { s2 with heap := hN, toks := tk }) (HG := upd H1 P (.tbl (ps ++ mo))) (ge := ge) (fp := fp) (tn := tn) (ga := h'.objs.size) (go := gob) (g := s2.gens.size) (W := W) (Qf := Q (.bl false)) (Qt := Q (.bl true))
      (gp := gp) (sc := sc) (elt := elt) (iter := iter) (n0 := n0) (te := te) (ys := ys) (cs := selV ix σ) T (by rw [← hge]; exact S.loc) hnd (by rw [← hge]; exact S.co) (by
        rw [← hge]
        refine hel _ _ _ _ _ _ ⟨hr.hd, ?_, ?_⟩
        · have := hr.dp
          show X.A.depth + 0 + 1 + 3 * k + 5 < _
          omega
        · have := hr.un
          show X.A.units + 1 + 1 + 0 + 3 + 16 * k + 200 < _
          omega) hW
    rw [hXg] at loopS
    have GI0 : GInC Xg (selV ix σ) fp tn h'.objs.size gob s2.gens.size W 0 { s2 with heap := h'.push gob, gens := s2.gens.push (.fresh (.compStart (.GeneratorExp elt [⟨.Name x px, iter, [], 0⟩] sc gp) 0 (.ref it) .none ge)), toks := tk + 1 + 1 + 1 } :=
      ⟨⟨_, _, IG, stN, fpXg, w0⟩, by show s2.gens.size + 1 ≤ (s2.gens.push _).size; rw [Array.size_push]; exact Nat.le_refl _⟩
    refine call_function_tree F.kind_all F.plain_all F.entry_all (F.args_all1 _) ?_
    unfold Builtin.«all»
    refine wpAny_bind (m := oneArg "all" _) (wpAny_pure ?_)
    refine wpAny_bind (wpAny_pyIter_gen ⟨gob, _, _, atG, gc, gd.choose_spec.choose_spec, gs⟩ ?_)
    refine wpAny_pure ⟨plainId_quiet F.plain_all_loop _, all_loopXC (X := X) (A := X.A) (R := fun r s' => match r with | .ok (.ret v) => EP X pins σ Q v s' | .ok _ => False | .error e => X.xe e s') (Xg := Xg) (Qf := Q (.bl false)) (Qt := Q (.bl true)) (W := W) (fp := fp) (tn := tn) (n0 := n0) (cs := selV ix σ) gc gd gs hr.hd (Nat.lt_of_le_of_lt (by show X.A.depth ≤ X.A.depth + 3 * (k + 2) + 5; omega) hr.dp) (fun s' q => back true s' q) (fun s' q => back false s' q) n0 0 _ (Nat.sub_zero _) ⟨GI0, _, Array.getElem?_push_size .., fun s'' gi => ⟨rfl, ?_⟩⟩⟩
    have loop := loopS n0 0 s'' s'' (Nat.sub_zero _) gi
    obtain ⟨_, _, _, sti, _⟩ := gi.ex
    show Seg _ X.A.in1.in1 _ _ _ s'' _ ((compStart (.GeneratorExp elt [⟨.Name x px, iter, [], 0⟩] sc gp) 0 (.ref it) .none ge).onRaise (leaving ge)) [] s''
    unfold compStart
    rw [Sem.onRaise_eq_wrap]
    show Seg _ X.A.in1.in1 _ _ _ s'' _ ((ask >>= _).wrap _ _ _ _) [] s''
    refine seg_bind_wrap (wpAny_askSetting ?_)
    split
    · exact seg_again rfl loop
    · first
        | exact seg_bind_wrap (wpAny_rule (seg_bind_wrap (wpAny_standAt (seg_bind_wrap (T.self _ 0 _ _ _ sti (seg_again rfl loop))))))
        | (refine seg_bind_wrap (wpAny_rule ?_); show Seg _ X.A.in1.in1 _ _ _ s'' _ ((standAt iter.pos >>= _).wrap _ _ _ _) [] s''; exact seg_bind_wrap (wpAny_standAt (seg_bind_wrap (T.self _ 0 _ _ _ sti (seg_again rfl loop)))))
  cases am : codeAmong gp ps.toList with
  | none =>
    refine wpAny_genexprCodeX hco (head.code gP tok) (head.tab gP) am fun c' hN tk ext hge hlt hc' _ tab' _ => ?_
    obtain ⟨o1, vs, f1, tf, fl, tg, inF, tx, tt, op, _, _, _, _, _, _, _, _, _, tr, _⟩ := hc'
    exact go _ hN tk _ ext tab'.2 ⟨_, rfl⟩ tr
  | some cv =>
    refine wpAny_genexprCode_hit hco (head.code gP tok) am ?_
    exact go cv s2.heap s2.toks ps (Heap.ExtBut.refl _ _) gP ⟨#[], by simp⟩ tok
end
end Ey
set_option maxHeartbeats 4000000
namespace Ey
open PySem PySem.Spec L2
abbrev sPoly : Stmt := topS 9
/-- all(..) over a range -/
theorem all_range {lo : Int} {n : Nat} {cs : L2.St} {te : TE} {Q : VK} {H1 : Hp} (Pv : Nat → Hp → Prop) (h0 : Pv 0 H1)
    (hs : ∀ i H, i < n → Pv i H → te (some (.int (lo + i)) :: cs) H fun y H3 => ∃ b, y = .bl b ∧ if b = true then Pv (i + 1) H3 else Q (.bl false) H3) (hd : ∀ H, Pv n H → Q (.bl true) H) :
    ∃ (n0 : Nat) (W : Nat → Hp → Prop), W 0 H1 ∧ ∀ i H', W i H' → (i < n0 ∧ (Itr lo n).go i H' ∧ ∀ v H'', (Itr lo n).yld i H' v H'' → te (some v :: cs) H'' fun y H3 => ∃ b, y = .bl b ∧ if b = true then W (i + 1) H3 else Q (.bl false) H3) ∨ ((Itr lo n).stop i H' ∧ Q (.bl true) H') := by
  refine ⟨n, fun i H => i ≤ n ∧ Pv i H, ⟨Nat.zero_le _, h0⟩, fun i H ⟨hi, p⟩ => ?_⟩
  by_cases lt : i < n
  · refine .inl ⟨lt, lt, fun v H'' y => ?_⟩
    obtain ⟨e, y⟩ := y
    subst e
    subst y
    have h := hs i H'' lt p
    have e : (fun (y : V) (H3 : Hp) => ∃ b, y = .bl b ∧ if b = true then (i + 1 ≤ n ∧ Pv (i + 1) H3) else Q (.bl false) H3) = fun y H3 => ∃ b, y = .bl b ∧ if b = true then Pv (i + 1) H3 else Q (.bl false) H3 := by
      funext y H3
      refine propext ⟨fun ⟨b, e, h⟩ => ⟨b, e, ?_⟩, fun ⟨b, e, h⟩ => ⟨b, e, ?_⟩⟩
      · cases b
        · exact h
        · rw [if_pos rfl] at h ⊢
          exact h.2
      · cases b
        · exact h
        · rw [if_pos rfl] at h ⊢
          exact ⟨lt, h⟩
    rw [e]
    exact h
  · have e : i = n := by omega
    subst e
    exact .inr ⟨Nat.le_refl _, hd H p⟩
/-- all(..) over a tuple, beside captured names -/
theorem all_tupC {K : PySem.W.Frag} {a : Addr} {xs : List V} {cs : L2.St} {te : TE} {Q : VK} {H1 : Hp} (Pv : Nat → Hp → Prop) (h0 : Pv 0 H1) (hl : ∀ i H, Pv i H → SqT K H a xs)
    (hs : ∀ i x H, xs[i]? = some x → Pv i H → te (some x :: cs) H fun y H3 => ∃ b, y = .bl b ∧ if b = true then Pv (i + 1) H3 else Q (.bl false) H3) (hd : ∀ H, Pv xs.length H → Q (.bl true) H) :
    ∃ (n0 : Nat) (W : Nat → Hp → Prop), W 0 H1 ∧ ∀ i H', W i H' → (i < n0 ∧ (Itt K a).go i H' ∧ ∀ v H'', (Itt K a).yld i H' v H'' → te (some v :: cs) H'' fun y H3 => ∃ b, y = .bl b ∧ if b = true then W (i + 1) H3 else Q (.bl false) H3) ∨ ((Itt K a).stop i H' ∧ Q (.bl true) H') := by
  obtain ⟨n0, W, h1, h2⟩ := all_tup (K := K) (a := a) (xs := xs) (te := fun σ H R => te (σ ++ cs) H R) (Q := Q) Pv h0 hl hs hd
  exact ⟨n0, W, h1, h2⟩
def BK (Q : Bool → Hp → Prop) : VK := fun x H1 => ∃ c, x = .bl c ∧ Q c H1
def tBN (te : TE) : TT := fun σ H Q => te σ H (BK Q)
theorem pt_valN {X : Cx} {e : Expr} {te : TE} (h : PE X e te) (he : ∀ whole, PySem.isTrue e X.env whole = (do let v ← whole; standAt e.pos; holding [v] (truthy v)) := by intro _; rfl) : PT X e (tBN te) := pt_val h he
/-- a def whose code object stands at c, its table at P -/
structure DfT (K : PySem.W.Frag) (mg : Str → Option Value) (x : Str) (st : Stmt) (ps : List Str) (f : Addr) (fd : FuncData) (c : Addr) : Prop extends Df K mg x st ps f fd where
  ex : ∃ (oc : Value) (od : Option Addr) (kV doc pm : Value) (an : Option Addr) (ct : Value) (osl : Array (Option Value)),
    fd = PySem.W.fnOf x x (defArgs st) (defBody st) (defScope st) .none kV doc pm an (.ref c) ct ∧ K.lookup f = some ⟨oc, od, .func fd, osl⟩ ∧ PySem.W.codeIn K (.ref c) x = true
structure PP (K : PySem.W.Frag) (mg : Str → Option Value) (A : Nat → Addr) (D : Nat → FuncData) (c0 : Addr) : Prop extends PB K mg A D where
  poly : DfT K mg "is_poly" sPoly ["thing"] (A 9) (D 9) c0
section
variable {Pr : Program} {w : World} {K : PySem.W.Frag} {mg : Str → Option Value} {base : Heap} {ms : List Addr} {A : Nat → Addr} {D : Nat → FuncData} {c0 P0 : Addr}
theorem scPoly : FnScope ["thing"] ["thing"] (defScope sPoly) := ⟨rfl, rfl, rfl, by decide +kernel, rfl, by decide +kernel, by decide +kernel⟩
/-- a promise about any data -/
def spD (ms Ts : List Addr) (g : PyData → Bool) : Sp := fun vs H Q _ => ∃ (v : V) (d : PyData), vs = [v] ∧ An ms H v d ∧ wd d ≤ 1000000 ∧ TTs Ts H ∧ (∀ P ∈ Ts, P ∈ ms) ∧ ∀ H', TTs Ts H' → Kp Ts H H' → Q (.bl (g d)) H'
theorem ok_poly (F : PP K mg A D c0) (b : GxR.TabB base mg c0 P0) : FnOk Pr w K mg base CX0 8 (A 9) (D 9) ["thing"] (spD ms [P0] polyD) := by
  have B := F.B
  obtain ⟨oc, od, kV, doc, pm, an, ct, osl, efd, lk, code⟩ := F.poly.ex
  rw [efd]
  rw [efd] at lk
  refine fn_of lk code scPoly (fun vs H Q E h => ?_) (fun A outer s H vs Q E hr h => ?_)
  · obtain ⟨v, d, rfl, _⟩ := h
    rfl
  · obtain ⟨v, d, rfl, hv, hz, hT, hsub, k⟩ := h
    refine ⟨_, pss_cons (ps_if (PW.pt (pw_or (pt_not (pt_val (pe_callB call_isi (by rfl) B.isi (by decide +kernel) (pa_cons (pv 0) (pa_cons (pe_bltn (v := .ty "tuple") (by rfl) B.tuple (by decide +kernel) rfl) pa_nil)))))
        (pw_or1 (pt_not (pt_valN (pe_allC (k := 5) (P := P0) (c := c0) (ix := []) (ys := []) hr (by rfl) B.all (by decide +kernel) b rfl ⟨rfl, rfl, by decide +kernel, rfl, rfl, (by intro y hy e; exfalso; revert y; decide +kernel)⟩ (by decide +kernel) (by intro y hy e; exfalso; revert y; decide +kernel) (fun y hy => absurd hy List.not_mem_nil) rfl (fun j y h => by cases h) (pi_tup (pv 0))
          (fun A s H C code fp hr => pe_call (ok_pair (ms := ms) F.toPB) (hr.mono (by decide)) (by rfl) F.pair.g F.pair.F.kp F.pair.b .nil pass0 (pa_cons (pv 0) pa_nil)) (fun _ => rfl))))))) (pss_one (ps_ret pe_bl)) pss_nil)
      (pss_one (ps_ret (pe_allC (k := 5) (P := P0) (c := c0) (ix := [0]) (ys := ["thing"]) hr (by rfl) B.all (by decide +kernel) b rfl ⟨rfl, rfl, by decide +kernel, rfl, rfl, (by intro y hy e; simp only [List.mem_cons, List.not_mem_nil, or_false] at hy; rcases hy with rfl | rfl | rfl <;> first | (cases e; done) | exact ⟨_, rfl⟩)⟩ (by decide +kernel) (by intro y hy e; simp only [List.mem_cons, List.not_mem_nil, or_false] at hy; rcases hy with rfl | rfl | rfl <;> first | (cases e; done) | exact .inl rfl) (by intro y hy; rw [List.mem_singleton.mp hy]; rfl) rfl (by intro j y h; cases j with | zero => exact ⟨0, rfl, h⟩ | succ j => cases h)
          (pi_range1 (by rfl) B.range (pa_cons (pe_op op_sub (pe_callB call_len_seq (by rfl) B.len PySem.boot_len (pa_cons (pv 0) pa_nil)) pe_int) pa_nil))
          (fun A s H C code fp hr => pe_cmpR op_lt (pe_ix (r := rIxT K) ix_tup (pe_ix (r := rIxT K) ix_tup (pv 1) (pv 0) (fun _ _ => rfl)) pe_int (fun _ _ => rfl)) (pe_ix (r := rIxT K) ix_tup (pe_ix (r := rIxT K) ix_tup (pv 1) (pe_op op_add (pv 0) pe_int) (fun _ _ => rfl)) pe_int (fun _ _ => rfl)) (nomark _)) (fun _ => rfl)))), ?_⟩
    have kH := k H hT .refl
    obtain ⟨ty, hty, kty⟩ := hv.tupK (K := K)
    refine ⟨_, rfl, _, .ty "tuple", ty, .type "tuple", _, rfl, .ty "tuple", hty, kty, ?_⟩
    cases hv with
    | non => exact ⟨false, rfl, iteT kH⟩
    | bl b => exact ⟨false, rfl, iteT kH⟩
    | int i => exact ⟨false, rfl, iteT kH⟩
    | str g => exact ⟨false, rfl, iteT kH⟩
    | lst e => exact ⟨false, rfl, iteT kH⟩
    | dct e => exact ⟨false, rfl, iteT kH⟩
    | @tup t xs ds e hds =>
      refine ⟨true, rfl, iteF ?_⟩
      have lx := hds.length
      have hw1 := len_wd ds
      have hw2 : wd (.tuple ds) = wdAll ds + 3 := rfl
      have kw : ∀ b H', polyL ds = b → TTs [P0] H' → Kp [P0] H H' → Q (.bl b) H' := fun b H' e' g' k' => e' ▸ k H' g' k'
      refine ⟨_, rfl, t, rfl, ⟨_, sqt_of e⟩, hT _ (by simp), fun H2 h2 => ?_⟩
      obtain ⟨g2, kt2⟩ := hT.tab (by simp) h2
      refine all_tupC (K := K) (a := t) (xs := xs) (fun i H' => TTs [P0] H' ∧ Kp [P0] H H' ∧ (ds.take i).all pairD = true) ⟨g2, kt2, rfl⟩ (fun i H' h => sqt_of (h.2.1.tup _ _ e)) ?_ ?_
      · rintro i x H' hx ⟨g', k', qa⟩
        obtain ⟨dx, ex, ax⟩ := hds.get hx
        refine ⟨_, rfl, x, dx, rfl, ax.kp k' hsub dx, _, rfl, ?_⟩
        cases e2 : pairD dx with
        | true =>
          refine iteT ⟨g', k', ?_⟩
          rw [take_all ex, qa, e2]
          rfl
        | false =>
          refine iteF ⟨false, rfl, iteT (kw false H' ?_ g' k')⟩
          unfold polyL
          rw [List.all_eq_false.mpr ⟨dx, List.mem_of_getElem? ex, by rw [e2]; exact Bool.false_ne_true⟩, Bool.false_and]
      · rintro H' ⟨g', k', qa⟩
        rw [lx, List.take_length] at qa
        refine ⟨true, rfl, iteF ?_⟩
        have e' := k'.tup _ _ e
        have hds' := hds.kp k' hsub ds
        refine ⟨_, rfl, t, _, rfl, .inr (sqt_of e'), _, _, rfl, rfl, _, rfl, by omega, by omega, g' _ (by simp), fun H3 h3 => ?_⟩
        obtain ⟨g3, kt3⟩ := g'.tab (by simp) h3
        rw [show ((xs.length : Nat) - 1 : Int).toNat = xs.length - 1 by omega]
        have pr : ∀ j, j < xs.length → ∃ (tj : Addr) (a b : Int), xs[j]? = some (.ref tj) ∧ H' tj = some (.tup [.int a, .int b]) ∧ (ds.map expD).getD j 0 = a := fun j hj => by
          obtain ⟨dj, ej, aj⟩ := hds'.get (List.getElem?_eq_getElem hj)
          obtain ⟨tj, a, b, ev, et, rfl, _, _⟩ := pair_an aj (List.all_eq_true.mp qa dj (List.mem_of_getElem? ej))
          refine ⟨tj, a, b, ?_, et, ?_⟩
          · rw [List.getElem?_eq_getElem hj, ev]
          · rw [List.getD_eq_getElem?_getD, List.getElem?_map, ej]
            rfl
        refine all_range (lo := 0) (n := xs.length - 1) (fun i H4 => TTs [P0] H4 ∧ Kp [P0] H' H4 ∧ (List.range i).all (upI (ds.map expD)) = true) ⟨g3, kt3, rfl⟩ ?_ ?_
        · rintro i H4 hi ⟨g4, k4, qr⟩
          obtain ⟨t1, a1, b1, e1, h1, g1⟩ := pr i (by omega)
          obtain ⟨t2, a2, b2, e2, h2, g2'⟩ := pr (i + 1) (by omega)
          have c1 : atI xs (0 + (i : Int)) = some (.ref t1) := by
            rw [Int.zero_add]
            exact atI_nat e1
          have c2 : atI xs (0 + (i : Int) + 1) = some (.ref t2) := by
            rw [show (0 + (i : Int) + 1) = ((i + 1 : Nat) : Int) by omega]
            exact atI_nat e2
          have te := k4.tup _ _ e'
          refine ⟨_, rfl, _, rfl, t, _, _, _, rfl, rfl, sqt_of te, c1, t1, _, _, _, rfl, rfl, sqt_of (k4.tup _ _ h1), atI_nat (j := 0) rfl, _, rfl, _, rfl, _, _, rfl, rfl, t, _, _, _, rfl, rfl, sqt_of te, c2, t2, _, _, _, rfl, rfl, sqt_of (k4.tup _ _ h2), atI_nat (j := 0) rfl, _, _, rfl, rfl, _, rfl, ?_⟩
          have hup : upI (ds.map expD) i = decide (a1 < a2) := by
            unfold upI
            rw [g1, g2']
          by_cases hc : a1 < a2
          · rw [decide_eq_true hc]
            refine iteT ⟨g4, k4, ?_⟩
            rw [range_all, qr, hup, decide_eq_true hc]
            rfl
          · rw [decide_eq_false hc]
            refine iteF (kw false H4 ?_ g4 (k'.trans k4))
            unfold polyL ascI
            rw [qa, Bool.true_and, List.all_eq_false]
            refine ⟨i, List.mem_range.mpr (by rw [List.length_map, ← lx]; exact hi), ?_⟩
            rw [hup, decide_eq_false hc]
            exact Bool.false_ne_true
        · rintro H4 ⟨g4, k4, qr⟩
          refine kw true H4 ?_ g4 (k'.trans k4)
          unfold polyL ascI
          rw [qa, List.length_map, ← lx, qr]
          rfl
end
end Ey
set_option exponentiation.threshold 1000
set_option maxHeartbeats 4000000
namespace Ey
open PySem PySem.Spec PyProof.Rows L2
/-! ### repr of data with great integers -/
def rReprW : List V → Hp → VK → Prop := fun xs H Q => ∃ (ms : List Addr) (v : V) (d : PyData), xs = [v] ∧ An ms H v d ∧ d.showable = true ∧ d.depth ≤ 100 ∧ d.shown.length ≤ 1000000 ∧ Q (.str d.shown) H
theorem cr_reprW {X : Cx} (hs : ∃ mm, X.base.Ns sysModules mm) (hg : X.A.guards = some []) (hu : X.A.units + 200 < cLine) : CallR X (.builtin "repr") rReprW := by
  intro pins s σ H xs us Q I r h
  obtain ⟨ms, v, d, rfl, hd, sh, hp, ln, q⟩ := h
  obtain ⟨u, rfl, ru⟩ := vals1 r
  obtain ⟨as, rd, ns⟩ := An.reads I hs d hd ru
  have z : d.shown.length ≤ sizeLine := Nat.le_trans ln (by decide)
  have room : X.A.units + (d.depth + 1) < cLine := by omega
  have fin : ∀ (hN : Heap) (tk : Nat) (t : Tok), (∀ b o, s.heap.get? b = some o → hN.get? b = some o) → EP X pins σ Q (.str d.shown t) { s with heap := hN, toks := tk } :=
    fun hN tk t hk => ⟨.str d.shown, H, I.kept hk, ⟨t, rfl⟩, q⟩
  cases rd with
  | none => exact PySem.P.repr_of_none (fin s.heap _ _ fun _ _ e => e)
  | bool b => exact PySem.P.repr_of_bool (fin s.heap _ _ fun _ _ e => e)
  | int i t => exact PySem.P.repr_of_int (of_decide_eq_true sh) (fin s.heap _ _ fun _ _ e => e)
  | str x t => exact PySem.P.repr_of_str (fin s.heap _ _ fun _ _ e => e) z
  | list a b c e => exact repr_of_reads' (.list a b c e) sh (fun _ => ns) hg room (fun _ _ e => e) (fun hN u tk hk => fin hN tk u hk) z
  | tuple a b c e => exact repr_of_reads' (.tuple a b c e) sh (fun _ => ns) hg room (fun _ _ e => e) (fun hN u tk hk => fin hN tk u hk) z
  | dict a b c e f => exact repr_of_reads' (.dict a b c e f) sh (fun _ => ns) hg room (fun _ _ e => e) (fun hN u tk hk => fin hN tk u hk) z
theorem nat_big {n : Nat} (h : n < 10 ^ 90) : (Str.ofString (toString (n : Int))).length ≤ 90 := by
  rw [ofString_len]
  show (Nat.repr n).length ≤ 90
  have e : (Nat.repr n).length = (Nat.toDigits 10 n).length := by
    unfold Nat.repr
    simp
  rw [e]
  exact digits10_le (by decide) h
theorem int_big {n : Nat} (h : n < 10 ^ 90) : (PyData.int n).showable = true ∧ (PyData.shown (.int n)).length ≤ 90 := by
  refine ⟨decide_eq_true ?_, nat_big h⟩
  show n.log2 < 1920
  by_cases h0 : n = 0
  · rw [h0]
    decide
  · rw [Nat.log2_lt h0]
    exact Nat.lt_trans h (by decide +kernel)
theorem pair_big {n : Nat} (h : n < 10 ^ 90) : (PyData.tuple [.int n, .int n]).showable = true ∧ (PyData.shown (.tuple [.int n, .int n])).length ≤ 1000000 := by
  obtain ⟨a, b⟩ := int_big h
  refine ⟨?_, ?_⟩
  · show ((PyData.int n).showable && ((PyData.int n).showable && true)) = true
    rw [a]
    rfl
  · refine Nat.le_trans (lenT _) ?_
    have e : piled (PyData.shownAll [.int n, .int n]) = (PyData.shown (.int n)).length + 2 + ((PyData.shown (.int n)).length + 2 + 0) := by
      show piled [PyData.shown (.int n), PyData.shown (.int n)] = _
      rw [piled_cons, piled_cons]
      rfl
    omega
end Ey
set_option maxHeartbeats 4000000
namespace Ey
open PySem PySem.Spec L2
/-! ### f(k = v, ..), the parameters told from the last one to the first -/
def gRv {α : Type} (us ws : List α) : List α := match us with
  | [] => ws.reverse
  | _ :: _ => []
theorem vals_rv {xs : List V} {us : List Value} (h : Vals xs us) : Vals xs.reverse us.reverse := by
  induction h with
  | nil => exact .nil
  | cons a _ ih =>
    rw [List.reverse_cons, List.reverse_cons]
    exact ih.append (.cons a .nil)
theorem kb_rv {K : PySem.W.Frag} {fd : FuncData} {ps ks : List Str} (hp : ps ≠ []) (h : ∀ ws : List Value, ws.length = ps.length → bindArgs fd ⟨[], ks.zip ws⟩ = pure (ps.zip ws.reverse)) : KBinds K fd ps ks gRv gRv := by
  refine ⟨fun s us ws _ hl => ?_, fun {vs us zs ws} r1 r2 => ?_⟩
  · cases us with
    | nil => exact .of_eq (h ws (by rw [← hl]; exact (List.length_reverse).symm))
    | cons a r => exact absurd hl (by intro e; exact hp (List.length_eq_zero_iff.mp e.symm))
  · cases r1 with
    | nil => exact vals_rv r2
    | cons _ _ => exact .nil
theorem Fun.rvs {K : PySem.W.Frag} {x qual : Str} {st : Stmt} {f : Addr} {fd : FuncData} {ps ks : List Str} (F : Fun K x qual st f fd) (hp : ps ≠ [])
    (h : ∀ (kV doc pm : Value) (an : Option Addr) (cdv ct : Value) (ws : List Value), ws.length = ps.length → bindArgs (PySem.W.fnOf x qual (defArgs st) (defBody st) (defScope st) .none kV doc pm an cdv ct) ⟨[], ks.zip ws⟩ = pure (ps.zip ws.reverse)) : KBinds K fd ps ks gRv gRv := by
  obtain ⟨oc, od, kV, doc, pm, an, cdv, ct, osl, rfl, lk, _⟩ := F.ex
  exact kb_rv hp (h kV doc pm an cdv ct)
section
variable {X : Cx} {CX : CXT} {k : Nat} {f : Addr} {fd : FuncData} {qs ks : List Str} {sp : Sp} {E : XK} {x : Str} {p pos : Pos} {kws : List Keyword} {tk : TA} {g : List Value → List Value → List Value} {gV : List V → List V → List V}
theorem pe_callKR (F : FnOk X.prog X.w X.K X.mg X.base CX k f fd qs sp) (hr : Room k X.A) (hg : Gl X x) (hm : X.mg x = some (.ref f)) (hk : PySem.W.keepIn X.K (.ref f) = true) (hb : KBinds X.K fd qs ks g gV) (hx : Passes CX X E) (hkw : PK X kws tk)
    (hall : (backToKw pos (keywordEach kws X.env)).all (·.1.isSome) = true := by rfl) (hks : (backToKw pos (keywordEach kws X.env)).filterMap (·.1) = ks := by rfl) (hdb : (x == ("__debug__" : Str)) = false := by decide)
    (hpl : ((backTo pos (starEach [] X.env)).any (·.1) || (backToKw pos (keywordEach kws X.env)).any (·.1.isNone)) = false := by rfl) :
    PE X (.Call (.Name x p) [] kws pos) (tCallK sp gV E tNil tk) := by
  refine ⟨fun pins s σ H Q I h => wpAny_Call_Name_kw (ld_glob I hg hm ?_ hdb)⟩
  refine PySem.W.callWith_KW0 (h₀ := X.base) I.ok.mod.kin hk hall ?_ hpl
  refine thn (hkw.run pos pins s σ H _ I h) fun ws s2 ⟨zs, H2, I2, rz, q2⟩ => ⟨I2.kIn, ?_⟩
  rw [hks]
  exact run_fnk (us := []) (vs := []) F hr hb hx I2 .nil rz q2
end
end Ey
set_option exponentiation.threshold 1000
set_option maxHeartbeats 1000000
namespace Ey
open PySem PySem.Spec L2
abbrev sVal : Stmt := topS 11
structure PV (K : PySem.W.Frag) (mg : Str → Option Value) (A : Nat → Addr) (D : Nat → FuncData) (c0 : Addr) : Prop extends PP K mg A D c0 where
  val : Df K mg "value_at" sVal ["poly", "number"] (A 11) (D 11)
section
variable {Pr : Program} {w : World} {K : PySem.W.Frag} {mg : Str → Option Value} {base : Heap} {ms : List Addr} {A : Nat → Addr} {D : Nat → FuncData} {c0 P0 BP BN CE fP fN : Addr}
abbrev NVa : List Str := ["poly", "number", "exponent", "coefficient"]
theorem scVal : FnScope NVa ["poly", "number"] (defScope sVal) := ⟨rfl, rfl, rfl, by decide +kernel, rfl, by decide +kernel, by decide +kernel⟩
/-- what a refusal or an answer is -/
def spVA (ms Ts : List Addr) (BP BN : Addr) : Sp := fun vs H Q E => ∃ (v u : V) (d e : PyData), vs = [v, u] ∧ An ms H v d ∧ An ms H u e ∧ wd d ≤ 1000000 ∧ TTs Ts H ∧ (∀ P ∈ Ts, P ∈ ms) ∧
  (polyD d = true → natD e = true → ∃ (ds : List PyData) (m : Nat), d = .tuple ds ∧ e = .int m ∧ ds.all inB = true ∧ m < 2 ^ 20 ∧ ds.length ≤ 1000 ∧ ∀ H', TTs Ts H' → Kp Ts H H' → Q (.int (valL m ds)) H') ∧
  (polyD d = false → ∀ dd H', H' dd = some (.xd [("thing", v)]) → TTs Ts H' → Kp Ts H H' → E (.ref BP) (some dd) H') ∧
  (polyD d = true → natD e = false → ∀ dd H', H' dd = some (.xd [("thing", u)]) → TTs Ts H' → Kp Ts H H' → E (.ref BN) (some dd) H')
theorem ok_val (F : PV K mg A D c0) (b : GxR.TabB base mg c0 P0) (X : XF K mg BP BN CE fP fN) : FnOk Pr w K mg base (L2.CX Pr w) 9 (A 11) (D 11) ["poly", "number"] (spVA ms [P0] BP BN) := by
  have B := F.B
  refine F.val.F.okX scVal (fun vs H Q E h => ?_) (fun cdv Ar outer s H vs Q E hr h => ?_)
  · obtain ⟨v, u, d, e, rfl, _⟩ := h
    rfl
  · obtain ⟨v, u, d, e, rfl, hv, hu, hz, hT, hsub, kS, kP, kN⟩ := h
    have hr2 := hr.mono (show 2 ≤ 8 by decide)
    have hr1 := hr.mono (show 1 ≤ 8 by decide)
    refine ⟨_, pss_cons (ps_if (pt_not (pt_val (pe_call (ok_poly (ms := ms) F.toPP b) hr (by rfl) F.poly.g F.poly.F.kp F.poly.b .nil pass0 (by exact (pa_cons (pv 0) pa_nil))))) (pss_one (ps_raiseBadPoly rfl X.P hr (takes_of rfl rfl rfl rfl) (by exact (pa_cons (pv 0) pa_nil)))) pss_nil)
      (pss_cons (ps_if (pt_not (pt_val (pe_call (ok_nat (ms := ms) F.toPB) hr2 (by rfl) F.nat.g F.nat.F.kp F.nat.b .nil pass0 (by exact (pa_cons (pv 1) pa_nil))))) (pss_one (ps_raiseBadNumber rfl X.N hr (takes_of rfl rfl rfl rfl) (by exact (pa_cons (pv 1) pa_nil)))) pss_nil)
      (pss_one (ps_ret (pe_callB (cr_sum rfl) (by rfl) B.sum (by decide +kernel) (pa_cons (pe_lc (own := [("exponent", 2), ("coefficient", 3)]) (g := gTup K 2 (gCons (gName 2) (gCons (gName 3) gNil))) (tt := tYes) rfl scVal.nd
        (pi_tup (pv 0)) (blkOk_by (N := NVa) (sc := defScope sVal) (by decide +kernel)) (fun _ _ _ _ _ => pg_tup (n := 2) rfl (pgs_cons (pg_name (i := 2) scVal.nd rfl (Or.inl rfl)) (pgs_cons (pg_name (i := 3) scVal.nd rfl (Or.inl rfl)) pgs_nil)))
        (fun _ _ _ _ _ => pts_nil) (fun _ _ _ _ _ => pe_op op_mulW (pv 3) (pe_call (ok_power F.toPB) hr1 (by rfl) F.power.g F.power.F.kp F.power.b .nil pass0 (by exact (pa_cons (pv 1) (pa_cons (pv 2) pa_nil)))))) pa_nil))))), ?_⟩
    refine ⟨_, rfl, v, d, rfl, hv, hz, hT, hsub, fun H1 g1 k1 => ⟨_, rfl, ?_⟩⟩
    cases ep : polyD d with
    | false => exact iteT ⟨_, rfl, _, rfl, fun dd hd => kP ep dd _ upd_same (g1.kp0 (.new hd)) (k1.trans (.new hd))⟩
    | true =>
      refine iteF ⟨_, rfl, u, e, rfl, hu.kp k1 hsub e, _, rfl, ?_⟩
      cases en : natD e with
      | false => exact iteT ⟨_, rfl, _, rfl, fun dd hd => kN ep en dd _ upd_same (g1.kp0 (.new hd)) (k1.trans (.new hd))⟩
      | true =>
        refine iteF ?_
        obtain ⟨ds, m, rfl, rfl, hb, hm, hl, k⟩ := kS ep en
        have hp : ds.all pairD = true := by
          have : polyL ds = true := ep
          unfold polyL at this
          rw [Bool.and_eq_true] at this
          exact this.1
        have hv1 := hv.kp k1 hsub _
        cases hu with
        | int =>
        cases hv1 with
        | @tup t xs _ e hds =>
          have lx := hds.length
          refine ⟨_, rfl, t, rfl, ⟨_, sqt_of e⟩, fun D nD => ?_⟩
          refine lc_tup (K := K) (a := t) (xs := xs) (fun i H' => H' D = some (.lst (((ds.take i).map (valD m)).map V.int)) ∧ Kp [] H1 H') ⟨upd_same, .new nD⟩ (fun i H' _ h => sqt_of (h.2.tup _ _ e)) ?_ ?_
          · rintro i x H' hx ⟨hD, k'⟩
            obtain ⟨dx, ex, ax⟩ := hds.get hx
            have hmem := List.mem_of_getElem? ex
            obtain ⟨tj, a, b, rfl, et, rfl, ha, hb'⟩ := pair_an ax (List.all_eq_true.mp hp dx hmem)
            have hin := List.all_eq_true.mp hb _ hmem
            have hin : (decide (a.toNat < 16) && decide (b < 2 ^ 50)) = true := hin
            rw [Bool.and_eq_true] at hin
            have h16 : a.toNat < 16 := of_decide_eq_true hin.1
            have h50 : b < 2 ^ 50 := of_decide_eq_true hin.2
            obtain ⟨n, rfl⟩ : ∃ n : Nat, a = (n : Int) := ⟨a.toNat, by omega⟩
            rw [Int.toNat_natCast] at h16
            have hpw : m ^ n < 2 ^ 400 := by
              refine Nat.lt_of_le_of_lt (Nat.pow_le_pow_left (Nat.le_of_lt hm) _) ?_
              rw [← Nat.pow_mul]
              exact Nat.pow_lt_pow_right (by decide) (by omega)
            have bl : i < ds.length := (List.getElem?_eq_some_iff.mp ex).1
            refine ⟨tj, _, rfl, sqt_of (k'.tup _ _ et), rfl, _, _, rfl, _, _, rfl, rfl, rfl, ?_⟩
            refine ⟨_, rfl, _, rfl, _, rfl, m, n, rfl, hm, h16, _, _, rfl, rfl, wide_mul (a := 50) (b := 400) (by omega) (by rw [cast_pow]; exact hpw) (by decide) (by decide) (by decide), ?_⟩
            refine ⟨_, hD, Nat.lt_of_le_of_lt (show _ ≤ 1000 by rw [List.length_map, List.length_map, List.length_take]; omega) (by decide), ?_, k'.own nD⟩
            rw [upd_same, List.take_add_one, ex, List.map_append, List.map_append]
            rfl
          · rintro H' ⟨hD, k'⟩
            rw [lx, List.take_length] at hD
            exact ⟨D, _, rfl, sql_of hD, k H' (g1.kp0 k') (k1.trans (k'.more (by simp)))⟩
end
end Ey
set_option exponentiation.threshold 1000
set_option maxHeartbeats 1000000
namespace Ey
open PySem PySem.Spec PyProof.Rows L2
/-! ### values of parts of a polynomial -/
theorem val_app (m : Nat) (a b : List PyData) : valL m (a ++ b) = valL m a + valL m b := by
  unfold valL
  rw [List.map_append, List.sum_append]
theorem val_cut (m : Nat) (ds : List PyData) (i : Nat) : valL m (ds.take i) + valL m (ds.drop i) = valL m ds := by
  rw [← val_app, List.take_append_drop]
theorem getD_take {es : List Int} {i j : Nat} (h : j < i) : (es.take i).getD j 0 = es.getD j 0 := by
  rw [List.getD_eq_getElem?_getD, List.getD_eq_getElem?_getD, List.getElem?_take_of_lt h]
theorem getD_drop {es : List Int} {i j : Nat} : (es.drop i).getD j 0 = es.getD (i + j) 0 := by
  rw [List.getD_eq_getElem?_getD, List.getD_eq_getElem?_getD, List.getElem?_drop]
theorem asc_take {es : List Int} (i : Nat) (h : ascI es = true) : ascI (es.take i) = true := by
  unfold ascI at h ⊢
  rw [List.all_eq_true] at h ⊢
  intro j hj
  have hj := List.mem_range.mp hj
  rw [List.length_take] at hj
  have := h j (List.mem_range.mpr (by omega))
  unfold upI at this ⊢
  rw [getD_take (by omega), getD_take (by omega)]
  exact this
theorem asc_drop {es : List Int} (i : Nat) (h : ascI es = true) : ascI (es.drop i) = true := by
  unfold ascI at h ⊢
  rw [List.all_eq_true] at h ⊢
  intro j hj
  have hj := List.mem_range.mp hj
  rw [List.length_drop] at hj
  have := h (i + j) (List.mem_range.mpr (by omega))
  unfold upI at this ⊢
  rw [getD_drop, getD_drop]
  exact this
theorem PolyOk.take {ds : List PyData} (h : PolyOk ds) (i : Nat) : PolyOk (ds.take i) :=
  ⟨fun d hd => h.t d (List.mem_of_mem_take hd), by rw [List.map_take]; exact asc_take i h.a, by rw [List.length_take]; have := h.l; omega⟩
theorem PolyOk.drop {ds : List PyData} (h : PolyOk ds) (i : Nat) : PolyOk (ds.drop i) :=
  ⟨fun d hd => h.t d (List.mem_of_mem_drop hd), by rw [List.map_drop]; exact asc_drop i h.a, by rw [List.length_drop]; have := h.l; omega⟩
/-- a value is a number below 10 ** 90 -/
theorem val_big {m : Nat} (hm : m < 2 ^ 20) : ∀ ds : List PyData, (∀ d ∈ ds, termOk d) → ds.length ≤ 12 → ∃ n : Nat, valL m ds = (n : Int) ∧ n < (ds.length + 1) * 10 ^ 87
  | [], _, _ => ⟨0, rfl, by decide⟩
  | d :: r, ht, hl => by
    obtain ⟨n, e, hn⟩ := val_big hm r (fun x hx => ht x (List.mem_cons_of_mem _ hx)) (Nat.le_of_succ_le hl)
    obtain ⟨i, j, rfl, h1, h2, h3⟩ := ht d List.mem_cons_self
    have e2 : valD m (.tuple [.int i, .int j]) = ((j * m ^ i : Nat) : Int) := by
      show (j : Int) * ((m ^ (i : Int).toNat : Nat) : Int) = _
      rw [Int.toNat_natCast, Int.natCast_mul]
    have hp : m ^ i ≤ 2 ^ 240 := by
      refine Nat.le_trans (Nat.pow_le_pow_left (Nat.le_of_lt hm) _) ?_
      rw [← Nat.pow_mul]
      exact Nat.pow_le_pow_right (by decide) (by omega)
    have hj : j * m ^ i ≤ 10 ^ 12 * 2 ^ 240 := Nat.mul_le_mul h3 hp
    have hc : 10 ^ 12 * 2 ^ 240 < 10 ^ 87 := by decide +kernel
    refine ⟨j * m ^ i + n, ?_, ?_⟩
    · show (valD m (.tuple [.int i, .int j]) :: r.map (valD m)).sum = _
      rw [List.sum_cons, e2]
      have e : (r.map (valD m)).sum = (n : Int) := e
      rw [e, Int.natCast_add]
    · show _ < (r.length + 1 + 1) * 10 ^ 87
      rw [Nat.add_mul (r.length + 1)]
      omega
/-! ### what stands all through the law -/
theorem tabS_kp {ms : List Addr} {H H1 : Hp} {P : Addr} {q : Str} (t : LamX.TabS H P q) (k : Kp ms H H1) (hP : P ∉ ms) (hc : ∀ b ∈ ms, ∀ o, H b = some o → ∀ c q, o ≠ LamX.CodeO c q) : LamX.TabS H1 P q := by
  obtain ⟨ps, e, ok, nm⟩ := t
  refine ⟨ps, k.at_ _ _ e hP, ok, fun pos cv h => ?_⟩
  obtain ⟨c, e1, e2⟩ := nm pos cv h
  exact ⟨c, e1, k.at_ _ _ e2 fun hm => hc c hm _ e2 c q rfl⟩
structure LI (Ts : List Addr) (d l PL : Addr) (q : Str) (H : Hp) : Prop where
  fr : Frame (d :: l :: PL :: Ts) d l H
  ts : TTs Ts H
  tl : LamX.TabS H PL q
  nt : PL ∉ Ts
section
variable {Ts : List Addr} {d l PL : Addr} {q : Str} {H H1 : Hp}
theorem LI.pd (h : LI Ts d l PL q H) : PL ≠ d ∧ PL ≠ l := by
  obtain ⟨m, n, ns, h1, h2, _⟩ := h.fr.dk.ex
  obtain ⟨ps, e, _⟩ := h.tl
  exact ⟨ne_of e h1 (by intro z; cases z), ne_of e h2 (by intro z; cases z)⟩
theorem LI.td (h : LI Ts d l PL q H) : d ∉ Ts ∧ l ∉ Ts := by
  obtain ⟨m, n, ns, h1, h2, _⟩ := h.fr.dk.ex
  exact ⟨h.ts.nino h1 (by intro ps z; cases z), h.ts.nino h2 (by intro ps z; cases z)⟩
theorem LI.dl (h : LI Ts d l PL q H) : ∀ b ∈ [d, l], ∀ o, H b = some o → ∀ c q, o ≠ LamX.CodeO c q := fun b hb o e c q z => by
  obtain ⟨m, n, ns, h1, h2, _⟩ := h.fr.dk.ex
  subst z
  rcases List.mem_cons.mp hb with rfl | hb
  · rw [h1] at e
    cases e
  · rw [List.mem_singleton.mp hb, h2] at e
    cases e
/-- a call of the law's own that draws -/
theorem LI.own (h : LI Ts d l PL q H) (k : Kp [d, l] H H1) (F : Frame (d :: l :: PL :: Ts) d l H1) : LI Ts d l PL q H1 := by
  refine ⟨F, h.ts.kp k fun P hP => ?_, tabS_kp h.tl k (by simp [h.pd.1, h.pd.2]) h.dl, h.nt⟩
  intro hm
  rcases List.mem_cons.mp hm with rfl | hm
  · exact h.td.1 hP
  · rw [List.mem_singleton.mp hm] at hP
    exact h.td.2 hP
theorem LI.kp0 (h : LI Ts d l PL q H) (k : Kp [] H H1) : LI Ts d l PL q H1 := ⟨h.fr.kp0 k, h.ts.kp0 k, tabS_kp h.tl k List.not_mem_nil (fun b hb => absurd hb List.not_mem_nil), h.nt⟩
theorem LI.new {p : Addr} {o : HO} (h : LI Ts d l PL q H) (n : H p = none) : LI Ts d l PL q (upd H p o) := h.kp0 (.new n)
/-- a call of the program -/
theorem LI.prog (h : LI Ts d l PL q H) (k : Kp Ts H H1) (g : TTs Ts H1) : LI Ts d l PL q H1 := by
  refine ⟨⟨h.fr.dk.kp k h.td.1 h.td.2, h.fr.dm, h.fr.lm, h.fr.has.kp k fun b hb => ?_⟩, g, tabS_kp h.tl k h.nt (fun b hb o e c q z => ?_), h.nt⟩
  · obtain ⟨ps, e, _⟩ := g b hb
    rw [e]
    exact fun z => nomatch z
  · obtain ⟨ps, e2, _⟩ := h.ts b hb
    rw [e2] at e
    subst z
    exact LamX.codeO_ne ps (Option.some.inj e).symm
/-- a lambda made -/
theorem LI.lam (h : LI Ts d l PL q H) (k : Kp [PL] H H1) (g : LamX.TabS H1 PL q) : LI Ts d l PL q H1 := by
  refine ⟨⟨h.fr.dk.kp k (by simp [h.pd.1.symm]) (by simp [h.pd.2.symm]), h.fr.dm, h.fr.lm, h.fr.has.kp k fun b hb => ?_⟩, h.ts.kp k (fun P hP hm => ?_), g, h.nt⟩
  · obtain ⟨ps, e, _⟩ := g
    rw [List.mem_singleton.mp hb, e]
    exact fun z => nomatch z
  · rw [List.mem_singleton.mp hm] at hP
    exact h.nt hP
end
end Ey
set_option maxHeartbeats 1000000
namespace Ey
open PySem PySem.Spec PyProof.Rows L2
abbrev NL : List Str := ["_law_script", "_law_deck_here", "_law_turn", "_law_poly", "_law_thing", "_law_due", "_law_number", "_law_at", "_law_near", "_law_odd_here", "_law_pair", "_law_is_number", "_law_told"]
theorem scLaw : FnScope NL ["_law_script"] (defScope sLaw) := ⟨rfl, rfl, rfl, by decide +kernel, rfl, by decide +kernel, by decide +kernel⟩
abbrev B1 : List Stmt := fb ((defBody sLaw).getD 1 noSt)
/-- all that the law leans on -/
structure LW (K : PySem.W.Frag) (mg : Str → Option Value) (A : Nat → Addr) (D : Nat → FuncData) (c0 BP BN CE fP fN : Addr) : Prop extends LN K mg A D where
  deck : Df K mg "_law_deck" sDeck ["_law_script"] (A 13) (D 13)
  tried : Df K mg "_law_tried" sTried ["_law_call"] (A 24) (D 24)
  P : PV K mg A D c0
  kPoly : KBinds K (D 9) ["thing"] ["thing"] gRv gRv
  kVal : KBinds K (D 11) ["poly", "number"] ["number", "poly"] gRv gRv
  X : XF K mg BP BN CE fP fN
abbrev XL (Pr : Program) (w : World) (K : PySem.W.Frag) (mg : Str → Option Value) (base : Heap) (f c : Addr) (s : Shared) (H0 : Hp) : Cx := (cxOf CX0 Pr w K mg base NL "law" (defScope sLaw) f (.ref c) callerA [] s H0 E0).nox
abbrev qX (Pr : Program) (w : World) (K : PySem.W.Frag) (mg : Str → Option Value) (base : Heap) (f c : Addr) (s : Shared) (H0 : Hp) : Str := (XL Pr w K mg base f c s H0).env.qual ++ ("<lambda>" : Str)
theorem re_an {ms : List Addr} {n w : Nat} {H : Hp} {v : V} {d : PyData} {Q : VK} (h : An ms H v d) (g : Good n w d) (hn : n ≤ 100) (hw : w ≤ 1000000) (q : Q (.str d.shown) H) : rReprE [v] H Q :=
  ⟨ms, v, d, rfl, h, g.f, Nat.le_trans g.d hn, Nat.le_trans g.w hw, q⟩
theorem bools_good (a b : Bool) : Good 1 20 (.tuple [.bool a, .bool b]) := ⟨rfl, Nat.le_refl _, by show 5 + 2 + (5 + 2 + 0) + 3 ≤ 20; decide⟩
section
variable {Pr : Program} {w : World} {K : PySem.W.Frag} {mg : Str → Option Value} {base : Heap} {A : Nat → Addr} {D : Nat → FuncData} {c0 P0 BP BN CE fP fN : Addr}
theorem thing_piece (L : LW K mg A D c0 BP BN CE fP fN) (b : GxR.TabB base mg c0 P0) (hsm : ∃ mm, base.Ns sysModules mm) (f c PL : Addr) (s0 : Shared) (H0 : Hp) (hr : Room 80 (XL Pr w K mg base f c s0 H0).A) :
    ∃ tt, PS (XL Pr w K mg base f c s0 H0) (B1.getD 1 noSt) tt ∧ ∀ (E : Ends) (H : Hp) (d l : Addr) (v : V) (ds : List PyData) (i : Int) (x0 x4 x5 x6 x7 x8 x9 x10 x11 x12 : Option V), LI [P0] d l PL (qX Pr w K mg base f c s0 H0) H → An (d :: l :: PL :: [P0]) H v (.tuple ds) → PolyOk ds →
      (∀ (x4 x5 : Option V) (H3 : Hp), LI [P0] d l PL (qX Pr w K mg base f c s0 H0) H3 → An (d :: l :: PL :: [P0]) H3 v (.tuple ds) → E.nx [x0, some (.ref d), some (.int i), some v, x4, x5, x6, x7, x8, x9, x10, x11, x12] H3) →
      tt E [x0, some (.ref d), some (.int i), some v, x4, x5, x6, x7, x8, x9, x10, x11, x12] H := by
  have B := L.B
  have gL : FnOk Pr w K mg base CX0 2 (A 19) (D 19) ["_law_thing"] (fun vs H Q E => ∃ ms, spL ms polyD vs H Q E) := fn_ex fun ms => ok_lIsPoly (ms := ms) L.toLP
  have gP : FnOk Pr w K mg base CX0 8 (A 9) (D 9) ["thing"] (fun vs H Q E => ∃ ms, spD ms [P0] polyD vs H Q E) := fn_ex fun ms => ok_poly (ms := ms) L.P.toPP b
  have gN : FnOk Pr w K mg base CX0 10 (A 23) (D 23) ["_law_deck_here", "_law_poly"] spNear := ok_near L.toLN
  have gO : FnOk Pr w K mg base CX0 3 (A 17) (D 17) ["_law_deck_here"] spOdd := ok_odd L.toLR
  refine ⟨_, ps_for PassesOwn.never rfl (pi_tup (pe_tup (pa_cons (pv 3) (pa_cons (pe_call gN (hr.mono (by decide)) (by rfl) L.near.g L.near.F.kp L.near.b .nil pass0 (pa_cons (pv 1) (pa_cons (pv 3) pa_nil))) (pa_cons (pe_call gN (hr.mono (by decide)) (by rfl) L.near.g L.near.F.kp L.near.b .nil pass0 (pa_cons (pv 1) (pa_cons (pv 3) pa_nil))) (pa_cons (pe_call gO (hr.mono (by decide)) (by rfl) L.odd.g L.odd.F.kp L.odd.b .nil pass0 (pa_cons (pv 1) pa_nil)) pa_nil)))))) (pg_name (i := 4) scLaw.nd rfl (.inl rfl))
      (pss_cons (ps_set (i := 5) scLaw.nd rfl (.inl rfl) (pe_call gL (hr.mono (by decide)) (by rfl) L.lpoly.g L.lpoly.F.kp L.lpoly.b .nil pass0 (pa_cons (pv 4) pa_nil)))
      (pss_one (ps_if (pt_cmpR op_ne (pe_callB (cr_reprE hsm rfl hr) (by rfl) B.repr (by decide +kernel) (pa_cons (pe_tup (pa_cons (pe_call gP (hr.mono (by decide)) (by rfl) L.P.poly.g L.P.poly.F.kp L.P.poly.b .nil pass0 (pa_cons (pv 4) pa_nil)) (pa_cons (pe_callKR gP (hr.mono (by decide)) (by rfl) L.P.poly.g L.P.poly.F.kp L.kPoly pass0 (pk_cons (pv 4) pk_nil)) pa_nil))) pa_nil))
          (pe_callB (cr_reprE hsm rfl hr) (by rfl) B.repr (by decide +kernel) (pa_cons (pe_tup (pa_cons (pv 5) (pa_cons (pv 5) pa_nil))) pa_nil)) (nomark _)) (pss_one (ps_ret pe_bl)) pss_nil))), ?_⟩
  intro E H d l v ds i x0 x4 x5 x6 x7 x8 x9 x10 x11 x12 I ha hp k
  let M := d :: l :: PL :: [P0]
  have subT : ∀ P ∈ [P0], P ∈ M := fun P hP => by rw [List.mem_singleton.mp hP]; simp [M]
  obtain ⟨_, _, _, gd⟩ := hp.facts
  refine ⟨_, rfl, _, rfl, _, rfl, d, l, M, v, ds, rfl, ha, gd, I.fr, fun v1 y1 H1 a1 g1 F1 k1 => ?_⟩
  have I1 := I.own k1 F1
  have ha1 := ha.kp k1 I.fr.sub _
  refine ⟨_, rfl, _, rfl, d, l, M, v, ds, rfl, ha1, gd, F1, fun v2 y2 H2 a2 g2 F2 k2 => ?_⟩
  have I2 := I1.own k2 F2
  have ha2 := ha1.kp k2 F1.sub _
  have a12 := a1.kp k2 F1.sub _
  refine ⟨_, rfl, d, l, M, rfl, F2, fun v3 y3 H3 a3 g3 F3 k3 => ?_⟩
  have I3 := I2.own k3 F3
  have ha3 := ha2.kp k3 F2.sub _
  have a13 := a12.kp k3 F2.sub _
  have a23 := a2.kp k3 F2.sub _
  refine ⟨by show 4 ≤ sizeLine; decide, fun t nt => ?_⟩
  have I4 := I3.new (o := .tup [v, v1, v2, v3]) nt
  have k4 : Kp [] H3 (upd H3 t (.tup [v, v1, v2, v3])) := .new nt
  have e4 : (upd H3 t (.tup [v, v1, v2, v3])) t = some (.tup [v, v1, v2, v3]) := upd_same
  have all4 : AnAll M (upd H3 t (.tup [v, v1, v2, v3])) [v, v1, v2, v3] [.tuple ds, y1, y2, y3] := .cons (ha3.kp k4 (by simp) _) (.cons (a13.kp k4 (by simp) _) (.cons (a23.kp k4 (by simp) _) (.cons (a3.kp k4 (by simp) _) .nil)))
  generalize upd H3 t (.tup [v, v1, v2, v3]) = H4 at I4 k4 e4 all4
  have wds : ∀ y ∈ ([.tuple ds, y1, y2, y3] : List PyData), wd y ≤ 1000000 := fun y hy => by
    have w0 := gd.w
    have w1 := g1.w
    have w2 := g2.w
    have w3 := g3.w
    simp only [List.mem_cons, List.not_mem_nil, or_false] at hy
    rcases hy with rfl | rfl | rfl | rfl <;> omega
  refine ⟨t, rfl, ⟨_, sqt_of e4⟩, ?_⟩
  refine for_tup (K := K) (a := t) (xs := [v, v1, v2, v3]) (fun j σ H5 => (∃ x4 x5, σ = [x0, some (.ref d), some (.int i), some v, x4, x5, x6, x7, x8, x9, x10, x11, x12]) ∧ LI [P0] d l PL (qX Pr w K mg base f c s0 H0) H5 ∧ Kp [P0] H4 H5)
    ⟨⟨_, _, rfl⟩, I4, .refl⟩ (fun j σ H5 _ h => sqt_of (h.2.2.tup _ _ e4)) ?_ ?_
  · rintro j x σ H5 hx ⟨⟨y4, y5, rfl⟩, I5, k5⟩
    have all5 := all4.kp k5 subT _
    obtain ⟨y, ey, ay⟩ := all5.get hx
    have wy := wds y (List.mem_of_getElem? ey)
    refine ⟨_, rfl, M, x, y, rfl, ay, wy, fun H6 k6 => ?_⟩
    have I6 := I5.kp0 k6
    have ay6 := ay.kp k6 (by simp) y
    refine ⟨_, rfl, M, x, y, rfl, ay6, wy, I6.ts, subT, fun H7 g7 k7 => ?_⟩
    have I7 := I6.prog k7 g7
    have ay7 := ay6.kp k7 subT y
    refine ⟨_, rfl, M, x, y, rfl, ay7, wy, I7.ts, subT, fun H8 g8 k8 => ?_⟩
    have I8 := I7.prog k8 g8
    refine ⟨by show 2 ≤ sizeLine; decide, fun p1 n1 => re_an (ms := M) (d := .tuple [.bool (polyD y), .bool (polyD y)]) (.tup upd_same (.cons (.bl _) (.cons (.bl _) .nil))) (bools_good _ _) (by decide) (by decide) ?_⟩
    have I9 := I8.new (o := .tup [.bl (polyD y), .bl (polyD y)]) n1
    have k9 : Kp [P0] H4 (upd H8 p1 (.tup [.bl (polyD y), .bl (polyD y)])) := k5.trans ((k6.more (by simp)).trans (k7.trans (k8.trans (.new n1))))
    generalize upd H8 p1 (.tup [.bl (polyD y), .bl (polyD y)]) = H9 at I9 k9
    refine ⟨_, rfl, _, rfl, by show 2 ≤ sizeLine; decide, fun p2 n2 => re_an (ms := M) (d := .tuple [.bool (polyD y), .bool (polyD y)]) (.tup upd_same (.cons (.bl _) (.cons (.bl _) .nil))) (bools_good _ _) (by decide) (by decide) ⟨rfl, _, rfl, iteNS rfl ?_⟩⟩
    exact ⟨⟨_, _, rfl⟩, I9.new n2, k9.trans (.new n2)⟩
  · rintro σ H5 ⟨⟨y4, y5, rfl⟩, I5, k5⟩
    exact k _ _ H5 I5 ((ha3.kp k4 (by simp) _).kp k5 subT _)
end
end Ey
set_option exponentiation.threshold 1000
set_option maxHeartbeats 1000000
namespace Ey
open PySem PySem.Spec PyProof.Rows L2
section
variable {Pr : Program} {w : World} {K : PySem.W.Frag} {mg : Str → Option Value} {base : Heap} {A : Nat → Addr} {D : Nat → FuncData} {c0 P0 BP BN CE fP fN : Addr}
/-- a value asked for of the program -/
theorem ask_val {d l PL : Addr} {q : Str} {v : V} {ds : List PyData} {n : Nat} {H : Hp} {Q : VK} (I : LI [P0] d l PL q H) (ha : An (d :: l :: PL :: [P0]) H v (.tuple ds)) (hp : PolyOk ds) (hn : n < 2 ^ 20)
    (k : ∀ H', LI [P0] d l PL q H' → Kp [P0] H H' → Q (.int (valL n ds)) H') : ∃ ms, spVA ms [P0] BP BN [v, .int n] H Q E0 := by
  obtain ⟨h1, h2, h3, h4⟩ := hp.facts
  have hl := hp.l
  refine ⟨_, v, .int n, .tuple ds, .int n, rfl, ha, .int _, Nat.le_trans h4.w (by decide), I.ts, fun P hP => by rw [List.mem_singleton.mp hP]; simp, fun _ _ => ⟨ds, n, rfl, rfl, h3, hn, by omega, fun H' g' k' => k H' (I.prog k' g') k'⟩, fun e => ?_, fun _ e => ?_⟩
  · have e : polyL ds = false := e
    rw [h1] at e
    cases e
  · have e : decide ((0 : Int) ≤ (n : Int)) = false := e
    rw [decide_eq_true (by omega)] at e
    cases e
theorem ask_lval {d l PL : Addr} {q : Str} {v : V} {ds : List PyData} {n : Nat} {H : Hp} {Q : VK} (I : LI [P0] d l PL q H) (ha : An (d :: l :: PL :: [P0]) H v (.tuple ds)) (hp : PolyOk ds) (hn : n < 2 ^ 20)
    (k : ∀ H', LI [P0] d l PL q H' → Kp [] H H' → Q (.int (valL n ds)) H') : ∃ ms, spVal ms [v, .int n] H Q E0 := by
  obtain ⟨h1, h2, h3, h4⟩ := hp.facts
  have hl := hp.l
  exact ⟨_, v, ds, n, rfl, ha, h2, h3, hn, by omega, fun H' k' => k H' (I.kp0 k') k'⟩
theorem val_piece (L : LW K mg A D c0 BP BN CE fP fN) (b : GxR.TabB base mg c0 P0) (hsm : ∃ mm, base.Ns sysModules mm) (f c PL : Addr) (s0 : Shared) (H0 : Hp) (hr : Room 80 (XL Pr w K mg base f c s0 H0).A) {t6 : TS} (d6 : PSs (XL Pr w K mg base f c s0 H0) (B1.drop 6) t6) :
    ∃ tt, PSs (XL Pr w K mg base f c s0 H0) (B1.drop 2) tt ∧ ∀ (E : Ends) (H : Hp) (d l : Addr) (v : V) (ds : List PyData) (i : Int) (x0 x4 x5 x6 x7 x8 x9 x10 x11 x12 : Option V), LI [P0] d l PL (qX Pr w K mg base f c s0 H0) H → An (d :: l :: PL :: [P0]) H v (.tuple ds) → PolyOk ds →
      (∀ (x6 x7 : Option V) (H3 : Hp), LI [P0] d l PL (qX Pr w K mg base f c s0 H0) H3 → An (d :: l :: PL :: [P0]) H3 v (.tuple ds) → t6 E [x0, some (.ref d), some (.int i), some v, x4, x5, x6, x7, x8, x9, x10, x11, x12] H3) →
      tt E [x0, some (.ref d), some (.int i), some v, x4, x5, x6, x7, x8, x9, x10, x11, x12] H := by
  have B := L.B
  have hr1 := hr.mono (show 1 ≤ 80 by decide)
  have hun : (XL Pr w K mg base f c s0 H0).A.units + 200 < cLine := by
    have := hr.un
    omega
  have gV : FnOk Pr w K mg base (L2.CX Pr w) 9 (A 11) (D 11) ["poly", "number"] (fun vs H Q E => ∃ ms, spVA ms [P0] BP BN vs H Q E) := fn_ex fun ms => ok_val (ms := ms) L.P b L.X
  have gL : FnOk Pr w K mg base CX0 2 (A 21) (D 21) ["_law_poly", "_law_m"] (fun vs H Q E => ∃ ms, spVal ms vs H Q E) := fn_ex fun ms => ok_lVal (ms := ms) L.toLV
  refine ⟨_, pss_cons (ps_set (i := 6) scLaw.nd rfl (.inl rfl) (pe_call (ok_pick L.pick.F B L.draw) (hr.mono (by decide)) (by rfl) L.pick.g L.pick.F.kp L.pick.b .nil pass0 (pa_cons (pv 1) (pa_cons (pe_lst (pa_cons pe_int (pa_cons pe_int (pa_cons pe_int (pa_cons (pe_call (ok_draw L.draw.F B) hr1 (by rfl) L.draw.g L.draw.F.kp L.draw.b .nil pass0 (pa_cons (pv 1) (pa_cons pe_int pa_nil))) (pa_cons (pe_call (ok_draw L.draw.F B) hr1 (by rfl) L.draw.g L.draw.F.kp L.draw.b .nil pass0 (pa_cons (pv 1) (pa_cons (pe_op op_add (pe_op op_pow pe_int pe_int) pe_int) pa_nil))) pa_nil)))))) pa_nil))))
    (pss_cons (ps_if (pt_cmpR op_ne (pe_callB (cr_reprW hsm rfl hun) (by rfl) B.repr (by decide +kernel) (pa_cons (pe_tup (pa_cons (pe_call gV (hr.mono (by decide)) (by rfl) L.P.val.g L.P.val.F.kp L.P.val.b .nil passL (pa_cons (pv 3) (pa_cons (pv 6) pa_nil))) (pa_cons (pe_callKR gV (hr.mono (by decide)) (by rfl) L.P.val.g L.P.val.F.kp L.kVal passL (pk_cons (pv 6) (pk_cons (pv 3) pk_nil))) pa_nil))) pa_nil))
        (pe_callB (cr_reprW hsm rfl hun) (by rfl) B.repr (by decide +kernel) (pa_cons (pe_op op_repT (pe_tup (pa_cons (pe_call gL (hr.mono (by decide)) (by rfl) L.lval.g L.lval.F.kp L.lval.b .nil pass0 (pa_cons (pv 3) (pa_cons (pv 6) pa_nil))) pa_nil)) pe_int) pa_nil)) (nomark _)) (pss_one (ps_ret pe_bl)) pss_nil)
    (pss_cons (ps_set (i := 7) scLaw.nd rfl (.inl rfl) (pe_call (ok_draw L.draw.F B) hr1 (by rfl) L.draw.g L.draw.F.kp L.draw.b .nil pass0 (pa_cons (pv 1) (pa_cons (pe_op op_add (pe_callB call_len_seq (by rfl) B.len PySem.boot_len (pa_cons (pv 3) pa_nil)) pe_int) pa_nil))))
    (pss_cons (ps_if (pt_cmpR op_ne (pe_op op_add (pe_call gV (hr.mono (by decide)) (by rfl) L.P.val.g L.P.val.F.kp L.P.val.b .nil passL (pa_cons (pe_slice sl_cut (pv 3) po_none (po_some (pv 7))) (pa_cons (pv 6) pa_nil))) (pe_call gV (hr.mono (by decide)) (by rfl) L.P.val.g L.P.val.F.kp L.P.val.b .nil passL (pa_cons (pe_slice sl_cut (pv 3) (po_some (pv 7)) po_none) (pa_cons (pv 6) pa_nil))))
        (pe_call gL (hr.mono (by decide)) (by rfl) L.lval.g L.lval.F.kp L.lval.b .nil pass0 (pa_cons (pv 3) (pa_cons (pv 6) pa_nil))) (nomark _)) (pss_one (ps_ret pe_bl)) pss_nil) d6))), ?_⟩
  intro E H d l v ds i x0 x4 x5 x6 x7 x8 x9 x10 x11 x12 I ha hp k
  let M := d :: l :: PL :: [P0]
  have subT : ∀ P ∈ [P0], P ∈ M := fun P hP => by rw [List.mem_singleton.mp hP]; simp [M]
  refine ⟨_, rfl, _, rfl, d, l, 60, rfl, I.fr.dk, by decide, by decide, fun r1 H1 r10 r11 D1 k1 => ?_⟩
  have F1 := I.fr.go k1 D1
  have I1 := I.own k1 F1
  have ha1 := ha.kp k1 I.fr.sub _
  refine ⟨_, rfl, _, _, rfl, rfl, (⟨by decide, by decide, by decide⟩ : (0 : Int) ≤ 6 ∧ (6 : Int) ≤ 1000000 ∧ (10 : Int).natAbs < 2 ^ 64), _, _, rfl, rfl, d, l, _, rfl, F1.dk, by decide, by decide, fun r2 H2 r20 r21 D2 k2 => ?_⟩
  have F2 := F1.go k2 D2
  have I2 := I1.own k2 F2
  have ha2 := ha1.kp k2 F1.sub _
  refine ⟨by show 5 ≤ sizeLine; decide, fun p np => ?_⟩
  have nn := F2.ne np
  have I3 := I2.new (o := .lst [.int 0, .int 1, .int 2, .int r1, .int r2]) np
  have k3 : Kp [] H2 (upd H2 p (.lst [.int 0, .int 1, .int 2, .int r1, .int r2])) := .new np
  refine ⟨d, l, p, _, rfl, I3.fr.dk, sql_of upd_same, by simp, by show 5 ≤ 1000000; decide, nn.1, nn.2, fun u H4 hu D4 k4 => ?_⟩
  have F4 := I3.fr.go k4 D4
  have I4 := I3.own k4 F4
  have ha4 := (ha2.kp k3 (by simp) _).kp k4 I3.fr.sub _
  have r21' : r2 < 1000001 := r21
  obtain ⟨n, rfl, hn⟩ : ∃ n : Nat, u = .int n ∧ n < 2 ^ 20 := by
    simp only [List.mem_cons, List.not_mem_nil, or_false] at hu
    rcases hu with rfl | rfl | rfl | rfl | rfl
    · exact ⟨0, rfl, by decide⟩
    · exact ⟨1, rfl, by decide⟩
    · exact ⟨2, rfl, by decide⟩
    · exact ⟨r1.toNat, by rw [Int.toNat_of_nonneg r10], by omega⟩
    · exact ⟨r2.toNat, by rw [Int.toNat_of_nonneg r20], by omega⟩
  obtain ⟨N, eN, hN⟩ := val_big hn ds hp.t hp.l
  have hN90 : N < 10 ^ 90 := by
    have := hp.l
    have h2 : (ds.length + 1) * 10 ^ 87 ≤ 13 * 10 ^ 87 := Nat.mul_le_mul_right _ (by omega)
    omega
  obtain ⟨sb, lb⟩ := pair_big hN90
  refine ⟨_, rfl, _, rfl, ask_val I4 ha4 hp hn fun H5 I5 k5 => ?_⟩
  have ha5 := ha4.kp k5 subT _
  refine ⟨_, rfl, _, rfl, ask_val I5 ha5 hp hn fun H6 I6 k6 => ?_⟩
  have ha6 := ha5.kp k6 subT _
  rw [eN]
  refine ⟨by show 2 ≤ sizeLine; decide, fun p7 n7 => ⟨M, _, .tuple [.int N, .int N], rfl, .tup upd_same (.cons (.int _) (.cons (.int _) .nil)), sb, (by show max 0 (max 0 0) + 1 ≤ 100; decide), lb, ?_⟩⟩
  have I7 := I6.new (o := .tup [.int N, .int N]) n7
  have ha7 := ha6.kp (Kp.new (ms := []) (o := .tup [.int N, .int N]) n7) (by simp) _
  generalize upd H6 p7 (.tup [.int N, .int N]) = H7 at I7 ha7
  refine ⟨_, rfl, _, rfl, ask_lval I7 ha7 hp hn fun H8 I8 k8 => ?_⟩
  have ha8 := ha7.kp k8 (by simp) _
  rw [eN]
  refine ⟨by show 1 ≤ sizeLine; decide, fun p9 n9 => ?_⟩
  have I9 := I8.new (o := .tup [.int N]) n9
  have ha9 := ha8.kp (Kp.new (ms := []) (o := .tup [.int N]) n9) (by simp) _
  have e9 : (upd H8 p9 (.tup [.int N])) p9 = some (.tup [.int N]) := upd_same
  generalize upd H8 p9 (.tup [.int N]) = H9 at I9 ha9 e9
  refine ⟨p9, 2, _, rfl, rfl, sqt_of e9, by simp, by decide, by decide, by show 1 ≤ 1000; decide, fun p10 n10 => ?_⟩
  refine ⟨M, _, .tuple [.int N, .int N], rfl, .tup upd_same (.cons (.int _) (.cons (.int _) .nil)), sb, (by show max 0 (max 0 0) + 1 ≤ 100; decide), lb, rfl, _, rfl, iteNS rfl ?_⟩
  have I10 := I9.new (o := .tup (List.replicate (2 : Int).toNat [V.int N]).flatten) n10
  have ha10 := ha9.kp (Kp.new (ms := []) (o := .tup (List.replicate (2 : Int).toNat [V.int N]).flatten) n10) (by simp) _
  generalize upd H9 p10 (.tup (List.replicate (2 : Int).toNat [V.int N]).flatten) = H10 at I10 ha10
  have hpt : ∀ j, PolyOk (ds.take j) := hp.take
  have hpd : ∀ j, PolyOk (ds.drop j) := hp.drop
  have hl12 := hp.l
  have ha10' := ha10
  cases ha10 with
  | @tup a xs _ ea hds =>
  have lx := hds.length
  refine ⟨_, rfl, _, rfl, a, _, rfl, .inr (sqt_of ea), _, _, rfl, rfl, d, l, _, rfl, I10.fr.dk, by omega, by omega, fun r H11 r0 r1' D11 k11 => ?_⟩
  have F11 := I10.fr.go k11 D11
  have I11 := I10.own k11 F11
  have ha11 := ha10'.kp k11 I10.fr.sub _
  obtain ⟨j, rfl⟩ : ∃ j : Nat, r = (j : Int) := ⟨r.toNat, by omega⟩
  have e11 := k11.tup _ _ ea
  refine ⟨_, rfl, _, rfl, _, rfl, a, xs, rfl, e11, fun q1 H12 e12 k12 => ?_⟩
  rw [cut_take] at e12
  have I12 := I11.kp0 k12
  have hds12 := (hds.kp k11 I10.fr.sub ds).kp k12 (by simp) ds
  refine ⟨_, rfl, ask_val I12 (.tup e12 (hds12.take j)) (hpt j) hn fun H13 I13 k13 => ?_⟩
  have e13 := k13.tup _ _ (k12.tup _ _ e11)
  have hds13 := hds12.kp k13 subT ds
  refine ⟨_, rfl, _, rfl, _, rfl, a, xs, rfl, e13, fun q2 H14 e14 k14 => ?_⟩
  rw [cut_drop] at e14
  have I14 := I13.kp0 k14
  have hds14 := hds13.kp k14 (by simp) ds
  refine ⟨_, rfl, ask_val I14 (.tup e14 (hds14.drop j)) (hpd j) hn fun H15 I15 k15 => ?_⟩
  have e15 := k15.tup _ _ (k14.tup _ _ e13)
  have hds15 := hds14.kp k15 subT ds
  have ha15 : An M H15 (.ref a) (.tuple ds) := .tup e15 hds15
  refine ⟨_, _, rfl, rfl, _, rfl, _, rfl, ask_lval I15 ha15 hp hn fun H16 I16 k16 => ?_⟩
  exact ⟨rfl, _, rfl, iteNS (congrArg V.int (val_cut n ds j)) (k _ _ H16 I16 (ha15.kp k16 (by simp) _))⟩
end
end Ey
set_option exponentiation.threshold 1000
set_option maxHeartbeats 1000000
namespace Ey
open PySem PySem.Spec PyProof.Rows L2
/-- what is near a polynomial, cut down to bounds -/
structure NearOk (y : PyData) : Prop where
  g : GoodJ (bAny + 5) 8 8600 y
  p : polyD y = true → ∃ dn, y = .tuple dn ∧ dn.all inB = true ∧ dn.length ≤ 20
/-- the odd one that is asked with -/
structure OddOk (e : PyData) : Prop where
  g : GoodJ (bAny + 5) 1 60 e
  n : natD e = true → e = .int 0 ∨ e = .int 3
section
variable {Pr : Program} {w : World} {K : PySem.W.Frag} {mg : Str → Option Value} {base : Heap} {A : Nat → Addr} {D : Nat → FuncData} {c0 P0 BP BN CE fP fN : Addr}
/-- two drawn at once -/
theorem pair_piece (L : LW K mg A D c0 BP BN CE fP fN) (f c PL : Addr) (s0 : Shared) (H0 : Hp) (hr : Room 80 (XL Pr w K mg base f c s0 H0).A) :
    ∃ tt, PS (XL Pr w K mg base f c s0 H0) (B1.getD 6 noSt) tt ∧ ∀ (E : Ends) (H : Hp) (d l : Addr) (v : V) (ds : List PyData) (i : Int) (x0 x4 x5 x6 x7 x8 x9 x10 x11 x12 : Option V), LI [P0] d l PL (qX Pr w K mg base f c s0 H0) H → An (d :: l :: PL :: [P0]) H v (.tuple ds) → PolyOk ds →
      (∀ (u o : V) (y e : PyData) (H3 : Hp), LI [P0] d l PL (qX Pr w K mg base f c s0 H0) H3 → An (d :: l :: PL :: [P0]) H3 v (.tuple ds) → An (d :: l :: PL :: [P0]) H3 u y → An (d :: l :: PL :: [P0]) H3 o e → GoodJ (bAny + 5) 8 8600 y → OddOk e → E.nx [x0, some (.ref d), some (.int i), some v, x4, x5, x6, x7, some u, some o, x10, x11, x12] H3) →
      tt E [x0, some (.ref d), some (.int i), some v, x4, x5, x6, x7, x8, x9, x10, x11, x12] H := by
  have B := L.B
  have gN : FnOk Pr w K mg base CX0 10 (A 23) (D 23) ["_law_deck_here", "_law_poly"] spNear := ok_near L.toLN
  refine ⟨_, ps_asg (pe_tup (pa_cons (pe_call (ok_pick L.pick.F B L.draw) (hr.mono (by decide)) (by rfl) L.pick.g L.pick.F.kp L.pick.b .nil pass0 (pa_cons (pv 1) (pa_cons (pe_lst (pa_cons (pv 3) (pa_cons (pe_call gN (hr.mono (by decide)) (by rfl) L.near.g L.near.F.kp L.near.b .nil pass0 (pa_cons (pv 1) (pa_cons (pv 3) pa_nil))) pa_nil))) pa_nil)))
      (pa_cons (pe_call (ok_pick L.pick.F B L.draw) (hr.mono (by decide)) (by rfl) L.pick.g L.pick.F.kp L.pick.b .nil pass0 (pa_cons (pv 1) (pa_cons (pe_lst (pa_cons (pe_un un_neg pe_int) (pa_cons pe_bl (pa_cons pe_non (pa_cons pe_str (pa_cons (pe_tup (pa_cons pe_int pa_nil)) (pa_cons pe_int (pa_cons pe_int (pa_cons (pe_lst pa_nil) (pa_cons pe_dnewK pa_nil)))))))))) pa_nil))) pa_nil)))
    (pg_tup (n := 2) rfl (pgs_cons (pg_name (i := 8) scLaw.nd rfl (.inr rfl)) (pgs_cons (pg_name (i := 9) scLaw.nd rfl (.inr rfl)) pgs_nil))), ?_⟩
  intro E H d l v ds i x0 x4 x5 x6 x7 x8 x9 x10 x11 x12 I ha hp k
  let M := d :: l :: PL :: [P0]
  obtain ⟨_, _, _, gd⟩ := hp.facts
  refine ⟨_, rfl, _, rfl, _, rfl, _, rfl, d, l, M, v, ds, rfl, ha, gd, I.fr, fun v1 y1 H1 a1 g1 F1 k1 => ?_⟩
  have I1 := I.own k1 F1
  have ha1 := ha.kp k1 I.fr.sub _
  refine ⟨by show 2 ≤ sizeLine; decide, fun p np => ?_⟩
  have nn := F1.ne np
  have I2 := I1.new (o := .lst [v, v1]) np
  have k2 : Kp [] H1 (upd H1 p (.lst [v, v1])) := .new np
  refine ⟨d, l, p, _, rfl, I2.fr.dk, sql_of upd_same, by simp, by show 2 ≤ 1000000; decide, nn.1, nn.2, fun u H3 hu D3 k3 => ?_⟩
  have F3 := I2.fr.go k3 D3
  have I3 := I2.own k3 F3
  have k13 : Kp [d, l] H1 H3 := (k2.more (by simp)).trans k3
  have ha3 := ha1.kp k13 F1.sub _
  have a13 := a1.kp k13 F1.sub _
  obtain ⟨y, hy, gy⟩ : ∃ y, An M H3 u y ∧ GoodJ (bAny + 5) 8 8600 y := by
    simp only [List.mem_cons, List.not_mem_nil, or_false] at hu
    rcases hu with rfl | rfl
    · exact ⟨_, ha3, gd.mono (by omega) (by decide) (by decide)⟩
    · exact ⟨_, a13, g1⟩
  refine ⟨_, rfl, 1, rfl, by show 1 ≤ sizeLine; decide, fun t4 n4 => ?_⟩
  have c4 : Kp [] H3 (upd H3 t4 (.tup [.int 1])) := .new n4
  have e4 : (upd H3 t4 (.tup [.int 1])) t4 = some (.tup [.int 1]) := upd_same
  have I4 := I3.new (o := .tup [.int 1]) n4
  generalize upd H3 t4 (.tup [.int 1]) = H4 at c4 e4 I4 ⊢
  refine ⟨Nat.zero_le _, fun t5 n5 => ?_⟩
  have c5 : Kp [] H4 (upd H4 t5 (.lst [])) := .new n5
  have e5 : (upd H4 t5 (.lst [])) t5 = some (.lst []) := upd_same
  have f5 := I4.fr.has.fresh n5
  have I5 := I4.new (o := .lst []) n5
  generalize upd H4 t5 (.lst []) = H5 at c5 e5 I5 ⊢
  intro t6 n6
  have c6 : Kp [] H5 (upd H5 t6 (.dK [])) := .new n6
  have e6 : (upd H5 t6 (.dK [])) t6 = some (.dK []) := upd_same
  have f6 := I5.fr.has.fresh n6
  have I6 := I5.new (o := .dK []) n6
  generalize upd H5 t6 (.dK []) = H6 at c6 e6 I6 ⊢
  refine ⟨by show 9 ≤ sizeLine; decide, fun p7 n7 => ?_⟩
  have nn7 := I6.fr.ne n7
  have I7 := I6.new (o := .lst [.int (-1), .bl true, .non, .str "1", .ref t4, .int 0, .int 3, .ref t5, .ref t6]) n7
  refine ⟨d, l, p7, _, rfl, I7.fr.dk, sql_of upd_same, by simp, by show 9 ≤ 1000000; decide, nn7.1, nn7.2, fun o H8 ho D8 k8 => ?_⟩
  have F8 := I7.fr.go k8 D8
  have I8 := I7.own k8 F8
  have q6 : Kp [d, l] H6 H8 := (Kp.new n7).trans k8
  have q5 : Kp [d, l] H5 H8 := (c6.more (by simp)).trans q6
  have q4 : Kp [d, l] H4 H8 := (c5.more (by simp)).trans q5
  have q3 : Kp [d, l] H3 H8 := (c4.more (by simp)).trans q4
  have n_ : ∀ {t : Addr}, t ∉ M → t ∉ [d, l] := fun {t} h hm => h (I.fr.sub t hm)
  obtain ⟨e, he, ge⟩ : ∃ e, An M H8 o e ∧ OddOk e := by
    simp only [List.mem_cons, List.not_mem_nil, or_false] at ho
    rcases ho with rfl | rfl | rfl | rfl | rfl | rfl | rfl | rfl | rfl
    · exact ⟨_, .int _, ⟨by decide +kernel, by decide +kernel, by decide +kernel⟩, fun h => by cases h⟩
    · exact ⟨_, .bl _, ⟨by decide +kernel, by decide +kernel, by decide +kernel⟩, fun h => by cases h⟩
    · exact ⟨_, .non, ⟨by decide +kernel, by decide +kernel, by decide +kernel⟩, fun h => by cases h⟩
    · exact ⟨_, .str _, ⟨by decide +kernel, by decide +kernel, by decide +kernel⟩, fun h => by cases h⟩
    · exact ⟨.tuple [.int 1], .tup (q4.tup _ _ e4) (.cons (.int _) .nil), ⟨by decide +kernel, by decide +kernel, by decide +kernel⟩, fun h => by cases h⟩
    · exact ⟨_, .int 0, ⟨by decide +kernel, by decide +kernel, by decide +kernel⟩, fun _ => .inl rfl⟩
    · exact ⟨_, .int 3, ⟨by decide +kernel, by decide +kernel, by decide +kernel⟩, fun _ => .inr rfl⟩
    · exact ⟨.list [], .lst (q5.at_ _ _ e5 (n_ f5)) f5 .nil, ⟨by decide +kernel, by decide +kernel, by decide +kernel⟩, fun h => by cases h⟩
    · exact ⟨.dict [], .dct (q6.at_ _ _ e6 (n_ f6)) f6 .nil, ⟨by decide +kernel, by decide +kernel, by decide +kernel⟩, fun h => by cases h⟩
  refine ⟨by show 2 ≤ sizeLine; decide, fun p9 n9 => ?_⟩
  have c9 : Kp [] H8 (upd H8 p9 (.tup [u, o])) := .new n9
  have e9 : (upd H8 p9 (.tup [u, o])) p9 = some (.tup [u, o]) := upd_same
  have I9 := I8.new (o := .tup [u, o]) n9
  generalize upd H8 p9 (.tup [u, o]) = H9 at c9 e9 I9 ⊢
  refine ⟨p9, _, rfl, sqt_of e9, rfl, _, _, rfl, _, _, rfl, ?_⟩
  exact ⟨rfl, k u o y e H9 I9 ((ha3.kp q3 F3.sub _).kp c9 (by simp) _) ((hy.kp q3 F3.sub _).kp c9 (by simp) _) (he.kp c9 (by simp) _) gy ge⟩
end
end Ey
set_option exponentiation.threshold 1000
set_option maxHeartbeats 1000000
namespace Ey
open PySem PySem.Spec PyProof.Rows L2
theorem all_snoc {p : PyData → Bool} {ds : List PyData} {i : Nat} {dx : PyData} (ex : ds[i]? = some dx) : (ds.take (i + 1)).all p = ((ds.take i).all p && p dx) := by
  rw [List.take_add_one, ex, List.all_append]
  simp
section
variable {Pr : Program} {w : World} {K : PySem.W.Frag} {mg : Str → Option Value} {base : Heap} {A : Nat → Addr} {D : Nat → FuncData} {c0 P0 BP BN CE fP fN : Addr}
/-- what is near, cut down -/
theorem near_piece (L : LW K mg A D c0 BP BN CE fP fN) (f c PL : Addr) (s0 : Shared) (H0 : Hp) (hr : Room 80 (XL Pr w K mg base f c s0 H0).A) :
    ∃ tt, PS (XL Pr w K mg base f c s0 H0) (B1.getD 7 noSt) tt ∧ ∀ (E : Ends) (H : Hp) (d l : Addr) (v u : V) (ds : List PyData) (y : PyData) (x0 x1 x2 x4 x5 x6 x7 x9 x10 x11 x12 : Option V), LI [P0] d l PL (qX Pr w K mg base f c s0 H0) H → An (d :: l :: PL :: [P0]) H v (.tuple ds) → PolyOk ds → An (d :: l :: PL :: [P0]) H u y → GoodJ (bAny + 5) 8 8600 y →
      (∀ (u : V) (y : PyData) (x10 : Option V) (H3 : Hp), LI [P0] d l PL (qX Pr w K mg base f c s0 H0) H3 → Kp [] H H3 → An (d :: l :: PL :: [P0]) H3 u y → NearOk y → E.nx [x0, x1, x2, some v, x4, x5, x6, x7, some u, x9, x10, x11, x12] H3) →
      tt E [x0, x1, x2, some v, x4, x5, x6, x7, some u, x9, x10, x11, x12] H := by
  have B := L.B
  have gL : FnOk Pr w K mg base CX0 2 (A 19) (D 19) ["_law_thing"] (fun vs H Q E => ∃ ms, spL ms polyD vs H Q E) := fn_ex fun ms => ok_lIsPoly (ms := ms) L.toLP
  refine ⟨_, ps_if (PW.pt (pw_and (pt_val (pe_call gL (hr.mono (by decide)) (by rfl) L.lpoly.g L.lpoly.F.kp L.lpoly.b .nil pass0 (pa_cons (pv 8) pa_nil)))
      (pw_and1 (PW.pt (pw_or (pt_cmpR op_gt (pe_callB call_len_seq (by rfl) B.len PySem.boot_len (pa_cons (pv 8) pa_nil)) pe_int (nomark _))
        (pw_or1 (pt_cmpR (op_neEL hr.units) (pe_lc (own := [("_law_pair", 10)]) (g := gName 10) rfl scLaw.nd (pi_tup (pv 8)) (blkOk_by (N := NL) (sc := defScope sLaw) (by decide +kernel)) (fun _ _ _ _ _ => pg_name (i := 10) scLaw.nd rfl (Or.inl rfl))
          (fun _ _ _ _ _ => pts_one (PW.pt (pw_or (pt_cmpR op_gt (pe_ix (r := rIxT K) ix_tup (pv 10) pe_int (fun _ _ => rfl)) pe_int (nomark _)) (pw_or1 (pt_cmpR op_gt (pe_ix (r := rIxT K) ix_tup (pv 10) pe_int (fun _ _ => rfl)) (pe_op op_pow pe_int pe_int) (nomark _))))))
          (fun _ _ _ _ _ => pv 10)) (pe_lst pa_nil) (nomark _)))))))) (pss_one (ps_set (i := 8) scLaw.nd rfl (.inr rfl) (pv 3))) pss_nil, ?_⟩
  intro E H d l v u ds y x0 x1 x2 x4 x5 x6 x7 x9 x10 x11 x12 I ha hp hu gy k
  let M := d :: l :: PL :: [P0]
  obtain ⟨_, _, hib, gd⟩ := hp.facts
  have hl12 := hp.l
  have wy : wd y ≤ 1000000 := Nat.le_trans gy.w (by decide)
  -- put back to the polynomial
  have back : ∀ (z10 : Option V) (H1 : Hp), LI [P0] d l PL (qX Pr w K mg base f c s0 H0) H1 → Kp [] H H1 → E.nx [x0, x1, x2, some v, x4, x5, x6, x7, some v, x9, z10, x11, x12] H1 := fun z10 H1 I1 k1 =>
    k v (.tuple ds) z10 H1 I1 k1 (ha.kp k1 (by simp) _) ⟨gd.mono (by omega) (by decide) (by decide), fun _ => ⟨ds, rfl, hib, by omega⟩⟩
  refine ⟨_, rfl, M, u, y, rfl, hu, wy, fun H1 k1 => ⟨_, rfl, ?_⟩⟩
  have I1 := I.kp0 k1
  have hu1 := hu.kp k1 (by simp) y
  cases ep : polyD y with
  | false => exact iteF (iteF (k u y _ H1 I1 k1 hu1 ⟨gy, fun h => by rw [ep] at h; cases h⟩))
  | true =>
    refine iteT ?_
    obtain ⟨dn, rfl⟩ : ∃ dn, y = .tuple dn := by
      cases y with
      | tuple dn => exact ⟨dn, rfl⟩
      | none => cases ep
      | bool b => cases ep
      | int b => cases ep
      | str b => cases ep
      | list b => cases ep
      | dict b => cases ep
    have ep' : polyL dn = true := ep
    have hpd : dn.all pairD = true := by
      unfold polyL at ep'
      rw [Bool.and_eq_true] at ep'
      exact ep'.1
    have hu1' := hu1
    cases hu1 with
    | @tup t xs _ e hds =>
    have lx := hds.length
    have hln : dn.length ≤ 1000000 := by
      have h1 : wdAll dn + 3 ≤ 1000000 := wy
      have h2 := len_wd dn
      omega
    refine ⟨_, rfl, t, _, rfl, .inr (sqt_of e), _, _, rfl, rfl, _, rfl, ite2 (fun _ => iteT ⟨_, rfl, back _ H1 I1 k1⟩) (fun hlen => ?_)⟩
    refine ⟨_, rfl, t, rfl, ⟨_, sqt_of e⟩, fun D nD => ?_⟩
    refine lc_tup (K := K) (a := t) (xs := xs) (fun i H' => (∃ us, H' D = some (.lst us) ∧ us.length ≤ i ∧ (us.isEmpty = true → (dn.take i).all inB = true)) ∧ Kp [] H1 H') ⟨⟨[], upd_same, Nat.le_refl _, fun _ => rfl⟩, .new nD⟩ (fun i H' _ h => sqt_of (h.2.tup _ _ e)) ?_ ?_
    · rintro i x H' hx ⟨⟨us, hD, hlu, hus⟩, k'⟩
      obtain ⟨dx, ex, ax⟩ := hds.get hx
      obtain ⟨tj, a, b, rfl, et, rfl, ha0, hb0⟩ := pair_an ax (List.all_eq_true.mp hpd dx (List.mem_of_getElem? ex))
      have hil : i < dn.length := (List.getElem?_eq_some_iff.mp ex).1
      have etk := k'.tup _ _ et
      refine ⟨rfl, _, rfl, tj, _, _, _, rfl, rfl, sqt_of etk, atI_nat (j := 0) rfl, _, _, rfl, rfl, _, rfl, ?_⟩
      have keepT : ∃ acc : List V, H' D = some (.lst acc) ∧ acc.length < sizeLine ∧ (∃ us : List V, upd H' D (.lst (acc ++ [V.ref tj])) D = some (.lst us) ∧ us.length ≤ i + 1 ∧ (us.isEmpty = true → (dn.take (i + 1)).all inB = true)) ∧ Kp [] H1 (upd H' D (.lst (acc ++ [V.ref tj]))) := by
        refine ⟨us, hD, Nat.lt_of_le_of_lt (show us.length ≤ 1000000 by omega) (by decide), ⟨us ++ [.ref tj], upd_same, ?_, fun h => ?_⟩, k'.own nD⟩
        · rw [List.length_append]
          show us.length + 1 ≤ i + 1
          omega
        · cases us <;> cases h
      by_cases h12 : 12 < a
      · rw [decide_eq_true h12]
        exact iteT (iteT ⟨_, rfl, keepT⟩)
      · rw [decide_eq_false h12]
        refine iteF ⟨_, rfl, tj, _, _, _, rfl, rfl, sqt_of etk, atI_nat (j := 1) rfl, _, _, rfl, rfl, (⟨by decide, by decide, by decide⟩ : (0 : Int) ≤ 12 ∧ (12 : Int) ≤ 1000000 ∧ (10 : Int).natAbs < 2 ^ 64), _, _, rfl, rfl, _, rfl, ?_⟩
        by_cases hb : (10 : Int) ^ (12 : Int).toNat < b
        · rw [decide_eq_true hb]
          exact iteT ⟨_, rfl, keepT⟩
        · rw [decide_eq_false hb]
          refine iteF ⟨⟨us, hD, Nat.le_succ_of_le hlu, fun h => ?_⟩, k'⟩
          have e12 : (10 : Int) ^ (12 : Int).toNat = 1000000000000 := rfl
          rw [e12] at hb
          rw [all_snoc ex, hus h, Bool.true_and]
          show (decide (a.toNat < 16) && decide (b < 2 ^ 50)) = true
          rw [decide_eq_true (by omega), decide_eq_true (by omega)]
          rfl
    · rintro H' ⟨⟨us, hD, hlu, hus⟩, k'⟩
      refine ⟨Nat.zero_le _, fun p np => ⟨D, p, us, rfl, rfl, by rw [upd_ne (ne_of_none hD np)]; exact hD, upd_same, _, rfl, ?_⟩⟩
      have k2 : Kp [] H1 (upd H' p (.lst [])) := k'.trans (.new np)
      generalize upd H' p (.lst []) = H2 at k2
      cases hne : us.isEmpty with
      | true =>
        have hall := hus hne
        rw [lx, List.take_length] at hall
        refine iteF (k _ _ _ H2 (I1.kp0 k2) (k1.trans k2) (hu1'.kp k2 (by simp) _) ⟨gy, fun _ => ⟨dn, rfl, hall, ?_⟩⟩)
        have h20 : ¬ (20 : Int) < (xs.length : Int) := fun q => hlen (decide_eq_true q)
        omega
      | false => exact iteT ⟨_, rfl, back _ H2 (I1.kp0 k2) (k1.trans k2)⟩
end
end Ey
set_option exponentiation.threshold 1000
set_option maxHeartbeats 1000000
namespace Ey
open PySem PySem.Spec PyProof.Rows L2
/-! ### what is due of a call -/
def natOf : PyData → Nat
  | .int i => i.toNat
  | _ => 0
def partsOf : PyData → List PyData
  | .tuple ds => ds
  | _ => []
def dueV (y e : PyData) : PyData :=
  if polyD y = true then (if natD e = true then .tuple [.str "returned", .int (valL (natOf e) (partsOf y))] else .tuple [.str "raised", .tuple [.bool false, .bool true], .str e.shown])
  else .tuple [.str "raised", .tuple [.bool true, .bool false], .str y.shown]
theorem val_low {m : Nat} (hm : m ≤ 3) : ∀ ds : List PyData, ds.all pairD = true → ds.all inB = true → ∃ n : Nat, valL m ds = (n : Int) ∧ n ≤ ds.length * (2 ^ 50 * 3 ^ 16)
  | [], _, _ => ⟨0, rfl, by decide⟩
  | d :: r, hp, hb => by
    have hp : (pairD d && r.all pairD) = true := hp
    have hb : (inB d && r.all inB) = true := hb
    rw [Bool.and_eq_true] at hp hb
    obtain ⟨n, e, hn⟩ := val_low hm r hp.2 hb.2
    obtain ⟨i, j, rfl, h1, h2⟩ := pair_parts hp.1
    have hin : (decide (i.toNat < 16) && decide (j < 2 ^ 50)) = true := hb.1
    rw [Bool.and_eq_true] at hin
    have h16 : i.toNat < 16 := of_decide_eq_true hin.1
    have h50 : j < 2 ^ 50 := of_decide_eq_true hin.2
    obtain ⟨b, rfl⟩ : ∃ b : Nat, j = (b : Int) := ⟨j.toNat, by omega⟩
    have hq : m ^ i.toNat ≤ 3 ^ 16 := Nat.le_trans (Nat.pow_le_pow_left hm _) (Nat.pow_le_pow_right (by decide) (by omega))
    have hj : b * m ^ i.toNat ≤ 2 ^ 50 * 3 ^ 16 := Nat.mul_le_mul (by omega) hq
    refine ⟨b * m ^ i.toNat + n, ?_, ?_⟩
    · show (valD m (.tuple [.int i, .int b]) :: r.map (valD m)).sum = _
      rw [List.sum_cons]
      have e : (r.map (valD m)).sum = (n : Int) := e
      rw [e, Int.natCast_add, Int.natCast_mul]
      rfl
    · show _ ≤ (r.length + 1) * _
      rw [Nat.add_mul]
      omega
theorem NearOk.parts {y : PyData} (ny : NearOk y) (ep : polyD y = true) : ∃ dn, y = .tuple dn ∧ dn.all pairD = true ∧ dn.all inB = true ∧ dn.length ≤ 20 := by
  obtain ⟨dn, rfl, hb, hl⟩ := ny.p ep
  have ep' : polyL dn = true := ep
  unfold polyL at ep'
  rw [Bool.and_eq_true] at ep'
  exact ⟨dn, rfl, ep'.1, hb, hl⟩
theorem OddOk.nat {e : PyData} (oe : OddOk e) (en : natD e = true) : ∃ m : Nat, e = .int m ∧ m ≤ 3 := by
  rcases oe.n en with rfl | rfl
  · exact ⟨0, rfl, by decide⟩
  · exact ⟨3, rfl, by decide⟩
theorem raised_good {n w : Nat} {x : PyData} (a b : Bool) (g : GoodJ (bAny + 5) n w x) : Good 2 (10 * w + 200) (.tuple [.str "raised", .tuple [.bool a, .bool b], .str x.shown]) := by
  have gg := g.good (show bAny + 5 ≤ 10 ^ 40 by decide +kernel)
  have e1 : fit (.str "raised") = true := by decide +kernel
  have e2 : wd (.str "raised") ≤ 100 := by decide +kernel
  have hl := (fit_told x gg.f).2
  have lw : fit (.str x.shown) = true := by
    show (x.shown.cps.toList.all fun c => decide (c < 1000)) = true
    rw [List.all_eq_true]
    exact fun c hc => decide_eq_true (lw_shown x g.f c hc)
  refine ⟨?_, ?_, ?_⟩
  · show (fit (.str "raised") && (true && (fit (.str x.shown) && true))) = true
    rw [e1, lw]
    rfl
  · show max 0 (max (max 0 (max 0 0) + 1) (max 0 0)) + 1 ≤ 2
    decide
  · show wd (.str "raised") + 2 + (5 + 2 + (5 + 2 + 0) + 3 + 2 + (10 * x.shown.length + 2 + 2 + 0)) + 3 ≤ 10 * w + 200
    have := g.w
    omega
theorem due_good {y e : PyData} (ny : NearOk y) (oe : OddOk e) : Good 2 90000 (dueV y e) := by
  unfold dueV
  cases ep : polyD y with
  | false => exact (raised_good _ _ ny.g).mono (by decide) (by decide)
  | true =>
    rw [if_pos rfl]
    cases en : natD e with
    | false => exact (raised_good _ _ oe.g).mono (by decide) (by decide)
    | true =>
      rw [if_pos rfl]
      obtain ⟨dn, rfl, hp, hb, hl⟩ := ny.parts ep
      obtain ⟨m, rfl, hm⟩ := oe.nat en
      obtain ⟨N, eN, hN⟩ := val_low hm dn hp hb
      have e1 : fit (.str "returned") = true := by decide +kernel
      have e2 : wd (.str "returned") ≤ 200 := by decide +kernel
      have hN2 : N ≤ 20 * (2 ^ 50 * 3 ^ 16) := Nat.le_trans hN (Nat.mul_le_mul_right _ hl)
      have e3 : fit (.int (valL m dn)) = true := by
        rw [eN]
        have h40 : 20 * (2 ^ 50 * 3 ^ 16) < 10 ^ 40 := by decide +kernel
        exact decide_eq_true (by omega)
      show Good 2 90000 (.tuple [.str "returned", .int (valL m dn)])
      refine ⟨?_, ?_, ?_⟩
      · show (fit (.str "returned") && (fit (.int (valL m dn)) && true)) = true
        rw [e1, e3]
        rfl
      · show max 0 (max 0 0) + 1 ≤ 2
        decide
      · show wd (.str "returned") + 2 + (45 + 2 + 0) + 3 ≤ 90000
        omega
theorem due_ret {dn : List PyData} {m : Nat} (ep : polyD (.tuple dn) = true) : dueV (.tuple dn) (.int m) = .tuple [.str "returned", .int (valL m dn)] := by
  unfold dueV
  have en : natD (.int m) = true := by
    show decide ((0 : Int) ≤ (m : Int)) = true
    exact decide_eq_true (by omega)
  rw [if_pos ep, if_pos en]
  rfl
theorem due_bp {y e : PyData} (ep : polyD y = false) : dueV y e = .tuple [.str "raised", .tuple [.bool true, .bool false], .str y.shown] := by
  unfold dueV
  rw [if_neg (by rw [ep]; exact Bool.false_ne_true)]
theorem due_bn {y e : PyData} (ep : polyD y = true) (en : natD e = false) : dueV y e = .tuple [.str "raised", .tuple [.bool false, .bool true], .str e.shown] := by
  unfold dueV
  rw [if_pos ep, if_neg (by rw [en]; exact Bool.false_ne_true)]
theorem ite_both {c : Bool} {P Q R : Prop} (r : R) (h1 : R → P) (h2 : R → Q) : if c = true then P else Q := by
  cases c
  · exact iteF (h2 r)
  · exact iteT (h1 r)
theorem an_raised {ms : List Addr} {H : Hp} {z1 z2 : Addr} {a b : Bool} {x : Str} (n2 : (upd H z1 (.tup [.bl a, .bl b])) z2 = none) :
    An ms (upd (upd H z1 (.tup [.bl a, .bl b])) z2 (.tup [.str "raised", .ref z1, .str x])) (.ref z2) (.tuple [.str "raised", .tuple [.bool a, .bool b], .str x]) :=
  .tup upd_same (.cons (.str _) (.cons (.tup ((Kp.new (ms := []) n2).tup _ _ upd_same) (.cons (.bl _) (.cons (.bl _) .nil))) (.cons (.str _) .nil)))
/-- a call of the program, told -/
theorem by_told {ms Ts : List Addr} {BP BN : Addr} {v o : V} {y e : PyData} {H : Hp} {Q : VK} (ha : An ms H v y) (he : An ms H o e) (ny : NearOk y) (oe : OddOk e) (ht : TTs Ts H) (sub : ∀ P ∈ Ts, P ∈ ms)
    (k : ∀ (z : Addr) (H' : Hp), An ms H' (.ref z) (dueV y e) → TTs Ts H' → Kp Ts H H' → Q (.ref z) H') : ∃ ms, spVA ms Ts BP BN [v, o] H (RetT Q) (EchT BP BN Q) := by
  have gy := ny.g.good (show bAny + 5 ≤ 10 ^ 40 by decide +kernel)
  have ge := oe.g.good (show bAny + 5 ≤ 10 ^ 40 by decide +kernel)
  refine ⟨ms, v, o, y, e, rfl, ha, he, Nat.le_trans gy.w (by decide), ht, sub, fun ep en => ?_, fun ep dd H' hd g' k' => ?_, fun ep en dd H' hd g' k' => ?_⟩
  · obtain ⟨dn, rfl, hp, hb, hl⟩ := ny.parts ep
    obtain ⟨m, rfl, hm⟩ := oe.nat en
    refine ⟨dn, m, rfl, rfl, hb, Nat.lt_of_le_of_lt hm (by decide), by omega, fun H' g' k' => ⟨by show 2 ≤ sizeLine; decide, fun z nz => k z _ ?_ (g'.kp0 (.new nz)) (k'.trans (.new nz))⟩⟩
    rw [due_ret ep]
    exact .tup upd_same (.cons (.str _) (.cons (.int _) .nil))
  · refine ⟨true, dd, ms, v, y, rfl, rfl, hd, ha.kp k' sub y, gy.f, Nat.le_trans gy.d (by decide), Nat.le_trans gy.w (by decide), fun z1 n1 z2 n2 => k z2 _ ?_ ((g'.kp0 (.new n1)).kp0 (.new n2)) ((k'.trans (.new n1)).trans (.new n2))⟩
    rw [due_bp ep]
    exact an_raised n2
  · refine ⟨false, dd, ms, o, e, rfl, rfl, hd, he.kp k' sub e, ge.f, Nat.le_trans ge.d (by decide), Nat.le_trans ge.w (by decide), fun z1 n1 z2 n2 => k z2 _ ?_ ((g'.kp0 (.new n1)).kp0 (.new n2)) ((k'.trans (.new n1)).trans (.new n2))⟩
    rw [due_bn ep en]
    exact an_raised n2
section
variable {Pr : Program} {w : World} {K : PySem.W.Frag} {mg : Str → Option Value} {base : Heap} {A : Nat → Addr} {D : Nat → FuncData} {c0 P0 BP BN CE fP fN : Addr}
/-- the call, told and compared -/
theorem told_piece (L : LW K mg A D c0 BP BN CE fP fN) (b : GxR.TabB base mg c0 P0) (hsm : ∃ mm, base.Ns sysModules mm) (f c PL : Addr) (TB : LamX.TabB base mg c PL) (s0 : Shared) (H0 : Hp) (hr : Room 80 (XL Pr w K mg base f c s0 H0).A) :
    ∃ tt, PSs (XL Pr w K mg base f c s0 H0) (B1.drop 10) tt ∧ ∀ (E : Ends) (H : Hp) (d l : Addr) (u o dv : V) (y e : PyData) (i : Int) (x0 x1 x3 x4 x6 x7 x10 x11 x12 : Option V), LI [P0] d l PL (qX Pr w K mg base f c s0 H0) H → An (d :: l :: PL :: [P0]) H u y → An (d :: l :: PL :: [P0]) H o e → NearOk y → OddOk e → An (d :: l :: PL :: [P0]) H dv (dueV y e) →
      (∀ (x12 : Option V) (H3 : Hp), LI [P0] d l PL (qX Pr w K mg base f c s0 H0) H3 → E.nx [x0, x1, some (.int i), x3, x4, some dv, x6, x7, some u, some o, x10, x11, x12] H3) →
      tt E [x0, x1, some (.int i), x3, x4, some dv, x6, x7, some u, some o, x10, x11, x12] H := by
  have B := L.B
  obtain ⟨oc, od, kV, doc, pm, an, cdv, ct, osl, efd, lk, code⟩ := L.tried.F.ex
  have bt := L.tried.b
  rw [efd] at bt lk
  have gV : FnOk Pr w K mg base (L2.CX Pr w) 9 (A 11) (D 11) ["poly", "number"] (fun vs H Q E => ∃ ms, spVA ms [P0] BP BN vs H Q E) := fn_ex fun ms => ok_val (ms := ms) L.P b L.X
  have hun : (XL Pr w K mg base f c s0 H0).A.units + 400 < cLine := by
    have := hr.un
    omega
  refine ⟨_, pss_cons (ps_set (i := 12) scLaw.nd rfl (.inl rfl) (pe_lamK (k := 20) (X := XL Pr w K mg base f c s0 H0) (by rfl) L.tried.g L.tried.F.kp lk code bt scTried rfl (.inl rfl) (tried_gives L.X L.B hsm rfl hun) TB rfl (hr.mono (by decide)) (LamX.lamS_by (sc := defScope sLaw) (by decide +kernel)) rfl (by intro q cl pm cv ctv; rfl)
    (fun A' outer s H E f' c' hr' => pe_ifExp (pt_cmpR op_eq (pv 2) pe_int (nomark _)) (pe_call (E := E) gV (hr'.mono (by decide)) (by rfl) L.P.val.g L.P.val.F.kp L.P.val.b .nil (passes_call (takes_of rfl rfl rfl rfl) (fun _ _ _ _ h => h)) (by exact (pa_cons (pv 8) (pa_cons (pv 9) pa_nil))))
      (pe_callKR (E := E) gV (hr'.mono (by decide)) (by rfl) L.P.val.g L.P.val.F.kp L.kVal (passes_call (takes_of rfl rfl rfl rfl) (fun _ _ _ _ h => h)) (by exact (pk_cons (pv 9) (pk_cons (pv 8) pk_nil)))))))
    (pss_one (ps_if (pt_cmpR op_ne (pe_callB (cr_reprE hsm rfl hr) (by rfl) B.repr (by decide +kernel) (pa_cons (pv 12) pa_nil)) (pe_callB (cr_reprE hsm rfl hr) (by rfl) B.repr (by decide +kernel) (pa_cons (pv 5) pa_nil)) (nomark _)) (pss_one (ps_ret pe_bl)) pss_nil)), ?_⟩
  intro E H d l u o dv y e i x0 x1 x3 x4 x6 x7 x10 x11 x12 I hu ho ny oe hdv k
  have subT : ∀ P ∈ [P0], P ∈ d :: l :: PL :: [P0] := fun P hP => by rw [List.mem_singleton.mp hP]; simp
  have subL : ∀ P ∈ [PL], P ∈ d :: l :: PL :: [P0] := fun P hP => by simp [List.mem_singleton.mp hP]
  refine ⟨I.tl, fun H1 k1 T1 => ?_⟩
  have I1 := I.lam k1 T1
  have hu1 := hu.kp k1 subL _
  have ho1 := ho.kp k1 subL _
  have hd1 := hdv.kp k1 subL _
  refine ⟨_, rfl, rfl, _, rfl, ite_both ?_ (fun h => ⟨_, rfl, _, rfl, h⟩) (fun h => ⟨_, rfl, _, rfl, h⟩)⟩
  refine by_told hu1 ho1 ny oe I1.ts subT (fun z H2 a2 g2 k2 => ?_)
  have I2 := I1.prog k2 g2
  have gd := due_good ny oe
  refine ⟨_, rfl, re_an a2 gd (by decide) (by decide) ?_⟩
  exact ⟨_, rfl, re_an (hd1.kp k2 subT _) gd (by decide) (by decide) ⟨rfl, _, rfl, iteNS rfl (k _ H2 I2)⟩⟩
/-- what is due, worked out -/
theorem due_piece (L : LW K mg A D c0 BP BN CE fP fN) (b : GxR.TabB base mg c0 P0) (hsm : ∃ mm, base.Ns sysModules mm) (f c PL : Addr) (TB : LamX.TabB base mg c PL) (s0 : Shared) (H0 : Hp) (hr : Room 80 (XL Pr w K mg base f c s0 H0).A) :
    ∃ tt, PSs (XL Pr w K mg base f c s0 H0) (B1.drop 8) tt ∧ ∀ (E : Ends) (H : Hp) (d l : Addr) (u o : V) (y e : PyData) (i : Int) (x0 x1 x3 x4 x5 x6 x7 x10 x11 x12 : Option V), LI [P0] d l PL (qX Pr w K mg base f c s0 H0) H → An (d :: l :: PL :: [P0]) H u y → An (d :: l :: PL :: [P0]) H o e → NearOk y → OddOk e →
      (∀ (x5 x11 x12 : Option V) (H3 : Hp), LI [P0] d l PL (qX Pr w K mg base f c s0 H0) H3 → E.nx [x0, x1, some (.int i), x3, x4, x5, x6, x7, some u, some o, x10, x11, x12] H3) →
      tt E [x0, x1, some (.int i), x3, x4, x5, x6, x7, some u, some o, x10, x11, x12] H := by
  have B := L.B
  obtain ⟨tt, dt, rt⟩ := told_piece (Pr := Pr) (w := w) L b hsm f c PL TB s0 H0 hr
  have gL : FnOk Pr w K mg base CX0 2 (A 19) (D 19) ["_law_thing"] (fun vs H Q E => ∃ ms, spL ms polyD vs H Q E) := fn_ex fun ms => ok_lIsPoly (ms := ms) L.toLP
  have gI : FnOk Pr w K mg base CX0 1 (A 16) (D 16) ["_law_thing"] (fun vs H Q E => ∃ ms, spI ms isIntD vs H Q E) := fn_ex fun ms => go_lInt (ms := ms) L.toLR
  have gV : FnOk Pr w K mg base CX0 2 (A 21) (D 21) ["_law_poly", "_law_m"] (fun vs H Q E => ∃ ms, spVal ms vs H Q E) := fn_ex fun ms => ok_lVal (ms := ms) L.toLV
  refine ⟨_, pss_cons (ps_set (i := 5) scLaw.nd rfl (.inl rfl) (pe_tup (pa_cons pe_str (pa_cons (pe_tup (pa_cons pe_bl (pa_cons pe_bl pa_nil))) (pa_cons (pe_callB (cr_reprE hsm rfl hr) (by rfl) B.repr (by decide +kernel) (pa_cons (pv 8) pa_nil)) pa_nil)))))
    (pss_cons (ps_if (pt_val (pe_call gL (hr.mono (by decide)) (by rfl) L.lpoly.g L.lpoly.F.kp L.lpoly.b .nil pass0 (pa_cons (pv 8) pa_nil)))
      (pss_cons (ps_set (i := 11) scLaw.nd rfl (.inl rfl) (pe_and (pe_call gI (hr.mono (by decide)) (by rfl) L.int.g L.int.F.kp L.int.b .nil pass0 (pa_cons (pv 9) pa_nil)) (pe_one (pe_cmpR op_ge (pv 9) pe_int (nomark _)))))
        (pss_one (ps_set (i := 5) scLaw.nd rfl (.inl rfl) (pe_ifExp (pt_val (pv 11)) (pe_tup (pa_cons pe_str (pa_cons (pe_call gV (hr.mono (by decide)) (by rfl) L.lval.g L.lval.F.kp L.lval.b .nil pass0 (pa_cons (pv 8) (pa_cons (pv 9) pa_nil))) pa_nil)))
          (pe_tup (pa_cons pe_str (pa_cons (pe_tup (pa_cons pe_bl (pa_cons pe_bl pa_nil))) (pa_cons (pe_callB (cr_reprE hsm rfl hr) (by rfl) B.repr (by decide +kernel) (pa_cons (pv 9) pa_nil)) pa_nil)))))))) pss_nil) dt), ?_⟩
  intro E H d l u o y e i x0 x1 x3 x4 x5 x6 x7 x10 x11 x12 I hu ho ny oe k
  have gy := ny.g.good (show bAny + 5 ≤ 10 ^ 40 by decide +kernel)
  have ge := oe.g.good (show bAny + 5 ≤ 10 ^ 40 by decide +kernel)
  let M := d :: l :: PL :: [P0]
  have wy : wd y ≤ 1000000 := Nat.le_trans gy.w (by decide)
  refine ⟨by show 2 ≤ sizeLine; decide, fun z1 n1 => ?_⟩
  have I1 := I.new (o := .tup [.bl true, .bl false]) n1
  have hu1 := hu.kp (Kp.new (ms := []) (o := .tup [.bl true, .bl false]) n1) (by simp) _
  have ho1 := ho.kp (Kp.new (ms := []) (o := .tup [.bl true, .bl false]) n1) (by simp) _
  refine ⟨_, rfl, re_an hu1 gy (by decide) (by decide) ⟨by show 3 ≤ sizeLine; decide, fun z2 n2 => ?_⟩⟩
  have I2 := I1.new (o := .tup [.str "raised", .ref z1, .str y.shown]) n2
  have c2 : Kp [] (upd H z1 (.tup [.bl true, .bl false])) (upd (upd H z1 (.tup [.bl true, .bl false])) z2 (.tup [.str "raised", .ref z1, .str y.shown])) := .new n2
  have hu2 := hu1.kp c2 (by simp) _
  have ho2 := ho1.kp c2 (by simp) _
  have a2 : An M (upd (upd H z1 (.tup [.bl true, .bl false])) z2 (.tup [.str "raised", .ref z1, .str y.shown])) (.ref z2) (.tuple [.str "raised", .tuple [.bool true, .bool false], .str y.shown]) := an_raised n2
  generalize upd (upd H z1 (.tup [.bl true, .bl false])) z2 (.tup [.str "raised", .ref z1, .str y.shown]) = H2 at I2 hu2 ho2 a2 ⊢
  refine ⟨_, rfl, M, u, y, rfl, hu2, wy, fun H3 k3 => ⟨_, rfl, ?_⟩⟩
  have I3 := I2.kp0 k3
  have hu3 := hu2.kp k3 (by simp) _
  have ho3 := ho2.kp k3 (by simp) _
  have a3 := a2.kp k3 (by simp) _
  cases ep : polyD y with
  | false =>
    rw [← due_bp (e := e) ep] at a3
    exact iteF (rt E H3 d l u o (.ref z2) y e i x0 x1 x3 x4 x6 x7 x10 x11 x12 I3 hu3 ho3 ny oe a3 fun x12 H4 I4 => k _ _ _ H4 I4)
  | true =>
    refine iteT ?_
    refine ⟨_, rfl, M, o, e, rfl, ho3, _, rfl, ?_⟩
    cases hi : isIntD e with
    | false =>
      have en : natD e = false := by
        cases e with
        | int n => cases hi
        | none => rfl
        | bool b => rfl
        | str x => rfl
        | list x => rfl
        | tuple x => rfl
        | dict x => rfl
      refine iteF ?_
      refine ⟨_, rfl, _, rfl, iteF ⟨by show 2 ≤ sizeLine; decide, fun z3 n3 => ?_⟩⟩
      have I4 := I3.new (o := .tup [.bl false, .bl true]) n3
      have hu4 := hu3.kp (Kp.new (ms := []) (o := .tup [.bl false, .bl true]) n3) (by simp) _
      have ho4 := ho3.kp (Kp.new (ms := []) (o := .tup [.bl false, .bl true]) n3) (by simp) _
      refine ⟨_, rfl, re_an ho4 ge (by decide) (by decide) ⟨by show 3 ≤ sizeLine; decide, fun z4 n4 => ?_⟩⟩
      have I5 := I4.new (o := .tup [.str "raised", .ref z3, .str e.shown]) n4
      have c5 : Kp [] (upd H3 z3 (.tup [.bl false, .bl true])) (upd (upd H3 z3 (.tup [.bl false, .bl true])) z4 (.tup [.str "raised", .ref z3, .str e.shown])) := .new n4
      have a5 : An M (upd (upd H3 z3 (.tup [.bl false, .bl true])) z4 (.tup [.str "raised", .ref z3, .str e.shown])) (.ref z4) (.tuple [.str "raised", .tuple [.bool false, .bool true], .str e.shown]) := an_raised n4
      rw [← due_bn ep en] at a5
      exact rt E _ d l u o (.ref z4) y e i x0 x1 x3 x4 x6 x7 x10 _ x12 I5 (hu4.kp c5 (by simp) _) (ho4.kp c5 (by simp) _) ny oe a5 fun x12 H6 I6 => k _ _ _ H6 I6
    | true =>
      refine iteT ?_
      obtain ⟨n, rfl⟩ : ∃ n, e = .int n := by
        cases e with
        | int n => exact ⟨n, rfl⟩
        | none => cases hi
        | bool b => cases hi
        | str x => cases hi
        | list x => cases hi
        | tuple x => cases hi
        | dict x => cases hi
      have eo : o = .int n := by
        cases ho3 with
        | int => rfl
      subst eo
      refine ⟨_, rfl, _, _, rfl, rfl, ⟨_, rfl, _, rfl, ite2 (fun h => ?_) (fun h => ?_)⟩⟩
      · have hn : 0 ≤ n := of_decide_eq_true h
        have en : natD (.int n) = true := decide_eq_true hn
        obtain ⟨dn, rfl, hp, hb, hl⟩ := ny.parts ep
        obtain ⟨m, em, hm⟩ := oe.nat en
        cases em
        refine ⟨_, rfl, _, rfl, M, u, dn, m, rfl, hu3, hp, hb, Nat.lt_of_le_of_lt hm (by decide), by omega, fun H4 k4 => ⟨by show 2 ≤ sizeLine; decide, fun z3 n3 => ?_⟩⟩
        have k5 : Kp [] H3 (upd H4 z3 (.tup [.str "returned", .int (valL m dn)])) := k4.trans (.new n3)
        have a5 : An M (upd H4 z3 (.tup [.str "returned", .int (valL m dn)])) (.ref z3) (.tuple [.str "returned", .int (valL m dn)]) := .tup upd_same (.cons (.str _) (.cons (.int _) .nil))
        rw [← due_ret ep] at a5
        exact rt E _ d l u _ (.ref z3) _ _ i x0 x1 x3 x4 x6 x7 x10 _ x12 (I3.kp0 k5) (hu3.kp k5 (by simp) _) (ho3.kp k5 (by simp) _) ny oe a5 fun x12 H6 I6 => k _ _ _ H6 I6
      · have en : natD (.int n) = false := decide_eq_false fun q => h (decide_eq_true q)
        refine ⟨by show 2 ≤ sizeLine; decide, fun z3 n3 => ?_⟩
        have I4 := I3.new (o := .tup [.bl false, .bl true]) n3
        have hu4 := hu3.kp (Kp.new (ms := []) (o := .tup [.bl false, .bl true]) n3) (by simp) _
        have ho4 := ho3.kp (Kp.new (ms := []) (o := .tup [.bl false, .bl true]) n3) (by simp) _
        refine ⟨_, rfl, re_an ho4 ge (by decide) (by decide) ⟨by show 3 ≤ sizeLine; decide, fun z4 n4 => ?_⟩⟩
        have I5 := I4.new (o := .tup [.str "raised", .ref z3, .str (PyData.int n).shown]) n4
        have c5 : Kp [] (upd H3 z3 (.tup [.bl false, .bl true])) (upd (upd H3 z3 (.tup [.bl false, .bl true])) z4 (.tup [.str "raised", .ref z3, .str (PyData.int n).shown])) := .new n4
        have a5 : An M (upd (upd H3 z3 (.tup [.bl false, .bl true])) z4 (.tup [.str "raised", .ref z3, .str (PyData.int n).shown])) (.ref z4) (.tuple [.str "raised", .tuple [.bool false, .bool true], .str (PyData.int n).shown]) := an_raised n4
        rw [← due_bn ep en] at a5
        exact rt E _ d l u _ (.ref z4) y _ i x0 x1 x3 x4 x6 x7 x10 _ x12 I5 (hu4.kp c5 (by simp) _) (ho4.kp c5 (by simp) _) ny oe a5 fun x12 H6 I6 => k _ _ _ H6 I6
end
end Ey
set_option maxHeartbeats 4000000
namespace Ey
open PySem PySem.Spec PyProof.Rows L2 GxR
/-! ### a law whose own code object is known: for its lambdas -/
section
variable {P : Program} {w : World} {K : PySem.W.Frag} {mg : Str → Option Value} {base : Heap}
theorem law_okT {x p : Str} {st : Stmt} {f c : Addr} {fd : FuncData} {N : List Str} {k : Nat} {sp : Sp} (F : DfT K mg x st [p] f fd c) (S : FnScope N [p] (defScope st)) (hr : Room (k + 1) callerA)
    (body : ∀ (s : Shared) (H : Hp) (v : V) (Q : VK), Room k (callerA.deeper (envOfC x (defScope st) s.heap.objs.size f (.ref c))) → sp [v] H Q E0 →
      ∃ t, PSs (cxOf CX0 P w K mg base N x (defScope st) f (.ref c) callerA [] s H E0).nox (defBody st) t ∧ t { nx := fun _ H' => Q .non H', rt := Q } (start N [v]) H) :
    LawOk P w K mg base f fd p sp := by
  obtain ⟨oc, od, kV, doc, pm, an, ct, osl, rfl, lk, code⟩ := F.ex
  intro s H u v Q e0 hb rv hsp
  have inK : K.In s.heap := e0.mod.kin.keeps fun b o e => (e0.bs b o e).1
  have noL : s.heap.NoLimit := e0.mod.nolimit.keeps fun b o e => (e0.bs b o e).1
  have kinds : ∀ y ∈ [p].zip [u], (defScope st).names.lookup y.1 = some .local ∨ ((defScope st).names.lookup y.1 = some .cell ∧ ((cellsFrom (s.heap.objs.size + 1) (defScope st).names []).lookup y.1).isSome = true) := fun ⟨n, z⟩ hy => by
    rcases S.par n (List.of_mem_zip hy).1 with q | q
    · exact .inl q
    · exact .inr ⟨q, PySem.W.cellsFrom_some _ _ _ (.inl q)⟩
  refine codeAny_call_function (Nat.lt_of_le_of_lt (by omega) hr.dp) (inK _ _ lk) rfl S.co S.gen rfl (PySem.W.codeRec_of inK code) (hb _ _ _ _ ?_)
  refine wpAny_newFunctionEnv_cells (binds := [p].zip [u]) S.kind kinds fun env he s1 xc => ?_
  subst he
  refine ⟨noL.keeps xc.toInCall.keep, codeAny_func ?_⟩
  obtain ⟨t, dv, rd⟩ := body s H v Q (hr.deeper _) hsp
  have I := inv_start (CX := CX0) (E := E0) (P := P) (w := w) (K := K) (mg := mg) (base := base) (N := N) (ps := [p]) (A := callerA) (vs := [v]) (us := [u]) S rfl e0 rfl (.cons rv .nil) xc
  refine wpAny_mono (dv.nox.run [] s1 (start N [v]) H _ I rd) (fun fl s' hs => ?_) fun e s' hs => hs
  cases fl with
  | next =>
    obtain ⟨σ', H', J, q⟩ := hs
    exact ⟨V.non, H', J.os, J.bare, J.base, J.hok, rfl, q⟩
  | ret z =>
    obtain ⟨y, σ', H', J, ry, q⟩ := hs
    exact ⟨y, H', J.os, J.bare, J.base, J.hok, ry, q⟩
  | brk =>
    obtain ⟨_, _, _, q⟩ := hs
    exact q.elim
  | cont =>
    obtain ⟨_, _, _, q⟩ := hs
    exact q.elim
end
end Ey
set_option exponentiation.threshold 1000
set_option maxHeartbeats 1000000
namespace Ey
open PySem PySem.Spec PyProof.Rows L2
section
variable {Pr : Program} {w : World} {K : PySem.W.Frag} {mg : Str → Option Value} {base : Heap} {A : Nat → Addr} {D : Nat → FuncData} {c0 P0 BP BN CE fP fN : Addr}
def spLaw (K : PySem.W.Frag) (Ts : List Addr) (PL : Addr) (q : Str) : Sp := fun vs H Q _ => ∃ (a : Addr) (ns : List Int), vs = [.ref a] ∧ SqL K H a (ns.map V.int) ∧ ns.length ≤ 63 ∧ TTs Ts H ∧ H PL = some (.tbl #[]) ∧ PL ∉ Ts ∧ ∀ H', Q (.bl true) H'
theorem ok_law {f c PL : Addr} {fd : FuncData} (F : DfT K mg "law" sLaw ["_law_script"] f fd c) (L : LW K mg A D c0 BP BN CE fP fN) (b : GxR.TabB base mg c0 P0) (TB : LamX.TabB base mg c PL) (hsm : ∃ mm, base.Ns sysModules mm) : LawOk Pr w K mg base f fd "_law_script" (spLaw K [P0] PL "") := by
  refine law_okT (k := 80) F scLaw ⟨rfl, by decide, by decide⟩ fun s H v Q hr h => ?_
  obtain ⟨sc, ns, e, hS, hn, gT, gL, hnt, k⟩ := h
  cases e
  have B := L.B
  obtain ⟨td, dd, rd⟩ := due_piece (Pr := Pr) (w := w) L b hsm f c PL TB s H hr
  obtain ⟨tn, dn, rn⟩ := near_piece (Pr := Pr) (w := w) (base := base) (P0 := P0) L f c PL s H hr
  obtain ⟨tp, dp, rp⟩ := pair_piece (Pr := Pr) (w := w) (base := base) (P0 := P0) L f c PL s H hr
  obtain ⟨tv, dv, rv⟩ := val_piece (Pr := Pr) (w := w) L b hsm f c PL s H hr (pss_cons dp (pss_cons dn dd))
  obtain ⟨tt, dt, rt⟩ := thing_piece (Pr := Pr) (w := w) L b hsm f c PL s H hr
  refine ⟨_, pss_cons (ps_set (i := 1) scLaw.nd rfl (.inl rfl) (pe_call (ok_deck L.deck.F B) (hr.mono (by decide)) (by rfl) L.deck.g L.deck.F.kp L.deck.b .nil pass0 (pa_cons (pv 0) pa_nil)))
    (pss_cons (ps_for PassesOwn.never rfl (pi_range1 (by rfl) B.range (pa_cons pe_int pa_nil)) (pg_name (i := 2) scLaw.nd rfl (.inr rfl))
      (pss_cons (ps_set (i := 3) scLaw.nd rfl (.inl rfl) (pe_call (ok_dPoly L.toLD) (hr.mono (by decide)) (by rfl) L.dpoly.g L.dpoly.F.kp L.dpoly.b .nil pass0 (pa_cons (pv 1) (pa_cons pe_int pa_nil))))
      (pss_cons dt dv)))
    (pss_one (ps_ret pe_bl))), ?_⟩
  refine ⟨_, rfl, sc, ns, rfl, hS, hn, fun d l H1 D1 k1 nd nl => ?_⟩
  have hT1 := gT.kp0 k1
  have hL1 := k1.at_ _ _ gL List.not_mem_nil
  have I1 : LI [P0] d l PL (qX Pr w K mg base f c s H) H1 := by
    refine ⟨⟨D1, by simp, by simp, fun x hx => ?_⟩, hT1, LamX.TabS.nil hL1, hnt⟩
    obtain ⟨m, n, ns2, h1, h2, _⟩ := D1.ex
    rcases List.mem_cons.mp hx with rfl | hx
    · rw [h1]
      exact fun z => nomatch z
    rcases List.mem_cons.mp hx with rfl | hx
    · rw [h2]
      exact fun z => nomatch z
    rcases List.mem_cons.mp hx with rfl | hx
    · rw [hL1]
      exact fun z => nomatch z
    · obtain ⟨ps, e, _⟩ := hT1 x hx
      rw [e]
      exact fun z => nomatch z
  refine ⟨3, rfl, by decide, by decide, ?_⟩
  refine for_range (lo := 0) (n := 3) (fun i σ H2 => ∃ (x2 x3 x4 x5 x6 x7 x8 x9 x10 x11 x12 : Option V), σ = [some (.ref sc), some (.ref d), x2, x3, x4, x5, x6, x7, x8, x9, x10, x11, x12] ∧ LI [P0] d l PL (qX Pr w K mg base f c s H) H2)
    ⟨_, _, _, _, _, _, _, _, _, _, _, rfl, I1⟩ ?_ ?_
  · rintro i σ H2 hi ⟨x2, x3, x4, x5, x6, x7, x8, x9, x10, x11, x12, rfl, I⟩
    refine ⟨_, rfl, d, l, d :: l :: PL :: [P0], 9, rfl, by decide, I.fr, fun v ds H3 a3 hp F3 k3 => ?_⟩
    have I3 := I.own k3 F3
    refine rt _ H3 d l v ds _ _ _ _ _ _ _ _ _ _ _ I3 a3 hp fun y4 y5 H4 I4 a4 => ?_
    refine rv _ H4 d l v ds _ _ _ _ _ _ _ _ _ _ _ I4 a4 hp fun y6 y7 H5 I5 a5 => ?_
    refine rp _ H5 d l v ds _ _ _ _ _ _ _ _ _ _ _ I5 a5 hp fun u o y e H6 I6 a6 u6 o6 gy oe => ?_
    refine rn _ H6 d l v u ds y _ _ _ _ _ _ _ _ _ _ _ I6 a6 hp u6 gy fun u2 y2 z10 H7 I7 k7 u7 ny => ?_
    refine rd _ H7 d l u2 o y2 e _ _ _ _ _ _ _ _ _ _ _ I7 u7 (o6.kp k7 (by simp) _) ny oe fun z5 z11 z12 H8 I8 => ?_
    exact ⟨_, _, _, _, _, _, _, _, _, _, _, rfl, I8⟩
  · rintro σ H2 ⟨x2, x3, x4, x5, x6, x7, x8, x9, x10, x11, x12, rfl, I⟩
    exact k H2
end
end Ey
/-! ### the end -/
namespace Ey
open PySem PySem.Spec L2
/-- what the head tells of one def -/
structure DfK (K : PySem.W.Frag) (x : Str) (st : Stmt) (f : Addr) (oc kV dc pm cd ct : Value) (od an : Option Addr) (sl : Array (Option Value)) : Prop where
  a : PySem.W.nsIn K mainGlobals x = some (some (.ref f))
  l : K.lookup f = some ⟨oc, od, .func (PySem.W.fnOf x x (defArgs st) (defBody st) (defScope st) .none kV dc pm an cd ct), sl⟩
  c : PySem.W.codeIn K cd x = true
  k : PySem.W.keepIn K (.ref f) = true
theorem DfK.df {K : PySem.W.Frag} {x : Str} {st : Stmt} {f : Addr} {oc kV dc pm cd ct : Value} {od an : Option Addr} {sl : Array (Option Value)} {mg : Str → Option Value} {h : Heap} {ps : List Str} (e : DfK K x st f oc kV dc pm cd ct od an sl) (X : K.In h) (G : h.Ns mainGlobals mg)
    (hb : ∀ (kV doc pm : Value) (an : Option Addr) (cdv ct : Value) (us : List Value), us.length = ps.length → bindArgs (PySem.W.fnOf x x (defArgs st) (defBody st) (defScope st) .none kV doc pm an cdv ct) ⟨us, []⟩ = pure (ps.zip us)) :
    Df K mg x st ps f (PySem.W.fnOf x x (defArgs st) (defBody st) (defScope st) .none kV dc pm an cd ct) :=
  ⟨fun_mk e.l e.c e.k, (fun_mk e.l e.c e.k).binds hb, PySem.W.mg_of X G e.a⟩


abbrev sBP : Stmt := inClass (topS 3) 0
abbrev sBN : Stmt := inClass (topS 2) 0
set_option maxHeartbeats 8000000 in
theorem all_mk {P : Program} {q : Program} {lo : List Str} {mean : ExcName → Option Value} {w : World} {K : PySem.W.Frag} {h : Heap} {mg mb : Str → Option Value} {fa : Addr} (X : K.In h) (T : PyProof.Rows.Top q lo mean mg mb h) (hfa : mg "law" = some (.ref fa))
    {c0 P0 c1 P1 CE CP fIP CN fIN : Addr} {dr0 dr1 : DefRec}
    {f5 f6 f8 f9 f10 f11 f13 f14 f15 f16 f17 f18 f19 f20 f21 f22 f23 f24 f25 : Addr}
    {oc5 kV5 dc5 pm5 ct5 cd5 oc6 kV6 dc6 pm6 ct6 cd6 oc8 kV8 dc8 pm8 ct8 cd8 oc9 kV9 dc9 pm9 ct9 oc10 kV10 dc10 pm10 ct10 cd10 oc11 kV11 dc11 pm11 ct11 cd11 oc13 kV13 dc13 pm13 ct13 cd13 oc14 kV14 dc14 pm14 ct14 cd14 oc15 kV15 dc15 pm15 ct15 cd15 oc16 kV16 dc16 pm16 ct16 cd16 oc17 kV17 dc17 pm17 ct17 cd17 oc18 kV18 dc18 pm18 ct18 cd18 oc19 kV19 dc19 pm19 ct19 cd19 oc20 kV20 dc20 pm20 ct20 cd20 oc21 kV21 dc21 pm21 ct21 cd21 oc22 kV22 dc22 pm22 ct22 cd22 oc23 kV23 dc23 pm23 ct23 cd23 oc24 kV24 dc24 pm24 ct24 cd24 oc25 kV25 dc25 pm25 ct25 : Value}
    {od5 an5 od6 an6 od8 an8 od9 an9 od10 an10 od11 an11 od13 an13 od14 an14 od15 an15 od16 an16 od17 an17 od18 an18 od19 an19 od20 an20 od21 an21 od22 an22 od23 an23 od24 an24 od25 an25 : Option Addr}
    {sl5 sl6 sl8 sl9 sl10 sl11 sl13 sl14 sl15 sl16 sl17 sl18 sl19 sl20 sl21 sl22 sl23 sl24 sl25 : Array (Option Value)}
    {nmP qP : Str} {NP : Addr} {bsP : List Value} {snP : List Str} {subP : List Value} {abP : Bool} {colP : Option Bool} {ddP : Option Addr} {mP0 mP1 mP2 mP3 mP5 : Option Value} {ocP dcP pmP cdP ctP : Value} {odP anP : Option Addr} {slP : Array (Option Value)}
    {nmN qN : Str} {NN : Addr} {bsN : List Value} {snN : List Str} {subN : List Value} {abN : Bool} {colN : Option Bool} {ddN : Option Addr} {mN0 mN1 mN2 mN3 mN5 : Option Value} {ocN dcN pmN cdN ctN : Value} {odN anN : Option Addr} {slN : Array (Option Value)}
    (e5 : DfK K "is_plain_int" sPlain f5 oc5 kV5 dc5 pm5 cd5 ct5 od5 an5 sl5)
    (e6 : DfK K "is_natural" sNat f6 oc6 kV6 dc6 pm6 cd6 ct6 od6 an6 sl6)
    (e8 : DfK K "is_pair" sPair f8 oc8 kV8 dc8 pm8 cd8 ct8 od8 an8 sl8)
    (e9 : DfK K "is_poly" sPoly f9 oc9 kV9 dc9 pm9 (.ref c0) ct9 od9 an9 sl9)
    (e10 : DfK K "power" sPower f10 oc10 kV10 dc10 pm10 cd10 ct10 od10 an10 sl10)
    (e11 : DfK K "value_at" sVal f11 oc11 kV11 dc11 pm11 cd11 ct11 od11 an11 sl11)
    (e13 : DfK K "_law_deck" sDeck f13 oc13 kV13 dc13 pm13 cd13 ct13 od13 an13 sl13)
    (e14 : DfK K "_law_draw" sDraw f14 oc14 kV14 dc14 pm14 cd14 ct14 od14 an14 sl14)
    (e15 : DfK K "_law_pick" sPick f15 oc15 kV15 dc15 pm15 cd15 ct15 od15 an15 sl15)
    (e16 : DfK K "_law_is_integer" sLInt f16 oc16 kV16 dc16 pm16 cd16 ct16 od16 an16 sl16)
    (e17 : DfK K "_law_odd" sOdd f17 oc17 kV17 dc17 pm17 cd17 ct17 od17 an17 sl17)
    (e18 : DfK K "_law_bent" sBent f18 oc18 kV18 dc18 pm18 cd18 ct18 od18 an18 sl18)
    (e19 : DfK K "_law_is_poly" sLIsPoly f19 oc19 kV19 dc19 pm19 cd19 ct19 od19 an19 sl19)
    (e20 : DfK K "_law_power" sLPower f20 oc20 kV20 dc20 pm20 cd20 ct20 od20 an20 sl20)
    (e21 : DfK K "_law_value_at" sLVal f21 oc21 kV21 dc21 pm21 cd21 ct21 od21 an21 sl21)
    (e22 : DfK K "_law_drawn_poly" sDPoly f22 oc22 kV22 dc22 pm22 cd22 ct22 od22 an22 sl22)
    (e23 : DfK K "_law_near_poly" sNear f23 oc23 kV23 dc23 pm23 cd23 ct23 od23 an23 sl23)
    (e24 : DfK K "_law_tried" sTried f24 oc24 kV24 dc24 pm24 cd24 ct24 od24 an24 sl24)
    (e25 : DfK K "law" sLaw f25 oc25 kV25 dc25 pm25 (.ref c1) ct25 od25 an25 sl25)
    (z_int : PySem.W.nsIn K mainGlobals "int" = some none)
    (z_max : PySem.W.nsIn K mainGlobals "max" = some none)
    (z_list : PySem.W.nsIn K mainGlobals "list" = some none)
    (z_len : PySem.W.nsIn K mainGlobals "len" = some none)
    (z_range : PySem.W.nsIn K mainGlobals "range" = some none)
    (z_tuple : PySem.W.nsIn K mainGlobals "tuple" = some none)
    (z_sorted : PySem.W.nsIn K mainGlobals "sorted" = some none)
    (z_repr : PySem.W.nsIn K mainGlobals "repr" = some none)
    (z_isi : PySem.W.nsIn K mainGlobals "isinstance" = some none)
    (z_str : PySem.W.nsIn K mainGlobals "str" = some none)
    (z_all : PySem.W.nsIn K mainGlobals "all" = some none)
    (z_bool : PySem.W.nsIn K mainGlobals "bool" = some none)
    (z_sum : PySem.W.nsIn K mainGlobals "sum" = some none)
    (tb0 : PySem.W.tabIn K "is_poly" = some (c0, P0)) (rc0 : (PyProof.Rows.recsOf q).find? (fun e => e.name == ("is_poly" : Str)) = some dr0) (nT0 : K.lookup P0 = none)
    (tb1 : PySem.W.tabIn K "law" = some (c1, P1)) (rc1 : (PyProof.Rows.recsOf q).find? (fun e => e.name == ("law" : Str)) = some dr1) (nT1 : K.lookup P1 = none)
    (hPL : P1 ∉ [P0])
    (aE : PySem.W.nsIn K mainGlobals "EyesError" = some (some (.ref CE)))
    (eE : PySem.W.subIn K (.ref CE) (.type "BaseException") = some true) (tE : PySem.W.typeIn K (.ref CE) = some (.type "type")) (hE : PySem.W.hasDictIn K CE = true)
    (spB : PySem.W.specialIn K (.builtin "object.__class__") "__get__" = some (some (.builtin "getset_descriptor.__get__"))) (tkB : PySem.W.takesIn K (.builtin "object.__class__") = some true)
    (aP : PySem.W.nsIn K mainGlobals "BadPoly" = some (some (.ref CP)))
    (xP : K.lookup CP = some (excClassObj nmP qP CP NP bsP [.ref CE, .type "Exception", .type "BaseException", .type "object"] true snP subP abP colP ddP mP0 mP1 mP2 mP3 mP5 "Exception.__new__"))
    (saP : PySem.W.findIn K (.ref CP) "__setattr__" = some (some (.builtin "object.__setattr__"))) (gaP : PySem.W.findIn K (.ref CP) "__getattribute__" = some (some (.builtin "BaseException.__getattribute__"))) (ggP : PySem.W.findIn K (.ref CP) "__getattr__" = some none) (nbP : PySem.W.findIn K (.ref CP) "thing" = some none)
    (a1P : PySem.W.findIn K (.ref CP) "__init__" = some (some (.ref fIP))) (t1P : PySem.W.typeIn K (.ref fIP) = some (.type "function"))
    (l1P : K.lookup fIP = some ⟨ocP, odP, .func (PySem.W.fnOf "__init__" "BadPoly.__init__" (defArgs sBP) (defBody sBP) (defScope sBP) .none .none dcP pmP anP cdP ctP), slP⟩) (c1P : PySem.W.codeIn K cdP "BadPoly.__init__" = true)
    (kP : PySem.W.keepIn K (.ref CP) = true) (eP : PySem.W.subIn K (.ref CP) (.type "BaseException") = some true) (tP : PySem.W.typeIn K (.ref CP) = some (.type "type")) (hP : PySem.W.hasDictIn K CP = true) (sP : PySem.W.subIn K (.ref CP) (.ref CP) = some true) (sEP : PySem.W.subIn K (.ref CP) (.ref CE) = some true)
    (clP : PySem.W.findIn K (.ref CP) "__class__" = some (some (.builtin "object.__class__"))) (moP : PySem.W.mroIn K CP (.type "object") = some true)
    (aN : PySem.W.nsIn K mainGlobals "BadNumber" = some (some (.ref CN)))
    (xN : K.lookup CN = some (excClassObj nmN qN CN NN bsN [.ref CE, .type "Exception", .type "BaseException", .type "object"] true snN subN abN colN ddN mN0 mN1 mN2 mN3 mN5 "Exception.__new__"))
    (saN : PySem.W.findIn K (.ref CN) "__setattr__" = some (some (.builtin "object.__setattr__"))) (gaN : PySem.W.findIn K (.ref CN) "__getattribute__" = some (some (.builtin "BaseException.__getattribute__"))) (ggN : PySem.W.findIn K (.ref CN) "__getattr__" = some none) (nbN : PySem.W.findIn K (.ref CN) "thing" = some none)
    (a1N : PySem.W.findIn K (.ref CN) "__init__" = some (some (.ref fIN))) (t1N : PySem.W.typeIn K (.ref fIN) = some (.type "function"))
    (l1N : K.lookup fIN = some ⟨ocN, odN, .func (PySem.W.fnOf "__init__" "BadNumber.__init__" (defArgs sBN) (defBody sBN) (defScope sBN) .none .none dcN pmN anN cdN ctN), slN⟩) (c1N : PySem.W.codeIn K cdN "BadNumber.__init__" = true)
    (kN : PySem.W.keepIn K (.ref CN) = true) (eN : PySem.W.subIn K (.ref CN) (.type "BaseException") = some true) (tN : PySem.W.typeIn K (.ref CN) = some (.type "type")) (hN : PySem.W.hasDictIn K CN = true) (sN : PySem.W.subIn K (.ref CN) (.ref CN) = some true) (sEN : PySem.W.subIn K (.ref CN) (.ref CE) = some true)
    (clN : PySem.W.findIn K (.ref CN) "__class__" = some (some (.builtin "object.__class__"))) (moN : PySem.W.mroIn K CN (.type "object") = some true)
    (kPP : PySem.W.kitOne K (.ref CP) (.ref CP) = some true) (kPN : PySem.W.kitOne K (.ref CP) (.ref CN) = some false) (kNP : PySem.W.kitOne K (.ref CN) (.ref CP) = some false) (kNN : PySem.W.kitOne K (.ref CN) (.ref CN) = some true) :
    ∃ (fd : FuncData) (cs : List (Addr × Addr)) (sp : Sp), Tabs K h cs ∧ (∀ (s : Shared) (u : Value), BindsTo s fd ⟨[u], []⟩ [("_law_script", u)]) ∧
      (∀ (H : Hp) (a : Addr) (ns : List Int), ns.length ≤ 63 → (∀ p ∈ cs, H p.2 = some (.tbl #[])) → SqL K H a (ns.map V.int) → sp [.ref a] H (fun v _ => v = .bl true) E0) ∧
      ∀ base : Heap, K.In base → base.Ns mainGlobals mg → (∀ p ∈ cs, GxR.TabB base mg p.1 p.2) → (∃ mm, base.Ns sysModules mm) → LawOk P w K mg base fa fd "_law_script" sp := by
  have G := T.g
  have e := hfa.symm.trans (PySem.W.mg_of X G e25.a)
  cases e
  obtain ⟨hd0, tq0⟩ := PySem.W.tab_of T X rc0 tb0
  obtain ⟨hd1, tq1⟩ := PySem.W.tab_of T X rc1 tb1
  have B : BI mg := ⟨PySem.W.mg_none_of X G z_int, PySem.W.mg_none_of X G z_max, PySem.W.mg_none_of X G z_list, PySem.W.mg_none_of X G z_len, PySem.W.mg_none_of X G z_range, PySem.W.mg_none_of X G z_tuple, PySem.W.mg_none_of X G z_sorted, PySem.W.mg_none_of X G z_repr, PySem.W.mg_none_of X G z_isi, PySem.W.mg_none_of X G z_str, PySem.W.mg_none_of X G z_all, PySem.W.mg_none_of X G z_bool, PySem.W.mg_none_of X G z_sum⟩
  have D5 := e5.df (ps := ["thing"]) X G fun _ _ _ _ _ _ us hl => match us, hl with | [_], _ => rfl
  have D6 := e6.df (ps := ["thing"]) X G fun _ _ _ _ _ _ us hl => match us, hl with | [_], _ => rfl
  have D8 := e8.df (ps := ["thing"]) X G fun _ _ _ _ _ _ us hl => match us, hl with | [_], _ => rfl
  have D9 := e9.df (ps := ["thing"]) X G fun _ _ _ _ _ _ us hl => match us, hl with | [_], _ => rfl
  have D10 := e10.df (ps := ["base", "exponent"]) X G fun _ _ _ _ _ _ us hl => match us, hl with | [_, _], _ => rfl
  have D11 := e11.df (ps := ["poly", "number"]) X G fun _ _ _ _ _ _ us hl => match us, hl with | [_, _], _ => rfl
  have D13 := e13.df (ps := ["_law_script"]) X G fun _ _ _ _ _ _ us hl => match us, hl with | [_], _ => rfl
  have D14 := e14.df (ps := ["_law_deck_here", "_law_many"]) X G fun _ _ _ _ _ _ us hl => match us, hl with | [_, _], _ => rfl
  have D15 := e15.df (ps := ["_law_deck_here", "_law_some"]) X G fun _ _ _ _ _ _ us hl => match us, hl with | [_, _], _ => rfl
  have D16 := e16.df (ps := ["_law_thing"]) X G fun _ _ _ _ _ _ us hl => match us, hl with | [_], _ => rfl
  have D17 := e17.df (ps := ["_law_deck_here"]) X G fun _ _ _ _ _ _ us hl => match us, hl with | [_], _ => rfl
  have D18 := e18.df (ps := ["_law_deck_here", "_law_thing", "_law_deep"]) X G fun _ _ _ _ _ _ us hl => match us, hl with | [_, _, _], _ => rfl
  have D19 := e19.df (ps := ["_law_thing"]) X G fun _ _ _ _ _ _ us hl => match us, hl with | [_], _ => rfl
  have D20 := e20.df (ps := ["_law_m", "_law_many"]) X G fun _ _ _ _ _ _ us hl => match us, hl with | [_, _], _ => rfl
  have D21 := e21.df (ps := ["_law_poly", "_law_m"]) X G fun _ _ _ _ _ _ us hl => match us, hl with | [_, _], _ => rfl
  have D22 := e22.df (ps := ["_law_deck_here", "_law_most"]) X G fun _ _ _ _ _ _ us hl => match us, hl with | [_, _], _ => rfl
  have D23 := e23.df (ps := ["_law_deck_here", "_law_poly"]) X G fun _ _ _ _ _ _ us hl => match us, hl with | [_, _], _ => rfl
  have D24 := e24.df (ps := ["_law_call"]) X G fun _ _ _ _ _ _ us hl => match us, hl with | [_], _ => rfl
  have D25 := e25.df (ps := ["_law_script"]) X G fun _ _ _ _ _ _ us hl => match us, hl with | [_], _ => rfl
  have DT9 : DfT K mg "is_poly" sPoly ["thing"] f9 _ c0 := ⟨D9, _, _, _, _, _, _, _, _, rfl, e9.l, e9.c⟩
  have DT25 : DfT K mg "law" sLaw ["_law_script"] _ _ c1 := ⟨D25, _, _, _, _, _, _, _, _, rfl, e25.l, e25.c⟩
  have btP : PySem.BadPolyX.BadPolyTxt K mg CP fIP :=
    { gC := PySem.W.mg_of X G aP, cls := ⟨nmP, qP, NP, bsP, _, snP, subP, abP, colP, ddP, mP0, mP1, mP2, mP3, mP5, xP, rfl⟩, sa := saP, ga := gaP, gg := ggP, noN := nbP, iC := a1P, tC := t1P, kC := kP, exC := eP, tyC := tP, hdC := hP, te := PySem.W.exm_ref eP hP tP sP,
      fn := ⟨ocP, odP, dcP, pmP, anP, cdP, ctP, slP, _, _, _, _, _, _, l1P, c1P⟩ }
  have btN : PySem.BadNumberX.BadNumberTxt K mg CN fIN :=
    { gC := PySem.W.mg_of X G aN, cls := ⟨nmN, qN, NN, bsN, _, snN, subN, abN, colN, ddN, mN0, mN1, mN2, mN3, mN5, xN, rfl⟩, sa := saN, ga := gaN, gg := ggN, noN := nbN, iC := a1N, tC := t1N, kC := kN, exC := eN, tyC := tN, hdC := hN, te := PySem.W.exm_ref eN hN tN sN,
      fn := ⟨ocN, odN, dcN, pmN, anN, cdN, ctN, slN, _, _, _, _, _, _, l1N, c1N⟩ }
  have XFx : XF K mg CP CN CE fIP fIN := ⟨btP, btN, PySem.W.mg_of X G aE, ⟨gaP, ggP, eP, hP, clP, spB, tkB, moP⟩, ⟨gaN, ggN, eN, hN, clN, spB, tkB, moN⟩, PySem.W.exm_ref eE hE tE sEP, PySem.W.exm_ref eE hE tE sEN, kPP, kPN, kNP, kNN⟩
  let AA : Nat → Addr := fun i => match i with
    | 5 => f5
    | 6 => f6
    | 8 => f8
    | 9 => f9
    | 10 => f10
    | 11 => f11
    | 13 => f13
    | 14 => f14
    | 15 => f15
    | 16 => f16
    | 17 => f17
    | 18 => f18
    | 19 => f19
    | 20 => f20
    | 21 => f21
    | 22 => f22
    | 23 => f23
    | 24 => f24
    | _ => 0
  let DD : Nat → FuncData := fun i => match i with
    | 5 => PySem.W.fnOf "is_plain_int" "is_plain_int" (defArgs sPlain) (defBody sPlain) (defScope sPlain) .none kV5 dc5 pm5 an5 cd5 ct5
    | 6 => PySem.W.fnOf "is_natural" "is_natural" (defArgs sNat) (defBody sNat) (defScope sNat) .none kV6 dc6 pm6 an6 cd6 ct6
    | 8 => PySem.W.fnOf "is_pair" "is_pair" (defArgs sPair) (defBody sPair) (defScope sPair) .none kV8 dc8 pm8 an8 cd8 ct8
    | 9 => PySem.W.fnOf "is_poly" "is_poly" (defArgs sPoly) (defBody sPoly) (defScope sPoly) .none kV9 dc9 pm9 an9 (.ref c0) ct9
    | 10 => PySem.W.fnOf "power" "power" (defArgs sPower) (defBody sPower) (defScope sPower) .none kV10 dc10 pm10 an10 cd10 ct10
    | 11 => PySem.W.fnOf "value_at" "value_at" (defArgs sVal) (defBody sVal) (defScope sVal) .none kV11 dc11 pm11 an11 cd11 ct11
    | 13 => PySem.W.fnOf "_law_deck" "_law_deck" (defArgs sDeck) (defBody sDeck) (defScope sDeck) .none kV13 dc13 pm13 an13 cd13 ct13
    | 14 => PySem.W.fnOf "_law_draw" "_law_draw" (defArgs sDraw) (defBody sDraw) (defScope sDraw) .none kV14 dc14 pm14 an14 cd14 ct14
    | 15 => PySem.W.fnOf "_law_pick" "_law_pick" (defArgs sPick) (defBody sPick) (defScope sPick) .none kV15 dc15 pm15 an15 cd15 ct15
    | 16 => PySem.W.fnOf "_law_is_integer" "_law_is_integer" (defArgs sLInt) (defBody sLInt) (defScope sLInt) .none kV16 dc16 pm16 an16 cd16 ct16
    | 17 => PySem.W.fnOf "_law_odd" "_law_odd" (defArgs sOdd) (defBody sOdd) (defScope sOdd) .none kV17 dc17 pm17 an17 cd17 ct17
    | 18 => PySem.W.fnOf "_law_bent" "_law_bent" (defArgs sBent) (defBody sBent) (defScope sBent) .none kV18 dc18 pm18 an18 cd18 ct18
    | 19 => PySem.W.fnOf "_law_is_poly" "_law_is_poly" (defArgs sLIsPoly) (defBody sLIsPoly) (defScope sLIsPoly) .none kV19 dc19 pm19 an19 cd19 ct19
    | 20 => PySem.W.fnOf "_law_power" "_law_power" (defArgs sLPower) (defBody sLPower) (defScope sLPower) .none kV20 dc20 pm20 an20 cd20 ct20
    | 21 => PySem.W.fnOf "_law_value_at" "_law_value_at" (defArgs sLVal) (defBody sLVal) (defScope sLVal) .none kV21 dc21 pm21 an21 cd21 ct21
    | 22 => PySem.W.fnOf "_law_drawn_poly" "_law_drawn_poly" (defArgs sDPoly) (defBody sDPoly) (defScope sDPoly) .none kV22 dc22 pm22 an22 cd22 ct22
    | 23 => PySem.W.fnOf "_law_near_poly" "_law_near_poly" (defArgs sNear) (defBody sNear) (defScope sNear) .none kV23 dc23 pm23 an23 cd23 ct23
    | 24 => PySem.W.fnOf "_law_tried" "_law_tried" (defArgs sTried) (defBody sTried) (defScope sTried) .none kV24 dc24 pm24 an24 cd24 ct24
    | _ => PySem.W.fnOf "law" "law" (defArgs sLaw) (defBody sLaw) (defScope sLaw) .none kV25 dc25 pm25 an25 (.ref c1) ct25
  have F1 : PB K mg AA DD := ⟨B, D5, D6, D8, D10⟩
  have F2 : PP K mg AA DD c0 := ⟨F1, DT9⟩
  have F3 : PV K mg AA DD c0 := ⟨F2, D11⟩
  have L1 : LR K mg AA DD := ⟨B, D14, D15, D16, D17, D20⟩
  have L2 : LB K mg AA DD := ⟨L1, D18⟩
  have L3 : LP K mg AA DD := ⟨L2, D19⟩
  have L4 : LV K mg AA DD := ⟨L3, D21⟩
  have L5 : LD K mg AA DD := ⟨L4, D22⟩
  have L6 : LN K mg AA DD := ⟨L5, D23⟩
  have kp : KBinds K (DD 9) ["thing"] ["thing"] gRv gRv := Ey.Fun.rvs D9.F (by simp) fun _ _ _ _ _ _ us hl => match us, hl with | [_], _ => rfl
  have kv : KBinds K (DD 11) ["poly", "number"] ["number", "poly"] gRv gRv := Ey.Fun.rvs D11.F (by simp) fun _ _ _ _ _ _ us hl => match us, hl with | [_, _], _ => rfl
  have L : LW K mg AA DD c0 CP CN CE fIP fIN := { toLN := L6, deck := D13, tried := D24, P := F3, kPoly := kp, kVal := kv, X := XFx }
  have cases4 : ∀ {R : Addr × Addr → Prop}, R (c0, P0) → R (c1, P1) → ∀ p ∈ [(c0, P0), (c1, P1)], R p := by
    intro R h0 h1 p hp
    simp only [List.mem_cons, List.not_mem_nil, or_false] at hp
    rcases hp with rfl | rfl
    · exact h0
    · exact h1
  refine ⟨_, [(c0, P0), (c1, P1)], spLaw K [P0] P1 "", ⟨cases4 tq0 tq1, cases4 nT0 nT1, cases4 hd0 hd1⟩, fun s u => .of_eq rfl, fun H a ns hn hT hS => ?_, fun base KB MB TB hs => ok_law DT25 L (TB (c0, P0) (by simp)) ⟨(TB (c1, P1) (by simp)).code, (TB (c1, P1) (by simp)).bm, (TB (c1, P1) (by simp)).gP⟩ hs⟩
  refine ⟨a, ns, rfl, hS, hn, fun P hP => ?_, hT (c1, P1) (by simp), hPL, fun _ => rfl⟩
  rw [List.mem_singleton.mp hP]
  exact ⟨#[], hT (c0, P0) (by simp), trivial⟩
end Ey
open PySem PySem.W PyProof.Rows
set_option maxRecDepth 100000 in
set_option maxHeartbeats 0 in
theorem PySem.Challenge.cw_eyesonly_k26_polynomials_and_their_value_holds : PySem.Challenge.rw_eyesonly_k26_polynomials_and_their_value.Holds := by
  w_on; o_law; k_head; (case hw => w_witness2)
  k_fill
  refine Ey.walk_law (l := PySem.Challenge.rw_eyesonly_k26_polynomials_and_their_value) (x := "_law_script") (by decide +kernel) rfl (by decide) rfl (fun w h Y => PySem.W.km_in_of Y) ?F
  case F =>
    intro w mg fa h lo mean mb KX T hmg
    refine' Ey.all_mk (w := w) KX T hmg ⟨?a5, ?l5, ?c5, ?k5⟩ ⟨?a6, ?l6, ?c6, ?k6⟩ ⟨?a8, ?l8, ?c8, ?k8⟩ ⟨?a9, ?l9, ?c9, ?k9⟩ ⟨?a10, ?l10, ?c10, ?k10⟩ ⟨?a11, ?l11, ?c11, ?k11⟩ ⟨?a13, ?l13, ?c13, ?k13⟩ ⟨?a14, ?l14, ?c14, ?k14⟩ ⟨?a15, ?l15, ?c15, ?k15⟩ ⟨?a16, ?l16, ?c16, ?k16⟩ ⟨?a17, ?l17, ?c17, ?k17⟩ ⟨?a18, ?l18, ?c18, ?k18⟩ ⟨?a19, ?l19, ?c19, ?k19⟩ ⟨?a20, ?l20, ?c20, ?k20⟩ ⟨?a21, ?l21, ?c21, ?k21⟩ ⟨?a22, ?l22, ?c22, ?k22⟩ ⟨?a23, ?l23, ?c23, ?k23⟩ ⟨?a24, ?l24, ?c24, ?k24⟩ ⟨?a25, ?l25, ?c25, ?k25⟩ ?zint ?zmax ?zlist ?zlen ?zrange ?ztuple ?zsorted ?zrepr ?zisi ?zstr ?zall ?zbool ?zsum ?tb0 ?rc0 ?nT0 ?tb1 ?rc1 ?nT1 ?hPL ?oaE ?oeE ?otE ?ohE ?ospB ?otkB ?oaP ?oxP ?osaP ?ogaP ?oggP ?onbP ?oa1P ?ot1P ?ol1P ?oc1P ?okP ?oeP ?otP ?ohP ?osP ?osEP ?oclP ?omoP ?oaN ?oxN ?osaN ?ogaN ?oggN ?onbN ?oa1N ?ot1N ?ol1N ?oc1N ?okN ?oeN ?otN ?ohN ?osN ?osEN ?oclN ?omoN ?okPP ?okPN ?okNP ?okNN
    (case a5 => k_is); (case l5 => k_is); (case c5 => k_is); (case k5 => k_is)
    (case a6 => k_is); (case l6 => k_is); (case c6 => k_is); (case k6 => k_is)
    (case a8 => k_is); (case l8 => k_is); (case c8 => k_is); (case k8 => k_is)
    (case a9 => k_is); (case l9 => k_is); (case c9 => k_is); (case k9 => k_is)
    (case a10 => k_is); (case l10 => k_is); (case c10 => k_is); (case k10 => k_is)
    (case a11 => k_is); (case l11 => k_is); (case c11 => k_is); (case k11 => k_is)
    (case a13 => k_is); (case l13 => k_is); (case c13 => k_is); (case k13 => k_is)
    (case a14 => k_is); (case l14 => k_is); (case c14 => k_is); (case k14 => k_is)
    (case a15 => k_is); (case l15 => k_is); (case c15 => k_is); (case k15 => k_is)
    (case a16 => k_is); (case l16 => k_is); (case c16 => k_is); (case k16 => k_is)
    (case a17 => k_is); (case l17 => k_is); (case c17 => k_is); (case k17 => k_is)
    (case a18 => k_is); (case l18 => k_is); (case c18 => k_is); (case k18 => k_is)
    (case a19 => k_is); (case l19 => k_is); (case c19 => k_is); (case k19 => k_is)
    (case a20 => k_is); (case l20 => k_is); (case c20 => k_is); (case k20 => k_is)
    (case a21 => k_is); (case l21 => k_is); (case c21 => k_is); (case k21 => k_is)
    (case a22 => k_is); (case l22 => k_is); (case c22 => k_is); (case k22 => k_is)
    (case a23 => k_is); (case l23 => k_is); (case c23 => k_is); (case k23 => k_is)
    (case a24 => k_is); (case l24 => k_is); (case c24 => k_is); (case k24 => k_is)
    (case a25 => k_is); (case l25 => k_is); (case c25 => k_is); (case k25 => k_is)
    (case zint => k_is); (case zmax => k_is); (case zlist => k_is); (case zlen => k_is); (case zrange => k_is); (case ztuple => k_is); (case zsorted => k_is); (case zrepr => k_is); (case zisi => k_is); (case zstr => k_is); (case zall => k_is); (case zbool => k_is); (case zsum => k_is)
    (case tb0 => rfl)
    (case rc0 => rfl)
    (case nT0 => rfl)
    (case tb1 => rfl)
    (case rc1 => rfl)
    (case nT1 => rfl)
    (case hPL => decide)
    (case oaE => k_is)
    (case oaP => k_is)
    (case oxP => k_is)
    (case oaN => k_is)
    (case oxN => k_is)
    (case oeE => k_is); (case otE => k_is); (case ohE => k_is)
    (case ospB => first | k_is | rfl | decide +kernel); (case otkB => first | k_is | rfl | decide +kernel)
    (case osaP => k_is); (case ogaP => k_is); (case oggP => k_is); (case onbP => k_is); (case oa1P => k_is); (case ot1P => k_is); (case ol1P => k_is); (case oc1P => k_is); (case okP => k_is); (case oeP => k_is); (case otP => k_is); (case ohP => k_is)
    (case osP => first | rfl | k_is)
    (case osEP => first | rfl | k_is)
    (case oclP => first | k_is | rfl | decide +kernel); (case omoP => first | k_is | rfl | decide +kernel)
    (case osaN => k_is); (case ogaN => k_is); (case oggN => k_is); (case onbN => k_is); (case oa1N => k_is); (case ot1N => k_is); (case ol1N => k_is); (case oc1N => k_is); (case okN => k_is); (case oeN => k_is); (case otN => k_is); (case ohN => k_is)
    (case osN => first | rfl | k_is)
    (case osEN => first | rfl | k_is)
    (case oclN => first | k_is | rfl | decide +kernel); (case omoN => first | k_is | rfl | decide +kernel)
    (case okPP => first | k_is | rfl | decide +kernel); (case okPN => first | k_is | rfl | decide +kernel); (case okNP => first | k_is | rfl | decide +kernel); (case okNN => first | k_is | rfl | decide +kernel)
