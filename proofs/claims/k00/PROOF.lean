import PyProof.Rows.All
import Wide.All
import OpenK.AllK
import Wide.FinOn
import PyProof.ReprRoads
import KE.KSortAny
import PyProof.Rows.SortShellAny
import HandS.ForMost
import HandS.IsInst
import HandS.AnyAll
import HandS.EndTab
import HandS.HeadWalk
import HandS.WrittenGet
import HandS.GenList
import PyProof.EqKinds
import PyProof.NeKinds
import PyProof.NeData
import PyProof.TupleOfGen
import HandS.Conv
import HandS.StrMore
import PyProof.RowDictHeap
import PyProof.Rows.StrDigitsNeg
import PyProof.Rows.StrIntSpec
import KE.KEqNest
import PyProof.Rows.StrRev
import HandS.TupAny
import HandS.Comp
import HandS.Style
import HandS.Exc
import HandS.TryOnly
import KE.KIsAll
import KE.KTryMore
import HandS.ExcIs
import HandS.TryMany
import HandS.Iter
import KE.GoesEnum
import HandS.HotCalls
import HandS.WordsExc
import HandS.ExcOwn
import HandS.More
import HandS.Walk
import PySem.Challenge.RW_eyesonly_k00_errors_by_position_and_by_n
set_option Elab.async false
set_option linter.all false
set_option maxRecDepth 100000
set_option maxHeartbeats 4000000
namespace Ey
open PySem PySem.Spec PyProof.Rows L2
/-! ### repr of data -/
mutual
theorem dp_plain {K : PySem.W.Frag} {H : Hp} : ∀ (d : PyData) (v : V), Dp K H v d → d.hasDict = false
  | .none, _, _ => rfl
  | .bool _, _, _ => rfl
  | .int _, _, _ => rfl
  | .str _, _, _ => rfl
  | .list ds, _, h => by
    cases h with
    | lst _ q => exact dp_plains ds _ q
  | .tuple ds, _, h => by
    cases h with
    | tup _ q => exact dp_plains ds _ q
  | .dict _, _, h => by cases h
theorem dp_plains {K : PySem.W.Frag} {H : Hp} : ∀ (ds : List PyData) (vs : List V), DpAll K H vs ds → PyData.hasDictAll ds = false
  | [], _, _ => rfl
  | d :: r, _, h => by
    cases h with
    | cons a b =>
      show (d.hasDict || PyData.hasDictAll r) = false
      rw [dp_plain d _ a, dp_plains r _ b]
      rfl
end
def rRepr (K : PySem.W.Frag) : List V → Hp → VK → Prop := fun xs H Q =>
  ∃ v d, xs = [v] ∧ Dp K H v d ∧ d.showable = true ∧ d.depth ≤ 100 ∧ d.shown.length ≤ sizeLine ∧ Q (.str d.shown) H
section
variable {X : Cx} {k : Nat}
theorem cr_repr (hg : X.A.guards = some []) (hr : Room k X.A) : CallR X (.builtin "repr") (rRepr X.K) := by
  intro pins s σ H xs us Q I r h
  obtain ⟨v, d, rfl, hd, hs, hp, hz, q⟩ := h
  obtain ⟨u, rfl, ru⟩ := vals1 r
  obtain ⟨as, rd⟩ := Dp.reads I d v u hd ru
  have nd := dp_plain d v hd
  have room : X.A.units + (d.depth + 1) < cLine := by
    have := hr.un
    omega
  have fin : ∀ (h' : Heap) (tk : Nat) (t : Tok), (∀ b o, s.heap.get? b = some o → h'.get? b = some o) → EP X pins σ Q (.str d.shown t) { s with heap := h', toks := tk } :=
    fun h' tk t hk => ⟨.str d.shown, H, I.kept hk, ⟨t, rfl⟩, q⟩
  cases rd with
  | none => exact PySem.P.repr_of_none (fin s.heap _ _ fun _ _ e => e)
  | bool b => exact PySem.P.repr_of_bool (fin s.heap _ _ fun _ _ e => e)
  | int i t => exact PySem.P.repr_of_int (of_decide_eq_true hs) (fin s.heap _ _ fun _ _ e => e)
  | str x t => exact PySem.P.repr_of_str (fin s.heap _ _ fun _ _ e => e) hz
  | list a b c e => exact repr_of_reads' (.list a b c e) hs (PyData.noDict_hsm nd) hg room (fun _ _ e => e) (fun h' u tk hk => fin h' tk u hk) hz
  | tuple a b c e => exact repr_of_reads' (.tuple a b c e) hs (PyData.noDict_hsm nd) hg room (fun _ _ e => e) (fun h' u tk hk => fin h' tk u hk) hz
  | dict a b c e f => cases nd
/-! ### sorted of texts, at any length -/
def rSortT (K : PySem.W.Frag) : List V → Hp → VK → Prop := fun vs H Q => ∃ (a : Addr) (xs : List Str), vs = [V.ref a] ∧ SqL K H a (xs.map V.str) ∧ xs.length ≤ sizeLine ∧
  ∀ (ys : List Str) (p : Addr), ys.Perm xs → sortedS ys = true → H p = none → Q (.ref p) (upd H p (.lst (ys.map V.str)))
theorem cr_sortT : CallR X (.builtin "sorted") (rSortT X.K) := by
  intro pins s σ H vs us Q I r h
  obtain ⟨a, xs, rfl, hs, hl, q⟩ := h
  obtain ⟨its, rv, pl, _⟩ := I.list hs
  rw [Vals.ref1 r]
  have n0 := rv.length
  rw [List.length_map] at n0
  refine PyProof.Rows.sorted_strsAny pl.isList rv.strs (by rw [← n0]; exact hl) fun out ys h1 h2 h3 => ?_
  obtain ⟨ep, at'⟩ := PyProof.Rows.sortedAll_at s.heap its out
  have n1 : (ys.map V.str).length ≤ sizeLine := by rw [List.length_map, h2.length_eq]; exact hl
  refine ⟨.ref _, upd H (s.heap.objs.size + 1) (.lst (ys.map V.str)), ?_, rfl, q ys _ h2 h3 (I.hok.fresh (Nat.le_succ _))⟩
  exact I.laid (t' := s.toks) (fun _ _ => PyProof.Rows.sortedAll_old) (Nat.le_succ _) ⟨n1, out.toList, ep, vals_of_strs h1, at'⟩
end
end Ey
set_option maxHeartbeats 2000000
namespace Ey
open PySem PySem.Spec PyProof.Rows L2 GxR
/-! ### all(test of sign for sign in text), where the test reads a name of the module -/
/-- the test, in the generator's own frame: the module stands as it stood -/
def EltG (X : Cx) (sc : Scope) (x : Str) (elt : Expr) (pb : Nat → Bool) : Prop :=
  ∀ (ge : Env) (B : Around) (F' : Value → Shared → Prop) (c : Nat) (t : Tok) (z : Shared) (m : Str → Option Value), ge.scope = sc → ge.globals = X.env.globals →
    (∀ b o, X.base.get? b = some o → z.heap.get? b = some o) → z.heap.Ns ge.locals m → m x = some (.str ⟨#[c]⟩ t) →
    wpAny (model X.prog X.w) B (eval elt ge) (fun y z' => y = .bool (pb c) ∧ Keeps z z') F' z
section
variable {X : Cx} {pins : List (Addr × Obj)} {σ : L2.St} {H : Hp} {s : Shared}
theorem gen_glob {c P : Addr} {elt iter : Expr} {x : Str} {px gp : Pos} {sc : Scope} {pb : Nat → Bool} {te : TE} {k : Nat} {Q' : Value → Shared → Prop} {R : Str → Hp → Prop}
    (hr : Room k X.A) (TB : TabB X.base X.mg c P) (hco : X.env.code = .ref c) (S : GenS X.env sc x) (hi : PE X iter te) (hel : EltG X sc x elt pb)
    (hs : ∀ v, genFold iter X.env v = pure v) (I : Inv X pins σ H s) (h : te σ H fun v H1 => ∃ a : Str, v = .str a ∧ TabG H1 P ∧ R a H1)
    (hQ : ∀ a H1 g s5, R a H1 → Ready X pins σ H1 P a pb g s5 → Q' (.ref g) s5) :
    wpAny (model X.prog X.w) X.A (eval (.GeneratorExp elt [⟨.Name x px, iter, [], 0⟩] sc gp) X.env) Q' X.xe s := by
  refine wpAny_GeneratorExp_walksQ hr.hd S.co (closure_ok S.free) S.cell S.dot S.loc S.kind (Nat.lt_of_le_of_lt (by omega) hr.dp) ?_ hs
  refine thn (hi.run pins s σ H _ I h) fun xv sA ⟨v, H1, J, rv, q⟩ => ?_
  obtain ⟨a, rfl, ⟨ps, tP, tok⟩, q⟩ := q
  obtain ⟨t, rfl⟩ := _root_.id rv
  refine wpAny_pyIter_str fun ob St W start => ?_
  have gP : sA.heap.get? P = some { cls := .none, data := .fields ps } := J.hok P _ tP
  have ltP : P < sA.heap.objs.size := Heap.lt_size gP
  have gP2 : (sA.heap.push ob).get? P = some { cls := .none, data := .fields ps } := Heap.get?_push_of_some _ gP
  have head : PySem.W.CodeHd (sA.heap.push ob) c P := TB.code.keeps fun b u e => Heap.get?_push_of_some _ (J.bk b u e)
  have noL : (sA.heap.push ob).NoLimit := J.nolimit.push ob
  have go : ∀ (code : Value) (hN : Heap) (tk : Nat) (qs : Array Value), Heap.ExtBut P (sA.heap.push ob) hN → (sA.heap.push ob).objs.size ≤ hN.objs.size → hN.get? P = some { cls := .none, data := .fields qs } → (∃ more, qs = ps ++ more) → TriplesOk qs.toList →
      wpAny (model X.prog X.w) X.A (builtinsFor X.env.globals X.env.builtins) (fun bi sB =>
        ∃ Ia fp wr n₀ Pf St₀ pz F, Value.ref sA.heap.objs.size = .ref Ia ∧ (∀ B : Around, B.handled = none → Walks X.prog X.w B Ia fp wr n₀ Pf St₀) ∧ St₀ 0 sB.heap ∧ (∀ b ∈ fp, b < sB.heap.objs.size) ∧ sB.heap.NoLimit ∧ cStatics ∉ wr ∧
          (∀ hf : Heap, (∀ b o, sB.heap.get? b = some o → hf.get? b = some o) →
            QuietGen X.prog X.w (genEnv sc (cloFrom X.env.cells sc.names []) sB.heap.objs.size code bi X.env) x [] elt (List.range sB.heap.objs.size) wr Pf pz F hf) ∧
          (∀ g hG tg gs, gs.bare = true → sB.heap.objs.size < g → hG.objs.size = g + 1 → (∀ b o, sB.heap.get? b = some o → hG.get? b = some o) →
            WalksS X.prog X.w X.A.in4 g (g :: sB.heap.objs.size :: List.range sB.heap.objs.size) (sB.heap.objs.size :: wr) (GenOnlyQ sB.gens.size) (passing pz n₀ 0).length
              (fun j y => ∃ i, (passing pz n₀ 0)[j]? = some i ∧ F i y) (GenAt X.prog X.w X.A.in4 g sB.gens.size sB.heap.objs.size (List.range sB.heap.objs.size) wr pz n₀ F) →
            GenAt X.prog X.w X.A.in4 g sB.gens.size sB.heap.objs.size (List.range sB.heap.objs.size) wr pz n₀ F 0 { sB with gens := sB.gens.push gs, toks := tg, heap := hG } →
            Q' (.ref g) { sB with gens := sB.gens.push gs, toks := tg, heap := hG })) X.xe { sA with heap := hN, toks := tk } := by
    intro code hN tk qs ext hsz gPN more okN
    obtain ⟨bm, obm, e1, e2, e3, e4, e5, e6, e7, e8⟩ := TB.bm
    have ncP : cStatics ≠ P := fun e => by
      obtain ⟨_, ns, _⟩ := J.nolimit
      obtain ⟨o', es, ep, g', d', _⟩ := ns
      rw [e, gP] at g'
      cases g'
      cases d'
    have ltC : cStatics < sA.heap.objs.size := let ⟨_, ns, _⟩ := J.nolimit; ns.lt
    have szA : (sA.heap.push ob).objs.size = sA.heap.objs.size + 1 := Heap.size_push ..
    have stay : ∀ b u, b ≠ P → sA.heap.get? b = some u → hN.get? b = some u := fun b u nb e => ext b u nb (Heap.get?_push_of_some _ e)
    have old : ∀ b u, X.base.get? b = some u → hN.get? b = some u ∧ b < sA.heap.objs.size := fun b u e => by
      obtain ⟨e1, e2⟩ := J.bs b u e
      refine ⟨stay b u (fun z => ?_) e1, Heap.lt_size e1⟩
      rw [z, tP] at e2
      cases e2
    refine wpAny_builtinsFor (m := X.mg) (by rw [J.ok.glob]; exact ((J.mod.glob.keeps J.bk).push ob).extBut ext TB.gP) e1 e2 (stay _ _ e4 (J.bk _ _ e5)) e6 e7 e8 ?_
    refine ⟨sA.heap.objs.size, [sA.heap.objs.size], [sA.heap.objs.size], a.cps.size, SignAt a, St, (fun _ => true), (fun i y => ∃ cc, a.cps[i]? = some cc ∧ y = .bool (pb cc)), rfl, W, ?_, ?_, noL.extBut ext ncP, ?_, ?_, ?_⟩
    · refine (W X.A hr.hd).frame _ _ _ start fun b hb u e => ext b u (fun z => ?_) e
      have hb' : b = sA.heap.objs.size := List.mem_singleton.mp hb
      exact Nat.ne_of_lt ltP (z.symm.trans hb')
    · intro b hb
      have hb' : b = sA.heap.objs.size := List.mem_singleton.mp hb
      rw [hb']
      show sA.heap.objs.size < hN.objs.size
      omega
    · intro z
      have z' : cStatics = sA.heap.objs.size := List.mem_singleton.mp z
      exact Nat.ne_of_lt ltC z'
    · intro hf sub
      refine ⟨fun B F' i v z m hB hv hn hm hk => ?_, fun B F' i v z m hB hv hp hn hm hk => ?_⟩
      · simp only [List.forIn_nil]
        exact wpAny_pure ⟨rfl, keeps_refl _⟩
      · obtain ⟨cc, u, hcc, rfl⟩ := hv
        refine wpAny_mono (hel _ B F' cc u z m rfl rfl (fun b o e => ?_) hn hm) (fun y z' r => ⟨⟨cc, hcc, r.1⟩, r.2⟩) fun _ _ e => e
        obtain ⟨e1, e2⟩ := old b o e
        refine hk b (List.mem_range.mpr (Heap.lt_size e1)) (fun w => ?_) o (sub b o e1)
        have w' : b = sA.heap.objs.size := List.mem_singleton.mp w
        exact Nat.ne_of_lt e2 w'
    · intro g hG tg gs bare ltg szg keepg Wg atg
      simp only [GxR.passing_true, List.length_range] at Wg
      refine hQ a H1 g _ q ⟨_, _, _, _, _, Wg.in4_1, atg, ?_, fun s' mv => ?_⟩
      · intro j y sj Qj Ej hy hj
        obtain ⟨i, ij, cc, hcc, rfl⟩ := hy
        obtain ⟨lj, ej⟩ := List.getElem?_eq_some_iff.mp ij
        rw [List.getElem_range] at ej
        subst ej
        have sign : a.cps.toList[j]? = some cc := (Array.getElem?_toList).trans hcc
        have hj' : Qj (trF pb a.cps.toList j) sj := hj
        rw [trF_some sign] at hj'
        exact wpAny_truthy_bool hj'
      · obtain ⟨mo, em⟩ := more
        have nw : ∀ b u, sA.heap.get? b = some u → b ∉ hN.objs.size :: [sA.heap.objs.size] := fun b u e z => by
          have l := Heap.lt_size e
          rcases List.mem_cons.mp z with z | z
          · rw [z] at l
            have l2 : (hN.objs.size : Nat) < sA.heap.objs.size := l
            omega
          · exact Nat.ne_of_lt l (List.mem_singleton.mp z)
        have L := inv_tab (more := mo) (h' := s'.heap) (g' := s'.gens) (d' := s'.drawn) (t' := s'.toks) J tP (fun b u nb e => mv.heap b u (nw b u e) (keepg b u (stay b u nb e)))
          (by rw [← em]; exact mv.heap P _ (nw P _ gP) (keepg P _ gPN)) (AllBare.movedS (J.bare.push bare) mv)
        rw [sh_eta sA s' mv.os] at L
        refine ⟨upd H1 P (.tbl (ps ++ mo)), ⟨⟨ps ++ mo, upd_same, ?_⟩, fun b nb => upd_ne nb⟩, L⟩
        rw [← em]
        exact okN
  refine ⟨noL, ?_⟩
  cases am : codeAmong gp ps.toList with
  | none =>
    refine wpAny_genexprCodeX hco (head.code gP2 tok) (head.tab gP2) am fun c' hN tk ext hge hlt hc' _ tab' _ => ?_
    obtain ⟨o1, vs, f1, tf, fl, tg, inF, tx, tt, op, _, _, _, _, _, _, _, _, _, tr, _⟩ := hc'
    exact go _ hN tk _ ext (Nat.le_trans hge (Nat.le_of_lt hlt)) tab'.2 ⟨_, rfl⟩ tr
  | some cv =>
    refine wpAny_genexprCode_hit hco (head.code gP2 tok) am ?_
    exact go cv (sA.heap.push ob) sA.toks ps (Heap.ExtBut.refl _ _) (Nat.le_refl _) gP2 ⟨#[], by simp⟩ tok
theorem pe_allG {c P : Addr} {elt iter : Expr} {x : Str} {px p pos gp : Pos} {sc : Scope} {pb : Nat → Bool} {te : TE} {k : Nat}
    (hr : Room k X.A) (hg : Gl X "all") (hm : X.mg "all" = none) (hb : bootBuiltins "all" = some (.builtin "all")) (TB : TabB X.base X.mg c P) (hco : X.env.code = .ref c) (S : GenS X.env sc x) (hi : PE X iter te) (hel : EltG X sc x elt pb)
    (hs : ∀ v, genFold iter X.env v = pure v)
    (he : starEach [.GeneratorExp elt [⟨.Name x px, iter, [], 0⟩] sc gp] X.env = (false, eval (.GeneratorExp elt [⟨.Name x px, iter, [], 0⟩] sc gp) X.env) :: starEach [] X.env := by rfl) :
    PE X (.Call (.Name "all" p) [.GeneratorExp elt [⟨.Name x px, iter, [], 0⟩] sc gp] [] pos) (tAllS P pb te) := by
  refine ⟨fun pins s σ H Q I h => wpAny_Call_Name_kw (ld_blt I hg hm hb ?_)⟩
  refine PyProof.Rows.callWith_builtin1 ?_ he (by rfl)
  rw [he]
  show wpAny _ _ (spliced ((false, eval (.GeneratorExp elt [⟨.Name x px, iter, [], 0⟩] sc gp) X.env) :: backTo pos (starEach [] X.env))) _ _ s
  refine Calls.spliced_cons (gen_glob (R := fun a H1 => ∀ H2, Tabbed P H1 H2 → Q (.bl (a.cps.toList.all pb)) H2) hr TB hco S hi hel hs I h fun a H1 g s5 hR rdy => ?_)
  obtain ⟨fp, wr, G, F, St, W, st0, tru, inv⟩ := rdy
  refine Calls.spliced_nil (call_all_walkS (W.self 0 _ _ _ st0 ⟨g, fp, wr, G, _, F, St, _, rfl, W, st0, tru, fun s' mv => ?_⟩))
  obtain ⟨H2, hT, L⟩ := inv s' mv
  refine ⟨.bl _, H2, L, rfl, ?_⟩
  rw [all_signs a pb]
  exact hR H2 hT
/-- sign in NAME, NAME a text of the module -/
theorem elt_inG {sc : Scope} {x y : Str} {T : Str} {p1 p2 p3 : Pos} {tk : Tok} (hk : sc.kind = .function) (hl : sc.names.lookup x = some .local) (hy : sc.names.lookup y = some .globalImplicit) (hG : X.env.globals = mainGlobals) (M : X.base.Ns mainGlobals X.mg) (hm : X.mg y = some (.str T tk))
    (hd : (x == ("__debug__" : Str)) = false := by decide) (hd2 : (y == ("__debug__" : Str)) = false := by decide) :
    EltG X sc x (.Compare (.Name x p1) [.In] [.Name y p2] p3) (fun c => decide (c ∈ T.cps.toList)) := by
  intro ge B F' c t z m h1 h2 h3 h4 h5
  have k1 : ge.scope.kind = .function := by rw [h1]; exact hk
  refine wpAny_Compare1 (wpAny_Name (wpAny_loadName_local k1 (show ge.scope.names.lookup x = some .local by rw [h1]; exact hl) h4 h5 ?_) hd)
  refine Calls.Name_function_global k1 (show ge.scope.names.lookup y = some .globalImplicit by rw [h1]; exact hy) (Calls.loadGlobal_global (by rw [h2, hG]; exact M.keeps h3) hm ?_) hd2
  refine PyProof.Rows.in_str ?_
  refine ⟨congrArg Value.bool ?_, keeps_refl _⟩
  exact PySem.StrLaws.found_one T c
end
end Ey
set_option maxHeartbeats 2000000
namespace Ey
open PySem PySem.Spec PyProof.Rows L2 GxR
/-! ### all(e for x in it), e any expression that HandS can tell -/
/-- the generator's own frame -/
def gxOf (X : Cx) (A : Around) (s : Shared) (H : Hp) (ge : Env) (x : Str) (fp : List Addr) : Cx :=
  { X with A := A, N := [x], s_0 := s, H_0 := H, env := ge, outer := X.stack, stack := ge :: X.stack, ex := fp, fn := fun _ => false, calm := true, pn := [], xe := fun _ _ => False }
abbrev gcode (elt iter : Expr) (x : Str) (px : Pos) (sc : Scope) (gp : Pos) (it : Addr) (ge : Env) : Code := .compLoop (.GeneratorExp elt [⟨.Name x px, iter, [], 0⟩] sc gp) 0 (.ref it) .none ge
/-- the generator stands at turn i -/
structure GIn (Xg : Cx) (fp : List Addr) (tn : Nat → Heap → Prop) (ga : Addr) (go : Obj) (g : Nat) (W : Nat → Hp → Prop) (i : Nat) (s : Shared) : Prop where
  ex : ∃ (H : Hp) (y : Option V), Inv Xg [(ga, go)] [y] H s ∧ tn i s.heap ∧ (∀ b ∈ fp, FpOk Xg [(ga, go)] H b) ∧ W i H
  sz : g + 1 ≤ s.gens.size
/-- it is over -/
def GEd (Xg : Cx) (ga : Addr) (go : Obj) (Qe : Hp → Prop) (s : Shared) : Prop := ∃ (H : Hp) (y : Option V), Inv Xg [(ga, go)] [y] H s ∧ Qe H
def YG (GI : Nat → Shared → Prop) (GF : Shared → Prop) (n0 : Nat) : Protocol := fun m _ v s kap => ∃ b : Bool, v = .bool b ∧ (b = true → GI (n0 - m) s ∧ ∀ s'', GI (n0 - m) s'' → kap (.send .none) s'') ∧ (b = false → GF s)
def RG (GT : Shared → Prop) : GenEnd := fun _ _ r s => r = .ok .next ∧ GT s
section
variable {X : Cx} {A : Around} {sG : Shared} {HG : Hp} {ge : Env} {x : Str} {fp : List Addr} {tn : Nat → Heap → Prop} {ga it : Addr} {go : Obj} {g : Nat} {W : Nat → Hp → Prop} {Qf Qt : Hp → Prop} {J : It} {elt iter : Expr} {px gp : Pos} {sc : Scope} {te : TE} {n0 : Nat}
theorem seg_gloop (T : Turn X.prog X.w X.K (.Name x px) J fp it tn) (hx : ge.scope.names.lookup x = some .local) (hco : ge.scope.isCoroutine = false)
    (hel : PE (gxOf X (A.over (gcode elt iter x px sc gp it ge) []) sG HG ge x fp) elt te)
    (hW : ∀ i H, W i H → (i < n0 ∧ J.go i H ∧ ∀ v H', J.yld i H v H' → te [some v] H' fun y H3 => ∃ b, y = .bl b ∧ if b = true then W (i + 1) H3 else Qf H3) ∨ (J.stop i H ∧ Qt H)) :
    ∀ (k i : Nat) (s₀ s : Shared), n0 - i = k → GIn (gxOf X (A.over (gcode elt iter x px sc gp it ge) []) sG HG ge x fp) fp tn ga go g W i s →
      Seg (model X.prog X.w) A (RG (GEd (gxOf X (A.over (gcode elt iter x px sc gp it ge) []) sG HG ge x fp) ga go Qt))
        (YG (GIn (gxOf X (A.over (gcode elt iter x px sc gp it ge) []) sG HG ge x fp) fp tn ga go g W) (GEd (gxOf X (A.over (gcode elt iter x px sc gp it ge) []) sG HG ge x fp) ga go Qf) n0) (n0 - i) s₀
        (gcode elt iter x px sc gp it ge) ((model X.prog X.w).den (gcode elt iter x px sc gp it ge)) [] s := by
  generalize hXg : gxOf X (A.over (gcode elt iter x px sc gp it ge) []) sG HG ge x fp = Xg at *
  have eP : Xg.prog = X.prog := by rw [← hXg]; rfl
  have eW : Xg.w = X.w := by rw [← hXg]; rfl
  have eK : Xg.K = X.K := by rw [← hXg]; rfl
  have eC : Xg.calm = true := by rw [← hXg]; rfl
  have eA : Xg.A = A.over (gcode elt iter x px sc gp it ge) [] := by rw [← hXg]; rfl
  have eE : Xg.env = ge := by rw [← hXg]; rfl
  have eN : Xg.N = [x] := by rw [← hXg]; rfl
  have eX : Xg.xe = fun _ _ => False := by rw [← hXg]; rfl
  have ePn : Xg.pn = [] := by rw [← hXg]; rfl
  have stat : ∀ {pins : List (Addr × Obj)} {H H' : Hp}, (∀ b ∈ fp, FpOk Xg pins H b) → (∀ b ∈ fp, H' b = none) → ∀ b ∈ fp, FpOk Xg pins H' b := fun f2 hn b hb => ⟨hn b hb, (f2 b hb).2⟩
  intro k
  induction k with
  | zero =>
    intro i s₀ s hk gi
    obtain ⟨⟨H, y, I, st, fo, w⟩, sz⟩ := gi
    rcases hW i H w with ⟨lt, _⟩ | ⟨stop, qt⟩
    · omega
    show Seg _ A _ _ _ s₀ _ ((compTurn (.GeneratorExp elt [⟨.Name x px, iter, [], 0⟩] sc gp) 0 (.ref it) .none ge).onRaise (leaving ge)) [] s
    rw [compTurn_gen, Sem.onRaise_eq_wrap]
    refine seg_bind_wrap (wpAny_standAt ?_)
    refine seg_bind_wrap (eA ▸ wpAny_mono (T.done Xg eP eW eK eC i _ s [y] H (fun _ _ => False) I fo st stop) (fun r s1 ⟨hr, I1⟩ => ?_) fun _ _ e => e.elim)
    subst hr
    exact seg_end (.ok .next) ⟨rfl, H, y, I1, qt⟩
  | succ k ih =>
    intro i s₀ s hk gi
    obtain ⟨⟨H, y, I, st, fo, w⟩, sz⟩ := gi
    show Seg _ A _ _ _ s₀ _ ((compTurn (.GeneratorExp elt [⟨.Name x px, iter, [], 0⟩] sc gp) 0 (.ref it) .none ge).onRaise (leaving ge)) [] s
    rw [compTurn_gen, Sem.onRaise_eq_wrap]
    refine seg_bind_wrap (wpAny_standAt ?_)
    rcases hW i H w with ⟨lt, gg, step⟩ | ⟨stop, qt⟩
    · refine seg_bind_wrap (eA ▸ GenW.wpAny_gsz sz (wpAny_mono (T.item Xg eP eW eK eC i _ s [y] H (fun _ _ => False) I fo st gg) (fun r s1 ⟨u, hr, rest⟩ sz1 => ?_) fun _ _ e _ => e.elim))
      subst hr
      refine seg_bind_wrap (eA ▸ GenW.wpAny_gsz sz1 (wpAny_mono rest (fun _ s2 ⟨v, H2, I2, rv, yl, st2, fr2⟩ sz2 => ?_) fun _ _ e _ => e.elim))
      have fo2 := stat fo fr2
      have I2' := I2.pinned fo2 (T.obj _ _ st2)
      have pgn : PG Xg (.Name x px) (gName 0) := pg_name (by rw [eN]; simp) (by rw [eN]; rfl) (.inl (by rw [eE]; exact hx)) (.inr (by rw [eE]; exact hx))
      have run1 := pgn.run _ s2 [y] H2 v u (fun σ' H' => σ' = [some v] ∧ H' = H2) I2' rv ⟨rfl, rfl⟩
      rw [eE, eX] at run1
      refine seg_bind_wrap (eA ▸ GenW.wpAny_gsz sz2 (wpAny_mono (eP ▸ eW ▸ run1) (fun _ s3 ⟨σ3, H3, I3, e3, e4⟩ sz3 => ?_) fun _ _ e _ => e.elim))
      subst e3 e4
      simp only [List.forIn_nil]
      refine seg_bind_wrap (wpAny_pure ?_)
      rw [if_pos rfl]
      have hy : ∀ v, yieldOut ge v = yieldValue v := fun v => by simp only [yieldOut, hco, Bool.false_eq_true, if_false]
      simp only [hy]
      rw [Sem.bind_eq_wrap', Sem.bind_eq_wrap', Sem.wrap_wrap, Sem.wrap_wrap]
      have run2 := hel.run _ s3 [some v] H3 _ I3 (step v H3 yl)
      rw [eE, eX] at run2
      refine seg_wrap (eA ▸ GenW.wpAny_gsz sz3 (wpAny_mono (eP ▸ eW ▸ run2) (fun z s4 ⟨zv, H4, I4, rz, b, ez, q⟩ sz4 => ?_) fun _ _ e _ => e.elim))
      subst ez
      have ez' : z = .bool b := rz
      subst ez'
      have hn : n0 - i = (n0 - (i + 1)) + 1 := by omega
      have hm : n0 - (n0 - (i + 1)) = i + 1 := by omega
      rw [hn]
      have st4 : tn (i + 1) s4.heap := T.keep _ _ _ st2 fun b hb o e => (I4.pin (b, o) (List.mem_append_right _ (List.mem_append_right _ (mem_pinsAt hb e)))).1
      have fr4 : ∀ b ∈ fp, H4 b = none := fun b hb => by
        obtain ⟨o, e, d⟩ := T.obj _ _ st2 b hb
        exact (I4.pin (b, o) (List.mem_append_right _ (List.mem_append_right _ (mem_pinsAt hb e)))).2.1
      refine seg_at (seg_yield rfl rfl rfl ⟨b, rfl, fun hb => ?_, fun hb => ?_⟩)
      · rw [hb, if_pos rfl] at q
        rw [hm]
        exact ⟨⟨⟨H4, _, I4.unpinned, st4, stat fo fr4, q⟩, sz4⟩, fun s'' gi => seg_again rfl (ih (i + 1) s'' s'' (by omega) gi)⟩
      · rw [hb, if_neg Bool.false_ne_true] at q
        exact ⟨H4, _, I4.unpinned, q⟩
    · refine seg_bind_wrap (eA ▸ wpAny_mono (T.done Xg eP eW eK eC i _ s [y] H (fun _ _ => False) I fo st stop) (fun r s1 ⟨hr, I1⟩ => ?_) fun _ _ e => e.elim)
      subst hr
      exact seg_end (.ok .next) ⟨rfl, H, y, I1, qt⟩
/-- the generator as its consumer has it -/
def CSt (M : Model) (A : Around) (R : GenEnd) (Y : Protocol) (GI : Nat → Shared → Prop) (g n0 i : Nat) (s : Shared) : Prop :=
  GI i s ∧ ∃ gs, s.gens[g]? = some gs ∧ ∀ s'', GI i s'' → gs.Goes M A R Y (n0 - i) (.send .none) s''
theorem Inv.gens {Xg : Cx} {pins : List (Addr × Obj)} {σ : L2.St} {H : Hp} {s : Shared} {gs : Array GenState} (I : Inv Xg pins σ H s) (h : AllBare gs) : Inv Xg pins σ H { s with gens := gs } :=
  ⟨I.ok, I.os, h, I.base, I.loc, I.cell, I.free, I.freeC, I.pin, I.hok, I.len⟩
theorem GIn.set {Xg : Cx} {i : Nat} {s : Shared} {gs : GenState} (h : GIn Xg fp tn ga go g W i s) (hb : gs.bare = true) : GIn Xg fp tn ga go g W i (s.setGen g gs) := by
  obtain ⟨⟨H, y, I, st, fo, w⟩, sz⟩ := h
  refine ⟨⟨H, y, Inv.gens I (L2.allBare_setGen I.bare hb), st, fo, w⟩, ?_⟩
  rw [GenW.setGen_size]
  exact sz
theorem GEd.set {Xg : Cx} {s : Shared} {gs : GenState} {Qe : Hp → Prop} (h : GEd Xg ga go Qe s) (hb : gs.bare = true) : GEd Xg ga go Qe (s.setGen g gs) := by
  obtain ⟨H, y, I, q⟩ := h
  exact ⟨H, y, Inv.gens I (L2.allBare_setGen I.bare hb), q⟩
theorem gen_next {Xg : Cx} {E : Value → Shared → Prop} {s : Shared} {i : Nat} (hc : go.cls = .type "generator") (hd : ∃ nm qn, go.data = .fields #[.int g 0, nm, qn]) (hs : go.slots = #[]) (hh : A.handled = none) (hroom : A.depth < recursionLimit)
    (h : CSt (model X.prog X.w) A.in1 (RG (GEd Xg ga go Qt)) (YG (GIn Xg fp tn ga go g W) (GEd Xg ga go Qf) n0) (GIn Xg fp tn ga go g W) g n0 i s) :
    wpAny (model X.prog X.w) A (pyNext (.ref ga)) (fun r s' => (r = some (.bool true) ∧ i < n0 ∧ CSt (model X.prog X.w) A.in1 (RG (GEd Xg ga go Qt)) (YG (GIn Xg fp tn ga go g W) (GEd Xg ga go Qf) n0) (GIn Xg fp tn ga go g W) g n0 (i + 1) s') ∨
      (r = some (.bool false) ∧ GEd Xg ga go Qf s') ∨ (r = none ∧ GEd Xg ga go Qt s')) E s := by
  obtain ⟨gi, gs, hgs, hgo⟩ := h
  obtain ⟨nm, qn, hd⟩ := hd
  have hg : s.heap.IsGen ga g := by
    obtain ⟨⟨H, y, I, _⟩, _⟩ := gi
    exact ⟨go, nm, qn, (I.pin (ga, go) (List.mem_append_right _ (List.mem_singleton.mpr rfl))).1, hc, hd, hs⟩
  have hl : s.heap.NoLimit := by
    obtain ⟨⟨H, y, I, _⟩, _⟩ := gi
    exact I.nolimit
  refine wpAny_pyNext_genexpQ (P := fun _ _ s₁ => GEd Xg ga go Qt s₁) hh hl hroom hg hgs (hgo _ (gi.set rfl)) (fun v s₁ gs' hb hv => ?_) (fun s₁ hp h' hk => ?_)
  · obtain ⟨b, rfl, ht, hf⟩ := hv
    cases b with
    | false => exact .inr (.inl ⟨rfl, (hf rfl).set hb⟩)
    | true =>
      obtain ⟨g1, g2⟩ := ht rfl
      cases hn : n0 - i with
      | zero =>
        rw [hn] at g1 g2
        exact (g2 s₁ g1).elim
      | succ m =>
        rw [hn] at g1 g2
        have e : n0 - (m + 1 - 1) = i + 1 := by omega
        rw [e] at g1 g2
        refine .inl ⟨rfl, by omega, g1.set hb, gs', L2.setGen_at (Nat.lt_of_succ_le g1.sz), fun s'' gi'' => ?_⟩
        have e2 : n0 - (i + 1) = m := by omega
        rw [e2]
        exact g2 s'' gi''
  · obtain ⟨H, y, I, q⟩ := hp
    refine .inr (.inr ⟨rfl, H, y, ?_, q⟩)
    have I2 := Inv.gens (gs := (s₁.setGen g .finished).gens) I (L2.allBare_setGen I.bare rfl)
    exact I2.kept (t' := s₁.toks) hk
theorem all_loopX {Xg : Cx} {R : Result → Shared → Prop} (hc : go.cls = .type "generator") (hd : ∃ nm qn, go.data = .fields #[.int g 0, nm, qn]) (hs : go.slots = #[]) (hh : A.handled = none) (hroom : A.in1.depth < recursionLimit)
    (hT : ∀ s', GEd Xg ga go Qt s' → R (.ok (.ret (.bool true))) s') (hF : ∀ s', GEd Xg ga go Qf s' → R (.ok (.ret (.bool false))) s') : ∀ (k i : Nat) (s : Shared), n0 - i = k →
    CSt (model X.prog X.w) A.in1.in1 (RG (GEd Xg ga go Qt)) (YG (GIn Xg fp tn ga go g W) (GEd Xg ga go Qf) n0) (GIn Xg fp tn ga go g W) g n0 i s → codeAny (model X.prog X.w) A (.builtin "all.loop" ⟨[.ref ga], []⟩) R s := by
  intro k
  induction k with
  | zero =>
    intro i s hk cs
    refine codeAny_builtin F.entry_all_loop ?_
    rw [Around.under_plainId F.plain_all_loop _]
    show wpAny _ A.in1 (pyNext (.ref ga) >>= _) _ _ s
    refine wpAny_bind (wpAny_mono (gen_next hc hd hs hh hroom cs) (fun r s' h => ?_) fun _ _ e => e)
    rcases h with ⟨rfl, lt, _⟩ | ⟨rfl, q⟩ | ⟨rfl, q⟩
    · omega
    · refine wpAny_bind (wpAny_holding (wpAny_truthy_bool ?_))
      refine wpAny_bind (wpAny_letGo ?_)
      simp only [Bool.false_eq_true, if_false]
      exact wpAny_bind (wpAny_rule (wpAny_pure (hF s' q)))
    · exact wpAny_bind (wpAny_rule (wpAny_pure (hT s' q)))
  | succ k ih =>
    intro i s hk cs
    refine codeAny_builtin F.entry_all_loop ?_
    rw [Around.under_plainId F.plain_all_loop _]
    show wpAny _ A.in1 (pyNext (.ref ga) >>= _) _ _ s
    refine wpAny_bind (wpAny_mono (gen_next hc hd hs hh hroom cs) (fun r s' h => ?_) fun _ _ e => e)
    rcases h with ⟨rfl, lt, cs'⟩ | ⟨rfl, q⟩ | ⟨rfl, q⟩
    · refine wpAny_bind (wpAny_holding (wpAny_truthy_bool ?_))
      refine wpAny_bind (wpAny_letGo ?_)
      simp only [if_true]
      exact wpAny_pure ⟨plainId_quiet F.plain_all_loop _, ih (i + 1) s' (by omega) cs'⟩
    · refine wpAny_bind (wpAny_holding (wpAny_truthy_bool ?_))
      refine wpAny_bind (wpAny_letGo ?_)
      simp only [Bool.false_eq_true, if_false]
      exact wpAny_bind (wpAny_rule (wpAny_pure (hF s' q)))
    · exact wpAny_bind (wpAny_rule (wpAny_pure (hT s' q)))
end
end Ey
set_option maxHeartbeats 4000000
namespace Ey
open PySem PySem.Spec PyProof.Rows L2 GxR
section
variable {X : Cx} {pins : List (Addr × Obj)} {σ : L2.St} {H : Hp} {s : Shared}
/-- the generator's frame begins -/
theorem inv_gx {A : Around} {sc : Scope} {x : Str} {fp : List Addr} {code : Value} {h5 : Heap} {g5 : Array GenState} {t5 : Nat} {m : Str → Option Value} (I : Inv X pins σ H s)
    (hk : sc.kind = .function) (hc : ∀ y ∈ sc.names, y.2 ≠ .cell) (hf : ∀ y ∈ sc.names, y.2 ≠ .free) (hns : h5.Ns s.heap.objs.size m) (keep : ∀ b o, s.heap.get? b = some o → h5.get? b = some o) (bare : AllBare g5) (hh : A.handled = none)
    (fr : A.frames = some (genEnv sc [] s.heap.objs.size code builtinsNs X.env :: X.stack)) (ho : ∀ b ∈ fp, FpOk X pins H b ∧ b < s.heap.objs.size) :
    Inv (gxOf X A s H (genEnv sc [] s.heap.objs.size code builtinsNs X.env) x fp) [] [none] H { s with heap := h5, gens := g5, toks := t5 } := by
  have nofs : ∀ b ∈ fp, b ∉ frs X.stack := fun b hb z => by
    obtain ⟨⟨_, h1, h2, _⟩, _⟩ := ho b hb
    rcases List.mem_cons.mp (I.stkSub b z) with q | q
    · exact h1 q
    · exact h2 q
  refine ⟨⟨I.ok.mod, hk, I.ok.glob, rfl, Nat.le_refl _, fun y z c e _ => ?_, fun y hy => ?_, fun y c e _ => ?_, fun _ => hh, fr, .inr ⟨rfl, rfl⟩, fun b hb => ⟨Nat.ne_of_lt (ho b hb).2, fun y c e => ?_⟩, fun b o e => I.bs b o e, Nat.le_trans I.ok.bsz I.sz, fun b o e hb => ?_, fun b hb => nofs b hb, I.stack, I.stkFree⟩,
    rfl, bare, Un.kept keep, ⟨m, hns, fun i y v h1 h2 _ => ?_⟩, fun y c e => ?_, I.hok.fresh (Nat.le_refl _), fun y c e => ?_, fun p hp => ?_, I.hok.kept keep, rfl⟩
  · exact absurd e (by intro z; cases z)
  · have hy' : sc.names.lookup y = some .cell ∨ sc.names.lookup y = some .free := hy
    rcases hy' with q | q
    · exact absurd rfl (hc _ (PySem.mem_of_lookup q))
    · exact absurd rfl (hf _ (PySem.mem_of_lookup q))
  · exact absurd e (by intro z; cases z)
  · exact absurd e (by intro z; cases z)
  · obtain ⟨⟨_, _, _, h3, _⟩, _⟩ := ho b hb
    rcases h3 with q | q
    · exact I.ok.noex b o e q
    · exact Nat.lt_irrefl _ (Nat.lt_of_lt_of_le (Heap.lt_size e) (Nat.le_trans I.ok.bsz q))
  · cases i with
    | zero => cases h2
    | succ i => cases h2
  · exact absurd e (by intro z; cases z)
  · exact absurd e (by intro z; cases z)
  · exact absurd hp (by intro z; cases z)
/-- all(e for x in it): the table of the running def's code may have grown; then, item by item -/
def tAllX (P : Addr) (wi : TI) (te : TE) : TE := fun σ H Q => wi σ H fun J H1 => TabG H1 P ∧ ∀ H2, Tabbed P H1 H2 → ∃ (n0 : Nat) (W : Nat → Hp → Prop), W 0 H2 ∧
  ∀ i H', W i H' → (i < n0 ∧ J.go i H' ∧ ∀ v H'', J.yld i H' v H'' → te [some v] H'' fun y H3 => ∃ b, y = .bl b ∧ if b = true then W (i + 1) H3 else Q (.bl false) H3) ∨ (J.stop i H' ∧ Q (.bl true) H')
theorem pe_allX {c P : Addr} {elt iter : Expr} {x : Str} {px p pos gp : Pos} {sc : Scope} {wi : TI} {te : TE} {k : Nat}
    (hr : Room (k + 2) X.A) (hg : Gl X "all") (hm : X.mg "all" = none) (hb : bootBuiltins "all" = some (.builtin "all")) (TB : TabB X.base X.mg c P) (hco : X.env.code = .ref c) (S : GenS X.env sc x) (nf : ∀ y ∈ sc.names, y.2 ≠ .free)
    (hi : PI X (.Name x px) iter wi)
    (hel : ∀ (A : Around) (s : Shared) (H : Hp) (C : Addr) (code : Value) (fp : List Addr), Room k A → PE (gxOf X A s H (genEnv sc [] C code builtinsNs X.env) x fp) elt te)
    (hs : ∀ v, genFold iter X.env v = pure v) (hcl : cloFrom X.env.cells sc.names [] = [] := by rfl)
    (he : starEach [.GeneratorExp elt [⟨.Name x px, iter, [], 0⟩] sc gp] X.env = (false, eval (.GeneratorExp elt [⟨.Name x px, iter, [], 0⟩] sc gp) X.env) :: starEach [] X.env := by rfl) :
    PE X (.Call (.Name "all" p) [.GeneratorExp elt [⟨.Name x px, iter, [], 0⟩] sc gp] [] pos) (tAllX P wi te) := by
  refine ⟨fun pins s σ H Q I h => wpAny_Call_Name_kw (ld_blt I hg hm hb ?_)⟩
  refine PyProof.Rows.callWith_builtin1 ?_ he (by rfl)
  rw [he]
  show wpAny _ _ (spliced ((false, eval (.GeneratorExp elt [⟨.Name x px, iter, [], 0⟩] sc gp) X.env) :: backTo pos (starEach [] X.env))) _ _ s
  refine Calls.spliced_cons (wpAny_GeneratorExp_make S.co (cl := []) (hcl ▸ closure_ok S.free) S.cell S.dot S.kind (Nat.lt_of_le_of_lt (by omega) hr.dp) ?_ hs)
  refine thn (hi.run pins s σ H _ I h) fun v s1 h1 => thn h1 fun itv s2 h2 => ?_
  obtain ⟨it, fp, tn, J, H1, e, J1, T, st, fo, ⟨ps, tP, tok⟩, q⟩ := h2
  subst e
  have gP : s2.heap.get? P = some { cls := .none, data := .fields ps } := J1.hok P _ tP
  have head : PySem.W.CodeHd s2.heap c P := TB.code.keeps fun b u e => J1.bk b u e
  have ncP : cStatics ≠ P := fun e => by
    obtain ⟨_, ns, _⟩ := J1.nolimit
    obtain ⟨o', es, ep, g', d', _⟩ := ns
    rw [e, gP] at g'
    cases g'
    cases d'
  have fpP : ∀ b ∈ fp, b ≠ P := fun b hb z => by
    have := (fo b hb).1
    rw [z, tP] at this
    cases this
  refine ⟨J1.nolimit, ?_⟩
  have go : ∀ (code : Value) (hN : Heap) (tk : Nat) (qs : Array Value), Heap.ExtBut P s2.heap hN → hN.get? P = some { cls := .none, data := .fields qs } → (∃ more, qs = ps ++ more) → TriplesOk qs.toList →
      wpAny (model X.prog X.w) X.A (builtinsFor X.env.globals X.env.builtins) (fun bi s₄ =>
        ∀ h', h'.Ns s₄.heap.objs.size (fun y => if y = ".0" then some (.ref it) else none) → Heap.SameBut s₄.heap.objs.size (s₄.heap.push { cls := .type "frame", data := .dict #[] }) h' →
          wpAny (model X.prog X.w) X.A (spliced (backTo pos (starEach [] X.env))) (fun us s' => wpAny (model X.prog X.w) X.A (call (.builtin "all") (.ref h'.objs.size :: us)) (EP X pins σ Q) X.xe s') X.xe { s₄ with
            gens := s₄.gens.push (.fresh (.compStart (.GeneratorExp elt [⟨.Name x px, iter, [], 0⟩] sc gp) 0 (.ref it) .none (genEnv sc [] s₄.heap.objs.size code bi X.env))),
            toks := s₄.toks + 1 + 1 + 1,
            heap := h'.push { cls := .type "generator", data := .fields #[.int s₄.gens.size 0, .str "<genexpr>" (s₄.toks + 1), .str (X.env.qual ++ "<genexpr>") (s₄.toks + 1 + 1)] } }) X.xe { s2 with heap := hN, toks := tk } := by
    intro code hN tk qs ext gPN more okN
    obtain ⟨bm, obm, e1, e2, e3, e4, e5, e6, e7, e8⟩ := TB.bm
    have stay : ∀ b u, b ≠ P → s2.heap.get? b = some u → hN.get? b = some u := fun b u nb e => ext b u nb e
    obtain ⟨mo, em⟩ := more
    subst em
    have J2 : Inv X pins σ (upd H1 P (.tbl (ps ++ mo))) { s2 with heap := hN, toks := tk } := inv_tab (more := mo) (h' := hN) (g' := s2.gens) (d' := s2.drawn) (t' := tk) J1 tP stay gPN J1.bare
    refine wpAny_builtinsFor (m := X.mg) (by rw [J1.ok.glob]; exact (J1.mod.glob.keeps J1.bk).extBut ext TB.gP) e1 e2 (stay _ _ e4 (J1.bk _ _ e5)) e6 e7 e8 ?_
    intro h' hn' hs'
    refine Calls.spliced_nil ?_
    obtain ⟨n0, W, w0, hW⟩ := q (upd H1 P (.tbl (ps ++ mo))) ⟨⟨ps ++ mo, upd_same, okN⟩, fun b nb => upd_ne nb⟩
    have sz' : h'.objs.size = hN.objs.size + 1 := by
      rw [hs'.1, Heap.size_push]
    have keep' : ∀ b o, hN.get? b = some o → h'.get? b = some o := fun b o e => hs'.extBut b o (Nat.ne_of_lt (Heap.lt_size e)) (Heap.get?_push_of_some _ e)
    generalize hgo : ({ cls := .type "generator", data := .fields #[.int s2.gens.size 0, .str "<genexpr>" (tk + 1), .str (X.env.qual ++ "<genexpr>") (tk + 1 + 1)] } : Obj) = gob
    have gc : gob.cls = .type "generator" := by rw [← hgo]
    have gd : ∃ nm qn, gob.data = .fields #[.int s2.gens.size 0, nm, qn] := ⟨_, _, by rw [← hgo]⟩
    have gs : gob.slots = #[] := by rw [← hgo]
    show wpAny (model X.prog X.w) X.A (call (.builtin "all") [.ref h'.objs.size]) (EP X pins σ Q) X.xe { s2 with
            gens := s2.gens.push (.fresh (.compStart (.GeneratorExp elt [⟨.Name x px, iter, [], 0⟩] sc gp) 0 (.ref it) .none (genEnv sc [] hN.objs.size code builtinsNs X.env))),
            toks := tk + 1 + 1 + 1, heap := h'.push gob }
    have keep5 : ∀ b o, hN.get? b = some o → (h'.push gob).get? b = some o := fun b o e => Heap.get?_push_of_some _ (keep' b o e)
    have atG : (h'.push gob).get? h'.objs.size = some gob := Heap.get?_push_size _ (by
      obtain ⟨nm, qn, e⟩ := gd
      exact Obj.isFreed_of_fields e)
    -- the frame
    generalize hge : genEnv sc [] hN.objs.size code builtinsNs X.env = ge
    have fpl : ∀ b ∈ fp, b < hN.objs.size := fun b hb => by
      obtain ⟨o, e, _⟩ := T.obj _ _ st b hb
      exact Heap.lt_size (stay b o (fpP b hb) e)
    have foN : ∀ b ∈ fp, FpOk X pins (upd H1 P (.tbl (ps ++ mo))) b := fun b hb => ⟨by rw [upd_ne (fpP b hb)]; exact (fo b hb).1, (fo b hb).2⟩
    have stN : tn 0 (h'.push gob) := T.keep _ _ _ st fun b hb o e => keep5 b o (stay b o (fpP b hb) e)
    have hAh : (X.A.in1.in1.over (gcode elt iter x px sc gp it ge) []).handled = none := hr.hd
    have hAf : (X.A.in1.in1.over (gcode elt iter x px sc gp it ge) []).frames = some (ge :: X.stack) := by
      show pushEnvs (gcode elt iter x px sc gp it ge).envs (pushEnvs [] X.A.frames) = _
      rw [J1.ok.frames]
      rfl
    have IG0 := inv_gx (A := X.A.in1.in1.over (gcode elt iter x px sc gp it ge) []) (sc := sc) (x := x) (fp := fp) (code := code) (h5 := h'.push gob)
      (g5 := s2.gens.push (.fresh (.compStart (.GeneratorExp elt [⟨.Name x px, iter, [], 0⟩] sc gp) 0 (.ref it) .none ge))) (t5 := tk + 1 + 1 + 1) J2 S.kind S.cell nf (hn'.push gob) keep5 (AllBare.push J1.bare rfl) hAh (by rw [hAf, ← hge]) (fun b hb => ⟨foN b hb, fpl b hb⟩)
    rw [hge] at IG0
    generalize hXg : gxOf X (X.A.in1.in1.over (gcode elt iter x px sc gp it ge) []) { s2 with heap := hN, toks := tk } (upd H1 P (.tbl (ps ++ mo))) ge x fp = Xg at IG0
    have gne : ∀ b ∈ fp, h'.objs.size ≠ b := fun b hb => Nat.ne_of_gt (Nat.lt_trans (fpl b hb) (by omega))
    have fpXg : ∀ b ∈ fp, FpOk Xg [(h'.objs.size, gob)] (upd H1 P (.tbl (ps ++ mo))) b := fun b hb => by
      rw [← hXg]
      refine ⟨(foN b hb).1, ?_, fun z => ?_, .inl hb, fun y cc e => ?_, fun p hp => ?_⟩
      · show b ≠ ge.locals
        rw [← hge]
        exact Nat.ne_of_lt (fpl b hb)
      · obtain ⟨_, q1, q2, _⟩ := foN b hb
        rcases List.mem_cons.mp (J2.stkSub b z) with q | q
        · exact q1 q
        · exact q2 q
      · have e' : ge.cells.lookup y = some cc := e
        rw [← hge] at e'
        cases e'
      · have hp' : p ∈ [(h'.objs.size, gob)] := hp
        rw [List.mem_singleton.mp hp']
        exact gne b hb
    have IG : Inv Xg [(h'.objs.size, gob)] [none] (upd H1 P (.tbl (ps ++ mo))) { s2 with heap := h'.push gob, gens := s2.gens.push (.fresh (.compStart (.GeneratorExp elt [⟨.Name x px, iter, [], 0⟩] sc gp) 0 (.ref it) .none ge)), toks := tk + 1 + 1 + 1 } := by
      refine IG0.pins_of fun p hp => ?_
      rw [List.mem_singleton.mp hp]
      have big : hN.objs.size < h'.objs.size := by omega
      refine ⟨atG, J2.hok.fresh (Nat.le_of_lt big), ?_, ?_, fun v e => ?_⟩
      · rw [← hXg]
        show h'.objs.size ≠ ge.locals
        rw [← hge]
        exact Nat.ne_of_gt big
      · rw [← hXg]
        intro z
        rcases List.mem_cons.mp (J2.stkSub _ z) with q | q
        · have l := J2.lt
          rw [← q] at l
          exact absurd (Nat.lt_trans big l) (Nat.lt_irrefl _)
        · exact J2.nofs (Nat.le_of_lt big) q
      · obtain ⟨nm, qn, e2⟩ := gd
        have e' : gob.data = .cell v := e
        rw [e2] at e'
        cases e'
    have back : ∀ (b : Bool) (s' : Shared), GEd Xg h'.objs.size gob (Q (.bl b)) s' → EP X pins σ Q (.bool b) s' := fun b s' ⟨H', y, K, q⟩ => by
      rw [← hXg] at K
      exact ⟨.bl b, H', J2.call' (ch := fp) K.os K.base K.hok K.bare (fun c hc => ⟨(foN c hc).2.2.2.1, (foN c hc).2.1, (foN c hc).2.2.2.2.1, (foN c hc).2.2.2.2.2⟩), rfl, q⟩
    have loopS := seg_gloop (X := X) (A := X.A.in1.in1) (sG := { s2 with heap := hN, toks := tk }) (HG := upd H1 P (.tbl (ps ++ mo))) (ge := ge) (fp := fp) (tn := tn) (ga := h'.objs.size) (go := gob) (g := s2.gens.size) (W := W) (Qf := Q (.bl false)) (Qt := Q (.bl true))
      (gp := gp) (sc := sc) (elt := elt) (iter := iter) (n0 := n0) (te := te) T (by rw [← hge]; exact S.loc) (by rw [← hge]; exact S.co) (by
        rw [← hge]
        refine hel _ _ _ _ _ _ ⟨hr.hd, ?_, ?_⟩
        · have := hr.dp
          show X.A.depth + 0 + 1 + 3 * k + 5 < _
          omega
        · have := hr.un
          show X.A.units + 1 + 1 + 0 + 3 + 16 * k + 200 < _
          omega) hW
    rw [hXg] at loopS
    have GI0 : GIn Xg fp tn h'.objs.size gob s2.gens.size W 0 { s2 with heap := h'.push gob, gens := s2.gens.push (.fresh (.compStart (.GeneratorExp elt [⟨.Name x px, iter, [], 0⟩] sc gp) 0 (.ref it) .none ge)), toks := tk + 1 + 1 + 1 } :=
      ⟨⟨_, _, IG, stN, fpXg, w0⟩, by show s2.gens.size + 1 ≤ (s2.gens.push _).size; rw [Array.size_push]; exact Nat.le_refl _⟩
    refine call_function_tree F.kind_all F.plain_all F.entry_all (F.args_all1 _) ?_
    unfold Builtin.«all»
    refine wpAny_bind (m := oneArg "all" _) (wpAny_pure ?_)
    refine wpAny_bind (wpAny_pyIter_gen ⟨gob, _, _, atG, gc, gd.choose_spec.choose_spec, gs⟩ ?_)
    refine wpAny_pure ⟨plainId_quiet F.plain_all_loop _, all_loopX (X := X) (A := X.A) (R := fun r s' => match r with | .ok (.ret v) => EP X pins σ Q v s' | .ok _ => False | .error e => X.xe e s') (Xg := Xg) (Qf := Q (.bl false)) (Qt := Q (.bl true)) (W := W) (fp := fp) (tn := tn) (n0 := n0) gc gd gs hr.hd (Nat.lt_of_le_of_lt (by show X.A.depth ≤ X.A.depth + 3 * (k + 2) + 5; omega) hr.dp) (fun s' q => back true s' q) (fun s' q => back false s' q) n0 0 _ (Nat.sub_zero _) ⟨GI0, _, Array.getElem?_push_size .., fun s'' gi => ⟨rfl, ?_⟩⟩⟩
    have loop := loopS n0 0 s'' s'' (Nat.sub_zero _) gi
    obtain ⟨_, _, _, sti, _⟩ := gi.ex
    show Seg _ X.A.in1.in1 _ _ _ s'' _ ((compStart (.GeneratorExp elt [⟨.Name x px, iter, [], 0⟩] sc gp) 0 (.ref it) .none ge).onRaise (leaving ge)) [] s''
    unfold compStart
    rw [Sem.onRaise_eq_wrap]
    show Seg _ X.A.in1.in1 _ _ _ s'' _ ((ask >>= _).wrap _ _ _ _) [] s''
    refine seg_bind_wrap (wpAny_askSetting ?_)
    split
    · exact seg_again rfl loop
    · first
        | exact seg_bind_wrap (wpAny_rule (seg_bind_wrap (wpAny_standAt (seg_bind_wrap (T.self _ 0 _ _ _ sti (seg_again rfl loop))))))
        | (refine seg_bind_wrap (wpAny_rule ?_); show Seg _ X.A.in1.in1 _ _ _ s'' _ ((standAt iter.pos >>= _).wrap _ _ _ _) [] s''; exact seg_bind_wrap (wpAny_standAt (seg_bind_wrap (T.self _ 0 _ _ _ sti (seg_again rfl loop)))))
  cases am : codeAmong gp ps.toList with
  | none =>
    refine wpAny_genexprCodeX hco (head.code gP tok) (head.tab gP) am fun c' hN tk ext hge hlt hc' _ tab' _ => ?_
    obtain ⟨o1, vs, f1, tf, fl, tg, inF, tx, tt, op, _, _, _, _, _, _, _, _, _, tr, _⟩ := hc'
    exact go _ hN tk _ ext tab'.2 ⟨_, rfl⟩ tr
  | some cv =>
    refine wpAny_genexprCode_hit hco (head.code gP tok) am ?_
    exact go cv s2.heap s2.toks ps (Heap.ExtBut.refl _ _) gP ⟨#[], by simp⟩ tok
end
end Ey
set_option maxHeartbeats 4000000
namespace Ey
open PySem PySem.Spec PyProof.Rows L2 GxR PySem.SeqAt
open AutoSeq1 (wpAny_loadPart')
open MeetsSeq MeetsSeq2 MeetsSeq3
/-! ### a dict beside a text -/
theorem dict_eq_declines_str (l : Addr) (es : Array DictEntry) (n : Nat) (dd : Option Addr) (sl : Array (Option Value)) (b : Str) (u : Tok) :
    Meets (Builtin.«dict.__eq__» ⟨[.ref l, .str b u], []⟩) (fun _ R s => s.heap.get? l = some { cls := .type "dict", dict := dd, data := .dict es n, slots := sl } ∧ R (.ok (.ret .notImplemented)) s) :=
  .of_wp fun prog w A R s h => by obtain ⟨hp, g, d, tk, os⟩ := s; obtain ⟨hl, h⟩ := h; have f1 := F.sub_str_dict; wp_walk using wpAny_loadPart' hl, wpAny_load hl; exact ⟨_, rfl, h⟩
theorem dict_ne_declines_str (l : Addr) (es : Array DictEntry) (n : Nat) (dd : Option Addr) (sl : Array (Option Value)) (b : Str) (u : Tok) :
    Meets (Builtin.«dict.__ne__» ⟨[.ref l, .str b u], []⟩) (fun _ R s => s.heap.get? l = some { cls := .type "dict", dict := dd, data := .dict es n, slots := sl } ∧ R (.ok (.ret .notImplemented)) s) :=
  .of_wp fun prog w A R s h => by obtain ⟨hp, g, d, tk, os⟩ := s; obtain ⟨hl, h⟩ := h; have f1 := F.sub_str_dict; wp_walk using wpAny_loadPart' hl, wpAny_load hl; exact ⟨_, rfl, h⟩
theorem str_eq_declines_dict (b : Str) (u : Tok) (l : Addr) (es : Array DictEntry) (n : Nat) (dd : Option Addr) (sl : Array (Option Value)) :
    Meets (Builtin.«str.__eq__» ⟨[.str b u, .ref l], []⟩) (fun _ R s => s.heap.get? l = some { cls := .type "dict", dict := dd, data := .dict es n, slots := sl } ∧ R (.ok (.ret .notImplemented)) s) :=
  .of_wp fun prog w A R s h => by obtain ⟨hp, g, d, tk, os⟩ := s; obtain ⟨hl, h⟩ := h; wp_walk using wpAny_loadPart' hl, wpAny_load hl; exact ⟨_, rfl, h⟩
theorem str_ne_declines_dict (b : Str) (u : Tok) (l : Addr) (es : Array DictEntry) (n : Nat) (dd : Option Addr) (sl : Array (Option Value)) :
    Meets (Builtin.«str.__ne__» ⟨[.str b u, .ref l], []⟩) (fun _ R s => s.heap.get? l = some { cls := .type "dict", dict := dd, data := .dict es n, slots := sl } ∧ R (.ok (.ret .notImplemented)) s) :=
  .of_wp fun prog w A R s h => by obtain ⟨hp, g, d, tk, os⟩ := s; obtain ⟨hl, h⟩ := h; wp_walk using wpAny_loadPart' hl, wpAny_load hl; exact ⟨_, rfl, h⟩
end Ey
set_option maxHeartbeats 2000000
namespace Ey
open PySem PySem.Spec PyProof.Rows L2 GxR
/-! ### a law's own call: nothing is under way around it, so that repr is told of data -/
def LawOk (P : Program) (w : World) (K : PySem.W.Frag) (mg : Str → Option Value) (base : Heap) (f : Addr) (fd : FuncData) (x : Str) (sp : Sp) : Prop :=
  ∀ (s : Shared) (H : Hp) (u : Value) (v : V) (Q : VK), Env0 P w K mg base callerA [] s H → BindsTo s fd ⟨[u], []⟩ [(x, u)] → RelV v u → sp [v] H Q E0 →
    codeAny (model P w) callerA (.call (.ref f) ⟨[u], []⟩) (CR CX0 [] P w H s Q E0) s
section
variable {P : Program} {w : World} {K : PySem.W.Frag} {mg : Str → Option Value} {base : Heap}
theorem law_ok {x qual p : Str} {st : Stmt} {f : Addr} {fd : FuncData} {N : List Str} {k : Nat} {sp : Sp} (F : Fun K x qual st f fd) (S : FnScope N [p] (defScope st)) (hr : Room (k + 1) callerA)
    (body : ∀ (cdv : Value) (s : Shared) (H : Hp) (v : V) (Q : VK), Room k (callerA.deeper (envOfC qual (defScope st) s.heap.objs.size f cdv)) → sp [v] H Q E0 →
      ∃ t, PSs (cxOf CX0 P w K mg base N qual (defScope st) f cdv callerA [] s H E0).nox (defBody st) t ∧ t { nx := fun _ H' => Q .non H', rt := Q } (start N [v]) H) :
    LawOk P w K mg base f fd p sp := by
  obtain ⟨oc, od, kV, doc, pm, an, cdv, ct, osl, rfl, lk, code⟩ := F.ex
  intro s H u v Q e0 hb rv hsp
  have inK : K.In s.heap := e0.mod.kin.keeps fun b o e => (e0.bs b o e).1
  have noL : s.heap.NoLimit := e0.mod.nolimit.keeps fun b o e => (e0.bs b o e).1
  have kinds : ∀ y ∈ [p].zip [u], (defScope st).names.lookup y.1 = some .local ∨ ((defScope st).names.lookup y.1 = some .cell ∧ ((cellsFrom (s.heap.objs.size + 1) (defScope st).names []).lookup y.1).isSome = true) := fun ⟨n, z⟩ hy => by
    rcases S.par n (List.of_mem_zip hy).1 with q | q
    · exact .inl q
    · exact .inr ⟨q, PySem.W.cellsFrom_some _ _ _ (.inl q)⟩
  refine codeAny_call_function (Nat.lt_of_le_of_lt (by omega) hr.dp) (inK _ _ lk) rfl S.co S.gen rfl (PySem.W.codeRec_of inK code) (hb _ _ _ _ ?_)
  refine wpAny_newFunctionEnv_cells (binds := [p].zip [u]) S.kind kinds fun env he s1 xc => ?_
  subst he
  refine ⟨noL.keeps xc.toInCall.keep, codeAny_func ?_⟩
  obtain ⟨t, dv, rd⟩ := body cdv s H v Q (hr.deeper _) hsp
  have I := inv_start (CX := CX0) (E := E0) (P := P) (w := w) (K := K) (mg := mg) (base := base) (N := N) (ps := [p]) (A := callerA) (vs := [v]) (us := [u]) S rfl e0 rfl (.cons rv .nil) xc
  refine wpAny_mono (dv.nox.run [] s1 (start N [v]) H _ I rd) (fun fl s' hs => ?_) fun e s' hs => hs
  cases fl with
  | next =>
    obtain ⟨σ', H', J, q⟩ := hs
    exact ⟨V.non, H', J.os, J.bare, J.base, J.hok, rfl, q⟩
  | ret z =>
    obtain ⟨y, σ', H', J, ry, q⟩ := hs
    exact ⟨y, H', J.os, J.bare, J.base, J.hok, ry, q⟩
  | brk =>
    obtain ⟨_, _, _, q⟩ := hs
    exact q.elim
  | cont =>
    obtain ⟨_, _, _, q⟩ := hs
    exact q.elim
end
end Ey
set_option maxHeartbeats 2000000
namespace Ey
open PySem PySem.Spec PyProof.Rows L2 GxR
/-- the tables cs stand empty in h, outside the written part -/
structure Tabs (K : PySem.W.Frag) (h : Heap) (cs : List (Addr × Addr)) : Prop where
  at_ : ∀ p ∈ cs, h.get? p.2 = some { cls := .none, data := .fields #[] }
  out : ∀ p ∈ cs, K.lookup p.2 = none
  hd : ∀ p ∈ cs, PySem.W.CodeHd h p.1 p.2
/-- what a heap says of the module's own builtins -/
def BMain (mg : Str → Option Value) (h : Heap) : Prop :=
  ∃ (bm : Addr) (ob : Obj), mg "__builtins__" = some (.ref bm) ∧ bm ≠ builtinsNs ∧ h.get? bm = some ob ∧ ob.cls = .type "module" ∧ ob.dict = some builtinsNs ∧ ob.data = .plain
section
variable {P : Program} {w : World} {K : PySem.W.Frag} {mg mb : Str → Option Value}
/-- the script at a, the tables cs: what is tracked ahead of the law -/
def start0 (K : PySem.W.Frag) (a : Addr) (o : Obj) (ns : List Int) (cs : List (Addr × Addr)) : Hp := fun b =>
  if b ∈ cs.map (·.2) then some (.tbl #[]) else if b = a ∧ K.lookup a = none then some (.frz o (.lst (ns.map V.int))) else none
theorem call_law {f a : Addr} {cs : List (Addr × Addr)} {fd : FuncData} {x : Str} {sp : Sp} {z : Shared} {vs : List Value} {ns : List Int}
    (KX : K.In z.heap) (hns : z.heap.Ns mainGlobals mg) (hb : z.heap.Ns builtinsNs mb) (hbb : ∀ x : Str, x ≠ "__name__" → mb x = bootBuiltins x) (lim : z.heap.NoLimit) (hsm : ∃ mm, z.heap.Ns sysModules mm) (hg : z.gens = #[])
    (T : Tabs K z.heap cs) (hbm : BMain mg z.heap) (ha : z.heap.get? a = some { cls := .type "list", data := .seq vs.toArray }) (hi : IntsAre vs ns) (hl : ns.length ≤ sizeLine)
    (F : ∀ base : Heap, K.In base → base.Ns mainGlobals mg → (∀ p ∈ cs, TabB base mg p.1 p.2) → (∃ mm, base.Ns sysModules mm) → LawOk P w K mg base f fd x sp) (hbind : ∀ (s : Shared) (u : Value), BindsTo s fd ⟨[u], []⟩ [(x, u)])
    (hsp : ∀ H : Hp, (∀ p ∈ cs, H p.2 = some (.tbl #[])) → SqL K H a (ns.map V.int) → sp [.ref a] H (fun v _ => v = .bl true) E0) :
    codeAny (model P w) callerA (.call (.ref f) ⟨[.ref a], []⟩) (fun r s' => r = .ok (.ret (.bool true)) ∧ OldK z.heap s'.heap ∧ s'.os = z.os ∧ AllBare s'.gens) z := by
  have rv := vals_ints hi
  have nV : vs.length = ns.length := hi.length
  have tabAt : ∀ b : Addr, b ∈ cs.map (·.2) → z.heap.get? b = some { cls := .none, data := .fields #[] } ∧ K.lookup b = none := fun b m => by
    obtain ⟨p, hp, rfl⟩ := List.mem_map.mp m
    exact ⟨T.at_ p hp, T.out p hp⟩
  have aT : a ∉ cs.map (·.2) := fun m => by
    have e := (tabAt a m).1
    rw [ha] at e
    injection e with e
    have e' : Data.seq vs.toArray _ = Data.fields #[] := congrArg Obj.data e
    cases e'
  let H : Hp := start0 K a { cls := .type "list", data := .seq vs.toArray } ns cs
  have HT : ∀ p ∈ cs, H p.2 = some (.tbl #[]) := fun p hp => if_pos (List.mem_map.mpr ⟨p, hp, rfl⟩)
  have Hcase : ∀ b, H b = none ∨ (b ∈ cs.map (·.2) ∧ H b = some (.tbl #[])) ∨ (b = a ∧ K.lookup a = none ∧ H b = some (.frz { cls := .type "list", data := .seq vs.toArray } (.lst (ns.map V.int)))) := fun b => by
    by_cases h1 : b ∈ cs.map (·.2)
    · exact .inr (.inl ⟨h1, if_pos h1⟩)
    · by_cases h2 : b = a ∧ K.lookup a = none
      · exact .inr (.inr ⟨h2.1, h2.2, (if_neg h1).trans (if_pos h2)⟩)
      · exact .inl ((if_neg h1).trans (if_neg h2))
  have HS : SqL K H a (ns.map V.int) := by
    cases hk : K.lookup a with
    | some o =>
      have e := KX a o hk
      rw [ha] at e
      injection e with e
      subst e
      exact .inr ⟨_, vs.toArray, _, hk, rfl, rfl, rfl, by rw [List.size_toArray, nV]; exact hl, by simpa using rv⟩
    | none => exact .inl (.inr ⟨_, (if_neg aT).trans (if_pos ⟨rfl, hk⟩)⟩)
  have HO : HOk P w H z.heap := fun b u e => by
    rcases Hcase b with q | ⟨m, q⟩ | ⟨m, _, q⟩
    · rw [q] at e
      cases e
    · rw [q] at e
      cases e
      exact (tabAt b m).1
    · rw [q] at e
      cases e
      subst m
      exact ⟨ha, by rw [List.length_map]; exact hl, vs, _, rv, ha⟩
  -- what is neither the script nor a table stands in the base
  have inB : ∀ {b : Addr} {o : Obj}, z.heap.get? b = some o → (∀ xs n, o.data ≠ .seq xs n) → o.data ≠ .fields #[] → (hidT z.heap H).get? b = some o := fun {b o} e h1 h2 => by
    refine hidT_get e ?_
    rcases Hcase b with q | ⟨m, q⟩ | ⟨m, _, q⟩
    · exact q
    · rw [(tabAt b m).1] at e
      injection e with e
      subst e
      exact absurd rfl h2
    · subst m
      rw [ha] at e
      injection e with e
      subst e
      exact absurd rfl (h1 _ _)
  have nsB : ∀ {b : Addr} {m : Str → Option Value}, z.heap.Ns b m → (hidT z.heap H).Ns b m := fun {b m} ⟨o, es, ep, e, d, r⟩ =>
    ⟨o, es, ep, inB e (fun xs n q => by rw [d] at q; cases q) (fun q => by rw [d] at q; cases q), d, r⟩
  have KB : K.In (hidT z.heap H) := fun b o e => by
    refine hidT_get (KX b o e) ?_
    rcases Hcase b with q | ⟨m, q⟩ | ⟨m, n, q⟩
    · exact q
    · rw [(tabAt b m).2] at e
      cases e
    · subst m
      rw [n] at e
      cases e
  have M : L2.Mod K mg (hidT z.heap H) := ⟨KB, nsB hns, ⟨mb, nsB hb, hbb⟩, let ⟨mc, h1, h2⟩ := lim; ⟨mc, nsB h1, h2⟩⟩
  have TB : ∀ p ∈ cs, TabB (hidT z.heap H) mg p.1 p.2 := fun p hp => by
    have pT := T.at_ p hp
    refine ⟨?_, ?_, fun q => ?_⟩
    · obtain ⟨o, us, fi, tf, fl, tg, nf, tx, tt, e1, r1, r2, r3, rest⟩ := T.hd p hp
      refine ⟨o, us, fi, tf, fl, tg, nf, tx, tt, inB e1 (fun xs n q => ?_) (fun q => ?_), r1, r2, r3, rest⟩
      · rw [r2] at q
        cases q
      · rw [r2] at q
        cases q
        simp at r3
    · obtain ⟨bm, ob, b1, b2, b3, b4, b5, b6⟩ := hbm
      refine ⟨bm, ob, b1, b2, fun q => ?_, fun q => ?_, inB b3 (fun xs n q => ?_) (fun q => ?_), b4, b5, b6⟩
      · obtain ⟨o, es, ep, e, d, _⟩ := hns
        rw [q, e] at b3
        injection b3 with b3
        subst b3
        rw [d] at b6
        cases b6
      · rw [q, pT] at b3
        injection b3 with b3
        subst b3
        cases b6
      · rw [b6] at q
        cases q
      · rw [b6] at q
        cases q
    · obtain ⟨o, es, ep, e, d, _⟩ := hns
      rw [q, pT] at e
      injection e with e
      subst e
      cases d
  have e0 : Env0 P w K mg (hidT z.heap H) callerA [] z H := ⟨rfl, M, fun b o e => of_hidT e, Nat.le_of_eq (hidT_size _ _), trivial, fun b m => absurd m List.not_mem_nil, HO, .of_eq hg⟩
  refine codeAny_mono (F _ KB (nsB hns) TB (let ⟨mm, q⟩ := hsm; ⟨mm, nsB q⟩) z H (.ref a) (.ref a) _ e0 (hbind z _) rfl (hsp H HT HS)) fun r s' h => ?_
  cases r with
  | error e => exact h.elim
  | ok fl =>
    cases fl with
    | next => exact h.elim
    | brk => exact h.elim
    | cont => exact h.elim
    | ret u =>
      obtain ⟨v, H', os, bare, un, ok', r', q⟩ := h
      have q' : v = .bl true := q
      subst q'
      obtain rfl : u = Value.bool true := r'
      have keep : ∀ b o, b ∉ cs.map (·.2) → z.heap.get? b = some o → s'.heap.get? b = some o := fun b o nb e => by
        rcases Hcase b with q | ⟨m, q⟩ | ⟨m, _, q⟩
        · exact un.keep b o e q List.not_mem_nil List.not_mem_nil
        · exact absurd m nb
        · have e1 := (HO b _ q).1
          rw [e] at e1
          injection e1 with e1
          subst e1
          exact (ok' b _ (un.frzs b _ _ q)).1
      have grown : ∀ b, b ∈ cs.map (·.2) → ∃ more : Array Value, s'.heap.get? b = some { cls := .none, data := .fields more } := fun b m => by
        obtain ⟨p, hp, rfl⟩ := List.mem_map.mp m
        obtain ⟨more, q⟩ := un.tbls p.2 #[] (HT p hp)
        exact ⟨_, ok' p.2 _ q⟩
      refine ⟨rfl, ⟨fun b o e => ?_, fun b o e => ?_⟩, os, bare⟩
      · by_cases m : b ∈ cs.map (·.2)
        · obtain ⟨more, g⟩ := grown b m
          obtain ⟨p, hp, rfl⟩ := List.mem_map.mp m
          rw [T.at_ p hp] at e
          injection e with e
          subst e
          exact .inr (.inl ⟨((T.hd p hp).tab (T.at_ p hp)).isCodeTable, rfl, #[], more, rfl, by rw [Array.empty_append]; exact g⟩)
        · exact .inl (keep b o m e)
      · by_cases m : b ∈ cs.map (·.2)
        · obtain ⟨more, g⟩ := grown b m
          exact ⟨_, g⟩
        · exact ⟨o, keep b o m e⟩
end
/-- the goal that k_head leaves, from the law's promise at any base -/
theorem walk_law {l : PySem.W.OpenLaw} {n : Nat} {q : Program} {loose : List Str} {XP : (Str → Option Value) → Heap → Prop} {YP : World → Heap → Prop} {d : DefRec} {K : Params → PySem.W.Frag} {x : Str}
    (hi0 : PyProof.Rows.importsNone q = true) (hn : l.most = some n) (hn2 : n ≤ sizeLine) (hdf : d.params.defaults = []) (hY : ∀ (w : World) (h : Heap), YP w h → (K w.params).In h)
    (F : ∀ (w : World) (mg : Str → Option Value) (f : Addr) (h : Heap) (lo : List Str) (mean : ExcName → Option Value) (mb : Str → Option Value), (K w.params).In h → PyProof.Rows.Top q lo mean mg mb h → mg d.name = some (.ref f) →
      ∃ (fd : FuncData) (cs : List (Addr × Addr)) (sp : Sp), Tabs (K w.params) h cs ∧ (∀ (s : Shared) (u : Value), BindsTo s fd ⟨[u], []⟩ [(x, u)]) ∧
        (∀ (H : Hp) (a : Addr) (ns : List Int), ns.length ≤ n → (∀ p ∈ cs, H p.2 = some (.tbl #[])) → SqL (K w.params) H a (ns.map V.int) → sp [.ref a] H (fun v _ => v = .bl true) E0) ∧
        ∀ base : Heap, (K w.params).In base → base.Ns mainGlobals mg → (∀ p ∈ cs, TabB base mg p.1 p.2) → (∃ mm, base.Ns sysModules mm) → LawOk l.prog w (K w.params) mg base f fd x sp) :
    PySem.W.WalkO q loose XP YP l.row.toRowW d [] (fun f vs => PySem.call f vs) := by
  refine Att.attach_call hn hdf fun w s₀ z mg mb f o pm cd doc a vs ns G Y ho hd hcd hmg hobj hi hlen hg => ?_
  obtain ⟨fd, cs, sp, T, hb, hsp, hF⟩ := F w mg f _ _ _ _ (hY w _ Y) G.T hmg
  exact call_law (hY w _ Y) G.T.g G.T.b G.T.builtins G.T.nolimit (let ⟨mm, q, _⟩ := (G.T.seer hi0).mods; ⟨mm, q⟩) hg T G.T.bmain hobj hi (Nat.le_trans hlen hn2) hF hb fun H h1 h2 => hsp H a ns hlen h1 h2
end Ey
set_option maxHeartbeats 2000000
namespace PySem.W
open PySem PySem.Calls PyProof.Rows PyProof.V PySem.Spec Builtin
section
variable {prog : Program} {w : World} {A : Around} {E : Value → Shared → Prop} {s : Shared} {T : String} {r d : Addr} {n : Nat} {P : Nat → Value → Prop} {OK : Heap → Prop}
/-- what a source yields, collected -/
theorem ey_collect {Q : List Value → Shared → Prop} (K : KdlSrc prog w T r d n P OK) (hh : A.handled = none) (hok : OK s.heap) (hn : n ≤ sizeLine)
    (hQ : ∀ h' tk (acc : Array Value), (∀ b o, s.heap.get? b = some o → h'.get? b = some o) → ItemsOf P acc n → Q acc.toList { s with heap := h', toks := tk }) :
    wpAny (model prog w) A (collect (.ref r)) Q E s := by
  unfold collect
  refine wpAny_bind (wpAny_runValue (codeAny_builtin PySem.F.entry_proto_collect ?_))
  rw [Around.under_plainId PySem.F.plain_proto_collect _]
  show wpAny _ A.in1 (newList [] >>= fun l => again (.builtin "list.__iadd__" ⟨[l, .ref r], []⟩)) _ _ s
  refine wpAny_bind (wpAny_newObj_type (wpAny_pure ⟨plainId_quiet PySem.F.plain_list_iadd _, codeAny_builtin PySem.F.entry_list_iadd ?_⟩))
  rw [Around.under_plainId PySem.F.plain_list_iadd _]
  show wpAny _ A.in1 (Builtin.List.listExtendWith (.ref s.heap.objs.size) (.ref r) (.ref s.heap.objs.size)) _ _ _
  have at0 : (s.heap.push { cls := .type "list", data := .seq ([] : List Value).toArray }).get? s.heap.objs.size = some { cls := .type "list", data := .seq #[] 0 } := Heap.get?_push_size _ rfl
  have lt := K.there _ hok
  have ok1 : OK (s.heap.push { cls := .type "list", data := .seq ([] : List Value).toArray }) := K.keep _ _ hok fun b _ o e => Heap.get?_push_of_some _ e
  have fin : ∀ (h' : Heap) (tk : Nat) (acc : Array Value) (c : Nat), (∀ b o, s.heap.get? b = some o → h'.get? b = some o) → h'.get? s.heap.objs.size = some { cls := .type "list", dict := none, data := .seq acc c, slots := #[] } → ItemsOf P acc n →
      wpAny (model prog w) A (match Value.ref s.heap.objs.size with
      | Value.ref a => do
        match (← load a).data with
          | Data.seq xs _ => pure xs.toList
          | _ => unsupported "internal:collect"
      | _ => unsupported "internal:collect") Q E { s with heap := h', toks := tk } := fun h' tk acc c hk at1 it => by
    show wpAny _ A (load s.heap.objs.size >>= _) _ _ _
    exact wpAny_bind (wpAny_load at1 (wpAny_pure (hQ h' tk acc hk it)))
  refine wpAny_mono (kdl_extend (A := A) (s := { s with heap := s.heap.push { cls := .type "list", data := .seq ([] : List Value).toArray } })
    (R := fun q s' => q = .ok (.ret (.ref s.heap.objs.size)) ∧ ∃ (h' : Heap) (tk : Nat) (acc : Array Value) (c : Nat), s' = { s with heap := h', toks := tk } ∧ (∀ b o, s.heap.get? b = some o → h'.get? b = some o) ∧ h'.get? s.heap.objs.size = some { cls := .type "list", dict := none, data := .seq acc c, slots := #[] } ∧ ItemsOf P acc n)
    K hh ok1 s.heap.objs.size (Nat.ne_of_gt lt.1) (Nat.ne_of_gt lt.2) (.ref s.heap.objs.size) 0 at0 (fun h' tk acc c hk at1 it => ⟨rfl, h', tk, acc, c, rfl, fun b o e => hk b o (Nat.ne_of_lt (Heap.lt_size e)) (Heap.get?_push_of_some _ e), at1, it⟩) hn) (fun q s' h => ?_) (fun e s' h => ?_)
  · cases q with
    | done f =>
      obtain ⟨e, h', tk, acc, c, rfl, hk, at1, it⟩ := h
      cases e
      exact fin h' tk acc c hk at1 it
    | again c' =>
      refine ⟨h.1, codeAny_mono h.2 fun q s2 hq => ?_⟩
      obtain ⟨rfl, h', tk, acc, c, rfl, hk, at1, it⟩ := hq
      exact fin h' tk acc c hk at1 it
  · exact absurd h.1 (by simp)
/-- tuple(of it) -/
theorem ey_tuple_new {Q₁ : Value → Shared → Prop} (K : KdlSrc prog w "dict" r d n P OK) (hh : A.handled = none) (hok : OK s.heap) (hn : n ≤ sizeLine)
    (h : ∀ (h' : Heap) (tk : Nat) (acc : Array Value), (∀ b o, s.heap.get? b = some o → h'.get? b = some o) → ItemsOf P acc n → Q₁ (.ref h'.objs.size) { s with heap := h'.push { cls := .type "tuple", data := .seq acc }, toks := tk }) :
    codeAny (model prog w) A (.call (.builtin "tuple.__new__") ⟨[.type "tuple", .ref r], []⟩) (wants Q₁ E) s := by
  refine codeAny_of_tree ?_
  show wpAny _ A.in1 (do checkBuiltinCall "tuple.__new__" ⟨[.type "tuple", .ref r], []⟩; again (.builtin "tuple.__new__" ⟨[.type "tuple", .ref r], []⟩)) _ _ s
  refine wpAny_bind (wpAny_of_eq (PySem.F.newCall_tuple_1 _) (wpAny_pure ⟨plainId_quiet PySem.F.plain_tuple_new _, codeAny_builtin PySem.F.entry_tuple_new ?_⟩))
  rw [Around.under_plainId PySem.F.plain_tuple_new _]
  have sub1 := sub_tuple_self
  have init1 := init_tuple_lookup
  have made1 := madeHere_tuple
  have ty1 := K.type s hok
  wp_walk using wpAny_typeOf ty1, ey_collect (A := A.in1) K hh hok hn
  intro h' tk acc hk it
  show wpAny _ _ (Builtin.Tuple.tupleExact acc.toList.toArray >>= fun v => ret v) _ _ _
  unfold Builtin.Tuple.tupleExact
  refine wpAny_bind (wpAny_newObj_type ?_ (by show acc.toList.toArray.size ≤ sizeLine; rw [Array.toArray_toList, it.1]; exact hn))
  refine wpAny_pure ?_
  rw [Array.toArray_toList]
  exact h h' tk acc hk it
theorem ey_tuple {Q : Value → Shared → Prop} (K : KdlSrc prog w "dict" r d n P OK) (hh : A.handled = none) (hok : OK s.heap) (hn : n ≤ sizeLine)
    (h : ∀ (h' : Heap) (tk : Nat) (acc : Array Value), (∀ b o, s.heap.get? b = some o → h'.get? b = some o) → ItemsOf P acc n → Q (.ref h'.objs.size) { s with heap := h'.push { cls := .type "tuple", data := .seq acc }, toks := tk }) :
    wpAny (model prog w) A (call (.type "tuple") [.ref r]) Q E s := by
  refine callType_codes (Q₁ := fun o z => z.TypeIs o "tuple" ∧ Q o z) PySem.F.called_tuple (PySem.F.typeCall_tuple_1 _) PySem.F.entry_object_init
    (ey_tuple_new (A := A.in1) K hh hok hn fun h' tk acc hk it => ⟨⟨_, Heap.get?_push_size _ rfl, rfl⟩, h h' tk acc hk it⟩) fun o z hz => ?_
  exact ⟨hz.1, PySem.F.args_object_init_2 o _, object_init_meets PySem.F.called_tuple.init.lookup PySem.F.called_tuple.made (by decide) prog w A.in1 _ z ⟨hz.1, rfl, hz.2⟩⟩
end
end PySem.W
namespace Ey
open PySem PySem.Spec PyProof.Rows L2
/-- tuple(d), d a dict: its keys -/
def rTupD : List V → Hp → VK → Prop := fun xs H Q => ∃ p kvs, xs = [.ref p] ∧ H p = some (.dK kvs) ∧ ∀ q, H q = none → Q (.ref q) (upd H q (.tup (kvs.map fun kv => kV kv.1)))
theorem call_tupD {X : Cx} (hc : X.calm = true) : CallR X (.type "tuple") rTupD := by
  intro pins s σ H xs us Q I r h
  obtain ⟨p, kvs, rfl, hk, q⟩ := h
  obtain ⟨u, rfl, rx⟩ := vals1 r
  obtain rfl : u = Value.ref p := rx
  obtain ⟨z, lo, vs, rk, hd⟩ := (show ObjOk X.prog X.w H s.heap p (.dK kvs) from I.hok p _ hk)
  obtain ⟨ep, at0⟩ := hd.dictAt
  have nl : kvs.length = vs.length := Paired.length rk
  refine PySem.W.ey_tuple (PySem.W.kdl_dict (knd := mixKind X.prog X.w) (kvs := vs) (ep := ep) lo) (I.ok.hd hc) at0 (by rw [← nl]; exact z) fun h' tk acc keep it => ?_
  have I1 : Inv X pins σ H { s with heap := h', toks := tk } := I.kept keep
  refine ⟨.ref h'.objs.size, upd H h'.objs.size (.tup (kvs.map fun kv => kV kv.1)), I1.laid (t' := tk) (fun b o e => Heap.get?_push_of_some _ e) (Nat.le_refl _) (show ObjOk X.prog X.w _ _ _ (.tup _) from ⟨?_, acc.toList, ?_, ?_⟩), rfl, q _ (I1.hok.fresh (Nat.le_refl _))⟩
  · rw [List.length_map]
    exact z
  · have nA : acc.toList.length = acc.size := by simp
    refine vals_of_at (by rw [List.length_map, nA, it.1, nl]) fun j x v h1 h2 => ?_
    obtain ⟨k, y, e, ki⟩ := it.2 j v (by rw [← Array.getElem?_toList]; exact h2)
    have e1 : (kvs.map (·.1))[j]? = some k := by
      rw [KV.keys rk, List.getElem?_map, e]
      rfl
    rw [List.getElem?_map] at h1 e1
    cases g : kvs[j]? with
    | none =>
      rw [g] at e1
      cases e1
    | some kv =>
      rw [g] at e1 h1
      injection e1 with e1
      injection h1 with h1
      have e2 : kv.1 = k := e1
      rw [← h1]
      show L2.RelV (kV kv.1) v
      rw [e2]
      exact keyIs_rel ki
  · have := IsTup.new h' acc
    rw [Array.toArray_toList]
    exact this
end Ey
/-! Trees, places: the mathematics. -/
namespace Ey
open PySem PySem.Spec PyProof.Rows
/-! ### texts as lists of signs -/
def st (p : List Nat) : Str := ⟨p.toArray⟩
theorem st_inj {p q : List Nat} (h : st p = st q) : p = q := by
  have h2 : p.toArray = q.toArray := congrArg Str.cps h
  simpa using h2
theorem st_app (p q : List Nat) : st p ++ st q = st (p ++ q) := by
  show (⟨p.toArray ++ q.toArray⟩ : Str) = ⟨(p ++ q).toArray⟩
  rw [List.append_toArray]
theorem st_len (p : List Nat) : (st p).length = p.length := rfl
theorem st_list (p : List Nat) : (st p).cps.toList = p := rfl
theorem st_of (x : Str) : x = st x.cps.toList := by
  cases x
  rfl
theorem st_ne {p q : List Nat} (h : p ≠ q) : st p ≠ st q := fun e => h (st_inj e)
/-! ### trees -/
inductive Tr where
  | nil
  | nd (tag : Str) (l r : Tr)
def abc : List Nat := [97, 98, 99, 100, 101, 102, 103, 104, 105, 106, 107, 108, 109, 110, 111, 112, 113, 114, 115, 116, 117, 118, 119, 120, 121, 122]
def isTag (x : Str) : Bool := decide (1 ≤ x.length) && decide (x.length ≤ 8) && x.cps.toList.all fun c => decide (c ∈ abc)
def Tr.ok : Tr → Prop
  | .nil => True
  | .nd g l r => isTag g = true ∧ l.ok ∧ r.ok
def Tr.sz : Tr → Nat
  | .nil => 0
  | .nd _ l r => l.sz + r.sz + 1
def Tr.ht : Tr → Nat
  | .nil => 0
  | .nd _ l r => max l.ht r.ht + 1
def Tr.full : Tr → Bool
  | .nil => false
  | .nd _ _ _ => true
def pl : Tr → List (List Nat)
  | .nil => [[]]
  | .nd _ l r => [] :: ((pl l).map (108 :: ·) ++ (pl r).map (114 :: ·))
def pt : Tr → List Nat → Tr
  | t, [] => t
  | .nil, _ :: _ => .nil
  | .nd _ l r, c :: p => if c = 108 then pt l p else pt r p
def isP : Tr → List Nat → Bool
  | _, [] => true
  | .nil, _ :: _ => false
  | .nd _ l r, c :: p => if c = 108 then isP l p else if c = 114 then isP r p else false
theorem pt_nil (t : Tr) : pt t [] = t := by cases t <;> rfl
theorem isP_nil (t : Tr) : isP t [] = true := by cases t <;> rfl
theorem isP_iff : ∀ (t : Tr) (p : List Nat), isP t p = true ↔ p ∈ pl t
  | .nil, [] => by simp [pl, isP]
  | .nil, c :: p => by simp [pl, isP]
  | .nd g l r, [] => by simp [pl, isP]
  | .nd g l r, c :: p => by
    have il := isP_iff l p
    have ir := isP_iff r p
    have e : (c :: p) ∈ pl (.nd g l r) ↔ (c = 108 ∧ p ∈ pl l) ∨ (c = 114 ∧ p ∈ pl r) := by
      simp only [pl, List.mem_cons, List.mem_append, List.mem_map, reduceCtorEq, false_or]
      constructor
      · rintro (⟨q, hq, e⟩ | ⟨q, hq, e⟩)
        · cases e
          exact .inl ⟨rfl, hq⟩
        · cases e
          exact .inr ⟨rfl, hq⟩
      · rintro (⟨rfl, h⟩ | ⟨rfl, h⟩)
        · exact .inl ⟨p, h, rfl⟩
        · exact .inr ⟨p, h, rfl⟩
    rw [e, ← il, ← ir]
    show (if c = 108 then isP l p else if c = 114 then isP r p else false) = true ↔ _
    by_cases h1 : c = 108
    · subst h1
      simp
    · by_cases h2 : c = 114
      · subst h2
        simp
      · simp [h1, h2]
theorem pl_len : ∀ t : Tr, (pl t).length = 2 * t.sz + 1
  | .nil => rfl
  | .nd g l r => by
    simp only [pl, List.length_cons, List.length_append, List.length_map, pl_len l, pl_len r, Tr.sz]
    omega
theorem pl_ht : ∀ (t : Tr) (p : List Nat), p ∈ pl t → p.length ≤ t.ht
  | .nil, p, h => by
    simp only [pl, List.mem_singleton] at h
    subst h
    exact Nat.zero_le _
  | .nd g l r, p, h => by
    simp only [pl, List.mem_cons, List.mem_append, List.mem_map] at h
    rcases h with rfl | ⟨q, hq, rfl⟩ | ⟨q, hq, rfl⟩
    · exact Nat.zero_le _
    · have := pl_ht l q hq
      simp only [List.length_cons, Tr.ht]
      omega
    · have := pl_ht r q hq
      simp only [List.length_cons, Tr.ht]
      omega
theorem ht_sz : ∀ t : Tr, t.ht ≤ t.sz
  | .nil => Nat.le_refl _
  | .nd g l r => by
    have a := ht_sz l
    have b := ht_sz r
    simp only [Tr.ht, Tr.sz]
    omega
theorem pl_ne (t : Tr) : pl t ≠ [] := by cases t <;> simp [pl]
theorem pl_head (t : Tr) : (pl t)[0]? = some [] := by cases t <;> rfl
theorem pl_signs : ∀ (t : Tr) (p : List Nat), p ∈ pl t → ∀ c ∈ p, c = 108 ∨ c = 114
  | .nil, p, h => by
    simp only [pl, List.mem_singleton] at h
    subst h
    exact fun c hc => absurd hc List.not_mem_nil
  | .nd g l r, p, h => by
    simp only [pl, List.mem_cons, List.mem_append, List.mem_map] at h
    rcases h with rfl | ⟨q, hq, rfl⟩ | ⟨q, hq, rfl⟩
    · exact fun c hc => absurd hc List.not_mem_nil
    · intro c hc
      rcases List.mem_cons.mp hc with e | e
      · exact .inl e
      · exact pl_signs l q hq c e
    · intro c hc
      rcases List.mem_cons.mp hc with e | e
      · exact .inr e
      · exact pl_signs r q hq c e
/-! ### the order -/
def ltL (a b : List Nat) : Prop := ltCps a b = true
theorem ltL_cons {c : Nat} {a b : List Nat} : ltL (c :: a) (c :: b) ↔ ltL a b := by simp [ltL, ltCps]
theorem ltL_nil {c : Nat} {a : List Nat} : ltL [] (c :: a) := rfl
theorem ltL_lt {c d : Nat} {a b : List Nat} (h : c < d) : ltL (c :: a) (d :: b) := by simp [ltL, ltCps, h]
theorem ltL_irr : ∀ a : List Nat, ¬ ltL a a
  | [] => by simp [ltL, ltCps]
  | c :: a => by
    rw [ltL_cons]
    exact ltL_irr a
theorem ltL_trans : ∀ {a b c : List Nat}, ltL a b → ltL b c → ltL a c
  | [], [], _, h, _ => absurd h (ltL_irr [])
  | [], _ :: _, [], _, h => by simp [ltL, ltCps] at h
  | [], _ :: _, _ :: _, _, _ => rfl
  | _ :: _, [], _, h, _ => by simp [ltL, ltCps] at h
  | _ :: _, _ :: _, [], _, h => by simp [ltL, ltCps] at h
  | x :: a, y :: b, z :: c, h1, h2 => by
    simp only [ltL, ltCps, Bool.or_eq_true, decide_eq_true_eq, Bool.and_eq_true, beq_iff_eq] at h1 h2 ⊢
    rcases h1 with h1 | ⟨rfl, h1⟩
    · rcases h2 with h2 | ⟨rfl, h2⟩
      · exact .inl (Nat.lt_trans h1 h2)
      · exact .inl h1
    · rcases h2 with h2 | ⟨rfl, h2⟩
      · exact .inl h2
      · exact .inr ⟨rfl, ltL_trans h1 h2⟩
theorem ltL_tri : ∀ a b : List Nat, ltL a b ∨ a = b ∨ ltL b a
  | [], [] => .inr (.inl rfl)
  | [], _ :: _ => .inl rfl
  | _ :: _, [] => .inr (.inr rfl)
  | x :: a, y :: b => by
    rcases Nat.lt_trichotomy x y with h | rfl | h
    · exact .inl (ltL_lt h)
    · rcases ltL_tri a b with h | rfl | h
      · exact .inl (ltL_cons.mpr h)
      · exact .inr (.inl rfl)
      · exact .inr (.inr (ltL_cons.mpr h))
    · exact .inr (.inr (ltL_lt h))
theorem pl_up : ∀ t : Tr, (pl t).Pairwise ltL
  | .nil => by simp [pl]
  | .nd g l r => by
    simp only [pl, List.pairwise_cons, List.pairwise_append, List.pairwise_map]
    refine ⟨fun p hp => ?_, (pl_up l).imp fun h => ltL_cons.mpr h, (pl_up r).imp fun h => ltL_cons.mpr h, fun a ha b hb => ?_⟩
    · simp only [List.mem_append, List.mem_map] at hp
      rcases hp with ⟨q, _, rfl⟩ | ⟨q, _, rfl⟩
      · exact rfl
      · exact rfl
    · simp only [List.mem_map] at ha hb
      obtain ⟨p, _, rfl⟩ := ha
      obtain ⟨q, _, rfl⟩ := hb
      exact ltL_lt (by decide)
theorem pl_nodup (t : Tr) : (pl t).Nodup := (pl_up t).imp fun {a b} h e => by
  subst e
  exact ltL_irr _ h
/-- what sorted hands back, of texts that are all unlike -/
theorem rising_pw : ∀ (l : List Str) (p : Str), risingS p l = true → (p :: l).Pairwise fun a b => ¬ ltL b.cps.toList a.cps.toList
  | [], p, _ => by simp
  | x :: r, p, h => by
    simp only [risingS, Bool.and_eq_true, Bool.not_eq_true'] at h
    have ih := rising_pw r x h.2
    have h1 : ¬ ltL x.cps.toList p.cps.toList := by
      intro e
      rw [ltL, h.1] at e
      cases e
    rw [List.pairwise_cons]
    refine ⟨fun y hy => ?_, ih⟩
    rcases List.mem_cons.mp hy with rfl | hy
    · exact h1
    · have h2 := (List.pairwise_cons.mp ih).1 y hy
      intro e
      rcases ltL_tri x.cps.toList p.cps.toList with q | q | q
      · exact h1 q
      · rw [← q] at e
        exact h2 e
      · exact h2 (ltL_trans e q)
theorem sorted_is {l : List Str} {ps : List (List Nat)} (h : l.Perm (ps.map st)) (hs : sortedS l = true) (hp : ps.Pairwise ltL) : l = ps.map st := by
  have pw : l.Pairwise fun a b => ¬ ltL b.cps.toList a.cps.toList := by
    cases l with
    | nil => simp
    | cons x r => exact rising_pw r x hs
  have pw2 : (ps.map st).Pairwise fun a b => ¬ ltL b.cps.toList a.cps.toList := by
    rw [List.pairwise_map]
    exact hp.imp fun {a b} h e => ltL_irr _ (ltL_trans h e)
  refine List.Perm.eq_of_pairwise (fun a b _ _ h1 h2 => ?_) pw pw2 h
  rcases ltL_tri a.cps.toList b.cps.toList with q | q | q
  · exact absurd q h2
  · rw [st_of a, st_of b, q]
  · exact absurd q h1
/-! ### the next place -/
def stripR (p : List Nat) : List Nat := (p.reverse.dropWhile fun c => c == 114).reverse
def nxt (full : Bool) (p : List Nat) : Option (List Nat) :=
  if full = true then some (p ++ [108]) else if stripR p = [] then none else some ((stripR p).dropLast ++ [114])
theorem dropWhile_snoc (f : Nat → Bool) (a : List Nat) (c : Nat) : (a ++ [c]).dropWhile f = if a.dropWhile f = [] then [c].dropWhile f else a.dropWhile f ++ [c] := by
  induction a with
  | nil => simp
  | cons x a ih =>
    rw [List.cons_append]
    by_cases h : f x = true
    · rw [List.dropWhile_cons_of_pos h, List.dropWhile_cons_of_pos h]
      exact ih
    · rw [List.dropWhile_cons_of_neg h, List.dropWhile_cons_of_neg h]
      simp
theorem stripR_cons (c : Nat) (p : List Nat) : stripR (c :: p) = if stripR p = [] then (if c = 114 then [] else [c]) else c :: stripR p := by
  unfold stripR
  rw [List.reverse_cons, dropWhile_snoc]
  by_cases h : (p.reverse.dropWhile fun c => c == 114) = []
  · rw [if_pos h, if_pos (by rw [h]; rfl)]
    by_cases hc : c = 114
    · simp [hc]
    · simp [hc]
  · rw [if_neg h, if_neg (by rw [List.reverse_eq_nil_iff]; exact h)]
    simp
theorem nxt_cons {f : Bool} {c : Nat} {p q : List Nat} (h : nxt f p = some q) : nxt f (c :: p) = some (c :: q) := by
  unfold nxt at h ⊢
  by_cases hf : f = true
  · rw [if_pos hf] at h ⊢
    cases h
    rfl
  · rw [if_neg hf] at h ⊢
    by_cases hp : stripR p = []
    · rw [if_pos hp] at h
      cases h
    · rw [if_neg hp] at h
      injection h with h
      have e : stripR (c :: p) = c :: stripR p := by rw [stripR_cons, if_neg hp]
      rw [e, if_neg (by simp), ← h, List.dropLast_cons_of_ne_nil hp]
      rfl
theorem nxt_last {f : Bool} {p : List Nat} (h : nxt f p = none) : nxt f (108 :: p) = some [114] ∧ nxt f (114 :: p) = none := by
  unfold nxt at h ⊢
  by_cases hf : f = true
  · rw [if_pos hf] at h
    cases h
  · rw [if_neg hf] at h
    by_cases hp : stripR p = []
    · rw [if_neg hf, if_neg hf, stripR_cons, stripR_cons, if_pos hp, if_pos hp]
      simp
    · rw [if_neg hp] at h
      cases h
theorem nxt_pl : ∀ (t : Tr) (i : Nat) (p : List Nat), (pl t)[i]? = some p → nxt (pt t p).full p = (pl t)[i + 1]?
  | .nil, i, p, h => by
    cases i with
    | zero =>
      cases h
      rfl
    | succ i => simp [pl] at h
  | .nd g l r, i, p, h => by
    cases i with
    | zero =>
      have e : p = [] := by
        simp only [pl, List.getElem?_cons_zero] at h
        exact (Option.some.inj h).symm
      subst e
      have e2 : (pl (.nd g l r))[0 + 1]? = some [108] := by
        have hl := pl_head l
        simp only [pl, List.getElem?_cons_succ]
        rw [List.getElem?_append_left (by rw [List.length_map]; exact List.length_pos_iff.mpr (pl_ne l)), List.getElem?_map, hl]
        rfl
      rw [e2]
      rfl
    | succ i =>
      simp only [pl, List.getElem?_cons_succ] at h ⊢
      by_cases hi : i < (pl l).length
      · rw [List.getElem?_append_left (by rw [List.length_map]; exact hi), List.getElem?_map] at h
        obtain ⟨q, hq, rfl⟩ := Option.map_eq_some_iff.mp h
        have ih := nxt_pl l i q hq
        have ef : pt (.nd g l r) (108 :: q) = pt l q := by show (if 108 = 108 then _ else _) = _; rw [if_pos rfl]
        rw [ef]
        by_cases hn : i + 1 < (pl l).length
        · rw [List.getElem?_append_left (by rw [List.length_map]; exact hn), List.getElem?_map]
          rw [List.getElem?_eq_getElem hn] at ih ⊢
          exact nxt_cons ih
        · have en : i + 1 = (pl l).length := by omega
          rw [List.getElem?_eq_none (by omega)] at ih
          rw [List.getElem?_append_right (by rw [List.length_map]; omega), List.length_map, en, Nat.sub_self, List.getElem?_map, pl_head r]
          exact (nxt_last ih).1
      · rw [List.getElem?_append_right (by rw [List.length_map]; omega), List.length_map, List.getElem?_map] at h
        obtain ⟨q, hq, rfl⟩ := Option.map_eq_some_iff.mp h
        have ih := nxt_pl r (i - (pl l).length) q hq
        have ef : pt (.nd g l r) (114 :: q) = pt r q := by show (if 114 = 108 then _ else _) = _; rw [if_neg (by decide)]
        rw [ef, List.getElem?_append_right (by rw [List.length_map]; omega), List.length_map, List.getElem?_map]
        have en : i + 1 - (pl l).length = i - (pl l).length + 1 := by omega
        rw [en]
        cases hr : (pl r)[i - (pl l).length + 1]? with
        | none =>
          rw [hr] at ih
          exact (nxt_last ih).2
        | some z =>
          rw [hr] at ih
          exact nxt_cons ih
/-! ### the places below a place -/
theorem below : ∀ (t : Tr) (p : List Nat), isP t p = true → (pl t).filter (fun q => decide (q.take p.length = p)) = (pl (pt t p)).map (p ++ ·)
  | t, [], _ => by
    rw [pt_nil]
    simp
  | .nil, c :: p, h => by cases h
  | .nd g l r, c :: p, h => by
    simp only [pl, List.filter_cons, List.filter_append, List.filter_map]
    have e0 : decide (([] : List Nat).take (c :: p).length = c :: p) = false := by simp
    rw [if_neg (by rw [e0]; exact Bool.false_ne_true)]
    by_cases h1 : c = 108
    · subst h1
      have hp : isP l p = true := h
      have ih := below l p hp
      have ea : ((fun q => decide (q.take (108 :: p).length = 108 :: p)) ∘ (108 :: ·)) = fun q : List Nat => decide (q.take p.length = p) := by
        funext q
        simp
      have eb : (pl r).filter ((fun q => decide (q.take (108 :: p).length = 108 :: p)) ∘ (114 :: ·)) = [] := by
        rw [List.filter_eq_nil_iff]
        intro q _
        simp
      rw [ea, eb, ih]
      show _ = (pl (if 108 = 108 then pt l p else pt r p)).map _
      rw [if_pos rfl]
      simp
    · by_cases h2 : c = 114
      · subst h2
        have hp : isP r p = true := h
        have ih := below r p hp
        have ea : ((fun q => decide (q.take (114 :: p).length = 114 :: p)) ∘ (114 :: ·)) = fun q : List Nat => decide (q.take p.length = p) := by
          funext q
          simp
        have eb : (pl l).filter ((fun q => decide (q.take (114 :: p).length = 114 :: p)) ∘ (108 :: ·)) = [] := by
          rw [List.filter_eq_nil_iff]
          intro q _
          simp
        rw [ea, eb, ih]
        show _ = (pl (if 114 = 108 then pt l p else pt r p)).map _
        rw [if_neg (by decide)]
        simp
      · have : isP (.nd g l r) (c :: p) = false := by
          show (if c = 108 then isP l p else if c = 114 then isP r p else false) = false
          rw [if_neg h1, if_neg h2]
        rw [this] at h
        cases h
end Ey
namespace Ey
open PySem PySem.Spec L2
theorem dw_drop (f : Nat → Bool) : ∀ l : List Nat, l.dropWhile f = l.drop (l.takeWhile f).length
  | [] => rfl
  | a :: l => by
    cases h : f a
    · simp [List.dropWhile_cons, List.takeWhile_cons, h]
    · simp [List.dropWhile_cons, List.takeWhile_cons, h, dw_drop f l]
theorem stripR_take (p : List Nat) : stripR p = p.take (p.length - (p.reverse.takeWhile fun c => c == 114).length) := by
  have hle : (p.reverse.takeWhile fun c => c == 114).length ≤ p.length := by
    have := (List.takeWhile_sublist (fun c => c == 114) (l := p.reverse)).length_le
    rwa [List.length_reverse] at this
  unfold stripR
  rw [dw_drop, ← List.reverse_reverse (p.take _), List.reverse_take]
  have e : p.length - (p.length - (p.reverse.takeWhile fun c => c == 114).length) = (p.reverse.takeWhile fun c => c == 114).length := by omega
  rw [e]
theorem rstrip_st (p : List Nat) : Txt.rstripChars (st p) (st [114]) = st (stripR p) := by
  have e1 : (st [114]).cps.contains = fun c => c == 114 := by
    funext c
    show (#[114] : Array Nat).contains c = (c == 114)
    simp [Array.contains]
  have e3 := stripR_take p
  have lo : stripLo (st [114]).cps.contains false (st p) = 0 := rfl
  have hi : stripHi (st [114]).cps.contains true (st p) 0 = p.length - (p.reverse.takeWhile fun c => c == 114).length := by
    rw [e1]
    rfl
  unfold Txt.rstripChars Txt.stripBy stripSame stripped
  rw [lo, hi]
  have ex : Builtin.Str.strSub (st p) 0 (p.length - (p.reverse.takeWhile fun c => c == 114).length) = st (stripR p) := by
    rw [e3]
    show (⟨p.toArray.extract 0 _⟩ : Str) = ⟨_⟩
    simp
  rw [ex]
  split
  · rename_i h
    simp only [Bool.and_eq_true, beq_iff_eq] at h
    rw [e3, h.2]
    show st p = st (p.take p.length)
    rw [List.take_length]
  · rfl
theorem for_str {x : Str} {g : TG} {tb : TS} {D : Ends} {σ : St} {H : Hp} (Pv : Nat → St → Hp → Prop) (h0 : Pv 0 σ H)
    (hs : ∀ i c σ H, x.cps.toList[i]? = some c → Pv i σ H → g (.str (st [c])) σ H fun σ2 H2 => tb { D with nx := Pv (i + 1), ct := Pv (i + 1), bk := D.nx } σ2 H2)
    (hd : ∀ σ H, Pv x.cps.toList.length σ H → D.nx σ H) :
    ∃ W : Nat → Nat → St → Hp → Prop, (∃ m, W 0 m σ H) ∧ ∀ i m σ H, W i m σ H →
      ((Its x).stop i H ∧ D.nx σ H) ∨ ((Its x).go i H ∧ ∃ N : St → Hp → Prop, (∀ σ' H', N σ' H' → ∃ m', m' < m ∧ W (i + 1) m' σ' H') ∧ ∀ v H', (Its x).yld i H v H' → g v σ H' fun σ2 H2 => tb { D with nx := N, ct := N, bk := D.nx } σ2 H2) := by
  refine ⟨fun i m σ H => m = x.cps.size - i ∧ i ≤ x.cps.size ∧ Pv i σ H, ⟨_, rfl, Nat.zero_le _, h0⟩, fun i m σ H hw => ?_⟩
  obtain ⟨rfl, hi, p⟩ := hw
  by_cases lt : i < x.cps.size
  · refine .inr ⟨lt, Pv (i + 1), fun σ' H' p' => ⟨x.cps.size - (i + 1), by omega, rfl, lt, p'⟩, fun v H' y => ?_⟩
    obtain ⟨rfl, c, hc, rfl⟩ := y
    exact hs i c σ _ (by rw [Array.getElem?_toList]; exact hc) p
  · have e : i = x.cps.size := by omega
    subst e
    exact .inl ⟨Nat.le_refl _, hd σ H (by rw [Array.length_toList]; exact p)⟩
end Ey
namespace Ey
open PySem PySem.Spec L2
/-! ### heaps -/
/-- all that was tracked is as it was, but what stands at ms; tuples never change -/
structure Kp (ms : List Addr) (H H' : Hp) : Prop where
  at_ : ∀ b o, H b = some o → b ∉ ms → H' b = some o
  tup : ∀ b xs, H b = some (.tup xs) → H' b = some (.tup xs)
section
variable {ms : List Addr} {H H' H1 H2 : Hp}
theorem Kp.refl : Kp ms H H := ⟨fun _ _ e _ => e, fun _ _ e => e⟩
theorem Kp.trans (a : Kp ms H H1) (b : Kp ms H1 H2) : Kp ms H H2 := ⟨fun c o e n => b.at_ c o (a.at_ c o e n) n, fun c xs e => b.tup c xs (a.tup c xs e)⟩
theorem Kp.more {ms' : List Addr} (a : Kp ms H H1) (h : ∀ x ∈ ms, x ∈ ms') : Kp ms' H H1 := ⟨fun c o e n => a.at_ c o e fun q => n (h c q), a.tup⟩
theorem Kp.new {p : Addr} {o : HO} (h : H p = none) : Kp ms H (upd H p o) :=
  ⟨fun c u e _ => by rw [upd_ne (ne_of_none e h)]; exact e, fun c xs e => by rw [upd_ne (ne_of_none e h)]; exact e⟩
theorem Kp.put {p : Addr} {o u : HO} (hm : p ∈ ms) (h : H p = some u) (nt : ∀ xs, u ≠ .tup xs) : Kp ms H (upd H p o) := by
  refine ⟨fun c v e n => ?_, fun c xs e => ?_⟩
  · rw [upd_ne (fun q => n (by rw [q]; exact hm))]
    exact e
  · rw [upd_ne (fun q => ?_)]
    · exact e
    · rw [q, h] at e
      exact nt xs (Option.some.inj e)
theorem Kp.same (s : Same H H1) : Kp ms H H1 := ⟨fun c o e _ => s c o e, fun c xs e => s c _ e⟩
theorem Kp.free (a : Kp ms H H1) {p : Addr} (h : H1 p = none) (n : p ∉ ms) : H p = none := by
  cases q : H p with
  | none => rfl
  | some o =>
    rw [a.at_ p o q n] at h
    cases h
theorem Kp.lst {K : PySem.W.Frag} {a : Addr} {xs : List V} (k : Kp ms H H1) (n : a ∉ ms) (h : SqL K H a xs) : SqL K H1 a xs := by
  rcases h with (h | ⟨o, h⟩) | h
  · exact .inl (.inl (k.at_ _ _ h n))
  · exact .inl (.inr ⟨o, k.at_ _ _ h n⟩)
  · exact .inr h
end
/-! ### trees in the heap -/
inductive TreeAt (H : Hp) : V → Tr → Prop where
  | nil : TreeAt H .non .nil
  | nd {a : Addr} {g : Str} {l r : Tr} {v w : V} : H a = some (.tup [.str g, v, w]) → TreeAt H v l → TreeAt H w r → TreeAt H (.ref a) (.nd g l r)
theorem TreeAt.kp {ms : List Addr} {H H1 : Hp} {v : V} {t : Tr} (k : Kp ms H H1) (h : TreeAt H v t) : TreeAt H1 v t := by
  induction h with
  | nil => exact .nil
  | nd e _ _ ih1 ih2 => exact .nd (k.tup _ _ e) ih1 ih2
theorem TreeAt.non {H : Hp} {v : V} {t : Tr} (h : TreeAt H v t) : decide (v = .non) = !t.full := by
  cases h <;> rfl
theorem sqt_of {K : PySem.W.Frag} {H : Hp} {a : Addr} {xs : List V} (h : H a = some (.tup xs)) : SqT K H a xs := .inl (.inl h)
theorem sql_of {K : PySem.W.Frag} {H : Hp} {a : Addr} {xs : List V} (h : H a = some (.lst xs)) : SqL K H a xs := .inl (.inl h)
/-- a tree as data -/
def td : Tr → PyData
  | .nil => .none
  | .nd g l r => .tuple [.str g, td l, td r]
theorem TreeAt.dp {K : PySem.W.Frag} {H : Hp} {v : V} {t : Tr} (h : TreeAt H v t) : Dp K H v (td t) := by
  induction h with
  | nil => exact .non
  | nd e _ _ ih1 ih2 => exact .tup (sqt_of e) (.cons (.str _) (.cons ih1 (.cons ih2 .nil)))
theorem td_show : ∀ t : Tr, (td t).showable = true
  | .nil => rfl
  | .nd g l r => by
    show (true && ((td l).showable && ((td r).showable && true))) = true
    rw [td_show l, td_show r]
    rfl
theorem td_depth : ∀ t : Tr, (td t).depth ≤ 1 + t.ht
  | .nil => by decide
  | .nd g l r => by
    have a := td_depth l
    have b := td_depth r
    simp only [td, PyData.depth, PyData.depthAll, Tr.ht]
    omega
theorem tag_signs {g : Str} (h : isTag g = true) : ∀ c ∈ g.cps.toList, c < 16 ^ 8 := fun c hc => by
  simp only [isTag, Bool.and_eq_true, List.all_eq_true, decide_eq_true_eq] at h
  have := h.2 c hc
  simp only [abc, List.mem_cons, List.not_mem_nil, or_false] at this
  omega
theorem tag_len {g : Str} (h : isTag g = true) : g.length ≤ 8 := by
  simp only [isTag, Bool.and_eq_true, decide_eq_true_eq] at h
  exact h.1.2
theorem len_app (a b : Str) : (a ++ b).length = a.length + b.length := by
  show (a.cps ++ b.cps).size = _
  rw [Array.size_append]
  rfl
theorem td_len : ∀ t : Tr, t.ok → (td t).shown.length ≤ 100 * t.sz + 4
  | .nil, _ => by decide +kernel
  | .nd g l r, h => by
    obtain ⟨hg, hl, hr⟩ := h
    have a := td_len l hl
    have b := td_len r hr
    have c := StrLaws.reprText_len g (tag_signs hg)
    have d := tag_len hg
    have e : (td (.nd g l r)).shown.length ≤ (reprText g).length + (td l).shown.length + (td r).shown.length + 6 := by
      show (tupleText [reprText g, (td l).shown, (td r).shown]).length ≤ _
      unfold tupleText
      rw [len_app, len_app]
      simp only [Str.join, len_app]
      have q1 : (", " : Str).length = 2 := by decide +kernel
      have q2 : ("(" : Str).length = 1 := by decide +kernel
      have q3 : (Str.ofString (if (([reprText g, (td l).shown, (td r).shown] : List Str).length == 1) = true then ",)" else ")")).length = 1 := by
        show (Str.ofString (if ((3 : Nat) == 1) = true then ",)" else ")")).length = 1
        decide +kernel
      rw [q1, q2]
      omega
    simp only [Tr.sz]
    omega
end Ey
set_option maxHeartbeats 4000000
namespace Ey
open PySem PySem.Spec PyProof.Rows L2
/-! ### data: what is a tree, what may be told -/
def isTagD : PyData → Bool
  | .str g => isTag g
  | .none | .bool _ | .int _ | .list _ | .tuple _ | .dict _ => false
def tri : List PyData → List Bool → Bool
  | [x, _, _], [_, b, c] => isTagD x && (b && c)
  | _, _ => false
mutual
def isT : PyData → Bool
  | .none => true
  | .tuple ds => tri ds (isTs ds)
  | .bool _ | .int _ | .str _ | .list _ | .dict _ => false
def isTs : List PyData → List Bool
  | [] => []
  | x :: r => isT x :: isTs r
end
mutual
def fit : PyData → Bool
  | .none | .bool _ => true
  | .int i => decide (i.natAbs < 10 ^ 40)
  | .str x => x.cps.toList.all fun c => decide (c < 1000)
  | .list ds | .tuple ds => fitAll ds
  | .dict kvs => fitKv kvs
def fitAll : List PyData → Bool
  | [] => true
  | x :: r => fit x && fitAll r
def fitKv : List (PyData × PyData) → Bool
  | [] => true
  | (k, v) :: r => (fit k && fit v) && fitKv r
end
mutual
def wd : PyData → Nat
  | .none => 4
  | .bool _ => 5
  | .int _ => 45
  | .str x => 10 * x.length + 2
  | .list ds | .tuple ds => wdAll ds + 3
  | .dict kvs => wdKv kvs + 3
def wdAll : List PyData → Nat
  | [] => 0
  | x :: r => wd x + 2 + wdAll r
def wdKv : List (PyData × PyData) → Nat
  | [] => 0
  | (k, v) :: r => wd k + wd v + 4 + wdKv r
end
theorem nat_len {n : Nat} (h : n < 10 ^ 40) : (Str.ofString (toString (n : Int))).length ≤ 40 := by
  rw [ofString_len]
  show (Nat.repr n).length ≤ 40
  have e : (Nat.repr n).length = (Nat.toDigits 10 n).length := by
    unfold Nat.repr
    simp
  rw [e]
  exact digits10_le (by decide) h
theorem int_ok (i : Int) (h : i.natAbs < 10 ^ 40) : i.natAbs.log2 < 1920 ∧ (PyData.shown (.int i)).length ≤ 45 := by
  refine ⟨?_, ?_⟩
  · by_cases h0 : i.natAbs = 0
    · rw [h0]
      decide
    · rw [Nat.log2_lt h0]
      exact Nat.lt_trans h (by decide +kernel)
  · show (Str.ofString (toString i)).length ≤ 45
    by_cases hn : i < 0
    · rw [len_text_neg hn]
      obtain ⟨n, e⟩ : ∃ n : Nat, 0 - i = (n : Int) := ⟨(0 - i).toNat, by omega⟩
      rw [e]
      have := nat_len (n := n) (by omega)
      omega
    · obtain ⟨n, rfl⟩ : ∃ n : Nat, i = (n : Int) := ⟨i.toNat, by omega⟩
      have := nat_len (n := n) (by simpa using h)
      omega
theorem lenD (ts : List Str) : (listText ts).length ≤ piled ts + 2 := by
  have q1 : ("[" : Str).length = 1 := by decide +kernel
  have q2 : ("]" : Str).length = 1 := by decide +kernel
  unfold listText
  rw [len_app, q2]
  cases ts with
  | nil =>
    show (textFrom 0 "[" []).length + 1 ≤ _
    unfold textFrom
    rw [q1]
    omega
  | cons t r =>
    show (textFrom 1 (("[" : Str) ++ Str.ofString "" ++ t) r).length + 1 ≤ piled (t :: r) + 2
    have e : (Str.ofString "").length = 0 := by decide +kernel
    rw [textFrom_length_pos r 1 _ (by decide), len_app, len_app, q1, e, piled_cons]
    omega
theorem joinD (ts : List Str) : (Str.join ", " ts).length ≤ piled ts := by
  cases ts with
  | nil => exact Nat.zero_le _
  | cons t r =>
    have := join_length_add (t :: r) (by simp)
    omega
theorem lenT (ts : List Str) : (tupleText ts).length ≤ piled ts + 3 := by
  have q1 : ("(" : Str).length = 1 := by decide +kernel
  have q2 : (Str.ofString ",)").length = 2 := by decide +kernel
  have q3 : (Str.ofString ")").length = 1 := by decide +kernel
  have q : (Str.ofString (if (ts.length == 1) = true then ",)" else ")")).length ≤ 2 := by
    split
    · rw [q2]
      exact Nat.le_refl _
    · rw [q3]
      decide
  have := joinD ts
  unfold tupleText
  rw [len_app, len_app, q1]
  omega
theorem lenK (ts : List Str) : (dictText ts).length ≤ piled ts + 3 := by
  have q1 : ("{" : Str).length = 1 := by decide +kernel
  have q2 : ("}" : Str).length = 1 := by decide +kernel
  have := joinD ts
  unfold dictText
  rw [len_app, len_app, q1, q2]
  omega
mutual
theorem fit_told : ∀ d : PyData, fit d = true → d.showable = true ∧ d.shown.length ≤ wd d
  | .none, _ => ⟨rfl, by show ("None" : Str).length ≤ 4; decide +kernel⟩
  | .bool b, _ => ⟨rfl, by
      show (PyData.shown (.bool b)).length ≤ 5
      cases b <;> decide +kernel⟩
  | .int i, h => by
    have a := int_ok i (of_decide_eq_true h)
    exact ⟨decide_eq_true a.1, a.2⟩
  | .str x, h => by
    refine ⟨rfl, StrLaws.reprText_len x fun c hc => ?_⟩
    have h2 : (x.cps.toList.all fun c => decide (c < 1000)) = true := h
    exact Nat.lt_of_lt_of_le (of_decide_eq_true (List.all_eq_true.mp h2 c hc)) (by decide)
  | .list ds, h => by
    obtain ⟨a, b⟩ := fit_tolds ds h
    exact ⟨a, Nat.le_trans (lenD _) (by show piled (PyData.shownAll ds) + 2 ≤ wdAll ds + 3; omega)⟩
  | .tuple ds, h => by
    obtain ⟨a, b⟩ := fit_tolds ds h
    exact ⟨a, Nat.le_trans (lenT _) (by show piled (PyData.shownAll ds) + 3 ≤ wdAll ds + 3; omega)⟩
  | .dict kvs, h => by
    obtain ⟨a, b⟩ := fit_toldKv kvs h
    exact ⟨a, Nat.le_trans (lenK _) (by show piled (PyData.shownKv kvs) + 3 ≤ wdKv kvs + 3; omega)⟩
theorem fit_tolds : ∀ ds : List PyData, fitAll ds = true → PyData.showableAll ds = true ∧ piled (PyData.shownAll ds) ≤ wdAll ds
  | [], _ => ⟨rfl, Nat.le_refl _⟩
  | x :: r, h => by
    have h2 : (fit x && fitAll r) = true := h
    rw [Bool.and_eq_true] at h2
    obtain ⟨a, b⟩ := fit_told x h2.1
    obtain ⟨c, d⟩ := fit_tolds r h2.2
    refine ⟨?_, ?_⟩
    · show (x.showable && PyData.showableAll r) = true
      rw [a, c]
      rfl
    · show piled (x.shown :: PyData.shownAll r) ≤ wd x + 2 + wdAll r
      rw [piled_cons]
      omega
theorem fit_toldKv : ∀ kvs : List (PyData × PyData), fitKv kvs = true → PyData.showableKv kvs = true ∧ piled (PyData.shownKv kvs) ≤ wdKv kvs
  | [], _ => ⟨rfl, Nat.le_refl _⟩
  | (k, v) :: r, h => by
    have h2 : ((fit k && fit v) && fitKv r) = true := h
    rw [Bool.and_eq_true, Bool.and_eq_true] at h2
    obtain ⟨a, b⟩ := fit_told k h2.1.1
    obtain ⟨a2, b2⟩ := fit_told v h2.1.2
    obtain ⟨c, d⟩ := fit_toldKv r h2.2
    refine ⟨?_, ?_⟩
    · show (k.showable && v.showable && PyData.showableKv r) = true
      rw [a, a2, c]
      rfl
    · show piled ((k.shown ++ ": " ++ v.shown) :: PyData.shownKv r) ≤ wd k + wd v + 4 + wdKv r
      have q : (Str.ofString ": ").length = 2 := by decide +kernel
      rw [piled_cons, len_app, len_app, q]
      omega
end
/-! ### trees as data -/
theorem td_isT : ∀ t : Tr, t.ok → isT (td t) = true
  | .nil, _ => rfl
  | .nd g l r, h => by
    show (isTag g && (isT (td l) && isT (td r))) = true
    rw [h.1, td_isT l h.2.1, td_isT r h.2.2]
    rfl
theorem tag_low {g : Str} (h : isTag g = true) : ∀ c ∈ g.cps.toList, c < 1000 := fun c hc => by
  simp only [isTag, Bool.and_eq_true, List.all_eq_true, decide_eq_true_eq] at h
  have := h.2 c hc
  simp only [abc, List.mem_cons, List.not_mem_nil, or_false] at this
  omega
theorem td_fit : ∀ t : Tr, t.ok → fit (td t) = true
  | .nil, _ => rfl
  | .nd g l r, h => by
    have a : (g.cps.toList.all fun c => decide (c < 1000)) = true := List.all_eq_true.mpr fun c hc => decide_eq_true (tag_low h.1 c hc)
    show ((g.cps.toList.all fun c => decide (c < 1000)) && (fit (td l) && (fit (td r) && true))) = true
    rw [a, td_fit l h.2.1, td_fit r h.2.2]
    rfl
theorem td_wd : ∀ t : Tr, t.ok → wd (td t) ≤ 100 * t.sz + 4
  | .nil, _ => Nat.le_refl _
  | .nd g l r, h => by
    have a := td_wd l h.2.1
    have b := td_wd r h.2.2
    have c := tag_len h.1
    show (10 * g.length + 2) + 2 + (wd (td l) + 2 + (wd (td r) + 2 + 0)) + 3 ≤ 100 * (l.sz + r.sz + 1) + 4
    omega
theorem sz_wd : ∀ t : Tr, t.sz ≤ wd (td t)
  | .nil => Nat.zero_le _
  | .nd g l r => by
    have a := sz_wd l
    have b := sz_wd r
    show l.sz + r.sz + 1 ≤ (10 * g.length + 2) + 2 + (wd (td l) + 2 + (wd (td r) + 2 + 0)) + 3
    omega
theorem ht_depth : ∀ t : Tr, t.ht ≤ (td t).depth
  | .nil => Nat.le_refl _
  | .nd g l r => by
    have a := ht_depth l
    have b := ht_depth r
    show max l.ht r.ht + 1 ≤ max 0 (max (td l).depth (max (td r).depth 0)) + 1
    omega
mutual
theorem isT_td : ∀ d : PyData, isT d = true → ∃ t : Tr, t.ok ∧ td t = d
  | .none, _ => ⟨.nil, trivial, rfl⟩
  | .bool _, h => by cases h
  | .int _, h => by cases h
  | .str _, h => by cases h
  | .list _, h => by cases h
  | .dict _, h => by cases h
  | .tuple ds, h => isTs_td ds h
theorem isTs_td : ∀ ds : List PyData, tri ds (isTs ds) = true → ∃ t : Tr, t.ok ∧ td t = .tuple ds
  | [], h => by cases h
  | [_], h => by cases h
  | [_, _], h => by cases h
  | _ :: _ :: _ :: _ :: _, h => by cases h
  | [x, a, b], h => by
    have h2 : (isTagD x && (isT a && isT b)) = true := h
    rw [Bool.and_eq_true, Bool.and_eq_true] at h2
    obtain ⟨l, ol, el⟩ := isT_td a h2.2.1
    obtain ⟨r, or', er⟩ := isT_td b h2.2.2
    cases x with
    | str g => exact ⟨.nd g l r, ⟨h2.1, ol, or'⟩, by rw [td, el, er]⟩
    | none => cases h2.1
    | bool _ => cases h2.1
    | int _ => cases h2.1
    | list _ => cases h2.1
    | tuple _ => cases h2.1
    | dict _ => cases h2.1
end
/-! ### data in the heap, none of its lists and dicts at ms -/
def kD : Key → PyData
  | .inl i => .int i
  | .inr x => .str x
mutual
inductive An (ms : List Addr) (H : Hp) : V → PyData → Prop
  | non : An ms H .non .none
  | bl (b : Bool) : An ms H (.bl b) (.bool b)
  | int (i : Int) : An ms H (.int i) (.int i)
  | str (x : Str) : An ms H (.str x) (.str x)
  | lst {a : Addr} {xs : List V} {ds : List PyData} : H a = some (.lst xs) → a ∉ ms → AnAll ms H xs ds → An ms H (.ref a) (.list ds)
  | tup {a : Addr} {xs : List V} {ds : List PyData} : H a = some (.tup xs) → AnAll ms H xs ds → An ms H (.ref a) (.tuple ds)
  | dct {a : Addr} {kvs : List (Key × V)} {ds : List (PyData × PyData)} : H a = some (.dK kvs) → a ∉ ms → AnKv ms H kvs ds → An ms H (.ref a) (.dict ds)
inductive AnAll (ms : List Addr) (H : Hp) : List V → List PyData → Prop
  | nil : AnAll ms H [] []
  | cons {v : V} {vs : List V} {d : PyData} {ds : List PyData} : An ms H v d → AnAll ms H vs ds → AnAll ms H (v :: vs) (d :: ds)
inductive AnKv (ms : List Addr) (H : Hp) : List (Key × V) → List (PyData × PyData) → Prop
  | nil : AnKv ms H [] []
  | cons {k : Key} {v : V} {kvs : List (Key × V)} {d : PyData} {ds : List (PyData × PyData)} : An ms H v d → AnKv ms H kvs ds → AnKv ms H ((k, v) :: kvs) ((kD k, d) :: ds)
end
section
variable {ms ms' : List Addr} {H H1 : Hp}
mutual
theorem An.kp (k : Kp ms' H H1) (hs : ∀ x ∈ ms', x ∈ ms) : ∀ {v : V} (d : PyData), An ms H v d → An ms H1 v d
  | _, .none, h => by cases h; exact .non
  | _, .bool b, h => by cases h; exact .bl b
  | _, .int i, h => by cases h; exact .int i
  | _, .str x, h => by cases h; exact .str x
  | _, .list ds, h => by
    cases h with
    | lst e n a => exact .lst (k.at_ _ _ e fun q => n (hs _ q)) n (AnAll.kp k hs ds a)
  | _, .tuple ds, h => by
    cases h with
    | tup e a => exact .tup (k.tup _ _ e) (AnAll.kp k hs ds a)
  | _, .dict ds, h => by
    cases h with
    | dct e n a => exact .dct (k.at_ _ _ e fun q => n (hs _ q)) n (AnKv.kp k hs ds a)
theorem AnAll.kp (k : Kp ms' H H1) (hs : ∀ x ∈ ms', x ∈ ms) : ∀ {vs : List V} (ds : List PyData), AnAll ms H vs ds → AnAll ms H1 vs ds
  | _, [], h => by cases h; exact .nil
  | _, d :: r, h => by
    cases h with
    | cons a b => exact .cons (An.kp k hs d a) (AnAll.kp k hs r b)
theorem AnKv.kp (k : Kp ms' H H1) (hs : ∀ x ∈ ms', x ∈ ms) : ∀ {vs : List (Key × V)} (ds : List (PyData × PyData)), AnKv ms H vs ds → AnKv ms H1 vs ds
  | _, [], h => by cases h; exact .nil
  | _, (y, d) :: r, h => by
    cases h with
    | cons a b => exact .cons (An.kp k hs d a) (AnKv.kp k hs r b)
end
theorem TreeAt.an {v : V} {t : Tr} (h : TreeAt H v t) : An ms H v (td t) := by
  induction h with
  | nil => exact .non
  | nd e _ _ ih1 ih2 => exact .tup e (.cons (.str _) (.cons ih1 (.cons ih2 .nil)))
theorem An.tree : ∀ (t : Tr) {v : V}, An ms H v (td t) → TreeAt H v t
  | .nil, _, h => by cases h; exact .nil
  | .nd g l r, _, h => by
    cases h with
    | tup e a =>
      cases a with
      | cons a1 a =>
        cases a1
        cases a with
        | cons a2 a =>
          cases a with
          | cons a3 a =>
            cases a
            exact .nd e (An.tree l a2) (An.tree r a3)
theorem AnAll.append {vs ws : List V} {ds es : List PyData} (h : AnAll ms H vs ds) (g : AnAll ms H ws es) : AnAll ms H (vs ++ ws) (ds ++ es) := by
  induction ds generalizing vs with
  | nil => cases h; exact g
  | cons d r ih =>
    cases h with
    | cons a b => exact .cons a (ih b)
theorem AnAll.length {vs : List V} {ds : List PyData} (h : AnAll ms H vs ds) : vs.length = ds.length := by
  induction ds generalizing vs with
  | nil => cases h; rfl
  | cons d r ih =>
    cases h with
    | cons a b => rw [List.length_cons, List.length_cons, ih b]
theorem AnAll.take {vs : List V} {ds : List PyData} (h : AnAll ms H vs ds) (n : Nat) : AnAll ms H (vs.take n) (ds.take n) := by
  induction ds generalizing vs n with
  | nil =>
    cases h
    rw [List.take_nil, List.take_nil]
    exact .nil
  | cons d r ih =>
    cases h with
    | cons a b =>
      cases n with
      | zero => exact .nil
      | succ n => exact .cons a (ih b n)
theorem AnAll.drop {vs : List V} {ds : List PyData} (h : AnAll ms H vs ds) (n : Nat) : AnAll ms H (vs.drop n) (ds.drop n) := by
  induction ds generalizing vs n with
  | nil =>
    cases h
    rw [List.drop_nil, List.drop_nil]
    exact .nil
  | cons d r ih =>
    cases h with
    | cons a b =>
      cases n with
      | zero => exact .cons a b
      | succ n => exact ih b n
theorem AnAll.rev {vs : List V} {ds : List PyData} (h : AnAll ms H vs ds) : AnAll ms H vs.reverse ds.reverse := by
  induction ds generalizing vs with
  | nil => cases h; exact .nil
  | cons d r ih =>
    cases h with
    | cons a b =>
      rw [List.reverse_cons, List.reverse_cons]
      exact (ih b).append (.cons a .nil)
theorem AnAll.get {vs : List V} {ds : List PyData} (h : AnAll ms H vs ds) {i : Nat} {v : V} (e : vs[i]? = some v) : ∃ d, ds[i]? = some d ∧ An ms H v d := by
  induction ds generalizing vs i with
  | nil => cases h; cases e
  | cons d r ih =>
    cases h with
    | cons a b =>
      cases i with
      | zero =>
        cases e
        exact ⟨d, rfl, a⟩
      | succ i => exact ih b e
/-- all at ms is tracked -/
def Has (ms : List Addr) (H : Hp) : Prop := ∀ b ∈ ms, H b ≠ none
theorem Has.fresh {p : Addr} (h : Has ms H) (n : H p = none) : p ∉ ms := fun q => h p q n
theorem Has.new {p : Addr} {o : HO} (h : Has ms H) : Has ms (upd H p o) := fun b q => by
  by_cases e : b = p
  · rw [e, upd_same]
    exact fun z => nomatch z
  · rw [upd_ne e]
    exact h b q
theorem Has.kp (h : Has ms H) (k : Kp ms' H H1) (hs : ∀ b ∈ ms', H1 b ≠ none) : Has ms H1 := fun b q => by
  by_cases m : b ∈ ms'
  · exact hs b m
  · cases e : H b with
    | none => exact absurd e (h b q)
    | some o =>
      rw [k.at_ b o e m]
      exact fun z => nomatch z
end
section
variable {X : Cx} {pins : List (Addr × Obj)} {σ : L2.St} {H : Hp} {s : Shared} {ms : List Addr}
theorem low (I : Inv X pins σ H s) (hs : ∃ mm, X.base.Ns sysModules mm) {a : Addr} {o : HO} (e : H a = some o) : a ≠ sysModules := by
  rintro rfl
  obtain ⟨mm, ob, es, ep, g, _⟩ := hs
  rw [(I.bs _ _ g).2] at e
  cases e
theorem key_reads (k : Key) (y : Value) (h : keyIs k y = true) : Reads s.heap y (kD k) [] := by
  rcases keyIs_shape h with ⟨i, t, rfl, rfl⟩ | ⟨x, t, rfl, rfl⟩
  · exact .int i t
  · exact .str x t
mutual
theorem An.reads (I : Inv X pins σ H s) (hs : ∃ mm, X.base.Ns sysModules mm) : ∀ {v : V} {u : Value} (d : PyData), An ms H v d → RelV v u → ∃ as, Reads s.heap u d as ∧ sysModules ∉ as
  | _, _, .none, h, r => by
    cases h
    cases r
    exact ⟨_, .none, List.not_mem_nil⟩
  | _, _, .bool b, h, r => by
    cases h
    cases r
    exact ⟨_, .bool b, List.not_mem_nil⟩
  | _, _, .int i, h, r => by
    cases h
    obtain ⟨t, rfl⟩ := r
    exact ⟨_, .int i t, List.not_mem_nil⟩
  | _, _, .str x, h, r => by
    cases h
    obtain ⟨t, rfl⟩ := r
    exact ⟨_, .str x t, List.not_mem_nil⟩
  | _, _, .list ds, h, r => by
    cases h with
    | @lst a xs _ e n hd =>
      cases r
      obtain ⟨_, its, m, rv, at0⟩ := (show ObjOk X.prog X.w H s.heap a (.lst xs) from I.hok a _ e)
      obtain ⟨as, q, nq⟩ := AnAll.reads I hs ds hd rv
      refine ⟨_, .list at0 rfl rfl q, fun z => ?_⟩
      rcases List.mem_cons.mp z with z | z
      · exact low I hs e z.symm
      · exact nq z
  | _, _, .tuple ds, h, r => by
    cases h with
    | @tup a xs _ e hd =>
      cases r
      obtain ⟨_, its, rv, o, h1, h2, n, h3⟩ := (show ObjOk X.prog X.w H s.heap a (.tup xs) from I.hok a _ e)
      obtain ⟨as, q, nq⟩ := AnAll.reads I hs ds hd rv
      exact ⟨_, .tuple h1 h2 h3 q, nq⟩
  | _, _, .dict ds, h, r => by
    cases h with
    | @dct a kvs _ e n hd =>
      cases r
      obtain ⟨_, lo, vs, rk, dd⟩ := (show ObjOk X.prog X.w H s.heap a (.dK kvs) from I.hok a _ e)
      obtain ⟨as, q, nq⟩ := AnKv.reads I hs ds hd rk
      refine ⟨_, PyProof.V.reads_dictOf (fun k y hk => key_reads k y hk) dd q, fun z => ?_⟩
      rcases List.mem_cons.mp z with z | z
      · exact low I hs e z.symm
      · exact nq z
theorem AnAll.reads (I : Inv X pins σ H s) (hs : ∃ mm, X.base.Ns sysModules mm) : ∀ {vs : List V} {us : List Value} (ds : List PyData), AnAll ms H vs ds → Vals vs us → ∃ as, ReadsAll s.heap us ds as ∧ sysModules ∉ as
  | _, _, [], h, r => by
    cases h
    cases r
    exact ⟨_, .nil, List.not_mem_nil⟩
  | _, _, d :: ds, h, r => by
    cases h with
    | cons h1 h2 =>
      cases r with
      | cons r1 r2 =>
        obtain ⟨as, q1, n1⟩ := An.reads I hs d h1 r1
        obtain ⟨bs, q2, n2⟩ := AnAll.reads I hs ds h2 r2
        exact ⟨_, .cons q1 q2, fun z => (List.mem_append.mp z).elim n1 n2⟩
theorem AnKv.reads (I : Inv X pins σ H s) (hs : ∃ mm, X.base.Ns sysModules mm) : ∀ {kvs : List (Key × V)} {vs : List (Key × Value)} (ds : List (PyData × PyData)), AnKv ms H kvs ds → KV kvs vs → ∃ as, PyProof.V.PairsRead s.heap kD vs ds as ∧ sysModules ∉ as
  | _, _, [], h, r => by
    cases h
    cases r
    exact ⟨_, .nil, List.not_mem_nil⟩
  | _, _, (y, d) :: ds, h, r => by
    cases h with
    | @cons k v kvs _ _ h1 h2 =>
      cases r with
      | @cons _ b _ _ r1 r2 =>
        obtain ⟨k2, u⟩ := b
        obtain ⟨e, r1⟩ := r1
        have e' : k = k2 := e
        subst e'
        obtain ⟨as, q1, n1⟩ := An.reads I hs d h1 r1
        obtain ⟨bs, q2, n2⟩ := AnKv.reads I hs ds h2 r2
        exact ⟨_, .cons q1 q2, fun z => (List.mem_append.mp z).elim n1 n2⟩
end
/-- repr of data, dicts among it -/
def rReprA (ms : List Addr) : List V → Hp → VK → Prop := fun xs H Q =>
  ∃ v d, xs = [v] ∧ An ms H v d ∧ fit d = true ∧ d.depth ≤ 100 ∧ wd d ≤ 1000000 ∧ Q (.str d.shown) H
theorem cr_reprA {k : Nat} (hs : ∃ mm, X.base.Ns sysModules mm) (hg : X.A.guards = some []) (hr : Room k X.A) : CallR X (.builtin "repr") (rReprA ms) := by
  intro pins s σ H xs us Q I r h
  obtain ⟨v, d, rfl, hd, hf, hp, hz, q⟩ := h
  obtain ⟨u, rfl, ru⟩ := vals1 r
  obtain ⟨as, rd, ns⟩ := An.reads I hs d hd ru
  obtain ⟨sh, ln⟩ := fit_told d hf
  have z : d.shown.length ≤ sizeLine := Nat.le_trans ln (Nat.le_trans hz (by decide))
  have room : X.A.units + (d.depth + 1) < cLine := by
    have := hr.un
    omega
  have fin : ∀ (h' : Heap) (tk : Nat) (t : Tok), (∀ b o, s.heap.get? b = some o → h'.get? b = some o) → EP X pins σ Q (.str d.shown t) { s with heap := h', toks := tk } :=
    fun h' tk t hk => ⟨.str d.shown, H, I.kept hk, ⟨t, rfl⟩, q⟩
  cases rd with
  | none => exact PySem.P.repr_of_none (fin s.heap _ _ fun _ _ e => e)
  | bool b => exact PySem.P.repr_of_bool (fin s.heap _ _ fun _ _ e => e)
  | int i t => exact PySem.P.repr_of_int (of_decide_eq_true sh) (fin s.heap _ _ fun _ _ e => e)
  | str x t => exact PySem.P.repr_of_str (fin s.heap _ _ fun _ _ e => e) z
  | list a b c e => exact repr_of_reads' (.list a b c e) sh (fun _ => ns) hg room (fun _ _ e => e) (fun h' u tk hk => fin h' tk u hk) z
  | tuple a b c e => exact repr_of_reads' (.tuple a b c e) sh (fun _ => ns) hg room (fun _ _ e => e) (fun h' u tk hk => fin h' tk u hk) z
  | dict a b c e f => exact repr_of_reads' (.dict a b c e f) sh (fun _ => ns) hg room (fun _ _ e => e) (fun h' u tk hk => fin h' tk u hk) z
end
/-! ### kinds -/
def isTup : PyData → Bool
  | .tuple _ => true
  | .none | .bool _ | .int _ | .list _ | .str _ | .dict _ => false
def isStr : PyData → Bool
  | .str _ => true
  | .none | .bool _ | .int _ | .list _ | .tuple _ | .dict _ => false
theorem An.tupK {ms : List Addr} {K : PySem.W.Frag} {H : Hp} {v : V} {d : PyData} (h : An ms H v d) : ∃ t, TyX K H v t ∧ PySem.W.kitOne K t (.type "tuple") = some (isTup d) := by
  cases h with
  | non => exact ⟨_, .base .non, kit_ty (r := false) (by decide +kernel)⟩
  | bl b => exact ⟨_, .base (.bl b), kit_ty (r := false) (by decide +kernel)⟩
  | int i => exact ⟨_, .base (.int i), kit_ty (r := false) (by decide +kernel)⟩
  | str x => exact ⟨_, .base (.str x), kit_ty (r := false) (by decide +kernel)⟩
  | lst e => exact ⟨_, .base (.lst e), kit_ty (r := false) (by decide +kernel)⟩
  | tup e => exact ⟨_, .base (.tup e), kit_ty (r := true) (by decide +kernel)⟩
  | dct e => exact ⟨_, .base (.dK e), kit_ty (r := false) (by decide +kernel)⟩
theorem An.strK {ms : List Addr} {K : PySem.W.Frag} {H : Hp} {v : V} {d : PyData} (h : An ms H v d) : ∃ t, TyX K H v t ∧ PySem.W.kitOne K t (.type "str") = some (isStr d) := by
  cases h with
  | non => exact ⟨_, .base .non, kit_ty (r := false) (by decide +kernel)⟩
  | bl b => exact ⟨_, .base (.bl b), kit_ty (r := false) (by decide +kernel)⟩
  | int i => exact ⟨_, .base (.int i), kit_ty (r := false) (by decide +kernel)⟩
  | str x => exact ⟨_, .base (.str x), kit_ty (r := true) (by decide +kernel)⟩
  | lst e => exact ⟨_, .base (.lst e), kit_ty (r := false) (by decide +kernel)⟩
  | tup e => exact ⟨_, .base (.tup e), kit_ty (r := false) (by decide +kernel)⟩
  | dct e => exact ⟨_, .base (.dK e), kit_ty (r := false) (by decide +kernel)⟩
theorem An.noneK {ms : List Addr} {H : Hp} {v : V} {d : PyData} (h : An ms H v d) : v = .non ↔ d = .none := by
  cases h <;> simp
theorem isi_tup {ms : List Addr} {K : PySem.W.Frag} {H : Hp} {v : V} {d : PyData} {Q : VK} (h : An ms H v d) (q : Q (.bl (isTup d)) H) : rIsi K [v, .ty "tuple"] H Q := by
  obtain ⟨t, a, b⟩ := h.tupK (K := K)
  exact ⟨v, .ty "tuple", t, .type "tuple", _, rfl, .ty "tuple", a, b, q⟩
theorem isi_str {ms : List Addr} {K : PySem.W.Frag} {H : Hp} {v : V} {d : PyData} {Q : VK} (h : An ms H v d) (q : Q (.bl (isStr d)) H) : rIsi K [v, .ty "str"] H Q := by
  obtain ⟨t, a, b⟩ := h.strK (K := K)
  exact ⟨v, .ty "str", t, .type "str", _, rfl, .ty "str", a, b, q⟩
end Ey
set_option maxHeartbeats 4000000
namespace Ey
open PySem PySem.Spec PyProof.Rows L2 PySem.SeqAt
/-! ### any data beside a text -/
def isThe (t : Str) : PyData → Bool
  | .str g => decide (g = t)
  | .none | .bool _ | .int _ | .list _ | .tuple _ | .dict _ => false
section
variable {A : Around} {s : Shared}
theorem rcNe_dict_str {l : Addr} {o : Obj} {es : Array DictEntry} {n : Nat} (b : Str) (u : Tok) (ho : s.heap.get? l = some o) (hc : o.cls = .type "dict") (hd : o.data = .dict es n) (hu : A.units < cLine) : RcNeAt A s (.ref l) (.str b u) true := fun prog w E Q h => by
  obtain ⟨cls, dd, data, sl⟩ := o
  simp only at hc hd
  subst hc hd
  exact rc_ne_decline_or (k := false) ⟨_, ho, rfl⟩ (typeIs_str s b u) (by decide) F.sub_str_dict F.slot_dict_ne F.slot_str_ne_refl
    (fun _ hq => call_meets F.slot_dict_ne ⟨_, ho, rfl⟩ F.entry_dict_ne (F.args_dict_ne_2 _ _) (dict_ne_declines_str l es n dd sl b u) ⟨ho, hq⟩)
    (fun _ hq => call_meets F.slot_str_ne_refl (typeIs_str s b u) F.entry_str_ne (F.args_str_ne_2 _ _) (str_ne_declines_dict b u l es n dd sl) ⟨ho, hq⟩)
    (fun _ hq => wpAny_of_eq (rfl : isSame (.ref l) (.str b u) = pure false) hq) (.inr hu) h
theorem rc_str_dict {l : Addr} {o : Obj} {es : Array DictEntry} {n : Nat} (b : Str) (u : Tok) (ho : s.heap.get? l = some o) (hc : o.cls = .type "dict") (hd : o.data = .dict es n) (hu : A.units < cLine) : RcAt A s (.str b u) (.ref l) false := fun prog w E Q h => by
  obtain ⟨cls, dd, data, sl⟩ := o
  simp only at hc hd
  subst hc hd
  exact rc_eq_decline_or (k := false) (typeIs_str s b u) ⟨_, ho, rfl⟩ (by decide) F.sub_dict_str F.slot_str_eq F.slot_dict_eq_refl
    (fun _ hq => call_meets F.slot_str_eq (typeIs_str s b u) F.entry_str_eq (F.args_str_eq_2 _ _) (str_eq_declines_dict b u l es n dd sl) ⟨ho, hq⟩)
    (fun _ hq => call_meets F.slot_dict_eq_refl ⟨_, ho, rfl⟩ F.entry_dict_eq (F.args_dict_eq_2 _ _) (dict_eq_declines_str l es n dd sl b u) ⟨ho, hq⟩)
    (fun _ hq => wpAny_of_eq (rfl : isSame (.str b u) (.ref l) = pure false) hq) (.inr hu) h
theorem eq_str_dict {l : Addr} {o : Obj} {es : Array DictEntry} {n : Nat} (b : Str) (u : Tok) (ho : s.heap.get? l = some o) (hc : o.cls = .type "dict") (hd : o.data = .dict es n) (hu : A.units < cLine) : EqAt A s (.str b u) (.ref l) false := fun prog w E Q h => by
  unfold eqBool
  refine wpAny_holding ?_
  refine wpAny_ite_split (fun hab => absurd (eq_of_beq hab) nofun) (fun _ => ?_)
  exact wpAny_bind (rc_str_dict b u ho hc hd hu prog w E _ (wpAny_truthy_bool h))
end
section
variable {X : Cx} {pins : List (Addr × Obj)} {σ : L2.St} {H : Hp} {s : Shared}
theorem dict_obj {a : Addr} {kvs : List (Key × V)} (I : Inv X pins σ H s) (e : H a = some (.dK kvs)) : ∃ (o : Obj) (es : Array DictEntry) (n : Nat), s.heap.get? a = some o ∧ o.cls = .type "dict" ∧ o.data = .dict es n := by
  obtain ⟨_, _, vs, _, o, es, ep, h1, h2, h3, _⟩ := (show ObjOk X.prog X.w H s.heap a (.dK kvs) from I.hok a _ e)
  exact ⟨o, es, ep, h1, h2.1, h3⟩
theorem tup_obj {a : Addr} {xs : List V} (I : Inv X pins σ H s) (e : H a = some (.tup xs)) : ∃ its : List Value, Vals xs its ∧ s.heap.IsTuple a its.toArray := by
  obtain ⟨_, its, r, t⟩ := (show ObjOk X.prog X.w H s.heap a (.tup xs) from I.hok a _ e)
  exact ⟨its, r, t⟩
theorem lst_obj {a : Addr} {xs : List V} (I : Inv X pins σ H s) (e : H a = some (.lst xs)) : ∃ its : List Value, Vals xs its ∧ s.heap.IsList a its.toArray := by
  obtain ⟨_, its, n, r, t⟩ := (show ObjOk X.prog X.w H s.heap a (.lst xs) from I.hok a _ e)
  exact ⟨its, r, ⟨_, t, rfl, n, rfl⟩⟩
/-- x != t, t a text -/
def rNeAn : R2 := fun x y H Q => ∃ ms d t, An ms H x d ∧ y = .str t ∧ Q (.bl (!isThe t d)) H
theorem op_neAn (hu : X.A.units < cLine) : OpR X (compareOp .NotEq) rNeAn := by
  intro pins s σ H x y v u Q I rx ry h
  obtain ⟨ms, d, t, hx, rfl, q⟩ := h
  obtain ⟨tk, rfl⟩ := ry
  have fin : ∀ b : Bool, (!isThe t d) = b → EP X pins σ Q (.bool b) s := fun b e => ⟨.bl b, H, I, rfl, e ▸ q⟩
  show wpAny _ _ (richCompare .NotEq v (.str t tk)) _ _ s
  cases hx with
  | non =>
    cases rx
    exact RcNeAt.none_str t tk _ _ _ _ (fin _ rfl)
  | bl b =>
    cases rx
    exact RcNeAt.bool_str b t tk _ _ _ _ (fin _ rfl)
  | int i =>
    obtain ⟨t2, rfl⟩ := rx
    exact RcNeAt.int_str i t2 t tk _ _ _ _ (fin _ rfl)
  | str g =>
    obtain ⟨t2, rfl⟩ := rx
    refine RcNeAt.str_str g t2 t tk _ _ _ _ (fin _ ?_)
    show (!decide (g = t)) = !(g == t)
    by_cases e : g = t
    · subst e
      simp
    · simp [e]
  | @lst a xs ds e n hd =>
    cases rx
    obtain ⟨its, r, p⟩ := lst_obj I e
    exact RcNeAt.list_str t tk p hu _ _ _ _ (fin _ rfl)
  | @tup a xs ds e hd =>
    cases rx
    obtain ⟨its, r, p⟩ := tup_obj I e
    exact RcNeAt.tuple_str t tk p hu _ _ _ _ (fin _ rfl)
  | @dct a kvs ds e n hd =>
    cases rx
    obtain ⟨o, es, ep, h1, h2, h3⟩ := dict_obj I e
    exact rcNe_dict_str t tk h1 h2 h3 hu _ _ _ _ (fin _ rfl)
/-- x in (t, ..), a tuple or list of texts -/
def rInAn (K : PySem.W.Frag) : R2 := fun x y H Q => ∃ (ms : List Addr) (d : PyData) (p : Addr) (ts : List Str), An ms H x d ∧ y = .ref p ∧ SqT K H p (ts.map V.str) ∧ Q (.bl (ts.any fun t => isThe t d)) H
theorem op_inAn (hu : X.A.units + 1 < cLine) : OpR X (compareOp .In) (rInAn X.K) := by
  intro pins s σ H x y v u Q I rx ry h
  obtain ⟨ms, d, p, ts, hx, rfl, hq, q⟩ := h
  cases ry
  obtain ⟨its, r, pl, hz⟩ := I.tuple hq
  let eU : Value → Bool := fun w => match w with
    | .str z _ => isThe z d
    | _ => false
  have ev : ∀ (ts : List Str) (us : List Value), Vals (ts.map V.str) us → us.any eU = ts.any fun t => isThe t d := by
    intro ts
    induction ts with
    | nil =>
      intro us h
      cases h
      rfl
    | cons t r ih =>
      intro us h
      cases h with
      | cons a b =>
        obtain ⟨tk, rfl⟩ := a
        rw [List.any_cons, List.any_cons, ih _ b]
  have each : ∀ (ts : List Str) (us : List Value), Vals (ts.map V.str) us → ∀ w ∈ us, ∃ z tk, w = .str z tk := by
    intro ts
    induction ts with
    | nil =>
      intro us h
      cases h
      exact fun w hw => absurd hw List.not_mem_nil
    | cons t r ih =>
      intro us h
      cases h with
      | cons a b =>
        obtain ⟨tk, rfl⟩ := a
        intro w hw
        rcases List.mem_cons.mp hw with rfl | hw
        · exact ⟨_, _, rfl⟩
        · exact ih _ b w hw
  refine SeqAt.in_tupleAt eU pl (fun w hw => ?_) ⟨.bl _, H, I, rfl, ?_⟩
  · obtain ⟨z, tk, rfl⟩ := each ts its r w (by simpa using hw)
    cases hx with
    | non =>
      cases rx
      exact EqAt.str_none z tk
    | bl b =>
      cases rx
      exact EqAt.str_bool z tk b
    | int i =>
      obtain ⟨t2, rfl⟩ := rx
      exact EqAt.str_int z tk i t2
    | str g =>
      obtain ⟨t2, rfl⟩ := rx
      have e : eU (.str z tk) = (z == g) := by
        show decide (g = z) = (z == g)
        by_cases e : g = z
        · subst e
          simp
        · have e2 : ¬ z = g := fun h => e h.symm
          simp [e, e2]
      rw [e]
      exact EqAt.str_str z tk g t2
    | @lst a xs ds e n hd =>
      cases rx
      obtain ⟨its, r, p⟩ := lst_obj I e
      exact EqAt.str_list z tk p (show X.A.units + 1 < cLine from hu)
    | @tup a xs ds e hd =>
      cases rx
      obtain ⟨its, r, p⟩ := tup_obj I e
      exact EqAt.str_tuple z tk p (show X.A.units + 1 < cLine from hu)
    | @dct a kvs ds e n hd =>
      cases rx
      obtain ⟨o, es, ep, h1, h2, h3⟩ := dict_obj I e
      exact eq_str_dict z tk h1 h2 h3 (show X.A.units + 1 < cLine from hu)
  · rw [show its.toArray.any eU = its.any eU by simp, ev ts its r]
    exact q
/-- t == (), t any tuple -/
def rEqE : R2 := fun x y H Q => ∃ a b xs, x = .ref a ∧ y = .ref b ∧ H a = some (.tup xs) ∧ H b = some (.tup []) ∧ Q (.bl xs.isEmpty) H
theorem op_eqE (hu : X.A.units + 64 < cLine) : OpR X (compareOp .Eq) rEqE := by
  intro pins s σ H x y v u Q I rx ry h
  obtain ⟨a, b, xs, rfl, rfl, h1, h2, q⟩ := h
  cases rx
  cases ry
  obtain ⟨its, r, p⟩ := tup_obj I h1
  obtain ⟨its2, r2, p2⟩ := tup_obj I h2
  cases r2
  refine PySem.W.eq_tuplesT (n := 1) (e := fun _ => true) p p2 (fun j h1 h2 => absurd h2 (by simp)) (by omega) ⟨.bl xs.isEmpty, H, I, ?_, q⟩
  cases r with
  | nil => rfl
  | cons _ _ => rfl

end
end Ey
set_option maxHeartbeats 4000000
namespace Ey
open PySem PySem.Spec L2
/-! ### a list of one's own as a pile, its top first -/
theorem pile_top (x : V) (us : List V) : ((x :: us).reverse)[(x :: us).reverse.length - 1]? = some x := by
  rw [List.reverse_cons, List.length_append]
  show (us.reverse ++ [x])[us.reverse.length + 1 - 1]? = some x
  rw [Nat.add_sub_cancel, List.getElem?_append_right (Nat.le_refl _), Nat.sub_self]
  rfl
theorem pile_pop (x : V) (us : List V) : ((x :: us).reverse).dropLast = us.reverse := by
  rw [List.reverse_cons]
  exact List.dropLast_concat
theorem pile_push (x : V) (us : List V) : us.reverse ++ [x] = (x :: us).reverse := (List.reverse_cons).symm
theorem Kp.own {ms : List Addr} {H H1 : Hp} {p : Addr} {o : HO} (k : Kp ms H H1) (n : H p = none) : Kp ms H (upd H1 p o) :=
  ⟨fun b u e h => by rw [upd_ne (ne_of_none e n)]; exact k.at_ b u e h, fun b xs e => by rw [upd_ne (ne_of_none e n)]; exact k.tup b xs e⟩
theorem tabg_kp {ms : List Addr} {H H1 : Hp} {P : Addr} (g : GxR.TabG H P) (k : Kp ms H H1) (n : P ∉ ms) : GxR.TabG H1 P := by
  obtain ⟨ps, h, t⟩ := g
  exact ⟨ps, k.at_ _ _ h n, t⟩
theorem tabg_upd {H : Hp} {P p : Addr} {o : HO} (g : GxR.TabG H P) (n : P ≠ p) : GxR.TabG (upd H p o) P := by
  obtain ⟨ps, h, t⟩ := g
  exact ⟨ps, by rw [upd_ne n]; exact h, t⟩
/-- H' is H but for the table at P -/
abbrev Tb (P : Addr) (H H' : Hp) : Prop := GxR.Tabbed P H H'
theorem tb_refl {P : Addr} {H : Hp} (h : GxR.TabG H P) : Tb P H H := ⟨h, fun _ _ => rfl⟩
theorem tb_kp {P : Addr} {H H1 : Hp} (g : GxR.TabG H P) (a : Tb P H H1) : Kp [P] H H1 := by
  refine ⟨fun b o e n => ?_, fun b xs e => ?_⟩
  · rw [a.2 b (fun q => n (by rw [q]; simp))]
    exact e
  · rw [a.2 b (fun q => ?_)]
    · exact e
    · obtain ⟨ps, h, _⟩ := g
      rw [q, h] at e
      cases e
/-- the tables of all defs that have generators -/
def TTs (Ts : List Addr) (H : Hp) : Prop := ∀ P ∈ Ts, GxR.TabG H P
theorem TTs.tab {Ts : List Addr} {H H1 : Hp} {P : Addr} (h : TTs Ts H) (hP : P ∈ Ts) (t : Tb P H H1) : TTs Ts H1 ∧ Kp Ts H H1 := by
  refine ⟨fun q hq => ?_, (tb_kp (h P hP) t).more fun x hx => by rw [List.mem_singleton.mp hx]; exact hP⟩
  by_cases e : q = P
  · rw [e]
    exact t.1
  · obtain ⟨ps, a, b⟩ := h q hq
    exact ⟨ps, (t.2 q e).trans a, b⟩
theorem TTs.kp {ms Ts : List Addr} {H H1 : Hp} (h : TTs Ts H) (k : Kp ms H H1) (n : ∀ P ∈ Ts, P ∉ ms) : TTs Ts H1 := fun P hP => tabg_kp (h P hP) k (n P hP)
theorem TTs.kp0 {Ts : List Addr} {H H1 : Hp} (h : TTs Ts H) (k : Kp [] H H1) : TTs Ts H1 := h.kp k fun _ _ => List.not_mem_nil
theorem TTs.ne {Ts : List Addr} {H : Hp} {P p : Addr} (h : TTs Ts H) (hP : P ∈ Ts) (n : H p = none) : P ≠ p := by
  obtain ⟨ps, e, _⟩ := h P hP
  exact ne_of_none e n
theorem TTs.nin {Ts : List Addr} {H : Hp} {p : Addr} (h : TTs Ts H) (n : H p = none) : p ∉ Ts := fun hp => h.ne hp n rfl
theorem TTs.nino {Ts : List Addr} {H : Hp} {p : Addr} {o : HO} (h : TTs Ts H) (e : H p = some o) (no : ∀ ps, o ≠ .tbl ps) : p ∉ Ts := fun hp => by
  obtain ⟨ps, e2, _⟩ := h p hp
  rw [e2] at e
  exact no ps (Option.some.inj e).symm
/-- all(..) over a tuple that stays -/
theorem all_tup {K : PySem.W.Frag} {a : Addr} {xs : List V} {te : TE} {Q : VK} {H1 : Hp} (Pv : Nat → Hp → Prop) (h0 : Pv 0 H1) (hl : ∀ i H, Pv i H → SqT K H a xs)
    (hs : ∀ i x H, xs[i]? = some x → Pv i H → te [some x] H fun y H3 => ∃ b, y = .bl b ∧ if b = true then Pv (i + 1) H3 else Q (.bl false) H3) (hd : ∀ H, Pv xs.length H → Q (.bl true) H) :
    ∃ (n0 : Nat) (W : Nat → Hp → Prop), W 0 H1 ∧ ∀ i H', W i H' → (i < n0 ∧ (Itt K a).go i H' ∧ ∀ v H'', (Itt K a).yld i H' v H'' → te [some v] H'' fun y H3 => ∃ b, y = .bl b ∧ if b = true then W (i + 1) H3 else Q (.bl false) H3) ∨ ((Itt K a).stop i H' ∧ Q (.bl true) H') := by
  refine ⟨xs.length, fun i H => i ≤ xs.length ∧ Pv i H, ⟨Nat.zero_le _, h0⟩, fun i H ⟨hi, p⟩ => ?_⟩
  have q := hl i H p
  by_cases lt : i < xs.length
  · refine .inl ⟨lt, ⟨xs, xs[i], q, List.getElem?_eq_getElem lt⟩, fun v H'' y => ?_⟩
    obtain ⟨e, y⟩ := y
    subst e
    have h := hs i v H'' (y xs q) p
    have e : (fun (y : V) (H3 : Hp) => ∃ b, y = .bl b ∧ if b = true then (i + 1 ≤ xs.length ∧ Pv (i + 1) H3) else Q (.bl false) H3) = fun y H3 => ∃ b, y = .bl b ∧ if b = true then Pv (i + 1) H3 else Q (.bl false) H3 := by
      funext y H3
      refine propext ⟨fun ⟨b, e, h⟩ => ⟨b, e, ?_⟩, fun ⟨b, e, h⟩ => ⟨b, e, ?_⟩⟩
      · cases b
        · exact h
        · rw [if_pos rfl] at h ⊢
          exact h.2
      · cases b
        · exact h
        · rw [if_pos rfl] at h ⊢
          exact ⟨lt, h⟩
    rw [e]
    exact h
  · have e : i = xs.length := by omega
    subst e
    exact .inr ⟨⟨xs, q, Nat.le_refl _⟩, hd H p⟩
/-- a tuple of the written part -/
def KTup (K : PySem.W.Frag) (a : Addr) (xs : List V) : Prop := ∃ (o : Obj) (its : Array Value) (n : Nat), K.lookup a = some o ∧ o.cls = .type "tuple" ∧ o.data = .seq its n ∧ its.size ≤ sizeLine ∧ Vals xs its.toList
theorem KTup.sqt {K : PySem.W.Frag} {a : Addr} {xs : List V} (h : KTup K a xs) (H : Hp) : SqT K H a xs := by
  obtain ⟨o, its, n, h1, h2, h3, h4, h5⟩ := h
  exact .inr ⟨o, its, n, h1, h2, h3, h4, h5⟩
/-- a dict of the written part: its keys are just these -/
def keyS (e : DictEntry) : Option Str := match e.key with
  | .str x _ => some x
  | _ => none
theorem no_key {K : PySem.W.Frag} {a : Addr} {o d : _} {es : Array DictEntry} {n : Nat} {sl : _} {ks : List Str} (h : K.lookup a = some ⟨o, d, .dict es n, sl⟩) (hk : es.toList.map keyS = ks.map some) {z : Str} (hz : z ∉ ks) : PySem.W.nsIn K a z = some none := by
  have all : ∀ e ∈ es.toList, ∃ x t, e.key = .str x t ∧ x ∈ ks := fun e he => by
    have m : keyS e ∈ ks.map some := hk ▸ List.mem_map.mpr ⟨e, he, rfl⟩
    obtain ⟨x, hx, ex⟩ := List.mem_map.mp m
    unfold keyS at ex
    split at ex
    · rename_i x' t' e'
      refine ⟨x', t', e', ?_⟩
      rw [← Option.some.inj ex]
      exact hx
    · cases ex
  unfold PySem.W.nsIn
  rw [h]
  have f : es.toList.find? (fun e => e.key.isStr z) = none := List.find?_eq_none.mpr fun e he q => by
    obtain ⟨x, t, e1, e2⟩ := all e he
    rw [e1] at q
    have : (x == z) = true := q
    rw [beq_iff_eq] at this
    exact hz (this ▸ e2)
  show (match es.toList.find? (fun e => e.key.isStr z) with
    | some e => some (some e.val)
    | none => if es.toList.any (fun e => e.refKey) then none else some none) = some none
  rw [f]
  have g : es.toList.any (fun e => e.refKey) = false := List.any_eq_false.mpr fun e he q => by
    obtain ⟨x, t, e1, e2⟩ := all e he
    unfold DictEntry.refKey at q
    rw [e1] at q
    cases q
  show (if es.toList.any (fun e => e.refKey) = true then none else some none) = some none
  rw [g]
  rfl
theorem fn_any {ι : Type} {P : Program} {w : World} {K : PySem.W.Frag} {mg : Str → Option Value} {base : Heap} {CX : CXT} {k : Nat} {f : Addr} {fd : FuncData} {ps : List Str} {sp : ι → Sp} (h : ∀ i, FnOk P w K mg base CX k f fd ps (sp i)) :
    FnOk P w K mg base CX k f fd ps (fun vs H Q E => ∃ i, sp i vs H Q E) :=
  ⟨fun vs H Q E ⟨i, q⟩ => (h i).len vs H Q E q, fun A outer s H args us vs Q E hr e b v ⟨i, q⟩ => (h i).run A outer s H args us vs Q E hr e b v q⟩
/-- repr of any data -/
def rReprE : List V → Hp → VK → Prop := fun xs H Q => ∃ ms, rReprA ms xs H Q
theorem cr_reprE {X : Cx} {k : Nat} (hs : ∃ mm, X.base.Ns sysModules mm) (hg : X.A.guards = some []) (hr : Room k X.A) : CallR X (.builtin "repr") rReprE := by
  intro pins s σ H xs us Q I r h
  obtain ⟨ms, h⟩ := h
  exact cr_reprA (ms := ms) hs hg hr pins s σ H xs us Q I r h
end Ey
set_option maxHeartbeats 4000000
namespace Ey
open PySem PySem.Calls PySem.Spec PyProof.Rows L2 HT
section
variable {prog : Program} {w : World} {A : Around} {E : Value → Shared → Prop} {s : Shared}
theorem ey_steps (n : Nat) : Builtin.Slice.slicePlaces ((n : Int) - 1) (-1) (-1) = n := by
  unfold Builtin.Slice.slicePlaces
  rw [if_neg (by decide)]
  by_cases hn : (n : Int) - 1 > -1
  · rw [if_pos hn]
    have q : (- -1 : Int) = 1 := by decide
    rw [q, Int.ediv_one]
    omega
  · rw [if_neg hn]
    omega
theorem ey_applied_rev {sl : Addr} {vl vu vs : Value} {n : Nat} {Q : Int × Int × Nat → Shared → Prop} (q : s.heap.IsSliceOf sl vl vu vs) (pl : IsPart vl none) (pu : IsPart vu none) (ps : IsPart vs (some (-1)))
    (h : Q ((n : Int) - 1, -1, n) s) : wpAny (model prog w) A (Builtin.Slice.sliceApplied (.ref sl) (pure (n : Int))) Q E s := by
  obtain ⟨ob, hob, hcl, hda⟩ := id q
  unfold Builtin.Slice.sliceApplied Builtin.Slice.sliceFields
  refine wpAny_bind (wpAny_bind (wpAny_field hob hda (x := vl) rfl (wpAny_bind (wpAny_field hob hda (x := vu) rfl (wpAny_bind (wpAny_field hob hda (x := vs) rfl (wpAny_pure ?_)))))))
  refine wpAny_bind (slicePart_ ps ?_)
  show wpAny _ _ (if ((-1 : Int) == 0) = true then _ else _) _ _ s
  rw [if_neg (by decide)]
  refine wpAny_bind (slicePart_ pl (wpAny_bind (slicePart_ pu (wpAny_bind (wpAny_pure ?_)))))
  show wpAny _ _ (pure ((n : Int) - 1, (-1 : Int), Builtin.Slice.slicePlaces ((n : Int) - 1) (-1) (-1))) _ _ s
  rw [ey_steps]
  exact wpAny_pure h
theorem ey_back (xs : Array Value) : ((List.range xs.size).filterMap fun (m : Nat) => xs[((xs.size : Int) - 1 + (m : Int) * -1).toNat]?).toArray = xs.toList.reverse.toArray := by
  congr 1
  refine List.ext_getElem? fun i => ?_
  have key : ∀ m, m < xs.size → xs[((xs.size : Int) - 1 + (m : Int) * -1).toNat]? = (xs.toList.reverse)[m]? := fun m hm => by
    have e : ((xs.size : Int) - 1 + (m : Int) * -1).toNat = xs.size - 1 - m := by omega
    rw [e, List.getElem?_reverse (by rw [Array.length_toList]; exact hm), Array.length_toList, Array.getElem?_toList]
  have all : ∀ l : List Nat, (∀ m ∈ l, m < xs.size) → (l.filterMap fun (m : Nat) => xs[((xs.size : Int) - 1 + (m : Int) * -1).toNat]?) = l.filterMap fun m => (xs.toList.reverse)[m]? := fun l => by
    induction l with
    | nil => intro _; rfl
    | cons a r ih =>
      intro h
      rw [List.filterMap_cons, List.filterMap_cons, key a (h a List.mem_cons_self), ih fun m hm => h m (List.mem_cons_of_mem _ hm)]
  rw [all _ fun m hm => List.mem_range.mp hm]
  have fin : ∀ ys : List Value, (List.range ys.length).filterMap (fun m => ys[m]?) = ys := fun ys => by
    induction ys with
    | nil => rfl
    | cons y r ih =>
      rw [List.length_cons, List.range_succ_eq_map, List.filterMap_cons]
      show y :: List.filterMap _ _ = _
      rw [List.filterMap_map]
      exact congrArg (List.cons y) ih
  have := fin xs.toList.reverse
  rw [List.length_reverse, Array.length_toList] at this
  rw [this]
theorem ey_tuple_rev {tp sl : Addr} {items : Array Value} {vl vu vs : Value} {Q : Value → Shared → Prop} (it : IsTup s.heap tp items) (q : s.heap.IsSliceOf sl vl vu vs) (pl : IsPart vl none) (pu : IsPart vu none) (ps : IsPart vs (some (-1)))
    (h : Q (.ref s.heap.objs.size) { s with heap := s.heap.push { cls := .type "tuple", data := .seq items.toList.reverse.toArray } })
    (hz : items.size ≤ sizeLine) : wpAny (model prog w) A (getItem (.ref tp) (.ref sl)) Q E s := by
  have fits : sizeOk (.seq items.toList.reverse.toArray) := by
    show items.toList.reverse.toArray.size ≤ sizeLine
    rw [List.size_toArray, List.length_reverse, Array.length_toList]
    exact hz
  obtain ⟨ob, hob, hcl, hda⟩ := id q
  have kind : s.TypeIs (.ref sl) "slice" := ⟨ob, hob, hcl⟩
  unfold getItem
  try with_reducible refine wpAny_holding ?_
  first | refine wpAny_bind (wpAny_pure ?_) | skip
  refine wpAny_bind (wpAny_sequenceKey it.typeIs (by decide) ?_)
  refine wpAny_bind (wpAny_callSpecial?_slot (name := Str.ofString "__getitem__") it.typeIs PyProof.Rows.slot_tuple_getitem (wpAny_call_entry PyProof.Rows.slot_tuple_getitem it.typeIs entry_tuple_getitem ?_ (args_tuple_getitem _ _)))
  show wpAny _ _ (Builtin.Tuple.tupleItemsOf (.ref tp) >>= _) _ _ s
  refine wpAny_bind (tupleItemsOf_ it ?_)
  refine wpAny_bind (wpAny_typeOf kind ?_)
  rw [if_pos (by decide)]
  refine wpAny_bind (ey_applied_rev q pl pu ps ?_)
  have off : ¬ ((((items.size : Int) - 1 == 0) && ((-1 : Int) == 1) && (items.size == items.size)) = true) := by
    rw [show ((-1 : Int) == 1) = false from rfl, Bool.and_false, Bool.false_and]
    exact Bool.false_ne_true
  show wpAny _ _ (if (((items.size : Int) - 1 == 0) && ((-1 : Int) == 1) && (items.size == items.size)) = true then _ else _) _ _ s
  rw [if_neg off, ey_back]
  first
    | exact wpAny_bind (m := Builtin.Tuple.tupleExact _) (wpAny_newObj_type (wpAny_pure ⟨_, rfl, wpAny_pure h⟩) fits)
    | exact wpAny_bind (m := Builtin.Tuple.tupleExact _) (wpAny_newObj_type (wpAny_bind (wpAny_pure (wpAny_pure ⟨_, rfl, wpAny_pure h⟩))) fits)
    | exact wpAny_bind (wpAny_bind (m := Builtin.Tuple.tupleExact _) (wpAny_newObj_type (wpAny_pure (wpAny_pure ⟨_, rfl, wpAny_pure h⟩)) fits))
    | exact wpAny_bind (wpAny_bind (m := Builtin.Tuple.tupleExact _) (wpAny_newObj_type (wpAny_pure ⟨_, rfl, wpAny_pure h⟩) fits))
end
section
variable {X : Cx}
/-- e[::-1], e a tuple or a text -/
def tRevA (K : PySem.W.Frag) (te : TE) : TE := fun σ H Q => te σ H fun x H1 => (∃ a xs, x = .ref a ∧ SqT K H1 a xs ∧ ∀ p, H1 p = none → Q (.ref p) (upd H1 p (.tup xs.reverse))) ∨ ∃ p : List Nat, x = .str (st p) ∧ p.length ≤ sizeLine ∧ Q (.str (st p.reverse)) H1
theorem sb_rev (p : List Nat) (u : Tok) : Txt.sliceBy (st p) none none (-1, u) = st p.reverse := by
  have e := step_rev_list (st p) u
  have e2 : (Txt.sliceBy (st p) none none (-1, u)) = st ((List.range p.length).map fun k => p.toArray.getD (p.length - 1 - k) 0) := by
    rw [st_of (Txt.sliceBy (st p) none none (-1, u)), e]
    rfl
  rw [e2]
  congr 1
  refine List.ext_getElem? fun i => ?_
  rw [List.getElem?_map]
  by_cases hi : i < p.length
  · rw [List.getElem?_range hi, List.getElem?_reverse hi]
    show some (p.toArray.getD (p.length - 1 - i) 0) = _
    rw [List.getElem?_eq_getElem (by omega)]
    congr 1
    simp [Array.getD, show p.length - 1 - i < p.length by omega]
  · rw [List.getElem?_eq_none (by rw [List.length_range]; omega), List.getElem?_eq_none (by rw [List.length_reverse]; omega)]
    rfl
theorem pe_revA {e : Expr} {te : TE} {k : Nat} {p1 p2 p3 pos : Pos} (he : PE X e te) : PE X (.Subscript e (.Slice none none (some (.UnaryOp .USub (.Constant (.int 1) k p1) p2)) p3) pos) (tRevA X.K te) := by
  refine ⟨fun pins s σ H Q I h => ?_⟩
  refine Subscript_ (thn (he.run pins s σ H _ I h) fun v s1 ⟨x, H1, I1, r1, q1⟩ => ?_)
  have step : PO X (some (.UnaryOp .USub (.Constant (.int 1) k p1) p2)) (tPart (tUn (rU fun i => .int (-i)) (tC (.int 1)))) := po_some (pe_un un_neg pe_int)
  refine wpAny_Slice (thn (po_none.run pins s1 σ H1 (fun o H2 => o = none ∧ H2 = H1) I1 ⟨rfl, rfl⟩) fun vl s2 ⟨lo, H2, I2, pl, ea, eb⟩ => ?_)
  subst ea eb
  refine thn (po_none.run pins s2 σ H2 (fun o H3 => o = none ∧ H3 = H2) I2 ⟨rfl, rfl⟩) fun vu s3 ⟨up, H3, I3, pu, ec, ed⟩ => ?_
  subst ec ed
  refine thn (step.run pins s3 σ H3 (fun o H4 => o = some (-1) ∧ H4 = H3) I3 ⟨1, rfl, -1, rfl, rfl, rfl⟩) fun vs s4 ⟨o, H4, I4, pst, ee, ef⟩ => ?_
  subst ee ef
  have I5 : Inv X pins σ H4 { s4 with heap := s4.heap.push { cls := .type "slice", data := .fields #[vl, vu, vs] } } := I4.kept (t' := s4.toks) fun b ob q => Heap.get?_push_of_some _ q
  rcases q1 with ⟨a, xs, ex, hx, q⟩ | ⟨p, ex, hz, q⟩
  · subst ex
    cases r1
    obtain ⟨its, r, it, hz⟩ := I5.tuple hx
    have hlen : its.toArray.size = xs.length := by rw [List.size_toArray]; exact r.length.symm
    show wpAny (model X.prog X.w) X.A (subscriptTail e (.Slice none none (some (.UnaryOp .USub (.Constant (.int 1) k p1) p2)) p3) (.ref a) (.ref s4.heap.objs.size)) (EP X pins σ Q) X.xe { s4 with heap := s4.heap.push { cls := .type "slice", data := .fields #[vl, vu, vs] } }
    refine tail_any (ops := [.ref a, .ref s4.heap.objs.size]) it.typeIs PyProof.Rows.slot_tuple_getitem.lookup ?_ (by with_unfolding_all rfl)
    refine ey_tuple_rev it (Heap.IsSliceOf.new _ vl vu vs) pl pu pst ?_ (by rw [hlen]; exact hz)
    refine ⟨.ref _, _, I5.laid (t' := s4.toks) (o := .tup xs.reverse) (fun b ob q => Heap.get?_push_of_some _ q) (Nat.le_refl _) ?_, rfl, q _ (I5.hok.fresh (Nat.le_refl _))⟩
    refine ⟨by rw [List.length_reverse]; exact hz, its.reverse, r.reverse, ?_⟩
    have := IsTup.new { s4 with heap := s4.heap.push { cls := .type "slice", data := .fields #[vl, vu, vs] } }.heap its.reverse.toArray
    simpa using this
  · subst ex
    obtain ⟨t, rfl⟩ := r1
    cases pl
    cases pu
    cases pst with
    | int _ u =>
      show wpAny (model X.prog X.w) X.A (subscriptTail e (.Slice none none (some (.UnaryOp .USub (.Constant (.int 1) k p1) p2)) p3) (.str (st p) t) (.ref s4.heap.objs.size)) (EP X pins σ Q) X.xe { s4 with heap := s4.heap.push { cls := .type "slice", data := .fields #[.none, .none, .int (-1) u] } }
      refine tail_any (ops := [.str (st p) t, .ref s4.heap.objs.size]) (typeIs_str _ _ _) F.slot_str_getitem.lookup ?_ (by with_unfolding_all rfl)
      refine wpAny_getItem_str_slice (l := none) (u := none) (st := some (-1, u)) ⟨_, Heap.get?_push_size _ rfl, rfl, rfl⟩ rfl ?_
      have made : sliceMade (st p) t none none (some (-1, u)) = .str (st p.reverse) := by
        rw [← sb_rev p u]
        rfl
      rw [made]
      refine ⟨?_, .str (st p.reverse), _, I5.tok _, ⟨_, rfl⟩, q⟩
      rw [st_len, List.length_reverse]
      exact hz
end
end Ey
set_option maxHeartbeats 4000000
namespace Ey
open PySem PySem.Spec L2
/-- a comprehension over a text -/
theorem lcStr {z : Str} {g : TG} {tests : TT} {each : TE} {slots : List Nat} {σ : L2.St} {H1 : Hp} {D : Addr} {Qd : Hp → Prop} (Pv : Nat → Hp → Prop) (h0 : Pv 0 (upd H1 D (.lst [])))
    (hs : ∀ i c H, z.cps.toList[i]? = some c → Pv i H → g (.str (st [c])) (wipe σ slots) H fun σ2 H2 => wipe σ2 slots = wipe σ slots ∧ tests σ2 H2 fun b H3 => if b = true then each σ2 H3 fun y H4 => ∃ acc, H4 D = some (.lst acc) ∧ acc.length < sizeLine ∧ Pv (i + 1) (upd H4 D (.lst (acc ++ [y]))) else Pv (i + 1) H3)
    (hd : ∀ H, Pv z.cps.toList.length H → Qd H) :
    ∃ W : Nat → Nat → Hp → Prop, (∃ m, W 0 m (upd H1 D (.lst []))) ∧ ∀ i m H, W i m H → ((Its z).stop i H ∧ Qd H) ∨ ((Its z).go i H ∧ ∃ Nx : Hp → Prop, (∀ H', Nx H' → ∃ m', m' < m ∧ W (i + 1) m' H') ∧ ∀ x H', (Its z).yld i H x H' → g x (wipe σ slots) H' fun σ2 H2 => wipe σ2 slots = wipe σ slots ∧ tests σ2 H2 fun b H3 => if b = true then each σ2 H3 fun y H4 => ∃ acc, H4 D = some (.lst acc) ∧ acc.length < sizeLine ∧ Nx (upd H4 D (.lst (acc ++ [y]))) else Nx H3) := by
  refine ⟨fun i m H => m = z.cps.size - i ∧ i ≤ z.cps.size ∧ Pv i H, ⟨_, rfl, Nat.zero_le _, h0⟩, fun i m H hw => ?_⟩
  obtain ⟨rfl, hi, p⟩ := hw
  by_cases lt : i < z.cps.size
  · refine .inr ⟨lt, Pv (i + 1), fun H' p' => ⟨z.cps.size - (i + 1), by omega, rfl, lt, p'⟩, fun v H' y => ?_⟩
    obtain ⟨rfl, c, hc, rfl⟩ := y
    exact hs i c _ (by rw [Array.getElem?_toList]; exact hc) p
  · have e : i = z.cps.size := by omega
    subst e
    exact .inl ⟨Nat.le_refl _, hd H (by rw [Array.length_toList]; exact p)⟩
theorem wd_get {ds : List PyData} {i : Nat} {d : PyData} (h : ds[i]? = some d) : wd d + 2 ≤ wdAll ds := by
  induction ds generalizing i with
  | nil => cases h
  | cons x r ih =>
    cases i with
    | zero =>
      have q : x = d := Option.some.inj h
      rw [q]
      show wd d + 2 ≤ wd d + 2 + wdAll r
      omega
    | succ i =>
      have := ih h
      show wd d + 2 ≤ wd x + 2 + wdAll r
      omega
theorem len_wd (ds : List PyData) : ds.length ≤ wdAll ds := by
  induction ds with
  | nil => exact Nat.le_refl _
  | cons x r ih =>
    show r.length + 1 ≤ wd x + 2 + wdAll r
    omega
theorem eqv_strs (ps : List Nat) : PyData.eqv (.list (ps.map fun c => .str (st [c]))) (.list []) = ps.isEmpty := by
  cases ps <;> rfl
theorem dp_signs {K : PySem.W.Frag} {H : Hp} : ∀ ps : List Nat, DpAll K H (ps.map fun c => V.str (st [c])) (ps.map fun c => .str (st [c]))
  | [] => .nil
  | c :: r => .cons (.str _) (dp_signs r)
theorem lay_signs : ∀ ps : List Nat, (∀ c ∈ ps, c < 1000) → PyData.canLayAll0 (ps.map fun c => .str (st [c])) = true ∧ PyData.depthAll (ps.map fun c => .str (st [c])) = 0
  | [], _ => ⟨rfl, rfl⟩
  | c :: r, h => by
    obtain ⟨a, b⟩ := lay_signs r fun x hx => h x (List.mem_cons_of_mem _ hx)
    refine ⟨?_, ?_⟩
    · show (PyData.canLay0 (.str (st [c])) && PyData.canLayAll0 (r.map fun c => .str (st [c]))) = true
      have q : PyData.canLay0 (.str (st [c])) = true := by
        have := h c List.mem_cons_self
        have e : (st [c]).cps = #[c] := rfl
        simp only [PyData.canLay0, PyData.strOk, e]
        simp
        omega
      rw [a, q]
      rfl
    · show max 0 (PyData.depthAll (r.map fun c => .str (st [c]))) = 0
      rw [b]
      rfl
theorem shaped_signs (ps : List Nat) (h : ∀ c ∈ ps, c < 1000) : SeqAt.shaped (.list (ps.map fun c => .str (st [c]))) = true := by
  obtain ⟨a, b⟩ := lay_signs ps h
  show (PyData.canLayAll0 (ps.map fun c => .str (st [c])) && decide (PyData.depthAll (ps.map fun c => .str (st [c])) + 1 ≤ 64)) = true
  rw [a, b]
  rfl
theorem isTag_alt (g : Str) (h1 : 1 ≤ g.length) (h2 : g.length ≤ 8) : isTag g = (g.cps.toList.filter fun c => !decide (c ∈ abc)).isEmpty := by
  rw [isTag, decide_eq_true h1, decide_eq_true h2]
  show (g.cps.toList.all fun c => decide (c ∈ abc)) = _
  generalize g.cps.toList = l
  induction l with
  | nil => rfl
  | cons a r ih =>
    rw [List.all_cons, List.filter_cons, ih]
    cases decide (a ∈ abc) <;> rfl
theorem take_filter {l : List Nat} {f : Nat → Bool} {i c : Nat} (h : l[i]? = some c) : (l.take (i + 1)).filter f = (l.take i).filter f ++ if f c = true then [c] else [] := by
  rw [List.take_add_one, h, List.filter_append]
  congr 1
  show List.filter f [c] = _
  rw [List.filter_cons]
  rfl
def wAny : Nat → Nat
  | 0 => 130
  | n + 1 => 3 * wAny n + 140
theorem wAny_ge : ∀ n, 130 ≤ wAny n
  | 0 => Nat.le_refl _
  | n + 1 => by
    have := wAny_ge n
    show 130 ≤ 3 * wAny n + 140
    omega
/-- what is told of a drawn value -/
structure Good (n w : Nat) (x : PyData) : Prop where
  f : fit x = true
  d : x.depth ≤ n
  w : wd x ≤ w
theorem Good.mono {n w n' w' : Nat} {x : PyData} (g : Good n w x) (h1 : n ≤ n') (h2 : w ≤ w') : Good n' w' x := ⟨g.f, Nat.le_trans g.d h1, Nat.le_trans g.w h2⟩
inductive GoodAll (n w : Nat) : List PyData → Prop
  | nil : GoodAll n w []
  | cons {x : PyData} {r : List PyData} : Good n w x → GoodAll n w r → GoodAll n w (x :: r)
theorem GoodAll.facts {n w : Nat} {ds : List PyData} (h : GoodAll n w ds) : fitAll ds = true ∧ PyData.depthAll ds ≤ n ∧ wdAll ds ≤ (w + 2) * ds.length := by
  induction h with
  | nil => exact ⟨rfl, Nat.zero_le _, Nat.zero_le _⟩
  | @cons x r g _ ih =>
    obtain ⟨a, b, c⟩ := ih
    refine ⟨?_, ?_, ?_⟩
    · show (fit x && fitAll r) = true
      rw [g.f, a]
      rfl
    · show max x.depth (PyData.depthAll r) ≤ n
      have := g.d
      omega
    · show wd x + 2 + wdAll r ≤ (w + 2) * (r.length + 1)
      have := g.w
      rw [Nat.mul_add]
      omega
theorem GoodAll.snoc {n w : Nat} {ds : List PyData} {x : PyData} (h : GoodAll n w ds) (g : Good n w x) : GoodAll n w (ds ++ [x]) := by
  induction h with
  | nil => exact .cons g .nil
  | cons a _ ih => exact .cons a ih
section
variable {ms ms' : List Addr} {H : Hp}
mutual
theorem An.mono (hs : ∀ x ∈ ms', x ∈ ms) : ∀ {v : V} (d : PyData), An ms H v d → An ms' H v d
  | _, .none, h => by cases h; exact .non
  | _, .bool b, h => by cases h; exact .bl b
  | _, .int i, h => by cases h; exact .int i
  | _, .str x, h => by cases h; exact .str x
  | _, .list ds, h => by
    cases h with
    | lst e n a => exact .lst e (fun q => n (hs _ q)) (AnAll.mono hs ds a)
  | _, .tuple ds, h => by
    cases h with
    | tup e a => exact .tup e (AnAll.mono hs ds a)
  | _, .dict ds, h => by
    cases h with
    | dct e n a => exact .dct e (fun q => n (hs _ q)) (AnKv.mono hs ds a)
theorem AnAll.mono (hs : ∀ x ∈ ms', x ∈ ms) : ∀ {vs : List V} (ds : List PyData), AnAll ms H vs ds → AnAll ms' H vs ds
  | _, [], h => by cases h; exact .nil
  | _, d :: r, h => by
    cases h with
    | cons a b => exact .cons (An.mono hs d a) (AnAll.mono hs r b)
theorem AnKv.mono (hs : ∀ x ∈ ms', x ∈ ms) : ∀ {vs : List (Key × V)} (ds : List (PyData × PyData)), AnKv ms H vs ds → AnKv ms' H vs ds
  | _, [], h => by cases h; exact .nil
  | _, (y, d) :: r, h => by
    cases h with
    | cons a b => exact .cons (An.mono hs d a) (AnKv.mono hs r b)
end
end
section
variable {X : Cx}
/-- t[lo:hi] of a tuple, as one case -/
def rCut : V → Option Int → Option Int → Hp → VK → Prop := fun x lo hi H Q => ∃ (a : Addr) (xs : List V), x = .ref a ∧ H a = some (.tup xs) ∧ ∀ (q : Addr) (H' : Hp), H' q = some (.tup (cutV xs lo hi)) → Kp [] H H' → Q (.ref q) H'
theorem sl_cut : SlR X rCut := by
  intro pins s σ H x v vl vu lo hi sl Q I rx hs pl pu h
  obtain ⟨a, xs, rfl, e, k⟩ := h
  refine sl_tupA pins s σ H _ v vl vu lo hi sl Q I rx hs pl pu ⟨a, xs, rfl, sqt_of e, fun w => k a H ?_ .refl, fun _ p np => k p _ upd_same (.new np)⟩
  have whole : cutV xs lo hi = xs := by
    unfold cutV
    rw [w.1, w.2, List.drop_zero, Nat.sub_zero, List.take_length]
  rw [whole]
  exact e
/-- t + u of tuples, as one case -/
def rCat2 : R2 := fun x y H Q => ∃ (a b : Addr) (xs ys : List V), x = .ref a ∧ y = .ref b ∧ H a = some (.tup xs) ∧ H b = some (.tup ys) ∧ xs.length + ys.length ≤ sizeLine ∧ ∀ (q : Addr) (H' : Hp), H' q = some (.tup (xs ++ ys)) → Kp [] H H' → Q (.ref q) H'
theorem op_cat2 : OpR X (binaryOp .Add) rCat2 := by
  intro pins s σ H x y v u Q I rx ry h
  obtain ⟨a, b, xs, ys, rfl, rfl, ea, eb, hz, k⟩ := h
  refine op_catA pins s σ H _ _ v u Q I rx ry ⟨a, b, xs, ys, rfl, rfl, sqt_of ea, sqt_of eb, hz, fun e => k b H ?_ .refl, fun _ e => k a H ?_ .refl, fun _ _ p np => k p _ upd_same (.new np)⟩
  · rw [e]
    exact eb
  · rw [e, List.append_nil]
    exact ea
theorem cut_take (xs : List V) (i : Nat) : cutV xs none (some (i : Int)) = xs.take i := by
  unfold cutV
  rw [HT.sIx_none, HT.sIx_nat, List.drop_zero, Nat.sub_zero, ← List.take_take, List.take_length]
theorem cut_drop (xs : List V) (i : Nat) : cutV xs (some (i : Int)) none = xs.drop i := by
  unfold cutV
  rw [HT.sIx_none, HT.sIx_nat]
  by_cases h : i ≤ xs.length
  · rw [Nat.min_eq_left h]
    exact List.take_of_length_le (by rw [List.length_drop]; exact Nat.le_refl _)
  · rw [Nat.min_eq_right (by omega), Nat.sub_self, List.take_zero, List.drop_of_length_le (by omega)]
theorem pe_nev {e : Expr} : PE X e (fun _ _ _ => False) := ⟨fun _ _ _ _ _ _ h => h.elim⟩
end
theorem goodAll_of {n w : Nat} : ∀ ds : List PyData, (∀ x ∈ ds, Good n w x) → GoodAll n w ds
  | [], _ => .nil
  | x :: r, h => .cons (h x List.mem_cons_self) (goodAll_of r fun y hy => h y (List.mem_cons_of_mem _ hy))
theorem two_good {n w : Nat} {x y : PyData} (a : Good n w x) (b : Good n w y) : Good (n + 1) (2 * w + 7) (.tuple [x, y]) := by
  refine ⟨?_, ?_, ?_⟩
  · show (fit x && (fit y && true)) = true
    rw [a.f, b.f]
    rfl
  · show max x.depth (max y.depth 0) + 1 ≤ n + 1
    have := a.d
    have := b.d
    omega
  · show wd x + 2 + (wd y + 2 + 0) + 3 ≤ 2 * w + 7
    have := a.w
    have := b.w
    omega
theorem bl_good (b : Bool) : Good 0 5 (.bool b) := ⟨rfl, Nat.le_refl _, Nat.le_refl _⟩
end Ey
set_option maxHeartbeats 4000000
namespace Ey
open PySem PySem.Spec L2
def topS (i : Nat) : Stmt := PySem.Challenge.pw_eyesonly_k00_errors_by_position_and_by_n.main.body.getD i (.Pass ⟨0, 0, 0, 0⟩)
abbrev sDeck : Stmt := topS 27
abbrev sDraw : Stmt := topS 28
abbrev sPick : Stmt := topS 29
/-- what the module leaves of the built-in names -/
structure BI (mg : Str → Option Value) : Prop where
  int : mg "int" = none
  max : mg "max" = none
  list : mg "list" = none
  len : mg "len" = none
  range : mg "range" = none
  tuple : mg "tuple" = none
  sorted : mg "sorted" = none
  repr : mg "repr" = none
  isi : mg "isinstance" = none
  str : mg "str" = none
  all : mg "all" = none
  bool : mg "bool" = none
  enum : mg "enumerate" = none
/-! ### the deck -/
def kLeft : Key := .inr "left"
def kMix : Key := .inr "mixed"
def kDraw : Key := .inr "draws"
theorem kLM : ¬ kLeft = kMix := by decide +kernel
theorem kLD : ¬ kLeft = kDraw := by decide +kernel
theorem kMD : ¬ kMix = kDraw := by decide +kernel
def deckD (l : Addr) (m n : Int) : List (Key × V) := [(kLeft, .ref l), (kMix, .int m), (kDraw, .int n)]
section
variable (l : Addr) (m n : Int)
theorem deck_left : valV (deckD l m n) kLeft = some (.ref l) := valV_pos rfl
theorem deck_mix : valV (deckD l m n) kMix = some (.int m) := (valV_neg kLM).trans (valV_pos rfl)
theorem deck_draw : valV (deckD l m n) kDraw = some (.int n) := (valV_neg kLD).trans ((valV_neg kMD).trans (valV_pos rfl))
theorem put_mix (z : Int) : putK (deckD l m n) kMix (.int z) = deckD l z n := by
  have h : ((deckD l m n).any fun kv => decide (kv.1 = kMix)) = true := by rw [valV_any, deck_mix]; rfl
  unfold putK
  rw [if_pos h]
  have h2 : ¬ kDraw = kMix := fun e => kMD e.symm
  simp [deckD, kLM, h2]
theorem put_draw (z : Int) : putK (deckD l m n) kDraw (.int z) = deckD l m z := by
  have h : ((deckD l m n).any fun kv => decide (kv.1 = kDraw)) = true := by rw [valV_any, deck_draw]; rfl
  unfold putK
  rw [if_pos h]
  simp [deckD, kLD, kMD]
end
theorem merge_deck (l : Addr) (m n : Int) : mergeK [] (deckD l m n) = deckD l m n := by
  have e1 : putK ([] : List (Key × V)) kLeft (.ref l) = [(kLeft, .ref l)] := putK_new _ rfl
  have e2 : putK [(kLeft, V.ref l)] kMix (.int m) = [(kLeft, V.ref l), (kMix, .int m)] := putK_new _ (valV_neg kLM)
  have e3 : putK [(kLeft, V.ref l), (kMix, V.int m)] kDraw (.int n) = deckD l m n := putK_new _ ((valV_neg kLD).trans (valV_neg kMD))
  show putK (putK (putK [] kLeft (.ref l)) kMix (.int m)) kDraw (.int n) = _
  rw [e1, e2, e3]
theorem deck_sz (l : Addr) (m n : Int) : (deckD l m n).length < sizeLine := small1000 (by show 3 ≤ 1000; decide)
section
variable {H : Hp} {d l : Addr} {m n : Int}
theorem get_left (h : H d = some (.dK (deckD l m n))) : DGet H d (kV kLeft) (some (.ref l)) := deck_left l m n ▸ DGet.k h
theorem get_mix (h : H d = some (.dK (deckD l m n))) : DGet H d (kV kMix) (some (.int m)) := deck_mix l m n ▸ DGet.k h
theorem get_draw (h : H d = some (.dK (deckD l m n))) : DGet H d (kV kDraw) (some (.int n)) := deck_draw l m n ▸ DGet.k h
theorem set_mix (h : H d = some (.dK (deckD l m n))) (z : Int) : DPut H d (kV kMix) (.int z) (upd H d (.dK (deckD l z n))) := put_mix l m n z ▸ DPut.k h (deck_sz l m n)
theorem set_draw (h : H d = some (.dK (deckD l m n))) (z : Int) : DPut H d (kV kDraw) (.int z) (upd H d (.dK (deckD l m z))) := put_draw l m n z ▸ DPut.k h (deck_sz l m n)
end
structure DeckAt (H : Hp) (d l : Addr) : Prop where
  ex : ∃ (m n : Int) (ns : List Int), H d = some (.dK (deckD l m n)) ∧ H l = some (.lst (ns.map V.int)) ∧ ns.length ≤ 63
theorem DeckAt.ne {H : Hp} {d l : Addr} (D : DeckAt H d l) : d ≠ l := by
  obtain ⟨m, n, ns, h1, h2, _⟩ := D.ex
  exact ne_of h1 h2 (by intro z; cases z)
theorem DeckAt.kp {ms : List Addr} {H H1 : Hp} {d l : Addr} (D : DeckAt H d l) (k : Kp ms H H1) (nd : d ∉ ms) (nl : l ∉ ms) : DeckAt H1 d l := by
  obtain ⟨m, n, ns, h1, h2, h3⟩ := D.ex
  exact ⟨m, n, ns, k.at_ _ _ h1 nd, k.at_ _ _ h2 nl, h3⟩
def spDraw : Sp := fun vs H Q _ => ∃ (d l : Addr) (many : Int), vs = [.ref d, .int many] ∧ DeckAt H d l ∧ 0 < many ∧ many < 1073741824 ∧
  ∀ (r : Int) (H' : Hp), 0 ≤ r → r < many → DeckAt H' d l → Kp [d, l] H H' → Q (.int r) H'
section
variable {P : Program} {w : World} {K : PySem.W.Frag} {mg : Str → Option Value} {base : Heap}
theorem scDraw : FnScope ["_law_deck_here", "_law_many", "_law_cell", "_law_figure"] ["_law_deck_here", "_law_many"] (defScope sDraw) := ⟨rfl, rfl, rfl, by decide +kernel, rfl, by decide +kernel, by decide +kernel⟩
theorem fmod_lt {i j : Int} (h : 0 < j) : 0 ≤ i.fmod j ∧ i.fmod j < j := ⟨Int.fmod_nonneg_of_pos _ h, Int.fmod_lt_of_pos _ h⟩
theorem fdiv_ne : (2147483647 : Int) ≠ 0 := by decide
theorem lt64 {i : Int} (h0 : 0 ≤ i) (h1 : i < 2147483647) : -(2 ^ 64) < i ∧ i < 2 ^ 64 := by
  constructor
  · exact Int.lt_of_lt_of_le (by decide) h0
  · exact Int.lt_trans h1 (by decide)
theorem eqv_nil (ns : List Int) : PyData.eqv (.list (ns.map PyData.int)) (.list []) = ns.isEmpty := by
  cases ns <;> rfl
theorem dp_ints {K : PySem.W.Frag} {H : Hp} : ∀ ns : List Int, DpAll K H (ns.map V.int) (ns.map PyData.int)
  | [] => .nil
  | n :: r => .cons (.int n) (dp_ints r)
theorem lay_ints : ∀ ns : List Int, PyData.canLayAll0 (ns.map PyData.int) = true ∧ PyData.depthAll (ns.map PyData.int) = 0
  | [] => ⟨rfl, rfl⟩
  | n :: r => by
    obtain ⟨a, b⟩ := lay_ints r
    refine ⟨?_, ?_⟩
    · show (PyData.canLay0 (.int n) && PyData.canLayAll0 (r.map PyData.int)) = true
      rw [a]
      rfl
    · show max 0 (PyData.depthAll (r.map PyData.int)) = 0
      rw [b]
      rfl
theorem shaped_ints (ns : List Int) : SeqAt.shaped (.list (ns.map PyData.int)) = true := by
  obtain ⟨a, b⟩ := lay_ints ns
  show (PyData.canLayAll0 (ns.map PyData.int) && decide (PyData.depthAll (ns.map PyData.int) + 1 ≤ 64)) = true
  rw [a, b]
  rfl
theorem ok_draw {f : Addr} {fd : FuncData} (F : Fun K "_law_draw" "_law_draw" sDraw f fd) (B : BI mg) : FnOk P w K mg base CX0 1 f fd ["_law_deck_here", "_law_many"] spDraw := by
  refine F.ok scDraw (fun vs H Q E h => ?_) (fun cdv A outer s H vs Q E hr h => ?_)
  · obtain ⟨d, l, many, rfl, _⟩ := h
    rfl
  · obtain ⟨d, l, many, rfl, D, m0, m1, k⟩ := h
    have hu := hu_of hr
    have mne : many ≠ 0 := by omega
    -- the tail: figure, figure, figure, return
    obtain ⟨tt, dt, rt⟩ : ∃ tt, PSs (cxOf CX0 P w K mg base ["_law_deck_here", "_law_many", "_law_cell", "_law_figure"] "_law_draw" (defScope sDraw) f cdv A outer s H E).nox ((defBody sDraw).drop 2) tt ∧
        ∀ (H2 : Hp) (y : Option V), DeckAt H2 d l → Kp [d, l] H H2 → tt { nx := fun _ H' => Q .non H', rt := Q } [some (.ref d), some (.int many), y, none] H2 := by
      refine ⟨_, pss_cons (ps_set (i := 3) scDraw.nd rfl (.inl rfl) (pe_op op_modN (pe_callTy call_int1 (by rfl) B.int (by decide +kernel) (pa_cons (pe_op op_add (pe_dget hu (pv 0) pe_str (fun _ _ => rfl)) (pe_op op_mul pe_int (pe_dget hu (pv 0) pe_str (fun _ _ => rfl)))) pa_nil)) pe_int))
        (pss_cons (ps_set (i := 3) scDraw.nd rfl (.inl rfl) (pe_op op_modN (pe_callTy call_int1 (by rfl) B.int (by decide +kernel) (pa_cons (pe_op op_add (pe_op op_add (pe_op op_mul (pv 3) (pv 3)) (pe_op op_mul pe_int (pe_dget hu (pv 0) pe_str (fun _ _ => rfl)))) pe_int) pa_nil)) pe_int))
        (pss_cons (ps_set (i := 3) scDraw.nd rfl (.inl rfl) (pe_op op_modN (pe_callTy call_int1 (by rfl) B.int (by decide +kernel) (pa_cons (pe_op op_add (pe_op op_mul (pv 3) pe_int) pe_int) pa_nil)) pe_int))
        (pss_one (ps_ret (pe_op op_modN (pe_callTy call_int1 (by rfl) B.int (by decide +kernel) (pa_cons (pe_op op_fdivN (pv 3) pe_int) pa_nil)) (pv 1)))))), fun H2 y D2 k2 => ?_⟩
      obtain ⟨m, n, ns, hd, hl, hn⟩ := id D2
      refine ⟨_, rfl, d, _, rfl, get_mix hd, _, rfl, d, _, rfl, get_draw hd, _, _, rfl, rfl, .inl ⟨by decide, by decide⟩, _, _, rfl, rfl, .inl ⟨_, rfl, ?_⟩⟩
      refine ⟨_, _, rfl, rfl, (by decide : (2147483647 : Int) ≠ 0), ?_⟩
      have b1 := fmod_lt (i := m + 31337 * n) (j := 2147483647) (by decide)
      refine ⟨_, rfl, _, rfl, _, _, rfl, rfl, .inl (lt64 b1.1 b1.2), _, rfl, d, _, rfl, get_draw hd, _, _, rfl, rfl, .inl ⟨by decide, by decide⟩, _, _, rfl, rfl, _, _, rfl, rfl, .inl ⟨_, rfl, ?_⟩⟩
      refine ⟨_, _, rfl, rfl, (by decide : (2147483629 : Int) ≠ 0), ?_⟩
      have b2 := fmod_lt (i := (m + 31337 * n).fmod 2147483647 * (m + 31337 * n).fmod 2147483647 + 48271 * n + 47) (j := 2147483629) (by decide)
      refine ⟨_, rfl, _, _, rfl, rfl, .inl (lt64 b2.1 (Int.lt_trans b2.2 (by decide : (2147483629 : Int) < 2147483647))), _, _, rfl, rfl, .inl ⟨_, rfl, ?_⟩⟩
      refine ⟨_, _, rfl, rfl, (by decide : (2147483563 : Int) ≠ 0), ?_⟩
      refine ⟨_, rfl, _, _, rfl, rfl, (⟨by decide, by decide⟩ : (64 : Int) ≠ 0 ∧ (64 : Int).natAbs < 1073741824), .inl ⟨_, rfl, _, rfl, _, _, rfl, rfl, mne, ?_⟩⟩
      have b3 := fun i : Int => fmod_lt (i := i) m0
      exact k _ H2 (b3 _).1 (b3 _).2 D2 k2
    refine ⟨_, pss_cons (ps_dput hu (pv 0) pe_str (pe_op op_add (pe_dget hu (pv 0) pe_str (fun _ _ => rfl)) pe_int) rfl)
      (pss_cons (ps_if (pt_cmpR (op_neD hr.units) (pe_dget hu (pv 0) pe_str (fun _ _ => rfl)) (pe_lst pa_nil) (nomark _))
        (pss_cons (ps_set (i := 2) scDraw.nd rfl (.inl rfl) (pe_bm0 PySem.F.plainAttrs_list PySem.F.slot_list_pop PySem.F.type_list_pop mt_pop (pe_dget hu (pv 0) pe_str (fun _ _ => rfl))))
        (pss_cons (ps_if (pt_cmpR op_ge (pv 2) (pe_op op_pow pe_int pe_int) (nomark _))
          (pss_cons (ps_expr (pe_bm PySem.F.plainAttrs_list PySem.F.slot_list_append PySem.F.type_list_append mt_append (pe_dget hu (pv 0) pe_str (fun _ _ => rfl))
            (pa_cons (pe_op op_fdivN (pv 2) (pe_callB (call_max2 rfl) (by rfl) B.max (by decide +kernel) (pa_cons pe_int (pa_cons (pv 1) pa_nil)))) pa_nil)))
          (pss_one (ps_ret (pe_op op_modN (pe_callTy call_int1 (by rfl) B.int (by decide +kernel) (pa_cons (pv 2) pa_nil)) (pv 1))))) pss_nil)
        (pss_one (ps_dput hu (pv 0) pe_str (pe_op op_modN (pe_callTy call_int1 (by rfl) B.int (by decide +kernel) (pa_cons (pe_op op_add (pe_op op_add (pe_op op_mul (pe_dget hu (pv 0) pe_str (fun _ _ => rfl)) pe_int)
          (pe_op op_modN (pe_callTy call_int1 (by rfl) B.int (by decide +kernel) (pa_cons (pv 2) pa_nil)) pe_int)) pe_int) pa_nil)) pe_int) rfl)))) pss_nil)
      dt), ?_⟩
    obtain ⟨m, n, ns, hd, hl, hn⟩ := D.ex
    have ndl := D.ne
    -- deck['draws'] = deck['draws'] + 1
    refine ⟨_, rfl, d, _, rfl, get_draw hd, _, _, rfl, rfl, _, rfl, d, _, rfl, set_draw hd _, ?_⟩
    have kd : Kp [d, l] H (upd H d (.dK (deckD l m (n + 1)))) := .put (by simp) hd (fun xs z => by cases z)
    have hd1 : (upd H d (.dK (deckD l m (n + 1)))) d = some (.dK (deckD l m (n + 1))) := upd_same
    have hl1 : (upd H d (.dK (deckD l m (n + 1)))) l = some (.lst (ns.map V.int)) := by rw [upd_ne ndl.symm]; exact hl
    generalize upd H d (.dK (deckD l m (n + 1))) = H1 at kd hd1 hl1
    -- if deck['left'] != []
    refine ⟨_, rfl, d, _, rfl, get_left hd1, Nat.zero_le _, fun p np => ⟨.list (ns.map PyData.int), .list [], .lst (sql_of (by rw [upd_ne (ne_of_none hl1 np)]; exact hl1)) (dp_ints ns), .lst (sql_of upd_same) .nil, shaped_ints ns, rfl, ?_⟩⟩
    rw [eqv_nil]
    have kp : Kp [d, l] H (upd H1 p (.lst [])) := kd.trans (.new np)
    have hd2 : (upd H1 p (.lst [])) d = some (.dK (deckD l m (n + 1))) := by rw [upd_ne (ne_of_none hd1 np)]; exact hd1
    have hl2 : (upd H1 p (.lst [])) l = some (.lst (ns.map V.int)) := by rw [upd_ne (ne_of_none hl1 np)]; exact hl1
    generalize upd H1 p (.lst []) = H2 at kp hd2 hl2
    refine ⟨_, rfl, ?_⟩
    cases e : ns.isEmpty with
    | true =>
      refine iteF ?_
      exact rt H2 _ ⟨_, _, _, hd2, hl2, hn⟩ kp
    | false =>
      refine iteT ?_
      -- cell = deck['left'].pop()
      obtain ⟨ini, z, rfl⟩ : ∃ ini z, ns = ini ++ [z] := by
        refine ⟨ns.dropLast, ns.getLast (fun q => by rw [q] at e; cases e), (List.dropLast_concat_getLast _).symm⟩
      have lst : ((ini ++ [z]).map V.int)[((ini ++ [z]).map V.int).length - 1]? = some (.int z) := by
        rw [List.map_append, List.length_append]
        show (ini.map V.int ++ [V.int z])[(ini.map V.int).length + 1 - 1]? = _
        rw [Nat.add_sub_cancel, List.getElem?_append_right (Nat.le_refl _), Nat.sub_self]
        rfl
      have dr : ((ini ++ [z]).map V.int).dropLast = ini.map V.int := by
        rw [List.map_append]
        exact List.dropLast_concat
      rw [List.length_append] at hn
      have hn' : ini.length + 1 ≤ 63 := hn
      refine ⟨_, rfl, d, _, rfl, get_left hd2, .inl ⟨rfl, _, sql_of hl2⟩, l, _, _, rfl, rfl, hl2, lst, ?_⟩
      rw [dr]
      have k3 : Kp [d, l] H (upd H2 l (.lst (ini.map V.int))) := kp.trans (.put (by simp) hl2 (fun xs z => by cases z))
      have hd3 : (upd H2 l (.lst (ini.map V.int))) d = some (.dK (deckD l m (n + 1))) := by rw [upd_ne ndl]; exact hd2
      have hl3 : (upd H2 l (.lst (ini.map V.int))) l = some (.lst (ini.map V.int)) := upd_same
      generalize upd H2 l (.lst (ini.map V.int)) = H3 at k3 hd3 hl3
      -- if cell >= 10 ** 18
      refine ⟨_, rfl, _, _, rfl, rfl, (⟨by decide, by decide, by decide⟩ : (0 : Int) ≤ 18 ∧ (18 : Int) ≤ 1000000 ∧ (10 : Int).natAbs < 2 ^ 64), _, _, rfl, rfl, _, rfl, ite2 (fun _ => ?_) (fun _ => ?_)⟩
      · -- append, return
        refine ⟨_, rfl, d, _, rfl, get_left hd3, .inl ⟨rfl, _, sql_of hl3⟩, _, rfl, _, rfl, _, _, rfl, _, _, rfl, rfl, ?_, ?_⟩
        · show (if many > 2 then many else 2) ≠ 0 ∧ (if many > 2 then many else 2).natAbs < 1073741824
          split <;> omega
        · refine ⟨l, _, _, rfl, rfl, hl3, ?_, ?_⟩
          · rw [List.length_map]
            exact small1000 (by omega)
          · refine ⟨_, rfl, .inl ⟨_, rfl, _, rfl, _, _, rfl, rfl, mne, ?_⟩⟩
            have b3 := fun i : Int => fmod_lt (i := i) m0
            refine k _ _ (b3 _).1 (b3 _).2 ⟨m, n + 1, ini ++ [z.fdiv (if many > 2 then many else 2)], ?_, ?_, ?_⟩ (k3.trans (.put (by simp) hl3 (fun xs z => by cases z)))
            · rw [upd_ne ndl]
              exact hd3
            · rw [upd_same, List.map_append]
              rfl
            · rw [List.length_append]
              show ini.length + 1 ≤ 63
              omega
      · refine ⟨_, rfl, d, _, rfl, get_mix hd3, _, _, rfl, rfl, .inr ⟨by decide, by decide⟩, _, rfl, .inl ⟨_, rfl, _, _, rfl, rfl, (by decide : (2147483629 : Int) ≠ 0), _, _, rfl, rfl, _, _, rfl, rfl, .inl ⟨_, rfl, ?_⟩⟩⟩
        refine ⟨_, _, rfl, rfl, (by decide : (2147483587 : Int) ≠ 0), _, rfl, d, _, rfl, set_mix hd3 _, ?_⟩
        refine rt _ _ ⟨_, _, ini, upd_same, ?_, by omega⟩ (k3.trans (.put (by simp) hd3 (fun xs z => by cases z)))
        rw [upd_ne ndl.symm]
        exact hl3
theorem cut63 (xs : List V) (h : xs.length ≤ 63) : cutV xs none (some 63) = xs := by
  unfold cutV
  rw [HT.sIx_none, show HT.sIx xs.length xs.length (some 63) = min 63 xs.length from HT.sIx_nat _ _ 63, Nat.min_eq_right h]
  show List.take xs.length xs = xs
  exact List.take_length
theorem scDeck : FnScope ["_law_script", "_law_seed", "_law_mixed", "_law_cell"] ["_law_script", "_law_seed"] (defScope sDeck) := ⟨rfl, rfl, rfl, by decide +kernel, rfl, by decide +kernel, by decide +kernel⟩
def spDeck (K : PySem.W.Frag) : Sp := fun vs H Q _ => ∃ (a : Addr) (ns : List Int) (seed : Int), vs = [.ref a, .int seed] ∧ SqL K H a (ns.map V.int) ∧ ns.length ≤ 63 ∧
  ∀ (d l : Addr) (H' : Hp), DeckAt H' d l → Kp [] H H' → H d = none → H l = none → Q (.ref d) H'
theorem ok_deck {f : Addr} {fd : FuncData} (F : Fun K "_law_deck" "_law_deck" sDeck f fd) (B : BI mg) : FnOk P w K mg base CX0 1 f fd ["_law_script", "_law_seed"] (spDeck K) := by
  refine F.ok scDeck (fun vs H Q E h => ?_) (fun cdv A outer s H vs Q E hr h => ?_)
  · obtain ⟨a, ns, seed, rfl, _⟩ := h
    rfl
  · obtain ⟨a, ns, seed, rfl, hS, hn, k⟩ := h
    refine ⟨_, pss_cons (ps_set (i := 2) scDeck.nd rfl (.inl rfl) (pv 1))
      (pss_cons (ps_for PassesOwn.never rfl (pi_list (pe_slice sl_list (pv 0) po_none (po_some pe_int))) (pg_name (i := 3) scDeck.nd rfl (.inl rfl))
        (pss_one (ps_set (i := 2) scDeck.nd rfl (.inl rfl) (pe_op op_modN (pe_callTy call_int1 (by rfl) B.int (by decide +kernel) (pa_cons (pe_op op_add (pe_op op_add (pe_op op_mul (pv 2) pe_int)
          (pe_op op_modN (pe_callTy call_int1 (by rfl) B.int (by decide +kernel) (pa_cons (pv 3) pa_nil)) pe_int)) pe_int) pa_nil)) pe_int))))
      (pss_one (ps_ret (pe_disp (pps_cons pe_str (pe_revL (pe_callTy call_list_of (by rfl) B.list (by decide +kernel) (pa_cons (pe_slice sl_list (pv 0) po_none (po_some pe_int)) pa_nil)))
        (pps_cons pe_str (pv 2) (pps_cons pe_str pe_int pps_nil))) (by rfl) (by rfl) (fun z => by cases z) (by decide))))), ?_⟩
    have hl63 : (ns.map V.int).length ≤ 63 := by rw [List.length_map]; exact hn
    refine ⟨_, rfl, _, rfl, 63, rfl, a, ns.map V.int, rfl, hS, fun c nc => ?_⟩
    rw [cut63 _ hl63]
    have k0 : Kp [] H (upd H c (.lst (ns.map V.int))) := .new nc
    refine ⟨c, rfl, ⟨_, sql_of upd_same⟩, for_list (K := K) (a := c) (xs := ns.map V.int) (fun i σ H2 => ∃ (m : Int) (y : Option V), σ = [some (.ref a), some (.int seed), some (.int m), y] ∧ Kp [] H H2 ∧ SqL K H2 c (ns.map V.int))
      ⟨seed, none, rfl, k0, sql_of upd_same⟩ (fun i σ H2 _ ⟨_, _, _, _, q⟩ => q) ?_ ?_⟩
    · rintro i x σ H2 hi ⟨m, y, rfl, k2, hc⟩
      obtain ⟨z, rfl⟩ : ∃ z, x = V.int z := by
        rw [List.getElem?_map] at hi
        obtain ⟨z, _, e⟩ := Option.map_eq_some_iff.mp hi
        exact ⟨z, e.symm⟩
      refine ⟨_, rfl, _, _, rfl, rfl, .inr ⟨by decide, by decide⟩, _, rfl, .inl ⟨_, rfl, _, _, rfl, rfl, (by decide : (2147483629 : Int) ≠ 0), _, _, rfl, rfl, _, _, rfl, rfl, .inl ⟨_, rfl, ?_⟩⟩⟩
      exact ⟨_, _, rfl, rfl, (by decide : (2147483563 : Int) ≠ 0), _, _, rfl, k2, hc⟩
    · rintro σ H2 ⟨m, y, rfl, k2, hc⟩
      intro d nd
      have kd : Kp [] H2 (upd H2 d (.dK [])) := .new nd
      have hdd : (upd H2 d (.dK [])) d = some (.dK []) := upd_same
      generalize upd H2 d (.dK []) = H3 at kd hdd
      have hS3 : SqL K H3 a (ns.map V.int) := (k2.trans kd).lst List.not_mem_nil hS
      refine ⟨_, rfl, 63, rfl, a, ns.map V.int, rfl, hS3, fun e ne => ?_⟩
      rw [cut63 _ hl63]
      refine ⟨e, _, rfl, .inl (sql_of upd_same), fun g ng => ?_⟩
      refine ⟨g, _, rfl, sql_of upd_same, fun l nl => ?_⟩
      have k5 : Kp [] H3 (upd (upd (upd H3 e (.lst (ns.map V.int))) g (.lst (ns.map V.int))) l (.lst (ns.map V.int).reverse)) := (Kp.new ne).trans ((Kp.new ng).trans (Kp.new nl))
      have hl5 : (upd (upd (upd H3 e (.lst (ns.map V.int))) g (.lst (ns.map V.int))) l (.lst (ns.map V.int).reverse)) l = some (.lst (ns.map V.int).reverse) := upd_same
      have nl3 : H3 l = none := ((Kp.new (ms := []) ne).trans (Kp.new ng)).free nl List.not_mem_nil
      generalize upd (upd (upd H3 e (.lst (ns.map V.int))) g (.lst (ns.map V.int))) l (.lst (ns.map V.int).reverse) = H4 at k5 hl5
      have hd4 : H4 d = some (.dK []) := k5.at_ _ _ hdd List.not_mem_nil
      refine ⟨_, rfl, hd4, deckD l m 0, rfl, by show 3 ≤ 15; decide, ?_⟩
      rw [merge_deck]
      have ndl : d ≠ l := ne_of hd4 hl5 (by intro z; cases z)
      refine k d l _ ⟨m, 0, ns.reverse, upd_same, ?_, by rw [List.length_reverse]; exact hn⟩ ?_ (k2.free nd List.not_mem_nil) ((k2.trans kd).free nl3 List.not_mem_nil)
      · rw [upd_ne ndl.symm, hl5, List.map_reverse]
      · refine ⟨fun b o e1 _ => ?_, fun b xs e1 => ?_⟩
        · have nb : b ≠ d := ne_of_none e1 (k2.free nd List.not_mem_nil)
          rw [upd_ne nb]
          exact k5.at_ _ _ (kd.at_ _ _ (k2.at_ _ _ e1 List.not_mem_nil) List.not_mem_nil) List.not_mem_nil
        · have nb : b ≠ d := ne_of_none e1 (k2.free nd List.not_mem_nil)
          rw [upd_ne nb]
          exact k5.tup _ _ (kd.tup _ _ (k2.tup _ _ e1))
theorem scPick : FnScope ["_law_deck_here", "_law_some"] ["_law_deck_here", "_law_some"] (defScope sPick) := ⟨rfl, rfl, rfl, by decide +kernel, rfl, by decide +kernel, by decide +kernel⟩
def spPick (K : PySem.W.Frag) : Sp := fun vs H Q _ => ∃ (d l a : Addr) (xs : List V), vs = [.ref d, .ref a] ∧ DeckAt H d l ∧ SqL K H a xs ∧ xs ≠ [] ∧ xs.length ≤ 1000000 ∧ a ≠ d ∧ a ≠ l ∧
  ∀ (x : V) (H' : Hp), x ∈ xs → DeckAt H' d l → Kp [d, l] H H' → Q x H'
/-- a def of the module, as callers need it -/
structure Df (K : PySem.W.Frag) (mg : Str → Option Value) (x : Str) (st : Stmt) (ps : List Str) (f : Addr) (fd : FuncData) : Prop where
  F : Fun K x x st f fd
  b : Binds K fd ps []
  g : mg x = some (.ref f)
theorem ok_pick {f fD : Addr} {fd fdD : FuncData} (F : Fun K "_law_pick" "_law_pick" sPick f fd) (B : BI mg) (D : Df K mg "_law_draw" sDraw ["_law_deck_here", "_law_many"] fD fdD) : FnOk P w K mg base CX0 2 f fd ["_law_deck_here", "_law_some"] (spPick K) := by
  refine F.ok scPick (fun vs H Q E h => ?_) (fun cdv A outer s H vs Q E hr h => ?_)
  · obtain ⟨d, l, a, xs, rfl, _⟩ := h
    rfl
  · obtain ⟨d, l, a, xs, rfl, DA, hS, hne, hlen, had, hal, k⟩ := h
    refine ⟨_, pss_one (ps_ret (pe_ix ix_list (pv 1) (pe_call (ok_draw D.F B) hr (by rfl) D.g D.F.kp D.b .nil pass0 (pa_cons (pv 0) (pa_cons (pe_callB call_len_seq (by rfl) B.len PySem.boot_len (pa_cons (pv 1) pa_nil)) pa_nil))) (fun _ _ => rfl))), ?_⟩
    have hpos : 0 < xs.length := List.length_pos_iff.mpr hne
    refine ⟨_, rfl, _, rfl, _, rfl, a, xs, rfl, .inl hS, d, l, _, rfl, DA, by omega, by omega, fun r H' r0 r1 D' kp => ?_⟩
    have hn : a ∉ [d, l] := by simp [had, hal]
    obtain ⟨i, rfl⟩ : ∃ i : Nat, r = (i : Int) := ⟨r.toNat, by omega⟩
    have hi : i < xs.length := by omega
    refine ⟨a, xs, _, xs[i], rfl, rfl, kp.lst hn hS, ?_, ?_⟩
    · exact atI_nat (List.getElem?_eq_getElem hi)
    · exact k _ H' (List.getElem_mem hi) D' kp
end
end Ey
set_option maxHeartbeats 4000000
namespace Ey
open PySem PySem.Spec L2
abbrev sAny : Stmt := topS 30
/-- what the drawing leans on -/
structure LH (K : PySem.W.Frag) (mg : Str → Option Value) (A : Nat → Addr) (D : Nat → FuncData) : Prop where
  B : BI mg
  draw : Df K mg "_law_draw" sDraw ["_law_deck_here", "_law_many"] (A 28) (D 28)
  pick : Df K mg "_law_pick" sPick ["_law_deck_here", "_law_some"] (A 29) (D 29)
  any : Df K mg "_law_any" sAny ["_law_deck_here", "_law_deep"] (A 30) (D 30)
mutual
def fitJ (B : Nat) : PyData → Bool
  | .none | .bool _ => true
  | .int i => decide (i.natAbs < B)
  | .str x => x.cps.toList.all fun c => decide (c < 1000)
  | .list ds | .tuple ds => fitJAll B ds
  | .dict kvs => fitJKv B kvs
def fitJAll (B : Nat) : List PyData → Bool
  | [] => true
  | x :: r => fitJ B x && fitJAll B r
def fitJKv (B : Nat) : List (PyData × PyData) → Bool
  | [] => true
  | (k, v) :: r => (fitJ B k && fitJ B v) && fitJKv B r
end
mutual
theorem fitJ_le {B C : Nat} (h : B ≤ C) : ∀ d : PyData, fitJ B d = true → fitJ C d = true
  | .none, _ => rfl
  | .bool _, _ => rfl
  | .int i, e => by
    have q : i.natAbs < B := of_decide_eq_true e
    exact decide_eq_true (Nat.lt_of_lt_of_le q h)
  | .str x, e => e
  | .list ds, e => fitJAll_le h ds e
  | .tuple ds, e => fitJAll_le h ds e
  | .dict ds, e => fitJKv_le h ds e
theorem fitJAll_le {B C : Nat} (h : B ≤ C) : ∀ d : List PyData, fitJAll B d = true → fitJAll C d = true
  | [], _ => rfl
  | x :: r, e => by
    have q : (fitJ B x && fitJAll B r) = true := e
    rw [Bool.and_eq_true] at q
    show (fitJ C x && fitJAll C r) = true
    rw [fitJ_le h x q.1, fitJAll_le h r q.2]
    rfl
theorem fitJKv_le {B C : Nat} (h : B ≤ C) : ∀ d : List (PyData × PyData), fitJKv B d = true → fitJKv C d = true
  | [], _ => rfl
  | (k, v) :: r, e => by
    have q : ((fitJ B k && fitJ B v) && fitJKv B r) = true := e
    rw [Bool.and_eq_true, Bool.and_eq_true] at q
    show ((fitJ C k && fitJ C v) && fitJKv C r) = true
    rw [fitJ_le h k q.1.1, fitJ_le h v q.1.2, fitJKv_le h r q.2]
    rfl
end
mutual
theorem fitJ_is : ∀ d : PyData, fitJ (10 ^ 40) d = fit d
  | .none => rfl
  | .bool _ => rfl
  | .int i => rfl
  | .str x => rfl
  | .list ds => fitJAll_is ds
  | .tuple ds => fitJAll_is ds
  | .dict ds => fitJKv_is ds
theorem fitJAll_is : ∀ d : List PyData, fitJAll (10 ^ 40) d = fitAll d
  | [] => rfl
  | x :: r => by
    show (fitJ _ x && fitJAll _ r) = (fit x && fitAll r)
    rw [fitJ_is x, fitJAll_is r]
theorem fitJKv_is : ∀ d : List (PyData × PyData), fitJKv (10 ^ 40) d = fitKv d
  | [] => rfl
  | (k, v) :: r => by
    show ((fitJ _ k && fitJ _ v) && fitJKv _ r) = ((fit k && fit v) && fitKv r)
    rw [fitJ_is k, fitJ_is v, fitJKv_is r]
end
theorem fitJ_mem {B : Nat} {x : PyData} : ∀ {ds : List PyData}, fitJAll B ds = true → x ∈ ds → fitJ B x = true
  | y :: r, h, hx => by
    have h2 : (fitJ B y && fitJAll B r) = true := h
    rw [Bool.and_eq_true] at h2
    rcases List.mem_cons.mp hx with rfl | hx
    · exact h2.1
    · exact fitJ_mem h2.2 hx
theorem fitJ_all {B : Nat} : ∀ {ds : List PyData}, (∀ x ∈ ds, fitJ B x = true) → fitJAll B ds = true
  | [], _ => rfl
  | y :: r, h => by
    show (fitJ B y && fitJAll B r) = true
    rw [h y (by simp), fitJ_all fun x hx => h x (List.mem_cons_of_mem _ hx)]
    rfl
structure GoodJ (B n w : Nat) (x : PyData) : Prop where
  f : fitJ B x = true
  d : x.depth ≤ n
  w : wd x ≤ w
theorem GoodJ.mono {B C n w n' w' : Nat} {x : PyData} (g : GoodJ B n w x) (h0 : B ≤ C) (h1 : n ≤ n') (h2 : w ≤ w') : GoodJ C n' w' x := ⟨fitJ_le h0 x g.f, Nat.le_trans g.d h1, Nat.le_trans g.w h2⟩
theorem GoodJ.good {B n w : Nat} {x : PyData} (g : GoodJ B n w x) (h0 : B ≤ 10 ^ 40) : Good n w x := ⟨fitJ_is x ▸ fitJ_le h0 x g.f, g.d, g.w⟩
inductive GoodJAll (B n w : Nat) : List PyData → Prop
  | nil : GoodJAll B n w []
  | cons {x : PyData} {r : List PyData} : GoodJ B n w x → GoodJAll B n w r → GoodJAll B n w (x :: r)
theorem GoodJAll.facts {B n w : Nat} {ds : List PyData} (h : GoodJAll B n w ds) : fitJAll B ds = true ∧ PyData.depthAll ds ≤ n ∧ wdAll ds ≤ (w + 2) * ds.length := by
  induction h with
  | nil => exact ⟨rfl, Nat.zero_le _, Nat.zero_le _⟩
  | @cons x r g _ ih =>
    obtain ⟨a, b, c⟩ := ih
    refine ⟨?_, ?_, ?_⟩
    · show (fitJ B x && fitJAll B r) = true
      rw [g.f, a]
      rfl
    · show max x.depth (PyData.depthAll r) ≤ n
      have := g.d
      omega
    · show wd x + 2 + wdAll r ≤ (w + 2) * (r.length + 1)
      have := g.w
      rw [Nat.mul_add]
      omega
theorem GoodJAll.snoc {B n w : Nat} {ds : List PyData} {x : PyData} (h : GoodJAll B n w ds) (g : GoodJ B n w x) : GoodJAll B n w (ds ++ [x]) := by
  induction h with
  | nil => exact .cons g .nil
  | cons a _ ih => exact .cons a ih
def wJ : Nat → Nat
  | 0 => 140
  | n + 1 => 3 * wJ n + 150
theorem wJ_ge : ∀ n, 140 ≤ wJ n
  | 0 => Nat.le_refl _
  | n + 1 => by
    have := wJ_ge n
    show 140 ≤ 3 * wJ n + 150
    omega
/-- the deck, and what else is not data -/
structure Frame (ms : List Addr) (d l : Addr) (H : Hp) : Prop where
  dk : DeckAt H d l
  dm : d ∈ ms
  lm : l ∈ ms
  has : Has ms H
theorem Frame.sub {ms : List Addr} {d l : Addr} {H : Hp} (F : Frame ms d l H) : ∀ x ∈ [d, l], x ∈ ms := fun x hx => by
  rcases List.mem_cons.mp hx with rfl | hx
  · exact F.dm
  · rw [List.mem_singleton.mp hx]
    exact F.lm
theorem DeckAt.some_ {d l : Addr} {H : Hp} (D : DeckAt H d l) : ∀ b ∈ [d, l], H b ≠ none := fun b hb => by
  obtain ⟨m, n, ns, h1, h2, _⟩ := D.ex
  rcases List.mem_cons.mp hb with rfl | hb
  · rw [h1]
    exact fun z => nomatch z
  · rw [List.mem_singleton.mp hb, h2]
    exact fun z => nomatch z
theorem Frame.go {ms : List Addr} {d l : Addr} {H H1 : Hp} (F : Frame ms d l H) (k : Kp [d, l] H H1) (D : DeckAt H1 d l) : Frame ms d l H1 := ⟨D, F.dm, F.lm, F.has.kp k D.some_⟩
theorem Frame.kp0 {ms : List Addr} {d l : Addr} {H H1 : Hp} (F : Frame ms d l H) (k : Kp [] H H1) : Frame ms d l H1 := ⟨F.dk.kp k List.not_mem_nil List.not_mem_nil, F.dm, F.lm, F.has.kp k fun b hb => absurd hb List.not_mem_nil⟩
theorem Frame.new {ms : List Addr} {d l p : Addr} {H : Hp} {o : HO} (F : Frame ms d l H) (n : H p = none) : Frame ms d l (upd H p o) := F.kp0 (.new n)
theorem Frame.ne {ms : List Addr} {d l p : Addr} {H : Hp} (F : Frame ms d l H) (n : H p = none) : p ≠ d ∧ p ≠ l :=
  ⟨fun e => F.has d F.dm (e ▸ n), fun e => F.has l F.lm (e ▸ n)⟩
def kKey : Key := .inr "key"
def kOne : Key := .inl 1
theorem merge_two (x y : V) : mergeK [] [(kKey, x), (kOne, y)] = [(kKey, x), (kOne, y)] := by
  have e1 : putK ([] : List (Key × V)) kKey x = [(kKey, x)] := putK_new _ rfl
  have e2 : putK [(kKey, x)] kOne y = [(kKey, x), (kOne, y)] := putK_new _ (valV_neg (by intro z; cases z))
  show putK (putK [] kKey x) kOne y = _
  rw [e1, e2]
def spAny (n : Nat) : Sp := fun vs H Q _ => ∃ (d l : Addr) (ms : List Addr) (deep : Nat), vs = [.ref d, .int deep] ∧ deep < n ∧ Frame ms d l H ∧
  ∀ (v : V) (x : PyData) (H' : Hp), An ms H' v x → GoodJ (10 ^ 29 + 1) (2 * deep + 2) (wJ deep) x → Frame ms d l H' → Kp [d, l] H H' → Q v H'
section
variable {Pr : Program} {w : World} {K : PySem.W.Frag} {mg : Str → Option Value} {base : Heap} {A : Nat → Addr} {D : Nat → FuncData}
def NA : List Str := ["_law_deck_here", "_law_deep", "_law_way", "_law_some", "_law_turn"]
theorem scAny : FnScope NA ["_law_deck_here", "_law_deep"] (defScope sAny) := ⟨rfl, rfl, rfl, by decide +kernel, rfl, by decide +kernel, by decide +kernel⟩
theorem ok_any (Fa : LH K mg A D) (D0 : Df K mg "_law_any" sAny ["_law_deck_here", "_law_deep"] (A 30) (D 30)) : ∀ n : Nat, FnOk Pr w K mg base CX0 (n + 2) (A 30) (D 30) ["_law_deck_here", "_law_deep"] (spAny n)
  | 0 => by
    refine D0.F.ok scAny (fun vs H Q E h => ?_) (fun cdv Ar outer s H vs Q E hr h => ?_)
    · obtain ⟨d, l, ms, deep, rfl, _⟩ := h
      rfl
    · obtain ⟨d, l, ms, deep, rfl, hd, _⟩ := h
      exact absurd hd (Nat.not_lt_zero _)
  | n + 1 => by
    have ih := ok_any Fa D0 n
    refine D0.F.ok scAny (fun vs H Q E h => ?_) (fun cdv Ar outer s H vs Q E hr h => ?_)
    · obtain ⟨d, l, ms, deep, rfl, _⟩ := h
      rfl
    · obtain ⟨d, l, ms, deep, rfl, hdn, Fr, k⟩ := h
      have hr2 := hr.mono (show 2 ≤ n + 2 by omega)
      have hr1 := hr.mono (show 1 ≤ n + 2 by omega)
      have w0 := wJ_ge deep
      obtain ⟨tt, dt, rt⟩ : ∃ tt, PSs (cxOf CX0 Pr w K mg base NA "_law_any" (defScope sAny) (A 30) cdv Ar outer s H E).nox ((defBody sAny).drop 5) tt ∧
          ∀ (H3 : Hp) (D : Addr) (xs : List V) (ds : List PyData) (y : Option V) (r : Int), H3 D = some (.lst xs) → AnAll ms H3 xs ds → D ∉ ms → fitJAll (10 ^ 29 + 1) ds = true → PyData.depthAll ds ≤ 2 * deep → wdAll ds + 136 ≤ wJ deep → ds.length ≤ 3 → Frame ms d l H3 → Kp [d, l] H H3 →
          tt { nx := fun _ H' => Q .non H', rt := Q } [some (.ref d), some (.int deep), some (.int r), some (.ref D), y] H3 := by
        refine ⟨_, pss_cons (ps_if (pt_cmpR op_eq (pv 2) pe_int (nomark _)) (pss_one (ps_ret (pv 3))) pss_nil)
          (pss_one (ps_ret (pe_ifExp (pt_cmpR op_eq (pv 2) pe_int (nomark _)) (pe_disp (pps_cons pe_str (pv 3) (pps_cons pe_int (pe_callB call_len_seq (by rfl) Fa.B.len PySem.boot_len (pa_cons (pv 3) pa_nil)) pps_nil)) (by rfl) (by rfl) (fun z => by cases z) (by decide))
            (pe_callTy call_tuple_of (by rfl) Fa.B.tuple (by decide +kernel) (pa_cons (pv 3) pa_nil))))), ?_⟩
        intro H3 D xs ds y r hD hA nD hf hdp hw hln F3 k3
        have lx := hA.length
        refine ⟨_, rfl, rfl, _, rfl, ite2 (fun _ => ?_) (fun _ => ?_)⟩
        · refine ⟨_, rfl, ?_⟩
          exact k _ (.list ds) H3 (.lst hD nD hA) ⟨hf, by show PyData.depthAll ds + 1 ≤ 2 * deep + 2; omega, by show wdAll ds + 3 ≤ wJ deep; omega⟩ F3 k3
        refine ⟨_, rfl, rfl, _, rfl, ite2 (fun _ => ?_) (fun _ => ?_)⟩
        · intro q nq
          have hDq : D ≠ q := ne_of_none hD nq
          have kq0 : Kp [] H3 (upd H3 q (.dK [])) := .new nq
          refine ⟨_, rfl, _, rfl, D, xs, rfl, .inl (sql_of (by rw [upd_ne hDq]; exact hD)), upd_same, [(kKey, .ref D), (kOne, .int xs.length)], rfl, by show 2 ≤ 15; decide, ?_⟩
          rw [merge_two, upd_upd]
          have kq : Kp [] H3 (upd H3 q (.dK [(kKey, .ref D), (kOne, .int xs.length)])) := .new nq
          refine k _ (.dict [(kD kKey, .list ds), (kD kOne, .int xs.length)]) _ (.dct upd_same (F3.has.fresh nq) (.cons (.lst (by rw [upd_ne hDq]; exact hD) nD (hA.kp kq (by simp) ds)) (.cons (.int _) .nil))) ⟨?_, ?_, ?_⟩ (F3.new nq) (k3.trans (.new nq))
          · have q1 : fitJ (10 ^ 29 + 1) (kD kKey) = true := by decide +kernel
            have q2 : fitJ (10 ^ 29 + 1) (kD kOne) = true := by decide +kernel
            have q3 : fitJ (10 ^ 29 + 1) (.int (xs.length : Int)) = true := by
              rw [lx]
              rcases (show ds.length = 0 ∨ ds.length = 1 ∨ ds.length = 2 ∨ ds.length = 3 by omega) with e | e | e | e <;> rw [e] <;> decide +kernel
            show ((fitJ (10 ^ 29 + 1) (kD kKey) && fitJAll (10 ^ 29 + 1) ds) && ((fitJ (10 ^ 29 + 1) (kD kOne) && fitJ (10 ^ 29 + 1) (.int (xs.length : Int))) && true)) = true
            rw [q1, q2, q3, hf]
            rfl
          · show max (max 0 (PyData.depthAll ds + 1)) (max (max 0 0) 0) + 1 ≤ 2 * deep + 2
            omega
          · have q1 : wd (kD kKey) = 32 := by decide +kernel
            show wd (kD kKey) + (wdAll ds + 3) + 4 + (45 + 45 + 4 + 0) + 3 ≤ wJ deep
            omega
        · refine ⟨_, rfl, D, _, rfl, .inl ⟨sql_of hD, fun q nq => ?_⟩⟩
          have kq : Kp [] H3 (upd H3 q (.tup xs)) := .new nq
          exact k _ (.tuple ds) _ (.tup upd_same (hA.kp kq (by simp) ds)) ⟨hf, by show PyData.depthAll ds + 1 ≤ 2 * deep + 2; omega, by show wdAll ds + 3 ≤ wJ deep; omega⟩ (F3.new nq) (k3.trans (.new nq))
      refine ⟨_, pss_cons (ps_set (i := 2) scAny.nd rfl (.inl rfl) (pe_call (ok_draw Fa.draw.F Fa.B) hr1 (by rfl) Fa.draw.g Fa.draw.F.kp Fa.draw.b .nil pass0 (pa_cons (pv 0) (pa_cons pe_int pa_nil))))
        (pss_cons (ps_if (pt_cmpR op_lt (pv 2) pe_int (nomark _)) (pss_one (ps_ret (pe_call (ok_pick Fa.pick.F Fa.B Fa.draw) hr2 (by rfl) Fa.pick.g Fa.pick.F.kp Fa.pick.b .nil pass0 (pa_cons (pv 0) (pa_cons (pe_lst (pa_cons pe_int (pa_cons pe_int (pa_cons (pe_un un_neg pe_int) (pa_cons pe_int (pa_cons (pe_op op_pow pe_int pe_int) (pa_cons (pe_un un_neg (pe_op op_pow pe_int pe_int)) (pa_cons pe_int (pa_cons pe_int pa_nil))))))))) pa_nil))))) pss_nil)
        (pss_cons (ps_if (pt_cmpR op_lt (pv 2) pe_int (nomark _)) (pss_one (ps_ret (pe_call (ok_pick Fa.pick.F Fa.B Fa.draw) hr2 (by rfl) Fa.pick.g Fa.pick.F.kp Fa.pick.b .nil pass0 (pa_cons (pv 0) (pa_cons (pe_lst (pa_cons pe_str (pa_cons pe_str (pa_cons pe_str (pa_cons pe_str (pa_cons pe_str (pa_cons pe_str pa_nil))))))) pa_nil))))) pss_nil)
        (pss_cons (ps_if (pt_cmpR op_eq (pv 2) pe_int (nomark _)) (pss_one (ps_ret (pe_call (ok_pick Fa.pick.F Fa.B Fa.draw) hr2 (by rfl) Fa.pick.g Fa.pick.F.kp Fa.pick.b .nil pass0 (pa_cons (pv 0) (pa_cons (pe_lst (pa_cons pe_bl (pa_cons pe_bl (pa_cons pe_non pa_nil)))) pa_nil))))) pss_nil)
        (pss_cons (ps_set (i := 3) scAny.nd rfl (.inl rfl) (pe_ifExp (pt_cmpR op_gt (pv 1) pe_int (nomark _))
          (pe_lc (own := [("_law_turn", 4)]) (g := gName 4) (tt := tYes) rfl scAny.nd (pi_range1 (by rfl) Fa.B.range (pa_cons (pe_call (ok_draw Fa.draw.F Fa.B) hr1 (by rfl) Fa.draw.g Fa.draw.F.kp Fa.draw.b .nil pass0 (pa_cons (pv 0) (pa_cons pe_int pa_nil))) pa_nil))
            (blkOk_by (N := NA) (sc := defScope sAny) (by decide +kernel)) (fun _ _ _ _ _ => pg_name (i := 4) scAny.nd rfl (Or.inl rfl)) (fun _ _ _ _ _ => pts_nil)
            (fun _ _ _ _ _ => pe_call ih hr (by rfl) D0.g D0.F.kp D0.b .nil pass0 (pa_cons (pv 0) (pa_cons (pe_op op_sub (pv 1) pe_int) pa_nil))))
          (pe_lst pa_nil)))
        dt)))), ?_⟩
      have leaf : ∀ (v : V) (x : PyData) (H1 : Hp), An ms H1 v x → fitJ (10 ^ 29 + 1) x = true → x.depth = 0 → wd x ≤ 130 → DeckAt H1 d l → Kp [d, l] H H1 → Q v H1 := fun v x H1 a b c e D1 k1 =>
        k v x H1 a ⟨b, by omega, by omega⟩ (Fr.go k1 D1) k1
      refine ⟨_, rfl, d, l, 10, rfl, Fr.dk, by decide, by decide, fun r H1 r0 r1 D1 k1 => ?_⟩
      have F1 := Fr.go k1 D1
      refine ⟨_, rfl, _, _, rfl, rfl, _, rfl, ite2 (fun _ => ?_) (fun _ => ?_)⟩
      · refine ⟨_, rfl, 1, rfl, _, _, rfl, rfl, (⟨by decide, by decide, by decide⟩ : (0 : Int) ≤ 29 ∧ (29 : Int) ≤ 1000000 ∧ (10 : Int).natAbs < 2 ^ 64), _, _, rfl, rfl, (⟨by decide, by decide, by decide⟩ : (0 : Int) ≤ 20 ∧ (20 : Int) ≤ 1000000 ∧ (10 : Int).natAbs < 2 ^ 64), _, rfl, by show 8 ≤ sizeLine; decide, fun p np => ?_⟩
        have n1 := F1.ne np
        have F2 := F1.new (o := .lst [.int 0, .int 1, .int (-1), .int 7, .int (10 ^ (29 : Int).toNat), .int (-(10 ^ (20 : Int).toNat)), .int 2, .int 5]) np
        refine ⟨d, l, p, _, rfl, F2.dk, sql_of upd_same, by simp, by show 8 ≤ 1000000; decide, n1.1, n1.2, fun x H4 hx D4 k4 => ?_⟩
        have k4' : Kp [d, l] H H4 := k1.trans ((Kp.new np).trans k4)
        simp only [List.mem_cons, List.not_mem_nil, or_false] at hx
        rcases hx with rfl | rfl | rfl | rfl | rfl | rfl | rfl | rfl
        all_goals exact leaf _ _ H4 (.int _) (by decide +kernel) rfl (by show 45 ≤ 130; decide) D4 k4'
      refine ⟨_, rfl, _, _, rfl, rfl, _, rfl, ite2 (fun _ => ?_) (fun _ => ?_)⟩
      · refine ⟨_, rfl, by show 6 ≤ sizeLine; decide, fun p np => ?_⟩
        have n1 := F1.ne np
        refine ⟨d, l, p, _, rfl, (F1.new np).dk, sql_of upd_same, by simp, by show 6 ≤ 1000000; decide, n1.1, n1.2, fun x H4 hx D4 k4 => ?_⟩
        have k4' : Kp [d, l] H H4 := k1.trans ((Kp.new np).trans k4)
        simp only [List.mem_cons, List.not_mem_nil, or_false] at hx
        rcases hx with rfl | rfl | rfl | rfl | rfl | rfl
        all_goals exact leaf _ _ H4 (.str _) (by decide +kernel) rfl (by decide +kernel) D4 k4'
      refine ⟨_, rfl, rfl, _, rfl, ite2 (fun _ => ?_) (fun _ => ?_)⟩
      · refine ⟨_, rfl, by show 3 ≤ sizeLine; decide, fun p np => ?_⟩
        have n1 := F1.ne np
        refine ⟨d, l, p, _, rfl, (F1.new np).dk, sql_of upd_same, by simp, by show 3 ≤ 1000000; decide, n1.1, n1.2, fun x H4 hx D4 k4 => ?_⟩
        have k4' : Kp [d, l] H H4 := k1.trans ((Kp.new np).trans k4)
        simp only [List.mem_cons, List.not_mem_nil, or_false] at hx
        rcases hx with rfl | rfl | rfl
        · exact leaf _ _ H4 (.bl true) rfl rfl (by show 5 ≤ 130; decide) D4 k4'
        · exact leaf _ _ H4 (.bl false) rfl rfl (by show 5 ≤ 130; decide) D4 k4'
        · exact leaf _ _ H4 .non rfl rfl (by show 4 ≤ 130; decide) D4 k4'
      refine ⟨_, rfl, _, _, rfl, rfl, _, rfl, ite2 (fun q => ?_) (fun _ => ?_)⟩
      · have hd0 : 0 < deep := by
          have := of_decide_eq_true q
          omega
        refine ⟨_, rfl, d, l, 4, rfl, D1, by decide, by decide, fun c H2 c0 c1 D2 k2 => ?_⟩
        have F2 := F1.go k2 D2
        obtain ⟨m, rfl⟩ : ∃ m : Nat, c = (m : Int) := ⟨c.toNat, by omega⟩
        refine ⟨m, rfl, by omega, by omega, ?_⟩
        rw [Int.toNat_natCast]
        intro D nD
        have nDm := F2.has.fresh nD
        refine lc_range (lo := 0) (n := m) (fun i H => ∃ (xs : List V) (ds : List PyData), H D = some (.lst xs) ∧ AnAll (D :: ms) H xs ds ∧ GoodJAll (10 ^ 29 + 1) (2 * (deep - 1) + 2) (wJ (deep - 1)) ds ∧ ds.length = i ∧ Frame ms d l H ∧ Kp [d, l] H2 H)
          ⟨[], [], upd_same, .nil, .nil, rfl, F2.new nD, .new nD⟩ ?_ ?_
        · rintro i H5 hi ⟨xs, ds, hD, hA, hG, hl, F5, k5⟩
          have hDd : D ≠ d := fun e => nDm (e ▸ F2.dm)
          have hDl : D ≠ l := fun e => nDm (e ▸ F2.lm)
          have FD : Frame (D :: ms) d l H5 := ⟨F5.dk, List.mem_cons_of_mem _ F5.dm, List.mem_cons_of_mem _ F5.lm, fun b hb => by
            rcases List.mem_cons.mp hb with rfl | hb
            · rw [hD]
              exact fun z => nomatch z
            · exact F5.has b hb⟩
          refine ⟨rfl, _, rfl, _, rfl, _, _, rfl, rfl, d, l, D :: ms, deep - 1, ?_, by omega, FD, fun v x H6 hx gx F6 k6 => ?_⟩
          · show [V.ref d, V.int ((deep : Int) - 1)] = _
            rw [show (deep : Int) - 1 = ((deep - 1 : Nat) : Int) by omega]
          have hD6 : H6 D = some (.lst xs) := k6.at_ _ _ hD (by simp [hDd, hDl])
          have kD : Kp [D] H6 (upd H6 D (.lst (xs ++ [v]))) := .put (by simp) hD6 (fun _ z => by cases z)
          refine ⟨xs, hD6, ?_, xs ++ [v], ds ++ [x], upd_same, ?_, hG.snoc gx, by rw [List.length_append, hl]; rfl, ?_, ?_⟩
          · have := hA.length
            exact Nat.lt_of_le_of_lt (show xs.length ≤ 3 by omega) (by decide)
          · exact ((hA.kp k6 FD.sub ds).kp kD (by simp) ds).append (.cons (hx.kp kD (by simp) x) .nil)
          · have F6' : Frame ms d l H6 := F5.go k6 F6.dk
            refine ⟨F6'.dk.kp kD (by simp [hDd.symm]) (by simp [hDl.symm]), F6'.dm, F6'.lm, F6'.has.kp kD fun b hb => ?_⟩
            rw [List.mem_singleton.mp hb, upd_same]
            exact fun z => nomatch z
          · exact (k5.trans k6).own nD
        · rintro H5 ⟨xs, ds, hD, hA, hG, hl, F5, k5⟩
          obtain ⟨g1, g2, g3⟩ := hG.facts
          have e : wJ deep = 3 * wJ (deep - 1) + 150 := by
            obtain ⟨z, rfl⟩ : ∃ z, deep = z + 1 := ⟨deep - 1, by omega⟩
            rfl
          have h3 : (wJ (deep - 1) + 2) * ds.length ≤ (wJ (deep - 1) + 2) * 3 := Nat.mul_le_mul_left _ (by omega)
          exact rt H5 D xs ds _ r hD (hA.mono (fun x hx => List.mem_cons_of_mem _ hx) ds) nDm g1 (by omega) (by omega) (by omega) F5 (k1.trans (k2.trans k5))
      · refine ⟨by show 0 ≤ sizeLine; decide, fun D nD => ?_⟩
        exact rt _ D [] [] _ r upd_same .nil (F1.has.fresh nD) rfl (Nat.zero_le _) (by show 0 + 136 ≤ wJ deep; omega) (by decide) (F1.new nD) (k1.trans (.new nD))
end
end Ey
set_option maxHeartbeats 4000000
namespace PySem
namespace OwE
open Builtin Builtin.ObjectAttr PySem.HandSPX
/-! ### own exceptions whose chain of own classes ends in Exception -/
abbrev exTl : List Value := [.type "Exception", .type "BaseException", .type "object"]
def refsEx : List Value → Bool
  | .ref _ :: r => refsEx r
  | l => l == exTl
theorem refsEx_cases : ∀ l : List Value, refsEx l = true → (∃ c r, l = .ref c :: r ∧ refsEx r = true) ∨ l = exTl
  | [], e => .inr (beq_iff_eq.mp e)
  | .ref c :: r, e => .inl ⟨c, r, rfl, e⟩
  | .none :: _, e => .inr (beq_iff_eq.mp e)
  | .ellipsis :: _, e => .inr (beq_iff_eq.mp e)
  | .notImplemented :: _, e => .inr (beq_iff_eq.mp e)
  | .bool _ :: _, e => .inr (beq_iff_eq.mp e)
  | .int _ _ :: _, e => .inr (beq_iff_eq.mp e)
  | .float _ _ :: _, e => .inr (beq_iff_eq.mp e)
  | .str _ _ :: _, e => .inr (beq_iff_eq.mp e)
  | .bytes _ _ :: _, e => .inr (beq_iff_eq.mp e)
  | .type _ :: _, e => .inr (beq_iff_eq.mp e)
  | .builtin _ :: _, e => .inr (beq_iff_eq.mp e)
theorem refsEx_pass (self : Value) : ∀ l : List Value, refsEx l = true → refuseLoop self "__setattr__" l = pure () := by
  intro l
  induction l with
  | nil => intro e; exact absurd e (by decide)
  | cons a r ih =>
    intro e
    rcases refsEx_cases (a :: r) e with ⟨c, r', q, h⟩ | q
    · obtain ⟨rfl, rfl⟩ := List.cons.inj q
      rw [refuseLoop_ref]
      exact ih h
    · rw [q]
      exact F.store_Exception.passes self
theorem refsEx_has (X : String) : ∀ l : List Value, refsEx l = true → l.contains (.type X) = exTl.contains (.type X) := by
  intro l
  induction l with
  | nil => intro e; exact absurd e (by decide)
  | cons a r ih =>
    intro e
    rcases refsEx_cases (a :: r) e with ⟨c, r', q, h⟩ | q
    · obtain ⟨rfl, rfl⟩ := List.cons.inj q
      rw [List.contains_cons, ih h]
      rfl
    · rw [q]
theorem refsEx_ne {l : List Value} (e : refsEx l = true) : l.isEmpty = false := by
  cases l with
  | nil => exact absurd e (by decide)
  | cons _ _ => rfl
section
variable {prog : Program} {w : World} {A : Around} {E : Value → Shared → Prop} {R : Result → Shared → Prop} {hp : Heap} {g : Array GenState} {d : Drawn} {t : Nat} {os : OsState}
theorem osa_first {K : W.Frag} {name : Str} {tk : Tok} {v : Value} {x C : Addr} {fv : Array Value} {cd : ClassData}
    (X : K.In hp) (hx : hp.get? x = some { cls := .ref C, data := .fields fv }) (hcd : W.clsIn K C = some cd) (hm : refsEx cd.mro = true) (hh : cd.hasDict = true) (ha : W.findIn K (.ref C) name = some none)
    (hq : ∀ h' tk' dx, (∀ b o, b ≠ x → hp.get? b = some o → h'.get? b = some o) → hp.objs.size ≤ dx → dx ≠ x → h'.get? x = some { cls := .ref C, dict := some dx, data := .fields fv } →
      h'.Ns1 dx (fun y => if y = name then some v else none) → R (.ok (.ret .none)) ⟨h', g, d, tk', os⟩) :
    codeAny (model prog w) A (.call (.builtin "object.__setattr__") ⟨[.ref x, .str name tk, v], []⟩) R ⟨hp, g, d, t, os⟩ := by
  have hIn : W.InstAt hp x { cls := .ref C, data := .fields fv } C none := ⟨hx, rfl, rfl, trivial⟩
  have hSF := F.store_object
  have hne := refsEx_ne hm
  have hobj : cd.mro.contains (.type "object") = true := (refsEx_has "object" _ hm).trans (by decide +kernel)
  have hxs : x ≠ hp.objs.size := Nat.ne_of_lt (Heap.lt_size hx)
  have hsub : W.Looks (model prog w) hp (isInstance (.ref x) (.type "object")) true := hIn.type.andThen (W.looks_mroIn X (by unfold W.mroIn; rw [hcd, Option.bind_some, if_neg (by rw [hne]; decide), hobj]))
  refine codeAny_call_builtin hSF.slot.plain hSF.entry (@W.check_slot (model prog w) _ _ ⟨hp, g, d, t, os⟩ "object.__setattr__" "object" "__setattr__" (.ref x) [.str name tk, v] [] _ hSF.kind hSF.split hsub (hSF.args (.ref x) (.str name tk) v) ?_)
  have hmr : W.Looks (model prog w) hp (mroOf (.ref C)) cd.mro := (W.looks_clsIn X hcd).andThen .now
  have hst : W.Looks (model prog w) hp (storeTaker? none) none := .now
  have hcls : W.Looks (model prog w) hp (classData C) cd := W.looks_clsIn X hcd
  rw [W.osa_eq, refuse_eq]
  refine wpAny_bind (wpAny_bind (hIn.type.at (wpAny_bind (hmr.at ?_))))
  rw [refsEx_pass _ _ hm]
  refine wpAny_pure (wpAny_bind (hIn.type.at (wpAny_bind ((W.looks_findIn X ha).at (wpAny_bind (hst.at ?_))))))
  show wpAny _ _ (storeInOwnDict (.ref x) (.ref C) (.str name tk) name v false) _ _ _
  obtain ⟨nm, bs, mro, ns, qn, hd, sn, sb, ab, col, del⟩ := cd
  dsimp only at hh
  subst hh
  unfold storeInOwnDict ownDictForStores
  repeat (first | with_reducible refine store_in_new ?_ ?_ | with_reducible refine wpAny_loadPart_at hx ?_ | with_reducible refine hcls.at ?_ | wp_step)
  · exact ⟨_, #[], _, (Heap.get?_update_ne _ _ _ _ hxs.symm).trans (Heap.get?_push_at rfl rfl), rfl, fun e he => absurd he (by simp), fun _ => rfl⟩
  · intro h' tk' hn' hs
    have hx₁ : (hp.push { cls := .type "dict", data := .dict #[] }).get? x = some { cls := .ref C, data := .fields fv } := Heap.get?_push_of_some _ hx
    refine hq h' tk' hp.objs.size (fun b o hb ho => ?_) (Nat.le_refl _) hxs.symm ?_ hn'
    · exact (hs.2 b (Nat.ne_of_lt (Heap.lt_size ho))).trans ((Heap.get?_update_ne _ _ _ _ hb).trans (Heap.get?_push_of_some _ ho))
    · exact (hs.2 x hxs).trans (Heap.get?_update_self _ hx₁ rfl)
end
end OwE
end PySem
set_option maxHeartbeats 4000000
namespace Ey
open PySem PySem.Spec PyProof.Rows L2
/-! ### two new objects laid at once -/
section
variable {P : Program} {w : World} {H : Hp} {h h' : Heap} {fs ex : List Addr} {a b : Addr} {o u : HO}
theorem un_laid2 (k : ∀ c z, h.get? c = some z → h'.get? c = some z) (ha : h.objs.size ≤ a) (hb : h.objs.size ≤ b) (na : H a = none) (nb : H b = none) : Un fs ex H (upd (upd H a o) b u) h h' where
  keep := fun c z q _ _ _ => k c z q
  slot := fun c z q _ _ _ => ⟨z.slots, k c z q⟩
  free := fun c z q n _ => by rw [upd_ne (Nat.ne_of_lt (Nat.lt_of_lt_of_le (Heap.lt_size q) hb)), upd_ne (Nat.ne_of_lt (Nat.lt_of_lt_of_le (Heap.lt_size q) ha))]; exact n
  there := fun c z q _ => ⟨z, k c z q⟩
  tups := fun c xs q => by rw [upd_ne (ne_of_none q nb), upd_ne (ne_of_none q na)]; exact q
  frzs := fun c z xs q => by rw [upd_ne (ne_of_none q nb), upd_ne (ne_of_none q na)]; exact q
  tbls := fun c ps q => ⟨#[], by rw [upd_ne (ne_of_none q nb), upd_ne (ne_of_none q na), q]; simp⟩
theorem hok_laid2 (x : HOk P w H h) (k : ∀ c z, h.get? c = some z → h'.get? c = some z) (ha : h.objs.size ≤ a) (hb : h.objs.size ≤ b) (hab : a ≠ b) (n1 : ObjOk P w (upd (upd H a o) b u) h' a o) (n2 : ObjOk P w (upd (upd H a o) b u) h' b u) : HOk P w (upd (upd H a o) b u) h' := fun c z e => by
  have na := x.fresh ha
  have nb := x.fresh hb
  by_cases hc : c = b
  · subst hc; rw [upd_same] at e; cases e; exact n2
  · rw [upd_ne hc] at e
    by_cases hd : c = a
    · subst hd; rw [upd_same] at e; cases e; exact n1
    · rw [upd_ne hd] at e
      exact (x c z e).stay (fun c v _ q => k c v q) (fun c q => by rw [upd_ne (ne_of_none q nb), upd_ne (ne_of_none q na)]; exact q) fun c xs q => by rw [upd_ne (ne_of_none q nb), upd_ne (ne_of_none q na)]; exact q
end
section
variable {X : Cx} {pins : List (Addr × Obj)} {σ : L2.St} {H : Hp} {s : Shared} {h' : Heap}
theorem inv_laid2 {a b : Addr} {o u : HO} {t' : Nat} (I : Inv X pins σ H s) (k : ∀ c z, s.heap.get? c = some z → h'.get? c = some z) (ha : s.heap.objs.size ≤ a) (hb : s.heap.objs.size ≤ b) (hab : a ≠ b)
    (n1 : ObjOk X.prog X.w (upd (upd H a o) b u) h' a o) (n2 : ObjOk X.prog X.w (upd (upd H a o) b u) h' b u) : Inv X pins σ (upd (upd H a o) b u) { s with heap := h', toks := t' } :=
  I.un (un_laid2 k ha hb (I.hok.fresh ha) (I.hok.fresh hb)) (hok_laid2 I.hok k ha hb hab n1 n2)
/-- an own error as a value, at e: its class, its dict -/
def exv (e C d : Addr) : HO := .ext fun h => ∃ (oe : Obj) (vs : Array Value), h.get? e = some oe ∧ oe.cls = .ref C ∧ oe.dict = some d ∧ oe.data = .fields vs
theorem exv_ok {P : Program} {w : World} {H : Hp} {h : Heap} {e C d : Addr} {oe : Obj} {vs : Array Value} (q : h.get? e = some oe) (c : oe.cls = .ref C) (dd : oe.dict = some d) (v : oe.data = .fields vs) : ObjOk P w H h e (exv e C d) :=
  ⟨⟨oe, vs, q, c, dd, v⟩, ⟨oe, q⟩, fun _ _ ⟨o, v, q, r⟩ k => ⟨o, v, k o q, r⟩⟩
theorem exv_get {e C d : Addr} (I : Inv X pins σ H s) (h : H e = some (exv e C d)) : ∃ (oe : Obj) (vs : Array Value), s.heap.get? e = some oe ∧ oe.cls = .ref C ∧ oe.dict = some d ∧ oe.data = .fields vs := (I.hok e _ h).1
end
end Ey
set_option maxHeartbeats 4000000
namespace PySem
namespace OwE
open Builtin Builtin.ObjectAttr PySem.HandSPX PySem.Calls PyProof.Rows
/-! ### an own error's class called with keywords alone -/
section
variable {prog : Program} {w : World} {M : Model} {A : Around} {E : Value → Shared → Prop} {R : Result → Shared → Prop} {hp : Heap} {gs : Array GenState} {dr : Drawn} {tk : Nat} {os : OsState}
variable {nm qn : Str} {C N fI : Addr} {bs bm : List Value} {sn : List Str} {sub : List Value} {ab : Bool} {col : Option Bool} {dd : Option Addr} {k0 k1 k2 k3 k5 : Option Value} {kw : List (Str × Value)}
abbrev xcls (nm qn : Str) (C N : Addr) (bs bm : List Value) (sn : List Str) (sub : List Value) (ab : Bool) (col : Option Bool) (dd : Option Addr) (k0 k1 k2 k3 k5 : Option Value) : Obj := excClassObj nm qn C N bs bm true sn sub ab col dd k0 k1 k2 k3 k5 "Exception.__new__"
abbrev FE := F.excBase_Exception
theorem kw_checked {Q : Unit → Shared → Prop} (hm : refsEx bm = true) (hC : hp.get? C = some (xcls nm qn C N bs bm sn sub ab col dd k0 k1 k2 k3 k5)) (q : Q () ⟨hp, gs, dr, tk, os⟩) :
    wpAny M A (checkBuiltinCall "Exception.__new__" ⟨[.ref C], kw⟩) Q E ⟨hp, gs, dr, tk, os⟩ := by
  have inB : (Value.ref C :: bm).contains (.type "Exception") = true := by
    have z := refsEx_has "Exception" bm hm
    rw [List.contains_cons, z, show exTl.contains (.type "Exception") = true by decide +kernel, Bool.or_true]
  have ns := F.excBase_Exception.noStar
  have e1 := F.excBase_Exception.newKind
  have e2 := F.excBase_Exception.newSplit
  have e3 := F.excBase_Exception.newRow
  simp only [checkBuiltinCall, e1, e2, e3]
  repeat' first
    | refine wpAny_madeBy_exc hC ?_
    | refine wpAny_staticBase_exc hC ?_
    | refine wpAny_loadPart_at hC ?_
    | (refine wpAny_isSubtype_exc hC ?_
       rw [inB])
    | wp_step
  all_goals first | exact q | trace_state
theorem kw_new (hm : refsEx bm = true) (hC : hp.get? C = some (xcls nm qn C N bs bm sn sub ab col dd k0 k1 k2 k3 k5))
    (q : R (.ok (.ret (.ref (hp.objs.size + 1)))) ⟨(hp.push (W.kdv_tup [])).push (excO C hp.objs.size), gs, dr, tk, os⟩) :
    codeAny (model prog w) A (.builtin "Exception.__new__" ⟨[.ref C], kw⟩) R ⟨hp, gs, dr, tk, os⟩ := by
  have has : ∀ x : String, (Value.ref C :: bm).contains (.type x) = exTl.contains (.type x) := fun x => by
    have z := refsEx_has x bm hm
    rw [List.contains_cons, z]
    rfl
  have inB := has "Exception"
  have inA := has "AttributeError"
  have inN := has "NameError"
  rw [show exTl.contains (.type "Exception") = true by decide +kernel] at inB
  rw [show exTl.contains (.type "AttributeError") = false by decide +kernel] at inA
  rw [show exTl.contains (.type "NameError") = false by decide +kernel] at inN
  have ends := F.excBase_Exception.ends
  refine codeAny_builtinAt F.excBase_Exception.entry ?_
  unfold Builtin.«BaseException.__new__»
  refine wpAt_bind (show wpAt _ _ _ (stack >>= _) _ _ _ from wpAt_bind (wpAt_stack fun _ _ => wpAt_of_wpAny ?_))
  wp_walk
  refine wpAt_of_wpAny ?_
  rw [F.excBase_Exception.owner]
  repeat' first
    | with_reducible refine wpAny_loadPart_at hC ?_
    | with_reducible refine wpAny_madeHere_exc F.excBase_Exception.canon hC ?_
    | (with_reducible refine wpAny_isSubtype_exc hC ?_
       first
         | rw [inA]
         | rw [inN]
         | rw [inB])
    | wp_step
  show R _ _
  rw [Heap.size_push]
  exact q
/-- what is asked of the own __init__ -/
def InitWant (e : Addr) (Q : Shared → Prop) (E : Value → Shared → Prop) : Result → Shared → Prop := fun r s' => match r with
  | .error x => E x s'
  | .ok (.ret v) => v = .none ∧ Q s'
  | .ok _ => False
theorem kw_type (hm : refsEx bm = true) (hC : hp.get? C = some (xcls nm qn C N bs bm sn sub ab col dd k0 k1 k2 k3 k5)) {Q : Fin → Shared → Prop}
    (hi : W.Looks (model prog w) hp (typeLookup (.ref C) "__init__") (some (.ref fI))) (hb : ∀ self, W.Looks (model prog w) hp (bindSpecial (.ref fI) self) (.ref fI, [self]))
    (q : codeAny (model prog w) A (.call (.ref fI) ⟨[.ref (hp.objs.size + 1)], kw⟩) (InitWant (hp.objs.size + 1) (fun s' => Q (.done (.ret (.ref (hp.objs.size + 1)))) s') E) ⟨(hp.push (W.kdv_tup [])).push (excO C hp.objs.size), gs, dr, tk, os⟩) :
    wpAny (model prog w) A (Builtin.«type.__call__» ⟨[.ref C], kw⟩) Q E ⟨hp, gs, dr, tk, os⟩ := by
  repeat' first
    | with_reducible refine wpAny_madeBy_exc hC ?_
    | with_reducible refine wpAny_loadPart_at hC ?_
    | wp_step
  refine codeAny_call_builtin_code (Code.quiet_builtin _ F.excBase_Exception.quiet) (kw_checked hm hC (kw_new hm hC ?_))
  show wpAny _ _ _ _ _ _
  have k : ∀ b o, hp.get? b = some o → ((hp.push (W.kdv_tup [])).push (excO C hp.objs.size)).get? b = some o := fun b o e => Heap.get?_push_of_some _ (Heap.get?_push_of_some _ e)
  have hg : ((hp.push (W.kdv_tup [])).push (excO C hp.objs.size)).get? (hp.objs.size + 1) = some (excO C hp.objs.size) := by heap_get
  have inC : (Value.ref C :: bm).contains (.ref C) = true := by simp
  have hC1 := k _ _ hC
  have hi1 := hi.keeps k
  have hb1 := (hb (.ref (hp.objs.size + 1))).keeps k
  unfold isInstance
  repeat' first
    | with_reducible refine wpAny_loadPart_at hg ?_
    | (with_reducible refine wpAny_isSubtype_exc hC1 ?_
       rw [inC])
    | wp_step
  show wpAny _ _ (typeLookup (.ref C) _) _ _ _
  refine hi1.at (wpAny_holding (wpAny_bind (hb1.at (wpAny_bind (wpAny_call (codeAny_mono q fun r s' z => ?_))))))
  cases r with
  | error x => exact z
  | ok fl =>
    cases fl with
    | next => exact z.elim
    | brk => exact z.elim
    | cont => exact z.elim
    | ret v =>
      obtain ⟨rfl, z⟩ := z
      first
        | exact wpAny_pure (wpAny_pure z)
        | (wp_walk; exact z)
theorem kw_call (hm : refsEx bm = true) (hC : hp.get? C = some (xcls nm qn C N bs bm sn sub ab col dd k0 k1 k2 k3 k5))
    (hi : W.Looks (model prog w) hp (typeLookup (.ref C) "__init__") (some (.ref fI))) (hb : ∀ self, W.Looks (model prog w) hp (bindSpecial (.ref fI) self) (.ref fI, [self]))
    (q : codeAny (model prog w) (A.under (.builtin "type.__call__" ⟨[.ref C], kw⟩)) (.call (.ref fI) ⟨[.ref (hp.objs.size + 1)], kw⟩) (W.InitBack (hp.objs.size + 1) R) ⟨(hp.push (W.kdv_tup [])).push (excO C hp.objs.size), gs, dr, tk, os⟩) :
    codeAny (model prog w) A (.call (.ref C) ⟨[], kw⟩) R ⟨hp, gs, dr, tk, os⟩ := by
  have f1 := tc_lookup
  have f2 := tc_bind (.ref C)
  have ty : (⟨hp, gs, dr, tk, os⟩ : Shared).TypeIs (.ref C) "type" := ⟨_, hC, rfl⟩
  refine codeAny_of_tree (show wpAny _ _ (callAny (.ref C) _) _ _ _ from ?_)
  repeat' first
    | assumption
    | with_reducible refine wpAny_loadPart_at hC ?_
    | wp_step
  refine ⟨rfl, codeAny_call_builtin_at (Code.quiet_builtin _ (by decide +kernel)) entry_typeCall (wpAny_check_type_call_sub hC (kw_type hm hC hi hb (codeAny_mono q fun r s' z => ?_)))⟩
  cases r with
  | error x => exact z
  | ok fl =>
    cases fl with
    | next => exact z
    | brk => exact z
    | cont => exact z
    | ret v => exact z
end
end OwE
end PySem
set_option maxHeartbeats 4000000
namespace PySem
namespace ThX
open PySem.W PySem.Calls PyProof.Rows PySem.HandSPX
/-! ### the text of __init__ -/
def iA (p1 p2 : Pos) : Arguments := { posonlyargs := [], args := [{ arg := "self", annotation := none, pos := p1 }, { arg := "thing", annotation := none, pos := p2 }], vararg := none, kwonlyargs := [], kw_defaults := [], kwarg := none, defaults := [] }
def iB (q1 q2 q3 q4 : Pos) : List Stmt := [.Assign [.Attribute (.Name "self" q1) "thing" q2] (.Name "thing" q3) q4]
def iS : Scope := { kind := .function, names := [(PySem.Str.ofString "self", .local), (PySem.Str.ofString "thing", .local)], isGenerator := false, isCoroutine := false, more := [] }
/-- what the written part says of Low, at C, and of its __init__, at fI -/
structure ThTxt (nm qn : Str) (K : Frag) (mg : Str → Option Value) (C fI : Addr) : Prop where
  gC : mg nm = some (.ref C)
  cls : ∃ nm q N bs bm sn sub ab col dd k0 k1 k2 k3 k5, K.lookup C = some (excClassObj nm q C N bs bm true sn sub ab col dd k0 k1 k2 k3 k5 "Exception.__new__") ∧ OwE.refsEx bm = true
  sa : findIn K (.ref C) "__setattr__" = some (some (.builtin "object.__setattr__"))
  ga : findIn K (.ref C) "__getattribute__" = some (some (.builtin "BaseException.__getattribute__"))
  gg : findIn K (.ref C) "__getattr__" = some none
  noN : findIn K (.ref C) "thing" = some none
  iC : findIn K (.ref C) "__init__" = some (some (.ref fI))
  tC : typeIn K (.ref fI) = some (.type "function")
  kC : keepIn K (.ref C) = true
  exC : subIn K (.ref C) (.type "BaseException") = some true
  tyC : typeIn K (.ref C) = some (.type "type")
  hdC : hasDictIn K C = true
  te : exmOne K (.ref C) (.ref C) = some true
  fn : ∃ (oc : Value) (od : Option Addr) (doc pm : Value) (an : Option Addr) (cdv ct : Value) (osl : Array (Option Value)) (p1 p2 q1 q2 q3 q4 : Pos),
    K.lookup fI = some ⟨oc, od, .func (fnOf "__init__" qn (iA p1 p2) (iB q1 q2 q3 q4) iS .none .none doc pm an cdv ct), osl⟩ ∧ codeIn K cdv qn = true
theorem one_size (v : Value) : [v].length ≤ sizeLine := by
  rw [sizeLine_eq]
  exact (by decide : 1 ≤ 16777216)
theorem kept_but {K : Frag} {h h' : Heap} {x : Addr} (X : K.In h) (hx : K.lookup x = none) (k : ∀ b o, b ≠ x → h.get? b = some o → h'.get? b = some o) : K.In h' := fun a o e =>
  k a o (fun z => by rw [z, hx] at e; cases e) (X a o e)
theorem ldC {M : Model} {s : Shared} {name : Str} {scope : Scope} {L a : Addr} {cd : Value} {m : Str → Option Value} {x : Str} {pos : Pos} {v : Value} {Q : Value → Shared → Prop} {A : Around} {E : Value → Shared → Prop} (hn : s.heap.Ns L m) (hv : m x = some v) (h : Q v s)
    (hk : scope.kind = .function := by rfl) (hl : (envOfC name scope L a cd).kindOf x = some .local := by rfl) (hd : (x == ("__debug__" : Str)) = false := by decide) :
    wpAny M A (eval (.Name x pos) (envOfC name scope L a cd)) Q E s := wpAny_Name (wpAny_loadName_local hk hl hn hv h) hd
/-- what __init__ leaves of a fresh exception at x -/
structure InitEnd (h h' : Heap) (x C dx t1 : Addr) (v : Value) : Prop where
  keep : ∀ b o, b ≠ x → h.get? b = some o → h'.get? b = some o
  obj : h'.get? x = some { cls := .ref C, dict := some dx, data := .fields #[.ref t1, .none, .none, .none, .bool false, .none] }
  dbig : h.objs.size ≤ dx
  dne : dx ≠ x
  ns : h'.Ns1 dx (fun y => if y = "thing" then some v else none)
/-- a made Low -/
structure OwnMade (h h' : Heap) (e C d : Addr) (v : Value) : Prop where
  keep : ∀ b o, h.get? b = some o → h'.get? b = some o
  new : h.objs.size ≤ e
  obj : ∃ oe vs, h'.get? e = some oe ∧ oe.cls = .ref C ∧ oe.dict = some d ∧ oe.data = .fields vs ∧ vs[1]? = some .none
  dbig : h.objs.size ≤ d
  dne : d ≠ e
  ns : h'.Ns1 d (fun y => if y = "thing" then some v else none)
section
variable {prog : Program} {w : World} {A : Around} {E : Value → Shared → Prop} {R : Result → Shared → Prop} {s : Shared} {K : Frag} {mg : Str → Option Value} {C fI : Addr}
theorem low_init {nm qn : Str} (T : ThTxt nm qn K mg C fI) {x t0 : Addr} {v : Value} (X : K.In s.heap) (hlim : s.heap.NoLimit) (hx : s.heap.get? x = some (excO C t0)) (hnx : K.lookup x = none) (hroom : A.depth < recursionLimit)
    (hq : ∀ h' tk dx, InitEnd s.heap h' x C dx t0 v → R (.ok (.ret .none)) { s with heap := h', toks := tk }) :
    codeAny (model prog w) A (.call (.ref fI) ⟨[.ref x, v], []⟩) R s := by
  obtain ⟨oc, od, doc, pm, an, cdv, ct, osl, p1, p2, q1, q2, q3, q4, ho, hcd⟩ := T.fn
  obtain ⟨nm, q, N, bs, bm, sn, sub, ab, col, dd, k0, k1, k2, k3, k5, hC, hbm⟩ := T.cls
  have hcl : clsIn K C = some { name := nm, bases := bs, mro := .ref C :: bm, ns := N, qualname := q, hasDict := true, slotNames := sn, subclasses := sub, abstract := ab, collection := col, hasDel := false } := by unfold clsIn; rw [hC] <;> rfl
  refine Att.call_fn (binds := [("self", .ref x), ("thing", v)]) X hlim ho hcd hroom (BindsTo.of_eq (by first | rfl | with_unfolding_all rfl)) (by first | rfl | decide | with_unfolding_all rfl) (fun s₁ IC => ?_) rfl rfl rfl
  obtain ⟨h₁, tk₁, rfl⟩ := IC.toInCall.same
  have k : ∀ b o, s.heap.get? b = some o → h₁.get? b = some o := IC.toInCall.keep
  have hn := IC.toInCall.ns
  have hxL : s.heap.objs.size ≠ x := Nat.ne_of_gt (Heap.lt_size hx)
  have X₁ : K.In h₁ := X.keeps k
  have hx₁ := k _ _ hx
  -- self.by = by
  show wpAny _ _ (execs _ _) _ _ _
  refine wpAny_execs_cons (plainObj_wpAny_Assign_Attribute ?_)
  refine ldC (v := v) hn (by first | rfl | with_unfolding_all rfl | kernel_rfl) (ldC (v := .ref x) hn (by first | rfl | with_unfolding_all rfl | kernel_rfl) ?_)
  refine set_plain X₁ (ox := excO C t0) (od := none) ⟨hx₁, rfl, rfl, trivial⟩ T.sa ?_
  refine OwE.osa_first X₁ hx₁ hcl (show OwE.refsEx (.ref C :: bm) = true from hbm) rfl T.noN (fun h₃ tk₃ dx k₃ dn dne hx₃ hn₃ => ?_)
  show wpAny _ _ (execs _ _) _ _ _
  have z : s.heap.objs.size < h₁.objs.size := hn.lt
  exact wpAny_execs_nil (hq h₃ tk₃ dx ⟨fun b o hb e => k₃ b o hb (k b o e), hx₃, Nat.le_of_lt (Nat.lt_of_lt_of_le z dn), dne, hn₃⟩)
theorem low_made {nm qn : Str} (T : ThTxt nm qn K mg C fI) {v : Value} (X : K.In s.heap) (hlim : s.heap.NoLimit) (hroom : A.depth + 1 < recursionLimit)
    (hq : ∀ h' tk e d, OwnMade s.heap h' e C d v → R (.ok (.ret (.ref e))) { s with heap := h', toks := tk }) :
    codeAny (model prog w) A (.call (.ref C) ⟨[v], []⟩) R s := by
  obtain ⟨nm, q, N, bs, bm, sn, sub, ab, col, dd, k0, k1, k2, k3, k5, hC, hbm⟩ := T.cls
  obtain ⟨hp, g, dr, tk, os⟩ := s
  have k : ∀ b o, hp.get? b = some o → ((hp.push (kdv_tup [v])).push (excO C hp.objs.size)).get? b = some o := fun b o e => Heap.get?_push_of_some _ (Heap.get?_push_of_some _ e)
  have hget : ((hp.push (kdv_tup [v])).push (excO C hp.objs.size)).get? (hp.objs.size + 1) = some (excO C hp.objs.size) := by heap_get
  have hnx : K.lookup (hp.objs.size + 1) = none := by
    cases e : K.lookup (hp.objs.size + 1) with
    | none => rfl
    | some o =>
      have z : hp.get? (hp.objs.size + 1) = some o := X _ _ e
      exact absurd (Nat.lt_of_succ_lt (Heap.lt_size z)) (Nat.lt_irrefl _)
  refine call_own F.excBase_Exception (fun X => OwE.refsEx_has X bm hbm) (X _ _ hC) (looks_findIn X T.iC) (fun self => bind_fn X self T.tC) (one_size v) ?_
  refine low_init (s := ⟨(hp.push (kdv_tup [v])).push (excO C hp.objs.size), g, dr, tk, os⟩) T (X.keeps k) (hlim.keeps k) hget hnx ?_ fun h' tk' dx ⟨k', hx, dn, dne, hns⟩ => ?_
  · show A.depth + 1 < recursionLimit
    exact hroom
  · have old : ∀ b o, hp.get? b = some o → h'.get? b = some o := fun b o e => k' b o (Nat.ne_of_lt (Nat.lt_succ_of_lt (Heap.lt_size e))) (k b o e)
    have z : hp.objs.size + 1 + 1 ≤ dx := by
      first
        | (simpa only [Heap.size_push] using dn)
        | exact dn
        | (have q := dn; rw [Heap.size_push, Heap.size_push] at q; exact q)
    exact ⟨rfl, hq h' tk' (hp.objs.size + 1) dx ⟨old, Nat.le_succ _, ⟨_, _, hx, rfl, rfl, rfl, rfl⟩, Nat.le_trans (Nat.le_trans (Nat.le_succ _) (Nat.le_succ _)) z, dne, hns⟩⟩
end
end ThX
end PySem
namespace L2
open PySem PySem.Spec PyProof.Rows
theorem relO_Th {v : V} {v' : Value} (r : RelV v v') (f : Str) : RelO (List.lookup f [(("thing" : Str), v)]) (if f = "thing" then some v' else none) := by
  by_cases hw : f = "thing"
  · subst hw
    rw [if_pos rfl]
    have q : List.lookup ("thing" : Str) [(("thing" : Str), v)] = some v := by simp [List.lookup]
    rw [q]
    exact r
  · rw [if_neg hw]
    have qw : (f == ("thing" : Str)) = false := by simpa using hw
    have q2 : List.lookup f [(("thing" : Str), v)] = none := by simp [List.lookup, qw]
    rw [q2]
    trivial
section
variable {X : Cx} {C fI : Addr}
/-- Low(e) -/
def tMkTh (C : Addr) (ta : TA) : St → Hp → XK → Prop := fun σ H Q => ta σ H fun vs H1 => ∃ v, vs = [v] ∧ ∀ d, H1 d = none → Q (.ref C) (some d) (upd H1 d (.xd [(("thing" : Str), v)]))
theorem pmk_Th {a : Expr} {ta : TA} {p pos : Pos} {k : Nat} {nm qn : Str} (T : PySem.ThX.ThTxt nm qn X.K X.mg C fI) (hr : Room k X.A) (ha : PA X [a] ta) (hg : Gl X nm := by rfl) (hdb : (nm == ("__debug__" : Str)) = false := by decide)
    (he : starEach (a :: []) X.env = (false, eval a X.env) :: starEach [] X.env := by rfl) (hpl : (backTo pos (starEach [] X.env)).any (·.1) = false := by rfl) :
    PMk X (.Call (.Name nm p) [a] [] pos) (tMkTh C ta) := by
  intro pins s σ H Q I h
  refine wpAny_Call_Name_kw (ld_glob I hg T.gC ?_ hdb)
  refine PySem.W.callWith_K (h₀ := X.base) I.ok.mod.kin T.kC (thn (ha.run pos pins s σ H _ I h) fun us s1 hh => ?_) he hpl
  obtain ⟨vs, H1, I1, r1, v, ev, q1⟩ := hh
  subst ev
  refine ⟨I1.kIn, ?_⟩
  cases r1 with
  | cons rv rn =>
    rename_i v' us'
    cases rn
    show wpAny _ _ (call (.ref C) [v']) _ _ _
    have hlim := I1.nolimit
    obtain ⟨hp, g, dr, tk, os⟩ := s1
    refine wpAny_call (PySem.ThX.low_made T I1.kIn hlim (by have := hr.dp; omega) fun h' tk' e d M => ?_)
    show MkP X pins σ Q (.ref e) ⟨h', g, dr, tk', os⟩
    obtain ⟨oe, fv, hoe, hc, hd, hdat, h1⟩ := M.obj
    have hns := M.ns
    obtain ⟨G', g1, g2⟩ := restrict h' fun b => decide (b ≠ e)
    have gk : ∀ b, b ≠ e → G'.get? b = h'.get? b := fun b hb => g1 b (decide_eq_true hb)
    have ge : G'.get? e = none := g2 e (by simp)
    have old : ∀ b o, hp.get? b = some o → G'.get? b = some o := fun b o q => (gk b (Nat.ne_of_lt (Nat.lt_of_lt_of_le (Heap.lt_size q) M.new))).trans (M.keep b o q)
    have ob : ObjOk X.prog X.w (upd H1 d (.xd [(("thing" : Str), v)])) G' d (.xd [(("thing" : Str), v)]) :=
      ⟨_, hns.at (fun o q => (gk d M.dne).trans q), fun f => relO_Th rv f⟩
    have J : Inv X pins σ (upd H1 d (.xd [(("thing" : Str), v)])) ⟨G', g, dr, tk', os⟩ := I1.laid (t' := tk') old M.dbig ob
    refine ⟨e, oe, fv, ⟨G', g, dr, tk', os⟩, _, .ref C, some d, rfl, J, fun b o q => ?_, ge, hoe, ⟨hc, hd⟩, hdat, h1, ?_, rfl, I1.bare, raises_own T.exC T.tyC, q1 d (I1.hok.fresh M.dbig)⟩
    · by_cases hb : b = e
      · have q' : G'.get? b = some o := q
        rw [hb, ge] at q'; cases q'
      · exact (gk b hb).symm.trans q
    · rw [upd_ne (Ne.symm M.dne)]
      exact I1.hok.fresh M.new
/-- raise Low(e) -/
def tRaiseTh (C : Addr) (W : WX) (ta : TA) : TS := fun _ σ H => tMkTh C ta σ H fun cls d H' => W cls d σ H'
theorem ps_raiseTh {a : Expr} {ta : TA} {W : WX} {p pos pos2 : Pos} {k : Nat} (hc : X.calm = true) {nm qn : Str} (T : PySem.ThX.ThTxt nm qn X.K X.mg C fI) (hr : Room k X.A) (tk : Takes X W) (ha : PA X [a] ta) (hg : Gl X nm := by rfl) (hdb : (nm == ("__debug__" : Str)) = false := by decide)
    (he : starEach (a :: []) X.env = (false, eval a X.env) :: starEach [] X.env := by rfl) (hpl : (backTo pos (starEach [] X.env)).any (·.1) = false := by rfl) :
    PS X (.Raise (some (.Call (.Name nm p) [a] [] pos)) none pos2) (tRaiseTh C W ta) := ps_raise hc tk (pmk_Th T hr ha hg hdb he hpl)
/-- low.by, low the exception that the suite holds (at a; its class cls, its dict d) -/
def tByTh (C : Addr) (a : Addr) (cls : Value) (d : Option Addr) (te : TE) : TE := fun σ H Q => te σ H fun x H1 => x = .ref a ∧ cls = .ref C ∧ ∃ (dd : Addr) (v : V), d = some dd ∧ H1 dd = some (.xd [(("thing" : Str), v)]) ∧ Q v H1
theorem pe_byTh {a : Addr} {oe : Obj} {cls : Value} {d : Option Addr} {pn : List (Addr × Obj)} {e : Expr} {te : TE} {pos : Pos} {nm qn : Str} (T : PySem.ThX.ThTxt nm qn X.K X.mg C fI) (hz : Zc cls d oe) (hf : ∃ vs, oe.data = .fields vs) (he : PE (X.suite a ((a, oe) :: pn)) e te)
    (hb : attributeBase e "thing" X.env (eval e X.env) = eval e X.env := by rfl) :
    PE (X.suite a ((a, oe) :: pn)) (.Attribute e "thing" pos) (tByTh C a cls d te) := by
  refine ⟨fun pins s σ H Q I h => ?_⟩
  refine attr_of hb (thn (he.run pins s σ H _ I h) fun u s1 hh => ?_)
  obtain ⟨x, H1, I1, rx, ex, ec, dd, v, ed, ea, q⟩ := hh
  subst ex
  obtain rfl : u = Value.ref a := rx
  subst ec
  subst ed
  obtain ⟨ha, _⟩ := I1.pin (a, oe) (List.mem_append_left _ List.mem_cons_self)
  obtain ⟨vs, hd⟩ := hf
  have hx : ObjOk X.prog X.w H1 s1.heap dd (.xd [(("thing" : Str), v)]) := I1.hok dd _ ea
  obtain ⟨mA, hns, hr⟩ := hx
  obtain ⟨od, ho, hl⟩ := lookIn_ns hns
  have l : List.lookup ("thing" : Str) [(("thing" : Str), v)] = some v := by simp [List.lookup]
  obtain ⟨u, hu, ru⟩ := RelO.some_of (v := v) (o := mA "thing") (by rw [← l]; exact hr "thing")
  have J : PySem.W.InstAt s1.heap a oe C (some od) := ⟨ha, hz.1, by unfold PySem.W.notCls; rw [hd] <;> rfl, by rw [hz.2]; exact ho⟩
  exact HandSPX.exc_get I1.kIn J T.ga T.gg T.exC (PySem.W.findObj_own T.hdC T.noN rfl (by rw [hl, hu])) (handed_of ru) ⟨v, H1, I1.tok _, ru, q⟩
end
end L2


namespace Ey
open PySem PySem.Spec PyProof.Rows L2
section
variable {X : Cx} {C fI : Addr}
/-- Th(e), a value -/
def tVTh (C : Addr) (ta : TA) : TE := fun σ H Q => ta σ H fun vs H1 => ∃ v, vs = [v] ∧ ∀ e d, H1 e = none → H1 d = none → e ≠ d → Q (.ref e) (upd (upd H1 e (exv e C d)) d (.xd [(("thing" : Str), v)]))
theorem pe_vTh {a : Expr} {ta : TA} {p pos : Pos} {k : Nat} {nm qn : Str} (T : PySem.ThX.ThTxt nm qn X.K X.mg C fI) (hr : Room k X.A) (ha : PA X [a] ta) (hg : Gl X nm := by rfl) (hdb : (nm == ("__debug__" : Str)) = false := by decide)
    (he : starEach (a :: []) X.env = (false, eval a X.env) :: starEach [] X.env := by rfl) (hpl : (backTo pos (starEach [] X.env)).any (·.1) = false := by rfl) :
    PE X (.Call (.Name nm p) [a] [] pos) (tVTh C ta) := by
  refine ⟨fun pins s σ H Q I h => ?_⟩
  refine wpAny_Call_Name_kw (ld_glob I hg T.gC ?_ hdb)
  refine PySem.W.callWith_K (h₀ := X.base) I.ok.mod.kin T.kC (thn (ha.run pos pins s σ H _ I h) fun us s1 hh => ?_) he hpl
  obtain ⟨vs, H1, I1, r1, v, ev, q1⟩ := hh
  subst ev
  refine ⟨I1.kIn, ?_⟩
  cases r1 with
  | cons rv rn =>
    rename_i v' us'
    cases rn
    show wpAny _ _ (call (.ref C) [v']) _ _ _
    have hlim := I1.nolimit
    obtain ⟨hp, g, dr, tk, os⟩ := s1
    refine wpAny_call (PySem.ThX.low_made T I1.kIn hlim (by have := hr.dp; omega) fun h' tk' e d M => ?_)
    obtain ⟨oe, fv, hoe, hc, hd, hdat, h1⟩ := M.obj
    have ob : ObjOk X.prog X.w (upd (upd H1 e (exv e C d)) d (.xd [(("thing" : Str), v)])) h' d (.xd [(("thing" : Str), v)]) := ⟨_, M.ns, fun f => relO_Th rv f⟩
    have J : Inv X pins σ (upd (upd H1 e (exv e C d)) d (.xd [(("thing" : Str), v)])) ⟨h', g, dr, tk', os⟩ := inv_laid2 I1 M.keep M.new M.dbig (Ne.symm M.dne) (exv_ok hoe hc hd hdat) ob
    exact ⟨.ref e, _, J, rfl, q1 e d (I1.hok.fresh M.new) (I1.hok.fresh M.dbig) (Ne.symm M.dne)⟩
/-- its field -/
def tFTh (C : Addr) (te : TE) : TE := fun σ H Q => te σ H fun x H1 => ∃ a d v, x = .ref a ∧ H1 a = some (exv a C d) ∧ H1 d = some (.xd [(("thing" : Str), v)]) ∧ Q v H1
theorem pe_fTh {e : Expr} {te : TE} {pos : Pos} {nm qn : Str} (T : PySem.ThX.ThTxt nm qn X.K X.mg C fI) (he : PE X e te) (hb : attributeBase e "thing" X.env (eval e X.env) = eval e X.env := by rfl) :
    PE X (.Attribute e "thing" pos) (tFTh C te) := by
  refine ⟨fun pins s σ H Q I h => ?_⟩
  refine attr_of hb (thn (he.run pins s σ H _ I h) fun u s1 hh => ?_)
  obtain ⟨x, H1, I1, rx, a, d, v, ex, ea, ed, q⟩ := hh
  subst ex
  obtain rfl : u = Value.ref a := rx
  obtain ⟨oe, vs, ha, hc, hdd, hd⟩ := exv_get I1 ea
  have hx : ObjOk X.prog X.w H1 s1.heap d (.xd [(("thing" : Str), v)]) := I1.hok d _ ed
  obtain ⟨mA, hns, hr⟩ := hx
  obtain ⟨od, ho, hl⟩ := lookIn_ns hns
  have l : List.lookup ("thing" : Str) [(("thing" : Str), v)] = some v := by simp [List.lookup]
  obtain ⟨u, hu, ru⟩ := RelO.some_of (v := v) (o := mA "thing") (by rw [← l]; exact hr "thing")
  have J : PySem.W.InstAt s1.heap a oe C (some od) := ⟨ha, hc, by unfold PySem.W.notCls; rw [hd] <;> rfl, by rw [hdd]; exact ho⟩
  exact HandSPX.exc_get I1.kIn J T.ga T.gg T.exC (PySem.W.findObj_own T.hdC T.noN rfl (by rw [hl, hu])) (handed_of ru) ⟨v, H1, I1.tok _, ru, q⟩
end
end Ey

namespace PySem
namespace ThX
open PySem.W PySem.Calls PyProof.Rows PySem.HandSPX
section
variable {prog : Program} {w : World} {A : Around} {E : Value → Shared → Prop} {R : Result → Shared → Prop} {s : Shared} {K : Frag} {mg : Str → Option Value} {C fI : Addr}
theorem low_initK {nm qn : Str} (T : ThTxt nm qn K mg C fI) {x t0 : Addr} {v : Value} (X : K.In s.heap) (hlim : s.heap.NoLimit) (hx : s.heap.get? x = some (excO C t0)) (hnx : K.lookup x = none) (hroom : A.depth < recursionLimit)
    (hq : ∀ h' tk dx, InitEnd s.heap h' x C dx t0 v → R (.ok (.ret .none)) { s with heap := h', toks := tk }) :
    codeAny (model prog w) A (.call (.ref fI) ⟨[.ref x], [("thing", v)]⟩) R s := by
  obtain ⟨oc, od, doc, pm, an, cdv, ct, osl, p1, p2, q1, q2, q3, q4, ho, hcd⟩ := T.fn
  obtain ⟨nm, q, N, bs, bm, sn, sub, ab, col, dd, k0, k1, k2, k3, k5, hC, hbm⟩ := T.cls
  have hcl : clsIn K C = some { name := nm, bases := bs, mro := .ref C :: bm, ns := N, qualname := q, hasDict := true, slotNames := sn, subclasses := sub, abstract := ab, collection := col, hasDel := false } := by unfold clsIn; rw [hC] <;> rfl
  refine Att.call_fn (binds := [("self", .ref x), ("thing", v)]) X hlim ho hcd hroom (BindsTo.of_eq (by first | rfl | with_unfolding_all rfl)) (by first | rfl | decide | with_unfolding_all rfl) (fun s₁ IC => ?_) rfl rfl rfl
  obtain ⟨h₁, tk₁, rfl⟩ := IC.toInCall.same
  have k : ∀ b o, s.heap.get? b = some o → h₁.get? b = some o := IC.toInCall.keep
  have hn := IC.toInCall.ns
  have hxL : s.heap.objs.size ≠ x := Nat.ne_of_gt (Heap.lt_size hx)
  have X₁ : K.In h₁ := X.keeps k
  have hx₁ := k _ _ hx
  -- self.by = by
  show wpAny _ _ (execs _ _) _ _ _
  refine wpAny_execs_cons (plainObj_wpAny_Assign_Attribute ?_)
  refine ldC (v := v) hn (by first | rfl | with_unfolding_all rfl | kernel_rfl) (ldC (v := .ref x) hn (by first | rfl | with_unfolding_all rfl | kernel_rfl) ?_)
  refine set_plain X₁ (ox := excO C t0) (od := none) ⟨hx₁, rfl, rfl, trivial⟩ T.sa ?_
  refine OwE.osa_first X₁ hx₁ hcl (show OwE.refsEx (.ref C :: bm) = true from hbm) rfl T.noN (fun h₃ tk₃ dx k₃ dn dne hx₃ hn₃ => ?_)
  show wpAny _ _ (execs _ _) _ _ _
  have z : s.heap.objs.size < h₁.objs.size := hn.lt
  exact wpAny_execs_nil (hq h₃ tk₃ dx ⟨fun b o hb e => k₃ b o hb (k b o e), hx₃, Nat.le_of_lt (Nat.lt_of_lt_of_le z dn), dne, hn₃⟩)
theorem low_madeK {nm qn : Str} (T : ThTxt nm qn K mg C fI) {v : Value} (X : K.In s.heap) (hlim : s.heap.NoLimit) (hroom : A.depth + 1 < recursionLimit)
    (hq : ∀ h' tk e d, OwnMade s.heap h' e C d v → R (.ok (.ret (.ref e))) { s with heap := h', toks := tk }) :
    codeAny (model prog w) A (.call (.ref C) ⟨[], [("thing", v)]⟩) R s := by
  obtain ⟨nm, q, N, bs, bm, sn, sub, ab, col, dd, k0, k1, k2, k3, k5, hC, hbm⟩ := T.cls
  obtain ⟨hp, g, dr, tk, os⟩ := s
  have k : ∀ b o, hp.get? b = some o → ((hp.push (kdv_tup [])).push (excO C hp.objs.size)).get? b = some o := fun b o e => Heap.get?_push_of_some _ (Heap.get?_push_of_some _ e)
  have hget : ((hp.push (kdv_tup [])).push (excO C hp.objs.size)).get? (hp.objs.size + 1) = some (excO C hp.objs.size) := by heap_get
  have hnx : K.lookup (hp.objs.size + 1) = none := by
    cases e : K.lookup (hp.objs.size + 1) with
    | none => rfl
    | some o =>
      have z : hp.get? (hp.objs.size + 1) = some o := X _ _ e
      exact absurd (Nat.lt_of_succ_lt (Heap.lt_size z)) (Nat.lt_irrefl _)
  refine OwE.kw_call hbm (X _ _ hC) (looks_findIn X T.iC) (fun self => bind_fn X self T.tC) ?_
  refine low_initK (s := ⟨(hp.push (kdv_tup [])).push (excO C hp.objs.size), g, dr, tk, os⟩) T (X.keeps k) (hlim.keeps k) hget hnx ?_ fun h' tk' dx ⟨k', hx, dn, dne, hns⟩ => ?_
  · show A.depth + 1 < recursionLimit
    exact hroom
  · have old : ∀ b o, hp.get? b = some o → h'.get? b = some o := fun b o e => k' b o (Nat.ne_of_lt (Nat.lt_succ_of_lt (Heap.lt_size e))) (k b o e)
    have z : hp.objs.size + 1 + 1 ≤ dx := by
      first
        | (simpa only [Heap.size_push] using dn)
        | exact dn
        | (have q := dn; rw [Heap.size_push, Heap.size_push] at q; exact q)
    exact ⟨rfl, hq h' tk' (hp.objs.size + 1) dx ⟨old, Nat.le_succ _, ⟨_, _, hx, rfl, rfl, rfl, rfl⟩, Nat.le_trans (Nat.le_trans (Nat.le_succ _) (Nat.le_succ _)) z, dne, hns⟩⟩
end
end ThX
end PySem
namespace Ey
open PySem PySem.Spec PyProof.Rows L2
section
variable {X : Cx} {C fI : Addr}
/-- Th(at=e), a value -/
def tVkTh (C : Addr) (tk : TA) : TE := fun σ H Q => tk σ H fun vs H1 => ∃ v, vs = [v] ∧ ∀ e d, H1 e = none → H1 d = none → e ≠ d → Q (.ref e) (upd (upd H1 e (exv e C d)) d (.xd [(("thing" : Str), v)]))
theorem pe_vkTh {kws : List Keyword} {tk_ : TA} {p pos : Pos} {k : Nat} {nm qn : Str} (T : PySem.ThX.ThTxt nm qn X.K X.mg C fI) (hr : Room k X.A) (hkw : PK X kws tk_) (hg : Gl X nm := by rfl) (hdb : (nm == ("__debug__" : Str)) = false := by decide)
    (hall : (backToKw pos (keywordEach kws X.env)).all (·.1.isSome) = true := by rfl) (hks : (backToKw pos (keywordEach kws X.env)).filterMap (·.1) = [("thing" : Str)] := by rfl)
    (hpl : ((backTo pos (starEach [] X.env)).any (·.1) || (backToKw pos (keywordEach kws X.env)).any (·.1.isNone)) = false := by rfl) :
    PE X (.Call (.Name nm p) [] kws pos) (tVkTh C tk_) := by
  refine ⟨fun pins s σ H Q I h => ?_⟩
  refine wpAny_Call_Name_kw (ld_glob I hg T.gC ?_ hdb)
  refine PySem.W.callWith_KW0 (h₀ := X.base) I.ok.mod.kin T.kC hall ?_ hpl
  refine thn (hkw.run pos pins s σ H _ I h) fun ws s1 hh => ?_
  obtain ⟨zs, H1, I1, rz, v, ev, q1⟩ := hh
  subst ev
  refine ⟨I1.kIn, ?_⟩
  rw [hks]
  cases rz with
  | cons rv rn =>
    rename_i v' us'
    cases rn
    show wpAny _ _ (call (.ref C) [] [(("thing" : Str), v')]) _ _ _
    have hlim := I1.nolimit
    obtain ⟨hp, g, dr, tk, os⟩ := s1
    refine wpAny_call (PySem.ThX.low_madeK T I1.kIn hlim (by have := hr.dp; omega) fun h' tk' e d M => ?_)
    obtain ⟨oe, fv, hoe, hc, hd, hdat, h1⟩ := M.obj
    have ob : ObjOk X.prog X.w (upd (upd H1 e (exv e C d)) d (.xd [(("thing" : Str), v)])) h' d (.xd [(("thing" : Str), v)]) := ⟨_, M.ns, fun f => relO_Th rv f⟩
    have J : Inv X pins σ (upd (upd H1 e (exv e C d)) d (.xd [(("thing" : Str), v)])) ⟨h', g, dr, tk', os⟩ := inv_laid2 I1 M.keep M.new M.dbig (Ne.symm M.dne) (exv_ok hoe hc hd hdat) ob
    exact ⟨.ref e, _, J, rfl, q1 e d (I1.hok.fresh M.new) (I1.hok.fresh M.dbig) (Ne.symm M.dne)⟩
end
end Ey

namespace Ey
open PySem PySem.Spec PyProof.Rows L2
section
variable {X : Cx} {C fI : Addr}
/-- Th(at=e), to be raised -/
def tMkkTh (C : Addr) (tk_ : TA) : L2.St → Hp → XK → Prop := fun σ H Q => tk_ σ H fun vs H1 => ∃ v, vs = [v] ∧ ∀ d, H1 d = none → Q (.ref C) (some d) (upd H1 d (.xd [(("thing" : Str), v)]))
theorem pmk_kTh {kws : List Keyword} {tk_ : TA} {p pos : Pos} {k : Nat} {nm qn : Str} (T : PySem.ThX.ThTxt nm qn X.K X.mg C fI) (hr : Room k X.A) (hkw : PK X kws tk_) (hg : Gl X nm := by rfl) (hdb : (nm == ("__debug__" : Str)) = false := by decide)
    (hall : (backToKw pos (keywordEach kws X.env)).all (·.1.isSome) = true := by rfl) (hks : (backToKw pos (keywordEach kws X.env)).filterMap (·.1) = [("thing" : Str)] := by rfl)
    (hpl : ((backTo pos (starEach [] X.env)).any (·.1) || (backToKw pos (keywordEach kws X.env)).any (·.1.isNone)) = false := by rfl) :
    PMk X (.Call (.Name nm p) [] kws pos) (tMkkTh C tk_) := by
  intro pins s σ H Q I h
  refine wpAny_Call_Name_kw (ld_glob I hg T.gC ?_ hdb)
  refine PySem.W.callWith_KW0 (h₀ := X.base) I.ok.mod.kin T.kC hall ?_ hpl
  refine thn (hkw.run pos pins s σ H _ I h) fun ws s1 hh => ?_
  obtain ⟨zs, H1, I1, rz, v, ev, q1⟩ := hh
  subst ev
  refine ⟨I1.kIn, ?_⟩
  rw [hks]
  cases rz with
  | cons rv rn =>
    rename_i v' us'
    cases rn
    show wpAny _ _ (call (.ref C) [] [(("thing" : Str), v')]) _ _ _
    have hlim := I1.nolimit
    obtain ⟨hp, g, dr, tk, os⟩ := s1
    refine wpAny_call (PySem.ThX.low_madeK T I1.kIn hlim (by have := hr.dp; omega) fun h' tk' e d M => ?_)
    show MkP X pins σ Q (.ref e) ⟨h', g, dr, tk', os⟩
    obtain ⟨oe, fv, hoe, hc, hd, hdat, h1⟩ := M.obj
    have hns := M.ns
    obtain ⟨G', g1, g2⟩ := restrict h' fun b => decide (b ≠ e)
    have gk : ∀ b, b ≠ e → G'.get? b = h'.get? b := fun b hb => g1 b (decide_eq_true hb)
    have ge : G'.get? e = none := g2 e (by simp)
    have old : ∀ b o, hp.get? b = some o → G'.get? b = some o := fun b o q => (gk b (Nat.ne_of_lt (Nat.lt_of_lt_of_le (Heap.lt_size q) M.new))).trans (M.keep b o q)
    have ob : ObjOk X.prog X.w (upd H1 d (.xd [(("thing" : Str), v)])) G' d (.xd [(("thing" : Str), v)]) :=
      ⟨_, hns.at (fun o q => (gk d M.dne).trans q), fun f => relO_Th rv f⟩
    have J : Inv X pins σ (upd H1 d (.xd [(("thing" : Str), v)])) ⟨G', g, dr, tk', os⟩ := I1.laid (t' := tk') old M.dbig ob
    refine ⟨e, oe, fv, ⟨G', g, dr, tk', os⟩, _, .ref C, some d, rfl, J, fun b o q => ?_, ge, hoe, ⟨hc, hd⟩, hdat, h1, ?_, rfl, I1.bare, raises_own T.exC T.tyC, q1 d (I1.hok.fresh M.dbig)⟩
    · by_cases hb : b = e
      · have q' : G'.get? b = some o := q
        rw [hb, ge] at q'; cases q'
      · exact (gk b hb).symm.trans q
    · rw [upd_ne (Ne.symm M.dne)]
      exact I1.hok.fresh M.new
end
end Ey
set_option maxHeartbeats 4000000
namespace PySem
namespace OwE
open PySem PySem.Spec PySem.Calls PyProof.Rows PySem.W
/-! ### isinstance of a caught own exception that has a dict -/
section
variable {prog : Program} {w : World} {A : Around} {E : Value → Shared → Prop} {s : Shared} {K : Frag} {e D : Addr} {oE : Obj} {dE : Option Obj}
/-- what the class says of its own __class__ -/
structure SaysC (K : Frag) (D : Addr) : Prop where
  ga : findIn K (.ref D) "__getattribute__" = some (some (.builtin "BaseException.__getattribute__"))
  gg : findIn K (.ref D) "__getattr__" = some none
  sb : subIn K (.ref D) (.type "BaseException") = some true
  hd : hasDictIn K D = true
  cl : findIn K (.ref D) "__class__" = some (some (.builtin "object.__class__"))
  sp : specialIn K (.builtin "object.__class__") "__get__" = some (some (.builtin "getset_descriptor.__get__"))
  tk : takesIn K (.builtin "object.__class__") = some true
  mo : mroIn K D (.type "object") = some true
theorem SaysC.found (S : SaysC K D) : findObj K D dE "__class__" = some (.bind (.builtin "getset_descriptor.__get__") (.builtin "object.__class__")) := by
  obtain ⟨cd, hc, _⟩ := any_some S.hd
  unfold findObj
  rw [hc, Option.bind_some, S.cl, Option.bind_some]
  simp [S.sp, S.tk]
theorem asked_class {Q : Option Value → Shared → Prop} (S : SaysC K D) (hK : K.In s.heap) (hI : InstAt s.heap e oE D dE) (hq : Q (some (.ref D)) { s with toks := s.toks + 1 }) : wpAny (model prog w) A (getAttr? (.ref e) "__class__") Q E s := by
  have hf := S.found (dE := dE)
  obtain ⟨hp, gg, dd, tt, oo⟩ := s
  have hT := hI.type (M := model prog w)
  have hA := looks_findIn (M := model prog w) hK S.ga
  have hB := looks_findIn (M := model prog w) hK S.gg
  have hC := looks_find (M := model prog w) hK hI hf
  have hS : Looks (model prog w) hp (isInstance (.ref e) (.type "BaseException")) true := hT.andThen (looks_subIn hK S.sb)
  have n0 : (false && onTheHeap (Value.builtin "BaseException.__getattribute__")) = false := rfl
  have n2 : (Value.builtin "BaseException.__getattribute__" == Value.builtin "object.__getattribute__") = false := by decide +kernel
  have n1 : (onTheHeap (Value.ref D) && Value.builtin "BaseException.__getattribute__" == Value.builtin "object.__getattribute__") = false := by
    rw [n2]
    rfl
  unfold getAttr?
  unfold getAttrBy? getAttrBy
  refine wpAny_bind (wpAny_mkText (wpAny_bind (wpAny_attempt (wpAny_holding (wpAny_bind (hT.at (wpAny_bind (hA.at ?_))))))))
  show wpAny _ _ (if (onTheHeap (Value.ref D) && Value.builtin "BaseException.__getattribute__" == Value.builtin "object.__getattribute__") = true then _ else _) _ _ _
  rw [n1, if_neg Bool.false_ne_true]
  unfold getAttrByItsOwn
  unfold hookBefore
  refine wpAny_bind ?_
  rw [if_pos (show (onTheHeap (Value.ref D)) = true from rfl)]
  refine hB.at ?_
  refine wpAny_bind (wpAny_attempt ?_)
  refine wpAny_holding ?_
  unfold callGetattribute
  rw [n0, if_neg Bool.false_ne_true]
  unfold boundAndCalled
  rw [PySem.F.excAttr_ValueError.ga.bind (.ref e)]
  refine wpAny_bind (wpAny_pure ?_)
  show wpAny _ _ (call (.builtin "BaseException.__getattribute__") [.ref e, .str "__class__" tt]) _ _ _
  refine wpAny_call ?_
  refine codeAny_call_builtin PySem.F.excAttr_ValueError.ga.plain PySem.F.entry_bexc_ga ?_
  refine @check_slot (model prog w) _ _ ⟨hp, gg, dd, tt + 1, oo⟩ "BaseException.__getattribute__" "BaseException" "__getattribute__" (.ref e) [.str "__class__" tt] [] _ (by decide +kernel) (by decide +kernel) hS (PySem.F.args_bexc_ga (.ref e) (.str "__class__" tt)) ?_
  unfold Builtin.«object.__getattribute__»
  refine wpAny_bind (wpAny_of_eq (a := ((Value.ref e : Value), [Value.str "__class__" tt])) (by first | rfl | (simp only [slotArgs]; rfl)) ?_)
  refine wpAny_bind (wpAny_pure (wpAny_bind (hT.at (wpAny_bind (hC.at ?_)))))
  show wpAny _ _ (holding [Value.builtin "object.__class__"] (call (.builtin "getset_descriptor.__get__") [.builtin "object.__class__", .ref e, .ref D]) >>= ret) _ _ _
  refine wpAny_bind (wpAny_holding (wpAny_call (class_get (s := ⟨hp, gg, dd, tt + 1, oo⟩) (ox := oE) (od := dE) hK hI S.mo ?_)))
  refine wpAny_pure ?_
  show wpAny _ _ (handedOut (.ref D)) _ _ _
  rw [handedOut_of (v := Value.ref D) rfl]
  first
    | exact wpAny_pure (wpAny_pure hq)
    | exact wpAny_pure hq
    | exact wpAny_pure (wpAny_bind (wpAny_pure (wpAny_pure hq)))
theorem kitx (S : SaysC K D) : KitX K (.ref e) (.ref D) (fun h => InstAt h e oE D dE) where
  ty := fun _ _ _ hI => hI.type
  it := fun _ _ hK _ => by
    obtain ⟨cd, hc, _⟩ := any_some S.hd
    unfold clsIn at hc
    split at hc
    · rename_i c' d' cd' sl' ho
      intro A' Q' E' s' k q
      unfold isType
      unfold loadHead
      exact wpAny_bind (wpAny_loadPart (k _ _ (hK _ _ ho)) (wpAny_pure q))
    · cases hc
  ne := fun h tp dd its n sl hK htp => by
    obtain ⟨cd, hc, _⟩ := any_some S.hd
    refine Bool.eq_false_iff.mpr fun q => ?_
    have hh : D = tp := Value.ref.inj (beq_iff_eq.mp q)
    subst hh
    unfold clsIn at hc
    split at hc
    · rename_i c' d' cd' sl' ho
      have z := (hK _ _ ho).symm.trans htp
      cases z
    · cases hc
  ca := fun hK hI k => asked_class S hK hI k
end
end OwE
end PySem
namespace L2
open PySem PySem.Spec PyProof.Rows
/-- isinstance(e, c), e the exception that the suite holds, its class D, its dict at dd -/
def rIsE2 (K : PySem.W.Frag) (D a : Addr) (cls : Value) (d : Option Addr) : List V → Hp → VK → Prop := fun xs H Q => cls = .ref D ∧ ∃ (dd : Addr) (fs : List (Str × V)), d = some dd ∧ H dd = some (.xd fs) ∧ rIsE K D a xs H Q
theorem call_isE2 {X : Cx} {a D : Addr} {oe : Obj} {pn : List (Addr × Obj)} {cls : Value} {d : Option Addr} (S : PySem.OwE.SaysC X.K D) (hz : Zc cls d oe) (hf : ∃ vs, oe.data = .fields vs) :
    CallR (X.suite a ((a, oe) :: pn)) (.builtin "isinstance") (rIsE2 X.K D a cls d) := by
  intro pins s σ H xs us Q I r h
  obtain ⟨ec, dd, fs, ed, hdd, c, cv, b, rfl, hcv, e, q⟩ := h
  subst ec
  subst ed
  cases r with
  | cons rx rr =>
    cases rr with
    | cons rt rr =>
      cases rr
      cases rx
      have ec := hcv _ rt
      subst ec
      obtain ⟨hget, _⟩ := I.pin (a, oe) (List.mem_append.mpr (.inl List.mem_cons_self))
      have hx : ObjOk X.prog X.w H s.heap dd (.xd fs) := I.hok dd _ hdd
      obtain ⟨mA, hns, _⟩ := hx
      obtain ⟨od, ho, _⟩ := lookIn_ns hns
      have J : PySem.W.InstAt s.heap a oe D (some od) := ⟨hget, hz.1, by unfold PySem.W.notCls; obtain ⟨vs, hd⟩ := hf; rw [hd] <;> rfl, by rw [hz.2]; exact ho⟩
      exact PySem.W.kia_one (PySem.OwE.kitx S) I.kIn J e (fun z => nomatch z) fun tk => ⟨.bl b, H, I.kept (t' := tk) fun _ _ z => z, rfl, q⟩
end L2
set_option maxHeartbeats 4000000
namespace Ey
open PySem PySem.Spec PyProof.Rows L2
/-! ### several `except C as n`, one name -/
/-- behind a suite its name is gone -/
def goneE (i : Nat) (D : Ends) : Ends := { nx := fun τ G => D.nx (τ.set i none) G, rt := D.rt, bk := fun τ G => D.bk (τ.set i none) G, ct := fun τ G => D.ct (τ.set i none) G }
abbrev SuT := Addr → Value → Option Addr → TS
def wAsM (K : PySem.W.Frag) (i : Nat) (Wo : WX) (D : Ends) : List (Value × SuT) → WX
  | [] => Wo
  | p :: r => fun cls d σ H => ∃ b, PySem.W.exmOne K cls p.1 = some b ∧ (b = true → ∀ a, H a = none → p.2 a cls d (goneE i D) (σ.set i (some (.ref a))) H) ∧ (b = false → wAsM K i Wo D r cls d σ H)
inductive HdsAs (X : Cx) (n : Str) : List ExceptHandler → List (Value × SuT) → Prop
  | nil : HdsAs X n [] []
  | cons {x : Str} {c : Value} {ts : SuT} {b₀ : Stmt} {su : List Stmt} {np ps : Pos} {hds : List ExceptHandler} {l : List (Value × SuT)} (hc : Names X x c)
      (hsu : ∀ (a : Addr) (oe : Obj) (cls : Value) (d : Option Addr) (pn : List (Addr × Obj)), X.base.get? a = none → a ∉ X.fs → Zc cls d oe → (∃ vs, oe.data = .fields vs) → PSs (X.suite a ((a, oe) :: pn)) (b₀ :: su) (ts a cls d)) (r : HdsAs X n hds l) :
      HdsAs X n (.ExceptHandler (some (.Name x np)) (some n) (b₀ :: su) ps :: hds) ((c, ts) :: l)
section
variable {X : Cx} {n : Str} {i : Nat} {body : List Stmt} {h₀ : ExceptHandler} {hds : List ExceptHandler} {l : List (Value × SuT)} {pos : Pos} {tb : WX → TS} {Wo : WX}
theorem ps_try_asM (hs : X.stack = X.env :: X.outer) (hf : X.env.frame = some X.env.locals) (hN : X.N.Nodup) (hi : X.N[i]? = some n) (hln : X.env.kindOf n = some .local) (tk : Takes X Wo)
    (hb : ∀ (W : WX) (pn : List (Addr × Obj)) (xe : Value → Shared → Prop), Takes (X.tr pn xe) W → PassesOwn (model X.prog X.w) X.A X.env xe → PSs (X.tr pn xe) body (tb W))
    (hh : HdsAs X n (h₀ :: hds) l) : PS X (.Try body (h₀ :: hds) [] [] pos) (fun D σ H => tb (wAsM X.K i Wo D l) D σ H) := by
  refine ⟨fun pins s σ H D I h => ?_⟩
  have ok := I.ok
  have eF : X.A.frames = some (X.env :: X.outer) := by rw [ok.frames, hs]
  refine wpAny_Try_except ?_
  have run := (hb (wAsM X.K i Wo D l) (X.pn ++ pins) (fun e z1 => wpAny (model X.prog X.w) X.A (noteFrame e X.env) (fun _ z2 => wpAny (model X.prog X.w) X.A (setFlight e none)
    (fun _ z3 => wpAny (model X.prog X.w) X.A (handleBy e X.env (h₀ :: hds)) (SP X pins D) X.xe z3) X.xe z2) X.xe z1) (fun u z xx => ?hit) PassesOwn.looking).run [] s σ H D (I.toTry _) h
  case hit =>
    obtain ⟨a, B, sI, qs, σ1, H1, cls, d, rfl, J0, nb, up, sky, na, os, ag, wish⟩ := xx
    have J : Inv X pins σ1 H1 sI := J0.ofTry ok
    rw [hs] at sky
    show wpAny (model X.prog X.w) X.A (noteFrame (.ref a) X.env) _ _ _
    refine Sky.land Zc.steady eF hf sky fun g3 fl3 up3 => ?_
    obtain ⟨o3, v3, e3, z3, d3⟩ := fl3.there
    have out : a ∉ frs (X.env :: X.outer) := fun hm => by
      obtain ⟨_, o', e', hn⟩ := fl3.2.2.1.mem hm
      rw [e3] at e'
      cases e'
      exact hn _ d3
    have aL : a ≠ X.env.locals := fun q => out (List.mem_filterMap.mpr ⟨X.env, List.mem_cons_self, by rw [hf, q]⟩)
    have aF : a ∉ X.fs := fun hm => by
      obtain ⟨e, he, q⟩ := List.mem_filterMap.mp hm
      exact out (List.mem_filterMap.mpr ⟨e, List.mem_cons_of_mem _ he, q⟩)
    have aB : X.base.get? a = none := by
      cases q : X.base.get? a with
      | none => rfl
      | some o =>
        have q1 := nb a o (J.bk a o q) (by rw [hs]; exact out)
        rw [fl3.2.1] at q1
        cases q1
    have J3 : Inv X pins σ1 H1 { z with heap := g3 } := J.landed nb fl3.1 (up.trans up3) os ag
    have S3 := J3.suite e3 d3 na aL aF
    have kT : PySem.W.Looks (model X.prog X.w) g3 (typeOf (.ref a)) cls := fun A Q E s k q => wpAny_typeOf_ref (k _ _ e3) (by rw [z3.1]; exact q)
    have all : ∀ {hs' : List ExceptHandler} {ls : List (Value × SuT)}, HdsAs X n hs' ls → wAsM X.K i Wo D ls cls d σ1 H1 → wpAny (model X.prog X.w) X.A (handleBy (.ref a) X.env hs') (SP X pins D) X.xe { z with heap := g3 } := by
      intro hs' ls hk
      induction hk with
      | nil =>
        intro wi
        refine wpAny_handleBy_nil ?_
        obtain ⟨_, _, _, oe, vs, T, oT, ts', he, hz, hd, h1, _⟩ := id fl3
        unfold PySem.passOn
        refine wpAny_bind (wpAny_field he hd h1 ?_)
        rw [if_neg (show ¬ ((Value.ref T == Value.none) = true) from by simp)]
        have off : wpAny (model X.prog X.w) X.A (setFlight (.ref a) X.env.frame) (fun _ y => wpAny (model X.prog X.w) X.A (throw (.ref a) : Sem Flow) (SP X pins D) X.xe y) X.xe { z with heap := g3 } := by
          rw [hf]
          exact HandSPX.setFlight_upZ fl3 fun g4 hh4 up4 => wpAny_throw (tk _ _ ⟨a, B, sI, pins, σ1, H1, cls, d, rfl, J, nb, (up.trans up3).trans up4, .inr (.inr (by rw [hs]; exact hh4)), na, os, ag, wi⟩)
        first
          | exact wpAny_bind off
          | exact wpAny_bind (wpAny_pure (wpAny_bind off))
      | @cons x c ts b₀ su np ps hd2 l2 hc hsu r ih =>
        intro wi
        obtain ⟨b, q1, yes, no⟩ := wi
        refine wpAny_handleBy_cons (codeAny_handlers_test ?_) (by intro q; cases q)
        have name : ∀ {Q : Value → Shared → Prop} {E : Value → Shared → Prop}, Q c { z with heap := g3 } → wpAny (model X.prog X.w) (X.A.mark (some (.ref a))) (eval (.Name x np) X.env) Q E { z with heap := g3 } := fun {Q E} q => by
          obtain ⟨g, db, m | ⟨m, v, nn⟩⟩ := hc
          · exact ld_glob (X := X.suite a ((a, o3) :: (X.pn ++ pins))) S3 g m q db
          · exact ld_blt (X := X.suite a ((a, o3) :: (X.pn ++ pins))) S3 g m v q nn db
        refine name ((PySem.W.exm_one (M := model X.prog X.w) (J3.kIn) kT q1).here ?_)
        cases b with
        | false =>
          show wpAny _ X.A (handleBy (.ref a) X.env hd2) _ _ _
          exact ih (no rfl)
        | true =>
          refine codeAny_handlers_suite_as (HandSPX.lands_againZ fl3 fun g4 fl4 up4 => ?_)
          obtain ⟨o4, v4, e4, z4, d4⟩ := fl4.there
          have J4 : Inv X pins σ1 H1 { z with heap := g4 } := J.landed nb fl4.1 ((up.trans up3).trans up4) os ag
          have S4 := J4.suite e4 d4 na aL aF
          refine store_ok (X := X.suite a ((a, o4) :: (X.pn ++ pins))) (v := .ref a) S4 hN hi (.inl hln) rfl (fun z5 S5 => ?_) (.inr hln)
          have rs := (hsu a o4 cls d (X.pn ++ pins) aB aF z4 ⟨_, d4⟩).run [] z5 _ H1 _ S5 (yes rfl a na)
          refine wpAny_mono rs (fun f z6 hsp => ?_) (fun _ _ q => q.elim)
          have fin : ∀ {σ6 : L2.St} {H6 : Hp} {Q : Shared → Prop}, Inv (X.suite a ((a, o4) :: (X.pn ++ pins))) [] σ6 H6 z6 → (∀ z7, Inv X pins (σ6.set i none) H6 z7 → Q z7) →
              wpAny (model X.prog X.w) X.A (do bindName X.env n .none; unbindBehindTheSuite X.env n ps) (fun _ z7 => Q z7) X.xe z6 := fun S6 hq => gone_ok (S6.unsuite ok) hN hi hln hq
          cases f with
          | ret u =>
            obtain ⟨y, σ6, H6, S6, r6, q6⟩ := hsp
            exact fin S6 fun _ J7 => ⟨y, _, _, J7, r6, q6⟩
          | next =>
            obtain ⟨σ6, H6, S6, q6⟩ := hsp
            exact fin S6 fun _ J7 => ⟨_, _, J7, q6⟩
          | brk =>
            obtain ⟨σ6, H6, S6, q6⟩ := hsp
            exact fin S6 fun _ J7 => ⟨_, _, J7, q6⟩
          | cont =>
            obtain ⟨σ6, H6, S6, q6⟩ := hsp
            exact fin S6 fun _ J7 => ⟨_, _, J7, q6⟩
    exact all hh wish
  refine wpAny_mono run (fun f z hsp => ?_) (fun _ _ he => he)
  cases f with
  | ret u =>
    obtain ⟨y, σ1, H1, J1, r, q⟩ := hsp
    exact ⟨y, σ1, H1, J1.ofTry ok, r, q⟩
  | next =>
    obtain ⟨σ1, H1, J1, q⟩ := hsp
    exact wpAny_execs_nil ⟨σ1, H1, J1.ofTry ok, q⟩
  | brk =>
    obtain ⟨σ1, H1, J1, q⟩ := hsp
    exact ⟨σ1, H1, J1.ofTry ok, q⟩
  | cont =>
    obtain ⟨σ1, H1, J1, q⟩ := hsp
    exact ⟨σ1, H1, J1.ofTry ok, q⟩
end
/-! ### a call in a suite, to which the exception is shown as it stands -/
/-- exactly the object o at a -/
def exo (a : Addr) (o : Obj) : HO := .ext fun h => h.get? a = some o
def del (H : Hp) (a : Addr) : Hp := fun b => if b = a then none else H b
theorem del_ne {H : Hp} {a b : Addr} (h : b ≠ a) : del H a b = H b := if_neg h
theorem del_same {H : Hp} {a : Addr} : del H a a = none := if_pos rfl
def tCallX (a : Addr) (oe : Obj) (sp : Sp) (t : TA) : TE := fun σ H Q => t σ H fun vs H1 => sp vs (upd H1 a (exo a oe)) (fun v H2 => H2 a = some (exo a oe) ∧ Q v (del H2 a)) fun _ _ _ => False
end Ey
set_option maxHeartbeats 4000000
namespace Ey
open PySem PySem.Spec PyProof.Rows L2
/-- an error as a value, however it is tracked -/
def Exv (H : Hp) (e C d : Addr) : Prop := ∃ φ : Heap → Prop, H e = some (.ext φ) ∧ ∀ h, φ h → ∃ (oe : Obj) (vs : Array Value), h.get? e = some oe ∧ oe.cls = .ref C ∧ oe.dict = some d ∧ oe.data = .fields vs
theorem Exv.of {H : Hp} {e C d : Addr} (h : H e = some (exv e C d)) : Exv H e C d := ⟨_, h, fun _ q => q⟩
theorem Exv.ofo {H : Hp} {e C d : Addr} {oe : Obj} (h : H e = some (exo e oe)) (z : Zc (.ref C) (some d) oe) (f : ∃ vs, oe.data = .fields vs) : Exv H e C d := ⟨_, h, fun _ q => let ⟨vs, f⟩ := f; ⟨oe, vs, q, z.1, z.2, f⟩⟩
theorem Exv.get {X : Cx} {pins : List (Addr × Obj)} {σ : L2.St} {H : Hp} {s : Shared} {e C d : Addr} (I : Inv X pins σ H s) (h : Exv H e C d) : ∃ (oe : Obj) (vs : Array Value), s.heap.get? e = some oe ∧ oe.cls = .ref C ∧ oe.dict = some d ∧ oe.data = .fields vs :=
  let ⟨_, h1, h2⟩ := h; h2 _ (I.hok e _ h1).1
theorem Exv.kp {ms : List Addr} {H H1 : Hp} {e C d : Addr} (h : Exv H e C d) (k : Kp ms H H1) (n : e ∉ ms) : Exv H1 e C d := let ⟨φ, h1, h2⟩ := h; ⟨φ, k.at_ _ _ h1 n, h2⟩
/-- isinstance(e, c), e an own error as a value -/
def rIsW (K : PySem.W.Frag) : List V → Hp → VK → Prop := fun xs H Q => ∃ (a D d : Addr) (fs : List (Str × V)) (c : V) (cv : Value) (b : Bool), xs = [.ref a, c] ∧ PySem.OwE.SaysC K D ∧ Exv H a D d ∧ H d = some (.xd fs) ∧ (∀ u, RelV c u → u = cv) ∧ PySem.W.kitOne K (.ref D) cv = some b ∧ Q (.bl b) H
theorem call_isW {X : Cx} : CallR X (.builtin "isinstance") (rIsW X.K) := by
  intro pins s σ H xs us Q I r h
  obtain ⟨a, D, d, fs, c, cv, b, rfl, S, ha, hdd, hcv, e, q⟩ := h
  cases r with
  | cons rx rr =>
    cases rr with
    | cons rt rr =>
      cases rr
      cases rx
      have ec := hcv _ rt
      subst ec
      obtain ⟨oe, vs, hget, hc, hd, hdat⟩ := Exv.get I ha
      have hx : ObjOk X.prog X.w H s.heap d (.xd fs) := I.hok d _ hdd
      obtain ⟨mA, hns, _⟩ := hx
      obtain ⟨od, ho, _⟩ := lookIn_ns hns
      have J : PySem.W.InstAt s.heap a oe D (some od) := ⟨hget, hc, by unfold PySem.W.notCls; rw [hdat] <;> rfl, by rw [hd]; exact ho⟩
      exact PySem.W.kia_one (PySem.OwE.kitx S) I.kIn J e (fun z => nomatch z) fun tk => ⟨.bl b, H, I.kept (t' := tk) fun _ _ z => z, rfl, q⟩
/-- isinstance(e, (c1, c2, ..)) -/
def rIsWT (K : PySem.W.Frag) : List V → Hp → VK → Prop := fun xs H Q => ∃ (a D d : Addr) (fs : List (Str × V)) (tp : Addr) (cs : List V) (us : List Value) (b : Bool), xs = [.ref a, .ref tp] ∧ PySem.OwE.SaysC K D ∧ Exv H a D d ∧ H d = some (.xd fs) ∧ H tp = some (.tup cs) ∧ Paired ClsV cs us ∧ PySem.W.kitAny K (.ref D) us = some b ∧ Q (.bl b) H
theorem call_isWT {X : Cx} : CallR X (.builtin "isinstance") (rIsWT X.K) := by
  intro pins s σ H xs us Q I r h
  obtain ⟨a, D, d, fs, tp, cs, vs', b, rfl, S, ha, hdd, ht, hp, e, q⟩ := h
  cases r with
  | cons rx rr =>
    cases rr with
    | cons rt rr =>
      cases rr
      cases rx
      cases rt
      obtain ⟨oe, vs, hget, hc, hd, hdat⟩ := Exv.get I ha
      obtain ⟨mA, hns, _⟩ := (show ObjOk X.prog X.w H s.heap d (.xd fs) from I.hok d _ hdd)
      obtain ⟨od, ho, _⟩ := lookIn_ns hns
      have J : PySem.W.InstAt s.heap a oe D (some od) := ⟨hget, hc, by unfold PySem.W.notCls; rw [hdat] <;> rfl, by rw [hd]; exact ho⟩
      obtain ⟨_, its, rv, ot, g1, g2, n, g3⟩ := (show ObjOk X.prog X.w H s.heap tp (.tup cs) from I.hok tp _ ht)
      cases ClsV.all hp rv
      obtain ⟨c0, d0, t0, s0⟩ := ot
      simp only at g2 g3
      subst g2 g3
      exact PySem.W.kia_tup (PySem.OwE.kitx S) I.kIn J g1 e (fun z => nomatch z) fun tk => ⟨.bl b, H, I.kept (t' := tk) fun _ _ z => z, rfl, q⟩
end Ey
set_option maxHeartbeats 4000000
namespace Ey
open PySem PySem.Spec PyProof.Rows L2
section
variable {X : Cx} {C fI : Addr}
/-- its field -/
def tGTh (C : Addr) (te : TE) : TE := fun σ H Q => te σ H fun x H1 => ∃ a d v, x = .ref a ∧ Exv H1 a C d ∧ H1 d = some (.xd [(("thing" : Str), v)]) ∧ Q v H1
theorem pe_gTh {e : Expr} {te : TE} {pos : Pos} {nm qn : Str} (T : PySem.ThX.ThTxt nm qn X.K X.mg C fI) (he : PE X e te) (hb : attributeBase e "thing" X.env (eval e X.env) = eval e X.env := by rfl) :
    PE X (.Attribute e "thing" pos) (tGTh C te) := by
  refine ⟨fun pins s σ H Q I h => ?_⟩
  refine attr_of hb (thn (he.run pins s σ H _ I h) fun u s1 hh => ?_)
  obtain ⟨x, H1, I1, rx, a, d, v, ex, ea, ed, q⟩ := hh
  subst ex
  obtain rfl : u = Value.ref a := rx
  obtain ⟨oe, vs, ha, hc, hdd, hd⟩ := Exv.get I1 ea
  have hx : ObjOk X.prog X.w H1 s1.heap d (.xd [(("thing" : Str), v)]) := I1.hok d _ ed
  obtain ⟨mA, hns, hr⟩ := hx
  obtain ⟨od, ho, hl⟩ := lookIn_ns hns
  have l : List.lookup ("thing" : Str) [(("thing" : Str), v)] = some v := by simp [List.lookup]
  obtain ⟨u, hu, ru⟩ := RelO.some_of (v := v) (o := mA "thing") (by rw [← l]; exact hr "thing")
  have J : PySem.W.InstAt s1.heap a oe C (some od) := ⟨ha, hc, by unfold PySem.W.notCls; rw [hd] <;> rfl, by rw [hdd]; exact ho⟩
  exact HandSPX.exc_get I1.kIn J T.ga T.gg T.exC (PySem.W.findObj_own T.hdC T.noN rfl (by rw [hl, hu])) (handed_of ru) ⟨v, H1, I1.tok _, ru, q⟩
end
end Ey
set_option maxHeartbeats 4000000
namespace PySem
namespace AtX
open PySem.W PySem.Calls PyProof.Rows PySem.HandSPX
/-! ### the text of __init__ -/
def iA (p1 p2 : Pos) : Arguments := { posonlyargs := [], args := [{ arg := "self", annotation := none, pos := p1 }, { arg := "at", annotation := none, pos := p2 }], vararg := none, kwonlyargs := [], kw_defaults := [], kwarg := none, defaults := [] }
def iB (q1 q2 q3 q4 : Pos) : List Stmt := [.Assign [.Attribute (.Name "self" q1) "at" q2] (.Name "at" q3) q4]
def iS : Scope := { kind := .function, names := [(PySem.Str.ofString "self", .local), (PySem.Str.ofString "at", .local)], isGenerator := false, isCoroutine := false, more := [] }
/-- what the written part says of Low, at C, and of its __init__, at fI -/
structure AtTxt (nm qn : Str) (K : Frag) (mg : Str → Option Value) (C fI : Addr) : Prop where
  gC : mg nm = some (.ref C)
  cls : ∃ nm q N bs bm sn sub ab col dd k0 k1 k2 k3 k5, K.lookup C = some (excClassObj nm q C N bs bm true sn sub ab col dd k0 k1 k2 k3 k5 "Exception.__new__") ∧ OwE.refsEx bm = true
  sa : findIn K (.ref C) "__setattr__" = some (some (.builtin "object.__setattr__"))
  ga : findIn K (.ref C) "__getattribute__" = some (some (.builtin "BaseException.__getattribute__"))
  gg : findIn K (.ref C) "__getattr__" = some none
  noN : findIn K (.ref C) "at" = some none
  iC : findIn K (.ref C) "__init__" = some (some (.ref fI))
  tC : typeIn K (.ref fI) = some (.type "function")
  kC : keepIn K (.ref C) = true
  exC : subIn K (.ref C) (.type "BaseException") = some true
  tyC : typeIn K (.ref C) = some (.type "type")
  hdC : hasDictIn K C = true
  te : exmOne K (.ref C) (.ref C) = some true
  fn : ∃ (oc : Value) (od : Option Addr) (doc pm : Value) (an : Option Addr) (cdv ct : Value) (osl : Array (Option Value)) (p1 p2 q1 q2 q3 q4 : Pos),
    K.lookup fI = some ⟨oc, od, .func (fnOf "__init__" qn (iA p1 p2) (iB q1 q2 q3 q4) iS .none .none doc pm an cdv ct), osl⟩ ∧ codeIn K cdv qn = true
theorem one_size (v : Value) : [v].length ≤ sizeLine := by
  rw [sizeLine_eq]
  exact (by decide : 1 ≤ 16777216)
theorem kept_but {K : Frag} {h h' : Heap} {x : Addr} (X : K.In h) (hx : K.lookup x = none) (k : ∀ b o, b ≠ x → h.get? b = some o → h'.get? b = some o) : K.In h' := fun a o e =>
  k a o (fun z => by rw [z, hx] at e; cases e) (X a o e)
theorem ldC {M : Model} {s : Shared} {name : Str} {scope : Scope} {L a : Addr} {cd : Value} {m : Str → Option Value} {x : Str} {pos : Pos} {v : Value} {Q : Value → Shared → Prop} {A : Around} {E : Value → Shared → Prop} (hn : s.heap.Ns L m) (hv : m x = some v) (h : Q v s)
    (hk : scope.kind = .function := by rfl) (hl : (envOfC name scope L a cd).kindOf x = some .local := by rfl) (hd : (x == ("__debug__" : Str)) = false := by decide) :
    wpAny M A (eval (.Name x pos) (envOfC name scope L a cd)) Q E s := wpAny_Name (wpAny_loadName_local hk hl hn hv h) hd
/-- what __init__ leaves of a fresh exception at x -/
structure InitEnd (h h' : Heap) (x C dx t1 : Addr) (v : Value) : Prop where
  keep : ∀ b o, b ≠ x → h.get? b = some o → h'.get? b = some o
  obj : h'.get? x = some { cls := .ref C, dict := some dx, data := .fields #[.ref t1, .none, .none, .none, .bool false, .none] }
  dbig : h.objs.size ≤ dx
  dne : dx ≠ x
  ns : h'.Ns1 dx (fun y => if y = "at" then some v else none)
/-- a made Low -/
structure OwnMade (h h' : Heap) (e C d : Addr) (v : Value) : Prop where
  keep : ∀ b o, h.get? b = some o → h'.get? b = some o
  new : h.objs.size ≤ e
  obj : ∃ oe vs, h'.get? e = some oe ∧ oe.cls = .ref C ∧ oe.dict = some d ∧ oe.data = .fields vs ∧ vs[1]? = some .none
  dbig : h.objs.size ≤ d
  dne : d ≠ e
  ns : h'.Ns1 d (fun y => if y = "at" then some v else none)
section
variable {prog : Program} {w : World} {A : Around} {E : Value → Shared → Prop} {R : Result → Shared → Prop} {s : Shared} {K : Frag} {mg : Str → Option Value} {C fI : Addr}
theorem low_init {nm qn : Str} (T : AtTxt nm qn K mg C fI) {x t0 : Addr} {v : Value} (X : K.In s.heap) (hlim : s.heap.NoLimit) (hx : s.heap.get? x = some (excO C t0)) (hnx : K.lookup x = none) (hroom : A.depth < recursionLimit)
    (hq : ∀ h' tk dx, InitEnd s.heap h' x C dx t0 v → R (.ok (.ret .none)) { s with heap := h', toks := tk }) :
    codeAny (model prog w) A (.call (.ref fI) ⟨[.ref x, v], []⟩) R s := by
  obtain ⟨oc, od, doc, pm, an, cdv, ct, osl, p1, p2, q1, q2, q3, q4, ho, hcd⟩ := T.fn
  obtain ⟨nm, q, N, bs, bm, sn, sub, ab, col, dd, k0, k1, k2, k3, k5, hC, hbm⟩ := T.cls
  have hcl : clsIn K C = some { name := nm, bases := bs, mro := .ref C :: bm, ns := N, qualname := q, hasDict := true, slotNames := sn, subclasses := sub, abstract := ab, collection := col, hasDel := false } := by unfold clsIn; rw [hC] <;> rfl
  refine Att.call_fn (binds := [("self", .ref x), ("at", v)]) X hlim ho hcd hroom (BindsTo.of_eq (by first | rfl | with_unfolding_all rfl)) (by first | rfl | decide | with_unfolding_all rfl) (fun s₁ IC => ?_) rfl rfl rfl
  obtain ⟨h₁, tk₁, rfl⟩ := IC.toInCall.same
  have k : ∀ b o, s.heap.get? b = some o → h₁.get? b = some o := IC.toInCall.keep
  have hn := IC.toInCall.ns
  have hxL : s.heap.objs.size ≠ x := Nat.ne_of_gt (Heap.lt_size hx)
  have X₁ : K.In h₁ := X.keeps k
  have hx₁ := k _ _ hx
  -- self.by = by
  show wpAny _ _ (execs _ _) _ _ _
  refine wpAny_execs_cons (plainObj_wpAny_Assign_Attribute ?_)
  refine ldC (v := v) hn (by first | rfl | with_unfolding_all rfl | kernel_rfl) (ldC (v := .ref x) hn (by first | rfl | with_unfolding_all rfl | kernel_rfl) ?_)
  refine set_plain X₁ (ox := excO C t0) (od := none) ⟨hx₁, rfl, rfl, trivial⟩ T.sa ?_
  refine OwE.osa_first X₁ hx₁ hcl (show OwE.refsEx (.ref C :: bm) = true from hbm) rfl T.noN (fun h₃ tk₃ dx k₃ dn dne hx₃ hn₃ => ?_)
  show wpAny _ _ (execs _ _) _ _ _
  have z : s.heap.objs.size < h₁.objs.size := hn.lt
  exact wpAny_execs_nil (hq h₃ tk₃ dx ⟨fun b o hb e => k₃ b o hb (k b o e), hx₃, Nat.le_of_lt (Nat.lt_of_lt_of_le z dn), dne, hn₃⟩)
theorem low_made {nm qn : Str} (T : AtTxt nm qn K mg C fI) {v : Value} (X : K.In s.heap) (hlim : s.heap.NoLimit) (hroom : A.depth + 1 < recursionLimit)
    (hq : ∀ h' tk e d, OwnMade s.heap h' e C d v → R (.ok (.ret (.ref e))) { s with heap := h', toks := tk }) :
    codeAny (model prog w) A (.call (.ref C) ⟨[v], []⟩) R s := by
  obtain ⟨nm, q, N, bs, bm, sn, sub, ab, col, dd, k0, k1, k2, k3, k5, hC, hbm⟩ := T.cls
  obtain ⟨hp, g, dr, tk, os⟩ := s
  have k : ∀ b o, hp.get? b = some o → ((hp.push (kdv_tup [v])).push (excO C hp.objs.size)).get? b = some o := fun b o e => Heap.get?_push_of_some _ (Heap.get?_push_of_some _ e)
  have hget : ((hp.push (kdv_tup [v])).push (excO C hp.objs.size)).get? (hp.objs.size + 1) = some (excO C hp.objs.size) := by heap_get
  have hnx : K.lookup (hp.objs.size + 1) = none := by
    cases e : K.lookup (hp.objs.size + 1) with
    | none => rfl
    | some o =>
      have z : hp.get? (hp.objs.size + 1) = some o := X _ _ e
      exact absurd (Nat.lt_of_succ_lt (Heap.lt_size z)) (Nat.lt_irrefl _)
  refine call_own F.excBase_Exception (fun X => OwE.refsEx_has X bm hbm) (X _ _ hC) (looks_findIn X T.iC) (fun self => bind_fn X self T.tC) (one_size v) ?_
  refine low_init (s := ⟨(hp.push (kdv_tup [v])).push (excO C hp.objs.size), g, dr, tk, os⟩) T (X.keeps k) (hlim.keeps k) hget hnx ?_ fun h' tk' dx ⟨k', hx, dn, dne, hns⟩ => ?_
  · show A.depth + 1 < recursionLimit
    exact hroom
  · have old : ∀ b o, hp.get? b = some o → h'.get? b = some o := fun b o e => k' b o (Nat.ne_of_lt (Nat.lt_succ_of_lt (Heap.lt_size e))) (k b o e)
    have z : hp.objs.size + 1 + 1 ≤ dx := by
      first
        | (simpa only [Heap.size_push] using dn)
        | exact dn
        | (have q := dn; rw [Heap.size_push, Heap.size_push] at q; exact q)
    exact ⟨rfl, hq h' tk' (hp.objs.size + 1) dx ⟨old, Nat.le_succ _, ⟨_, _, hx, rfl, rfl, rfl, rfl⟩, Nat.le_trans (Nat.le_trans (Nat.le_succ _) (Nat.le_succ _)) z, dne, hns⟩⟩
end
end AtX
end PySem
namespace L2
open PySem PySem.Spec PyProof.Rows
theorem relO_At {v : V} {v' : Value} (r : RelV v v') (f : Str) : RelO (List.lookup f [(("at" : Str), v)]) (if f = "at" then some v' else none) := by
  by_cases hw : f = "at"
  · subst hw
    rw [if_pos rfl]
    have q : List.lookup ("at" : Str) [(("at" : Str), v)] = some v := by simp [List.lookup]
    rw [q]
    exact r
  · rw [if_neg hw]
    have qw : (f == ("at" : Str)) = false := by simpa using hw
    have q2 : List.lookup f [(("at" : Str), v)] = none := by simp [List.lookup, qw]
    rw [q2]
    trivial
section
variable {X : Cx} {C fI : Addr}
/-- Low(e) -/
def tMkAt (C : Addr) (ta : TA) : St → Hp → XK → Prop := fun σ H Q => ta σ H fun vs H1 => ∃ v, vs = [v] ∧ ∀ d, H1 d = none → Q (.ref C) (some d) (upd H1 d (.xd [(("at" : Str), v)]))
theorem pmk_At {a : Expr} {ta : TA} {p pos : Pos} {k : Nat} {nm qn : Str} (T : PySem.AtX.AtTxt nm qn X.K X.mg C fI) (hr : Room k X.A) (ha : PA X [a] ta) (hg : Gl X nm := by rfl) (hdb : (nm == ("__debug__" : Str)) = false := by decide)
    (he : starEach (a :: []) X.env = (false, eval a X.env) :: starEach [] X.env := by rfl) (hpl : (backTo pos (starEach [] X.env)).any (·.1) = false := by rfl) :
    PMk X (.Call (.Name nm p) [a] [] pos) (tMkAt C ta) := by
  intro pins s σ H Q I h
  refine wpAny_Call_Name_kw (ld_glob I hg T.gC ?_ hdb)
  refine PySem.W.callWith_K (h₀ := X.base) I.ok.mod.kin T.kC (thn (ha.run pos pins s σ H _ I h) fun us s1 hh => ?_) he hpl
  obtain ⟨vs, H1, I1, r1, v, ev, q1⟩ := hh
  subst ev
  refine ⟨I1.kIn, ?_⟩
  cases r1 with
  | cons rv rn =>
    rename_i v' us'
    cases rn
    show wpAny _ _ (call (.ref C) [v']) _ _ _
    have hlim := I1.nolimit
    obtain ⟨hp, g, dr, tk, os⟩ := s1
    refine wpAny_call (PySem.AtX.low_made T I1.kIn hlim (by have := hr.dp; omega) fun h' tk' e d M => ?_)
    show MkP X pins σ Q (.ref e) ⟨h', g, dr, tk', os⟩
    obtain ⟨oe, fv, hoe, hc, hd, hdat, h1⟩ := M.obj
    have hns := M.ns
    obtain ⟨G', g1, g2⟩ := restrict h' fun b => decide (b ≠ e)
    have gk : ∀ b, b ≠ e → G'.get? b = h'.get? b := fun b hb => g1 b (decide_eq_true hb)
    have ge : G'.get? e = none := g2 e (by simp)
    have old : ∀ b o, hp.get? b = some o → G'.get? b = some o := fun b o q => (gk b (Nat.ne_of_lt (Nat.lt_of_lt_of_le (Heap.lt_size q) M.new))).trans (M.keep b o q)
    have ob : ObjOk X.prog X.w (upd H1 d (.xd [(("at" : Str), v)])) G' d (.xd [(("at" : Str), v)]) :=
      ⟨_, hns.at (fun o q => (gk d M.dne).trans q), fun f => relO_At rv f⟩
    have J : Inv X pins σ (upd H1 d (.xd [(("at" : Str), v)])) ⟨G', g, dr, tk', os⟩ := I1.laid (t' := tk') old M.dbig ob
    refine ⟨e, oe, fv, ⟨G', g, dr, tk', os⟩, _, .ref C, some d, rfl, J, fun b o q => ?_, ge, hoe, ⟨hc, hd⟩, hdat, h1, ?_, rfl, I1.bare, raises_own T.exC T.tyC, q1 d (I1.hok.fresh M.dbig)⟩
    · by_cases hb : b = e
      · have q' : G'.get? b = some o := q
        rw [hb, ge] at q'; cases q'
      · exact (gk b hb).symm.trans q
    · rw [upd_ne (Ne.symm M.dne)]
      exact I1.hok.fresh M.new
/-- raise Low(e) -/
def tRaiseAt (C : Addr) (W : WX) (ta : TA) : TS := fun _ σ H => tMkAt C ta σ H fun cls d H' => W cls d σ H'
theorem ps_raiseAt {a : Expr} {ta : TA} {W : WX} {p pos pos2 : Pos} {k : Nat} (hc : X.calm = true) {nm qn : Str} (T : PySem.AtX.AtTxt nm qn X.K X.mg C fI) (hr : Room k X.A) (tk : Takes X W) (ha : PA X [a] ta) (hg : Gl X nm := by rfl) (hdb : (nm == ("__debug__" : Str)) = false := by decide)
    (he : starEach (a :: []) X.env = (false, eval a X.env) :: starEach [] X.env := by rfl) (hpl : (backTo pos (starEach [] X.env)).any (·.1) = false := by rfl) :
    PS X (.Raise (some (.Call (.Name nm p) [a] [] pos)) none pos2) (tRaiseAt C W ta) := ps_raise hc tk (pmk_At T hr ha hg hdb he hpl)
/-- low.by, low the exception that the suite holds (at a; its class cls, its dict d) -/
def tByAt (C : Addr) (a : Addr) (cls : Value) (d : Option Addr) (te : TE) : TE := fun σ H Q => te σ H fun x H1 => x = .ref a ∧ cls = .ref C ∧ ∃ (dd : Addr) (v : V), d = some dd ∧ H1 dd = some (.xd [(("at" : Str), v)]) ∧ Q v H1
theorem pe_byAt {a : Addr} {oe : Obj} {cls : Value} {d : Option Addr} {pn : List (Addr × Obj)} {e : Expr} {te : TE} {pos : Pos} {nm qn : Str} (T : PySem.AtX.AtTxt nm qn X.K X.mg C fI) (hz : Zc cls d oe) (hf : ∃ vs, oe.data = .fields vs) (he : PE (X.suite a ((a, oe) :: pn)) e te)
    (hb : attributeBase e "at" X.env (eval e X.env) = eval e X.env := by rfl) :
    PE (X.suite a ((a, oe) :: pn)) (.Attribute e "at" pos) (tByAt C a cls d te) := by
  refine ⟨fun pins s σ H Q I h => ?_⟩
  refine attr_of hb (thn (he.run pins s σ H _ I h) fun u s1 hh => ?_)
  obtain ⟨x, H1, I1, rx, ex, ec, dd, v, ed, ea, q⟩ := hh
  subst ex
  obtain rfl : u = Value.ref a := rx
  subst ec
  subst ed
  obtain ⟨ha, _⟩ := I1.pin (a, oe) (List.mem_append_left _ List.mem_cons_self)
  obtain ⟨vs, hd⟩ := hf
  have hx : ObjOk X.prog X.w H1 s1.heap dd (.xd [(("at" : Str), v)]) := I1.hok dd _ ea
  obtain ⟨mA, hns, hr⟩ := hx
  obtain ⟨od, ho, hl⟩ := lookIn_ns hns
  have l : List.lookup ("at" : Str) [(("at" : Str), v)] = some v := by simp [List.lookup]
  obtain ⟨u, hu, ru⟩ := RelO.some_of (v := v) (o := mA "at") (by rw [← l]; exact hr "at")
  have J : PySem.W.InstAt s1.heap a oe C (some od) := ⟨ha, hz.1, by unfold PySem.W.notCls; rw [hd] <;> rfl, by rw [hz.2]; exact ho⟩
  exact HandSPX.exc_get I1.kIn J T.ga T.gg T.exC (PySem.W.findObj_own T.hdC T.noN rfl (by rw [hl, hu])) (handed_of ru) ⟨v, H1, I1.tok _, ru, q⟩
end
end L2


namespace Ey
open PySem PySem.Spec PyProof.Rows L2
section
variable {X : Cx} {C fI : Addr}
/-- At(e), a value -/
def tVAt (C : Addr) (ta : TA) : TE := fun σ H Q => ta σ H fun vs H1 => ∃ v, vs = [v] ∧ ∀ e d, H1 e = none → H1 d = none → e ≠ d → Q (.ref e) (upd (upd H1 e (exv e C d)) d (.xd [(("at" : Str), v)]))
theorem pe_vAt {a : Expr} {ta : TA} {p pos : Pos} {k : Nat} {nm qn : Str} (T : PySem.AtX.AtTxt nm qn X.K X.mg C fI) (hr : Room k X.A) (ha : PA X [a] ta) (hg : Gl X nm := by rfl) (hdb : (nm == ("__debug__" : Str)) = false := by decide)
    (he : starEach (a :: []) X.env = (false, eval a X.env) :: starEach [] X.env := by rfl) (hpl : (backTo pos (starEach [] X.env)).any (·.1) = false := by rfl) :
    PE X (.Call (.Name nm p) [a] [] pos) (tVAt C ta) := by
  refine ⟨fun pins s σ H Q I h => ?_⟩
  refine wpAny_Call_Name_kw (ld_glob I hg T.gC ?_ hdb)
  refine PySem.W.callWith_K (h₀ := X.base) I.ok.mod.kin T.kC (thn (ha.run pos pins s σ H _ I h) fun us s1 hh => ?_) he hpl
  obtain ⟨vs, H1, I1, r1, v, ev, q1⟩ := hh
  subst ev
  refine ⟨I1.kIn, ?_⟩
  cases r1 with
  | cons rv rn =>
    rename_i v' us'
    cases rn
    show wpAny _ _ (call (.ref C) [v']) _ _ _
    have hlim := I1.nolimit
    obtain ⟨hp, g, dr, tk, os⟩ := s1
    refine wpAny_call (PySem.AtX.low_made T I1.kIn hlim (by have := hr.dp; omega) fun h' tk' e d M => ?_)
    obtain ⟨oe, fv, hoe, hc, hd, hdat, h1⟩ := M.obj
    have ob : ObjOk X.prog X.w (upd (upd H1 e (exv e C d)) d (.xd [(("at" : Str), v)])) h' d (.xd [(("at" : Str), v)]) := ⟨_, M.ns, fun f => relO_At rv f⟩
    have J : Inv X pins σ (upd (upd H1 e (exv e C d)) d (.xd [(("at" : Str), v)])) ⟨h', g, dr, tk', os⟩ := inv_laid2 I1 M.keep M.new M.dbig (Ne.symm M.dne) (exv_ok hoe hc hd hdat) ob
    exact ⟨.ref e, _, J, rfl, q1 e d (I1.hok.fresh M.new) (I1.hok.fresh M.dbig) (Ne.symm M.dne)⟩
/-- its field -/
def tFAt (C : Addr) (te : TE) : TE := fun σ H Q => te σ H fun x H1 => ∃ a d v, x = .ref a ∧ H1 a = some (exv a C d) ∧ H1 d = some (.xd [(("at" : Str), v)]) ∧ Q v H1
theorem pe_fAt {e : Expr} {te : TE} {pos : Pos} {nm qn : Str} (T : PySem.AtX.AtTxt nm qn X.K X.mg C fI) (he : PE X e te) (hb : attributeBase e "at" X.env (eval e X.env) = eval e X.env := by rfl) :
    PE X (.Attribute e "at" pos) (tFAt C te) := by
  refine ⟨fun pins s σ H Q I h => ?_⟩
  refine attr_of hb (thn (he.run pins s σ H _ I h) fun u s1 hh => ?_)
  obtain ⟨x, H1, I1, rx, a, d, v, ex, ea, ed, q⟩ := hh
  subst ex
  obtain rfl : u = Value.ref a := rx
  obtain ⟨oe, vs, ha, hc, hdd, hd⟩ := exv_get I1 ea
  have hx : ObjOk X.prog X.w H1 s1.heap d (.xd [(("at" : Str), v)]) := I1.hok d _ ed
  obtain ⟨mA, hns, hr⟩ := hx
  obtain ⟨od, ho, hl⟩ := lookIn_ns hns
  have l : List.lookup ("at" : Str) [(("at" : Str), v)] = some v := by simp [List.lookup]
  obtain ⟨u, hu, ru⟩ := RelO.some_of (v := v) (o := mA "at") (by rw [← l]; exact hr "at")
  have J : PySem.W.InstAt s1.heap a oe C (some od) := ⟨ha, hc, by unfold PySem.W.notCls; rw [hd] <;> rfl, by rw [hdd]; exact ho⟩
  exact HandSPX.exc_get I1.kIn J T.ga T.gg T.exC (PySem.W.findObj_own T.hdC T.noN rfl (by rw [hl, hu])) (handed_of ru) ⟨v, H1, I1.tok _, ru, q⟩
end
end Ey

namespace PySem
namespace AtX
open PySem.W PySem.Calls PyProof.Rows PySem.HandSPX
section
variable {prog : Program} {w : World} {A : Around} {E : Value → Shared → Prop} {R : Result → Shared → Prop} {s : Shared} {K : Frag} {mg : Str → Option Value} {C fI : Addr}
theorem low_initK {nm qn : Str} (T : AtTxt nm qn K mg C fI) {x t0 : Addr} {v : Value} (X : K.In s.heap) (hlim : s.heap.NoLimit) (hx : s.heap.get? x = some (excO C t0)) (hnx : K.lookup x = none) (hroom : A.depth < recursionLimit)
    (hq : ∀ h' tk dx, InitEnd s.heap h' x C dx t0 v → R (.ok (.ret .none)) { s with heap := h', toks := tk }) :
    codeAny (model prog w) A (.call (.ref fI) ⟨[.ref x], [("at", v)]⟩) R s := by
  obtain ⟨oc, od, doc, pm, an, cdv, ct, osl, p1, p2, q1, q2, q3, q4, ho, hcd⟩ := T.fn
  obtain ⟨nm, q, N, bs, bm, sn, sub, ab, col, dd, k0, k1, k2, k3, k5, hC, hbm⟩ := T.cls
  have hcl : clsIn K C = some { name := nm, bases := bs, mro := .ref C :: bm, ns := N, qualname := q, hasDict := true, slotNames := sn, subclasses := sub, abstract := ab, collection := col, hasDel := false } := by unfold clsIn; rw [hC] <;> rfl
  refine Att.call_fn (binds := [("self", .ref x), ("at", v)]) X hlim ho hcd hroom (BindsTo.of_eq (by first | rfl | with_unfolding_all rfl)) (by first | rfl | decide | with_unfolding_all rfl) (fun s₁ IC => ?_) rfl rfl rfl
  obtain ⟨h₁, tk₁, rfl⟩ := IC.toInCall.same
  have k : ∀ b o, s.heap.get? b = some o → h₁.get? b = some o := IC.toInCall.keep
  have hn := IC.toInCall.ns
  have hxL : s.heap.objs.size ≠ x := Nat.ne_of_gt (Heap.lt_size hx)
  have X₁ : K.In h₁ := X.keeps k
  have hx₁ := k _ _ hx
  -- self.by = by
  show wpAny _ _ (execs _ _) _ _ _
  refine wpAny_execs_cons (plainObj_wpAny_Assign_Attribute ?_)
  refine ldC (v := v) hn (by first | rfl | with_unfolding_all rfl | kernel_rfl) (ldC (v := .ref x) hn (by first | rfl | with_unfolding_all rfl | kernel_rfl) ?_)
  refine set_plain X₁ (ox := excO C t0) (od := none) ⟨hx₁, rfl, rfl, trivial⟩ T.sa ?_
  refine OwE.osa_first X₁ hx₁ hcl (show OwE.refsEx (.ref C :: bm) = true from hbm) rfl T.noN (fun h₃ tk₃ dx k₃ dn dne hx₃ hn₃ => ?_)
  show wpAny _ _ (execs _ _) _ _ _
  have z : s.heap.objs.size < h₁.objs.size := hn.lt
  exact wpAny_execs_nil (hq h₃ tk₃ dx ⟨fun b o hb e => k₃ b o hb (k b o e), hx₃, Nat.le_of_lt (Nat.lt_of_lt_of_le z dn), dne, hn₃⟩)
theorem low_madeK {nm qn : Str} (T : AtTxt nm qn K mg C fI) {v : Value} (X : K.In s.heap) (hlim : s.heap.NoLimit) (hroom : A.depth + 1 < recursionLimit)
    (hq : ∀ h' tk e d, OwnMade s.heap h' e C d v → R (.ok (.ret (.ref e))) { s with heap := h', toks := tk }) :
    codeAny (model prog w) A (.call (.ref C) ⟨[], [("at", v)]⟩) R s := by
  obtain ⟨nm, q, N, bs, bm, sn, sub, ab, col, dd, k0, k1, k2, k3, k5, hC, hbm⟩ := T.cls
  obtain ⟨hp, g, dr, tk, os⟩ := s
  have k : ∀ b o, hp.get? b = some o → ((hp.push (kdv_tup [])).push (excO C hp.objs.size)).get? b = some o := fun b o e => Heap.get?_push_of_some _ (Heap.get?_push_of_some _ e)
  have hget : ((hp.push (kdv_tup [])).push (excO C hp.objs.size)).get? (hp.objs.size + 1) = some (excO C hp.objs.size) := by heap_get
  have hnx : K.lookup (hp.objs.size + 1) = none := by
    cases e : K.lookup (hp.objs.size + 1) with
    | none => rfl
    | some o =>
      have z : hp.get? (hp.objs.size + 1) = some o := X _ _ e
      exact absurd (Nat.lt_of_succ_lt (Heap.lt_size z)) (Nat.lt_irrefl _)
  refine OwE.kw_call hbm (X _ _ hC) (looks_findIn X T.iC) (fun self => bind_fn X self T.tC) ?_
  refine low_initK (s := ⟨(hp.push (kdv_tup [])).push (excO C hp.objs.size), g, dr, tk, os⟩) T (X.keeps k) (hlim.keeps k) hget hnx ?_ fun h' tk' dx ⟨k', hx, dn, dne, hns⟩ => ?_
  · show A.depth + 1 < recursionLimit
    exact hroom
  · have old : ∀ b o, hp.get? b = some o → h'.get? b = some o := fun b o e => k' b o (Nat.ne_of_lt (Nat.lt_succ_of_lt (Heap.lt_size e))) (k b o e)
    have z : hp.objs.size + 1 + 1 ≤ dx := by
      first
        | (simpa only [Heap.size_push] using dn)
        | exact dn
        | (have q := dn; rw [Heap.size_push, Heap.size_push] at q; exact q)
    exact ⟨rfl, hq h' tk' (hp.objs.size + 1) dx ⟨old, Nat.le_succ _, ⟨_, _, hx, rfl, rfl, rfl, rfl⟩, Nat.le_trans (Nat.le_trans (Nat.le_succ _) (Nat.le_succ _)) z, dne, hns⟩⟩
end
end AtX
end PySem
namespace Ey
open PySem PySem.Spec PyProof.Rows L2
section
variable {X : Cx} {C fI : Addr}
/-- At(at=e), a value -/
def tVkAt (C : Addr) (tk : TA) : TE := fun σ H Q => tk σ H fun vs H1 => ∃ v, vs = [v] ∧ ∀ e d, H1 e = none → H1 d = none → e ≠ d → Q (.ref e) (upd (upd H1 e (exv e C d)) d (.xd [(("at" : Str), v)]))
theorem pe_vkAt {kws : List Keyword} {tk_ : TA} {p pos : Pos} {k : Nat} {nm qn : Str} (T : PySem.AtX.AtTxt nm qn X.K X.mg C fI) (hr : Room k X.A) (hkw : PK X kws tk_) (hg : Gl X nm := by rfl) (hdb : (nm == ("__debug__" : Str)) = false := by decide)
    (hall : (backToKw pos (keywordEach kws X.env)).all (·.1.isSome) = true := by rfl) (hks : (backToKw pos (keywordEach kws X.env)).filterMap (·.1) = [("at" : Str)] := by rfl)
    (hpl : ((backTo pos (starEach [] X.env)).any (·.1) || (backToKw pos (keywordEach kws X.env)).any (·.1.isNone)) = false := by rfl) :
    PE X (.Call (.Name nm p) [] kws pos) (tVkAt C tk_) := by
  refine ⟨fun pins s σ H Q I h => ?_⟩
  refine wpAny_Call_Name_kw (ld_glob I hg T.gC ?_ hdb)
  refine PySem.W.callWith_KW0 (h₀ := X.base) I.ok.mod.kin T.kC hall ?_ hpl
  refine thn (hkw.run pos pins s σ H _ I h) fun ws s1 hh => ?_
  obtain ⟨zs, H1, I1, rz, v, ev, q1⟩ := hh
  subst ev
  refine ⟨I1.kIn, ?_⟩
  rw [hks]
  cases rz with
  | cons rv rn =>
    rename_i v' us'
    cases rn
    show wpAny _ _ (call (.ref C) [] [(("at" : Str), v')]) _ _ _
    have hlim := I1.nolimit
    obtain ⟨hp, g, dr, tk, os⟩ := s1
    refine wpAny_call (PySem.AtX.low_madeK T I1.kIn hlim (by have := hr.dp; omega) fun h' tk' e d M => ?_)
    obtain ⟨oe, fv, hoe, hc, hd, hdat, h1⟩ := M.obj
    have ob : ObjOk X.prog X.w (upd (upd H1 e (exv e C d)) d (.xd [(("at" : Str), v)])) h' d (.xd [(("at" : Str), v)]) := ⟨_, M.ns, fun f => relO_At rv f⟩
    have J : Inv X pins σ (upd (upd H1 e (exv e C d)) d (.xd [(("at" : Str), v)])) ⟨h', g, dr, tk', os⟩ := inv_laid2 I1 M.keep M.new M.dbig (Ne.symm M.dne) (exv_ok hoe hc hd hdat) ob
    exact ⟨.ref e, _, J, rfl, q1 e d (I1.hok.fresh M.new) (I1.hok.fresh M.dbig) (Ne.symm M.dne)⟩
end
end Ey

namespace Ey
open PySem PySem.Spec PyProof.Rows L2
section
variable {X : Cx} {C fI : Addr}
/-- At(at=e), to be raised -/
def tMkkAt (C : Addr) (tk_ : TA) : L2.St → Hp → XK → Prop := fun σ H Q => tk_ σ H fun vs H1 => ∃ v, vs = [v] ∧ ∀ d, H1 d = none → Q (.ref C) (some d) (upd H1 d (.xd [(("at" : Str), v)]))
theorem pmk_kAt {kws : List Keyword} {tk_ : TA} {p pos : Pos} {k : Nat} {nm qn : Str} (T : PySem.AtX.AtTxt nm qn X.K X.mg C fI) (hr : Room k X.A) (hkw : PK X kws tk_) (hg : Gl X nm := by rfl) (hdb : (nm == ("__debug__" : Str)) = false := by decide)
    (hall : (backToKw pos (keywordEach kws X.env)).all (·.1.isSome) = true := by rfl) (hks : (backToKw pos (keywordEach kws X.env)).filterMap (·.1) = [("at" : Str)] := by rfl)
    (hpl : ((backTo pos (starEach [] X.env)).any (·.1) || (backToKw pos (keywordEach kws X.env)).any (·.1.isNone)) = false := by rfl) :
    PMk X (.Call (.Name nm p) [] kws pos) (tMkkAt C tk_) := by
  intro pins s σ H Q I h
  refine wpAny_Call_Name_kw (ld_glob I hg T.gC ?_ hdb)
  refine PySem.W.callWith_KW0 (h₀ := X.base) I.ok.mod.kin T.kC hall ?_ hpl
  refine thn (hkw.run pos pins s σ H _ I h) fun ws s1 hh => ?_
  obtain ⟨zs, H1, I1, rz, v, ev, q1⟩ := hh
  subst ev
  refine ⟨I1.kIn, ?_⟩
  rw [hks]
  cases rz with
  | cons rv rn =>
    rename_i v' us'
    cases rn
    show wpAny _ _ (call (.ref C) [] [(("at" : Str), v')]) _ _ _
    have hlim := I1.nolimit
    obtain ⟨hp, g, dr, tk, os⟩ := s1
    refine wpAny_call (PySem.AtX.low_madeK T I1.kIn hlim (by have := hr.dp; omega) fun h' tk' e d M => ?_)
    show MkP X pins σ Q (.ref e) ⟨h', g, dr, tk', os⟩
    obtain ⟨oe, fv, hoe, hc, hd, hdat, h1⟩ := M.obj
    have hns := M.ns
    obtain ⟨G', g1, g2⟩ := restrict h' fun b => decide (b ≠ e)
    have gk : ∀ b, b ≠ e → G'.get? b = h'.get? b := fun b hb => g1 b (decide_eq_true hb)
    have ge : G'.get? e = none := g2 e (by simp)
    have old : ∀ b o, hp.get? b = some o → G'.get? b = some o := fun b o q => (gk b (Nat.ne_of_lt (Nat.lt_of_lt_of_le (Heap.lt_size q) M.new))).trans (M.keep b o q)
    have ob : ObjOk X.prog X.w (upd H1 d (.xd [(("at" : Str), v)])) G' d (.xd [(("at" : Str), v)]) :=
      ⟨_, hns.at (fun o q => (gk d M.dne).trans q), fun f => relO_At rv f⟩
    have J : Inv X pins σ (upd H1 d (.xd [(("at" : Str), v)])) ⟨G', g, dr, tk', os⟩ := I1.laid (t' := tk') old M.dbig ob
    refine ⟨e, oe, fv, ⟨G', g, dr, tk', os⟩, _, .ref C, some d, rfl, J, fun b o q => ?_, ge, hoe, ⟨hc, hd⟩, hdat, h1, ?_, rfl, I1.bare, raises_own T.exC T.tyC, q1 d (I1.hok.fresh M.dbig)⟩
    · by_cases hb : b = e
      · have q' : G'.get? b = some o := q
        rw [hb, ge] at q'; cases q'
      · exact (gk b hb).symm.trans q
    · rw [upd_ne (Ne.symm M.dne)]
      exact I1.hok.fresh M.new
end
end Ey
set_option maxHeartbeats 4000000
namespace Ey
open PySem PySem.Spec PyProof.Rows L2
section
variable {X : Cx} {C fI : Addr}
/-- its field -/
def tGAt (C : Addr) (te : TE) : TE := fun σ H Q => te σ H fun x H1 => ∃ a d v, x = .ref a ∧ Exv H1 a C d ∧ H1 d = some (.xd [(("at" : Str), v)]) ∧ Q v H1
theorem pe_gAt {e : Expr} {te : TE} {pos : Pos} {nm qn : Str} (T : PySem.AtX.AtTxt nm qn X.K X.mg C fI) (he : PE X e te) (hb : attributeBase e "at" X.env (eval e X.env) = eval e X.env := by rfl) :
    PE X (.Attribute e "at" pos) (tGAt C te) := by
  refine ⟨fun pins s σ H Q I h => ?_⟩
  refine attr_of hb (thn (he.run pins s σ H _ I h) fun u s1 hh => ?_)
  obtain ⟨x, H1, I1, rx, a, d, v, ex, ea, ed, q⟩ := hh
  subst ex
  obtain rfl : u = Value.ref a := rx
  obtain ⟨oe, vs, ha, hc, hdd, hd⟩ := Exv.get I1 ea
  have hx : ObjOk X.prog X.w H1 s1.heap d (.xd [(("at" : Str), v)]) := I1.hok d _ ed
  obtain ⟨mA, hns, hr⟩ := hx
  obtain ⟨od, ho, hl⟩ := lookIn_ns hns
  have l : List.lookup ("at" : Str) [(("at" : Str), v)] = some v := by simp [List.lookup]
  obtain ⟨u, hu, ru⟩ := RelO.some_of (v := v) (o := mA "at") (by rw [← l]; exact hr "at")
  have J : PySem.W.InstAt s1.heap a oe C (some od) := ⟨ha, hc, by unfold PySem.W.notCls; rw [hd] <;> rfl, by rw [hdd]; exact ho⟩
  exact HandSPX.exc_get I1.kIn J T.ga T.gg T.exC (PySem.W.findObj_own T.hdC T.noN rfl (by rw [hl, hu])) (handed_of ru) ⟨v, H1, I1.tok _, ru, q⟩
end
end Ey
set_option maxHeartbeats 4000000
namespace Ey
open PySem PySem.Spec PyProof.Rows L2
/-- the twenty-four classes, at C; their __init__, at f -/
structure EX (K : PySem.W.Frag) (mg : Str → Option Value) (C f : Nat → Addr) (CE : Addr) : Prop where
  t0 : PySem.ThX.ThTxt "BadTree" "BadTree.__init__" K mg (C 0) (f 0)
  t1 : PySem.ThX.ThTxt "BadScript" "BadScript.__init__" K mg (C 1) (f 1)
  t2 : PySem.ThX.ThTxt "BadProgram" "BadProgram.__init__" K mg (C 2) (f 2)
  t3 : PySem.ThX.ThTxt "BadCode" "BadCode.__init__" K mg (C 3) (f 3)
  t4 : PySem.ThX.ThTxt "BadPlace" "BadPlace.__init__" K mg (C 4) (f 4)
  t5 : PySem.ThX.ThTxt "BadWay" "BadWay.__init__" K mg (C 5) (f 5)
  t6 : PySem.AtX.AtTxt "BadText" "BadText.__init__" K mg (C 6) (f 6)
  t7 : PySem.ThX.ThTxt "BadCall" "BadCall.__init__" K mg (C 7) (f 7)
  t8 : PySem.ThX.ThTxt "BadPicks" "BadPicks.__init__" K mg (C 8) (f 8)
  t9 : PySem.ThX.ThTxt "BadNumber" "BadNumber.__init__" K mg (C 9) (f 9)
  t10 : PySem.ThX.ThTxt "Choosing" "Choosing.__init__" K mg (C 10) (f 10)
  t11 : PySem.ThX.ThTxt "BadValue" "BadValue.__init__" K mg (C 11) (f 11)
  t12 : PySem.ThX.ThTxt "BadPoly" "BadPoly.__init__" K mg (C 12) (f 12)
  t13 : PySem.ThX.ThTxt "BadShape" "BadShape.__init__" K mg (C 13) (f 13)
  t14 : PySem.ThX.ThTxt "BadRow" "BadRow.__init__" K mg (C 14) (f 14)
  t15 : PySem.ThX.ThTxt "BadPlaces" "BadPlaces.__init__" K mg (C 15) (f 15)
  t16 : PySem.ThX.ThTxt "NotLast" "NotLast.__init__" K mg (C 16) (f 16)
  t17 : PySem.ThX.ThTxt "BadMachine" "BadMachine.__init__" K mg (C 17) (f 17)
  t18 : PySem.ThX.ThTxt "BadName" "BadName.__init__" K mg (C 18) (f 18)
  t19 : PySem.ThX.ThTxt "BadWord" "BadWord.__init__" K mg (C 19) (f 19)
  t20 : PySem.ThX.ThTxt "BadTags" "BadTags.__init__" K mg (C 20) (f 20)
  t21 : PySem.ThX.ThTxt "BadRules" "BadRules.__init__" K mg (C 21) (f 21)
  t22 : PySem.ThX.ThTxt "BadTies" "BadTies.__init__" K mg (C 22) (f 22)
  t23 : PySem.ThX.ThTxt "BadStep" "BadStep.__init__" K mg (C 23) (f 23)
  says : ∀ i, i < 24 → PySem.OwE.SaysC K (C i)
  kit : ∀ i j, i < 24 → j < 24 → PySem.W.kitOne K (.ref (C i)) (.ref (C j)) = some (decide (i = j))
  kitE : ∀ i, i < 24 → PySem.W.kitOne K (.ref (C i)) (.ref CE) = some true
  kitX : ∀ i, i < 24 → PySem.W.kitOne K (.ref (C i)) (.type "Exception") = some true
  kitB : ∀ i, i < 24 → PySem.W.kitAny K (.ref (C i)) [.type "ValueError", .type "TypeError", .type "LookupError", .type "ArithmeticError", .type "RuntimeError", .type "AttributeError"] = some false
  exm : ∀ i j, i < 24 → j < 24 → PySem.W.exmOne K (.ref (C i)) (.ref (C j)) = some (decide (i = j))
  exmE : ∀ i, i < 24 → PySem.W.exmOne K (.ref (C i)) (.ref CE) = some true
  gE : mg "EyesError" = some (.ref CE)
  isi : mg "isinstance" = none
  exc : mg "Exception" = none
  vE : mg "ValueError" = none
  tE : mg "TypeError" = none
  lE : mg "LookupError" = none
  aE : mg "ArithmeticError" = none
  rE : mg "RuntimeError" = none
  atE : mg "AttributeError" = none
/-- the name of what an error of the class i carries -/
def fl : Nat → Str
  | 6 => "at"
  | _ => "thing"
/-- x is an error of the class i that carries v -/
def ErrAt (H : Hp) (C : Nat → Addr) (i : Nat) (x v : V) : Prop := ∃ e d, x = .ref e ∧ Exv H e (C i) d ∧ H d = some (.xd [(fl i, v)])
theorem ErrAt.kp {H H1 : Hp} {C : Nat → Addr} {i : Nat} {x v : V} (h : ErrAt H C i x v) (k : Kp [] H H1) : ErrAt H1 C i x v :=
  let ⟨e, d, h1, h2, h3⟩ := h; ⟨e, d, h1, h2.kp k List.not_mem_nil, k.at_ _ _ h3 List.not_mem_nil⟩
theorem ErrAt.put {H : Hp} {C : Nat → Addr} {i : Nat} {x v : V} {l : Addr} {xs : List V} {o : HO} (h : ErrAt H C i x v) (hl : H l = some (.lst xs)) : ErrAt (upd H l o) C i x v :=
  let ⟨e, d, h1, ⟨φ, h2, h2'⟩, h3⟩ := h; ⟨e, d, h1, ⟨φ, by rw [upd_ne (ne_of h2 hl (by intro z; cases z))]; exact h2, h2'⟩, by rw [upd_ne (ne_of h3 hl (by intro z; cases z))]; exact h3⟩
inductive ErrAll (H : Hp) (C : Nat → Addr) (v : V) : List Nat → List V → Prop
  | nil : ErrAll H C v [] []
  | cons {i : Nat} {x : V} {is : List Nat} {xs : List V} : ErrAt H C i x v → ErrAll H C v is xs → ErrAll H C v (i :: is) (x :: xs)
section
variable {H H1 : Hp} {C : Nat → Addr} {v : V} {is js : List Nat} {xs ys : List V}
theorem ErrAll.kp (h : ErrAll H C v is xs) (k : Kp [] H H1) : ErrAll H1 C v is xs := by
  induction h with
  | nil => exact .nil
  | cons a _ ih => exact .cons (a.kp k) ih
theorem ErrAll.put {l : Addr} {zs : List V} {o : HO} (h : ErrAll H C v is xs) (hl : H l = some (.lst zs)) : ErrAll (upd H l o) C v is xs := by
  induction h with
  | nil => exact .nil
  | cons a _ ih => exact .cons (a.put hl) ih
theorem ErrAll.app (h : ErrAll H C v is xs) (g : ErrAll H C v js ys) : ErrAll H C v (is ++ js) (xs ++ ys) := by
  induction h with
  | nil => exact g
  | cons a _ ih => exact .cons a ih
theorem ErrAll.len (h : ErrAll H C v is xs) : xs.length = is.length := by
  induction h with
  | nil => rfl
  | cons a _ ih => exact congrArg (· + 1) ih
theorem ErrAll.get (h : ErrAll H C v is xs) : ∀ {n : Nat} {x : V}, xs[n]? = some x → ∃ i, is[n]? = some i ∧ ErrAt H C i x v := by
  induction h with
  | nil => intro n x q; simp at q
  | cons a _ ih =>
    intro n x q
    cases n with
    | zero => cases q; exact ⟨_, rfl, a⟩
    | succ n => exact ih q
theorem vstep {i : Nat} {e d : Addr} {Q : V → Hp → Prop} (ne : H e = none) (nd : H d = none) (hed : e ≠ d) (h : ∀ H1, Kp [] H H1 → ErrAt H1 C i (.ref e) v → Q (.ref e) H1) :
    Q (.ref e) (upd (upd H e (exv e (C i) d)) d (.xd [(fl i, v)])) := by
  have nd2 : (upd H e (exv e (C i) d)) d = none := (upd_ne hed.symm).trans nd
  exact h _ ((Kp.new ne).trans (.new nd2)) ⟨e, d, rfl, ⟨_, by rw [upd_ne hed]; exact upd_same, fun _ q => q⟩, upd_same⟩
end
theorem in24 {P : Nat → Prop} (P0 : P 0) (P1 : P 1) (P2 : P 2) (P3 : P 3) (P4 : P 4) (P5 : P 5) (P6 : P 6) (P7 : P 7) (P8 : P 8) (P9 : P 9) (P10 : P 10) (P11 : P 11) (P12 : P 12) (P13 : P 13) (P14 : P 14) (P15 : P 15) (P16 : P 16) (P17 : P 17) (P18 : P 18) (P19 : P 19) (P20 : P 20) (P21 : P 21) (P22 : P 22) (P23 : P 23) : ∀ i, i < 24 → P i := fun i h =>
  match i, h with
  | 0, _ => P0
  | 1, _ => P1
  | 2, _ => P2
  | 3, _ => P3
  | 4, _ => P4
  | 5, _ => P5
  | 6, _ => P6
  | 7, _ => P7
  | 8, _ => P8
  | 9, _ => P9
  | 10, _ => P10
  | 11, _ => P11
  | 12, _ => P12
  | 13, _ => P13
  | 14, _ => P14
  | 15, _ => P15
  | 16, _ => P16
  | 17, _ => P17
  | 18, _ => P18
  | 19, _ => P19
  | 20, _ => P20
  | 21, _ => P21
  | 22, _ => P22
  | 23, _ => P23
  | n + 24, h => absurd h (by omega)
end Ey
set_option maxHeartbeats 4000000
namespace Ey
open PySem PySem.Spec PyProof.Rows L2
/-- an error of the class i of what the first slot holds -/
def tErr (C : Nat → Addr) (i : Nat) : TE := fun σ H Q => ∃ v, σ[0]? = some (some v) ∧ ∀ x H2, Kp [] H H2 → ErrAt H2 C i x v → Q x H2
section
variable {X : Cx} {C : Nat → Addr} {e : Expr}
theorem pe_eTh (i : Nat) (h : PE X e (tVTh (C i) (tCons (tVar 0) tNil))) (hf : fl i = "thing" := by rfl) : PE X e (tErr C i) := by
  refine ⟨fun pins s σ H Q I q => h.run pins s σ H Q I ?_⟩
  obtain ⟨v, e1, q⟩ := q
  refine ⟨v, e1, v, rfl, fun e d ne nd ned => ?_⟩
  have z := vstep (C := C) (i := i) (v := v) (Q := Q) ne nd ned fun H1 k a => q _ H1 k a
  rw [hf] at z
  exact z
theorem pe_eAt (h : PE X e (tVAt (C 6) (tCons (tVar 0) tNil))) : PE X e (tErr C 6) := by
  refine ⟨fun pins s σ H Q I q => h.run pins s σ H Q I ?_⟩
  obtain ⟨v, e1, q⟩ := q
  refine ⟨v, e1, v, rfl, fun e d ne nd ned => ?_⟩
  exact vstep (C := C) (i := 6) (v := v) (Q := Q) ne nd ned fun H1 k a => q _ H1 k a
end
section
variable {C : Nat → Addr} {v : V} {H G : Hp} {l p : Addr} {xs zs : List V} {is : List Nat}
theorem ext_end (hl : G l = some (.lst xs)) (kl : Kp [] H G) (nl : H l = none) (np : G p = none) (al : ErrAll G C v is (xs ++ zs)) :
    (upd (upd G p (.lst zs)) l (.lst (xs ++ zs))) l = some (.lst (xs ++ zs)) ∧ Kp [] H (upd (upd G p (.lst zs)) l (.lst (xs ++ zs))) ∧ ErrAll (upd (upd G p (.lst zs)) l (.lst (xs ++ zs))) C v is (xs ++ zs) := by
  have e : (upd G p (.lst zs)) l = some (.lst xs) := (upd_ne (ne_of_none hl np)).trans hl
  exact ⟨upd_same, (kl.trans (.new np)).own nl, (al.kp (.new np)).put e⟩
end
abbrev sPos : Stmt := topS 31
abbrev sNam : Stmt := topS 32
abbrev is24 : List Nat := List.range 24
def spMade (C : Nat → Addr) : Sp := fun vs H Q _ => ∃ v, vs = [v] ∧ ∀ (p : Addr) (xs : List V) (H' : Hp), H' p = some (.lst xs) → ErrAll H' C v is24 xs → Kp [] H H' → H p = none → Q (.ref p) H'
section
variable {Pr : Program} {w : World} {K : PySem.W.Frag} {mg : Str → Option Value} {base : Heap} {C f : Nat → Addr} {CE : Addr}
theorem scPos : FnScope ["_law_it", "_law_found"] ["_law_it"] (defScope sPos) := ⟨rfl, rfl, rfl, by decide +kernel, rfl, by decide +kernel, by decide +kernel⟩
theorem scNam : FnScope ["_law_it", "_law_found"] ["_law_it"] (defScope sNam) := ⟨rfl, rfl, rfl, by decide +kernel, rfl, by decide +kernel, by decide +kernel⟩
theorem ok_pos {fa : Addr} {fd : FuncData} (F : Fun K "_law_by_position" "_law_by_position" sPos fa fd) (T : EX K mg C f CE) : FnOk Pr w K mg base CX0 3 fa fd ["_law_it"] (spMade C) := by
  refine F.ok scPos (fun vs H Q E h => ?_) (fun cdv Ar outer s H vs Q E hr h => ?_)
  · obtain ⟨v, rfl, _⟩ := h
    rfl
  · obtain ⟨v, rfl, k⟩ := h
    refine ⟨_, pss_cons (ps_set (i := 1) scPos.nd rfl (.inl rfl) (pe_lst pa_nil))
      (pss_cons (ps_expr (pe_bm PySem.F.plainAttrs_list PySem.F.slot_list_extend PySem.F.type_list_extend mt_extend (pv 1) (pa_cons (pe_lst (pa_cons (pe_eTh 0 (pe_vTh T.t0 hr (pa_cons (pv 0) pa_nil))) (pa_cons (pe_eTh 1 (pe_vTh T.t1 hr (pa_cons (pv 0) pa_nil))) (pa_cons (pe_eTh 2 (pe_vTh T.t2 hr (pa_cons (pv 0) pa_nil))) (pa_cons (pe_eTh 3 (pe_vTh T.t3 hr (pa_cons (pv 0) pa_nil))) (pa_cons (pe_eTh 4 (pe_vTh T.t4 hr (pa_cons (pv 0) pa_nil))) (pa_cons (pe_eTh 5 (pe_vTh T.t5 hr (pa_cons (pv 0) pa_nil))) pa_nil))))))) pa_nil)))
      (pss_cons (ps_expr (pe_bm PySem.F.plainAttrs_list PySem.F.slot_list_extend PySem.F.type_list_extend mt_extend (pv 1) (pa_cons (pe_lst (pa_cons (pe_eAt (pe_vAt T.t6 hr (pa_cons (pv 0) pa_nil))) (pa_cons (pe_eTh 7 (pe_vTh T.t7 hr (pa_cons (pv 0) pa_nil))) (pa_cons (pe_eTh 8 (pe_vTh T.t8 hr (pa_cons (pv 0) pa_nil))) (pa_cons (pe_eTh 9 (pe_vTh T.t9 hr (pa_cons (pv 0) pa_nil))) (pa_cons (pe_eTh 10 (pe_vTh T.t10 hr (pa_cons (pv 0) pa_nil))) (pa_cons (pe_eTh 11 (pe_vTh T.t11 hr (pa_cons (pv 0) pa_nil))) pa_nil))))))) pa_nil)))
      (pss_cons (ps_expr (pe_bm PySem.F.plainAttrs_list PySem.F.slot_list_extend PySem.F.type_list_extend mt_extend (pv 1) (pa_cons (pe_lst (pa_cons (pe_eTh 12 (pe_vTh T.t12 hr (pa_cons (pv 0) pa_nil))) (pa_cons (pe_eTh 13 (pe_vTh T.t13 hr (pa_cons (pv 0) pa_nil))) (pa_cons (pe_eTh 14 (pe_vTh T.t14 hr (pa_cons (pv 0) pa_nil))) (pa_cons (pe_eTh 15 (pe_vTh T.t15 hr (pa_cons (pv 0) pa_nil))) (pa_cons (pe_eTh 16 (pe_vTh T.t16 hr (pa_cons (pv 0) pa_nil))) (pa_cons (pe_eTh 17 (pe_vTh T.t17 hr (pa_cons (pv 0) pa_nil))) pa_nil))))))) pa_nil)))
      (pss_cons (ps_expr (pe_bm PySem.F.plainAttrs_list PySem.F.slot_list_extend PySem.F.type_list_extend mt_extend (pv 1) (pa_cons (pe_lst (pa_cons (pe_eTh 18 (pe_vTh T.t18 hr (pa_cons (pv 0) pa_nil))) (pa_cons (pe_eTh 19 (pe_vTh T.t19 hr (pa_cons (pv 0) pa_nil))) (pa_cons (pe_eTh 20 (pe_vTh T.t20 hr (pa_cons (pv 0) pa_nil))) (pa_cons (pe_eTh 21 (pe_vTh T.t21 hr (pa_cons (pv 0) pa_nil))) (pa_cons (pe_eTh 22 (pe_vTh T.t22 hr (pa_cons (pv 0) pa_nil))) (pa_cons (pe_eTh 23 (pe_vTh T.t23 hr (pa_cons (pv 0) pa_nil))) pa_nil))))))) pa_nil)))
      (pss_one (ps_ret (pv 1))))))), ?_⟩
    refine ⟨Nat.zero_le _, fun l nl => ?_⟩
    have hl : (upd H l (.lst [])) l = some (.lst []) := upd_same
    have kl : Kp [] H (upd H l (.lst [])) := .new nl
    have al : ErrAll (upd H l (.lst [])) C v [] [] := .nil
    generalize upd H l (.lst []) = G at hl kl al
    refine ⟨_, rfl, .inl ⟨rfl, _, sql_of hl⟩, ?_⟩
    refine ⟨_, rfl, fun x0 G0 k0 a0 => ?_⟩
    refine ⟨_, rfl, fun x1 G1 k1 a1 => ?_⟩
    refine ⟨_, rfl, fun x2 G2 k2 a2 => ?_⟩
    refine ⟨_, rfl, fun x3 G3 k3 a3 => ?_⟩
    refine ⟨_, rfl, fun x4 G4 k4 a4 => ?_⟩
    refine ⟨_, rfl, fun x5 G5 k5 a5 => ?_⟩
    refine ⟨by show 6 ≤ sizeLine; decide, fun p np => ?_⟩
    have hl2 := (k5.at_ _ _ (k4.at_ _ _ (k3.at_ _ _ (k2.at_ _ _ (k1.at_ _ _ (k0.at_ _ _ hl List.not_mem_nil) List.not_mem_nil) List.not_mem_nil) List.not_mem_nil) List.not_mem_nil) List.not_mem_nil)
    have kl2 := ((((((kl.trans k0).trans k1).trans k2).trans k3).trans k4).trans k5)
    have al2 := ((((((al.kp k0).kp k1).kp k2).kp k3).kp k4).kp k5)
    obtain ⟨hl3, kl3, al3⟩ := ext_end hl2 kl2 nl np (al2.app (js := [0, 1, 2, 3, 4, 5]) (.cons (((((a0.kp k1).kp k2).kp k3).kp k4).kp k5) (.cons ((((a1.kp k2).kp k3).kp k4).kp k5) (.cons (((a2.kp k3).kp k4).kp k5) (.cons ((a3.kp k4).kp k5) (.cons (a4.kp k5) (.cons a5 .nil)))))))
    refine ⟨l, p, [], [x0, x1, x2, x3, x4, x5], rfl, rfl, (upd_ne (ne_of_none hl2 np)).trans hl2, upd_same, ?_, ?_⟩
    · show 6 ≤ sizeLine
      decide
    generalize upd (upd G5 p (.lst [x0, x1, x2, x3, x4, x5])) l (.lst ([] ++ [x0, x1, x2, x3, x4, x5])) = Gz at hl3 kl3 al3 ⊢
    clear hl kl al hl2 kl2 al2
    have hl := hl3
    have kl := kl3
    have al := al3
    clear hl3 kl3 al3
    refine ⟨_, rfl, .inl ⟨rfl, _, sql_of hl⟩, ?_⟩
    refine ⟨_, rfl, fun x6 G6 k6 a6 => ?_⟩
    refine ⟨_, rfl, fun x7 G7 k7 a7 => ?_⟩
    refine ⟨_, rfl, fun x8 G8 k8 a8 => ?_⟩
    refine ⟨_, rfl, fun x9 G9 k9 a9 => ?_⟩
    refine ⟨_, rfl, fun x10 G10 k10 a10 => ?_⟩
    refine ⟨_, rfl, fun x11 G11 k11 a11 => ?_⟩
    refine ⟨by show 6 ≤ sizeLine; decide, fun p np => ?_⟩
    have hl2 := (k11.at_ _ _ (k10.at_ _ _ (k9.at_ _ _ (k8.at_ _ _ (k7.at_ _ _ (k6.at_ _ _ hl List.not_mem_nil) List.not_mem_nil) List.not_mem_nil) List.not_mem_nil) List.not_mem_nil) List.not_mem_nil)
    have kl2 := ((((((kl.trans k6).trans k7).trans k8).trans k9).trans k10).trans k11)
    have al2 := ((((((al.kp k6).kp k7).kp k8).kp k9).kp k10).kp k11)
    obtain ⟨hl3, kl3, al3⟩ := ext_end hl2 kl2 nl np (al2.app (js := [6, 7, 8, 9, 10, 11]) (.cons (((((a6.kp k7).kp k8).kp k9).kp k10).kp k11) (.cons ((((a7.kp k8).kp k9).kp k10).kp k11) (.cons (((a8.kp k9).kp k10).kp k11) (.cons ((a9.kp k10).kp k11) (.cons (a10.kp k11) (.cons a11 .nil)))))))
    refine ⟨l, p, ([] ++ [x0, x1, x2, x3, x4, x5]), [x6, x7, x8, x9, x10, x11], rfl, rfl, (upd_ne (ne_of_none hl2 np)).trans hl2, upd_same, ?_, ?_⟩
    · show 12 ≤ sizeLine
      decide
    generalize upd (upd G11 p (.lst [x6, x7, x8, x9, x10, x11])) l (.lst (([] ++ [x0, x1, x2, x3, x4, x5]) ++ [x6, x7, x8, x9, x10, x11])) = Gz at hl3 kl3 al3 ⊢
    clear hl kl al hl2 kl2 al2
    have hl := hl3
    have kl := kl3
    have al := al3
    clear hl3 kl3 al3
    refine ⟨_, rfl, .inl ⟨rfl, _, sql_of hl⟩, ?_⟩
    refine ⟨_, rfl, fun x12 G12 k12 a12 => ?_⟩
    refine ⟨_, rfl, fun x13 G13 k13 a13 => ?_⟩
    refine ⟨_, rfl, fun x14 G14 k14 a14 => ?_⟩
    refine ⟨_, rfl, fun x15 G15 k15 a15 => ?_⟩
    refine ⟨_, rfl, fun x16 G16 k16 a16 => ?_⟩
    refine ⟨_, rfl, fun x17 G17 k17 a17 => ?_⟩
    refine ⟨by show 6 ≤ sizeLine; decide, fun p np => ?_⟩
    have hl2 := (k17.at_ _ _ (k16.at_ _ _ (k15.at_ _ _ (k14.at_ _ _ (k13.at_ _ _ (k12.at_ _ _ hl List.not_mem_nil) List.not_mem_nil) List.not_mem_nil) List.not_mem_nil) List.not_mem_nil) List.not_mem_nil)
    have kl2 := ((((((kl.trans k12).trans k13).trans k14).trans k15).trans k16).trans k17)
    have al2 := ((((((al.kp k12).kp k13).kp k14).kp k15).kp k16).kp k17)
    obtain ⟨hl3, kl3, al3⟩ := ext_end hl2 kl2 nl np (al2.app (js := [12, 13, 14, 15, 16, 17]) (.cons (((((a12.kp k13).kp k14).kp k15).kp k16).kp k17) (.cons ((((a13.kp k14).kp k15).kp k16).kp k17) (.cons (((a14.kp k15).kp k16).kp k17) (.cons ((a15.kp k16).kp k17) (.cons (a16.kp k17) (.cons a17 .nil)))))))
    refine ⟨l, p, (([] ++ [x0, x1, x2, x3, x4, x5]) ++ [x6, x7, x8, x9, x10, x11]), [x12, x13, x14, x15, x16, x17], rfl, rfl, (upd_ne (ne_of_none hl2 np)).trans hl2, upd_same, ?_, ?_⟩
    · show 18 ≤ sizeLine
      decide
    generalize upd (upd G17 p (.lst [x12, x13, x14, x15, x16, x17])) l (.lst ((([] ++ [x0, x1, x2, x3, x4, x5]) ++ [x6, x7, x8, x9, x10, x11]) ++ [x12, x13, x14, x15, x16, x17])) = Gz at hl3 kl3 al3 ⊢
    clear hl kl al hl2 kl2 al2
    have hl := hl3
    have kl := kl3
    have al := al3
    clear hl3 kl3 al3
    refine ⟨_, rfl, .inl ⟨rfl, _, sql_of hl⟩, ?_⟩
    refine ⟨_, rfl, fun x18 G18 k18 a18 => ?_⟩
    refine ⟨_, rfl, fun x19 G19 k19 a19 => ?_⟩
    refine ⟨_, rfl, fun x20 G20 k20 a20 => ?_⟩
    refine ⟨_, rfl, fun x21 G21 k21 a21 => ?_⟩
    refine ⟨_, rfl, fun x22 G22 k22 a22 => ?_⟩
    refine ⟨_, rfl, fun x23 G23 k23 a23 => ?_⟩
    refine ⟨by show 6 ≤ sizeLine; decide, fun p np => ?_⟩
    have hl2 := (k23.at_ _ _ (k22.at_ _ _ (k21.at_ _ _ (k20.at_ _ _ (k19.at_ _ _ (k18.at_ _ _ hl List.not_mem_nil) List.not_mem_nil) List.not_mem_nil) List.not_mem_nil) List.not_mem_nil) List.not_mem_nil)
    have kl2 := ((((((kl.trans k18).trans k19).trans k20).trans k21).trans k22).trans k23)
    have al2 := ((((((al.kp k18).kp k19).kp k20).kp k21).kp k22).kp k23)
    obtain ⟨hl3, kl3, al3⟩ := ext_end hl2 kl2 nl np (al2.app (js := [18, 19, 20, 21, 22, 23]) (.cons (((((a18.kp k19).kp k20).kp k21).kp k22).kp k23) (.cons ((((a19.kp k20).kp k21).kp k22).kp k23) (.cons (((a20.kp k21).kp k22).kp k23) (.cons ((a21.kp k22).kp k23) (.cons (a22.kp k23) (.cons a23 .nil)))))))
    refine ⟨l, p, ((([] ++ [x0, x1, x2, x3, x4, x5]) ++ [x6, x7, x8, x9, x10, x11]) ++ [x12, x13, x14, x15, x16, x17]), [x18, x19, x20, x21, x22, x23], rfl, rfl, (upd_ne (ne_of_none hl2 np)).trans hl2, upd_same, ?_, ?_⟩
    · show 24 ≤ sizeLine
      decide
    generalize upd (upd G23 p (.lst [x18, x19, x20, x21, x22, x23])) l (.lst (((([] ++ [x0, x1, x2, x3, x4, x5]) ++ [x6, x7, x8, x9, x10, x11]) ++ [x12, x13, x14, x15, x16, x17]) ++ [x18, x19, x20, x21, x22, x23])) = Gz at hl3 kl3 al3 ⊢
    clear hl kl al hl2 kl2 al2
    have hl := hl3
    have kl := kl3
    have al := al3
    clear hl3 kl3 al3
    exact ⟨_, rfl, k l _ Gz hl al kl nl⟩
theorem ok_nam {fa : Addr} {fd : FuncData} (F : Fun K "_law_by_name" "_law_by_name" sNam fa fd) (T : EX K mg C f CE) : FnOk Pr w K mg base CX0 3 fa fd ["_law_it"] (spMade C) := by
  refine F.ok scNam (fun vs H Q E h => ?_) (fun cdv Ar outer s H vs Q E hr h => ?_)
  · obtain ⟨v, rfl, _⟩ := h
    rfl
  · obtain ⟨v, rfl, k⟩ := h
    refine ⟨_, pss_cons (ps_set (i := 1) scNam.nd rfl (.inl rfl) (pe_lst pa_nil))
      (pss_cons (ps_expr (pe_bm PySem.F.plainAttrs_list PySem.F.slot_list_extend PySem.F.type_list_extend mt_extend (pv 1) (pa_cons (pe_lst (pa_cons (pe_eTh 0 (pe_vkTh T.t0 hr (pk_cons (pv 0) pk_nil))) (pa_cons (pe_eTh 1 (pe_vkTh T.t1 hr (pk_cons (pv 0) pk_nil))) (pa_cons (pe_eTh 2 (pe_vkTh T.t2 hr (pk_cons (pv 0) pk_nil))) (pa_cons (pe_eTh 3 (pe_vkTh T.t3 hr (pk_cons (pv 0) pk_nil))) pa_nil))))) pa_nil)))
      (pss_cons (ps_expr (pe_bm PySem.F.plainAttrs_list PySem.F.slot_list_extend PySem.F.type_list_extend mt_extend (pv 1) (pa_cons (pe_lst (pa_cons (pe_eTh 4 (pe_vkTh T.t4 hr (pk_cons (pv 0) pk_nil))) (pa_cons (pe_eTh 5 (pe_vkTh T.t5 hr (pk_cons (pv 0) pk_nil))) (pa_cons (pe_eAt (pe_vkAt T.t6 hr (pk_cons (pv 0) pk_nil))) (pa_cons (pe_eTh 7 (pe_vkTh T.t7 hr (pk_cons (pv 0) pk_nil))) pa_nil))))) pa_nil)))
      (pss_cons (ps_expr (pe_bm PySem.F.plainAttrs_list PySem.F.slot_list_extend PySem.F.type_list_extend mt_extend (pv 1) (pa_cons (pe_lst (pa_cons (pe_eTh 8 (pe_vkTh T.t8 hr (pk_cons (pv 0) pk_nil))) (pa_cons (pe_eTh 9 (pe_vkTh T.t9 hr (pk_cons (pv 0) pk_nil))) (pa_cons (pe_eTh 10 (pe_vkTh T.t10 hr (pk_cons (pv 0) pk_nil))) (pa_cons (pe_eTh 11 (pe_vkTh T.t11 hr (pk_cons (pv 0) pk_nil))) pa_nil))))) pa_nil)))
      (pss_cons (ps_expr (pe_bm PySem.F.plainAttrs_list PySem.F.slot_list_extend PySem.F.type_list_extend mt_extend (pv 1) (pa_cons (pe_lst (pa_cons (pe_eTh 12 (pe_vkTh T.t12 hr (pk_cons (pv 0) pk_nil))) (pa_cons (pe_eTh 13 (pe_vkTh T.t13 hr (pk_cons (pv 0) pk_nil))) (pa_cons (pe_eTh 14 (pe_vkTh T.t14 hr (pk_cons (pv 0) pk_nil))) (pa_cons (pe_eTh 15 (pe_vkTh T.t15 hr (pk_cons (pv 0) pk_nil))) pa_nil))))) pa_nil)))
      (pss_cons (ps_expr (pe_bm PySem.F.plainAttrs_list PySem.F.slot_list_extend PySem.F.type_list_extend mt_extend (pv 1) (pa_cons (pe_lst (pa_cons (pe_eTh 16 (pe_vkTh T.t16 hr (pk_cons (pv 0) pk_nil))) (pa_cons (pe_eTh 17 (pe_vkTh T.t17 hr (pk_cons (pv 0) pk_nil))) (pa_cons (pe_eTh 18 (pe_vkTh T.t18 hr (pk_cons (pv 0) pk_nil))) (pa_cons (pe_eTh 19 (pe_vkTh T.t19 hr (pk_cons (pv 0) pk_nil))) pa_nil))))) pa_nil)))
      (pss_cons (ps_expr (pe_bm PySem.F.plainAttrs_list PySem.F.slot_list_extend PySem.F.type_list_extend mt_extend (pv 1) (pa_cons (pe_lst (pa_cons (pe_eTh 20 (pe_vkTh T.t20 hr (pk_cons (pv 0) pk_nil))) (pa_cons (pe_eTh 21 (pe_vkTh T.t21 hr (pk_cons (pv 0) pk_nil))) (pa_cons (pe_eTh 22 (pe_vkTh T.t22 hr (pk_cons (pv 0) pk_nil))) (pa_cons (pe_eTh 23 (pe_vkTh T.t23 hr (pk_cons (pv 0) pk_nil))) pa_nil))))) pa_nil)))
      (pss_one (ps_ret (pv 1))))))))), ?_⟩
    refine ⟨Nat.zero_le _, fun l nl => ?_⟩
    have hl : (upd H l (.lst [])) l = some (.lst []) := upd_same
    have kl : Kp [] H (upd H l (.lst [])) := .new nl
    have al : ErrAll (upd H l (.lst [])) C v [] [] := .nil
    generalize upd H l (.lst []) = G at hl kl al
    refine ⟨_, rfl, .inl ⟨rfl, _, sql_of hl⟩, ?_⟩
    refine ⟨_, rfl, fun x0 G0 k0 a0 => ?_⟩
    refine ⟨_, rfl, fun x1 G1 k1 a1 => ?_⟩
    refine ⟨_, rfl, fun x2 G2 k2 a2 => ?_⟩
    refine ⟨_, rfl, fun x3 G3 k3 a3 => ?_⟩
    refine ⟨by show 4 ≤ sizeLine; decide, fun p np => ?_⟩
    have hl2 := (k3.at_ _ _ (k2.at_ _ _ (k1.at_ _ _ (k0.at_ _ _ hl List.not_mem_nil) List.not_mem_nil) List.not_mem_nil) List.not_mem_nil)
    have kl2 := ((((kl.trans k0).trans k1).trans k2).trans k3)
    have al2 := ((((al.kp k0).kp k1).kp k2).kp k3)
    obtain ⟨hl3, kl3, al3⟩ := ext_end hl2 kl2 nl np (al2.app (js := [0, 1, 2, 3]) (.cons (((a0.kp k1).kp k2).kp k3) (.cons ((a1.kp k2).kp k3) (.cons (a2.kp k3) (.cons a3 .nil)))))
    refine ⟨l, p, [], [x0, x1, x2, x3], rfl, rfl, (upd_ne (ne_of_none hl2 np)).trans hl2, upd_same, ?_, ?_⟩
    · show 4 ≤ sizeLine
      decide
    generalize upd (upd G3 p (.lst [x0, x1, x2, x3])) l (.lst ([] ++ [x0, x1, x2, x3])) = Gz at hl3 kl3 al3 ⊢
    clear hl kl al hl2 kl2 al2
    have hl := hl3
    have kl := kl3
    have al := al3
    clear hl3 kl3 al3
    refine ⟨_, rfl, .inl ⟨rfl, _, sql_of hl⟩, ?_⟩
    refine ⟨_, rfl, fun x4 G4 k4 a4 => ?_⟩
    refine ⟨_, rfl, fun x5 G5 k5 a5 => ?_⟩
    refine ⟨_, rfl, fun x6 G6 k6 a6 => ?_⟩
    refine ⟨_, rfl, fun x7 G7 k7 a7 => ?_⟩
    refine ⟨by show 4 ≤ sizeLine; decide, fun p np => ?_⟩
    have hl2 := (k7.at_ _ _ (k6.at_ _ _ (k5.at_ _ _ (k4.at_ _ _ hl List.not_mem_nil) List.not_mem_nil) List.not_mem_nil) List.not_mem_nil)
    have kl2 := ((((kl.trans k4).trans k5).trans k6).trans k7)
    have al2 := ((((al.kp k4).kp k5).kp k6).kp k7)
    obtain ⟨hl3, kl3, al3⟩ := ext_end hl2 kl2 nl np (al2.app (js := [4, 5, 6, 7]) (.cons (((a4.kp k5).kp k6).kp k7) (.cons ((a5.kp k6).kp k7) (.cons (a6.kp k7) (.cons a7 .nil)))))
    refine ⟨l, p, ([] ++ [x0, x1, x2, x3]), [x4, x5, x6, x7], rfl, rfl, (upd_ne (ne_of_none hl2 np)).trans hl2, upd_same, ?_, ?_⟩
    · show 8 ≤ sizeLine
      decide
    generalize upd (upd G7 p (.lst [x4, x5, x6, x7])) l (.lst (([] ++ [x0, x1, x2, x3]) ++ [x4, x5, x6, x7])) = Gz at hl3 kl3 al3 ⊢
    clear hl kl al hl2 kl2 al2
    have hl := hl3
    have kl := kl3
    have al := al3
    clear hl3 kl3 al3
    refine ⟨_, rfl, .inl ⟨rfl, _, sql_of hl⟩, ?_⟩
    refine ⟨_, rfl, fun x8 G8 k8 a8 => ?_⟩
    refine ⟨_, rfl, fun x9 G9 k9 a9 => ?_⟩
    refine ⟨_, rfl, fun x10 G10 k10 a10 => ?_⟩
    refine ⟨_, rfl, fun x11 G11 k11 a11 => ?_⟩
    refine ⟨by show 4 ≤ sizeLine; decide, fun p np => ?_⟩
    have hl2 := (k11.at_ _ _ (k10.at_ _ _ (k9.at_ _ _ (k8.at_ _ _ hl List.not_mem_nil) List.not_mem_nil) List.not_mem_nil) List.not_mem_nil)
    have kl2 := ((((kl.trans k8).trans k9).trans k10).trans k11)
    have al2 := ((((al.kp k8).kp k9).kp k10).kp k11)
    obtain ⟨hl3, kl3, al3⟩ := ext_end hl2 kl2 nl np (al2.app (js := [8, 9, 10, 11]) (.cons (((a8.kp k9).kp k10).kp k11) (.cons ((a9.kp k10).kp k11) (.cons (a10.kp k11) (.cons a11 .nil)))))
    refine ⟨l, p, (([] ++ [x0, x1, x2, x3]) ++ [x4, x5, x6, x7]), [x8, x9, x10, x11], rfl, rfl, (upd_ne (ne_of_none hl2 np)).trans hl2, upd_same, ?_, ?_⟩
    · show 12 ≤ sizeLine
      decide
    generalize upd (upd G11 p (.lst [x8, x9, x10, x11])) l (.lst ((([] ++ [x0, x1, x2, x3]) ++ [x4, x5, x6, x7]) ++ [x8, x9, x10, x11])) = Gz at hl3 kl3 al3 ⊢
    clear hl kl al hl2 kl2 al2
    have hl := hl3
    have kl := kl3
    have al := al3
    clear hl3 kl3 al3
    refine ⟨_, rfl, .inl ⟨rfl, _, sql_of hl⟩, ?_⟩
    refine ⟨_, rfl, fun x12 G12 k12 a12 => ?_⟩
    refine ⟨_, rfl, fun x13 G13 k13 a13 => ?_⟩
    refine ⟨_, rfl, fun x14 G14 k14 a14 => ?_⟩
    refine ⟨_, rfl, fun x15 G15 k15 a15 => ?_⟩
    refine ⟨by show 4 ≤ sizeLine; decide, fun p np => ?_⟩
    have hl2 := (k15.at_ _ _ (k14.at_ _ _ (k13.at_ _ _ (k12.at_ _ _ hl List.not_mem_nil) List.not_mem_nil) List.not_mem_nil) List.not_mem_nil)
    have kl2 := ((((kl.trans k12).trans k13).trans k14).trans k15)
    have al2 := ((((al.kp k12).kp k13).kp k14).kp k15)
    obtain ⟨hl3, kl3, al3⟩ := ext_end hl2 kl2 nl np (al2.app (js := [12, 13, 14, 15]) (.cons (((a12.kp k13).kp k14).kp k15) (.cons ((a13.kp k14).kp k15) (.cons (a14.kp k15) (.cons a15 .nil)))))
    refine ⟨l, p, ((([] ++ [x0, x1, x2, x3]) ++ [x4, x5, x6, x7]) ++ [x8, x9, x10, x11]), [x12, x13, x14, x15], rfl, rfl, (upd_ne (ne_of_none hl2 np)).trans hl2, upd_same, ?_, ?_⟩
    · show 16 ≤ sizeLine
      decide
    generalize upd (upd G15 p (.lst [x12, x13, x14, x15])) l (.lst (((([] ++ [x0, x1, x2, x3]) ++ [x4, x5, x6, x7]) ++ [x8, x9, x10, x11]) ++ [x12, x13, x14, x15])) = Gz at hl3 kl3 al3 ⊢
    clear hl kl al hl2 kl2 al2
    have hl := hl3
    have kl := kl3
    have al := al3
    clear hl3 kl3 al3
    refine ⟨_, rfl, .inl ⟨rfl, _, sql_of hl⟩, ?_⟩
    refine ⟨_, rfl, fun x16 G16 k16 a16 => ?_⟩
    refine ⟨_, rfl, fun x17 G17 k17 a17 => ?_⟩
    refine ⟨_, rfl, fun x18 G18 k18 a18 => ?_⟩
    refine ⟨_, rfl, fun x19 G19 k19 a19 => ?_⟩
    refine ⟨by show 4 ≤ sizeLine; decide, fun p np => ?_⟩
    have hl2 := (k19.at_ _ _ (k18.at_ _ _ (k17.at_ _ _ (k16.at_ _ _ hl List.not_mem_nil) List.not_mem_nil) List.not_mem_nil) List.not_mem_nil)
    have kl2 := ((((kl.trans k16).trans k17).trans k18).trans k19)
    have al2 := ((((al.kp k16).kp k17).kp k18).kp k19)
    obtain ⟨hl3, kl3, al3⟩ := ext_end hl2 kl2 nl np (al2.app (js := [16, 17, 18, 19]) (.cons (((a16.kp k17).kp k18).kp k19) (.cons ((a17.kp k18).kp k19) (.cons (a18.kp k19) (.cons a19 .nil)))))
    refine ⟨l, p, (((([] ++ [x0, x1, x2, x3]) ++ [x4, x5, x6, x7]) ++ [x8, x9, x10, x11]) ++ [x12, x13, x14, x15]), [x16, x17, x18, x19], rfl, rfl, (upd_ne (ne_of_none hl2 np)).trans hl2, upd_same, ?_, ?_⟩
    · show 20 ≤ sizeLine
      decide
    generalize upd (upd G19 p (.lst [x16, x17, x18, x19])) l (.lst ((((([] ++ [x0, x1, x2, x3]) ++ [x4, x5, x6, x7]) ++ [x8, x9, x10, x11]) ++ [x12, x13, x14, x15]) ++ [x16, x17, x18, x19])) = Gz at hl3 kl3 al3 ⊢
    clear hl kl al hl2 kl2 al2
    have hl := hl3
    have kl := kl3
    have al := al3
    clear hl3 kl3 al3
    refine ⟨_, rfl, .inl ⟨rfl, _, sql_of hl⟩, ?_⟩
    refine ⟨_, rfl, fun x20 G20 k20 a20 => ?_⟩
    refine ⟨_, rfl, fun x21 G21 k21 a21 => ?_⟩
    refine ⟨_, rfl, fun x22 G22 k22 a22 => ?_⟩
    refine ⟨_, rfl, fun x23 G23 k23 a23 => ?_⟩
    refine ⟨by show 4 ≤ sizeLine; decide, fun p np => ?_⟩
    have hl2 := (k23.at_ _ _ (k22.at_ _ _ (k21.at_ _ _ (k20.at_ _ _ hl List.not_mem_nil) List.not_mem_nil) List.not_mem_nil) List.not_mem_nil)
    have kl2 := ((((kl.trans k20).trans k21).trans k22).trans k23)
    have al2 := ((((al.kp k20).kp k21).kp k22).kp k23)
    obtain ⟨hl3, kl3, al3⟩ := ext_end hl2 kl2 nl np (al2.app (js := [20, 21, 22, 23]) (.cons (((a20.kp k21).kp k22).kp k23) (.cons ((a21.kp k22).kp k23) (.cons (a22.kp k23) (.cons a23 .nil)))))
    refine ⟨l, p, ((((([] ++ [x0, x1, x2, x3]) ++ [x4, x5, x6, x7]) ++ [x8, x9, x10, x11]) ++ [x12, x13, x14, x15]) ++ [x16, x17, x18, x19]), [x20, x21, x22, x23], rfl, rfl, (upd_ne (ne_of_none hl2 np)).trans hl2, upd_same, ?_, ?_⟩
    · show 24 ≤ sizeLine
      decide
    generalize upd (upd G23 p (.lst [x20, x21, x22, x23])) l (.lst (((((([] ++ [x0, x1, x2, x3]) ++ [x4, x5, x6, x7]) ++ [x8, x9, x10, x11]) ++ [x12, x13, x14, x15]) ++ [x16, x17, x18, x19]) ++ [x20, x21, x22, x23])) = Gz at hl3 kl3 al3 ⊢
    clear hl kl al hl2 kl2 al2
    have hl := hl3
    have kl := kl3
    have al := al3
    clear hl3 kl3 al3
    exact ⟨_, rfl, k l _ Gz hl al kl nl⟩
end
end Ey
set_option maxHeartbeats 4000000
namespace Ey
open PySem PySem.AutoSeq1
theorem extend_tuple (l : Addr) (items : Array Value) (n : Nat) (b : Addr) (items2 : Array Value) (n2 : Nat) (dd : Option Addr) (sl : Array (Option Value)) (hs0 : ¬(!items.isEmpty && Builtin.List.listTooLong (items.size + items2.size)) = true) (hs1 : items.size ≤ sizeLine) (hs2 : items.size + items2.size ≤ sizeLine + 1) :
    Meets (Builtin.«list.extend» ⟨[.ref l, .ref b], []⟩) (fun _ R s => s.heap.get? l = some { cls := .type "list", dict := none, data := .seq items n, slots := #[] } ∧ s.heap.get? b = some { cls := .type "tuple", dict := dd, data := .seq items2 n2, slots := sl } ∧ R (.ok (.ret Value.none)) { s with heap := s.heap.update l (Obj.mapSeq fun x => x ++ items2), toks := s.toks }) :=
  .of_wp fun prog w A R s h => by
    obtain ⟨hp, g, d, tk, os⟩ := s; obtain ⟨hl, hb, h⟩ := h; have f1 := idx_int; have f2 := sub_tuple_tuple; have f3 := sub_list_list; have f4 := sub_tuple_list; have f5 := sub_list_tuple;
    have hz' : (items ++ items2).size ≤ sizeLine + 1 := by rw [Array.size_append]; exact hs2
    wp_walk using (wpAny_updateSeq hl rfl (hz := hs1) (_hz' := hz')), wpAny_loadPart' hl, wpAny_loadPart' hb; exact ⟨_, rfl, h⟩
end Ey
namespace Ey
open PySem PySem.Spec PyProof.Rows L2
section
variable {X : Cx}
def rExtendT : V → List V → Hp → VK → Prop := fun x vs H Q => ∃ l b xs zs, x = .ref l ∧ vs = [.ref b] ∧ H l = some (.lst xs) ∧ H b = some (.tup zs) ∧ xs.length + zs.length ≤ sizeLine ∧ Q .non (upd H l (.lst (xs ++ zs)))
theorem mt_extendT : MtM X "list.extend" rExtendT := by
  intro pins s σ H x vs v us Q I rx rv h
  obtain ⟨l, b, xs, zs, rfl, rfl, hH, hB, hz, q⟩ := h
  cases rx
  obtain ⟨u, rfl, ru⟩ := rv.one
  cases ru
  obtain ⟨z, its, n, r, hl, e⟩ := I.lstM hH
  obtain ⟨_, its2, r2, ⟨cls, dd, data, sl⟩, e2, hc, n2, hd⟩ := (show ObjOk X.prog X.w H s.heap b (.tup zs) from I.hok b _ hB)
  simp only at hc hd
  subst hc hd
  have hl2 := r2.length
  have hsz : its.toArray.size + its2.toArray.size ≤ sizeLine := by rw [List.size_toArray, List.size_toArray]; omega
  have hlong : ¬ (!its.toArray.isEmpty && Builtin.List.listTooLong (its.toArray.size + its2.toArray.size)) = true := by
    rw [notLongL hsz, Bool.and_false]
    exact Bool.false_ne_true
  refine call_meets PySem.F.slot_list_extend ⟨_, e, rfl⟩ PySem.F.entry_list_extend (PySem.F.args_list_extend_2 _ _)
    (extend_tuple l its.toArray n b its2.toArray n2 dd sl hlong (by rw [List.size_toArray]; omega) (by omega)) ⟨e, e2, ?_⟩
  refine ⟨.non, _, I.lset (its' := its ++ its2) hH e (by simp) (r.append r2) ?_, rfl, q⟩
  rw [List.length_append]
  omega
end
end Ey
set_option maxHeartbeats 4000000
namespace Ey
open PySem PySem.Spec L2 PyProof.Rows
open Sem (wp)
theorem meets_enumerate_newT {v : Value} {o : Obj} {H : Heap → Prop} (B : Begins v o H) :
    Meets (Builtin.«enumerate.__new__» ⟨[.type "enumerate", v], []⟩) (fun _ R s => H s.heap ∧
      R (.ok (.ret (.ref (s.heap.push o).objs.size))) { s with heap := (s.heap.push o).push { cls := .type "enumerate", data := .fields #[.none, .bool false, .ref s.heap.objs.size, rawInt 0, .none, .none] } }) :=
  .of_wp fun prog w A R s h => by
    obtain ⟨hp, g, d, tk, os⟩ := s; obtain ⟨h1, h⟩ := h
    have hsub := sub_enumerate
    have q1 : ∀ {A' : Around} {E : Value → Shared → Prop} {Q : Value → Shared → Prop}, Q (.ref hp.objs.size) ⟨hp.push o, g, d, tk, os⟩ → wpAny (model prog w) A' (pyIter v) Q E ⟨hp, g, d, tk, os⟩ :=
      fun q => B.iter prog w _ _ ⟨hp, g, d, tk, os⟩ _ h1 q
    wp_walk using q1
    refine wpAny_stack_any fun st => wpAny_pure ?_
    split
    · rename_i c _ _ _ _ _
      cases (c == Value.type "enumerate")
      · wp_walk using q1
        exact ⟨_, rfl, h⟩
      · wp_walk using q1
        exact ⟨_, rfl, h⟩
    · wp_walk using q1
      exact ⟨_, rfl, h⟩
section
variable {prog : Program} {w : World} {A : Around} {E : Value → Shared → Prop} {s : Shared}
theorem enum_begins1 {v : Value} {o : Obj} {H : Heap → Prop} {Q : Value → Shared → Prop} (B : Begins v o H) (h1 : H s.heap)
    (h : ∀ h', IsEnum h' (s.heap.objs.size + 1) s.heap.objs.size 0 .none → h'.get? s.heap.objs.size = some o → h'.objs.size = s.heap.objs.size + 2 →
      (∀ b o, s.heap.get? b = some o → h'.get? b = some o) → Q (.ref (s.heap.objs.size + 1)) { s with heap := h' }) :
    wpAny (model prog w) A (call (.type "enumerate") [v]) Q E s := by
  refine callType_new F.called_enumerate (by decide) (F.typeCall_enumerate_1 _) (F.newCall_enumerate_1 _) (fun obj => F.args_object_init_2 obj _) F.entry_enumerate_new
    (meets_enumerate_newT B) ⟨h1, ?_⟩
  have hz : (s.heap.push o).objs.size = s.heap.objs.size + 1 := Heap.size_push ..
  show _ ∧ _
  rw [hz]
  have he : IsEnum ((s.heap.push o).push { cls := .type "enumerate", data := .fields #[.none, .bool false, .ref s.heap.objs.size, rawInt 0, .none, .none] }) (s.heap.objs.size + 1) s.heap.objs.size 0 .none := by
    have := Heap.get?_push_size (s.heap.push o) (o := { cls := .type "enumerate", data := .fields #[.none, .bool false, .ref s.heap.objs.size, rawInt 0, .none, .none] }) rfl
    rw [hz] at this; exact this
  refine ⟨⟨_, he, rfl⟩, h _ he (Heap.get?_push_of_some _ (Heap.get?_push_size _ B.free)) (by rw [Heap.size_push, hz]) fun b o x => Heap.get?_push_of_some _ (Heap.get?_push_of_some _ x)⟩
end
section
variable {prog : Program} {w : World} {A : Around} {E : Value → Shared → Prop} {s : Shared}
theorem enum_endT {e it t : Addr} {items : Array Value} {j : Nat} {i : Int} {old : Value} {Q : Option Value → Shared → Prop} (hh : A.handled = none)
    (he : IsEnum s.heap e it i old) (hit : s.heap.IsTupleIter it t j) (ht : s.heap.IsTuple t items) (hx : items[j]? = none)
    (hQ : ∀ h', Heap.ExtBut it s.heap h' → Q none { s with heap := h' }) : wpAny (model prog w) A (pyNext (.ref e)) Q E s := by
  have hT : s.TypeIs (.ref e) "enumerate" := ⟨_, he, rfl⟩
  unfold pyNext
  refine wpAny_bind (wpAny_attempt (wpAny_callSpecial?_slot (name := Str.ofString "__next__") hT F.slot_enumerate_next
    (wpAny_call_entry F.slot_enumerate_next hT F.entry_enumerate_next ?_ (F.args_enumerate_next_1 _))))
  show wpAny _ _ (field (.ref e) 2 >>= _) _ _ _
  refine wpAny_bind (wpAny_field he rfl (x := .ref it) rfl ?_)
  refine wpAny_bind (wpAny_nextOf_tuple_end hh hit ht hx fun h' x he' hx' => ?_)
  obtain ⟨o, ho, hc⟩ := hx'
  refine wpAny_bind (wpAny_isInstance (T := "StopIteration") (b := true) ⟨o, ho, hc⟩ isSubtype_stop ?_)
  exact wpAny_pure (hQ _ he')
end
/-- the tuple at a, each item in a new pair -/
def Itet (K : PySem.W.Frag) (a : Addr) : It :=
  ⟨fun i H => ∃ (xs : List V) (x : V), SqT K H a xs ∧ xs[i]? = some x, fun i H v H' => ∃ T x, v = .ref T ∧ H T = none ∧ H' = upd H T (.tup [.int (i : Nat), x]) ∧ ∀ xs, SqT K H a xs → xs[i]? = some x, fun i H => ∃ xs : List V, SqT K H a xs ∧ xs.length ≤ i⟩
theorem turn_enumT {P : Program} {w : World} {K : PySem.W.Frag} {elts : List Expr} {kk : Nat} {tpos : Pos} (a e it : Addr) :
    Turn P w K (.Tuple elts kk tpos) (Itet K a) [e, it] e (fun i h => (∃ old, IsEnum h e it ((i : Nat) : Int) old) ∧ h.IsTupleIter it a i ∧ e ≠ it) where
  mem := by simp
  obj := fun i h st b hb => by
    obtain ⟨⟨old, he⟩, ⟨o, ho, hc, hd⟩, _⟩ := st
    have e' : b = e ∨ b = it := by simpa using hb
    rcases e' with z | z
    · rw [z]; exact ⟨_, he, fun v q => nomatch q⟩
    · rw [z]; exact ⟨o, ho, fun v q => by rw [hd] at q; cases q⟩
  keep := fun i h h' st k => let ⟨⟨old, he⟩, hi, hne⟩ := st; ⟨⟨old, k e (by simp) _ he⟩, hi.at fun o q => k it (by simp) o q, hne⟩
  item := by
    intro X hP hw hK hc i pins s σ H E I hf st hg
    subst hP hw hK
    obtain ⟨⟨old, he⟩, hit, hne⟩ := st
    obtain ⟨xs, x, hq, hx⟩ := hg
    obtain ⟨its, rv, p, hz⟩ := I.tuple hq
    obtain ⟨u, hu, ru⟩ := rv.get hx
    have hel : e < s.heap.objs.size := Heap.lt_size he
    have hil : it < s.heap.objs.size := by obtain ⟨_, q, _⟩ := hit; exact Heap.lt_size q
    have hai : a ≠ it := by
      intro z
      subst z
      obtain ⟨o, q, c, _⟩ := hit
      obtain ⟨o2, q2, c2, _⟩ := (show s.heap.IsTuple a its.toArray from p)
      rw [q] at q2
      cases q2
      rw [c] at c2
      injection c2 with c3
      exact absurd c3 (by decide)
    have hae : a ≠ e := by
      intro z
      subst z
      obtain ⟨o2, q2, c2, _⟩ := (show s.heap.IsTuple a its.toArray from p)
      rw [he] at q2
      cases q2
      injection c2 with c3
      exact absurd c3 (by decide)
    have D := Draws.tuple (prog := X.prog) (w := X.w) (A := X.A.in1) (I.ok.hd hc) it a hai its.toArray
    have hlt : i < its.toArray.size := by
      have := (List.getElem?_eq_some_iff.mp hu).1
      simpa using this
    refine wpAny_pyNext_enum_itemD D he ⟨hit, p⟩ hlt hne (by simp [hne, hae.symm]) fun u' h' tk hP ho hst hT hsz hk => ?_
    have eu : u' = u := by
      have q1 : its.toArray[i]? = some u' := hP
      have q2 : its.toArray[i]? = some u := by simpa using hu
      rw [q1] at q2
      exact Option.some.inj q2
    subst eu
    have hit' := hst.1
    refine ⟨_, rfl, wpAny_letOwnedTupleGo_enum (s := { s with heap := h', toks := tk + 1 }) ho fun h'' he' sb => ?_⟩
    have hT2 : h''.get? s.heap.objs.size = some { cls := .type "tuple", data := .seq #[.int i tk, u'] } := (sb.2 _ (Nat.ne_of_gt hel)).trans hT
    have new : ObjOk X.prog X.w (upd H s.heap.objs.size (.tup [.int (i : Nat), x])) h'' s.heap.objs.size (.tup [.int (i : Nat), x]) :=
      ⟨by show 2 ≤ sizeLine; decide, [.int i tk, u'], .cons ⟨_, rfl⟩ (.cons ru .nil), ⟨_, hT2, rfl, _, rfl⟩⟩
    have I1 : Inv X pins σ (upd H s.heap.objs.size (.tup [.int (i : Nat), x])) { s with heap := h'', toks := tk + 1 } :=
      I.turnedNew (ch := [e, it]) (fun b ob hb q => (sb.2 b (fun z => hb (by simp [z]))).trans (hk b ob (fun z => hb (by simp [z])) (fun z => hb (by simp [z])) q)) hf (Nat.le_refl _) new
    refine ⟨.ref s.heap.objs.size, _, I1, rfl, ⟨_, x, rfl, I.hok.fresh (Nat.le_refl _), rfl, fun ys hy => by rw [I.tuple_inj hy hq]; exact hx⟩, ⟨⟨u', ?_⟩, hit'.at fun o q => (sb.2 it (Ne.symm hne)).trans q, hne⟩, fun b hb => ?_⟩
    · have e1 : ((i + 1 : Nat) : Int) = (i : Int) + 1 := by omega
      rw [e1]; exact he'
    · have hb' : b < s.heap.objs.size := by
        have e' : b = e ∨ b = it := by simpa using hb
        rcases e' with z | z
        · rw [z]; exact hel
        · rw [z]; exact hil
      rw [upd_ne (Nat.ne_of_lt hb')]
      exact (hf b hb).1
  done := by
    intro X hP hw hK hc i pins s σ H E I hf st hg
    subst hP hw hK
    obtain ⟨⟨old, he⟩, hit, hne⟩ := st
    obtain ⟨xs, hq, hx⟩ := hg
    obtain ⟨its, rv, p, hz⟩ := I.tuple hq
    obtain ⟨f0, f1, f2, f3, f4, f5⟩ := hf it (by simp)
    have hl := rv.length
    exact enum_endT (I.ok.hd hc) he hit p (by simp; omega) fun h' eb => ⟨rfl, I.turned (t' := s.toks) (fun b o hb q => eb b o hb q) f0 f1 f3 f4 f5⟩
  self := fun A i s Q E st h => let ⟨⟨_, he⟩, _⟩ := st; wpAny_pyIter_enum he h
def iEnumT (K : PySem.W.Frag) (ta : TA) : TI := fun σ H R => ta σ H fun vs H1 => ∃ a xs, vs = [.ref a] ∧ SqT K H1 a xs ∧ R (Itet K a) H1
theorem pi_enumT {X : Cx} {e : Expr} {ta : TA} {p pos tpos : Pos} {elts : List Expr} {kk : Nat} (hg : Gl X "enumerate") (hm : X.mg "enumerate" = none) (ha : PA X [e] ta) (hs : starEach [e] X.env = [(false, eval e X.env)] := by rfl) :
    PI X (.Tuple elts kk tpos) (.Call (.Name "enumerate" p) [e] [] pos) (iEnumT X.K ta) := by
  refine ⟨fun pins s σ H R I h => ?_⟩
  refine Call_ (ld_blt I hg hm boot_enumerate (PyProof.Rows.callWith_type1 (thn (ha.run pos pins s σ H _ I h) fun us s1 ⟨vs, H1, I1, r1, q1⟩ => ?_) hs rfl))
  obtain ⟨a, xs, ex, hq, q⟩ := q1
  subst ex
  cases r1 with
  | cons r rr =>
    cases rr
    cases r
    obtain ⟨its, rv, p', hz⟩ := I1.tuple hq
    refine enum_begins1 (begins_tuple a its.toArray) p' fun h' he hit hsz hk => wpAny_pyIter_enum he ?_
    have I2 : Inv X pins σ H1 { s1 with heap := h' } := I1.kept (t' := s1.toks) hk
    refine ⟨s1.heap.objs.size + 1, [s1.heap.objs.size + 1, s1.heap.objs.size], _, _, H1, rfl, I2, turn_enumT a (s1.heap.objs.size + 1) s1.heap.objs.size, ⟨⟨.none, he⟩, ⟨_, hit, rfl, rfl⟩, Nat.succ_ne_self _⟩, fun b hb => ?_, q⟩
    have e' : b = s1.heap.objs.size + 1 ∨ b = s1.heap.objs.size := by simpa using hb
    have hle : s1.heap.objs.size ≤ b := by
      rcases e' with z | z
      · rw [z]; exact Nat.le_add_right _ _
      · rw [z]; exact Nat.le_refl _
    exact I1.fpOk hle (I1.hok.fresh hle)
end Ey
set_option maxHeartbeats 4000000
namespace Ey
open PySem PySem.Spec PyProof.Rows L2
/-! ### a def that may be called within an except suite -/
structure FnT (P : Program) (w : World) (K : PySem.W.Frag) (mg : Str → Option Value) (base : Heap) (k : Nat) (f : Addr) (fd : FuncData) (ps : List Str) (sp : Sp) : Prop where
  len : ∀ vs H Q E, sp vs H Q E → vs.length = ps.length
  run : ∀ (A : Around) (outer : List Env) (s : Shared) (H : Hp) (args : Args) (us : List Value) (vs : List V) (Q : VK) (E : XK), L2H.RoomH k A → Env0 P w K mg base A outer s H → BindsTo s fd args (ps.zip us) → Vals vs us → sp vs H Q E →
    codeAny (model P w) A (.call (.ref f) args) (CR CX0 outer P w H s Q E) s
abbrev cxT (P : Program) (w : World) (K : PySem.W.Frag) (mg : Str → Option Value) (base : Heap) (N : List Str) (qual : Str) (scope : Scope) (f : Addr) (cd : Value) (A : Around) (outer : List Env) (s : Shared) (H : Hp) (E : XK) (p : Addr × Obj) : Cx := L2H.cxH CX0 P w K mg base N qual scope f cd A outer s H E p
section
variable {P : Program} {w : World} {K : PySem.W.Frag} {mg : Str → Option Value} {base : Heap}
theorem ok_T {x qual : Str} {st : Stmt} {f : Addr} {fd : FuncData} {N ps : List Str} {k : Nat} {sp : Sp} (F : Fun K x qual st f fd) (S : FnScope N ps (defScope st)) (len : ∀ vs H Q E, sp vs H Q E → vs.length = ps.length)
    (body : ∀ (cdv : Value) (A : Around) (outer : List Env) (s : Shared) (H : Hp) (vs : List V) (Q : VK) (E : XK) (p : Addr × Obj), L2H.RoomH k (A.deeper (envOfC qual (defScope st) s.heap.objs.size f cdv)) → sp vs H Q E →
      ∃ t, PSs (cxT P w K mg base N qual (defScope st) f cdv A outer s H E p) (defBody st) t ∧ t { nx := fun _ H' => Q .non H', rt := Q } (start N vs) H) : FnT P w K mg base (k + 1) f fd ps sp := by
  obtain ⟨oc, od, kV, doc, pm, an, cdv, ct, osl, rfl, lk, code⟩ := F.ex
  refine ⟨len, fun A outer s H args us vs Q E hr e0 hb rv hsp => ?_⟩
  have inK : K.In s.heap := e0.mod.kin.keeps fun b o e => (e0.bs b o e).1
  have noL : s.heap.NoLimit := e0.mod.nolimit.keeps fun b o e => (e0.bs b o e).1
  have fB := e0.mod.kin _ _ lk
  have pin : L2H.PinOk outer H s (f, _) := ⟨inK _ _ lk, (e0.bs f _ fB).2, (fun hm => nomatch (fB.symm.trans (e0.funs.mem hm).1)), (fun v z => nomatch z)⟩
  have kinds : ∀ y ∈ ps.zip us, (defScope st).names.lookup y.1 = some .local ∨ ((defScope st).names.lookup y.1 = some .cell ∧ ((cellsFrom (s.heap.objs.size + 1) (defScope st).names []).lookup y.1).isSome = true) := fun ⟨n, z⟩ hy => by
    rcases S.par n (List.of_mem_zip hy).1 with q | q
    · exact .inl q
    · exact .inr ⟨q, PySem.W.cellsFrom_some _ _ _ (.inl q)⟩
  refine codeAny_call_function hr.depth (inK _ _ lk) rfl S.co S.gen rfl (PySem.W.codeRec_of inK code) (hb _ _ _ _ ?_)
  refine wpAny_newFunctionEnv_cells (binds := ps.zip us) S.kind kinds fun env he s1 xc => ?_
  subst he
  refine ⟨noL.keeps xc.toInCall.keep, codeAny_func ?_⟩
  obtain ⟨t, dv, rd⟩ := body cdv A outer s H vs Q E (f, _) (hr.deeper _) hsp
  have I := L2H.inv_startH (CX := CX0) (E := E) (P := P) (w := w) (K := K) (mg := mg) (base := base) (N := N) (ps := ps) (A := A) (vs := vs) (us := us) S pin e0 (len _ _ _ _ hsp) rv xc
  refine wpAny_mono (dv.run [] s1 (start N vs) H _ I rd) (fun fl s' hs => ?_) fun e s' hs => hs
  cases fl with
  | ret z =>
    obtain ⟨y, σ', H', J, ry, q⟩ := hs
    exact ⟨y, H', J.os, J.bare, J.base, J.hok, ry, q⟩
  | next =>
    obtain ⟨σ', H', J, q⟩ := hs
    exact ⟨V.non, H', J.os, J.bare, J.base, J.hok, rfl, q⟩
  | brk =>
    obtain ⟨_, _, _, q⟩ := hs
    exact q.elim
  | cont =>
    obtain ⟨_, _, _, q⟩ := hs
    exact q.elim
end
section
variable {X : Cx} {k : Nat} {f : Addr} {fd : FuncData} {ps : List Str} {sp : Sp} {x : Str} {e : Expr} {es : List Expr} {t : TA} {p pos : Pos} {a : Addr} {oe : Obj} {pn : List (Addr × Obj)}
theorem pe_callX (F : FnT X.prog X.w X.K X.mg X.base k f fd ps sp) (hr : Room k X.A) (ha0 : X.base.get? a = none) (haf : a ∉ X.fs) (hg : Gl X x) (hm : X.mg x = some (.ref f)) (hk : PySem.W.keepIn X.K (.ref f) = true) (hb : Binds X.K fd ps [])
    (hfld : ∃ vs, oe.data = .fields vs) (ha : PA (X.suite a ((a, oe) :: pn)) (e :: es) t) 
    (hdb : (x == ("__debug__" : Str)) = false := by decide) (he : starEach (e :: es) X.env = (false, eval e X.env) :: starEach es X.env := by rfl) (hpl : (backTo pos (starEach es X.env)).any (·.1) = false := by rfl) :
    PE (X.suite a ((a, oe) :: pn)) (.Call (.Name x p) (e :: es) [] pos) (tCallX a oe sp t) := by
  refine ⟨fun pins s σ H Q I h => ?_⟩
  refine wpAny_Call_Name_kw (ld_glob I hg hm ?_ hdb)
  refine PySem.W.callWith_K (h₀ := X.base) I.ok.mod.kin hk (thn (ha.run pos pins s σ H _ I h) fun us s1 ⟨vs, H1, I1, r, q⟩ => ⟨I1.kIn, ?_⟩) he hpl
  have pin := I1.pin (a, oe) (List.mem_append_left _ List.mem_cons_self)
  have e0 := I1.env0
  have nofr : a ∉ frs (X.suite a ((a, oe) :: pn)).stack := fun hmm => (List.mem_cons.mp (I1.stkSub a hmm)).elim pin.2.2.1 pin.2.2.2.1
  have okx : HOk X.prog X.w (upd H1 a (exo a oe)) s1.heap := fun b z ez => by
    by_cases hba : b = a
    · subst hba
      rw [upd_same] at ez
      cases ez
      exact ⟨pin.1, ⟨_, pin.1⟩, fun h1 h2 q1 q2 => q2 _ q1⟩
    · rw [upd_ne hba] at ez
      exact (e0.hok b z ez).stay (fun c v _ q => q) (fun c q => by rw [upd_ne (ne_of_none q pin.2.1)]; exact q) fun c xs q => by rw [upd_ne (ne_of_none q pin.2.1)]; exact q
  have e1 : Env0 X.prog X.w X.K X.mg X.base (X.suite a ((a, oe) :: pn)).A (X.suite a ((a, oe) :: pn)).stack s1 (upd H1 a (exo a oe)) :=
    ⟨e0.frames, e0.mod, fun b o eb => ⟨(e0.bs b o eb).1, (upd_ne (fun q => by subst q; have eb' : X.base.get? b = some o := eb; rw [ha0] at eb'; cases eb')).trans (e0.bs b o eb).2⟩, e0.bsz, e0.funs,
      fun b hbm => (upd_ne (fun (q : b = a) => nofr (by rw [← q]; exact hbm))).trans (e0.frf b hbm), okx, e0.bare⟩
  have hl : us.length = ps.length := by rw [← r.length]; exact F.len _ _ _ _ q
  have bb := hb s1 us I1.kIn (by rw [List.append_nil]; exact hl)
  rw [List.append_nil] at bb
  refine wpAny_call (codeAny_mono (F.run _ _ s1 _ ⟨us, []⟩ us vs _ _ (show L2H.RoomH k (X.suite a ((a, oe) :: pn)).A from ⟨hr.dp, hr.un⟩) e1 bb r q) fun rr s' hq => ?_)
  cases rr with
  | error u => exact hq.elim
  | ok fl =>
    cases fl with
    | next => exact hq.elim
    | brk => exact hq.elim
    | cont => exact hq.elim
    | ret u =>
      obtain ⟨v, H2, os, bare, un, hok2, rv, ea, qq⟩ := hq
      have same : s'.heap.get? a = some oe := (hok2 a _ ea).1
      have un2 : Un (frs (X.suite a ((a, oe) :: pn)).stack) [] H1 (del H2 a) s1.heap s'.heap := by
        refine ⟨fun b o q1 q2 q3 q4 => ?_, fun b o q1 q2 q3 q4 => ?_, fun b o q1 q2 q3 => ?_, un.there, fun b xs q1 => ?_, fun b o u q1 => ?_, fun b ps q1 => ?_⟩
        · by_cases hba : b = a
          · subst hba
            rw [pin.1] at q1
            cases q1
            exact same
          · exact un.keep b o q1 ((upd_ne hba).trans q2) q3 q4
        · exact un.slot b o q1 ((upd_ne (fun (q : b = a) => nofr (by rw [← q]; exact q3))).trans q2) q3 q4
        · by_cases hba : b = a
          · subst hba
            exact del_same
          · exact (del_ne hba).trans (un.free b o q1 ((upd_ne hba).trans q2) q3)
        · have hba := ne_of_none q1 pin.2.1
          exact (del_ne hba).trans (un.tups b xs ((upd_ne hba).trans q1))
        · have hba := ne_of_none q1 pin.2.1
          exact (del_ne hba).trans (un.frzs b o u ((upd_ne hba).trans q1))
        · have hba := ne_of_none q1 pin.2.1
          obtain ⟨m, e⟩ := un.tbls b ps ((upd_ne hba).trans q1)
          exact ⟨m, (del_ne hba).trans e⟩
      have ok3 : HOk X.prog X.w (del H2 a) s'.heap := fun b z ez => by
        have hba : b ≠ a := fun q => by
          rw [q, del_same] at ez
          cases ez
        rw [del_ne hba] at ez
        refine (hok2 b z ez).stay (fun c v _ q => q) (fun c q => ?_) fun c xs q => ?_
        · have : c ≠ a := fun y => by
            rw [y, ea] at q
            cases q
          exact (del_ne this).trans q
        · have : c ≠ a := fun y => by
            rw [y, ea] at q
            cases q
          exact (del_ne this).trans q
      exact ⟨v, _, I1.call' os un2 ok3 bare (fun b hb => absurd hb List.not_mem_nil), rv, qq⟩
end
end Ey
set_option maxHeartbeats 4000000
namespace Ey
open PySem PySem.Spec PyProof.Rows L2
abbrev sCls : Stmt := topS 33
abbrev sOwn : Stmt := topS 34
/-- isinstance(e, C_j), e an error in the slot s -/
def tIsE (C : Nat → Addr) (s j : Nat) : TE := fun σ H Q => ∃ x i v y, σ[s]? = some (some x) ∧ i < 24 ∧ ErrAt H C i x v ∧ y = V.bl (decide (i = j)) ∧ Q y H
theorem pe_isE {X : Cx} {e : Expr} {te : TE} {C : Nat → Addr} {s j : Nat} (h : PE X e te) (c : ∀ σ H Q, tIsE C s j σ H Q → te σ H Q) : PE X e (tIsE C s j) := ⟨fun pins s σ H Q I q => h.run pins s σ H Q I (c σ H Q q)⟩
/-- of which class an error of the class i is -/
def ownL (i : Nat) : List V := (List.range 24).map fun j => .bl (decide (i = j))
def ownD (i : Nat) : List PyData := (List.range 24).map fun j => .bool (decide (i = j))
theorem dp_bls {K : PySem.W.Frag} {H : Hp} (g : Nat → Bool) : ∀ ns : List Nat, DpAll K H (ns.map fun j => V.bl (g j)) (ns.map fun j => PyData.bool (g j))
  | [] => .nil
  | n :: r => .cons (.bl _) (dp_bls g r)
theorem own_lay (i : Nat) : (PyData.list (ownD i)).canLay0 = true := by
  have h : ∀ (g : Nat → Bool) (ns : List Nat), PyData.canLayAll0 (ns.map fun j => PyData.bool (g j)) = true := fun g ns => by
    induction ns with
    | nil => rfl
    | cons n r ih =>
      show (PyData.canLay0 (.bool (g n)) && PyData.canLayAll0 (r.map fun j => PyData.bool (g j))) = true
      rw [ih]
      rfl
  exact h (fun j => decide (i = j)) (List.range 24)
theorem own_shaped (i : Nat) : SeqAt.shaped (.list (ownD i)) = true := by
  have h : ∀ (g : Nat → Bool) (ns : List Nat), PyData.canLayAll0 (ns.map fun j => PyData.bool (g j)) = true ∧ PyData.depthAll (ns.map fun j => PyData.bool (g j)) = 0 := fun g ns => by
    induction ns with
    | nil => exact ⟨rfl, rfl⟩
    | cons n r ih =>
      refine ⟨?_, ?_⟩
      · show (PyData.canLay0 (.bool (g n)) && PyData.canLayAll0 (r.map fun j => PyData.bool (g j))) = true
        rw [ih.1]
        rfl
      · show max 0 (PyData.depthAll (r.map fun j => PyData.bool (g j))) = 0
        rw [ih.2]
        rfl
  obtain ⟨a, b⟩ := h (fun j => decide (i = j)) (List.range 24)
  show (PyData.canLayAll0 (ownD i) && decide (PyData.depthAll (ownD i) + 1 ≤ 64)) = true
  unfold ownD
  rw [a, b]
  rfl
def spCls (C : Nat → Addr) : Sp := fun vs H Q _ => ∃ x i v, vs = [x] ∧ i < 24 ∧ ErrAt H C i x v ∧ ∀ (p : Addr) (H' : Hp), H' p = some (.lst (ownL i)) → Kp [] H H' → H p = none → Q (.ref p) H'
def spOwn (C : Nat → Addr) : Sp := fun vs H Q _ => ∃ (x : V) (i : Nat) (v : V), vs = [.int i, x] ∧ i < 24 ∧ ErrAt H C i x v ∧ ∀ H' : Hp, Kp [] H H' → Q (.bl true) H'
theorem ext_end2 {H G : Hp} {l p : Addr} {xs zs : List V} (hl : G l = some (.lst xs)) (kl : Kp [] H G) (nl : H l = none) (np : G p = none) :
    (upd (upd G p (.lst zs)) l (.lst (xs ++ zs))) l = some (.lst (xs ++ zs)) ∧ Kp [] H (upd (upd G p (.lst zs)) l (.lst (xs ++ zs))) := by
  exact ⟨upd_same, (kl.trans (.new np)).own nl⟩
section
variable {Pr : Program} {w : World} {K : PySem.W.Frag} {mg : Str → Option Value} {base : Heap} {C f : Nat → Addr} {CE : Addr}
theorem scCls : FnScope ["_law_error", "_law_found"] ["_law_error"] (defScope sCls) := ⟨rfl, rfl, rfl, by decide +kernel, rfl, by decide +kernel, by decide +kernel⟩
theorem scOwn : FnScope ["_law_at", "_law_error", "_law_place"] ["_law_at", "_law_error"] (defScope sOwn) := ⟨rfl, rfl, rfl, by decide +kernel, rfl, by decide +kernel, by decide +kernel⟩
theorem ok_cls {fa : Addr} {fd : FuncData} (F : Fun K "_law_classes" "_law_classes" sCls fa fd) (T : EX K mg C f CE) (B : BI mg) : FnOk Pr w K mg base CX0 3 fa fd ["_law_error"] (spCls C) := by
  refine F.ok scCls (fun vs H Q E h => ?_) (fun cdv Ar outer s H vs Q E hr h => ?_)
  · obtain ⟨x, i, v, rfl, _⟩ := h
    rfl
  · obtain ⟨x, i, v, rfl, hi, a, k⟩ := h
    refine ⟨_, pss_cons (ps_set (i := 1) scCls.nd rfl (.inl rfl) (pe_lst pa_nil))
      (pss_cons (ps_expr (pe_bm PySem.F.plainAttrs_list PySem.F.slot_list_extend PySem.F.type_list_extend mt_extend (pv 1) (pa_cons (pe_lst (pa_cons (pe_isE (C := C) (s := 0) (j := 0) (pe_callB call_isW (by rfl) T.isi (by decide +kernel) (pa_cons (pv 0) (pa_cons (pe_glob (v := .ref (C 0)) (by rfl) T.t0.gC rfl) pa_nil))) (fun σ H Q ⟨x, i, v, y, e1, hi, ⟨e, d, ex, h2, h3⟩, ey, q⟩ => by subst ex; subst ey; exact ⟨_, e1, e, C i, d, _, .ref (C 0), .ref (C 0), _, rfl, T.says i hi, h2, h3, fun u r => r, T.kit i 0 hi (by decide), q⟩))
          (pa_cons (pe_isE (C := C) (s := 0) (j := 1) (pe_callB call_isW (by rfl) T.isi (by decide +kernel) (pa_cons (pv 0) (pa_cons (pe_glob (v := .ref (C 1)) (by rfl) T.t1.gC rfl) pa_nil))) (fun σ H Q ⟨x, i, v, y, e1, hi, ⟨e, d, ex, h2, h3⟩, ey, q⟩ => by subst ex; subst ey; exact ⟨_, e1, e, C i, d, _, .ref (C 1), .ref (C 1), _, rfl, T.says i hi, h2, h3, fun u r => r, T.kit i 1 hi (by decide), q⟩))
          (pa_cons (pe_isE (C := C) (s := 0) (j := 2) (pe_callB call_isW (by rfl) T.isi (by decide +kernel) (pa_cons (pv 0) (pa_cons (pe_glob (v := .ref (C 2)) (by rfl) T.t2.gC rfl) pa_nil))) (fun σ H Q ⟨x, i, v, y, e1, hi, ⟨e, d, ex, h2, h3⟩, ey, q⟩ => by subst ex; subst ey; exact ⟨_, e1, e, C i, d, _, .ref (C 2), .ref (C 2), _, rfl, T.says i hi, h2, h3, fun u r => r, T.kit i 2 hi (by decide), q⟩))
          (pa_cons (pe_isE (C := C) (s := 0) (j := 3) (pe_callB call_isW (by rfl) T.isi (by decide +kernel) (pa_cons (pv 0) (pa_cons (pe_glob (v := .ref (C 3)) (by rfl) T.t3.gC rfl) pa_nil))) (fun σ H Q ⟨x, i, v, y, e1, hi, ⟨e, d, ex, h2, h3⟩, ey, q⟩ => by subst ex; subst ey; exact ⟨_, e1, e, C i, d, _, .ref (C 3), .ref (C 3), _, rfl, T.says i hi, h2, h3, fun u r => r, T.kit i 3 hi (by decide), q⟩))
          pa_nil))))) pa_nil)))
      (pss_cons (ps_expr (pe_bm PySem.F.plainAttrs_list PySem.F.slot_list_extend PySem.F.type_list_extend mt_extend (pv 1) (pa_cons (pe_lst (pa_cons (pe_isE (C := C) (s := 0) (j := 4) (pe_callB call_isW (by rfl) T.isi (by decide +kernel) (pa_cons (pv 0) (pa_cons (pe_glob (v := .ref (C 4)) (by rfl) T.t4.gC rfl) pa_nil))) (fun σ H Q ⟨x, i, v, y, e1, hi, ⟨e, d, ex, h2, h3⟩, ey, q⟩ => by subst ex; subst ey; exact ⟨_, e1, e, C i, d, _, .ref (C 4), .ref (C 4), _, rfl, T.says i hi, h2, h3, fun u r => r, T.kit i 4 hi (by decide), q⟩))
          (pa_cons (pe_isE (C := C) (s := 0) (j := 5) (pe_callB call_isW (by rfl) T.isi (by decide +kernel) (pa_cons (pv 0) (pa_cons (pe_glob (v := .ref (C 5)) (by rfl) T.t5.gC rfl) pa_nil))) (fun σ H Q ⟨x, i, v, y, e1, hi, ⟨e, d, ex, h2, h3⟩, ey, q⟩ => by subst ex; subst ey; exact ⟨_, e1, e, C i, d, _, .ref (C 5), .ref (C 5), _, rfl, T.says i hi, h2, h3, fun u r => r, T.kit i 5 hi (by decide), q⟩))
          (pa_cons (pe_isE (C := C) (s := 0) (j := 6) (pe_callB call_isW (by rfl) T.isi (by decide +kernel) (pa_cons (pv 0) (pa_cons (pe_glob (v := .ref (C 6)) (by rfl) T.t6.gC rfl) pa_nil))) (fun σ H Q ⟨x, i, v, y, e1, hi, ⟨e, d, ex, h2, h3⟩, ey, q⟩ => by subst ex; subst ey; exact ⟨_, e1, e, C i, d, _, .ref (C 6), .ref (C 6), _, rfl, T.says i hi, h2, h3, fun u r => r, T.kit i 6 hi (by decide), q⟩))
          (pa_cons (pe_isE (C := C) (s := 0) (j := 7) (pe_callB call_isW (by rfl) T.isi (by decide +kernel) (pa_cons (pv 0) (pa_cons (pe_glob (v := .ref (C 7)) (by rfl) T.t7.gC rfl) pa_nil))) (fun σ H Q ⟨x, i, v, y, e1, hi, ⟨e, d, ex, h2, h3⟩, ey, q⟩ => by subst ex; subst ey; exact ⟨_, e1, e, C i, d, _, .ref (C 7), .ref (C 7), _, rfl, T.says i hi, h2, h3, fun u r => r, T.kit i 7 hi (by decide), q⟩))
          pa_nil))))) pa_nil)))
      (pss_cons (ps_expr (pe_bm PySem.F.plainAttrs_list PySem.F.slot_list_extend PySem.F.type_list_extend mt_extend (pv 1) (pa_cons (pe_lst (pa_cons (pe_isE (C := C) (s := 0) (j := 8) (pe_callB call_isW (by rfl) T.isi (by decide +kernel) (pa_cons (pv 0) (pa_cons (pe_glob (v := .ref (C 8)) (by rfl) T.t8.gC rfl) pa_nil))) (fun σ H Q ⟨x, i, v, y, e1, hi, ⟨e, d, ex, h2, h3⟩, ey, q⟩ => by subst ex; subst ey; exact ⟨_, e1, e, C i, d, _, .ref (C 8), .ref (C 8), _, rfl, T.says i hi, h2, h3, fun u r => r, T.kit i 8 hi (by decide), q⟩))
          (pa_cons (pe_isE (C := C) (s := 0) (j := 9) (pe_callB call_isW (by rfl) T.isi (by decide +kernel) (pa_cons (pv 0) (pa_cons (pe_glob (v := .ref (C 9)) (by rfl) T.t9.gC rfl) pa_nil))) (fun σ H Q ⟨x, i, v, y, e1, hi, ⟨e, d, ex, h2, h3⟩, ey, q⟩ => by subst ex; subst ey; exact ⟨_, e1, e, C i, d, _, .ref (C 9), .ref (C 9), _, rfl, T.says i hi, h2, h3, fun u r => r, T.kit i 9 hi (by decide), q⟩))
          (pa_cons (pe_isE (C := C) (s := 0) (j := 10) (pe_callB call_isW (by rfl) T.isi (by decide +kernel) (pa_cons (pv 0) (pa_cons (pe_glob (v := .ref (C 10)) (by rfl) T.t10.gC rfl) pa_nil))) (fun σ H Q ⟨x, i, v, y, e1, hi, ⟨e, d, ex, h2, h3⟩, ey, q⟩ => by subst ex; subst ey; exact ⟨_, e1, e, C i, d, _, .ref (C 10), .ref (C 10), _, rfl, T.says i hi, h2, h3, fun u r => r, T.kit i 10 hi (by decide), q⟩))
          (pa_cons (pe_isE (C := C) (s := 0) (j := 11) (pe_callB call_isW (by rfl) T.isi (by decide +kernel) (pa_cons (pv 0) (pa_cons (pe_glob (v := .ref (C 11)) (by rfl) T.t11.gC rfl) pa_nil))) (fun σ H Q ⟨x, i, v, y, e1, hi, ⟨e, d, ex, h2, h3⟩, ey, q⟩ => by subst ex; subst ey; exact ⟨_, e1, e, C i, d, _, .ref (C 11), .ref (C 11), _, rfl, T.says i hi, h2, h3, fun u r => r, T.kit i 11 hi (by decide), q⟩))
          pa_nil))))) pa_nil)))
      (pss_cons (ps_expr (pe_bm PySem.F.plainAttrs_list PySem.F.slot_list_extend PySem.F.type_list_extend mt_extend (pv 1) (pa_cons (pe_lst (pa_cons (pe_isE (C := C) (s := 0) (j := 12) (pe_callB call_isW (by rfl) T.isi (by decide +kernel) (pa_cons (pv 0) (pa_cons (pe_glob (v := .ref (C 12)) (by rfl) T.t12.gC rfl) pa_nil))) (fun σ H Q ⟨x, i, v, y, e1, hi, ⟨e, d, ex, h2, h3⟩, ey, q⟩ => by subst ex; subst ey; exact ⟨_, e1, e, C i, d, _, .ref (C 12), .ref (C 12), _, rfl, T.says i hi, h2, h3, fun u r => r, T.kit i 12 hi (by decide), q⟩))
          (pa_cons (pe_isE (C := C) (s := 0) (j := 13) (pe_callB call_isW (by rfl) T.isi (by decide +kernel) (pa_cons (pv 0) (pa_cons (pe_glob (v := .ref (C 13)) (by rfl) T.t13.gC rfl) pa_nil))) (fun σ H Q ⟨x, i, v, y, e1, hi, ⟨e, d, ex, h2, h3⟩, ey, q⟩ => by subst ex; subst ey; exact ⟨_, e1, e, C i, d, _, .ref (C 13), .ref (C 13), _, rfl, T.says i hi, h2, h3, fun u r => r, T.kit i 13 hi (by decide), q⟩))
          (pa_cons (pe_isE (C := C) (s := 0) (j := 14) (pe_callB call_isW (by rfl) T.isi (by decide +kernel) (pa_cons (pv 0) (pa_cons (pe_glob (v := .ref (C 14)) (by rfl) T.t14.gC rfl) pa_nil))) (fun σ H Q ⟨x, i, v, y, e1, hi, ⟨e, d, ex, h2, h3⟩, ey, q⟩ => by subst ex; subst ey; exact ⟨_, e1, e, C i, d, _, .ref (C 14), .ref (C 14), _, rfl, T.says i hi, h2, h3, fun u r => r, T.kit i 14 hi (by decide), q⟩))
          (pa_cons (pe_isE (C := C) (s := 0) (j := 15) (pe_callB call_isW (by rfl) T.isi (by decide +kernel) (pa_cons (pv 0) (pa_cons (pe_glob (v := .ref (C 15)) (by rfl) T.t15.gC rfl) pa_nil))) (fun σ H Q ⟨x, i, v, y, e1, hi, ⟨e, d, ex, h2, h3⟩, ey, q⟩ => by subst ex; subst ey; exact ⟨_, e1, e, C i, d, _, .ref (C 15), .ref (C 15), _, rfl, T.says i hi, h2, h3, fun u r => r, T.kit i 15 hi (by decide), q⟩))
          pa_nil))))) pa_nil)))
      (pss_cons (ps_expr (pe_bm PySem.F.plainAttrs_list PySem.F.slot_list_extend PySem.F.type_list_extend mt_extend (pv 1) (pa_cons (pe_lst (pa_cons (pe_isE (C := C) (s := 0) (j := 16) (pe_callB call_isW (by rfl) T.isi (by decide +kernel) (pa_cons (pv 0) (pa_cons (pe_glob (v := .ref (C 16)) (by rfl) T.t16.gC rfl) pa_nil))) (fun σ H Q ⟨x, i, v, y, e1, hi, ⟨e, d, ex, h2, h3⟩, ey, q⟩ => by subst ex; subst ey; exact ⟨_, e1, e, C i, d, _, .ref (C 16), .ref (C 16), _, rfl, T.says i hi, h2, h3, fun u r => r, T.kit i 16 hi (by decide), q⟩))
          (pa_cons (pe_isE (C := C) (s := 0) (j := 17) (pe_callB call_isW (by rfl) T.isi (by decide +kernel) (pa_cons (pv 0) (pa_cons (pe_glob (v := .ref (C 17)) (by rfl) T.t17.gC rfl) pa_nil))) (fun σ H Q ⟨x, i, v, y, e1, hi, ⟨e, d, ex, h2, h3⟩, ey, q⟩ => by subst ex; subst ey; exact ⟨_, e1, e, C i, d, _, .ref (C 17), .ref (C 17), _, rfl, T.says i hi, h2, h3, fun u r => r, T.kit i 17 hi (by decide), q⟩))
          (pa_cons (pe_isE (C := C) (s := 0) (j := 18) (pe_callB call_isW (by rfl) T.isi (by decide +kernel) (pa_cons (pv 0) (pa_cons (pe_glob (v := .ref (C 18)) (by rfl) T.t18.gC rfl) pa_nil))) (fun σ H Q ⟨x, i, v, y, e1, hi, ⟨e, d, ex, h2, h3⟩, ey, q⟩ => by subst ex; subst ey; exact ⟨_, e1, e, C i, d, _, .ref (C 18), .ref (C 18), _, rfl, T.says i hi, h2, h3, fun u r => r, T.kit i 18 hi (by decide), q⟩))
          (pa_cons (pe_isE (C := C) (s := 0) (j := 19) (pe_callB call_isW (by rfl) T.isi (by decide +kernel) (pa_cons (pv 0) (pa_cons (pe_glob (v := .ref (C 19)) (by rfl) T.t19.gC rfl) pa_nil))) (fun σ H Q ⟨x, i, v, y, e1, hi, ⟨e, d, ex, h2, h3⟩, ey, q⟩ => by subst ex; subst ey; exact ⟨_, e1, e, C i, d, _, .ref (C 19), .ref (C 19), _, rfl, T.says i hi, h2, h3, fun u r => r, T.kit i 19 hi (by decide), q⟩))
          pa_nil))))) pa_nil)))
      (pss_cons (ps_expr (pe_bm PySem.F.plainAttrs_list PySem.F.slot_list_extend PySem.F.type_list_extend mt_extend (pv 1) (pa_cons (pe_lst (pa_cons (pe_isE (C := C) (s := 0) (j := 20) (pe_callB call_isW (by rfl) T.isi (by decide +kernel) (pa_cons (pv 0) (pa_cons (pe_glob (v := .ref (C 20)) (by rfl) T.t20.gC rfl) pa_nil))) (fun σ H Q ⟨x, i, v, y, e1, hi, ⟨e, d, ex, h2, h3⟩, ey, q⟩ => by subst ex; subst ey; exact ⟨_, e1, e, C i, d, _, .ref (C 20), .ref (C 20), _, rfl, T.says i hi, h2, h3, fun u r => r, T.kit i 20 hi (by decide), q⟩))
          (pa_cons (pe_isE (C := C) (s := 0) (j := 21) (pe_callB call_isW (by rfl) T.isi (by decide +kernel) (pa_cons (pv 0) (pa_cons (pe_glob (v := .ref (C 21)) (by rfl) T.t21.gC rfl) pa_nil))) (fun σ H Q ⟨x, i, v, y, e1, hi, ⟨e, d, ex, h2, h3⟩, ey, q⟩ => by subst ex; subst ey; exact ⟨_, e1, e, C i, d, _, .ref (C 21), .ref (C 21), _, rfl, T.says i hi, h2, h3, fun u r => r, T.kit i 21 hi (by decide), q⟩))
          (pa_cons (pe_isE (C := C) (s := 0) (j := 22) (pe_callB call_isW (by rfl) T.isi (by decide +kernel) (pa_cons (pv 0) (pa_cons (pe_glob (v := .ref (C 22)) (by rfl) T.t22.gC rfl) pa_nil))) (fun σ H Q ⟨x, i, v, y, e1, hi, ⟨e, d, ex, h2, h3⟩, ey, q⟩ => by subst ex; subst ey; exact ⟨_, e1, e, C i, d, _, .ref (C 22), .ref (C 22), _, rfl, T.says i hi, h2, h3, fun u r => r, T.kit i 22 hi (by decide), q⟩))
          (pa_cons (pe_isE (C := C) (s := 0) (j := 23) (pe_callB call_isW (by rfl) T.isi (by decide +kernel) (pa_cons (pv 0) (pa_cons (pe_glob (v := .ref (C 23)) (by rfl) T.t23.gC rfl) pa_nil))) (fun σ H Q ⟨x, i, v, y, e1, hi, ⟨e, d, ex, h2, h3⟩, ey, q⟩ => by subst ex; subst ey; exact ⟨_, e1, e, C i, d, _, .ref (C 23), .ref (C 23), _, rfl, T.says i hi, h2, h3, fun u r => r, T.kit i 23 hi (by decide), q⟩))
          pa_nil))))) pa_nil)))
      (pss_one (ps_ret (pv 1))))))))), ?_⟩
    refine ⟨Nat.zero_le _, fun l nl => ?_⟩
    have hl : (upd H l (.lst [])) l = some (.lst []) := upd_same
    have kl : Kp [] H (upd H l (.lst [])) := .new nl
    generalize upd H l (.lst []) = G at hl kl
    obtain ⟨g, hg⟩ : ∃ g : Nat → V, ∀ j, g j = V.bl (decide (i = j)) := ⟨_, fun _ => rfl⟩
    refine ⟨_, rfl, .inl ⟨rfl, _, sql_of hl⟩, ?_⟩
    refine ⟨x, i, v, _, rfl, hi, a.kp kl, hg 0, ?_⟩
    refine ⟨x, i, v, _, rfl, hi, a.kp kl, hg 1, ?_⟩
    refine ⟨x, i, v, _, rfl, hi, a.kp kl, hg 2, ?_⟩
    refine ⟨x, i, v, _, rfl, hi, a.kp kl, hg 3, ?_⟩
    refine ⟨by show 4 ≤ sizeLine; decide, fun p0 np => ?_⟩
    obtain ⟨hl3, kl3⟩ := ext_end2 (zs := [g 0, g 1, g 2, g 3]) hl kl nl np
    refine ⟨l, p0, [], [g 0, g 1, g 2, g 3], rfl, rfl, (upd_ne (ne_of_none hl np)).trans hl, upd_same, ?_, ?_⟩
    · show 4 ≤ sizeLine
      decide
    generalize upd (upd G p0 (.lst [g 0, g 1, g 2, g 3])) l (.lst ([] ++ [g 0, g 1, g 2, g 3])) = G0 at hl3 kl3 ⊢
    clear hl kl
    have hl := hl3
    have kl := kl3
    clear hl3 kl3
    refine ⟨_, rfl, .inl ⟨rfl, _, sql_of hl⟩, ?_⟩
    refine ⟨x, i, v, _, rfl, hi, a.kp kl, hg 4, ?_⟩
    refine ⟨x, i, v, _, rfl, hi, a.kp kl, hg 5, ?_⟩
    refine ⟨x, i, v, _, rfl, hi, a.kp kl, hg 6, ?_⟩
    refine ⟨x, i, v, _, rfl, hi, a.kp kl, hg 7, ?_⟩
    refine ⟨by show 4 ≤ sizeLine; decide, fun p1 np => ?_⟩
    obtain ⟨hl3, kl3⟩ := ext_end2 (zs := [g 4, g 5, g 6, g 7]) hl kl nl np
    refine ⟨l, p1, ([] ++ [g 0, g 1, g 2, g 3]), [g 4, g 5, g 6, g 7], rfl, rfl, (upd_ne (ne_of_none hl np)).trans hl, upd_same, ?_, ?_⟩
    · show 8 ≤ sizeLine
      decide
    generalize upd (upd G0 p1 (.lst [g 4, g 5, g 6, g 7])) l (.lst (([] ++ [g 0, g 1, g 2, g 3]) ++ [g 4, g 5, g 6, g 7])) = G1 at hl3 kl3 ⊢
    clear hl kl
    have hl := hl3
    have kl := kl3
    clear hl3 kl3
    refine ⟨_, rfl, .inl ⟨rfl, _, sql_of hl⟩, ?_⟩
    refine ⟨x, i, v, _, rfl, hi, a.kp kl, hg 8, ?_⟩
    refine ⟨x, i, v, _, rfl, hi, a.kp kl, hg 9, ?_⟩
    refine ⟨x, i, v, _, rfl, hi, a.kp kl, hg 10, ?_⟩
    refine ⟨x, i, v, _, rfl, hi, a.kp kl, hg 11, ?_⟩
    refine ⟨by show 4 ≤ sizeLine; decide, fun p2 np => ?_⟩
    obtain ⟨hl3, kl3⟩ := ext_end2 (zs := [g 8, g 9, g 10, g 11]) hl kl nl np
    refine ⟨l, p2, (([] ++ [g 0, g 1, g 2, g 3]) ++ [g 4, g 5, g 6, g 7]), [g 8, g 9, g 10, g 11], rfl, rfl, (upd_ne (ne_of_none hl np)).trans hl, upd_same, ?_, ?_⟩
    · show 12 ≤ sizeLine
      decide
    generalize upd (upd G1 p2 (.lst [g 8, g 9, g 10, g 11])) l (.lst ((([] ++ [g 0, g 1, g 2, g 3]) ++ [g 4, g 5, g 6, g 7]) ++ [g 8, g 9, g 10, g 11])) = G2 at hl3 kl3 ⊢
    clear hl kl
    have hl := hl3
    have kl := kl3
    clear hl3 kl3
    refine ⟨_, rfl, .inl ⟨rfl, _, sql_of hl⟩, ?_⟩
    refine ⟨x, i, v, _, rfl, hi, a.kp kl, hg 12, ?_⟩
    refine ⟨x, i, v, _, rfl, hi, a.kp kl, hg 13, ?_⟩
    refine ⟨x, i, v, _, rfl, hi, a.kp kl, hg 14, ?_⟩
    refine ⟨x, i, v, _, rfl, hi, a.kp kl, hg 15, ?_⟩
    refine ⟨by show 4 ≤ sizeLine; decide, fun p3 np => ?_⟩
    obtain ⟨hl3, kl3⟩ := ext_end2 (zs := [g 12, g 13, g 14, g 15]) hl kl nl np
    refine ⟨l, p3, ((([] ++ [g 0, g 1, g 2, g 3]) ++ [g 4, g 5, g 6, g 7]) ++ [g 8, g 9, g 10, g 11]), [g 12, g 13, g 14, g 15], rfl, rfl, (upd_ne (ne_of_none hl np)).trans hl, upd_same, ?_, ?_⟩
    · show 16 ≤ sizeLine
      decide
    generalize upd (upd G2 p3 (.lst [g 12, g 13, g 14, g 15])) l (.lst (((([] ++ [g 0, g 1, g 2, g 3]) ++ [g 4, g 5, g 6, g 7]) ++ [g 8, g 9, g 10, g 11]) ++ [g 12, g 13, g 14, g 15])) = G3 at hl3 kl3 ⊢
    clear hl kl
    have hl := hl3
    have kl := kl3
    clear hl3 kl3
    refine ⟨_, rfl, .inl ⟨rfl, _, sql_of hl⟩, ?_⟩
    refine ⟨x, i, v, _, rfl, hi, a.kp kl, hg 16, ?_⟩
    refine ⟨x, i, v, _, rfl, hi, a.kp kl, hg 17, ?_⟩
    refine ⟨x, i, v, _, rfl, hi, a.kp kl, hg 18, ?_⟩
    refine ⟨x, i, v, _, rfl, hi, a.kp kl, hg 19, ?_⟩
    refine ⟨by show 4 ≤ sizeLine; decide, fun p4 np => ?_⟩
    obtain ⟨hl3, kl3⟩ := ext_end2 (zs := [g 16, g 17, g 18, g 19]) hl kl nl np
    refine ⟨l, p4, (((([] ++ [g 0, g 1, g 2, g 3]) ++ [g 4, g 5, g 6, g 7]) ++ [g 8, g 9, g 10, g 11]) ++ [g 12, g 13, g 14, g 15]), [g 16, g 17, g 18, g 19], rfl, rfl, (upd_ne (ne_of_none hl np)).trans hl, upd_same, ?_, ?_⟩
    · show 20 ≤ sizeLine
      decide
    generalize upd (upd G3 p4 (.lst [g 16, g 17, g 18, g 19])) l (.lst ((((([] ++ [g 0, g 1, g 2, g 3]) ++ [g 4, g 5, g 6, g 7]) ++ [g 8, g 9, g 10, g 11]) ++ [g 12, g 13, g 14, g 15]) ++ [g 16, g 17, g 18, g 19])) = G4 at hl3 kl3 ⊢
    clear hl kl
    have hl := hl3
    have kl := kl3
    clear hl3 kl3
    refine ⟨_, rfl, .inl ⟨rfl, _, sql_of hl⟩, ?_⟩
    refine ⟨x, i, v, _, rfl, hi, a.kp kl, hg 20, ?_⟩
    refine ⟨x, i, v, _, rfl, hi, a.kp kl, hg 21, ?_⟩
    refine ⟨x, i, v, _, rfl, hi, a.kp kl, hg 22, ?_⟩
    refine ⟨x, i, v, _, rfl, hi, a.kp kl, hg 23, ?_⟩
    refine ⟨by show 4 ≤ sizeLine; decide, fun p5 np => ?_⟩
    obtain ⟨hl3, kl3⟩ := ext_end2 (zs := [g 20, g 21, g 22, g 23]) hl kl nl np
    refine ⟨l, p5, ((((([] ++ [g 0, g 1, g 2, g 3]) ++ [g 4, g 5, g 6, g 7]) ++ [g 8, g 9, g 10, g 11]) ++ [g 12, g 13, g 14, g 15]) ++ [g 16, g 17, g 18, g 19]), [g 20, g 21, g 22, g 23], rfl, rfl, (upd_ne (ne_of_none hl np)).trans hl, upd_same, ?_, ?_⟩
    · show 24 ≤ sizeLine
      decide
    generalize upd (upd G4 p5 (.lst [g 20, g 21, g 22, g 23])) l (.lst (((((([] ++ [g 0, g 1, g 2, g 3]) ++ [g 4, g 5, g 6, g 7]) ++ [g 8, g 9, g 10, g 11]) ++ [g 12, g 13, g 14, g 15]) ++ [g 16, g 17, g 18, g 19]) ++ [g 20, g 21, g 22, g 23])) = G5 at hl3 kl3 ⊢
    clear hl kl
    have hl := hl3
    have kl := kl3
    clear hl3 kl3
    refine ⟨_, rfl, k l _ (hl.trans (congrArg some (congrArg HO.lst ?_))) kl nl⟩
    obtain rfl : g = fun j => V.bl (decide (i = j)) := funext hg
    rfl
theorem okT_cls {fa : Addr} {fd : FuncData} (F : Fun K "_law_classes" "_law_classes" sCls fa fd) (T : EX K mg C f CE) (B : BI mg) : FnT Pr w K mg base 3 fa fd ["_law_error"] (spCls C) := by
  refine ok_T F scCls (fun vs H Q E h => ?_) (fun cdv Ar outer s H vs Q E p hr h => ?_)
  · obtain ⟨x, i, v, rfl, _⟩ := h
    rfl
  · obtain ⟨x, i, v, rfl, hi, a, k⟩ := h
    refine ⟨_, pss_cons (ps_set (i := 1) scCls.nd rfl (.inl rfl) (pe_lst pa_nil))
      (pss_cons (ps_expr (pe_bm PySem.F.plainAttrs_list PySem.F.slot_list_extend PySem.F.type_list_extend mt_extend (pv 1) (pa_cons (pe_lst (pa_cons (pe_isE (C := C) (s := 0) (j := 0) (pe_callB call_isW (by rfl) T.isi (by decide +kernel) (pa_cons (pv 0) (pa_cons (pe_glob (v := .ref (C 0)) (by rfl) T.t0.gC rfl) pa_nil))) (fun σ H Q ⟨x, i, v, y, e1, hi, ⟨e, d, ex, h2, h3⟩, ey, q⟩ => by subst ex; subst ey; exact ⟨_, e1, e, C i, d, _, .ref (C 0), .ref (C 0), _, rfl, T.says i hi, h2, h3, fun u r => r, T.kit i 0 hi (by decide), q⟩))
          (pa_cons (pe_isE (C := C) (s := 0) (j := 1) (pe_callB call_isW (by rfl) T.isi (by decide +kernel) (pa_cons (pv 0) (pa_cons (pe_glob (v := .ref (C 1)) (by rfl) T.t1.gC rfl) pa_nil))) (fun σ H Q ⟨x, i, v, y, e1, hi, ⟨e, d, ex, h2, h3⟩, ey, q⟩ => by subst ex; subst ey; exact ⟨_, e1, e, C i, d, _, .ref (C 1), .ref (C 1), _, rfl, T.says i hi, h2, h3, fun u r => r, T.kit i 1 hi (by decide), q⟩))
          (pa_cons (pe_isE (C := C) (s := 0) (j := 2) (pe_callB call_isW (by rfl) T.isi (by decide +kernel) (pa_cons (pv 0) (pa_cons (pe_glob (v := .ref (C 2)) (by rfl) T.t2.gC rfl) pa_nil))) (fun σ H Q ⟨x, i, v, y, e1, hi, ⟨e, d, ex, h2, h3⟩, ey, q⟩ => by subst ex; subst ey; exact ⟨_, e1, e, C i, d, _, .ref (C 2), .ref (C 2), _, rfl, T.says i hi, h2, h3, fun u r => r, T.kit i 2 hi (by decide), q⟩))
          (pa_cons (pe_isE (C := C) (s := 0) (j := 3) (pe_callB call_isW (by rfl) T.isi (by decide +kernel) (pa_cons (pv 0) (pa_cons (pe_glob (v := .ref (C 3)) (by rfl) T.t3.gC rfl) pa_nil))) (fun σ H Q ⟨x, i, v, y, e1, hi, ⟨e, d, ex, h2, h3⟩, ey, q⟩ => by subst ex; subst ey; exact ⟨_, e1, e, C i, d, _, .ref (C 3), .ref (C 3), _, rfl, T.says i hi, h2, h3, fun u r => r, T.kit i 3 hi (by decide), q⟩))
          pa_nil))))) pa_nil)))
      (pss_cons (ps_expr (pe_bm PySem.F.plainAttrs_list PySem.F.slot_list_extend PySem.F.type_list_extend mt_extend (pv 1) (pa_cons (pe_lst (pa_cons (pe_isE (C := C) (s := 0) (j := 4) (pe_callB call_isW (by rfl) T.isi (by decide +kernel) (pa_cons (pv 0) (pa_cons (pe_glob (v := .ref (C 4)) (by rfl) T.t4.gC rfl) pa_nil))) (fun σ H Q ⟨x, i, v, y, e1, hi, ⟨e, d, ex, h2, h3⟩, ey, q⟩ => by subst ex; subst ey; exact ⟨_, e1, e, C i, d, _, .ref (C 4), .ref (C 4), _, rfl, T.says i hi, h2, h3, fun u r => r, T.kit i 4 hi (by decide), q⟩))
          (pa_cons (pe_isE (C := C) (s := 0) (j := 5) (pe_callB call_isW (by rfl) T.isi (by decide +kernel) (pa_cons (pv 0) (pa_cons (pe_glob (v := .ref (C 5)) (by rfl) T.t5.gC rfl) pa_nil))) (fun σ H Q ⟨x, i, v, y, e1, hi, ⟨e, d, ex, h2, h3⟩, ey, q⟩ => by subst ex; subst ey; exact ⟨_, e1, e, C i, d, _, .ref (C 5), .ref (C 5), _, rfl, T.says i hi, h2, h3, fun u r => r, T.kit i 5 hi (by decide), q⟩))
          (pa_cons (pe_isE (C := C) (s := 0) (j := 6) (pe_callB call_isW (by rfl) T.isi (by decide +kernel) (pa_cons (pv 0) (pa_cons (pe_glob (v := .ref (C 6)) (by rfl) T.t6.gC rfl) pa_nil))) (fun σ H Q ⟨x, i, v, y, e1, hi, ⟨e, d, ex, h2, h3⟩, ey, q⟩ => by subst ex; subst ey; exact ⟨_, e1, e, C i, d, _, .ref (C 6), .ref (C 6), _, rfl, T.says i hi, h2, h3, fun u r => r, T.kit i 6 hi (by decide), q⟩))
          (pa_cons (pe_isE (C := C) (s := 0) (j := 7) (pe_callB call_isW (by rfl) T.isi (by decide +kernel) (pa_cons (pv 0) (pa_cons (pe_glob (v := .ref (C 7)) (by rfl) T.t7.gC rfl) pa_nil))) (fun σ H Q ⟨x, i, v, y, e1, hi, ⟨e, d, ex, h2, h3⟩, ey, q⟩ => by subst ex; subst ey; exact ⟨_, e1, e, C i, d, _, .ref (C 7), .ref (C 7), _, rfl, T.says i hi, h2, h3, fun u r => r, T.kit i 7 hi (by decide), q⟩))
          pa_nil))))) pa_nil)))
      (pss_cons (ps_expr (pe_bm PySem.F.plainAttrs_list PySem.F.slot_list_extend PySem.F.type_list_extend mt_extend (pv 1) (pa_cons (pe_lst (pa_cons (pe_isE (C := C) (s := 0) (j := 8) (pe_callB call_isW (by rfl) T.isi (by decide +kernel) (pa_cons (pv 0) (pa_cons (pe_glob (v := .ref (C 8)) (by rfl) T.t8.gC rfl) pa_nil))) (fun σ H Q ⟨x, i, v, y, e1, hi, ⟨e, d, ex, h2, h3⟩, ey, q⟩ => by subst ex; subst ey; exact ⟨_, e1, e, C i, d, _, .ref (C 8), .ref (C 8), _, rfl, T.says i hi, h2, h3, fun u r => r, T.kit i 8 hi (by decide), q⟩))
          (pa_cons (pe_isE (C := C) (s := 0) (j := 9) (pe_callB call_isW (by rfl) T.isi (by decide +kernel) (pa_cons (pv 0) (pa_cons (pe_glob (v := .ref (C 9)) (by rfl) T.t9.gC rfl) pa_nil))) (fun σ H Q ⟨x, i, v, y, e1, hi, ⟨e, d, ex, h2, h3⟩, ey, q⟩ => by subst ex; subst ey; exact ⟨_, e1, e, C i, d, _, .ref (C 9), .ref (C 9), _, rfl, T.says i hi, h2, h3, fun u r => r, T.kit i 9 hi (by decide), q⟩))
          (pa_cons (pe_isE (C := C) (s := 0) (j := 10) (pe_callB call_isW (by rfl) T.isi (by decide +kernel) (pa_cons (pv 0) (pa_cons (pe_glob (v := .ref (C 10)) (by rfl) T.t10.gC rfl) pa_nil))) (fun σ H Q ⟨x, i, v, y, e1, hi, ⟨e, d, ex, h2, h3⟩, ey, q⟩ => by subst ex; subst ey; exact ⟨_, e1, e, C i, d, _, .ref (C 10), .ref (C 10), _, rfl, T.says i hi, h2, h3, fun u r => r, T.kit i 10 hi (by decide), q⟩))
          (pa_cons (pe_isE (C := C) (s := 0) (j := 11) (pe_callB call_isW (by rfl) T.isi (by decide +kernel) (pa_cons (pv 0) (pa_cons (pe_glob (v := .ref (C 11)) (by rfl) T.t11.gC rfl) pa_nil))) (fun σ H Q ⟨x, i, v, y, e1, hi, ⟨e, d, ex, h2, h3⟩, ey, q⟩ => by subst ex; subst ey; exact ⟨_, e1, e, C i, d, _, .ref (C 11), .ref (C 11), _, rfl, T.says i hi, h2, h3, fun u r => r, T.kit i 11 hi (by decide), q⟩))
          pa_nil))))) pa_nil)))
      (pss_cons (ps_expr (pe_bm PySem.F.plainAttrs_list PySem.F.slot_list_extend PySem.F.type_list_extend mt_extend (pv 1) (pa_cons (pe_lst (pa_cons (pe_isE (C := C) (s := 0) (j := 12) (pe_callB call_isW (by rfl) T.isi (by decide +kernel) (pa_cons (pv 0) (pa_cons (pe_glob (v := .ref (C 12)) (by rfl) T.t12.gC rfl) pa_nil))) (fun σ H Q ⟨x, i, v, y, e1, hi, ⟨e, d, ex, h2, h3⟩, ey, q⟩ => by subst ex; subst ey; exact ⟨_, e1, e, C i, d, _, .ref (C 12), .ref (C 12), _, rfl, T.says i hi, h2, h3, fun u r => r, T.kit i 12 hi (by decide), q⟩))
          (pa_cons (pe_isE (C := C) (s := 0) (j := 13) (pe_callB call_isW (by rfl) T.isi (by decide +kernel) (pa_cons (pv 0) (pa_cons (pe_glob (v := .ref (C 13)) (by rfl) T.t13.gC rfl) pa_nil))) (fun σ H Q ⟨x, i, v, y, e1, hi, ⟨e, d, ex, h2, h3⟩, ey, q⟩ => by subst ex; subst ey; exact ⟨_, e1, e, C i, d, _, .ref (C 13), .ref (C 13), _, rfl, T.says i hi, h2, h3, fun u r => r, T.kit i 13 hi (by decide), q⟩))
          (pa_cons (pe_isE (C := C) (s := 0) (j := 14) (pe_callB call_isW (by rfl) T.isi (by decide +kernel) (pa_cons (pv 0) (pa_cons (pe_glob (v := .ref (C 14)) (by rfl) T.t14.gC rfl) pa_nil))) (fun σ H Q ⟨x, i, v, y, e1, hi, ⟨e, d, ex, h2, h3⟩, ey, q⟩ => by subst ex; subst ey; exact ⟨_, e1, e, C i, d, _, .ref (C 14), .ref (C 14), _, rfl, T.says i hi, h2, h3, fun u r => r, T.kit i 14 hi (by decide), q⟩))
          (pa_cons (pe_isE (C := C) (s := 0) (j := 15) (pe_callB call_isW (by rfl) T.isi (by decide +kernel) (pa_cons (pv 0) (pa_cons (pe_glob (v := .ref (C 15)) (by rfl) T.t15.gC rfl) pa_nil))) (fun σ H Q ⟨x, i, v, y, e1, hi, ⟨e, d, ex, h2, h3⟩, ey, q⟩ => by subst ex; subst ey; exact ⟨_, e1, e, C i, d, _, .ref (C 15), .ref (C 15), _, rfl, T.says i hi, h2, h3, fun u r => r, T.kit i 15 hi (by decide), q⟩))
          pa_nil))))) pa_nil)))
      (pss_cons (ps_expr (pe_bm PySem.F.plainAttrs_list PySem.F.slot_list_extend PySem.F.type_list_extend mt_extend (pv 1) (pa_cons (pe_lst (pa_cons (pe_isE (C := C) (s := 0) (j := 16) (pe_callB call_isW (by rfl) T.isi (by decide +kernel) (pa_cons (pv 0) (pa_cons (pe_glob (v := .ref (C 16)) (by rfl) T.t16.gC rfl) pa_nil))) (fun σ H Q ⟨x, i, v, y, e1, hi, ⟨e, d, ex, h2, h3⟩, ey, q⟩ => by subst ex; subst ey; exact ⟨_, e1, e, C i, d, _, .ref (C 16), .ref (C 16), _, rfl, T.says i hi, h2, h3, fun u r => r, T.kit i 16 hi (by decide), q⟩))
          (pa_cons (pe_isE (C := C) (s := 0) (j := 17) (pe_callB call_isW (by rfl) T.isi (by decide +kernel) (pa_cons (pv 0) (pa_cons (pe_glob (v := .ref (C 17)) (by rfl) T.t17.gC rfl) pa_nil))) (fun σ H Q ⟨x, i, v, y, e1, hi, ⟨e, d, ex, h2, h3⟩, ey, q⟩ => by subst ex; subst ey; exact ⟨_, e1, e, C i, d, _, .ref (C 17), .ref (C 17), _, rfl, T.says i hi, h2, h3, fun u r => r, T.kit i 17 hi (by decide), q⟩))
          (pa_cons (pe_isE (C := C) (s := 0) (j := 18) (pe_callB call_isW (by rfl) T.isi (by decide +kernel) (pa_cons (pv 0) (pa_cons (pe_glob (v := .ref (C 18)) (by rfl) T.t18.gC rfl) pa_nil))) (fun σ H Q ⟨x, i, v, y, e1, hi, ⟨e, d, ex, h2, h3⟩, ey, q⟩ => by subst ex; subst ey; exact ⟨_, e1, e, C i, d, _, .ref (C 18), .ref (C 18), _, rfl, T.says i hi, h2, h3, fun u r => r, T.kit i 18 hi (by decide), q⟩))
          (pa_cons (pe_isE (C := C) (s := 0) (j := 19) (pe_callB call_isW (by rfl) T.isi (by decide +kernel) (pa_cons (pv 0) (pa_cons (pe_glob (v := .ref (C 19)) (by rfl) T.t19.gC rfl) pa_nil))) (fun σ H Q ⟨x, i, v, y, e1, hi, ⟨e, d, ex, h2, h3⟩, ey, q⟩ => by subst ex; subst ey; exact ⟨_, e1, e, C i, d, _, .ref (C 19), .ref (C 19), _, rfl, T.says i hi, h2, h3, fun u r => r, T.kit i 19 hi (by decide), q⟩))
          pa_nil))))) pa_nil)))
      (pss_cons (ps_expr (pe_bm PySem.F.plainAttrs_list PySem.F.slot_list_extend PySem.F.type_list_extend mt_extend (pv 1) (pa_cons (pe_lst (pa_cons (pe_isE (C := C) (s := 0) (j := 20) (pe_callB call_isW (by rfl) T.isi (by decide +kernel) (pa_cons (pv 0) (pa_cons (pe_glob (v := .ref (C 20)) (by rfl) T.t20.gC rfl) pa_nil))) (fun σ H Q ⟨x, i, v, y, e1, hi, ⟨e, d, ex, h2, h3⟩, ey, q⟩ => by subst ex; subst ey; exact ⟨_, e1, e, C i, d, _, .ref (C 20), .ref (C 20), _, rfl, T.says i hi, h2, h3, fun u r => r, T.kit i 20 hi (by decide), q⟩))
          (pa_cons (pe_isE (C := C) (s := 0) (j := 21) (pe_callB call_isW (by rfl) T.isi (by decide +kernel) (pa_cons (pv 0) (pa_cons (pe_glob (v := .ref (C 21)) (by rfl) T.t21.gC rfl) pa_nil))) (fun σ H Q ⟨x, i, v, y, e1, hi, ⟨e, d, ex, h2, h3⟩, ey, q⟩ => by subst ex; subst ey; exact ⟨_, e1, e, C i, d, _, .ref (C 21), .ref (C 21), _, rfl, T.says i hi, h2, h3, fun u r => r, T.kit i 21 hi (by decide), q⟩))
          (pa_cons (pe_isE (C := C) (s := 0) (j := 22) (pe_callB call_isW (by rfl) T.isi (by decide +kernel) (pa_cons (pv 0) (pa_cons (pe_glob (v := .ref (C 22)) (by rfl) T.t22.gC rfl) pa_nil))) (fun σ H Q ⟨x, i, v, y, e1, hi, ⟨e, d, ex, h2, h3⟩, ey, q⟩ => by subst ex; subst ey; exact ⟨_, e1, e, C i, d, _, .ref (C 22), .ref (C 22), _, rfl, T.says i hi, h2, h3, fun u r => r, T.kit i 22 hi (by decide), q⟩))
          (pa_cons (pe_isE (C := C) (s := 0) (j := 23) (pe_callB call_isW (by rfl) T.isi (by decide +kernel) (pa_cons (pv 0) (pa_cons (pe_glob (v := .ref (C 23)) (by rfl) T.t23.gC rfl) pa_nil))) (fun σ H Q ⟨x, i, v, y, e1, hi, ⟨e, d, ex, h2, h3⟩, ey, q⟩ => by subst ex; subst ey; exact ⟨_, e1, e, C i, d, _, .ref (C 23), .ref (C 23), _, rfl, T.says i hi, h2, h3, fun u r => r, T.kit i 23 hi (by decide), q⟩))
          pa_nil))))) pa_nil)))
      (pss_one (ps_ret (pv 1))))))))), ?_⟩
    refine ⟨Nat.zero_le _, fun l nl => ?_⟩
    have hl : (upd H l (.lst [])) l = some (.lst []) := upd_same
    have kl : Kp [] H (upd H l (.lst [])) := .new nl
    generalize upd H l (.lst []) = G at hl kl
    obtain ⟨g, hg⟩ : ∃ g : Nat → V, ∀ j, g j = V.bl (decide (i = j)) := ⟨_, fun _ => rfl⟩
    refine ⟨_, rfl, .inl ⟨rfl, _, sql_of hl⟩, ?_⟩
    refine ⟨x, i, v, _, rfl, hi, a.kp kl, hg 0, ?_⟩
    refine ⟨x, i, v, _, rfl, hi, a.kp kl, hg 1, ?_⟩
    refine ⟨x, i, v, _, rfl, hi, a.kp kl, hg 2, ?_⟩
    refine ⟨x, i, v, _, rfl, hi, a.kp kl, hg 3, ?_⟩
    refine ⟨by show 4 ≤ sizeLine; decide, fun p0 np => ?_⟩
    obtain ⟨hl3, kl3⟩ := ext_end2 (zs := [g 0, g 1, g 2, g 3]) hl kl nl np
    refine ⟨l, p0, [], [g 0, g 1, g 2, g 3], rfl, rfl, (upd_ne (ne_of_none hl np)).trans hl, upd_same, ?_, ?_⟩
    · show 4 ≤ sizeLine
      decide
    generalize upd (upd G p0 (.lst [g 0, g 1, g 2, g 3])) l (.lst ([] ++ [g 0, g 1, g 2, g 3])) = G0 at hl3 kl3 ⊢
    clear hl kl
    have hl := hl3
    have kl := kl3
    clear hl3 kl3
    refine ⟨_, rfl, .inl ⟨rfl, _, sql_of hl⟩, ?_⟩
    refine ⟨x, i, v, _, rfl, hi, a.kp kl, hg 4, ?_⟩
    refine ⟨x, i, v, _, rfl, hi, a.kp kl, hg 5, ?_⟩
    refine ⟨x, i, v, _, rfl, hi, a.kp kl, hg 6, ?_⟩
    refine ⟨x, i, v, _, rfl, hi, a.kp kl, hg 7, ?_⟩
    refine ⟨by show 4 ≤ sizeLine; decide, fun p1 np => ?_⟩
    obtain ⟨hl3, kl3⟩ := ext_end2 (zs := [g 4, g 5, g 6, g 7]) hl kl nl np
    refine ⟨l, p1, ([] ++ [g 0, g 1, g 2, g 3]), [g 4, g 5, g 6, g 7], rfl, rfl, (upd_ne (ne_of_none hl np)).trans hl, upd_same, ?_, ?_⟩
    · show 8 ≤ sizeLine
      decide
    generalize upd (upd G0 p1 (.lst [g 4, g 5, g 6, g 7])) l (.lst (([] ++ [g 0, g 1, g 2, g 3]) ++ [g 4, g 5, g 6, g 7])) = G1 at hl3 kl3 ⊢
    clear hl kl
    have hl := hl3
    have kl := kl3
    clear hl3 kl3
    refine ⟨_, rfl, .inl ⟨rfl, _, sql_of hl⟩, ?_⟩
    refine ⟨x, i, v, _, rfl, hi, a.kp kl, hg 8, ?_⟩
    refine ⟨x, i, v, _, rfl, hi, a.kp kl, hg 9, ?_⟩
    refine ⟨x, i, v, _, rfl, hi, a.kp kl, hg 10, ?_⟩
    refine ⟨x, i, v, _, rfl, hi, a.kp kl, hg 11, ?_⟩
    refine ⟨by show 4 ≤ sizeLine; decide, fun p2 np => ?_⟩
    obtain ⟨hl3, kl3⟩ := ext_end2 (zs := [g 8, g 9, g 10, g 11]) hl kl nl np
    refine ⟨l, p2, (([] ++ [g 0, g 1, g 2, g 3]) ++ [g 4, g 5, g 6, g 7]), [g 8, g 9, g 10, g 11], rfl, rfl, (upd_ne (ne_of_none hl np)).trans hl, upd_same, ?_, ?_⟩
    · show 12 ≤ sizeLine
      decide
    generalize upd (upd G1 p2 (.lst [g 8, g 9, g 10, g 11])) l (.lst ((([] ++ [g 0, g 1, g 2, g 3]) ++ [g 4, g 5, g 6, g 7]) ++ [g 8, g 9, g 10, g 11])) = G2 at hl3 kl3 ⊢
    clear hl kl
    have hl := hl3
    have kl := kl3
    clear hl3 kl3
    refine ⟨_, rfl, .inl ⟨rfl, _, sql_of hl⟩, ?_⟩
    refine ⟨x, i, v, _, rfl, hi, a.kp kl, hg 12, ?_⟩
    refine ⟨x, i, v, _, rfl, hi, a.kp kl, hg 13, ?_⟩
    refine ⟨x, i, v, _, rfl, hi, a.kp kl, hg 14, ?_⟩
    refine ⟨x, i, v, _, rfl, hi, a.kp kl, hg 15, ?_⟩
    refine ⟨by show 4 ≤ sizeLine; decide, fun p3 np => ?_⟩
    obtain ⟨hl3, kl3⟩ := ext_end2 (zs := [g 12, g 13, g 14, g 15]) hl kl nl np
    refine ⟨l, p3, ((([] ++ [g 0, g 1, g 2, g 3]) ++ [g 4, g 5, g 6, g 7]) ++ [g 8, g 9, g 10, g 11]), [g 12, g 13, g 14, g 15], rfl, rfl, (upd_ne (ne_of_none hl np)).trans hl, upd_same, ?_, ?_⟩
    · show 16 ≤ sizeLine
      decide
    generalize upd (upd G2 p3 (.lst [g 12, g 13, g 14, g 15])) l (.lst (((([] ++ [g 0, g 1, g 2, g 3]) ++ [g 4, g 5, g 6, g 7]) ++ [g 8, g 9, g 10, g 11]) ++ [g 12, g 13, g 14, g 15])) = G3 at hl3 kl3 ⊢
    clear hl kl
    have hl := hl3
    have kl := kl3
    clear hl3 kl3
    refine ⟨_, rfl, .inl ⟨rfl, _, sql_of hl⟩, ?_⟩
    refine ⟨x, i, v, _, rfl, hi, a.kp kl, hg 16, ?_⟩
    refine ⟨x, i, v, _, rfl, hi, a.kp kl, hg 17, ?_⟩
    refine ⟨x, i, v, _, rfl, hi, a.kp kl, hg 18, ?_⟩
    refine ⟨x, i, v, _, rfl, hi, a.kp kl, hg 19, ?_⟩
    refine ⟨by show 4 ≤ sizeLine; decide, fun p4 np => ?_⟩
    obtain ⟨hl3, kl3⟩ := ext_end2 (zs := [g 16, g 17, g 18, g 19]) hl kl nl np
    refine ⟨l, p4, (((([] ++ [g 0, g 1, g 2, g 3]) ++ [g 4, g 5, g 6, g 7]) ++ [g 8, g 9, g 10, g 11]) ++ [g 12, g 13, g 14, g 15]), [g 16, g 17, g 18, g 19], rfl, rfl, (upd_ne (ne_of_none hl np)).trans hl, upd_same, ?_, ?_⟩
    · show 20 ≤ sizeLine
      decide
    generalize upd (upd G3 p4 (.lst [g 16, g 17, g 18, g 19])) l (.lst ((((([] ++ [g 0, g 1, g 2, g 3]) ++ [g 4, g 5, g 6, g 7]) ++ [g 8, g 9, g 10, g 11]) ++ [g 12, g 13, g 14, g 15]) ++ [g 16, g 17, g 18, g 19])) = G4 at hl3 kl3 ⊢
    clear hl kl
    have hl := hl3
    have kl := kl3
    clear hl3 kl3
    refine ⟨_, rfl, .inl ⟨rfl, _, sql_of hl⟩, ?_⟩
    refine ⟨x, i, v, _, rfl, hi, a.kp kl, hg 20, ?_⟩
    refine ⟨x, i, v, _, rfl, hi, a.kp kl, hg 21, ?_⟩
    refine ⟨x, i, v, _, rfl, hi, a.kp kl, hg 22, ?_⟩
    refine ⟨x, i, v, _, rfl, hi, a.kp kl, hg 23, ?_⟩
    refine ⟨by show 4 ≤ sizeLine; decide, fun p5 np => ?_⟩
    obtain ⟨hl3, kl3⟩ := ext_end2 (zs := [g 20, g 21, g 22, g 23]) hl kl nl np
    refine ⟨l, p5, ((((([] ++ [g 0, g 1, g 2, g 3]) ++ [g 4, g 5, g 6, g 7]) ++ [g 8, g 9, g 10, g 11]) ++ [g 12, g 13, g 14, g 15]) ++ [g 16, g 17, g 18, g 19]), [g 20, g 21, g 22, g 23], rfl, rfl, (upd_ne (ne_of_none hl np)).trans hl, upd_same, ?_, ?_⟩
    · show 24 ≤ sizeLine
      decide
    generalize upd (upd G4 p5 (.lst [g 20, g 21, g 22, g 23])) l (.lst (((((([] ++ [g 0, g 1, g 2, g 3]) ++ [g 4, g 5, g 6, g 7]) ++ [g 8, g 9, g 10, g 11]) ++ [g 12, g 13, g 14, g 15]) ++ [g 16, g 17, g 18, g 19]) ++ [g 20, g 21, g 22, g 23])) = G5 at hl3 kl3 ⊢
    clear hl kl
    have hl := hl3
    have kl := kl3
    clear hl3 kl3
    refine ⟨_, rfl, k l _ (hl.trans (congrArg some (congrArg HO.lst ?_))) kl nl⟩
    obtain rfl : g = fun j => V.bl (decide (i = j)) := funext hg
    rfl
theorem ok_own {fa fc : Addr} {fd fcd : FuncData} (F : Fun K "_law_is_own" "_law_is_own" sOwn fa fd) (D : Df K mg "_law_classes" sCls ["_law_error"] fc fcd) (T : EX K mg C f CE) (B : BI mg) : FnOk Pr w K mg base CX0 4 fa fd ["_law_at", "_law_error"] (spOwn C) := by
  refine F.ok scOwn (fun vs H Q E h => ?_) (fun cdv Ar outer s H vs Q E hr h => ?_)
  · obtain ⟨x, i, v, rfl, _⟩ := h
    rfl
  · obtain ⟨x, i, v, rfl, hi, a, k⟩ := h
    obtain ⟨e, d, ex, h2, h3⟩ := id a
    subst ex
    refine ⟨_, pss_cons (ps_if (PW.pt (pw_or (pt_not (pt_val (pe_callB call_isW (by rfl) T.isi (by decide +kernel) (pa_cons (pv 1) (pa_cons (pe_glob (v := .ref CE) (by rfl) T.gE rfl) pa_nil)))))
        (pw_or1 (pt_not (pt_val (pe_callB call_isW (by rfl) T.isi (by decide +kernel) (pa_cons (pv 1) (pa_cons (pe_bltn (v := .ty "Exception") (by rfl) T.exc (by decide +kernel) rfl) pa_nil)))))))) (pss_one (ps_ret pe_bl)) pss_nil)
      (pss_cons (ps_if (pt_val (pe_callB call_isWT (by rfl) T.isi (by decide +kernel) (pa_cons (pv 1) (pa_cons (pe_tup (pa_cons (pe_bltn (v := .ty "ValueError") (by rfl) T.vE (by decide +kernel) rfl) (pa_cons (pe_bltn (v := .ty "TypeError") (by rfl) T.tE (by decide +kernel) rfl)
          (pa_cons (pe_bltn (v := .ty "LookupError") (by rfl) T.lE (by decide +kernel) rfl) (pa_cons (pe_bltn (v := .ty "ArithmeticError") (by rfl) T.aE (by decide +kernel) rfl) (pa_cons (pe_bltn (v := .ty "RuntimeError") (by rfl) T.rE (by decide +kernel) rfl) (pa_cons (pe_bltn (v := .ty "AttributeError") (by rfl) T.atE (by decide +kernel) rfl) pa_nil))))))) pa_nil)))) (pss_one (ps_ret pe_bl)) pss_nil)
      (pss_one (ps_ret (pe_cmpR (op_eqD hr.units) (pe_call (ok_cls D.F T B) hr (by rfl) D.g D.F.kp D.b .nil pass0 (pa_cons (pv 1) pa_nil))
        (pe_lc (own := [("_law_place", 2)]) (g := gName 2) (tt := tYes) rfl scOwn.nd (pi_range1 (by rfl) B.range (pa_cons pe_int pa_nil)) (blkOk_by (N := ["_law_at", "_law_error", "_law_place"]) (sc := defScope sOwn) (by decide +kernel)) (fun _ _ _ _ _ => pg_name (i := 2) scOwn.nd rfl (Or.inl rfl)) (fun _ _ _ _ _ => pts_nil)
          (fun _ _ _ _ _ => pe_cmpR op_eq (pv 2) (pv 0) (nomark _))) (nomark _))))), ?_⟩
    refine ⟨_, rfl, e, C i, d, _, .ref CE, .ref CE, true, rfl, T.says i hi, h2, h3, fun u r => r, T.kitE i hi, true, rfl, ?_⟩
    refine iteF ⟨_, rfl, e, C i, d, _, .ty "Exception", .type "Exception", true, rfl, T.says i hi, h2, h3, fun u r => r, T.kitX i hi, true, rfl, ?_⟩
    refine iteF ?_
    refine ⟨_, rfl, by show 6 ≤ sizeLine; decide, fun t nt => ?_⟩
    have k1 : Kp [] H (upd H t (.tup [.ty "ValueError", .ty "TypeError", .ty "LookupError", .ty "ArithmeticError", .ty "RuntimeError", .ty "AttributeError"])) := .new nt
    refine ⟨e, C i, d, _, t, _, _, false, rfl, T.says i hi, h2.kp k1 List.not_mem_nil, k1.at_ _ _ h3 List.not_mem_nil, upd_same, .cons (.ty _) (.cons (.ty _) (.cons (.ty _) (.cons (.ty _) (.cons (.ty _) (.cons (.ty _) .nil))))), T.kitB i hi, false, rfl, iteF ?_⟩
    refine ⟨_, rfl, _, i, v, rfl, hi, a.kp k1, fun p H2 hp k2 np => ?_⟩
    refine ⟨24, rfl, by decide, by decide, fun D nD => ?_⟩
    refine lc_range (lo := 0) (n := 24) (fun j G => ∃ us : List V, G D = some (.lst us) ∧ us = (List.range j).map (fun j => .bl (decide (i = j))) ∧ Kp [] H2 G) ⟨[], upd_same, rfl, .new nD⟩ ?_ ?_
    · rintro j G hj ⟨us, hD, hu, kG⟩
      refine ⟨rfl, _, rfl, _, rfl, rfl, us, hD, ?_, us ++ [.bl (decide (i = j))], ?_, ?_, kG.own nD⟩
      · rw [hu, List.length_map, List.length_range]
        exact Nat.lt_of_lt_of_le (show j < 24 from hj) (by decide)
      · have e : decide (V.int (0 + (j : Int)) = V.int (i : Int)) = decide (i = j) := by
          by_cases h : i = j
          · subst h
            simp
          · have n : ¬ V.int (0 + (j : Int)) = V.int (i : Int) := fun z => h (by injection z; omega)
            rw [decide_eq_false n, decide_eq_false h]
        rw [← e]
        exact upd_same
      · rw [List.range_succ, List.map_append, hu]
        rfl
    · rintro G ⟨us, hD, hu, kG⟩
      refine ⟨.list (ownD i), .list (ownD i), .lst (sql_of (kG.at_ _ _ hp List.not_mem_nil)) (dp_bls _ _), .lst (sql_of (hu ▸ hD)) (dp_bls _ _), own_shaped i, own_shaped i, ?_⟩
      rw [SeqAt.eqv_refl _ (own_lay i)]
      exact k _ (k1.trans (k2.trans kG))
end
end Ey
set_option maxHeartbeats 4000000
namespace Ey
open PySem PySem.Spec PyProof.Rows L2
/-- raise Th(field=e) -/
def tRkTh (C : Addr) (W : WX) (tk_ : TA) : TS := fun _ σ H => tMkkTh C tk_ σ H fun cls d H' => W cls d σ H'
theorem ps_rkTh {X : Cx} {C fI : Addr} {kws : List Keyword} {tk_ : TA} {W : WX} {p pos pos2 : Pos} {k : Nat} {nm qn : Str} (hc : X.calm = true) (T : PySem.ThX.ThTxt nm qn X.K X.mg C fI) (hr : Room k X.A) (tk : Takes X W) (hkw : PK X kws tk_) (hg : Gl X nm := by rfl) (hdb : (nm == ("__debug__" : Str)) = false := by decide)
    (hall : (backToKw pos (keywordEach kws X.env)).all (·.1.isSome) = true := by rfl) (hks : (backToKw pos (keywordEach kws X.env)).filterMap (·.1) = [("thing" : Str)] := by rfl)
    (hpl : ((backTo pos (starEach [] X.env)).any (·.1) || (backToKw pos (keywordEach kws X.env)).any (·.1.isNone)) = false := by rfl) :
    PS X (.Raise (some (.Call (.Name nm p) [] kws pos)) none pos2) (tRkTh C W tk_) := ps_raise hc tk (pmk_kTh T hr hkw hg hdb hall hks hpl)
/-- raise At(field=e) -/
def tRkAt (C : Addr) (W : WX) (tk_ : TA) : TS := fun _ σ H => tMkkAt C tk_ σ H fun cls d H' => W cls d σ H'
theorem ps_rkAt {X : Cx} {C fI : Addr} {kws : List Keyword} {tk_ : TA} {W : WX} {p pos pos2 : Pos} {k : Nat} {nm qn : Str} (hc : X.calm = true) (T : PySem.AtX.AtTxt nm qn X.K X.mg C fI) (hr : Room k X.A) (tk : Takes X W) (hkw : PK X kws tk_) (hg : Gl X nm := by rfl) (hdb : (nm == ("__debug__" : Str)) = false := by decide)
    (hall : (backToKw pos (keywordEach kws X.env)).all (·.1.isSome) = true := by rfl) (hks : (backToKw pos (keywordEach kws X.env)).filterMap (·.1) = [("at" : Str)] := by rfl)
    (hpl : ((backTo pos (starEach [] X.env)).any (·.1) || (backToKw pos (keywordEach kws X.env)).any (·.1.isNone)) = false := by rfl) :
    PS X (.Raise (some (.Call (.Name nm p) [] kws pos)) none pos2) (tRkAt C W tk_) := ps_raise hc tk (pmk_kAt T hr hkw hg hdb hall hks hpl)
abbrev sRaise : Stmt := topS 35
abbrev sRaise2 : Stmt := topS 36
def spRaise (C : Nat → Addr) (lo : Nat) : Sp := fun vs H Q E => ∃ (i : Nat) (v : V), vs = [.int i, v] ∧ lo ≤ i ∧ i < 24 ∧ ∀ d H', Kp [] H H' → H d = none → H' d = some (.xd [(fl i, v)]) → E (.ref (C i)) (some d) H'
theorem int_is {i j : Nat} (q : decide (V.int (i : Int) = V.int (j : Int)) = true) : i = j := by
  have z := of_decide_eq_true q
  injection z with z
  omega
theorem int_not {i j : Nat} (q : ¬ decide (V.int (i : Int) = V.int (j : Int)) = true) : i ≠ j := fun e => q (by subst e; exact decide_eq_true rfl)
section
variable {Pr : Program} {w : World} {K : PySem.W.Frag} {mg : Str → Option Value} {base : Heap} {C f : Nat → Addr} {CE : Addr}
theorem scRaise : FnScope ["_law_way", "_law_it"] ["_law_way", "_law_it"] (defScope sRaise) := ⟨rfl, rfl, rfl, by decide +kernel, rfl, by decide +kernel, by decide +kernel⟩
theorem scRaise2 : FnScope ["_law_way", "_law_it"] ["_law_way", "_law_it"] (defScope sRaise2) := ⟨rfl, rfl, rfl, by decide +kernel, rfl, by decide +kernel, by decide +kernel⟩
theorem ok_raise2 {fa : Addr} {fd : FuncData} (F : Fun K "_law_raise_more" "_law_raise_more" sRaise2 fa fd) (T : EX K mg C f CE) : FnOk Pr w K mg base (L2.CX Pr w) 3 fa fd ["_law_way", "_law_it"] (spRaise C 12) := by
  refine F.okX scRaise2 (fun vs H Q E h => ?_) (fun cdv Ar outer s H vs Q E hr h => ?_)
  · obtain ⟨i, v, rfl, _⟩ := h
    rfl
  · obtain ⟨i, v, rfl, h0, hi, k⟩ := h
    refine ⟨_, (pss_cons (ps_if (pt_cmpR op_eq (pv 0) pe_int (nomark _)) (pss_one (ps_raiseTh rfl T.t12 hr (takes_of rfl rfl rfl rfl) (by exact (pa_cons (pv 1) pa_nil)))) pss_nil)
      (pss_cons (ps_if (pt_cmpR op_eq (pv 0) pe_int (nomark _)) (pss_one (by exact ps_rkTh (tk_ := tCons (tVar 1) tNil) rfl T.t13 hr (takes_of rfl rfl rfl rfl) (pk_cons (pv 1) pk_nil))) pss_nil)
      (pss_cons (ps_if (pt_cmpR op_eq (pv 0) pe_int (nomark _)) (pss_one (ps_raiseTh rfl T.t14 hr (takes_of rfl rfl rfl rfl) (by exact (pa_cons (pv 1) pa_nil)))) pss_nil)
      (pss_cons (ps_if (pt_cmpR op_eq (pv 0) pe_int (nomark _)) (pss_one (by exact ps_rkTh (tk_ := tCons (tVar 1) tNil) rfl T.t15 hr (takes_of rfl rfl rfl rfl) (pk_cons (pv 1) pk_nil))) pss_nil)
      (pss_cons (ps_if (pt_cmpR op_eq (pv 0) pe_int (nomark _)) (pss_one (ps_raiseTh rfl T.t16 hr (takes_of rfl rfl rfl rfl) (by exact (pa_cons (pv 1) pa_nil)))) pss_nil)
      (pss_cons (ps_if (pt_cmpR op_eq (pv 0) pe_int (nomark _)) (pss_one (by exact ps_rkTh (tk_ := tCons (tVar 1) tNil) rfl T.t17 hr (takes_of rfl rfl rfl rfl) (pk_cons (pv 1) pk_nil))) pss_nil)
      (pss_cons (ps_if (pt_cmpR op_eq (pv 0) pe_int (nomark _)) (pss_one (ps_raiseTh rfl T.t18 hr (takes_of rfl rfl rfl rfl) (by exact (pa_cons (pv 1) pa_nil)))) pss_nil)
      (pss_cons (ps_if (pt_cmpR op_eq (pv 0) pe_int (nomark _)) (pss_one (by exact ps_rkTh (tk_ := tCons (tVar 1) tNil) rfl T.t19 hr (takes_of rfl rfl rfl rfl) (pk_cons (pv 1) pk_nil))) pss_nil)
      (pss_cons (ps_if (pt_cmpR op_eq (pv 0) pe_int (nomark _)) (pss_one (ps_raiseTh rfl T.t20 hr (takes_of rfl rfl rfl rfl) (by exact (pa_cons (pv 1) pa_nil)))) pss_nil)
      (pss_cons (ps_if (pt_cmpR op_eq (pv 0) pe_int (nomark _)) (pss_one (by exact ps_rkTh (tk_ := tCons (tVar 1) tNil) rfl T.t21 hr (takes_of rfl rfl rfl rfl) (pk_cons (pv 1) pk_nil))) pss_nil)
      (pss_cons (ps_if (pt_cmpR op_eq (pv 0) pe_int (nomark _)) (pss_one (ps_raiseTh rfl T.t22 hr (takes_of rfl rfl rfl rfl) (by exact (pa_cons (pv 1) pa_nil)))) pss_nil)
      (pss_one (ps_raiseTh rfl T.t23 hr (takes_of rfl rfl rfl rfl) (by exact (pa_cons (pv 1) pa_nil))))))))))))))), ?_⟩
    refine ⟨_, rfl, rfl, _, rfl, ite2 (fun q => ?_) (fun n12 => ?_)⟩
    · obtain rfl := int_is (j := 12) q
      exact ⟨_, rfl, v, rfl, fun d nd => k d _ (.new nd) nd upd_same⟩
    refine ⟨_, rfl, rfl, _, rfl, ite2 (fun q => ?_) (fun n13 => ?_)⟩
    · obtain rfl := int_is (j := 13) q
      exact ⟨_, rfl, v, rfl, fun d nd => k d _ (.new nd) nd upd_same⟩
    refine ⟨_, rfl, rfl, _, rfl, ite2 (fun q => ?_) (fun n14 => ?_)⟩
    · obtain rfl := int_is (j := 14) q
      exact ⟨_, rfl, v, rfl, fun d nd => k d _ (.new nd) nd upd_same⟩
    refine ⟨_, rfl, rfl, _, rfl, ite2 (fun q => ?_) (fun n15 => ?_)⟩
    · obtain rfl := int_is (j := 15) q
      exact ⟨_, rfl, v, rfl, fun d nd => k d _ (.new nd) nd upd_same⟩
    refine ⟨_, rfl, rfl, _, rfl, ite2 (fun q => ?_) (fun n16 => ?_)⟩
    · obtain rfl := int_is (j := 16) q
      exact ⟨_, rfl, v, rfl, fun d nd => k d _ (.new nd) nd upd_same⟩
    refine ⟨_, rfl, rfl, _, rfl, ite2 (fun q => ?_) (fun n17 => ?_)⟩
    · obtain rfl := int_is (j := 17) q
      exact ⟨_, rfl, v, rfl, fun d nd => k d _ (.new nd) nd upd_same⟩
    refine ⟨_, rfl, rfl, _, rfl, ite2 (fun q => ?_) (fun n18 => ?_)⟩
    · obtain rfl := int_is (j := 18) q
      exact ⟨_, rfl, v, rfl, fun d nd => k d _ (.new nd) nd upd_same⟩
    refine ⟨_, rfl, rfl, _, rfl, ite2 (fun q => ?_) (fun n19 => ?_)⟩
    · obtain rfl := int_is (j := 19) q
      exact ⟨_, rfl, v, rfl, fun d nd => k d _ (.new nd) nd upd_same⟩
    refine ⟨_, rfl, rfl, _, rfl, ite2 (fun q => ?_) (fun n20 => ?_)⟩
    · obtain rfl := int_is (j := 20) q
      exact ⟨_, rfl, v, rfl, fun d nd => k d _ (.new nd) nd upd_same⟩
    refine ⟨_, rfl, rfl, _, rfl, ite2 (fun q => ?_) (fun n21 => ?_)⟩
    · obtain rfl := int_is (j := 21) q
      exact ⟨_, rfl, v, rfl, fun d nd => k d _ (.new nd) nd upd_same⟩
    refine ⟨_, rfl, rfl, _, rfl, ite2 (fun q => ?_) (fun n22 => ?_)⟩
    · obtain rfl := int_is (j := 22) q
      exact ⟨_, rfl, v, rfl, fun d nd => k d _ (.new nd) nd upd_same⟩
    have m12 := int_not (j := 12) n12; have m13 := int_not (j := 13) n13; have m14 := int_not (j := 14) n14; have m15 := int_not (j := 15) n15; have m16 := int_not (j := 16) n16; have m17 := int_not (j := 17) n17; have m18 := int_not (j := 18) n18; have m19 := int_not (j := 19) n19; have m20 := int_not (j := 20) n20; have m21 := int_not (j := 21) n21; have m22 := int_not (j := 22) n22; obtain rfl : i = 23 := by omega
    exact ⟨_, rfl, v, rfl, fun d nd => k d _ (.new nd) nd upd_same⟩
theorem ok_raise {fa : Addr} {fd : FuncData} (F : Fun K "_law_raise" "_law_raise" sRaise fa fd) {fr : Addr} {fdr : FuncData} (D : Df K mg "_law_raise_more" sRaise2 ["_law_way", "_law_it"] fr fdr) (T : EX K mg C f CE) : FnOk Pr w K mg base (L2.CX Pr w) 4 fa fd ["_law_way", "_law_it"] (spRaise C 0) := by
  refine F.okX scRaise (fun vs H Q E h => ?_) (fun cdv Ar outer s H vs Q E hr h => ?_)
  · obtain ⟨i, v, rfl, _⟩ := h
    rfl
  · obtain ⟨i, v, rfl, h0, hi, k⟩ := h
    refine ⟨_, (pss_cons (ps_if (pt_cmpR op_eq (pv 0) pe_int (nomark _)) (pss_one (ps_raiseTh rfl T.t0 hr (takes_of rfl rfl rfl rfl) (by exact (pa_cons (pv 1) pa_nil)))) pss_nil)
      (pss_cons (ps_if (pt_cmpR op_eq (pv 0) pe_int (nomark _)) (pss_one (by exact ps_rkTh (tk_ := tCons (tVar 1) tNil) rfl T.t1 hr (takes_of rfl rfl rfl rfl) (pk_cons (pv 1) pk_nil))) pss_nil)
      (pss_cons (ps_if (pt_cmpR op_eq (pv 0) pe_int (nomark _)) (pss_one (ps_raiseTh rfl T.t2 hr (takes_of rfl rfl rfl rfl) (by exact (pa_cons (pv 1) pa_nil)))) pss_nil)
      (pss_cons (ps_if (pt_cmpR op_eq (pv 0) pe_int (nomark _)) (pss_one (by exact ps_rkTh (tk_ := tCons (tVar 1) tNil) rfl T.t3 hr (takes_of rfl rfl rfl rfl) (pk_cons (pv 1) pk_nil))) pss_nil)
      (pss_cons (ps_if (pt_cmpR op_eq (pv 0) pe_int (nomark _)) (pss_one (ps_raiseTh rfl T.t4 hr (takes_of rfl rfl rfl rfl) (by exact (pa_cons (pv 1) pa_nil)))) pss_nil)
      (pss_cons (ps_if (pt_cmpR op_eq (pv 0) pe_int (nomark _)) (pss_one (by exact ps_rkTh (tk_ := tCons (tVar 1) tNil) rfl T.t5 hr (takes_of rfl rfl rfl rfl) (pk_cons (pv 1) pk_nil))) pss_nil)
      (pss_cons (ps_if (pt_cmpR op_eq (pv 0) pe_int (nomark _)) (pss_one (ps_raiseAt rfl T.t6 hr (takes_of rfl rfl rfl rfl) (by exact (pa_cons (pv 1) pa_nil)))) pss_nil)
      (pss_cons (ps_if (pt_cmpR op_eq (pv 0) pe_int (nomark _)) (pss_one (by exact ps_rkTh (tk_ := tCons (tVar 1) tNil) rfl T.t7 hr (takes_of rfl rfl rfl rfl) (pk_cons (pv 1) pk_nil))) pss_nil)
      (pss_cons (ps_if (pt_cmpR op_eq (pv 0) pe_int (nomark _)) (pss_one (ps_raiseTh rfl T.t8 hr (takes_of rfl rfl rfl rfl) (by exact (pa_cons (pv 1) pa_nil)))) pss_nil)
      (pss_cons (ps_if (pt_cmpR op_eq (pv 0) pe_int (nomark _)) (pss_one (by exact ps_rkTh (tk_ := tCons (tVar 1) tNil) rfl T.t9 hr (takes_of rfl rfl rfl rfl) (pk_cons (pv 1) pk_nil))) pss_nil)
      (pss_cons (ps_if (pt_cmpR op_eq (pv 0) pe_int (nomark _)) (pss_one (ps_raiseTh rfl T.t10 hr (takes_of rfl rfl rfl rfl) (by exact (pa_cons (pv 1) pa_nil)))) pss_nil)
      (pss_cons (ps_if (pt_cmpR op_eq (pv 0) pe_int (nomark _)) (pss_one (by exact ps_rkTh (tk_ := tCons (tVar 1) tNil) rfl T.t11 hr (takes_of rfl rfl rfl rfl) (pk_cons (pv 1) pk_nil))) pss_nil)
      (pss_one (ps_expr (pe_call (E := E) (ok_raise2 D.F T) hr (by rfl) D.g D.F.kp D.b .nil (passes_call (takes_of rfl rfl rfl rfl) (fun _ _ _ _ h => h)) (by exact (pa_cons (pv 0) (pa_cons (pv 1) pa_nil)))))))))))))))))), ?_⟩
    refine ⟨_, rfl, rfl, _, rfl, ite2 (fun q => ?_) (fun n0 => ?_)⟩
    · obtain rfl := int_is (j := 0) q
      exact ⟨_, rfl, v, rfl, fun d nd => k d _ (.new nd) nd upd_same⟩
    refine ⟨_, rfl, rfl, _, rfl, ite2 (fun q => ?_) (fun n1 => ?_)⟩
    · obtain rfl := int_is (j := 1) q
      exact ⟨_, rfl, v, rfl, fun d nd => k d _ (.new nd) nd upd_same⟩
    refine ⟨_, rfl, rfl, _, rfl, ite2 (fun q => ?_) (fun n2 => ?_)⟩
    · obtain rfl := int_is (j := 2) q
      exact ⟨_, rfl, v, rfl, fun d nd => k d _ (.new nd) nd upd_same⟩
    refine ⟨_, rfl, rfl, _, rfl, ite2 (fun q => ?_) (fun n3 => ?_)⟩
    · obtain rfl := int_is (j := 3) q
      exact ⟨_, rfl, v, rfl, fun d nd => k d _ (.new nd) nd upd_same⟩
    refine ⟨_, rfl, rfl, _, rfl, ite2 (fun q => ?_) (fun n4 => ?_)⟩
    · obtain rfl := int_is (j := 4) q
      exact ⟨_, rfl, v, rfl, fun d nd => k d _ (.new nd) nd upd_same⟩
    refine ⟨_, rfl, rfl, _, rfl, ite2 (fun q => ?_) (fun n5 => ?_)⟩
    · obtain rfl := int_is (j := 5) q
      exact ⟨_, rfl, v, rfl, fun d nd => k d _ (.new nd) nd upd_same⟩
    refine ⟨_, rfl, rfl, _, rfl, ite2 (fun q => ?_) (fun n6 => ?_)⟩
    · obtain rfl := int_is (j := 6) q
      exact ⟨_, rfl, v, rfl, fun d nd => k d _ (.new nd) nd upd_same⟩
    refine ⟨_, rfl, rfl, _, rfl, ite2 (fun q => ?_) (fun n7 => ?_)⟩
    · obtain rfl := int_is (j := 7) q
      exact ⟨_, rfl, v, rfl, fun d nd => k d _ (.new nd) nd upd_same⟩
    refine ⟨_, rfl, rfl, _, rfl, ite2 (fun q => ?_) (fun n8 => ?_)⟩
    · obtain rfl := int_is (j := 8) q
      exact ⟨_, rfl, v, rfl, fun d nd => k d _ (.new nd) nd upd_same⟩
    refine ⟨_, rfl, rfl, _, rfl, ite2 (fun q => ?_) (fun n9 => ?_)⟩
    · obtain rfl := int_is (j := 9) q
      exact ⟨_, rfl, v, rfl, fun d nd => k d _ (.new nd) nd upd_same⟩
    refine ⟨_, rfl, rfl, _, rfl, ite2 (fun q => ?_) (fun n10 => ?_)⟩
    · obtain rfl := int_is (j := 10) q
      exact ⟨_, rfl, v, rfl, fun d nd => k d _ (.new nd) nd upd_same⟩
    refine ⟨_, rfl, rfl, _, rfl, ite2 (fun q => ?_) (fun n11 => ?_)⟩
    · obtain rfl := int_is (j := 11) q
      exact ⟨_, rfl, v, rfl, fun d nd => k d _ (.new nd) nd upd_same⟩
    have m0 := int_not (j := 0) n0; have m1 := int_not (j := 1) n1; have m2 := int_not (j := 2) n2; have m3 := int_not (j := 3) n3; have m4 := int_not (j := 4) n4; have m5 := int_not (j := 5) n5; have m6 := int_not (j := 6) n6; have m7 := int_not (j := 7) n7; have m8 := int_not (j := 8) n8; have m9 := int_not (j := 9) n9; have m10 := int_not (j := 10) n10; have m11 := int_not (j := 11) n11; refine ⟨_, rfl, _, rfl, i, v, rfl, by omega, hi, k⟩
end
end Ey
set_option maxHeartbeats 4000000
namespace Ey
open PySem PySem.Spec PyProof.Rows L2
abbrev sCaught : Stmt := topS 37
abbrev sBase : Stmt := topS 38
/-- f(.., e, ..) in a suite, whatever the error's object is -/
def tCallZ (a : Addr) (cls : Value) (d : Option Addr) (sp : Sp) (t : TA) : TE := fun σ H Q => ∀ oe, Zc cls d oe → (∃ vs, oe.data = .fields vs) → tCallX a oe sp t σ H Q
theorem pe_callZ {X : Cx} {a : Addr} {oe : Obj} {cls : Value} {d : Option Addr} {pn : List (Addr × Obj)} {e : Expr} {sp : Sp} {t : TA} (hz : Zc cls d oe) (hf : ∃ vs, oe.data = .fields vs) (h : PE (X.suite a ((a, oe) :: pn)) e (tCallX a oe sp t)) : PE (X.suite a ((a, oe) :: pn)) e (tCallZ a cls d sp t) :=
  ⟨fun pins s σ H Q I q => h.run pins s σ H Q I (q oe hz hf)⟩
def spCaught : Sp := fun vs H Q _ => ∃ (i : Nat) (v : V), vs = [.int i, v] ∧ i < 24 ∧ ∀ t H', H' t = some (.tup [.int i, v]) → Kp [] H H' → Q (.ref t) H'
def spBase : Sp := fun vs H Q _ => ∃ (i : Nat) (v : V), vs = [.int i, v] ∧ i < 24 ∧ ∀ p H', H' p = some (.lst (ownL i)) → Kp [] H H' → Q (.ref p) H'
theorem Kp.del {H H1 : Hp} {a : Addr} (k : Kp [] H H1) (n : H a = none) : Kp [] H (del H1 a) :=
  ⟨fun b o e _ => (del_ne (ne_of_none e n)).trans (k.at_ b o e List.not_mem_nil), fun b xs e => (del_ne (ne_of_none e n)).trans (k.tup b xs e)⟩
section
variable {Pr : Program} {w : World} {K : PySem.W.Frag} {mg : Str → Option Value} {base : Heap} {C f : Nat → Addr} {CE : Addr} {fa fr fr2 fc : Addr} {fd fdr fdr2 fdc : FuncData}
abbrev NC : List Str := ["_law_way", "_law_it", "e"]
theorem scCaught : FnScope NC ["_law_way", "_law_it"] (defScope sCaught) := ⟨rfl, rfl, rfl, by decide +kernel, rfl, by decide +kernel, by decide +kernel⟩
theorem scBase : FnScope NC ["_law_way", "_law_it"] (defScope sBase) := ⟨rfl, rfl, rfl, by decide +kernel, rfl, by decide +kernel, by decide +kernel⟩
theorem ok_caught (F : Fun K "_law_caught" "_law_caught" sCaught fa fd) (D : Df K mg "_law_raise" sRaise ["_law_way", "_law_it"] fr fdr) (D2 : Df K mg "_law_raise_more" sRaise2 ["_law_way", "_law_it"] fr2 fdr2) (T : EX K mg C f CE) :
    FnOk Pr w K mg base CX0 5 fa fd ["_law_way", "_law_it"] spCaught := by
  refine F.ok scCaught (fun vs H Q E h => ?_) (fun cdv Ar outer s H vs Q E hr h => ?_)
  · obtain ⟨i, v, rfl, _⟩ := h
    rfl
  · obtain ⟨i, v, rfl, hi, k⟩ := h
    refine ⟨_, pss_one (ps_try_asM (i := 2) (tb := fun W => tDrop (tCallS (spRaise C 0) (WE W) (tCons (tVar 0) (tCons (tVar 1) tNil)))) (Wo := fun _ _ _ _ => False) rfl rfl scCaught.nd rfl rfl takes0
      (fun W pn xe tk _ => pss_one (ps_expr (by exact (pe_callS (ok_raise D.F D2 T) hr (by rfl) D.g D.F.kp D.b (fun σ => passAt tk σ) (by exact (pa_cons (pv 0) (pa_cons (pv 1) pa_nil)))))))
      (HdsAs.cons (c := .ref (C 15)) ⟨rfl, by decide, .inl T.t15.gC⟩ (fun a oe cls d pn hb hF hz hf => pss_one (ps_ret (pe_tup (pa_cons pe_int (pa_cons (by exact (pe_byTh T.t15 hz hf (pv 2))) pa_nil)))))
      (HdsAs.cons (c := .ref (C 3)) ⟨rfl, by decide, .inl T.t3.gC⟩ (fun a oe cls d pn hb hF hz hf => pss_one (ps_ret (pe_tup (pa_cons pe_int (pa_cons (by exact (pe_byTh T.t3 hz hf (pv 2))) pa_nil)))))
      (HdsAs.cons (c := .ref (C 0)) ⟨rfl, by decide, .inl T.t0.gC⟩ (fun a oe cls d pn hb hF hz hf => pss_one (ps_ret (pe_tup (pa_cons pe_int (pa_cons (by exact (pe_byTh T.t0 hz hf (pv 2))) pa_nil)))))
      (HdsAs.cons (c := .ref (C 22)) ⟨rfl, by decide, .inl T.t22.gC⟩ (fun a oe cls d pn hb hF hz hf => pss_one (ps_ret (pe_tup (pa_cons pe_int (pa_cons (by exact (pe_byTh T.t22 hz hf (pv 2))) pa_nil)))))
      (HdsAs.cons (c := .ref (C 11)) ⟨rfl, by decide, .inl T.t11.gC⟩ (fun a oe cls d pn hb hF hz hf => pss_one (ps_ret (pe_tup (pa_cons pe_int (pa_cons (by exact (pe_byTh T.t11 hz hf (pv 2))) pa_nil)))))
      (HdsAs.cons (c := .ref (C 7)) ⟨rfl, by decide, .inl T.t7.gC⟩ (fun a oe cls d pn hb hF hz hf => pss_one (ps_ret (pe_tup (pa_cons pe_int (pa_cons (by exact (pe_byTh T.t7 hz hf (pv 2))) pa_nil)))))
      (HdsAs.cons (c := .ref (C 1)) ⟨rfl, by decide, .inl T.t1.gC⟩ (fun a oe cls d pn hb hF hz hf => pss_one (ps_ret (pe_tup (pa_cons pe_int (pa_cons (by exact (pe_byTh T.t1 hz hf (pv 2))) pa_nil)))))
      (HdsAs.cons (c := .ref (C 13)) ⟨rfl, by decide, .inl T.t13.gC⟩ (fun a oe cls d pn hb hF hz hf => pss_one (ps_ret (pe_tup (pa_cons pe_int (pa_cons (by exact (pe_byTh T.t13 hz hf (pv 2))) pa_nil)))))
      (HdsAs.cons (c := .ref (C 20)) ⟨rfl, by decide, .inl T.t20.gC⟩ (fun a oe cls d pn hb hF hz hf => pss_one (ps_ret (pe_tup (pa_cons pe_int (pa_cons (by exact (pe_byTh T.t20 hz hf (pv 2))) pa_nil)))))
      (HdsAs.cons (c := .ref (C 5)) ⟨rfl, by decide, .inl T.t5.gC⟩ (fun a oe cls d pn hb hF hz hf => pss_one (ps_ret (pe_tup (pa_cons pe_int (pa_cons (by exact (pe_byTh T.t5 hz hf (pv 2))) pa_nil)))))
      (HdsAs.cons (c := .ref (C 9)) ⟨rfl, by decide, .inl T.t9.gC⟩ (fun a oe cls d pn hb hF hz hf => pss_one (ps_ret (pe_tup (pa_cons pe_int (pa_cons (by exact (pe_byTh T.t9 hz hf (pv 2))) pa_nil)))))
      (HdsAs.cons (c := .ref (C 2)) ⟨rfl, by decide, .inl T.t2.gC⟩ (fun a oe cls d pn hb hF hz hf => pss_one (ps_ret (pe_tup (pa_cons pe_int (pa_cons (by exact (pe_byTh T.t2 hz hf (pv 2))) pa_nil)))))
      (HdsAs.cons (c := .ref (C 6)) ⟨rfl, by decide, .inl T.t6.gC⟩ (fun a oe cls d pn hb hF hz hf => pss_one (ps_ret (pe_tup (pa_cons pe_int (pa_cons (by exact (pe_byAt T.t6 hz hf (pv 2))) pa_nil)))))
      (HdsAs.cons (c := .ref (C 18)) ⟨rfl, by decide, .inl T.t18.gC⟩ (fun a oe cls d pn hb hF hz hf => pss_one (ps_ret (pe_tup (pa_cons pe_int (pa_cons (by exact (pe_byTh T.t18 hz hf (pv 2))) pa_nil)))))
      (HdsAs.cons (c := .ref (C 12)) ⟨rfl, by decide, .inl T.t12.gC⟩ (fun a oe cls d pn hb hF hz hf => pss_one (ps_ret (pe_tup (pa_cons pe_int (pa_cons (by exact (pe_byTh T.t12 hz hf (pv 2))) pa_nil)))))
      (HdsAs.cons (c := .ref (C 4)) ⟨rfl, by decide, .inl T.t4.gC⟩ (fun a oe cls d pn hb hF hz hf => pss_one (ps_ret (pe_tup (pa_cons pe_int (pa_cons (by exact (pe_byTh T.t4 hz hf (pv 2))) pa_nil)))))
      (HdsAs.cons (c := .ref (C 14)) ⟨rfl, by decide, .inl T.t14.gC⟩ (fun a oe cls d pn hb hF hz hf => pss_one (ps_ret (pe_tup (pa_cons pe_int (pa_cons (by exact (pe_byTh T.t14 hz hf (pv 2))) pa_nil)))))
      (HdsAs.cons (c := .ref (C 8)) ⟨rfl, by decide, .inl T.t8.gC⟩ (fun a oe cls d pn hb hF hz hf => pss_one (ps_ret (pe_tup (pa_cons pe_int (pa_cons (by exact (pe_byTh T.t8 hz hf (pv 2))) pa_nil)))))
      (HdsAs.cons (c := .ref (C 10)) ⟨rfl, by decide, .inl T.t10.gC⟩ (fun a oe cls d pn hb hF hz hf => pss_one (ps_ret (pe_tup (pa_cons pe_int (pa_cons (by exact (pe_byTh T.t10 hz hf (pv 2))) pa_nil)))))
      (HdsAs.cons (c := .ref (C 23)) ⟨rfl, by decide, .inl T.t23.gC⟩ (fun a oe cls d pn hb hF hz hf => pss_one (ps_ret (pe_tup (pa_cons pe_int (pa_cons (by exact (pe_byTh T.t23 hz hf (pv 2))) pa_nil)))))
      (HdsAs.cons (c := .ref (C 16)) ⟨rfl, by decide, .inl T.t16.gC⟩ (fun a oe cls d pn hb hF hz hf => pss_one (ps_ret (pe_tup (pa_cons pe_int (pa_cons (by exact (pe_byTh T.t16 hz hf (pv 2))) pa_nil)))))
      (HdsAs.cons (c := .ref (C 21)) ⟨rfl, by decide, .inl T.t21.gC⟩ (fun a oe cls d pn hb hF hz hf => pss_one (ps_ret (pe_tup (pa_cons pe_int (pa_cons (by exact (pe_byTh T.t21 hz hf (pv 2))) pa_nil)))))
      (HdsAs.cons (c := .ref (C 19)) ⟨rfl, by decide, .inl T.t19.gC⟩ (fun a oe cls d pn hb hF hz hf => pss_one (ps_ret (pe_tup (pa_cons pe_int (pa_cons (by exact (pe_byTh T.t19 hz hf (pv 2))) pa_nil)))))
      (HdsAs.cons (c := .ref (C 17)) ⟨rfl, by decide, .inl T.t17.gC⟩ (fun a oe cls d pn hb hF hz hf => pss_one (ps_ret (pe_tup (pa_cons pe_int (pa_cons (by exact (pe_byTh T.t17 hz hf (pv 2))) pa_nil)))))
      .nil))))))))))))))))))))))))), ?_⟩
    refine ⟨_, rfl, _, rfl, i, v, rfl, Nat.zero_le _, hi, fun d H1 k1 nd hd => ?_⟩
    refine ⟨decide (i = 15), T.exm i 15 hi (by decide), fun q a na => ?_, fun q15 => ?_⟩
    · obtain rfl : i = 15 := of_decide_eq_true q
      exact ⟨_, rfl, rfl, rfl, d, v, rfl, hd, by show 2 ≤ sizeLine; decide, fun t nt => k t _ upd_same (k1.trans (.new nt))⟩
    refine ⟨decide (i = 3), T.exm i 3 hi (by decide), fun q a na => ?_, fun q3 => ?_⟩
    · obtain rfl : i = 3 := of_decide_eq_true q
      exact ⟨_, rfl, rfl, rfl, d, v, rfl, hd, by show 2 ≤ sizeLine; decide, fun t nt => k t _ upd_same (k1.trans (.new nt))⟩
    refine ⟨decide (i = 0), T.exm i 0 hi (by decide), fun q a na => ?_, fun q0 => ?_⟩
    · obtain rfl : i = 0 := of_decide_eq_true q
      exact ⟨_, rfl, rfl, rfl, d, v, rfl, hd, by show 2 ≤ sizeLine; decide, fun t nt => k t _ upd_same (k1.trans (.new nt))⟩
    refine ⟨decide (i = 22), T.exm i 22 hi (by decide), fun q a na => ?_, fun q22 => ?_⟩
    · obtain rfl : i = 22 := of_decide_eq_true q
      exact ⟨_, rfl, rfl, rfl, d, v, rfl, hd, by show 2 ≤ sizeLine; decide, fun t nt => k t _ upd_same (k1.trans (.new nt))⟩
    refine ⟨decide (i = 11), T.exm i 11 hi (by decide), fun q a na => ?_, fun q11 => ?_⟩
    · obtain rfl : i = 11 := of_decide_eq_true q
      exact ⟨_, rfl, rfl, rfl, d, v, rfl, hd, by show 2 ≤ sizeLine; decide, fun t nt => k t _ upd_same (k1.trans (.new nt))⟩
    refine ⟨decide (i = 7), T.exm i 7 hi (by decide), fun q a na => ?_, fun q7 => ?_⟩
    · obtain rfl : i = 7 := of_decide_eq_true q
      exact ⟨_, rfl, rfl, rfl, d, v, rfl, hd, by show 2 ≤ sizeLine; decide, fun t nt => k t _ upd_same (k1.trans (.new nt))⟩
    refine ⟨decide (i = 1), T.exm i 1 hi (by decide), fun q a na => ?_, fun q1 => ?_⟩
    · obtain rfl : i = 1 := of_decide_eq_true q
      exact ⟨_, rfl, rfl, rfl, d, v, rfl, hd, by show 2 ≤ sizeLine; decide, fun t nt => k t _ upd_same (k1.trans (.new nt))⟩
    refine ⟨decide (i = 13), T.exm i 13 hi (by decide), fun q a na => ?_, fun q13 => ?_⟩
    · obtain rfl : i = 13 := of_decide_eq_true q
      exact ⟨_, rfl, rfl, rfl, d, v, rfl, hd, by show 2 ≤ sizeLine; decide, fun t nt => k t _ upd_same (k1.trans (.new nt))⟩
    refine ⟨decide (i = 20), T.exm i 20 hi (by decide), fun q a na => ?_, fun q20 => ?_⟩
    · obtain rfl : i = 20 := of_decide_eq_true q
      exact ⟨_, rfl, rfl, rfl, d, v, rfl, hd, by show 2 ≤ sizeLine; decide, fun t nt => k t _ upd_same (k1.trans (.new nt))⟩
    refine ⟨decide (i = 5), T.exm i 5 hi (by decide), fun q a na => ?_, fun q5 => ?_⟩
    · obtain rfl : i = 5 := of_decide_eq_true q
      exact ⟨_, rfl, rfl, rfl, d, v, rfl, hd, by show 2 ≤ sizeLine; decide, fun t nt => k t _ upd_same (k1.trans (.new nt))⟩
    refine ⟨decide (i = 9), T.exm i 9 hi (by decide), fun q a na => ?_, fun q9 => ?_⟩
    · obtain rfl : i = 9 := of_decide_eq_true q
      exact ⟨_, rfl, rfl, rfl, d, v, rfl, hd, by show 2 ≤ sizeLine; decide, fun t nt => k t _ upd_same (k1.trans (.new nt))⟩
    refine ⟨decide (i = 2), T.exm i 2 hi (by decide), fun q a na => ?_, fun q2 => ?_⟩
    · obtain rfl : i = 2 := of_decide_eq_true q
      exact ⟨_, rfl, rfl, rfl, d, v, rfl, hd, by show 2 ≤ sizeLine; decide, fun t nt => k t _ upd_same (k1.trans (.new nt))⟩
    refine ⟨decide (i = 6), T.exm i 6 hi (by decide), fun q a na => ?_, fun q6 => ?_⟩
    · obtain rfl : i = 6 := of_decide_eq_true q
      exact ⟨_, rfl, rfl, rfl, d, v, rfl, hd, by show 2 ≤ sizeLine; decide, fun t nt => k t _ upd_same (k1.trans (.new nt))⟩
    refine ⟨decide (i = 18), T.exm i 18 hi (by decide), fun q a na => ?_, fun q18 => ?_⟩
    · obtain rfl : i = 18 := of_decide_eq_true q
      exact ⟨_, rfl, rfl, rfl, d, v, rfl, hd, by show 2 ≤ sizeLine; decide, fun t nt => k t _ upd_same (k1.trans (.new nt))⟩
    refine ⟨decide (i = 12), T.exm i 12 hi (by decide), fun q a na => ?_, fun q12 => ?_⟩
    · obtain rfl : i = 12 := of_decide_eq_true q
      exact ⟨_, rfl, rfl, rfl, d, v, rfl, hd, by show 2 ≤ sizeLine; decide, fun t nt => k t _ upd_same (k1.trans (.new nt))⟩
    refine ⟨decide (i = 4), T.exm i 4 hi (by decide), fun q a na => ?_, fun q4 => ?_⟩
    · obtain rfl : i = 4 := of_decide_eq_true q
      exact ⟨_, rfl, rfl, rfl, d, v, rfl, hd, by show 2 ≤ sizeLine; decide, fun t nt => k t _ upd_same (k1.trans (.new nt))⟩
    refine ⟨decide (i = 14), T.exm i 14 hi (by decide), fun q a na => ?_, fun q14 => ?_⟩
    · obtain rfl : i = 14 := of_decide_eq_true q
      exact ⟨_, rfl, rfl, rfl, d, v, rfl, hd, by show 2 ≤ sizeLine; decide, fun t nt => k t _ upd_same (k1.trans (.new nt))⟩
    refine ⟨decide (i = 8), T.exm i 8 hi (by decide), fun q a na => ?_, fun q8 => ?_⟩
    · obtain rfl : i = 8 := of_decide_eq_true q
      exact ⟨_, rfl, rfl, rfl, d, v, rfl, hd, by show 2 ≤ sizeLine; decide, fun t nt => k t _ upd_same (k1.trans (.new nt))⟩
    refine ⟨decide (i = 10), T.exm i 10 hi (by decide), fun q a na => ?_, fun q10 => ?_⟩
    · obtain rfl : i = 10 := of_decide_eq_true q
      exact ⟨_, rfl, rfl, rfl, d, v, rfl, hd, by show 2 ≤ sizeLine; decide, fun t nt => k t _ upd_same (k1.trans (.new nt))⟩
    refine ⟨decide (i = 23), T.exm i 23 hi (by decide), fun q a na => ?_, fun q23 => ?_⟩
    · obtain rfl : i = 23 := of_decide_eq_true q
      exact ⟨_, rfl, rfl, rfl, d, v, rfl, hd, by show 2 ≤ sizeLine; decide, fun t nt => k t _ upd_same (k1.trans (.new nt))⟩
    refine ⟨decide (i = 16), T.exm i 16 hi (by decide), fun q a na => ?_, fun q16 => ?_⟩
    · obtain rfl : i = 16 := of_decide_eq_true q
      exact ⟨_, rfl, rfl, rfl, d, v, rfl, hd, by show 2 ≤ sizeLine; decide, fun t nt => k t _ upd_same (k1.trans (.new nt))⟩
    refine ⟨decide (i = 21), T.exm i 21 hi (by decide), fun q a na => ?_, fun q21 => ?_⟩
    · obtain rfl : i = 21 := of_decide_eq_true q
      exact ⟨_, rfl, rfl, rfl, d, v, rfl, hd, by show 2 ≤ sizeLine; decide, fun t nt => k t _ upd_same (k1.trans (.new nt))⟩
    refine ⟨decide (i = 19), T.exm i 19 hi (by decide), fun q a na => ?_, fun q19 => ?_⟩
    · obtain rfl : i = 19 := of_decide_eq_true q
      exact ⟨_, rfl, rfl, rfl, d, v, rfl, hd, by show 2 ≤ sizeLine; decide, fun t nt => k t _ upd_same (k1.trans (.new nt))⟩
    refine ⟨decide (i = 17), T.exm i 17 hi (by decide), fun q a na => ?_, fun q17 => ?_⟩
    · obtain rfl : i = 17 := of_decide_eq_true q
      exact ⟨_, rfl, rfl, rfl, d, v, rfl, hd, by show 2 ≤ sizeLine; decide, fun t nt => k t _ upd_same (k1.trans (.new nt))⟩
    have m15 := of_decide_eq_false q15; have m3 := of_decide_eq_false q3; have m0 := of_decide_eq_false q0; have m22 := of_decide_eq_false q22; have m11 := of_decide_eq_false q11; have m7 := of_decide_eq_false q7; have m1 := of_decide_eq_false q1; have m13 := of_decide_eq_false q13; have m20 := of_decide_eq_false q20; have m5 := of_decide_eq_false q5; have m9 := of_decide_eq_false q9; have m2 := of_decide_eq_false q2; have m6 := of_decide_eq_false q6; have m18 := of_decide_eq_false q18; have m12 := of_decide_eq_false q12; have m4 := of_decide_eq_false q4; have m14 := of_decide_eq_false q14; have m8 := of_decide_eq_false q8; have m10 := of_decide_eq_false q10; have m23 := of_decide_eq_false q23; have m16 := of_decide_eq_false q16; have m21 := of_decide_eq_false q21; have m19 := of_decide_eq_false q19; have m17 := of_decide_eq_false q17; omega
theorem ok_base (F : Fun K "_law_caught_as_base" "_law_caught_as_base" sBase fa fd) (D : Df K mg "_law_raise" sRaise ["_law_way", "_law_it"] fr fdr) (D2 : Df K mg "_law_raise_more" sRaise2 ["_law_way", "_law_it"] fr2 fdr2)
    (Dc : Df K mg "_law_classes" sCls ["_law_error"] fc fdc) (T : EX K mg C f CE) (B : BI mg) : FnOk Pr w K mg base CX0 5 fa fd ["_law_way", "_law_it"] spBase := by
  refine F.ok scBase (fun vs H Q E h => ?_) (fun cdv Ar outer s H vs Q E hr h => ?_)
  · obtain ⟨i, v, rfl, _⟩ := h
    rfl
  · obtain ⟨i, v, rfl, hi, k⟩ := h
    refine ⟨_, pss_one (ps_try_asM (i := 2) (tb := fun W => tDrop (tCallS (spRaise C 0) (WE W) (tCons (tVar 0) (tCons (tVar 1) tNil)))) (Wo := fun _ _ _ _ => False) rfl rfl scBase.nd rfl rfl takes0
      (fun W pn xe tk _ => pss_one (ps_expr (by exact (pe_callS (ok_raise D.F D2 T) hr (by rfl) D.g D.F.kp D.b (fun σ => passAt tk σ) (by exact (pa_cons (pv 0) (pa_cons (pv 1) pa_nil)))))))
      (HdsAs.cons (c := .ref CE) ⟨rfl, by decide, .inl T.gE⟩ (fun a oe cls d pn hb hF hz hf => pss_one (ps_ret (pe_callZ hz hf (by exact pe_callX (okT_cls Dc.F T B) (hr.mono (by decide)) hb hF (by rfl) Dc.g Dc.F.kp Dc.b hf (pa_cons (pv 2) pa_nil))))) .nil)), ?_⟩
    refine ⟨_, rfl, _, rfl, i, v, rfl, Nat.zero_le _, hi, fun d H1 k1 nd hd => ?_⟩
    refine ⟨true, T.exmE i hi, fun _ a na => ?_, fun q => nomatch q⟩
    intro oe hz hf
    refine ⟨_, rfl, .ref a, i, v, rfl, hi, ⟨a, d, rfl, .ofo upd_same hz hf, ?_⟩, fun p H2 hp k2 np => ?_⟩
    · rw [upd_ne (ne_of_none hd na)]
      exact hd
    · have ha := k2.at_ a _ upd_same List.not_mem_nil
      have pa : p ≠ a := ne_of hp ha (by intro z; cases z)
      have k3 : Kp [] H1 H2 := (Kp.new na).trans k2
      exact ⟨ha, k p _ ((del_ne pa).trans hp) (k1.trans (k3.del na))⟩
end
end Ey
set_option maxHeartbeats 4000000
namespace Ey
open PySem PySem.Spec PyProof.Rows L2
abbrev sCar : Stmt := topS 39
def tCar (C : Nat → Addr) : TE := fun σ H Q => ∃ l xs v, σ[0]? = some (some (.ref l)) ∧ H l = some (.lst xs) ∧ ErrAll H C v is24 xs ∧ Q v H
theorem pe_car {X : Cx} {e : Expr} {te : TE} {C : Nat → Addr} (h : PE X e te) (c : ∀ σ H Q, tCar C σ H Q → te σ H Q) : PE X e (tCar C) := ⟨fun pins s σ H Q I q => h.run pins s σ H Q I (c σ H Q q)⟩
theorem car_at {H : Hp} {C : Nat → Addr} {v : V} {xs : List V} (h : ErrAll H C v is24 xs) (i : Nat) (hi : i < 24) : ∃ x, xs[i]? = some x ∧ ErrAt H C i x v := by
  have l : xs.length = 24 := h.len
  have lt : i < xs.length := by omega
  obtain ⟨j, e1, e2⟩ := h.get (List.getElem?_eq_getElem lt)
  refine ⟨_, List.getElem?_eq_getElem lt, ?_⟩
  have e3 : (List.range 24)[i]? = some i := by rw [List.getElem?_range hi]
  rw [e3] at e1
  cases e1
  exact e2
def spCar (C : Nat → Addr) : Sp := fun vs H Q _ => ∃ l xs v, vs = [.ref l] ∧ H l = some (.lst xs) ∧ ErrAll H C v is24 xs ∧ ∀ (p : Addr) (H' : Hp), H' p = some (.lst (List.replicate 24 v)) → Kp [] H H' → H p = none → Q (.ref p) H'
section
variable {Pr : Program} {w : World} {K : PySem.W.Frag} {mg : Str → Option Value} {base : Heap} {C f : Nat → Addr} {CE : Addr}
theorem scCar : FnScope ["_law_made", "_law_found"] ["_law_made"] (defScope sCar) := ⟨rfl, rfl, rfl, by decide +kernel, rfl, by decide +kernel, by decide +kernel⟩
theorem ok_car {fa : Addr} {fd : FuncData} (F : Fun K "_law_carried" "_law_carried" sCar fa fd) (T : EX K mg C f CE) (B : BI mg) : FnOk Pr w K mg base CX0 3 fa fd ["_law_made"] (spCar C) := by
  refine F.ok scCar (fun vs H Q E h => ?_) (fun cdv Ar outer s H vs Q E hr h => ?_)
  · obtain ⟨x, i, v, rfl, _⟩ := h
    rfl
  · obtain ⟨m, xs, v, rfl, hm, hv, k⟩ := h
    refine ⟨_, pss_cons (ps_set (i := 1) scCar.nd rfl (.inl rfl) (pe_lst pa_nil))
      (pss_cons (ps_expr (pe_bm PySem.F.plainAttrs_list PySem.F.slot_list_extend PySem.F.type_list_extend mt_extend (pv 1) (pa_cons (pe_lst (pa_cons (pe_car (C := C) (pe_gTh T.t0 (pe_ix ix_list (pv 0) pe_int (fun _ _ => rfl))) (fun σ H Q ⟨l, xs, v, e1, hl, ha, q⟩ => by obtain ⟨x, hx, e, d, ex, h2, h3⟩ := car_at ha 0 (by decide); subst ex; exact ⟨_, e1, l, xs, _, .ref e, rfl, rfl, sql_of hl, atI_nat hx, e, d, v, rfl, h2, h3, q⟩))
          (pa_cons (pe_car (C := C) (pe_gTh T.t1 (pe_ix ix_list (pv 0) pe_int (fun _ _ => rfl))) (fun σ H Q ⟨l, xs, v, e1, hl, ha, q⟩ => by obtain ⟨x, hx, e, d, ex, h2, h3⟩ := car_at ha 1 (by decide); subst ex; exact ⟨_, e1, l, xs, _, .ref e, rfl, rfl, sql_of hl, atI_nat hx, e, d, v, rfl, h2, h3, q⟩))
          (pa_cons (pe_car (C := C) (pe_gTh T.t2 (pe_ix ix_list (pv 0) pe_int (fun _ _ => rfl))) (fun σ H Q ⟨l, xs, v, e1, hl, ha, q⟩ => by obtain ⟨x, hx, e, d, ex, h2, h3⟩ := car_at ha 2 (by decide); subst ex; exact ⟨_, e1, l, xs, _, .ref e, rfl, rfl, sql_of hl, atI_nat hx, e, d, v, rfl, h2, h3, q⟩))
          (pa_cons (pe_car (C := C) (pe_gTh T.t3 (pe_ix ix_list (pv 0) pe_int (fun _ _ => rfl))) (fun σ H Q ⟨l, xs, v, e1, hl, ha, q⟩ => by obtain ⟨x, hx, e, d, ex, h2, h3⟩ := car_at ha 3 (by decide); subst ex; exact ⟨_, e1, l, xs, _, .ref e, rfl, rfl, sql_of hl, atI_nat hx, e, d, v, rfl, h2, h3, q⟩))
          (pa_cons (pe_car (C := C) (pe_gTh T.t4 (pe_ix ix_list (pv 0) pe_int (fun _ _ => rfl))) (fun σ H Q ⟨l, xs, v, e1, hl, ha, q⟩ => by obtain ⟨x, hx, e, d, ex, h2, h3⟩ := car_at ha 4 (by decide); subst ex; exact ⟨_, e1, l, xs, _, .ref e, rfl, rfl, sql_of hl, atI_nat hx, e, d, v, rfl, h2, h3, q⟩))
          (pa_cons (pe_car (C := C) (pe_gTh T.t5 (pe_ix ix_list (pv 0) pe_int (fun _ _ => rfl))) (fun σ H Q ⟨l, xs, v, e1, hl, ha, q⟩ => by obtain ⟨x, hx, e, d, ex, h2, h3⟩ := car_at ha 5 (by decide); subst ex; exact ⟨_, e1, l, xs, _, .ref e, rfl, rfl, sql_of hl, atI_nat hx, e, d, v, rfl, h2, h3, q⟩))
          pa_nil))))))) pa_nil)))
      (pss_cons (ps_expr (pe_bm PySem.F.plainAttrs_list PySem.F.slot_list_extend PySem.F.type_list_extend mt_extend (pv 1) (pa_cons (pe_lst (pa_cons (pe_car (C := C) (pe_gAt T.t6 (pe_ix ix_list (pv 0) pe_int (fun _ _ => rfl))) (fun σ H Q ⟨l, xs, v, e1, hl, ha, q⟩ => by obtain ⟨x, hx, e, d, ex, h2, h3⟩ := car_at ha 6 (by decide); subst ex; exact ⟨_, e1, l, xs, _, .ref e, rfl, rfl, sql_of hl, atI_nat hx, e, d, v, rfl, h2, h3, q⟩))
          (pa_cons (pe_car (C := C) (pe_gTh T.t7 (pe_ix ix_list (pv 0) pe_int (fun _ _ => rfl))) (fun σ H Q ⟨l, xs, v, e1, hl, ha, q⟩ => by obtain ⟨x, hx, e, d, ex, h2, h3⟩ := car_at ha 7 (by decide); subst ex; exact ⟨_, e1, l, xs, _, .ref e, rfl, rfl, sql_of hl, atI_nat hx, e, d, v, rfl, h2, h3, q⟩))
          (pa_cons (pe_car (C := C) (pe_gTh T.t8 (pe_ix ix_list (pv 0) pe_int (fun _ _ => rfl))) (fun σ H Q ⟨l, xs, v, e1, hl, ha, q⟩ => by obtain ⟨x, hx, e, d, ex, h2, h3⟩ := car_at ha 8 (by decide); subst ex; exact ⟨_, e1, l, xs, _, .ref e, rfl, rfl, sql_of hl, atI_nat hx, e, d, v, rfl, h2, h3, q⟩))
          (pa_cons (pe_car (C := C) (pe_gTh T.t9 (pe_ix ix_list (pv 0) pe_int (fun _ _ => rfl))) (fun σ H Q ⟨l, xs, v, e1, hl, ha, q⟩ => by obtain ⟨x, hx, e, d, ex, h2, h3⟩ := car_at ha 9 (by decide); subst ex; exact ⟨_, e1, l, xs, _, .ref e, rfl, rfl, sql_of hl, atI_nat hx, e, d, v, rfl, h2, h3, q⟩))
          (pa_cons (pe_car (C := C) (pe_gTh T.t10 (pe_ix ix_list (pv 0) pe_int (fun _ _ => rfl))) (fun σ H Q ⟨l, xs, v, e1, hl, ha, q⟩ => by obtain ⟨x, hx, e, d, ex, h2, h3⟩ := car_at ha 10 (by decide); subst ex; exact ⟨_, e1, l, xs, _, .ref e, rfl, rfl, sql_of hl, atI_nat hx, e, d, v, rfl, h2, h3, q⟩))
          (pa_cons (pe_car (C := C) (pe_gTh T.t11 (pe_ix ix_list (pv 0) pe_int (fun _ _ => rfl))) (fun σ H Q ⟨l, xs, v, e1, hl, ha, q⟩ => by obtain ⟨x, hx, e, d, ex, h2, h3⟩ := car_at ha 11 (by decide); subst ex; exact ⟨_, e1, l, xs, _, .ref e, rfl, rfl, sql_of hl, atI_nat hx, e, d, v, rfl, h2, h3, q⟩))
          pa_nil))))))) pa_nil)))
      (pss_cons (ps_expr (pe_bm PySem.F.plainAttrs_list PySem.F.slot_list_extend PySem.F.type_list_extend mt_extend (pv 1) (pa_cons (pe_lst (pa_cons (pe_car (C := C) (pe_gTh T.t12 (pe_ix ix_list (pv 0) pe_int (fun _ _ => rfl))) (fun σ H Q ⟨l, xs, v, e1, hl, ha, q⟩ => by obtain ⟨x, hx, e, d, ex, h2, h3⟩ := car_at ha 12 (by decide); subst ex; exact ⟨_, e1, l, xs, _, .ref e, rfl, rfl, sql_of hl, atI_nat hx, e, d, v, rfl, h2, h3, q⟩))
          (pa_cons (pe_car (C := C) (pe_gTh T.t13 (pe_ix ix_list (pv 0) pe_int (fun _ _ => rfl))) (fun σ H Q ⟨l, xs, v, e1, hl, ha, q⟩ => by obtain ⟨x, hx, e, d, ex, h2, h3⟩ := car_at ha 13 (by decide); subst ex; exact ⟨_, e1, l, xs, _, .ref e, rfl, rfl, sql_of hl, atI_nat hx, e, d, v, rfl, h2, h3, q⟩))
          (pa_cons (pe_car (C := C) (pe_gTh T.t14 (pe_ix ix_list (pv 0) pe_int (fun _ _ => rfl))) (fun σ H Q ⟨l, xs, v, e1, hl, ha, q⟩ => by obtain ⟨x, hx, e, d, ex, h2, h3⟩ := car_at ha 14 (by decide); subst ex; exact ⟨_, e1, l, xs, _, .ref e, rfl, rfl, sql_of hl, atI_nat hx, e, d, v, rfl, h2, h3, q⟩))
          (pa_cons (pe_car (C := C) (pe_gTh T.t15 (pe_ix ix_list (pv 0) pe_int (fun _ _ => rfl))) (fun σ H Q ⟨l, xs, v, e1, hl, ha, q⟩ => by obtain ⟨x, hx, e, d, ex, h2, h3⟩ := car_at ha 15 (by decide); subst ex; exact ⟨_, e1, l, xs, _, .ref e, rfl, rfl, sql_of hl, atI_nat hx, e, d, v, rfl, h2, h3, q⟩))
          (pa_cons (pe_car (C := C) (pe_gTh T.t16 (pe_ix ix_list (pv 0) pe_int (fun _ _ => rfl))) (fun σ H Q ⟨l, xs, v, e1, hl, ha, q⟩ => by obtain ⟨x, hx, e, d, ex, h2, h3⟩ := car_at ha 16 (by decide); subst ex; exact ⟨_, e1, l, xs, _, .ref e, rfl, rfl, sql_of hl, atI_nat hx, e, d, v, rfl, h2, h3, q⟩))
          (pa_cons (pe_car (C := C) (pe_gTh T.t17 (pe_ix ix_list (pv 0) pe_int (fun _ _ => rfl))) (fun σ H Q ⟨l, xs, v, e1, hl, ha, q⟩ => by obtain ⟨x, hx, e, d, ex, h2, h3⟩ := car_at ha 17 (by decide); subst ex; exact ⟨_, e1, l, xs, _, .ref e, rfl, rfl, sql_of hl, atI_nat hx, e, d, v, rfl, h2, h3, q⟩))
          pa_nil))))))) pa_nil)))
      (pss_cons (ps_expr (pe_bm PySem.F.plainAttrs_list PySem.F.slot_list_extend PySem.F.type_list_extend mt_extend (pv 1) (pa_cons (pe_lst (pa_cons (pe_car (C := C) (pe_gTh T.t18 (pe_ix ix_list (pv 0) pe_int (fun _ _ => rfl))) (fun σ H Q ⟨l, xs, v, e1, hl, ha, q⟩ => by obtain ⟨x, hx, e, d, ex, h2, h3⟩ := car_at ha 18 (by decide); subst ex; exact ⟨_, e1, l, xs, _, .ref e, rfl, rfl, sql_of hl, atI_nat hx, e, d, v, rfl, h2, h3, q⟩))
          (pa_cons (pe_car (C := C) (pe_gTh T.t19 (pe_ix ix_list (pv 0) pe_int (fun _ _ => rfl))) (fun σ H Q ⟨l, xs, v, e1, hl, ha, q⟩ => by obtain ⟨x, hx, e, d, ex, h2, h3⟩ := car_at ha 19 (by decide); subst ex; exact ⟨_, e1, l, xs, _, .ref e, rfl, rfl, sql_of hl, atI_nat hx, e, d, v, rfl, h2, h3, q⟩))
          (pa_cons (pe_car (C := C) (pe_gTh T.t20 (pe_ix ix_list (pv 0) pe_int (fun _ _ => rfl))) (fun σ H Q ⟨l, xs, v, e1, hl, ha, q⟩ => by obtain ⟨x, hx, e, d, ex, h2, h3⟩ := car_at ha 20 (by decide); subst ex; exact ⟨_, e1, l, xs, _, .ref e, rfl, rfl, sql_of hl, atI_nat hx, e, d, v, rfl, h2, h3, q⟩))
          (pa_cons (pe_car (C := C) (pe_gTh T.t21 (pe_ix ix_list (pv 0) pe_int (fun _ _ => rfl))) (fun σ H Q ⟨l, xs, v, e1, hl, ha, q⟩ => by obtain ⟨x, hx, e, d, ex, h2, h3⟩ := car_at ha 21 (by decide); subst ex; exact ⟨_, e1, l, xs, _, .ref e, rfl, rfl, sql_of hl, atI_nat hx, e, d, v, rfl, h2, h3, q⟩))
          (pa_cons (pe_car (C := C) (pe_gTh T.t22 (pe_ix ix_list (pv 0) pe_int (fun _ _ => rfl))) (fun σ H Q ⟨l, xs, v, e1, hl, ha, q⟩ => by obtain ⟨x, hx, e, d, ex, h2, h3⟩ := car_at ha 22 (by decide); subst ex; exact ⟨_, e1, l, xs, _, .ref e, rfl, rfl, sql_of hl, atI_nat hx, e, d, v, rfl, h2, h3, q⟩))
          (pa_cons (pe_car (C := C) (pe_gTh T.t23 (pe_ix ix_list (pv 0) pe_int (fun _ _ => rfl))) (fun σ H Q ⟨l, xs, v, e1, hl, ha, q⟩ => by obtain ⟨x, hx, e, d, ex, h2, h3⟩ := car_at ha 23 (by decide); subst ex; exact ⟨_, e1, l, xs, _, .ref e, rfl, rfl, sql_of hl, atI_nat hx, e, d, v, rfl, h2, h3, q⟩))
          pa_nil))))))) pa_nil)))
      (pss_one (ps_ret (pv 1))))))), ?_⟩
    refine ⟨Nat.zero_le _, fun l nl => ?_⟩
    have hl : (upd H l (.lst [])) l = some (.lst []) := upd_same
    have kl : Kp [] H (upd H l (.lst [])) := .new nl
    generalize upd H l (.lst []) = G at hl kl
    refine ⟨_, rfl, .inl ⟨rfl, _, sql_of hl⟩, ?_⟩
    refine ⟨m, xs, v, rfl, kl.at_ _ _ hm List.not_mem_nil, hv.kp kl, ?_⟩
    refine ⟨m, xs, v, rfl, kl.at_ _ _ hm List.not_mem_nil, hv.kp kl, ?_⟩
    refine ⟨m, xs, v, rfl, kl.at_ _ _ hm List.not_mem_nil, hv.kp kl, ?_⟩
    refine ⟨m, xs, v, rfl, kl.at_ _ _ hm List.not_mem_nil, hv.kp kl, ?_⟩
    refine ⟨m, xs, v, rfl, kl.at_ _ _ hm List.not_mem_nil, hv.kp kl, ?_⟩
    refine ⟨m, xs, v, rfl, kl.at_ _ _ hm List.not_mem_nil, hv.kp kl, ?_⟩
    refine ⟨by show 6 ≤ sizeLine; decide, fun p0 np => ?_⟩
    obtain ⟨hl3, kl3⟩ := ext_end2 (zs := [v, v, v, v, v, v]) hl kl nl np
    refine ⟨l, p0, [], [v, v, v, v, v, v], rfl, rfl, (upd_ne (ne_of_none hl np)).trans hl, upd_same, ?_, ?_⟩
    · show 6 ≤ sizeLine
      decide
    generalize upd (upd G p0 (.lst [v, v, v, v, v, v])) l (.lst ([] ++ [v, v, v, v, v, v])) = G0 at hl3 kl3 ⊢
    clear hl kl
    have hl := hl3
    have kl := kl3
    clear hl3 kl3
    refine ⟨_, rfl, .inl ⟨rfl, _, sql_of hl⟩, ?_⟩
    refine ⟨m, xs, v, rfl, kl.at_ _ _ hm List.not_mem_nil, hv.kp kl, ?_⟩
    refine ⟨m, xs, v, rfl, kl.at_ _ _ hm List.not_mem_nil, hv.kp kl, ?_⟩
    refine ⟨m, xs, v, rfl, kl.at_ _ _ hm List.not_mem_nil, hv.kp kl, ?_⟩
    refine ⟨m, xs, v, rfl, kl.at_ _ _ hm List.not_mem_nil, hv.kp kl, ?_⟩
    refine ⟨m, xs, v, rfl, kl.at_ _ _ hm List.not_mem_nil, hv.kp kl, ?_⟩
    refine ⟨m, xs, v, rfl, kl.at_ _ _ hm List.not_mem_nil, hv.kp kl, ?_⟩
    refine ⟨by show 6 ≤ sizeLine; decide, fun p1 np => ?_⟩
    obtain ⟨hl3, kl3⟩ := ext_end2 (zs := [v, v, v, v, v, v]) hl kl nl np
    refine ⟨l, p1, ([] ++ [v, v, v, v, v, v]), [v, v, v, v, v, v], rfl, rfl, (upd_ne (ne_of_none hl np)).trans hl, upd_same, ?_, ?_⟩
    · show 12 ≤ sizeLine
      decide
    generalize upd (upd G0 p1 (.lst [v, v, v, v, v, v])) l (.lst (([] ++ [v, v, v, v, v, v]) ++ [v, v, v, v, v, v])) = G1 at hl3 kl3 ⊢
    clear hl kl
    have hl := hl3
    have kl := kl3
    clear hl3 kl3
    refine ⟨_, rfl, .inl ⟨rfl, _, sql_of hl⟩, ?_⟩
    refine ⟨m, xs, v, rfl, kl.at_ _ _ hm List.not_mem_nil, hv.kp kl, ?_⟩
    refine ⟨m, xs, v, rfl, kl.at_ _ _ hm List.not_mem_nil, hv.kp kl, ?_⟩
    refine ⟨m, xs, v, rfl, kl.at_ _ _ hm List.not_mem_nil, hv.kp kl, ?_⟩
    refine ⟨m, xs, v, rfl, kl.at_ _ _ hm List.not_mem_nil, hv.kp kl, ?_⟩
    refine ⟨m, xs, v, rfl, kl.at_ _ _ hm List.not_mem_nil, hv.kp kl, ?_⟩
    refine ⟨m, xs, v, rfl, kl.at_ _ _ hm List.not_mem_nil, hv.kp kl, ?_⟩
    refine ⟨by show 6 ≤ sizeLine; decide, fun p2 np => ?_⟩
    obtain ⟨hl3, kl3⟩ := ext_end2 (zs := [v, v, v, v, v, v]) hl kl nl np
    refine ⟨l, p2, (([] ++ [v, v, v, v, v, v]) ++ [v, v, v, v, v, v]), [v, v, v, v, v, v], rfl, rfl, (upd_ne (ne_of_none hl np)).trans hl, upd_same, ?_, ?_⟩
    · show 18 ≤ sizeLine
      decide
    generalize upd (upd G1 p2 (.lst [v, v, v, v, v, v])) l (.lst ((([] ++ [v, v, v, v, v, v]) ++ [v, v, v, v, v, v]) ++ [v, v, v, v, v, v])) = G2 at hl3 kl3 ⊢
    clear hl kl
    have hl := hl3
    have kl := kl3
    clear hl3 kl3
    refine ⟨_, rfl, .inl ⟨rfl, _, sql_of hl⟩, ?_⟩
    refine ⟨m, xs, v, rfl, kl.at_ _ _ hm List.not_mem_nil, hv.kp kl, ?_⟩
    refine ⟨m, xs, v, rfl, kl.at_ _ _ hm List.not_mem_nil, hv.kp kl, ?_⟩
    refine ⟨m, xs, v, rfl, kl.at_ _ _ hm List.not_mem_nil, hv.kp kl, ?_⟩
    refine ⟨m, xs, v, rfl, kl.at_ _ _ hm List.not_mem_nil, hv.kp kl, ?_⟩
    refine ⟨m, xs, v, rfl, kl.at_ _ _ hm List.not_mem_nil, hv.kp kl, ?_⟩
    refine ⟨m, xs, v, rfl, kl.at_ _ _ hm List.not_mem_nil, hv.kp kl, ?_⟩
    refine ⟨by show 6 ≤ sizeLine; decide, fun p3 np => ?_⟩
    obtain ⟨hl3, kl3⟩ := ext_end2 (zs := [v, v, v, v, v, v]) hl kl nl np
    refine ⟨l, p3, ((([] ++ [v, v, v, v, v, v]) ++ [v, v, v, v, v, v]) ++ [v, v, v, v, v, v]), [v, v, v, v, v, v], rfl, rfl, (upd_ne (ne_of_none hl np)).trans hl, upd_same, ?_, ?_⟩
    · show 24 ≤ sizeLine
      decide
    generalize upd (upd G2 p3 (.lst [v, v, v, v, v, v])) l (.lst (((([] ++ [v, v, v, v, v, v]) ++ [v, v, v, v, v, v]) ++ [v, v, v, v, v, v]) ++ [v, v, v, v, v, v])) = G3 at hl3 kl3 ⊢
    clear hl kl
    have hl := hl3
    have kl := kl3
    clear hl3 kl3
    exact ⟨_, rfl, k l _ hl kl nl⟩
end
end Ey
set_option maxHeartbeats 4000000
namespace Ey
open PySem PySem.Spec L2
/-! ### f(k = v, ..), the parameters told from the last one to the first -/
def gRv {α : Type} (us ws : List α) : List α := match us with
  | [] => ws.reverse
  | _ :: _ => []
theorem vals_rv {xs : List V} {us : List Value} (h : Vals xs us) : Vals xs.reverse us.reverse := by
  induction h with
  | nil => exact .nil
  | cons a _ ih =>
    rw [List.reverse_cons, List.reverse_cons]
    exact ih.append (.cons a .nil)
theorem kb_rv {K : PySem.W.Frag} {fd : FuncData} {ps ks : List Str} (hp : ps ≠ []) (h : ∀ ws : List Value, ws.length = ps.length → bindArgs fd ⟨[], ks.zip ws⟩ = pure (ps.zip ws.reverse)) : KBinds K fd ps ks gRv gRv := by
  refine ⟨fun s us ws _ hl => ?_, fun {vs us zs ws} r1 r2 => ?_⟩
  · cases us with
    | nil => exact .of_eq (h ws (by rw [← hl]; exact (List.length_reverse).symm))
    | cons a r => exact absurd hl (by intro e; exact hp (List.length_eq_zero_iff.mp e.symm))
  · cases r1 with
    | nil => exact vals_rv r2
    | cons _ _ => exact .nil
theorem Fun.rvs {K : PySem.W.Frag} {x qual : Str} {st : Stmt} {f : Addr} {fd : FuncData} {ps ks : List Str} (F : Fun K x qual st f fd) (hp : ps ≠ [])
    (h : ∀ (kV doc pm : Value) (an : Option Addr) (cdv ct : Value) (ws : List Value), ws.length = ps.length → bindArgs (PySem.W.fnOf x qual (defArgs st) (defBody st) (defScope st) .none kV doc pm an cdv ct) ⟨[], ks.zip ws⟩ = pure (ps.zip ws.reverse)) : KBinds K fd ps ks gRv gRv := by
  obtain ⟨oc, od, kV, doc, pm, an, cdv, ct, osl, rfl, lk, _⟩ := F.ex
  exact kb_rv hp (h kV doc pm an cdv ct)
section
variable {X : Cx} {CX : CXT} {k : Nat} {f : Addr} {fd : FuncData} {qs ks : List Str} {sp : Sp} {E : XK} {x : Str} {p pos : Pos} {kws : List Keyword} {tk : TA} {g : List Value → List Value → List Value} {gV : List V → List V → List V}
theorem pe_callKR (F : FnOk X.prog X.w X.K X.mg X.base CX k f fd qs sp) (hr : Room k X.A) (hg : Gl X x) (hm : X.mg x = some (.ref f)) (hk : PySem.W.keepIn X.K (.ref f) = true) (hb : KBinds X.K fd qs ks g gV) (hx : Passes CX X E) (hkw : PK X kws tk)
    (hall : (backToKw pos (keywordEach kws X.env)).all (·.1.isSome) = true := by rfl) (hks : (backToKw pos (keywordEach kws X.env)).filterMap (·.1) = ks := by rfl) (hdb : (x == ("__debug__" : Str)) = false := by decide)
    (hpl : ((backTo pos (starEach [] X.env)).any (·.1) || (backToKw pos (keywordEach kws X.env)).any (·.1.isNone)) = false := by rfl) :
    PE X (.Call (.Name x p) [] kws pos) (tCallK sp gV E tNil tk) := by
  refine ⟨fun pins s σ H Q I h => wpAny_Call_Name_kw (ld_glob I hg hm ?_ hdb)⟩
  refine PySem.W.callWith_KW0 (h₀ := X.base) I.ok.mod.kin hk hall ?_ hpl
  refine thn (hkw.run pos pins s σ H _ I h) fun ws s2 ⟨zs, H2, I2, rz, q2⟩ => ⟨I2.kIn, ?_⟩
  rw [hks]
  exact run_fnk (us := []) (vs := []) F hr hb hx I2 .nil rz q2
end
end Ey
set_option maxHeartbeats 4000000
namespace Ey
open PySem PySem.Spec PyProof.Rows L2
abbrev sLaw : Stmt := topS 40
abbrev NL : List Str := ["_law_script", "_law_deck_here", "_law_near", "_law_far", "_law_some", "_law_others", "_law_made", "_law_at", "_law_error", "_law_way", "_law_it", "_law_place"]
theorem scLaw : FnScope NL ["_law_script"] (defScope sLaw) := ⟨rfl, rfl, rfl, by decide +kernel, rfl, by decide +kernel, by decide +kernel⟩
/-- what the law leans on -/
structure LW (K : PySem.W.Frag) (mg : Str → Option Value) (A : Nat → Addr) (D : Nat → FuncData) (C f : Nat → Addr) (CE : Addr) : Prop extends LH K mg A D where
  deck : Df K mg "_law_deck" sDeck ["_law_script", "_law_seed"] (A 27) (D 27)
  pos : Df K mg "_law_by_position" sPos ["_law_it"] (A 31) (D 31)
  nam : Df K mg "_law_by_name" sNam ["_law_it"] (A 32) (D 32)
  cls : Df K mg "_law_classes" sCls ["_law_error"] (A 33) (D 33)
  own : Df K mg "_law_is_own" sOwn ["_law_at", "_law_error"] (A 34) (D 34)
  rai : Df K mg "_law_raise" sRaise ["_law_way", "_law_it"] (A 35) (D 35)
  rai2 : Df K mg "_law_raise_more" sRaise2 ["_law_way", "_law_it"] (A 36) (D 36)
  cau : Df K mg "_law_caught" sCaught ["_law_way", "_law_it"] (A 37) (D 37)
  bas : Df K mg "_law_caught_as_base" sBase ["_law_way", "_law_it"] (A 38) (D 38)
  car : Df K mg "_law_carried" sCar ["_law_made"] (A 39) (D 39)
  T : EX K mg C f CE
theorem re_an {ms : List Addr} {n w : Nat} {H : Hp} {v : V} {d : PyData} {Q : VK} (h : An ms H v d) (g : Good n w d) (hn : n ≤ 100) (hw : w ≤ 1000000) (q : Q (.str d.shown) H) : rReprE [v] H Q :=
  ⟨ms, v, d, rfl, h, g.f, Nat.le_trans g.d hn, Nat.le_trans g.w hw, q⟩
def spLaw (K : PySem.W.Frag) : Sp := fun vs H Q _ => ∃ (c : Addr) (ns : List Int), vs = [.ref c] ∧ SqL K H c (ns.map V.int) ∧ ns.length ≤ 63 ∧ ∀ H', Q (.bl true) H'
theorem pair_good {n w i : Nat} {x : PyData} (g : Good n w x) (hi : i < 24) : Good (n + 1) (w + 60) (.tuple [.int i, x]) := by
  refine ⟨?_, ?_, ?_⟩
  · have e : fit (.int (i : Int)) = true := by
      show decide ((i : Int).natAbs < 10 ^ 40) = true
      exact decide_eq_true (Nat.lt_trans (show (i : Int).natAbs < 24 by omega) (by decide +kernel))
    show (fit (.int (i : Int)) && (fit x && true)) = true
    rw [e, g.f]
    rfl
  · show max 0 (max x.depth 0) + 1 ≤ n + 1
    have := g.d
    omega
  · show 45 + 2 + (wd x + 2 + 0) + 3 ≤ w + 60
    have := g.w
    omega
section
variable {Pr : Program} {w : World} {K : PySem.W.Frag} {mg : Str → Option Value} {base : Heap} {A : Nat → Addr} {D : Nat → FuncData} {C f : Nat → Addr} {CE : Addr}
theorem ok_law {fa : Addr} {fd : FuncData} (Fl : Fun K "law" "law" sLaw fa fd) (L : LW K mg A D C f CE) (hsm : ∃ mm, base.Ns sysModules mm) (mE : mg "enumerate" = none) : LawOk Pr w K mg base fa fd "_law_script" (spLaw K) := by
  have B := L.B
  have T := L.T
  refine law_ok (k := 80) Fl scLaw ⟨rfl, by decide, by decide⟩ fun cdv s H v Q hr h => ?_
  obtain ⟨c, ns, e, hS, hn, k⟩ := h
  cases e
  have gA : FnOk Pr w K mg base CX0 6 (A 30) (D 30) ["_law_deck_here", "_law_deep"] (spAny 4) := ok_any L.toLH L.any 4
  refine ⟨_, pss_cons (ps_set (i := 1) scLaw.nd rfl (.inl rfl) (pe_call (ok_deck L.deck.F B) (hr.mono (by decide)) (by rfl) L.deck.g L.deck.F.kp L.deck.b .nil pass0 (pa_cons (pv 0) (pa_cons pe_int pa_nil))))
    (pss_cons (ps_asg (pe_tup (pa_cons (pe_call gA (hr.mono (by decide)) (by rfl) L.any.g L.any.F.kp L.any.b .nil pass0 (pa_cons (pv 1) (pa_cons pe_int pa_nil))) (pa_cons (pe_call gA (hr.mono (by decide)) (by rfl) L.any.g L.any.F.kp L.any.b .nil pass0 (pa_cons (pv 1) (pa_cons pe_int pa_nil))) pa_nil)))
      (pg_tup (by rfl) (pgs_cons (pg_name (i := 2) scLaw.nd rfl (.inr rfl)) (pgs_cons (pg_name (i := 3) scLaw.nd rfl (.inr rfl)) pgs_nil))))
    (pss_cons (ps_par (i := 4) (j := 5) (by rfl) scLaw.nd rfl rfl (by decide) rfl rfl (pa_cons (pe_call (ok_pos L.pos.F T) (hr.mono (by decide)) (by rfl) L.pos.g L.pos.F.kp L.pos.b .nil pass0 (pa_cons (pv 2) pa_nil)) (pa_cons (pe_call (ok_nam L.nam.F T) (hr.mono (by decide)) (by rfl) L.nam.g L.nam.F.kp L.nam.b .nil pass0 (pa_cons (pv 3) pa_nil)) pa_nil)) (by rfl))
    (pss_cons (ps_if (pt_cmpR (op_neD hr.units) (pe_lc (own := [("_law_it", 10)]) (g := gName 10) rfl scLaw.nd (pi_list (pe_call (ok_car L.car.F T B) (hr.mono (by decide)) (by rfl) L.car.g L.car.F.kp L.car.b .nil pass0 (pa_cons (pv 4) pa_nil))) (blkOk_by (N := NL) (sc := defScope sLaw) (by decide +kernel)) (fun _ _ _ _ _ => pg_name (i := 10) scLaw.nd rfl (Or.inl rfl))
        (fun _ _ _ _ _ => pts_one (pt_cmpR op_ne (pe_callB (cr_reprE hsm rfl hr) (by rfl) B.repr (by decide +kernel) (pa_cons (pv 10) pa_nil)) (pe_callB (cr_reprE hsm rfl hr) (by rfl) B.repr (by decide +kernel) (pa_cons (pv 2) pa_nil)) (nomark _)))
        (fun _ _ _ _ _ => pv 10)) (pe_lst pa_nil) (nomark _)) (pss_one (ps_ret pe_bl)) pss_nil)
    (pss_cons (ps_if (pt_cmpR (op_neD hr.units) (pe_lc (own := [("_law_it", 10)]) (g := gName 10) rfl scLaw.nd (pi_list (pe_call (ok_car L.car.F T B) (hr.mono (by decide)) (by rfl) L.car.g L.car.F.kp L.car.b .nil pass0 (pa_cons (pv 5) pa_nil))) (blkOk_by (N := NL) (sc := defScope sLaw) (by decide +kernel)) (fun _ _ _ _ _ => pg_name (i := 10) scLaw.nd rfl (Or.inl rfl))
        (fun _ _ _ _ _ => pts_one (pt_cmpR op_ne (pe_callB (cr_reprE hsm rfl hr) (by rfl) B.repr (by decide +kernel) (pa_cons (pv 10) pa_nil)) (pe_callB (cr_reprE hsm rfl hr) (by rfl) B.repr (by decide +kernel) (pa_cons (pv 3) pa_nil)) (nomark _)))
        (fun _ _ _ _ _ => pv 10)) (pe_lst pa_nil) (nomark _)) (pss_one (ps_ret pe_bl)) pss_nil)
    (pss_cons (ps_for PassesOwn.never rfl (pi_tup (pe_tup (pa_cons (pv 4) (pa_cons (pv 5) pa_nil)))) (pg_name (i := 6) scLaw.nd rfl (.inl rfl))
      (pss_one (ps_for PassesOwn.never rfl (pi_enum (by rfl) mE (pa_cons (pv 6) pa_nil)) (pg_tup rfl (pgs_cons (pg_name (i := 7) scLaw.nd rfl (.inl rfl)) (pgs_cons (pg_name (i := 8) scLaw.nd rfl (.inl rfl)) pgs_nil)))
        (pss_one (ps_if (pt_not (pt_val (pe_call (ok_own L.own.F L.cls T B) (hr.mono (by decide)) (by rfl) L.own.g L.own.F.kp L.own.b .nil pass0 (pa_cons (pv 7) (pa_cons (pv 8) pa_nil))))) (pss_one (ps_ret pe_bl)) pss_nil)))))
    (pss_cons (ps_for PassesOwn.never rfl (pi_range1 (by rfl) B.range (pa_cons pe_int pa_nil)) (pg_name (i := 9) scLaw.nd rfl (.inr rfl))
      (pss_cons (ps_if (pt_cmpR op_ne (pe_callB (cr_reprE hsm rfl hr) (by rfl) B.repr (by decide +kernel) (pa_cons (pe_call (ok_caught L.cau.F L.rai L.rai2 T) (hr.mono (by decide)) (by rfl) L.cau.g L.cau.F.kp L.cau.b .nil pass0 (pa_cons (pv 9) (pa_cons (pv 2) pa_nil))) pa_nil))
          (pe_callB (cr_reprE hsm rfl hr) (by rfl) B.repr (by decide +kernel) (pa_cons (pe_tup (pa_cons (pv 9) (pa_cons (pv 2) pa_nil))) pa_nil)) (nomark _)) (pss_one (ps_ret pe_bl)) pss_nil)
      (pss_one (ps_if (pt_cmpR (op_neD hr.units) (pe_call (ok_base L.bas.F L.rai L.rai2 L.cls T B) (hr.mono (by decide)) (by rfl) L.bas.g L.bas.F.kp L.bas.b .nil pass0 (pa_cons (pv 9) (pa_cons (pv 3) pa_nil)))
          (pe_lc (own := [("_law_place", 11)]) (g := gName 11) (tt := tYes) rfl scLaw.nd (pi_range1 (by rfl) B.range (pa_cons pe_int pa_nil)) (blkOk_by (N := NL) (sc := defScope sLaw) (by decide +kernel)) (fun _ _ _ _ _ => pg_name (i := 11) scLaw.nd rfl (Or.inl rfl)) (fun _ _ _ _ _ => pts_nil)
            (fun _ _ _ _ _ => pe_cmpR op_eq (pv 11) (pv 9) (nomark _))) (nomark _)) (pss_one (ps_ret pe_bl)) pss_nil))))
    (pss_one (ps_ret pe_bl)))))))), ?_⟩
  refine ⟨_, rfl, c, ns, _, rfl, hS, hn, fun d l H1 D1 k1 nd nl => ?_⟩
  have F1 : Frame [d, l] d l H1 := ⟨D1, by simp, by simp, fun x hx => D1.some_ x hx⟩
  refine ⟨_, rfl, d, l, [d, l], 3, rfl, by decide, F1, fun v1 x1 H2 a1 g1 F2 k2 => ?_⟩
  refine ⟨_, rfl, d, l, [d, l], 2, rfl, by decide, F2, fun v2 x2 H3 a2 g2 F3 k3 => ?_⟩
  have a1 := a1.kp k3 F2.sub _
  refine ⟨by show 2 ≤ sizeLine; decide, fun t nt => ?_⟩
  have k4 : Kp [] H3 (upd H3 t (.tup [v1, v2])) := .new nt
  refine ⟨t, _, rfl, sqt_of upd_same, rfl, _, _, rfl, _, _, rfl, rfl, ?_⟩
  have a1 := a1.kp k4 (by simp) _
  have a2 := a2.kp k4 (by simp) _
  have b40 : 10 ^ 29 + 1 ≤ 10 ^ 40 := by decide +kernel
  have g1 : Good 8 6000 x1 := (g1.mono (Nat.le_refl _) (by decide) (by decide) : GoodJ (10 ^ 29 + 1) 8 6000 x1).good b40
  have g2 : Good 8 6000 x2 := (g2.mono (Nat.le_refl _) (by decide) (by decide) : GoodJ (10 ^ 29 + 1) 8 6000 x2).good b40
  generalize upd H3 t (.tup [v1, v2]) = H4 at a1 a2 ⊢
  clear k4
  refine ⟨_, rfl, v1, rfl, fun p1 xs1 H5 hp1 e1 k5 np1 => ?_⟩
  refine ⟨_, rfl, v2, rfl, fun p2 xs2 H6 hp2 e2 k6 np2 => ?_⟩
  refine ⟨_, _, rfl, ?_⟩
  have a1 := a1.kp (k5.trans k6) (by simp) _
  have a2 := a2.kp (k5.trans k6) (by simp) _
  have hp1 := k6.at_ _ _ hp1 List.not_mem_nil
  have e1 := e1.kp k6
  clear k1 k2 k3 k5 k6 np1 np2 nt nd nl D1 F1 F2 F3 hS
  -- what the first ones carry
  refine ⟨_, rfl, p1, xs1, v1, rfl, hp1, e1, fun q1 H7 hq1 k7 nq1 => ?_⟩
  refine ⟨q1, rfl, ⟨_, sql_of hq1⟩, fun D1 nD1 => ?_⟩
  refine lc_list (K := K) (a := q1) (xs := List.replicate 24 v1) (fun i G => G D1 = some (.lst []) ∧ Kp [] H7 G) ⟨upd_same, .new nD1⟩ (fun i G _ h => sql_of (h.2.at_ _ _ hq1 List.not_mem_nil)) ?_ ?_
  · rintro i x G hi ⟨hD, kG⟩
    have ex : x = v1 := List.eq_of_mem_replicate (List.mem_of_getElem? hi)
    subst ex
    have aG := a1.kp (k7.trans kG) (by simp) _
    exact ⟨rfl, _, rfl, re_an aG g1 (by decide) (by decide) ⟨_, rfl, re_an aG g1 (by decide) (by decide) ⟨rfl, _, rfl, iteNS rfl ⟨hD, kG⟩⟩⟩⟩
  rintro G1 ⟨hD1, kG1⟩
  refine ⟨Nat.zero_le _, fun z1 nz1 => ⟨.list [], .list [], .lst (sql_of ((upd_ne (ne_of_none hD1 nz1)).trans hD1)) .nil, .lst (sql_of upd_same) .nil, rfl, rfl, _, rfl, iteF ?_⟩⟩
  have kA : Kp [] H6 (upd G1 z1 (.lst [])) := (k7.trans kG1).trans (.new nz1)
  generalize upd G1 z1 (.lst []) = H8 at kA ⊢
  clear hq1 k7 nq1 nD1 hD1 kG1 nz1
  have a1 := a1.kp kA (by simp) _
  have a2 := a2.kp kA (by simp) _
  have hp1 := kA.at_ _ _ hp1 List.not_mem_nil
  have hp2 := kA.at_ _ _ hp2 List.not_mem_nil
  have e1 := e1.kp kA
  have e2 := e2.kp kA
  -- what the others carry
  refine ⟨_, rfl, p2, xs2, v2, rfl, hp2, e2, fun q2 H9 hq2 k9 nq2 => ?_⟩
  refine ⟨q2, rfl, ⟨_, sql_of hq2⟩, fun D2 nD2 => ?_⟩
  refine lc_list (K := K) (a := q2) (xs := List.replicate 24 v2) (fun i G => G D2 = some (.lst []) ∧ Kp [] H9 G) ⟨upd_same, .new nD2⟩ (fun i G _ h => sql_of (h.2.at_ _ _ hq2 List.not_mem_nil)) ?_ ?_
  · rintro i x G hi ⟨hD, kG⟩
    have ex : x = v2 := List.eq_of_mem_replicate (List.mem_of_getElem? hi)
    subst ex
    have aG := a2.kp (k9.trans kG) (by simp) _
    exact ⟨rfl, _, rfl, re_an aG g2 (by decide) (by decide) ⟨_, rfl, re_an aG g2 (by decide) (by decide) ⟨rfl, _, rfl, iteNS rfl ⟨hD, kG⟩⟩⟩⟩
  rintro G2 ⟨hD2, kG2⟩
  refine ⟨Nat.zero_le _, fun z2 nz2 => ⟨.list [], .list [], .lst (sql_of ((upd_ne (ne_of_none hD2 nz2)).trans hD2)) .nil, .lst (sql_of upd_same) .nil, rfl, rfl, _, rfl, iteF ?_⟩⟩
  have kB : Kp [] H8 (upd G2 z2 (.lst [])) := (k9.trans kG2).trans (.new nz2)
  generalize upd G2 z2 (.lst []) = H10 at kB ⊢
  clear hq2 k9 nq2 nD2 hD2 kG2 nz2
  have a1 := a1.kp kB (by simp) _
  have a2 := a2.kp kB (by simp) _
  have hp1 := kB.at_ _ _ hp1 List.not_mem_nil
  have hp2 := kB.at_ _ _ hp2 List.not_mem_nil
  have e1 := e1.kp kB
  have e2 := e2.kp kB
  -- of which classes they are
  refine ⟨_, rfl, _, rfl, by show 2 ≤ sizeLine; decide, fun tt nt => ?_⟩
  have kt : Kp [] H10 (upd H10 tt (.tup [.ref p1, .ref p2])) := .new nt
  refine ⟨tt, rfl, ⟨_, sqt_of upd_same⟩, ?_⟩
  refine for_tup (K := K) (a := tt) (xs := [.ref p1, .ref p2]) (fun i σ G => (∃ x6 x7 x8 : Option V, σ = [some (.ref c), some (.ref d), some v1, some v2, some (.ref p1), some (.ref p2), x6, x7, x8, none, none, none]) ∧ Kp [] (upd H10 tt (.tup [.ref p1, .ref p2])) G)
    ⟨⟨_, _, _, rfl⟩, .refl⟩ (fun i σ G _ h => sqt_of (h.2.tup _ _ upd_same)) ?_ ?_
  · rintro i x σ G hi ⟨⟨x6, x7, x8, rfl⟩, kG⟩
    obtain ⟨p, xs, v, rfl, hp, e⟩ : ∃ p xs v, x = .ref p ∧ G p = some (.lst xs) ∧ ErrAll G C v is24 xs := by
      have kk := kt.trans kG
      match i, hi with
      | 0, hi =>
        cases hi
        exact ⟨p1, xs1, v1, rfl, kk.at_ _ _ hp1 List.not_mem_nil, e1.kp kk⟩
      | 1, hi =>
        cases hi
        exact ⟨p2, xs2, v2, rfl, kk.at_ _ _ hp2 List.not_mem_nil, e2.kp kk⟩
      | n + 2, hi => simp at hi
    refine ⟨_, rfl, p, xs, rfl, sql_of hp, ?_⟩
    refine for_it (walk_enum (K := K) (a := p) (xs := xs)) (fun j σ G2 => (∃ x7 x8 : Option V, σ = [some (.ref c), some (.ref d), some v1, some v2, some (.ref p1), some (.ref p2), some (.ref p), x7, x8, none, none, none]) ∧ Kp [] G G2)
      ⟨⟨_, _, rfl⟩, .refl⟩ (fun j σ G2 _ h => sql_of (h.2.at_ _ _ hp List.not_mem_nil)) ?_ ?_
    · rintro j y σ G2 G3 hj ⟨⟨x7, x8, rfl⟩, k2⟩ ⟨T2, y1, y2, rfl, nT, rfl, h1, h2⟩
      cases h1
      have k3 : Kp [] G (upd G2 T2 (.tup [.int (j : Nat), y2])) := k2.trans (.new nT)
      have lx : xs.length = 24 := e.len
      obtain ⟨i2, q1, q2⟩ := e.get h2
      have q3 : (List.range 24)[j]? = some j := by rw [List.getElem?_range (by omega)]
      rw [q3] at q1
      cases q1
      refine ⟨T2, _, rfl, sqt_of upd_same, rfl, _, _, rfl, _, _, rfl, rfl, ?_⟩
      refine ⟨_, rfl, _, rfl, y2, j, v, rfl, by omega, q2.kp k3, fun G4 k4 => ⟨true, rfl, iteF ⟨⟨_, _, rfl⟩, k3.trans k4⟩⟩⟩
    · rintro σ G2 ⟨⟨x7, x8, rfl⟩, k2⟩
      exact ⟨⟨_, _, _, rfl⟩, kG.trans k2⟩
  rintro σ G ⟨⟨x6, x7, x8, rfl⟩, kG⟩
  have a1 := a1.kp (kt.trans kG) (by simp) _
  have a2 := a2.kp (kt.trans kG) (by simp) _
  clear e1 e2 hp1 hp2 kG kt nt
  -- raised and caught
  refine ⟨24, rfl, by decide, by decide, ?_⟩
  refine for_range (lo := 0) (n := 24) (fun i σ G2 => (∃ x9 : Option V, σ = [some (.ref c), some (.ref d), some v1, some v2, some (.ref p1), some (.ref p2), x6, x7, x8, x9, none, none]) ∧ Kp [] G G2) ⟨⟨_, rfl⟩, .refl⟩ ?_ ?_
  · rintro i σ G2 hi ⟨⟨x9, rfl⟩, k2⟩
    have ez : (0 : Int) + (i : Int) = (i : Int) := by omega
    rw [ez]
    refine ⟨_, rfl, _, rfl, i, v1, rfl, hi, fun t1 G3 ht1 k3 => ?_⟩
    have a3 := a1.kp (k2.trans k3) (by simp) _
    have gp := pair_good g1 hi
    refine re_an (.tup ht1 (.cons (.int _) (.cons a3 .nil))) gp (by decide) (by decide) ?_
    refine ⟨_, rfl, _, rfl, by show 2 ≤ sizeLine; decide, fun t2 nt2 => ?_⟩
    have k4 : Kp [] G3 (upd G3 t2 (.tup [.int (i : Int), v1])) := .new nt2
    refine re_an (.tup upd_same (.cons (.int _) (.cons (a3.kp k4 (by simp) _) .nil))) gp (by decide) (by decide) ⟨rfl, _, rfl, iteNS rfl ?_⟩
    refine ⟨_, rfl, _, rfl, i, v2, rfl, hi, fun p G5 hp k5 => ?_⟩
    refine ⟨24, rfl, by decide, by decide, fun D3 nD3 => ?_⟩
    refine lc_range (lo := 0) (n := 24) (fun j G6 => ∃ us : List V, G6 D3 = some (.lst us) ∧ us = (List.range j).map (fun j => .bl (decide (i = j))) ∧ Kp [] G5 G6) ⟨[], upd_same, rfl, .new nD3⟩ ?_ ?_
    · rintro j G6 hj ⟨us, hD, hu, k6⟩
      refine ⟨rfl, _, rfl, _, rfl, rfl, us, hD, ?_, us ++ [.bl (decide (i = j))], ?_, ?_, k6.own nD3⟩
      · rw [hu, List.length_map, List.length_range]
        exact Nat.lt_of_lt_of_le (show j < 24 from hj) (by decide)
      · have e : decide (V.int (0 + (j : Int)) = V.int (i : Int)) = decide (i = j) := by
          by_cases h : i = j
          · subst h
            simp
          · have n : ¬ V.int (0 + (j : Int)) = V.int (i : Int) := fun z => h (by injection z; omega)
            rw [decide_eq_false n, decide_eq_false h]
        rw [← e]
        exact upd_same
      · rw [List.range_succ, List.map_append, hu]
        rfl
    · rintro G6 ⟨us, hD, hu, k6⟩
      refine ⟨.list (ownD i), .list (ownD i), .lst (sql_of (k6.at_ _ _ hp List.not_mem_nil)) (dp_bls _ _), .lst (sql_of (hu ▸ hD)) (dp_bls _ _), own_shaped i, own_shaped i, ?_⟩
      rw [SeqAt.eqv_refl _ (own_lay i)]
      exact ⟨_, rfl, iteF ⟨⟨_, rfl⟩, k2.trans (k3.trans (k4.trans (k5.trans k6)))⟩⟩
  rintro σ G2 ⟨⟨x9, rfl⟩, k2⟩
  exact k G2
end
end Ey
/-! ### the end -/
namespace Ey
open PySem PySem.Spec L2
/-- what the head tells of one def -/
structure DfK (K : PySem.W.Frag) (x : Str) (st : Stmt) (f : Addr) (oc kV dc pm cd ct : Value) (od an : Option Addr) (sl : Array (Option Value)) : Prop where
  a : PySem.W.nsIn K mainGlobals x = some (some (.ref f))
  l : K.lookup f = some ⟨oc, od, .func (PySem.W.fnOf x x (defArgs st) (defBody st) (defScope st) .none kV dc pm an cd ct), sl⟩
  c : PySem.W.codeIn K cd x = true
  k : PySem.W.keepIn K (.ref f) = true
theorem DfK.df {K : PySem.W.Frag} {x : Str} {st : Stmt} {f : Addr} {oc kV dc pm cd ct : Value} {od an : Option Addr} {sl : Array (Option Value)} {mg : Str → Option Value} {h : Heap} {ps : List Str} (e : DfK K x st f oc kV dc pm cd ct od an sl) (X : K.In h) (G : h.Ns mainGlobals mg)
    (hb : ∀ (kV doc pm : Value) (an : Option Addr) (cdv ct : Value) (us : List Value), us.length = ps.length → bindArgs (PySem.W.fnOf x x (defArgs st) (defBody st) (defScope st) .none kV doc pm an cdv ct) ⟨us, []⟩ = pure (ps.zip us)) :
    Df K mg x st ps f (PySem.W.fnOf x x (defArgs st) (defBody st) (defScope st) .none kV dc pm an cd ct) :=
  ⟨fun_mk e.l e.c e.k, (fun_mk e.l e.c e.k).binds hb, PySem.W.mg_of X G e.a⟩


def clsF (c0 c1 c2 c3 c4 c5 c6 c7 c8 c9 c10 c11 c12 c13 c14 c15 c16 c17 c18 c19 c20 c21 c22 c23 : Addr) : Nat → Addr
  | 0 => c0
  | 1 => c1
  | 2 => c2
  | 3 => c3
  | 4 => c4
  | 5 => c5
  | 6 => c6
  | 7 => c7
  | 8 => c8
  | 9 => c9
  | 10 => c10
  | 11 => c11
  | 12 => c12
  | 13 => c13
  | 14 => c14
  | 15 => c15
  | 16 => c16
  | 17 => c17
  | 18 => c18
  | 19 => c19
  | 20 => c20
  | 21 => c21
  | 22 => c22
  | 23 => c23
  | _ => 0
/-- what the head tells of one class of errors -/
structure EK (K : PySem.W.Frag) (nm qn fd : Str) (st : Stmt) (CE C fI : Addr) (n0 q0 : Str) (N : Addr) (bs : List Value) (sn : List Str) (sub : List Value) (ab : Bool) (col : Option Bool) (dd : Option Addr) (m0 m1 m2 m3 m5 : Option Value) (oc dc pm cd ct : Value) (od an : Option Addr) (sl : Array (Option Value)) : Prop where
  a : PySem.W.nsIn K mainGlobals nm = some (some (.ref C))
  x : K.lookup C = some (excClassObj n0 q0 C N bs [.ref CE, .type "Exception", .type "BaseException", .type "object"] true sn sub ab col dd m0 m1 m2 m3 m5 "Exception.__new__")
  sa : PySem.W.findIn K (.ref C) "__setattr__" = some (some (.builtin "object.__setattr__"))
  ga : PySem.W.findIn K (.ref C) "__getattribute__" = some (some (.builtin "BaseException.__getattribute__"))
  gg : PySem.W.findIn K (.ref C) "__getattr__" = some none
  nb : PySem.W.findIn K (.ref C) fd = some none
  i : PySem.W.findIn K (.ref C) "__init__" = some (some (.ref fI))
  t : PySem.W.typeIn K (.ref fI) = some (.type "function")
  l : K.lookup fI = some ⟨oc, od, .func (PySem.W.fnOf "__init__" qn (defArgs st) (defBody st) (defScope st) .none .none dc pm an cd ct), sl⟩
  c : PySem.W.codeIn K cd qn = true
  k : PySem.W.keepIn K (.ref C) = true
  e : PySem.W.subIn K (.ref C) (.type "BaseException") = some true
  ty : PySem.W.typeIn K (.ref C) = some (.type "type")
  hd : PySem.W.hasDictIn K C = true
  s : PySem.W.subIn K (.ref C) (.ref C) = some true
  cl : PySem.W.findIn K (.ref C) "__class__" = some (some (.builtin "object.__class__"))
  mo : PySem.W.mroIn K C (.type "object") = some true
theorem EK.says {K : PySem.W.Frag} {nm qn fd : Str} {st : Stmt} {CE C fI : Addr} {n0 q0 : Str} {N : Addr} {bs : List Value} {sn : List Str} {sub : List Value} {ab : Bool} {col : Option Bool} {dd : Option Addr} {m0 m1 m2 m3 m5 : Option Value} {oc dc pm cd ct : Value} {od an : Option Addr} {sl : Array (Option Value)}
    (E : EK K nm qn fd st CE C fI n0 q0 N bs sn sub ab col dd m0 m1 m2 m3 m5 oc dc pm cd ct od an sl) (spB : PySem.W.specialIn K (.builtin "object.__class__") "__get__" = some (some (.builtin "getset_descriptor.__get__"))) (tkB : PySem.W.takesIn K (.builtin "object.__class__") = some true) : PySem.OwE.SaysC K C := ⟨E.ga, E.gg, E.e, E.hd, E.cl, spB, tkB, E.mo⟩
theorem row_get {f g : Nat → Option Bool} (h : (List.range 24).map f = (List.range 24).map g) (i : Nat) (hi : i < 24) : f i = g i := List.map_inj_left.mp h i (List.mem_range.mpr hi)
abbrev sI0 : Stmt := inClass (topS 2) 0
abbrev sI1 : Stmt := inClass (topS 3) 0
abbrev sI2 : Stmt := inClass (topS 4) 0
abbrev sI3 : Stmt := inClass (topS 5) 0
abbrev sI4 : Stmt := inClass (topS 6) 0
abbrev sI5 : Stmt := inClass (topS 7) 0
abbrev sI6 : Stmt := inClass (topS 8) 0
abbrev sI7 : Stmt := inClass (topS 9) 0
abbrev sI8 : Stmt := inClass (topS 10) 0
abbrev sI9 : Stmt := inClass (topS 11) 0
abbrev sI10 : Stmt := inClass (topS 12) 0
abbrev sI11 : Stmt := inClass (topS 13) 0
abbrev sI12 : Stmt := inClass (topS 14) 0
abbrev sI13 : Stmt := inClass (topS 15) 0
abbrev sI14 : Stmt := inClass (topS 16) 0
abbrev sI15 : Stmt := inClass (topS 17) 0
abbrev sI16 : Stmt := inClass (topS 18) 0
abbrev sI17 : Stmt := inClass (topS 19) 0
abbrev sI18 : Stmt := inClass (topS 20) 0
abbrev sI19 : Stmt := inClass (topS 21) 0
abbrev sI20 : Stmt := inClass (topS 22) 0
abbrev sI21 : Stmt := inClass (topS 23) 0
abbrev sI22 : Stmt := inClass (topS 24) 0
abbrev sI23 : Stmt := inClass (topS 25) 0
set_option maxHeartbeats 8000000 in
theorem all_mk {P : Program} {q : Program} {lo : List Str} {mean : ExcName → Option Value} {w : World} {K : PySem.W.Frag} {h : Heap} {mg mb : Str → Option Value} {fa : Addr} (X : K.In h) (T : PyProof.Rows.Top q lo mean mg mb h) (hfa : mg "law" = some (.ref fa))
    {f27 f28 f29 f30 f31 f32 f33 f34 f35 f36 f37 f38 f39 f40 CE : Addr} {C0 F0 N0 C1 F1 N1 C2 F2 N2 C3 F3 N3 C4 F4 N4 C5 F5 N5 C6 F6 N6 C7 F7 N7 C8 F8 N8 C9 F9 N9 C10 F10 N10 C11 F11 N11 C12 F12 N12 C13 F13 N13 C14 F14 N14 C15 F15 N15 C16 F16 N16 C17 F17 N17 C18 F18 N18 C19 F19 N19 C20 F20 N20 C21 F21 N21 C22 F22 N22 C23 F23 N23 : Addr}
    {oc27 kV27 dc27 pm27 ct27 cd27 oc28 kV28 dc28 pm28 ct28 cd28 oc29 kV29 dc29 pm29 ct29 cd29 oc30 kV30 dc30 pm30 ct30 cd30 oc31 kV31 dc31 pm31 ct31 cd31 oc32 kV32 dc32 pm32 ct32 cd32 oc33 kV33 dc33 pm33 ct33 cd33 oc34 kV34 dc34 pm34 ct34 cd34 oc35 kV35 dc35 pm35 ct35 cd35 oc36 kV36 dc36 pm36 ct36 cd36 oc37 kV37 dc37 pm37 ct37 cd37 oc38 kV38 dc38 pm38 ct38 cd38 oc39 kV39 dc39 pm39 ct39 cd39 oc40 kV40 dc40 pm40 ct40 cd40 : Value} {xo0 xd0 xp0 xc0 xt0 xo1 xd1 xp1 xc1 xt1 xo2 xd2 xp2 xc2 xt2 xo3 xd3 xp3 xc3 xt3 xo4 xd4 xp4 xc4 xt4 xo5 xd5 xp5 xc5 xt5 xo6 xd6 xp6 xc6 xt6 xo7 xd7 xp7 xc7 xt7 xo8 xd8 xp8 xc8 xt8 xo9 xd9 xp9 xc9 xt9 xo10 xd10 xp10 xc10 xt10 xo11 xd11 xp11 xc11 xt11 xo12 xd12 xp12 xc12 xt12 xo13 xd13 xp13 xc13 xt13 xo14 xd14 xp14 xc14 xt14 xo15 xd15 xp15 xc15 xt15 xo16 xd16 xp16 xc16 xt16 xo17 xd17 xp17 xc17 xt17 xo18 xd18 xp18 xc18 xt18 xo19 xd19 xp19 xc19 xt19 xo20 xd20 xp20 xc20 xt20 xo21 xd21 xp21 xc21 xt21 xo22 xd22 xp22 xc22 xt22 xo23 xd23 xp23 xc23 xt23 : Value}
    {od27 an27 od28 an28 od29 an29 od30 an30 od31 an31 od32 an32 od33 an33 od34 an34 od35 an35 od36 an36 od37 an37 od38 an38 od39 an39 od40 an40 dd0 ya0 yb0 dd1 ya1 yb1 dd2 ya2 yb2 dd3 ya3 yb3 dd4 ya4 yb4 dd5 ya5 yb5 dd6 ya6 yb6 dd7 ya7 yb7 dd8 ya8 yb8 dd9 ya9 yb9 dd10 ya10 yb10 dd11 ya11 yb11 dd12 ya12 yb12 dd13 ya13 yb13 dd14 ya14 yb14 dd15 ya15 yb15 dd16 ya16 yb16 dd17 ya17 yb17 dd18 ya18 yb18 dd19 ya19 yb19 dd20 ya20 yb20 dd21 ya21 yb21 dd22 ya22 yb22 dd23 ya23 yb23 : Option Addr}
    {sl27 sl28 sl29 sl30 sl31 sl32 sl33 sl34 sl35 sl36 sl37 sl38 sl39 sl40 ys0 ys1 ys2 ys3 ys4 ys5 ys6 ys7 ys8 ys9 ys10 ys11 ys12 ys13 ys14 ys15 ys16 ys17 ys18 ys19 ys20 ys21 ys22 ys23 : Array (Option Value)}
    {n0 q0 n1 q1 n2 q2 n3 q3 n4 q4 n5 q5 n6 q6 n7 q7 n8 q8 n9 q9 n10 q10 n11 q11 n12 q12 n13 q13 n14 q14 n15 q15 n16 q16 n17 q17 n18 q18 n19 q19 n20 q20 n21 q21 n22 q22 n23 q23 : Str} {bs0 sub0 bs1 sub1 bs2 sub2 bs3 sub3 bs4 sub4 bs5 sub5 bs6 sub6 bs7 sub7 bs8 sub8 bs9 sub9 bs10 sub10 bs11 sub11 bs12 sub12 bs13 sub13 bs14 sub14 bs15 sub15 bs16 sub16 bs17 sub17 bs18 sub18 bs19 sub19 bs20 sub20 bs21 sub21 bs22 sub22 bs23 sub23 : List Value} {sn0 sn1 sn2 sn3 sn4 sn5 sn6 sn7 sn8 sn9 sn10 sn11 sn12 sn13 sn14 sn15 sn16 sn17 sn18 sn19 sn20 sn21 sn22 sn23 : List Str} {ab0 ab1 ab2 ab3 ab4 ab5 ab6 ab7 ab8 ab9 ab10 ab11 ab12 ab13 ab14 ab15 ab16 ab17 ab18 ab19 ab20 ab21 ab22 ab23 : Bool} {col0 col1 col2 col3 col4 col5 col6 col7 col8 col9 col10 col11 col12 col13 col14 col15 col16 col17 col18 col19 col20 col21 col22 col23 : Option Bool} {m00 m10 m20 m30 m50 m01 m11 m21 m31 m51 m02 m12 m22 m32 m52 m03 m13 m23 m33 m53 m04 m14 m24 m34 m54 m05 m15 m25 m35 m55 m06 m16 m26 m36 m56 m07 m17 m27 m37 m57 m08 m18 m28 m38 m58 m09 m19 m29 m39 m59 m010 m110 m210 m310 m510 m011 m111 m211 m311 m511 m012 m112 m212 m312 m512 m013 m113 m213 m313 m513 m014 m114 m214 m314 m514 m015 m115 m215 m315 m515 m016 m116 m216 m316 m516 m017 m117 m217 m317 m517 m018 m118 m218 m318 m518 m019 m119 m219 m319 m519 m020 m120 m220 m320 m520 m021 m121 m221 m321 m521 m022 m122 m222 m322 m522 m023 m123 m223 m323 m523 : Option Value}
    (e27 : DfK K "_law_deck" sDeck f27 oc27 kV27 dc27 pm27 cd27 ct27 od27 an27 sl27)
    (e28 : DfK K "_law_draw" sDraw f28 oc28 kV28 dc28 pm28 cd28 ct28 od28 an28 sl28)
    (e29 : DfK K "_law_pick" sPick f29 oc29 kV29 dc29 pm29 cd29 ct29 od29 an29 sl29)
    (e30 : DfK K "_law_any" sAny f30 oc30 kV30 dc30 pm30 cd30 ct30 od30 an30 sl30)
    (e31 : DfK K "_law_by_position" sPos f31 oc31 kV31 dc31 pm31 cd31 ct31 od31 an31 sl31)
    (e32 : DfK K "_law_by_name" sNam f32 oc32 kV32 dc32 pm32 cd32 ct32 od32 an32 sl32)
    (e33 : DfK K "_law_classes" sCls f33 oc33 kV33 dc33 pm33 cd33 ct33 od33 an33 sl33)
    (e34 : DfK K "_law_is_own" sOwn f34 oc34 kV34 dc34 pm34 cd34 ct34 od34 an34 sl34)
    (e35 : DfK K "_law_raise" sRaise f35 oc35 kV35 dc35 pm35 cd35 ct35 od35 an35 sl35)
    (e36 : DfK K "_law_raise_more" sRaise2 f36 oc36 kV36 dc36 pm36 cd36 ct36 od36 an36 sl36)
    (e37 : DfK K "_law_caught" sCaught f37 oc37 kV37 dc37 pm37 cd37 ct37 od37 an37 sl37)
    (e38 : DfK K "_law_caught_as_base" sBase f38 oc38 kV38 dc38 pm38 cd38 ct38 od38 an38 sl38)
    (e39 : DfK K "_law_carried" sCar f39 oc39 kV39 dc39 pm39 cd39 ct39 od39 an39 sl39)
    (e40 : DfK K "law" sLaw f40 oc40 kV40 dc40 pm40 cd40 ct40 od40 an40 sl40)
    (z_int : PySem.W.nsIn K mainGlobals "int" = some none)
    (z_max : PySem.W.nsIn K mainGlobals "max" = some none)
    (z_list : PySem.W.nsIn K mainGlobals "list" = some none)
    (z_len : PySem.W.nsIn K mainGlobals "len" = some none)
    (z_range : PySem.W.nsIn K mainGlobals "range" = some none)
    (z_tuple : PySem.W.nsIn K mainGlobals "tuple" = some none)
    (z_sorted : PySem.W.nsIn K mainGlobals "sorted" = some none)
    (z_repr : PySem.W.nsIn K mainGlobals "repr" = some none)
    (z_isinstance : PySem.W.nsIn K mainGlobals "isinstance" = some none)
    (z_str : PySem.W.nsIn K mainGlobals "str" = some none)
    (z_all : PySem.W.nsIn K mainGlobals "all" = some none)
    (z_bool : PySem.W.nsIn K mainGlobals "bool" = some none)
    (z_enumerate : PySem.W.nsIn K mainGlobals "enumerate" = some none)
    (z_Exception : PySem.W.nsIn K mainGlobals "Exception" = some none)
    (z_ValueError : PySem.W.nsIn K mainGlobals "ValueError" = some none)
    (z_TypeError : PySem.W.nsIn K mainGlobals "TypeError" = some none)
    (z_LookupError : PySem.W.nsIn K mainGlobals "LookupError" = some none)
    (z_ArithmeticError : PySem.W.nsIn K mainGlobals "ArithmeticError" = some none)
    (z_RuntimeError : PySem.W.nsIn K mainGlobals "RuntimeError" = some none)
    (z_AttributeError : PySem.W.nsIn K mainGlobals "AttributeError" = some none)
    (aE : PySem.W.nsIn K mainGlobals "EyesError" = some (some (.ref CE)))
    (spB : PySem.W.specialIn K (.builtin "object.__class__") "__get__" = some (some (.builtin "getset_descriptor.__get__"))) (tkB : PySem.W.takesIn K (.builtin "object.__class__") = some true)
    (U0 : EK K "BadTree" "BadTree.__init__" "thing" sI0 CE C0 F0 n0 q0 N0 bs0 sn0 sub0 ab0 col0 dd0 m00 m10 m20 m30 m50 xo0 xd0 xp0 xc0 xt0 ya0 yb0 ys0)
    (U1 : EK K "BadScript" "BadScript.__init__" "thing" sI1 CE C1 F1 n1 q1 N1 bs1 sn1 sub1 ab1 col1 dd1 m01 m11 m21 m31 m51 xo1 xd1 xp1 xc1 xt1 ya1 yb1 ys1)
    (U2 : EK K "BadProgram" "BadProgram.__init__" "thing" sI2 CE C2 F2 n2 q2 N2 bs2 sn2 sub2 ab2 col2 dd2 m02 m12 m22 m32 m52 xo2 xd2 xp2 xc2 xt2 ya2 yb2 ys2)
    (U3 : EK K "BadCode" "BadCode.__init__" "thing" sI3 CE C3 F3 n3 q3 N3 bs3 sn3 sub3 ab3 col3 dd3 m03 m13 m23 m33 m53 xo3 xd3 xp3 xc3 xt3 ya3 yb3 ys3)
    (U4 : EK K "BadPlace" "BadPlace.__init__" "thing" sI4 CE C4 F4 n4 q4 N4 bs4 sn4 sub4 ab4 col4 dd4 m04 m14 m24 m34 m54 xo4 xd4 xp4 xc4 xt4 ya4 yb4 ys4)
    (U5 : EK K "BadWay" "BadWay.__init__" "thing" sI5 CE C5 F5 n5 q5 N5 bs5 sn5 sub5 ab5 col5 dd5 m05 m15 m25 m35 m55 xo5 xd5 xp5 xc5 xt5 ya5 yb5 ys5)
    (U6 : EK K "BadText" "BadText.__init__" "at" sI6 CE C6 F6 n6 q6 N6 bs6 sn6 sub6 ab6 col6 dd6 m06 m16 m26 m36 m56 xo6 xd6 xp6 xc6 xt6 ya6 yb6 ys6)
    (U7 : EK K "BadCall" "BadCall.__init__" "thing" sI7 CE C7 F7 n7 q7 N7 bs7 sn7 sub7 ab7 col7 dd7 m07 m17 m27 m37 m57 xo7 xd7 xp7 xc7 xt7 ya7 yb7 ys7)
    (U8 : EK K "BadPicks" "BadPicks.__init__" "thing" sI8 CE C8 F8 n8 q8 N8 bs8 sn8 sub8 ab8 col8 dd8 m08 m18 m28 m38 m58 xo8 xd8 xp8 xc8 xt8 ya8 yb8 ys8)
    (U9 : EK K "BadNumber" "BadNumber.__init__" "thing" sI9 CE C9 F9 n9 q9 N9 bs9 sn9 sub9 ab9 col9 dd9 m09 m19 m29 m39 m59 xo9 xd9 xp9 xc9 xt9 ya9 yb9 ys9)
    (U10 : EK K "Choosing" "Choosing.__init__" "thing" sI10 CE C10 F10 n10 q10 N10 bs10 sn10 sub10 ab10 col10 dd10 m010 m110 m210 m310 m510 xo10 xd10 xp10 xc10 xt10 ya10 yb10 ys10)
    (U11 : EK K "BadValue" "BadValue.__init__" "thing" sI11 CE C11 F11 n11 q11 N11 bs11 sn11 sub11 ab11 col11 dd11 m011 m111 m211 m311 m511 xo11 xd11 xp11 xc11 xt11 ya11 yb11 ys11)
    (U12 : EK K "BadPoly" "BadPoly.__init__" "thing" sI12 CE C12 F12 n12 q12 N12 bs12 sn12 sub12 ab12 col12 dd12 m012 m112 m212 m312 m512 xo12 xd12 xp12 xc12 xt12 ya12 yb12 ys12)
    (U13 : EK K "BadShape" "BadShape.__init__" "thing" sI13 CE C13 F13 n13 q13 N13 bs13 sn13 sub13 ab13 col13 dd13 m013 m113 m213 m313 m513 xo13 xd13 xp13 xc13 xt13 ya13 yb13 ys13)
    (U14 : EK K "BadRow" "BadRow.__init__" "thing" sI14 CE C14 F14 n14 q14 N14 bs14 sn14 sub14 ab14 col14 dd14 m014 m114 m214 m314 m514 xo14 xd14 xp14 xc14 xt14 ya14 yb14 ys14)
    (U15 : EK K "BadPlaces" "BadPlaces.__init__" "thing" sI15 CE C15 F15 n15 q15 N15 bs15 sn15 sub15 ab15 col15 dd15 m015 m115 m215 m315 m515 xo15 xd15 xp15 xc15 xt15 ya15 yb15 ys15)
    (U16 : EK K "NotLast" "NotLast.__init__" "thing" sI16 CE C16 F16 n16 q16 N16 bs16 sn16 sub16 ab16 col16 dd16 m016 m116 m216 m316 m516 xo16 xd16 xp16 xc16 xt16 ya16 yb16 ys16)
    (U17 : EK K "BadMachine" "BadMachine.__init__" "thing" sI17 CE C17 F17 n17 q17 N17 bs17 sn17 sub17 ab17 col17 dd17 m017 m117 m217 m317 m517 xo17 xd17 xp17 xc17 xt17 ya17 yb17 ys17)
    (U18 : EK K "BadName" "BadName.__init__" "thing" sI18 CE C18 F18 n18 q18 N18 bs18 sn18 sub18 ab18 col18 dd18 m018 m118 m218 m318 m518 xo18 xd18 xp18 xc18 xt18 ya18 yb18 ys18)
    (U19 : EK K "BadWord" "BadWord.__init__" "thing" sI19 CE C19 F19 n19 q19 N19 bs19 sn19 sub19 ab19 col19 dd19 m019 m119 m219 m319 m519 xo19 xd19 xp19 xc19 xt19 ya19 yb19 ys19)
    (U20 : EK K "BadTags" "BadTags.__init__" "thing" sI20 CE C20 F20 n20 q20 N20 bs20 sn20 sub20 ab20 col20 dd20 m020 m120 m220 m320 m520 xo20 xd20 xp20 xc20 xt20 ya20 yb20 ys20)
    (U21 : EK K "BadRules" "BadRules.__init__" "thing" sI21 CE C21 F21 n21 q21 N21 bs21 sn21 sub21 ab21 col21 dd21 m021 m121 m221 m321 m521 xo21 xd21 xp21 xc21 xt21 ya21 yb21 ys21)
    (U22 : EK K "BadTies" "BadTies.__init__" "thing" sI22 CE C22 F22 n22 q22 N22 bs22 sn22 sub22 ab22 col22 dd22 m022 m122 m222 m322 m522 xo22 xd22 xp22 xc22 xt22 ya22 yb22 ys22)
    (U23 : EK K "BadStep" "BadStep.__init__" "thing" sI23 CE C23 F23 n23 q23 N23 bs23 sn23 sub23 ab23 col23 dd23 m023 m123 m223 m323 m523 xo23 xd23 xp23 xc23 xt23 ya23 yb23 ys23)
    (kt0 : (List.range 24).map (fun j => PySem.W.kitOne K (.ref C0) (.ref ((clsF C0 C1 C2 C3 C4 C5 C6 C7 C8 C9 C10 C11 C12 C13 C14 C15 C16 C17 C18 C19 C20 C21 C22 C23) j))) = (List.range 24).map fun j => some (decide (0 = j)))
    (kt1 : (List.range 24).map (fun j => PySem.W.kitOne K (.ref C1) (.ref ((clsF C0 C1 C2 C3 C4 C5 C6 C7 C8 C9 C10 C11 C12 C13 C14 C15 C16 C17 C18 C19 C20 C21 C22 C23) j))) = (List.range 24).map fun j => some (decide (1 = j)))
    (kt2 : (List.range 24).map (fun j => PySem.W.kitOne K (.ref C2) (.ref ((clsF C0 C1 C2 C3 C4 C5 C6 C7 C8 C9 C10 C11 C12 C13 C14 C15 C16 C17 C18 C19 C20 C21 C22 C23) j))) = (List.range 24).map fun j => some (decide (2 = j)))
    (kt3 : (List.range 24).map (fun j => PySem.W.kitOne K (.ref C3) (.ref ((clsF C0 C1 C2 C3 C4 C5 C6 C7 C8 C9 C10 C11 C12 C13 C14 C15 C16 C17 C18 C19 C20 C21 C22 C23) j))) = (List.range 24).map fun j => some (decide (3 = j)))
    (kt4 : (List.range 24).map (fun j => PySem.W.kitOne K (.ref C4) (.ref ((clsF C0 C1 C2 C3 C4 C5 C6 C7 C8 C9 C10 C11 C12 C13 C14 C15 C16 C17 C18 C19 C20 C21 C22 C23) j))) = (List.range 24).map fun j => some (decide (4 = j)))
    (kt5 : (List.range 24).map (fun j => PySem.W.kitOne K (.ref C5) (.ref ((clsF C0 C1 C2 C3 C4 C5 C6 C7 C8 C9 C10 C11 C12 C13 C14 C15 C16 C17 C18 C19 C20 C21 C22 C23) j))) = (List.range 24).map fun j => some (decide (5 = j)))
    (kt6 : (List.range 24).map (fun j => PySem.W.kitOne K (.ref C6) (.ref ((clsF C0 C1 C2 C3 C4 C5 C6 C7 C8 C9 C10 C11 C12 C13 C14 C15 C16 C17 C18 C19 C20 C21 C22 C23) j))) = (List.range 24).map fun j => some (decide (6 = j)))
    (kt7 : (List.range 24).map (fun j => PySem.W.kitOne K (.ref C7) (.ref ((clsF C0 C1 C2 C3 C4 C5 C6 C7 C8 C9 C10 C11 C12 C13 C14 C15 C16 C17 C18 C19 C20 C21 C22 C23) j))) = (List.range 24).map fun j => some (decide (7 = j)))
    (kt8 : (List.range 24).map (fun j => PySem.W.kitOne K (.ref C8) (.ref ((clsF C0 C1 C2 C3 C4 C5 C6 C7 C8 C9 C10 C11 C12 C13 C14 C15 C16 C17 C18 C19 C20 C21 C22 C23) j))) = (List.range 24).map fun j => some (decide (8 = j)))
    (kt9 : (List.range 24).map (fun j => PySem.W.kitOne K (.ref C9) (.ref ((clsF C0 C1 C2 C3 C4 C5 C6 C7 C8 C9 C10 C11 C12 C13 C14 C15 C16 C17 C18 C19 C20 C21 C22 C23) j))) = (List.range 24).map fun j => some (decide (9 = j)))
    (kt10 : (List.range 24).map (fun j => PySem.W.kitOne K (.ref C10) (.ref ((clsF C0 C1 C2 C3 C4 C5 C6 C7 C8 C9 C10 C11 C12 C13 C14 C15 C16 C17 C18 C19 C20 C21 C22 C23) j))) = (List.range 24).map fun j => some (decide (10 = j)))
    (kt11 : (List.range 24).map (fun j => PySem.W.kitOne K (.ref C11) (.ref ((clsF C0 C1 C2 C3 C4 C5 C6 C7 C8 C9 C10 C11 C12 C13 C14 C15 C16 C17 C18 C19 C20 C21 C22 C23) j))) = (List.range 24).map fun j => some (decide (11 = j)))
    (kt12 : (List.range 24).map (fun j => PySem.W.kitOne K (.ref C12) (.ref ((clsF C0 C1 C2 C3 C4 C5 C6 C7 C8 C9 C10 C11 C12 C13 C14 C15 C16 C17 C18 C19 C20 C21 C22 C23) j))) = (List.range 24).map fun j => some (decide (12 = j)))
    (kt13 : (List.range 24).map (fun j => PySem.W.kitOne K (.ref C13) (.ref ((clsF C0 C1 C2 C3 C4 C5 C6 C7 C8 C9 C10 C11 C12 C13 C14 C15 C16 C17 C18 C19 C20 C21 C22 C23) j))) = (List.range 24).map fun j => some (decide (13 = j)))
    (kt14 : (List.range 24).map (fun j => PySem.W.kitOne K (.ref C14) (.ref ((clsF C0 C1 C2 C3 C4 C5 C6 C7 C8 C9 C10 C11 C12 C13 C14 C15 C16 C17 C18 C19 C20 C21 C22 C23) j))) = (List.range 24).map fun j => some (decide (14 = j)))
    (kt15 : (List.range 24).map (fun j => PySem.W.kitOne K (.ref C15) (.ref ((clsF C0 C1 C2 C3 C4 C5 C6 C7 C8 C9 C10 C11 C12 C13 C14 C15 C16 C17 C18 C19 C20 C21 C22 C23) j))) = (List.range 24).map fun j => some (decide (15 = j)))
    (kt16 : (List.range 24).map (fun j => PySem.W.kitOne K (.ref C16) (.ref ((clsF C0 C1 C2 C3 C4 C5 C6 C7 C8 C9 C10 C11 C12 C13 C14 C15 C16 C17 C18 C19 C20 C21 C22 C23) j))) = (List.range 24).map fun j => some (decide (16 = j)))
    (kt17 : (List.range 24).map (fun j => PySem.W.kitOne K (.ref C17) (.ref ((clsF C0 C1 C2 C3 C4 C5 C6 C7 C8 C9 C10 C11 C12 C13 C14 C15 C16 C17 C18 C19 C20 C21 C22 C23) j))) = (List.range 24).map fun j => some (decide (17 = j)))
    (kt18 : (List.range 24).map (fun j => PySem.W.kitOne K (.ref C18) (.ref ((clsF C0 C1 C2 C3 C4 C5 C6 C7 C8 C9 C10 C11 C12 C13 C14 C15 C16 C17 C18 C19 C20 C21 C22 C23) j))) = (List.range 24).map fun j => some (decide (18 = j)))
    (kt19 : (List.range 24).map (fun j => PySem.W.kitOne K (.ref C19) (.ref ((clsF C0 C1 C2 C3 C4 C5 C6 C7 C8 C9 C10 C11 C12 C13 C14 C15 C16 C17 C18 C19 C20 C21 C22 C23) j))) = (List.range 24).map fun j => some (decide (19 = j)))
    (kt20 : (List.range 24).map (fun j => PySem.W.kitOne K (.ref C20) (.ref ((clsF C0 C1 C2 C3 C4 C5 C6 C7 C8 C9 C10 C11 C12 C13 C14 C15 C16 C17 C18 C19 C20 C21 C22 C23) j))) = (List.range 24).map fun j => some (decide (20 = j)))
    (kt21 : (List.range 24).map (fun j => PySem.W.kitOne K (.ref C21) (.ref ((clsF C0 C1 C2 C3 C4 C5 C6 C7 C8 C9 C10 C11 C12 C13 C14 C15 C16 C17 C18 C19 C20 C21 C22 C23) j))) = (List.range 24).map fun j => some (decide (21 = j)))
    (kt22 : (List.range 24).map (fun j => PySem.W.kitOne K (.ref C22) (.ref ((clsF C0 C1 C2 C3 C4 C5 C6 C7 C8 C9 C10 C11 C12 C13 C14 C15 C16 C17 C18 C19 C20 C21 C22 C23) j))) = (List.range 24).map fun j => some (decide (22 = j)))
    (kt23 : (List.range 24).map (fun j => PySem.W.kitOne K (.ref C23) (.ref ((clsF C0 C1 C2 C3 C4 C5 C6 C7 C8 C9 C10 C11 C12 C13 C14 C15 C16 C17 C18 C19 C20 C21 C22 C23) j))) = (List.range 24).map fun j => some (decide (23 = j)))
    (xt0_ : (List.range 24).map (fun j => PySem.W.exmOne K (.ref C0) (.ref ((clsF C0 C1 C2 C3 C4 C5 C6 C7 C8 C9 C10 C11 C12 C13 C14 C15 C16 C17 C18 C19 C20 C21 C22 C23) j))) = (List.range 24).map fun j => some (decide (0 = j)))
    (xt1_ : (List.range 24).map (fun j => PySem.W.exmOne K (.ref C1) (.ref ((clsF C0 C1 C2 C3 C4 C5 C6 C7 C8 C9 C10 C11 C12 C13 C14 C15 C16 C17 C18 C19 C20 C21 C22 C23) j))) = (List.range 24).map fun j => some (decide (1 = j)))
    (xt2_ : (List.range 24).map (fun j => PySem.W.exmOne K (.ref C2) (.ref ((clsF C0 C1 C2 C3 C4 C5 C6 C7 C8 C9 C10 C11 C12 C13 C14 C15 C16 C17 C18 C19 C20 C21 C22 C23) j))) = (List.range 24).map fun j => some (decide (2 = j)))
    (xt3_ : (List.range 24).map (fun j => PySem.W.exmOne K (.ref C3) (.ref ((clsF C0 C1 C2 C3 C4 C5 C6 C7 C8 C9 C10 C11 C12 C13 C14 C15 C16 C17 C18 C19 C20 C21 C22 C23) j))) = (List.range 24).map fun j => some (decide (3 = j)))
    (xt4_ : (List.range 24).map (fun j => PySem.W.exmOne K (.ref C4) (.ref ((clsF C0 C1 C2 C3 C4 C5 C6 C7 C8 C9 C10 C11 C12 C13 C14 C15 C16 C17 C18 C19 C20 C21 C22 C23) j))) = (List.range 24).map fun j => some (decide (4 = j)))
    (xt5_ : (List.range 24).map (fun j => PySem.W.exmOne K (.ref C5) (.ref ((clsF C0 C1 C2 C3 C4 C5 C6 C7 C8 C9 C10 C11 C12 C13 C14 C15 C16 C17 C18 C19 C20 C21 C22 C23) j))) = (List.range 24).map fun j => some (decide (5 = j)))
    (xt6_ : (List.range 24).map (fun j => PySem.W.exmOne K (.ref C6) (.ref ((clsF C0 C1 C2 C3 C4 C5 C6 C7 C8 C9 C10 C11 C12 C13 C14 C15 C16 C17 C18 C19 C20 C21 C22 C23) j))) = (List.range 24).map fun j => some (decide (6 = j)))
    (xt7_ : (List.range 24).map (fun j => PySem.W.exmOne K (.ref C7) (.ref ((clsF C0 C1 C2 C3 C4 C5 C6 C7 C8 C9 C10 C11 C12 C13 C14 C15 C16 C17 C18 C19 C20 C21 C22 C23) j))) = (List.range 24).map fun j => some (decide (7 = j)))
    (xt8_ : (List.range 24).map (fun j => PySem.W.exmOne K (.ref C8) (.ref ((clsF C0 C1 C2 C3 C4 C5 C6 C7 C8 C9 C10 C11 C12 C13 C14 C15 C16 C17 C18 C19 C20 C21 C22 C23) j))) = (List.range 24).map fun j => some (decide (8 = j)))
    (xt9_ : (List.range 24).map (fun j => PySem.W.exmOne K (.ref C9) (.ref ((clsF C0 C1 C2 C3 C4 C5 C6 C7 C8 C9 C10 C11 C12 C13 C14 C15 C16 C17 C18 C19 C20 C21 C22 C23) j))) = (List.range 24).map fun j => some (decide (9 = j)))
    (xt10_ : (List.range 24).map (fun j => PySem.W.exmOne K (.ref C10) (.ref ((clsF C0 C1 C2 C3 C4 C5 C6 C7 C8 C9 C10 C11 C12 C13 C14 C15 C16 C17 C18 C19 C20 C21 C22 C23) j))) = (List.range 24).map fun j => some (decide (10 = j)))
    (xt11_ : (List.range 24).map (fun j => PySem.W.exmOne K (.ref C11) (.ref ((clsF C0 C1 C2 C3 C4 C5 C6 C7 C8 C9 C10 C11 C12 C13 C14 C15 C16 C17 C18 C19 C20 C21 C22 C23) j))) = (List.range 24).map fun j => some (decide (11 = j)))
    (xt12_ : (List.range 24).map (fun j => PySem.W.exmOne K (.ref C12) (.ref ((clsF C0 C1 C2 C3 C4 C5 C6 C7 C8 C9 C10 C11 C12 C13 C14 C15 C16 C17 C18 C19 C20 C21 C22 C23) j))) = (List.range 24).map fun j => some (decide (12 = j)))
    (xt13_ : (List.range 24).map (fun j => PySem.W.exmOne K (.ref C13) (.ref ((clsF C0 C1 C2 C3 C4 C5 C6 C7 C8 C9 C10 C11 C12 C13 C14 C15 C16 C17 C18 C19 C20 C21 C22 C23) j))) = (List.range 24).map fun j => some (decide (13 = j)))
    (xt14_ : (List.range 24).map (fun j => PySem.W.exmOne K (.ref C14) (.ref ((clsF C0 C1 C2 C3 C4 C5 C6 C7 C8 C9 C10 C11 C12 C13 C14 C15 C16 C17 C18 C19 C20 C21 C22 C23) j))) = (List.range 24).map fun j => some (decide (14 = j)))
    (xt15_ : (List.range 24).map (fun j => PySem.W.exmOne K (.ref C15) (.ref ((clsF C0 C1 C2 C3 C4 C5 C6 C7 C8 C9 C10 C11 C12 C13 C14 C15 C16 C17 C18 C19 C20 C21 C22 C23) j))) = (List.range 24).map fun j => some (decide (15 = j)))
    (xt16_ : (List.range 24).map (fun j => PySem.W.exmOne K (.ref C16) (.ref ((clsF C0 C1 C2 C3 C4 C5 C6 C7 C8 C9 C10 C11 C12 C13 C14 C15 C16 C17 C18 C19 C20 C21 C22 C23) j))) = (List.range 24).map fun j => some (decide (16 = j)))
    (xt17_ : (List.range 24).map (fun j => PySem.W.exmOne K (.ref C17) (.ref ((clsF C0 C1 C2 C3 C4 C5 C6 C7 C8 C9 C10 C11 C12 C13 C14 C15 C16 C17 C18 C19 C20 C21 C22 C23) j))) = (List.range 24).map fun j => some (decide (17 = j)))
    (xt18_ : (List.range 24).map (fun j => PySem.W.exmOne K (.ref C18) (.ref ((clsF C0 C1 C2 C3 C4 C5 C6 C7 C8 C9 C10 C11 C12 C13 C14 C15 C16 C17 C18 C19 C20 C21 C22 C23) j))) = (List.range 24).map fun j => some (decide (18 = j)))
    (xt19_ : (List.range 24).map (fun j => PySem.W.exmOne K (.ref C19) (.ref ((clsF C0 C1 C2 C3 C4 C5 C6 C7 C8 C9 C10 C11 C12 C13 C14 C15 C16 C17 C18 C19 C20 C21 C22 C23) j))) = (List.range 24).map fun j => some (decide (19 = j)))
    (xt20_ : (List.range 24).map (fun j => PySem.W.exmOne K (.ref C20) (.ref ((clsF C0 C1 C2 C3 C4 C5 C6 C7 C8 C9 C10 C11 C12 C13 C14 C15 C16 C17 C18 C19 C20 C21 C22 C23) j))) = (List.range 24).map fun j => some (decide (20 = j)))
    (xt21_ : (List.range 24).map (fun j => PySem.W.exmOne K (.ref C21) (.ref ((clsF C0 C1 C2 C3 C4 C5 C6 C7 C8 C9 C10 C11 C12 C13 C14 C15 C16 C17 C18 C19 C20 C21 C22 C23) j))) = (List.range 24).map fun j => some (decide (21 = j)))
    (xt22_ : (List.range 24).map (fun j => PySem.W.exmOne K (.ref C22) (.ref ((clsF C0 C1 C2 C3 C4 C5 C6 C7 C8 C9 C10 C11 C12 C13 C14 C15 C16 C17 C18 C19 C20 C21 C22 C23) j))) = (List.range 24).map fun j => some (decide (22 = j)))
    (xt23_ : (List.range 24).map (fun j => PySem.W.exmOne K (.ref C23) (.ref ((clsF C0 C1 C2 C3 C4 C5 C6 C7 C8 C9 C10 C11 C12 C13 C14 C15 C16 C17 C18 C19 C20 C21 C22 C23) j))) = (List.range 24).map fun j => some (decide (23 = j)))
    (rE : (List.range 24).map (fun i => PySem.W.kitOne K (.ref ((clsF C0 C1 C2 C3 C4 C5 C6 C7 C8 C9 C10 C11 C12 C13 C14 C15 C16 C17 C18 C19 C20 C21 C22 C23) i)) (.ref CE)) = (List.range 24).map fun _ => some true)
    (rX : (List.range 24).map (fun i => PySem.W.kitOne K (.ref ((clsF C0 C1 C2 C3 C4 C5 C6 C7 C8 C9 C10 C11 C12 C13 C14 C15 C16 C17 C18 C19 C20 C21 C22 C23) i)) (.type "Exception")) = (List.range 24).map fun _ => some true)
    (rB : (List.range 24).map (fun i => PySem.W.kitAny K (.ref ((clsF C0 C1 C2 C3 C4 C5 C6 C7 C8 C9 C10 C11 C12 C13 C14 C15 C16 C17 C18 C19 C20 C21 C22 C23) i)) [.type "ValueError", .type "TypeError", .type "LookupError", .type "ArithmeticError", .type "RuntimeError", .type "AttributeError"]) = (List.range 24).map fun _ => some false)
    (rM : (List.range 24).map (fun i => PySem.W.exmOne K (.ref ((clsF C0 C1 C2 C3 C4 C5 C6 C7 C8 C9 C10 C11 C12 C13 C14 C15 C16 C17 C18 C19 C20 C21 C22 C23) i)) (.ref CE)) = (List.range 24).map fun _ => some true)
    :
    ∃ (fd : FuncData) (cs : List (Addr × Addr)) (sp : Sp), Tabs K h cs ∧ (∀ (s : Shared) (u : Value), BindsTo s fd ⟨[u], []⟩ [("_law_script", u)]) ∧
      (∀ (H : Hp) (a : Addr) (ns : List Int), ns.length ≤ 63 → (∀ p ∈ cs, H p.2 = some (.tbl #[])) → SqL K H a (ns.map V.int) → sp [.ref a] H (fun v _ => v = .bl true) E0) ∧
      ∀ base : Heap, K.In base → base.Ns mainGlobals mg → (∀ p ∈ cs, GxR.TabB base mg p.1 p.2) → (∃ mm, base.Ns sysModules mm) → LawOk P w K mg base fa fd "_law_script" sp := by
  have G := T.g
  have e := hfa.symm.trans (PySem.W.mg_of X G e40.a)
  cases e
  have B : BI mg := ⟨PySem.W.mg_none_of X G z_int, PySem.W.mg_none_of X G z_max, PySem.W.mg_none_of X G z_list, PySem.W.mg_none_of X G z_len, PySem.W.mg_none_of X G z_range, PySem.W.mg_none_of X G z_tuple, PySem.W.mg_none_of X G z_sorted, PySem.W.mg_none_of X G z_repr, PySem.W.mg_none_of X G z_isinstance, PySem.W.mg_none_of X G z_str, PySem.W.mg_none_of X G z_all, PySem.W.mg_none_of X G z_bool, PySem.W.mg_none_of X G z_enumerate⟩
  have D27 := e27.df (ps := ["_law_script", "_law_seed"]) X G fun _ _ _ _ _ _ us hl => match us, hl with | [_, _], _ => rfl
  have D28 := e28.df (ps := ["_law_deck_here", "_law_many"]) X G fun _ _ _ _ _ _ us hl => match us, hl with | [_, _], _ => rfl
  have D29 := e29.df (ps := ["_law_deck_here", "_law_some"]) X G fun _ _ _ _ _ _ us hl => match us, hl with | [_, _], _ => rfl
  have D30 := e30.df (ps := ["_law_deck_here", "_law_deep"]) X G fun _ _ _ _ _ _ us hl => match us, hl with | [_, _], _ => rfl
  have D31 := e31.df (ps := ["_law_it"]) X G fun _ _ _ _ _ _ us hl => match us, hl with | [_], _ => rfl
  have D32 := e32.df (ps := ["_law_it"]) X G fun _ _ _ _ _ _ us hl => match us, hl with | [_], _ => rfl
  have D33 := e33.df (ps := ["_law_error"]) X G fun _ _ _ _ _ _ us hl => match us, hl with | [_], _ => rfl
  have D34 := e34.df (ps := ["_law_at", "_law_error"]) X G fun _ _ _ _ _ _ us hl => match us, hl with | [_, _], _ => rfl
  have D35 := e35.df (ps := ["_law_way", "_law_it"]) X G fun _ _ _ _ _ _ us hl => match us, hl with | [_, _], _ => rfl
  have D36 := e36.df (ps := ["_law_way", "_law_it"]) X G fun _ _ _ _ _ _ us hl => match us, hl with | [_, _], _ => rfl
  have D37 := e37.df (ps := ["_law_way", "_law_it"]) X G fun _ _ _ _ _ _ us hl => match us, hl with | [_, _], _ => rfl
  have D38 := e38.df (ps := ["_law_way", "_law_it"]) X G fun _ _ _ _ _ _ us hl => match us, hl with | [_, _], _ => rfl
  have D39 := e39.df (ps := ["_law_made"]) X G fun _ _ _ _ _ _ us hl => match us, hl with | [_], _ => rfl
  have D40 := e40.df (ps := ["_law_script"]) X G fun _ _ _ _ _ _ us hl => match us, hl with | [_], _ => rfl
  have b0 : PySem.ThX.ThTxt "BadTree" "BadTree.__init__" K mg C0 F0 := { gC := PySem.W.mg_of X G U0.a, cls := ⟨n0, q0, N0, bs0, _, sn0, sub0, ab0, col0, dd0, m00, m10, m20, m30, m50, U0.x, rfl⟩, sa := U0.sa, ga := U0.ga, gg := U0.gg, noN := U0.nb, iC := U0.i, tC := U0.t, kC := U0.k, exC := U0.e, tyC := U0.ty, hdC := U0.hd, te := PySem.W.exm_ref U0.e U0.hd U0.ty U0.s, fn := ⟨xo0, ya0, xd0, xp0, yb0, xc0, xt0, ys0, _, _, _, _, _, _, U0.l, U0.c⟩ }
  have b1 : PySem.ThX.ThTxt "BadScript" "BadScript.__init__" K mg C1 F1 := { gC := PySem.W.mg_of X G U1.a, cls := ⟨n1, q1, N1, bs1, _, sn1, sub1, ab1, col1, dd1, m01, m11, m21, m31, m51, U1.x, rfl⟩, sa := U1.sa, ga := U1.ga, gg := U1.gg, noN := U1.nb, iC := U1.i, tC := U1.t, kC := U1.k, exC := U1.e, tyC := U1.ty, hdC := U1.hd, te := PySem.W.exm_ref U1.e U1.hd U1.ty U1.s, fn := ⟨xo1, ya1, xd1, xp1, yb1, xc1, xt1, ys1, _, _, _, _, _, _, U1.l, U1.c⟩ }
  have b2 : PySem.ThX.ThTxt "BadProgram" "BadProgram.__init__" K mg C2 F2 := { gC := PySem.W.mg_of X G U2.a, cls := ⟨n2, q2, N2, bs2, _, sn2, sub2, ab2, col2, dd2, m02, m12, m22, m32, m52, U2.x, rfl⟩, sa := U2.sa, ga := U2.ga, gg := U2.gg, noN := U2.nb, iC := U2.i, tC := U2.t, kC := U2.k, exC := U2.e, tyC := U2.ty, hdC := U2.hd, te := PySem.W.exm_ref U2.e U2.hd U2.ty U2.s, fn := ⟨xo2, ya2, xd2, xp2, yb2, xc2, xt2, ys2, _, _, _, _, _, _, U2.l, U2.c⟩ }
  have b3 : PySem.ThX.ThTxt "BadCode" "BadCode.__init__" K mg C3 F3 := { gC := PySem.W.mg_of X G U3.a, cls := ⟨n3, q3, N3, bs3, _, sn3, sub3, ab3, col3, dd3, m03, m13, m23, m33, m53, U3.x, rfl⟩, sa := U3.sa, ga := U3.ga, gg := U3.gg, noN := U3.nb, iC := U3.i, tC := U3.t, kC := U3.k, exC := U3.e, tyC := U3.ty, hdC := U3.hd, te := PySem.W.exm_ref U3.e U3.hd U3.ty U3.s, fn := ⟨xo3, ya3, xd3, xp3, yb3, xc3, xt3, ys3, _, _, _, _, _, _, U3.l, U3.c⟩ }
  have b4 : PySem.ThX.ThTxt "BadPlace" "BadPlace.__init__" K mg C4 F4 := { gC := PySem.W.mg_of X G U4.a, cls := ⟨n4, q4, N4, bs4, _, sn4, sub4, ab4, col4, dd4, m04, m14, m24, m34, m54, U4.x, rfl⟩, sa := U4.sa, ga := U4.ga, gg := U4.gg, noN := U4.nb, iC := U4.i, tC := U4.t, kC := U4.k, exC := U4.e, tyC := U4.ty, hdC := U4.hd, te := PySem.W.exm_ref U4.e U4.hd U4.ty U4.s, fn := ⟨xo4, ya4, xd4, xp4, yb4, xc4, xt4, ys4, _, _, _, _, _, _, U4.l, U4.c⟩ }
  have b5 : PySem.ThX.ThTxt "BadWay" "BadWay.__init__" K mg C5 F5 := { gC := PySem.W.mg_of X G U5.a, cls := ⟨n5, q5, N5, bs5, _, sn5, sub5, ab5, col5, dd5, m05, m15, m25, m35, m55, U5.x, rfl⟩, sa := U5.sa, ga := U5.ga, gg := U5.gg, noN := U5.nb, iC := U5.i, tC := U5.t, kC := U5.k, exC := U5.e, tyC := U5.ty, hdC := U5.hd, te := PySem.W.exm_ref U5.e U5.hd U5.ty U5.s, fn := ⟨xo5, ya5, xd5, xp5, yb5, xc5, xt5, ys5, _, _, _, _, _, _, U5.l, U5.c⟩ }
  have b6 : PySem.AtX.AtTxt "BadText" "BadText.__init__" K mg C6 F6 := { gC := PySem.W.mg_of X G U6.a, cls := ⟨n6, q6, N6, bs6, _, sn6, sub6, ab6, col6, dd6, m06, m16, m26, m36, m56, U6.x, rfl⟩, sa := U6.sa, ga := U6.ga, gg := U6.gg, noN := U6.nb, iC := U6.i, tC := U6.t, kC := U6.k, exC := U6.e, tyC := U6.ty, hdC := U6.hd, te := PySem.W.exm_ref U6.e U6.hd U6.ty U6.s, fn := ⟨xo6, ya6, xd6, xp6, yb6, xc6, xt6, ys6, _, _, _, _, _, _, U6.l, U6.c⟩ }
  have b7 : PySem.ThX.ThTxt "BadCall" "BadCall.__init__" K mg C7 F7 := { gC := PySem.W.mg_of X G U7.a, cls := ⟨n7, q7, N7, bs7, _, sn7, sub7, ab7, col7, dd7, m07, m17, m27, m37, m57, U7.x, rfl⟩, sa := U7.sa, ga := U7.ga, gg := U7.gg, noN := U7.nb, iC := U7.i, tC := U7.t, kC := U7.k, exC := U7.e, tyC := U7.ty, hdC := U7.hd, te := PySem.W.exm_ref U7.e U7.hd U7.ty U7.s, fn := ⟨xo7, ya7, xd7, xp7, yb7, xc7, xt7, ys7, _, _, _, _, _, _, U7.l, U7.c⟩ }
  have b8 : PySem.ThX.ThTxt "BadPicks" "BadPicks.__init__" K mg C8 F8 := { gC := PySem.W.mg_of X G U8.a, cls := ⟨n8, q8, N8, bs8, _, sn8, sub8, ab8, col8, dd8, m08, m18, m28, m38, m58, U8.x, rfl⟩, sa := U8.sa, ga := U8.ga, gg := U8.gg, noN := U8.nb, iC := U8.i, tC := U8.t, kC := U8.k, exC := U8.e, tyC := U8.ty, hdC := U8.hd, te := PySem.W.exm_ref U8.e U8.hd U8.ty U8.s, fn := ⟨xo8, ya8, xd8, xp8, yb8, xc8, xt8, ys8, _, _, _, _, _, _, U8.l, U8.c⟩ }
  have b9 : PySem.ThX.ThTxt "BadNumber" "BadNumber.__init__" K mg C9 F9 := { gC := PySem.W.mg_of X G U9.a, cls := ⟨n9, q9, N9, bs9, _, sn9, sub9, ab9, col9, dd9, m09, m19, m29, m39, m59, U9.x, rfl⟩, sa := U9.sa, ga := U9.ga, gg := U9.gg, noN := U9.nb, iC := U9.i, tC := U9.t, kC := U9.k, exC := U9.e, tyC := U9.ty, hdC := U9.hd, te := PySem.W.exm_ref U9.e U9.hd U9.ty U9.s, fn := ⟨xo9, ya9, xd9, xp9, yb9, xc9, xt9, ys9, _, _, _, _, _, _, U9.l, U9.c⟩ }
  have b10 : PySem.ThX.ThTxt "Choosing" "Choosing.__init__" K mg C10 F10 := { gC := PySem.W.mg_of X G U10.a, cls := ⟨n10, q10, N10, bs10, _, sn10, sub10, ab10, col10, dd10, m010, m110, m210, m310, m510, U10.x, rfl⟩, sa := U10.sa, ga := U10.ga, gg := U10.gg, noN := U10.nb, iC := U10.i, tC := U10.t, kC := U10.k, exC := U10.e, tyC := U10.ty, hdC := U10.hd, te := PySem.W.exm_ref U10.e U10.hd U10.ty U10.s, fn := ⟨xo10, ya10, xd10, xp10, yb10, xc10, xt10, ys10, _, _, _, _, _, _, U10.l, U10.c⟩ }
  have b11 : PySem.ThX.ThTxt "BadValue" "BadValue.__init__" K mg C11 F11 := { gC := PySem.W.mg_of X G U11.a, cls := ⟨n11, q11, N11, bs11, _, sn11, sub11, ab11, col11, dd11, m011, m111, m211, m311, m511, U11.x, rfl⟩, sa := U11.sa, ga := U11.ga, gg := U11.gg, noN := U11.nb, iC := U11.i, tC := U11.t, kC := U11.k, exC := U11.e, tyC := U11.ty, hdC := U11.hd, te := PySem.W.exm_ref U11.e U11.hd U11.ty U11.s, fn := ⟨xo11, ya11, xd11, xp11, yb11, xc11, xt11, ys11, _, _, _, _, _, _, U11.l, U11.c⟩ }
  have b12 : PySem.ThX.ThTxt "BadPoly" "BadPoly.__init__" K mg C12 F12 := { gC := PySem.W.mg_of X G U12.a, cls := ⟨n12, q12, N12, bs12, _, sn12, sub12, ab12, col12, dd12, m012, m112, m212, m312, m512, U12.x, rfl⟩, sa := U12.sa, ga := U12.ga, gg := U12.gg, noN := U12.nb, iC := U12.i, tC := U12.t, kC := U12.k, exC := U12.e, tyC := U12.ty, hdC := U12.hd, te := PySem.W.exm_ref U12.e U12.hd U12.ty U12.s, fn := ⟨xo12, ya12, xd12, xp12, yb12, xc12, xt12, ys12, _, _, _, _, _, _, U12.l, U12.c⟩ }
  have b13 : PySem.ThX.ThTxt "BadShape" "BadShape.__init__" K mg C13 F13 := { gC := PySem.W.mg_of X G U13.a, cls := ⟨n13, q13, N13, bs13, _, sn13, sub13, ab13, col13, dd13, m013, m113, m213, m313, m513, U13.x, rfl⟩, sa := U13.sa, ga := U13.ga, gg := U13.gg, noN := U13.nb, iC := U13.i, tC := U13.t, kC := U13.k, exC := U13.e, tyC := U13.ty, hdC := U13.hd, te := PySem.W.exm_ref U13.e U13.hd U13.ty U13.s, fn := ⟨xo13, ya13, xd13, xp13, yb13, xc13, xt13, ys13, _, _, _, _, _, _, U13.l, U13.c⟩ }
  have b14 : PySem.ThX.ThTxt "BadRow" "BadRow.__init__" K mg C14 F14 := { gC := PySem.W.mg_of X G U14.a, cls := ⟨n14, q14, N14, bs14, _, sn14, sub14, ab14, col14, dd14, m014, m114, m214, m314, m514, U14.x, rfl⟩, sa := U14.sa, ga := U14.ga, gg := U14.gg, noN := U14.nb, iC := U14.i, tC := U14.t, kC := U14.k, exC := U14.e, tyC := U14.ty, hdC := U14.hd, te := PySem.W.exm_ref U14.e U14.hd U14.ty U14.s, fn := ⟨xo14, ya14, xd14, xp14, yb14, xc14, xt14, ys14, _, _, _, _, _, _, U14.l, U14.c⟩ }
  have b15 : PySem.ThX.ThTxt "BadPlaces" "BadPlaces.__init__" K mg C15 F15 := { gC := PySem.W.mg_of X G U15.a, cls := ⟨n15, q15, N15, bs15, _, sn15, sub15, ab15, col15, dd15, m015, m115, m215, m315, m515, U15.x, rfl⟩, sa := U15.sa, ga := U15.ga, gg := U15.gg, noN := U15.nb, iC := U15.i, tC := U15.t, kC := U15.k, exC := U15.e, tyC := U15.ty, hdC := U15.hd, te := PySem.W.exm_ref U15.e U15.hd U15.ty U15.s, fn := ⟨xo15, ya15, xd15, xp15, yb15, xc15, xt15, ys15, _, _, _, _, _, _, U15.l, U15.c⟩ }
  have b16 : PySem.ThX.ThTxt "NotLast" "NotLast.__init__" K mg C16 F16 := { gC := PySem.W.mg_of X G U16.a, cls := ⟨n16, q16, N16, bs16, _, sn16, sub16, ab16, col16, dd16, m016, m116, m216, m316, m516, U16.x, rfl⟩, sa := U16.sa, ga := U16.ga, gg := U16.gg, noN := U16.nb, iC := U16.i, tC := U16.t, kC := U16.k, exC := U16.e, tyC := U16.ty, hdC := U16.hd, te := PySem.W.exm_ref U16.e U16.hd U16.ty U16.s, fn := ⟨xo16, ya16, xd16, xp16, yb16, xc16, xt16, ys16, _, _, _, _, _, _, U16.l, U16.c⟩ }
  have b17 : PySem.ThX.ThTxt "BadMachine" "BadMachine.__init__" K mg C17 F17 := { gC := PySem.W.mg_of X G U17.a, cls := ⟨n17, q17, N17, bs17, _, sn17, sub17, ab17, col17, dd17, m017, m117, m217, m317, m517, U17.x, rfl⟩, sa := U17.sa, ga := U17.ga, gg := U17.gg, noN := U17.nb, iC := U17.i, tC := U17.t, kC := U17.k, exC := U17.e, tyC := U17.ty, hdC := U17.hd, te := PySem.W.exm_ref U17.e U17.hd U17.ty U17.s, fn := ⟨xo17, ya17, xd17, xp17, yb17, xc17, xt17, ys17, _, _, _, _, _, _, U17.l, U17.c⟩ }
  have b18 : PySem.ThX.ThTxt "BadName" "BadName.__init__" K mg C18 F18 := { gC := PySem.W.mg_of X G U18.a, cls := ⟨n18, q18, N18, bs18, _, sn18, sub18, ab18, col18, dd18, m018, m118, m218, m318, m518, U18.x, rfl⟩, sa := U18.sa, ga := U18.ga, gg := U18.gg, noN := U18.nb, iC := U18.i, tC := U18.t, kC := U18.k, exC := U18.e, tyC := U18.ty, hdC := U18.hd, te := PySem.W.exm_ref U18.e U18.hd U18.ty U18.s, fn := ⟨xo18, ya18, xd18, xp18, yb18, xc18, xt18, ys18, _, _, _, _, _, _, U18.l, U18.c⟩ }
  have b19 : PySem.ThX.ThTxt "BadWord" "BadWord.__init__" K mg C19 F19 := { gC := PySem.W.mg_of X G U19.a, cls := ⟨n19, q19, N19, bs19, _, sn19, sub19, ab19, col19, dd19, m019, m119, m219, m319, m519, U19.x, rfl⟩, sa := U19.sa, ga := U19.ga, gg := U19.gg, noN := U19.nb, iC := U19.i, tC := U19.t, kC := U19.k, exC := U19.e, tyC := U19.ty, hdC := U19.hd, te := PySem.W.exm_ref U19.e U19.hd U19.ty U19.s, fn := ⟨xo19, ya19, xd19, xp19, yb19, xc19, xt19, ys19, _, _, _, _, _, _, U19.l, U19.c⟩ }
  have b20 : PySem.ThX.ThTxt "BadTags" "BadTags.__init__" K mg C20 F20 := { gC := PySem.W.mg_of X G U20.a, cls := ⟨n20, q20, N20, bs20, _, sn20, sub20, ab20, col20, dd20, m020, m120, m220, m320, m520, U20.x, rfl⟩, sa := U20.sa, ga := U20.ga, gg := U20.gg, noN := U20.nb, iC := U20.i, tC := U20.t, kC := U20.k, exC := U20.e, tyC := U20.ty, hdC := U20.hd, te := PySem.W.exm_ref U20.e U20.hd U20.ty U20.s, fn := ⟨xo20, ya20, xd20, xp20, yb20, xc20, xt20, ys20, _, _, _, _, _, _, U20.l, U20.c⟩ }
  have b21 : PySem.ThX.ThTxt "BadRules" "BadRules.__init__" K mg C21 F21 := { gC := PySem.W.mg_of X G U21.a, cls := ⟨n21, q21, N21, bs21, _, sn21, sub21, ab21, col21, dd21, m021, m121, m221, m321, m521, U21.x, rfl⟩, sa := U21.sa, ga := U21.ga, gg := U21.gg, noN := U21.nb, iC := U21.i, tC := U21.t, kC := U21.k, exC := U21.e, tyC := U21.ty, hdC := U21.hd, te := PySem.W.exm_ref U21.e U21.hd U21.ty U21.s, fn := ⟨xo21, ya21, xd21, xp21, yb21, xc21, xt21, ys21, _, _, _, _, _, _, U21.l, U21.c⟩ }
  have b22 : PySem.ThX.ThTxt "BadTies" "BadTies.__init__" K mg C22 F22 := { gC := PySem.W.mg_of X G U22.a, cls := ⟨n22, q22, N22, bs22, _, sn22, sub22, ab22, col22, dd22, m022, m122, m222, m322, m522, U22.x, rfl⟩, sa := U22.sa, ga := U22.ga, gg := U22.gg, noN := U22.nb, iC := U22.i, tC := U22.t, kC := U22.k, exC := U22.e, tyC := U22.ty, hdC := U22.hd, te := PySem.W.exm_ref U22.e U22.hd U22.ty U22.s, fn := ⟨xo22, ya22, xd22, xp22, yb22, xc22, xt22, ys22, _, _, _, _, _, _, U22.l, U22.c⟩ }
  have b23 : PySem.ThX.ThTxt "BadStep" "BadStep.__init__" K mg C23 F23 := { gC := PySem.W.mg_of X G U23.a, cls := ⟨n23, q23, N23, bs23, _, sn23, sub23, ab23, col23, dd23, m023, m123, m223, m323, m523, U23.x, rfl⟩, sa := U23.sa, ga := U23.ga, gg := U23.gg, noN := U23.nb, iC := U23.i, tC := U23.t, kC := U23.k, exC := U23.e, tyC := U23.ty, hdC := U23.hd, te := PySem.W.exm_ref U23.e U23.hd U23.ty U23.s, fn := ⟨xo23, ya23, xd23, xp23, yb23, xc23, xt23, ys23, _, _, _, _, _, _, U23.l, U23.c⟩ }
  let AA : Nat → Addr := fun i => match i with
    | 27 => f27
    | 28 => f28
    | 29 => f29
    | 30 => f30
    | 31 => f31
    | 32 => f32
    | 33 => f33
    | 34 => f34
    | 35 => f35
    | 36 => f36
    | 37 => f37
    | 38 => f38
    | 39 => f39
    | _ => 0
  let DD : Nat → FuncData := fun i => match i with
    | 27 => PySem.W.fnOf "_law_deck" "_law_deck" (defArgs sDeck) (defBody sDeck) (defScope sDeck) .none kV27 dc27 pm27 an27 cd27 ct27
    | 28 => PySem.W.fnOf "_law_draw" "_law_draw" (defArgs sDraw) (defBody sDraw) (defScope sDraw) .none kV28 dc28 pm28 an28 cd28 ct28
    | 29 => PySem.W.fnOf "_law_pick" "_law_pick" (defArgs sPick) (defBody sPick) (defScope sPick) .none kV29 dc29 pm29 an29 cd29 ct29
    | 30 => PySem.W.fnOf "_law_any" "_law_any" (defArgs sAny) (defBody sAny) (defScope sAny) .none kV30 dc30 pm30 an30 cd30 ct30
    | 31 => PySem.W.fnOf "_law_by_position" "_law_by_position" (defArgs sPos) (defBody sPos) (defScope sPos) .none kV31 dc31 pm31 an31 cd31 ct31
    | 32 => PySem.W.fnOf "_law_by_name" "_law_by_name" (defArgs sNam) (defBody sNam) (defScope sNam) .none kV32 dc32 pm32 an32 cd32 ct32
    | 33 => PySem.W.fnOf "_law_classes" "_law_classes" (defArgs sCls) (defBody sCls) (defScope sCls) .none kV33 dc33 pm33 an33 cd33 ct33
    | 34 => PySem.W.fnOf "_law_is_own" "_law_is_own" (defArgs sOwn) (defBody sOwn) (defScope sOwn) .none kV34 dc34 pm34 an34 cd34 ct34
    | 35 => PySem.W.fnOf "_law_raise" "_law_raise" (defArgs sRaise) (defBody sRaise) (defScope sRaise) .none kV35 dc35 pm35 an35 cd35 ct35
    | 36 => PySem.W.fnOf "_law_raise_more" "_law_raise_more" (defArgs sRaise2) (defBody sRaise2) (defScope sRaise2) .none kV36 dc36 pm36 an36 cd36 ct36
    | 37 => PySem.W.fnOf "_law_caught" "_law_caught" (defArgs sCaught) (defBody sCaught) (defScope sCaught) .none kV37 dc37 pm37 an37 cd37 ct37
    | 38 => PySem.W.fnOf "_law_caught_as_base" "_law_caught_as_base" (defArgs sBase) (defBody sBase) (defScope sBase) .none kV38 dc38 pm38 an38 cd38 ct38
    | 39 => PySem.W.fnOf "_law_carried" "_law_carried" (defArgs sCar) (defBody sCar) (defScope sCar) .none kV39 dc39 pm39 an39 cd39 ct39
    | _ => PySem.W.fnOf "law" "law" (defArgs sLaw) (defBody sLaw) (defScope sLaw) .none kV40 dc40 pm40 an40 cd40 ct40
  have XX : EX K mg (clsF C0 C1 C2 C3 C4 C5 C6 C7 C8 C9 C10 C11 C12 C13 C14 C15 C16 C17 C18 C19 C20 C21 C22 C23) (clsF F0 F1 F2 F3 F4 F5 F6 F7 F8 F9 F10 F11 F12 F13 F14 F15 F16 F17 F18 F19 F20 F21 F22 F23) CE := ⟨b0, b1, b2, b3, b4, b5, b6, b7, b8, b9, b10, b11, b12, b13, b14, b15, b16, b17, b18, b19, b20, b21, b22, b23, in24 (U0.says spB tkB) (U1.says spB tkB) (U2.says spB tkB) (U3.says spB tkB) (U4.says spB tkB) (U5.says spB tkB) (U6.says spB tkB) (U7.says spB tkB) (U8.says spB tkB) (U9.says spB tkB) (U10.says spB tkB) (U11.says spB tkB) (U12.says spB tkB) (U13.says spB tkB) (U14.says spB tkB) (U15.says spB tkB) (U16.says spB tkB) (U17.says spB tkB) (U18.says spB tkB) (U19.says spB tkB) (U20.says spB tkB) (U21.says spB tkB) (U22.says spB tkB) (U23.says spB tkB), (fun i j hi => in24 (P := fun i => ∀ j, j < 24 → PySem.W.kitOne K (.ref ((clsF C0 C1 C2 C3 C4 C5 C6 C7 C8 C9 C10 C11 C12 C13 C14 C15 C16 C17 C18 C19 C20 C21 C22 C23) i)) (.ref ((clsF C0 C1 C2 C3 C4 C5 C6 C7 C8 C9 C10 C11 C12 C13 C14 C15 C16 C17 C18 C19 C20 C21 C22 C23) j)) = some (decide (i = j))) (fun j hj => row_get kt0 j hj) (fun j hj => row_get kt1 j hj) (fun j hj => row_get kt2 j hj) (fun j hj => row_get kt3 j hj) (fun j hj => row_get kt4 j hj) (fun j hj => row_get kt5 j hj) (fun j hj => row_get kt6 j hj) (fun j hj => row_get kt7 j hj) (fun j hj => row_get kt8 j hj) (fun j hj => row_get kt9 j hj) (fun j hj => row_get kt10 j hj) (fun j hj => row_get kt11 j hj) (fun j hj => row_get kt12 j hj) (fun j hj => row_get kt13 j hj) (fun j hj => row_get kt14 j hj) (fun j hj => row_get kt15 j hj) (fun j hj => row_get kt16 j hj) (fun j hj => row_get kt17 j hj) (fun j hj => row_get kt18 j hj) (fun j hj => row_get kt19 j hj) (fun j hj => row_get kt20 j hj) (fun j hj => row_get kt21 j hj) (fun j hj => row_get kt22 j hj) (fun j hj => row_get kt23 j hj) i hi j), row_get rE, row_get rX, row_get rB, (fun i j hi => in24 (P := fun i => ∀ j, j < 24 → PySem.W.exmOne K (.ref ((clsF C0 C1 C2 C3 C4 C5 C6 C7 C8 C9 C10 C11 C12 C13 C14 C15 C16 C17 C18 C19 C20 C21 C22 C23) i)) (.ref ((clsF C0 C1 C2 C3 C4 C5 C6 C7 C8 C9 C10 C11 C12 C13 C14 C15 C16 C17 C18 C19 C20 C21 C22 C23) j)) = some (decide (i = j))) (fun j hj => row_get xt0_ j hj) (fun j hj => row_get xt1_ j hj) (fun j hj => row_get xt2_ j hj) (fun j hj => row_get xt3_ j hj) (fun j hj => row_get xt4_ j hj) (fun j hj => row_get xt5_ j hj) (fun j hj => row_get xt6_ j hj) (fun j hj => row_get xt7_ j hj) (fun j hj => row_get xt8_ j hj) (fun j hj => row_get xt9_ j hj) (fun j hj => row_get xt10_ j hj) (fun j hj => row_get xt11_ j hj) (fun j hj => row_get xt12_ j hj) (fun j hj => row_get xt13_ j hj) (fun j hj => row_get xt14_ j hj) (fun j hj => row_get xt15_ j hj) (fun j hj => row_get xt16_ j hj) (fun j hj => row_get xt17_ j hj) (fun j hj => row_get xt18_ j hj) (fun j hj => row_get xt19_ j hj) (fun j hj => row_get xt20_ j hj) (fun j hj => row_get xt21_ j hj) (fun j hj => row_get xt22_ j hj) (fun j hj => row_get xt23_ j hj) i hi j), row_get rM, PySem.W.mg_of X G aE, PySem.W.mg_none_of X G z_isinstance, PySem.W.mg_none_of X G z_Exception, PySem.W.mg_none_of X G z_ValueError, PySem.W.mg_none_of X G z_TypeError, PySem.W.mg_none_of X G z_LookupError, PySem.W.mg_none_of X G z_ArithmeticError, PySem.W.mg_none_of X G z_RuntimeError, PySem.W.mg_none_of X G z_AttributeError⟩
  have L1 : LH K mg AA DD := ⟨B, D28, D29, D30⟩
  have L : LW K mg AA DD (clsF C0 C1 C2 C3 C4 C5 C6 C7 C8 C9 C10 C11 C12 C13 C14 C15 C16 C17 C18 C19 C20 C21 C22 C23) (clsF F0 F1 F2 F3 F4 F5 F6 F7 F8 F9 F10 F11 F12 F13 F14 F15 F16 F17 F18 F19 F20 F21 F22 F23) CE := { toLH := L1, deck := D27, pos := D31, nam := D32, cls := D33, own := D34, rai := D35, rai2 := D36, cau := D37, bas := D38, car := D39, T := XX }
  refine ⟨_, [], spLaw K, ⟨fun p hp => absurd hp List.not_mem_nil, fun p hp => absurd hp List.not_mem_nil, fun p hp => absurd hp List.not_mem_nil⟩, fun s u => .of_eq rfl, fun H a ns hn hT hS => ⟨a, ns, rfl, hS, hn, fun _ => rfl⟩, fun base KB MB TB hs => ok_law D40.F L hs (PySem.W.mg_none_of X G z_enumerate)⟩
end Ey
open PySem PySem.W PyProof.Rows
set_option maxRecDepth 100000 in
set_option maxHeartbeats 0 in
theorem PySem.Challenge.cw_eyesonly_k00_errors_by_position_and_by_n_holds : PySem.Challenge.rw_eyesonly_k00_errors_by_position_and_by_n.Holds := by
  w_on; o_law; k_head; (case hw => w_witness2)
  k_fill
  refine Ey.walk_law (l := PySem.Challenge.rw_eyesonly_k00_errors_by_position_and_by_n) (x := "_law_script") (by decide +kernel) rfl (by decide) rfl (fun w h Y => PySem.W.kIn_of Y) ?F
  case F =>
    intro w mg fa h lo mean mb KX T hmg
    refine' Ey.all_mk (w := w) KX T hmg ⟨?a27, ?l27, ?c27, ?k27⟩ ⟨?a28, ?l28, ?c28, ?k28⟩ ⟨?a29, ?l29, ?c29, ?k29⟩ ⟨?a30, ?l30, ?c30, ?k30⟩ ⟨?a31, ?l31, ?c31, ?k31⟩ ⟨?a32, ?l32, ?c32, ?k32⟩ ⟨?a33, ?l33, ?c33, ?k33⟩ ⟨?a34, ?l34, ?c34, ?k34⟩ ⟨?a35, ?l35, ?c35, ?k35⟩ ⟨?a36, ?l36, ?c36, ?k36⟩ ⟨?a37, ?l37, ?c37, ?k37⟩ ⟨?a38, ?l38, ?c38, ?k38⟩ ⟨?a39, ?l39, ?c39, ?k39⟩ ⟨?a40, ?l40, ?c40, ?k40⟩ ?zint ?zmax ?zlist ?zlen ?zrange ?ztuple ?zsorted ?zrepr ?zisinstance ?zstr ?zall ?zbool ?zenumerate ?zException ?zValueError ?zTypeError ?zLookupError ?zArithmeticError ?zRuntimeError ?zAttributeError ?aE ?spB ?tkB ⟨?E0a, ?E0x, ?E0sa, ?E0ga, ?E0gg, ?E0nb, ?E0i, ?E0t, ?E0l, ?E0c, ?E0k, ?E0e, ?E0ty, ?E0hd, ?E0s, ?E0cl, ?E0mo⟩ ⟨?E1a, ?E1x, ?E1sa, ?E1ga, ?E1gg, ?E1nb, ?E1i, ?E1t, ?E1l, ?E1c, ?E1k, ?E1e, ?E1ty, ?E1hd, ?E1s, ?E1cl, ?E1mo⟩ ⟨?E2a, ?E2x, ?E2sa, ?E2ga, ?E2gg, ?E2nb, ?E2i, ?E2t, ?E2l, ?E2c, ?E2k, ?E2e, ?E2ty, ?E2hd, ?E2s, ?E2cl, ?E2mo⟩ ⟨?E3a, ?E3x, ?E3sa, ?E3ga, ?E3gg, ?E3nb, ?E3i, ?E3t, ?E3l, ?E3c, ?E3k, ?E3e, ?E3ty, ?E3hd, ?E3s, ?E3cl, ?E3mo⟩ ⟨?E4a, ?E4x, ?E4sa, ?E4ga, ?E4gg, ?E4nb, ?E4i, ?E4t, ?E4l, ?E4c, ?E4k, ?E4e, ?E4ty, ?E4hd, ?E4s, ?E4cl, ?E4mo⟩ ⟨?E5a, ?E5x, ?E5sa, ?E5ga, ?E5gg, ?E5nb, ?E5i, ?E5t, ?E5l, ?E5c, ?E5k, ?E5e, ?E5ty, ?E5hd, ?E5s, ?E5cl, ?E5mo⟩ ⟨?E6a, ?E6x, ?E6sa, ?E6ga, ?E6gg, ?E6nb, ?E6i, ?E6t, ?E6l, ?E6c, ?E6k, ?E6e, ?E6ty, ?E6hd, ?E6s, ?E6cl, ?E6mo⟩ ⟨?E7a, ?E7x, ?E7sa, ?E7ga, ?E7gg, ?E7nb, ?E7i, ?E7t, ?E7l, ?E7c, ?E7k, ?E7e, ?E7ty, ?E7hd, ?E7s, ?E7cl, ?E7mo⟩ ⟨?E8a, ?E8x, ?E8sa, ?E8ga, ?E8gg, ?E8nb, ?E8i, ?E8t, ?E8l, ?E8c, ?E8k, ?E8e, ?E8ty, ?E8hd, ?E8s, ?E8cl, ?E8mo⟩ ⟨?E9a, ?E9x, ?E9sa, ?E9ga, ?E9gg, ?E9nb, ?E9i, ?E9t, ?E9l, ?E9c, ?E9k, ?E9e, ?E9ty, ?E9hd, ?E9s, ?E9cl, ?E9mo⟩ ⟨?E10a, ?E10x, ?E10sa, ?E10ga, ?E10gg, ?E10nb, ?E10i, ?E10t, ?E10l, ?E10c, ?E10k, ?E10e, ?E10ty, ?E10hd, ?E10s, ?E10cl, ?E10mo⟩ ⟨?E11a, ?E11x, ?E11sa, ?E11ga, ?E11gg, ?E11nb, ?E11i, ?E11t, ?E11l, ?E11c, ?E11k, ?E11e, ?E11ty, ?E11hd, ?E11s, ?E11cl, ?E11mo⟩ ⟨?E12a, ?E12x, ?E12sa, ?E12ga, ?E12gg, ?E12nb, ?E12i, ?E12t, ?E12l, ?E12c, ?E12k, ?E12e, ?E12ty, ?E12hd, ?E12s, ?E12cl, ?E12mo⟩ ⟨?E13a, ?E13x, ?E13sa, ?E13ga, ?E13gg, ?E13nb, ?E13i, ?E13t, ?E13l, ?E13c, ?E13k, ?E13e, ?E13ty, ?E13hd, ?E13s, ?E13cl, ?E13mo⟩ ⟨?E14a, ?E14x, ?E14sa, ?E14ga, ?E14gg, ?E14nb, ?E14i, ?E14t, ?E14l, ?E14c, ?E14k, ?E14e, ?E14ty, ?E14hd, ?E14s, ?E14cl, ?E14mo⟩ ⟨?E15a, ?E15x, ?E15sa, ?E15ga, ?E15gg, ?E15nb, ?E15i, ?E15t, ?E15l, ?E15c, ?E15k, ?E15e, ?E15ty, ?E15hd, ?E15s, ?E15cl, ?E15mo⟩ ⟨?E16a, ?E16x, ?E16sa, ?E16ga, ?E16gg, ?E16nb, ?E16i, ?E16t, ?E16l, ?E16c, ?E16k, ?E16e, ?E16ty, ?E16hd, ?E16s, ?E16cl, ?E16mo⟩ ⟨?E17a, ?E17x, ?E17sa, ?E17ga, ?E17gg, ?E17nb, ?E17i, ?E17t, ?E17l, ?E17c, ?E17k, ?E17e, ?E17ty, ?E17hd, ?E17s, ?E17cl, ?E17mo⟩ ⟨?E18a, ?E18x, ?E18sa, ?E18ga, ?E18gg, ?E18nb, ?E18i, ?E18t, ?E18l, ?E18c, ?E18k, ?E18e, ?E18ty, ?E18hd, ?E18s, ?E18cl, ?E18mo⟩ ⟨?E19a, ?E19x, ?E19sa, ?E19ga, ?E19gg, ?E19nb, ?E19i, ?E19t, ?E19l, ?E19c, ?E19k, ?E19e, ?E19ty, ?E19hd, ?E19s, ?E19cl, ?E19mo⟩ ⟨?E20a, ?E20x, ?E20sa, ?E20ga, ?E20gg, ?E20nb, ?E20i, ?E20t, ?E20l, ?E20c, ?E20k, ?E20e, ?E20ty, ?E20hd, ?E20s, ?E20cl, ?E20mo⟩ ⟨?E21a, ?E21x, ?E21sa, ?E21ga, ?E21gg, ?E21nb, ?E21i, ?E21t, ?E21l, ?E21c, ?E21k, ?E21e, ?E21ty, ?E21hd, ?E21s, ?E21cl, ?E21mo⟩ ⟨?E22a, ?E22x, ?E22sa, ?E22ga, ?E22gg, ?E22nb, ?E22i, ?E22t, ?E22l, ?E22c, ?E22k, ?E22e, ?E22ty, ?E22hd, ?E22s, ?E22cl, ?E22mo⟩ ⟨?E23a, ?E23x, ?E23sa, ?E23ga, ?E23gg, ?E23nb, ?E23i, ?E23t, ?E23l, ?E23c, ?E23k, ?E23e, ?E23ty, ?E23hd, ?E23s, ?E23cl, ?E23mo⟩ ?kt0 ?kt1 ?kt2 ?kt3 ?kt4 ?kt5 ?kt6 ?kt7 ?kt8 ?kt9 ?kt10 ?kt11 ?kt12 ?kt13 ?kt14 ?kt15 ?kt16 ?kt17 ?kt18 ?kt19 ?kt20 ?kt21 ?kt22 ?kt23 ?xt0 ?xt1 ?xt2 ?xt3 ?xt4 ?xt5 ?xt6 ?xt7 ?xt8 ?xt9 ?xt10 ?xt11 ?xt12 ?xt13 ?xt14 ?xt15 ?xt16 ?xt17 ?xt18 ?xt19 ?xt20 ?xt21 ?xt22 ?xt23 ?rE ?rX ?rB ?rM
    (case a27 => k_is); (case l27 => k_is); (case c27 => k_is); (case k27 => k_is)
    (case a28 => k_is); (case l28 => k_is); (case c28 => k_is); (case k28 => k_is)
    (case a29 => k_is); (case l29 => k_is); (case c29 => k_is); (case k29 => k_is)
    (case a30 => k_is); (case l30 => k_is); (case c30 => k_is); (case k30 => k_is)
    (case a31 => k_is); (case l31 => k_is); (case c31 => k_is); (case k31 => k_is)
    (case a32 => k_is); (case l32 => k_is); (case c32 => k_is); (case k32 => k_is)
    (case a33 => k_is); (case l33 => k_is); (case c33 => k_is); (case k33 => k_is)
    (case a34 => k_is); (case l34 => k_is); (case c34 => k_is); (case k34 => k_is)
    (case a35 => k_is); (case l35 => k_is); (case c35 => k_is); (case k35 => k_is)
    (case a36 => k_is); (case l36 => k_is); (case c36 => k_is); (case k36 => k_is)
    (case a37 => k_is); (case l37 => k_is); (case c37 => k_is); (case k37 => k_is)
    (case a38 => k_is); (case l38 => k_is); (case c38 => k_is); (case k38 => k_is)
    (case a39 => k_is); (case l39 => k_is); (case c39 => k_is); (case k39 => k_is)
    (case a40 => k_is); (case l40 => k_is); (case c40 => k_is); (case k40 => k_is)
    (case zint => k_is); (case zmax => k_is); (case zlist => k_is); (case zlen => k_is); (case zrange => k_is); (case ztuple => k_is); (case zsorted => k_is); (case zrepr => k_is); (case zisinstance => k_is); (case zstr => k_is); (case zall => k_is); (case zbool => k_is); (case zenumerate => k_is); (case zException => k_is); (case zValueError => k_is); (case zTypeError => k_is); (case zLookupError => k_is); (case zArithmeticError => k_is); (case zRuntimeError => k_is); (case zAttributeError => k_is)
    (case aE => k_is); (case spB => first | k_is | rfl | decide +kernel); (case tkB => first | k_is | rfl | decide +kernel)
    (case E0a => k_is); (case E0x => k_is)
    (case E1a => k_is); (case E1x => k_is)
    (case E2a => k_is); (case E2x => k_is)
    (case E3a => k_is); (case E3x => k_is)
    (case E4a => k_is); (case E4x => k_is)
    (case E5a => k_is); (case E5x => k_is)
    (case E6a => k_is); (case E6x => k_is)
    (case E7a => k_is); (case E7x => k_is)
    (case E8a => k_is); (case E8x => k_is)
    (case E9a => k_is); (case E9x => k_is)
    (case E10a => k_is); (case E10x => k_is)
    (case E11a => k_is); (case E11x => k_is)
    (case E12a => k_is); (case E12x => k_is)
    (case E13a => k_is); (case E13x => k_is)
    (case E14a => k_is); (case E14x => k_is)
    (case E15a => k_is); (case E15x => k_is)
    (case E16a => k_is); (case E16x => k_is)
    (case E17a => k_is); (case E17x => k_is)
    (case E18a => k_is); (case E18x => k_is)
    (case E19a => k_is); (case E19x => k_is)
    (case E20a => k_is); (case E20x => k_is)
    (case E21a => k_is); (case E21x => k_is)
    (case E22a => k_is); (case E22x => k_is)
    (case E23a => k_is); (case E23x => k_is)
    (case E0sa => k_is); (case E0ga => k_is); (case E0gg => k_is); (case E0nb => k_is); (case E0i => k_is); (case E0t => k_is); (case E0l => k_is); (case E0c => k_is); (case E0k => k_is); (case E0e => k_is); (case E0ty => k_is); (case E0hd => k_is); (case E0s => first | rfl | k_is); (case E0cl => first | k_is | rfl | decide +kernel); (case E0mo => first | k_is | rfl | decide +kernel)
    (case E1sa => k_is); (case E1ga => k_is); (case E1gg => k_is); (case E1nb => k_is); (case E1i => k_is); (case E1t => k_is); (case E1l => k_is); (case E1c => k_is); (case E1k => k_is); (case E1e => k_is); (case E1ty => k_is); (case E1hd => k_is); (case E1s => first | rfl | k_is); (case E1cl => first | k_is | rfl | decide +kernel); (case E1mo => first | k_is | rfl | decide +kernel)
    (case E2sa => k_is); (case E2ga => k_is); (case E2gg => k_is); (case E2nb => k_is); (case E2i => k_is); (case E2t => k_is); (case E2l => k_is); (case E2c => k_is); (case E2k => k_is); (case E2e => k_is); (case E2ty => k_is); (case E2hd => k_is); (case E2s => first | rfl | k_is); (case E2cl => first | k_is | rfl | decide +kernel); (case E2mo => first | k_is | rfl | decide +kernel)
    (case E3sa => k_is); (case E3ga => k_is); (case E3gg => k_is); (case E3nb => k_is); (case E3i => k_is); (case E3t => k_is); (case E3l => k_is); (case E3c => k_is); (case E3k => k_is); (case E3e => k_is); (case E3ty => k_is); (case E3hd => k_is); (case E3s => first | rfl | k_is); (case E3cl => first | k_is | rfl | decide +kernel); (case E3mo => first | k_is | rfl | decide +kernel)
    (case E4sa => k_is); (case E4ga => k_is); (case E4gg => k_is); (case E4nb => k_is); (case E4i => k_is); (case E4t => k_is); (case E4l => k_is); (case E4c => k_is); (case E4k => k_is); (case E4e => k_is); (case E4ty => k_is); (case E4hd => k_is); (case E4s => first | rfl | k_is); (case E4cl => first | k_is | rfl | decide +kernel); (case E4mo => first | k_is | rfl | decide +kernel)
    (case E5sa => k_is); (case E5ga => k_is); (case E5gg => k_is); (case E5nb => k_is); (case E5i => k_is); (case E5t => k_is); (case E5l => k_is); (case E5c => k_is); (case E5k => k_is); (case E5e => k_is); (case E5ty => k_is); (case E5hd => k_is); (case E5s => first | rfl | k_is); (case E5cl => first | k_is | rfl | decide +kernel); (case E5mo => first | k_is | rfl | decide +kernel)
    (case E6sa => k_is); (case E6ga => k_is); (case E6gg => k_is); (case E6nb => k_is); (case E6i => k_is); (case E6t => k_is); (case E6l => k_is); (case E6c => k_is); (case E6k => k_is); (case E6e => k_is); (case E6ty => k_is); (case E6hd => k_is); (case E6s => first | rfl | k_is); (case E6cl => first | k_is | rfl | decide +kernel); (case E6mo => first | k_is | rfl | decide +kernel)
    (case E7sa => k_is); (case E7ga => k_is); (case E7gg => k_is); (case E7nb => k_is); (case E7i => k_is); (case E7t => k_is); (case E7l => k_is); (case E7c => k_is); (case E7k => k_is); (case E7e => k_is); (case E7ty => k_is); (case E7hd => k_is); (case E7s => first | rfl | k_is); (case E7cl => first | k_is | rfl | decide +kernel); (case E7mo => first | k_is | rfl | decide +kernel)
    (case E8sa => k_is); (case E8ga => k_is); (case E8gg => k_is); (case E8nb => k_is); (case E8i => k_is); (case E8t => k_is); (case E8l => k_is); (case E8c => k_is); (case E8k => k_is); (case E8e => k_is); (case E8ty => k_is); (case E8hd => k_is); (case E8s => first | rfl | k_is); (case E8cl => first | k_is | rfl | decide +kernel); (case E8mo => first | k_is | rfl | decide +kernel)
    (case E9sa => k_is); (case E9ga => k_is); (case E9gg => k_is); (case E9nb => k_is); (case E9i => k_is); (case E9t => k_is); (case E9l => k_is); (case E9c => k_is); (case E9k => k_is); (case E9e => k_is); (case E9ty => k_is); (case E9hd => k_is); (case E9s => first | rfl | k_is); (case E9cl => first | k_is | rfl | decide +kernel); (case E9mo => first | k_is | rfl | decide +kernel)
    (case E10sa => k_is); (case E10ga => k_is); (case E10gg => k_is); (case E10nb => k_is); (case E10i => k_is); (case E10t => k_is); (case E10l => k_is); (case E10c => k_is); (case E10k => k_is); (case E10e => k_is); (case E10ty => k_is); (case E10hd => k_is); (case E10s => first | rfl | k_is); (case E10cl => first | k_is | rfl | decide +kernel); (case E10mo => first | k_is | rfl | decide +kernel)
    (case E11sa => k_is); (case E11ga => k_is); (case E11gg => k_is); (case E11nb => k_is); (case E11i => k_is); (case E11t => k_is); (case E11l => k_is); (case E11c => k_is); (case E11k => k_is); (case E11e => k_is); (case E11ty => k_is); (case E11hd => k_is); (case E11s => first | rfl | k_is); (case E11cl => first | k_is | rfl | decide +kernel); (case E11mo => first | k_is | rfl | decide +kernel)
    (case E12sa => k_is); (case E12ga => k_is); (case E12gg => k_is); (case E12nb => k_is); (case E12i => k_is); (case E12t => k_is); (case E12l => k_is); (case E12c => k_is); (case E12k => k_is); (case E12e => k_is); (case E12ty => k_is); (case E12hd => k_is); (case E12s => first | rfl | k_is); (case E12cl => first | k_is | rfl | decide +kernel); (case E12mo => first | k_is | rfl | decide +kernel)
    (case E13sa => k_is); (case E13ga => k_is); (case E13gg => k_is); (case E13nb => k_is); (case E13i => k_is); (case E13t => k_is); (case E13l => k_is); (case E13c => k_is); (case E13k => k_is); (case E13e => k_is); (case E13ty => k_is); (case E13hd => k_is); (case E13s => first | rfl | k_is); (case E13cl => first | k_is | rfl | decide +kernel); (case E13mo => first | k_is | rfl | decide +kernel)
    (case E14sa => k_is); (case E14ga => k_is); (case E14gg => k_is); (case E14nb => k_is); (case E14i => k_is); (case E14t => k_is); (case E14l => k_is); (case E14c => k_is); (case E14k => k_is); (case E14e => k_is); (case E14ty => k_is); (case E14hd => k_is); (case E14s => first | rfl | k_is); (case E14cl => first | k_is | rfl | decide +kernel); (case E14mo => first | k_is | rfl | decide +kernel)
    (case E15sa => k_is); (case E15ga => k_is); (case E15gg => k_is); (case E15nb => k_is); (case E15i => k_is); (case E15t => k_is); (case E15l => k_is); (case E15c => k_is); (case E15k => k_is); (case E15e => k_is); (case E15ty => k_is); (case E15hd => k_is); (case E15s => first | rfl | k_is); (case E15cl => first | k_is | rfl | decide +kernel); (case E15mo => first | k_is | rfl | decide +kernel)
    (case E16sa => k_is); (case E16ga => k_is); (case E16gg => k_is); (case E16nb => k_is); (case E16i => k_is); (case E16t => k_is); (case E16l => k_is); (case E16c => k_is); (case E16k => k_is); (case E16e => k_is); (case E16ty => k_is); (case E16hd => k_is); (case E16s => first | rfl | k_is); (case E16cl => first | k_is | rfl | decide +kernel); (case E16mo => first | k_is | rfl | decide +kernel)
    (case E17sa => k_is); (case E17ga => k_is); (case E17gg => k_is); (case E17nb => k_is); (case E17i => k_is); (case E17t => k_is); (case E17l => k_is); (case E17c => k_is); (case E17k => k_is); (case E17e => k_is); (case E17ty => k_is); (case E17hd => k_is); (case E17s => first | rfl | k_is); (case E17cl => first | k_is | rfl | decide +kernel); (case E17mo => first | k_is | rfl | decide +kernel)
    (case E18sa => k_is); (case E18ga => k_is); (case E18gg => k_is); (case E18nb => k_is); (case E18i => k_is); (case E18t => k_is); (case E18l => k_is); (case E18c => k_is); (case E18k => k_is); (case E18e => k_is); (case E18ty => k_is); (case E18hd => k_is); (case E18s => first | rfl | k_is); (case E18cl => first | k_is | rfl | decide +kernel); (case E18mo => first | k_is | rfl | decide +kernel)
    (case E19sa => k_is); (case E19ga => k_is); (case E19gg => k_is); (case E19nb => k_is); (case E19i => k_is); (case E19t => k_is); (case E19l => k_is); (case E19c => k_is); (case E19k => k_is); (case E19e => k_is); (case E19ty => k_is); (case E19hd => k_is); (case E19s => first | rfl | k_is); (case E19cl => first | k_is | rfl | decide +kernel); (case E19mo => first | k_is | rfl | decide +kernel)
    (case E20sa => k_is); (case E20ga => k_is); (case E20gg => k_is); (case E20nb => k_is); (case E20i => k_is); (case E20t => k_is); (case E20l => k_is); (case E20c => k_is); (case E20k => k_is); (case E20e => k_is); (case E20ty => k_is); (case E20hd => k_is); (case E20s => first | rfl | k_is); (case E20cl => first | k_is | rfl | decide +kernel); (case E20mo => first | k_is | rfl | decide +kernel)
    (case E21sa => k_is); (case E21ga => k_is); (case E21gg => k_is); (case E21nb => k_is); (case E21i => k_is); (case E21t => k_is); (case E21l => k_is); (case E21c => k_is); (case E21k => k_is); (case E21e => k_is); (case E21ty => k_is); (case E21hd => k_is); (case E21s => first | rfl | k_is); (case E21cl => first | k_is | rfl | decide +kernel); (case E21mo => first | k_is | rfl | decide +kernel)
    (case E22sa => k_is); (case E22ga => k_is); (case E22gg => k_is); (case E22nb => k_is); (case E22i => k_is); (case E22t => k_is); (case E22l => k_is); (case E22c => k_is); (case E22k => k_is); (case E22e => k_is); (case E22ty => k_is); (case E22hd => k_is); (case E22s => first | rfl | k_is); (case E22cl => first | k_is | rfl | decide +kernel); (case E22mo => first | k_is | rfl | decide +kernel)
    (case E23sa => k_is); (case E23ga => k_is); (case E23gg => k_is); (case E23nb => k_is); (case E23i => k_is); (case E23t => k_is); (case E23l => k_is); (case E23c => k_is); (case E23k => k_is); (case E23e => k_is); (case E23ty => k_is); (case E23hd => k_is); (case E23s => first | rfl | k_is); (case E23cl => first | k_is | rfl | decide +kernel); (case E23mo => first | k_is | rfl | decide +kernel)
    (case kt0 => rfl); (case xt0 => rfl)
    (case kt1 => rfl); (case xt1 => rfl)
    (case kt2 => rfl); (case xt2 => rfl)
    (case kt3 => rfl); (case xt3 => rfl)
    (case kt4 => rfl); (case xt4 => rfl)
    (case kt5 => rfl); (case xt5 => rfl)
    (case kt6 => rfl); (case xt6 => rfl)
    (case kt7 => rfl); (case xt7 => rfl)
    (case kt8 => rfl); (case xt8 => rfl)
    (case kt9 => rfl); (case xt9 => rfl)
    (case kt10 => rfl); (case xt10 => rfl)
    (case kt11 => rfl); (case xt11 => rfl)
    (case kt12 => rfl); (case xt12 => rfl)
    (case kt13 => rfl); (case xt13 => rfl)
    (case kt14 => rfl); (case xt14 => rfl)
    (case kt15 => rfl); (case xt15 => rfl)
    (case kt16 => rfl); (case xt16 => rfl)
    (case kt17 => rfl); (case xt17 => rfl)
    (case kt18 => rfl); (case xt18 => rfl)
    (case kt19 => rfl); (case xt19 => rfl)
    (case kt20 => rfl); (case xt20 => rfl)
    (case kt21 => rfl); (case xt21 => rfl)
    (case kt22 => rfl); (case xt22 => rfl)
    (case kt23 => rfl); (case xt23 => rfl)
    (case rE => rfl); (case rX => rfl); (case rB => rfl); (case rM => rfl)
