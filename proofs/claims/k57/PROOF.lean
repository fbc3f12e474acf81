import PyProof.Rows.All
import Wide.All
import OpenK.AllK
import Wide.FinOn
import PyProof.ReprRoads
import KE.KSortAny
import PyProof.Rows.SortShellAny
import HandS.ForMost
import HandS.IsInst
import HandS.AnyAll
import HandS.EndTab
import HandS.HeadWalk
import HandS.WrittenGet
import HandS.GenList
import PyProof.EqKinds
import PyProof.NeKinds
import PyProof.NeData
import PyProof.TupleOfGen
import HandS.Conv
import HandS.StrMore
import PyProof.RowDictHeap
import PyProof.Rows.StrDigitsNeg
import PyProof.Rows.StrIntSpec
import KE.KEqNest
import PyProof.Rows.StrRev
import HandS.TupAny
import HandS.Comp
import HandS.Style
import HandS.Lambda
import HandS.SetFor
import HandS.Strs
import HandS.More
import HandS.Small
import PyProof.Rows.TupMore
import HandS.Wide
import HandS.WideBits
import HandS.Iter
import HandS.Walk
import KE.GoesEnum
import PySem.Challenge.RW_eyesonly_k57_outcomes_and_clocks
set_option Elab.async false
set_option linter.all false
set_option maxRecDepth 100000
set_option maxHeartbeats 4000000
namespace Ey
open PySem PySem.Spec PyProof.Rows L2
/-! ### repr of data -/
mutual
theorem dp_plain {K : PySem.W.Frag} {H : Hp} : ∀ (d : PyData) (v : V), Dp K H v d → d.hasDict = false
  | .none, _, _ => rfl
  | .bool _, _, _ => rfl
  | .int _, _, _ => rfl
  | .str _, _, _ => rfl
  | .list ds, _, h => by
    cases h with
    | lst _ q => exact dp_plains ds _ q
  | .tuple ds, _, h => by
    cases h with
    | tup _ q => exact dp_plains ds _ q
  | .dict _, _, h => by cases h
theorem dp_plains {K : PySem.W.Frag} {H : Hp} : ∀ (ds : List PyData) (vs : List V), DpAll K H vs ds → PyData.hasDictAll ds = false
  | [], _, _ => rfl
  | d :: r, _, h => by
    cases h with
    | cons a b =>
      show (d.hasDict || PyData.hasDictAll r) = false
      rw [dp_plain d _ a, dp_plains r _ b]
      rfl
end
def rRepr (K : PySem.W.Frag) : List V → Hp → VK → Prop := fun xs H Q =>
  ∃ v d, xs = [v] ∧ Dp K H v d ∧ d.showable = true ∧ d.depth ≤ 100 ∧ d.shown.length ≤ sizeLine ∧ Q (.str d.shown) H
section
variable {X : Cx} {k : Nat}
theorem cr_repr (hg : X.A.guards = some []) (hr : Room k X.A) : CallR X (.builtin "repr") (rRepr X.K) := by
  intro pins s σ H xs us Q I r h
  obtain ⟨v, d, rfl, hd, hs, hp, hz, q⟩ := h
  obtain ⟨u, rfl, ru⟩ := vals1 r
  obtain ⟨as, rd⟩ := Dp.reads I d v u hd ru
  have nd := dp_plain d v hd
  have room : X.A.units + (d.depth + 1) < cLine := by
    have := hr.un
    omega
  have fin : ∀ (h' : Heap) (tk : Nat) (t : Tok), (∀ b o, s.heap.get? b = some o → h'.get? b = some o) → EP X pins σ Q (.str d.shown t) { s with heap := h', toks := tk } :=
    fun h' tk t hk => ⟨.str d.shown, H, I.kept hk, ⟨t, rfl⟩, q⟩
  cases rd with
  | none => exact PySem.P.repr_of_none (fin s.heap _ _ fun _ _ e => e)
  | bool b => exact PySem.P.repr_of_bool (fin s.heap _ _ fun _ _ e => e)
  | int i t => exact PySem.P.repr_of_int (of_decide_eq_true hs) (fin s.heap _ _ fun _ _ e => e)
  | str x t => exact PySem.P.repr_of_str (fin s.heap _ _ fun _ _ e => e) hz
  | list a b c e => exact repr_of_reads' (.list a b c e) hs (PyData.noDict_hsm nd) hg room (fun _ _ e => e) (fun h' u tk hk => fin h' tk u hk) hz
  | tuple a b c e => exact repr_of_reads' (.tuple a b c e) hs (PyData.noDict_hsm nd) hg room (fun _ _ e => e) (fun h' u tk hk => fin h' tk u hk) hz
  | dict a b c e f => cases nd
/-! ### sorted of texts, at any length -/
def rSortT (K : PySem.W.Frag) : List V → Hp → VK → Prop := fun vs H Q => ∃ (a : Addr) (xs : List Str), vs = [V.ref a] ∧ SqL K H a (xs.map V.str) ∧ xs.length ≤ sizeLine ∧
  ∀ (ys : List Str) (p : Addr), ys.Perm xs → sortedS ys = true → H p = none → Q (.ref p) (upd H p (.lst (ys.map V.str)))
theorem cr_sortT : CallR X (.builtin "sorted") (rSortT X.K) := by
  intro pins s σ H vs us Q I r h
  obtain ⟨a, xs, rfl, hs, hl, q⟩ := h
  obtain ⟨its, rv, pl, _⟩ := I.list hs
  rw [Vals.ref1 r]
  have n0 := rv.length
  rw [List.length_map] at n0
  refine PyProof.Rows.sorted_strsAny pl.isList rv.strs (by rw [← n0]; exact hl) fun out ys h1 h2 h3 => ?_
  obtain ⟨ep, at'⟩ := PyProof.Rows.sortedAll_at s.heap its out
  have n1 : (ys.map V.str).length ≤ sizeLine := by rw [List.length_map, h2.length_eq]; exact hl
  refine ⟨.ref _, upd H (s.heap.objs.size + 1) (.lst (ys.map V.str)), ?_, rfl, q ys _ h2 h3 (I.hok.fresh (Nat.le_succ _))⟩
  exact I.laid (t' := s.toks) (fun _ _ => PyProof.Rows.sortedAll_old) (Nat.le_succ _) ⟨n1, out.toList, ep, vals_of_strs h1, at'⟩
end
end Ey
set_option maxHeartbeats 2000000
namespace Ey
open PySem PySem.Spec PyProof.Rows L2 GxR
/-! ### all(test of sign for sign in text), where the test reads a name of the module -/
/-- the test, in the generator's own frame: the module stands as it stood -/
def EltG (X : Cx) (sc : Scope) (x : Str) (elt : Expr) (pb : Nat → Bool) : Prop :=
  ∀ (ge : Env) (B : Around) (F' : Value → Shared → Prop) (c : Nat) (t : Tok) (z : Shared) (m : Str → Option Value), ge.scope = sc → ge.globals = X.env.globals →
    (∀ b o, X.base.get? b = some o → z.heap.get? b = some o) → z.heap.Ns ge.locals m → m x = some (.str ⟨#[c]⟩ t) →
    wpAny (model X.prog X.w) B (eval elt ge) (fun y z' => y = .bool (pb c) ∧ Keeps z z') F' z
section
variable {X : Cx} {pins : List (Addr × Obj)} {σ : L2.St} {H : Hp} {s : Shared}
theorem gen_glob {c P : Addr} {elt iter : Expr} {x : Str} {px gp : Pos} {sc : Scope} {pb : Nat → Bool} {te : TE} {k : Nat} {Q' : Value → Shared → Prop} {R : Str → Hp → Prop}
    (hr : Room k X.A) (TB : TabB X.base X.mg c P) (hco : X.env.code = .ref c) (S : GenS X.env sc x) (hi : PE X iter te) (hel : EltG X sc x elt pb)
    (hs : ∀ v, genFold iter X.env v = pure v) (I : Inv X pins σ H s) (h : te σ H fun v H1 => ∃ a : Str, v = .str a ∧ TabG H1 P ∧ R a H1)
    (hQ : ∀ a H1 g s5, R a H1 → Ready X pins σ H1 P a pb g s5 → Q' (.ref g) s5) :
    wpAny (model X.prog X.w) X.A (eval (.GeneratorExp elt [⟨.Name x px, iter, [], 0⟩] sc gp) X.env) Q' X.xe s := by
  refine wpAny_GeneratorExp_walksQ hr.hd S.co (closure_ok S.free) S.cell S.dot S.loc S.kind (Nat.lt_of_le_of_lt (by omega) hr.dp) ?_ hs
  refine thn (hi.run pins s σ H _ I h) fun xv sA ⟨v, H1, J, rv, q⟩ => ?_
  obtain ⟨a, rfl, ⟨ps, tP, tok⟩, q⟩ := q
  obtain ⟨t, rfl⟩ := _root_.id rv
  refine wpAny_pyIter_str fun ob St W start => ?_
  have gP : sA.heap.get? P = some { cls := .none, data := .fields ps } := J.hok P _ tP
  have ltP : P < sA.heap.objs.size := Heap.lt_size gP
  have gP2 : (sA.heap.push ob).get? P = some { cls := .none, data := .fields ps } := Heap.get?_push_of_some _ gP
  have head : PySem.W.CodeHd (sA.heap.push ob) c P := TB.code.keeps fun b u e => Heap.get?_push_of_some _ (J.bk b u e)
  have noL : (sA.heap.push ob).NoLimit := J.nolimit.push ob
  have go : ∀ (code : Value) (hN : Heap) (tk : Nat) (qs : Array Value), Heap.ExtBut P (sA.heap.push ob) hN → (sA.heap.push ob).objs.size ≤ hN.objs.size → hN.get? P = some { cls := .none, data := .fields qs } → (∃ more, qs = ps ++ more) → TriplesOk qs.toList →
      wpAny (model X.prog X.w) X.A (builtinsFor X.env.globals X.env.builtins) (fun bi sB =>
        ∃ Ia fp wr n₀ Pf St₀ pz F, Value.ref sA.heap.objs.size = .ref Ia ∧ (∀ B : Around, B.handled = none → Walks X.prog X.w B Ia fp wr n₀ Pf St₀) ∧ St₀ 0 sB.heap ∧ (∀ b ∈ fp, b < sB.heap.objs.size) ∧ sB.heap.NoLimit ∧ cStatics ∉ wr ∧
          (∀ hf : Heap, (∀ b o, sB.heap.get? b = some o → hf.get? b = some o) →
            QuietGen X.prog X.w (genEnv sc (cloFrom X.env.cells sc.names []) sB.heap.objs.size code bi X.env) x [] elt (List.range sB.heap.objs.size) wr Pf pz F hf) ∧
          (∀ g hG tg gs, gs.bare = true → sB.heap.objs.size < g → hG.objs.size = g + 1 → (∀ b o, sB.heap.get? b = some o → hG.get? b = some o) →
            WalksS X.prog X.w X.A.in4 g (g :: sB.heap.objs.size :: List.range sB.heap.objs.size) (sB.heap.objs.size :: wr) (GenOnlyQ sB.gens.size) (passing pz n₀ 0).length
              (fun j y => ∃ i, (passing pz n₀ 0)[j]? = some i ∧ F i y) (GenAt X.prog X.w X.A.in4 g sB.gens.size sB.heap.objs.size (List.range sB.heap.objs.size) wr pz n₀ F) →
            GenAt X.prog X.w X.A.in4 g sB.gens.size sB.heap.objs.size (List.range sB.heap.objs.size) wr pz n₀ F 0 { sB with gens := sB.gens.push gs, toks := tg, heap := hG } →
            Q' (.ref g) { sB with gens := sB.gens.push gs, toks := tg, heap := hG })) X.xe { sA with heap := hN, toks := tk } := by
    intro code hN tk qs ext hsz gPN more okN
    obtain ⟨bm, obm, e1, e2, e3, e4, e5, e6, e7, e8⟩ := TB.bm
    have ncP : cStatics ≠ P := fun e => by
      obtain ⟨_, ns, _⟩ := J.nolimit
      obtain ⟨o', es, ep, g', d', _⟩ := ns
      rw [e, gP] at g'
      cases g'
      cases d'
    have ltC : cStatics < sA.heap.objs.size := let ⟨_, ns, _⟩ := J.nolimit; ns.lt
    have szA : (sA.heap.push ob).objs.size = sA.heap.objs.size + 1 := Heap.size_push ..
    have stay : ∀ b u, b ≠ P → sA.heap.get? b = some u → hN.get? b = some u := fun b u nb e => ext b u nb (Heap.get?_push_of_some _ e)
    have old : ∀ b u, X.base.get? b = some u → hN.get? b = some u ∧ b < sA.heap.objs.size := fun b u e => by
      obtain ⟨e1, e2⟩ := J.bs b u e
      refine ⟨stay b u (fun z => ?_) e1, Heap.lt_size e1⟩
      rw [z, tP] at e2
      cases e2
    refine wpAny_builtinsFor (m := X.mg) (by rw [J.ok.glob]; exact ((J.mod.glob.keeps J.bk).push ob).extBut ext TB.gP) e1 e2 (stay _ _ e4 (J.bk _ _ e5)) e6 e7 e8 ?_
    refine ⟨sA.heap.objs.size, [sA.heap.objs.size], [sA.heap.objs.size], a.cps.size, SignAt a, St, (fun _ => true), (fun i y => ∃ cc, a.cps[i]? = some cc ∧ y = .bool (pb cc)), rfl, W, ?_, ?_, noL.extBut ext ncP, ?_, ?_, ?_⟩
    · refine (W X.A hr.hd).frame _ _ _ start fun b hb u e => ext b u (fun z => ?_) e
      have hb' : b = sA.heap.objs.size := List.mem_singleton.mp hb
      exact Nat.ne_of_lt ltP (z.symm.trans hb')
    · intro b hb
      have hb' : b = sA.heap.objs.size := List.mem_singleton.mp hb
      rw [hb']
      show sA.heap.objs.size < hN.objs.size
      omega
    · intro z
      have z' : cStatics = sA.heap.objs.size := List.mem_singleton.mp z
      exact Nat.ne_of_lt ltC z'
    · intro hf sub
      refine ⟨fun B F' i v z m hB hv hn hm hk => ?_, fun B F' i v z m hB hv hp hn hm hk => ?_⟩
      · simp only [List.forIn_nil]
        exact wpAny_pure ⟨rfl, keeps_refl _⟩
      · obtain ⟨cc, u, hcc, rfl⟩ := hv
        refine wpAny_mono (hel _ B F' cc u z m rfl rfl (fun b o e => ?_) hn hm) (fun y z' r => ⟨⟨cc, hcc, r.1⟩, r.2⟩) fun _ _ e => e
        obtain ⟨e1, e2⟩ := old b o e
        refine hk b (List.mem_range.mpr (Heap.lt_size e1)) (fun w => ?_) o (sub b o e1)
        have w' : b = sA.heap.objs.size := List.mem_singleton.mp w
        exact Nat.ne_of_lt e2 w'
    · intro g hG tg gs bare ltg szg keepg Wg atg
      simp only [GxR.passing_true, List.length_range] at Wg
      refine hQ a H1 g _ q ⟨_, _, _, _, _, Wg.in4_1, atg, ?_, fun s' mv => ?_⟩
      · intro j y sj Qj Ej hy hj
        obtain ⟨i, ij, cc, hcc, rfl⟩ := hy
        obtain ⟨lj, ej⟩ := List.getElem?_eq_some_iff.mp ij
        rw [List.getElem_range] at ej
        subst ej
        have sign : a.cps.toList[j]? = some cc := (Array.getElem?_toList).trans hcc
        have hj' : Qj (trF pb a.cps.toList j) sj := hj
        rw [trF_some sign] at hj'
        exact wpAny_truthy_bool hj'
      · obtain ⟨mo, em⟩ := more
        have nw : ∀ b u, sA.heap.get? b = some u → b ∉ hN.objs.size :: [sA.heap.objs.size] := fun b u e z => by
          have l := Heap.lt_size e
          rcases List.mem_cons.mp z with z | z
          · rw [z] at l
            have l2 : (hN.objs.size : Nat) < sA.heap.objs.size := l
            omega
          · exact Nat.ne_of_lt l (List.mem_singleton.mp z)
        have L := inv_tab (more := mo) (h' := s'.heap) (g' := s'.gens) (d' := s'.drawn) (t' := s'.toks) J tP (fun b u nb e => mv.heap b u (nw b u e) (keepg b u (stay b u nb e)))
          (by rw [← em]; exact mv.heap P _ (nw P _ gP) (keepg P _ gPN)) (AllBare.movedS (J.bare.push bare) mv)
        rw [sh_eta sA s' mv.os] at L
        refine ⟨upd H1 P (.tbl (ps ++ mo)), ⟨⟨ps ++ mo, upd_same, ?_⟩, fun b nb => upd_ne nb⟩, L⟩
        rw [← em]
        exact okN
  refine ⟨noL, ?_⟩
  cases am : codeAmong gp ps.toList with
  | none =>
    refine wpAny_genexprCodeX hco (head.code gP2 tok) (head.tab gP2) am fun c' hN tk ext hge hlt hc' _ tab' _ => ?_
    obtain ⟨o1, vs, f1, tf, fl, tg, inF, tx, tt, op, _, _, _, _, _, _, _, _, _, tr, _⟩ := hc'
    exact go _ hN tk _ ext (Nat.le_trans hge (Nat.le_of_lt hlt)) tab'.2 ⟨_, rfl⟩ tr
  | some cv =>
    refine wpAny_genexprCode_hit hco (head.code gP2 tok) am ?_
    exact go cv (sA.heap.push ob) sA.toks ps (Heap.ExtBut.refl _ _) (Nat.le_refl _) gP2 ⟨#[], by simp⟩ tok
theorem pe_allG {c P : Addr} {elt iter : Expr} {x : Str} {px p pos gp : Pos} {sc : Scope} {pb : Nat → Bool} {te : TE} {k : Nat}
    (hr : Room k X.A) (hg : Gl X "all") (hm : X.mg "all" = none) (hb : bootBuiltins "all" = some (.builtin "all")) (TB : TabB X.base X.mg c P) (hco : X.env.code = .ref c) (S : GenS X.env sc x) (hi : PE X iter te) (hel : EltG X sc x elt pb)
    (hs : ∀ v, genFold iter X.env v = pure v)
    (he : starEach [.GeneratorExp elt [⟨.Name x px, iter, [], 0⟩] sc gp] X.env = (false, eval (.GeneratorExp elt [⟨.Name x px, iter, [], 0⟩] sc gp) X.env) :: starEach [] X.env := by rfl) :
    PE X (.Call (.Name "all" p) [.GeneratorExp elt [⟨.Name x px, iter, [], 0⟩] sc gp] [] pos) (tAllS P pb te) := by
  refine ⟨fun pins s σ H Q I h => wpAny_Call_Name_kw (ld_blt I hg hm hb ?_)⟩
  refine PyProof.Rows.callWith_builtin1 ?_ he (by rfl)
  rw [he]
  show wpAny _ _ (spliced ((false, eval (.GeneratorExp elt [⟨.Name x px, iter, [], 0⟩] sc gp) X.env) :: backTo pos (starEach [] X.env))) _ _ s
  refine Calls.spliced_cons (gen_glob (R := fun a H1 => ∀ H2, Tabbed P H1 H2 → Q (.bl (a.cps.toList.all pb)) H2) hr TB hco S hi hel hs I h fun a H1 g s5 hR rdy => ?_)
  obtain ⟨fp, wr, G, F, St, W, st0, tru, inv⟩ := rdy
  refine Calls.spliced_nil (call_all_walkS (W.self 0 _ _ _ st0 ⟨g, fp, wr, G, _, F, St, _, rfl, W, st0, tru, fun s' mv => ?_⟩))
  obtain ⟨H2, hT, L⟩ := inv s' mv
  refine ⟨.bl _, H2, L, rfl, ?_⟩
  rw [all_signs a pb]
  exact hR H2 hT
/-- sign in NAME, NAME a text of the module -/
theorem elt_inG {sc : Scope} {x y : Str} {T : Str} {p1 p2 p3 : Pos} {tk : Tok} (hk : sc.kind = .function) (hl : sc.names.lookup x = some .local) (hy : sc.names.lookup y = some .globalImplicit) (hG : X.env.globals = mainGlobals) (M : X.base.Ns mainGlobals X.mg) (hm : X.mg y = some (.str T tk))
    (hd : (x == ("__debug__" : Str)) = false := by decide) (hd2 : (y == ("__debug__" : Str)) = false := by decide) :
    EltG X sc x (.Compare (.Name x p1) [.In] [.Name y p2] p3) (fun c => decide (c ∈ T.cps.toList)) := by
  intro ge B F' c t z m h1 h2 h3 h4 h5
  have k1 : ge.scope.kind = .function := by rw [h1]; exact hk
  refine wpAny_Compare1 (wpAny_Name (wpAny_loadName_local k1 (show ge.scope.names.lookup x = some .local by rw [h1]; exact hl) h4 h5 ?_) hd)
  refine Calls.Name_function_global k1 (show ge.scope.names.lookup y = some .globalImplicit by rw [h1]; exact hy) (Calls.loadGlobal_global (by rw [h2, hG]; exact M.keeps h3) hm ?_) hd2
  refine PyProof.Rows.in_str ?_
  refine ⟨congrArg Value.bool ?_, keeps_refl _⟩
  exact PySem.StrLaws.found_one T c
end
end Ey
set_option maxHeartbeats 2000000
namespace Ey
open PySem PySem.Spec PyProof.Rows L2 GxR
/-! ### all(e for x in it), e any expression that HandS can tell -/
/-- the generator's own frame -/
def gxOf (X : Cx) (A : Around) (s : Shared) (H : Hp) (ge : Env) (x : Str) (fp : List Addr) : Cx :=
  { X with A := A, N := [x], s_0 := s, H_0 := H, env := ge, outer := X.stack, stack := ge :: X.stack, ex := fp, fn := fun _ => false, calm := true, pn := [], xe := fun _ _ => False }
abbrev gcode (elt iter : Expr) (x : Str) (px : Pos) (sc : Scope) (gp : Pos) (it : Addr) (ge : Env) : Code := .compLoop (.GeneratorExp elt [⟨.Name x px, iter, [], 0⟩] sc gp) 0 (.ref it) .none ge
/-- the generator stands at turn i -/
structure GIn (Xg : Cx) (fp : List Addr) (tn : Nat → Heap → Prop) (ga : Addr) (go : Obj) (g : Nat) (W : Nat → Hp → Prop) (i : Nat) (s : Shared) : Prop where
  ex : ∃ (H : Hp) (y : Option V), Inv Xg [(ga, go)] [y] H s ∧ tn i s.heap ∧ (∀ b ∈ fp, FpOk Xg [(ga, go)] H b) ∧ W i H
  sz : g + 1 ≤ s.gens.size
/-- it is over -/
def GEd (Xg : Cx) (ga : Addr) (go : Obj) (Qe : Hp → Prop) (s : Shared) : Prop := ∃ (H : Hp) (y : Option V), Inv Xg [(ga, go)] [y] H s ∧ Qe H
def YG (GI : Nat → Shared → Prop) (GF : Shared → Prop) (n0 : Nat) : Protocol := fun m _ v s kap => ∃ b : Bool, v = .bool b ∧ (b = true → GI (n0 - m) s ∧ ∀ s'', GI (n0 - m) s'' → kap (.send .none) s'') ∧ (b = false → GF s)
def RG (GT : Shared → Prop) : GenEnd := fun _ _ r s => r = .ok .next ∧ GT s
section
variable {X : Cx} {A : Around} {sG : Shared} {HG : Hp} {ge : Env} {x : Str} {fp : List Addr} {tn : Nat → Heap → Prop} {ga it : Addr} {go : Obj} {g : Nat} {W : Nat → Hp → Prop} {Qf Qt : Hp → Prop} {J : It} {elt iter : Expr} {px gp : Pos} {sc : Scope} {te : TE} {n0 : Nat}
theorem seg_gloop (T : Turn X.prog X.w X.K (.Name x px) J fp it tn) (hx : ge.scope.names.lookup x = some .local) (hco : ge.scope.isCoroutine = false)
    (hel : PE (gxOf X (A.over (gcode elt iter x px sc gp it ge) []) sG HG ge x fp) elt te)
    (hW : ∀ i H, W i H → (i < n0 ∧ J.go i H ∧ ∀ v H', J.yld i H v H' → te [some v] H' fun y H3 => ∃ b, y = .bl b ∧ if b = true then W (i + 1) H3 else Qf H3) ∨ (J.stop i H ∧ Qt H)) :
    ∀ (k i : Nat) (s₀ s : Shared), n0 - i = k → GIn (gxOf X (A.over (gcode elt iter x px sc gp it ge) []) sG HG ge x fp) fp tn ga go g W i s →
      Seg (model X.prog X.w) A (RG (GEd (gxOf X (A.over (gcode elt iter x px sc gp it ge) []) sG HG ge x fp) ga go Qt))
        (YG (GIn (gxOf X (A.over (gcode elt iter x px sc gp it ge) []) sG HG ge x fp) fp tn ga go g W) (GEd (gxOf X (A.over (gcode elt iter x px sc gp it ge) []) sG HG ge x fp) ga go Qf) n0) (n0 - i) s₀
        (gcode elt iter x px sc gp it ge) ((model X.prog X.w).den (gcode elt iter x px sc gp it ge)) [] s := by
  generalize hXg : gxOf X (A.over (gcode elt iter x px sc gp it ge) []) sG HG ge x fp = Xg at *
  have eP : Xg.prog = X.prog := by rw [← hXg]; rfl
  have eW : Xg.w = X.w := by rw [← hXg]; rfl
  have eK : Xg.K = X.K := by rw [← hXg]; rfl
  have eC : Xg.calm = true := by rw [← hXg]; rfl
  have eA : Xg.A = A.over (gcode elt iter x px sc gp it ge) [] := by rw [← hXg]; rfl
  have eE : Xg.env = ge := by rw [← hXg]; rfl
  have eN : Xg.N = [x] := by rw [← hXg]; rfl
  have eX : Xg.xe = fun _ _ => False := by rw [← hXg]; rfl
  have ePn : Xg.pn = [] := by rw [← hXg]; rfl
  have stat : ∀ {pins : List (Addr × Obj)} {H H' : Hp}, (∀ b ∈ fp, FpOk Xg pins H b) → (∀ b ∈ fp, H' b = none) → ∀ b ∈ fp, FpOk Xg pins H' b := fun f2 hn b hb => ⟨hn b hb, (f2 b hb).2⟩
  intro k
  induction k with
  | zero =>
    intro i s₀ s hk gi
    obtain ⟨⟨H, y, I, st, fo, w⟩, sz⟩ := gi
    rcases hW i H w with ⟨lt, _⟩ | ⟨stop, qt⟩
    · omega
    show Seg _ A _ _ _ s₀ _ ((compTurn (.GeneratorExp elt [⟨.Name x px, iter, [], 0⟩] sc gp) 0 (.ref it) .none ge).onRaise (leaving ge)) [] s
    rw [compTurn_gen, Sem.onRaise_eq_wrap]
    refine seg_bind_wrap (wpAny_standAt ?_)
    refine seg_bind_wrap (eA ▸ wpAny_mono (T.done Xg eP eW eK eC i _ s [y] H (fun _ _ => False) I fo st stop) (fun r s1 ⟨hr, I1⟩ => ?_) fun _ _ e => e.elim)
    subst hr
    exact seg_end (.ok .next) ⟨rfl, H, y, I1, qt⟩
  | succ k ih =>
    intro i s₀ s hk gi
    obtain ⟨⟨H, y, I, st, fo, w⟩, sz⟩ := gi
    show Seg _ A _ _ _ s₀ _ ((compTurn (.GeneratorExp elt [⟨.Name x px, iter, [], 0⟩] sc gp) 0 (.ref it) .none ge).onRaise (leaving ge)) [] s
    rw [compTurn_gen, Sem.onRaise_eq_wrap]
    refine seg_bind_wrap (wpAny_standAt ?_)
    rcases hW i H w with ⟨lt, gg, step⟩ | ⟨stop, qt⟩
    · refine seg_bind_wrap (eA ▸ GenW.wpAny_gsz sz (wpAny_mono (T.item Xg eP eW eK eC i _ s [y] H (fun _ _ => False) I fo st gg) (fun r s1 ⟨u, hr, rest⟩ sz1 => ?_) fun _ _ e _ => e.elim))
      subst hr
      refine seg_bind_wrap (eA ▸ GenW.wpAny_gsz sz1 (wpAny_mono rest (fun _ s2 ⟨v, H2, I2, rv, yl, st2, fr2⟩ sz2 => ?_) fun _ _ e _ => e.elim))
      have fo2 := stat fo fr2
      have I2' := I2.pinned fo2 (T.obj _ _ st2)
      have pgn : PG Xg (.Name x px) (gName 0) := pg_name (by rw [eN]; simp) (by rw [eN]; rfl) (.inl (by rw [eE]; exact hx)) (.inr (by rw [eE]; exact hx))
      have run1 := pgn.run _ s2 [y] H2 v u (fun σ' H' => σ' = [some v] ∧ H' = H2) I2' rv ⟨rfl, rfl⟩
      rw [eE, eX] at run1
      refine seg_bind_wrap (eA ▸ GenW.wpAny_gsz sz2 (wpAny_mono (eP ▸ eW ▸ run1) (fun _ s3 ⟨σ3, H3, I3, e3, e4⟩ sz3 => ?_) fun _ _ e _ => e.elim))
      subst e3 e4
      simp only [List.forIn_nil]
      refine seg_bind_wrap (wpAny_pure ?_)
      rw [if_pos rfl]
      have hy : ∀ v, yieldOut ge v = yieldValue v := fun v => by simp only [yieldOut, hco, Bool.false_eq_true, if_false]
      simp only [hy]
      rw [Sem.bind_eq_wrap', Sem.bind_eq_wrap', Sem.wrap_wrap, Sem.wrap_wrap]
      have run2 := hel.run _ s3 [some v] H3 _ I3 (step v H3 yl)
      rw [eE, eX] at run2
      refine seg_wrap (eA ▸ GenW.wpAny_gsz sz3 (wpAny_mono (eP ▸ eW ▸ run2) (fun z s4 ⟨zv, H4, I4, rz, b, ez, q⟩ sz4 => ?_) fun _ _ e _ => e.elim))
      subst ez
      have ez' : z = .bool b := rz
      subst ez'
      have hn : n0 - i = (n0 - (i + 1)) + 1 := by omega
      have hm : n0 - (n0 - (i + 1)) = i + 1 := by omega
      rw [hn]
      have st4 : tn (i + 1) s4.heap := T.keep _ _ _ st2 fun b hb o e => (I4.pin (b, o) (List.mem_append_right _ (List.mem_append_right _ (mem_pinsAt hb e)))).1
      have fr4 : ∀ b ∈ fp, H4 b = none := fun b hb => by
        obtain ⟨o, e, d⟩ := T.obj _ _ st2 b hb
        exact (I4.pin (b, o) (List.mem_append_right _ (List.mem_append_right _ (mem_pinsAt hb e)))).2.1
      refine seg_at (seg_yield rfl rfl rfl ⟨b, rfl, fun hb => ?_, fun hb => ?_⟩)
      · rw [hb, if_pos rfl] at q
        rw [hm]
        exact ⟨⟨⟨H4, _, I4.unpinned, st4, stat fo fr4, q⟩, sz4⟩, fun s'' gi => seg_again rfl (ih (i + 1) s'' s'' (by omega) gi)⟩
      · rw [hb, if_neg Bool.false_ne_true] at q
        exact ⟨H4, _, I4.unpinned, q⟩
    · refine seg_bind_wrap (eA ▸ wpAny_mono (T.done Xg eP eW eK eC i _ s [y] H (fun _ _ => False) I fo st stop) (fun r s1 ⟨hr, I1⟩ => ?_) fun _ _ e => e.elim)
      subst hr
      exact seg_end (.ok .next) ⟨rfl, H, y, I1, qt⟩
/-- the generator as its consumer has it -/
def CSt (M : Model) (A : Around) (R : GenEnd) (Y : Protocol) (GI : Nat → Shared → Prop) (g n0 i : Nat) (s : Shared) : Prop :=
  GI i s ∧ ∃ gs, s.gens[g]? = some gs ∧ ∀ s'', GI i s'' → gs.Goes M A R Y (n0 - i) (.send .none) s''
theorem Inv.gens {Xg : Cx} {pins : List (Addr × Obj)} {σ : L2.St} {H : Hp} {s : Shared} {gs : Array GenState} (I : Inv Xg pins σ H s) (h : AllBare gs) : Inv Xg pins σ H { s with gens := gs } :=
  ⟨I.ok, I.os, h, I.base, I.loc, I.cell, I.free, I.freeC, I.pin, I.hok, I.len⟩
theorem GIn.set {Xg : Cx} {i : Nat} {s : Shared} {gs : GenState} (h : GIn Xg fp tn ga go g W i s) (hb : gs.bare = true) : GIn Xg fp tn ga go g W i (s.setGen g gs) := by
  obtain ⟨⟨H, y, I, st, fo, w⟩, sz⟩ := h
  refine ⟨⟨H, y, Inv.gens I (L2.allBare_setGen I.bare hb), st, fo, w⟩, ?_⟩
  rw [GenW.setGen_size]
  exact sz
theorem GEd.set {Xg : Cx} {s : Shared} {gs : GenState} {Qe : Hp → Prop} (h : GEd Xg ga go Qe s) (hb : gs.bare = true) : GEd Xg ga go Qe (s.setGen g gs) := by
  obtain ⟨H, y, I, q⟩ := h
  exact ⟨H, y, Inv.gens I (L2.allBare_setGen I.bare hb), q⟩
theorem gen_next {Xg : Cx} {E : Value → Shared → Prop} {s : Shared} {i : Nat} (hc : go.cls = .type "generator") (hd : ∃ nm qn, go.data = .fields #[.int g 0, nm, qn]) (hs : go.slots = #[]) (hh : A.handled = none) (hroom : A.depth < recursionLimit)
    (h : CSt (model X.prog X.w) A.in1 (RG (GEd Xg ga go Qt)) (YG (GIn Xg fp tn ga go g W) (GEd Xg ga go Qf) n0) (GIn Xg fp tn ga go g W) g n0 i s) :
    wpAny (model X.prog X.w) A (pyNext (.ref ga)) (fun r s' => (r = some (.bool true) ∧ i < n0 ∧ CSt (model X.prog X.w) A.in1 (RG (GEd Xg ga go Qt)) (YG (GIn Xg fp tn ga go g W) (GEd Xg ga go Qf) n0) (GIn Xg fp tn ga go g W) g n0 (i + 1) s') ∨
      (r = some (.bool false) ∧ GEd Xg ga go Qf s') ∨ (r = none ∧ GEd Xg ga go Qt s')) E s := by
  obtain ⟨gi, gs, hgs, hgo⟩ := h
  obtain ⟨nm, qn, hd⟩ := hd
  have hg : s.heap.IsGen ga g := by
    obtain ⟨⟨H, y, I, _⟩, _⟩ := gi
    exact ⟨go, nm, qn, (I.pin (ga, go) (List.mem_append_right _ (List.mem_singleton.mpr rfl))).1, hc, hd, hs⟩
  have hl : s.heap.NoLimit := by
    obtain ⟨⟨H, y, I, _⟩, _⟩ := gi
    exact I.nolimit
  refine wpAny_pyNext_genexpQ (P := fun _ _ s₁ => GEd Xg ga go Qt s₁) hh hl hroom hg hgs (hgo _ (gi.set rfl)) (fun v s₁ gs' hb hv => ?_) (fun s₁ hp h' hk => ?_)
  · obtain ⟨b, rfl, ht, hf⟩ := hv
    cases b with
    | false => exact .inr (.inl ⟨rfl, (hf rfl).set hb⟩)
    | true =>
      obtain ⟨g1, g2⟩ := ht rfl
      cases hn : n0 - i with
      | zero =>
        rw [hn] at g1 g2
        exact (g2 s₁ g1).elim
      | succ m =>
        rw [hn] at g1 g2
        have e : n0 - (m + 1 - 1) = i + 1 := by omega
        rw [e] at g1 g2
        refine .inl ⟨rfl, by omega, g1.set hb, gs', L2.setGen_at (Nat.lt_of_succ_le g1.sz), fun s'' gi'' => ?_⟩
        have e2 : n0 - (i + 1) = m := by omega
        rw [e2]
        exact g2 s'' gi''
  · obtain ⟨H, y, I, q⟩ := hp
    refine .inr (.inr ⟨rfl, H, y, ?_, q⟩)
    have I2 := Inv.gens (gs := (s₁.setGen g .finished).gens) I (L2.allBare_setGen I.bare rfl)
    exact I2.kept (t' := s₁.toks) hk
theorem all_loopX {Xg : Cx} {R : Result → Shared → Prop} (hc : go.cls = .type "generator") (hd : ∃ nm qn, go.data = .fields #[.int g 0, nm, qn]) (hs : go.slots = #[]) (hh : A.handled = none) (hroom : A.in1.depth < recursionLimit)
    (hT : ∀ s', GEd Xg ga go Qt s' → R (.ok (.ret (.bool true))) s') (hF : ∀ s', GEd Xg ga go Qf s' → R (.ok (.ret (.bool false))) s') : ∀ (k i : Nat) (s : Shared), n0 - i = k →
    CSt (model X.prog X.w) A.in1.in1 (RG (GEd Xg ga go Qt)) (YG (GIn Xg fp tn ga go g W) (GEd Xg ga go Qf) n0) (GIn Xg fp tn ga go g W) g n0 i s → codeAny (model X.prog X.w) A (.builtin "all.loop" ⟨[.ref ga], []⟩) R s := by
  intro k
  induction k with
  | zero =>
    intro i s hk cs
    refine codeAny_builtin F.entry_all_loop ?_
    rw [Around.under_plainId F.plain_all_loop _]
    show wpAny _ A.in1 (pyNext (.ref ga) >>= _) _ _ s
    refine wpAny_bind (wpAny_mono (gen_next hc hd hs hh hroom cs) (fun r s' h => ?_) fun _ _ e => e)
    rcases h with ⟨rfl, lt, _⟩ | ⟨rfl, q⟩ | ⟨rfl, q⟩
    · omega
    · refine wpAny_bind (wpAny_holding (wpAny_truthy_bool ?_))
      refine wpAny_bind (wpAny_letGo ?_)
      simp only [Bool.false_eq_true, if_false]
      exact wpAny_bind (wpAny_rule (wpAny_pure (hF s' q)))
    · exact wpAny_bind (wpAny_rule (wpAny_pure (hT s' q)))
  | succ k ih =>
    intro i s hk cs
    refine codeAny_builtin F.entry_all_loop ?_
    rw [Around.under_plainId F.plain_all_loop _]
    show wpAny _ A.in1 (pyNext (.ref ga) >>= _) _ _ s
    refine wpAny_bind (wpAny_mono (gen_next hc hd hs hh hroom cs) (fun r s' h => ?_) fun _ _ e => e)
    rcases h with ⟨rfl, lt, cs'⟩ | ⟨rfl, q⟩ | ⟨rfl, q⟩
    · refine wpAny_bind (wpAny_holding (wpAny_truthy_bool ?_))
      refine wpAny_bind (wpAny_letGo ?_)
      simp only [if_true]
      exact wpAny_pure ⟨plainId_quiet F.plain_all_loop _, ih (i + 1) s' (by omega) cs'⟩
    · refine wpAny_bind (wpAny_holding (wpAny_truthy_bool ?_))
      refine wpAny_bind (wpAny_letGo ?_)
      simp only [Bool.false_eq_true, if_false]
      exact wpAny_bind (wpAny_rule (wpAny_pure (hF s' q)))
    · exact wpAny_bind (wpAny_rule (wpAny_pure (hT s' q)))
end
end Ey
set_option maxHeartbeats 4000000
namespace Ey
open PySem PySem.Spec PyProof.Rows L2 GxR
section
variable {X : Cx} {pins : List (Addr × Obj)} {σ : L2.St} {H : Hp} {s : Shared}
/-- the generator's frame begins -/
theorem inv_gx {A : Around} {sc : Scope} {x : Str} {fp : List Addr} {code : Value} {h5 : Heap} {g5 : Array GenState} {t5 : Nat} {m : Str → Option Value} (I : Inv X pins σ H s)
    (hk : sc.kind = .function) (hc : ∀ y ∈ sc.names, y.2 ≠ .cell) (hf : ∀ y ∈ sc.names, y.2 ≠ .free) (hns : h5.Ns s.heap.objs.size m) (keep : ∀ b o, s.heap.get? b = some o → h5.get? b = some o) (bare : AllBare g5) (hh : A.handled = none)
    (fr : A.frames = some (genEnv sc [] s.heap.objs.size code builtinsNs X.env :: X.stack)) (ho : ∀ b ∈ fp, FpOk X pins H b ∧ b < s.heap.objs.size) :
    Inv (gxOf X A s H (genEnv sc [] s.heap.objs.size code builtinsNs X.env) x fp) [] [none] H { s with heap := h5, gens := g5, toks := t5 } := by
  have nofs : ∀ b ∈ fp, b ∉ frs X.stack := fun b hb z => by
    obtain ⟨⟨_, h1, h2, _⟩, _⟩ := ho b hb
    rcases List.mem_cons.mp (I.stkSub b z) with q | q
    · exact h1 q
    · exact h2 q
  refine ⟨⟨I.ok.mod, hk, I.ok.glob, rfl, Nat.le_refl _, fun y z c e _ => ?_, fun y hy => ?_, fun y c e _ => ?_, fun _ => hh, fr, .inr ⟨rfl, rfl⟩, fun b hb => ⟨Nat.ne_of_lt (ho b hb).2, fun y c e => ?_⟩, fun b o e => I.bs b o e, Nat.le_trans I.ok.bsz I.sz, fun b o e hb => ?_, fun b hb => nofs b hb, I.stack, I.stkFree⟩,
    rfl, bare, Un.kept keep, ⟨m, hns, fun i y v h1 h2 _ => ?_⟩, fun y c e => ?_, I.hok.fresh (Nat.le_refl _), fun y c e => ?_, fun p hp => ?_, I.hok.kept keep, rfl⟩
  · exact absurd e (by intro z; cases z)
  · have hy' : sc.names.lookup y = some .cell ∨ sc.names.lookup y = some .free := hy
    rcases hy' with q | q
    · exact absurd rfl (hc _ (PySem.mem_of_lookup q))
    · exact absurd rfl (hf _ (PySem.mem_of_lookup q))
  · exact absurd e (by intro z; cases z)
  · exact absurd e (by intro z; cases z)
  · obtain ⟨⟨_, _, _, h3, _⟩, _⟩ := ho b hb
    rcases h3 with q | q
    · exact I.ok.noex b o e q
    · exact Nat.lt_irrefl _ (Nat.lt_of_lt_of_le (Heap.lt_size e) (Nat.le_trans I.ok.bsz q))
  · cases i with
    | zero => cases h2
    | succ i => cases h2
  · exact absurd e (by intro z; cases z)
  · exact absurd e (by intro z; cases z)
  · exact absurd hp (by intro z; cases z)
/-- all(e for x in it): the table of the running def's code may have grown; then, item by item -/
def tAllX (P : Addr) (wi : TI) (te : TE) : TE := fun σ H Q => wi σ H fun J H1 => TabG H1 P ∧ ∀ H2, Tabbed P H1 H2 → ∃ (n0 : Nat) (W : Nat → Hp → Prop), W 0 H2 ∧
  ∀ i H', W i H' → (i < n0 ∧ J.go i H' ∧ ∀ v H'', J.yld i H' v H'' → te [some v] H'' fun y H3 => ∃ b, y = .bl b ∧ if b = true then W (i + 1) H3 else Q (.bl false) H3) ∨ (J.stop i H' ∧ Q (.bl true) H')
theorem pe_allX {c P : Addr} {elt iter : Expr} {x : Str} {px p pos gp : Pos} {sc : Scope} {wi : TI} {te : TE} {k : Nat}
    (hr : Room (k + 2) X.A) (hg : Gl X "all") (hm : X.mg "all" = none) (hb : bootBuiltins "all" = some (.builtin "all")) (TB : TabB X.base X.mg c P) (hco : X.env.code = .ref c) (S : GenS X.env sc x) (nf : ∀ y ∈ sc.names, y.2 ≠ .free)
    (hi : PI X (.Name x px) iter wi)
    (hel : ∀ (A : Around) (s : Shared) (H : Hp) (C : Addr) (code : Value) (fp : List Addr), Room k A → PE (gxOf X A s H (genEnv sc [] C code builtinsNs X.env) x fp) elt te)
    (hs : ∀ v, genFold iter X.env v = pure v) (hcl : cloFrom X.env.cells sc.names [] = [] := by rfl)
    (he : starEach [.GeneratorExp elt [⟨.Name x px, iter, [], 0⟩] sc gp] X.env = (false, eval (.GeneratorExp elt [⟨.Name x px, iter, [], 0⟩] sc gp) X.env) :: starEach [] X.env := by rfl) :
    PE X (.Call (.Name "all" p) [.GeneratorExp elt [⟨.Name x px, iter, [], 0⟩] sc gp] [] pos) (tAllX P wi te) := by
  refine ⟨fun pins s σ H Q I h => wpAny_Call_Name_kw (ld_blt I hg hm hb ?_)⟩
  refine PyProof.Rows.callWith_builtin1 ?_ he (by rfl)
  rw [he]
  show wpAny _ _ (spliced ((false, eval (.GeneratorExp elt [⟨.Name x px, iter, [], 0⟩] sc gp) X.env) :: backTo pos (starEach [] X.env))) _ _ s
  refine Calls.spliced_cons (wpAny_GeneratorExp_make S.co (cl := []) (hcl ▸ closure_ok S.free) S.cell S.dot S.kind (Nat.lt_of_le_of_lt (by omega) hr.dp) ?_ hs)
  refine thn (hi.run pins s σ H _ I h) fun v s1 h1 => thn h1 fun itv s2 h2 => ?_
  obtain ⟨it, fp, tn, J, H1, e, J1, T, st, fo, ⟨ps, tP, tok⟩, q⟩ := h2
  subst e
  have gP : s2.heap.get? P = some { cls := .none, data := .fields ps } := J1.hok P _ tP
  have head : PySem.W.CodeHd s2.heap c P := TB.code.keeps fun b u e => J1.bk b u e
  have ncP : cStatics ≠ P := fun e => by
    obtain ⟨_, ns, _⟩ := J1.nolimit
    obtain ⟨o', es, ep, g', d', _⟩ := ns
    rw [e, gP] at g'
    cases g'
    cases d'
  have fpP : ∀ b ∈ fp, b ≠ P := fun b hb z => by
    have := (fo b hb).1
    rw [z, tP] at this
    cases this
  refine ⟨J1.nolimit, ?_⟩
  have go : ∀ (code : Value) (hN : Heap) (tk : Nat) (qs : Array Value), Heap.ExtBut P s2.heap hN → hN.get? P = some { cls := .none, data := .fields qs } → (∃ more, qs = ps ++ more) → TriplesOk qs.toList →
      wpAny (model X.prog X.w) X.A (builtinsFor X.env.globals X.env.builtins) (fun bi s₄ =>
        ∀ h', h'.Ns s₄.heap.objs.size (fun y => if y = ".0" then some (.ref it) else none) → Heap.SameBut s₄.heap.objs.size (s₄.heap.push { cls := .type "frame", data := .dict #[] }) h' →
          wpAny (model X.prog X.w) X.A (spliced (backTo pos (starEach [] X.env))) (fun us s' => wpAny (model X.prog X.w) X.A (call (.builtin "all") (.ref h'.objs.size :: us)) (EP X pins σ Q) X.xe s') X.xe { s₄ with
            gens := s₄.gens.push (.fresh (.compStart (.GeneratorExp elt [⟨.Name x px, iter, [], 0⟩] sc gp) 0 (.ref it) .none (genEnv sc [] s₄.heap.objs.size code bi X.env))),
            toks := s₄.toks + 1 + 1 + 1,
            heap := h'.push { cls := .type "generator", data := .fields #[.int s₄.gens.size 0, .str "<genexpr>" (s₄.toks + 1), .str (X.env.qual ++ "<genexpr>") (s₄.toks + 1 + 1)] } }) X.xe { s2 with heap := hN, toks := tk } := by
    intro code hN tk qs ext gPN more okN
    obtain ⟨bm, obm, e1, e2, e3, e4, e5, e6, e7, e8⟩ := TB.bm
    have stay : ∀ b u, b ≠ P → s2.heap.get? b = some u → hN.get? b = some u := fun b u nb e => ext b u nb e
    obtain ⟨mo, em⟩ := more
    subst em
    have J2 : Inv X pins σ (upd H1 P (.tbl (ps ++ mo))) { s2 with heap := hN, toks := tk } := inv_tab (more := mo) (h' := hN) (g' := s2.gens) (d' := s2.drawn) (t' := tk) J1 tP stay gPN J1.bare
    refine wpAny_builtinsFor (m := X.mg) (by rw [J1.ok.glob]; exact (J1.mod.glob.keeps J1.bk).extBut ext TB.gP) e1 e2 (stay _ _ e4 (J1.bk _ _ e5)) e6 e7 e8 ?_
    intro h' hn' hs'
    refine Calls.spliced_nil ?_
    obtain ⟨n0, W, w0, hW⟩ := q (upd H1 P (.tbl (ps ++ mo))) ⟨⟨ps ++ mo, upd_same, okN⟩, fun b nb => upd_ne nb⟩
    have sz' : h'.objs.size = hN.objs.size + 1 := by
      rw [hs'.1, Heap.size_push]
    have keep' : ∀ b o, hN.get? b = some o → h'.get? b = some o := fun b o e => hs'.extBut b o (Nat.ne_of_lt (Heap.lt_size e)) (Heap.get?_push_of_some _ e)
    generalize hgo : ({ cls := .type "generator", data := .fields #[.int s2.gens.size 0, .str "<genexpr>" (tk + 1), .str (X.env.qual ++ "<genexpr>") (tk + 1 + 1)] } : Obj) = gob
    have gc : gob.cls = .type "generator" := by rw [← hgo]
    have gd : ∃ nm qn, gob.data = .fields #[.int s2.gens.size 0, nm, qn] := ⟨_, _, by rw [← hgo]⟩
    have gs : gob.slots = #[] := by rw [← hgo]
    show wpAny (model X.prog X.w) X.A (call (.builtin "all") [.ref h'.objs.size]) (EP X pins σ Q) X.xe { s2 with
            gens := s2.gens.push (.fresh (.compStart (.GeneratorExp elt [⟨.Name x px, iter, [], 0⟩] sc gp) 0 (.ref it) .none (genEnv sc [] hN.objs.size code builtinsNs X.env))),
            toks := tk + 1 + 1 + 1, heap := h'.push gob }
    have keep5 : ∀ b o, hN.get? b = some o → (h'.push gob).get? b = some o := fun b o e => Heap.get?_push_of_some _ (keep' b o e)
    have atG : (h'.push gob).get? h'.objs.size = some gob := Heap.get?_push_size _ (by
      obtain ⟨nm, qn, e⟩ := gd
      exact Obj.isFreed_of_fields e)
    -- the frame
    generalize hge : genEnv sc [] hN.objs.size code builtinsNs X.env = ge
    have fpl : ∀ b ∈ fp, b < hN.objs.size := fun b hb => by
      obtain ⟨o, e, _⟩ := T.obj _ _ st b hb
      exact Heap.lt_size (stay b o (fpP b hb) e)
    have foN : ∀ b ∈ fp, FpOk X pins (upd H1 P (.tbl (ps ++ mo))) b := fun b hb => ⟨by rw [upd_ne (fpP b hb)]; exact (fo b hb).1, (fo b hb).2⟩
    have stN : tn 0 (h'.push gob) := T.keep _ _ _ st fun b hb o e => keep5 b o (stay b o (fpP b hb) e)
    have hAh : (X.A.in1.in1.over (gcode elt iter x px sc gp it ge) []).handled = none := hr.hd
    have hAf : (X.A.in1.in1.over (gcode elt iter x px sc gp it ge) []).frames = some (ge :: X.stack) := by
      show pushEnvs (gcode elt iter x px sc gp it ge).envs (pushEnvs [] X.A.frames) = _
      rw [J1.ok.frames]
      rfl
    have IG0 := inv_gx (A := X.A.in1.in1.over (gcode elt iter x px sc gp it ge) []) (sc := sc) (x := x) (fp := fp) (code := code) (h5 := h'.push gob)
      (g5 := s2.gens.push (.fresh (.compStart (.GeneratorExp elt [⟨.Name x px, iter, [], 0⟩] sc gp) 0 (.ref it) .none ge))) (t5 := tk + 1 + 1 + 1) J2 S.kind S.cell nf (hn'.push gob) keep5 (AllBare.push J1.bare rfl) hAh (by rw [hAf, ← hge]) (fun b hb => ⟨foN b hb, fpl b hb⟩)
    rw [hge] at IG0
    generalize hXg : gxOf X (X.A.in1.in1.over (gcode elt iter x px sc gp it ge) []) { s2 with heap := hN, toks := tk } (upd H1 P (.tbl (ps ++ mo))) ge x fp = Xg at IG0
    have gne : ∀ b ∈ fp, h'.objs.size ≠ b := fun b hb => Nat.ne_of_gt (Nat.lt_trans (fpl b hb) (by omega))
    have fpXg : ∀ b ∈ fp, FpOk Xg [(h'.objs.size, gob)] (upd H1 P (.tbl (ps ++ mo))) b := fun b hb => by
      rw [← hXg]
      refine ⟨(foN b hb).1, ?_, fun z => ?_, .inl hb, fun y cc e => ?_, fun p hp => ?_⟩
      · show b ≠ ge.locals
        rw [← hge]
        exact Nat.ne_of_lt (fpl b hb)
      · obtain ⟨_, q1, q2, _⟩ := foN b hb
        rcases List.mem_cons.mp (J2.stkSub b z) with q | q
        · exact q1 q
        · exact q2 q
      · have e' : ge.cells.lookup y = some cc := e
        rw [← hge] at e'
        cases e'
      · have hp' : p ∈ [(h'.objs.size, gob)] := hp
        rw [List.mem_singleton.mp hp']
        exact gne b hb
    have IG : Inv Xg [(h'.objs.size, gob)] [none] (upd H1 P (.tbl (ps ++ mo))) { s2 with heap := h'.push gob, gens := s2.gens.push (.fresh (.compStart (.GeneratorExp elt [⟨.Name x px, iter, [], 0⟩] sc gp) 0 (.ref it) .none ge)), toks := tk + 1 + 1 + 1 } := by
      refine IG0.pins_of fun p hp => ?_
      rw [List.mem_singleton.mp hp]
      have big : hN.objs.size < h'.objs.size := by omega
      refine ⟨atG, J2.hok.fresh (Nat.le_of_lt big), ?_, ?_, fun v e => ?_⟩
      · rw [← hXg]
        show h'.objs.size ≠ ge.locals
        rw [← hge]
        exact Nat.ne_of_gt big
      · rw [← hXg]
        intro z
        rcases List.mem_cons.mp (J2.stkSub _ z) with q | q
        · have l := J2.lt
          rw [← q] at l
          exact absurd (Nat.lt_trans big l) (Nat.lt_irrefl _)
        · exact J2.nofs (Nat.le_of_lt big) q
      · obtain ⟨nm, qn, e2⟩ := gd
        have e' : gob.data = .cell v := e
        rw [e2] at e'
        cases e'
    have back : ∀ (b : Bool) (s' : Shared), GEd Xg h'.objs.size gob (Q (.bl b)) s' → EP X pins σ Q (.bool b) s' := fun b s' ⟨H', y, K, q⟩ => by
      rw [← hXg] at K
      exact ⟨.bl b, H', J2.call' (ch := fp) K.os K.base K.hok K.bare (fun c hc => ⟨(foN c hc).2.2.2.1, (foN c hc).2.1, (foN c hc).2.2.2.2.1, (foN c hc).2.2.2.2.2⟩), rfl, q⟩
    have loopS := seg_gloop (X := X) (A := X.A.in1.in1) (sG := { s2 with heap := hN, toks := tk }) (HG := upd H1 P (.tbl (ps ++ mo))) (ge := ge) (fp := fp) (tn := tn) (ga := h'.objs.size) (go := gob) (g := s2.gens.size) (W := W) (Qf := Q (.bl false)) (Qt := Q (.bl true))
      (gp := gp) (sc := sc) (elt := elt) (iter := iter) (n0 := n0) (te := te) T (by rw [← hge]; exact S.loc) (by rw [← hge]; exact S.co) (by
        rw [← hge]
        refine hel _ _ _ _ _ _ ⟨hr.hd, ?_, ?_⟩
        · have := hr.dp
          show X.A.depth + 0 + 1 + 3 * k + 5 < _
          omega
        · have := hr.un
          show X.A.units + 1 + 1 + 0 + 3 + 16 * k + 200 < _
          omega) hW
    rw [hXg] at loopS
    have GI0 : GIn Xg fp tn h'.objs.size gob s2.gens.size W 0 { s2 with heap := h'.push gob, gens := s2.gens.push (.fresh (.compStart (.GeneratorExp elt [⟨.Name x px, iter, [], 0⟩] sc gp) 0 (.ref it) .none ge)), toks := tk + 1 + 1 + 1 } :=
      ⟨⟨_, _, IG, stN, fpXg, w0⟩, by show s2.gens.size + 1 ≤ (s2.gens.push _).size; rw [Array.size_push]; exact Nat.le_refl _⟩
    refine call_function_tree F.kind_all F.plain_all F.entry_all (F.args_all1 _) ?_
    unfold Builtin.«all»
    refine wpAny_bind (m := oneArg "all" _) (wpAny_pure ?_)
    refine wpAny_bind (wpAny_pyIter_gen ⟨gob, _, _, atG, gc, gd.choose_spec.choose_spec, gs⟩ ?_)
    refine wpAny_pure ⟨plainId_quiet F.plain_all_loop _, all_loopX (X := X) (A := X.A) (R := fun r s' => match r with | .ok (.ret v) => EP X pins σ Q v s' | .ok _ => False | .error e => X.xe e s') (Xg := Xg) (Qf := Q (.bl false)) (Qt := Q (.bl true)) (W := W) (fp := fp) (tn := tn) (n0 := n0) gc gd gs hr.hd (Nat.lt_of_le_of_lt (by show X.A.depth ≤ X.A.depth + 3 * (k + 2) + 5; omega) hr.dp) (fun s' q => back true s' q) (fun s' q => back false s' q) n0 0 _ (Nat.sub_zero _) ⟨GI0, _, Array.getElem?_push_size .., fun s'' gi => ⟨rfl, ?_⟩⟩⟩
    have loop := loopS n0 0 s'' s'' (Nat.sub_zero _) gi
    obtain ⟨_, _, _, sti, _⟩ := gi.ex
    show Seg _ X.A.in1.in1 _ _ _ s'' _ ((compStart (.GeneratorExp elt [⟨.Name x px, iter, [], 0⟩] sc gp) 0 (.ref it) .none ge).onRaise (leaving ge)) [] s''
    unfold compStart
    rw [Sem.onRaise_eq_wrap]
    show Seg _ X.A.in1.in1 _ _ _ s'' _ ((ask >>= _).wrap _ _ _ _) [] s''
    refine seg_bind_wrap (wpAny_askSetting ?_)
    split
    · exact seg_again rfl loop
    · first
        | exact seg_bind_wrap (wpAny_rule (seg_bind_wrap (wpAny_standAt (seg_bind_wrap (T.self _ 0 _ _ _ sti (seg_again rfl loop))))))
        | (refine seg_bind_wrap (wpAny_rule ?_); show Seg _ X.A.in1.in1 _ _ _ s'' _ ((standAt iter.pos >>= _).wrap _ _ _ _) [] s''; exact seg_bind_wrap (wpAny_standAt (seg_bind_wrap (T.self _ 0 _ _ _ sti (seg_again rfl loop)))))
  cases am : codeAmong gp ps.toList with
  | none =>
    refine wpAny_genexprCodeX hco (head.code gP tok) (head.tab gP) am fun c' hN tk ext hge hlt hc' _ tab' _ => ?_
    obtain ⟨o1, vs, f1, tf, fl, tg, inF, tx, tt, op, _, _, _, _, _, _, _, _, _, tr, _⟩ := hc'
    exact go _ hN tk _ ext tab'.2 ⟨_, rfl⟩ tr
  | some cv =>
    refine wpAny_genexprCode_hit hco (head.code gP tok) am ?_
    exact go cv s2.heap s2.toks ps (Heap.ExtBut.refl _ _) gP ⟨#[], by simp⟩ tok
end
end Ey
set_option maxHeartbeats 4000000
namespace Ey
open PySem PySem.Spec PyProof.Rows L2 GxR PySem.SeqAt
open AutoSeq1 (wpAny_loadPart')
open MeetsSeq MeetsSeq2 MeetsSeq3
/-! ### a dict beside a text -/
theorem dict_eq_declines_str (l : Addr) (es : Array DictEntry) (n : Nat) (dd : Option Addr) (sl : Array (Option Value)) (b : Str) (u : Tok) :
    Meets (Builtin.«dict.__eq__» ⟨[.ref l, .str b u], []⟩) (fun _ R s => s.heap.get? l = some { cls := .type "dict", dict := dd, data := .dict es n, slots := sl } ∧ R (.ok (.ret .notImplemented)) s) :=
  .of_wp fun prog w A R s h => by obtain ⟨hp, g, d, tk, os⟩ := s; obtain ⟨hl, h⟩ := h; have f1 := F.sub_str_dict; wp_walk using wpAny_loadPart' hl, wpAny_load hl; exact ⟨_, rfl, h⟩
theorem dict_ne_declines_str (l : Addr) (es : Array DictEntry) (n : Nat) (dd : Option Addr) (sl : Array (Option Value)) (b : Str) (u : Tok) :
    Meets (Builtin.«dict.__ne__» ⟨[.ref l, .str b u], []⟩) (fun _ R s => s.heap.get? l = some { cls := .type "dict", dict := dd, data := .dict es n, slots := sl } ∧ R (.ok (.ret .notImplemented)) s) :=
  .of_wp fun prog w A R s h => by obtain ⟨hp, g, d, tk, os⟩ := s; obtain ⟨hl, h⟩ := h; have f1 := F.sub_str_dict; wp_walk using wpAny_loadPart' hl, wpAny_load hl; exact ⟨_, rfl, h⟩
theorem str_eq_declines_dict (b : Str) (u : Tok) (l : Addr) (es : Array DictEntry) (n : Nat) (dd : Option Addr) (sl : Array (Option Value)) :
    Meets (Builtin.«str.__eq__» ⟨[.str b u, .ref l], []⟩) (fun _ R s => s.heap.get? l = some { cls := .type "dict", dict := dd, data := .dict es n, slots := sl } ∧ R (.ok (.ret .notImplemented)) s) :=
  .of_wp fun prog w A R s h => by obtain ⟨hp, g, d, tk, os⟩ := s; obtain ⟨hl, h⟩ := h; wp_walk using wpAny_loadPart' hl, wpAny_load hl; exact ⟨_, rfl, h⟩
theorem str_ne_declines_dict (b : Str) (u : Tok) (l : Addr) (es : Array DictEntry) (n : Nat) (dd : Option Addr) (sl : Array (Option Value)) :
    Meets (Builtin.«str.__ne__» ⟨[.str b u, .ref l], []⟩) (fun _ R s => s.heap.get? l = some { cls := .type "dict", dict := dd, data := .dict es n, slots := sl } ∧ R (.ok (.ret .notImplemented)) s) :=
  .of_wp fun prog w A R s h => by obtain ⟨hp, g, d, tk, os⟩ := s; obtain ⟨hl, h⟩ := h; wp_walk using wpAny_loadPart' hl, wpAny_load hl; exact ⟨_, rfl, h⟩
end Ey
set_option maxHeartbeats 2000000
namespace Ey
open PySem PySem.Spec PyProof.Rows L2 GxR
/-! ### a law's own call: nothing is under way around it, so that repr is told of data -/
def LawOk (P : Program) (w : World) (K : PySem.W.Frag) (mg : Str → Option Value) (base : Heap) (f : Addr) (fd : FuncData) (x : Str) (sp : Sp) : Prop :=
  ∀ (s : Shared) (H : Hp) (u : Value) (v : V) (Q : VK), Env0 P w K mg base callerA [] s H → BindsTo s fd ⟨[u], []⟩ [(x, u)] → RelV v u → sp [v] H Q E0 →
    codeAny (model P w) callerA (.call (.ref f) ⟨[u], []⟩) (CR CX0 [] P w H s Q E0) s
section
variable {P : Program} {w : World} {K : PySem.W.Frag} {mg : Str → Option Value} {base : Heap}
theorem law_ok {x qual p : Str} {st : Stmt} {f : Addr} {fd : FuncData} {N : List Str} {k : Nat} {sp : Sp} (F : Fun K x qual st f fd) (S : FnScope N [p] (defScope st)) (hr : Room (k + 1) callerA)
    (body : ∀ (cdv : Value) (s : Shared) (H : Hp) (v : V) (Q : VK), Room k (callerA.deeper (envOfC qual (defScope st) s.heap.objs.size f cdv)) → sp [v] H Q E0 →
      ∃ t, PSs (cxOf CX0 P w K mg base N qual (defScope st) f cdv callerA [] s H E0).nox (defBody st) t ∧ t { nx := fun _ H' => Q .non H', rt := Q } (start N [v]) H) :
    LawOk P w K mg base f fd p sp := by
  obtain ⟨oc, od, kV, doc, pm, an, cdv, ct, osl, rfl, lk, code⟩ := F.ex
  intro s H u v Q e0 hb rv hsp
  have inK : K.In s.heap := e0.mod.kin.keeps fun b o e => (e0.bs b o e).1
  have noL : s.heap.NoLimit := e0.mod.nolimit.keeps fun b o e => (e0.bs b o e).1
  have kinds : ∀ y ∈ [p].zip [u], (defScope st).names.lookup y.1 = some .local ∨ ((defScope st).names.lookup y.1 = some .cell ∧ ((cellsFrom (s.heap.objs.size + 1) (defScope st).names []).lookup y.1).isSome = true) := fun ⟨n, z⟩ hy => by
    rcases S.par n (List.of_mem_zip hy).1 with q | q
    · exact .inl q
    · exact .inr ⟨q, PySem.W.cellsFrom_some _ _ _ (.inl q)⟩
  refine codeAny_call_function (Nat.lt_of_le_of_lt (by omega) hr.dp) (inK _ _ lk) rfl S.co S.gen rfl (PySem.W.codeRec_of inK code) (hb _ _ _ _ ?_)
  refine wpAny_newFunctionEnv_cells (binds := [p].zip [u]) S.kind kinds fun env he s1 xc => ?_
  subst he
  refine ⟨noL.keeps xc.toInCall.keep, codeAny_func ?_⟩
  obtain ⟨t, dv, rd⟩ := body cdv s H v Q (hr.deeper _) hsp
  have I := inv_start (CX := CX0) (E := E0) (P := P) (w := w) (K := K) (mg := mg) (base := base) (N := N) (ps := [p]) (A := callerA) (vs := [v]) (us := [u]) S rfl e0 rfl (.cons rv .nil) xc
  refine wpAny_mono (dv.nox.run [] s1 (start N [v]) H _ I rd) (fun fl s' hs => ?_) fun e s' hs => hs
  cases fl with
  | next =>
    obtain ⟨σ', H', J, q⟩ := hs
    exact ⟨V.non, H', J.os, J.bare, J.base, J.hok, rfl, q⟩
  | ret z =>
    obtain ⟨y, σ', H', J, ry, q⟩ := hs
    exact ⟨y, H', J.os, J.bare, J.base, J.hok, ry, q⟩
  | brk =>
    obtain ⟨_, _, _, q⟩ := hs
    exact q.elim
  | cont =>
    obtain ⟨_, _, _, q⟩ := hs
    exact q.elim
end
end Ey
set_option maxHeartbeats 2000000
namespace Ey
open PySem PySem.Spec PyProof.Rows L2 GxR
/-- the tables cs stand empty in h, outside the written part -/
structure Tabs (K : PySem.W.Frag) (h : Heap) (cs : List (Addr × Addr)) : Prop where
  at_ : ∀ p ∈ cs, h.get? p.2 = some { cls := .none, data := .fields #[] }
  out : ∀ p ∈ cs, K.lookup p.2 = none
  hd : ∀ p ∈ cs, PySem.W.CodeHd h p.1 p.2
/-- what a heap says of the module's own builtins -/
def BMain (mg : Str → Option Value) (h : Heap) : Prop :=
  ∃ (bm : Addr) (ob : Obj), mg "__builtins__" = some (.ref bm) ∧ bm ≠ builtinsNs ∧ h.get? bm = some ob ∧ ob.cls = .type "module" ∧ ob.dict = some builtinsNs ∧ ob.data = .plain
section
variable {P : Program} {w : World} {K : PySem.W.Frag} {mg mb : Str → Option Value}
/-- the script at a, the tables cs: what is tracked ahead of the law -/
def start0 (K : PySem.W.Frag) (a : Addr) (o : Obj) (ns : List Int) (cs : List (Addr × Addr)) : Hp := fun b =>
  if b ∈ cs.map (·.2) then some (.tbl #[]) else if b = a ∧ K.lookup a = none then some (.frz o (.lst (ns.map V.int))) else none
theorem call_law {f a : Addr} {cs : List (Addr × Addr)} {fd : FuncData} {x : Str} {sp : Sp} {z : Shared} {vs : List Value} {ns : List Int}
    (KX : K.In z.heap) (hns : z.heap.Ns mainGlobals mg) (hb : z.heap.Ns builtinsNs mb) (hbb : ∀ x : Str, x ≠ "__name__" → mb x = bootBuiltins x) (lim : z.heap.NoLimit) (hsm : ∃ mm, z.heap.Ns sysModules mm) (hg : z.gens = #[])
    (T : Tabs K z.heap cs) (hbm : BMain mg z.heap) (ha : z.heap.get? a = some { cls := .type "list", data := .seq vs.toArray }) (hi : IntsAre vs ns) (hl : ns.length ≤ sizeLine)
    (F : ∀ base : Heap, K.In base → base.Ns mainGlobals mg → (∀ p ∈ cs, TabB base mg p.1 p.2) → (∃ mm, base.Ns sysModules mm) → LawOk P w K mg base f fd x sp) (hbind : ∀ (s : Shared) (u : Value), BindsTo s fd ⟨[u], []⟩ [(x, u)])
    (hsp : ∀ H : Hp, (∀ p ∈ cs, H p.2 = some (.tbl #[])) → SqL K H a (ns.map V.int) → sp [.ref a] H (fun v _ => v = .bl true) E0) :
    codeAny (model P w) callerA (.call (.ref f) ⟨[.ref a], []⟩) (fun r s' => r = .ok (.ret (.bool true)) ∧ OldK z.heap s'.heap ∧ s'.os = z.os ∧ AllBare s'.gens) z := by
  have rv := vals_ints hi
  have nV : vs.length = ns.length := hi.length
  have tabAt : ∀ b : Addr, b ∈ cs.map (·.2) → z.heap.get? b = some { cls := .none, data := .fields #[] } ∧ K.lookup b = none := fun b m => by
    obtain ⟨p, hp, rfl⟩ := List.mem_map.mp m
    exact ⟨T.at_ p hp, T.out p hp⟩
  have aT : a ∉ cs.map (·.2) := fun m => by
    have e := (tabAt a m).1
    rw [ha] at e
    injection e with e
    have e' : Data.seq vs.toArray _ = Data.fields #[] := congrArg Obj.data e
    cases e'
  let H : Hp := start0 K a { cls := .type "list", data := .seq vs.toArray } ns cs
  have HT : ∀ p ∈ cs, H p.2 = some (.tbl #[]) := fun p hp => if_pos (List.mem_map.mpr ⟨p, hp, rfl⟩)
  have Hcase : ∀ b, H b = none ∨ (b ∈ cs.map (·.2) ∧ H b = some (.tbl #[])) ∨ (b = a ∧ K.lookup a = none ∧ H b = some (.frz { cls := .type "list", data := .seq vs.toArray } (.lst (ns.map V.int)))) := fun b => by
    by_cases h1 : b ∈ cs.map (·.2)
    · exact .inr (.inl ⟨h1, if_pos h1⟩)
    · by_cases h2 : b = a ∧ K.lookup a = none
      · exact .inr (.inr ⟨h2.1, h2.2, (if_neg h1).trans (if_pos h2)⟩)
      · exact .inl ((if_neg h1).trans (if_neg h2))
  have HS : SqL K H a (ns.map V.int) := by
    cases hk : K.lookup a with
    | some o =>
      have e := KX a o hk
      rw [ha] at e
      injection e with e
      subst e
      exact .inr ⟨_, vs.toArray, _, hk, rfl, rfl, rfl, by rw [List.size_toArray, nV]; exact hl, by simpa using rv⟩
    | none => exact .inl (.inr ⟨_, (if_neg aT).trans (if_pos ⟨rfl, hk⟩)⟩)
  have HO : HOk P w H z.heap := fun b u e => by
    rcases Hcase b with q | ⟨m, q⟩ | ⟨m, _, q⟩
    · rw [q] at e
      cases e
    · rw [q] at e
      cases e
      exact (tabAt b m).1
    · rw [q] at e
      cases e
      subst m
      exact ⟨ha, by rw [List.length_map]; exact hl, vs, _, rv, ha⟩
  -- what is neither the script nor a table stands in the base
  have inB : ∀ {b : Addr} {o : Obj}, z.heap.get? b = some o → (∀ xs n, o.data ≠ .seq xs n) → o.data ≠ .fields #[] → (hidT z.heap H).get? b = some o := fun {b o} e h1 h2 => by
    refine hidT_get e ?_
    rcases Hcase b with q | ⟨m, q⟩ | ⟨m, _, q⟩
    · exact q
    · rw [(tabAt b m).1] at e
      injection e with e
      subst e
      exact absurd rfl h2
    · subst m
      rw [ha] at e
      injection e with e
      subst e
      exact absurd rfl (h1 _ _)
  have nsB : ∀ {b : Addr} {m : Str → Option Value}, z.heap.Ns b m → (hidT z.heap H).Ns b m := fun {b m} ⟨o, es, ep, e, d, r⟩ =>
    ⟨o, es, ep, inB e (fun xs n q => by rw [d] at q; cases q) (fun q => by rw [d] at q; cases q), d, r⟩
  have KB : K.In (hidT z.heap H) := fun b o e => by
    refine hidT_get (KX b o e) ?_
    rcases Hcase b with q | ⟨m, q⟩ | ⟨m, n, q⟩
    · exact q
    · rw [(tabAt b m).2] at e
      cases e
    · subst m
      rw [n] at e
      cases e
  have M : L2.Mod K mg (hidT z.heap H) := ⟨KB, nsB hns, ⟨mb, nsB hb, hbb⟩, let ⟨mc, h1, h2⟩ := lim; ⟨mc, nsB h1, h2⟩⟩
  have TB : ∀ p ∈ cs, TabB (hidT z.heap H) mg p.1 p.2 := fun p hp => by
    have pT := T.at_ p hp
    refine ⟨?_, ?_, fun q => ?_⟩
    · obtain ⟨o, us, fi, tf, fl, tg, nf, tx, tt, e1, r1, r2, r3, rest⟩ := T.hd p hp
      refine ⟨o, us, fi, tf, fl, tg, nf, tx, tt, inB e1 (fun xs n q => ?_) (fun q => ?_), r1, r2, r3, rest⟩
      · rw [r2] at q
        cases q
      · rw [r2] at q
        cases q
        simp at r3
    · obtain ⟨bm, ob, b1, b2, b3, b4, b5, b6⟩ := hbm
      refine ⟨bm, ob, b1, b2, fun q => ?_, fun q => ?_, inB b3 (fun xs n q => ?_) (fun q => ?_), b4, b5, b6⟩
      · obtain ⟨o, es, ep, e, d, _⟩ := hns
        rw [q, e] at b3
        injection b3 with b3
        subst b3
        rw [d] at b6
        cases b6
      · rw [q, pT] at b3
        injection b3 with b3
        subst b3
        cases b6
      · rw [b6] at q
        cases q
      · rw [b6] at q
        cases q
    · obtain ⟨o, es, ep, e, d, _⟩ := hns
      rw [q, pT] at e
      injection e with e
      subst e
      cases d
  have e0 : Env0 P w K mg (hidT z.heap H) callerA [] z H := ⟨rfl, M, fun b o e => of_hidT e, Nat.le_of_eq (hidT_size _ _), trivial, fun b m => absurd m List.not_mem_nil, HO, .of_eq hg⟩
  refine codeAny_mono (F _ KB (nsB hns) TB (let ⟨mm, q⟩ := hsm; ⟨mm, nsB q⟩) z H (.ref a) (.ref a) _ e0 (hbind z _) rfl (hsp H HT HS)) fun r s' h => ?_
  cases r with
  | error e => exact h.elim
  | ok fl =>
    cases fl with
    | next => exact h.elim
    | brk => exact h.elim
    | cont => exact h.elim
    | ret u =>
      obtain ⟨v, H', os, bare, un, ok', r', q⟩ := h
      have q' : v = .bl true := q
      subst q'
      obtain rfl : u = Value.bool true := r'
      have keep : ∀ b o, b ∉ cs.map (·.2) → z.heap.get? b = some o → s'.heap.get? b = some o := fun b o nb e => by
        rcases Hcase b with q | ⟨m, q⟩ | ⟨m, _, q⟩
        · exact un.keep b o e q List.not_mem_nil List.not_mem_nil
        · exact absurd m nb
        · have e1 := (HO b _ q).1
          rw [e] at e1
          injection e1 with e1
          subst e1
          exact (ok' b _ (un.frzs b _ _ q)).1
      have grown : ∀ b, b ∈ cs.map (·.2) → ∃ more : Array Value, s'.heap.get? b = some { cls := .none, data := .fields more } := fun b m => by
        obtain ⟨p, hp, rfl⟩ := List.mem_map.mp m
        obtain ⟨more, q⟩ := un.tbls p.2 #[] (HT p hp)
        exact ⟨_, ok' p.2 _ q⟩
      refine ⟨rfl, ⟨fun b o e => ?_, fun b o e => ?_⟩, os, bare⟩
      · by_cases m : b ∈ cs.map (·.2)
        · obtain ⟨more, g⟩ := grown b m
          obtain ⟨p, hp, rfl⟩ := List.mem_map.mp m
          rw [T.at_ p hp] at e
          injection e with e
          subst e
          exact .inr (.inl ⟨((T.hd p hp).tab (T.at_ p hp)).isCodeTable, rfl, #[], more, rfl, by rw [Array.empty_append]; exact g⟩)
        · exact .inl (keep b o m e)
      · by_cases m : b ∈ cs.map (·.2)
        · obtain ⟨more, g⟩ := grown b m
          exact ⟨_, g⟩
        · exact ⟨o, keep b o m e⟩
end
/-- the goal that k_head leaves, from the law's promise at any base -/
theorem walk_law {l : PySem.W.OpenLaw} {n : Nat} {q : Program} {loose : List Str} {XP : (Str → Option Value) → Heap → Prop} {YP : World → Heap → Prop} {d : DefRec} {K : Params → PySem.W.Frag} {x : Str}
    (hi0 : PyProof.Rows.importsNone q = true) (hn : l.most = some n) (hn2 : n ≤ sizeLine) (hdf : d.params.defaults = []) (hY : ∀ (w : World) (h : Heap), YP w h → (K w.params).In h)
    (F : ∀ (w : World) (mg : Str → Option Value) (f : Addr) (h : Heap) (lo : List Str) (mean : ExcName → Option Value) (mb : Str → Option Value), (K w.params).In h → PyProof.Rows.Top q lo mean mg mb h → mg d.name = some (.ref f) →
      ∃ (fd : FuncData) (cs : List (Addr × Addr)) (sp : Sp), Tabs (K w.params) h cs ∧ (∀ (s : Shared) (u : Value), BindsTo s fd ⟨[u], []⟩ [(x, u)]) ∧
        (∀ (H : Hp) (a : Addr) (ns : List Int), ns.length ≤ n → (∀ p ∈ cs, H p.2 = some (.tbl #[])) → SqL (K w.params) H a (ns.map V.int) → sp [.ref a] H (fun v _ => v = .bl true) E0) ∧
        ∀ base : Heap, (K w.params).In base → base.Ns mainGlobals mg → (∀ p ∈ cs, TabB base mg p.1 p.2) → (∃ mm, base.Ns sysModules mm) → LawOk l.prog w (K w.params) mg base f fd x sp) :
    PySem.W.WalkO q loose XP YP l.row.toRowW d [] (fun f vs => PySem.call f vs) := by
  refine Att.attach_call hn hdf fun w s₀ z mg mb f o pm cd doc a vs ns G Y ho hd hcd hmg hobj hi hlen hg => ?_
  obtain ⟨fd, cs, sp, T, hb, hsp, hF⟩ := F w mg f _ _ _ _ (hY w _ Y) G.T hmg
  exact call_law (hY w _ Y) G.T.g G.T.b G.T.builtins G.T.nolimit (let ⟨mm, q, _⟩ := (G.T.seer hi0).mods; ⟨mm, q⟩) hg T G.T.bmain hobj hi (Nat.le_trans hlen hn2) hF hb fun H h1 h2 => hsp H a ns hlen h1 h2
end Ey
set_option maxHeartbeats 2000000
namespace PySem.W
open PySem PySem.Calls PyProof.Rows PyProof.V PySem.Spec Builtin
section
variable {prog : Program} {w : World} {A : Around} {E : Value → Shared → Prop} {s : Shared} {T : String} {r d : Addr} {n : Nat} {P : Nat → Value → Prop} {OK : Heap → Prop}
/-- what a source yields, collected -/
theorem ey_collect {Q : List Value → Shared → Prop} (K : KdlSrc prog w T r d n P OK) (hh : A.handled = none) (hok : OK s.heap) (hn : n ≤ sizeLine)
    (hQ : ∀ h' tk (acc : Array Value), (∀ b o, s.heap.get? b = some o → h'.get? b = some o) → ItemsOf P acc n → Q acc.toList { s with heap := h', toks := tk }) :
    wpAny (model prog w) A (collect (.ref r)) Q E s := by
  unfold collect
  refine wpAny_bind (wpAny_runValue (codeAny_builtin PySem.F.entry_proto_collect ?_))
  rw [Around.under_plainId PySem.F.plain_proto_collect _]
  show wpAny _ A.in1 (newList [] >>= fun l => again (.builtin "list.__iadd__" ⟨[l, .ref r], []⟩)) _ _ s
  refine wpAny_bind (wpAny_newObj_type (wpAny_pure ⟨plainId_quiet PySem.F.plain_list_iadd _, codeAny_builtin PySem.F.entry_list_iadd ?_⟩))
  rw [Around.under_plainId PySem.F.plain_list_iadd _]
  show wpAny _ A.in1 (Builtin.List.listExtendWith (.ref s.heap.objs.size) (.ref r) (.ref s.heap.objs.size)) _ _ _
  have at0 : (s.heap.push { cls := .type "list", data := .seq ([] : List Value).toArray }).get? s.heap.objs.size = some { cls := .type "list", data := .seq #[] 0 } := Heap.get?_push_size _ rfl
  have lt := K.there _ hok
  have ok1 : OK (s.heap.push { cls := .type "list", data := .seq ([] : List Value).toArray }) := K.keep _ _ hok fun b _ o e => Heap.get?_push_of_some _ e
  have fin : ∀ (h' : Heap) (tk : Nat) (acc : Array Value) (c : Nat), (∀ b o, s.heap.get? b = some o → h'.get? b = some o) → h'.get? s.heap.objs.size = some { cls := .type "list", dict := none, data := .seq acc c, slots := #[] } → ItemsOf P acc n →
      wpAny (model prog w) A (match Value.ref s.heap.objs.size with
      | Value.ref a => do
        match (← load a).data with
          | Data.seq xs _ => pure xs.toList
          | _ => unsupported "internal:collect"
      | _ => unsupported "internal:collect") Q E { s with heap := h', toks := tk } := fun h' tk acc c hk at1 it => by
    show wpAny _ A (load s.heap.objs.size >>= _) _ _ _
    exact wpAny_bind (wpAny_load at1 (wpAny_pure (hQ h' tk acc hk it)))
  refine wpAny_mono (kdl_extend (A := A) (s := { s with heap := s.heap.push { cls := .type "list", data := .seq ([] : List Value).toArray } })
    (R := fun q s' => q = .ok (.ret (.ref s.heap.objs.size)) ∧ ∃ (h' : Heap) (tk : Nat) (acc : Array Value) (c : Nat), s' = { s with heap := h', toks := tk } ∧ (∀ b o, s.heap.get? b = some o → h'.get? b = some o) ∧ h'.get? s.heap.objs.size = some { cls := .type "list", dict := none, data := .seq acc c, slots := #[] } ∧ ItemsOf P acc n)
    K hh ok1 s.heap.objs.size (Nat.ne_of_gt lt.1) (Nat.ne_of_gt lt.2) (.ref s.heap.objs.size) 0 at0 (fun h' tk acc c hk at1 it => ⟨rfl, h', tk, acc, c, rfl, fun b o e => hk b o (Nat.ne_of_lt (Heap.lt_size e)) (Heap.get?_push_of_some _ e), at1, it⟩) hn) (fun q s' h => ?_) (fun e s' h => ?_)
  · cases q with
    | done f =>
      obtain ⟨e, h', tk, acc, c, rfl, hk, at1, it⟩ := h
      cases e
      exact fin h' tk acc c hk at1 it
    | again c' =>
      refine ⟨h.1, codeAny_mono h.2 fun q s2 hq => ?_⟩
      obtain ⟨rfl, h', tk, acc, c, rfl, hk, at1, it⟩ := hq
      exact fin h' tk acc c hk at1 it
  · exact absurd h.1 (by simp)
/-- tuple(of it) -/
theorem ey_tuple_new {Q₁ : Value → Shared → Prop} (K : KdlSrc prog w "dict" r d n P OK) (hh : A.handled = none) (hok : OK s.heap) (hn : n ≤ sizeLine)
    (h : ∀ (h' : Heap) (tk : Nat) (acc : Array Value), (∀ b o, s.heap.get? b = some o → h'.get? b = some o) → ItemsOf P acc n → Q₁ (.ref h'.objs.size) { s with heap := h'.push { cls := .type "tuple", data := .seq acc }, toks := tk }) :
    codeAny (model prog w) A (.call (.builtin "tuple.__new__") ⟨[.type "tuple", .ref r], []⟩) (wants Q₁ E) s := by
  refine codeAny_of_tree ?_
  show wpAny _ A.in1 (do checkBuiltinCall "tuple.__new__" ⟨[.type "tuple", .ref r], []⟩; again (.builtin "tuple.__new__" ⟨[.type "tuple", .ref r], []⟩)) _ _ s
  refine wpAny_bind (wpAny_of_eq (PySem.F.newCall_tuple_1 _) (wpAny_pure ⟨plainId_quiet PySem.F.plain_tuple_new _, codeAny_builtin PySem.F.entry_tuple_new ?_⟩))
  rw [Around.under_plainId PySem.F.plain_tuple_new _]
  have sub1 := sub_tuple_self
  have init1 := init_tuple_lookup
  have made1 := madeHere_tuple
  have ty1 := K.type s hok
  wp_walk using wpAny_typeOf ty1, ey_collect (A := A.in1) K hh hok hn
  intro h' tk acc hk it
  show wpAny _ _ (Builtin.Tuple.tupleExact acc.toList.toArray >>= fun v => ret v) _ _ _
  unfold Builtin.Tuple.tupleExact
  refine wpAny_bind (wpAny_newObj_type ?_ (by show acc.toList.toArray.size ≤ sizeLine; rw [Array.toArray_toList, it.1]; exact hn))
  refine wpAny_pure ?_
  rw [Array.toArray_toList]
  exact h h' tk acc hk it
theorem ey_tuple {Q : Value → Shared → Prop} (K : KdlSrc prog w "dict" r d n P OK) (hh : A.handled = none) (hok : OK s.heap) (hn : n ≤ sizeLine)
    (h : ∀ (h' : Heap) (tk : Nat) (acc : Array Value), (∀ b o, s.heap.get? b = some o → h'.get? b = some o) → ItemsOf P acc n → Q (.ref h'.objs.size) { s with heap := h'.push { cls := .type "tuple", data := .seq acc }, toks := tk }) :
    wpAny (model prog w) A (call (.type "tuple") [.ref r]) Q E s := by
  refine callType_codes (Q₁ := fun o z => z.TypeIs o "tuple" ∧ Q o z) PySem.F.called_tuple (PySem.F.typeCall_tuple_1 _) PySem.F.entry_object_init
    (ey_tuple_new (A := A.in1) K hh hok hn fun h' tk acc hk it => ⟨⟨_, Heap.get?_push_size _ rfl, rfl⟩, h h' tk acc hk it⟩) fun o z hz => ?_
  exact ⟨hz.1, PySem.F.args_object_init_2 o _, object_init_meets PySem.F.called_tuple.init.lookup PySem.F.called_tuple.made (by decide) prog w A.in1 _ z ⟨hz.1, rfl, hz.2⟩⟩
end
end PySem.W
namespace Ey
open PySem PySem.Spec PyProof.Rows L2
/-- tuple(d), d a dict: its keys -/
def rTupD : List V → Hp → VK → Prop := fun xs H Q => ∃ p kvs, xs = [.ref p] ∧ H p = some (.dK kvs) ∧ ∀ q, H q = none → Q (.ref q) (upd H q (.tup (kvs.map fun kv => kV kv.1)))
theorem call_tupD {X : Cx} (hc : X.calm = true) : CallR X (.type "tuple") rTupD := by
  intro pins s σ H xs us Q I r h
  obtain ⟨p, kvs, rfl, hk, q⟩ := h
  obtain ⟨u, rfl, rx⟩ := vals1 r
  obtain rfl : u = Value.ref p := rx
  obtain ⟨z, lo, vs, rk, hd⟩ := (show ObjOk X.prog X.w H s.heap p (.dK kvs) from I.hok p _ hk)
  obtain ⟨ep, at0⟩ := hd.dictAt
  have nl : kvs.length = vs.length := Paired.length rk
  refine PySem.W.ey_tuple (PySem.W.kdl_dict (knd := mixKind X.prog X.w) (kvs := vs) (ep := ep) lo) (I.ok.hd hc) at0 (by rw [← nl]; exact z) fun h' tk acc keep it => ?_
  have I1 : Inv X pins σ H { s with heap := h', toks := tk } := I.kept keep
  refine ⟨.ref h'.objs.size, upd H h'.objs.size (.tup (kvs.map fun kv => kV kv.1)), I1.laid (t' := tk) (fun b o e => Heap.get?_push_of_some _ e) (Nat.le_refl _) (show ObjOk X.prog X.w _ _ _ (.tup _) from ⟨?_, acc.toList, ?_, ?_⟩), rfl, q _ (I1.hok.fresh (Nat.le_refl _))⟩
  · rw [List.length_map]
    exact z
  · have nA : acc.toList.length = acc.size := by simp
    refine vals_of_at (by rw [List.length_map, nA, it.1, nl]) fun j x v h1 h2 => ?_
    obtain ⟨k, y, e, ki⟩ := it.2 j v (by rw [← Array.getElem?_toList]; exact h2)
    have e1 : (kvs.map (·.1))[j]? = some k := by
      rw [KV.keys rk, List.getElem?_map, e]
      rfl
    rw [List.getElem?_map] at h1 e1
    cases g : kvs[j]? with
    | none =>
      rw [g] at e1
      cases e1
    | some kv =>
      rw [g] at e1 h1
      injection e1 with e1
      injection h1 with h1
      have e2 : kv.1 = k := e1
      rw [← h1]
      show L2.RelV (kV kv.1) v
      rw [e2]
      exact keyIs_rel ki
  · have := IsTup.new h' acc
    rw [Array.toArray_toList]
    exact this
end Ey
/-! Trees, places: the mathematics. -/
namespace Ey
open PySem PySem.Spec PyProof.Rows
/-! ### texts as lists of signs -/
def st (p : List Nat) : Str := ⟨p.toArray⟩
theorem st_inj {p q : List Nat} (h : st p = st q) : p = q := by
  have h2 : p.toArray = q.toArray := congrArg Str.cps h
  simpa using h2
theorem st_app (p q : List Nat) : st p ++ st q = st (p ++ q) := by
  show (⟨p.toArray ++ q.toArray⟩ : Str) = ⟨(p ++ q).toArray⟩
  rw [List.append_toArray]
theorem st_len (p : List Nat) : (st p).length = p.length := rfl
theorem st_list (p : List Nat) : (st p).cps.toList = p := rfl
theorem st_of (x : Str) : x = st x.cps.toList := by
  cases x
  rfl
theorem st_ne {p q : List Nat} (h : p ≠ q) : st p ≠ st q := fun e => h (st_inj e)
/-! ### trees -/
inductive Tr where
  | nil
  | nd (tag : Str) (l r : Tr)
def abc : List Nat := [97, 98, 99, 100, 101, 102, 103, 104, 105, 106, 107, 108, 109, 110, 111, 112, 113, 114, 115, 116, 117, 118, 119, 120, 121, 122]
def isTag (x : Str) : Bool := decide (1 ≤ x.length) && decide (x.length ≤ 8) && x.cps.toList.all fun c => decide (c ∈ abc)
def Tr.ok : Tr → Prop
  | .nil => True
  | .nd g l r => isTag g = true ∧ l.ok ∧ r.ok
def Tr.sz : Tr → Nat
  | .nil => 0
  | .nd _ l r => l.sz + r.sz + 1
def Tr.ht : Tr → Nat
  | .nil => 0
  | .nd _ l r => max l.ht r.ht + 1
def Tr.full : Tr → Bool
  | .nil => false
  | .nd _ _ _ => true
def pl : Tr → List (List Nat)
  | .nil => [[]]
  | .nd _ l r => [] :: ((pl l).map (108 :: ·) ++ (pl r).map (114 :: ·))
def pt : Tr → List Nat → Tr
  | t, [] => t
  | .nil, _ :: _ => .nil
  | .nd _ l r, c :: p => if c = 108 then pt l p else pt r p
def isP : Tr → List Nat → Bool
  | _, [] => true
  | .nil, _ :: _ => false
  | .nd _ l r, c :: p => if c = 108 then isP l p else if c = 114 then isP r p else false
theorem pt_nil (t : Tr) : pt t [] = t := by cases t <;> rfl
theorem isP_nil (t : Tr) : isP t [] = true := by cases t <;> rfl
theorem isP_iff : ∀ (t : Tr) (p : List Nat), isP t p = true ↔ p ∈ pl t
  | .nil, [] => by simp [pl, isP]
  | .nil, c :: p => by simp [pl, isP]
  | .nd g l r, [] => by simp [pl, isP]
  | .nd g l r, c :: p => by
    have il := isP_iff l p
    have ir := isP_iff r p
    have e : (c :: p) ∈ pl (.nd g l r) ↔ (c = 108 ∧ p ∈ pl l) ∨ (c = 114 ∧ p ∈ pl r) := by
      simp only [pl, List.mem_cons, List.mem_append, List.mem_map, reduceCtorEq, false_or]
      constructor
      · rintro (⟨q, hq, e⟩ | ⟨q, hq, e⟩)
        · cases e
          exact .inl ⟨rfl, hq⟩
        · cases e
          exact .inr ⟨rfl, hq⟩
      · rintro (⟨rfl, h⟩ | ⟨rfl, h⟩)
        · exact .inl ⟨p, h, rfl⟩
        · exact .inr ⟨p, h, rfl⟩
    rw [e, ← il, ← ir]
    show (if c = 108 then isP l p else if c = 114 then isP r p else false) = true ↔ _
    by_cases h1 : c = 108
    · subst h1
      simp
    · by_cases h2 : c = 114
      · subst h2
        simp
      · simp [h1, h2]
theorem pl_len : ∀ t : Tr, (pl t).length = 2 * t.sz + 1
  | .nil => rfl
  | .nd g l r => by
    simp only [pl, List.length_cons, List.length_append, List.length_map, pl_len l, pl_len r, Tr.sz]
    omega
theorem pl_ht : ∀ (t : Tr) (p : List Nat), p ∈ pl t → p.length ≤ t.ht
  | .nil, p, h => by
    simp only [pl, List.mem_singleton] at h
    subst h
    exact Nat.zero_le _
  | .nd g l r, p, h => by
    simp only [pl, List.mem_cons, List.mem_append, List.mem_map] at h
    rcases h with rfl | ⟨q, hq, rfl⟩ | ⟨q, hq, rfl⟩
    · exact Nat.zero_le _
    · have := pl_ht l q hq
      simp only [List.length_cons, Tr.ht]
      omega
    · have := pl_ht r q hq
      simp only [List.length_cons, Tr.ht]
      omega
theorem ht_sz : ∀ t : Tr, t.ht ≤ t.sz
  | .nil => Nat.le_refl _
  | .nd g l r => by
    have a := ht_sz l
    have b := ht_sz r
    simp only [Tr.ht, Tr.sz]
    omega
theorem pl_ne (t : Tr) : pl t ≠ [] := by cases t <;> simp [pl]
theorem pl_head (t : Tr) : (pl t)[0]? = some [] := by cases t <;> rfl
theorem pl_signs : ∀ (t : Tr) (p : List Nat), p ∈ pl t → ∀ c ∈ p, c = 108 ∨ c = 114
  | .nil, p, h => by
    simp only [pl, List.mem_singleton] at h
    subst h
    exact fun c hc => absurd hc List.not_mem_nil
  | .nd g l r, p, h => by
    simp only [pl, List.mem_cons, List.mem_append, List.mem_map] at h
    rcases h with rfl | ⟨q, hq, rfl⟩ | ⟨q, hq, rfl⟩
    · exact fun c hc => absurd hc List.not_mem_nil
    · intro c hc
      rcases List.mem_cons.mp hc with e | e
      · exact .inl e
      · exact pl_signs l q hq c e
    · intro c hc
      rcases List.mem_cons.mp hc with e | e
      · exact .inr e
      · exact pl_signs r q hq c e
/-! ### the order -/
def ltL (a b : List Nat) : Prop := ltCps a b = true
theorem ltL_cons {c : Nat} {a b : List Nat} : ltL (c :: a) (c :: b) ↔ ltL a b := by simp [ltL, ltCps]
theorem ltL_nil {c : Nat} {a : List Nat} : ltL [] (c :: a) := rfl
theorem ltL_lt {c d : Nat} {a b : List Nat} (h : c < d) : ltL (c :: a) (d :: b) := by simp [ltL, ltCps, h]
theorem ltL_irr : ∀ a : List Nat, ¬ ltL a a
  | [] => by simp [ltL, ltCps]
  | c :: a => by
    rw [ltL_cons]
    exact ltL_irr a
theorem ltL_trans : ∀ {a b c : List Nat}, ltL a b → ltL b c → ltL a c
  | [], [], _, h, _ => absurd h (ltL_irr [])
  | [], _ :: _, [], _, h => by simp [ltL, ltCps] at h
  | [], _ :: _, _ :: _, _, _ => rfl
  | _ :: _, [], _, h, _ => by simp [ltL, ltCps] at h
  | _ :: _, _ :: _, [], _, h => by simp [ltL, ltCps] at h
  | x :: a, y :: b, z :: c, h1, h2 => by
    simp only [ltL, ltCps, Bool.or_eq_true, decide_eq_true_eq, Bool.and_eq_true, beq_iff_eq] at h1 h2 ⊢
    rcases h1 with h1 | ⟨rfl, h1⟩
    · rcases h2 with h2 | ⟨rfl, h2⟩
      · exact .inl (Nat.lt_trans h1 h2)
      · exact .inl h1
    · rcases h2 with h2 | ⟨rfl, h2⟩
      · exact .inl h2
      · exact .inr ⟨rfl, ltL_trans h1 h2⟩
theorem ltL_tri : ∀ a b : List Nat, ltL a b ∨ a = b ∨ ltL b a
  | [], [] => .inr (.inl rfl)
  | [], _ :: _ => .inl rfl
  | _ :: _, [] => .inr (.inr rfl)
  | x :: a, y :: b => by
    rcases Nat.lt_trichotomy x y with h | rfl | h
    · exact .inl (ltL_lt h)
    · rcases ltL_tri a b with h | rfl | h
      · exact .inl (ltL_cons.mpr h)
      · exact .inr (.inl rfl)
      · exact .inr (.inr (ltL_cons.mpr h))
    · exact .inr (.inr (ltL_lt h))
theorem pl_up : ∀ t : Tr, (pl t).Pairwise ltL
  | .nil => by simp [pl]
  | .nd g l r => by
    simp only [pl, List.pairwise_cons, List.pairwise_append, List.pairwise_map]
    refine ⟨fun p hp => ?_, (pl_up l).imp fun h => ltL_cons.mpr h, (pl_up r).imp fun h => ltL_cons.mpr h, fun a ha b hb => ?_⟩
    · simp only [List.mem_append, List.mem_map] at hp
      rcases hp with ⟨q, _, rfl⟩ | ⟨q, _, rfl⟩
      · exact rfl
      · exact rfl
    · simp only [List.mem_map] at ha hb
      obtain ⟨p, _, rfl⟩ := ha
      obtain ⟨q, _, rfl⟩ := hb
      exact ltL_lt (by decide)
theorem pl_nodup (t : Tr) : (pl t).Nodup := (pl_up t).imp fun {a b} h e => by
  subst e
  exact ltL_irr _ h
/-- what sorted hands back, of texts that are all unlike -/
theorem rising_pw : ∀ (l : List Str) (p : Str), risingS p l = true → (p :: l).Pairwise fun a b => ¬ ltL b.cps.toList a.cps.toList
  | [], p, _ => by simp
  | x :: r, p, h => by
    simp only [risingS, Bool.and_eq_true, Bool.not_eq_true'] at h
    have ih := rising_pw r x h.2
    have h1 : ¬ ltL x.cps.toList p.cps.toList := by
      intro e
      rw [ltL, h.1] at e
      cases e
    rw [List.pairwise_cons]
    refine ⟨fun y hy => ?_, ih⟩
    rcases List.mem_cons.mp hy with rfl | hy
    · exact h1
    · have h2 := (List.pairwise_cons.mp ih).1 y hy
      intro e
      rcases ltL_tri x.cps.toList p.cps.toList with q | q | q
      · exact h1 q
      · rw [← q] at e
        exact h2 e
      · exact h2 (ltL_trans e q)
theorem sorted_is {l : List Str} {ps : List (List Nat)} (h : l.Perm (ps.map st)) (hs : sortedS l = true) (hp : ps.Pairwise ltL) : l = ps.map st := by
  have pw : l.Pairwise fun a b => ¬ ltL b.cps.toList a.cps.toList := by
    cases l with
    | nil => simp
    | cons x r => exact rising_pw r x hs
  have pw2 : (ps.map st).Pairwise fun a b => ¬ ltL b.cps.toList a.cps.toList := by
    rw [List.pairwise_map]
    exact hp.imp fun {a b} h e => ltL_irr _ (ltL_trans h e)
  refine List.Perm.eq_of_pairwise (fun a b _ _ h1 h2 => ?_) pw pw2 h
  rcases ltL_tri a.cps.toList b.cps.toList with q | q | q
  · exact absurd q h2
  · rw [st_of a, st_of b, q]
  · exact absurd q h1
/-! ### the next place -/
def stripR (p : List Nat) : List Nat := (p.reverse.dropWhile fun c => c == 114).reverse
def nxt (full : Bool) (p : List Nat) : Option (List Nat) :=
  if full = true then some (p ++ [108]) else if stripR p = [] then none else some ((stripR p).dropLast ++ [114])
theorem dropWhile_snoc (f : Nat → Bool) (a : List Nat) (c : Nat) : (a ++ [c]).dropWhile f = if a.dropWhile f = [] then [c].dropWhile f else a.dropWhile f ++ [c] := by
  induction a with
  | nil => simp
  | cons x a ih =>
    rw [List.cons_append]
    by_cases h : f x = true
    · rw [List.dropWhile_cons_of_pos h, List.dropWhile_cons_of_pos h]
      exact ih
    · rw [List.dropWhile_cons_of_neg h, List.dropWhile_cons_of_neg h]
      simp
theorem stripR_cons (c : Nat) (p : List Nat) : stripR (c :: p) = if stripR p = [] then (if c = 114 then [] else [c]) else c :: stripR p := by
  unfold stripR
  rw [List.reverse_cons, dropWhile_snoc]
  by_cases h : (p.reverse.dropWhile fun c => c == 114) = []
  · rw [if_pos h, if_pos (by rw [h]; rfl)]
    by_cases hc : c = 114
    · simp [hc]
    · simp [hc]
  · rw [if_neg h, if_neg (by rw [List.reverse_eq_nil_iff]; exact h)]
    simp
theorem nxt_cons {f : Bool} {c : Nat} {p q : List Nat} (h : nxt f p = some q) : nxt f (c :: p) = some (c :: q) := by
  unfold nxt at h ⊢
  by_cases hf : f = true
  · rw [if_pos hf] at h ⊢
    cases h
    rfl
  · rw [if_neg hf] at h ⊢
    by_cases hp : stripR p = []
    · rw [if_pos hp] at h
      cases h
    · rw [if_neg hp] at h
      injection h with h
      have e : stripR (c :: p) = c :: stripR p := by rw [stripR_cons, if_neg hp]
      rw [e, if_neg (by simp), ← h, List.dropLast_cons_of_ne_nil hp]
      rfl
theorem nxt_last {f : Bool} {p : List Nat} (h : nxt f p = none) : nxt f (108 :: p) = some [114] ∧ nxt f (114 :: p) = none := by
  unfold nxt at h ⊢
  by_cases hf : f = true
  · rw [if_pos hf] at h
    cases h
  · rw [if_neg hf] at h
    by_cases hp : stripR p = []
    · rw [if_neg hf, if_neg hf, stripR_cons, stripR_cons, if_pos hp, if_pos hp]
      simp
    · rw [if_neg hp] at h
      cases h
theorem nxt_pl : ∀ (t : Tr) (i : Nat) (p : List Nat), (pl t)[i]? = some p → nxt (pt t p).full p = (pl t)[i + 1]?
  | .nil, i, p, h => by
    cases i with
    | zero =>
      cases h
      rfl
    | succ i => simp [pl] at h
  | .nd g l r, i, p, h => by
    cases i with
    | zero =>
      have e : p = [] := by
        simp only [pl, List.getElem?_cons_zero] at h
        exact (Option.some.inj h).symm
      subst e
      have e2 : (pl (.nd g l r))[0 + 1]? = some [108] := by
        have hl := pl_head l
        simp only [pl, List.getElem?_cons_succ]
        rw [List.getElem?_append_left (by rw [List.length_map]; exact List.length_pos_iff.mpr (pl_ne l)), List.getElem?_map, hl]
        rfl
      rw [e2]
      rfl
    | succ i =>
      simp only [pl, List.getElem?_cons_succ] at h ⊢
      by_cases hi : i < (pl l).length
      · rw [List.getElem?_append_left (by rw [List.length_map]; exact hi), List.getElem?_map] at h
        obtain ⟨q, hq, rfl⟩ := Option.map_eq_some_iff.mp h
        have ih := nxt_pl l i q hq
        have ef : pt (.nd g l r) (108 :: q) = pt l q := by show (if 108 = 108 then _ else _) = _; rw [if_pos rfl]
        rw [ef]
        by_cases hn : i + 1 < (pl l).length
        · rw [List.getElem?_append_left (by rw [List.length_map]; exact hn), List.getElem?_map]
          rw [List.getElem?_eq_getElem hn] at ih ⊢
          exact nxt_cons ih
        · have en : i + 1 = (pl l).length := by omega
          rw [List.getElem?_eq_none (by omega)] at ih
          rw [List.getElem?_append_right (by rw [List.length_map]; omega), List.length_map, en, Nat.sub_self, List.getElem?_map, pl_head r]
          exact (nxt_last ih).1
      · rw [List.getElem?_append_right (by rw [List.length_map]; omega), List.length_map, List.getElem?_map] at h
        obtain ⟨q, hq, rfl⟩ := Option.map_eq_some_iff.mp h
        have ih := nxt_pl r (i - (pl l).length) q hq
        have ef : pt (.nd g l r) (114 :: q) = pt r q := by show (if 114 = 108 then _ else _) = _; rw [if_neg (by decide)]
        rw [ef, List.getElem?_append_right (by rw [List.length_map]; omega), List.length_map, List.getElem?_map]
        have en : i + 1 - (pl l).length = i - (pl l).length + 1 := by omega
        rw [en]
        cases hr : (pl r)[i - (pl l).length + 1]? with
        | none =>
          rw [hr] at ih
          exact (nxt_last ih).2
        | some z =>
          rw [hr] at ih
          exact nxt_cons ih
/-! ### the places below a place -/
theorem below : ∀ (t : Tr) (p : List Nat), isP t p = true → (pl t).filter (fun q => decide (q.take p.length = p)) = (pl (pt t p)).map (p ++ ·)
  | t, [], _ => by
    rw [pt_nil]
    simp
  | .nil, c :: p, h => by cases h
  | .nd g l r, c :: p, h => by
    simp only [pl, List.filter_cons, List.filter_append, List.filter_map]
    have e0 : decide (([] : List Nat).take (c :: p).length = c :: p) = false := by simp
    rw [if_neg (by rw [e0]; exact Bool.false_ne_true)]
    by_cases h1 : c = 108
    · subst h1
      have hp : isP l p = true := h
      have ih := below l p hp
      have ea : ((fun q => decide (q.take (108 :: p).length = 108 :: p)) ∘ (108 :: ·)) = fun q : List Nat => decide (q.take p.length = p) := by
        funext q
        simp
      have eb : (pl r).filter ((fun q => decide (q.take (108 :: p).length = 108 :: p)) ∘ (114 :: ·)) = [] := by
        rw [List.filter_eq_nil_iff]
        intro q _
        simp
      rw [ea, eb, ih]
      show _ = (pl (if 108 = 108 then pt l p else pt r p)).map _
      rw [if_pos rfl]
      simp
    · by_cases h2 : c = 114
      · subst h2
        have hp : isP r p = true := h
        have ih := below r p hp
        have ea : ((fun q => decide (q.take (114 :: p).length = 114 :: p)) ∘ (114 :: ·)) = fun q : List Nat => decide (q.take p.length = p) := by
          funext q
          simp
        have eb : (pl l).filter ((fun q => decide (q.take (114 :: p).length = 114 :: p)) ∘ (108 :: ·)) = [] := by
          rw [List.filter_eq_nil_iff]
          intro q _
          simp
        rw [ea, eb, ih]
        show _ = (pl (if 114 = 108 then pt l p else pt r p)).map _
        rw [if_neg (by decide)]
        simp
      · have : isP (.nd g l r) (c :: p) = false := by
          show (if c = 108 then isP l p else if c = 114 then isP r p else false) = false
          rw [if_neg h1, if_neg h2]
        rw [this] at h
        cases h
end Ey
namespace Ey
open PySem PySem.Spec L2
theorem dw_drop (f : Nat → Bool) : ∀ l : List Nat, l.dropWhile f = l.drop (l.takeWhile f).length
  | [] => rfl
  | a :: l => by
    cases h : f a
    · simp [List.dropWhile_cons, List.takeWhile_cons, h]
    · simp [List.dropWhile_cons, List.takeWhile_cons, h, dw_drop f l]
theorem stripR_take (p : List Nat) : stripR p = p.take (p.length - (p.reverse.takeWhile fun c => c == 114).length) := by
  have hle : (p.reverse.takeWhile fun c => c == 114).length ≤ p.length := by
    have := (List.takeWhile_sublist (fun c => c == 114) (l := p.reverse)).length_le
    rwa [List.length_reverse] at this
  unfold stripR
  rw [dw_drop, ← List.reverse_reverse (p.take _), List.reverse_take]
  have e : p.length - (p.length - (p.reverse.takeWhile fun c => c == 114).length) = (p.reverse.takeWhile fun c => c == 114).length := by omega
  rw [e]
theorem rstrip_st (p : List Nat) : Txt.rstripChars (st p) (st [114]) = st (stripR p) := by
  have e1 : (st [114]).cps.contains = fun c => c == 114 := by
    funext c
    show (#[114] : Array Nat).contains c = (c == 114)
    simp [Array.contains]
  have e3 := stripR_take p
  have lo : stripLo (st [114]).cps.contains false (st p) = 0 := rfl
  have hi : stripHi (st [114]).cps.contains true (st p) 0 = p.length - (p.reverse.takeWhile fun c => c == 114).length := by
    rw [e1]
    rfl
  unfold Txt.rstripChars Txt.stripBy stripSame stripped
  rw [lo, hi]
  have ex : Builtin.Str.strSub (st p) 0 (p.length - (p.reverse.takeWhile fun c => c == 114).length) = st (stripR p) := by
    rw [e3]
    show (⟨p.toArray.extract 0 _⟩ : Str) = ⟨_⟩
    simp
  rw [ex]
  split
  · rename_i h
    simp only [Bool.and_eq_true, beq_iff_eq] at h
    rw [e3, h.2]
    show st p = st (p.take p.length)
    rw [List.take_length]
  · rfl
theorem for_str {x : Str} {g : TG} {tb : TS} {D : Ends} {σ : St} {H : Hp} (Pv : Nat → St → Hp → Prop) (h0 : Pv 0 σ H)
    (hs : ∀ i c σ H, x.cps.toList[i]? = some c → Pv i σ H → g (.str (st [c])) σ H fun σ2 H2 => tb { D with nx := Pv (i + 1), ct := Pv (i + 1), bk := D.nx } σ2 H2)
    (hd : ∀ σ H, Pv x.cps.toList.length σ H → D.nx σ H) :
    ∃ W : Nat → Nat → St → Hp → Prop, (∃ m, W 0 m σ H) ∧ ∀ i m σ H, W i m σ H →
      ((Its x).stop i H ∧ D.nx σ H) ∨ ((Its x).go i H ∧ ∃ N : St → Hp → Prop, (∀ σ' H', N σ' H' → ∃ m', m' < m ∧ W (i + 1) m' σ' H') ∧ ∀ v H', (Its x).yld i H v H' → g v σ H' fun σ2 H2 => tb { D with nx := N, ct := N, bk := D.nx } σ2 H2) := by
  refine ⟨fun i m σ H => m = x.cps.size - i ∧ i ≤ x.cps.size ∧ Pv i σ H, ⟨_, rfl, Nat.zero_le _, h0⟩, fun i m σ H hw => ?_⟩
  obtain ⟨rfl, hi, p⟩ := hw
  by_cases lt : i < x.cps.size
  · refine .inr ⟨lt, Pv (i + 1), fun σ' H' p' => ⟨x.cps.size - (i + 1), by omega, rfl, lt, p'⟩, fun v H' y => ?_⟩
    obtain ⟨rfl, c, hc, rfl⟩ := y
    exact hs i c σ _ (by rw [Array.getElem?_toList]; exact hc) p
  · have e : i = x.cps.size := by omega
    subst e
    exact .inl ⟨Nat.le_refl _, hd σ H (by rw [Array.length_toList]; exact p)⟩
end Ey
namespace Ey
open PySem PySem.Spec L2
/-! ### heaps -/
/-- all that was tracked is as it was, but what stands at ms; tuples never change -/
structure Kp (ms : List Addr) (H H' : Hp) : Prop where
  at_ : ∀ b o, H b = some o → b ∉ ms → H' b = some o
  tup : ∀ b xs, H b = some (.tup xs) → H' b = some (.tup xs)
section
variable {ms : List Addr} {H H' H1 H2 : Hp}
theorem Kp.refl : Kp ms H H := ⟨fun _ _ e _ => e, fun _ _ e => e⟩
theorem Kp.trans (a : Kp ms H H1) (b : Kp ms H1 H2) : Kp ms H H2 := ⟨fun c o e n => b.at_ c o (a.at_ c o e n) n, fun c xs e => b.tup c xs (a.tup c xs e)⟩
theorem Kp.more {ms' : List Addr} (a : Kp ms H H1) (h : ∀ x ∈ ms, x ∈ ms') : Kp ms' H H1 := ⟨fun c o e n => a.at_ c o e fun q => n (h c q), a.tup⟩
theorem Kp.new {p : Addr} {o : HO} (h : H p = none) : Kp ms H (upd H p o) :=
  ⟨fun c u e _ => by rw [upd_ne (ne_of_none e h)]; exact e, fun c xs e => by rw [upd_ne (ne_of_none e h)]; exact e⟩
theorem Kp.put {p : Addr} {o u : HO} (hm : p ∈ ms) (h : H p = some u) (nt : ∀ xs, u ≠ .tup xs) : Kp ms H (upd H p o) := by
  refine ⟨fun c v e n => ?_, fun c xs e => ?_⟩
  · rw [upd_ne (fun q => n (by rw [q]; exact hm))]
    exact e
  · rw [upd_ne (fun q => ?_)]
    · exact e
    · rw [q, h] at e
      exact nt xs (Option.some.inj e)
theorem Kp.same (s : Same H H1) : Kp ms H H1 := ⟨fun c o e _ => s c o e, fun c xs e => s c _ e⟩
theorem Kp.free (a : Kp ms H H1) {p : Addr} (h : H1 p = none) (n : p ∉ ms) : H p = none := by
  cases q : H p with
  | none => rfl
  | some o =>
    rw [a.at_ p o q n] at h
    cases h
theorem Kp.lst {K : PySem.W.Frag} {a : Addr} {xs : List V} (k : Kp ms H H1) (n : a ∉ ms) (h : SqL K H a xs) : SqL K H1 a xs := by
  rcases h with (h | ⟨o, h⟩) | h
  · exact .inl (.inl (k.at_ _ _ h n))
  · exact .inl (.inr ⟨o, k.at_ _ _ h n⟩)
  · exact .inr h
end
/-! ### trees in the heap -/
inductive TreeAt (H : Hp) : V → Tr → Prop where
  | nil : TreeAt H .non .nil
  | nd {a : Addr} {g : Str} {l r : Tr} {v w : V} : H a = some (.tup [.str g, v, w]) → TreeAt H v l → TreeAt H w r → TreeAt H (.ref a) (.nd g l r)
theorem TreeAt.kp {ms : List Addr} {H H1 : Hp} {v : V} {t : Tr} (k : Kp ms H H1) (h : TreeAt H v t) : TreeAt H1 v t := by
  induction h with
  | nil => exact .nil
  | nd e _ _ ih1 ih2 => exact .nd (k.tup _ _ e) ih1 ih2
theorem TreeAt.non {H : Hp} {v : V} {t : Tr} (h : TreeAt H v t) : decide (v = .non) = !t.full := by
  cases h <;> rfl
theorem sqt_of {K : PySem.W.Frag} {H : Hp} {a : Addr} {xs : List V} (h : H a = some (.tup xs)) : SqT K H a xs := .inl (.inl h)
theorem sql_of {K : PySem.W.Frag} {H : Hp} {a : Addr} {xs : List V} (h : H a = some (.lst xs)) : SqL K H a xs := .inl (.inl h)
/-- a tree as data -/
def td : Tr → PyData
  | .nil => .none
  | .nd g l r => .tuple [.str g, td l, td r]
theorem TreeAt.dp {K : PySem.W.Frag} {H : Hp} {v : V} {t : Tr} (h : TreeAt H v t) : Dp K H v (td t) := by
  induction h with
  | nil => exact .non
  | nd e _ _ ih1 ih2 => exact .tup (sqt_of e) (.cons (.str _) (.cons ih1 (.cons ih2 .nil)))
theorem td_show : ∀ t : Tr, (td t).showable = true
  | .nil => rfl
  | .nd g l r => by
    show (true && ((td l).showable && ((td r).showable && true))) = true
    rw [td_show l, td_show r]
    rfl
theorem td_depth : ∀ t : Tr, (td t).depth ≤ 1 + t.ht
  | .nil => by decide
  | .nd g l r => by
    have a := td_depth l
    have b := td_depth r
    simp only [td, PyData.depth, PyData.depthAll, Tr.ht]
    omega
theorem tag_signs {g : Str} (h : isTag g = true) : ∀ c ∈ g.cps.toList, c < 16 ^ 8 := fun c hc => by
  simp only [isTag, Bool.and_eq_true, List.all_eq_true, decide_eq_true_eq] at h
  have := h.2 c hc
  simp only [abc, List.mem_cons, List.not_mem_nil, or_false] at this
  omega
theorem tag_len {g : Str} (h : isTag g = true) : g.length ≤ 8 := by
  simp only [isTag, Bool.and_eq_true, decide_eq_true_eq] at h
  exact h.1.2
theorem len_app (a b : Str) : (a ++ b).length = a.length + b.length := by
  show (a.cps ++ b.cps).size = _
  rw [Array.size_append]
  rfl
theorem td_len : ∀ t : Tr, t.ok → (td t).shown.length ≤ 100 * t.sz + 4
  | .nil, _ => by decide +kernel
  | .nd g l r, h => by
    obtain ⟨hg, hl, hr⟩ := h
    have a := td_len l hl
    have b := td_len r hr
    have c := StrLaws.reprText_len g (tag_signs hg)
    have d := tag_len hg
    have e : (td (.nd g l r)).shown.length ≤ (reprText g).length + (td l).shown.length + (td r).shown.length + 6 := by
      show (tupleText [reprText g, (td l).shown, (td r).shown]).length ≤ _
      unfold tupleText
      rw [len_app, len_app]
      simp only [Str.join, len_app]
      have q1 : (", " : Str).length = 2 := by decide +kernel
      have q2 : ("(" : Str).length = 1 := by decide +kernel
      have q3 : (Str.ofString (if (([reprText g, (td l).shown, (td r).shown] : List Str).length == 1) = true then ",)" else ")")).length = 1 := by
        show (Str.ofString (if ((3 : Nat) == 1) = true then ",)" else ")")).length = 1
        decide +kernel
      rw [q1, q2]
      omega
    simp only [Tr.sz]
    omega
end Ey
set_option maxHeartbeats 4000000
namespace Ey
open PySem PySem.Spec PyProof.Rows L2
/-! ### data: what is a tree, what may be told -/
def isTagD : PyData → Bool
  | .str g => isTag g
  | .none | .bool _ | .int _ | .list _ | .tuple _ | .dict _ => false
def tri : List PyData → List Bool → Bool
  | [x, _, _], [_, b, c] => isTagD x && (b && c)
  | _, _ => false
mutual
def isT : PyData → Bool
  | .none => true
  | .tuple ds => tri ds (isTs ds)
  | .bool _ | .int _ | .str _ | .list _ | .dict _ => false
def isTs : List PyData → List Bool
  | [] => []
  | x :: r => isT x :: isTs r
end
mutual
def fit : PyData → Bool
  | .none | .bool _ => true
  | .int i => decide (i.natAbs < 10 ^ 40)
  | .str x => x.cps.toList.all fun c => decide (c < 1000)
  | .list ds | .tuple ds => fitAll ds
  | .dict kvs => fitKv kvs
def fitAll : List PyData → Bool
  | [] => true
  | x :: r => fit x && fitAll r
def fitKv : List (PyData × PyData) → Bool
  | [] => true
  | (k, v) :: r => (fit k && fit v) && fitKv r
end
mutual
def wd : PyData → Nat
  | .none => 4
  | .bool _ => 5
  | .int _ => 45
  | .str x => 10 * x.length + 2
  | .list ds | .tuple ds => wdAll ds + 3
  | .dict kvs => wdKv kvs + 3
def wdAll : List PyData → Nat
  | [] => 0
  | x :: r => wd x + 2 + wdAll r
def wdKv : List (PyData × PyData) → Nat
  | [] => 0
  | (k, v) :: r => wd k + wd v + 4 + wdKv r
end
theorem nat_len {n : Nat} (h : n < 10 ^ 40) : (Str.ofString (toString (n : Int))).length ≤ 40 := by
  rw [ofString_len]
  show (Nat.repr n).length ≤ 40
  have e : (Nat.repr n).length = (Nat.toDigits 10 n).length := by
    unfold Nat.repr
    simp
  rw [e]
  exact digits10_le (by decide) h
theorem int_ok (i : Int) (h : i.natAbs < 10 ^ 40) : i.natAbs.log2 < 1920 ∧ (PyData.shown (.int i)).length ≤ 45 := by
  refine ⟨?_, ?_⟩
  · by_cases h0 : i.natAbs = 0
    · rw [h0]
      decide
    · rw [Nat.log2_lt h0]
      exact Nat.lt_trans h (by decide +kernel)
  · show (Str.ofString (toString i)).length ≤ 45
    by_cases hn : i < 0
    · rw [len_text_neg hn]
      obtain ⟨n, e⟩ : ∃ n : Nat, 0 - i = (n : Int) := ⟨(0 - i).toNat, by omega⟩
      rw [e]
      have := nat_len (n := n) (by omega)
      omega
    · obtain ⟨n, rfl⟩ : ∃ n : Nat, i = (n : Int) := ⟨i.toNat, by omega⟩
      have := nat_len (n := n) (by simpa using h)
      omega
theorem lenD (ts : List Str) : (listText ts).length ≤ piled ts + 2 := by
  have q1 : ("[" : Str).length = 1 := by decide +kernel
  have q2 : ("]" : Str).length = 1 := by decide +kernel
  unfold listText
  rw [len_app, q2]
  cases ts with
  | nil =>
    show (textFrom 0 "[" []).length + 1 ≤ _
    unfold textFrom
    rw [q1]
    omega
  | cons t r =>
    show (textFrom 1 (("[" : Str) ++ Str.ofString "" ++ t) r).length + 1 ≤ piled (t :: r) + 2
    have e : (Str.ofString "").length = 0 := by decide +kernel
    rw [textFrom_length_pos r 1 _ (by decide), len_app, len_app, q1, e, piled_cons]
    omega
theorem joinD (ts : List Str) : (Str.join ", " ts).length ≤ piled ts := by
  cases ts with
  | nil => exact Nat.zero_le _
  | cons t r =>
    have := join_length_add (t :: r) (by simp)
    omega
theorem lenT (ts : List Str) : (tupleText ts).length ≤ piled ts + 3 := by
  have q1 : ("(" : Str).length = 1 := by decide +kernel
  have q2 : (Str.ofString ",)").length = 2 := by decide +kernel
  have q3 : (Str.ofString ")").length = 1 := by decide +kernel
  have q : (Str.ofString (if (ts.length == 1) = true then ",)" else ")")).length ≤ 2 := by
    split
    · rw [q2]
      exact Nat.le_refl _
    · rw [q3]
      decide
  have := joinD ts
  unfold tupleText
  rw [len_app, len_app, q1]
  omega
theorem lenK (ts : List Str) : (dictText ts).length ≤ piled ts + 3 := by
  have q1 : ("{" : Str).length = 1 := by decide +kernel
  have q2 : ("}" : Str).length = 1 := by decide +kernel
  have := joinD ts
  unfold dictText
  rw [len_app, len_app, q1, q2]
  omega
mutual
theorem fit_told : ∀ d : PyData, fit d = true → d.showable = true ∧ d.shown.length ≤ wd d
  | .none, _ => ⟨rfl, by show ("None" : Str).length ≤ 4; decide +kernel⟩
  | .bool b, _ => ⟨rfl, by
      show (PyData.shown (.bool b)).length ≤ 5
      cases b <;> decide +kernel⟩
  | .int i, h => by
    have a := int_ok i (of_decide_eq_true h)
    exact ⟨decide_eq_true a.1, a.2⟩
  | .str x, h => by
    refine ⟨rfl, StrLaws.reprText_len x fun c hc => ?_⟩
    have h2 : (x.cps.toList.all fun c => decide (c < 1000)) = true := h
    exact Nat.lt_of_lt_of_le (of_decide_eq_true (List.all_eq_true.mp h2 c hc)) (by decide)
  | .list ds, h => by
    obtain ⟨a, b⟩ := fit_tolds ds h
    exact ⟨a, Nat.le_trans (lenD _) (by show piled (PyData.shownAll ds) + 2 ≤ wdAll ds + 3; omega)⟩
  | .tuple ds, h => by
    obtain ⟨a, b⟩ := fit_tolds ds h
    exact ⟨a, Nat.le_trans (lenT _) (by show piled (PyData.shownAll ds) + 3 ≤ wdAll ds + 3; omega)⟩
  | .dict kvs, h => by
    obtain ⟨a, b⟩ := fit_toldKv kvs h
    exact ⟨a, Nat.le_trans (lenK _) (by show piled (PyData.shownKv kvs) + 3 ≤ wdKv kvs + 3; omega)⟩
theorem fit_tolds : ∀ ds : List PyData, fitAll ds = true → PyData.showableAll ds = true ∧ piled (PyData.shownAll ds) ≤ wdAll ds
  | [], _ => ⟨rfl, Nat.le_refl _⟩
  | x :: r, h => by
    have h2 : (fit x && fitAll r) = true := h
    rw [Bool.and_eq_true] at h2
    obtain ⟨a, b⟩ := fit_told x h2.1
    obtain ⟨c, d⟩ := fit_tolds r h2.2
    refine ⟨?_, ?_⟩
    · show (x.showable && PyData.showableAll r) = true
      rw [a, c]
      rfl
    · show piled (x.shown :: PyData.shownAll r) ≤ wd x + 2 + wdAll r
      rw [piled_cons]
      omega
theorem fit_toldKv : ∀ kvs : List (PyData × PyData), fitKv kvs = true → PyData.showableKv kvs = true ∧ piled (PyData.shownKv kvs) ≤ wdKv kvs
  | [], _ => ⟨rfl, Nat.le_refl _⟩
  | (k, v) :: r, h => by
    have h2 : ((fit k && fit v) && fitKv r) = true := h
    rw [Bool.and_eq_true, Bool.and_eq_true] at h2
    obtain ⟨a, b⟩ := fit_told k h2.1.1
    obtain ⟨a2, b2⟩ := fit_told v h2.1.2
    obtain ⟨c, d⟩ := fit_toldKv r h2.2
    refine ⟨?_, ?_⟩
    · show (k.showable && v.showable && PyData.showableKv r) = true
      rw [a, a2, c]
      rfl
    · show piled ((k.shown ++ ": " ++ v.shown) :: PyData.shownKv r) ≤ wd k + wd v + 4 + wdKv r
      have q : (Str.ofString ": ").length = 2 := by decide +kernel
      rw [piled_cons, len_app, len_app, q]
      omega
end
/-! ### trees as data -/
theorem td_isT : ∀ t : Tr, t.ok → isT (td t) = true
  | .nil, _ => rfl
  | .nd g l r, h => by
    show (isTag g && (isT (td l) && isT (td r))) = true
    rw [h.1, td_isT l h.2.1, td_isT r h.2.2]
    rfl
theorem tag_low {g : Str} (h : isTag g = true) : ∀ c ∈ g.cps.toList, c < 1000 := fun c hc => by
  simp only [isTag, Bool.and_eq_true, List.all_eq_true, decide_eq_true_eq] at h
  have := h.2 c hc
  simp only [abc, List.mem_cons, List.not_mem_nil, or_false] at this
  omega
theorem td_fit : ∀ t : Tr, t.ok → fit (td t) = true
  | .nil, _ => rfl
  | .nd g l r, h => by
    have a : (g.cps.toList.all fun c => decide (c < 1000)) = true := List.all_eq_true.mpr fun c hc => decide_eq_true (tag_low h.1 c hc)
    show ((g.cps.toList.all fun c => decide (c < 1000)) && (fit (td l) && (fit (td r) && true))) = true
    rw [a, td_fit l h.2.1, td_fit r h.2.2]
    rfl
theorem td_wd : ∀ t : Tr, t.ok → wd (td t) ≤ 100 * t.sz + 4
  | .nil, _ => Nat.le_refl _
  | .nd g l r, h => by
    have a := td_wd l h.2.1
    have b := td_wd r h.2.2
    have c := tag_len h.1
    show (10 * g.length + 2) + 2 + (wd (td l) + 2 + (wd (td r) + 2 + 0)) + 3 ≤ 100 * (l.sz + r.sz + 1) + 4
    omega
theorem sz_wd : ∀ t : Tr, t.sz ≤ wd (td t)
  | .nil => Nat.zero_le _
  | .nd g l r => by
    have a := sz_wd l
    have b := sz_wd r
    show l.sz + r.sz + 1 ≤ (10 * g.length + 2) + 2 + (wd (td l) + 2 + (wd (td r) + 2 + 0)) + 3
    omega
theorem ht_depth : ∀ t : Tr, t.ht ≤ (td t).depth
  | .nil => Nat.le_refl _
  | .nd g l r => by
    have a := ht_depth l
    have b := ht_depth r
    show max l.ht r.ht + 1 ≤ max 0 (max (td l).depth (max (td r).depth 0)) + 1
    omega
mutual
theorem isT_td : ∀ d : PyData, isT d = true → ∃ t : Tr, t.ok ∧ td t = d
  | .none, _ => ⟨.nil, trivial, rfl⟩
  | .bool _, h => by cases h
  | .int _, h => by cases h
  | .str _, h => by cases h
  | .list _, h => by cases h
  | .dict _, h => by cases h
  | .tuple ds, h => isTs_td ds h
theorem isTs_td : ∀ ds : List PyData, tri ds (isTs ds) = true → ∃ t : Tr, t.ok ∧ td t = .tuple ds
  | [], h => by cases h
  | [_], h => by cases h
  | [_, _], h => by cases h
  | _ :: _ :: _ :: _ :: _, h => by cases h
  | [x, a, b], h => by
    have h2 : (isTagD x && (isT a && isT b)) = true := h
    rw [Bool.and_eq_true, Bool.and_eq_true] at h2
    obtain ⟨l, ol, el⟩ := isT_td a h2.2.1
    obtain ⟨r, or', er⟩ := isT_td b h2.2.2
    cases x with
    | str g => exact ⟨.nd g l r, ⟨h2.1, ol, or'⟩, by rw [td, el, er]⟩
    | none => cases h2.1
    | bool _ => cases h2.1
    | int _ => cases h2.1
    | list _ => cases h2.1
    | tuple _ => cases h2.1
    | dict _ => cases h2.1
end
/-! ### data in the heap, none of its lists and dicts at ms -/
def kD : Key → PyData
  | .inl i => .int i
  | .inr x => .str x
mutual
inductive An (ms : List Addr) (H : Hp) : V → PyData → Prop
  | non : An ms H .non .none
  | bl (b : Bool) : An ms H (.bl b) (.bool b)
  | int (i : Int) : An ms H (.int i) (.int i)
  | str (x : Str) : An ms H (.str x) (.str x)
  | lst {a : Addr} {xs : List V} {ds : List PyData} : H a = some (.lst xs) → a ∉ ms → AnAll ms H xs ds → An ms H (.ref a) (.list ds)
  | tup {a : Addr} {xs : List V} {ds : List PyData} : H a = some (.tup xs) → AnAll ms H xs ds → An ms H (.ref a) (.tuple ds)
  | dct {a : Addr} {kvs : List (Key × V)} {ds : List (PyData × PyData)} : H a = some (.dK kvs) → a ∉ ms → AnKv ms H kvs ds → An ms H (.ref a) (.dict ds)
inductive AnAll (ms : List Addr) (H : Hp) : List V → List PyData → Prop
  | nil : AnAll ms H [] []
  | cons {v : V} {vs : List V} {d : PyData} {ds : List PyData} : An ms H v d → AnAll ms H vs ds → AnAll ms H (v :: vs) (d :: ds)
inductive AnKv (ms : List Addr) (H : Hp) : List (Key × V) → List (PyData × PyData) → Prop
  | nil : AnKv ms H [] []
  | cons {k : Key} {v : V} {kvs : List (Key × V)} {d : PyData} {ds : List (PyData × PyData)} : An ms H v d → AnKv ms H kvs ds → AnKv ms H ((k, v) :: kvs) ((kD k, d) :: ds)
end
section
variable {ms ms' : List Addr} {H H1 : Hp}
mutual
theorem An.kp (k : Kp ms' H H1) (hs : ∀ x ∈ ms', x ∈ ms) : ∀ {v : V} (d : PyData), An ms H v d → An ms H1 v d
  | _, .none, h => by cases h; exact .non
  | _, .bool b, h => by cases h; exact .bl b
  | _, .int i, h => by cases h; exact .int i
  | _, .str x, h => by cases h; exact .str x
  | _, .list ds, h => by
    cases h with
    | lst e n a => exact .lst (k.at_ _ _ e fun q => n (hs _ q)) n (AnAll.kp k hs ds a)
  | _, .tuple ds, h => by
    cases h with
    | tup e a => exact .tup (k.tup _ _ e) (AnAll.kp k hs ds a)
  | _, .dict ds, h => by
    cases h with
    | dct e n a => exact .dct (k.at_ _ _ e fun q => n (hs _ q)) n (AnKv.kp k hs ds a)
theorem AnAll.kp (k : Kp ms' H H1) (hs : ∀ x ∈ ms', x ∈ ms) : ∀ {vs : List V} (ds : List PyData), AnAll ms H vs ds → AnAll ms H1 vs ds
  | _, [], h => by cases h; exact .nil
  | _, d :: r, h => by
    cases h with
    | cons a b => exact .cons (An.kp k hs d a) (AnAll.kp k hs r b)
theorem AnKv.kp (k : Kp ms' H H1) (hs : ∀ x ∈ ms', x ∈ ms) : ∀ {vs : List (Key × V)} (ds : List (PyData × PyData)), AnKv ms H vs ds → AnKv ms H1 vs ds
  | _, [], h => by cases h; exact .nil
  | _, (y, d) :: r, h => by
    cases h with
    | cons a b => exact .cons (An.kp k hs d a) (AnKv.kp k hs r b)
end
theorem TreeAt.an {v : V} {t : Tr} (h : TreeAt H v t) : An ms H v (td t) := by
  induction h with
  | nil => exact .non
  | nd e _ _ ih1 ih2 => exact .tup e (.cons (.str _) (.cons ih1 (.cons ih2 .nil)))
theorem An.tree : ∀ (t : Tr) {v : V}, An ms H v (td t) → TreeAt H v t
  | .nil, _, h => by cases h; exact .nil
  | .nd g l r, _, h => by
    cases h with
    | tup e a =>
      cases a with
      | cons a1 a =>
        cases a1
        cases a with
        | cons a2 a =>
          cases a with
          | cons a3 a =>
            cases a
            exact .nd e (An.tree l a2) (An.tree r a3)
theorem AnAll.append {vs ws : List V} {ds es : List PyData} (h : AnAll ms H vs ds) (g : AnAll ms H ws es) : AnAll ms H (vs ++ ws) (ds ++ es) := by
  induction ds generalizing vs with
  | nil => cases h; exact g
  | cons d r ih =>
    cases h with
    | cons a b => exact .cons a (ih b)
theorem AnAll.length {vs : List V} {ds : List PyData} (h : AnAll ms H vs ds) : vs.length = ds.length := by
  induction ds generalizing vs with
  | nil => cases h; rfl
  | cons d r ih =>
    cases h with
    | cons a b => rw [List.length_cons, List.length_cons, ih b]
theorem AnAll.take {vs : List V} {ds : List PyData} (h : AnAll ms H vs ds) (n : Nat) : AnAll ms H (vs.take n) (ds.take n) := by
  induction ds generalizing vs n with
  | nil =>
    cases h
    rw [List.take_nil, List.take_nil]
    exact .nil
  | cons d r ih =>
    cases h with
    | cons a b =>
      cases n with
      | zero => exact .nil
      | succ n => exact .cons a (ih b n)
theorem AnAll.drop {vs : List V} {ds : List PyData} (h : AnAll ms H vs ds) (n : Nat) : AnAll ms H (vs.drop n) (ds.drop n) := by
  induction ds generalizing vs n with
  | nil =>
    cases h
    rw [List.drop_nil, List.drop_nil]
    exact .nil
  | cons d r ih =>
    cases h with
    | cons a b =>
      cases n with
      | zero => exact .cons a b
      | succ n => exact ih b n
theorem AnAll.rev {vs : List V} {ds : List PyData} (h : AnAll ms H vs ds) : AnAll ms H vs.reverse ds.reverse := by
  induction ds generalizing vs with
  | nil => cases h; exact .nil
  | cons d r ih =>
    cases h with
    | cons a b =>
      rw [List.reverse_cons, List.reverse_cons]
      exact (ih b).append (.cons a .nil)
theorem AnAll.get {vs : List V} {ds : List PyData} (h : AnAll ms H vs ds) {i : Nat} {v : V} (e : vs[i]? = some v) : ∃ d, ds[i]? = some d ∧ An ms H v d := by
  induction ds generalizing vs i with
  | nil => cases h; cases e
  | cons d r ih =>
    cases h with
    | cons a b =>
      cases i with
      | zero =>
        cases e
        exact ⟨d, rfl, a⟩
      | succ i => exact ih b e
/-- all at ms is tracked -/
def Has (ms : List Addr) (H : Hp) : Prop := ∀ b ∈ ms, H b ≠ none
theorem Has.fresh {p : Addr} (h : Has ms H) (n : H p = none) : p ∉ ms := fun q => h p q n
theorem Has.new {p : Addr} {o : HO} (h : Has ms H) : Has ms (upd H p o) := fun b q => by
  by_cases e : b = p
  · rw [e, upd_same]
    exact fun z => nomatch z
  · rw [upd_ne e]
    exact h b q
theorem Has.kp (h : Has ms H) (k : Kp ms' H H1) (hs : ∀ b ∈ ms', H1 b ≠ none) : Has ms H1 := fun b q => by
  by_cases m : b ∈ ms'
  · exact hs b m
  · cases e : H b with
    | none => exact absurd e (h b q)
    | some o =>
      rw [k.at_ b o e m]
      exact fun z => nomatch z
end
section
variable {X : Cx} {pins : List (Addr × Obj)} {σ : L2.St} {H : Hp} {s : Shared} {ms : List Addr}
theorem low (I : Inv X pins σ H s) (hs : ∃ mm, X.base.Ns sysModules mm) {a : Addr} {o : HO} (e : H a = some o) : a ≠ sysModules := by
  rintro rfl
  obtain ⟨mm, ob, es, ep, g, _⟩ := hs
  rw [(I.bs _ _ g).2] at e
  cases e
theorem key_reads (k : Key) (y : Value) (h : keyIs k y = true) : Reads s.heap y (kD k) [] := by
  rcases keyIs_shape h with ⟨i, t, rfl, rfl⟩ | ⟨x, t, rfl, rfl⟩
  · exact .int i t
  · exact .str x t
mutual
theorem An.reads (I : Inv X pins σ H s) (hs : ∃ mm, X.base.Ns sysModules mm) : ∀ {v : V} {u : Value} (d : PyData), An ms H v d → RelV v u → ∃ as, Reads s.heap u d as ∧ sysModules ∉ as
  | _, _, .none, h, r => by
    cases h
    cases r
    exact ⟨_, .none, List.not_mem_nil⟩
  | _, _, .bool b, h, r => by
    cases h
    cases r
    exact ⟨_, .bool b, List.not_mem_nil⟩
  | _, _, .int i, h, r => by
    cases h
    obtain ⟨t, rfl⟩ := r
    exact ⟨_, .int i t, List.not_mem_nil⟩
  | _, _, .str x, h, r => by
    cases h
    obtain ⟨t, rfl⟩ := r
    exact ⟨_, .str x t, List.not_mem_nil⟩
  | _, _, .list ds, h, r => by
    cases h with
    | @lst a xs _ e n hd =>
      cases r
      obtain ⟨_, its, m, rv, at0⟩ := (show ObjOk X.prog X.w H s.heap a (.lst xs) from I.hok a _ e)
      obtain ⟨as, q, nq⟩ := AnAll.reads I hs ds hd rv
      refine ⟨_, .list at0 rfl rfl q, fun z => ?_⟩
      rcases List.mem_cons.mp z with z | z
      · exact low I hs e z.symm
      · exact nq z
  | _, _, .tuple ds, h, r => by
    cases h with
    | @tup a xs _ e hd =>
      cases r
      obtain ⟨_, its, rv, o, h1, h2, n, h3⟩ := (show ObjOk X.prog X.w H s.heap a (.tup xs) from I.hok a _ e)
      obtain ⟨as, q, nq⟩ := AnAll.reads I hs ds hd rv
      exact ⟨_, .tuple h1 h2 h3 q, nq⟩
  | _, _, .dict ds, h, r => by
    cases h with
    | @dct a kvs _ e n hd =>
      cases r
      obtain ⟨_, lo, vs, rk, dd⟩ := (show ObjOk X.prog X.w H s.heap a (.dK kvs) from I.hok a _ e)
      obtain ⟨as, q, nq⟩ := AnKv.reads I hs ds hd rk
      refine ⟨_, PyProof.V.reads_dictOf (fun k y hk => key_reads k y hk) dd q, fun z => ?_⟩
      rcases List.mem_cons.mp z with z | z
      · exact low I hs e z.symm
      · exact nq z
theorem AnAll.reads (I : Inv X pins σ H s) (hs : ∃ mm, X.base.Ns sysModules mm) : ∀ {vs : List V} {us : List Value} (ds : List PyData), AnAll ms H vs ds → Vals vs us → ∃ as, ReadsAll s.heap us ds as ∧ sysModules ∉ as
  | _, _, [], h, r => by
    cases h
    cases r
    exact ⟨_, .nil, List.not_mem_nil⟩
  | _, _, d :: ds, h, r => by
    cases h with
    | cons h1 h2 =>
      cases r with
      | cons r1 r2 =>
        obtain ⟨as, q1, n1⟩ := An.reads I hs d h1 r1
        obtain ⟨bs, q2, n2⟩ := AnAll.reads I hs ds h2 r2
        exact ⟨_, .cons q1 q2, fun z => (List.mem_append.mp z).elim n1 n2⟩
theorem AnKv.reads (I : Inv X pins σ H s) (hs : ∃ mm, X.base.Ns sysModules mm) : ∀ {kvs : List (Key × V)} {vs : List (Key × Value)} (ds : List (PyData × PyData)), AnKv ms H kvs ds → KV kvs vs → ∃ as, PyProof.V.PairsRead s.heap kD vs ds as ∧ sysModules ∉ as
  | _, _, [], h, r => by
    cases h
    cases r
    exact ⟨_, .nil, List.not_mem_nil⟩
  | _, _, (y, d) :: ds, h, r => by
    cases h with
    | @cons k v kvs _ _ h1 h2 =>
      cases r with
      | @cons _ b _ _ r1 r2 =>
        obtain ⟨k2, u⟩ := b
        obtain ⟨e, r1⟩ := r1
        have e' : k = k2 := e
        subst e'
        obtain ⟨as, q1, n1⟩ := An.reads I hs d h1 r1
        obtain ⟨bs, q2, n2⟩ := AnKv.reads I hs ds h2 r2
        exact ⟨_, .cons q1 q2, fun z => (List.mem_append.mp z).elim n1 n2⟩
end
/-- repr of data, dicts among it -/
def rReprA (ms : List Addr) : List V → Hp → VK → Prop := fun xs H Q =>
  ∃ v d, xs = [v] ∧ An ms H v d ∧ fit d = true ∧ d.depth ≤ 100 ∧ wd d ≤ 1000000 ∧ Q (.str d.shown) H
theorem cr_reprA {k : Nat} (hs : ∃ mm, X.base.Ns sysModules mm) (hg : X.A.guards = some []) (hr : Room k X.A) : CallR X (.builtin "repr") (rReprA ms) := by
  intro pins s σ H xs us Q I r h
  obtain ⟨v, d, rfl, hd, hf, hp, hz, q⟩ := h
  obtain ⟨u, rfl, ru⟩ := vals1 r
  obtain ⟨as, rd, ns⟩ := An.reads I hs d hd ru
  obtain ⟨sh, ln⟩ := fit_told d hf
  have z : d.shown.length ≤ sizeLine := Nat.le_trans ln (Nat.le_trans hz (by decide))
  have room : X.A.units + (d.depth + 1) < cLine := by
    have := hr.un
    omega
  have fin : ∀ (h' : Heap) (tk : Nat) (t : Tok), (∀ b o, s.heap.get? b = some o → h'.get? b = some o) → EP X pins σ Q (.str d.shown t) { s with heap := h', toks := tk } :=
    fun h' tk t hk => ⟨.str d.shown, H, I.kept hk, ⟨t, rfl⟩, q⟩
  cases rd with
  | none => exact PySem.P.repr_of_none (fin s.heap _ _ fun _ _ e => e)
  | bool b => exact PySem.P.repr_of_bool (fin s.heap _ _ fun _ _ e => e)
  | int i t => exact PySem.P.repr_of_int (of_decide_eq_true sh) (fin s.heap _ _ fun _ _ e => e)
  | str x t => exact PySem.P.repr_of_str (fin s.heap _ _ fun _ _ e => e) z
  | list a b c e => exact repr_of_reads' (.list a b c e) sh (fun _ => ns) hg room (fun _ _ e => e) (fun h' u tk hk => fin h' tk u hk) z
  | tuple a b c e => exact repr_of_reads' (.tuple a b c e) sh (fun _ => ns) hg room (fun _ _ e => e) (fun h' u tk hk => fin h' tk u hk) z
  | dict a b c e f => exact repr_of_reads' (.dict a b c e f) sh (fun _ => ns) hg room (fun _ _ e => e) (fun h' u tk hk => fin h' tk u hk) z
end
/-! ### kinds -/
def isTup : PyData → Bool
  | .tuple _ => true
  | .none | .bool _ | .int _ | .list _ | .str _ | .dict _ => false
def isStr : PyData → Bool
  | .str _ => true
  | .none | .bool _ | .int _ | .list _ | .tuple _ | .dict _ => false
theorem An.tupK {ms : List Addr} {K : PySem.W.Frag} {H : Hp} {v : V} {d : PyData} (h : An ms H v d) : ∃ t, TyX K H v t ∧ PySem.W.kitOne K t (.type "tuple") = some (isTup d) := by
  cases h with
  | non => exact ⟨_, .base .non, kit_ty (r := false) (by decide +kernel)⟩
  | bl b => exact ⟨_, .base (.bl b), kit_ty (r := false) (by decide +kernel)⟩
  | int i => exact ⟨_, .base (.int i), kit_ty (r := false) (by decide +kernel)⟩
  | str x => exact ⟨_, .base (.str x), kit_ty (r := false) (by decide +kernel)⟩
  | lst e => exact ⟨_, .base (.lst e), kit_ty (r := false) (by decide +kernel)⟩
  | tup e => exact ⟨_, .base (.tup e), kit_ty (r := true) (by decide +kernel)⟩
  | dct e => exact ⟨_, .base (.dK e), kit_ty (r := false) (by decide +kernel)⟩
theorem An.strK {ms : List Addr} {K : PySem.W.Frag} {H : Hp} {v : V} {d : PyData} (h : An ms H v d) : ∃ t, TyX K H v t ∧ PySem.W.kitOne K t (.type "str") = some (isStr d) := by
  cases h with
  | non => exact ⟨_, .base .non, kit_ty (r := false) (by decide +kernel)⟩
  | bl b => exact ⟨_, .base (.bl b), kit_ty (r := false) (by decide +kernel)⟩
  | int i => exact ⟨_, .base (.int i), kit_ty (r := false) (by decide +kernel)⟩
  | str x => exact ⟨_, .base (.str x), kit_ty (r := true) (by decide +kernel)⟩
  | lst e => exact ⟨_, .base (.lst e), kit_ty (r := false) (by decide +kernel)⟩
  | tup e => exact ⟨_, .base (.tup e), kit_ty (r := false) (by decide +kernel)⟩
  | dct e => exact ⟨_, .base (.dK e), kit_ty (r := false) (by decide +kernel)⟩
theorem An.noneK {ms : List Addr} {H : Hp} {v : V} {d : PyData} (h : An ms H v d) : v = .non ↔ d = .none := by
  cases h <;> simp
theorem isi_tup {ms : List Addr} {K : PySem.W.Frag} {H : Hp} {v : V} {d : PyData} {Q : VK} (h : An ms H v d) (q : Q (.bl (isTup d)) H) : rIsi K [v, .ty "tuple"] H Q := by
  obtain ⟨t, a, b⟩ := h.tupK (K := K)
  exact ⟨v, .ty "tuple", t, .type "tuple", _, rfl, .ty "tuple", a, b, q⟩
theorem isi_str {ms : List Addr} {K : PySem.W.Frag} {H : Hp} {v : V} {d : PyData} {Q : VK} (h : An ms H v d) (q : Q (.bl (isStr d)) H) : rIsi K [v, .ty "str"] H Q := by
  obtain ⟨t, a, b⟩ := h.strK (K := K)
  exact ⟨v, .ty "str", t, .type "str", _, rfl, .ty "str", a, b, q⟩
end Ey
set_option maxHeartbeats 4000000
namespace Ey
open PySem PySem.Spec PyProof.Rows L2 PySem.SeqAt
/-! ### any data beside a text -/
def isThe (t : Str) : PyData → Bool
  | .str g => decide (g = t)
  | .none | .bool _ | .int _ | .list _ | .tuple _ | .dict _ => false
section
variable {A : Around} {s : Shared}
theorem rcNe_dict_str {l : Addr} {o : Obj} {es : Array DictEntry} {n : Nat} (b : Str) (u : Tok) (ho : s.heap.get? l = some o) (hc : o.cls = .type "dict") (hd : o.data = .dict es n) (hu : A.units < cLine) : RcNeAt A s (.ref l) (.str b u) true := fun prog w E Q h => by
  obtain ⟨cls, dd, data, sl⟩ := o
  simp only at hc hd
  subst hc hd
  exact rc_ne_decline_or (k := false) ⟨_, ho, rfl⟩ (typeIs_str s b u) (by decide) F.sub_str_dict F.slot_dict_ne F.slot_str_ne_refl
    (fun _ hq => call_meets F.slot_dict_ne ⟨_, ho, rfl⟩ F.entry_dict_ne (F.args_dict_ne_2 _ _) (dict_ne_declines_str l es n dd sl b u) ⟨ho, hq⟩)
    (fun _ hq => call_meets F.slot_str_ne_refl (typeIs_str s b u) F.entry_str_ne (F.args_str_ne_2 _ _) (str_ne_declines_dict b u l es n dd sl) ⟨ho, hq⟩)
    (fun _ hq => wpAny_of_eq (rfl : isSame (.ref l) (.str b u) = pure false) hq) (.inr hu) h
theorem rc_str_dict {l : Addr} {o : Obj} {es : Array DictEntry} {n : Nat} (b : Str) (u : Tok) (ho : s.heap.get? l = some o) (hc : o.cls = .type "dict") (hd : o.data = .dict es n) (hu : A.units < cLine) : RcAt A s (.str b u) (.ref l) false := fun prog w E Q h => by
  obtain ⟨cls, dd, data, sl⟩ := o
  simp only at hc hd
  subst hc hd
  exact rc_eq_decline_or (k := false) (typeIs_str s b u) ⟨_, ho, rfl⟩ (by decide) F.sub_dict_str F.slot_str_eq F.slot_dict_eq_refl
    (fun _ hq => call_meets F.slot_str_eq (typeIs_str s b u) F.entry_str_eq (F.args_str_eq_2 _ _) (str_eq_declines_dict b u l es n dd sl) ⟨ho, hq⟩)
    (fun _ hq => call_meets F.slot_dict_eq_refl ⟨_, ho, rfl⟩ F.entry_dict_eq (F.args_dict_eq_2 _ _) (dict_eq_declines_str l es n dd sl b u) ⟨ho, hq⟩)
    (fun _ hq => wpAny_of_eq (rfl : isSame (.str b u) (.ref l) = pure false) hq) (.inr hu) h
theorem eq_str_dict {l : Addr} {o : Obj} {es : Array DictEntry} {n : Nat} (b : Str) (u : Tok) (ho : s.heap.get? l = some o) (hc : o.cls = .type "dict") (hd : o.data = .dict es n) (hu : A.units < cLine) : EqAt A s (.str b u) (.ref l) false := fun prog w E Q h => by
  unfold eqBool
  refine wpAny_holding ?_
  refine wpAny_ite_split (fun hab => absurd (eq_of_beq hab) nofun) (fun _ => ?_)
  exact wpAny_bind (rc_str_dict b u ho hc hd hu prog w E _ (wpAny_truthy_bool h))
end
section
variable {X : Cx} {pins : List (Addr × Obj)} {σ : L2.St} {H : Hp} {s : Shared}
theorem dict_obj {a : Addr} {kvs : List (Key × V)} (I : Inv X pins σ H s) (e : H a = some (.dK kvs)) : ∃ (o : Obj) (es : Array DictEntry) (n : Nat), s.heap.get? a = some o ∧ o.cls = .type "dict" ∧ o.data = .dict es n := by
  obtain ⟨_, _, vs, _, o, es, ep, h1, h2, h3, _⟩ := (show ObjOk X.prog X.w H s.heap a (.dK kvs) from I.hok a _ e)
  exact ⟨o, es, ep, h1, h2.1, h3⟩
theorem tup_obj {a : Addr} {xs : List V} (I : Inv X pins σ H s) (e : H a = some (.tup xs)) : ∃ its : List Value, Vals xs its ∧ s.heap.IsTuple a its.toArray := by
  obtain ⟨_, its, r, t⟩ := (show ObjOk X.prog X.w H s.heap a (.tup xs) from I.hok a _ e)
  exact ⟨its, r, t⟩
theorem lst_obj {a : Addr} {xs : List V} (I : Inv X pins σ H s) (e : H a = some (.lst xs)) : ∃ its : List Value, Vals xs its ∧ s.heap.IsList a its.toArray := by
  obtain ⟨_, its, n, r, t⟩ := (show ObjOk X.prog X.w H s.heap a (.lst xs) from I.hok a _ e)
  exact ⟨its, r, ⟨_, t, rfl, n, rfl⟩⟩
/-- x != t, t a text -/
def rNeAn : R2 := fun x y H Q => ∃ ms d t, An ms H x d ∧ y = .str t ∧ Q (.bl (!isThe t d)) H
theorem op_neAn (hu : X.A.units < cLine) : OpR X (compareOp .NotEq) rNeAn := by
  intro pins s σ H x y v u Q I rx ry h
  obtain ⟨ms, d, t, hx, rfl, q⟩ := h
  obtain ⟨tk, rfl⟩ := ry
  have fin : ∀ b : Bool, (!isThe t d) = b → EP X pins σ Q (.bool b) s := fun b e => ⟨.bl b, H, I, rfl, e ▸ q⟩
  show wpAny _ _ (richCompare .NotEq v (.str t tk)) _ _ s
  cases hx with
  | non =>
    cases rx
    exact RcNeAt.none_str t tk _ _ _ _ (fin _ rfl)
  | bl b =>
    cases rx
    exact RcNeAt.bool_str b t tk _ _ _ _ (fin _ rfl)
  | int i =>
    obtain ⟨t2, rfl⟩ := rx
    exact RcNeAt.int_str i t2 t tk _ _ _ _ (fin _ rfl)
  | str g =>
    obtain ⟨t2, rfl⟩ := rx
    refine RcNeAt.str_str g t2 t tk _ _ _ _ (fin _ ?_)
    show (!decide (g = t)) = !(g == t)
    by_cases e : g = t
    · subst e
      simp
    · simp [e]
  | @lst a xs ds e n hd =>
    cases rx
    obtain ⟨its, r, p⟩ := lst_obj I e
    exact RcNeAt.list_str t tk p hu _ _ _ _ (fin _ rfl)
  | @tup a xs ds e hd =>
    cases rx
    obtain ⟨its, r, p⟩ := tup_obj I e
    exact RcNeAt.tuple_str t tk p hu _ _ _ _ (fin _ rfl)
  | @dct a kvs ds e n hd =>
    cases rx
    obtain ⟨o, es, ep, h1, h2, h3⟩ := dict_obj I e
    exact rcNe_dict_str t tk h1 h2 h3 hu _ _ _ _ (fin _ rfl)
/-- x in (t, ..), a tuple or list of texts -/
def rInAn (K : PySem.W.Frag) : R2 := fun x y H Q => ∃ (ms : List Addr) (d : PyData) (p : Addr) (ts : List Str), An ms H x d ∧ y = .ref p ∧ SqT K H p (ts.map V.str) ∧ Q (.bl (ts.any fun t => isThe t d)) H
theorem op_inAn (hu : X.A.units + 1 < cLine) : OpR X (compareOp .In) (rInAn X.K) := by
  intro pins s σ H x y v u Q I rx ry h
  obtain ⟨ms, d, p, ts, hx, rfl, hq, q⟩ := h
  cases ry
  obtain ⟨its, r, pl, hz⟩ := I.tuple hq
  let eU : Value → Bool := fun w => match w with
    | .str z _ => isThe z d
    | _ => false
  have ev : ∀ (ts : List Str) (us : List Value), Vals (ts.map V.str) us → us.any eU = ts.any fun t => isThe t d := by
    intro ts
    induction ts with
    | nil =>
      intro us h
      cases h
      rfl
    | cons t r ih =>
      intro us h
      cases h with
      | cons a b =>
        obtain ⟨tk, rfl⟩ := a
        rw [List.any_cons, List.any_cons, ih _ b]
  have each : ∀ (ts : List Str) (us : List Value), Vals (ts.map V.str) us → ∀ w ∈ us, ∃ z tk, w = .str z tk := by
    intro ts
    induction ts with
    | nil =>
      intro us h
      cases h
      exact fun w hw => absurd hw List.not_mem_nil
    | cons t r ih =>
      intro us h
      cases h with
      | cons a b =>
        obtain ⟨tk, rfl⟩ := a
        intro w hw
        rcases List.mem_cons.mp hw with rfl | hw
        · exact ⟨_, _, rfl⟩
        · exact ih _ b w hw
  refine SeqAt.in_tupleAt eU pl (fun w hw => ?_) ⟨.bl _, H, I, rfl, ?_⟩
  · obtain ⟨z, tk, rfl⟩ := each ts its r w (by simpa using hw)
    cases hx with
    | non =>
      cases rx
      exact EqAt.str_none z tk
    | bl b =>
      cases rx
      exact EqAt.str_bool z tk b
    | int i =>
      obtain ⟨t2, rfl⟩ := rx
      exact EqAt.str_int z tk i t2
    | str g =>
      obtain ⟨t2, rfl⟩ := rx
      have e : eU (.str z tk) = (z == g) := by
        show decide (g = z) = (z == g)
        by_cases e : g = z
        · subst e
          simp
        · have e2 : ¬ z = g := fun h => e h.symm
          simp [e, e2]
      rw [e]
      exact EqAt.str_str z tk g t2
    | @lst a xs ds e n hd =>
      cases rx
      obtain ⟨its, r, p⟩ := lst_obj I e
      exact EqAt.str_list z tk p (show X.A.units + 1 < cLine from hu)
    | @tup a xs ds e hd =>
      cases rx
      obtain ⟨its, r, p⟩ := tup_obj I e
      exact EqAt.str_tuple z tk p (show X.A.units + 1 < cLine from hu)
    | @dct a kvs ds e n hd =>
      cases rx
      obtain ⟨o, es, ep, h1, h2, h3⟩ := dict_obj I e
      exact eq_str_dict z tk h1 h2 h3 (show X.A.units + 1 < cLine from hu)
  · rw [show its.toArray.any eU = its.any eU by simp, ev ts its r]
    exact q
/-- t == (), t any tuple -/
def rEqE : R2 := fun x y H Q => ∃ a b xs, x = .ref a ∧ y = .ref b ∧ H a = some (.tup xs) ∧ H b = some (.tup []) ∧ Q (.bl xs.isEmpty) H
theorem op_eqE (hu : X.A.units + 64 < cLine) : OpR X (compareOp .Eq) rEqE := by
  intro pins s σ H x y v u Q I rx ry h
  obtain ⟨a, b, xs, rfl, rfl, h1, h2, q⟩ := h
  cases rx
  cases ry
  obtain ⟨its, r, p⟩ := tup_obj I h1
  obtain ⟨its2, r2, p2⟩ := tup_obj I h2
  cases r2
  refine PySem.W.eq_tuplesT (n := 1) (e := fun _ => true) p p2 (fun j h1 h2 => absurd h2 (by simp)) (by omega) ⟨.bl xs.isEmpty, H, I, ?_, q⟩
  cases r with
  | nil => rfl
  | cons _ _ => rfl

end
end Ey
set_option maxHeartbeats 4000000
namespace Ey
open PySem PySem.Spec L2
/-! ### a list of one's own as a pile, its top first -/
theorem pile_top (x : V) (us : List V) : ((x :: us).reverse)[(x :: us).reverse.length - 1]? = some x := by
  rw [List.reverse_cons, List.length_append]
  show (us.reverse ++ [x])[us.reverse.length + 1 - 1]? = some x
  rw [Nat.add_sub_cancel, List.getElem?_append_right (Nat.le_refl _), Nat.sub_self]
  rfl
theorem pile_pop (x : V) (us : List V) : ((x :: us).reverse).dropLast = us.reverse := by
  rw [List.reverse_cons]
  exact List.dropLast_concat
theorem pile_push (x : V) (us : List V) : us.reverse ++ [x] = (x :: us).reverse := (List.reverse_cons).symm
theorem Kp.own {ms : List Addr} {H H1 : Hp} {p : Addr} {o : HO} (k : Kp ms H H1) (n : H p = none) : Kp ms H (upd H1 p o) :=
  ⟨fun b u e h => by rw [upd_ne (ne_of_none e n)]; exact k.at_ b u e h, fun b xs e => by rw [upd_ne (ne_of_none e n)]; exact k.tup b xs e⟩
theorem tabg_kp {ms : List Addr} {H H1 : Hp} {P : Addr} (g : GxR.TabG H P) (k : Kp ms H H1) (n : P ∉ ms) : GxR.TabG H1 P := by
  obtain ⟨ps, h, t⟩ := g
  exact ⟨ps, k.at_ _ _ h n, t⟩
theorem tabg_upd {H : Hp} {P p : Addr} {o : HO} (g : GxR.TabG H P) (n : P ≠ p) : GxR.TabG (upd H p o) P := by
  obtain ⟨ps, h, t⟩ := g
  exact ⟨ps, by rw [upd_ne n]; exact h, t⟩
/-- H' is H but for the table at P -/
abbrev Tb (P : Addr) (H H' : Hp) : Prop := GxR.Tabbed P H H'
theorem tb_refl {P : Addr} {H : Hp} (h : GxR.TabG H P) : Tb P H H := ⟨h, fun _ _ => rfl⟩
theorem tb_kp {P : Addr} {H H1 : Hp} (g : GxR.TabG H P) (a : Tb P H H1) : Kp [P] H H1 := by
  refine ⟨fun b o e n => ?_, fun b xs e => ?_⟩
  · rw [a.2 b (fun q => n (by rw [q]; simp))]
    exact e
  · rw [a.2 b (fun q => ?_)]
    · exact e
    · obtain ⟨ps, h, _⟩ := g
      rw [q, h] at e
      cases e
/-- the tables of all defs that have generators -/
def TTs (Ts : List Addr) (H : Hp) : Prop := ∀ P ∈ Ts, GxR.TabG H P
theorem TTs.tab {Ts : List Addr} {H H1 : Hp} {P : Addr} (h : TTs Ts H) (hP : P ∈ Ts) (t : Tb P H H1) : TTs Ts H1 ∧ Kp Ts H H1 := by
  refine ⟨fun q hq => ?_, (tb_kp (h P hP) t).more fun x hx => by rw [List.mem_singleton.mp hx]; exact hP⟩
  by_cases e : q = P
  · rw [e]
    exact t.1
  · obtain ⟨ps, a, b⟩ := h q hq
    exact ⟨ps, (t.2 q e).trans a, b⟩
theorem TTs.kp {ms Ts : List Addr} {H H1 : Hp} (h : TTs Ts H) (k : Kp ms H H1) (n : ∀ P ∈ Ts, P ∉ ms) : TTs Ts H1 := fun P hP => tabg_kp (h P hP) k (n P hP)
theorem TTs.kp0 {Ts : List Addr} {H H1 : Hp} (h : TTs Ts H) (k : Kp [] H H1) : TTs Ts H1 := h.kp k fun _ _ => List.not_mem_nil
theorem TTs.ne {Ts : List Addr} {H : Hp} {P p : Addr} (h : TTs Ts H) (hP : P ∈ Ts) (n : H p = none) : P ≠ p := by
  obtain ⟨ps, e, _⟩ := h P hP
  exact ne_of_none e n
theorem TTs.nin {Ts : List Addr} {H : Hp} {p : Addr} (h : TTs Ts H) (n : H p = none) : p ∉ Ts := fun hp => h.ne hp n rfl
theorem TTs.nino {Ts : List Addr} {H : Hp} {p : Addr} {o : HO} (h : TTs Ts H) (e : H p = some o) (no : ∀ ps, o ≠ .tbl ps) : p ∉ Ts := fun hp => by
  obtain ⟨ps, e2, _⟩ := h p hp
  rw [e2] at e
  exact no ps (Option.some.inj e).symm
/-- all(..) over a tuple that stays -/
theorem all_tup {K : PySem.W.Frag} {a : Addr} {xs : List V} {te : TE} {Q : VK} {H1 : Hp} (Pv : Nat → Hp → Prop) (h0 : Pv 0 H1) (hl : ∀ i H, Pv i H → SqT K H a xs)
    (hs : ∀ i x H, xs[i]? = some x → Pv i H → te [some x] H fun y H3 => ∃ b, y = .bl b ∧ if b = true then Pv (i + 1) H3 else Q (.bl false) H3) (hd : ∀ H, Pv xs.length H → Q (.bl true) H) :
    ∃ (n0 : Nat) (W : Nat → Hp → Prop), W 0 H1 ∧ ∀ i H', W i H' → (i < n0 ∧ (Itt K a).go i H' ∧ ∀ v H'', (Itt K a).yld i H' v H'' → te [some v] H'' fun y H3 => ∃ b, y = .bl b ∧ if b = true then W (i + 1) H3 else Q (.bl false) H3) ∨ ((Itt K a).stop i H' ∧ Q (.bl true) H') := by
  refine ⟨xs.length, fun i H => i ≤ xs.length ∧ Pv i H, ⟨Nat.zero_le _, h0⟩, fun i H ⟨hi, p⟩ => ?_⟩
  have q := hl i H p
  by_cases lt : i < xs.length
  · refine .inl ⟨lt, ⟨xs, xs[i], q, List.getElem?_eq_getElem lt⟩, fun v H'' y => ?_⟩
    obtain ⟨e, y⟩ := y
    subst e
    have h := hs i v H'' (y xs q) p
    have e : (fun (y : V) (H3 : Hp) => ∃ b, y = .bl b ∧ if b = true then (i + 1 ≤ xs.length ∧ Pv (i + 1) H3) else Q (.bl false) H3) = fun y H3 => ∃ b, y = .bl b ∧ if b = true then Pv (i + 1) H3 else Q (.bl false) H3 := by
      funext y H3
      refine propext ⟨fun ⟨b, e, h⟩ => ⟨b, e, ?_⟩, fun ⟨b, e, h⟩ => ⟨b, e, ?_⟩⟩
      · cases b
        · exact h
        · rw [if_pos rfl] at h ⊢
          exact h.2
      · cases b
        · exact h
        · rw [if_pos rfl] at h ⊢
          exact ⟨lt, h⟩
    rw [e]
    exact h
  · have e : i = xs.length := by omega
    subst e
    exact .inr ⟨⟨xs, q, Nat.le_refl _⟩, hd H p⟩
/-- a tuple of the written part -/
def KTup (K : PySem.W.Frag) (a : Addr) (xs : List V) : Prop := ∃ (o : Obj) (its : Array Value) (n : Nat), K.lookup a = some o ∧ o.cls = .type "tuple" ∧ o.data = .seq its n ∧ its.size ≤ sizeLine ∧ Vals xs its.toList
theorem KTup.sqt {K : PySem.W.Frag} {a : Addr} {xs : List V} (h : KTup K a xs) (H : Hp) : SqT K H a xs := by
  obtain ⟨o, its, n, h1, h2, h3, h4, h5⟩ := h
  exact .inr ⟨o, its, n, h1, h2, h3, h4, h5⟩
/-- a dict of the written part: its keys are just these -/
def keyS (e : DictEntry) : Option Str := match e.key with
  | .str x _ => some x
  | _ => none
theorem no_key {K : PySem.W.Frag} {a : Addr} {o d : _} {es : Array DictEntry} {n : Nat} {sl : _} {ks : List Str} (h : K.lookup a = some ⟨o, d, .dict es n, sl⟩) (hk : es.toList.map keyS = ks.map some) {z : Str} (hz : z ∉ ks) : PySem.W.nsIn K a z = some none := by
  have all : ∀ e ∈ es.toList, ∃ x t, e.key = .str x t ∧ x ∈ ks := fun e he => by
    have m : keyS e ∈ ks.map some := hk ▸ List.mem_map.mpr ⟨e, he, rfl⟩
    obtain ⟨x, hx, ex⟩ := List.mem_map.mp m
    unfold keyS at ex
    split at ex
    · rename_i x' t' e'
      refine ⟨x', t', e', ?_⟩
      rw [← Option.some.inj ex]
      exact hx
    · cases ex
  unfold PySem.W.nsIn
  rw [h]
  have f : es.toList.find? (fun e => e.key.isStr z) = none := List.find?_eq_none.mpr fun e he q => by
    obtain ⟨x, t, e1, e2⟩ := all e he
    rw [e1] at q
    have : (x == z) = true := q
    rw [beq_iff_eq] at this
    exact hz (this ▸ e2)
  show (match es.toList.find? (fun e => e.key.isStr z) with
    | some e => some (some e.val)
    | none => if es.toList.any (fun e => e.refKey) then none else some none) = some none
  rw [f]
  have g : es.toList.any (fun e => e.refKey) = false := List.any_eq_false.mpr fun e he q => by
    obtain ⟨x, t, e1, e2⟩ := all e he
    unfold DictEntry.refKey at q
    rw [e1] at q
    cases q
  show (if es.toList.any (fun e => e.refKey) = true then none else some none) = some none
  rw [g]
  rfl
theorem fn_any {ι : Type} {P : Program} {w : World} {K : PySem.W.Frag} {mg : Str → Option Value} {base : Heap} {CX : CXT} {k : Nat} {f : Addr} {fd : FuncData} {ps : List Str} {sp : ι → Sp} (h : ∀ i, FnOk P w K mg base CX k f fd ps (sp i)) :
    FnOk P w K mg base CX k f fd ps (fun vs H Q E => ∃ i, sp i vs H Q E) :=
  ⟨fun vs H Q E ⟨i, q⟩ => (h i).len vs H Q E q, fun A outer s H args us vs Q E hr e b v ⟨i, q⟩ => (h i).run A outer s H args us vs Q E hr e b v q⟩
/-- repr of any data -/
def rReprE : List V → Hp → VK → Prop := fun xs H Q => ∃ ms, rReprA ms xs H Q
theorem cr_reprE {X : Cx} {k : Nat} (hs : ∃ mm, X.base.Ns sysModules mm) (hg : X.A.guards = some []) (hr : Room k X.A) : CallR X (.builtin "repr") rReprE := by
  intro pins s σ H xs us Q I r h
  obtain ⟨ms, h⟩ := h
  exact cr_reprA (ms := ms) hs hg hr pins s σ H xs us Q I r h
end Ey
set_option maxHeartbeats 4000000
namespace Ey
open PySem PySem.Calls PySem.Spec PyProof.Rows L2 HT
section
variable {prog : Program} {w : World} {A : Around} {E : Value → Shared → Prop} {s : Shared}
theorem ey_steps (n : Nat) : Builtin.Slice.slicePlaces ((n : Int) - 1) (-1) (-1) = n := by
  unfold Builtin.Slice.slicePlaces
  rw [if_neg (by decide)]
  by_cases hn : (n : Int) - 1 > -1
  · rw [if_pos hn]
    have q : (- -1 : Int) = 1 := by decide
    rw [q, Int.ediv_one]
    omega
  · rw [if_neg hn]
    omega
theorem ey_applied_rev {sl : Addr} {vl vu vs : Value} {n : Nat} {Q : Int × Int × Nat → Shared → Prop} (q : s.heap.IsSliceOf sl vl vu vs) (pl : IsPart vl none) (pu : IsPart vu none) (ps : IsPart vs (some (-1)))
    (h : Q ((n : Int) - 1, -1, n) s) : wpAny (model prog w) A (Builtin.Slice.sliceApplied (.ref sl) (pure (n : Int))) Q E s := by
  obtain ⟨ob, hob, hcl, hda⟩ := id q
  unfold Builtin.Slice.sliceApplied Builtin.Slice.sliceFields
  refine wpAny_bind (wpAny_bind (wpAny_field hob hda (x := vl) rfl (wpAny_bind (wpAny_field hob hda (x := vu) rfl (wpAny_bind (wpAny_field hob hda (x := vs) rfl (wpAny_pure ?_)))))))
  refine wpAny_bind (slicePart_ ps ?_)
  show wpAny _ _ (if ((-1 : Int) == 0) = true then _ else _) _ _ s
  rw [if_neg (by decide)]
  refine wpAny_bind (slicePart_ pl (wpAny_bind (slicePart_ pu (wpAny_bind (wpAny_pure ?_)))))
  show wpAny _ _ (pure ((n : Int) - 1, (-1 : Int), Builtin.Slice.slicePlaces ((n : Int) - 1) (-1) (-1))) _ _ s
  rw [ey_steps]
  exact wpAny_pure h
theorem ey_back (xs : Array Value) : ((List.range xs.size).filterMap fun (m : Nat) => xs[((xs.size : Int) - 1 + (m : Int) * -1).toNat]?).toArray = xs.toList.reverse.toArray := by
  congr 1
  refine List.ext_getElem? fun i => ?_
  have key : ∀ m, m < xs.size → xs[((xs.size : Int) - 1 + (m : Int) * -1).toNat]? = (xs.toList.reverse)[m]? := fun m hm => by
    have e : ((xs.size : Int) - 1 + (m : Int) * -1).toNat = xs.size - 1 - m := by omega
    rw [e, List.getElem?_reverse (by rw [Array.length_toList]; exact hm), Array.length_toList, Array.getElem?_toList]
  have all : ∀ l : List Nat, (∀ m ∈ l, m < xs.size) → (l.filterMap fun (m : Nat) => xs[((xs.size : Int) - 1 + (m : Int) * -1).toNat]?) = l.filterMap fun m => (xs.toList.reverse)[m]? := fun l => by
    induction l with
    | nil => intro _; rfl
    | cons a r ih =>
      intro h
      rw [List.filterMap_cons, List.filterMap_cons, key a (h a List.mem_cons_self), ih fun m hm => h m (List.mem_cons_of_mem _ hm)]
  rw [all _ fun m hm => List.mem_range.mp hm]
  have fin : ∀ ys : List Value, (List.range ys.length).filterMap (fun m => ys[m]?) = ys := fun ys => by
    induction ys with
    | nil => rfl
    | cons y r ih =>
      rw [List.length_cons, List.range_succ_eq_map, List.filterMap_cons]
      show y :: List.filterMap _ _ = _
      rw [List.filterMap_map]
      exact congrArg (List.cons y) ih
  have := fin xs.toList.reverse
  rw [List.length_reverse, Array.length_toList] at this
  rw [this]
theorem ey_tuple_rev {tp sl : Addr} {items : Array Value} {vl vu vs : Value} {Q : Value → Shared → Prop} (it : IsTup s.heap tp items) (q : s.heap.IsSliceOf sl vl vu vs) (pl : IsPart vl none) (pu : IsPart vu none) (ps : IsPart vs (some (-1)))
    (h : Q (.ref s.heap.objs.size) { s with heap := s.heap.push { cls := .type "tuple", data := .seq items.toList.reverse.toArray } })
    (hz : items.size ≤ sizeLine) : wpAny (model prog w) A (getItem (.ref tp) (.ref sl)) Q E s := by
  have fits : sizeOk (.seq items.toList.reverse.toArray) := by
    show items.toList.reverse.toArray.size ≤ sizeLine
    rw [List.size_toArray, List.length_reverse, Array.length_toList]
    exact hz
  obtain ⟨ob, hob, hcl, hda⟩ := id q
  have kind : s.TypeIs (.ref sl) "slice" := ⟨ob, hob, hcl⟩
  unfold getItem
  try with_reducible refine wpAny_holding ?_
  first | refine wpAny_bind (wpAny_pure ?_) | skip
  refine wpAny_bind (wpAny_sequenceKey it.typeIs (by decide) ?_)
  refine wpAny_bind (wpAny_callSpecial?_slot (name := Str.ofString "__getitem__") it.typeIs PyProof.Rows.slot_tuple_getitem (wpAny_call_entry PyProof.Rows.slot_tuple_getitem it.typeIs entry_tuple_getitem ?_ (args_tuple_getitem _ _)))
  show wpAny _ _ (Builtin.Tuple.tupleItemsOf (.ref tp) >>= _) _ _ s
  refine wpAny_bind (tupleItemsOf_ it ?_)
  refine wpAny_bind (wpAny_typeOf kind ?_)
  rw [if_pos (by decide)]
  refine wpAny_bind (ey_applied_rev q pl pu ps ?_)
  have off : ¬ ((((items.size : Int) - 1 == 0) && ((-1 : Int) == 1) && (items.size == items.size)) = true) := by
    rw [show ((-1 : Int) == 1) = false from rfl, Bool.and_false, Bool.false_and]
    exact Bool.false_ne_true
  show wpAny _ _ (if (((items.size : Int) - 1 == 0) && ((-1 : Int) == 1) && (items.size == items.size)) = true then _ else _) _ _ s
  rw [if_neg off, ey_back]
  first
    | exact wpAny_bind (m := Builtin.Tuple.tupleExact _) (wpAny_newObj_type (wpAny_pure ⟨_, rfl, wpAny_pure h⟩) fits)
    | exact wpAny_bind (m := Builtin.Tuple.tupleExact _) (wpAny_newObj_type (wpAny_bind (wpAny_pure (wpAny_pure ⟨_, rfl, wpAny_pure h⟩))) fits)
    | exact wpAny_bind (wpAny_bind (m := Builtin.Tuple.tupleExact _) (wpAny_newObj_type (wpAny_pure (wpAny_pure ⟨_, rfl, wpAny_pure h⟩)) fits))
    | exact wpAny_bind (wpAny_bind (m := Builtin.Tuple.tupleExact _) (wpAny_newObj_type (wpAny_pure ⟨_, rfl, wpAny_pure h⟩) fits))
end
section
variable {X : Cx}
/-- e[::-1], e a tuple or a text -/
def tRevA (K : PySem.W.Frag) (te : TE) : TE := fun σ H Q => te σ H fun x H1 => (∃ a xs, x = .ref a ∧ SqT K H1 a xs ∧ ∀ p, H1 p = none → Q (.ref p) (upd H1 p (.tup xs.reverse))) ∨ ∃ p : List Nat, x = .str (st p) ∧ p.length ≤ sizeLine ∧ Q (.str (st p.reverse)) H1
theorem sb_rev (p : List Nat) (u : Tok) : Txt.sliceBy (st p) none none (-1, u) = st p.reverse := by
  have e := step_rev_list (st p) u
  have e2 : (Txt.sliceBy (st p) none none (-1, u)) = st ((List.range p.length).map fun k => p.toArray.getD (p.length - 1 - k) 0) := by
    rw [st_of (Txt.sliceBy (st p) none none (-1, u)), e]
    rfl
  rw [e2]
  congr 1
  refine List.ext_getElem? fun i => ?_
  rw [List.getElem?_map]
  by_cases hi : i < p.length
  · rw [List.getElem?_range hi, List.getElem?_reverse hi]
    show some (p.toArray.getD (p.length - 1 - i) 0) = _
    rw [List.getElem?_eq_getElem (by omega)]
    congr 1
    simp [Array.getD, show p.length - 1 - i < p.length by omega]
  · rw [List.getElem?_eq_none (by rw [List.length_range]; omega), List.getElem?_eq_none (by rw [List.length_reverse]; omega)]
    rfl
theorem pe_revA {e : Expr} {te : TE} {k : Nat} {p1 p2 p3 pos : Pos} (he : PE X e te) : PE X (.Subscript e (.Slice none none (some (.UnaryOp .USub (.Constant (.int 1) k p1) p2)) p3) pos) (tRevA X.K te) := by
  refine ⟨fun pins s σ H Q I h => ?_⟩
  refine Subscript_ (thn (he.run pins s σ H _ I h) fun v s1 ⟨x, H1, I1, r1, q1⟩ => ?_)
  have step : PO X (some (.UnaryOp .USub (.Constant (.int 1) k p1) p2)) (tPart (tUn (rU fun i => .int (-i)) (tC (.int 1)))) := po_some (pe_un un_neg pe_int)
  refine wpAny_Slice (thn (po_none.run pins s1 σ H1 (fun o H2 => o = none ∧ H2 = H1) I1 ⟨rfl, rfl⟩) fun vl s2 ⟨lo, H2, I2, pl, ea, eb⟩ => ?_)
  subst ea eb
  refine thn (po_none.run pins s2 σ H2 (fun o H3 => o = none ∧ H3 = H2) I2 ⟨rfl, rfl⟩) fun vu s3 ⟨up, H3, I3, pu, ec, ed⟩ => ?_
  subst ec ed
  refine thn (step.run pins s3 σ H3 (fun o H4 => o = some (-1) ∧ H4 = H3) I3 ⟨1, rfl, -1, rfl, rfl, rfl⟩) fun vs s4 ⟨o, H4, I4, pst, ee, ef⟩ => ?_
  subst ee ef
  have I5 : Inv X pins σ H4 { s4 with heap := s4.heap.push { cls := .type "slice", data := .fields #[vl, vu, vs] } } := I4.kept (t' := s4.toks) fun b ob q => Heap.get?_push_of_some _ q
  rcases q1 with ⟨a, xs, ex, hx, q⟩ | ⟨p, ex, hz, q⟩
  · subst ex
    cases r1
    obtain ⟨its, r, it, hz⟩ := I5.tuple hx
    have hlen : its.toArray.size = xs.length := by rw [List.size_toArray]; exact r.length.symm
    show wpAny (model X.prog X.w) X.A (subscriptTail e (.Slice none none (some (.UnaryOp .USub (.Constant (.int 1) k p1) p2)) p3) (.ref a) (.ref s4.heap.objs.size)) (EP X pins σ Q) X.xe { s4 with heap := s4.heap.push { cls := .type "slice", data := .fields #[vl, vu, vs] } }
    refine tail_any (ops := [.ref a, .ref s4.heap.objs.size]) it.typeIs PyProof.Rows.slot_tuple_getitem.lookup ?_ (by with_unfolding_all rfl)
    refine ey_tuple_rev it (Heap.IsSliceOf.new _ vl vu vs) pl pu pst ?_ (by rw [hlen]; exact hz)
    refine ⟨.ref _, _, I5.laid (t' := s4.toks) (o := .tup xs.reverse) (fun b ob q => Heap.get?_push_of_some _ q) (Nat.le_refl _) ?_, rfl, q _ (I5.hok.fresh (Nat.le_refl _))⟩
    refine ⟨by rw [List.length_reverse]; exact hz, its.reverse, r.reverse, ?_⟩
    have := IsTup.new { s4 with heap := s4.heap.push { cls := .type "slice", data := .fields #[vl, vu, vs] } }.heap its.reverse.toArray
    simpa using this
  · subst ex
    obtain ⟨t, rfl⟩ := r1
    cases pl
    cases pu
    cases pst with
    | int _ u =>
      show wpAny (model X.prog X.w) X.A (subscriptTail e (.Slice none none (some (.UnaryOp .USub (.Constant (.int 1) k p1) p2)) p3) (.str (st p) t) (.ref s4.heap.objs.size)) (EP X pins σ Q) X.xe { s4 with heap := s4.heap.push { cls := .type "slice", data := .fields #[.none, .none, .int (-1) u] } }
      refine tail_any (ops := [.str (st p) t, .ref s4.heap.objs.size]) (typeIs_str _ _ _) F.slot_str_getitem.lookup ?_ (by with_unfolding_all rfl)
      refine wpAny_getItem_str_slice (l := none) (u := none) (st := some (-1, u)) ⟨_, Heap.get?_push_size _ rfl, rfl, rfl⟩ rfl ?_
      have made : sliceMade (st p) t none none (some (-1, u)) = .str (st p.reverse) := by
        rw [← sb_rev p u]
        rfl
      rw [made]
      refine ⟨?_, .str (st p.reverse), _, I5.tok _, ⟨_, rfl⟩, q⟩
      rw [st_len, List.length_reverse]
      exact hz
end
end Ey
set_option maxHeartbeats 4000000
namespace Ey
open PySem PySem.Spec L2
/-- a comprehension over a text -/
theorem lcStr {z : Str} {g : TG} {tests : TT} {each : TE} {slots : List Nat} {σ : L2.St} {H1 : Hp} {D : Addr} {Qd : Hp → Prop} (Pv : Nat → Hp → Prop) (h0 : Pv 0 (upd H1 D (.lst [])))
    (hs : ∀ i c H, z.cps.toList[i]? = some c → Pv i H → g (.str (st [c])) (wipe σ slots) H fun σ2 H2 => wipe σ2 slots = wipe σ slots ∧ tests σ2 H2 fun b H3 => if b = true then each σ2 H3 fun y H4 => ∃ acc, H4 D = some (.lst acc) ∧ acc.length < sizeLine ∧ Pv (i + 1) (upd H4 D (.lst (acc ++ [y]))) else Pv (i + 1) H3)
    (hd : ∀ H, Pv z.cps.toList.length H → Qd H) :
    ∃ W : Nat → Nat → Hp → Prop, (∃ m, W 0 m (upd H1 D (.lst []))) ∧ ∀ i m H, W i m H → ((Its z).stop i H ∧ Qd H) ∨ ((Its z).go i H ∧ ∃ Nx : Hp → Prop, (∀ H', Nx H' → ∃ m', m' < m ∧ W (i + 1) m' H') ∧ ∀ x H', (Its z).yld i H x H' → g x (wipe σ slots) H' fun σ2 H2 => wipe σ2 slots = wipe σ slots ∧ tests σ2 H2 fun b H3 => if b = true then each σ2 H3 fun y H4 => ∃ acc, H4 D = some (.lst acc) ∧ acc.length < sizeLine ∧ Nx (upd H4 D (.lst (acc ++ [y]))) else Nx H3) := by
  refine ⟨fun i m H => m = z.cps.size - i ∧ i ≤ z.cps.size ∧ Pv i H, ⟨_, rfl, Nat.zero_le _, h0⟩, fun i m H hw => ?_⟩
  obtain ⟨rfl, hi, p⟩ := hw
  by_cases lt : i < z.cps.size
  · refine .inr ⟨lt, Pv (i + 1), fun H' p' => ⟨z.cps.size - (i + 1), by omega, rfl, lt, p'⟩, fun v H' y => ?_⟩
    obtain ⟨rfl, c, hc, rfl⟩ := y
    exact hs i c _ (by rw [Array.getElem?_toList]; exact hc) p
  · have e : i = z.cps.size := by omega
    subst e
    exact .inl ⟨Nat.le_refl _, hd H (by rw [Array.length_toList]; exact p)⟩
theorem wd_get {ds : List PyData} {i : Nat} {d : PyData} (h : ds[i]? = some d) : wd d + 2 ≤ wdAll ds := by
  induction ds generalizing i with
  | nil => cases h
  | cons x r ih =>
    cases i with
    | zero =>
      have q : x = d := Option.some.inj h
      rw [q]
      show wd d + 2 ≤ wd d + 2 + wdAll r
      omega
    | succ i =>
      have := ih h
      show wd d + 2 ≤ wd x + 2 + wdAll r
      omega
theorem len_wd (ds : List PyData) : ds.length ≤ wdAll ds := by
  induction ds with
  | nil => exact Nat.le_refl _
  | cons x r ih =>
    show r.length + 1 ≤ wd x + 2 + wdAll r
    omega
theorem eqv_strs (ps : List Nat) : PyData.eqv (.list (ps.map fun c => .str (st [c]))) (.list []) = ps.isEmpty := by
  cases ps <;> rfl
theorem dp_signs {K : PySem.W.Frag} {H : Hp} : ∀ ps : List Nat, DpAll K H (ps.map fun c => V.str (st [c])) (ps.map fun c => .str (st [c]))
  | [] => .nil
  | c :: r => .cons (.str _) (dp_signs r)
theorem lay_signs : ∀ ps : List Nat, (∀ c ∈ ps, c < 1000) → PyData.canLayAll0 (ps.map fun c => .str (st [c])) = true ∧ PyData.depthAll (ps.map fun c => .str (st [c])) = 0
  | [], _ => ⟨rfl, rfl⟩
  | c :: r, h => by
    obtain ⟨a, b⟩ := lay_signs r fun x hx => h x (List.mem_cons_of_mem _ hx)
    refine ⟨?_, ?_⟩
    · show (PyData.canLay0 (.str (st [c])) && PyData.canLayAll0 (r.map fun c => .str (st [c]))) = true
      have q : PyData.canLay0 (.str (st [c])) = true := by
        have := h c List.mem_cons_self
        have e : (st [c]).cps = #[c] := rfl
        simp only [PyData.canLay0, PyData.strOk, e]
        simp
        omega
      rw [a, q]
      rfl
    · show max 0 (PyData.depthAll (r.map fun c => .str (st [c]))) = 0
      rw [b]
      rfl
theorem shaped_signs (ps : List Nat) (h : ∀ c ∈ ps, c < 1000) : SeqAt.shaped (.list (ps.map fun c => .str (st [c]))) = true := by
  obtain ⟨a, b⟩ := lay_signs ps h
  show (PyData.canLayAll0 (ps.map fun c => .str (st [c])) && decide (PyData.depthAll (ps.map fun c => .str (st [c])) + 1 ≤ 64)) = true
  rw [a, b]
  rfl
theorem isTag_alt (g : Str) (h1 : 1 ≤ g.length) (h2 : g.length ≤ 8) : isTag g = (g.cps.toList.filter fun c => !decide (c ∈ abc)).isEmpty := by
  rw [isTag, decide_eq_true h1, decide_eq_true h2]
  show (g.cps.toList.all fun c => decide (c ∈ abc)) = _
  generalize g.cps.toList = l
  induction l with
  | nil => rfl
  | cons a r ih =>
    rw [List.all_cons, List.filter_cons, ih]
    cases decide (a ∈ abc) <;> rfl
theorem take_filter {l : List Nat} {f : Nat → Bool} {i c : Nat} (h : l[i]? = some c) : (l.take (i + 1)).filter f = (l.take i).filter f ++ if f c = true then [c] else [] := by
  rw [List.take_add_one, h, List.filter_append]
  congr 1
  show List.filter f [c] = _
  rw [List.filter_cons]
  rfl
def wAny : Nat → Nat
  | 0 => 130
  | n + 1 => 3 * wAny n + 140
theorem wAny_ge : ∀ n, 130 ≤ wAny n
  | 0 => Nat.le_refl _
  | n + 1 => by
    have := wAny_ge n
    show 130 ≤ 3 * wAny n + 140
    omega
/-- what is told of a drawn value -/
structure Good (n w : Nat) (x : PyData) : Prop where
  f : fit x = true
  d : x.depth ≤ n
  w : wd x ≤ w
theorem Good.mono {n w n' w' : Nat} {x : PyData} (g : Good n w x) (h1 : n ≤ n') (h2 : w ≤ w') : Good n' w' x := ⟨g.f, Nat.le_trans g.d h1, Nat.le_trans g.w h2⟩
inductive GoodAll (n w : Nat) : List PyData → Prop
  | nil : GoodAll n w []
  | cons {x : PyData} {r : List PyData} : Good n w x → GoodAll n w r → GoodAll n w (x :: r)
theorem GoodAll.facts {n w : Nat} {ds : List PyData} (h : GoodAll n w ds) : fitAll ds = true ∧ PyData.depthAll ds ≤ n ∧ wdAll ds ≤ (w + 2) * ds.length := by
  induction h with
  | nil => exact ⟨rfl, Nat.zero_le _, Nat.zero_le _⟩
  | @cons x r g _ ih =>
    obtain ⟨a, b, c⟩ := ih
    refine ⟨?_, ?_, ?_⟩
    · show (fit x && fitAll r) = true
      rw [g.f, a]
      rfl
    · show max x.depth (PyData.depthAll r) ≤ n
      have := g.d
      omega
    · show wd x + 2 + wdAll r ≤ (w + 2) * (r.length + 1)
      have := g.w
      rw [Nat.mul_add]
      omega
theorem GoodAll.snoc {n w : Nat} {ds : List PyData} {x : PyData} (h : GoodAll n w ds) (g : Good n w x) : GoodAll n w (ds ++ [x]) := by
  induction h with
  | nil => exact .cons g .nil
  | cons a _ ih => exact .cons a ih
section
variable {ms ms' : List Addr} {H : Hp}
mutual
theorem An.mono (hs : ∀ x ∈ ms', x ∈ ms) : ∀ {v : V} (d : PyData), An ms H v d → An ms' H v d
  | _, .none, h => by cases h; exact .non
  | _, .bool b, h => by cases h; exact .bl b
  | _, .int i, h => by cases h; exact .int i
  | _, .str x, h => by cases h; exact .str x
  | _, .list ds, h => by
    cases h with
    | lst e n a => exact .lst e (fun q => n (hs _ q)) (AnAll.mono hs ds a)
  | _, .tuple ds, h => by
    cases h with
    | tup e a => exact .tup e (AnAll.mono hs ds a)
  | _, .dict ds, h => by
    cases h with
    | dct e n a => exact .dct e (fun q => n (hs _ q)) (AnKv.mono hs ds a)
theorem AnAll.mono (hs : ∀ x ∈ ms', x ∈ ms) : ∀ {vs : List V} (ds : List PyData), AnAll ms H vs ds → AnAll ms' H vs ds
  | _, [], h => by cases h; exact .nil
  | _, d :: r, h => by
    cases h with
    | cons a b => exact .cons (An.mono hs d a) (AnAll.mono hs r b)
theorem AnKv.mono (hs : ∀ x ∈ ms', x ∈ ms) : ∀ {vs : List (Key × V)} (ds : List (PyData × PyData)), AnKv ms H vs ds → AnKv ms' H vs ds
  | _, [], h => by cases h; exact .nil
  | _, (y, d) :: r, h => by
    cases h with
    | cons a b => exact .cons (An.mono hs d a) (AnKv.mono hs r b)
end
end
section
variable {X : Cx}
/-- t[lo:hi] of a tuple, as one case -/
def rCut : V → Option Int → Option Int → Hp → VK → Prop := fun x lo hi H Q => ∃ (a : Addr) (xs : List V), x = .ref a ∧ H a = some (.tup xs) ∧ ∀ (q : Addr) (H' : Hp), H' q = some (.tup (cutV xs lo hi)) → Kp [] H H' → Q (.ref q) H'
theorem sl_cut : SlR X rCut := by
  intro pins s σ H x v vl vu lo hi sl Q I rx hs pl pu h
  obtain ⟨a, xs, rfl, e, k⟩ := h
  refine sl_tupA pins s σ H _ v vl vu lo hi sl Q I rx hs pl pu ⟨a, xs, rfl, sqt_of e, fun w => k a H ?_ .refl, fun _ p np => k p _ upd_same (.new np)⟩
  have whole : cutV xs lo hi = xs := by
    unfold cutV
    rw [w.1, w.2, List.drop_zero, Nat.sub_zero, List.take_length]
  rw [whole]
  exact e
/-- t + u of tuples, as one case -/
def rCat2 : R2 := fun x y H Q => ∃ (a b : Addr) (xs ys : List V), x = .ref a ∧ y = .ref b ∧ H a = some (.tup xs) ∧ H b = some (.tup ys) ∧ xs.length + ys.length ≤ sizeLine ∧ ∀ (q : Addr) (H' : Hp), H' q = some (.tup (xs ++ ys)) → Kp [] H H' → Q (.ref q) H'
theorem op_cat2 : OpR X (binaryOp .Add) rCat2 := by
  intro pins s σ H x y v u Q I rx ry h
  obtain ⟨a, b, xs, ys, rfl, rfl, ea, eb, hz, k⟩ := h
  refine op_catA pins s σ H _ _ v u Q I rx ry ⟨a, b, xs, ys, rfl, rfl, sqt_of ea, sqt_of eb, hz, fun e => k b H ?_ .refl, fun _ e => k a H ?_ .refl, fun _ _ p np => k p _ upd_same (.new np)⟩
  · rw [e]
    exact eb
  · rw [e, List.append_nil]
    exact ea
theorem cut_take (xs : List V) (i : Nat) : cutV xs none (some (i : Int)) = xs.take i := by
  unfold cutV
  rw [HT.sIx_none, HT.sIx_nat, List.drop_zero, Nat.sub_zero, ← List.take_take, List.take_length]
theorem cut_drop (xs : List V) (i : Nat) : cutV xs (some (i : Int)) none = xs.drop i := by
  unfold cutV
  rw [HT.sIx_none, HT.sIx_nat]
  by_cases h : i ≤ xs.length
  · rw [Nat.min_eq_left h]
    exact List.take_of_length_le (by rw [List.length_drop]; exact Nat.le_refl _)
  · rw [Nat.min_eq_right (by omega), Nat.sub_self, List.take_zero, List.drop_of_length_le (by omega)]
theorem pe_nev {e : Expr} : PE X e (fun _ _ _ => False) := ⟨fun _ _ _ _ _ _ h => h.elim⟩
end
theorem goodAll_of {n w : Nat} : ∀ ds : List PyData, (∀ x ∈ ds, Good n w x) → GoodAll n w ds
  | [], _ => .nil
  | x :: r, h => .cons (h x List.mem_cons_self) (goodAll_of r fun y hy => h y (List.mem_cons_of_mem _ hy))
theorem two_good {n w : Nat} {x y : PyData} (a : Good n w x) (b : Good n w y) : Good (n + 1) (2 * w + 7) (.tuple [x, y]) := by
  refine ⟨?_, ?_, ?_⟩
  · show (fit x && (fit y && true)) = true
    rw [a.f, b.f]
    rfl
  · show max x.depth (max y.depth 0) + 1 ≤ n + 1
    have := a.d
    have := b.d
    omega
  · show wd x + 2 + (wd y + 2 + 0) + 3 ≤ 2 * w + 7
    have := a.w
    have := b.w
    omega
theorem bl_good (b : Bool) : Good 0 5 (.bool b) := ⟨rfl, Nat.le_refl _, Nat.le_refl _⟩
end Ey
set_option maxHeartbeats 4000000
namespace Ey
open PySem PySem.Spec L2
def topS (i : Nat) : Stmt := PySem.Challenge.pw_eyesonly_k57_outcomes_and_clocks.main.body.getD i (.Pass ⟨0, 0, 0, 0⟩)
abbrev sDeck : Stmt := topS 30
abbrev sDraw : Stmt := topS 31
abbrev sPick : Stmt := topS 32
/-- what the module leaves of the built-in names -/
structure BI (mg : Str → Option Value) : Prop where
  int : mg "int" = none
  max : mg "max" = none
  list : mg "list" = none
  len : mg "len" = none
  range : mg "range" = none
  tuple : mg "tuple" = none
  sorted : mg "sorted" = none
  repr : mg "repr" = none
  isi : mg "isinstance" = none
  str : mg "str" = none
  all : mg "all" = none
  bool : mg "bool" = none
  set : mg "set" = none
  min : mg "min" = none
/-! ### the deck -/
def kLeft : Key := .inr "left"
def kMix : Key := .inr "mixed"
def kDraw : Key := .inr "draws"
theorem kLM : ¬ kLeft = kMix := by decide +kernel
theorem kLD : ¬ kLeft = kDraw := by decide +kernel
theorem kMD : ¬ kMix = kDraw := by decide +kernel
def deckD (l : Addr) (m n : Int) : List (Key × V) := [(kLeft, .ref l), (kMix, .int m), (kDraw, .int n)]
section
variable (l : Addr) (m n : Int)
theorem deck_left : valV (deckD l m n) kLeft = some (.ref l) := valV_pos rfl
theorem deck_mix : valV (deckD l m n) kMix = some (.int m) := (valV_neg kLM).trans (valV_pos rfl)
theorem deck_draw : valV (deckD l m n) kDraw = some (.int n) := (valV_neg kLD).trans ((valV_neg kMD).trans (valV_pos rfl))
theorem put_mix (z : Int) : putK (deckD l m n) kMix (.int z) = deckD l z n := by
  have h : ((deckD l m n).any fun kv => decide (kv.1 = kMix)) = true := by rw [valV_any, deck_mix]; rfl
  unfold putK
  rw [if_pos h]
  have h2 : ¬ kDraw = kMix := fun e => kMD e.symm
  simp [deckD, kLM, h2]
theorem put_draw (z : Int) : putK (deckD l m n) kDraw (.int z) = deckD l m z := by
  have h : ((deckD l m n).any fun kv => decide (kv.1 = kDraw)) = true := by rw [valV_any, deck_draw]; rfl
  unfold putK
  rw [if_pos h]
  simp [deckD, kLD, kMD]
end
theorem merge_deck (l : Addr) (m n : Int) : mergeK [] (deckD l m n) = deckD l m n := by
  have e1 : putK ([] : List (Key × V)) kLeft (.ref l) = [(kLeft, .ref l)] := putK_new _ rfl
  have e2 : putK [(kLeft, V.ref l)] kMix (.int m) = [(kLeft, V.ref l), (kMix, .int m)] := putK_new _ (valV_neg kLM)
  have e3 : putK [(kLeft, V.ref l), (kMix, V.int m)] kDraw (.int n) = deckD l m n := putK_new _ ((valV_neg kLD).trans (valV_neg kMD))
  show putK (putK (putK [] kLeft (.ref l)) kMix (.int m)) kDraw (.int n) = _
  rw [e1, e2, e3]
theorem deck_sz (l : Addr) (m n : Int) : (deckD l m n).length < sizeLine := small1000 (by show 3 ≤ 1000; decide)
section
variable {H : Hp} {d l : Addr} {m n : Int}
theorem get_left (h : H d = some (.dK (deckD l m n))) : DGet H d (kV kLeft) (some (.ref l)) := deck_left l m n ▸ DGet.k h
theorem get_mix (h : H d = some (.dK (deckD l m n))) : DGet H d (kV kMix) (some (.int m)) := deck_mix l m n ▸ DGet.k h
theorem get_draw (h : H d = some (.dK (deckD l m n))) : DGet H d (kV kDraw) (some (.int n)) := deck_draw l m n ▸ DGet.k h
theorem set_mix (h : H d = some (.dK (deckD l m n))) (z : Int) : DPut H d (kV kMix) (.int z) (upd H d (.dK (deckD l z n))) := put_mix l m n z ▸ DPut.k h (deck_sz l m n)
theorem set_draw (h : H d = some (.dK (deckD l m n))) (z : Int) : DPut H d (kV kDraw) (.int z) (upd H d (.dK (deckD l m z))) := put_draw l m n z ▸ DPut.k h (deck_sz l m n)
end
structure DeckAt (H : Hp) (d l : Addr) : Prop where
  ex : ∃ (m n : Int) (ns : List Int), H d = some (.dK (deckD l m n)) ∧ H l = some (.lst (ns.map V.int)) ∧ ns.length ≤ 63
theorem DeckAt.ne {H : Hp} {d l : Addr} (D : DeckAt H d l) : d ≠ l := by
  obtain ⟨m, n, ns, h1, h2, _⟩ := D.ex
  exact ne_of h1 h2 (by intro z; cases z)
theorem DeckAt.kp {ms : List Addr} {H H1 : Hp} {d l : Addr} (D : DeckAt H d l) (k : Kp ms H H1) (nd : d ∉ ms) (nl : l ∉ ms) : DeckAt H1 d l := by
  obtain ⟨m, n, ns, h1, h2, h3⟩ := D.ex
  exact ⟨m, n, ns, k.at_ _ _ h1 nd, k.at_ _ _ h2 nl, h3⟩
def spDraw : Sp := fun vs H Q _ => ∃ (d l : Addr) (many : Int), vs = [.ref d, .int many] ∧ DeckAt H d l ∧ 0 < many ∧ many < 1073741824 ∧
  ∀ (r : Int) (H' : Hp), 0 ≤ r → r < many → DeckAt H' d l → Kp [d, l] H H' → Q (.int r) H'
section
variable {P : Program} {w : World} {K : PySem.W.Frag} {mg : Str → Option Value} {base : Heap}
theorem scDraw : FnScope ["_law_deck_here", "_law_many", "_law_figure", "_law_cell"] ["_law_deck_here", "_law_many"] (defScope sDraw) := ⟨rfl, rfl, rfl, by decide +kernel, rfl, by decide +kernel, by decide +kernel⟩
theorem fmod_lt {i j : Int} (h : 0 < j) : 0 ≤ i.fmod j ∧ i.fmod j < j := ⟨Int.fmod_nonneg_of_pos _ h, Int.fmod_lt_of_pos _ h⟩
theorem fdiv_ne : (2147483647 : Int) ≠ 0 := by decide
theorem lt64 {i : Int} (h0 : 0 ≤ i) (h1 : i < 2147483647) : -(2 ^ 64) < i ∧ i < 2 ^ 64 := by
  constructor
  · exact Int.lt_of_lt_of_le (by decide) h0
  · exact Int.lt_trans h1 (by decide)
theorem eqv_nil (ns : List Int) : PyData.eqv (.list (ns.map PyData.int)) (.list []) = ns.isEmpty := by
  cases ns <;> rfl
theorem dp_ints {K : PySem.W.Frag} {H : Hp} : ∀ ns : List Int, DpAll K H (ns.map V.int) (ns.map PyData.int)
  | [] => .nil
  | n :: r => .cons (.int n) (dp_ints r)
theorem lay_ints : ∀ ns : List Int, PyData.canLayAll0 (ns.map PyData.int) = true ∧ PyData.depthAll (ns.map PyData.int) = 0
  | [] => ⟨rfl, rfl⟩
  | n :: r => by
    obtain ⟨a, b⟩ := lay_ints r
    refine ⟨?_, ?_⟩
    · show (PyData.canLay0 (.int n) && PyData.canLayAll0 (r.map PyData.int)) = true
      rw [a]
      rfl
    · show max 0 (PyData.depthAll (r.map PyData.int)) = 0
      rw [b]
      rfl
theorem shaped_ints (ns : List Int) : SeqAt.shaped (.list (ns.map PyData.int)) = true := by
  obtain ⟨a, b⟩ := lay_ints ns
  show (PyData.canLayAll0 (ns.map PyData.int) && decide (PyData.depthAll (ns.map PyData.int) + 1 ≤ 64)) = true
  rw [a, b]
  rfl
theorem ok_draw {f : Addr} {fd : FuncData} (F : Fun K "_law_draw" "_law_draw" sDraw f fd) (B : BI mg) : FnOk P w K mg base CX0 1 f fd ["_law_deck_here", "_law_many"] spDraw := by
  refine F.ok scDraw (fun vs H Q E h => ?_) (fun cdv A outer s H vs Q E hr h => ?_)
  · obtain ⟨d, l, many, rfl, _⟩ := h
    rfl
  · obtain ⟨d, l, many, rfl, D, m0, m1, k⟩ := h
    have hu := hu_of hr
    have mne : many ≠ 0 := by omega
    -- the tail: number, number, number, return
    obtain ⟨tt, dt, rt⟩ : ∃ tt, PSs (cxOf CX0 P w K mg base ["_law_deck_here", "_law_many", "_law_figure", "_law_cell"] "_law_draw" (defScope sDraw) f cdv A outer s H E).nox ((defBody sDraw).drop 3) tt ∧
        ∀ (H2 : Hp) (z : Int) (y : Option V), DeckAt H2 d l → Kp [d, l] H H2 → tt { nx := fun _ H' => Q .non H', rt := Q } [some (.ref d), some (.int many), some (.int z), y] H2 := by
      refine ⟨_, pss_cons (ps_set (i := 2) scDraw.nd rfl (.inl rfl) (pe_op op_modN (pe_callTy call_int1 (by rfl) B.int (by decide +kernel) (pa_cons (pe_op op_add (pe_op op_mul (pv 2) pe_int) pe_int) pa_nil)) pe_int))
        (pss_cons (ps_set (i := 2) scDraw.nd rfl (.inl rfl) (pe_op op_modN (pe_callTy call_int1 (by rfl) B.int (by decide +kernel) (pa_cons (pe_op op_add (pe_op op_add (pe_op op_mul (pv 2) (pv 2)) (pe_op op_mul pe_int (pe_dget hu (pv 0) pe_str (fun _ _ => rfl)))) pe_int) pa_nil)) pe_int))
        (pss_cons (ps_set (i := 2) scDraw.nd rfl (.inl rfl) (pe_op op_modN (pe_callTy call_int1 (by rfl) B.int (by decide +kernel) (pa_cons (pe_op op_mul (pv 2) pe_int) pa_nil)) pe_int))
        (pss_one (ps_ret (pe_op op_modN (pe_callTy call_int1 (by rfl) B.int (by decide +kernel) (pa_cons (pe_op op_fdivN (pv 2) pe_int) pa_nil)) (pv 1)))))), fun H2 z y D2 k2 => ?_⟩
      obtain ⟨m, n, ns, hd, hl, hn⟩ := id D2
      refine ⟨_, rfl, _, _, rfl, rfl, .inr ⟨by decide, by decide⟩, _, _, rfl, rfl, .inl ⟨_, rfl, ?_⟩⟩
      refine ⟨_, _, rfl, rfl, (by decide : (2147483647 : Int) ≠ 0), ?_⟩
      have b1 := fmod_lt (i := z * 39373 + 57) (j := 2147483647) (by decide)
      refine ⟨_, rfl, _, rfl, _, _, rfl, rfl, .inl (lt64 b1.1 b1.2), _, rfl, d, _, rfl, get_draw hd, _, _, rfl, rfl, .inl ⟨by decide, by decide⟩, _, _, rfl, rfl, _, _, rfl, rfl, .inl ⟨_, rfl, ?_⟩⟩
      refine ⟨_, _, rfl, rfl, (by decide : (2147483587 : Int) ≠ 0), ?_⟩
      have b2 := fmod_lt (i := (z * 39373 + 57).fmod 2147483647 * (z * 39373 + 57).fmod 2147483647 + 60089 * n + 57) (j := 2147483587) (by decide)
      refine ⟨_, rfl, _, _, rfl, rfl, .inl (lt64 b2.1 (Int.lt_trans b2.2 (by decide))), .inl ⟨_, rfl, ?_⟩⟩
      refine ⟨_, _, rfl, rfl, (by decide : (2147483563 : Int) ≠ 0), ?_⟩
      refine ⟨_, rfl, _, _, rfl, rfl, (⟨by decide, by decide⟩ : (64 : Int) ≠ 0 ∧ (64 : Int).natAbs < 1073741824), .inl ⟨_, rfl, _, rfl, _, _, rfl, rfl, mne, ?_⟩⟩
      have b3 := fun i : Int => fmod_lt (i := i) m0
      exact k _ H2 (b3 _).1 (b3 _).2 D2 k2
    refine ⟨_, pss_cons (ps_dput hu (pv 0) pe_str (pe_op op_add (pe_dget hu (pv 0) pe_str (fun _ _ => rfl)) pe_int) rfl)
      (pss_cons (ps_set (i := 2) scDraw.nd rfl (.inl rfl) (pe_op op_add (pe_dget hu (pv 0) pe_str (fun _ _ => rfl)) (pe_op op_mul pe_int (pe_dget hu (pv 0) pe_str (fun _ _ => rfl)))))
      (pss_cons (ps_if (pt_cmpR (op_neD hr.units) (pe_dget hu (pv 0) pe_str (fun _ _ => rfl)) (pe_lst pa_nil) (nomark _))
        (pss_cons (ps_set (i := 3) scDraw.nd rfl (.inl rfl) (pe_bm0 PySem.F.plainAttrs_list PySem.F.slot_list_pop PySem.F.type_list_pop mt_pop (pe_dget hu (pv 0) pe_str (fun _ _ => rfl))))
        (pss_cons (ps_if (pt_cmpR op_ge (pv 3) (pe_op op_pow pe_int pe_int) (nomark _))
          (pss_cons (ps_expr (pe_bm PySem.F.plainAttrs_list PySem.F.slot_list_append PySem.F.type_list_append mt_append (pe_dget hu (pv 0) pe_str (fun _ _ => rfl))
            (pa_cons (pe_op op_fdivN (pv 3) (pe_callB (call_max2 rfl) (by rfl) B.max (by decide +kernel) (pa_cons pe_int (pa_cons (pv 1) pa_nil)))) pa_nil)))
          (pss_one (ps_ret (pe_op op_modN (pe_callTy call_int1 (by rfl) B.int (by decide +kernel) (pa_cons (pv 3) pa_nil)) (pv 1))))) pss_nil)
        (pss_one (ps_set (i := 2) scDraw.nd rfl (.inl rfl) (pe_op op_add (pv 2) (pe_op op_modN (pe_callTy call_int1 (by rfl) B.int (by decide +kernel) (pa_cons (pv 3) pa_nil)) pe_int)))))) pss_nil)
      dt)), ?_⟩
    obtain ⟨m, n, ns, hd, hl, hn⟩ := D.ex
    have ndl := D.ne
    -- deck['draws'] = deck['draws'] + 1
    refine ⟨_, rfl, d, _, rfl, get_draw hd, _, _, rfl, rfl, _, rfl, d, _, rfl, set_draw hd _, ?_⟩
    have kd : Kp [d, l] H (upd H d (.dK (deckD l m (n + 1)))) := .put (by simp) hd (fun xs z => by cases z)
    have hd1 : (upd H d (.dK (deckD l m (n + 1)))) d = some (.dK (deckD l m (n + 1))) := upd_same
    have hl1 : (upd H d (.dK (deckD l m (n + 1)))) l = some (.lst (ns.map V.int)) := by rw [upd_ne ndl.symm]; exact hl
    generalize upd H d (.dK (deckD l m (n + 1))) = H1 at kd hd1 hl1
    -- number
    refine ⟨_, rfl, d, _, rfl, get_mix hd1, _, rfl, d, _, rfl, get_draw hd1, _, _, rfl, rfl, .inl ⟨by decide, by decide⟩, _, _, rfl, rfl, ?_⟩
    -- if deck['cells'] != []
    refine ⟨_, rfl, d, _, rfl, get_left hd1, Nat.zero_le _, fun p np => ⟨.list (ns.map PyData.int), .list [], .lst (sql_of (by rw [upd_ne (ne_of_none hl1 np)]; exact hl1)) (dp_ints ns), .lst (sql_of upd_same) .nil, shaped_ints ns, rfl, ?_⟩⟩
    rw [eqv_nil]
    have kp : Kp [d, l] H (upd H1 p (.lst [])) := kd.trans (.new np)
    have hd2 : (upd H1 p (.lst [])) d = some (.dK (deckD l m (n + 1))) := by rw [upd_ne (ne_of_none hd1 np)]; exact hd1
    have hl2 : (upd H1 p (.lst [])) l = some (.lst (ns.map V.int)) := by rw [upd_ne (ne_of_none hl1 np)]; exact hl1
    generalize upd H1 p (.lst []) = H2 at kp hd2 hl2
    refine ⟨_, rfl, ?_⟩
    cases e : ns.isEmpty with
    | true =>
      refine iteF ?_
      exact rt H2 _ _ ⟨_, _, _, hd2, hl2, hn⟩ kp
    | false =>
      refine iteT ?_
      -- the last cell
      obtain ⟨ini, z, rfl⟩ : ∃ ini z, ns = ini ++ [z] := by
        refine ⟨ns.dropLast, ns.getLast (fun q => by rw [q] at e; cases e), (List.dropLast_concat_getLast _).symm⟩
      have lst : ((ini ++ [z]).map V.int)[((ini ++ [z]).map V.int).length - 1]? = some (.int z) := by
        rw [List.map_append, List.length_append]
        show (ini.map V.int ++ [V.int z])[(ini.map V.int).length + 1 - 1]? = _
        rw [Nat.add_sub_cancel, List.getElem?_append_right (Nat.le_refl _), Nat.sub_self]
        rfl
      have dr : ((ini ++ [z]).map V.int).dropLast = ini.map V.int := by
        rw [List.map_append]
        exact List.dropLast_concat
      rw [List.length_append] at hn
      have hn' : ini.length + 1 ≤ 63 := hn
      refine ⟨_, rfl, d, _, rfl, get_left hd2, .inl ⟨rfl, _, sql_of hl2⟩, l, _, _, rfl, rfl, hl2, lst, ?_⟩
      rw [dr]
      have k3 : Kp [d, l] H (upd H2 l (.lst (ini.map V.int))) := kp.trans (.put (by simp) hl2 (fun xs z => by cases z))
      have hd3 : (upd H2 l (.lst (ini.map V.int))) d = some (.dK (deckD l m (n + 1))) := by rw [upd_ne ndl]; exact hd2
      have hl3 : (upd H2 l (.lst (ini.map V.int))) l = some (.lst (ini.map V.int)) := upd_same
      generalize upd H2 l (.lst (ini.map V.int)) = H3 at k3 hd3 hl3
      -- if cell >= 10 ** 18
      refine ⟨_, rfl, _, _, rfl, rfl, (⟨by decide, by decide, by decide⟩ : (0 : Int) ≤ 18 ∧ (18 : Int) ≤ 1000000 ∧ (10 : Int).natAbs < 2 ^ 64), _, _, rfl, rfl, _, rfl, ite2 (fun _ => ?_) (fun _ => ?_)⟩
      · -- append, return
        refine ⟨_, rfl, d, _, rfl, get_left hd3, .inl ⟨rfl, _, sql_of hl3⟩, _, rfl, _, rfl, _, _, rfl, _, _, rfl, rfl, ?_, ?_⟩
        · show (if many > 2 then many else 2) ≠ 0 ∧ (if many > 2 then many else 2).natAbs < 1073741824
          split <;> omega
        · refine ⟨l, _, _, rfl, rfl, hl3, ?_, ?_⟩
          · rw [List.length_map]
            exact small1000 (by omega)
          · refine ⟨_, rfl, .inl ⟨_, rfl, _, rfl, _, _, rfl, rfl, mne, ?_⟩⟩
            have b3 := fun i : Int => fmod_lt (i := i) m0
            refine k _ _ (b3 _).1 (b3 _).2 ⟨m, n + 1, ini ++ [z.fdiv (if many > 2 then many else 2)], ?_, ?_, ?_⟩ (k3.trans (.put (by simp) hl3 (fun xs z => by cases z)))
            · rw [upd_ne ndl]
              exact hd3
            · rw [upd_same, List.map_append]
              rfl
            · rw [List.length_append]
              show ini.length + 1 ≤ 63
              omega
      · refine ⟨_, rfl, _, rfl, .inl ⟨_, rfl, _, _, rfl, rfl, (by decide : (2147483629 : Int) ≠ 0), _, _, rfl, rfl, ?_⟩⟩
        exact rt _ _ _ ⟨_, _, ini, hd3, hl3, by omega⟩ k3
theorem cut63 (xs : List V) (h : xs.length ≤ 63) : cutV xs none (some 63) = xs := by
  unfold cutV
  rw [HT.sIx_none, show HT.sIx xs.length xs.length (some 63) = min 63 xs.length from HT.sIx_nat _ _ 63, Nat.min_eq_right h]
  show List.take xs.length xs = xs
  exact List.take_length
theorem scDeck : FnScope ["_law_script", "_law_mixed", "_law_cell"] ["_law_script"] (defScope sDeck) := ⟨rfl, rfl, rfl, by decide +kernel, rfl, by decide +kernel, by decide +kernel⟩
def spDeck (K : PySem.W.Frag) : Sp := fun vs H Q _ => ∃ (a : Addr) (ns : List Int), vs = [.ref a] ∧ SqL K H a (ns.map V.int) ∧ ns.length ≤ 63 ∧
  ∀ (d l : Addr) (H' : Hp), DeckAt H' d l → Kp [] H H' → H d = none → H l = none → Q (.ref d) H'
theorem ok_deck {f : Addr} {fd : FuncData} (F : Fun K "_law_deck" "_law_deck" sDeck f fd) (B : BI mg) : FnOk P w K mg base CX0 1 f fd ["_law_script"] (spDeck K) := by
  refine F.ok scDeck (fun vs H Q E h => ?_) (fun cdv A outer s H vs Q E hr h => ?_)
  · obtain ⟨a, ns, rfl, _⟩ := h
    rfl
  · obtain ⟨a, ns, rfl, hS, hn, k⟩ := h
    refine ⟨_, pss_cons (ps_set (i := 1) scDeck.nd rfl (.inl rfl) pe_int)
      (pss_cons (ps_for PassesOwn.never rfl (pi_list (pe_slice sl_list (pv 0) po_none (po_some pe_int))) (pg_name (i := 2) scDeck.nd rfl (.inl rfl))
        (pss_one (ps_set (i := 1) scDeck.nd rfl (.inl rfl) (pe_op op_modN (pe_callTy call_int1 (by rfl) B.int (by decide +kernel) (pa_cons (pe_op op_add (pe_op op_add (pe_op op_mul (pv 1) pe_int)
          (pe_op op_modN (pe_callTy call_int1 (by rfl) B.int (by decide +kernel) (pa_cons (pv 2) pa_nil)) pe_int)) pe_int) pa_nil)) pe_int))))
      (pss_one (ps_ret (pe_disp (pps_cons pe_str (pe_revL (pe_callTy call_list_of (by rfl) B.list (by decide +kernel) (pa_cons (pe_slice sl_list (pv 0) po_none (po_some pe_int)) pa_nil)))
        (pps_cons pe_str (pv 1) (pps_cons pe_str pe_int pps_nil))) (by rfl) (by rfl) (fun z => by cases z) (by decide))))), ?_⟩
    have hl63 : (ns.map V.int).length ≤ 63 := by rw [List.length_map]; exact hn
    refine ⟨_, rfl, 63, rfl, a, ns.map V.int, rfl, hS, fun c nc => ?_⟩
    rw [cut63 _ hl63]
    have k0 : Kp [] H (upd H c (.lst (ns.map V.int))) := .new nc
    refine ⟨c, rfl, ⟨_, sql_of upd_same⟩, for_list (K := K) (a := c) (xs := ns.map V.int) (fun i σ H2 => ∃ (m : Int) (y : Option V), σ = [some (.ref a), some (.int m), y] ∧ Kp [] H H2 ∧ SqL K H2 c (ns.map V.int))
      ⟨_, none, rfl, k0, sql_of upd_same⟩ (fun i σ H2 _ ⟨_, _, _, _, q⟩ => q) ?_ ?_⟩
    · rintro i x σ H2 hi ⟨m, y, rfl, k2, hc⟩
      obtain ⟨z, rfl⟩ : ∃ z, x = V.int z := by
        rw [List.getElem?_map] at hi
        obtain ⟨z, _, e⟩ := Option.map_eq_some_iff.mp hi
        exact ⟨z, e.symm⟩
      refine ⟨_, rfl, _, _, rfl, rfl, .inr ⟨by decide, by decide⟩, _, rfl, .inl ⟨_, rfl, _, _, rfl, rfl, (by decide : (2147483629 : Int) ≠ 0), _, _, rfl, rfl, _, _, rfl, rfl, .inl ⟨_, rfl, ?_⟩⟩⟩
      exact ⟨_, _, rfl, rfl, (by decide : (2147483563 : Int) ≠ 0), _, _, rfl, k2, hc⟩
    · rintro σ H2 ⟨m, y, rfl, k2, hc⟩
      intro d nd
      have kd : Kp [] H2 (upd H2 d (.dK [])) := .new nd
      have hdd : (upd H2 d (.dK [])) d = some (.dK []) := upd_same
      generalize upd H2 d (.dK []) = H3 at kd hdd
      have hS3 : SqL K H3 a (ns.map V.int) := (k2.trans kd).lst List.not_mem_nil hS
      refine ⟨_, rfl, 63, rfl, a, ns.map V.int, rfl, hS3, fun e ne => ?_⟩
      rw [cut63 _ hl63]
      refine ⟨e, _, rfl, .inl (sql_of upd_same), fun g ng => ?_⟩
      refine ⟨g, _, rfl, sql_of upd_same, fun l nl => ?_⟩
      have k5 : Kp [] H3 (upd (upd (upd H3 e (.lst (ns.map V.int))) g (.lst (ns.map V.int))) l (.lst (ns.map V.int).reverse)) := (Kp.new ne).trans ((Kp.new ng).trans (Kp.new nl))
      have hl5 : (upd (upd (upd H3 e (.lst (ns.map V.int))) g (.lst (ns.map V.int))) l (.lst (ns.map V.int).reverse)) l = some (.lst (ns.map V.int).reverse) := upd_same
      have nl3 : H3 l = none := ((Kp.new (ms := []) ne).trans (Kp.new ng)).free nl List.not_mem_nil
      generalize upd (upd (upd H3 e (.lst (ns.map V.int))) g (.lst (ns.map V.int))) l (.lst (ns.map V.int).reverse) = H4 at k5 hl5
      have hd4 : H4 d = some (.dK []) := k5.at_ _ _ hdd List.not_mem_nil
      refine ⟨_, rfl, hd4, deckD l m 0, rfl, by show 3 ≤ 15; decide, ?_⟩
      rw [merge_deck]
      have ndl : d ≠ l := ne_of hd4 hl5 (by intro z; cases z)
      refine k d l _ ⟨m, 0, ns.reverse, upd_same, ?_, by rw [List.length_reverse]; exact hn⟩ ?_ (k2.free nd List.not_mem_nil) ((k2.trans kd).free nl3 List.not_mem_nil)
      · rw [upd_ne ndl.symm, hl5, List.map_reverse]
      · refine ⟨fun b o e1 _ => ?_, fun b xs e1 => ?_⟩
        · have nb : b ≠ d := ne_of_none e1 (k2.free nd List.not_mem_nil)
          rw [upd_ne nb]
          exact k5.at_ _ _ (kd.at_ _ _ (k2.at_ _ _ e1 List.not_mem_nil) List.not_mem_nil) List.not_mem_nil
        · have nb : b ≠ d := ne_of_none e1 (k2.free nd List.not_mem_nil)
          rw [upd_ne nb]
          exact k5.tup _ _ (kd.tup _ _ (k2.tup _ _ e1))
theorem scPick : FnScope ["_law_deck_here", "_law_some"] ["_law_deck_here", "_law_some"] (defScope sPick) := ⟨rfl, rfl, rfl, by decide +kernel, rfl, by decide +kernel, by decide +kernel⟩
def spPick (K : PySem.W.Frag) : Sp := fun vs H Q _ => ∃ (d l a : Addr) (xs : List V), vs = [.ref d, .ref a] ∧ DeckAt H d l ∧ SqL K H a xs ∧ xs ≠ [] ∧ xs.length ≤ 1000000 ∧ a ≠ d ∧ a ≠ l ∧
  ∀ (x : V) (H' : Hp), x ∈ xs → DeckAt H' d l → Kp [d, l] H H' → Q x H'
/-- a def of the module, as callers need it -/
structure Df (K : PySem.W.Frag) (mg : Str → Option Value) (x : Str) (st : Stmt) (ps : List Str) (f : Addr) (fd : FuncData) : Prop where
  F : Fun K x x st f fd
  b : Binds K fd ps []
  g : mg x = some (.ref f)
theorem ok_pick {f fD : Addr} {fd fdD : FuncData} (F : Fun K "_law_pick" "_law_pick" sPick f fd) (B : BI mg) (D : Df K mg "_law_draw" sDraw ["_law_deck_here", "_law_many"] fD fdD) : FnOk P w K mg base CX0 2 f fd ["_law_deck_here", "_law_some"] (spPick K) := by
  refine F.ok scPick (fun vs H Q E h => ?_) (fun cdv A outer s H vs Q E hr h => ?_)
  · obtain ⟨d, l, a, xs, rfl, _⟩ := h
    rfl
  · obtain ⟨d, l, a, xs, rfl, DA, hS, hne, hlen, had, hal, k⟩ := h
    refine ⟨_, pss_one (ps_ret (pe_ix ix_list (pv 1) (pe_call (ok_draw D.F B) hr (by rfl) D.g D.F.kp D.b .nil pass0 (pa_cons (pv 0) (pa_cons (pe_callB call_len_seq (by rfl) B.len PySem.boot_len (pa_cons (pv 1) pa_nil)) pa_nil))) (fun _ _ => rfl))), ?_⟩
    have hpos : 0 < xs.length := List.length_pos_iff.mpr hne
    refine ⟨_, rfl, _, rfl, _, rfl, a, xs, rfl, .inl hS, d, l, _, rfl, DA, by omega, by omega, fun r H' r0 r1 D' kp => ?_⟩
    have hn : a ∉ [d, l] := by simp [had, hal]
    obtain ⟨i, rfl⟩ : ∃ i : Nat, r = (i : Int) := ⟨r.toNat, by omega⟩
    have hi : i < xs.length := by omega
    refine ⟨a, xs, _, xs[i], rfl, rfl, kp.lst hn hS, ?_, ?_⟩
    · exact atI_nat (List.getElem?_eq_getElem hi)
    · exact k _ H' (List.getElem_mem hi) D' kp
end
end Ey
set_option maxHeartbeats 2000000
namespace Ey
open PySem PySem.Spec PyProof.Rows L2 GxR
/-! ### all(e for x in it), e any expression that HandS can tell -/
/-- the generator's own frame -/
def gxOfC (X : Cx) (A : Around) (s : Shared) (H : Hp) (ge : Env) (x : Str) (ys : List Str) (fp : List Addr) : Cx :=
  { X with A := A, N := x :: ys, s_0 := s, H_0 := H, env := ge, outer := X.stack, stack := ge :: X.stack, ex := fp, fn := fun _ => false, calm := true, pn := [], xe := fun _ _ => False }
abbrev gcodeC (elt iter : Expr) (x : Str) (px : Pos) (sc : Scope) (gp : Pos) (it : Addr) (ge : Env) : Code := .compLoop (.GeneratorExp elt [⟨.Name x px, iter, [], 0⟩] sc gp) 0 (.ref it) .none ge
/-- the generator stands at turn i -/
structure GInC (Xg : Cx) (cs : L2.St) (fp : List Addr) (tn : Nat → Heap → Prop) (ga : Addr) (go : Obj) (g : Nat) (W : Nat → Hp → Prop) (i : Nat) (s : Shared) : Prop where
  ex : ∃ (H : Hp) (y : Option V), Inv Xg [(ga, go)] (y :: cs) H s ∧ tn i s.heap ∧ (∀ b ∈ fp, FpOk Xg [(ga, go)] H b) ∧ W i H
  sz : g + 1 ≤ s.gens.size
/-- it is over -/
def GEdC (Xg : Cx) (cs : L2.St) (ga : Addr) (go : Obj) (Qe : Hp → Prop) (s : Shared) : Prop := ∃ (H : Hp) (y : Option V), Inv Xg [(ga, go)] (y :: cs) H s ∧ Qe H
def YGC (GI : Nat → Shared → Prop) (GF : Shared → Prop) (n0 : Nat) : Protocol := fun m _ v s kap => ∃ b : Bool, v = .bool b ∧ (b = true → GI (n0 - m) s ∧ ∀ s'', GI (n0 - m) s'' → kap (.send .none) s'') ∧ (b = false → GF s)
def RGC (GT : Shared → Prop) : GenEnd := fun _ _ r s => r = .ok .next ∧ GT s
section
variable {X : Cx} {A : Around} {sG : Shared} {HG : Hp} {ge : Env} {x : Str} {fp : List Addr} {tn : Nat → Heap → Prop} {ga it : Addr} {go : Obj} {g : Nat} {W : Nat → Hp → Prop} {Qf Qt : Hp → Prop} {J : It} {elt iter : Expr} {px gp : Pos} {sc : Scope} {te : TE} {n0 : Nat} {ys : List Str} {cs : L2.St}
theorem seg_gloopC (T : Turn X.prog X.w X.K (.Name x px) J fp it tn) (hx : ge.scope.names.lookup x = some .local) (hnd : (x :: ys).Nodup) (hco : ge.scope.isCoroutine = false)
    (hel : PE (gxOfC X (A.over (gcodeC elt iter x px sc gp it ge) []) sG HG ge x ys fp) elt te)
    (hW : ∀ i H, W i H → (i < n0 ∧ J.go i H ∧ ∀ v H', J.yld i H v H' → te (some v :: cs) H' fun y H3 => ∃ b, y = .bl b ∧ if b = true then W (i + 1) H3 else Qf H3) ∨ (J.stop i H ∧ Qt H)) :
    ∀ (k i : Nat) (s₀ s : Shared), n0 - i = k → GInC (gxOfC X (A.over (gcodeC elt iter x px sc gp it ge) []) sG HG ge x ys fp) cs fp tn ga go g W i s →
      Seg (model X.prog X.w) A (RGC (GEdC (gxOfC X (A.over (gcodeC elt iter x px sc gp it ge) []) sG HG ge x ys fp) cs ga go Qt))
        (YGC (GInC (gxOfC X (A.over (gcodeC elt iter x px sc gp it ge) []) sG HG ge x ys fp) cs fp tn ga go g W) (GEdC (gxOfC X (A.over (gcodeC elt iter x px sc gp it ge) []) sG HG ge x ys fp) cs ga go Qf) n0) (n0 - i) s₀
        (gcodeC elt iter x px sc gp it ge) ((model X.prog X.w).den (gcodeC elt iter x px sc gp it ge)) [] s := by
  generalize hXg : gxOfC X (A.over (gcodeC elt iter x px sc gp it ge) []) sG HG ge x ys fp = Xg at *
  have eP : Xg.prog = X.prog := by rw [← hXg]; rfl
  have eW : Xg.w = X.w := by rw [← hXg]; rfl
  have eK : Xg.K = X.K := by rw [← hXg]; rfl
  have eC : Xg.calm = true := by rw [← hXg]; rfl
  have eA : Xg.A = A.over (gcodeC elt iter x px sc gp it ge) [] := by rw [← hXg]; rfl
  have eE : Xg.env = ge := by rw [← hXg]; rfl
  have eN : Xg.N = x :: ys := by rw [← hXg]; rfl
  have eX : Xg.xe = fun _ _ => False := by rw [← hXg]; rfl
  have ePn : Xg.pn = [] := by rw [← hXg]; rfl
  have stat : ∀ {pins : List (Addr × Obj)} {H H' : Hp}, (∀ b ∈ fp, FpOk Xg pins H b) → (∀ b ∈ fp, H' b = none) → ∀ b ∈ fp, FpOk Xg pins H' b := fun f2 hn b hb => ⟨hn b hb, (f2 b hb).2⟩
  intro k
  induction k with
  | zero =>
    intro i s₀ s hk gi
    obtain ⟨⟨H, y, I, st, fo, w⟩, sz⟩ := gi
    rcases hW i H w with ⟨lt, _⟩ | ⟨stop, qt⟩
    · omega
    show Seg _ A _ _ _ s₀ _ ((compTurn (.GeneratorExp elt [⟨.Name x px, iter, [], 0⟩] sc gp) 0 (.ref it) .none ge).onRaise (leaving ge)) [] s
    rw [compTurn_gen, Sem.onRaise_eq_wrap]
    refine seg_bind_wrap (wpAny_standAt ?_)
    refine seg_bind_wrap (eA ▸ wpAny_mono (T.done Xg eP eW eK eC i _ s (y :: cs) H (fun _ _ => False) I fo st stop) (fun r s1 ⟨hr, I1⟩ => ?_) fun _ _ e => e.elim)
    subst hr
    exact seg_end (.ok .next) ⟨rfl, H, y, I1, qt⟩
  | succ k ih =>
    intro i s₀ s hk gi
    obtain ⟨⟨H, y, I, st, fo, w⟩, sz⟩ := gi
    show Seg _ A _ _ _ s₀ _ ((compTurn (.GeneratorExp elt [⟨.Name x px, iter, [], 0⟩] sc gp) 0 (.ref it) .none ge).onRaise (leaving ge)) [] s
    rw [compTurn_gen, Sem.onRaise_eq_wrap]
    refine seg_bind_wrap (wpAny_standAt ?_)
    rcases hW i H w with ⟨lt, gg, step⟩ | ⟨stop, qt⟩
    · refine seg_bind_wrap (eA ▸ GenW.wpAny_gsz sz (wpAny_mono (T.item Xg eP eW eK eC i _ s (y :: cs) H (fun _ _ => False) I fo st gg) (fun r s1 ⟨u, hr, rest⟩ sz1 => ?_) fun _ _ e _ => e.elim))
      subst hr
      refine seg_bind_wrap (eA ▸ GenW.wpAny_gsz sz1 (wpAny_mono rest (fun _ s2 ⟨v, H2, I2, rv, yl, st2, fr2⟩ sz2 => ?_) fun _ _ e _ => e.elim))
      have fo2 := stat fo fr2
      have I2' := I2.pinned fo2 (T.obj _ _ st2)
      have pgn : PG Xg (.Name x px) (gName 0) := pg_name (by rw [eN]; exact hnd) (by rw [eN]; rfl) (.inl (by rw [eE]; exact hx)) (.inr (by rw [eE]; exact hx))
      have run1 := pgn.run _ s2 (y :: cs) H2 v u (fun σ' H' => σ' = some v :: cs ∧ H' = H2) I2' rv ⟨rfl, rfl⟩
      rw [eE, eX] at run1
      refine seg_bind_wrap (eA ▸ GenW.wpAny_gsz sz2 (wpAny_mono (eP ▸ eW ▸ run1) (fun _ s3 ⟨σ3, H3, I3, e3, e4⟩ sz3 => ?_) fun _ _ e _ => e.elim))
      subst e3 e4
      simp only [List.forIn_nil]
      refine seg_bind_wrap (wpAny_pure ?_)
      rw [if_pos rfl]
      have hy : ∀ v, yieldOut ge v = yieldValue v := fun v => by simp only [yieldOut, hco, Bool.false_eq_true, if_false]
      simp only [hy]
      rw [Sem.bind_eq_wrap', Sem.bind_eq_wrap', Sem.wrap_wrap, Sem.wrap_wrap]
      have run2 := hel.run _ s3 (some v :: cs) H3 _ I3 (step v H3 yl)
      rw [eE, eX] at run2
      refine seg_wrap (eA ▸ GenW.wpAny_gsz sz3 (wpAny_mono (eP ▸ eW ▸ run2) (fun z s4 ⟨zv, H4, I4, rz, b, ez, q⟩ sz4 => ?_) fun _ _ e _ => e.elim))
      subst ez
      have ez' : z = .bool b := rz
      subst ez'
      have hn : n0 - i = (n0 - (i + 1)) + 1 := by omega
      have hm : n0 - (n0 - (i + 1)) = i + 1 := by omega
      rw [hn]
      have st4 : tn (i + 1) s4.heap := T.keep _ _ _ st2 fun b hb o e => (I4.pin (b, o) (List.mem_append_right _ (List.mem_append_right _ (mem_pinsAt hb e)))).1
      have fr4 : ∀ b ∈ fp, H4 b = none := fun b hb => by
        obtain ⟨o, e, d⟩ := T.obj _ _ st2 b hb
        exact (I4.pin (b, o) (List.mem_append_right _ (List.mem_append_right _ (mem_pinsAt hb e)))).2.1
      refine seg_at (seg_yield rfl rfl rfl ⟨b, rfl, fun hb => ?_, fun hb => ?_⟩)
      · rw [hb, if_pos rfl] at q
        rw [hm]
        exact ⟨⟨⟨H4, _, I4.unpinned, st4, stat fo fr4, q⟩, sz4⟩, fun s'' gi => seg_again rfl (ih (i + 1) s'' s'' (by omega) gi)⟩
      · rw [hb, if_neg Bool.false_ne_true] at q
        exact ⟨H4, _, I4.unpinned, q⟩
    · refine seg_bind_wrap (eA ▸ wpAny_mono (T.done Xg eP eW eK eC i _ s (y :: cs) H (fun _ _ => False) I fo st stop) (fun r s1 ⟨hr, I1⟩ => ?_) fun _ _ e => e.elim)
      subst hr
      exact seg_end (.ok .next) ⟨rfl, H, y, I1, qt⟩
/-- the generator as its consumer has it -/
def CStC (M : Model) (A : Around) (R : GenEnd) (Y : Protocol) (GI : Nat → Shared → Prop) (g n0 i : Nat) (s : Shared) : Prop :=
  GI i s ∧ ∃ gs, s.gens[g]? = some gs ∧ ∀ s'', GI i s'' → gs.Goes M A R Y (n0 - i) (.send .none) s''
theorem Inv.gensC {Xg : Cx} {pins : List (Addr × Obj)} {σ : L2.St} {H : Hp} {s : Shared} {gs : Array GenState} (I : Inv Xg pins σ H s) (h : AllBare gs) : Inv Xg pins σ H { s with gens := gs } :=
  ⟨I.ok, I.os, h, I.base, I.loc, I.cell, I.free, I.freeC, I.pin, I.hok, I.len⟩
theorem GInC.set {Xg : Cx} {i : Nat} {s : Shared} {gs : GenState} (h : GInC Xg cs fp tn ga go g W i s) (hb : gs.bare = true) : GInC Xg cs fp tn ga go g W i (s.setGen g gs) := by
  obtain ⟨⟨H, y, I, st, fo, w⟩, sz⟩ := h
  refine ⟨⟨H, y, Inv.gensC I (L2.allBare_setGen I.bare hb), st, fo, w⟩, ?_⟩
  rw [GenW.setGen_size]
  exact sz
theorem GEdC.set {Xg : Cx} {s : Shared} {gs : GenState} {Qe : Hp → Prop} (h : GEdC Xg cs ga go Qe s) (hb : gs.bare = true) : GEdC Xg cs ga go Qe (s.setGen g gs) := by
  obtain ⟨H, y, I, q⟩ := h
  exact ⟨H, y, Inv.gensC I (L2.allBare_setGen I.bare hb), q⟩
theorem gen_nextC {Xg : Cx} {E : Value → Shared → Prop} {s : Shared} {i : Nat} (hc : go.cls = .type "generator") (hd : ∃ nm qn, go.data = .fields #[.int g 0, nm, qn]) (hs : go.slots = #[]) (hh : A.handled = none) (hroom : A.depth < recursionLimit)
    (h : CStC (model X.prog X.w) A.in1 (RGC (GEdC Xg cs ga go Qt)) (YGC (GInC Xg cs fp tn ga go g W) (GEdC Xg cs ga go Qf) n0) (GInC Xg cs fp tn ga go g W) g n0 i s) :
    wpAny (model X.prog X.w) A (pyNext (.ref ga)) (fun r s' => (r = some (.bool true) ∧ i < n0 ∧ CStC (model X.prog X.w) A.in1 (RGC (GEdC Xg cs ga go Qt)) (YGC (GInC Xg cs fp tn ga go g W) (GEdC Xg cs ga go Qf) n0) (GInC Xg cs fp tn ga go g W) g n0 (i + 1) s') ∨
      (r = some (.bool false) ∧ GEdC Xg cs ga go Qf s') ∨ (r = none ∧ GEdC Xg cs ga go Qt s')) E s := by
  obtain ⟨gi, gs, hgs, hgo⟩ := h
  obtain ⟨nm, qn, hd⟩ := hd
  have hg : s.heap.IsGen ga g := by
    obtain ⟨⟨H, y, I, _⟩, _⟩ := gi
    exact ⟨go, nm, qn, (I.pin (ga, go) (List.mem_append_right _ (List.mem_singleton.mpr rfl))).1, hc, hd, hs⟩
  have hl : s.heap.NoLimit := by
    obtain ⟨⟨H, y, I, _⟩, _⟩ := gi
    exact I.nolimit
  refine wpAny_pyNext_genexpQ (P := fun _ _ s₁ => GEdC Xg cs ga go Qt s₁) hh hl hroom hg hgs (hgo _ (gi.set rfl)) (fun v s₁ gs' hb hv => ?_) (fun s₁ hp h' hk => ?_)
  · obtain ⟨b, rfl, ht, hf⟩ := hv
    cases b with
    | false => exact .inr (.inl ⟨rfl, (hf rfl).set hb⟩)
    | true =>
      obtain ⟨g1, g2⟩ := ht rfl
      cases hn : n0 - i with
      | zero =>
        rw [hn] at g1 g2
        exact (g2 s₁ g1).elim
      | succ m =>
        rw [hn] at g1 g2
        have e : n0 - (m + 1 - 1) = i + 1 := by omega
        rw [e] at g1 g2
        refine .inl ⟨rfl, by omega, g1.set hb, gs', L2.setGen_at (Nat.lt_of_succ_le g1.sz), fun s'' gi'' => ?_⟩
        have e2 : n0 - (i + 1) = m := by omega
        rw [e2]
        exact g2 s'' gi''
  · obtain ⟨H, y, I, q⟩ := hp
    refine .inr (.inr ⟨rfl, H, y, ?_, q⟩)
    have I2 := Inv.gensC (gs := (s₁.setGen g .finished).gens) I (L2.allBare_setGen I.bare rfl)
    exact I2.kept (t' := s₁.toks) hk
theorem all_loopXC {Xg : Cx} {R : Result → Shared → Prop} (hc : go.cls = .type "generator") (hd : ∃ nm qn, go.data = .fields #[.int g 0, nm, qn]) (hs : go.slots = #[]) (hh : A.handled = none) (hroom : A.in1.depth < recursionLimit)
    (hT : ∀ s', GEdC Xg cs ga go Qt s' → R (.ok (.ret (.bool true))) s') (hF : ∀ s', GEdC Xg cs ga go Qf s' → R (.ok (.ret (.bool false))) s') : ∀ (k i : Nat) (s : Shared), n0 - i = k →
    CStC (model X.prog X.w) A.in1.in1 (RGC (GEdC Xg cs ga go Qt)) (YGC (GInC Xg cs fp tn ga go g W) (GEdC Xg cs ga go Qf) n0) (GInC Xg cs fp tn ga go g W) g n0 i s → codeAny (model X.prog X.w) A (.builtin "all.loop" ⟨[.ref ga], []⟩) R s := by
  intro k
  induction k with
  | zero =>
    intro i s hk cs
    refine codeAny_builtin F.entry_all_loop ?_
    rw [Around.under_plainId F.plain_all_loop _]
    show wpAny _ A.in1 (pyNext (.ref ga) >>= _) _ _ s
    refine wpAny_bind (wpAny_mono (gen_nextC hc hd hs hh hroom cs) (fun r s' h => ?_) fun _ _ e => e)
    rcases h with ⟨rfl, lt, _⟩ | ⟨rfl, q⟩ | ⟨rfl, q⟩
    · omega
    · refine wpAny_bind (wpAny_holding (wpAny_truthy_bool ?_))
      refine wpAny_bind (wpAny_letGo ?_)
      simp only [Bool.false_eq_true, if_false]
      exact wpAny_bind (wpAny_rule (wpAny_pure (hF s' q)))
    · exact wpAny_bind (wpAny_rule (wpAny_pure (hT s' q)))
  | succ k ih =>
    intro i s hk cs
    refine codeAny_builtin F.entry_all_loop ?_
    rw [Around.under_plainId F.plain_all_loop _]
    show wpAny _ A.in1 (pyNext (.ref ga) >>= _) _ _ s
    refine wpAny_bind (wpAny_mono (gen_nextC hc hd hs hh hroom cs) (fun r s' h => ?_) fun _ _ e => e)
    rcases h with ⟨rfl, lt, cs'⟩ | ⟨rfl, q⟩ | ⟨rfl, q⟩
    · refine wpAny_bind (wpAny_holding (wpAny_truthy_bool ?_))
      refine wpAny_bind (wpAny_letGo ?_)
      simp only [if_true]
      exact wpAny_pure ⟨plainId_quiet F.plain_all_loop _, ih (i + 1) s' (by omega) cs'⟩
    · refine wpAny_bind (wpAny_holding (wpAny_truthy_bool ?_))
      refine wpAny_bind (wpAny_letGo ?_)
      simp only [Bool.false_eq_true, if_false]
      exact wpAny_bind (wpAny_rule (wpAny_pure (hF s' q)))
    · exact wpAny_bind (wpAny_rule (wpAny_pure (hT s' q)))
end
end Ey
set_option maxHeartbeats 4000000
namespace Ey
open PySem PySem.Spec PyProof.Rows L2 GxR
section
variable {X : Cx} {pins : List (Addr × Obj)} {σ : L2.St} {H : Hp} {s : Shared}
/-- the generator's frame begins -/
theorem inv_gxC {A : Around} {sc : Scope} {x : Str} {ys : List Str} {cs : L2.St} {fp : List Addr} {code : Value} {h5 : Heap} {g5 : Array GenState} {t5 : Nat} {m : Str → Option Value} (I : Inv X pins σ H s)
    (hk : sc.kind = .function) (hc : ∀ y ∈ sc.names, y.2 ≠ .cell) (hfree : ∀ y ∈ sc.names, y.2 = .free → ∃ c, X.env.cells.lookup y.1 = some c) (hvis : ∀ y ∈ sc.names, y.2 = .free → X.env.scope.names.lookup y.1 = some .cell ∨ X.env.scope.names.lookup y.1 = some .free)
    (hys : ∀ y ∈ ys, sc.names.lookup y = some .free) (hln : cs.length = ys.length) (hsel : ∀ (j : Nat) (y : Str) (v : V), ys[j]? = some y → cs[j]? = some (some v) → ∃ i : Nat, X.N[i]? = some y ∧ σ[i]? = some (some v))
    (hns : h5.Ns s.heap.objs.size m) (keep : ∀ b o, s.heap.get? b = some o → h5.get? b = some o) (bare : AllBare g5) (hh : A.handled = none)
    (fr : A.frames = some (genEnv sc (cloFrom X.env.cells sc.names []) s.heap.objs.size code builtinsNs X.env :: X.stack)) (ho : ∀ b ∈ fp, FpOk X pins H b ∧ b < s.heap.objs.size) :
    Inv (gxOfC X A s H (genEnv sc (cloFrom X.env.cells sc.names []) s.heap.objs.size code builtinsNs X.env) x ys fp) [] (none :: cs) H { s with heap := h5, gens := g5, toks := t5 } := by
  have cm : ∀ {y c}, (cloFrom X.env.cells sc.names []).lookup y = some c → X.env.cells.lookup y = some c := fun {y c} e => by
    rcases cloFrom_mem (PySem.mem_of_lookup e) with hm | ⟨q1, q2⟩
    · cases hm
    · obtain ⟨c1, hc1⟩ := hfree _ q1 rfl
      have hc2 : X.env.cells.lookup y = some c1 := hc1
      have e2 : c = c1 := by
        rw [q2, hc2] <;> rfl
      rw [e2]
      exact hc2
  have lk : ∀ {y}, sc.names.lookup y = some .free → ∃ c, (cloFrom X.env.cells sc.names []).lookup y = some c := fun {y} hl => by
    have hy : (y, NameKind.free) ∈ sc.names := PySem.mem_of_lookup hl
    exact mem_lookup (cloFrom_has (cells := X.env.cells) (acc := []) hy)
  have cellK : ∀ {c : Addr} {v : Option Value}, s.heap.IsCell c v → h5.IsCell c v := fun {c v} ⟨o, q1, q2⟩ => ⟨o, keep _ _ q1, q2⟩
  have nofs : ∀ b ∈ fp, b ∉ frs X.stack := fun b hb z => by
    obtain ⟨⟨_, h1, h2, _⟩, _⟩ := ho b hb
    rcases List.mem_cons.mp (I.stkSub b z) with q | q
    · exact h1 q
    · exact h2 q
  refine ⟨⟨I.ok.mod, hk, I.ok.glob, rfl, Nat.le_refl _, fun y z c e1 e2 => I.ok.inj y z c (cm e1) (cm e2), fun y hy => ?_, fun y c e _ => ?_, fun _ => hh, fr, .inr ⟨rfl, rfl⟩, fun b hb => ⟨Nat.ne_of_lt (ho b hb).2, fun y c e => ?_⟩, fun b o e => I.bs b o e, Nat.le_trans I.ok.bsz I.sz, fun b o e hb => ?_, fun b hb => nofs b hb, I.stack, I.stkFree⟩,
    rfl, bare, Un.kept keep, ⟨m, hns, fun i y v h1 h2 h3 => ?_⟩, fun y c e => ?_, I.hok.fresh (Nat.le_refl _), fun y c e => ?_, fun p hp => ?_, I.hok.kept keep, ?_⟩
  · have hy' : sc.names.lookup y = some .cell ∨ sc.names.lookup y = some .free := hy
    rcases hy' with q | q
    · exact absurd rfl (hc _ (PySem.mem_of_lookup q))
    · exact lk q
  · exact absurd e (by intro z; cases z)
  · exact fun z => (ho b hb).1.2.2.2.2.1 y c (cm e) (by first | exact z | exact z.symm)
  · obtain ⟨⟨_, _, _, h3, _⟩, _⟩ := ho b hb
    rcases h3 with q | q
    · exact I.ok.noex b o e q
    · exact Nat.lt_irrefl _ (Nat.lt_of_lt_of_le (Heap.lt_size e) (Nat.le_trans I.ok.bsz q))
  · cases i with
    | zero => cases h2
    | succ i =>
      have h1 : ys[i]? = some y := h1
      have h2 : cs[i]? = some (some v) := h2
      have kf := hys y (List.mem_of_getElem? h1)
      obtain ⟨i', e1, e2⟩ := hsel i y v h1 h2
      obtain ⟨m0, hn0, hl0⟩ := I.loc
      have kv := hvis _ (PySem.mem_of_lookup kf) rfl
      have hV : Vis X.env.scope y := kv.elim (fun k => .inr (.inl k)) (fun k => .inr (.inr k))
      obtain ⟨w1, r1, q1⟩ := hl0 i' y v e1 e2 hV
      obtain ⟨c2, z2⟩ := lk kf
      refine ⟨w1, r1, .inr ⟨.inr kf, c2, z2, ?_⟩⟩
      have c1 := cm z2
      rcases q1 with ⟨k', _⟩ | ⟨_, c3, e', z⟩
      · have k' : X.env.scope.names.lookup y = some .local := k'
        rcases kv with k2 | k2 <;> rw [show X.env.scope.names.lookup y = _ from k2] at k' <;> cases k'
      · rw [c1] at e'
        cases e'
        exact cellK z
  · obtain ⟨w1, z⟩ := I.cell y c (cm e)
    exact ⟨w1, cellK z⟩
  · exact I.freeC y c (cm e)
  · exact absurd hp (by intro z; cases z)
  · show cs.length + 1 = ys.length + 1
    rw [hln]
/-- all(e for x in it): the table of the running def's code may have grown; then, item by item -/
def selV (ix : List Nat) (σ : L2.St) : L2.St := ix.map fun i => (σ[i]?).join
def tAllC (P : Addr) (ix : List Nat) (wi : TI) (te : TE) : TE := fun σ H Q => wi σ H fun J H1 => TabG H1 P ∧ ∀ H2, Tabbed P H1 H2 → ∃ (n0 : Nat) (W : Nat → Hp → Prop), W 0 H2 ∧
  ∀ i H', W i H' → (i < n0 ∧ J.go i H' ∧ ∀ v H'', J.yld i H' v H'' → te (some v :: selV ix σ) H'' fun y H3 => ∃ b, y = .bl b ∧ if b = true then W (i + 1) H3 else Q (.bl false) H3) ∨ (J.stop i H' ∧ Q (.bl true) H')
theorem pe_allC {c P : Addr} {elt iter : Expr} {x : Str} {px p pos gp : Pos} {sc : Scope} {wi : TI} {te : TE} {k : Nat} {ix : List Nat} {ys : List Str}
    (hr : Room (k + 2) X.A) (hg : Gl X "all") (hm : X.mg "all" = none) (hb : bootBuiltins "all" = some (.builtin "all")) (TB : TabB X.base X.mg c P) (hco : X.env.code = .ref c) (S : GenS X.env sc x) (hnd : (x :: ys).Nodup) (hvis : ∀ y ∈ sc.names, y.2 = .free → X.env.scope.names.lookup y.1 = some .cell ∨ X.env.scope.names.lookup y.1 = some .free) (hys : ∀ y ∈ ys, sc.names.lookup y = some .free) (hln : ix.length = ys.length) (hix : ∀ (j : Nat) (y : Str), ys[j]? = some y → ∃ i : Nat, ix[j]? = some i ∧ X.N[i]? = some y)
    (hi : PI X (.Name x px) iter wi)
    (hel : ∀ (A : Around) (s : Shared) (H : Hp) (C : Addr) (code : Value) (fp : List Addr), Room k A → PE (gxOfC X A s H (genEnv sc (cloFrom X.env.cells sc.names []) C code builtinsNs X.env) x ys fp) elt te)
    (hs : ∀ v, genFold iter X.env v = pure v)
    (he : starEach [.GeneratorExp elt [⟨.Name x px, iter, [], 0⟩] sc gp] X.env = (false, eval (.GeneratorExp elt [⟨.Name x px, iter, [], 0⟩] sc gp) X.env) :: starEach [] X.env := by rfl) :
    PE X (.Call (.Name "all" p) [.GeneratorExp elt [⟨.Name x px, iter, [], 0⟩] sc gp] [] pos) (tAllC P ix wi te) := by
  refine ⟨fun pins s σ H Q I h => wpAny_Call_Name_kw (ld_blt I hg hm hb ?_)⟩
  refine PyProof.Rows.callWith_builtin1 ?_ he (by rfl)
  rw [he]
  show wpAny _ _ (spliced ((false, eval (.GeneratorExp elt [⟨.Name x px, iter, [], 0⟩] sc gp) X.env) :: backTo pos (starEach [] X.env))) _ _ s
  refine Calls.spliced_cons (wpAny_GeneratorExp_make S.co (cl := cloFrom X.env.cells sc.names []) (closure_ok S.free) S.cell S.dot S.kind (Nat.lt_of_le_of_lt (by omega) hr.dp) ?_ hs)
  refine thn (hi.run pins s σ H _ I h) fun v s1 h1 => thn h1 fun itv s2 h2 => ?_
  obtain ⟨it, fp, tn, J, H1, e, J1, T, st, fo, ⟨ps, tP, tok⟩, q⟩ := h2
  subst e
  have gP : s2.heap.get? P = some { cls := .none, data := .fields ps } := J1.hok P _ tP
  have head : PySem.W.CodeHd s2.heap c P := TB.code.keeps fun b u e => J1.bk b u e
  have ncP : cStatics ≠ P := fun e => by
    obtain ⟨_, ns, _⟩ := J1.nolimit
    obtain ⟨o', es, ep, g', d', _⟩ := ns
    rw [e, gP] at g'
    cases g'
    cases d'
  have hlc : (selV ix σ).length = ys.length := by
    unfold selV
    rw [List.length_map, hln]
  have hsel : ∀ (j : Nat) (y : Str) (v : V), ys[j]? = some y → (selV ix σ)[j]? = some (some v) → ∃ i : Nat, X.N[i]? = some y ∧ σ[i]? = some (some v) := fun j y v h1 h2 => by
    obtain ⟨i, e1, e2⟩ := hix j y h1
    refine ⟨i, e2, ?_⟩
    unfold selV at h2
    rw [List.getElem?_map, e1] at h2
    have h2 : (σ[i]?).join = some v := Option.some.inj h2
    cases q : σ[i]? with
    | none =>
      rw [q] at h2
      cases h2
    | some o =>
      rw [q] at h2
      have h2 : o = some v := h2
      rw [h2]
  have fpP : ∀ b ∈ fp, b ≠ P := fun b hb z => by
    have := (fo b hb).1
    rw [z, tP] at this
    cases this
  refine ⟨J1.nolimit, ?_⟩
  have go : ∀ (code : Value) (hN : Heap) (tk : Nat) (qs : Array Value), Heap.ExtBut P s2.heap hN → hN.get? P = some { cls := .none, data := .fields qs } → (∃ more, qs = ps ++ more) → TriplesOk qs.toList →
      wpAny (model X.prog X.w) X.A (builtinsFor X.env.globals X.env.builtins) (fun bi s₄ =>
        ∀ h', h'.Ns s₄.heap.objs.size (fun y => if y = ".0" then some (.ref it) else none) → Heap.SameBut s₄.heap.objs.size (s₄.heap.push { cls := .type "frame", data := .dict #[] }) h' →
          wpAny (model X.prog X.w) X.A (spliced (backTo pos (starEach [] X.env))) (fun us s' => wpAny (model X.prog X.w) X.A (call (.builtin "all") (.ref h'.objs.size :: us)) (EP X pins σ Q) X.xe s') X.xe { s₄ with
            gens := s₄.gens.push (.fresh (.compStart (.GeneratorExp elt [⟨.Name x px, iter, [], 0⟩] sc gp) 0 (.ref it) .none (genEnv sc (cloFrom X.env.cells sc.names []) s₄.heap.objs.size code bi X.env))),
            toks := s₄.toks + 1 + 1 + 1,
            heap := h'.push { cls := .type "generator", data := .fields #[.int s₄.gens.size 0, .str "<genexpr>" (s₄.toks + 1), .str (X.env.qual ++ "<genexpr>") (s₄.toks + 1 + 1)] } }) X.xe { s2 with heap := hN, toks := tk } := by
    intro code hN tk qs ext gPN more okN
    obtain ⟨bm, obm, e1, e2, e3, e4, e5, e6, e7, e8⟩ := TB.bm
    have stay : ∀ b u, b ≠ P → s2.heap.get? b = some u → hN.get? b = some u := fun b u nb e => ext b u nb e
    obtain ⟨mo, em⟩ := more
    subst em
    have J2 : Inv X pins σ (upd H1 P (.tbl (ps ++ mo))) { s2 with heap := hN, toks := tk } := inv_tab (more := mo) (h' := hN) (g' := s2.gens) (d' := s2.drawn) (t' := tk) J1 tP stay gPN J1.bare
    refine wpAny_builtinsFor (m := X.mg) (by rw [J1.ok.glob]; exact (J1.mod.glob.keeps J1.bk).extBut ext TB.gP) e1 e2 (stay _ _ e4 (J1.bk _ _ e5)) e6 e7 e8 ?_
    intro h' hn' hs'
    refine Calls.spliced_nil ?_
    obtain ⟨n0, W, w0, hW⟩ := q (upd H1 P (.tbl (ps ++ mo))) ⟨⟨ps ++ mo, upd_same, okN⟩, fun b nb => upd_ne nb⟩
    have sz' : h'.objs.size = hN.objs.size + 1 := by
      rw [hs'.1, Heap.size_push]
    have keep' : ∀ b o, hN.get? b = some o → h'.get? b = some o := fun b o e => hs'.extBut b o (Nat.ne_of_lt (Heap.lt_size e)) (Heap.get?_push_of_some _ e)
    generalize hgo : ({ cls := .type "generator", data := .fields #[.int s2.gens.size 0, .str "<genexpr>" (tk + 1), .str (X.env.qual ++ "<genexpr>") (tk + 1 + 1)] } : Obj) = gob
    have gc : gob.cls = .type "generator" := by rw [← hgo]
    have gd : ∃ nm qn, gob.data = .fields #[.int s2.gens.size 0, nm, qn] := ⟨_, _, by rw [← hgo]⟩
    have gs : gob.slots = #[] := by rw [← hgo]
    show wpAny (model X.prog X.w) X.A (call (.builtin "all") [.ref h'.objs.size]) (EP X pins σ Q) X.xe { s2 with
            gens := s2.gens.push (.fresh (.compStart (.GeneratorExp elt [⟨.Name x px, iter, [], 0⟩] sc gp) 0 (.ref it) .none (genEnv sc (cloFrom X.env.cells sc.names []) hN.objs.size code builtinsNs X.env))),
            toks := tk + 1 + 1 + 1, heap := h'.push gob }
    have keep5 : ∀ b o, hN.get? b = some o → (h'.push gob).get? b = some o := fun b o e => Heap.get?_push_of_some _ (keep' b o e)
    have atG : (h'.push gob).get? h'.objs.size = some gob := Heap.get?_push_size _ (by
      obtain ⟨nm, qn, e⟩ := gd
      exact Obj.isFreed_of_fields e)
    -- the frame
    generalize hge : genEnv sc (cloFrom X.env.cells sc.names []) hN.objs.size code builtinsNs X.env = ge
    have fpl : ∀ b ∈ fp, b < hN.objs.size := fun b hb => by
      obtain ⟨o, e, _⟩ := T.obj _ _ st b hb
      exact Heap.lt_size (stay b o (fpP b hb) e)
    have foN : ∀ b ∈ fp, FpOk X pins (upd H1 P (.tbl (ps ++ mo))) b := fun b hb => ⟨by rw [upd_ne (fpP b hb)]; exact (fo b hb).1, (fo b hb).2⟩
    have stN : tn 0 (h'.push gob) := T.keep _ _ _ st fun b hb o e => keep5 b o (stay b o (fpP b hb) e)
    have hAh : (X.A.in1.in1.over (gcodeC elt iter x px sc gp it ge) []).handled = none := hr.hd
    have hAf : (X.A.in1.in1.over (gcodeC elt iter x px sc gp it ge) []).frames = some (ge :: X.stack) := by
      show pushEnvs (gcodeC elt iter x px sc gp it ge).envs (pushEnvs [] X.A.frames) = _
      rw [J1.ok.frames]
      rfl
    have IG0 := inv_gxC (A := X.A.in1.in1.over (gcodeC elt iter x px sc gp it ge) []) (sc := sc) (x := x) (ys := ys) (cs := selV ix σ) (fp := fp) (code := code) (h5 := h'.push gob)
      (g5 := s2.gens.push (.fresh (.compStart (.GeneratorExp elt [⟨.Name x px, iter, [], 0⟩] sc gp) 0 (.ref it) .none ge))) (t5 := tk + 1 + 1 + 1) J2 S.kind S.cell S.free hvis hys hlc hsel (hn'.push gob) keep5 (AllBare.push J1.bare rfl) hAh (by rw [hAf, ← hge]) (fun b hb => ⟨foN b hb, fpl b hb⟩)
    rw [hge] at IG0
    generalize hXg : gxOfC X (X.A.in1.in1.over (gcodeC elt iter x px sc gp it ge) []) { s2 with heap := hN, toks := tk } (upd H1 P (.tbl (ps ++ mo))) ge x ys fp = Xg at IG0
    have gne : ∀ b ∈ fp, h'.objs.size ≠ b := fun b hb => Nat.ne_of_gt (Nat.lt_trans (fpl b hb) (by omega))
    have fpXg : ∀ b ∈ fp, FpOk Xg [(h'.objs.size, gob)] (upd H1 P (.tbl (ps ++ mo))) b := fun b hb => by
      rw [← hXg]
      refine ⟨(foN b hb).1, ?_, fun z => ?_, .inl hb, fun y cc e => ?_, fun p hp => ?_⟩
      · show b ≠ ge.locals
        rw [← hge]
        exact Nat.ne_of_lt (fpl b hb)
      · obtain ⟨_, q1, q2, _⟩ := foN b hb
        rcases List.mem_cons.mp (J2.stkSub b z) with q | q
        · exact q1 q
        · exact q2 q
      · have e' : ge.cells.lookup y = some cc := e
        rw [← hge] at e'
        have e' : (cloFrom X.env.cells sc.names []).lookup y = some cc := e'
        have e2 : X.env.cells.lookup y = some cc := by
          rcases cloFrom_mem (PySem.mem_of_lookup e') with hm | ⟨q1, q2⟩
          · cases hm
          · obtain ⟨c1, hc1⟩ := S.free _ q1 rfl
            have hc2 : X.env.cells.lookup y = some c1 := hc1
            have e3 : cc = c1 := by
              rw [q2, hc2] <;> rfl
            rw [e3]
            exact hc2
        exact (foN b hb).2.2.2.2.1 y cc e2
      · have hp' : p ∈ [(h'.objs.size, gob)] := hp
        rw [List.mem_singleton.mp hp']
        exact gne b hb
    have IG : Inv Xg [(h'.objs.size, gob)] (none :: selV ix σ) (upd H1 P (.tbl (ps ++ mo))) { s2 with heap := h'.push gob, gens := s2.gens.push (.fresh (.compStart (.GeneratorExp elt [⟨.Name x px, iter, [], 0⟩] sc gp) 0 (.ref it) .none ge)), toks := tk + 1 + 1 + 1 } := by
      refine IG0.pins_of fun p hp => ?_
      rw [List.mem_singleton.mp hp]
      have big : hN.objs.size < h'.objs.size := by omega
      refine ⟨atG, J2.hok.fresh (Nat.le_of_lt big), ?_, ?_, fun v e => ?_⟩
      · rw [← hXg]
        show h'.objs.size ≠ ge.locals
        rw [← hge]
        exact Nat.ne_of_gt big
      · rw [← hXg]
        intro z
        rcases List.mem_cons.mp (J2.stkSub _ z) with q | q
        · have l := J2.lt
          rw [← q] at l
          exact absurd (Nat.lt_trans big l) (Nat.lt_irrefl _)
        · exact J2.nofs (Nat.le_of_lt big) q
      · obtain ⟨nm, qn, e2⟩ := gd
        have e' : gob.data = .cell v := e
        rw [e2] at e'
        cases e'
    have back : ∀ (b : Bool) (s' : Shared), GEdC Xg (selV ix σ) h'.objs.size gob (Q (.bl b)) s' → EP X pins σ Q (.bool b) s' := fun b s' ⟨H', y, K, q⟩ => by
      rw [← hXg] at K
      exact ⟨.bl b, H', J2.call' (ch := fp) K.os K.base K.hok K.bare (fun c hc => ⟨(foN c hc).2.2.2.1, (foN c hc).2.1, (foN c hc).2.2.2.2.1, (foN c hc).2.2.2.2.2⟩), rfl, q⟩
    have loopS := seg_gloopC (X := X) (A := X.A.in1.in1) (sG := { s2 with heap := hN, toks := tk }) (HG := upd H1 P (.tbl (ps ++ mo))) (ge := ge) (fp := fp) (tn := tn) (ga := h'.objs.size) (go := gob) (g := s2.gens.size) (W := W) (Qf := Q (.bl false)) (Qt := Q (.bl true))
      (gp := gp) (sc := sc) (elt := elt) (iter := iter) (n0 := n0) (te := te) (ys := ys) (cs := selV ix σ) T (by rw [← hge]; exact S.loc) hnd (by rw [← hge]; exact S.co) (by
        rw [← hge]
        refine hel _ _ _ _ _ _ ⟨hr.hd, ?_, ?_⟩
        · have := hr.dp
          show X.A.depth + 0 + 1 + 3 * k + 5 < _
          omega
        · have := hr.un
          show X.A.units + 1 + 1 + 0 + 3 + 16 * k + 200 < _
          omega) hW
    rw [hXg] at loopS
    have GI0 : GInC Xg (selV ix σ) fp tn h'.objs.size gob s2.gens.size W 0 { s2 with heap := h'.push gob, gens := s2.gens.push (.fresh (.compStart (.GeneratorExp elt [⟨.Name x px, iter, [], 0⟩] sc gp) 0 (.ref it) .none ge)), toks := tk + 1 + 1 + 1 } :=
      ⟨⟨_, _, IG, stN, fpXg, w0⟩, by show s2.gens.size + 1 ≤ (s2.gens.push _).size; rw [Array.size_push]; exact Nat.le_refl _⟩
    refine call_function_tree F.kind_all F.plain_all F.entry_all (F.args_all1 _) ?_
    unfold Builtin.«all»
    refine wpAny_bind (m := oneArg "all" _) (wpAny_pure ?_)
    refine wpAny_bind (wpAny_pyIter_gen ⟨gob, _, _, atG, gc, gd.choose_spec.choose_spec, gs⟩ ?_)
    refine wpAny_pure ⟨plainId_quiet F.plain_all_loop _, all_loopXC (X := X) (A := X.A) (R := fun r s' => match r with | .ok (.ret v) => EP X pins σ Q v s' | .ok _ => False | .error e => X.xe e s') (Xg := Xg) (Qf := Q (.bl false)) (Qt := Q (.bl true)) (W := W) (fp := fp) (tn := tn) (n0 := n0) (cs := selV ix σ) gc gd gs hr.hd (Nat.lt_of_le_of_lt (by show X.A.depth ≤ X.A.depth + 3 * (k + 2) + 5; omega) hr.dp) (fun s' q => back true s' q) (fun s' q => back false s' q) n0 0 _ (Nat.sub_zero _) ⟨GI0, _, Array.getElem?_push_size .., fun s'' gi => ⟨rfl, ?_⟩⟩⟩
    have loop := loopS n0 0 s'' s'' (Nat.sub_zero _) gi
    obtain ⟨_, _, _, sti, _⟩ := gi.ex
    show Seg _ X.A.in1.in1 _ _ _ s'' _ ((compStart (.GeneratorExp elt [⟨.Name x px, iter, [], 0⟩] sc gp) 0 (.ref it) .none ge).onRaise (leaving ge)) [] s''
    unfold compStart
    rw [Sem.onRaise_eq_wrap]
    show Seg _ X.A.in1.in1 _ _ _ s'' _ ((ask >>= _).wrap _ _ _ _) [] s''
    refine seg_bind_wrap (wpAny_askSetting ?_)
    split
    · exact seg_again rfl loop
    · first
        | exact seg_bind_wrap (wpAny_rule (seg_bind_wrap (wpAny_standAt (seg_bind_wrap (T.self _ 0 _ _ _ sti (seg_again rfl loop))))))
        | (refine seg_bind_wrap (wpAny_rule ?_); show Seg _ X.A.in1.in1 _ _ _ s'' _ ((standAt iter.pos >>= _).wrap _ _ _ _) [] s''; exact seg_bind_wrap (wpAny_standAt (seg_bind_wrap (T.self _ 0 _ _ _ sti (seg_again rfl loop)))))
  cases am : codeAmong gp ps.toList with
  | none =>
    refine wpAny_genexprCodeX hco (head.code gP tok) (head.tab gP) am fun c' hN tk ext hge hlt hc' _ tab' _ => ?_
    obtain ⟨o1, vs, f1, tf, fl, tg, inF, tx, tt, op, _, _, _, _, _, _, _, _, _, tr, _⟩ := hc'
    exact go _ hN tk _ ext tab'.2 ⟨_, rfl⟩ tr
  | some cv =>
    refine wpAny_genexprCode_hit hco (head.code gP tok) am ?_
    exact go cv s2.heap s2.toks ps (Heap.ExtBut.refl _ _) gP ⟨#[], by simp⟩ tok
end
end Ey
set_option maxHeartbeats 4000000
namespace Ey
open PySem PySem.Spec PyProof.Rows L2
/-! ### len(set(t)), t a tuple of texts -/
/-- how many unlike ones, from the last to the first -/
def distR : List Str → Nat
  | [] => 0
  | x :: r => if r.any (· == x) = true then distR r else distR r + 1
def distN (xs : List Str) : Nat := distR xs.reverse
theorem distN_snoc (xs : List Str) (x : Str) : distN (xs ++ [x]) = if xs.any (· == x) = true then distN xs else distN xs + 1 := by
  unfold distN
  rw [List.reverse_append]
  show (if xs.reverse.any (· == x) = true then _ else _) = _
  rw [List.any_reverse]
  rfl
theorem distR_le : ∀ xs : List Str, distR xs ≤ xs.length
  | [] => Nat.le_refl _
  | x :: r => by
    have := distR_le r
    unfold distR
    split
    · exact Nat.le_succ_of_le this
    · exact Nat.succ_le_succ this
theorem distN_le (xs : List Str) : distN xs ≤ xs.length := by
  have := distR_le xs.reverse
  rw [List.length_reverse] at this
  exact this
section
variable {prog : Program} {w : World} {A : Around}
/-- the set in the making, at S -/
abbrev InSet (prog : Program) (w : World) (h : Heap) (S : Addr) (xs : List Str) : Prop := h.SetOf (PySem.strKind prog w) S (fun y => xs.any (· == y)) (distN xs)
theorem InSet.more {h : Heap} {S : Addr} {xs : List Str} {x : Str} (g : h.SetOf (PySem.strKind prog w) S (fun y => xs.any (· == y) || decide (y = x)) (if xs.any (· == x) = true then distN xs else distN xs + 1)) : InSet prog w h S (xs ++ [x]) := by
  refine SetOf_congr g (fun y => ?_) (distN_snoc xs x).symm
  rw [List.any_append]
  show _ = (xs.any (· == y) || (x == y || false))
  rw [Bool.or_false]
  by_cases e : y = x
  · rw [decide_eq_true e, e, beq_self_eq_true]
  · rw [decide_eq_false e, beq_eq_false_iff_ne.mpr fun z => e z.symm]
theorem fill_set {I S : Addr} {fp wr : List Addr} {G : Array GenState → Array GenState → Prop} {n : Nat} {Pv : Nat → Value → Prop} {St : Nat → Shared → Prop} {R : Result → Shared → Prop} (xs : List Str)
    (W : WalksS prog w A.in1 I fp wr G n Pv St) (hS : S ∉ fp) (hn : n = xs.length) (hb : xs.length ≤ 4000) (hv : ∀ i v, Pv i v → ∃ y t, xs[i]? = some y ∧ v = .str y t)
    (fin : ∀ s', Moved (S :: wr) G s' s' → True) :
    ∀ (m i : Nat) (s : Shared), n - i = m → i ≤ n → St i s → InSet prog w s.heap S (xs.take i) → (∀ s', Moved (S :: wr) G s s' → InSet prog w s'.heap S xs → R (.ok (.ret .none)) s') →
      codeAny (model prog w) A (.builtin "set.update.loop" ⟨[.ref S, .ref I], []⟩) R s := by
  have noW : S ∉ wr := fun h => hS (W.sub _ h)
  have more : ∀ b ∈ wr, b ∈ S :: wr := fun b h => List.mem_cons_of_mem _ h
  have stays : ∀ {s s' : Shared} {ys : List Str}, Moved wr G s s' → InSet prog w s.heap S ys → InSet prog w s'.heap S ys := fun m ⟨o, es, ep, t, ho, r⟩ => ⟨o, es, ep, t, m.heap S _ noW ho, r⟩
  intro m
  induction m with
  | zero =>
    intro i s e hi st g out
    have ei : xs.take i = xs := List.take_of_length_le (by omega)
    rw [ei] at g
    have ein : i = n := by omega
    subst ein
    refine codeAny_builtin (F.entry_set_update_loop) (?_)
    rw [Around.under_plainId (F.plain_set_update_loop) (_)]
    refine wpAny_bind (m := pyNext (.ref I)) (W.done s _ _ st fun s' mv => ?_)
    exact (show wpAny (model prog w) A.in1 (ret Value.none) _ _ s' from wpAny_pure (out s' (mv.mono more) (stays mv g)))
  | succ m ih =>
    intro i s e hi st g out
    have lt : i < n := by omega
    refine codeAny_builtin (F.entry_set_update_loop) (?_)
    rw [Around.under_plainId (F.plain_set_update_loop) (_)]
    refine wpAny_bind (m := pyNext (.ref I)) (W.item i s _ _ lt st fun v s' hp st' mv => ?_)
    obtain ⟨y, t, hy, rfl⟩ := hv i v hp
    have g' := stays mv g
    refine wpAny_bind (m := holding [Value.str y t] (setAdd S (.str y t))) (wpAny_holding ?_)
    unfold setAdd
    refine wpAny_holding (wpAny_bind ((PySem.strKind prog w).pyHash (k := y) (strKind_is _ _ _ _) ?_))
    have few : distN (xs.take i) + 1 < scanBound := by
      have h1 := distN_le (xs.take i)
      rw [List.length_take] at h1
      unfold scanBound
      omega
    refine wpAny_setAddHashed_of (knd := PySem.strKind prog w) (s := { s' with toks := s'.toks + 1 }) (strKind_is _ _ _ _) (rfl) (g') (few) fun h2 sb g2 => ?_
    have g3 : InSet prog w h2 S (xs.take (i + 1)) := by
      rw [List.take_add_one, hy]
      exact InSet.more g2
    refine wpAny_pure ⟨plainId_quiet (F.plain_set_update_loop) (_), ih (i + 1) _ (by omega) lt (W.frame _ s' _ _ st' (Nat.le_succ _) fun b hb o eo => ?_) g3 fun s2 mv2 g4 => out s2 ?_ g4⟩
    · rw [sb.2 b fun z : b = S => hS (z ▸ hb)]
      exact eo
    · refine Moved.trans W.gtrans ((mv.mono more).then_heap (Nat.le_succ _) fun b o nb eo => ?_) mv2
      rw [sb.2 b fun z : b = S => nb (z ▸ List.mem_cons_self)]
      exact eo
end
section
variable {prog : Program} {w : World} {A : Around} {E : Value → Shared → Prop} {s : Shared}
/-- the new set -/
abbrev bareSet (led : Bool) : Obj := { cls := .type "set", dict := none, data := .set #[] 0 (.fresh 0 0 led) }
set_option maxHeartbeats 3200000 in
theorem set_of_texts {l : Addr} {its : Array Value} {xs : List Str} {Q : Value → Shared → Prop} (hh : A.handled = none) (hl : s.heap.IsTuple l its) (hx : StrsAre its.toList xs) (hb : xs.length ≤ 4000)
    (out : ∀ (h2 : Heap) (tk : Nat), InSet prog w h2 s.heap.objs.size xs → (∀ b o, s.heap.get? b = some o → h2.get? b = some o) → Q (.ref s.heap.objs.size) { s with heap := h2, toks := tk }) :
    wpAny (model prog w) A (call (.type "set") [.ref l]) Q E s := by
  have many : its.size = xs.length := by
    rw [← StrsAre.len_eq hx, Array.length_toList]
  obtain ⟨c, tl, mr⟩ := F.called_set.mro
  have made := F.called_set.made
  have sub := F.called_set.sub
  refine wpAny_call (codeAny_of_tree (?_))
  refine (show wpAny (model prog w) _ (callAny (.type "set") _) _ _ _ from ?_)
  refine wpAny_pure ⟨Code.quiet_builtin _ (by decide +kernel), codeAny_builtin (F.entry_type_call) (?_)⟩
  rw [Around.under_plain (weight_type_call_type "set" [.ref l] []) (rfl)]
  have p1 := F.called_set.notType
  have p2 := F.called_set.canCreate
  have p3 := F.typeCall_set_1 (.ref l)
  repeat any_goals first | assumption | wp_step
  refine codeAny_mono (code_set_new_1 (.ref l) (E := E) (Q₁ := fun ob s1 => ∃ led : Bool, ob = .ref s.heap.objs.size ∧ s1 = { s with heap := s.heap.push (bareSet led) }) fun led => ⟨led, rfl, rfl⟩) fun r s1 hr => ?_
  cases r with
  | error e => exact hr
  | ok fl =>
    cases fl with
    | next => exact hr.elim
    | brk => exact hr.elim
    | cont => exact hr.elim
    | ret ob =>
      obtain ⟨led, rfl, rfl⟩ := hr
      have hS : (s.heap.push (bareSet led)).get? s.heap.objs.size = some (bareSet led) := Heap.get?_push_size _ rfl
      have tS : Shared.TypeIs { s with heap := s.heap.push (bareSet led) } (.ref s.heap.objs.size) "set" := ⟨_, hS, rfl⟩
      have i1 := F.called_set.init.lookup
      have i2 := F.called_set.init.bind (.ref s.heap.objs.size)
      repeat any_goals first | assumption | wp_step
      refine codeAny_mono (codeAny_call_builtin (R := wants (fun r s2 => r = .none ∧ ∃ h2 tk, s2 = { s with heap := h2, toks := tk } ∧ InSet prog w h2 s.heap.objs.size xs ∧ ∀ b o, s.heap.get? b = some o → h2.get? b = some o) E) F.called_set.init.plain F.entry_set_init (check_set_init_1 tS ?_)) fun r2 s2 hr2 => ?_
      · obtain ⟨⟨oc, od, oda, osl⟩, ho, hc, nl, hd⟩ := hl
        simp only at hc hd
        subst hc hd
        have ho1 : (s.heap.push (bareSet led)).get? l = some { cls := .type "tuple", dict := od, data := .seq its nl, slots := osl } := Heap.get?_push_of_some _ ho
        have q1 := F.sub_tuple_set
        have q2 := F.sub_tuple_frozenset
        have q3 : (Value.type "tuple" == Value.type "dict") = false := by decide
        have hl1 : (s.heap.push (bareSet led)).IsTuple l its := ⟨_, ho1, rfl, nl, rfl⟩
        have ls : l < s.heap.objs.size := Heap.lt_size ho
        have sz : (s.heap.push (bareSet led)).objs.size = s.heap.objs.size + 1 := Heap.size_push ..
        unfold Builtin.«set.__init__» noKeywords Builtin.Frozenset.updateFrom
        generalize hPI : pyIter = PI
        wp_walk
        subst hPI
        refine wpAny_pyIter_tuple hl1 (wpAny_bind (wpAny_runValue ?_))
        refine fill_set (n := its.size) xs ((Walks.tuple (by simp [hh]) _ l (by rw [sz]; exact Nat.ne_of_lt (Nat.lt_succ_of_lt ls)) its).toS) (by rw [sz]; simp only [List.mem_cons, List.not_mem_nil, or_false, not_or]; exact ⟨Nat.ne_of_lt (Nat.lt_succ_self _), Nat.ne_of_gt ls⟩) many hb (fun i v hv => ?_) (fun _ _ => trivial) (its.size - 0) 0 _ (by omega) (Nat.zero_le _) ⟨⟨_, Heap.get?_push_size _ rfl, rfl, rfl⟩, hl1.push _⟩ ?_ ?_
        · obtain ⟨t, e⟩ := SS.strs_at hx i v (by rw [Array.getElem?_toList]; exact hv)
          have hi : i < xs.length := by rw [← many]; exact (Array.getElem?_eq_some_iff.mp hv).1
          exact ⟨xs[i], t, List.getElem?_eq_getElem hi, by rw [e, List.getD_eq_getElem?_getD, List.getElem?_eq_getElem hi]; rfl⟩
        · exact SetOf_congr ((setObjOf_fresh (knd := PySem.strKind prog w) led).setOf (Heap.get?_push_of_some _ hS) (by unfold scanBound; omega)) (fun _ => rfl) rfl
        · intro s3 mv g
          obtain ⟨h3, g3, d3, t3, o3⟩ := s3
          have e1 : g3 = s.gens := mv.gens
          have e2 : d3 = s.drawn := mv.drawn
          have e3 : o3 = s.os := mv.os
          subst e1 e2 e3
          show wpAny _ _ _ _ _ _
          refine wpAny_pure (show wpAny _ _ (ret Value.none) _ _ _ from wpAny_pure ⟨rfl, h3, t3, rfl, g, fun b o eb => ?_⟩)
          have lb : b < s.heap.objs.size := Heap.lt_size eb
          have n1 : b ≠ s.heap.objs.size := Nat.ne_of_lt lb
          have n2 : b ≠ s.heap.objs.size + 1 := Nat.ne_of_lt (Nat.lt_succ_of_lt lb)
          exact mv.heap b o (by rw [sz]; simp [n1, n2]) (Heap.get?_push_of_some _ (Heap.get?_push_of_some _ eb))
      · cases r2 with
        | error e => exact hr2
        | ok f2 =>
          cases f2 with
          | next => exact hr2.elim
          | brk => exact hr2.elim
          | cont => exact hr2.elim
          | ret r =>
            obtain ⟨rfl, h2, tk, rfl, g, kp⟩ := hr2
            repeat any_goals first | assumption | wp_step
            exact out h2 tk g kp
end
section
variable {X : Cx}
def tLenSetS (K : PySem.W.Frag) (ta : TE) : TE := fun σ H Q => ta σ H fun x H1 => ∃ (l : Addr) (xs : List Str), x = .ref l ∧ SqT K H1 l (xs.map V.str) ∧ xs.length ≤ 4000 ∧ Q (.int (distN xs : Nat)) H1
theorem pe_lenSetS {a : Expr} {ta : TE} {p p2 q pos : Pos} (hg : Gl X "len") (hm : X.mg "len" = none) (hg2 : Gl X "set") (hm2 : X.mg "set" = none) (ha : PE X a ta) (hc : X.calm = true := by rfl)
    (na : starEach [a] X.env = (false, eval a X.env) :: starEach [] X.env := by rfl) : PE X (.Call (.Name "len" p) [.Call (.Name "set" p2) [a] [] q] [] pos) (tLenSetS X.K ta) := by
  refine ⟨fun pins s σ H Q I h => Call_ (ld_blt I hg hm boot_len (callWith_builtin1 (args_cons (Call_ (ld_blt I hg2 hm2 boot_set ?_)) rfl) rfl rfl))⟩
  refine callWith_type1 (args_cons (thn (ha.run pins s σ H _ I h) fun v s1 ⟨x, H1, I1, r1, q1⟩ => args_nil ?_) na) na rfl
  obtain ⟨l, xs, rfl, hq, hb, q1⟩ := q1
  cases r1
  obtain ⟨its, r, pl, hz⟩ := I1.tuple hq
  refine set_of_texts (I1.ok.hd hc) pl (by simpa using L2.strsAre_of r) hb fun h2 tk hS hk => args_nil ?_
  obtain ⟨o, es, ep, t, ho, hex, hd, _, _, _, hf, hn⟩ := hS
  have I2 : Inv X pins σ H1 { s1 with heap := h2, toks := tk } := I1.kept hk
  have few := distN_le xs
  exact call_len_set ho hex hd hf (by rw [hn]; unfold scanBound at *; omega) ⟨.int (distN xs : Nat), H1, I2.tok _, ⟨_, by rw [hn]⟩, q1⟩
end
end Ey
set_option maxHeartbeats 4000000
namespace Ey
open PySem PySem.Spec L2
theorem abc_is : (Str.ofString "abcdefghijklmnopqrstuvwxyz").cps.toList = abc := by decide +kernel
abbrev sPlain : Stmt := topS 6
abbrev sIsTag : Stmt := topS 11
abbrev sRule : Stmt := topS 18
abbrev sState : Stmt := topS 19
abbrev sTags : Stmt := topS 20
abbrev sTape : Stmt := topS 21
/-! ### tape machines as data -/
def intIn (lo hi : Int) : PyData → Bool
  | .int i => decide (lo ≤ i) && decide (i ≤ hi)
  | .none | .bool _ | .str _ | .list _ | .tuple _ | .dict _ => false
def rule3 (s m : Int) : List PyData → Bool
  | [x, y, z] => intIn 0 (m + 1) x && (intIn 0 (s - 1) y && intIn (-1) 1 z)
  | _ => false
def ruleD (s m : Int) : PyData → Bool
  | .tuple ds => rule3 s m ds
  | .none | .bool _ | .int _ | .str _ | .list _ | .dict _ => false
def stateD (s m : Int) : PyData → Bool
  | .tuple ds => decide ((ds.length : Int) = s) && ds.all (ruleD s m)
  | .none | .bool _ | .int _ | .str _ | .list _ | .dict _ => false
def strsOf : List PyData → List Str
  | [] => []
  | .str x :: r => x :: strsOf r
  | _ :: r => strsOf r
def tagsD : PyData → Bool
  | .tuple ds => ds.all isTagD && decide (distN (strsOf ds) = ds.length)
  | .none | .bool _ | .int _ | .str _ | .list _ | .dict _ => false
def partsOf : PyData → List PyData
  | .tuple ds => ds
  | .none | .bool _ | .int _ | .str _ | .list _ | .dict _ => []
def valI : PyData → Int
  | .int i => i
  | .none | .bool _ | .tuple _ | .str _ | .list _ | .dict _ => 0
def isIntD : PyData → Bool
  | .int _ => true
  | .none | .bool _ | .str _ | .list _ | .tuple _ | .dict _ => false
def isTupD : PyData → Bool
  | .tuple _ => true
  | .none | .bool _ | .int _ | .str _ | .list _ | .dict _ => false
def tape4 : List PyData → Bool
  | [k, t, s, q] => isThe "tape" k && (tagsD t && ((isIntD s && decide (((partsOf t).length : Int) + 2 ≤ valI s)) && (isTupD q && (!(partsOf q).isEmpty && (partsOf q).all (stateD (valI s) (partsOf q).length)))))
  | _ => false
def tapeD : PyData → Bool
  | .tuple ds => tape4 ds
  | .none | .bool _ | .int _ | .str _ | .list _ | .dict _ => false
/-- a def whose code object stands at c, its table at P -/
structure DfT (K : PySem.W.Frag) (mg : Str → Option Value) (x : Str) (st : Stmt) (ps : List Str) (f : Addr) (fd : FuncData) (c : Addr) : Prop extends Df K mg x st ps f fd where
  ex : ∃ (oc : Value) (od : Option Addr) (kV doc pm : Value) (an : Option Addr) (ct : Value) (osl : Array (Option Value)),
    fd = PySem.W.fnOf x x (defArgs st) (defBody st) (defScope st) .none kV doc pm an (.ref c) ct ∧ K.lookup f = some ⟨oc, od, .func fd, osl⟩ ∧ PySem.W.codeIn K (.ref c) x = true
/-- where the program's things stand -/
structure Adr where
  A : Nat → Addr
  D : Nat → FuncData
  c0 : Addr
  P0 : Addr
  c1 : Addr
  P1 : Addr
  c2 : Addr
  P2 : Addr
  c3 : Addr
  P3 : Addr
  c4 : Addr
  P4 : Addr
abbrev Adr.Ts (a : Adr) : List Addr := [a.P0, a.P1, a.P2, a.P3, a.P4]
structure PF (K : PySem.W.Frag) (mg : Str → Option Value) (a : Adr) : Prop where
  B : BI mg
  plain : Df K mg "is_plain_int" sPlain ["thing"] (a.A 6) (a.D 6)
  tag : DfT K mg "is_tag" sIsTag ["thing"] (a.A 11) (a.D 11) a.c0
  rule : DfT K mg "is_rule" sRule ["signs", "many", "thing"] (a.A 18) (a.D 18) a.c1
  state : DfT K mg "is_state" sState ["signs", "many", "thing"] (a.A 19) (a.D 19) a.c2
  tags : DfT K mg "are_unlike_tags" sTags ["thing"] (a.A 20) (a.D 20) a.c3
  tape : DfT K mg "is_tape" sTape ["thing"] (a.A 21) (a.D 21) a.c4
  lett : ∃ t, mg "LETTERS" = some (.str "abcdefghijklmnopqrstuvwxyz" t)
  tlen : ∃ t, mg "TAG_LENGTH" = some (.int 8 t)
structure BF (base : Heap) (mg : Str → Option Value) (a : Adr) : Prop where
  T0 : GxR.TabB base mg a.c0 a.P0
  T1 : GxR.TabB base mg a.c1 a.P1
  T2 : GxR.TabB base mg a.c2 a.P2
  T3 : GxR.TabB base mg a.c3 a.P3
  T4 : GxR.TabB base mg a.c4 a.P4
  M : base.Ns mainGlobals mg
theorem take_all {α : Type} {f : α → Bool} {l : List α} {i : Nat} {x : α} (h : l[i]? = some x) : (l.take (i + 1)).all f = ((l.take i).all f && f x) := by
  rw [List.take_add_one, h, List.all_append]
  simp
theorem all_no {α : Type} {f : α → Bool} {l : List α} {i : Nat} {x : α} (h : l[i]? = some x) (e : f x = false) : l.all f = false :=
  List.all_eq_false.mpr ⟨x, List.mem_of_getElem? h, by rw [e]; exact Bool.false_ne_true⟩
theorem dec_int (i j : Int) : decide (V.int i = V.int j) = decide (i = j) := by
  by_cases h : i = j
  · rw [decide_eq_true h, decide_eq_true (congrArg V.int h)]
  · rw [decide_eq_false h, decide_eq_false fun z => h (V.int.inj z)]
section
variable {Pr : Program} {w : World} {K : PySem.W.Frag} {mg : Str → Option Value} {base : Heap} {ms : List Addr} {a : Adr}
/-- a promise about any data -/
def spD (ms Ts : List Addr) (g : PyData → Bool) : Sp := fun vs H Q _ => ∃ (v : V) (d : PyData), vs = [v] ∧ An ms H v d ∧ wd d ≤ 1000000 ∧ TTs Ts H ∧ (∀ P ∈ Ts, P ∈ ms) ∧ ∀ H', TTs Ts H' → Kp Ts H H' → Q (.bl (g d)) H'
theorem scTag : FnScope ["thing"] ["thing"] (defScope sIsTag) := ⟨rfl, rfl, rfl, by decide +kernel, rfl, by decide +kernel, by decide +kernel⟩
theorem ok_tag (F : PF K mg a) (b : BF base mg a) : FnOk Pr w K mg base CX0 1 (a.A 11) (a.D 11) ["thing"] (spD ms a.Ts isTagD) := by
  obtain ⟨tL, mL⟩ := F.lett
  obtain ⟨tT, mT⟩ := F.tlen
  have B := F.B
  obtain ⟨oc, od, kV, doc, pm, an, ct, osl, efd, lk, code⟩ := F.tag.ex
  rw [efd]
  rw [efd] at lk
  refine fn_of lk code scTag (fun vs H Q E h => ?_) (fun A outer s H vs Q E hr h => ?_)
  · obtain ⟨v, d, rfl, _⟩ := h
    rfl
  · obtain ⟨v, d, rfl, hv, hz, hT, hsub, k⟩ := h
    refine ⟨_, pss_one (ps_ret (pe_and (pe_callB call_isi (by rfl) B.isi (by decide +kernel) (pa_cons (pv 0) (pa_cons (pe_bltn (v := .ty "str") (by rfl) B.str (by decide +kernel) rfl) pa_nil)))
      (pe_and (pe_chain op_le op_le pe_int (pe_callB call_len_str (by rfl) B.len PySem.boot_len (pa_cons (pv 0) pa_nil)) (pe_glob (v := .int 8) (by rfl) mT ⟨_, rfl⟩))
        (pe_one (pe_allG (P := a.P0) (c := a.c0) hr (by rfl) B.all (by decide +kernel) b.T0 rfl ⟨rfl, rfl, by decide +kernel, rfl, rfl, (by intro y hy e; exfalso; revert y; decide +kernel)⟩ (pv 0) (elt_inG rfl rfl rfl rfl b.M mL) (fun _ => rfl)))))), ?_⟩
    have kH := k H hT .refl
    obtain ⟨ty, hty, kty⟩ := hv.strK (K := K)
    refine ⟨_, rfl, _, .ty "str", ty, .type "str", _, rfl, .ty "str", hty, kty, ?_⟩
    cases hv with
    | non => exact ⟨false, rfl, iteF kH⟩
    | bl b => exact ⟨false, rfl, iteF kH⟩
    | int i => exact ⟨false, rfl, iteF kH⟩
    | lst e => exact ⟨false, rfl, iteF kH⟩
    | tup e => exact ⟨false, rfl, iteF kH⟩
    | dct e => exact ⟨false, rfl, iteF kH⟩
    | str g =>
      refine ⟨true, rfl, iteT ?_⟩
      have hg : g.length ≤ sizeLine := by
        have h1 : 10 * g.length + 2 ≤ 1000000 := hz
        exact Nat.le_trans (show g.length ≤ 1000000 by omega) (by decide)
      have fin : ∀ b, isTag g = b → Q (.bl b) H := fun b e => by
        rw [← e]
        exact kH
      refine ⟨_, rfl, _, rfl, hg, _, _, rfl, rfl, _, rfl, ?_⟩
      by_cases h1 : 1 ≤ g.length
      · rw [decide_eq_true (show (1 : Int) ≤ (g.length : Int) by omega)]
        refine iteT ⟨_, _, rfl, rfl, _, rfl, ?_⟩
        by_cases h2 : g.length ≤ 8
        · rw [decide_eq_true (show (g.length : Int) ≤ 8 by omega)]
          refine iteT ⟨_, rfl, g, rfl, hT _ (by simp), fun H2 h => ?_⟩
          obtain ⟨g2, k2⟩ := hT.tab (by simp) h
          have q : Q (.bl (isTag g)) H2 := k H2 g2 k2
          rw [isTag, decide_eq_true h1, decide_eq_true h2] at q
          rw [abc_is]
          exact q
        · rw [decide_eq_false (show ¬ (g.length : Int) ≤ 8 by omega)]
          refine iteF (fin _ ?_)
          rw [isTag, decide_eq_false h2, Bool.and_false]
          rfl
      · rw [decide_eq_false (show ¬ (1 : Int) ≤ (g.length : Int) by omega)]
        refine iteF ⟨_, rfl, iteF (fin _ ?_)⟩
        rw [isTag, decide_eq_false h1]
        rfl
theorem scPlain : FnScope ["thing"] ["thing"] (defScope sPlain) := ⟨rfl, rfl, rfl, by decide +kernel, rfl, by decide +kernel, by decide +kernel⟩
def spI (ms : List Addr) (g : PyData → Bool) : Sp := fun vs H Q _ => ∃ (v : V) (d : PyData), vs = [v] ∧ An ms H v d ∧ Q (.bl (g d)) H
theorem ok_plain {x y : Str} {st : Stmt} {f : Addr} {fd : FuncData} (F : Fun K x x st f fd) (sc : FnScope [y] [y] (defScope st)) 
    (ht : ∀ (cdv : Value) (A : Around) (outer : List Env) (s : Shared) (H : Hp) (E : XK), PSs (cxOf CX0 Pr w K mg base [y] x (defScope st) f cdv A outer s H E).nox (defBody st)
      (tRet (tAndV (tCB (rIsi K) (tCons (tVar 0) (tCons (tC (.ty "int")) tNil))) (tNotV (tCB (rIsi K) (tCons (tVar 0) (tCons (tC (.ty "bool")) tNil))))))) : FnOk Pr w K mg base CX0 1 f fd [y] (spI ms isIntD) := by
  refine F.ok sc (fun vs H Q E h => ?_) (fun cdv Ar outer s H vs Q E hr h => ?_)
  · obtain ⟨v, d, rfl, _⟩ := h
    rfl
  · obtain ⟨v, d, rfl, hv, k⟩ := h
    refine ⟨_, ht cdv Ar outer s H E, ?_⟩
    cases hv with
    | non => exact ⟨_, rfl, _, .ty "int", _, .type "int", false, rfl, .ty "int", .base .non, kit_ty (by decide +kernel), false, rfl, iteF k⟩
    | bl b => exact ⟨_, rfl, _, .ty "int", _, .type "int", true, rfl, .ty "int", .base (.bl b), kit_ty (by decide +kernel), true, rfl, iteT ⟨_, rfl, _, .ty "bool", _, .type "bool", true, rfl, .ty "bool", .base (.bl b), kit_ty (by decide +kernel), _, rfl, k⟩⟩
    | int i => exact ⟨_, rfl, _, .ty "int", _, .type "int", true, rfl, .ty "int", .base (.int i), kit_ty (by decide +kernel), true, rfl, iteT ⟨_, rfl, _, .ty "bool", _, .type "bool", false, rfl, .ty "bool", .base (.int i), kit_ty (by decide +kernel), _, rfl, k⟩⟩
    | str x => exact ⟨_, rfl, _, .ty "int", _, .type "int", false, rfl, .ty "int", .base (.str x), kit_ty (by decide +kernel), false, rfl, iteF k⟩
    | lst e => exact ⟨_, rfl, _, .ty "int", _, .type "int", false, rfl, .ty "int", .base (.lst e), kit_ty (by decide +kernel), false, rfl, iteF k⟩
    | tup e => exact ⟨_, rfl, _, .ty "int", _, .type "int", false, rfl, .ty "int", .base (.tup e), kit_ty (by decide +kernel), false, rfl, iteF k⟩
    | dct e => exact ⟨_, rfl, _, .ty "int", _, .type "int", false, rfl, .ty "int", .base (.dK e), kit_ty (by decide +kernel), false, rfl, iteF k⟩
theorem go_plain (F : PF K mg a) : FnOk Pr w K mg base CX0 1 (a.A 6) (a.D 6) ["thing"] (spI ms isIntD) :=
  ok_plain F.plain.F scPlain fun cdv A outer s H E => pss_one (ps_ret (pe_and (pe_callB call_isi (by rfl) F.B.isi (by decide +kernel) (pa_cons (pv 0) (pa_cons (pe_bltn (v := .ty "int") (by rfl) F.B.int (by decide +kernel) rfl) pa_nil)))
      (pe_one (pe_not (pe_callB call_isi (by rfl) F.B.isi (by decide +kernel) (pa_cons (pv 0) (pa_cons (pe_bltn (v := .ty "bool") (by rfl) F.B.bool (by decide +kernel) rfl) pa_nil)))))))
end
end Ey
set_option maxHeartbeats 4000000
namespace Ey
open PySem PySem.Spec PyProof.Rows L2
/-! ### bool(a tuple) -/
theorem new_bool_tup (l : Addr) (its : Array Value) (few : (its.size : Int) < 2 ^ 63) :
    Meets (Builtin.«bool.__new__» ⟨[.type "bool", .ref l], []⟩) (fun _ R s => IsTup s.heap l its ∧ R (.ok (.ret (.bool (!its.isEmpty)))) { s with toks := s.toks + 1 + 1 }) :=
  Meets.of_wp fun prog w A R s hs => by
    obtain ⟨hl, hs⟩ := hs
    obtain ⟨h, g, d, t, o⟩ := s
    have f1 := F.conv_sub_bool
    repeat any_goals first | assumption | (with_reducible refine truthy_tuple hl few ?_) | wp_step
    all_goals first | exact ⟨_, rfl, hs⟩ | exact hs | skip
section
variable {X : Cx}
theorem call_boolT : CallR X (.type "bool") (fun xs H Q => ∃ (a : Addr) (zs : List V), xs = [.ref a] ∧ SqT X.K H a zs ∧ Q (.bl (!zs.isEmpty)) H) := by
  intro pins s σ H xs us Q I r h
  obtain ⟨a, zs, rfl, hq, q⟩ := h
  obtain rfl := Vals.ref1 r
  obtain ⟨its, rv, pl, hz⟩ := I.tuple hq
  have hl := line63
  have hlen := rv.length
  refine call_bool_1 (new_bool_tup a its.toArray (by simp only [List.size_toArray]; omega)) ⟨pl, rfl, ?_⟩
  exact ⟨.bl (!zs.isEmpty), H, I.tok _, by rw [isEmpty_of rv]; rfl, q⟩
end
end Ey
set_option maxHeartbeats 4000000
namespace Ey
open PySem PySem.Spec L2
/-- all(..) over a tuple, beside captured names -/
theorem all_tupC {K : PySem.W.Frag} {a : Addr} {xs : List V} {cs : L2.St} {te : TE} {Q : VK} {H1 : Hp} (Pv : Nat → Hp → Prop) (h0 : Pv 0 H1) (hl : ∀ i H, Pv i H → SqT K H a xs)
    (hs : ∀ i x H, xs[i]? = some x → Pv i H → te (some x :: cs) H fun y H3 => ∃ b, y = .bl b ∧ if b = true then Pv (i + 1) H3 else Q (.bl false) H3) (hd : ∀ H, Pv xs.length H → Q (.bl true) H) :
    ∃ (n0 : Nat) (W : Nat → Hp → Prop), W 0 H1 ∧ ∀ i H', W i H' → (i < n0 ∧ (Itt K a).go i H' ∧ ∀ v H'', (Itt K a).yld i H' v H'' → te (some v :: cs) H'' fun y H3 => ∃ b, y = .bl b ∧ if b = true then W (i + 1) H3 else Q (.bl false) H3) ∨ ((Itt K a).stop i H' ∧ Q (.bl true) H') := by
  obtain ⟨n0, W, h1, h2⟩ := all_tup (K := K) (a := a) (xs := xs) (te := fun σ H R => te (σ ++ cs) H R) (Q := Q) Pv h0 hl hs hd
  exact ⟨n0, W, h1, h2⟩
def BK (Q : Bool → Hp → Prop) : VK := fun x H1 => ∃ c, x = .bl c ∧ Q c H1
def tBN (te : TE) : TT := fun σ H Q => te σ H (BK Q)
theorem pt_valN {X : Cx} {e : Expr} {te : TE} (h : PE X e te) (he : ∀ whole, PySem.isTrue e X.env whole = (do let v ← whole; standAt e.pos; holding [v] (truthy v)) := by intro _; rfl) : PT X e (tBN te) := pt_val h he
theorem ruleD_len {s m : Int} {ds : List PyData} (h : ds.length ≠ 3) : ruleD s m (.tuple ds) = false := by
  match ds, h with
  | [], _ => rfl
  | [_], _ => rfl
  | [_, _], _ => rfl
  | [_, _, _], h => exact absurd rfl h
  | _ :: _ :: _ :: _ :: _, _ => rfl
theorem intIn_int {lo hi : Int} {x : PyData} (h : intIn lo hi x = true) : isIntD x = true := by
  cases x with
  | int i => rfl
  | none => cases h
  | bool b => cases h
  | str b => cases h
  | list b => cases h
  | tuple b => cases h
  | dict b => cases h
theorem ruleD_int {s m : Int} {ds : List PyData} (h : ds.all isIntD = false) : ruleD s m (.tuple ds) = false := by
  by_cases e : ds.length = 3
  · match ds, e, h with
    | [x, y, z], _, h =>
      refine Bool.eq_false_iff.mpr fun q => ?_
      have q : (intIn 0 (m + 1) x && (intIn 0 (s - 1) y && intIn (-1) 1 z)) = true := q
      rw [Bool.and_eq_true, Bool.and_eq_true] at q
      have h : (isIntD x && (isIntD y && (isIntD z && true))) = false := h
      rw [intIn_int q.1, intIn_int q.2.1, intIn_int q.2.2] at h
      cases h
  · exact ruleD_len e
theorem int_an {ms : List Addr} {H : Hp} {v : V} {d : PyData} (a : An ms H v d) (h : isIntD d = true) : ∃ i, v = .int i ∧ d = .int i := by
  cases a with
  | int i => exact ⟨i, rfl, rfl⟩
  | non => cases h
  | bl b => cases h
  | str g => cases h
  | lst e => cases h
  | tup e => cases h
  | dct e => cases h
section
variable {Pr : Program} {w : World} {K : PySem.W.Frag} {mg : Str → Option Value} {base : Heap} {ms : List Addr} {a : Adr}
theorem scRule : FnScope ["signs", "many", "thing"] ["signs", "many", "thing"] (defScope sRule) := ⟨rfl, rfl, rfl, by decide +kernel, rfl, by decide +kernel, by decide +kernel⟩
def spR (ms Ts : List Addr) (g : Int → Int → PyData → Bool) : Sp := fun vs H Q _ => ∃ (s m : Int) (v : V) (d : PyData), vs = [.int s, .int m, v] ∧ An ms H v d ∧ wd d ≤ 1000000 ∧ TTs Ts H ∧ (∀ P ∈ Ts, P ∈ ms) ∧ ∀ H', TTs Ts H' → Kp Ts H H' → Q (.bl (g s m d)) H'
theorem ok_rule (F : PF K mg a) (b : BF base mg a) : FnOk Pr w K mg base CX0 4 (a.A 18) (a.D 18) ["signs", "many", "thing"] (spR ms a.Ts ruleD) := by
  have B := F.B
  obtain ⟨oc, od, kV, doc, pm, an, ct, osl, efd, lk, code⟩ := F.rule.ex
  rw [efd]
  rw [efd] at lk
  refine fn_of lk code scRule (fun vs H Q E h => ?_) (fun A outer s0 H vs Q E hr h => ?_)
  · obtain ⟨s, m, v, d, rfl, _⟩ := h
    rfl
  · obtain ⟨s, m, v, d, rfl, hv, hz, hT, hsub, k⟩ := h
    refine ⟨_, pss_cons (ps_if (PW.pt (pw_or (pt_not (pt_val (pe_callB call_isi (by rfl) B.isi (by decide +kernel) (pa_cons (pv 2) (pa_cons (pe_bltn (v := .ty "tuple") (by rfl) B.tuple (by decide +kernel) rfl) pa_nil)))))
        (pw_or (pt_cmpR op_ne (pe_callB call_len_seq (by rfl) B.len PySem.boot_len (pa_cons (pv 2) pa_nil)) pe_int (nomark _))
        (pw_or1 (pt_not (pt_valN (pe_allC (k := 1) (P := a.P1) (c := a.c1) (ix := []) (ys := []) hr (by rfl) B.all (by decide +kernel) b.T1 rfl ⟨rfl, rfl, by decide +kernel, rfl, rfl, (by intro y hy e; exfalso; revert y; decide +kernel)⟩ (by decide +kernel) (by intro y hy e; exfalso; revert y; decide +kernel) (fun y hy => absurd hy List.not_mem_nil) rfl (fun j y h => by cases h) (pi_tup (pv 2))
          (fun A s H C code fp hr => pe_call (go_plain (ms := ms) F) hr (by rfl) F.plain.g F.plain.F.kp F.plain.b .nil pass0 (pa_cons (pv 0) pa_nil)) (fun _ => rfl)))))))) (pss_one (ps_ret pe_bl)) pss_nil)
      (pss_one (ps_ret (pe_and (pe_chain op_le op_le pe_int (pe_ix (r := rIxT K) ix_tup (pv 2) pe_int (fun _ _ => rfl)) (pe_op op_add (pv 1) pe_int))
        (pe_and (pe_chain op_le op_lt pe_int (pe_ix (r := rIxT K) ix_tup (pv 2) pe_int (fun _ _ => rfl)) (pv 0))
        (pe_one (pe_chain op_le op_le (pe_un un_neg pe_int) (pe_ix (r := rIxT K) ix_tup (pv 2) pe_int (fun _ _ => rfl)) pe_int)))))), ?_⟩
    have kH := k H hT .refl
    obtain ⟨ty, hty, kty⟩ := hv.tupK (K := K)
    refine ⟨_, rfl, _, .ty "tuple", ty, .type "tuple", _, rfl, .ty "tuple", hty, kty, ?_⟩
    cases hv with
    | non => exact ⟨false, rfl, iteT kH⟩
    | bl b => exact ⟨false, rfl, iteT kH⟩
    | int i => exact ⟨false, rfl, iteT kH⟩
    | str g => exact ⟨false, rfl, iteT kH⟩
    | lst e => exact ⟨false, rfl, iteT kH⟩
    | dct e => exact ⟨false, rfl, iteT kH⟩
    | @tup t xs ds e hds =>
      have lx := hds.length
      refine ⟨true, rfl, iteF ⟨_, rfl, t, _, rfl, .inr (sqt_of e), rfl, _, rfl, ?_⟩⟩
      rw [dec_int]
      by_cases h3 : ((xs.length : Nat) : Int) = 3
      rotate_left
      · rw [decide_eq_false h3]
        have q : ruleD s m (.tuple ds) = false := ruleD_len (by omega)
        rw [q] at kH
        exact iteT kH
      rw [decide_eq_true h3]
      refine iteF ⟨_, rfl, t, rfl, ⟨_, sqt_of e⟩, hT _ (by simp), fun H2 h2 => ?_⟩
      obtain ⟨g2, kt2⟩ := hT.tab (by simp) h2
      refine all_tupC (K := K) (a := t) (xs := xs) (fun i H' => TTs a.Ts H' ∧ Kp a.Ts H H' ∧ (ds.take i).all isIntD = true) ⟨g2, kt2, rfl⟩ (fun i H' h => sqt_of (h.2.1.tup _ _ e)) ?_ ?_
      · rintro i x H' hx ⟨g', k', qa⟩
        obtain ⟨dx, ex, ax⟩ := hds.get hx
        refine ⟨_, rfl, x, dx, rfl, ax.kp k' hsub dx, _, rfl, ?_⟩
        cases e2 : isIntD dx with
        | true =>
          refine iteT ⟨g', k', ?_⟩
          rw [take_all ex, qa, e2]
          rfl
        | false =>
          have q : ruleD s m (.tuple ds) = false := ruleD_int (all_no ex e2)
          have kf := k H' g' k'
          rw [q] at kf
          exact iteF ⟨false, rfl, iteT kf⟩
      · rintro H' ⟨g', k', qa⟩
        rw [lx, List.take_length] at qa
        refine ⟨true, rfl, iteF ?_⟩
        have e' := k'.tup _ _ e
        match ds, hds, qa, k with
        | [], .nil, _, _ => cases h3
        | [_], .cons _ .nil, _, _ => cases h3
        | [_, _], .cons _ (.cons _ .nil), _, _ => cases h3
        | _ :: _ :: _ :: _ :: r, .cons _ (.cons _ (.cons _ (.cons _ t))), _, _ =>
          simp only [List.length_cons] at h3
          omega
        | [d0, d1, d2], .cons a0 (.cons a1 (.cons a2 .nil)), qa, k =>
          have qa : (isIntD d0 && (isIntD d1 && (isIntD d2 && true))) = true := qa
          rw [Bool.and_eq_true, Bool.and_eq_true, Bool.and_true] at qa
          obtain ⟨i0, rfl, rfl⟩ := int_an a0 qa.1
          obtain ⟨i1, rfl, rfl⟩ := int_an a1 qa.2.1
          obtain ⟨i2, rfl, rfl⟩ := int_an a2 qa.2.2
          have fin : ∀ c, ((decide (0 ≤ i0) && decide (i0 ≤ m + 1)) && ((decide (0 ≤ i1) && decide (i1 ≤ s - 1)) && (decide (-1 ≤ i2) && decide (i2 ≤ 1)))) = c → Q (.bl c) H' := fun c ec => ec ▸ k H' g' k'
          refine ⟨_, rfl, t, _, _, _, rfl, rfl, sqt_of e', atI_nat (j := 0) rfl, _, _, rfl, rfl, _, rfl, ite2 (fun h => ?_) (fun h => ⟨_, rfl, iteF (fin _ (by simp at h ⊢; omega))⟩)⟩
          refine ⟨_, rfl, _, _, rfl, rfl, _, _, rfl, rfl, _, rfl, ite2 (fun h1 => ?_) (fun h1 => fin _ (by simp at h h1 ⊢; omega))⟩
          refine ⟨_, rfl, t, _, _, _, rfl, rfl, sqt_of e', atI_nat (j := 1) rfl, _, _, rfl, rfl, _, rfl, ite2 (fun h2 => ?_) (fun h2 => ⟨_, rfl, iteF (fin _ (by simp at h h1 h2 ⊢; omega))⟩)⟩
          refine ⟨_, rfl, _, _, rfl, rfl, _, rfl, ite2 (fun h3 => ?_) (fun h3 => fin _ (by simp at h h1 h2 h3 ⊢; omega))⟩
          refine ⟨_, rfl, _, rfl, t, _, _, _, rfl, rfl, sqt_of e', atI_nat (j := 2) rfl, _, _, rfl, rfl, _, rfl, ite2 (fun h4 => ?_) (fun h4 => fin _ (by simp at h h1 h2 h3 h4 ⊢; omega))⟩
          exact ⟨_, _, rfl, rfl, fin _ (by rw [h, h1, h2, show decide (i1 ≤ s - 1) = true from decide_eq_true (by have := of_decide_eq_true h3; omega), show decide (-1 ≤ i2) = true from h4]; rfl)⟩
theorem scState : FnScope ["signs", "many", "thing"] ["signs", "many", "thing"] (defScope sState) := ⟨rfl, rfl, rfl, by decide +kernel, rfl, by decide +kernel, by decide +kernel⟩
theorem ok_state (F : PF K mg a) (b : BF base mg a) : FnOk Pr w K mg base CX0 7 (a.A 19) (a.D 19) ["signs", "many", "thing"] (spR ms a.Ts stateD) := by
  have B := F.B
  obtain ⟨oc, od, kV, doc, pm, an, ct, osl, efd, lk, code⟩ := F.state.ex
  rw [efd]
  rw [efd] at lk
  refine fn_of lk code scState (fun vs H Q E h => ?_) (fun A outer s0 H vs Q E hr h => ?_)
  · obtain ⟨s, m, v, d, rfl, _⟩ := h
    rfl
  · obtain ⟨s, m, v, d, rfl, hv, hz, hT, hsub, k⟩ := h
    refine ⟨_, pss_one (ps_ret (pe_and (pe_callB call_isi (by rfl) B.isi (by decide +kernel) (pa_cons (pv 2) (pa_cons (pe_bltn (v := .ty "tuple") (by rfl) B.tuple (by decide +kernel) rfl) pa_nil)))
      (pe_and (pe_cmpR op_eq (pe_callB call_len_seq (by rfl) B.len PySem.boot_len (pa_cons (pv 2) pa_nil)) (pv 0) (nomark _))
        (pe_one (pe_allC (k := 4) (P := a.P2) (c := a.c2) (ix := [0, 1]) (ys := ["signs", "many"]) hr (by rfl) B.all (by decide +kernel) b.T2 rfl ⟨rfl, rfl, by decide +kernel, rfl, rfl, (by intro y hy e; simp only [List.mem_cons, List.not_mem_nil, or_false] at hy; rcases hy with rfl | rfl | rfl | rfl | rfl <;> first | (cases e; done) | exact ⟨_, rfl⟩)⟩ (by decide +kernel) (by intro y hy e; simp only [List.mem_cons, List.not_mem_nil, or_false] at hy; rcases hy with rfl | rfl | rfl | rfl | rfl <;> first | (cases e; done) | exact .inl rfl) (by intro y hy; simp only [List.mem_cons, List.not_mem_nil, or_false] at hy; rcases hy with rfl | rfl <;> rfl) rfl (by intro j y h; match j, h with | 0, h => exact ⟨0, rfl, h⟩ | 1, h => exact ⟨1, rfl, h⟩)
          (pi_tup (pv 2))
          (fun A s H C code fp hr => pe_call (ok_rule (ms := ms) F b) hr (by rfl) F.rule.g F.rule.F.kp F.rule.b .nil pass0 (pa_cons (pv 1) (pa_cons (pv 2) (pa_cons (pv 0) pa_nil)))) (fun _ => rfl)))))), ?_⟩
    have kH := k H hT .refl
    obtain ⟨ty, hty, kty⟩ := hv.tupK (K := K)
    refine ⟨_, rfl, _, .ty "tuple", ty, .type "tuple", _, rfl, .ty "tuple", hty, kty, ?_⟩
    cases hv with
    | non => exact ⟨false, rfl, iteF kH⟩
    | bl b => exact ⟨false, rfl, iteF kH⟩
    | int i => exact ⟨false, rfl, iteF kH⟩
    | str g => exact ⟨false, rfl, iteF kH⟩
    | lst e => exact ⟨false, rfl, iteF kH⟩
    | dct e => exact ⟨false, rfl, iteF kH⟩
    | @tup t xs ds e hds =>
      have lx := hds.length
      refine ⟨true, rfl, iteT ⟨_, rfl, t, _, rfl, .inr (sqt_of e), _, rfl, rfl, _, rfl, ?_⟩⟩
      rw [dec_int, lx]
      have kw : ∀ H', TTs a.Ts H' → Kp a.Ts H H' → Q (.bl (decide ((ds.length : Int) = s) && ds.all (ruleD s m))) H' := k
      cases hc : decide (((ds.length : Nat) : Int) = s) with
      | false =>
        have q := kw H hT .refl
        rw [hc] at q
        exact iteF q
      | true =>
        rw [hc] at kw
        refine iteT ⟨_, rfl, t, rfl, ⟨_, sqt_of e⟩, hT _ (by simp), fun H2 h2 => ?_⟩
        obtain ⟨g2, kt2⟩ := hT.tab (by simp) h2
        refine all_tupC (K := K) (a := t) (xs := xs) (fun i H' => TTs a.Ts H' ∧ Kp a.Ts H H' ∧ (ds.take i).all (ruleD s m) = true) ⟨g2, kt2, rfl⟩ (fun i H' h => sqt_of (h.2.1.tup _ _ e)) ?_ ?_
        · rintro i x H' hx ⟨g', k', qa⟩
          obtain ⟨dx, ex, ax⟩ := hds.get hx
          have wx := wd_get ex
          have hz' : wdAll ds + 3 ≤ 1000000 := hz
          refine ⟨_, rfl, _, rfl, _, rfl, s, m, x, dx, rfl, ax.kp k' hsub dx, by omega, g', hsub, fun H3 g3 k3 => ⟨_, rfl, ?_⟩⟩
          cases e2 : ruleD s m dx with
          | true =>
            refine iteT ⟨g3, k'.trans k3, ?_⟩
            rw [take_all ex, qa, e2]
            rfl
          | false =>
            have q := kw H3 g3 (k'.trans k3)
            rw [all_no ex e2] at q
            exact iteF q
        · rintro H' ⟨g', k', qa⟩
          rw [lx, List.take_length] at qa
          have q := kw H' g' k'
          rw [qa] at q
          exact q
end
end Ey
set_option maxHeartbeats 4000000
namespace Ey
open PySem PySem.Spec L2
def tAndB (ta tb : TE) : TE := fun σ H Q => ta σ H (BK fun c H1 => if c = true then tb σ H1 Q else Q (.bl false) H1)
theorem pe_andB {X : Cx} {a b : Expr} {rest : List Expr} {pos : Pos} {ta tb : TE} (ha : PE X a ta) (hb : PE X (.BoolOp .And (b :: rest) pos) tb) : PE X (.BoolOp .And (a :: b :: rest) pos) (tAndB ta tb) := pe_and ha hb
theorem tag_str {x : PyData} (h : isTagD x = true) : ∃ g, x = .str g := by
  cases x with
  | str g => exact ⟨g, rfl⟩
  | int i => cases h
  | none => cases h
  | bool b => cases h
  | list b => cases h
  | tuple b => cases h
  | dict b => cases h
theorem strs_an {ms : List Addr} {H : Hp} : ∀ {vs : List V} {ds : List PyData}, AnAll ms H vs ds → ds.all isTagD = true → vs = (strsOf ds).map V.str ∧ (strsOf ds).length = ds.length ∧ 4 * ds.length ≤ wdAll ds
  | _, _, .nil, _ => ⟨rfl, rfl, Nat.le_refl _⟩
  | v :: vs, d :: ds, .cons a as, h => by
    have h : (isTagD d && ds.all isTagD) = true := h
    rw [Bool.and_eq_true] at h
    obtain ⟨g, rfl⟩ := tag_str h.1
    obtain ⟨e1, e2, e3⟩ := strs_an as h.2
    cases a with
    | str =>
      refine ⟨?_, ?_, ?_⟩
      · show V.str g :: vs = V.str g :: (strsOf ds).map V.str
        rw [← e1]
      · show (strsOf ds).length + 1 = ds.length + 1
        rw [e2]
      · show 4 * (ds.length + 1) ≤ 10 * g.length + 2 + 2 + wdAll ds
        omega
section
variable {Pr : Program} {w : World} {K : PySem.W.Frag} {mg : Str → Option Value} {base : Heap} {ms : List Addr} {a : Adr}
/-- a promise about any data of a bounded kind -/
def spW (ms Ts : List Addr) (g : PyData → Bool) : Sp := fun vs H Q _ => ∃ (v : V) (d : PyData), vs = [v] ∧ An ms H v d ∧ wd d ≤ 16000 ∧ TTs Ts H ∧ (∀ P ∈ Ts, P ∈ ms) ∧ ∀ H', TTs Ts H' → Kp Ts H H' → Q (.bl (g d)) H'
theorem scTags : FnScope ["thing"] ["thing"] (defScope sTags) := ⟨rfl, rfl, rfl, by decide +kernel, rfl, by decide +kernel, by decide +kernel⟩
theorem ok_tags (F : PF K mg a) (b : BF base mg a) : FnOk Pr w K mg base CX0 4 (a.A 20) (a.D 20) ["thing"] (spW ms a.Ts tagsD) := by
  have B := F.B
  obtain ⟨oc, od, kV, doc, pm, an, ct, osl, efd, lk, code⟩ := F.tags.ex
  rw [efd]
  rw [efd] at lk
  refine fn_of lk code scTags (fun vs H Q E h => ?_) (fun A outer s0 H vs Q E hr h => ?_)
  · obtain ⟨v, d, rfl, _⟩ := h
    rfl
  · obtain ⟨v, d, rfl, hv, hz, hT, hsub, k⟩ := h
    refine ⟨_, pss_one (ps_ret (pe_and (pe_callB call_isi (by rfl) B.isi (by decide +kernel) (pa_cons (pv 0) (pa_cons (pe_bltn (v := .ty "tuple") (by rfl) B.tuple (by decide +kernel) rfl) pa_nil)))
      (pe_andB (pe_allC (k := 1) (P := a.P3) (c := a.c3) (ix := []) (ys := []) hr (by rfl) B.all (by decide +kernel) b.T3 rfl ⟨rfl, rfl, by decide +kernel, rfl, rfl, (by intro y hy e; exfalso; revert y; decide +kernel)⟩ (by decide +kernel) (by intro y hy e; exfalso; revert y; decide +kernel) (fun y hy => absurd hy List.not_mem_nil) rfl (fun j y h => by cases h) (pi_tup (pv 0))
          (fun A s H C code fp hr => pe_call (ok_tag (ms := ms) F b) hr (by rfl) F.tag.g F.tag.F.kp F.tag.b .nil pass0 (pa_cons (pv 0) pa_nil)) (fun _ => rfl))
        (pe_one (pe_cmpR op_eq (pe_lenSetS (by rfl) B.len (by rfl) B.set (pv 0)) (pe_callB call_len_seq (by rfl) B.len PySem.boot_len (pa_cons (pv 0) pa_nil)) (nomark _)))))), ?_⟩
    have kH := k H hT .refl
    obtain ⟨ty, hty, kty⟩ := hv.tupK (K := K)
    refine ⟨_, rfl, _, .ty "tuple", ty, .type "tuple", _, rfl, .ty "tuple", hty, kty, ?_⟩
    cases hv with
    | non => exact ⟨false, rfl, iteF kH⟩
    | bl b => exact ⟨false, rfl, iteF kH⟩
    | int i => exact ⟨false, rfl, iteF kH⟩
    | str g => exact ⟨false, rfl, iteF kH⟩
    | lst e => exact ⟨false, rfl, iteF kH⟩
    | dct e => exact ⟨false, rfl, iteF kH⟩
    | @tup t xs ds e hds =>
      have lx := hds.length
      have hz' : wdAll ds + 3 ≤ 16000 := hz
      have kw : ∀ H', TTs a.Ts H' → Kp a.Ts H H' → Q (.bl (ds.all isTagD && decide (distN (strsOf ds) = ds.length))) H' := k
      refine ⟨true, rfl, iteT ⟨_, rfl, t, rfl, ⟨_, sqt_of e⟩, hT _ (by simp), fun H2 h2 => ?_⟩⟩
      obtain ⟨g2, kt2⟩ := hT.tab (by simp) h2
      refine all_tupC (K := K) (a := t) (xs := xs) (fun i H' => TTs a.Ts H' ∧ Kp a.Ts H H' ∧ (ds.take i).all isTagD = true) ⟨g2, kt2, rfl⟩ (fun i H' h => sqt_of (h.2.1.tup _ _ e)) ?_ ?_
      · rintro i x H' hx ⟨g', k', qa⟩
        obtain ⟨dx, ex, ax⟩ := hds.get hx
        have wx := wd_get ex
        refine ⟨_, rfl, x, dx, rfl, ax.kp k' hsub dx, by omega, g', hsub, fun H3 g3 k3 => ⟨_, rfl, ?_⟩⟩
        cases e2 : isTagD dx with
        | true =>
          refine iteT ⟨g3, k'.trans k3, ?_⟩
          rw [take_all ex, qa, e2]
          rfl
        | false =>
          have q := kw H3 g3 (k'.trans k3)
          rw [all_no ex e2] at q
          exact iteF ⟨false, rfl, iteF q⟩
      · rintro H' ⟨g', k', qa⟩
        rw [lx, List.take_length] at qa
        have q := kw H' g' k'
        rw [qa] at q
        obtain ⟨e1, e2, e3⟩ := strs_an hds qa
        have e' := k'.tup _ _ e
        refine ⟨true, rfl, iteT ⟨_, rfl, t, strsOf ds, rfl, ?_, by omega, ?_⟩⟩
        · rw [← e1]
          exact sqt_of e'
        · refine ⟨_, rfl, t, _, rfl, .inr (sqt_of e'), rfl, ?_⟩
          rw [dec_int, lx]
          have ed : decide (((distN (strsOf ds) : Nat) : Int) = ((ds.length : Nat) : Int)) = decide (distN (strsOf ds) = ds.length) := by
            by_cases h : distN (strsOf ds) = ds.length
            · rw [decide_eq_true h, decide_eq_true (by omega)]
            · rw [decide_eq_false h, decide_eq_false (by omega)]
          rw [ed]
          exact q
end
end Ey
set_option maxHeartbeats 4000000
namespace Ey
open PySem PySem.Spec L2
abbrev rLenQ (K : PySem.W.Frag) : List V → Hp → VK → Prop := fun xs H Q => ∃ p ys, xs = [V.ref p] ∧ (SqL K H p ys ∨ SqT K H p ys) ∧ Q (V.int ys.length) H
section
variable {Pr : Program} {w : World} {K : PySem.W.Frag} {mg : Str → Option Value} {base : Heap} {ms : List Addr} {a : Adr}
abbrev NTp : List Str := ["thing", "_", "tags", "signs", "states"]
theorem scTape : FnScope NTp ["thing"] (defScope sTape) := ⟨rfl, rfl, rfl, by decide +kernel, rfl, by decide +kernel, by decide +kernel⟩
theorem ok_tape (F : PF K mg a) (b : BF base mg a) : FnOk Pr w K mg base CX0 10 (a.A 21) (a.D 21) ["thing"] (spW ms a.Ts tapeD) := by
  have B := F.B
  obtain ⟨oc, od, kV, doc, pm, an, ct, osl, efd, lk, code⟩ := F.tape.ex
  rw [efd]
  rw [efd] at lk
  refine fn_of lk code scTape (fun vs H Q E h => ?_) (fun A outer s0 H vs Q E hr h => ?_)
  · obtain ⟨v, d, rfl, _⟩ := h
    rfl
  · obtain ⟨v, d, rfl, hv, hz, hT, hsub, k⟩ := h
    have hr1 := hr.mono (show 1 ≤ 9 by decide)
    have hr3 := hr.mono (show 4 ≤ 9 by decide)
    have hu1 := hr.units
    refine ⟨_, pss_cons (ps_if (PW.pt (pw_or (pt_not (pt_val (pe_callB call_isi (by rfl) B.isi (by decide +kernel) (pa_cons (pv 0) (pa_cons (pe_bltn (v := .ty "tuple") (by rfl) B.tuple (by decide +kernel) rfl) pa_nil)))))
        (pw_or (pt_cmpR op_ne (pe_callB call_len_seq (by rfl) B.len PySem.boot_len (pa_cons (pv 0) pa_nil)) pe_int (nomark _))
        (pw_or1 (pt_cmpR (op_neAn (Nat.lt_of_le_of_lt (Nat.le_add_right _ 64) hu1)) (pe_ix (r := rIxT K) ix_tup (pv 0) pe_int (fun _ _ => rfl)) pe_str (nomark _)))))) (pss_one (ps_ret pe_bl)) pss_nil)
      (pss_cons (ps_asg (pv 0) (pg_tup (n := 4) rfl (pgs_cons (pg_name (i := 1) scTape.nd rfl (.inl rfl)) (pgs_cons (pg_name (i := 2) scTape.nd rfl (.inl rfl)) (pgs_cons (pg_name (i := 3) scTape.nd rfl (.inr rfl)) (pgs_cons (pg_name (i := 4) scTape.nd rfl (.inr rfl)) pgs_nil))))))
      (pss_cons (ps_if (PW.pt (pw_or (pt_not (pt_val (pe_call (ok_tags (ms := ms) F b) hr3 (by rfl) F.tags.g F.tags.F.kp F.tags.b .nil pass0 (pa_cons (pv 2) pa_nil))))
        (pw_or (pt_not (pt_val (pe_call (go_plain (ms := ms) F) hr1 (by rfl) F.plain.g F.plain.F.kp F.plain.b .nil pass0 (pa_cons (pv 3) pa_nil))))
        (pw_or1 (pt_cmpR op_lt (pv 3) (pe_op op_add (pe_callB call_len_seq (by rfl) B.len PySem.boot_len (pa_cons (pv 2) pa_nil)) pe_int) (nomark _)))))) (pss_one (ps_ret pe_bl)) pss_nil)
      (pss_one (ps_ret (pe_and (pe_callB call_isi (by rfl) B.isi (by decide +kernel) (pa_cons (pv 4) (pa_cons (pe_bltn (v := .ty "tuple") (by rfl) B.tuple (by decide +kernel) rfl) pa_nil)))
        (pe_and (pe_callTy call_boolT (by rfl) B.bool (by decide +kernel) (pa_cons (pv 4) pa_nil))
        (pe_one (pe_allC (k := 7) (P := a.P4) (c := a.c4) (ix := [3, 4]) (ys := ["signs", "states"]) hr (by rfl) B.all (by decide +kernel) b.T4 rfl ⟨rfl, rfl, by decide +kernel, rfl, rfl, (by intro y hy e; simp only [List.mem_cons, List.not_mem_nil, or_false] at hy; rcases hy with rfl | rfl | rfl | rfl | rfl | rfl <;> first | (cases e; done) | exact ⟨_, rfl⟩)⟩ (by decide +kernel) (by intro y hy e; simp only [List.mem_cons, List.not_mem_nil, or_false] at hy; rcases hy with rfl | rfl | rfl | rfl | rfl | rfl <;> first | (cases e; done) | exact .inl rfl) (by intro y hy; simp only [List.mem_cons, List.not_mem_nil, or_false] at hy; rcases hy with rfl | rfl <;> rfl) rfl (by intro j y h; match j, h with | 0, h => exact ⟨3, rfl, h⟩ | 1, h => exact ⟨4, rfl, h⟩)
          (pi_tup (pv 4))
          (fun A s H C code fp hr => pe_call (ok_state (ms := ms) F b) hr (by rfl) F.state.g F.state.F.kp F.state.b .nil pass0 (pa_cons (pv 1) (pa_cons (pe_callB (r := rLenQ K) call_len_seq (by rfl) B.len PySem.boot_len (pa_cons (pv 2) pa_nil)) (pa_cons (pv 0) pa_nil)))) (fun _ => rfl))))))))), ?_⟩
    have kH := k H hT .refl
    obtain ⟨ty, hty, kty⟩ := hv.tupK (K := K)
    refine ⟨_, rfl, _, .ty "tuple", ty, .type "tuple", _, rfl, .ty "tuple", hty, kty, ?_⟩
    cases hv with
    | non => exact ⟨false, rfl, iteT kH⟩
    | bl b => exact ⟨false, rfl, iteT kH⟩
    | int i => exact ⟨false, rfl, iteT kH⟩
    | str g => exact ⟨false, rfl, iteT kH⟩
    | lst e => exact ⟨false, rfl, iteT kH⟩
    | dct e => exact ⟨false, rfl, iteT kH⟩
    | @tup t xs ds e hds =>
      have lx := hds.length
      have hz' : wdAll ds + 3 ≤ 16000 := hz
      refine ⟨true, rfl, iteF ⟨_, rfl, t, _, rfl, .inr (sqt_of e), rfl, _, rfl, ?_⟩⟩
      rw [dec_int]
      by_cases h4 : ((xs.length : Nat) : Int) = 4
      rotate_left
      · rw [decide_eq_false h4]
        have q : tapeD (.tuple ds) = false := by
          show tape4 ds = false
          match ds, lx with
          | [], _ => rfl
          | [_], _ => rfl
          | [_, _], _ => rfl
          | [_, _, _], _ => rfl
          | [_, _, _, _], lx => exact absurd (by rw [lx]; rfl) h4
          | _ :: _ :: _ :: _ :: _ :: _, _ => rfl
        rw [q] at kH
        exact iteT kH
      rw [decide_eq_true h4]
      match xs, ds, hds, h4, k, kH, hz', e with
      | _, _, .nil, h4, _, _, _, _ => cases h4
      | _, _, .cons _ .nil, h4, _, _, _, _ => cases h4
      | _, _, .cons _ (.cons _ .nil), h4, _, _, _, _ => cases h4
      | _, _, .cons _ (.cons _ (.cons _ .nil)), h4, _, _, _, _ => cases h4
      | _, _, .cons _ (.cons _ (.cons _ (.cons _ (.cons _ t)))), h4, _, _, _, _ =>
        simp only [List.length_cons] at h4
        omega
      | [v0, v1, v2, v3], [d0, d1, d2, d3], .cons a0 (.cons a1 (.cons a2 (.cons a3 .nil))), _, k, kH, hz', e =>
        refine iteF ⟨_, rfl, t, _, _, _, rfl, rfl, sqt_of e, atI_nat (j := 0) rfl, ms, d0, _, a0, rfl, _, rfl, ?_⟩
        have kw : ∀ H', TTs a.Ts H' → Kp a.Ts H H' → Q (.bl (isThe "tape" d0 && (tagsD d1 && ((isIntD d2 && decide (((partsOf d1).length : Int) + 2 ≤ valI d2)) && (isTupD d3 && (!(partsOf d3).isEmpty && (partsOf d3).all (stateD (valI d2) (partsOf d3).length))))))) H' := k
        cases hk : isThe "tape" d0 with
        | false =>
          have q := kw H hT .refl
          rw [hk] at q
          exact iteT q
        | true =>
          rw [hk] at kw
          have w4 : wd d0 + 2 + (wd d1 + 2 + (wd d2 + 2 + (wd d3 + 2 + 0))) + 3 ≤ 16000 := hz
          refine iteF ⟨_, rfl, t, _, rfl, sqt_of e, rfl, _, _, rfl, _, _, rfl, _, _, rfl, _, _, rfl, rfl, ?_⟩
          refine ⟨_, rfl, v1, d1, rfl, a1, by omega, hT, hsub, fun H1 g1 k1 => ⟨_, rfl, ?_⟩⟩
          cases ht : tagsD d1 with
          | false =>
            have q := kw H1 g1 k1
            rw [ht] at q
            exact iteT q
          | true =>
            rw [ht] at kw
            refine iteF ⟨_, rfl, v2, d2, rfl, a2.kp k1 hsub d2, _, rfl, ?_⟩
            cases hi : isIntD d2 with
            | false =>
              have q := kw H1 g1 k1
              rw [hi] at q
              exact iteT q
            | true =>
              rw [hi] at kw
              obtain ⟨s, rfl, rfl⟩ := int_an a2 hi
              obtain ⟨ts, rfl⟩ : ∃ ts, d1 = .tuple ts := by
                cases d1 with
                | tuple ts => exact ⟨ts, rfl⟩
                | none => cases ht
                | bool b => cases ht
                | int b => cases ht
                | str b => cases ht
                | list b => cases ht
                | dict b => cases ht
              have a1' := a1.kp k1 hsub _
              cases a1' with
              | @tup t1 ys _ e1 hds1 =>
              have ly := hds1.length
              refine iteF ⟨_, rfl, _, rfl, t1, _, rfl, .inr (sqt_of e1), _, _, rfl, rfl, _, _, rfl, rfl, _, rfl, ite2 (fun h => ?_) (fun h => ?_)⟩
              · have q := kw H1 g1 k1
                have hn : ¬ ((ts.length : Nat) : Int) + 2 ≤ s := by
                  have := of_decide_eq_true h
                  rw [ly] at this
                  omega
                have e2 : decide (((partsOf (.tuple ts)).length : Int) + 2 ≤ valI (.int s)) = false := decide_eq_false hn
                rw [e2] at q
                exact q
              · have hn : ((ts.length : Nat) : Int) + 2 ≤ s := by
                  have h' : ¬ s < ((ys.length : Nat) : Int) + 2 := fun z => h (decide_eq_true z)
                  rw [ly] at h'
                  omega
                have e2 : decide (((partsOf (.tuple ts)).length : Int) + 2 ≤ valI (.int s)) = true := decide_eq_true hn
                rw [e2] at kw
                have a3' := a3.kp k1 hsub d3
                have kH1 := kw H1 g1 k1
                obtain ⟨ty, hty, kty⟩ := a3'.tupK (K := K)
                refine ⟨_, rfl, _, .ty "tuple", ty, .type "tuple", _, rfl, .ty "tuple", hty, kty, ?_⟩
                cases a3' with
                | non => exact ⟨false, rfl, iteF kH1⟩
                | bl b => exact ⟨false, rfl, iteF kH1⟩
                | int i => exact ⟨false, rfl, iteF kH1⟩
                | str g => exact ⟨false, rfl, iteF kH1⟩
                | lst e => exact ⟨false, rfl, iteF kH1⟩
                | dct e => exact ⟨false, rfl, iteF kH1⟩
                | @tup t3 zs ss e3 hds3 =>
                have lz := hds3.length
                refine ⟨true, rfl, iteT ⟨_, rfl, t3, zs, rfl, sqt_of e3, _, rfl, ?_⟩⟩
                have ez : zs.isEmpty = ss.isEmpty := by
                  cases hds3 <;> rfl
                rw [ez]
                cases he : ss.isEmpty with
                | true =>
                  have q := kw H1 g1 k1
                  have e5 : (partsOf (.tuple ss)).isEmpty = true := he
                  rw [e5] at q
                  exact iteF q
                | false =>
                  have e5 : (partsOf (.tuple ss)).isEmpty = false := he
                  rw [e5] at kw
                  refine iteT ⟨_, rfl, t3, rfl, ⟨_, sqt_of e3⟩, g1 _ (by simp), fun H2 h2 => ?_⟩
                  obtain ⟨g2, kt2⟩ := g1.tab (by simp) h2
                  have wz : wdAll ss + 3 ≤ 16000 := by
                    have : wd (.tuple ss) = wdAll ss + 3 := rfl
                    omega
                  refine all_tupC (K := K) (a := t3) (xs := zs) (fun i H' => TTs a.Ts H' ∧ Kp a.Ts H1 H' ∧ (ss.take i).all (stateD s ss.length) = true) ⟨g2, kt2, rfl⟩ (fun i H' h => sqt_of (h.2.1.tup _ _ e3)) ?_ ?_
                  · rintro i x H' hx ⟨g', k', qa⟩
                    obtain ⟨dx, ex, ax⟩ := hds3.get hx
                    have wx := wd_get ex
                    refine ⟨_, rfl, _, rfl, t3, zs, rfl, .inr (sqt_of (k'.tup _ _ e3)), _, rfl, s, _, x, dx, rfl, ax.kp k' hsub dx, by omega, g', hsub, fun H3 g3 k3 => ⟨_, rfl, ?_⟩⟩
                    rw [lz]
                    cases e6 : stateD s ss.length dx with
                    | true =>
                      refine iteT ⟨g3, k'.trans k3, ?_⟩
                      rw [take_all ex, qa, e6]
                      rfl
                    | false =>
                      have q := kw H3 g3 (k1.trans (k'.trans k3))
                      have e7 : (partsOf (.tuple ss)).all (stateD (valI (.int s)) (partsOf (.tuple ss)).length) = false := all_no (f := stateD s ss.length) ex e6
                      rw [e7] at q
                      exact iteF q
                  · rintro H' ⟨g', k', qa⟩
                    rw [lz, List.take_length] at qa
                    have q := kw H' g' (k1.trans k')
                    have e7 : (partsOf (.tuple ss)).all (stateD (valI (.int s)) (partsOf (.tuple ss)).length) = true := qa
                    rw [e7] at q
                    exact q
end
end Ey
set_option maxHeartbeats 4000000
namespace Ey
open PySem PySem.Spec L2
abbrev sIsTree : Stmt := topS 12
abbrev sCheck : Stmt := topS 13
abbrev sStand : Stmt := topS 14
theorem fn_ex {P : Program} {w : World} {K : PySem.W.Frag} {mg : Str → Option Value} {base : Heap} {CX : CXT} {k : Nat} {f : Addr} {fd : FuncData} {ps : List Str} {sp : List Addr → Sp} (h : ∀ ms, FnOk P w K mg base CX k f fd ps (sp ms)) :
    FnOk P w K mg base CX k f fd ps (fun vs H Q E => ∃ ms, sp ms vs H Q E) :=
  ⟨fun vs H Q E ⟨ms, x⟩ => (h ms).len vs H Q E x, fun A outer s H args us vs Q E a b c d ⟨ms, x⟩ => (h ms).run A outer s H args us vs Q E a b c d x⟩
theorem tts_upd {Ts : List Addr} {H : Hp} {p : Addr} {o : HO} (g : TTs Ts H) (n : p ∉ Ts) : TTs Ts (upd H p o) := fun P hP => tabg_upd (g P hP) fun e => n (e ▸ hP)
/-- what a pile of trees weighs -/
def wt : List Tr → Nat
  | [] => 0
  | t :: r => 2 * t.sz + 1 + wt r
inductive PileAt (H : Hp) : List V → List Tr → Prop where
  | nil : PileAt H [] []
  | cons {v : V} {t : Tr} {us : List V} {ts : List Tr} : TreeAt H v t → t.ok → PileAt H us ts → PileAt H (v :: us) (t :: ts)
theorem PileAt.kp {ms : List Addr} {H H1 : Hp} {us : List V} {ts : List Tr} (k : Kp ms H H1) (h : PileAt H us ts) : PileAt H1 us ts := by
  induction h with
  | nil => exact .nil
  | cons a b _ ih => exact .cons (a.kp k) b ih
theorem PileAt.len {H : Hp} {us : List V} {ts : List Tr} (h : PileAt H us ts) : us.length ≤ wt ts := by
  induction h with
  | nil => exact Nat.le_refl _
  | cons a b _ ih =>
    simp only [List.length_cons, wt]
    omega
section
variable {Pr : Program} {w : World} {K : PySem.W.Frag} {mg : Str → Option Value} {base : Heap} {ad : Adr}
theorem scIsTree : FnScope ["thing", "waiting", "part"] ["thing"] (defScope sIsTree) := ⟨rfl, rfl, rfl, by decide +kernel, rfl, by decide +kernel, by decide +kernel⟩
def spIsTree (Ts : List Addr) : Sp := fun vs H Q _ => ∃ (v : V) (t : Tr), vs = [v] ∧ TreeAt H v t ∧ t.ok ∧ t.sz ≤ 1000 ∧ TTs Ts H ∧
  ∀ H', TTs Ts H' → Kp Ts H H' → Q (.bl true) H'
theorem ok_isTree {f : Addr} {fd : FuncData} (F : Fun K "is_tree" "is_tree" sIsTree f fd) (A : PF K mg ad) (b : BF base mg ad) : FnOk Pr w K mg base CX0 2 f fd ["thing"] (spIsTree ad.Ts) := by
  refine F.ok scIsTree (fun vs H Q E h => ?_) (fun cdv Ar outer s H vs Q E hr h => ?_)
  · obtain ⟨v, t, rfl, _⟩ := h
    rfl
  · obtain ⟨v, t, rfl, T, ok, sz, g, k⟩ := h
    have gT : FnOk Pr w K mg base CX0 1 (ad.A 11) (ad.D 11) ["thing"] (fun vs H Q E => ∃ ms, spD ms ad.Ts isTagD vs H Q E) := fn_ex fun ms => ok_tag (ms := ms) A b
    refine ⟨_, pss_cons (ps_set (i := 1) scIsTree.nd rfl (.inl rfl) (pe_lst (pa_cons (pv 0) pa_nil)))
      (pss_cons (ps_while PassesOwn.never (pt_truth (pv 1) (by intro _; rfl))
        (pss_cons (ps_set (i := 2) scIsTree.nd rfl (.inl rfl) (pe_bm0 PySem.F.plainAttrs_list PySem.F.slot_list_pop PySem.F.type_list_pop mt_pop (pv 1)))
        (pss_cons (ps_if (pt_cmpR op_isN (pv 2) pe_non (nomark _)) (pss_one ps_continue) pss_nil)
        (pss_cons (ps_if (PW.pt (pw_or (pt_not (pt_val (pe_callB call_isi (by rfl) A.B.isi (by decide +kernel) (pa_cons (pv 2) (pa_cons (pe_bltn (v := .ty "tuple") (by rfl) A.B.tuple (by decide +kernel) rfl) pa_nil)))))
            (pw_or (pt_cmpR op_ne (pe_callB call_len_seq (by rfl) A.B.len PySem.boot_len (pa_cons (pv 2) pa_nil)) pe_int (nomark _))
            (pw_or1 (pt_not (pt_val (pe_call gT hr (by rfl) A.tag.g A.tag.F.kp A.tag.b .nil pass0 (pa_cons (pe_ix ix_tup (pv 2) pe_int (fun _ _ => rfl)) pa_nil))))))))
          (pss_one (ps_ret pe_bl)) pss_nil)
        (pss_cons (ps_expr (pe_bm PySem.F.plainAttrs_list PySem.F.slot_list_append PySem.F.type_list_append mt_append (pv 1) (pa_cons (pe_ix ix_tup (pv 2) pe_int (fun _ _ => rfl)) pa_nil)))
        (pss_one (ps_expr (pe_bm PySem.F.plainAttrs_list PySem.F.slot_list_append PySem.F.type_list_append mt_append (pv 1) (pa_cons (pe_ix ix_tup (pv 2) pe_int (fun _ _ => rfl)) pa_nil)))))))))
      (pss_one (ps_ret pe_bl))), ?_⟩
    refine ⟨_, rfl, by show 1 ≤ sizeLine; decide, fun wl nw => ?_⟩
    have nPw : wl ∉ ad.Ts := g.nin nw
    refine ⟨fun m σ H2 => ∃ (us : List V) (ts : List Tr) (y : Option V), σ = [some v, some (.ref wl), y] ∧ H2 wl = some (.lst us.reverse) ∧ PileAt H2 us ts ∧ m = wt ts ∧ wt ts ≤ 2001 ∧ TTs ad.Ts H2 ∧ Kp ad.Ts H H2,
      ⟨_, [v], [t], none, rfl, upd_same, .cons (T.kp (.new nw) (ms := [])) ok .nil, rfl, by simp only [wt]; omega, tts_upd g nPw, .new nw⟩, fun m σ H2 hw => ?_⟩
    obtain ⟨us, ts, y, rfl, hl, hp, rfl, hm, g2, k2⟩ := hw
    refine ⟨_, rfl, _, .inl ⟨_, sql_of hl, rfl⟩, ?_⟩
    cases hp with
    | nil =>
      refine iteF ?_
      exact k H2 g2 k2
    | @cons x t1 us ts T1 o1 hp =>
      have e0 : (!((x :: us).reverse).isEmpty) = true := by simp
      rw [e0]
      refine iteT ⟨fun σ' H' => ∃ m', m' < wt (t1 :: ts) ∧ ∃ (us : List V) (ts : List Tr) (y : Option V), σ' = [some v, some (.ref wl), y] ∧ H' wl = some (.lst us.reverse) ∧ PileAt H' us ts ∧ m' = wt ts ∧ wt ts ≤ 2001 ∧ TTs ad.Ts H' ∧ Kp ad.Ts H H', fun _ _ h => h, ?_⟩
      -- part = waiting.pop()
      refine ⟨_, rfl, .inl ⟨rfl, _, sql_of hl⟩, wl, _, x, rfl, rfl, hl, pile_top x us, ?_⟩
      rw [pile_pop]
      have k3 : Kp ad.Ts H (upd H2 wl (.lst us.reverse)) := k2.own nw
      have hl3 : (upd H2 wl (.lst us.reverse)) wl = some (.lst us.reverse) := upd_same
      have g3 : TTs ad.Ts (upd H2 wl (.lst us.reverse)) := tts_upd g2 nPw
      have kk : Kp [wl] H2 (upd H2 wl (.lst us.reverse)) := .put (by simp) hl (fun xs z => by cases z)
      have T3 := T1.kp kk
      have hp3 := hp.kp kk
      generalize upd H2 wl (.lst us.reverse) = H3 at k3 hl3 g3 T3 hp3
      simp only [wt] at hm
      cases T3 with
      | nil =>
        refine ⟨_, rfl, rfl, _, rfl, iteT ?_⟩
        exact ⟨_, by simp only [wt]; omega, us, ts, _, rfl, hl3, hp3, rfl, by omega, g3, k3⟩
      | @nd a tg tl tr v1 v2 e T31 T32 =>
        obtain ⟨og, ol, or'⟩ := o1
        simp only [Tr.sz] at hm
        refine ⟨_, rfl, rfl, _, rfl, iteF ?_⟩
        refine ⟨_, rfl, .ref a, .ty "tuple", .type "tuple", .type "tuple", true, rfl, .ty "tuple", .base (.tup e), kit_ty (by decide +kernel), _, rfl, iteF ?_⟩
        refine ⟨_, rfl, a, _, rfl, .inr (sqt_of e), rfl, _, rfl, iteF ?_⟩
        refine ⟨_, rfl, a, _, _, _, rfl, rfl, sqt_of e, atI_nat (j := 0) rfl, ad.Ts, .str tg, .str tg, rfl, .str tg, ?_, g3, fun _ hP => hP, fun H4 g4 k4 => ?_⟩
        · have := tag_len og
          show 10 * tg.length + 2 ≤ 1000000
          omega
        have et : isTagD (.str tg) = true := og
        rw [et]
        refine ⟨_, rfl, iteF ?_⟩
        have e4 := k4.tup _ _ e
        have hl4 : H4 wl = some (.lst us.reverse) := k4.at_ _ _ hl3 nPw
        -- append, append
        refine ⟨_, rfl, .inl ⟨rfl, _, sql_of hl4⟩, _, rfl, a, _, _, _, rfl, rfl, sqt_of e4, atI_nat (j := 1) rfl, wl, _, v1, rfl, rfl, hl4, ?_, ?_⟩
        · rw [List.length_reverse]
          have := hp3.len
          exact Nat.lt_of_le_of_lt (show us.length ≤ 2001 by omega) (by decide)
        rw [pile_push]
        have hl5 : (upd H4 wl (.lst (v1 :: us).reverse)) wl = some (.lst (v1 :: us).reverse) := upd_same
        have k5 : Kp [wl] H4 (upd H4 wl (.lst (v1 :: us).reverse)) := .put (by simp) hl4 (fun xs z => by cases z)
        have g5 : TTs ad.Ts (upd H4 wl (.lst (v1 :: us).reverse)) := tts_upd g4 nPw
        have kH5 : Kp ad.Ts H (upd H4 wl (.lst (v1 :: us).reverse)) := (k3.trans k4).own nw
        generalize upd H4 wl (.lst (v1 :: us).reverse) = H5 at hl5 k5 g5 kH5
        refine ⟨_, rfl, .inl ⟨rfl, _, sql_of hl5⟩, _, rfl, a, _, _, _, rfl, rfl, sqt_of (k5.tup _ _ e4), atI_nat (j := 2) rfl, wl, _, v2, rfl, rfl, hl5, ?_, ?_⟩
        · rw [List.length_reverse]
          have := hp3.len
          exact Nat.lt_of_le_of_lt (show us.length + 1 ≤ 2002 by omega) (by decide)
        rw [pile_push]
        have k6 : Kp [wl] H5 (upd H5 wl (.lst (v2 :: v1 :: us).reverse)) := .put (by simp) hl5 (fun xs z => by cases z)
        refine ⟨_, by simp only [wt, Tr.sz]; omega, v2 :: v1 :: us, tr :: tl :: ts, _, rfl, upd_same, .cons (((T32.kp k4).kp k5).kp k6) or' (.cons (((T31.kp k4).kp k5).kp k6) ol (((hp3.kp k4).kp k5).kp k6)), rfl, by simp only [wt]; omega, tts_upd g5 nPw, kH5.own nw⟩
end
end Ey
set_option maxHeartbeats 4000000
namespace Ey
open PySem PySem.Spec L2
theorem s_l : (Str.ofString "l") = st [108] := by decide +kernel
theorem s_r : (Str.ofString "r") = st [114] := by decide +kernel
theorem s_e : (Str.ofString "") = st [] := by decide +kernel
/-! ### what stands where -/
def ps (t : Tr) : List (List Nat × Tr) := (pl t).map fun p => (p, pt t p)
def ahead (a : List Nat) (x : List Nat × Tr) : List Nat × Tr := (a ++ x.1, x.2)
theorem ps_nd (g : Str) (l r : Tr) : ps (.nd g l r) = ([], .nd g l r) :: ((ps l).map (ahead [108]) ++ (ps r).map (ahead [114])) := by
  simp only [ps, pl, List.map_cons, List.map_append, List.map_map]
  congr 1
theorem ps_fst (t : Tr) : (ps t).map (·.1) = pl t := by
  rw [ps, List.map_map]
  exact List.map_id _
theorem ps_len (t : Tr) : (ps t).length = 2 * t.sz + 1 := by rw [ps, List.length_map, pl_len]
/-- what a pile of pairs stands for -/
def flat : List (List Nat × Tr) → List (List Nat × Tr)
  | [] => []
  | (p, t) :: r => (ps t).map (ahead p) ++ flat r
theorem ahead_two (a b : List Nat) : (ahead a ∘ ahead b) = ahead (a ++ b) := by
  funext x
  simp [ahead]
theorem flat_nil (p : List Nat) (r : List (List Nat × Tr)) : flat ((p, .nil) :: r) = (p, .nil) :: flat r := by
  simp [flat, ps, pl, ahead, pt]
theorem flat_nd (p : List Nat) (g : Str) (l t : Tr) (r : List (List Nat × Tr)) : flat ((p, .nd g l t) :: r) = (p, .nd g l t) :: flat ((p ++ [108], l) :: (p ++ [114], t) :: r) := by
  simp only [flat, ps_nd, List.map_cons, List.map_append, List.map_map, ahead_two]
  simp [ahead]
inductive PairsAt (H : Hp) : List V → List (List Nat × Tr) → Prop where
  | nil : PairsAt H [] []
  | cons {a : Addr} {v : V} {p : List Nat} {t : Tr} {us : List V} {qs : List (List Nat × Tr)} : H a = some (.tup [.str (st p), v]) → TreeAt H v t → PairsAt H us qs → PairsAt H (.ref a :: us) ((p, t) :: qs)
theorem PairsAt.kp {ms : List Addr} {H H1 : Hp} {us : List V} {qs : List (List Nat × Tr)} (k : Kp ms H H1) (h : PairsAt H us qs) : PairsAt H1 us qs := by
  induction h with
  | nil => exact .nil
  | cons a b _ ih => exact .cons (k.tup _ _ a) (b.kp k) ih
theorem PairsAt.len {H : Hp} {us : List V} {qs : List (List Nat × Tr)} (h : PairsAt H us qs) : us.length ≤ (flat qs).length := by
  induction h with
  | nil => exact Nat.le_refl _
  | @cons a v p t us qs _ _ _ ih =>
    simp only [List.length_cons, flat, List.length_append, List.length_map, ps_len]
    omega
/-- the entries of a dict, by places and parts -/
inductive KvAt (H : Hp) : List (Key × V) → List (List Nat × Tr) → Prop where
  | nil : KvAt H [] []
  | cons {v : V} {p : List Nat} {t : Tr} {kvs : List (Key × V)} {qs : List (List Nat × Tr)} : TreeAt H v t → KvAt H kvs qs → KvAt H ((.inr (st p), v) :: kvs) ((p, t) :: qs)
theorem KvAt.kp {ms : List Addr} {H H1 : Hp} {kvs : List (Key × V)} {qs : List (List Nat × Tr)} (k : Kp ms H H1) (h : KvAt H kvs qs) : KvAt H1 kvs qs := by
  induction h with
  | nil => exact .nil
  | cons a _ ih => exact .cons (a.kp k) ih
theorem KvAt.snoc {H : Hp} {kvs : List (Key × V)} {qs : List (List Nat × Tr)} {v : V} {p : List Nat} {t : Tr} (h : KvAt H kvs qs) (T : TreeAt H v t) : KvAt H (kvs ++ [(.inr (st p), v)]) (qs ++ [(p, t)]) := by
  induction h with
  | nil => exact .cons T .nil
  | cons a _ ih => exact .cons a ih
theorem KvAt.len {H : Hp} {kvs : List (Key × V)} {qs : List (List Nat × Tr)} (h : KvAt H kvs qs) : kvs.length = qs.length := by
  induction h with
  | nil => rfl
  | cons _ _ ih => simp [ih]
theorem KvAt.keys {H : Hp} {kvs : List (Key × V)} {qs : List (List Nat × Tr)} (h : KvAt H kvs qs) : (kvs.map fun kv => kV kv.1) = qs.map fun q => V.str (st q.1) := by
  induction h with
  | nil => rfl
  | cons _ _ ih => exact congrArg (List.cons _) ih
theorem KvAt.no {H : Hp} {kvs : List (Key × V)} {qs : List (List Nat × Tr)} {p : List Nat} (h : KvAt H kvs qs) (n : p ∉ qs.map (·.1)) : valV kvs (.inr (st p)) = none := by
  induction h with
  | nil => exact valV_nil
  | @cons v q t kvs qs _ _ ih =>
    simp only [List.map_cons, List.mem_cons, not_or] at n
    refine (valV_neg fun e => ?_).trans (ih n.2)
    exact n.1 (st_inj (Sum.inr.inj e)).symm
section
variable {Pr : Program} {w : World} {K : PySem.W.Frag} {mg : Str → Option Value} {base : Heap} {ad : Adr}
/-! ### check_tree -/
theorem scCheck : FnScope ["tree"] ["tree"] (defScope sCheck) := ⟨rfl, rfl, rfl, by decide +kernel, rfl, by decide +kernel, by decide +kernel⟩
def spCheck (Ts : List Addr) : Sp := fun vs H Q _ => ∃ (v : V) (t : Tr), vs = [v] ∧ TreeAt H v t ∧ t.ok ∧ t.sz ≤ 1000 ∧ TTs Ts H ∧
  ∀ H', TTs Ts H' → Kp Ts H H' → Q .non H'
theorem ok_check {f f1 : Addr} {fd d1 : FuncData} (F : Fun K "check_tree" "check_tree" sCheck f fd) (D1 : Df K mg "is_tree" sIsTree ["thing"] f1 d1) (A : PF K mg ad) (b : BF base mg ad) : FnOk Pr w K mg base CX0 3 f fd ["tree"] (spCheck ad.Ts) := by
  refine F.ok scCheck (fun vs H Q E h => ?_) (fun cdv Ar outer s H vs Q E hr h => ?_)
  · obtain ⟨v, t, rfl, _⟩ := h
    rfl
  · obtain ⟨v, t, rfl, T, ok, sz, g, k⟩ := h
    refine ⟨_, pss_one (ps_if (pt_not (pt_val (pe_call (ok_isTree D1.F A b) hr (by rfl) D1.g D1.F.kp D1.b .nil pass0 (pa_cons (pv 0) pa_nil)))) (pss_one ps_never) pss_nil), ?_⟩
    exact ⟨_, rfl, v, t, rfl, T, ok, sz, g, fun H' g' k' => ⟨true, rfl, iteF (k H' g' k')⟩⟩
/-! ### standing -/
theorem scStand : FnScope ["tree", "found", "waiting", "place", "part"] ["tree"] (defScope sStand) := ⟨rfl, rfl, rfl, by decide +kernel, rfl, by decide +kernel, by decide +kernel⟩
def spStand : Sp := fun vs H Q _ => ∃ (v : V) (t : Tr), vs = [v] ∧ TreeAt H v t ∧ t.sz ≤ 1000 ∧
  ∀ (d : Addr) (kvs : List (Key × V)) (H' : Hp), H d = none → H' d = some (.dK kvs) → KvAt H' kvs (ps t) → Kp [] H H' → Q (.ref d) H'
theorem ok_stand {f : Addr} {fd : FuncData} (F : Fun K "standing" "standing" sStand f fd) : FnOk Pr w K mg base CX0 1 f fd ["tree"] spStand := by
  refine F.ok scStand (fun vs H Q E h => ?_) (fun cdv Ar outer s H vs Q E hr h => ?_)
  · obtain ⟨v, t, rfl, _⟩ := h
    rfl
  · obtain ⟨v, t, rfl, T, sz, k⟩ := h
    have hu := hu_of hr
    refine ⟨_, pss_cons (ps_set (i := 1) scStand.nd rfl (.inl rfl) pe_dnewK)
      (pss_cons (ps_set (i := 2) scStand.nd rfl (.inl rfl) (pe_lst (pa_cons (pe_tup (pa_cons pe_str (pa_cons (pv 0) pa_nil))) pa_nil)))
      (pss_cons (ps_while PassesOwn.never (pt_truth (pv 2) (by intro _; rfl))
        (pss_cons (ps_asg (pe_bm0 PySem.F.plainAttrs_list PySem.F.slot_list_pop PySem.F.type_list_pop mt_pop (pv 2)) (pg_tup (by rfl) (pgs_cons (pg_name (i := 3) scStand.nd rfl (.inl rfl)) (pgs_cons (pg_name (i := 4) scStand.nd rfl (.inl rfl)) pgs_nil))))
        (pss_cons (ps_dput hu (pv 1) (pv 3) (pv 4) rfl)
        (pss_one (ps_if (pt_cmpR op_notN (pv 4) pe_non (nomark _))
          (pss_cons (ps_expr (pe_bm PySem.F.plainAttrs_list PySem.F.slot_list_append PySem.F.type_list_append mt_append (pv 2) (pa_cons (pe_tup (pa_cons (pe_op op_add_str (pv 3) pe_str) (pa_cons (pe_ix ix_tup (pv 4) pe_int (fun _ _ => rfl)) pa_nil))) pa_nil)))
          (pss_one (ps_expr (pe_bm PySem.F.plainAttrs_list PySem.F.slot_list_append PySem.F.type_list_append mt_append (pv 2) (pa_cons (pe_tup (pa_cons (pe_op op_add_str (pv 3) pe_str) (pa_cons (pe_ix ix_tup (pv 4) pe_int (fun _ _ => rfl)) pa_nil))) pa_nil))))) pss_nil)))))
      (pss_one (ps_ret (pv 1))))), ?_⟩
    intro d nd
    have kd : Kp [] H (upd H d (.dK [])) := .new nd
    have hd : (upd H d (.dK [])) d = some (.dK []) := upd_same
    have T0 := T.kp kd
    generalize upd H d (.dK []) = H1 at kd hd T0
    refine ⟨_, rfl, by show 2 ≤ sizeLine; decide, fun a na => ?_⟩
    have ka : Kp [] H1 (upd H1 a (.tup [.str "", v])) := .new na
    have ha : (upd H1 a (.tup [.str "", v])) a = some (.tup [.str "", v]) := upd_same
    have hd1 := ka.at_ _ _ hd List.not_mem_nil
    have T1 := T0.kp ka
    generalize upd H1 a (.tup [.str "", v]) = H2 at ka ha hd1 T1
    refine ⟨by show 1 ≤ sizeLine; decide, fun wl nw => ?_⟩
    have nwH : H wl = none := (kd.trans ka).free nw List.not_mem_nil
    have hdw : d ≠ wl := ne_of_none hd1 nw
    have kw : Kp [] H2 (upd H2 wl (.lst [.ref a])) := .new nw
    refine ⟨fun m σ H3 => ∃ (us : List V) (qs done : List (List Nat × Tr)) (kvs : List (Key × V)) (y z : Option V), σ = [some v, some (.ref d), some (.ref wl), y, z] ∧ H3 d = some (.dK kvs) ∧ H3 wl = some (.lst us.reverse) ∧ PairsAt H3 us qs ∧ KvAt H3 kvs done ∧ done ++ flat qs = ps t ∧ m = (flat qs).length ∧ Kp [] H H3,
      ⟨_, [.ref a], [([], t)], [], [], none, none, rfl, kw.at_ _ _ hd1 List.not_mem_nil, upd_same, .cons (kw.tup _ _ (s_e ▸ ha)) (T1.kp kw) .nil, .nil, ?_, rfl, kd.trans (ka.trans kw)⟩, fun m σ H3 hw => ?_⟩
    · show [] ++ ((ps t).map (ahead []) ++ []) = ps t
      rw [List.nil_append, List.append_nil]
      exact List.map_id _
    obtain ⟨us, qs, done, kvs, y, z, rfl, hd3, hl3, hp, hk, hall, rfl, k3⟩ := hw
    refine ⟨_, rfl, _, .inl ⟨_, sql_of hl3, rfl⟩, ?_⟩
    cases hp with
    | nil =>
      refine iteF ⟨_, rfl, ?_⟩
      rw [flat, List.append_nil] at hall
      rw [hall] at hk
      exact k d kvs H3 nd hd3 hk k3
    | @cons b v1 p t1 us qs hb T3 hp =>
      have e0 : (!((V.ref b :: us).reverse).isEmpty) = true := by simp
      rw [e0]
      refine iteT ⟨fun σ' H' => ∃ m', m' < (flat ((p, t1) :: qs)).length ∧ ∃ (us : List V) (qs done : List (List Nat × Tr)) (kvs : List (Key × V)) (y z : Option V), σ' = [some v, some (.ref d), some (.ref wl), y, z] ∧ H' d = some (.dK kvs) ∧ H' wl = some (.lst us.reverse) ∧ PairsAt H' us qs ∧ KvAt H' kvs done ∧ done ++ flat qs = ps t ∧ m' = (flat qs).length ∧ Kp [] H H', fun _ _ h => h, ?_⟩
      refine ⟨_, rfl, .inl ⟨rfl, _, sql_of hl3⟩, wl, _, _, rfl, rfl, hl3, pile_top _ us, ?_⟩
      rw [pile_pop]
      have kk : Kp [wl] H3 (upd H3 wl (.lst us.reverse)) := .put (by simp) hl3 (fun xs z => by cases z)
      have hl4 : (upd H3 wl (.lst us.reverse)) wl = some (.lst us.reverse) := upd_same
      have k4 : Kp [] H (upd H3 wl (.lst us.reverse)) := k3.own nwH
      have hd4 := kk.at_ _ _ hd3 (by simp [hdw])
      have hb4 := kk.tup _ _ hb
      have T4 := T3.kp kk
      have hp4 := hp.kp kk
      have hk4 := hk.kp kk
      generalize upd H3 wl (.lst us.reverse) = H4 at kk hl4 k4 hd4 hb4 T4 hp4 hk4
      -- place, part
      refine ⟨b, _, rfl, sqt_of hb4, rfl, _, _, rfl, _, _, rfl, rfl, ?_⟩
      -- found[place] = part
      have hnd : (ps t).length ≤ 2001 := by rw [ps_len]; omega
      have hcnt : done.length + (flat ((p, t1) :: qs)).length = (ps t).length := by rw [← hall, List.length_append]
      have pos : 1 ≤ (flat ((p, t1) :: qs)).length := by
        simp only [flat, List.length_append, List.length_map, ps_len]
        omega
      have hin : ∃ rest, flat ((p, t1) :: qs) = (p, t1) :: rest := by
        cases t1 with
        | nil => exact ⟨_, flat_nil p qs⟩
        | nd g l r => exact ⟨_, flat_nd p g l r qs⟩
      have hpn : p ∉ done.map (·.1) := by
        obtain ⟨rest, er⟩ := hin
        have nd0 := pl_nodup t
        rw [← ps_fst, ← hall, er, List.map_append, List.map_cons] at nd0
        intro hm
        exact (List.nodup_append.mp nd0).2.2 p hm p (List.mem_cons_self) rfl
      have hplen : p.length ≤ 1000 := by
        obtain ⟨rest, er⟩ := hin
        have : p ∈ pl t := by
          rw [← ps_fst, ← hall, er]
          simp
        exact Nat.le_trans (pl_ht t p this) (Nat.le_trans (ht_sz t) sz)
      have hval : valV kvs (.inr (st p)) = none := hk4.no hpn
      refine ⟨_, rfl, _, rfl, _, rfl, d, _, rfl, DPut.k (k := .inr (st p)) hd4 (Nat.lt_of_le_of_lt (show kvs.length ≤ 2001 by rw [hk4.len]; omega) (by decide)), ?_⟩
      rw [putK_new _ hval]
      have k5 : Kp [d] H4 (upd H4 d (.dK (kvs ++ [(.inr (st p), v1)]))) := .put (by simp) hd4 (fun xs z => by cases z)
      have hd5 : (upd H4 d (.dK (kvs ++ [(.inr (st p), v1)]))) d = some (.dK (kvs ++ [(.inr (st p), v1)])) := upd_same
      have kH5 : Kp [] H (upd H4 d (.dK (kvs ++ [(.inr (st p), v1)]))) := k4.own nd
      have hl5 := k5.at_ _ _ hl4 (by simp [hdw.symm])
      have T5 := T4.kp k5
      have hp5 := hp4.kp k5
      have hk5 : KvAt _ _ (done ++ [(p, t1)]) := (hk4.kp k5).snoc T5
      generalize upd H4 d (.dK (kvs ++ [(.inr (st p), v1)])) = H5 at k5 hd5 kH5 hl5 T5 hp5 hk5
      cases T5 with
      | nil =>
        refine ⟨_, rfl, rfl, _, rfl, iteF ?_⟩
        rw [flat_nil] at hall hcnt
        exact ⟨(flat qs).length, by rw [flat_nil]; simp, us, qs, done ++ [(p, .nil)], _, _, _, rfl, hd5, hl5, hp5, hk5, by rw [List.append_assoc]; exact hall, rfl, kH5⟩
      | @nd x g l r w1 w2 e T51 T52 =>
        refine ⟨_, rfl, rfl, _, rfl, iteT ?_⟩
        have hul : us.length ≤ 2001 := by
          have := hp5.len
          simp only [flat, List.length_append] at hcnt
          omega
        refine ⟨_, rfl, .inl ⟨rfl, _, sql_of hl5⟩, _, rfl, _, _, rfl, rfl, ?_, _, rfl, x, _, _, _, rfl, rfl, sqt_of e, atI_nat (j := 2) rfl, by show 2 ≤ sizeLine; decide, fun q1 n1 => ?_⟩
        · rw [st_len]
          show p.length + 1 ≤ sizeLine
          exact Nat.le_trans (show p.length + 1 ≤ 1001 by omega) (by decide)
        rw [s_r, st_app]
        have k6 : Kp [] H5 (upd H5 q1 (.tup [.str (st (p ++ [114])), w2])) := .new n1
        have hq1 : (upd H5 q1 (.tup [.str (st (p ++ [114])), w2])) q1 = some (.tup [.str (st (p ++ [114])), w2]) := upd_same
        have hl6 := k6.at_ _ _ hl5 List.not_mem_nil
        have hd6 := k6.at_ _ _ hd5 List.not_mem_nil
        generalize upd H5 q1 (.tup [.str (st (p ++ [114])), w2]) = H6 at k6 hq1 hl6 hd6
        refine ⟨wl, _, _, rfl, rfl, hl6, ?_, ?_⟩
        · rw [List.length_reverse]
          exact Nat.lt_of_le_of_lt hul (by decide)
        rw [pile_push]
        have k7 : Kp [wl] H6 (upd H6 wl (.lst (.ref q1 :: us).reverse)) := .put (by simp) hl6 (fun xs z => by cases z)
        have hl7 : (upd H6 wl (.lst (.ref q1 :: us).reverse)) wl = some (.lst (.ref q1 :: us).reverse) := upd_same
        have kH7 : Kp [] H (upd H6 wl (.lst (.ref q1 :: us).reverse)) := (kH5.trans k6).own nwH
        have hd7 := k7.at_ _ _ hd6 (by simp [hdw])
        generalize upd H6 wl (.lst (.ref q1 :: us).reverse) = H7 at k7 hl7 kH7 hd7
        have e7 := k7.tup _ _ (k6.tup _ _ e)
        refine ⟨_, rfl, .inl ⟨rfl, _, sql_of hl7⟩, _, rfl, _, _, rfl, rfl, ?_, _, rfl, x, _, _, _, rfl, rfl, sqt_of e7, atI_nat (j := 1) rfl, by show 2 ≤ sizeLine; decide, fun q2 n2 => ?_⟩
        · rw [st_len]
          show p.length + 1 ≤ sizeLine
          exact Nat.le_trans (show p.length + 1 ≤ 1001 by omega) (by decide)
        rw [s_l, st_app]
        have k8 : Kp [] H7 (upd H7 q2 (.tup [.str (st (p ++ [108])), w1])) := .new n2
        have hq2 : (upd H7 q2 (.tup [.str (st (p ++ [108])), w1])) q2 = some (.tup [.str (st (p ++ [108])), w1]) := upd_same
        have hl8 := k8.at_ _ _ hl7 List.not_mem_nil
        have hd8 := k8.at_ _ _ hd7 List.not_mem_nil
        generalize upd H7 q2 (.tup [.str (st (p ++ [108])), w1]) = H8 at k8 hq2 hl8 hd8
        refine ⟨wl, _, _, rfl, rfl, hl8, ?_, ?_⟩
        · rw [List.length_reverse]
          exact Nat.lt_of_le_of_lt (show us.length + 1 ≤ 2002 by omega) (by decide)
        rw [pile_push]
        have k9 : Kp [wl] H8 (upd H8 wl (.lst (.ref q2 :: .ref q1 :: us).reverse)) := .put (by simp) hl8 (fun xs z => by cases z)
        have k59 : Kp [wl] H5 (upd H8 wl (.lst (.ref q2 :: .ref q1 :: us).reverse)) := (k6.more (by simp)).trans (k7.trans ((k8.more (by simp)).trans k9))
        rw [flat_nd] at hall hcnt
        refine ⟨(flat ((p ++ [108], l) :: (p ++ [114], r) :: qs)).length, by rw [flat_nd]; simp, _, (p ++ [108], l) :: (p ++ [114], r) :: qs, done ++ [(p, .nd g l r)], _, _, _, rfl, k9.at_ _ _ hd8 (by simp [hdw]), upd_same, .cons (k9.tup _ _ hq2) (T51.kp k59) (.cons (k9.tup _ _ (k8.tup _ _ (k7.tup _ _ hq1))) (T52.kp k59) (hp5.kp k59)), hk5.kp k59, ?_, rfl, (kH7.trans k8).own nwH⟩
        rw [List.append_assoc]
        exact hall
end
end Ey
set_option exponentiation.threshold 1000
set_option maxHeartbeats 4000000
namespace Ey
open PySem PySem.Spec L2
theorem and_one : ∀ l : Fin 16, Builtin.bitAnd (l.1 : Int) 1 = ((l.1 % 2 : Nat) : Int) := by decide +kernel
theorem pow_lt {b n : Nat} (hb : b < 2 ^ 20) (hn : 0 < n) : b ^ n < 2 ^ (20 * n) := by
  rw [Nat.pow_mul]
  exact Nat.pow_lt_pow_left hb (by omega)
theorem cast_pow (b n : Nat) : ((b ^ n : Nat) : Int).natAbs = b ^ n := by
  rw [Int.natAbs_natCast]
theorem shr1 (n : Nat) : ((n : Nat) : Int) / 2 ^ (1 : Int).toNat = ((n / 2 : Nat) : Int) := by
  rw [show (2 : Int) ^ (1 : Int).toNat = 2 from rfl]
  omega
theorem half_lt {n : Nat} (h : ¬ n = 0) : ((n / 2 : Nat) : Int).toNat < ((n : Nat) : Int).toNat := by omega
/-- the parts of an exponent -/
theorem exp_step (e i : Nat) : e % 2 ^ (i + 1) = e % 2 ^ i + 2 ^ i * (e / 2 ^ i % 2) := by
  rw [Nat.pow_succ, Nat.mod_mul]
def tTr (K : PySem.W.Frag) (te : TE) : TT := fun σ H Q => te σ H fun x H1 => ∃ k, TruV K x H1 k ∧ Q k H1
theorem while_ex {c : TT} {tb : TS} {D : Ends} {σ : L2.St} {H : Hp} (Pv : L2.St → Hp → Prop) (μ : L2.St → Hp → Nat) (h0 : Pv σ H)
    (hs : ∀ σ H, Pv σ H → c σ H fun b H1 => if b = true then tb { D with nx := fun σ' H' => Pv σ' H' ∧ μ σ' H' < μ σ H, ct := fun σ' H' => Pv σ' H' ∧ μ σ' H' < μ σ H, bk := D.nx } σ H1 else D.nx σ H1)
    (mono : ∀ σ H Q Q', (∀ b H1, Q b H1 → Q' b H1) → c σ H Q → c σ H Q') :
    ∃ W : Nat → L2.St → Hp → Prop, (∃ m, W m σ H) ∧ ∀ m σ H, W m σ H → c σ H fun b H1 => if b = true then ∃ N : L2.St → Hp → Prop, (∀ σ' H', N σ' H' → ∃ m', m' < m ∧ W m' σ' H') ∧ tb { D with nx := N, ct := N, bk := D.nx } σ H1 else D.nx σ H1 :=
  while_by Pv μ h0 hs mono
abbrev sPower : Stmt := topS 16
section
variable {Pr : Program} {w : World} {K : PySem.W.Frag} {mg : Str → Option Value} {base : Heap} {ms : List Addr} {A : Nat → Addr} {D : Nat → FuncData}
abbrev NPw : List Str := ["base", "exponent", "found", "factor", "left"]
theorem scPower : FnScope NPw ["base", "exponent"] (defScope sPower) := ⟨rfl, rfl, rfl, by decide +kernel, rfl, by decide +kernel, by decide +kernel⟩
def spPow : Sp := fun vs H Q _ => ∃ (b e : Nat), vs = [.int b, .int e] ∧ b < 2 ^ 20 ∧ e < 16 ∧ Q (.int ((b ^ e : Nat) : Int)) H
theorem ok_power {f : Addr} {fd : FuncData} (F : Fun K "power" "power" sPower f fd) : FnOk Pr w K mg base CX0 1 f fd ["base", "exponent"] spPow := by
  refine F.ok scPower (fun vs H Q E h => ?_) (fun cdv Ar outer s H vs Q E hr h => ?_)
  · obtain ⟨b, e, rfl, _⟩ := h
    rfl
  · obtain ⟨b, e, rfl, hb, he, k⟩ := h
    refine ⟨_, pss_cons (ps_set (i := 2) scPower.nd rfl (.inl rfl) pe_int) (pss_cons (ps_set (i := 3) scPower.nd rfl (.inl rfl) (pv 0)) (pss_cons (ps_set (i := 4) scPower.nd rfl (.inl rfl) (pv 1))
      (pss_cons (ps_while PassesOwn.never (tc := tTr K (tVar 4)) (pt_truth (pv 4) (by intro _; rfl)) (pss_cons (ps_if (pt_truth (pe_op op_and (pv 4) pe_int) (by intro _; rfl)) (pss_one (ps_set (i := 2) scPower.nd rfl (.inl rfl) (pe_op op_mulW (pv 2) (pv 3)))) pss_nil)
        (pss_cons (ps_set (i := 3) scPower.nd rfl (.inl rfl) (pe_op op_mulW (pv 3) (pv 3))) (pss_one (ps_set (i := 4) scPower.nd rfl (.inl rfl) (pe_op op_shr (pv 4) pe_int))))))
      (pss_one (ps_ret (pv 2)))))), ?_⟩
    refine ⟨_, rfl, _, rfl, ?_⟩
    refine while_ex (fun σ H2 => H2 = H ∧ ∃ i, i ≤ 4 ∧ σ = [some (.int b), some (.int e), some (.int ((b ^ (e % 2 ^ i) : Nat) : Int)), some (.int ((b ^ 2 ^ i : Nat) : Int)), some (.int ((e / 2 ^ i : Nat) : Int))])
      (fun σ _ => match σ with | [_, _, _, _, some (.int z)] => z.toNat | _ => 0) ?_ ?_ ?_
    · refine ⟨rfl, 0, by decide, ?_⟩
      show [some (V.int b), some (V.int e), some (V.int 1), some (V.int b), some (V.int e)] = _
      simp [Nat.mod_one]
    · rintro σ H2 ⟨rfl, i, hi, rfl⟩
      refine ⟨_, rfl, _, rfl, ?_⟩
      have hf : b ^ (e % 2 ^ i) < 2 ^ 400 := by
        refine Nat.lt_of_le_of_lt (Nat.pow_le_pow_left (Nat.le_of_lt hb) _) ?_
        rw [← Nat.pow_mul]
        refine Nat.pow_lt_pow_right (by decide) ?_
        have := Nat.mod_le e (2 ^ i)
        omega
      have hgi : 2 ^ i ≤ 16 := Nat.pow_le_pow_right (by decide) hi
      have hg : b ^ 2 ^ i < 2 ^ 400 := by
        refine Nat.lt_of_le_of_lt (Nat.pow_le_pow_left (Nat.le_of_lt hb) _) ?_
        rw [← Nat.pow_mul]
        exact Nat.pow_lt_pow_right (by decide) (by omega)
      by_cases h0 : e / 2 ^ i = 0
      · have el : e % 2 ^ i = e := Nat.mod_eq_of_lt ((Nat.div_eq_zero_iff_lt (Nat.pow_pos (by decide))).mp h0)
        rw [h0, el]
        exact iteF ⟨_, rfl, k⟩
      · have hi3 : i ≤ 3 := by
          rcases Nat.lt_or_ge i 4 with h | h
          · omega
          · have : i = 4 := by omega
            subst this
            exact absurd (Nat.div_eq_of_lt (by omega)) h0
        have hle : e / 2 ^ i < 16 := Nat.lt_of_le_of_lt (Nat.div_le_self _ _) he
        have ht : (((e / 2 ^ i : Nat) : Int) != 0) = true := by
          simp only [bne_iff_ne, ne_eq]
          omega
        rw [ht]
        have hand := and_one ⟨e / 2 ^ i, hle⟩
        have hand : Builtin.bitAnd ((e / 2 ^ i : Nat) : Int) 1 = ((e / 2 ^ i % 2 : Nat) : Int) := hand
        have hstep := exp_step e i
        have hsq : ((b ^ 2 ^ i : Nat) : Int) * ((b ^ 2 ^ i : Nat) : Int) = ((b ^ 2 ^ (i + 1) : Nat) : Int) := by
          rw [← Int.natCast_mul, ← Nat.pow_add, Nat.pow_succ, Nat.mul_two]
        have hsh : ((e / 2 ^ i : Nat) : Int) / 2 ^ (1 : Int).toNat = ((e / 2 ^ (i + 1) : Nat) : Int) := by
          rw [shr1, Nat.pow_succ, ← Nat.div_div_eq_div_mul]
        have cw : CMulW ((b ^ 2 ^ i : Nat) : Int) ((b ^ 2 ^ i : Nat) : Int) := wide_mul (a := 400) (b := 400) (by rw [cast_pow]; exact hg) (by rw [cast_pow]; exact hg) (by decide) (by decide) (by decide)
        have hlt : (((e / 2 ^ i : Nat) : Int) / 2 ^ (1 : Int).toNat).toNat < ((e / 2 ^ i : Nat) : Int).toNat := by
          rw [shr1]
          exact half_lt h0
        refine iteT ⟨_, rfl, _, _, rfl, rfl, _, rfl, ?_⟩
        rw [hand]
        by_cases h1 : e / 2 ^ i % 2 = 1
        · rw [h1]
          have hfg : ((b ^ (e % 2 ^ i) : Nat) : Int) * ((b ^ 2 ^ i : Nat) : Int) = ((b ^ (e % 2 ^ (i + 1)) : Nat) : Int) := by
            rw [← Int.natCast_mul, ← Nat.pow_add, hstep, h1, Nat.mul_one]
          refine iteT ⟨_, rfl, _, rfl, _, _, rfl, rfl, wide_mul (a := 400) (b := 400) (by rw [cast_pow]; exact hf) (by rw [cast_pow]; exact hg) (by decide) (by decide) (by decide), ?_⟩
          refine ⟨_, rfl, _, rfl, _, _, rfl, rfl, cw, _, rfl, _, _, rfl, rfl, (by show (0 : Int) ≤ 1; decide), ⟨rfl, i + 1, by omega, ?_⟩, hlt⟩
          show [some (V.int b), some (V.int e), some (V.int (((b ^ (e % 2 ^ i) : Nat) : Int) * ((b ^ 2 ^ i : Nat) : Int))), some (V.int (((b ^ 2 ^ i : Nat) : Int) * ((b ^ 2 ^ i : Nat) : Int))), some (V.int (((e / 2 ^ i : Nat) : Int) / 2 ^ (1 : Int).toNat))] = _
          rw [hfg, hsq, hsh]
        · have h1' : e / 2 ^ i % 2 = 0 := by omega
          rw [h1']
          have he2 : e % 2 ^ (i + 1) = e % 2 ^ i := by rw [hstep, h1', Nat.mul_zero, Nat.add_zero]
          refine iteF ⟨_, rfl, _, rfl, _, _, rfl, rfl, cw, _, rfl, _, _, rfl, rfl, (by show (0 : Int) ≤ 1; decide), ⟨rfl, i + 1, by omega, ?_⟩, hlt⟩
          show [some (V.int b), some (V.int e), some (V.int ((b ^ (e % 2 ^ i) : Nat) : Int)), some (V.int (((b ^ 2 ^ i : Nat) : Int) * ((b ^ 2 ^ i : Nat) : Int))), some (V.int (((e / 2 ^ i : Nat) : Int) / 2 ^ (1 : Int).toNat))] = _
          rw [he2, hsq, hsh]
    · intro σ H2 Q1 Q2 hm h
      obtain ⟨v, e1, kk, t, q⟩ := h
      exact ⟨v, e1, kk, t, hm _ _ q⟩
end
end Ey
set_option maxHeartbeats 4000000
namespace Ey
open PySem PySem.Spec L2
abbrev sNat : Stmt := topS 7
abbrev sClock : Stmt := topS 22
abbrev sCheckC : Stmt := topS 23
abbrev sSign : Stmt := topS 24
abbrev sCells : Stmt := topS 25
abbrev sAfter : Stmt := topS 26
abbrev sTStand : Stmt := topS 27
structure PG (K : PySem.W.Frag) (mg : Str → Option Value) (a : Adr) : Prop extends PF K mg a where
  nat : Df K mg "is_natural" sNat ["thing"] (a.A 7) (a.D 7)
  isTree : Df K mg "is_tree" sIsTree ["thing"] (a.A 12) (a.D 12)
  check : Df K mg "check_tree" sCheck ["tree"] (a.A 13) (a.D 13)
  stand : Df K mg "standing" sStand ["tree"] (a.A 14) (a.D 14)
  power : Df K mg "power" sPower ["base", "exponent"] (a.A 16) (a.D 16)
  clock : Df K mg "is_clock" sClock ["thing"] (a.A 22) (a.D 22)
  checkC : Df K mg "check_clocked" sCheckC ["machine", "tree", "c"] (a.A 23) (a.D 23)
  sign : Df K mg "sign_of" sSign ["part", "tags"] (a.A 24) (a.D 24)
  cells : Df K mg "cells_at_first" sCells ["tags", "tree", "c"] (a.A 25) (a.D 25)
  after : Df K mg "stands_after" sAfter ["machine", "cells", "many"] (a.A 26) (a.D 26)
  tstand : Df K mg "tape_standing" sTStand ["machine", "tree", "c", "many"] (a.A 27) (a.D 27)
theorem inV_strs (g : Str) (ts : List Str) : inV (.str g) (ts.map V.str) = ts.any fun t => decide (t = g) := by
  unfold inV
  rw [List.any_map]
  rfl
/-- where a text stands first -/
def posOf (g : Str) : List Str → Nat
  | [] => 0
  | x :: r => if x = g then 0 else posOf g r + 1
theorem posOf_get {g : Str} : ∀ {gs : List Str}, (gs.any fun t => decide (t = g)) = true → gs[posOf g gs]? = some g ∧ ∀ m, m < posOf g gs → gs[m]? ≠ some g
  | [], h => by cases h
  | x :: r, h => by
    by_cases e : x = g
    · have ep : posOf g (x :: r) = 0 := by
        unfold posOf
        rw [if_pos e]
      rw [ep, ← e]
      exact ⟨rfl, fun m hm => absurd hm (Nat.not_lt_zero _)⟩
    · have ep : posOf g (x :: r) = posOf g r + 1 := by
        show (if x = g then 0 else posOf g r + 1) = _
        rw [if_neg e]
      have h2 : (r.any fun t => decide (t = g)) = true := by
        rw [List.any_cons, decide_eq_false e, Bool.false_or] at h
        exact h
      obtain ⟨a, b⟩ := posOf_get h2
      rw [ep]
      refine ⟨a, fun m hm => ?_⟩
      cases m with
      | zero =>
        show some x ≠ some g
        exact fun z => e (Option.some.inj z)
      | succ m => exact b m (by omega)
theorem posOf_no {g : Str} : ∀ {gs : List Str}, (gs.any fun t => decide (t = g)) = false → posOf g gs = gs.length
  | [], _ => rfl
  | x :: r, h => by
    rw [List.any_cons, Bool.or_eq_false_iff, decide_eq_false_iff_not] at h
    show (if x = g then 0 else posOf g r + 1) = r.length + 1
    rw [if_neg h.1, posOf_no h.2]
/-- the sign of a part -/
def signT (gs : List Str) : Tr → Nat
  | .nil => 0
  | .nd g _ _ => 1 + posOf g gs
section
variable {Pr : Program} {w : World} {K : PySem.W.Frag} {mg : Str → Option Value} {base : Heap} {ms : List Addr} {a : Adr}
theorem scNat : FnScope ["thing"] ["thing"] (defScope sNat) := ⟨rfl, rfl, rfl, by decide +kernel, rfl, by decide +kernel, by decide +kernel⟩
def spInt (P : Int → Prop) : Sp := fun vs H Q _ => ∃ i : Int, vs = [.int i] ∧ P i ∧ Q (.bl true) H
theorem ok_nat (F : PG K mg a) : FnOk Pr w K mg base CX0 2 (a.A 7) (a.D 7) ["thing"] (spInt fun i => 0 ≤ i) := by
  refine F.nat.F.ok scNat (fun vs H Q E h => ?_) (fun cdv Ar outer s H vs Q E hr h => ?_)
  · obtain ⟨i, rfl, _⟩ := h
    rfl
  · obtain ⟨i, rfl, hi, k⟩ := h
    refine ⟨_, pss_one (ps_ret (pe_and (pe_call (go_plain (ms := []) F.toPF) hr (by rfl) F.plain.g F.plain.F.kp F.plain.b .nil pass0 (pa_cons (pv 0) pa_nil)) (pe_one (pe_cmpR op_ge (pv 0) pe_int (nomark _))))), ?_⟩
    refine ⟨_, rfl, .int i, .int i, rfl, .int i, _, rfl, iteT ⟨_, rfl, _, _, rfl, rfl, ?_⟩⟩
    show Q (.bl (decide (0 ≤ i))) H
    rw [decide_eq_true hi]
    exact k
theorem scClock : FnScope ["thing"] ["thing"] (defScope sClock) := ⟨rfl, rfl, rfl, by decide +kernel, rfl, by decide +kernel, by decide +kernel⟩
theorem ok_clock (F : PG K mg a) : FnOk Pr w K mg base CX0 3 (a.A 22) (a.D 22) ["thing"] (spInt fun i => 0 < i) := by
  refine F.clock.F.ok scClock (fun vs H Q E h => ?_) (fun cdv Ar outer s H vs Q E hr h => ?_)
  · obtain ⟨i, rfl, _⟩ := h
    rfl
  · obtain ⟨i, rfl, hi, k⟩ := h
    refine ⟨_, pss_one (ps_ret (pe_and (pe_call (ok_nat F) hr (by rfl) F.nat.g F.nat.F.kp F.nat.b .nil pass0 (pa_cons (pv 0) pa_nil)) (pe_one (pe_cmpR op_gt (pv 0) pe_int (nomark _))))), ?_⟩
    refine ⟨_, rfl, i, rfl, by omega, _, rfl, iteT ⟨_, rfl, _, _, rfl, rfl, ?_⟩⟩
    show Q (.bl (decide (0 < i))) H
    rw [decide_eq_true hi]
    exact k
theorem scCheckC : FnScope ["machine", "tree", "c"] ["machine", "tree", "c"] (defScope sCheckC) := ⟨rfl, rfl, rfl, by decide +kernel, rfl, by decide +kernel, by decide +kernel⟩
def spCC (ms Ts : List Addr) : Sp := fun vs H Q _ => ∃ (mv tv : V) (c : Int) (m : PyData) (t : Tr), vs = [mv, tv, .int c] ∧ An ms H mv m ∧ tapeD m = true ∧ wd m ≤ 16000 ∧ TreeAt H tv t ∧ t.ok ∧ t.sz ≤ 1000 ∧ 0 < c ∧ TTs Ts H ∧ (∀ P ∈ Ts, P ∈ ms) ∧
  ∀ H', TTs Ts H' → Kp Ts H H' → Q .non H'
theorem ok_checkC (F : PG K mg a) (b : BF base mg a) : FnOk Pr w K mg base CX0 11 (a.A 23) (a.D 23) ["machine", "tree", "c"] (spCC ms a.Ts) := by
  refine F.checkC.F.ok scCheckC (fun vs H Q E h => ?_) (fun cdv Ar outer s H vs Q E hr h => ?_)
  · obtain ⟨mv, tv, c, m, t, rfl, _⟩ := h
    rfl
  · obtain ⟨mv, tv, c, m, t, rfl, hm, ht, hw, T, ok, sz, hc, g, sub, k⟩ := h
    have hr3 := hr.mono (show 3 ≤ 10 by decide)
    refine ⟨_, pss_cons (ps_if (pt_not (pt_val (pe_call (ok_tape (ms := ms) F.toPF b) hr (by rfl) F.tape.g F.tape.F.kp F.tape.b .nil pass0 (pa_cons (pv 0) pa_nil)))) (pss_one ps_never) pss_nil)
      (pss_cons (ps_expr (pe_call (ok_check F.check.F F.isTree F.toPF b) hr3 (by rfl) F.check.g F.check.F.kp F.check.b .nil pass0 (pa_cons (pv 1) pa_nil)))
      (pss_one (ps_if (pt_not (pt_val (pe_call (ok_clock F) hr3 (by rfl) F.clock.g F.clock.F.kp F.clock.b .nil pass0 (pa_cons (pv 2) pa_nil)))) (pss_one ps_never) pss_nil))), ?_⟩
    refine ⟨_, rfl, mv, m, rfl, hm, hw, g, sub, fun H1 g1 k1 => ⟨_, rfl, ?_⟩⟩
    rw [ht]
    refine iteF ⟨_, rfl, tv, t, rfl, T.kp k1, ok, sz, g1, fun H2 g2 k2 => ?_⟩
    exact ⟨_, rfl, c, rfl, hc, _, rfl, iteF (k H2 g2 (k1.trans k2))⟩
theorem scSign : FnScope ["part", "tags"] ["part", "tags"] (defScope sSign) := ⟨rfl, rfl, rfl, by decide +kernel, rfl, by decide +kernel, by decide +kernel⟩
def spSign : Sp := fun vs H Q _ => ∃ (pv_ : V) (tg : Addr) (t : Tr) (gs : List Str), vs = [pv_, .ref tg] ∧ TreeAt H pv_ t ∧ H tg = some (.tup (gs.map V.str)) ∧ Q (.int (signT gs t : Nat)) H
end
end Ey
set_option maxHeartbeats 4000000
namespace Ey
open PySem PySem.Spec PyProof.Rows L2
/-! ### a tuple that is known to its object: so its methods can be asked -/
/-- at a a tuple of xs, known to have no dict -/
def FzT (H : Hp) (a : Addr) (xs : List V) : Prop := ∃ o : Obj, o.dict = none ∧ o.cls = .type "tuple" ∧ H a = some (.frz o (.tup xs))
theorem FzT.sqt {K : PySem.W.Frag} {H : Hp} {a : Addr} {xs : List V} (h : FzT H a xs) : SqT K H a xs := let ⟨o, _, _, e⟩ := h; .inl (.inr ⟨o, e⟩)
theorem FzT.kp {ms : List Addr} {H H1 : Hp} {a : Addr} {xs : List V} (h : FzT H a xs) (k : Kp ms H H1) (n : a ∉ ms) : FzT H1 a xs := let ⟨o, d, c, e⟩ := h; ⟨o, d, c, k.at_ _ _ e n⟩
theorem FzT.ne {H : Hp} {a p : Addr} {xs : List V} (h : FzT H a xs) (n : H p = none) : a ≠ p := let ⟨_, _, _, e⟩ := h; ne_of_none e n
section
variable {X : Cx}
/-- tuple(xs), xs a list: the new one is known to its object -/
def rTupF (K : PySem.W.Frag) : List V → Hp → VK → Prop := fun xs H Q => ∃ p ys, xs = [.ref p] ∧ SqL K H p ys ∧ ∀ l H', H l = none → Kp [] H H' → FzT H' l ys → Q (.ref l) H'
theorem call_tupleF : CallR X (.type "tuple") (rTupF X.K) := by
  intro pins s σ H xs us Q I r h
  obtain ⟨p, ys, rfl, hq, q⟩ := h
  obtain ⟨u, rfl, rx⟩ := vals1 r
  cases rx
  obtain ⟨its, r', pl, hz⟩ := I.list hq
  have hlen := r'.length
  refine call_tuple_list pl.isList (fun h' kp => ?_) (by simp only [List.size_toArray] <;> omega)
  have I1 : Inv X pins σ H { s with heap := h' } := I.kept (t' := s.toks) kp
  have nf : H h'.objs.size = none := I1.hok.fresh (Nat.le_refl _)
  have I2 : Inv X pins σ (upd H h'.objs.size (.frz { cls := .type "tuple", data := .seq its.toArray } (.tup ys))) { s with heap := h'.push { cls := .type "tuple", data := .seq its.toArray } } :=
    I1.laid (t' := s.toks) (fun b o e => Heap.get?_push_of_some _ e) (Nat.le_refl _) (show ObjOk X.prog X.w _ _ _ (.frz _ (.tup ys)) from ⟨Heap.get?_push_at rfl rfl, hz, its, r', IsTup.new _ _⟩)
  exact ⟨.ref h'.objs.size, _, I2, rfl, q _ _ nf (.new nf) ⟨_, rfl, rfl, upd_same⟩⟩
/-- t.index(x), t a tuple of texts that is known to its object, x one of them -/
def tIndexF (to : TE) (t : TA) : TE := fun σ H Q => to σ H fun x H1 => ∃ (a : Addr) (ys : List Str), x = .ref a ∧ FzT H1 a (ys.map V.str) ∧ t σ H1 fun vs H2 => ∃ (z : Str) (j : Nat), vs = [.str z] ∧ FzT H2 a (ys.map V.str) ∧ ys[j]? = some z ∧ (∀ m, m < j → ys[m]? ≠ some z) ∧ Q (.int (j : Nat)) H2
theorem pe_tupIndexF {o e : Expr} {es : List Expr} {to : TE} {t : TA} {apos cpos : Pos} (ho : PE X o to) (ha : PA X (e :: es) t)
    (hbase : attributeBase o "index" X.env (eval o X.env) = eval o X.env := by rfl)
    (hfew : ((backTo cpos (starEach (e :: es) X.env)).all (fun x => !x.1) && (backToKw cpos (keywordEach [] X.env)).all (fun x => x.1.isSome)
      && decide ((e :: es).length + ([] : List Keyword).length + (if ([] : List Keyword).isEmpty then 0 else 1) < 30)) = true := by rfl)
    (hline : (apos.endLine == cpos.line) = true := by rfl) (hs : starEach (e :: es) X.env = (false, eval e X.env) :: starEach es X.env := by rfl) (hplain : (backTo cpos (starEach es X.env)).any (·.1) = false := by rfl) :
    PE X (.Call (.Attribute o "index" apos) (e :: es) [] cpos) (tIndexF to t) := by
  refine ⟨fun pins s σ H Q I h => ?_⟩
  refine wpAny_Call_method_late hbase hfew hline rfl (thn (ho.run pins s σ H _ I h) fun v s1 ⟨x, H1, I1, r1, a, ys, ex, hf, q1⟩ => ?_)
  subst ex
  obtain rfl : v = Value.ref a := r1
  obtain ⟨ob, hd, hc, eo⟩ := hf
  have ha0 : s1.heap.get? a = some ob := (I1.hok a _ eo).1
  refine ⟨"tuple", "tuple.index", PySem.F.plainAttrs_tuple, PySem.F.slot_tuple_index, PySem.F.type_tuple_index, ⟨ob, ha0, hc⟩, fun b e => by cases e; exact ⟨ob, ha0, hd⟩, ?_⟩
  have hA := ha.run cpos pins s1 σ H1 _ I1 q1
  rw [hs] at hA ⊢
  refine Calls.callWith_builtin (by show (false || (backTo cpos (starEach es X.env)).any (·.1)) = false; rw [hplain] <;> rfl) (Calls.evalArgs_plain ?_)
  refine thn hA fun us s2 hh => ?_
  obtain ⟨vs, H2, I2, r2, z, j, ev, hf2, g1, g2, q⟩ := hh
  exact mt_tup_index pins s2 σ H2 (.ref a) vs (.ref a) us Q I2 rfl r2 ⟨a, ys, z, j, rfl, ev, hf2.sqt, g1, g2, q⟩
end
end Ey
set_option maxHeartbeats 4000000
namespace Ey
open PySem PySem.Spec L2
/-! ### a right machine, and its checks -/
inductive All2 {α : Type} (R : V → α → Prop) : List V → List α → Prop
  | nil : All2 R [] []
  | cons {v : V} {x : α} {vs : List V} {xs : List α} : R v x → All2 R vs xs → All2 R (v :: vs) (x :: xs)
section
variable {α : Type} {R R' : V → α → Prop} {vs ws : List V} {xs ys : List α}
theorem All2.imp (h : All2 R vs xs) (f : ∀ v x, R v x → R' v x) : All2 R' vs xs := by
  induction h with
  | nil => exact .nil
  | cons a _ ih => exact .cons (f _ _ a) ih
theorem All2.len (h : All2 R vs xs) : vs.length = xs.length := by
  induction h with
  | nil => rfl
  | cons _ _ ih => exact congrArg (· + 1) ih
theorem All2.app (h : All2 R vs xs) (g : All2 R ws ys) : All2 R (vs ++ ws) (xs ++ ys) := by
  induction h with
  | nil => exact g
  | cons a _ ih => exact .cons a ih
theorem All2.get (h : All2 R vs xs) : ∀ {i : Nat} {x : α}, xs[i]? = some x → ∃ v, vs[i]? = some v ∧ R v x := by
  induction h with
  | nil => intro i x q; simp at q
  | cons a _ ih =>
    intro i x q
    cases i with
    | zero => cases q; exact ⟨_, rfl, a⟩
    | succ n => exact ih q
theorem All2.getV (h : All2 R vs xs) : ∀ {i : Nat} {v : V}, vs[i]? = some v → ∃ x, xs[i]? = some x ∧ R v x := by
  induction h with
  | nil => intro i x q; simp at q
  | cons a _ ih =>
    intro i x q
    cases i with
    | zero => cases q; exact ⟨_, rfl, a⟩
    | succ n => exact ih q
end
abbrev Rule := Nat × Nat × Int
def RuleAt (H : Hp) (v : V) (r : Rule) : Prop := ∃ p, v = .ref p ∧ H p = some (.tup [.int r.1, .int r.2.1, .int r.2.2])
def StAt (H : Hp) (v : V) (rs : List Rule) : Prop := ∃ p xs, v = .ref p ∧ H p = some (.tup xs) ∧ All2 (RuleAt H) xs rs
theorem RuleAt.kp {ms : List Addr} {H H1 : Hp} {v : V} {r : Rule} (h : RuleAt H v r) (k : Kp ms H H1) : RuleAt H1 v r := let ⟨p, e, h⟩ := h; ⟨p, e, k.tup _ _ h⟩
theorem StAt.kp {ms : List Addr} {H H1 : Hp} {v : V} {r : List Rule} (h : StAt H v r) (k : Kp ms H H1) : StAt H1 v r := let ⟨p, xs, e, h, a⟩ := h; ⟨p, xs, e, k.tup _ _ h, a.imp fun _ _ q => q.kp k⟩
structure MachAt (H : Hp) (v : V) (gs : List Str) (s : Nat) (ss : List (List Rule)) : Prop where
  ex : ∃ m t q xs, v = .ref m ∧ H m = some (.tup [.str "tape", .ref t, .int s, .ref q]) ∧ FzT H t (gs.map V.str) ∧ H q = some (.tup xs) ∧ All2 (StAt H) xs ss
theorem MachAt.kp {ms : List Addr} {H H1 : Hp} {v : V} {gs : List Str} {s : Nat} {ss : List (List Rule)} (h : MachAt H v gs s ss) (k : Kp ms H H1) (n : ∀ b ∈ ms, ∀ o xs, H b ≠ some (.frz o (.tup xs))) : MachAt H1 v gs s ss := by
  obtain ⟨m, t, q, xs, e, h1, ⟨o, d, c, h2⟩, h3, h4⟩ := h.ex
  exact ⟨m, t, q, xs, e, k.tup _ _ h1, ⟨o, d, c, k.at_ _ _ h2 fun hm => n _ hm _ _ h2⟩, k.tup _ _ h3, h4.imp fun _ _ a => a.kp k⟩
structure MachOk (gs : List Str) (s : Nat) (ss : List (List Rule)) : Prop where
  tg : ∀ g ∈ gs, isTag g = true
  un : gs.Nodup
  l3 : gs.length ≤ 3
  s2 : gs.length + 2 ≤ s
  s5 : s ≤ 5
  n1 : 1 ≤ ss.length
  n4 : ss.length ≤ 4
  st : ∀ rs ∈ ss, rs.length = s ∧ ∀ r ∈ rs, r.1 ≤ ss.length + 1 ∧ r.2.1 < s ∧ -1 ≤ r.2.2 ∧ r.2.2 ≤ 1
def rD (r : Rule) : PyData := .tuple [.int r.1, .int r.2.1, .int r.2.2]
def stD (rs : List Rule) : PyData := .tuple (rs.map rD)
theorem rules_an {ms : List Addr} {H : Hp} {vs : List V} {rs : List Rule} (h : All2 (RuleAt H) vs rs) : AnAll ms H vs (rs.map rD) := by
  induction h with
  | nil => exact .nil
  | cons a _ ih =>
    obtain ⟨p, rfl, e⟩ := a
    exact .cons (.tup e (.cons (.int _) (.cons (.int _) (.cons (.int _) .nil)))) ih
theorem states_an {ms : List Addr} {H : Hp} {vs : List V} {ss : List (List Rule)} (h : All2 (StAt H) vs ss) : AnAll ms H vs (ss.map stD) := by
  induction h with
  | nil => exact .nil
  | cons a _ ih =>
    obtain ⟨p, xs, rfl, e, q⟩ := a
    exact .cons (.tup e (rules_an q)) ih
theorem rD_wd (rs : List Rule) : wdAll (rs.map rD) = 146 * rs.length := by
  induction rs with
  | nil => rfl
  | cons r l ih =>
    show (45 + 2 + (45 + 2 + (45 + 2 + 0)) + 3) + 2 + wdAll (l.map rD) = 146 * (l.length + 1)
    rw [ih]
    omega
theorem distR_nodup : ∀ {l : List Str}, l.Nodup → distR l = l.length
  | [], _ => rfl
  | x :: r, h => by
    rw [List.nodup_cons] at h
    have e : r.any (· == x) = false := List.any_eq_false.mpr fun y hy q => h.1 (by rw [beq_iff_eq] at q; exact q ▸ hy)
    unfold distR
    rw [if_neg (by rw [e]; decide), distR_nodup h.2]
    rfl
theorem distN_nodup {gs : List Str} (h : gs.Nodup) : distN gs = gs.length := by
  unfold distN
  rw [distR_nodup (List.pairwise_reverse.mpr (h.imp fun hab e => hab e.symm)), List.length_reverse]
theorem ruleD_ok {s n : Nat} {r : Rule} (h : r.1 ≤ n + 1 ∧ r.2.1 < s ∧ -1 ≤ r.2.2 ∧ r.2.2 ≤ 1) : ruleD s n (rD r) = true := by
  show ((decide ((0 : Int) ≤ r.1) && decide ((r.1 : Int) ≤ (n : Int) + 1)) && ((decide ((0 : Int) ≤ r.2.1) && decide ((r.2.1 : Int) ≤ (s : Int) - 1)) && (decide (-1 ≤ r.2.2) && decide (r.2.2 ≤ 1)))) = true
  obtain ⟨h1, h2, h3, h4⟩ := h
  rw [decide_eq_true (show (0 : Int) ≤ r.1 by omega), decide_eq_true (show (r.1 : Int) ≤ (n : Int) + 1 by omega), decide_eq_true (show (0 : Int) ≤ r.2.1 by omega), decide_eq_true (show (r.2.1 : Int) ≤ (s : Int) - 1 by omega), decide_eq_true h3, decide_eq_true h4]
  rfl
theorem stateD_ok {s n : Nat} {rs : List Rule} (hl : rs.length = s) (h : ∀ r ∈ rs, r.1 ≤ n + 1 ∧ r.2.1 < s ∧ -1 ≤ r.2.2 ∧ r.2.2 ≤ 1) : stateD s n (stD rs) = true := by
  show (decide (((rs.map rD).length : Int) = s) && (rs.map rD).all (ruleD s n)) = true
  rw [decide_eq_true (by rw [List.length_map, hl]), List.all_map, Bool.true_and, List.all_eq_true]
  exact fun r hr => ruleD_ok (h r hr)
end Ey
set_option maxHeartbeats 4000000
namespace Ey
open PySem PySem.Spec L2
/-! ### f(k = v, ..), the parameters told from the last one to the first -/
def gRv {α : Type} (us ws : List α) : List α := match us with
  | [] => ws.reverse
  | _ :: _ => []
theorem vals_rv {xs : List V} {us : List Value} (h : Vals xs us) : Vals xs.reverse us.reverse := by
  induction h with
  | nil => exact .nil
  | cons a _ ih =>
    rw [List.reverse_cons, List.reverse_cons]
    exact ih.append (.cons a .nil)
theorem kb_rv {K : PySem.W.Frag} {fd : FuncData} {ps ks : List Str} (hp : ps ≠ []) (h : ∀ ws : List Value, ws.length = ps.length → bindArgs fd ⟨[], ks.zip ws⟩ = pure (ps.zip ws.reverse)) : KBinds K fd ps ks gRv gRv := by
  refine ⟨fun s us ws _ hl => ?_, fun {vs us zs ws} r1 r2 => ?_⟩
  · cases us with
    | nil => exact .of_eq (h ws (by rw [← hl]; exact (List.length_reverse).symm))
    | cons a r => exact absurd hl (by intro e; exact hp (List.length_eq_zero_iff.mp e.symm))
  · cases r1 with
    | nil => exact vals_rv r2
    | cons _ _ => exact .nil
theorem Fun.rvs {K : PySem.W.Frag} {x qual : Str} {st : Stmt} {f : Addr} {fd : FuncData} {ps ks : List Str} (F : Fun K x qual st f fd) (hp : ps ≠ [])
    (h : ∀ (kV doc pm : Value) (an : Option Addr) (cdv ct : Value) (ws : List Value), ws.length = ps.length → bindArgs (PySem.W.fnOf x qual (defArgs st) (defBody st) (defScope st) .none kV doc pm an cdv ct) ⟨[], ks.zip ws⟩ = pure (ps.zip ws.reverse)) : KBinds K fd ps ks gRv gRv := by
  obtain ⟨oc, od, kV, doc, pm, an, cdv, ct, osl, rfl, lk, _⟩ := F.ex
  exact kb_rv hp (h kV doc pm an cdv ct)
section
variable {X : Cx} {CX : CXT} {k : Nat} {f : Addr} {fd : FuncData} {qs ks : List Str} {sp : Sp} {E : XK} {x : Str} {p pos : Pos} {kws : List Keyword} {tk : TA} {g : List Value → List Value → List Value} {gV : List V → List V → List V}
theorem pe_callKR (F : FnOk X.prog X.w X.K X.mg X.base CX k f fd qs sp) (hr : Room k X.A) (hg : Gl X x) (hm : X.mg x = some (.ref f)) (hk : PySem.W.keepIn X.K (.ref f) = true) (hb : KBinds X.K fd qs ks g gV) (hx : Passes CX X E) (hkw : PK X kws tk)
    (hall : (backToKw pos (keywordEach kws X.env)).all (·.1.isSome) = true := by rfl) (hks : (backToKw pos (keywordEach kws X.env)).filterMap (·.1) = ks := by rfl) (hdb : (x == ("__debug__" : Str)) = false := by decide)
    (hpl : ((backTo pos (starEach [] X.env)).any (·.1) || (backToKw pos (keywordEach kws X.env)).any (·.1.isNone)) = false := by rfl) :
    PE X (.Call (.Name x p) [] kws pos) (tCallK sp gV E tNil tk) := by
  refine ⟨fun pins s σ H Q I h => wpAny_Call_Name_kw (ld_glob I hg hm ?_ hdb)⟩
  refine PySem.W.callWith_KW0 (h₀ := X.base) I.ok.mod.kin hk hall ?_ hpl
  refine thn (hkw.run pos pins s σ H _ I h) fun ws s2 ⟨zs, H2, I2, rz, q2⟩ => ⟨I2.kIn, ?_⟩
  rw [hks]
  exact run_fnk (us := []) (vs := []) F hr hb hx I2 .nil rz q2
end
end Ey
set_option maxHeartbeats 4000000
namespace Ey
open PySem PySem.Spec L2
theorem FzT.isTup {K : PySem.W.Frag} {H : Hp} {t : Addr} {xs : List V} (h : FzT H t xs) : TyX K H (.ref t) (.type "tuple") ∧ PySem.W.kitOne K (.type "tuple") (.type "tuple") = some true := by
  obtain ⟨o, _, _, e⟩ := h
  exact ⟨.fTuple e, kit_ty (r := true) (by decide +kernel)⟩
theorem FzT.nin {Ts : List Addr} {H : Hp} {t : Addr} {xs : List V} (h : FzT H t xs) (g : TTs Ts H) : t ∉ Ts := by
  obtain ⟨o, _, _, e⟩ := h
  exact g.nino e (fun ps z => by cases z)
section
variable {Pr : Program} {w : World} {K : PySem.W.Frag} {mg : Str → Option Value} {base : Heap} {ms : List Addr} {a : Adr}
def spTagsG (Ts : List Addr) : Sp := fun vs H Q _ => ∃ (t : Addr) (gs : List Str), vs = [.ref t] ∧ FzT H t (gs.map V.str) ∧ (∀ g ∈ gs, isTag g = true) ∧ gs.Nodup ∧ gs.length ≤ 3 ∧ TTs Ts H ∧ ∀ H', TTs Ts H' → Kp Ts H H' → Q (.bl true) H'
theorem ok_tagsG (F : PF K mg a) (b : BF base mg a) : FnOk Pr w K mg base CX0 4 (a.A 20) (a.D 20) ["thing"] (spTagsG a.Ts) := by
  have B := F.B
  obtain ⟨oc, od, kV, doc, pm, an, ct, osl, efd, lk, code⟩ := F.tags.ex
  rw [efd]
  rw [efd] at lk
  refine fn_of lk code scTags (fun vs H Q E h => ?_) (fun A outer s0 H vs Q E hr h => ?_)
  · obtain ⟨t, gs, rfl, _⟩ := h
    rfl
  · obtain ⟨t, gs, rfl, hf, hg, hn, hl, hT, k⟩ := h
    refine ⟨_, pss_one (ps_ret (pe_and (pe_callB call_isi (by rfl) B.isi (by decide +kernel) (pa_cons (pv 0) (pa_cons (pe_bltn (v := .ty "tuple") (by rfl) B.tuple (by decide +kernel) rfl) pa_nil)))
      (pe_andB (pe_allC (k := 1) (P := a.P3) (c := a.c3) (ix := []) (ys := []) hr (by rfl) B.all (by decide +kernel) b.T3 rfl ⟨rfl, rfl, by decide +kernel, rfl, rfl, (by intro y hy e; exfalso; revert y; decide +kernel)⟩ (by decide +kernel) (by intro y hy e; exfalso; revert y; decide +kernel) (fun y hy => absurd hy List.not_mem_nil) rfl (fun j y h => by cases h) (pi_tup (pv 0))
          (fun A s H C code fp hr => pe_call (ok_tag (ms := a.Ts) F b) hr (by rfl) F.tag.g F.tag.F.kp F.tag.b .nil pass0 (pa_cons (pv 0) pa_nil)) (fun _ => rfl))
        (pe_one (pe_cmpR op_eq (pe_lenSetS (by rfl) B.len (by rfl) B.set (pv 0)) (pe_callB call_len_seq (by rfl) B.len PySem.boot_len (pa_cons (pv 0) pa_nil)) (nomark _)))))), ?_⟩
    obtain ⟨hty, kty⟩ := hf.isTup (K := K)
    have nT := hf.nin hT
    refine ⟨_, rfl, _, .ty "tuple", _, .type "tuple", _, rfl, .ty "tuple", hty, kty, ?_⟩
    refine ⟨true, rfl, iteT ⟨_, rfl, t, rfl, ⟨_, hf.sqt⟩, hT _ (by simp), fun H2 h2 => ?_⟩⟩
    obtain ⟨g2, kt2⟩ := hT.tab (by simp) h2
    refine all_tupC (K := K) (a := t) (xs := gs.map V.str) (fun i H' => TTs a.Ts H' ∧ Kp a.Ts H H') ⟨g2, kt2⟩ (fun i H' h => (hf.kp h.2 nT).sqt) ?_ ?_
    · rintro i x H' hx ⟨g', k'⟩
      rw [List.getElem?_map] at hx
      obtain ⟨y, hy, rfl⟩ := Option.map_eq_some_iff.mp hx
      have hy2 := hg y (List.mem_of_getElem? hy)
      have wy : wd (.str y) ≤ 1000000 := by
        show 10 * y.length + 2 ≤ 1000000
        have := tag_len hy2
        omega
      refine ⟨_, rfl, .str y, .str y, rfl, .str y, wy, g', fun P hP => hP, fun H3 g3 k3 => ⟨_, rfl, ?_⟩⟩
      show if isTag y = true then _ else _
      rw [hy2]
      exact iteT ⟨g3, k'.trans k3⟩
    · rintro H' ⟨g', k'⟩
      refine ⟨true, rfl, iteT ⟨_, rfl, t, gs, rfl, (hf.kp k' nT).sqt, by omega, ?_⟩⟩
      refine ⟨_, rfl, t, _, rfl, .inr (hf.kp k' nT).sqt, rfl, ?_⟩
      rw [dec_int, distN_nodup hn, List.length_map, decide_eq_true rfl]
      exact k H' g' k'
def spTapeG (Ts : List Addr) : Sp := fun vs H Q _ => ∃ (v : V) (gs : List Str) (s : Nat) (ss : List (List Rule)), vs = [v] ∧ MachAt H v gs s ss ∧ MachOk gs s ss ∧ TTs Ts H ∧ ∀ H', TTs Ts H' → Kp Ts H H' → Q (.bl true) H'
theorem ok_tapeG (F : PF K mg a) (b : BF base mg a) : FnOk Pr w K mg base CX0 10 (a.A 21) (a.D 21) ["thing"] (spTapeG a.Ts) := by
  have B := F.B
  obtain ⟨oc, od, kV, doc, pm, an, ct, osl, efd, lk, code⟩ := F.tape.ex
  rw [efd]
  rw [efd] at lk
  refine fn_of lk code scTape (fun vs H Q E h => ?_) (fun A outer s0 H vs Q E hr h => ?_)
  · obtain ⟨v, gs, s, ss, rfl, _⟩ := h
    rfl
  · obtain ⟨v, gs, s, ss, rfl, hv, ho, hT, k⟩ := h
    have hr1 := hr.mono (show 1 ≤ 9 by decide)
    have hr3 := hr.mono (show 4 ≤ 9 by decide)
    have hu1 := hr.units
    refine ⟨_, pss_cons (ps_if (PW.pt (pw_or (pt_not (pt_val (pe_callB call_isi (by rfl) B.isi (by decide +kernel) (pa_cons (pv 0) (pa_cons (pe_bltn (v := .ty "tuple") (by rfl) B.tuple (by decide +kernel) rfl) pa_nil)))))
        (pw_or (pt_cmpR op_ne (pe_callB call_len_seq (by rfl) B.len PySem.boot_len (pa_cons (pv 0) pa_nil)) pe_int (nomark _))
        (pw_or1 (pt_cmpR op_ne (pe_ix (r := rIxT K) ix_tup (pv 0) pe_int (fun _ _ => rfl)) pe_str (nomark _)))))) (pss_one (ps_ret pe_bl)) pss_nil)
      (pss_cons (ps_asg (pv 0) (pg_tup (n := 4) rfl (pgs_cons (pg_name (i := 1) scTape.nd rfl (.inl rfl)) (pgs_cons (pg_name (i := 2) scTape.nd rfl (.inl rfl)) (pgs_cons (pg_name (i := 3) scTape.nd rfl (.inr rfl)) (pgs_cons (pg_name (i := 4) scTape.nd rfl (.inr rfl)) pgs_nil))))))
      (pss_cons (ps_if (PW.pt (pw_or (pt_not (pt_val (pe_call (ok_tagsG F b) hr3 (by rfl) F.tags.g F.tags.F.kp F.tags.b .nil pass0 (pa_cons (pv 2) pa_nil))))
        (pw_or (pt_not (pt_val (pe_call (go_plain (ms := []) F) hr1 (by rfl) F.plain.g F.plain.F.kp F.plain.b .nil pass0 (pa_cons (pv 3) pa_nil))))
        (pw_or1 (pt_cmpR op_lt (pv 3) (pe_op op_add (pe_callB call_len_seq (by rfl) B.len PySem.boot_len (pa_cons (pv 2) pa_nil)) pe_int) (nomark _)))))) (pss_one (ps_ret pe_bl)) pss_nil)
      (pss_one (ps_ret (pe_and (pe_callB call_isi (by rfl) B.isi (by decide +kernel) (pa_cons (pv 4) (pa_cons (pe_bltn (v := .ty "tuple") (by rfl) B.tuple (by decide +kernel) rfl) pa_nil)))
        (pe_and (pe_callTy call_boolT (by rfl) B.bool (by decide +kernel) (pa_cons (pv 4) pa_nil))
        (pe_one (pe_allC (k := 7) (P := a.P4) (c := a.c4) (ix := [3, 4]) (ys := ["signs", "states"]) hr (by rfl) B.all (by decide +kernel) b.T4 rfl ⟨rfl, rfl, by decide +kernel, rfl, rfl, (by intro y hy e; simp only [List.mem_cons, List.not_mem_nil, or_false] at hy; rcases hy with rfl | rfl | rfl | rfl | rfl | rfl <;> first | (cases e; done) | exact ⟨_, rfl⟩)⟩ (by decide +kernel) (by intro y hy e; simp only [List.mem_cons, List.not_mem_nil, or_false] at hy; rcases hy with rfl | rfl | rfl | rfl | rfl | rfl <;> first | (cases e; done) | exact .inl rfl) (by intro y hy; simp only [List.mem_cons, List.not_mem_nil, or_false] at hy; rcases hy with rfl | rfl <;> rfl) rfl (by intro j y h; match j, h with | 0, h => exact ⟨3, rfl, h⟩ | 1, h => exact ⟨4, rfl, h⟩)
          (pi_tup (pv 4))
          (fun A s H C code fp hr => pe_call (ok_state (ms := a.Ts) F b) hr (by rfl) F.state.g F.state.F.kp F.state.b .nil pass0 (pa_cons (pv 1) (pa_cons (pe_callB (r := rLenQ K) call_len_seq (by rfl) B.len PySem.boot_len (pa_cons (pv 2) pa_nil)) (pa_cons (pv 0) pa_nil)))) (fun _ => rfl))))))))), ?_⟩
    obtain ⟨m, t, q, xs, rfl, em, ht, eq, hs⟩ := hv.ex
    refine ⟨_, rfl, _, .ty "tuple", .type "tuple", .type "tuple", _, rfl, .ty "tuple", .base (.tup em), kit_ty (r := true) (by decide +kernel), ?_⟩
    refine ⟨true, rfl, iteF ⟨_, rfl, m, _, rfl, .inr (sqt_of em), rfl, _, rfl, iteNS rfl ?_⟩⟩
    refine ⟨_, rfl, m, _, _, _, rfl, rfl, sqt_of em, atI_nat (j := 0) rfl, rfl, _, rfl, iteNS rfl ?_⟩
    refine ⟨_, rfl, m, _, rfl, sqt_of em, rfl, _, _, rfl, _, _, rfl, _, _, rfl, _, _, rfl, rfl, ?_⟩
    refine ⟨_, rfl, t, gs, rfl, ht, ho.tg, ho.un, ho.l3, hT, fun H1 g1 k1 => ⟨true, rfl, iteF ?_⟩⟩
    have ht1 := ht.kp k1 (ht.nin hT)
    have eq1 := k1.tup _ _ eq
    refine ⟨_, rfl, .int s, .int s, rfl, .int _, true, rfl, iteF ?_⟩
    refine ⟨_, rfl, _, rfl, t, _, rfl, .inr ht1.sqt, _, _, rfl, rfl, _, _, rfl, rfl, _, rfl, ite2 (fun h => ?_) (fun _ => ?_)⟩
    · have z := of_decide_eq_true h
      rw [List.length_map] at z
      have := ho.s2
      omega
    refine ⟨_, rfl, _, .ty "tuple", .type "tuple", .type "tuple", _, rfl, .ty "tuple", .base (.tup eq1), kit_ty (r := true) (by decide +kernel), true, rfl, iteT ⟨_, rfl, q, xs, rfl, sqt_of eq1, _, rfl, ?_⟩⟩
    have lx := hs.len
    have ne : (!xs.isEmpty) = true := by
      cases xs with
      | nil =>
        have := ho.n1
        rw [← lx] at this
        exact absurd this (by decide)
      | cons _ _ => rfl
    rw [ne]
    refine iteT ⟨_, rfl, q, rfl, ⟨_, sqt_of eq1⟩, g1 _ (by simp), fun H2 h2 => ?_⟩
    obtain ⟨g2, kt2⟩ := g1.tab (by simp) h2
    refine all_tupC (K := K) (a := q) (xs := xs) (fun i H' => TTs a.Ts H' ∧ Kp a.Ts H1 H') ⟨g2, kt2⟩ (fun i H' h => sqt_of (h.2.tup _ _ eq1)) ?_ ?_
    · rintro i x H' hx ⟨g', k'⟩
      obtain ⟨rs, ers, ax⟩ := hs.getV hx
      obtain ⟨hl, hr⟩ := ho.st rs (List.mem_of_getElem? ers)
      obtain ⟨p, ys, rfl, ep, ay⟩ := (ax.kp k1).kp k'
      have wr : wd (stD rs) ≤ 16000 := by
        show wdAll (rs.map rD) + 3 ≤ 16000
        rw [rD_wd, hl]
        have := ho.s5
        omega
      refine ⟨_, rfl, _, rfl, q, xs, rfl, .inr (sqt_of (k'.tup _ _ eq1)), _, rfl, s, _, .ref p, stD rs, rfl, .tup ep (rules_an ay), by omega, g', fun P hP => hP, fun H3 g3 k3 => ⟨_, rfl, ?_⟩⟩
      rw [lx, stateD_ok hl hr]
      exact iteT ⟨g3, k'.trans k3⟩
    · rintro H' ⟨g', k'⟩
      exact k H' g' (k1.trans k')
end
end Ey
set_option maxHeartbeats 4000000
namespace Ey
open PySem PySem.Spec PyProof.Rows L2
/-! ### a dict (a list) just made, locked for the walk over it -/
section
variable {X : Cx}
def tLk (t : TE) : TE := fun σ H Q => t σ H fun x H1 => ∃ d u, x = .ref d ∧ H1 d = some u ∧ Mut (some u) ∧ ∀ od, Q x (upd H1 d (.frz od u))
theorem pe_lk {e : Expr} {t : TE} (h : PE X e t) : PE X e (tLk t) := by
  refine ⟨fun pins s σ H Q I hw => ?_⟩
  refine thn (h.run pins s σ H _ I hw) fun v s1 ⟨x, H1, I1, r, d, u, ex, hd, mu, q⟩ => ?_
  obtain ⟨od, I2⟩ := I1.lock hd mu
  exact ⟨x, _, I2, r, q od⟩
end
end Ey
set_option maxHeartbeats 4000000
namespace Ey
open PySem PySem.Spec L2
/-! ### what the cells hold, one step, many -/
def cells0 (gs : List Str) (t : Tr) (c : Nat) : List Nat := (ps t).map (fun x => signT gs x.2) ++ List.replicate ((2 * t.sz + 1) ^ c - (2 * t.sz + 1)) 0
def rul (ss : List (List Rule)) (q c : Nat) : Rule := (ss.getD q []).getD c (0, 0, 0)
def clampI (h : Nat) (m : Int) (L : Nat) : Nat := if (h : Int) + m < 0 then 0 else if ((L : Int) - 1) < (h : Int) + m then L - 1 else ((h : Int) + m).toNat
structure Cfg where
  q : Nat
  h : Nat
  cs : List Nat
def stp (ss : List (List Rule)) (x : Cfg) : Cfg := if x.q < ss.length then ⟨(rul ss x.q (x.cs.getD x.h 0)).1, clampI x.h (rul ss x.q (x.cs.getD x.h 0)).2.2 x.cs.length, x.cs.set x.h (rul ss x.q (x.cs.getD x.h 0)).2.1⟩ else x
def runN (ss : List (List Rule)) : Nat → Cfg → Cfg
  | 0, x => x
  | n + 1, x => stp ss (runN ss n x)
structure CfgOk (ss : List (List Rule)) (s L : Nat) (x : Cfg) : Prop where
  h : x.h < L
  l : x.cs.length = L
  c : ∀ y ∈ x.cs, y < s
theorem clamp_lt {h : Nat} {m : Int} {L : Nat} (hl : 0 < L) : clampI h m L < L := by
  unfold clampI
  split
  · exact hl
  · split <;> omega
theorem rul_ok {gs : List Str} {s : Nat} {ss : List (List Rule)} (ho : MachOk gs s ss) {q c : Nat} (hq : q < ss.length) (hc : c < s) : ∃ rs, ss[q]? = some rs ∧ rs[c]? = some (rul ss q c) ∧ (rul ss q c).2.1 < s := by
  have h1 : ss[q]? = some ss[q] := List.getElem?_eq_getElem hq
  obtain ⟨hl, hr⟩ := ho.st _ (List.mem_of_getElem? h1)
  have h2 : c < (ss[q]).length := by omega
  have h3 : (ss[q])[c]? = some (ss[q])[c] := List.getElem?_eq_getElem h2
  have e : rul ss q c = (ss[q])[c] := by
    unfold rul
    have e1 : ss.getD q [] = ss[q] := by rw [List.getD_eq_getElem?_getD, h1]; rfl
    rw [e1, List.getD_eq_getElem?_getD, h3]
    rfl
  exact ⟨_, h1, by rw [e]; exact h3, by rw [e]; exact (hr _ (List.mem_of_getElem? h3)).2.1⟩
theorem stp_ok {gs : List Str} {s L : Nat} {ss : List (List Rule)} {x : Cfg} (ho : MachOk gs s ss) (h : CfgOk ss s L x) : CfgOk ss s L (stp ss x) := by
  unfold stp
  split
  · rename_i hq
    have hL : 0 < L := Nat.lt_of_le_of_lt (Nat.zero_le _) h.h
    have hc : x.cs.getD x.h 0 < s := by
      have hh : x.h < x.cs.length := by rw [h.l]; exact h.h
      rw [List.getD_eq_getElem?_getD, List.getElem?_eq_getElem hh]
      exact h.c _ (List.getElem_mem hh)
    obtain ⟨rs, _, _, h3⟩ := rul_ok ho hq hc
    refine ⟨?_, ?_, fun y hy => ?_⟩
    · show clampI _ _ x.cs.length < L
      rw [h.l]
      exact clamp_lt hL
    · show (x.cs.set _ _).length = L
      rw [List.length_set, h.l]
    · rcases List.mem_or_eq_of_mem_set hy with hy | rfl
      · exact h.c y hy
      · exact h3
  · exact h
theorem run_ok {gs : List Str} {s L : Nat} {ss : List (List Rule)} {x : Cfg} (ho : MachOk gs s ss) (h : CfgOk ss s L x) : ∀ n, CfgOk ss s L (runN ss n x)
  | 0 => h
  | n + 1 => stp_ok ho (run_ok ho h n)
theorem run_end {ss : List (List Rule)} {x : Cfg} {n : Nat} (h : ¬ (runN ss n x).q < ss.length) : ∀ m, n ≤ m → runN ss m x = runN ss n x
  | 0, hm => by
    have : n = 0 := by omega
    rw [this]
  | m + 1, hm => by
    by_cases e : n = m + 1
    · rw [e]
    · have ih := run_end h m (by omega)
      show stp ss (runN ss m x) = _
      rw [ih]
      unfold stp
      rw [if_neg h]
theorem posOf_le {g : Str} : ∀ gs : List Str, posOf g gs ≤ gs.length
  | [] => Nat.le_refl _
  | x :: r => by
    have := posOf_le (g := g) r
    show (if x = g then 0 else posOf g r + 1) ≤ r.length + 1
    split <;> omega
theorem sign_lt {gs : List Str} {s : Nat} (h : gs.length + 2 ≤ s) (t : Tr) : signT gs t < s := by
  cases t with
  | nil => show 0 < s; omega
  | nd g l r =>
    have := posOf_le (g := g) gs
    show 1 + posOf g gs < s
    omega
theorem cells0_len (gs : List Str) (t : Tr) {c : Nat} (hc : 0 < c) : (cells0 gs t c).length = (2 * t.sz + 1) ^ c := by
  have : 2 * t.sz + 1 ≤ (2 * t.sz + 1) ^ c := Nat.le_self_pow (by omega) _
  unfold cells0
  rw [List.length_append, List.length_map, ps_len, List.length_replicate]
  omega
theorem cells0_lt {gs : List Str} {s : Nat} (h : gs.length + 2 ≤ s) (t : Tr) (c : Nat) : ∀ y ∈ cells0 gs t c, y < s := by
  intro y hy
  unfold cells0 at hy
  rcases List.mem_append.mp hy with hy | hy
  · obtain ⟨x, _, rfl⟩ := List.mem_map.mp hy
    exact sign_lt h _
  · rw [List.eq_of_mem_replicate hy]
    omega
/-- the beginning -/
def cfg0 (gs : List Str) (t : Tr) (c : Nat) : Cfg := ⟨0, 0, cells0 gs t c⟩
theorem cfg0_ok {gs : List Str} {s : Nat} {ss : List (List Rule)} (h : MachOk gs s ss) (t : Tr) {c : Nat} (hc : 0 < c) : CfgOk ss s ((2 * t.sz + 1) ^ c) (cfg0 gs t c) :=
  ⟨Nat.pow_pos (by omega), cells0_len gs t hc, cells0_lt h.s2 t c⟩
def intsV (l : List Nat) : List V := l.map fun (n : Nat) => V.int n
section
variable {Pr : Program} {w : World} {K : PySem.W.Frag} {mg : Str → Option Value} {base : Heap} {ms : List Addr} {a : Adr}
theorem MachAt.kpT {Ts : List Addr} {H H1 : Hp} {v : V} {gs : List Str} {s : Nat} {ss : List (List Rule)} (h : MachAt H v gs s ss) (g : TTs Ts H) (k : Kp Ts H H1) : MachAt H1 v gs s ss :=
  h.kp k fun b hb o xs e => g.nino e (fun ps z => by cases z) hb
theorem MachAt.kp0 {H H1 : Hp} {v : V} {gs : List Str} {s : Nat} {ss : List (List Rule)} (h : MachAt H v gs s ss) (k : Kp [] H H1) : MachAt H1 v gs s ss := h.kp k fun b hb => absurd hb List.not_mem_nil
def spCG (Ts : List Addr) : Sp := fun vs H Q _ => ∃ (mv tv : V) (c : Int) (gs : List Str) (s : Nat) (ss : List (List Rule)) (t : Tr), vs = [mv, tv, .int c] ∧ MachAt H mv gs s ss ∧ MachOk gs s ss ∧ TreeAt H tv t ∧ t.ok ∧ t.sz ≤ 1000 ∧ 0 < c ∧ TTs Ts H ∧ ∀ H', TTs Ts H' → Kp Ts H H' → Q .non H'
theorem ok_checkG (F : PG K mg a) (b : BF base mg a) : FnOk Pr w K mg base CX0 11 (a.A 23) (a.D 23) ["machine", "tree", "c"] (spCG a.Ts) := by
  refine F.checkC.F.ok scCheckC (fun vs H Q E h => ?_) (fun cdv Ar outer s H vs Q E hr h => ?_)
  · obtain ⟨mv, tv, c, gs, s, ss, t, rfl, _⟩ := h
    rfl
  · obtain ⟨mv, tv, c, gs, s, ss, t, rfl, hm, ho, T, ok, sz, hc, g, k⟩ := h
    have hr3 := hr.mono (show 3 ≤ 10 by decide)
    refine ⟨_, pss_cons (ps_if (pt_not (pt_val (pe_call (ok_tapeG F.toPF b) hr (by rfl) F.tape.g F.tape.F.kp F.tape.b .nil pass0 (pa_cons (pv 0) pa_nil)))) (pss_one ps_never) pss_nil)
      (pss_cons (ps_expr (pe_call (ok_check F.check.F F.isTree F.toPF b) hr3 (by rfl) F.check.g F.check.F.kp F.check.b .nil pass0 (pa_cons (pv 1) pa_nil)))
      (pss_one (ps_if (pt_not (pt_val (pe_call (ok_clock F) hr3 (by rfl) F.clock.g F.clock.F.kp F.clock.b .nil pass0 (pa_cons (pv 2) pa_nil)))) (pss_one ps_never) pss_nil))), ?_⟩
    refine ⟨_, rfl, mv, gs, _, ss, rfl, hm, ho, g, fun H1 g1 k1 => ⟨true, rfl, ?_⟩⟩
    refine iteF ⟨_, rfl, tv, t, rfl, T.kp k1, ok, sz, g1, fun H2 g2 k2 => ?_⟩
    exact ⟨_, rfl, c, rfl, hc, _, rfl, iteF (k H2 g2 (k1.trans k2))⟩
def spSignG : Sp := fun vs H Q _ => ∃ (v : V) (tg : Addr) (t : Tr) (gs : List Str), vs = [v, .ref tg] ∧ TreeAt H v t ∧ FzT H tg (gs.map V.str) ∧ Q (.int (signT gs t : Nat)) H
theorem ok_sign (F : PG K mg a) : FnOk Pr w K mg base CX0 1 (a.A 24) (a.D 24) ["part", "tags"] spSignG := by
  have B := F.B
  refine F.sign.F.ok scSign (fun vs H Q E h => ?_) (fun cdv Ar outer s H vs Q E hr h => ?_)
  · obtain ⟨v, tg, t, gs, rfl, _⟩ := h
    rfl
  · obtain ⟨v, tg, t, gs, rfl, T, hf, q⟩ := h
    refine ⟨_, pss_cons (ps_if (pt_cmpR op_isN (pv 0) pe_non (nomark _)) (pss_one (ps_ret pe_int)) pss_nil)
      (pss_one (ps_ret (pe_ifExp (pt_cmpR (r := rIn K false) op_in_seq (pe_ix ix_tup (pv 0) pe_int (fun _ _ => rfl)) (pv 1) (by rfl)) (pe_op op_add pe_int (pe_tupIndexF (pv 1) (pa_cons (pe_ix ix_tup (pv 0) pe_int (fun _ _ => rfl)) pa_nil)))
        (pe_op op_add pe_int (pe_callB call_len_seq (by rfl) B.len PySem.boot_len (pa_cons (pv 1) pa_nil)))))), ?_⟩
    refine ⟨_, rfl, rfl, _, rfl, ?_⟩
    cases T with
    | nil => exact iteT q
    | @nd p g l r v1 v2 e _ _ =>
      refine iteF ?_
      refine ⟨_, rfl, p, _, _, _, rfl, rfl, sqt_of e, atI_nat (j := 0) rfl, _, rfl, tg, _, rfl, .inr hf.sqt, rfl, ?_, _, rfl, ?_⟩
      · rw [List.all_map]
        exact List.all_eq_true.mpr fun _ _ => rfl
      show if inV (.str g) (gs.map V.str) = true then _ else _
      rw [inV_strs]
      cases hin : gs.any fun t => decide (t = g) with
      | true =>
        obtain ⟨h1, h2⟩ := posOf_get hin
        exact iteT ⟨_, rfl, tg, gs, rfl, hf, _, rfl, p, _, _, _, rfl, rfl, sqt_of e, atI_nat (j := 0) rfl, g, posOf g gs, rfl, hf, h1, h2, _, _, rfl, rfl, q⟩
      | false =>
        refine iteF ⟨_, rfl, tg, _, rfl, .inr hf.sqt, _, _, rfl, rfl, ?_⟩
        have e2 : ((1 : Int) + ((gs.map V.str).length : Nat)) = ((signT gs (.nd g l r) : Nat) : Int) := by
          show _ = ((1 + posOf g gs : Nat) : Int)
          rw [posOf_no hin, List.length_map]
          omega
        show Q (V.int ((1 : Int) + ((gs.map V.str).length : Nat))) H
        rw [e2]
        exact q
end
end Ey
set_option maxHeartbeats 4000000
namespace Ey
open PySem PySem.Spec L2
theorem KvAt.get {H : Hp} {kvs : List (Key × V)} {qs : List (List Nat × Tr)} (h : KvAt H kvs qs) : ∀ {i : Nat} {k : Key} {v : V}, kvs[i]? = some (k, v) → ∃ p t, qs[i]? = some (p, t) ∧ k = .inr (st p) ∧ TreeAt H v t := by
  induction h with
  | nil => intro i k v q; simp at q
  | cons a _ ih =>
    intro i k v q
    cases i with
    | zero => cases q; exact ⟨_, _, rfl, rfl, a⟩
    | succ n => exact ih q
theorem clamp_eq (h : Nat) (m : Int) (L : Nat) (hL : 0 < L) : (if (L : Int) - 1 < (if (0 : Int) > (h : Int) + m then 0 else (h : Int) + m) then (L : Int) - 1 else (if (0 : Int) > (h : Int) + m then 0 else (h : Int) + m)) = (clampI h m L : Nat) := by
  unfold clampI
  by_cases h1 : (h : Int) + m < 0
  · rw [if_pos h1, if_pos (show (0 : Int) > (h : Int) + m from h1), if_neg (by omega)]
    rfl
  · rw [if_neg h1, if_neg (show ¬ (0 : Int) > (h : Int) + m from h1)]
    by_cases h2 : (L : Int) - 1 < (h : Int) + m
    · rw [if_pos h2, if_pos h2]
      omega
    · rw [if_neg h2, if_neg h2]
      omega
theorem ints_len (l : List Nat) : (intsV l).length = l.length := List.length_map ..
section
variable {Pr : Program} {w : World} {K : PySem.W.Frag} {mg : Str → Option Value} {base : Heap} {ms : List Addr} {a : Adr}
/-- cells at first: a new list -/
def spCells : Sp := fun vs H Q _ => ∃ (tg : Addr) (tv : V) (c : Nat) (gs : List Str) (t : Tr), vs = [.ref tg, tv, .int c] ∧ FzT H tg (gs.map V.str) ∧ gs.length ≤ 3 ∧ TreeAt H tv t ∧ t.sz ≤ 100 ∧ 0 < c ∧ c < 16 ∧ (2 * t.sz + 1) ^ c ≤ 10000 ∧
  ∀ (p : Addr) (H' : Hp), H p = none → H' p = some (.lst (intsV (cells0 gs t c))) → Kp [] H H' → Q (.ref p) H'
abbrev NCe : List Str := ["tags", "tree", "c", "cells", "part"]
theorem scCells : FnScope NCe ["tags", "tree", "c"] (defScope sCells) := ⟨rfl, rfl, rfl, by decide +kernel, rfl, by decide +kernel, by decide +kernel⟩
theorem ok_cells (F : PG K mg a) : FnOk Pr w K mg base CX0 2 (a.A 25) (a.D 25) ["tags", "tree", "c"] spCells := by
  have B := F.B
  refine F.cells.F.ok scCells (fun vs H Q E h => ?_) (fun cdv Ar outer s H vs Q E hr h => ?_)
  · obtain ⟨tg, tv, c, gs, t, rfl, _⟩ := h
    rfl
  · obtain ⟨tg, tv, c, gs, t, rfl, hf, hl, T, sz, c0, c16, hN, k⟩ := h
    refine ⟨_, pss_cons (ps_setLc (i := 3) (own := [("part", 4)]) (g := gName 4) (tt := tYes) (by rfl) scCells.nd rfl rfl (sw_true rfl rfl rfl (by decide +kernel)) (pi_values (pe_lk (pe_call (ok_stand F.stand.F) hr (by rfl) F.stand.g F.stand.F.kp F.stand.b .nil pass0 (pa_cons (pv 1) pa_nil)))) (blkOk_by (N := NCe) (sc := defScope sCells) (by decide +kernel)) (fun _ _ _ _ _ => pg_name (i := 4) scCells.nd rfl (Or.inl rfl)) (fun _ _ _ _ _ => pts_nil)
        (fun _ _ _ _ _ => pe_call (ok_sign F) hr (by rfl) F.sign.g F.sign.F.kp F.sign.b .nil pass0 (pa_cons (pv 4) (pa_cons (pv 0) pa_nil))))
      (pss_one (ps_ret (pe_op op_cat (pv 3) (pe_op op_rep (pe_lst (pa_cons pe_int pa_nil)) (pe_op op_sub (pe_call (ok_power F.power.F) hr (by rfl) F.power.g F.power.F.kp F.power.b .nil pass0 (pa_cons (pe_callB call_len_seq (by rfl) B.len PySem.boot_len (pa_cons (pv 3) pa_nil)) (pa_cons (pv 2) pa_nil))) (pe_callB call_len_seq (by rfl) B.len PySem.boot_len (pa_cons (pv 3) pa_nil))))))), ?_⟩
    refine ⟨_, rfl, tv, t, rfl, T, by omega, fun d kvs H1 nd hd hk k1 => ⟨d, _, rfl, hd, trivial, fun od => ?_⟩⟩
    have hd2 : (upd H1 d (.frz od (.dK kvs))) d = some (.frz od (.dK kvs)) := upd_same
    have k2 : Kp [] H (upd H1 d (.frz od (.dK kvs))) := k1.own nd
    have hk2 : KvAt (upd H1 d (.frz od (.dK kvs))) kvs (ps t) := hk.kp (ms := [d]) (.put (by simp) hd (fun xs z => by cases z))
    generalize upd H1 d (.frz od (.dK kvs)) = H2 at hd2 k2 hk2
    refine ⟨d, od, kvs, rfl, hd2, fun D nD => ?_⟩
    have lk := hk2.len
    rw [ps_len] at lk
    refine lc_it (walk_values (d := d) (o := od) (kvs := kvs)) (fun i G => (∃ xs, G D = some (.lst xs) ∧ xs = intsV (((ps t).take i).map fun x => signT gs x.2)) ∧ Kp [] H2 G)
      ⟨⟨[], upd_same, rfl⟩, .new nD⟩ (fun i G _ h => h.2.at_ _ _ hd2 List.not_mem_nil) ?_ ?_
    · rintro i x G G1 hi ⟨⟨xs, hD, hx⟩, kG⟩ ⟨rfl, key, hkv⟩
      obtain ⟨p, tr, e1, e2, e3⟩ := hk2.get hkv
      refine ⟨rfl, _, rfl, _, rfl, x, tg, tr, gs, rfl, e3.kp kG, hf.kp (k2.trans kG) List.not_mem_nil, xs, hD, ?_, ⟨_, upd_same, ?_⟩, kG.own nD⟩
      · rw [hx, ints_len, List.length_map, List.length_take]
        exact Nat.lt_of_le_of_lt (Nat.min_le_left _ _) (Nat.lt_trans (show i < 1000 by omega) (by decide))
      · rw [hx]
        unfold intsV
        rw [List.take_add_one, e1]
        simp
    rintro G ⟨⟨xs, hD, hx⟩, kG⟩
    rw [show kvs.length = (ps t).length by rw [ps_len]; exact lk, List.take_length] at hx
    have lx : xs.length = 2 * t.sz + 1 := by rw [hx, ints_len, List.length_map, ps_len]
    refine ⟨_, rfl, by show 1 ≤ sizeLine; decide, fun z nz => ?_⟩
    have hD1 : (upd G z (.lst [.int 0])) D = some (.lst xs) := (upd_ne (ne_of_none hD nz)).trans hD
    have kz : Kp [] G (upd G z (.lst [.int 0])) := .new nz
    refine ⟨_, rfl, D, xs, rfl, .inl (sql_of hD1), _, rfl, 2 * t.sz + 1, c, ?_, by omega, c16, _, rfl, D, xs, rfl, .inl (sql_of hD1), _, _, rfl, rfl, z, _, [.int 0], rfl, rfl, upd_same, ?_, ?_, ?_, fun y ny => ?_⟩
    · rw [lx]
      rfl
    · rw [lx]
      have : (2 * t.sz + 1) ≤ (2 * t.sz + 1) ^ c := Nat.le_self_pow (by omega) _
      omega
    · rw [lx]
      omega
    · rw [lx]
      show 1 * _ ≤ sizeLine
      have : sizeLine ≥ 100000 := by decide
      omega
    have lz : (intsV (cells0 gs t c)) = xs ++ List.replicate ((2 * t.sz + 1) ^ c - (2 * t.sz + 1)) (.int 0) := by
      rw [hx]
      unfold cells0 intsV
      rw [List.map_append, List.map_replicate]
      rfl
    have er : (List.replicate ((((2 * t.sz + 1) ^ c : Nat) : Int) - (xs.length : Nat)).toNat [V.int 0]).flatten = List.replicate ((2 * t.sz + 1) ^ c - (2 * t.sz + 1)) (.int 0) := by
      rw [lx, show ((((2 * t.sz + 1) ^ c : Nat) : Int) - ((2 * t.sz + 1 : Nat) : Int)).toNat = (2 * t.sz + 1) ^ c - (2 * t.sz + 1) by omega]
      generalize (2 * t.sz + 1) ^ c - (2 * t.sz + 1) = n
      induction n with
      | zero => rfl
      | succ n ih => rw [List.replicate_succ, List.flatten_cons, ih]; rfl
    rw [er]
    have hy : ∀ o : HO, (upd (upd G z (.lst [.int 0])) y o) D = some (.lst xs) := fun o => (upd_ne (ne_of_none hD1 ny)).trans hD1
    refine ⟨D, y, xs, _, rfl, rfl, hy _, upd_same, ?_, fun p np => ?_⟩
    · rw [lx, List.length_replicate]
      exact Nat.le_trans (show _ ≤ 20000 by have : 2 * t.sz + 1 ≤ (2 * t.sz + 1) ^ c := Nat.le_self_pow (by omega) _; omega) (by decide)
    rw [← lz]
    have k3 := ((k2.trans kG).trans kz).trans (.new ny (o := .lst (List.replicate ((2 * t.sz + 1) ^ c - (2 * t.sz + 1)) (V.int 0))))
    exact k p _ (k3.free np List.not_mem_nil) upd_same (k3.trans (.new np))
/-- the steps of a machine, on cells that stand in a list -/
def spAfter : Sp := fun vs H Q _ => ∃ (mv : V) (p : Addr) (many L : Nat) (gs : List Str) (s : Nat) (ss : List (List Rule)) (cs : List Nat), vs = [mv, .ref p, .int many] ∧ MachAt H mv gs s ss ∧ MachOk gs s ss ∧ H p = some (.lst (intsV cs)) ∧ CfgOk ss s L ⟨0, 0, cs⟩ ∧ L ≤ 10000 ∧ many ≤ 100000 ∧
  ∀ (r ct : Addr) (H' : Hp), H' r = some (.tup [.int (runN ss many ⟨0, 0, cs⟩).q, .int (runN ss many ⟨0, 0, cs⟩).h, .ref ct]) → H' ct = some (.tup (intsV (runN ss many ⟨0, 0, cs⟩).cs)) → Kp [p] H H' → Q (.ref r) H'
abbrev NAf : List Str := ["machine", "cells", "many", "_", "states", "state", "head", "move"]
theorem scAfter : FnScope NAf ["machine", "cells", "many"] (defScope sAfter) := ⟨rfl, rfl, rfl, by decide +kernel, rfl, by decide +kernel, by decide +kernel⟩
theorem ok_after (F : PG K mg a) : FnOk Pr w K mg base CX0 1 (a.A 26) (a.D 26) ["machine", "cells", "many"] spAfter := by
  have B := F.B
  refine F.after.F.ok scAfter (fun vs H Q E h => ?_) (fun cdv Ar outer s H vs Q E hr h => ?_)
  · obtain ⟨mv, p, many, L, gs, s, ss, cs, rfl, _⟩ := h
    rfl
  · obtain ⟨mv, p, many, L, gs, sn, ss, cs, rfl, hm, ho, hp, hc, hL, hmany, k⟩ := h
    refine ⟨_, pss_cons (ps_asg (pv 0) (pg_tup (n := 4) (by rfl) (pgs_cons (pg_name (i := 3) scAfter.nd rfl (.inl rfl)) (pgs_cons (pg_name (i := 3) scAfter.nd rfl (.inl rfl)) (pgs_cons (pg_name (i := 3) scAfter.nd rfl (.inl rfl)) (pgs_cons (pg_name (i := 4) scAfter.nd rfl (.inl rfl)) pgs_nil))))))
      (pss_cons (ps_set (i := 5) scAfter.nd rfl (.inl rfl) pe_int)
      (pss_cons (ps_set (i := 6) scAfter.nd rfl (.inl rfl) pe_int)
      (pss_cons (ps_for PassesOwn.never rfl (pi_range1 (by rfl) B.range (pa_cons (pv 2) pa_nil)) (pg_name (i := 3) scAfter.nd rfl (.inl rfl))
        (pss_cons (ps_if (pt_cmpR op_ge (pv 5) (pe_callB (r := rLenQ K) call_len_seq (by rfl) B.len PySem.boot_len (pa_cons (pv 4) pa_nil)) (nomark _))
        (pss_one ps_break) pss_nil)
      (pss_cons (ps_asg (pe_ix ix_tup (pe_ix ix_tup (pv 4) (pv 5) (fun _ _ => rfl)) (pe_ix ix_list (pv 1) (pv 6) (fun _ _ => rfl)) (fun _ _ => rfl)) (pg_tup (n := 3) (by rfl) (pgs_cons (pg_name (i := 5) scAfter.nd rfl (.inl rfl)) (pgs_cons (pg_sub (pv 1) (pv 6) set_list) (pgs_cons (pg_name (i := 7) scAfter.nd rfl (.inl rfl)) pgs_nil)))))
      (pss_one (ps_set (i := 6) scAfter.nd rfl (.inl rfl) (pe_callB (call_min2 rfl) (by rfl) B.min (by decide +kernel) (pa_cons (pe_callB (call_max2 rfl) (by rfl) B.max (by decide +kernel) (pa_cons (pe_op op_add (pv 6) (pv 7)) (pa_cons pe_int pa_nil))) (pa_cons (pe_op op_sub (pe_callB (r := rLenQ K) call_len_seq (by rfl) B.len PySem.boot_len (pa_cons (pv 1) pa_nil)) pe_int) pa_nil))))))))
      (pss_one (ps_ret (pe_tup (pa_cons (pv 5) (pa_cons (pv 6) (pa_cons (pe_callTy call_tuple_of (by rfl) B.tuple (by decide +kernel) (pa_cons (pv 1) pa_nil)) pa_nil))))))))), ?_⟩
    obtain ⟨m, t, q, xs, rfl, em, ht, eq, hs⟩ := hm.ex
    refine ⟨_, rfl, m, _, rfl, sqt_of em, rfl, _, _, rfl, _, _, rfl, _, _, rfl, _, _, rfl, rfl, ?_⟩
    refine ⟨_, rfl, (many : Int), rfl, by omega, by omega, ?_⟩
    rw [Int.toNat_natCast]
    have lx := hs.len
    have rk := run_ok ho hc
    refine for_range (lo := 0) (n := many) (fun i σ G => (∃ y3 y7 : Option V, σ = [some (.ref m), some (.ref p), some (.int many), y3, some (.ref q), some (.int (runN ss i ⟨0, 0, cs⟩).q), some (.int (runN ss i ⟨0, 0, cs⟩).h), y7]) ∧ G p = some (.lst (intsV (runN ss i ⟨0, 0, cs⟩).cs)) ∧ Kp [p] H G)
      ⟨⟨_, _, rfl⟩, hp, .refl⟩ ?_ ?_
    · rintro i σ G hi ⟨⟨y3, y7, rfl⟩, hpG, kG⟩
      have rki := rk i
      have e1 : runN ss (i + 1) ⟨0, 0, cs⟩ = stp ss (runN ss i ⟨0, 0, cs⟩) := rfl
      have eqG := kG.tup _ _ eq
      refine ⟨_, rfl, _, rfl, q, xs, rfl, .inr (sqt_of eqG), _, _, rfl, rfl, _, rfl, ite2 (fun h => ?_) (fun h => ?_)⟩
      · have hn : ¬ (runN ss i ⟨0, 0, cs⟩).q < ss.length := by
          have z := of_decide_eq_true h
          omega
        have er := run_end hn many (by omega)
        rw [← er] at hpG ⊢
        refine ⟨_, rfl, _, rfl, _, rfl, p, _, rfl, .inl ⟨sql_of hpG, fun ct nct => ?_⟩⟩
        have hct : (upd G ct (.tup (intsV (runN ss many ⟨0, 0, cs⟩).cs))) ct = some (.tup (intsV (runN ss many ⟨0, 0, cs⟩).cs)) := upd_same
        refine ⟨by show 3 ≤ sizeLine; decide, fun r nr => ?_⟩
        exact k r ct _ upd_same ((upd_ne (ne_of_none hct nr)).trans hct) ((kG.trans (.new nct)).trans (.new nr))
      have hq : (runN ss i ⟨0, 0, cs⟩).q < ss.length := by
        have z : ¬ ((xs.length : Nat) : Int) ≤ (runN ss i ⟨0, 0, cs⟩).q := fun z => h (decide_eq_true z)
        omega
      have es : stp ss (runN ss i ⟨0, 0, cs⟩) = _ := if_pos hq
      rw [e1, es]
      clear e1 es h
      generalize runN ss i ⟨0, 0, cs⟩ = x at rki hpG hq
      have hlt : x.h < x.cs.length := by rw [rki.l]; exact rki.h
      have ec : x.cs[x.h]? = some (x.cs.getD x.h 0) := by rw [List.getD_eq_getElem?_getD, List.getElem?_eq_getElem hlt]; rfl
      obtain ⟨rs, g1, g2, g3⟩ := rul_ok ho hq (rki.c _ (List.mem_of_getElem? ec))
      generalize hru : rul ss x.q (x.cs.getD x.h 0) = ru at g2 g3 ⊢
      obtain ⟨v1, gv1, pa, ya, rfl, epa, ha⟩ := hs.get g1
      obtain ⟨v2, gv2, pb, rfl, epb⟩ := ha.get g2
      have ecv : (intsV x.cs)[x.h]? = some (.int (x.cs.getD x.h 0 : Nat)) := by
        unfold intsV
        rw [List.getElem?_map, ec]
        rfl
      have ix : ixN (intsV x.cs).length (x.h : Int) = some x.h := by
        unfold ixN
        rw [if_pos (by omega), if_pos (by rw [ints_len]; omega)]
        rfl
      refine ⟨_, rfl, _, rfl, q, xs, _, _, rfl, rfl, sqt_of eqG, atI_nat gv1, _, rfl, _, rfl, p, _, _, _, rfl, rfl, sql_of hpG, atI_nat ecv, pa, ya, _, _, rfl, rfl, sqt_of (kG.tup _ _ epa), atI_nat gv2, ?_⟩
      refine ⟨pb, _, rfl, sqt_of (kG.tup _ _ epb), rfl, _, _, rfl, _, _, rfl, _, rfl, _, rfl, p, _, _, x.h, rfl, rfl, hpG, ix, _, _, rfl, rfl, ?_⟩
      have kp1 : Kp [p] G (upd G p (.lst ((intsV x.cs).set x.h (.int ru.2.1)))) := .put (by simp) hpG (fun _ z => by cases z)
      have eset : (intsV x.cs).set x.h (.int ru.2.1) = intsV (x.cs.set x.h ru.2.1) := by
        unfold intsV
        rw [List.map_set]
      rw [eset] at kp1 ⊢
      have hp1 : (upd G p (.lst (intsV (x.cs.set x.h ru.2.1)))) p = some (.lst (intsV (x.cs.set x.h ru.2.1))) := upd_same
      generalize upd G p (.lst (intsV (x.cs.set x.h ru.2.1))) = G1 at kp1 hp1 ⊢
      refine ⟨_, rfl, _, rfl, _, _, rfl, rfl, _, _, rfl, _, rfl, p, _, rfl, .inl (sql_of hp1), _, _, rfl, rfl, _, _, rfl, ?_⟩
      refine ⟨⟨some (.int (0 + (i : Int))), some (.int ru.2.2), ?_⟩, hp1, kG.trans kp1⟩
      have ecl := clamp_eq x.h ru.2.2 x.cs.length (by omega)
      have el : (((intsV (x.cs.set x.h ru.2.1)).length : Nat) : Int) = (x.cs.length : Nat) := by rw [ints_len, List.length_set]
      show [_, _, _, _, _, _, some (V.int (if ((intsV (x.cs.set x.h ru.2.1)).length : Nat) - (1 : Int) < (if (0 : Int) > (x.h : Int) + ru.2.2 then 0 else (x.h : Int) + ru.2.2) then ((intsV (x.cs.set x.h ru.2.1)).length : Nat) - (1 : Int) else (if (0 : Int) > (x.h : Int) + ru.2.2 then 0 else (x.h : Int) + ru.2.2))), _] = _
      rw [el, ecl]
    · rintro σ G ⟨⟨y3, y7, rfl⟩, hpG, kG⟩
      refine ⟨_, rfl, _, rfl, _, rfl, p, _, rfl, .inl ⟨sql_of hpG, fun ct nct => ?_⟩⟩
      have hct : (upd G ct (.tup (intsV (runN ss many ⟨0, 0, cs⟩).cs))) ct = some (.tup (intsV (runN ss many ⟨0, 0, cs⟩).cs)) := upd_same
      refine ⟨by show 3 ≤ sizeLine; decide, fun r nr => ?_⟩
      exact k r ct _ upd_same ((upd_ne (ne_of_none hct nr)).trans hct) ((kG.trans (.new nct)).trans (.new nr))
end
end Ey
set_option maxHeartbeats 4000000
namespace Ey
open PySem PySem.Spec L2
abbrev sDTags : Stmt := topS 34
abbrev sDTree : Stmt := topS 35
abbrev sMap : Stmt := topS 36
abbrev sLPow : Stmt := topS 37
abbrev sDTape : Stmt := topS 38
abbrev sLCells : Stmt := topS 39
abbrev sLStand : Stmt := topS 40
abbrev sLaw : Stmt := topS 44
theorem glue_one : ∀ (l : List Nat) (a : Array Nat), List.foldl (fun (acc : Array Nat) (p : Str) => acc ++ (Str.ofString "").cps ++ p.cps) a (l.map fun k => st [k]) = a ++ l.toArray
  | [], a => by simp
  | x :: r, a => by
    rw [List.map_cons, List.foldl_cons, glue_one r]
    have e : (Str.ofString "").cps = #[] := by decide +kernel
    rw [e]
    show a ++ #[] ++ #[x] ++ r.toArray = a ++ (x :: r).toArray
    simp
theorem join_st (l : List Nat) : Txt.join "" (l.map fun k => st [k]) = st l := by
  unfold Txt.join Builtin.Str.glued
  cases l with
  | nil => rfl
  | cons x r =>
    have := glue_one r #[x]
    show Str.mk (List.foldl _ #[x] (r.map fun k => st [k])) = st (x :: r)
    rw [this]
    show Str.mk _ = Str.mk _
    congr 1
    simp
theorem cps_len (z : Str) : z.cps.toList.length = z.length := by
  rw [Array.length_toList]
  rfl
structure Frame (ms : List Addr) (d l : Addr) (H : Hp) : Prop where
  dk : DeckAt H d l
  dm : d ∈ ms
  lm : l ∈ ms
  has : Has ms H
theorem Frame.sub {ms : List Addr} {d l : Addr} {H : Hp} (F : Frame ms d l H) : ∀ x ∈ [d, l], x ∈ ms := fun x hx => by
  rcases List.mem_cons.mp hx with rfl | hx
  · exact F.dm
  · rw [List.mem_singleton.mp hx]
    exact F.lm
theorem DeckAt.some_ {d l : Addr} {H : Hp} (D : DeckAt H d l) : ∀ b ∈ [d, l], H b ≠ none := fun b hb => by
  obtain ⟨m, n, ns, h1, h2, _⟩ := D.ex
  rcases List.mem_cons.mp hb with rfl | hb
  · rw [h1]
    exact fun z => nomatch z
  · rw [List.mem_singleton.mp hb, h2]
    exact fun z => nomatch z
theorem Frame.go {ms : List Addr} {d l : Addr} {H H1 : Hp} (F : Frame ms d l H) (k : Kp [d, l] H H1) (D : DeckAt H1 d l) : Frame ms d l H1 := ⟨D, F.dm, F.lm, F.has.kp k D.some_⟩
theorem Frame.kp0 {ms : List Addr} {d l : Addr} {H H1 : Hp} (F : Frame ms d l H) (k : Kp [] H H1) : Frame ms d l H1 := ⟨F.dk.kp k List.not_mem_nil List.not_mem_nil, F.dm, F.lm, F.has.kp k fun b hb => absurd hb List.not_mem_nil⟩
theorem Frame.new {ms : List Addr} {d l p : Addr} {H : Hp} {o : HO} (F : Frame ms d l H) (n : H p = none) : Frame ms d l (upd H p o) := F.kp0 (.new n)
theorem Frame.ne {ms : List Addr} {d l p : Addr} {H : Hp} (F : Frame ms d l H) (n : H p = none) : p ≠ d ∧ p ≠ l :=
  ⟨fun e => F.has d F.dm (e ▸ n), fun e => F.has l F.lm (e ▸ n)⟩
structure LR (K : PySem.W.Frag) (mg : Str → Option Value) (A : Nat → Addr) (D : Nat → FuncData) : Prop where
  B : BI mg
  draw : Df K mg "_law_draw" sDraw ["_law_deck_here", "_law_many"] (A 31) (D 31)
  pick : Df K mg "_law_pick" sPick ["_law_deck_here", "_law_some"] (A 32) (D 32)
def LowS (g : Str) : Prop := isTag g = true
theorem Frame.set {ms : List Addr} {d l F : Addr} {H : Hp} {xs ys : List V} (Fr : Frame ms d l H) (hF : H F = some (.lst xs)) (hd : F ≠ d) (hl : F ≠ l) : Frame ms d l (upd H F (.lst ys)) := by
  have kD : Kp [F] H (upd H F (.lst ys)) := .put (by simp) hF (fun _ z => by cases z)
  refine ⟨Fr.dk.kp kD (by simp [hd.symm]) (by simp [hl.symm]), Fr.dm, Fr.lm, Fr.has.kp kD fun b hb => ?_⟩
  rw [List.mem_singleton.mp hb, upd_same]
  exact fun z => nomatch z
theorem an_strs (ms : List Addr) (H : Hp) : ∀ gs : List Str, AnAll ms H (gs.map V.str) (gs.map PyData.str)
  | [] => .nil
  | g :: r => .cons (.str g) (an_strs ms H r)
theorem flat_all (gs : List Str) : (gs.map V.str).all flatV = true := by
  rw [List.all_map]
  exact List.all_eq_true.mpr fun _ _ => rfl
theorem isTag_st {cs : List Nat} (h1 : 1 ≤ cs.length) (h8 : cs.length ≤ 8) (h : ∀ c ∈ cs, c ∈ (Str.ofString "abcdefghijklmnopqrstuvwxyz").cps.toList) : isTag (st cs) = true := by
  unfold isTag
  rw [st_len, st_list, decide_eq_true h1, decide_eq_true h8, Bool.true_and, Bool.true_and, List.all_eq_true]
  exact fun c hc => decide_eq_true (abc_is ▸ h c hc)
theorem inV_mem (g : Str) (gs : List Str) (h : inV (.str g) (gs.map V.str) = true) : g ∈ gs := by
  rw [inV_strs, List.any_eq_true] at h
  obtain ⟨y, hy, e⟩ := h
  exact of_decide_eq_true e ▸ hy
theorem nodup_snoc {gs : List Str} {y : Str} (h : gs.Nodup) (n : y ∉ gs) : (gs ++ [y]).Nodup := by
  rw [List.nodup_append]
  refine ⟨h, by simp, fun a ha b hb e => n ?_⟩
  rw [List.mem_singleton.mp hb] at e
  exact e ▸ ha
/-- of five texts one is not among two -/
theorem spare_ex {gs : List Str} (h : gs.length ≤ 2) (h1 : ("yes" : Str) ∈ gs) (h2 : ("top" : Str) ∈ gs) (h3 : ("fun" : Str) ∈ gs) : False := by
  have n1 : ("yes" : Str) ≠ "top" := by decide +kernel
  have n2 : ("yes" : Str) ≠ "fun" := by decide +kernel
  have n3 : ("top" : Str) ≠ "fun" := by decide +kernel
  match gs, h, h1, h2, h3 with
  | [], _, h1, _, _ => cases h1
  | [a], _, h1, h2, _ => exact n1 ((List.mem_singleton.mp h1).trans (List.mem_singleton.mp h2).symm)
  | [a, b], _, h1, h2, h3 =>
    simp only [List.mem_cons, List.not_mem_nil, or_false] at h1 h2 h3
    rcases h1 with h1 | h1 <;> rcases h2 with h2 | h2 <;> rcases h3 with h3 | h3
    · exact n1 (h1.trans h2.symm)
    · exact n1 (h1.trans h2.symm)
    · exact n2 (h1.trans h3.symm)
    · exact n3 (h2.trans h3.symm)
    · exact n3 (h2.trans h3.symm)
    · exact n2 (h1.trans h3.symm)
    · exact n1 (h1.trans h2.symm)
    · exact n1 (h1.trans h2.symm)
section
variable {Pr : Program} {w : World} {K : PySem.W.Frag} {mg : Str → Option Value} {base : Heap} {A : Nat → Addr} {D : Nat → FuncData}
def spPickS : Sp := fun vs H Q _ => ∃ (d l : Addr) (g : Str), vs = [.ref d, .str g] ∧ DeckAt H d l ∧ 0 < g.length ∧ g.length ≤ 1000 ∧
  ∀ (c : Nat) (H' : Hp), c ∈ g.cps.toList → DeckAt H' d l → Kp [d, l] H H' → Q (.str (st [c])) H'
theorem ok_pickS (L : LR K mg A D) : FnOk Pr w K mg base CX0 2 (A 32) (D 32) ["_law_deck_here", "_law_some"] spPickS := by
  have B := L.B
  refine L.pick.F.ok scPick (fun vs H Q E h => ?_) (fun cdv A outer s H vs Q E hr h => ?_)
  · obtain ⟨d, l, g, rfl, _⟩ := h
    rfl
  · obtain ⟨d, l, g, rfl, DA, h0, h1, k⟩ := h
    refine ⟨_, pss_one (ps_ret (pe_ix ix_str (pv 1) (pe_call (ok_draw L.draw.F B) hr (by rfl) L.draw.g L.draw.F.kp L.draw.b .nil pass0 (pa_cons (pv 0) (pa_cons (pe_callB call_len_str (by rfl) B.len PySem.boot_len (pa_cons (pv 1) pa_nil)) pa_nil))) (fun _ _ => rfl))), ?_⟩
    have hs : g.length ≤ sizeLine := Nat.le_trans h1 (by decide)
    refine ⟨_, rfl, _, rfl, _, rfl, g, rfl, hs, d, l, _, rfl, DA, by omega, by omega, fun r H' r0 r1 D' kp => ?_⟩
    obtain ⟨i, rfl⟩ : ∃ i : Nat, r = (i : Int) := ⟨r.toNat, by omega⟩
    have hi : i < g.cps.toList.length := by
      rw [cps_len]
      omega
    exact ⟨g, i, g.cps.toList[i], rfl, rfl, hs, atI_nat (List.getElem?_eq_getElem hi), k _ H' (List.getElem_mem hi) D' kp⟩
end
structure LT (K : PySem.W.Frag) (mg : Str → Option Value) (A : Nat → Addr) (D : Nat → FuncData) : Prop extends LR K mg A D where
  dtags : Df K mg "_law_tags" sDTags ["_law_deck_here", "_law_many"] (A 34) (D 34)
section
variable {Pr : Program} {w : World} {K : PySem.W.Frag} {mg : Str → Option Value} {base : Heap} {A : Nat → Addr} {D : Nat → FuncData}
abbrev NDt : List Str := ["_law_deck_here", "_law_many", "_law_found", "_law_turn", "_law_size", "_law_tag", "_law_spare", "_law_letter", "_law_one"]
theorem scDTags : FnScope NDt ["_law_deck_here", "_law_many"] (defScope sDTags) := ⟨rfl, rfl, rfl, by decide +kernel, rfl, by decide +kernel, by decide +kernel⟩
def spDTags : Sp := fun vs H Q _ => ∃ (d l : Addr) (ms : List Addr) (many : Nat), vs = [.ref d, .int many] ∧ many ≤ 3 ∧ Frame ms d l H ∧
  ∀ (t : Addr) (gs : List Str) (H' : Hp), FzT H' t (gs.map V.str) → (∀ g ∈ gs, LowS g) → gs.Nodup → gs.length = many → Frame ms d l H' → Kp [d, l] H H' → Q (.ref t) H'
theorem abc_low : ∀ c ∈ (Str.ofString "abcdefghijklmnopqrstuvwxyz").cps.toList, c < 128 := by decide +kernel
theorem ok_dTags (L : LT K mg A D) : FnOk Pr w K mg base CX0 4 (A 34) (D 34) ["_law_deck_here", "_law_many"] spDTags := by
  have B := L.B
  refine L.dtags.F.ok scDTags (fun vs H Q E h => ?_) (fun cdv Ar outer s H vs Q E hr h => ?_)
  · obtain ⟨d, l, ms, many, rfl, _⟩ := h
    rfl
  · obtain ⟨d, l, ms, many, rfl, hm, Fr, k⟩ := h
    have hr2 := hr.mono (show 2 ≤ 3 by decide)
    have hr1 := hr.mono (show 1 ≤ 3 by decide)
    refine ⟨_, pss_cons (ps_set (i := 2) scDTags.nd rfl (.inr rfl) (pe_lst pa_nil))
      (pss_cons (ps_for PassesOwn.never rfl (pi_range1 (by rfl) B.range (pa_cons (pv 1) pa_nil)) (pg_name (i := 3) scDTags.nd rfl (.inl rfl))
        (pss_cons (ps_set (i := 4) scDTags.nd rfl (.inl rfl) (pe_call (ok_pick L.pick.F B L.draw) hr2 (by rfl) L.pick.g L.pick.F.kp L.pick.b .nil pass0 (pa_cons (pv 0) (pa_cons (pe_lst (pa_cons pe_int (pa_cons pe_int (pa_cons pe_int (pa_cons pe_int (pa_cons pe_int pa_nil)))))) pa_nil))))
        (pss_cons (ps_set (i := 5) scDTags.nd rfl (.inl rfl) (pe_join pe_str (pe_lc (own := [("_law_letter", 7)]) (g := gName 7) (tt := tYes) rfl scDTags.nd (pi_range1 (by rfl) B.range (pa_cons (pv 4) pa_nil)) (blkOk_by (N := NDt) (sc := defScope sDTags) (by decide +kernel)) (fun _ _ _ _ _ => pg_name (i := 7) scDTags.nd rfl (Or.inl rfl)) (fun _ _ _ _ _ => pts_nil)
          (fun _ _ _ _ _ => pe_call (ok_pickS L.toLR) hr2 (by rfl) L.pick.g L.pick.F.kp L.pick.b .nil pass0 (pa_cons (pv 0) (pa_cons pe_str pa_nil))))))
        (pss_cons (ps_setLc (i := 6) (own := [("_law_one", 8)]) (g := gName 8) (by rfl) scDTags.nd rfl rfl (sw_true rfl rfl rfl (by decide +kernel)) (pi_tup (pe_tup (pa_cons (pv 5) (pa_cons pe_str (pa_cons pe_str (pa_cons pe_str (pa_cons pe_str pa_nil))))))) (blkOk_by (N := NDt) (sc := defScope sDTags) (by decide +kernel)) (fun _ _ _ _ _ => pg_name (i := 8) scDTags.nd rfl (Or.inl rfl))
          (fun _ _ _ _ _ => pts_one (pt_cmpR (r := rIn K true) op_notIn_seq (pv 8) (pv 2) (by rfl))) (fun _ _ _ _ _ => pv 8))
        (pss_one (ps_expr (pe_bm PySem.F.plainAttrs_list PySem.F.slot_list_append PySem.F.type_list_append mt_append (pv 2) (pa_cons (pe_ix ix_list (pv 6) pe_int (fun _ _ => rfl)) pa_nil))))))))
      (pss_one (ps_ret (pe_callTy call_tupleF (by rfl) B.tuple (by decide +kernel) (pa_cons (pv 2) pa_nil))))), ?_⟩
    refine ⟨Nat.zero_le _, fun F nF => ?_⟩
    have fF := Fr.has.fresh nF
    have hFd : F ≠ d := fun e => fF (e ▸ Fr.dm)
    have hFl : F ≠ l := fun e => fF (e ▸ Fr.lm)
    refine ⟨_, rfl, many, rfl, by omega, by omega, ?_⟩
    rw [Int.toNat_natCast]
    refine for_range (lo := 0) (n := many) (fun i σ H' => (∃ y3 y4 y5 y6, σ = [some (.ref d), some (.int many), some (.ref F), y3, y4, y5, y6, none, none]) ∧ (∃ gs : List Str, H' F = some (.lst (gs.map V.str)) ∧ (∀ g ∈ gs, LowS g) ∧ gs.Nodup ∧ gs.length = i) ∧ Frame ms d l H' ∧ Kp [d, l] H H')
      ⟨⟨_, _, _, _, rfl⟩, ⟨[], upd_same, by simp, .nil, rfl⟩, Fr.new nF, .new nF⟩ ?_ ?_
    · rintro i σ H1 hi ⟨⟨y3, y4, y5, y6, rfl⟩, ⟨gs, hF, hlow, hnd, hlen⟩, F1, k1⟩
      refine ⟨_, rfl, by show 5 ≤ sizeLine; decide, fun p np => ?_⟩
      have nn := F1.ne np
      have F2 := F1.new (o := .lst [.int 1, .int 2, .int 1, .int 8, .int 4]) np
      refine ⟨d, l, p, _, rfl, F2.dk, sql_of upd_same, by simp, by show 5 ≤ 1000000; decide, nn.1, nn.2, fun u H3 hu D3 k3 => ?_⟩
      have F3 := F2.go k3 D3
      have k13 : Kp [d, l] H1 H3 := (Kp.new np).trans k3
      obtain ⟨z, rfl, hz1, hz⟩ : ∃ z : Nat, u = .int z ∧ 1 ≤ z ∧ z ≤ 8 := by
        simp only [List.mem_cons, List.not_mem_nil, or_false] at hu
        rcases hu with rfl | rfl | rfl | rfl | rfl
        · exact ⟨1, rfl, by decide, by decide⟩
        · exact ⟨2, rfl, by decide, by decide⟩
        · exact ⟨1, rfl, by decide, by decide⟩
        · exact ⟨8, rfl, by decide, by decide⟩
        · exact ⟨4, rfl, by decide, by decide⟩
      have hF3 : H3 F = some (.lst (gs.map V.str)) := k13.at_ _ _ hF (by simp [hFd, hFl])
      have k03 := k1.trans k13
      -- the tag
      refine ⟨⟨_, rfl⟩, _, rfl, (z : Int), rfl, by omega, by omega, ?_⟩
      rw [Int.toNat_natCast]
      intro Dl nD
      have fD := F3.has.fresh nD
      have hDd : Dl ≠ d := fun e => fD (e ▸ F3.dm)
      have hDl : Dl ≠ l := fun e => fD (e ▸ F3.lm)
      refine lc_range (lo := 0) (n := z) (fun j H4 => (∃ cs : List Nat, H4 Dl = some (.lst ((cs.map fun k => st [k]).map V.str)) ∧ (∀ c ∈ cs, c ∈ (Str.ofString "abcdefghijklmnopqrstuvwxyz").cps.toList) ∧ cs.length = j) ∧ Frame ms d l H4 ∧ Kp [d, l] H3 H4)
        ⟨⟨[], upd_same, by simp, rfl⟩, F3.new nD, .new nD⟩ ?_ ?_
      · rintro j H4 hj ⟨⟨cs, hD, hcs, hl⟩, F4, k4⟩
        refine ⟨rfl, _, rfl, d, l, _, rfl, F4.dk, by decide +kernel, by decide +kernel, fun c H5 hc D5 k5 => ?_⟩
        have hD5 := k5.at_ _ _ hD (by simp [hDd, hDl])
        refine ⟨_, hD5, ?_, ⟨cs ++ [c], ?_, ?_, ?_⟩, (F4.go k5 D5).set hD5 hDd hDl, (k4.trans k5).own nD⟩
        · rw [List.length_map, List.length_map, hl]
          exact Nat.lt_of_lt_of_le hj (Nat.le_trans hz (by decide))
        · rw [upd_same, List.map_append, List.map_append]
          rfl
        · intro x hx
          rcases List.mem_append.mp hx with hx | hx
          · exact hcs x hx
          · rw [List.mem_singleton.mp hx]
            exact hc
        · rw [List.length_append, hl]
          rfl
      rintro H4 ⟨⟨cs, hD, hcs, hl⟩, F4, k4⟩
      have es : ((cs.map fun k => st [k]).map fun x => x.length).sum = cs.length := by
        rw [List.map_map]
        clear hD hcs hl
        induction cs with
        | nil => rfl
        | cons c r ih =>
          rw [List.map_cons, List.sum_cons, ih, List.length_cons]
          show 1 + r.length = r.length + 1
          omega
      have e0 : (Str.ofString "").length = 0 := by decide +kernel
      refine ⟨_, Dl, _, rfl, rfl, .inl (sql_of hD), ?_, ?_⟩
      · rw [es, e0]
        omega
      rw [join_st]
      have hg : LowS (st cs) := isTag_st (by omega) (by omega) hcs
      clear hD
      generalize st cs = g at hg
      have hF4 : H4 F = some (.lst (gs.map V.str)) := k4.at_ _ _ hF3 (by simp [hFd, hFl])
      have k04 := k03.trans k4
      -- those to spare
      refine ⟨_, rfl, by show 5 ≤ sizeLine; decide, fun q nq => ⟨q, rfl, ⟨_, sqt_of upd_same⟩, ?_⟩⟩
      have kq : Kp [d, l] H (upd H4 q (.tup [.str g, .str "yes", .str "top", .str "fun", .str "zz"])) := k04.trans (.new nq)
      have F5 := F4.new (o := .tup [.str g, .str "yes", .str "top", .str "fun", .str "zz"]) nq
      have eq5 : (upd H4 q (.tup [.str g, .str "yes", .str "top", .str "fun", .str "zz"])) q = some (.tup [.str g, .str "yes", .str "top", .str "fun", .str "zz"]) := upd_same
      have hF5 : (upd H4 q (.tup [.str g, .str "yes", .str "top", .str "fun", .str "zz"])) F = some (.lst (gs.map V.str)) := (Kp.new (ms := []) nq).at_ _ _ hF4 List.not_mem_nil
      generalize upd H4 q (.tup [.str g, .str "yes", .str "top", .str "fun", .str "zz"]) = H5 at kq F5 eq5 hF5
      intro D2 nD2
      have ewl : ([.str g, .str "yes", .str "top", .str "fun", .str "zz"] : List V) = ([g, "yes", "top", "fun", "zz"] : List Str).map V.str := rfl
      have hwl : ∀ x ∈ ([g, "yes", "top", "fun", "zz"] : List Str), LowS x := by
        intro x hx
        simp only [List.mem_cons, List.not_mem_nil, or_false] at hx
        rcases hx with rfl | rfl | rfl | rfl | rfl
        · exact hg
        · exact (show isTag "yes" = true by decide +kernel)
        · exact (show isTag "top" = true by decide +kernel)
        · exact (show isTag "fun" = true by decide +kernel)
        · exact (show isTag "zz" = true by decide +kernel)
      refine lc_tup (K := K) (a := q) (xs := [.str g, .str "yes", .str "top", .str "fun", .str "zz"]) (fun j H6 => (∃ us : List Str, H6 D2 = some (.lst (us.map V.str)) ∧ (∀ x ∈ us, LowS x ∧ x ∉ gs) ∧ us.length ≤ j ∧ (us = [] → ∀ x ∈ ([g, "yes", "top", "fun", "zz"] : List Str).take j, x ∈ gs)) ∧ Kp [] H5 H6)
        ⟨⟨[], upd_same, by simp, Nat.le_refl _, fun _ x hx => by cases hx⟩, .new nD2⟩ (fun j H6 _ h => sqt_of (h.2.tup _ _ eq5)) ?_ ?_
      · rintro j x H6 hx ⟨⟨us, hD, hus, hlu, hall⟩, k6⟩
        rw [ewl, List.getElem?_map] at hx
        obtain ⟨y, hy, rfl⟩ := Option.map_eq_some_iff.mp hx
        have hyw := hwl y (List.mem_of_getElem? hy)
        have hj5 : j < 5 := (List.getElem?_eq_some_iff.mp hy).1
        refine ⟨rfl, _, rfl, _, rfl, F, _, rfl, .inl (sql_of (k6.at_ _ _ hF5 List.not_mem_nil)), rfl, flat_all gs, _, rfl, ?_⟩
        cases hin : inV (.str y) (gs.map V.str) with
        | true =>
          refine iteF ⟨⟨us, hD, hus, Nat.le_succ_of_le hlu, fun e x hx => ?_⟩, k6⟩
          rw [List.take_add_one, hy] at hx
          rcases List.mem_append.mp hx with hx | hx
          · exact hall e x hx
          · have : x = y := by simpa using hx
            rw [this]
            exact inV_mem y gs hin
        | false =>
          refine iteT ⟨_, rfl, _, hD, ?_, ⟨us ++ [y], ?_, ?_, ?_, fun e => ?_⟩, k6.own nD2⟩
          · rw [List.length_map]
            exact Nat.lt_of_le_of_lt (show us.length ≤ 1000000 by omega) (by decide)
          · rw [upd_same, List.map_append]
            rfl
          · intro x hx
            rcases List.mem_append.mp hx with hx | hx
            · exact hus x hx
            · rw [List.mem_singleton.mp hx]
              exact ⟨hyw, fun hm => by
                rw [inV_strs] at hin
                exact Bool.false_ne_true (hin.symm.trans (List.any_eq_true.mpr ⟨y, hm, decide_eq_true rfl⟩))⟩
          · rw [List.length_append]
            exact Nat.succ_le_succ hlu
          · cases us <;> cases e
      rintro H6 ⟨⟨us, hD, hus, hlu, hall⟩, k6⟩
      obtain ⟨y, r, rfl⟩ : ∃ y r, us = y :: r := by
        cases us with
        | cons y r => exact ⟨y, r, rfl⟩
        | nil =>
          have hq := hall rfl
          exact (spare_ex (gs := gs) (by omega) (hq _ (by simp)) (hq _ (by simp)) (hq _ (by simp))).elim
      have hF6 := k6.at_ _ _ hF5 List.not_mem_nil
      refine ⟨_, rfl, .inl ⟨rfl, _, sql_of hF6⟩, _, rfl, D2, _, _, _, rfl, rfl, sql_of hD, atI_nat (j := 0) rfl, F, _, _, rfl, rfl, hF6, ?_, ?_⟩
      · rw [List.length_map]
        exact Nat.lt_of_le_of_lt (show gs.length ≤ 1000000 by omega) (by decide)
      refine ⟨⟨_, _, _, _, rfl⟩, ⟨gs ++ [y], ?_, ?_, nodup_snoc hnd (hus y (by simp)).2, ?_⟩, (F5.kp0 k6).set hF6 hFd hFl, (kq.trans (k6.more (by simp))).own nF⟩
      · rw [upd_same, List.map_append]
        rfl
      · intro x hx
        rcases List.mem_append.mp hx with hx | hx
        · exact hlow x hx
        · rw [List.mem_singleton.mp hx]
          exact (hus y List.mem_cons_self).1
      · rw [List.length_append, hlen]
        rfl
    · rintro σ H1 ⟨⟨y3, y4, y5, y6, rfl⟩, ⟨gs, hF, hlow, hnd, hlen⟩, F1, k1⟩
      exact ⟨_, rfl, F, _, rfl, sql_of hF, fun t H2 nt k2 f2 => k t gs _ f2 hlow hnd hlen (F1.kp0 k2) (k1.trans (k2.more (by simp)))⟩
end
end Ey
set_option maxHeartbeats 4000000
namespace Ey
open PySem PySem.Spec L2
theorem Kp.sqt {K : PySem.W.Frag} {ms : List Addr} {H H1 : Hp} {a : Addr} {xs : List V} (k : Kp ms H H1) (n : a ∉ ms) (h : SqT K H a xs) : SqT K H1 a xs := by
  rcases h with (h | ⟨o, h⟩) | h
  · exact .inl (.inl (k.tup _ _ h))
  · exact .inl (.inr ⟨o, k.at_ _ _ h n⟩)
  · exact .inr h
section
variable {Pr : Program} {w : World} {K : PySem.W.Frag} {mg : Str → Option Value} {base : Heap} {A : Nat → Addr} {D : Nat → FuncData}
abbrev NLp : List Str := ["_law_base", "_law_many", "_law_found", "_law_turn"]
theorem scLPow : FnScope NLp ["_law_base", "_law_many"] (defScope sLPow) := ⟨rfl, rfl, rfl, by decide +kernel, rfl, by decide +kernel, by decide +kernel⟩
def spLPow : Sp := fun vs H Q _ => ∃ (b e : Nat), vs = [.int b, .int e] ∧ 0 < b ∧ b ≤ 1000 ∧ e ≤ 16 ∧ b ^ e ≤ 10000 ∧ Q (.int ((b ^ e : Nat) : Int)) H
theorem ok_lPow {f : Addr} {fd : FuncData} (F : Fun K "_law_power" "_law_power" sLPow f fd) (B : BI mg) : FnOk Pr w K mg base CX0 1 f fd ["_law_base", "_law_many"] spLPow := by
  refine F.ok scLPow (fun vs H Q E h => ?_) (fun cdv Ar outer s H vs Q E hr h => ?_)
  · obtain ⟨b, e, rfl, _⟩ := h
    rfl
  · obtain ⟨b, e, rfl, hb0, hb, he, hN, q⟩ := h
    refine ⟨_, pss_cons (ps_set (i := 2) scLPow.nd rfl (.inl rfl) pe_int)
      (pss_cons (ps_for PassesOwn.never rfl (pi_range1 (by rfl) B.range (pa_cons (pv 1) pa_nil)) (pg_name (i := 3) scLPow.nd rfl (.inl rfl))
        (pss_one (ps_set (i := 2) scLPow.nd rfl (.inl rfl) (pe_op op_mul (pv 2) (pv 0)))))
      (pss_one (ps_ret (pv 2)))), ?_⟩
    refine ⟨_, rfl, (e : Int), rfl, by omega, by omega, ?_⟩
    rw [Int.toNat_natCast]
    refine for_range (lo := 0) (n := e) (fun i σ G => G = H ∧ ∃ y : Option V, σ = [some (.int b), some (.int e), some (.int ((b ^ i : Nat) : Int)), y]) ⟨rfl, _, rfl⟩ ?_ ?_
    · rintro i σ G hi ⟨rfl, y, rfl⟩
      have le : b ^ i ≤ b ^ e := Nat.pow_le_pow_right hb0 (by omega)
      refine ⟨_, rfl, _, rfl, _, _, rfl, rfl, .inl (by constructor <;> omega), rfl, some (.int (0 + (i : Int))), ?_⟩
      show [_, _, some (V.int (((b ^ i : Nat) : Int) * (b : Int))), _] = _
      rw [← Int.natCast_mul, ← Nat.pow_succ]
    · rintro σ G ⟨rfl, y, rfl⟩
      exact ⟨_, rfl, q⟩
end
end Ey
set_option maxHeartbeats 4000000
namespace Ey
open PySem PySem.AutoSeq1
theorem extend_tuple (l : Addr) (items : Array Value) (n : Nat) (b : Addr) (items2 : Array Value) (n2 : Nat) (dd : Option Addr) (sl : Array (Option Value)) (hs0 : ¬(!items.isEmpty && Builtin.List.listTooLong (items.size + items2.size)) = true) (hs1 : items.size ≤ sizeLine) (hs2 : items.size + items2.size ≤ sizeLine + 1) :
    Meets (Builtin.«list.extend» ⟨[.ref l, .ref b], []⟩) (fun _ R s => s.heap.get? l = some { cls := .type "list", dict := none, data := .seq items n, slots := #[] } ∧ s.heap.get? b = some { cls := .type "tuple", dict := dd, data := .seq items2 n2, slots := sl } ∧ R (.ok (.ret Value.none)) { s with heap := s.heap.update l (Obj.mapSeq fun x => x ++ items2), toks := s.toks }) :=
  .of_wp fun prog w A R s h => by
    obtain ⟨hp, g, d, tk, os⟩ := s; obtain ⟨hl, hb, h⟩ := h; have f1 := idx_int; have f2 := sub_tuple_tuple; have f3 := sub_list_list; have f4 := sub_tuple_list; have f5 := sub_list_tuple;
    have hz' : (items ++ items2).size ≤ sizeLine + 1 := by rw [Array.size_append]; exact hs2
    wp_walk using (wpAny_updateSeq hl rfl (hz := hs1) (_hz' := hz')), wpAny_loadPart' hl, wpAny_loadPart' hb; exact ⟨_, rfl, h⟩
end Ey
namespace Ey
open PySem PySem.Spec PyProof.Rows L2
section
variable {X : Cx}
def rExtendT : V → List V → Hp → VK → Prop := fun x vs H Q => ∃ l b xs zs, x = .ref l ∧ vs = [.ref b] ∧ H l = some (.lst xs) ∧ H b = some (.tup zs) ∧ xs.length + zs.length ≤ sizeLine ∧ Q .non (upd H l (.lst (xs ++ zs)))
theorem mt_extendT : MtM X "list.extend" rExtendT := by
  intro pins s σ H x vs v us Q I rx rv h
  obtain ⟨l, b, xs, zs, rfl, rfl, hH, hB, hz, q⟩ := h
  cases rx
  obtain ⟨u, rfl, ru⟩ := rv.one
  cases ru
  obtain ⟨z, its, n, r, hl, e⟩ := I.lstM hH
  obtain ⟨_, its2, r2, ⟨cls, dd, data, sl⟩, e2, hc, n2, hd⟩ := (show ObjOk X.prog X.w H s.heap b (.tup zs) from I.hok b _ hB)
  simp only at hc hd
  subst hc hd
  have hl2 := r2.length
  have hsz : its.toArray.size + its2.toArray.size ≤ sizeLine := by rw [List.size_toArray, List.size_toArray]; omega
  have hlong : ¬ (!its.toArray.isEmpty && Builtin.List.listTooLong (its.toArray.size + its2.toArray.size)) = true := by
    rw [notLongL hsz, Bool.and_false]
    exact Bool.false_ne_true
  refine call_meets PySem.F.slot_list_extend ⟨_, e, rfl⟩ PySem.F.entry_list_extend (PySem.F.args_list_extend_2 _ _)
    (extend_tuple l its.toArray n b its2.toArray n2 dd sl hlong (by rw [List.size_toArray]; omega) (by omega)) ⟨e, e2, ?_⟩
  refine ⟨.non, _, I.lset (its' := its ++ its2) hH e (by simp) (r.append r2) ?_, rfl, q⟩
  rw [List.length_append]
  omega
end
end Ey
set_option maxHeartbeats 4000000
namespace Ey
open PySem PySem.Spec L2 PyProof.Rows
open Sem (wp)
theorem meets_enumerate_newT {v : Value} {o : Obj} {H : Heap → Prop} (B : Begins v o H) :
    Meets (Builtin.«enumerate.__new__» ⟨[.type "enumerate", v], []⟩) (fun _ R s => H s.heap ∧
      R (.ok (.ret (.ref (s.heap.push o).objs.size))) { s with heap := (s.heap.push o).push { cls := .type "enumerate", data := .fields #[.none, .bool false, .ref s.heap.objs.size, rawInt 0, .none, .none] } }) :=
  .of_wp fun prog w A R s h => by
    obtain ⟨hp, g, d, tk, os⟩ := s; obtain ⟨h1, h⟩ := h
    have hsub := sub_enumerate
    have q1 : ∀ {A' : Around} {E : Value → Shared → Prop} {Q : Value → Shared → Prop}, Q (.ref hp.objs.size) ⟨hp.push o, g, d, tk, os⟩ → wpAny (model prog w) A' (pyIter v) Q E ⟨hp, g, d, tk, os⟩ :=
      fun q => B.iter prog w _ _ ⟨hp, g, d, tk, os⟩ _ h1 q
    wp_walk using q1
    refine wpAny_stack_any fun st => wpAny_pure ?_
    split
    · rename_i c _ _ _ _ _
      cases (c == Value.type "enumerate")
      · wp_walk using q1
        exact ⟨_, rfl, h⟩
      · wp_walk using q1
        exact ⟨_, rfl, h⟩
    · wp_walk using q1
      exact ⟨_, rfl, h⟩
section
variable {prog : Program} {w : World} {A : Around} {E : Value → Shared → Prop} {s : Shared}
theorem enum_begins1 {v : Value} {o : Obj} {H : Heap → Prop} {Q : Value → Shared → Prop} (B : Begins v o H) (h1 : H s.heap)
    (h : ∀ h', IsEnum h' (s.heap.objs.size + 1) s.heap.objs.size 0 .none → h'.get? s.heap.objs.size = some o → h'.objs.size = s.heap.objs.size + 2 →
      (∀ b o, s.heap.get? b = some o → h'.get? b = some o) → Q (.ref (s.heap.objs.size + 1)) { s with heap := h' }) :
    wpAny (model prog w) A (call (.type "enumerate") [v]) Q E s := by
  refine callType_new F.called_enumerate (by decide) (F.typeCall_enumerate_1 _) (F.newCall_enumerate_1 _) (fun obj => F.args_object_init_2 obj _) F.entry_enumerate_new
    (meets_enumerate_newT B) ⟨h1, ?_⟩
  have hz : (s.heap.push o).objs.size = s.heap.objs.size + 1 := Heap.size_push ..
  show _ ∧ _
  rw [hz]
  have he : IsEnum ((s.heap.push o).push { cls := .type "enumerate", data := .fields #[.none, .bool false, .ref s.heap.objs.size, rawInt 0, .none, .none] }) (s.heap.objs.size + 1) s.heap.objs.size 0 .none := by
    have := Heap.get?_push_size (s.heap.push o) (o := { cls := .type "enumerate", data := .fields #[.none, .bool false, .ref s.heap.objs.size, rawInt 0, .none, .none] }) rfl
    rw [hz] at this; exact this
  refine ⟨⟨_, he, rfl⟩, h _ he (Heap.get?_push_of_some _ (Heap.get?_push_size _ B.free)) (by rw [Heap.size_push, hz]) fun b o x => Heap.get?_push_of_some _ (Heap.get?_push_of_some _ x)⟩
end
section
variable {prog : Program} {w : World} {A : Around} {E : Value → Shared → Prop} {s : Shared}
theorem enum_endT {e it t : Addr} {items : Array Value} {j : Nat} {i : Int} {old : Value} {Q : Option Value → Shared → Prop} (hh : A.handled = none)
    (he : IsEnum s.heap e it i old) (hit : s.heap.IsTupleIter it t j) (ht : s.heap.IsTuple t items) (hx : items[j]? = none)
    (hQ : ∀ h', Heap.ExtBut it s.heap h' → Q none { s with heap := h' }) : wpAny (model prog w) A (pyNext (.ref e)) Q E s := by
  have hT : s.TypeIs (.ref e) "enumerate" := ⟨_, he, rfl⟩
  unfold pyNext
  refine wpAny_bind (wpAny_attempt (wpAny_callSpecial?_slot (name := Str.ofString "__next__") hT F.slot_enumerate_next
    (wpAny_call_entry F.slot_enumerate_next hT F.entry_enumerate_next ?_ (F.args_enumerate_next_1 _))))
  show wpAny _ _ (field (.ref e) 2 >>= _) _ _ _
  refine wpAny_bind (wpAny_field he rfl (x := .ref it) rfl ?_)
  refine wpAny_bind (wpAny_nextOf_tuple_end hh hit ht hx fun h' x he' hx' => ?_)
  obtain ⟨o, ho, hc⟩ := hx'
  refine wpAny_bind (wpAny_isInstance (T := "StopIteration") (b := true) ⟨o, ho, hc⟩ isSubtype_stop ?_)
  exact wpAny_pure (hQ _ he')
end
/-- the tuple at a, each item in a new pair -/
def Itet (K : PySem.W.Frag) (a : Addr) : It :=
  ⟨fun i H => ∃ (xs : List V) (x : V), SqT K H a xs ∧ xs[i]? = some x, fun i H v H' => ∃ T x, v = .ref T ∧ H T = none ∧ H' = upd H T (.tup [.int (i : Nat), x]) ∧ ∀ xs, SqT K H a xs → xs[i]? = some x, fun i H => ∃ xs : List V, SqT K H a xs ∧ xs.length ≤ i⟩
theorem turn_enumT {P : Program} {w : World} {K : PySem.W.Frag} {elts : List Expr} {kk : Nat} {tpos : Pos} (a e it : Addr) :
    Turn P w K (.Tuple elts kk tpos) (Itet K a) [e, it] e (fun i h => (∃ old, IsEnum h e it ((i : Nat) : Int) old) ∧ h.IsTupleIter it a i ∧ e ≠ it) where
  mem := by simp
  obj := fun i h st b hb => by
    obtain ⟨⟨old, he⟩, ⟨o, ho, hc, hd⟩, _⟩ := st
    have e' : b = e ∨ b = it := by simpa using hb
    rcases e' with z | z
    · rw [z]; exact ⟨_, he, fun v q => nomatch q⟩
    · rw [z]; exact ⟨o, ho, fun v q => by rw [hd] at q; cases q⟩
  keep := fun i h h' st k => let ⟨⟨old, he⟩, hi, hne⟩ := st; ⟨⟨old, k e (by simp) _ he⟩, hi.at fun o q => k it (by simp) o q, hne⟩
  item := by
    intro X hP hw hK hc i pins s σ H E I hf st hg
    subst hP hw hK
    obtain ⟨⟨old, he⟩, hit, hne⟩ := st
    obtain ⟨xs, x, hq, hx⟩ := hg
    obtain ⟨its, rv, p, hz⟩ := I.tuple hq
    obtain ⟨u, hu, ru⟩ := rv.get hx
    have hel : e < s.heap.objs.size := Heap.lt_size he
    have hil : it < s.heap.objs.size := by obtain ⟨_, q, _⟩ := hit; exact Heap.lt_size q
    have hai : a ≠ it := by
      intro z
      subst z
      obtain ⟨o, q, c, _⟩ := hit
      obtain ⟨o2, q2, c2, _⟩ := (show s.heap.IsTuple a its.toArray from p)
      rw [q] at q2
      cases q2
      rw [c] at c2
      injection c2 with c3
      exact absurd c3 (by decide)
    have hae : a ≠ e := by
      intro z
      subst z
      obtain ⟨o2, q2, c2, _⟩ := (show s.heap.IsTuple a its.toArray from p)
      rw [he] at q2
      cases q2
      injection c2 with c3
      exact absurd c3 (by decide)
    have D := Draws.tuple (prog := X.prog) (w := X.w) (A := X.A.in1) (I.ok.hd hc) it a hai its.toArray
    have hlt : i < its.toArray.size := by
      have := (List.getElem?_eq_some_iff.mp hu).1
      simpa using this
    refine wpAny_pyNext_enum_itemD D he ⟨hit, p⟩ hlt hne (by simp [hne, hae.symm]) fun u' h' tk hP ho hst hT hsz hk => ?_
    have eu : u' = u := by
      have q1 : its.toArray[i]? = some u' := hP
      have q2 : its.toArray[i]? = some u := by simpa using hu
      rw [q1] at q2
      exact Option.some.inj q2
    subst eu
    have hit' := hst.1
    refine ⟨_, rfl, wpAny_letOwnedTupleGo_enum (s := { s with heap := h', toks := tk + 1 }) ho fun h'' he' sb => ?_⟩
    have hT2 : h''.get? s.heap.objs.size = some { cls := .type "tuple", data := .seq #[.int i tk, u'] } := (sb.2 _ (Nat.ne_of_gt hel)).trans hT
    have new : ObjOk X.prog X.w (upd H s.heap.objs.size (.tup [.int (i : Nat), x])) h'' s.heap.objs.size (.tup [.int (i : Nat), x]) :=
      ⟨by show 2 ≤ sizeLine; decide, [.int i tk, u'], .cons ⟨_, rfl⟩ (.cons ru .nil), ⟨_, hT2, rfl, _, rfl⟩⟩
    have I1 : Inv X pins σ (upd H s.heap.objs.size (.tup [.int (i : Nat), x])) { s with heap := h'', toks := tk + 1 } :=
      I.turnedNew (ch := [e, it]) (fun b ob hb q => (sb.2 b (fun z => hb (by simp [z]))).trans (hk b ob (fun z => hb (by simp [z])) (fun z => hb (by simp [z])) q)) hf (Nat.le_refl _) new
    refine ⟨.ref s.heap.objs.size, _, I1, rfl, ⟨_, x, rfl, I.hok.fresh (Nat.le_refl _), rfl, fun ys hy => by rw [I.tuple_inj hy hq]; exact hx⟩, ⟨⟨u', ?_⟩, hit'.at fun o q => (sb.2 it (Ne.symm hne)).trans q, hne⟩, fun b hb => ?_⟩
    · have e1 : ((i + 1 : Nat) : Int) = (i : Int) + 1 := by omega
      rw [e1]; exact he'
    · have hb' : b < s.heap.objs.size := by
        have e' : b = e ∨ b = it := by simpa using hb
        rcases e' with z | z
        · rw [z]; exact hel
        · rw [z]; exact hil
      rw [upd_ne (Nat.ne_of_lt hb')]
      exact (hf b hb).1
  done := by
    intro X hP hw hK hc i pins s σ H E I hf st hg
    subst hP hw hK
    obtain ⟨⟨old, he⟩, hit, hne⟩ := st
    obtain ⟨xs, hq, hx⟩ := hg
    obtain ⟨its, rv, p, hz⟩ := I.tuple hq
    obtain ⟨f0, f1, f2, f3, f4, f5⟩ := hf it (by simp)
    have hl := rv.length
    exact enum_endT (I.ok.hd hc) he hit p (by simp; omega) fun h' eb => ⟨rfl, I.turned (t' := s.toks) (fun b o hb q => eb b o hb q) f0 f1 f3 f4 f5⟩
  self := fun A i s Q E st h => let ⟨⟨_, he⟩, _⟩ := st; wpAny_pyIter_enum he h
def iEnumT (K : PySem.W.Frag) (ta : TA) : TI := fun σ H R => ta σ H fun vs H1 => ∃ a xs, vs = [.ref a] ∧ SqT K H1 a xs ∧ R (Itet K a) H1
theorem pi_enumT {X : Cx} {e : Expr} {ta : TA} {p pos tpos : Pos} {elts : List Expr} {kk : Nat} (hg : Gl X "enumerate") (hm : X.mg "enumerate" = none) (ha : PA X [e] ta) (hs : starEach [e] X.env = [(false, eval e X.env)] := by rfl) :
    PI X (.Tuple elts kk tpos) (.Call (.Name "enumerate" p) [e] [] pos) (iEnumT X.K ta) := by
  refine ⟨fun pins s σ H R I h => ?_⟩
  refine Call_ (ld_blt I hg hm boot_enumerate (PyProof.Rows.callWith_type1 (thn (ha.run pos pins s σ H _ I h) fun us s1 ⟨vs, H1, I1, r1, q1⟩ => ?_) hs rfl))
  obtain ⟨a, xs, ex, hq, q⟩ := q1
  subst ex
  cases r1 with
  | cons r rr =>
    cases rr
    cases r
    obtain ⟨its, rv, p', hz⟩ := I1.tuple hq
    refine enum_begins1 (begins_tuple a its.toArray) p' fun h' he hit hsz hk => wpAny_pyIter_enum he ?_
    have I2 : Inv X pins σ H1 { s1 with heap := h' } := I1.kept (t' := s1.toks) hk
    refine ⟨s1.heap.objs.size + 1, [s1.heap.objs.size + 1, s1.heap.objs.size], _, _, H1, rfl, I2, turn_enumT a (s1.heap.objs.size + 1) s1.heap.objs.size, ⟨⟨.none, he⟩, ⟨_, hit, rfl, rfl⟩, Nat.succ_ne_self _⟩, fun b hb => ?_, q⟩
    have e' : b = s1.heap.objs.size + 1 ∨ b = s1.heap.objs.size := by simpa using hb
    have hle : s1.heap.objs.size ≤ b := by
      rcases e' with z | z
      · rw [z]; exact Nat.le_add_right _ _
      · rw [z]; exact Nat.le_refl _
    exact I1.fpOk hle (I1.hok.fresh hle)
end Ey
set_option maxHeartbeats 4000000
namespace Ey
open PySem PySem.Spec PyProof.Rows L2 PySem.SeqAt
section
variable {X : Cx}
/-- t != (), t any tuple -/
def rNeE : R2 := fun x y H Q => ∃ a b xs, x = .ref a ∧ y = .ref b ∧ H a = some (.tup xs) ∧ H b = some (.tup []) ∧ Q (.bl (!xs.isEmpty)) H
theorem op_neE (hu : X.A.units + 64 < cLine) : OpR X (compareOp .NotEq) rNeE := by
  intro pins s σ H x y v u Q I rx ry h
  obtain ⟨a, b, xs, rfl, rfl, h1, h2, q⟩ := h
  cases rx
  cases ry
  obtain ⟨its, r, p⟩ := tup_obj I h1
  obtain ⟨its2, r2, p2⟩ := tup_obj I h2
  cases r2
  refine RcNeAt.tuples (e := fun _ => true) p p2 (by omega) (fun j h1 h2 => absurd h2 (by simp)) _ _ _ _ ⟨.bl (!xs.isEmpty), H, I, ?_, q⟩
  cases r with
  | nil => rfl
  | cons _ _ => rfl
/-- xs != [], xs any list -/
def rNeEL : R2 := fun x y H Q => ∃ a b xs, x = .ref a ∧ y = .ref b ∧ H a = some (.lst xs) ∧ H b = some (.lst []) ∧ Q (.bl (!xs.isEmpty)) H
theorem op_neEL (hu : X.A.units + 64 < cLine) : OpR X (compareOp .NotEq) rNeEL := by
  intro pins s σ H x y v u Q I rx ry h
  obtain ⟨a, b, xs, rfl, rfl, h1, h2, q⟩ := h
  cases rx
  cases ry
  obtain ⟨its, r, p⟩ := lst_obj I h1
  obtain ⟨its2, r2, p2⟩ := lst_obj I h2
  cases r2
  cases r with
  | nil => exact RcNeAt.lists (e := fun _ => true) p p2 rfl (by omega) (fun j h1 h2 => absurd h2 (by simp)) _ _ _ _ ⟨.bl false, H, I, rfl, q⟩
  | cons _ _ => exact RcNeAt.lists_lengths p p2 (by simp) (by omega) _ _ _ _ ⟨.bl true, H, I, rfl, q⟩
end
end Ey
set_option maxHeartbeats 4000000
namespace Ey
open PySem PySem.Spec L2
/-- the tag of a part, as the law has it -/
def tagV : Tr → V
  | .nil => .non
  | .nd g _ _ => .str g
def mapK (qs : List (List Nat × Tr)) : List (Key × V) := qs.map fun x => (.inr (st x.1), tagV x.2)
theorem map_no {qs : List (List Nat × Tr)} {p : List Nat} (n : p ∉ qs.map (·.1)) : valV (mapK qs) (.inr (st p)) = none := by
  induction qs with
  | nil => rfl
  | cons x r ih =>
    rw [List.map_cons, List.mem_cons, not_or] at n
    exact (valV_neg (fun e => n.1 (st_inj (Sum.inr.inj e)).symm)).trans (ih n.2)
theorem map_get {qs : List (List Nat × Tr)} (nd : (qs.map (·.1)).Nodup) {x : List Nat × Tr} (h : x ∈ qs) : valV (mapK qs) (.inr (st x.1)) = some (tagV x.2) := by
  induction qs with
  | nil => cases h
  | cons y r ih =>
    rw [List.map_cons, List.nodup_cons] at nd
    rcases List.mem_cons.mp h with rfl | h
    · exact valV_pos rfl
    · refine (valV_neg (fun e => nd.1 ?_)).trans (ih nd.2 h)
      rw [st_inj (Sum.inr.inj e)]
      exact List.mem_map.mpr ⟨x, h, rfl⟩
theorem flat_swap (a b : List Nat × Tr) (r : List (List Nat × Tr)) : (flat (a :: b :: r)).Perm (flat (b :: a :: r)) := by
  obtain ⟨p, s⟩ := a
  obtain ⟨q, t⟩ := b
  show ((ps s).map (ahead p) ++ ((ps t).map (ahead q) ++ flat r)).Perm ((ps t).map (ahead q) ++ ((ps s).map (ahead p) ++ flat r))
  rw [← List.append_assoc, ← List.append_assoc]
  exact List.Perm.append_right _ List.perm_append_comm
theorem ps_nodup (t : Tr) : ((ps t).map (·.1)).Nodup := by
  rw [ps_fst]
  exact (pl_up t).imp fun h e => by subst e; exact absurd h (ltL_irr _)
theorem isE_rev {α : Type} (x : α) (us : List α) : (!((x :: us).reverse).isEmpty) = true := by simp
section
variable {Pr : Program} {w : World} {K : PySem.W.Frag} {mg : Str → Option Value} {base : Heap}
abbrev NMp : List Str := ["_law_tree_here", "_law_found", "_law_todo", "_law_place", "_law_part", "_law_ordered"]
theorem scMap : FnScope NMp ["_law_tree_here"] (defScope sMap) := ⟨rfl, rfl, rfl, by decide +kernel, rfl, by decide +kernel, by decide +kernel⟩
def spMap : Sp := fun vs H Q _ => ∃ (v : V) (t : Tr), vs = [v] ∧ TreeAt H v t ∧ t.sz ≤ 25 ∧
  ∀ (d : Addr) (H' : Hp), H d = none → H' d = some (.dK (mapK (ps t))) → Kp [] H H' → Q (.ref d) H'
theorem ok_map {f : Addr} {fd : FuncData} (F : Fun K "_law_map" "_law_map" sMap f fd) (B : BI mg) : FnOk Pr w K mg base CX0 1 f fd ["_law_tree_here"] spMap := by
  refine F.ok scMap (fun vs H Q E h => ?_) (fun cdv Ar outer s H vs Q E hr h => ?_)
  · obtain ⟨v, t, rfl, _⟩ := h
    rfl
  · obtain ⟨v, t, rfl, T, sz, k⟩ := h
    have hu := hu_of hr
    refine ⟨_, pss_cons (ps_par (i := 1) (j := 2) (by rfl) scMap.nd rfl rfl (by decide) rfl rfl (pa_cons pe_dnewK (pa_cons (pe_lst (pa_cons (pe_tup (pa_cons pe_str (pa_cons (pv 0) pa_nil))) pa_nil)) pa_nil)) (by rfl))
      (pss_cons (ps_while PassesOwn.never (pt_cmpR (op_neEL hr.units) (pv 2) (pe_lst pa_nil) (nomark _))
        (pss_cons (ps_asg (pe_bm0 PySem.F.plainAttrs_list PySem.F.slot_list_pop PySem.F.type_list_pop mt_pop (pv 2)) (pg_tup (n := 2) (by rfl) (pgs_cons (pg_name (i := 3) scMap.nd rfl (.inl rfl)) (pgs_cons (pg_name (i := 4) scMap.nd rfl (.inl rfl)) pgs_nil))))
      (pss_cons (ps_dput hu (pv 1) (pv 3) (pe_ifExp (pt_cmpR op_isN (pv 4) pe_non (nomark _)) pe_non (pe_ix ix_tup (pv 4) pe_int (fun _ _ => rfl))) rfl)
      (pss_one (ps_expr (pe_bm PySem.F.plainAttrs_list PySem.F.slot_list_extend PySem.F.type_list_extend mt_extend (pv 2) (pa_cons (pe_ifExp (pt_cmpR op_notN (pv 4) pe_non (nomark _)) (pe_lst (pa_cons (pe_tup (pa_cons (pe_op op_add_str (pv 3) pe_str) (pa_cons (pe_ix ix_tup (pv 4) pe_int (fun _ _ => rfl)) pa_nil))) (pa_cons (pe_tup (pa_cons (pe_op op_add_str (pv 3) pe_str) (pa_cons (pe_ix ix_tup (pv 4) pe_int (fun _ _ => rfl)) pa_nil))) pa_nil))) (pe_lst pa_nil)) pa_nil)))))))
      (pss_cons (ps_set (i := 5) scMap.nd rfl (.inl rfl) pe_dnewK)
      (pss_cons (ps_for PassesOwn.never rfl (pi_list (pe_callB (call_sortedD rfl) (by rfl) B.sorted (by decide +kernel) (pa_cons (pv 1) pa_nil))) (pg_name (i := 3) scMap.nd rfl (.inl rfl))
        (pss_one (ps_dput hu (pv 5) (pv 3) (pe_dget hu (pv 1) (pv 3) (fun _ _ => rfl)) rfl)))
      (pss_one (ps_ret (pv 5)))))), ?_⟩
    have lps : (ps t).length ≤ 51 := by rw [ps_len]; omega
    intro d nd
    have hd : (upd H d (.dK [])) d = some (.dK []) := upd_same
    have kd : Kp [] H (upd H d (.dK [])) := .new nd
    have T1 := T.kp kd
    generalize upd H d (.dK []) = H1 at hd kd T1
    refine ⟨_, rfl, by show 2 ≤ sizeLine; decide, fun a na => ?_⟩
    have ka : Kp [] H1 (upd H1 a (.tup [.str "", v])) := .new na
    have ha : (upd H1 a (.tup [.str "", v])) a = some (.tup [.str "", v]) := upd_same
    have hd1 := ka.at_ _ _ hd List.not_mem_nil
    have T2 := T1.kp ka
    generalize upd H1 a (.tup [.str "", v]) = H2 at ka ha hd1 T2
    refine ⟨by show 1 ≤ sizeLine; decide, fun wl nw => ?_⟩
    have kw : Kp [] H2 (upd H2 wl (.lst [.ref a])) := .new nw
    have nwH : H wl = none := (kd.trans ka).free nw List.not_mem_nil
    have hdw : d ≠ wl := ne_of_none hd1 nw
    refine ⟨_, _, rfl, ?_⟩
    refine while_ex (fun σ G => ∃ (us : List V) (qs done : List (List Nat × Tr)) (y3 y4 : Option V), σ = [some v, some (.ref d), some (.ref wl), y3, y4, none] ∧ G d = some (.dK (mapK done)) ∧ G wl = some (.lst us.reverse) ∧ PairsAt G us qs ∧ (done ++ flat qs).Perm (ps t) ∧ Kp [] H G)
      (fun σ G => match G d with | some (.dK kvs) => 100 - kvs.length | _ => 0)
      ⟨[.ref a], [([], t)], [], none, none, rfl, kw.at_ _ _ hd1 List.not_mem_nil, upd_same, .cons (kw.tup _ _ (s_e ▸ ha)) (T2.kp kw) .nil, ?_, kd.trans (ka.trans kw)⟩ ?_ ?_
    · show ((ps t).map (ahead []) ++ []).Perm (ps t)
      rw [List.append_nil]
      rw [show (ps t).map (ahead []) = ps t from List.map_id _]
    · rintro σ G ⟨us, qs, done, y3, y4, rfl, hdG, hlG, hp, hall, kG⟩
      have mu : (match G d with | some (.dK kvs) => 100 - kvs.length | _ => 0) = 100 - done.length := by
        rw [hdG]
        show 100 - (mapK done).length = _
        rw [mapK, List.length_map]
      rw [mu]
      refine ⟨_, rfl, Nat.zero_le _, fun p np => ⟨wl, p, us.reverse, rfl, rfl, (upd_ne (ne_of_none hlG np)).trans hlG, upd_same, _, rfl, ?_⟩⟩
      have kp : Kp [] G (upd G p (.lst [])) := .new np
      have hdP := kp.at_ _ _ hdG List.not_mem_nil
      have hlP := kp.at_ _ _ hlG List.not_mem_nil
      have hpP := hp.kp kp
      have kP := kG.trans kp
      generalize upd G p (.lst []) = G1 at hdP hlP hpP kP
      cases hpP with
      | nil =>
        refine iteF ?_
        rw [flat, List.append_nil] at hall
        have ldn : done.length ≤ 51 := by rw [hall.length_eq]; exact lps
        intro d2 nd2
        have kd2 : Kp [] G1 (upd G1 d2 (.dK [])) := .new nd2
        have e2 : (upd G1 d2 (.dK [])) d2 = some (.dK []) := upd_same
        have hd2 := kd2.at_ _ _ hdP List.not_mem_nil
        have nd2H := kP.free nd2 List.not_mem_nil
        have kP2 := kP.trans kd2
        generalize upd G1 d2 (.dK []) = G2 at kd2 e2 hd2 kP2
        refine ⟨_, rfl, d, mapK done, done.map (fun x => st x.1), rfl, .inl hd2, ?_, ?_, fun ys p2 hys hsrt np2 => ?_⟩
        · rw [mapK, List.map_map, List.map_map]
          rfl
        · rw [List.length_map]
          omega
        have ey : ys = (pl t).map st := by
          refine sorted_is ?_ hsrt (pl_up t)
          have q := (hall.map (fun x => st x.1))
          have q2 : (ps t).map (fun x => st x.1) = (pl t).map st := by rw [← ps_fst, List.map_map]; rfl
          exact (hys.trans q).trans (q2 ▸ List.Perm.refl _)
        subst ey
        have kp2 : Kp [] G2 (upd G2 p2 (.lst (((pl t).map st).map V.str))) := .new np2
        have ep2 : (upd G2 p2 (.lst (((pl t).map st).map V.str))) p2 = some (.lst (((pl t).map st).map V.str)) := upd_same
        have e23 := kp2.at_ _ _ e2 List.not_mem_nil
        have hd3 := kp2.at_ _ _ hd2 List.not_mem_nil
        have kP3 := kP2.trans kp2
        have n2 : d2 ≠ p2 := ne_of_none e2 np2
        have n3 : d2 ≠ d := fun e => by rw [e, hdP] at nd2; cases nd2
        generalize upd G2 p2 (.lst (((pl t).map st).map V.str)) = G3 at ep2 e23 hd3 kP3
        refine ⟨p2, rfl, ⟨_, sql_of ep2⟩, ?_⟩
        refine for_list (K := K) (a := p2) (xs := ((pl t).map st).map V.str) (fun i σ G => (∃ y3 : Option V, σ = [some v, some (.ref d), some (.ref wl), y3, y4, some (.ref d2)]) ∧ G d2 = some (.dK (mapK ((ps t).take i))) ∧ Kp [d2] G3 G)
          ⟨⟨_, rfl⟩, e23, .refl⟩ (fun i σ G _ h => sql_of (h.2.2.at_ _ _ ep2 (by simp [n2.symm]))) ?_ ?_
        · rintro i x σ G4 hi ⟨⟨y3, rfl⟩, e4, k4⟩
          rw [List.getElem?_map, List.getElem?_map] at hi
          obtain ⟨z, hz, rfl⟩ := Option.map_eq_some_iff.mp hi
          obtain ⟨pp, hpp, rfl⟩ := Option.map_eq_some_iff.mp hz
          rw [← ps_fst, List.getElem?_map] at hpp
          obtain ⟨⟨pp', tr⟩, hx, rfl⟩ := Option.map_eq_some_iff.mp hpp
          have hm : (pp', tr) ∈ done := hall.mem_iff.mpr (List.mem_of_getElem? hx)
          have ndn : (done.map (·.1)).Nodup := (hall.map (·.1)).nodup_iff.mpr (ps_nodup t)
          have hg : DGet G4 d (.str (st pp')) (some (tagV tr)) := map_get ndn hm ▸ DGet.k (k := .inr (st pp')) (k4.at_ _ _ hd3 (by simp [n3.symm]))
          have nt : pp' ∉ ((ps t).take i).map (·.1) := by
            have q := ps_nodup t
            intro hmem
            obtain ⟨j, hj⟩ := List.getElem?_of_mem hmem
            rw [List.getElem?_map, List.getElem?_take] at hj
            split at hj
            · rename_i hji
              have h1 : ((ps t).map (·.1))[j]? = some pp' := by rw [List.getElem?_map]; exact hj
              have h2 : ((ps t).map (·.1))[i]? = some pp' := by rw [List.getElem?_map, hx]; rfl
              have := (List.getElem?_inj (List.getElem?_eq_some_iff.mp h1).1 q).mp (h1.trans h2.symm)
              omega
            · cases hj
          have hput := DPut.k (k := .inr (st pp')) (v := tagV tr) e4 (by rw [mapK, List.length_map, List.length_take]; exact Nat.lt_of_le_of_lt (Nat.min_le_right _ _) (Nat.lt_of_le_of_lt lps (by decide)))
          rw [putK_new _ (map_no nt)] at hput
          refine ⟨_, rfl, _, rfl, d, _, rfl, hg, _, rfl, _, rfl, d2, _, rfl, hput, ⟨_, rfl⟩, ?_, k4.trans (.put (by simp) e4 (fun _ z => by cases z))⟩
          rw [upd_same, List.take_add_one, hx]
          unfold mapK
          rw [List.map_append]
          rfl
        · rintro σ G4 ⟨⟨y3, rfl⟩, e4, k4⟩
          have ll : (((pl t).map st).map V.str).length = (ps t).length := by rw [List.length_map, List.length_map, ← ps_fst, List.length_map]
          rw [ll, List.take_length] at e4
          refine ⟨_, rfl, k d2 G4 nd2H e4 ⟨fun b o e _ => ?_, fun b xs e => ?_⟩⟩
          · exact k4.at_ _ _ (kP3.at_ _ _ e List.not_mem_nil) (by simp [ne_of_none e nd2H])
          · exact k4.tup _ _ (kP3.tup _ _ e)
      | @cons b v1 p1 t1 us qs hb T3 hp1 =>
        rw [isE_rev]
        refine iteT ?_
        refine ⟨_, rfl, .inl ⟨rfl, _, sql_of hlP⟩, wl, _, _, rfl, rfl, hlP, pile_top _ us, ?_⟩
        rw [pile_pop]
        have kk : Kp [wl] G1 (upd G1 wl (.lst us.reverse)) := .put (by simp) hlP (fun xs z => by cases z)
        have hl4 : (upd G1 wl (.lst us.reverse)) wl = some (.lst us.reverse) := upd_same
        have hb4 := kk.tup _ _ hb
        have T4 := T3.kp kk
        have hp4 := hp1.kp kk
        have hd4 := kk.at_ _ _ hdP (by simp [hdw])
        have k4 : Kp [] H (upd G1 wl (.lst us.reverse)) := kP.own nwH
        generalize upd G1 wl (.lst us.reverse) = G4 at kk hl4 hb4 T4 hp4 hd4 k4
        refine ⟨b, _, rfl, sqt_of hb4, rfl, _, _, rfl, _, _, rfl, rfl, ?_⟩
        have e0 : flat ((p1, t1) :: qs) = (ps t1).map (ahead p1) ++ flat qs := rfl
        have ex : ∃ r, (ps t1).map (ahead p1) = (p1, t1) :: r := by
          cases t1 with
          | nil => exact ⟨[], by show [(p1 ++ [], Tr.nil)] = _; rw [List.append_nil]⟩
          | nd g l r =>
            rw [ps_nd, List.map_cons]
            exact ⟨_, by show (p1 ++ [], _) :: _ = _; rw [List.append_nil]⟩
        obtain ⟨r1, er1⟩ := ex
        have nod : ((done ++ flat ((p1, t1) :: qs)).map (·.1)).Nodup := (hall.map (·.1)).nodup_iff.mpr (ps_nodup t)
        have np1 : p1 ∉ done.map (·.1) := by
          rw [e0, er1, List.map_append, List.nodup_append] at nod
          intro hm
          exact nod.2.2 p1 hm p1 (by simp) rfl
        have lall := hall.length_eq
        rw [List.length_append, e0, er1] at lall
        simp only [List.length_append, List.length_cons] at lall
        have hput := DPut.k (k := .inr (st p1)) (v := tagV t1) hd4 (by rw [mapK, List.length_map]; exact Nat.lt_of_le_of_lt (show done.length ≤ 51 by omega) (by decide))
        rw [putK_new _ (map_no np1)] at hput
        have em : mapK done ++ [(.inr (st p1), tagV t1)] = mapK (done ++ [(p1, t1)]) := by
          unfold mapK
          rw [List.map_append]
          rfl
        rw [em] at hput
        have lus := hp4.len
        have kd5 : Kp [d] G4 (upd G4 d (.dK (mapK (done ++ [(p1, t1)])))) := .put (by simp) hd4 (fun _ z => by cases z)
        have hl5 := kd5.at_ _ _ hl4 (by simp [hdw.symm])
        have hp5 := hp4.kp kd5
        have T5 := T4.kp kd5
        have k5 : Kp [] H (upd G4 d (.dK (mapK (done ++ [(p1, t1)])))) := k4.own nd
        have hd5 : (upd G4 d (.dK (mapK (done ++ [(p1, t1)])))) d = some (.dK (mapK (done ++ [(p1, t1)]))) := upd_same
        have hplen : p1.length ≤ 1000 := by
          have : p1 ∈ pl t := by
            rw [← ps_fst]
            exact (hall.map (·.1)).mem_iff.mp (List.mem_map.mpr ⟨(p1, t1), List.mem_append_right _ (by rw [e0, er1]; exact List.mem_cons_self), rfl⟩)
          exact Nat.le_trans (pl_ht t p1 this) (Nat.le_trans (ht_sz t) (by omega))
        have sl : ∀ p : List Nat, st p ++ Str.ofString "l" = st (p ++ [108]) := fun p => by rw [s_l, st_app]
        have sr : ∀ p : List Nat, st p ++ Str.ofString "r" = st (p ++ [114]) := fun p => by rw [s_r, st_app]
        have plen : (st p1).length + (Str.ofString "l").length = p1.length + 1 := by rw [st_len, s_l, st_len]; rfl
        have plen2 : (st p1).length + (Str.ofString "r").length = p1.length + 1 := by rw [st_len, s_r, st_len]; rfl
        cases T4 with
        | nil =>
          refine ⟨_, rfl, rfl, _, rfl, iteT ⟨_, rfl, _, rfl, d, _, rfl, hput, ?_⟩⟩
          generalize upd G4 d (.dK (mapK (done ++ [(p1, Tr.nil)]))) = G5 at hl5 hp5 k5 hd5
          refine ⟨_, rfl, .inl ⟨rfl, _, sql_of hl5⟩, _, rfl, rfl, _, rfl, iteF ⟨Nat.zero_le _, fun q nq => ?_⟩⟩
          have hl6 := (upd_ne (o := .lst []) (ne_of_none hl5 nq)).trans hl5
          refine ⟨wl, q, us.reverse, [], rfl, rfl, hl6, upd_same, ?_, ?_⟩
          · rw [List.length_reverse]
            exact Nat.le_trans (show us.length + 0 ≤ 100 by omega) (by decide)
          rw [List.append_nil]
          have kq : Kp [] G5 (upd G5 q (.lst [])) := .new nq
          have kf : Kp [] H (upd (upd G5 q (.lst [])) wl (.lst us.reverse)) := (k5.trans kq).own nwH
          have kw2 : Kp [wl] (upd G5 q (.lst [])) (upd (upd G5 q (.lst [])) wl (.lst us.reverse)) := .put (by simp) hl6 (fun _ z => by cases z)
          have hd6 := kw2.at_ _ _ (kq.at_ _ _ hd5 List.not_mem_nil) (by simp [hdw])
          refine ⟨⟨us, qs, done ++ [(p1, .nil)], _, _, rfl, hd6, upd_same, (hp5.kp kq).kp kw2, ?_, kf⟩, ?_⟩
          · rw [List.append_assoc]
            rw [flat_nil] at hall
            exact hall
          · rw [hd6]
            show 100 - (mapK _).length < _
            rw [mapK, List.length_map, List.length_append]
            show 100 - (done.length + 1) < _
            omega
        | @nd pa g l r va vb ea Tl Tr_ =>
          refine ⟨_, rfl, rfl, _, rfl, iteF ⟨_, rfl, pa, _, _, _, rfl, rfl, sqt_of ea, atI_nat (j := 0) rfl, _, rfl, _, rfl, d, _, rfl, hput, ?_⟩⟩
          have ea5 := kd5.tup _ _ ea
          have Tl5 := Tl.kp kd5
          have Tr5 := Tr_.kp kd5
          generalize upd G4 d (.dK (mapK (done ++ [(p1, .nd g l r)]))) = G5 at hl5 hp5 k5 hd5 ea5 Tl5 Tr5
          refine ⟨_, rfl, .inl ⟨rfl, _, sql_of hl5⟩, _, rfl, rfl, _, rfl, iteT ?_⟩
          refine ⟨_, rfl, _, _, rfl, rfl, ?_, _, rfl, pa, _, _, _, rfl, rfl, sqt_of ea5, atI_nat (j := 1) rfl, by show 2 ≤ sizeLine; decide, fun q1 nq1 => ?_⟩
          · rw [plen]
            exact Nat.le_trans (show p1.length + 1 ≤ 1001 by omega) (by decide)
          have kq1 : Kp [] G5 (upd G5 q1 (.tup [.str (st p1 ++ Str.ofString "l"), va])) := .new nq1
          have eq1 : (upd G5 q1 (.tup [.str (st p1 ++ Str.ofString "l"), va])) q1 = some (.tup [.str (st p1 ++ Str.ofString "l"), va]) := upd_same
          have ea6 := kq1.tup _ _ ea5
          have hl6 := kq1.at_ _ _ hl5 List.not_mem_nil
          have hd6 := kq1.at_ _ _ hd5 List.not_mem_nil
          have hp6 := hp5.kp kq1
          have Tl6 := Tl5.kp kq1
          have Tr6 := Tr5.kp kq1
          have k6 := k5.trans kq1
          generalize upd G5 q1 (.tup [.str (st p1 ++ Str.ofString "l"), va]) = G6 at eq1 ea6 hl6 hd6 hp6 Tl6 Tr6 k6
          refine ⟨_, rfl, _, _, rfl, rfl, ?_, _, rfl, pa, _, _, _, rfl, rfl, sqt_of ea6, atI_nat (j := 2) rfl, by show 2 ≤ sizeLine; decide, fun q2 nq2 => ?_⟩
          · rw [plen2]
            exact Nat.le_trans (show p1.length + 1 ≤ 1001 by omega) (by decide)
          have kq2 : Kp [] G6 (upd G6 q2 (.tup [.str (st p1 ++ Str.ofString "r"), vb])) := .new nq2
          have eq2 : (upd G6 q2 (.tup [.str (st p1 ++ Str.ofString "r"), vb])) q2 = some (.tup [.str (st p1 ++ Str.ofString "r"), vb]) := upd_same
          have eq17 := kq2.tup _ _ eq1
          have hl7 := kq2.at_ _ _ hl6 List.not_mem_nil
          have hd7 := kq2.at_ _ _ hd6 List.not_mem_nil
          have hp7 := hp6.kp kq2
          have Tl7 := Tl6.kp kq2
          have Tr7 := Tr6.kp kq2
          have k7 := k6.trans kq2
          generalize upd G6 q2 (.tup [.str (st p1 ++ Str.ofString "r"), vb]) = G7 at eq2 eq17 hl7 hd7 hp7 Tl7 Tr7 k7
          refine ⟨by show 2 ≤ sizeLine; decide, fun q3 nq3 => ?_⟩
          have kq3 : Kp [] G7 (upd G7 q3 (.lst [.ref q1, .ref q2])) := .new nq3
          have hl8 := kq3.at_ _ _ hl7 List.not_mem_nil
          refine ⟨wl, q3, us.reverse, [.ref q1, .ref q2], rfl, rfl, hl8, upd_same, ?_, ?_⟩
          · rw [List.length_reverse]
            exact Nat.le_trans (show us.length + 2 ≤ 100 by omega) (by decide)
          have er2 : us.reverse ++ [V.ref q1, V.ref q2] = (V.ref q2 :: V.ref q1 :: us).reverse := by simp
          rw [er2]
          have kw2 : Kp [wl] (upd G7 q3 (.lst [.ref q1, .ref q2])) (upd (upd G7 q3 (.lst [.ref q1, .ref q2])) wl (.lst (V.ref q2 :: V.ref q1 :: us).reverse)) := .put (by simp) hl8 (fun _ z => by cases z)
          have kf : Kp [] H (upd (upd G7 q3 (.lst [.ref q1, .ref q2])) wl (.lst (V.ref q2 :: V.ref q1 :: us).reverse)) := (k7.trans kq3).own nwH
          have hd9 := kw2.at_ _ _ (kq3.at_ _ _ hd7 List.not_mem_nil) (by simp [hdw])
          refine ⟨⟨_, (p1 ++ [114], r) :: (p1 ++ [108], l) :: qs, done ++ [(p1, .nd g l r)], _, _, rfl, hd9, upd_same, ?_, ?_, kf⟩, ?_⟩
          · refine .cons (kw2.tup _ _ (kq3.tup _ _ (sr p1 ▸ eq2))) ((Tr7.kp kq3).kp kw2) (.cons (kw2.tup _ _ (kq3.tup _ _ (sl p1 ▸ eq17))) ((Tl7.kp kq3).kp kw2) ((hp7.kp kq3).kp kw2))
          · rw [List.append_assoc]
            rw [flat_nd] at hall
            refine (List.Perm.append_left done ?_).trans hall
            exact List.Perm.cons _ (flat_swap _ _ _)
          · rw [hd9]
            show 100 - (mapK _).length < _
            rw [mapK, List.length_map, List.length_append]
            show 100 - (done.length + 1) < _
            omega
    · intro σ G Q Q' hm h
      obtain ⟨z1, z2, z3, h⟩ := h
      exact ⟨z1, z2, z3, fun p np => let ⟨a, b, xs, h1, h2, h3, h4, kk, h5, h6⟩ := h p np; ⟨a, b, xs, h1, h2, h3, h4, kk, h5, hm _ _ h6⟩⟩
end
end Ey
set_option maxHeartbeats 4000000
namespace Ey
open PySem PySem.Spec L2
structure LT2 (K : PySem.W.Frag) (mg : Str → Option Value) (A : Nat → Addr) (D : Nat → FuncData) : Prop extends LT K mg A D where
  dtree : Df K mg "_law_tree" sDTree ["_law_deck_here", "_law_nodes", "_law_tags_here"] (A 35) (D 35)
section
variable {Pr : Program} {w : World} {K : PySem.W.Frag} {mg : Str → Option Value} {base : Heap} {A : Nat → Addr} {D : Nat → FuncData}
def spPickT (K : PySem.W.Frag) : Sp := fun vs H Q _ => ∃ (d l a : Addr) (xs : List V), vs = [.ref d, .ref a] ∧ DeckAt H d l ∧ SqT K H a xs ∧ xs ≠ [] ∧ xs.length ≤ 1000000 ∧ a ∉ [d, l] ∧
  ∀ (x : V) (H' : Hp), x ∈ xs → DeckAt H' d l → Kp [d, l] H H' → Q x H'
theorem ok_pickT (L : LR K mg A D) : FnOk Pr w K mg base CX0 2 (A 32) (D 32) ["_law_deck_here", "_law_some"] (spPickT K) := by
  have B := L.B
  refine L.pick.F.ok scPick (fun vs H Q E h => ?_) (fun cdv Ar outer s H vs Q E hr h => ?_)
  · obtain ⟨d, l, a, xs, rfl, _⟩ := h
    rfl
  · obtain ⟨d, l, a, xs, rfl, DA, hS, hne, hlen, hn, k⟩ := h
    refine ⟨_, pss_one (ps_ret (pe_ix ix_tup (pv 1) (pe_call (ok_draw L.draw.F B) hr (by rfl) L.draw.g L.draw.F.kp L.draw.b .nil pass0 (pa_cons (pv 0) (pa_cons (pe_callB call_len_seq (by rfl) B.len PySem.boot_len (pa_cons (pv 1) pa_nil)) pa_nil))) (fun _ _ => rfl))), ?_⟩
    have hpos : 0 < xs.length := List.length_pos_iff.mpr hne
    refine ⟨_, rfl, _, rfl, _, rfl, a, xs, rfl, .inr hS, d, l, _, rfl, DA, by omega, by omega, fun r H' r0 r1 D' kp => ?_⟩
    obtain ⟨i, rfl⟩ : ∃ i : Nat, r = (i : Int) := ⟨r.toNat, by omega⟩
    have hi : i < xs.length := by omega
    exact ⟨a, xs, _, xs[i], rfl, rfl, kp.sqt hn hS, atI_nat (List.getElem?_eq_getElem hi), k _ H' (List.getElem_mem hi) D' kp⟩
abbrev NTr : List Str := ["_law_deck_here", "_law_nodes", "_law_tags_here", "_law_left"]
theorem scDTree : FnScope NTr ["_law_deck_here", "_law_nodes", "_law_tags_here"] (defScope sDTree) := ⟨rfl, rfl, rfl, by decide +kernel, rfl, by decide +kernel, by decide +kernel⟩
def spDTree (K : PySem.W.Frag) (n : Nat) : Sp := fun vs H Q _ => ∃ (d l tg : Addr) (ms : List Addr) (nodes : Nat) (gs : List Str), vs = [.ref d, .int nodes, .ref tg] ∧ nodes < n ∧ nodes ≤ 1000 ∧ Frame ms d l H ∧ SqT K H tg (gs.map V.str) ∧ gs ≠ [] ∧ gs.length ≤ 100 ∧ tg ∉ [d, l] ∧ (∀ g ∈ gs, isTag g = true) ∧
  ∀ (v : V) (t : Tr) (H' : Hp), TreeAt H' v t → t.ok → t.sz = nodes → Frame ms d l H' → Kp [d, l] H H' → Q v H'
theorem ok_dTree (L : LT2 K mg A D) : ∀ n : Nat, FnOk Pr w K mg base CX0 (n + 2) (A 35) (D 35) ["_law_deck_here", "_law_nodes", "_law_tags_here"] (spDTree K n)
  | 0 => by
    refine L.dtree.F.ok scDTree (fun vs H Q E h => ?_) (fun cdv Ar outer s H vs Q E hr h => ?_)
    · obtain ⟨d, l, tg, ms, nodes, gs, rfl, _⟩ := h
      rfl
    · obtain ⟨d, l, tg, ms, nodes, gs, rfl, hd, _⟩ := h
      exact absurd hd (Nat.not_lt_zero _)
  | n + 1 => by
    have ih := ok_dTree L n
    have D0 := L.dtree
    have B := L.B
    refine L.dtree.F.ok scDTree (fun vs H Q E h => ?_) (fun cdv Ar outer s H vs Q E hr h => ?_)
    · obtain ⟨d, l, tg, ms, nodes, gs, rfl, _⟩ := h
      rfl
    · obtain ⟨d, l, tg, ms, nodes, gs, rfl, hn, hn2, Fr, hS, hne, hgl, hni, hg, k⟩ := h
      have hr2 := hr.mono (show 2 ≤ n + 2 by omega)
      have hr1 := hr.mono (show 1 ≤ n + 2 by omega)
      refine ⟨_, pss_cons (ps_if (pt_cmpR op_eq (pv 1) pe_int (nomark _))
        (pss_one (ps_ret pe_non)) pss_nil)
      (pss_cons (ps_set (i := 3) scDTree.nd rfl (.inl rfl) (pe_call (ok_draw L.draw.F B) hr1 (by rfl) L.draw.g L.draw.F.kp L.draw.b .nil pass0 (pa_cons (pv 0) (pa_cons (pv 1) pa_nil))))
      (pss_one (ps_ret (pe_tup (pa_cons (pe_call (ok_pickT L.toLR) hr2 (by rfl) L.pick.g L.pick.F.kp L.pick.b .nil pass0 (pa_cons (pv 0) (pa_cons (pv 2) pa_nil))) (pa_cons (pe_call (ih) hr (by rfl) D0.g D0.F.kp D0.b .nil pass0 (pa_cons (pv 0) (pa_cons (pv 3) (pa_cons (pv 2) pa_nil)))) (pa_cons (pe_call (ih) hr (by rfl) D0.g D0.F.kp D0.b .nil pass0 (pa_cons (pv 0) (pa_cons (pe_op op_sub (pe_op op_sub (pv 1) pe_int) (pv 3)) (pa_cons (pv 2) pa_nil)))) pa_nil))))))), ?_⟩
      refine ⟨_, rfl, rfl, _, rfl, ite2 (fun h => ?_) (fun h => ?_)⟩
      · have e0 : nodes = 0 := by
          have z := of_decide_eq_true h
          injection z with z
          omega
        subst e0
        exact k .non .nil H .nil trivial rfl Fr .refl
      have pos : 0 < nodes := by
        rcases Nat.eq_zero_or_pos nodes with e | e
        · subst e
          exact absurd (decide_eq_true rfl) h
        · exact e
      refine ⟨_, rfl, _, rfl, d, l, nodes, rfl, Fr.dk, by omega, by omega, fun r H1 r0 r1 D1 k1 => ?_⟩
      obtain ⟨i, rfl⟩ : ∃ i : Nat, r = (i : Int) := ⟨r.toNat, by omega⟩
      have F1 := Fr.go k1 D1
      have hS1 := k1.sqt hni hS
      refine ⟨_, rfl, _, rfl, d, l, tg, _, rfl, D1, hS1, by simpa using hne, by rw [List.length_map]; omega, hni, fun x H2 hx D2 k2 => ?_⟩
      obtain ⟨g, hgm, rfl⟩ := List.mem_map.mp hx
      have F2 := F1.go k2 D2
      have hS2 := k2.sqt hni hS1
      refine ⟨_, rfl, _, rfl, _, rfl, d, l, tg, ms, i, gs, rfl, by omega, by omega, F2, hS2, hne, hgl, hni, hg, fun v1 t1 H3 T1 o1 s1 F3 k3 => ?_⟩
      have hS3 := k3.sqt hni hS2
      refine ⟨_, rfl, _, rfl, _, _, rfl, rfl, _, rfl, _, _, rfl, rfl, _, rfl, d, l, tg, ms, nodes - 1 - i, gs, ?_, by omega, by omega, F3, hS3, hne, hgl, hni, hg, fun v2 t2 H4 T2 o2 s2 F4 k4 => ?_⟩
      · show [V.ref d, V.int ((nodes : Int) - 1 - (i : Int)), V.ref tg] = _
        rw [show ((nodes : Int) - 1 - (i : Int)) = ((nodes - 1 - i : Nat) : Int) by omega]
      refine ⟨by show 3 ≤ sizeLine; decide, fun p np => ?_⟩
      have kp : Kp [] H4 (upd H4 p (.tup [.str g, v1, v2])) := .new np
      refine k _ (.nd g t1 t2) _ (.nd upd_same ((T1.kp k4).kp kp) (T2.kp kp)) ⟨hg g hgm, o1, o2⟩ ?_ (F4.new np) (k1.trans (k2.trans (k3.trans (k4.trans (kp.more (by simp))))))
      show t1.sz + t2.sz + 1 = nodes
      omega
end
end Ey
set_option maxHeartbeats 4000000
namespace Ey
open PySem PySem.Spec L2
def RuB (n s : Nat) (r : Rule) : Prop := r.1 ≤ n + 1 ∧ r.2.1 < s ∧ -1 ≤ r.2.2 ∧ r.2.2 ≤ 1
def StB (n s : Nat) (rs : List Rule) : Prop := rs.length = s ∧ ∀ r ∈ rs, RuB n s r
theorem Frame.tnin {ms : List Addr} {d l t : Addr} {xs : List V} {H : Hp} (F : Frame ms d l H) (h : FzT H t xs) : t ∉ [d, l] := by
  obtain ⟨o, _, _, e⟩ := h
  obtain ⟨m, n, ns, h1, h2, _⟩ := F.dk.ex
  intro hm
  rcases List.mem_cons.mp hm with rfl | hm
  · rw [h1] at e
    cases e
  · rw [List.mem_singleton.mp hm, h2] at e
    cases e
structure LM (K : PySem.W.Frag) (mg : Str → Option Value) (A : Nat → Addr) (D : Nat → FuncData) : Prop extends LT2 K mg A D where
  dtape : Df K mg "_law_tape" sDTape ["_law_deck_here", "_law_most"] (A 38) (D 38)
section
variable {Pr : Program} {w : World} {K : PySem.W.Frag} {mg : Str → Option Value} {base : Heap} {A : Nat → Addr} {D : Nat → FuncData}
abbrev NDm : List Str := ["_law_deck_here", "_law_most", "_law_tags_here", "_law_signs", "_law_many", "_law_states", "_law_state", "_law_rules", "_law_sign", "_law_to"]
theorem scDTape : FnScope NDm ["_law_deck_here", "_law_most"] (defScope sDTape) := ⟨rfl, rfl, rfl, by decide +kernel, rfl, by decide +kernel, by decide +kernel⟩
def spDTape : Sp := fun vs H Q _ => ∃ (d l : Addr) (ms : List Addr), vs = [.ref d, .int 4] ∧ Frame ms d l H ∧
  ∀ (v : V) (ts : List Str) (s : Nat) (ss : List (List Rule)) (H' : Hp), MachAt H' v ts s ss → MachOk ts s ss → Frame ms d l H' → Kp [d, l] H H' → Q v H'
theorem ok_dTape (L : LM K mg A D) : FnOk Pr w K mg base CX0 5 (A 38) (D 38) ["_law_deck_here", "_law_most"] spDTape := by
  have B := L.B
  refine L.dtape.F.ok scDTape (fun vs H Q E h => ?_) (fun cdv Ar outer s0 H vs Q E hr h => ?_)
  · obtain ⟨d, l, ms, rfl, _⟩ := h
    rfl
  · obtain ⟨d, l, ms, rfl, Fr, k⟩ := h
    refine ⟨_, pss_cons (ps_set (i := 2) scDTape.nd rfl (.inl rfl) (pe_call (ok_dTags L.toLT) (hr.mono (by decide)) (by rfl) L.dtags.g L.dtags.F.kp L.dtags.b .nil pass0 (pa_cons (pv 0) (pa_cons (pe_call (ok_pick L.pick.F B L.draw) (hr.mono (by decide)) (by rfl) L.pick.g L.pick.F.kp L.pick.b .nil pass0 (pa_cons (pv 0) (pa_cons (pe_lst (pa_cons pe_int (pa_cons pe_int (pa_cons pe_int (pa_cons pe_int pa_nil))))) pa_nil))) pa_nil))))
      (pss_cons (ps_set (i := 3) scDTape.nd rfl (.inl rfl) (pe_callB (call_min2 rfl) (by rfl) B.min (by decide +kernel) (pa_cons pe_int (pa_cons (pe_op op_add (pe_op op_add (pe_callB (r := rLenQ K) call_len_seq (by rfl) B.len PySem.boot_len (pa_cons (pv 2) pa_nil)) pe_int) (pe_call (ok_draw L.draw.F B) (hr.mono (by decide)) (by rfl) L.draw.g L.draw.F.kp L.draw.b .nil pass0 (pa_cons (pv 0) (pa_cons pe_int pa_nil)))) pa_nil))))
      (pss_cons (ps_par (i := 4) (j := 5) (by rfl) scDTape.nd rfl rfl (by decide) rfl rfl (pa_cons (pe_op op_add pe_int (pe_call (ok_draw L.draw.F B) (hr.mono (by decide)) (by rfl) L.draw.g L.draw.F.kp L.draw.b .nil pass0 (pa_cons (pv 0) (pa_cons (pv 1) pa_nil)))) (pa_cons (pe_lst pa_nil) pa_nil)) (by rfl))
      (pss_cons (ps_for PassesOwn.never rfl (pi_range1 (by rfl) B.range (pa_cons (pv 4) pa_nil)) (pg_name (i := 6) scDTape.nd rfl (.inl rfl))
        (pss_cons (ps_set (i := 7) scDTape.nd rfl (.inl rfl) (pe_lst pa_nil))
      (pss_cons (ps_for PassesOwn.never rfl (pi_range1 (by rfl) B.range (pa_cons (pv 3) pa_nil)) (pg_name (i := 8) scDTape.nd rfl (.inl rfl))
        (pss_cons (ps_set (i := 9) scDTape.nd rfl (.inl rfl) (pe_call (ok_pick L.pick.F B L.draw) (hr.mono (by decide)) (by rfl) L.pick.g L.pick.F.kp L.pick.b .nil pass0 (pa_cons (pv 0) (pa_cons (pe_lst (pa_cons (pe_call (ok_draw L.draw.F B) (hr.mono (by decide)) (by rfl) L.draw.g L.draw.F.kp L.draw.b .nil pass0 (pa_cons (pv 0) (pa_cons (pe_op op_add (pv 4) pe_int) pa_nil))) (pa_cons (pv 6) (pa_cons (pv 4) (pa_cons (pe_call (ok_draw L.draw.F B) (hr.mono (by decide)) (by rfl) L.draw.g L.draw.F.kp L.draw.b .nil pass0 (pa_cons (pv 0) (pa_cons (pv 4) pa_nil))) pa_nil))))) pa_nil))))
      (pss_one (ps_expr (pe_bm PySem.F.plainAttrs_list PySem.F.slot_list_append PySem.F.type_list_append mt_append (pv 7) (pa_cons (pe_tup (pa_cons (pv 9) (pa_cons (pe_call (ok_pick L.pick.F B L.draw) (hr.mono (by decide)) (by rfl) L.pick.g L.pick.F.kp L.pick.b .nil pass0 (pa_cons (pv 0) (pa_cons (pe_lst (pa_cons (pv 8) (pa_cons (pe_call (ok_draw L.draw.F B) (hr.mono (by decide)) (by rfl) L.draw.g L.draw.F.kp L.draw.b .nil pass0 (pa_cons (pv 0) (pa_cons (pv 3) pa_nil))) pa_nil))) pa_nil))) (pa_cons (pe_call (ok_pick L.pick.F B L.draw) (hr.mono (by decide)) (by rfl) L.pick.g L.pick.F.kp L.pick.b .nil pass0 (pa_cons (pv 0) (pa_cons (pe_lst (pa_cons pe_int (pa_cons pe_int (pa_cons (pe_un un_neg pe_int) (pa_cons pe_int (pa_cons pe_int pa_nil)))))) pa_nil))) pa_nil)))) pa_nil))))))
      (pss_one (ps_expr (pe_bm PySem.F.plainAttrs_list PySem.F.slot_list_append PySem.F.type_list_append mt_append (pv 5) (pa_cons (pe_callTy call_tuple_of (by rfl) B.tuple (by decide +kernel) (pa_cons (pv 7) pa_nil)) pa_nil)))))))
      (pss_one (ps_ret (pe_tup (pa_cons pe_str (pa_cons (pv 2) (pa_cons (pv 3) (pa_cons (pe_callTy call_tuple_of (by rfl) B.tuple (by decide +kernel) (pa_cons (pv 5) pa_nil)) pa_nil)))))))))), ?_⟩
    -- the tags
    refine ⟨_, rfl, _, rfl, by show 4 ≤ sizeLine; decide, fun p np => ?_⟩
    have nn := Fr.ne np
    have F1 := Fr.new (o := .lst [.int 1, .int 2, .int 0, .int 3]) np
    refine ⟨d, l, p, _, rfl, F1.dk, sql_of upd_same, by simp, by show 4 ≤ 1000000; decide, nn.1, nn.2, fun u H2 hu D2 k2 => ?_⟩
    have F2 := F1.go k2 D2
    have k02 : Kp [d, l] H H2 := (Kp.new np).trans k2
    obtain ⟨m, rfl, hm⟩ : ∃ m : Nat, u = .int m ∧ m ≤ 3 := by
      simp only [List.mem_cons, List.not_mem_nil, or_false] at hu
      rcases hu with rfl | rfl | rfl | rfl
      · exact ⟨1, rfl, by decide⟩
      · exact ⟨2, rfl, by decide⟩
      · exact ⟨0, rfl, by decide⟩
      · exact ⟨3, rfl, by decide⟩
    refine ⟨d, l, ms, m, rfl, hm, F2, fun t gs H3 e3 hgs hnd hgl F3 k3 => ?_⟩
    have k03 := k02.trans k3
    -- the number of signs
    refine ⟨_, rfl, t, _, rfl, .inr e3.sqt, _, _, rfl, rfl, _, rfl, d, l, 2, rfl, F3.dk, by decide, by decide, fun r H4 r0 r1 D4 k4 => ?_⟩
    have F4 := F3.go k4 D4
    have k04 := k03.trans k4
    have nt := F3.tnin e3
    have e4 := e3.kp k4 nt
    refine ⟨_, _, rfl, rfl, _, _, rfl, ?_⟩
    have lg : (gs.map V.str).length = m := by rw [List.length_map, hgl]
    generalize es : (if (((gs.map V.str).length : Nat) : Int) + 2 + r < 5 then (((gs.map V.str).length : Nat) : Int) + 2 + r else (5 : Int)) = sI
    obtain ⟨s, rfl, hs2, hs5⟩ : ∃ s : Nat, sI = (s : Int) ∧ gs.length + 2 ≤ s ∧ s ≤ 5 := by
      refine ⟨sI.toNat, ?_, ?_, ?_⟩ <;> rw [← es, lg] <;> split <;> omega
    -- how many states
    refine ⟨_, rfl, _, rfl, d, l, 4, rfl, F4.dk, by decide, by decide, fun r5 H5 r50 r51 D5 k5 => ⟨_, _, rfl, rfl, Nat.zero_le _, fun F nF => ⟨_, _, rfl, ?_⟩⟩⟩
    obtain ⟨n, hn, hn1, hn4⟩ : ∃ n : Nat, 1 + r5 = (n : Int) ∧ 1 ≤ n ∧ n ≤ 4 := ⟨(1 + r5).toNat, by omega, by omega, by omega⟩
    have F5 := F4.go k5 D5
    have k05 := k04.trans k5
    have e5 := e4.kp k5 nt
    have fF := F5.has.fresh nF
    have hFd : F ≠ d := fun e => fF (e ▸ F5.dm)
    have hFl : F ≠ l := fun e => fF (e ▸ F5.lm)
    have subF : ∀ x ∈ [d, l], x ∈ F :: ms := fun x hx => List.mem_cons_of_mem _ (F5.sub x hx)
    refine ⟨_, rfl, 1 + r5, rfl, by omega, by omega, ?_⟩
    rw [show (1 + r5).toNat = n by omega]
    refine for_range (lo := 0) (n := n) (fun i σ H' => (∃ y6 y7 y8 y9, σ = [some (.ref d), some (.int 4), some (.ref t), some (.int s), some (.int (1 + r5)), some (.ref F), y6, y7, y8, y9]) ∧ (∃ (xs : List V) (ss : List (List Rule)), H' F = some (.lst xs) ∧ All2 (StAt H') xs ss ∧ (∀ rs ∈ ss, StB n s rs) ∧ ss.length = i) ∧ Frame ms d l H' ∧ Kp [d, l] H5 H')
      ⟨⟨_, _, _, _, rfl⟩, ⟨[], [], upd_same, .nil, by simp, rfl⟩, F5.new nF, .new nF⟩ ?_ ?_
    · rintro i σ H6 hi ⟨⟨y6, y7, y8, y9, rfl⟩, ⟨xs, ss, hF, hA, hss, hls⟩, F6, k6⟩
      refine ⟨Nat.zero_le _, fun R nR => ?_⟩
      have fR := F6.has.fresh nR
      have hRd : R ≠ d := fun e => fR (e ▸ F6.dm)
      have hRl : R ≠ l := fun e => fR (e ▸ F6.lm)
      have hRF : R ≠ F := fun e => by rw [e, hF] at nR; cases nR
      refine ⟨_, rfl, (s : Int), rfl, by omega, by omega, ?_⟩
      rw [Int.toNat_natCast]
      have subR : ∀ x ∈ [d, l], x ∈ R :: ms := fun x hx => List.mem_cons_of_mem _ (F6.sub x hx)
      refine for_range (lo := 0) (n := s) (fun j σ H' => (∃ y8 y9, σ = [some (.ref d), some (.int 4), some (.ref t), some (.int s), some (.int (1 + r5)), some (.ref F), some (.int (0 + (i : Int))), some (.ref R), y8, y9]) ∧ (∃ (ys : List V) (rs : List Rule), H' R = some (.lst ys) ∧ All2 (RuleAt H') ys rs ∧ (∀ r ∈ rs, RuB n s r) ∧ rs.length = j) ∧ Frame ms d l H' ∧ Kp [d, l] H6 H')
        ⟨⟨_, _, rfl⟩, ⟨[], [], upd_same, .nil, by simp, rfl⟩, F6.new nR, .new nR⟩ ?_ ?_
      · rintro j σ H7 hj ⟨⟨y8, y9, rfl⟩, ⟨ys, rs, hR, hB, hrs, hlr⟩, F7, k7⟩
        -- where to
        refine ⟨_, rfl, _, rfl, _, rfl, _, _, rfl, rfl, d, l, _, rfl, F7.dk, by omega, by omega, fun r8 H8 r80 r81 D8 k8 => ?_⟩
        have F8 := F7.go k8 D8
        refine ⟨_, rfl, _, rfl, _, rfl, _, rfl, d, l, _, rfl, F8.dk, by omega, by omega, fun r9 H9 r90 r91 D9 k9 => ?_⟩
        have F9 := F8.go k9 D9
        refine ⟨by show 4 ≤ sizeLine; decide, fun p np => ?_⟩
        have nn := F9.ne np
        have F10 := F9.new (o := .lst [.int r8, .int (0 + (i : Int)), .int (1 + r5), .int r9]) np
        refine ⟨d, l, p, _, rfl, F10.dk, sql_of upd_same, by simp, by show 4 ≤ 1000000; decide, nn.1, nn.2, fun u H11 hu D11 k11 => ?_⟩
        have F11 := F10.go k11 D11
        have k711 : Kp [d, l] H7 H11 := k8.trans (k9.trans ((Kp.new np).trans k11))
        obtain ⟨a, rfl, ha⟩ : ∃ a : Nat, u = .int a ∧ a ≤ n + 1 := by
          simp only [List.mem_cons, List.not_mem_nil, or_false] at hu
          rcases hu with rfl | rfl | rfl | rfl
          · exact ⟨r8.toNat, by rw [Int.toNat_of_nonneg r80], by omega⟩
          · exact ⟨i, by rw [Int.zero_add], by omega⟩
          · exact ⟨n, by rw [hn], by omega⟩
          · exact ⟨r9.toNat, by rw [Int.toNat_of_nonneg r90], by omega⟩
        have hR11 := k711.at_ _ _ hR (by simp [hRd, hRl])
        -- the rule
        refine ⟨_, rfl, .inl ⟨rfl, _, sql_of hR11⟩, _, rfl, _, rfl, _, rfl, _, rfl, _, rfl, d, l, _, rfl, F11.dk, by omega, by omega, fun r12 H12 r120 r121 D12 k12 => ?_⟩
        have F12 := F11.go k12 D12
        refine ⟨by show 2 ≤ sizeLine; decide, fun p2 np2 => ?_⟩
        have nn2 := F12.ne np2
        have F13 := F12.new (o := .lst [.int (0 + (j : Int)), .int r12]) np2
        refine ⟨d, l, p2, _, rfl, F13.dk, sql_of upd_same, by simp, by show 2 ≤ 1000000; decide, nn2.1, nn2.2, fun u2 H14 hu2 D14 k14 => ?_⟩
        have F14 := F13.go k14 D14
        obtain ⟨b, rfl, hb⟩ : ∃ b : Nat, u2 = .int b ∧ b < s := by
          simp only [List.mem_cons, List.not_mem_nil, or_false] at hu2
          rcases hu2 with rfl | rfl
          · exact ⟨j, by rw [Int.zero_add], by omega⟩
          · exact ⟨r12.toNat, by rw [Int.toNat_of_nonneg r120], by omega⟩
        refine ⟨_, rfl, _, rfl, by show 5 ≤ sizeLine; decide, fun p3 np3 => ?_⟩
        have nn3 := F14.ne np3
        have F15 := F14.new (o := .lst [.int 1, .int 1, .int (-1), .int 0, .int 1]) np3
        refine ⟨d, l, p3, _, rfl, F15.dk, sql_of upd_same, by simp, by show 5 ≤ 1000000; decide, nn3.1, nn3.2, fun u3 H16 hu3 D16 k16 => ?_⟩
        have F16 := F15.go k16 D16
        obtain ⟨c, rfl, hc⟩ : ∃ c : Int, u3 = .int c ∧ -1 ≤ c ∧ c ≤ 1 := by
          simp only [List.mem_cons, List.not_mem_nil, or_false] at hu3
          rcases hu3 with rfl | rfl | rfl | rfl | rfl
          · exact ⟨_, rfl, by decide, by decide⟩
          · exact ⟨_, rfl, by decide, by decide⟩
          · exact ⟨_, rfl, by decide, by decide⟩
          · exact ⟨_, rfl, by decide, by decide⟩
          · exact ⟨_, rfl, by decide, by decide⟩
        have k716 : Kp [d, l] H7 H16 := k711.trans (k12.trans ((Kp.new np2).trans (k14.trans ((Kp.new np3).trans k16))))
        refine ⟨by show 3 ≤ sizeLine; decide, fun q nq => ?_⟩
        have k17 : Kp [] H16 (upd H16 q (.tup [.int a, .int b, .int c])) := .new nq
        have eq : (upd H16 q (.tup [.int a, .int b, .int c])) q = some (.tup [.int a, .int b, .int c]) := upd_same
        have F17 := F16.new (o := .tup [.int a, .int b, .int c]) nq
        generalize upd H16 q (.tup [.int a, .int b, .int c]) = H17 at k17 eq F17
        have k717 := k716.trans (k17.more (by simp))
        have hR17 := k717.at_ _ _ hR (by simp [hRd, hRl])
        have lB := hB.len
        refine ⟨R, _, _, rfl, rfl, hR17, Nat.lt_of_le_of_lt (show ys.length ≤ 5 by omega) (by decide), ⟨_, _, rfl⟩, ⟨ys ++ [.ref q], rs ++ [(a, b, c)], upd_same, ?_, ?_, ?_⟩, F17.set hR17 hRd hRl, (k7.trans k717).own nR⟩
        · have kR : Kp [R] H17 (upd H17 R (.lst (ys ++ [V.ref q]))) := .put (by simp) hR17 (fun _ z => by cases z)
          exact ((hB.imp fun _ _ q => q.kp k717).imp fun _ _ q => q.kp kR).app (.cons ⟨q, rfl, kR.tup _ _ eq⟩ .nil)
        · intro x hx
          rcases List.mem_append.mp hx with hx | hx
          · exact hrs x hx
          · rw [List.mem_singleton.mp hx]
            exact ⟨ha, hb, hc.1, hc.2⟩
        · rw [List.length_append, hlr]
          rfl
      · rintro σ H7 ⟨⟨y8, y9, rfl⟩, ⟨ys, rs, hR, hB, hrs, hlr⟩, F7, k7⟩
        have hF7 := k7.at_ _ _ hF (by simp [hFd, hFl])
        refine ⟨_, rfl, .inl ⟨rfl, _, sql_of hF7⟩, _, rfl, R, _, rfl, .inl ⟨sql_of hR, fun q nq => ?_⟩⟩
        have k8 : Kp [] H7 (upd H7 q (.tup ys)) := .new nq
        have eq : (upd H7 q (.tup ys)) q = some (.tup ys) := upd_same
        have F8 := F7.new (o := .tup ys) nq
        generalize upd H7 q (.tup ys) = H8 at k8 eq F8
        have k68 := k7.trans (k8.more (by simp))
        have hF8 := k68.at_ _ _ hF (by simp [hFd, hFl])
        have lA := hA.len
        refine ⟨F, _, _, rfl, rfl, hF8, Nat.lt_of_le_of_lt (show xs.length ≤ 5 by omega) (by decide), ⟨_, _, _, _, rfl⟩, ⟨xs ++ [.ref q], ss ++ [rs], upd_same, ?_, ?_, ?_⟩, F8.set hF8 hFd hFl, (k6.trans k68).own nF⟩
        · have kF : Kp [F] H8 (upd H8 F (.lst (xs ++ [V.ref q]))) := .put (by simp) hF8 (fun _ z => by cases z)
          exact ((hA.imp fun _ _ q => q.kp k68).imp fun _ _ q => q.kp kF).app (.cons ⟨q, ys, rfl, kF.tup _ _ eq, (hB.imp fun _ _ q => q.kp k8).imp fun _ _ q => q.kp kF⟩ .nil)
        · intro x hx
          rcases List.mem_append.mp hx with hx | hx
          · exact hss x hx
          · rw [List.mem_singleton.mp hx]
            exact ⟨hlr, hrs⟩
        · rw [List.length_append, hls]
          rfl
    · rintro σ H6 ⟨⟨y6, y7, y8, y9, rfl⟩, ⟨xs, ss, hF, hA, hss, hls⟩, F6, k6⟩
      refine ⟨_, rfl, _, rfl, _, rfl, F, _, rfl, .inl ⟨sql_of hF, fun q nq => ?_⟩⟩
      have k7 : Kp [] H6 (upd H6 q (.tup xs)) := .new nq
      have eq : (upd H6 q (.tup xs)) q = some (.tup xs) := upd_same
      have F7 := F6.new (o := .tup xs) nq
      have hA7 := hA.imp fun _ _ q => StAt.kp q k7
      generalize upd H6 q (.tup xs) = H7 at k7 eq F7 hA7
      refine ⟨by show 4 ≤ sizeLine; decide, fun z nz => ?_⟩
      have k8 : Kp [] H7 (upd H7 z (.tup [.str "tape", .ref t, .int s, .ref q])) := .new nz
      have k78 := k7.trans k8
      have f5 : FzT H6 t (gs.map V.str) := e5.kp k6 nt
      exact k _ gs s ss _ ⟨z, t, q, xs, rfl, upd_same, (f5.kp k7 List.not_mem_nil).kp k8 List.not_mem_nil, k8.tup _ _ eq, hA7.imp fun _ _ q => q.kp k8⟩ ⟨hgs, hnd, by omega, hs2, hs5, by omega, by omega, fun rs hr => ⟨(hss rs hr).1, fun r hr2 => hls ▸ (hss rs hr).2 r hr2⟩⟩ (F7.new nz) (k05.trans (k6.trans (k78.more (by simp))))
end
end Ey
set_option maxHeartbeats 4000000
namespace Ey
open PySem PySem.Spec L2
structure LC (K : PySem.W.Frag) (mg : Str → Option Value) (A : Nat → Addr) (D : Nat → FuncData) : Prop extends LM K mg A D where
  lmap : Df K mg "_law_map" sMap ["_law_tree_here"] (A 36) (D 36)
  lpow : Df K mg "_law_power" sLPow ["_law_base", "_law_many"] (A 37) (D 37)
  lcells : Df K mg "_law_cells" sLCells ["_law_machine", "_law_tree_here", "_law_c"] (A 39) (D 39)
theorem clamp_eq2 (h : Nat) (m : Int) (L : Nat) (hL : 0 < L) : (if (if (h : Int) + m > 0 then (h : Int) + m else 0) < (L : Int) - 1 then (if (h : Int) + m > 0 then (h : Int) + m else 0) else (L : Int) - 1) = (clampI h m L : Nat) := by
  unfold clampI
  by_cases h1 : (h : Int) + m > 0
  · rw [if_pos h1, if_neg (show ¬ (h : Int) + m < 0 by omega)]
    by_cases h2 : (L : Int) - 1 < (h : Int) + m
    · rw [if_neg (by omega), if_pos h2]
      omega
    · rw [if_neg h2]
      by_cases h3 : (h : Int) + m < (L : Int) - 1
      · rw [if_pos h3]
        omega
      · rw [if_neg h3]
        omega
  · rw [if_neg h1]
    by_cases h2 : (h : Int) + m < 0
    · rw [if_pos h2]
      by_cases h3 : (0 : Int) < (L : Int) - 1
      · rw [if_pos h3]
        rfl
      · rw [if_neg h3]
        show (L : Int) - 1 = 0
        omega
    · have e : (h : Int) + m = 0 := by omega
      rw [if_neg h2, e]
      by_cases h3 : (0 : Int) < (L : Int) - 1
      · rw [if_pos h3, if_neg (by omega)]
        rfl
      · rw [if_neg h3]
        by_cases h4 : (L : Int) - 1 < 0
        · omega
        · rw [if_neg h4]
          show (L : Int) - 1 = 0
          omega
section
variable {Pr : Program} {w : World} {K : PySem.W.Frag} {mg : Str → Option Value} {base : Heap} {A : Nat → Addr} {D : Nat → FuncData}
abbrev NLc : List Str := ["_law_machine", "_law_tree_here", "_law_c", "_law_kind", "_law_tags_here", "_law_signs", "_law_states", "_law_where", "_law_found", "_law_place", "_law_tag"]
theorem scLCells : FnScope NLc ["_law_machine", "_law_tree_here", "_law_c"] (defScope sLCells) := ⟨rfl, rfl, rfl, by decide +kernel, rfl, by decide +kernel, by decide +kernel⟩
def spLCells : Sp := fun vs H Q _ => ∃ (mv tv : V) (c : Nat) (gs : List Str) (s : Nat) (ss : List (List Rule)) (t : Tr), vs = [mv, tv, .int c] ∧ MachAt H mv gs s ss ∧ MachOk gs s ss ∧ TreeAt H tv t ∧ t.sz ≤ 25 ∧ 0 < c ∧ c ≤ 16 ∧ (2 * t.sz + 1) ^ c ≤ 10000 ∧
  ∀ (p : Addr) (H' : Hp), H p = none → H' p = some (.lst (intsV (cells0 gs t c))) → Kp [] H H' → Q (.ref p) H'
theorem ok_lCells (L : LC K mg A D) : FnOk Pr w K mg base CX0 2 (A 39) (D 39) ["_law_machine", "_law_tree_here", "_law_c"] spLCells := by
  have B := L.B
  refine L.lcells.F.ok scLCells (fun vs H Q E h => ?_) (fun cdv Ar outer s0 H vs Q E hr h => ?_)
  · obtain ⟨mv, tv, c, gs, s, ss, t, rfl, _⟩ := h
    rfl
  · obtain ⟨mv, tv, c, gs, s, ss, t, rfl, hm, ho, T, sz, c0, c16, hN, k⟩ := h
    have hu := hu_of hr
    refine ⟨_, pss_cons (ps_asg (pv 0) (pg_tup (n := 4) (by rfl) (pgs_cons (pg_name (i := 3) scLCells.nd rfl (.inl rfl)) (pgs_cons (pg_name (i := 4) scLCells.nd rfl (.inl rfl)) (pgs_cons (pg_name (i := 5) scLCells.nd rfl (.inl rfl)) (pgs_cons (pg_name (i := 6) scLCells.nd rfl (.inl rfl)) pgs_nil))))))
      (pss_cons (ps_par (i := 7) (j := 8) (by rfl) scLCells.nd rfl rfl (by decide) rfl rfl (pa_cons (pe_call (ok_map L.lmap.F B) (hr.mono (by decide)) (by rfl) L.lmap.g L.lmap.F.kp L.lmap.b .nil pass0 (pa_cons (pv 1) pa_nil)) (pa_cons (pe_lst pa_nil) pa_nil)) (by rfl))
      (pss_cons (ps_lock (ps_for PassesOwn.never rfl (pi_keys (pv 7)) (pg_name (i := 9) scLCells.nd rfl (.inl rfl))
        (pss_cons (ps_set (i := 10) scLCells.nd rfl (.inl rfl) (pe_dget hu (pv 7) (pv 9) (fun _ _ => rfl)))
      (pss_one (ps_expr (pe_bm PySem.F.plainAttrs_list PySem.F.slot_list_append PySem.F.type_list_append mt_append (pv 8) (pa_cons (pe_ifExp (pt_cmpR op_isN (pv 10) pe_non (nomark _)) pe_int (pe_ifExp (pt_cmpR (r := rIn K false) op_in_seq (pv 10) (pv 4) (by rfl)) (pe_op op_add (pe_tupIndexF (pv 4) (pa_cons (pv 10) pa_nil)) pe_int) (pe_op op_add (pe_callB (r := rLenQ K) call_len_seq (by rfl) B.len PySem.boot_len (pa_cons (pv 4) pa_nil)) pe_int))) pa_nil)))))))
      (pss_one (ps_ret (pe_op op_cat (pv 8) (pe_op op_rep (pe_lst (pa_cons pe_int pa_nil)) (pe_op op_sub (pe_call (ok_lPow L.lpow.F B) (hr.mono (by decide)) (by rfl) L.lpow.g L.lpow.F.kp L.lpow.b .nil pass0 (pa_cons (pe_callB (r := rLenQ K) call_len_seq (by rfl) B.len PySem.boot_len (pa_cons (pv 8) pa_nil)) (pa_cons (pv 2) pa_nil))) (pe_callB (r := rLenQ K) call_len_seq (by rfl) B.len PySem.boot_len (pa_cons (pv 8) pa_nil))))))))), ?_⟩
    obtain ⟨m, tg, q, xs, rfl, em, ht, eq, hs⟩ := hm.ex
    refine ⟨_, rfl, m, _, rfl, sqt_of em, rfl, _, _, rfl, _, _, rfl, _, _, rfl, _, _, rfl, rfl, ?_⟩
    refine ⟨_, rfl, tv, t, rfl, T, sz, fun d H1 nd hd k1 => ?_⟩
    refine ⟨Nat.zero_le _, fun F nF => ⟨_, _, rfl, ?_⟩⟩
    have kF : Kp [] H1 (upd H1 F (.lst [])) := .new nF
    have eF : (upd H1 F (.lst [])) F = some (.lst []) := upd_same
    have hd2 := kF.at_ _ _ hd List.not_mem_nil
    have k2 := k1.trans kF
    have nFH := k1.free nF List.not_mem_nil
    generalize upd H1 F (.lst []) = H2 at eF hd2 k2
    have hFd : F ≠ d := fun e => by rw [e, hd] at nF; cases nF
    refine ⟨d, _, hd2, trivial, fun od => ?_⟩
    have kL : Kp [d] H2 (upd H2 d (.frz od (.dK (mapK (ps t))))) := .put (by simp) hd2 (fun _ z => by cases z)
    have eL : (upd H2 d (.frz od (.dK (mapK (ps t))))) d = some (.frz od (.dK (mapK (ps t)))) := upd_same
    have eF3 := kL.at_ _ _ eF (by simp [hFd])
    have k3 : Kp [] H (upd H2 d (.frz od (.dK (mapK (ps t))))) := k2.own nd
    generalize upd H2 d (.frz od (.dK (mapK (ps t)))) = H3 at eL eF3 k3
    have lk : (mapK (ps t)).length = (ps t).length := by rw [mapK, List.length_map]
    have lps := ps_len t
    refine ⟨_, rfl, d, od, rfl, .inl ⟨_, eL, ?_⟩⟩
    refine for_it (walk_keys (d := d) (o := od) (kvs := mapK (ps t))) (fun i σ G => (∃ y9 y10 : Option V, σ = [some (.ref m), some tv, some (.int c), some (.str "tape"), some (.ref tg), some (.int s), some (.ref q), some (.ref d), some (.ref F), y9, y10]) ∧ G F = some (.lst (intsV (((ps t).take i).map fun x => signT gs x.2))) ∧ G d = some (.frz od (.dK (mapK (ps t)))) ∧ Kp [] H G)
      ⟨⟨_, _, rfl⟩, eF3, eL, k3⟩ (fun i σ G _ h => h.2.2.1) ?_ ?_
    · rintro i x σ G G1 hi ⟨⟨y9, y10, rfl⟩, hF, hdG, kG⟩ ⟨rfl, ky, vv, hkv, rfl⟩
      obtain ⟨⟨p, tr⟩, hx, e2⟩ : ∃ y, (ps t)[i]? = some y ∧ (Sum.inr (st y.1), tagV y.2) = (ky, vv) := by
        rw [mapK, List.getElem?_map] at hkv
        obtain ⟨y, h1, h2⟩ := Option.map_eq_some_iff.mp hkv
        exact ⟨y, h1, h2⟩
      cases e2
      have hg : DGet G1 d (kV (.inr (st p))) (some (tagV tr)) := by
        have q1 := map_get (ps_nodup t) (List.mem_of_getElem? hx)
        exact .inl ⟨mapK (ps t), .inr (st p), .inr ⟨od, hdG⟩, rfl, q1.symm⟩
      have ht1 : FzT G1 tg (gs.map V.str) := ht.kp kG List.not_mem_nil
      refine ⟨_, rfl, _, rfl, d, _, rfl, hg, ?_⟩
      have fin : ∀ n : Nat, n = signT gs tr → ∃ l, ∃ zs : List V, ∃ y : V, V.ref F = .ref l ∧ [V.int (n : Int)] = [y] ∧ G1 l = some (.lst zs) ∧ zs.length < sizeLine ∧ (upd G1 l (.lst (zs ++ [y]))) F = some (.lst (intsV (((ps t).take (i + 1)).map fun x => signT gs x.2))) := by
        intro n hn
        refine ⟨F, _, _, rfl, rfl, hF, ?_, ?_⟩
        · rw [ints_len, List.length_map, List.length_take]
          exact Nat.lt_of_le_of_lt (Nat.min_le_right _ _) (Nat.lt_of_le_of_lt (show (ps t).length ≤ 51 by omega) (by decide))
        · rw [upd_same, List.take_add_one, hx, hn]
          unfold intsV
          simp
      refine ⟨_, rfl, .inl ⟨rfl, _, sql_of hF⟩, _, rfl, rfl, _, rfl, ?_⟩
      have kE : ∀ ys : List V, Kp [] H (upd G1 F (.lst ys)) := fun ys => kG.own nFH
      have dE : ∀ ys : List V, (upd G1 F (.lst ys)) d = some (.frz od (.dK (mapK (ps t)))) := fun ys => (upd_ne hFd.symm).trans hdG
      cases tr with
      | nil =>
        refine iteT ?_
        obtain ⟨l, zs, y, h1, h2, h3, h4, h5⟩ := fin 0 rfl
        cases h1
        cases h2
        exact ⟨F, zs, _, rfl, rfl, h3, h4, ⟨_, _, rfl⟩, h5, dE _, kE _⟩
      | nd g ll rr =>
        refine iteF ⟨_, rfl, _, rfl, tg, _, rfl, .inr ht1.sqt, rfl, ?_, _, rfl, ?_⟩
        · rw [List.all_map]
          exact List.all_eq_true.mpr fun _ _ => rfl
        show if inV (.str g) (gs.map V.str) = true then _ else _
        rw [inV_strs]
        cases hin : gs.any fun t => decide (t = g) with
        | true =>
          obtain ⟨w1, w2⟩ := posOf_get hin
          refine iteT ⟨_, rfl, tg, gs, rfl, ht1, _, rfl, g, posOf g gs, rfl, ht1, w1, w2, _, _, rfl, rfl, ?_⟩
          obtain ⟨l, zs, y, h1, h2, h3, h4, h5⟩ := fin (posOf g gs + 1) (by show posOf g gs + 1 = 1 + posOf g gs; omega)
          cases h1
          cases h2
          exact ⟨F, zs, _, rfl, rfl, h3, h4, ⟨_, _, rfl⟩, h5, dE _, kE _⟩
        | false =>
          refine iteF ⟨_, rfl, tg, _, rfl, .inr ht1.sqt, _, _, rfl, rfl, ?_⟩
          obtain ⟨l, zs, y, h1, h2, h3, h4, h5⟩ := fin ((gs.map V.str).length + 1) (by show _ = 1 + posOf g gs; rw [posOf_no hin, List.length_map]; omega)
          cases h1
          cases h2
          exact ⟨F, zs, _, rfl, rfl, h3, h4, ⟨_, _, rfl⟩, h5, dE _, kE _⟩
    · rintro σ G ⟨⟨y9, y10, rfl⟩, hF, hdG, kG⟩
      rw [lk, List.take_length] at hF
      have kU : Kp [d] G (upd G d (.dK (mapK (ps t)))) := .put (by simp) hdG (fun _ z => by cases z)
      have hD := kU.at_ _ _ hF (by simp [hFd])
      have k5 : Kp [] H (upd G d (.dK (mapK (ps t)))) := kG.own nd
      refine ⟨hdG, ?_⟩
      have eG : ∀ o : HO, o = .dK (mapK (ps t)) → upd G d o = upd G d (.dK (mapK (ps t))) := fun o e => by rw [e]
      generalize upd G d (.dK (mapK (ps t))) = G5 at hD k5 eG ⊢
      generalize hx : intsV ((ps t).map fun x => signT gs x.2) = xs5 at hD
      have lx : xs5.length = 2 * t.sz + 1 := by rw [← hx, ints_len, List.length_map, ps_len]
      refine ⟨_, rfl, by show 1 ≤ sizeLine; decide, fun z nz => ?_⟩
      have hD1 : (upd G5 z (.lst [.int 0])) F = some (.lst xs5) := (upd_ne (ne_of_none hD nz)).trans hD
      have kz : Kp [] G5 (upd G5 z (.lst [.int 0])) := .new nz
      refine ⟨_, rfl, F, xs5, rfl, .inl (sql_of hD1), _, rfl, 2 * t.sz + 1, c, ?_, by omega, by omega, by omega, hN, _, rfl, F, xs5, rfl, .inl (sql_of hD1), _, _, rfl, rfl, z, _, [.int 0], rfl, rfl, upd_same, ?_, ?_, ?_, fun y ny => ?_⟩
      · rw [lx]
        rfl
      · rw [lx]
        have : (2 * t.sz + 1) ≤ (2 * t.sz + 1) ^ c := Nat.le_self_pow (by omega) _
        omega
      · rw [lx]
        omega
      · rw [lx]
        show 1 * _ ≤ sizeLine
        have : sizeLine ≥ 100000 := by decide
        omega
      have lz : (intsV (cells0 gs t c)) = xs5 ++ List.replicate ((2 * t.sz + 1) ^ c - (2 * t.sz + 1)) (.int 0) := by
        rw [← hx]
        unfold cells0 intsV
        rw [List.map_append, List.map_replicate]
        rfl
      have er : (List.replicate ((((2 * t.sz + 1) ^ c : Nat) : Int) - (xs5.length : Nat)).toNat [V.int 0]).flatten = List.replicate ((2 * t.sz + 1) ^ c - (2 * t.sz + 1)) (.int 0) := by
        rw [lx, show ((((2 * t.sz + 1) ^ c : Nat) : Int) - ((2 * t.sz + 1 : Nat) : Int)).toNat = (2 * t.sz + 1) ^ c - (2 * t.sz + 1) by omega]
        generalize (2 * t.sz + 1) ^ c - (2 * t.sz + 1) = n
        induction n with
        | zero => rfl
        | succ n ih => rw [List.replicate_succ, List.flatten_cons, ih]; rfl
      rw [er]
      have hy : ∀ o : HO, (upd (upd G5 z (.lst [.int 0])) y o) F = some (.lst xs5) := fun o => (upd_ne (ne_of_none hD1 ny)).trans hD1
      refine ⟨F, y, xs5, _, rfl, rfl, hy _, upd_same, ?_, fun p np => ?_⟩
      · rw [lx, List.length_replicate]
        exact Nat.le_trans (show _ ≤ 20000 by have : 2 * t.sz + 1 ≤ (2 * t.sz + 1) ^ c := Nat.le_self_pow (by omega) _; omega) (by decide)
      rw [← lz]
      have k6 := (k5.trans kz).trans (.new ny (o := .lst (List.replicate ((2 * t.sz + 1) ^ c - (2 * t.sz + 1)) (V.int 0))))
      exact k p _ (k6.free np List.not_mem_nil) upd_same (k6.trans (.new np))
abbrev NLs : List Str := ["_law_machine", "_law_tree_here", "_law_c", "_law_many", "_law_cells_here", "_law_state", "_law_head", "_law_turn", "_law_to", "_law_sign", "_law_move"]
theorem scLStand : FnScope NLs ["_law_machine", "_law_tree_here", "_law_c", "_law_many"] (defScope sLStand) := ⟨rfl, rfl, rfl, by decide +kernel, rfl, by decide +kernel, by decide +kernel⟩
def spLStand : Sp := fun vs H Q _ => ∃ (mv tv : V) (c many : Nat) (gs : List Str) (s : Nat) (ss : List (List Rule)) (t : Tr), vs = [mv, tv, .int c, .int many] ∧ MachAt H mv gs s ss ∧ MachOk gs s ss ∧ TreeAt H tv t ∧ t.sz ≤ 25 ∧ 0 < c ∧ c ≤ 16 ∧ (2 * t.sz + 1) ^ c ≤ 10000 ∧ many ≤ 100000 ∧
  ∀ (r ct : Addr) (H' : Hp), H' r = some (.tup [.int (runN ss many (cfg0 gs t c)).q, .int (runN ss many (cfg0 gs t c)).h, .ref ct]) → H' ct = some (.tup (intsV (runN ss many (cfg0 gs t c)).cs)) → Kp [] H H' → Q (.ref r) H'
theorem ok_lStand {f : Addr} {fd : FuncData} (F : Fun K "_law_standing" "_law_standing" sLStand f fd) (L : LC K mg A D) : FnOk Pr w K mg base CX0 3 f fd ["_law_machine", "_law_tree_here", "_law_c", "_law_many"] spLStand := by
  have B := L.B
  refine F.ok scLStand (fun vs H Q E h => ?_) (fun cdv Ar outer s0 H vs Q E hr h => ?_)
  · obtain ⟨mv, tv, c, many, gs, s, ss, t, rfl, _⟩ := h
    rfl
  · obtain ⟨mv, tv, c, many, gs, sn, ss, t, rfl, hm, ho, T, sz, c0, c16, hN, hmany, k⟩ := h
    refine ⟨_, pss_cons (ps_par3 (i := 4) (j := 5) (l := 6) (by rfl) scLStand.nd rfl rfl rfl (by decide) (by decide) (by decide) rfl rfl rfl (pa_cons (pe_call (ok_lCells L) (hr.mono (by decide)) (by rfl) L.lcells.g L.lcells.F.kp L.lcells.b .nil pass0 (pa_cons (pv 0) (pa_cons (pv 1) (pa_cons (pv 2) pa_nil)))) (pa_cons pe_int (pa_cons pe_int pa_nil))) (by rfl))
      (pss_cons (ps_for PassesOwn.never rfl (pi_range1 (by rfl) B.range (pa_cons (pv 3) pa_nil)) (pg_name (i := 7) scLStand.nd rfl (.inl rfl))
        (pss_one (ps_if (pt_cmpR op_lt (pv 5) (pe_callB (r := rLenQ K) call_len_seq (by rfl) B.len PySem.boot_len (pa_cons (pe_ix ix_tup (pv 0) pe_int (fun _ _ => rfl)) pa_nil)) (nomark _))
        (pss_cons (ps_asg (pe_ix ix_tup (pe_ix ix_tup (pe_ix ix_tup (pv 0) pe_int (fun _ _ => rfl)) (pv 5) (fun _ _ => rfl)) (pe_ix ix_list (pv 4) (pv 6) (fun _ _ => rfl)) (fun _ _ => rfl)) (pg_tup (n := 3) (by rfl) (pgs_cons (pg_name (i := 8) scLStand.nd rfl (.inl rfl)) (pgs_cons (pg_name (i := 9) scLStand.nd rfl (.inl rfl)) (pgs_cons (pg_name (i := 10) scLStand.nd rfl (.inl rfl)) pgs_nil)))))
      (pss_cons (ps_asg (pv 9) (pg_sub (pv 4) (pv 6) set_list))
      (pss_one (ps_par (i := 6) (j := 5) (by rfl) scLStand.nd rfl rfl (by decide) rfl rfl (pa_cons (pe_callB (call_min2 rfl) (by rfl) B.min (by decide +kernel) (pa_cons (pe_op op_sub (pe_callB (r := rLenQ K) call_len_seq (by rfl) B.len PySem.boot_len (pa_cons (pv 4) pa_nil)) pe_int) (pa_cons (pe_callB (call_max2 rfl) (by rfl) B.max (by decide +kernel) (pa_cons pe_int (pa_cons (pe_op op_add (pv 6) (pv 10)) pa_nil))) pa_nil))) (pa_cons (pv 8) pa_nil)) (by rfl))))) pss_nil)))
      (pss_one (ps_ret (pe_tup (pa_cons (pv 5) (pa_cons (pv 6) (pa_cons (pe_callTy call_tuple_of (by rfl) B.tuple (by decide +kernel) (pa_cons (pv 4) pa_nil)) pa_nil))))))), ?_⟩
    obtain ⟨m, tg, q, xs, rfl, em, ht, eq, hs⟩ := id hm.ex
    refine ⟨_, rfl, _, rfl, _, rfl, .ref m, tv, c, gs, sn, ss, t, rfl, hm, ho, T, sz, c0, c16, hN, fun p H1 np hp k1 => ?_⟩
    have lx := hs.len
    have hc0 := cfg0_ok ho t c0
    have rk := run_ok ho hc0
    refine ⟨_, _, _, rfl, ?_⟩
    refine ⟨_, rfl, (many : Int), rfl, by omega, by omega, ?_⟩
    rw [Int.toNat_natCast]
    refine for_range (lo := 0) (n := many) (fun i σ G => (∃ y7 y8 y9 y10 : Option V, σ = [some (.ref m), some tv, some (.int c), some (.int many), some (.ref p), some (.int (runN ss i (cfg0 gs t c)).q), some (.int (runN ss i (cfg0 gs t c)).h), y7, y8, y9, y10]) ∧ G p = some (.lst (intsV (runN ss i (cfg0 gs t c)).cs)) ∧ Kp [] H G)
      ⟨⟨_, _, _, _, rfl⟩, hp, k1⟩ ?_ ?_
    · rintro i σ G hi ⟨⟨y7, y8, y9, y10, rfl⟩, hpG, kG⟩
      have rki := rk i
      have e1 : runN ss (i + 1) (cfg0 gs t c) = stp ss (runN ss i (cfg0 gs t c)) := rfl
      rw [e1]
      clear e1 rk
      generalize runN ss i (cfg0 gs t c) = x at rki hpG
      have eqG := kG.tup _ _ eq
      have emG := kG.tup _ _ em
      refine ⟨_, rfl, _, rfl, m, _, _, _, rfl, rfl, sqt_of emG, atI_nat (j := 3) rfl, q, xs, rfl, .inr (sqt_of eqG), _, _, rfl, rfl, _, rfl, ite2 (fun h => ?_) (fun h => ?_)⟩
      rotate_left
      · have hn : ¬ x.q < ss.length := fun z => h (decide_eq_true (by rw [lx]; omega))
        have es : stp ss x = x := if_neg hn
        rw [es]
        exact ⟨⟨_, _, _, _, rfl⟩, hpG, kG⟩
      have hq : x.q < ss.length := by
        have z := of_decide_eq_true h
        omega
      have es : stp ss x = _ := if_pos hq
      rw [es]
      clear es h
      have hlt : x.h < x.cs.length := by rw [rki.l]; exact rki.h
      have ec : x.cs[x.h]? = some (x.cs.getD x.h 0) := by rw [List.getD_eq_getElem?_getD, List.getElem?_eq_getElem hlt]; rfl
      obtain ⟨rs, g1, g2, g3⟩ := rul_ok ho hq (rki.c _ (List.mem_of_getElem? ec))
      generalize hru : rul ss x.q (x.cs.getD x.h 0) = ru at g2 g3 ⊢
      obtain ⟨v1, gv1, pa, ya, rfl, epa, ha⟩ := hs.get g1
      obtain ⟨v2, gv2, pb, rfl, epb⟩ := ha.get g2
      have ecv : (intsV x.cs)[x.h]? = some (.int (x.cs.getD x.h 0 : Nat)) := by
        unfold intsV
        rw [List.getElem?_map, ec]
        rfl
      have ix : ixN (intsV x.cs).length (x.h : Int) = some x.h := by
        unfold ixN
        rw [if_pos (by omega), if_pos (by rw [ints_len]; omega)]
        rfl
      refine ⟨_, rfl, m, _, _, _, rfl, rfl, sqt_of emG, atI_nat (j := 3) rfl, _, rfl, q, xs, _, _, rfl, rfl, sqt_of eqG, atI_nat gv1, _, rfl, _, rfl, p, _, _, _, rfl, rfl, sql_of hpG, atI_nat ecv, pa, ya, _, _, rfl, rfl, sqt_of (kG.tup _ _ epa), atI_nat gv2, ?_⟩
      refine ⟨pb, _, rfl, sqt_of (kG.tup _ _ epb), rfl, _, _, rfl, _, _, rfl, _, _, rfl, rfl, ?_⟩
      refine ⟨_, rfl, _, rfl, _, rfl, p, _, _, x.h, rfl, rfl, hpG, ix, ?_⟩
      have eset : (intsV x.cs).set x.h (.int ru.2.1) = intsV (x.cs.set x.h ru.2.1) := by
        unfold intsV
        rw [List.map_set]
      have kp1 : Kp [] H (upd G p (.lst ((intsV x.cs).set x.h (.int ru.2.1)))) := kG.own np
      rw [eset] at kp1 ⊢
      have hp1 : (upd G p (.lst (intsV (x.cs.set x.h ru.2.1)))) p = some (.lst (intsV (x.cs.set x.h ru.2.1))) := upd_same
      generalize upd G p (.lst (intsV (x.cs.set x.h ru.2.1))) = G1 at kp1 hp1 ⊢
      refine ⟨_, rfl, p, _, rfl, .inl (sql_of hp1), _, _, rfl, rfl, _, rfl, _, rfl, _, _, rfl, rfl, _, _, rfl, _, _, rfl, _, rfl, _, _, rfl, ?_⟩
      refine ⟨⟨some (.int (0 + (i : Int))), some (.int ru.1), some (.int ru.2.1), some (.int ru.2.2), ?_⟩, hp1, kp1⟩
      have ecl := clamp_eq2 x.h ru.2.2 x.cs.length (by omega)
      have el : (((intsV (x.cs.set x.h ru.2.1)).length : Nat) : Int) = (x.cs.length : Nat) := by rw [ints_len, List.length_set]
      show [_, _, _, _, _, _, some (V.int (if (if (x.h : Int) + ru.2.2 > 0 then (x.h : Int) + ru.2.2 else 0) < ((intsV (x.cs.set x.h ru.2.1)).length : Nat) - (1 : Int) then (if (x.h : Int) + ru.2.2 > 0 then (x.h : Int) + ru.2.2 else 0) else ((intsV (x.cs.set x.h ru.2.1)).length : Nat) - (1 : Int))), _, _, _, _] = _
      rw [el, ecl]
    · rintro σ G ⟨⟨y7, y8, y9, y10, rfl⟩, hpG, kG⟩
      refine ⟨_, rfl, _, rfl, _, rfl, p, _, rfl, .inl ⟨sql_of hpG, fun ct nct => ?_⟩⟩
      have hct : (upd G ct (.tup (intsV (runN ss many (cfg0 gs t c)).cs))) ct = some (.tup (intsV (runN ss many (cfg0 gs t c)).cs)) := upd_same
      refine ⟨by show 3 ≤ sizeLine; decide, fun r nr => ?_⟩
      exact k r ct _ upd_same ((upd_ne (ne_of_none hct nr)).trans hct) ((kG.trans (.new nct)).trans (.new nr))
end
end Ey
set_option maxHeartbeats 4000000
namespace Ey
open PySem PySem.Spec L2
section
variable {Pr : Program} {w : World} {K : PySem.W.Frag} {mg : Str → Option Value} {base : Heap} {a : Adr}
abbrev NTs : List Str := ["machine", "tree", "c", "many"]
theorem scTSt : FnScope NTs ["machine", "tree", "c", "many"] (defScope sTStand) := ⟨rfl, rfl, rfl, by decide +kernel, rfl, by decide +kernel, by decide +kernel⟩
def spTS (Ts : List Addr) : Sp := fun vs H Q _ => ∃ (mv tv : V) (c many : Nat) (gs : List Str) (s : Nat) (ss : List (List Rule)) (t : Tr), vs = [mv, tv, .int c, .int many] ∧ MachAt H mv gs s ss ∧ MachOk gs s ss ∧ TreeAt H tv t ∧ t.ok ∧ t.sz ≤ 100 ∧ 0 < c ∧ c < 16 ∧ (2 * t.sz + 1) ^ c ≤ 10000 ∧ many ≤ 100000 ∧ TTs Ts H ∧
  ∀ (r ct : Addr) (H' : Hp), H' r = some (.tup [.int (runN ss many (cfg0 gs t c)).q, .int (runN ss many (cfg0 gs t c)).h, .ref ct]) → H' ct = some (.tup (intsV (runN ss many (cfg0 gs t c)).cs)) → TTs Ts H' → Kp Ts H H' → Q (.ref r) H'
theorem ok_tstand (F : PG K mg a) (b : BF base mg a) : FnOk Pr w K mg base CX0 12 (a.A 27) (a.D 27) ["machine", "tree", "c", "many"] (spTS a.Ts) := by
  have B := F.B
  refine F.tstand.F.ok scTSt (fun vs H Q E h => ?_) (fun cdv Ar outer s0 H vs Q E hr h => ?_)
  · obtain ⟨mv, tv, c, many, gs, s, ss, t, rfl, _⟩ := h
    rfl
  · obtain ⟨mv, tv, c, many, gs, s, ss, t, rfl, hm, ho, T, ok, sz, c0, c16, hN, hmany, g, k⟩ := h
    refine ⟨_, pss_cons (ps_expr (pe_call (ok_checkG F b) (hr.mono (by decide)) (by rfl) F.checkC.g F.checkC.F.kp F.checkC.b .nil pass0 (pa_cons (pv 0) (pa_cons (pv 1) (pa_cons (pv 2) pa_nil)))))
      (pss_cons (ps_if (pt_not (pt_val (pe_call (ok_nat F) (hr.mono (by decide)) (by rfl) F.nat.g F.nat.F.kp F.nat.b .nil pass0 (pa_cons (pv 3) pa_nil))))
        (pss_one ps_never) pss_nil)
      (pss_one (ps_ret (pe_call (ok_after F) (hr.mono (by decide)) (by rfl) F.after.g F.after.F.kp F.after.b .nil pass0 (pa_cons (pv 0) (pa_cons (pe_call (ok_cells F) (hr.mono (by decide)) (by rfl) F.cells.g F.cells.F.kp F.cells.b .nil pass0 (pa_cons (pe_ix ix_tup (pv 0) pe_int (fun _ _ => rfl)) (pa_cons (pv 1) (pa_cons (pv 2) pa_nil)))) (pa_cons (pv 3) pa_nil))))))), ?_⟩
    refine ⟨_, rfl, _, rfl, _, rfl, mv, tv, c, gs, s, ss, t, rfl, hm, ho, T, ok, by omega, by omega, g, fun H1 g1 k1 => ?_⟩
    have hm1 := hm.kpT g k1
    have T1 := T.kp k1
    refine ⟨_, rfl, (many : Int), rfl, by omega, true, rfl, iteF ?_⟩
    obtain ⟨m, tg, q, xs, rfl, em, ht, eq, hs⟩ := id hm1.ex
    refine ⟨_, rfl, _, rfl, m, _, _, _, rfl, rfl, sqt_of em, atI_nat (j := 1) rfl, _, rfl, _, rfl, tg, tv, c, gs, t, rfl, ht, ho.l3, T1, sz, c0, c16, hN, fun p H2 np hp k2 => ?_⟩
    have lN : (2 * t.sz + 1) ^ c = (2 * t.sz + 1) ^ c := rfl
    refine ⟨_, rfl, .ref m, p, many, (2 * t.sz + 1) ^ c, gs, s, ss, cells0 gs t c, rfl, hm1.kp0 k2, ho, hp, cfg0_ok ho t c0, hN, hmany, fun r ct H3 h1 h2 k3 => ?_⟩
    have npT : p ∉ a.Ts := (g1.kp0 k2).nino hp (fun ps z => by cases z)
    refine k r ct H3 h1 h2 ((g1.kp0 k2).kp k3 fun P hP hm => npT (List.mem_singleton.mp hm ▸ hP)) ⟨fun b o e n => ?_, fun b xs e => k3.tup _ _ (k2.tup _ _ (k1.tup _ _ e))⟩
    have e1 := k1.at_ _ _ e n
    refine k3.at_ _ _ (k2.at_ _ _ e1 List.not_mem_nil) fun hm => ?_
    rw [List.mem_singleton.mp hm, np] at e1
    cases e1
end
end Ey
set_option maxHeartbeats 4000000
namespace Ey
open PySem PySem.Spec L2
theorem re_an {ms : List Addr} {n w : Nat} {H : Hp} {v : V} {d : PyData} {Q : VK} (h : An ms H v d) (g : Good n w d) (hn : n ≤ 100) (hw : w ≤ 1000000) (q : Q (.str d.shown) H) : rReprE [v] H Q :=
  ⟨ms, v, d, rfl, h, g.f, Nat.le_trans g.d hn, Nat.le_trans g.w hw, q⟩
/-- what stands all through the law -/
structure LI (d l : Addr) (Ts : List Addr) (H : Hp) : Prop where
  fr : Frame (d :: l :: Ts) d l H
  tg : TTs Ts H
theorem LI.nd {d l : Addr} {Ts : List Addr} {H : Hp} (h : LI d l Ts H) : d ∉ Ts ∧ l ∉ Ts := by
  obtain ⟨m, n, ns, h1, h2, _⟩ := h.fr.dk.ex
  exact ⟨h.tg.nino h1 (fun ps z => by cases z), h.tg.nino h2 (fun ps z => by cases z)⟩
section
variable {d l : Addr} {Ts : List Addr} {H H1 : Hp}
theorem LI.sub : ∀ y ∈ Ts, y ∈ d :: l :: Ts := fun y hy => by simp [hy]
theorem LI.own (h : LI d l Ts H) (k : Kp [d, l] H H1) (F : Frame (d :: l :: Ts) d l H1) : LI d l Ts H1 := by
  refine ⟨F, h.tg.kp k fun P hP hm => ?_⟩
  rcases List.mem_cons.mp hm with rfl | hm
  · exact h.nd.1 hP
  · rw [List.mem_singleton.mp hm] at hP
    exact h.nd.2 hP
theorem LI.kp0 (h : LI d l Ts H) (k : Kp [] H H1) : LI d l Ts H1 := ⟨h.fr.kp0 k, h.tg.kp0 k⟩
theorem LI.new {p : Addr} {o : HO} (h : LI d l Ts H) (n : H p = none) : LI d l Ts (upd H p o) := h.kp0 (.new n)
theorem LI.prog (h : LI d l Ts H) (k : Kp Ts H H1) (g : TTs Ts H1) : LI d l Ts H1 := by
  refine ⟨⟨h.fr.dk.kp k h.nd.1 h.nd.2, h.fr.dm, h.fr.lm, h.fr.has.kp k fun b hb => ?_⟩, g⟩
  obtain ⟨ps, e, _⟩ := g b hb
  rw [e]
  exact fun z => nomatch z
end
/-- a tuple, known to its object or not -/
def TupX (H : Hp) (t : Addr) (xs : List V) : Prop := FzT H t xs ∨ H t = some (.tup xs)
theorem TupX.sqt {K : PySem.W.Frag} {H : Hp} {t : Addr} {xs : List V} (h : TupX H t xs) : SqT K H t xs := h.elim (fun q => q.sqt) sqt_of
theorem TupX.nin {ms : List Addr} {d l t : Addr} {xs : List V} {H : Hp} (h : TupX H t xs) (F : Frame ms d l H) : t ∉ [d, l] := by
  rcases h with h | h
  · exact F.tnin h
  · obtain ⟨m, n, ns, h1, h2, _⟩ := F.dk.ex
    intro hm
    rcases List.mem_cons.mp hm with rfl | hm
    · rw [h1] at h
      cases h
    · rw [List.mem_singleton.mp hm, h2] at h
      cases h
def rCatZ : R2 := fun x y H Q => ∃ (a b : Addr) (xs ys : List V), x = .ref a ∧ y = .ref b ∧ FzT H a xs ∧ FzT H b ys ∧ xs.length + ys.length ≤ sizeLine ∧ ∀ (q : Addr) (H' : Hp), TupX H' q (xs ++ ys) → Kp [] H H' → Q (.ref q) H'
theorem op_catZ {X : Cx} : OpR X (binaryOp .Add) rCatZ := by
  intro pins s σ H x y v u Q I rx ry h
  obtain ⟨a, b, xs, ys, rfl, rfl, ea, eb, hz, k⟩ := h
  refine op_catA pins s σ H _ _ v u Q I rx ry ⟨a, b, xs, ys, rfl, rfl, ea.sqt, eb.sqt, hz, fun e => k b H ?_ .refl, fun _ e => k a H ?_ .refl, fun _ _ p np => k p _ (.inr upd_same) (.new np)⟩
  · rw [e]
    exact .inl eb
  · rw [e, List.append_nil]
    exact .inl ea
theorem runN_q {gs : List Str} {s L : Nat} {ss : List (List Rule)} {x : Cfg} (ho : MachOk gs s ss) (h : CfgOk ss s L x) (hq : x.q ≤ ss.length + 1) : ∀ n, (runN ss n x).q ≤ ss.length + 1
  | 0 => hq
  | n + 1 => by
    have ih := runN_q ho h hq n
    have ok := run_ok ho h n
    show (stp ss (runN ss n x)).q ≤ _
    generalize runN ss n x = y at ih ok
    unfold stp
    split
    · rename_i hy
      have hlt : y.h < y.cs.length := by rw [ok.l]; exact ok.h
      have hc : y.cs.getD y.h 0 < s := by
        rw [List.getD_eq_getElem?_getD, List.getElem?_eq_getElem hlt]
        exact ok.c _ (List.getElem_mem hlt)
      obtain ⟨rs, g1, g2, _⟩ := rul_ok ho hy hc
      exact ((ho.st rs (List.mem_of_getElem? g1)).2 _ (List.mem_of_getElem? g2)).1
    · exact ih
def resD (x : Cfg) : PyData := .tuple [.int x.q, .int x.h, .tuple (x.cs.map fun (n : Nat) => .int n)]
theorem ints_an {ms : List Addr} {H : Hp} : ∀ l : List Nat, AnAll ms H (intsV l) (l.map fun (n : Nat) => .int n)
  | [] => .nil
  | n :: r => .cons (.int _) (ints_an r)
theorem int_fit {n : Nat} (h : n ≤ 100000) : fit (.int (n : Int)) = true := by
  show decide ((n : Int).natAbs < 10 ^ 40) = true
  exact decide_eq_true (Nat.lt_of_le_of_lt (show (n : Int).natAbs ≤ 100000 by omega) (by decide +kernel))
theorem ints_good : ∀ l : List Nat, (∀ y ∈ l, y ≤ 100000) → fitAll (l.map fun (n : Nat) => .int n) = true ∧ PyData.depthAll (l.map fun (n : Nat) => .int n) = 0 ∧ wdAll (l.map fun (n : Nat) => .int n) = 47 * l.length
  | [], _ => ⟨rfl, rfl, rfl⟩
  | n :: r, h => by
    obtain ⟨a, b, c⟩ := ints_good r fun y hy => h y (List.mem_cons_of_mem _ hy)
    refine ⟨?_, ?_, ?_⟩
    · show (fit (.int (n : Int)) && fitAll (r.map fun (n : Nat) => .int n)) = true
      rw [int_fit (h n List.mem_cons_self), a]
      rfl
    · show max 0 (PyData.depthAll (r.map fun (n : Nat) => .int n)) = 0
      rw [b]
      rfl
    · show 45 + 2 + wdAll (r.map fun (n : Nat) => .int n) = 47 * (r.length + 1)
      rw [c]
      omega
theorem res_good {x : Cfg} {L : Nat} (hq : x.q ≤ 100000) (hh : x.h ≤ 100000) (hl : x.cs.length ≤ L) (hc : ∀ y ∈ x.cs, y ≤ 100000) (hL : L ≤ 10000) : Good 2 500000 (resD x) := by
  obtain ⟨a, b, c⟩ := ints_good x.cs hc
  refine ⟨?_, ?_, ?_⟩
  · show (fit (.int (x.q : Int)) && (fit (.int (x.h : Int)) && (fitAll (x.cs.map fun (n : Nat) => .int n) && true))) = true
    rw [int_fit hq, int_fit hh, a]
    rfl
  · show max 0 (max 0 (max (PyData.depthAll (x.cs.map fun (n : Nat) => .int n) + 1) 0)) + 1 ≤ 2
    rw [b]
    decide
  · show 45 + 2 + (45 + 2 + (wdAll (x.cs.map fun (n : Nat) => .int n) + 3 + 2 + 0)) + 3 ≤ 500000
    rw [c]
    omega
theorem pe_weak {X : Cx} {e : Expr} {te t1 : TE} (h : PE X e te) (c : ∀ σ H Q, t1 σ H Q → te σ H Q) : PE X e t1 := ⟨fun pins s σ H Q I q => h.run pins s σ H Q I (c σ H Q q)⟩
theorem re_anT {ms : List Addr} {n w : Nat} {H : Hp} {v : V} {d : PyData} {T : Str} {Q : VK} (h : An ms H v d) (g : Good n w d) (hn : n ≤ 100) (hw : w ≤ 1000000) (e : d.shown = T) (q : Q (.str T) H) : rReprE [v] H Q := re_an h g hn hw (e ▸ q)
theorem dl_frz {d l : Addr} {G : Hp} (DG : DeckAt G d l) : ∀ b ∈ [d, l], ∀ (o : Obj) (xs : List V), G b ≠ some (.frz o (.tup xs)) := by
  intro b hb o xs e
  obtain ⟨m, n, ms, h1, h2, _⟩ := DG.ex
  rcases List.mem_cons.mp hb with rfl | hb
  · rw [h1] at e
    cases e
  · rw [List.mem_singleton.mp hb, h2] at e
    cases e
theorem nodes_le1 {n : Nat} (h : n ≤ 24) : (2 * n + 1) ^ 1 ≤ 10000 := by rw [Nat.pow_one]; omega
theorem nodes_le2 {n : Nat} (h : n ≤ 3) : (2 * n + 1) ^ 2 ≤ 10000 := Nat.le_trans (Nat.pow_le_pow_left (show 2 * n + 1 ≤ 7 by omega) 2) (by decide)
abbrev sOut : Stmt := topS 28
abbrev sIsT : Stmt := topS 33
abbrev sLOut : Stmt := topS 41
abbrev sSeek : Stmt := topS 42
abbrev sExch : Stmt := topS 43
/-! ### outcomes -/
def yesB (gs : List Str) (ss : List (List Rule)) (t : Tr) (c : Nat) : Bool := decide ((runN ss ((2 * t.sz + 1) ^ c - 1) (cfg0 gs t c)).q = ss.length)
structure PO (K : PySem.W.Frag) (mg : Str → Option Value) (a : Adr) : Prop extends PG K mg a where
  out : Df K mg "tape_outcome" sOut ["machine", "tree", "c"] (a.A 28) (a.D 28)
structure LO (K : PySem.W.Frag) (mg : Str → Option Value) (A : Nat → Addr) (D : Nat → FuncData) : Prop extends LC K mg A D where
  isT : Df K mg "_law_is_tuple" sIsT ["_law_thing", "_law_many"] (A 33) (D 33)
  lstand : Df K mg "_law_standing" sLStand ["_law_machine", "_law_tree_here", "_law_c", "_law_many"] (A 40) (D 40)
  lout : Df K mg "_law_outcome" sLOut ["_law_machine", "_law_tree_here", "_law_c"] (A 41) (D 41)
  seek : Df K mg "_law_seeker" sSeek ["_law_deck_here"] (A 42) (D 42)
  exch : Df K mg "_law_exchanged" sExch ["_law_machine"] (A 43) (D 43)
theorem q_len (a b : Nat) : decide (V.int (a : Int) = V.int (b : Int)) = decide (a = b) := by
  rw [dec_int]
  by_cases h : a = b
  · rw [decide_eq_true h, decide_eq_true (by omega)]
  · rw [decide_eq_false h, decide_eq_false (by omega)]
section
variable {Pr : Program} {w : World} {K : PySem.W.Frag} {mg : Str → Option Value} {base : Heap} {A : Nat → Addr} {D : Nat → FuncData} {a : Adr}
abbrev NOu : List Str := ["machine", "tree", "c", "cells"]
theorem scOut : FnScope NOu ["machine", "tree", "c"] (defScope sOut) := ⟨rfl, rfl, rfl, by decide +kernel, rfl, by decide +kernel, by decide +kernel⟩
def spOut (Ts : List Addr) : Sp := fun vs H Q _ => ∃ (mv tv : V) (c : Nat) (gs : List Str) (s : Nat) (ss : List (List Rule)) (t : Tr), vs = [mv, tv, .int c] ∧ MachAt H mv gs s ss ∧ MachOk gs s ss ∧ TreeAt H tv t ∧ t.ok ∧ t.sz ≤ 100 ∧ 0 < c ∧ c < 16 ∧ (2 * t.sz + 1) ^ c ≤ 10000 ∧ TTs Ts H ∧
  ∀ H', TTs Ts H' → Kp Ts H H' → Q (.bl (yesB gs ss t c)) H'
theorem ok_out (F : PO K mg a) (b : BF base mg a) : FnOk Pr w K mg base CX0 12 (a.A 28) (a.D 28) ["machine", "tree", "c"] (spOut a.Ts) := by
  have B := F.B
  refine F.out.F.ok scOut (fun vs H Q E h => ?_) (fun cdv Ar outer s0 H vs Q E hr h => ?_)
  · obtain ⟨mv, tv, c, gs, s, ss, t, rfl, _⟩ := h
    rfl
  · obtain ⟨mv, tv, c, gs, s, ss, t, rfl, hm, ho, T, ok, sz, c0, c16, hN, g, k⟩ := h
    refine ⟨_, pss_cons (ps_expr (pe_call (ok_checkG F.toPG b) (hr.mono (by decide)) (by rfl) F.checkC.g F.checkC.F.kp F.checkC.b .nil pass0 (pa_cons (pv 0) (pa_cons (pv 1) (pa_cons (pv 2) pa_nil)))))
      (pss_cons (ps_set (i := 3) scOut.nd rfl (.inl rfl) (pe_call (ok_cells F.toPG) (hr.mono (by decide)) (by rfl) F.cells.g F.cells.F.kp F.cells.b .nil pass0 (pa_cons (pe_ix ix_tup (pv 0) pe_int (fun _ _ => rfl)) (pa_cons (pv 1) (pa_cons (pv 2) pa_nil)))))
      (pss_one (ps_ret (pe_cmpR op_eq (pe_ix ix_tup (pe_call (ok_after F.toPG) (hr.mono (by decide)) (by rfl) F.after.g F.after.F.kp F.after.b .nil pass0 (pa_cons (pv 0) (pa_cons (pv 3) (pa_cons (pe_op op_sub (pe_callB (r := rLenQ K) call_len_seq (by rfl) B.len PySem.boot_len (pa_cons (pv 3) pa_nil)) pe_int) pa_nil)))) pe_int (fun _ _ => rfl)) (pe_callB (r := rLenQ K) call_len_seq (by rfl) B.len PySem.boot_len (pa_cons (pe_ix ix_tup (pv 0) pe_int (fun _ _ => rfl)) pa_nil)) (nomark _))))), ?_⟩
    refine ⟨_, rfl, _, rfl, _, rfl, mv, tv, c, gs, s, ss, t, rfl, hm, ho, T, ok, by omega, by omega, g, fun H1 g1 k1 => ?_⟩
    have hm1 := hm.kpT g k1
    have T1 := T.kp k1
    obtain ⟨m, tg, q, xs, rfl, em, ht, eq, hs⟩ := id hm1.ex
    refine ⟨_, rfl, m, _, _, _, rfl, rfl, sqt_of em, atI_nat (j := 1) rfl, _, rfl, _, rfl, tg, tv, c, gs, t, rfl, ht, ho.l3, T1, sz, c0, c16, hN, fun p H2 np hp k2 => ?_⟩
    have lp : (intsV (cells0 gs t c)).length = (2 * t.sz + 1) ^ c := by rw [ints_len, cells0_len gs t c0]
    have N1 : 1 ≤ (2 * t.sz + 1) ^ c := Nat.pow_pos (by omega)
    have eN : (((intsV (cells0 gs t c)).length : Nat) : Int) - 1 = (((2 * t.sz + 1) ^ c - 1 : Nat) : Int) := by rw [lp]; omega
    refine ⟨_, rfl, _, rfl, _, rfl, p, _, rfl, .inl (sql_of hp), _, _, rfl, rfl, .ref m, p, (2 * t.sz + 1) ^ c - 1, (2 * t.sz + 1) ^ c, gs, s, ss, cells0 gs t c, congrArg (fun z => [V.ref m, V.ref p, V.int z]) eN, hm1.kp0 k2, ho, hp, cfg0_ok ho t c0, hN, by omega, fun r ct H3 h1 h2 k3 => ?_⟩
    have npT : p ∉ a.Ts := (g1.kp0 k2).nino hp (fun ps z => by cases z)
    have em3 := k3.tup _ _ (k2.tup _ _ em)
    have eq3 := k3.tup _ _ (k2.tup _ _ eq)
    refine ⟨r, _, _, _, rfl, rfl, sqt_of h1, atI_nat (j := 0) rfl, _, rfl, m, _, _, _, rfl, rfl, sqt_of em3, atI_nat (j := 3) rfl, q, xs, rfl, .inr (sqt_of eq3), rfl, ?_⟩
    rw [hs.len, q_len]
    refine k H3 ((g1.kp0 k2).kp k3 fun P hP hm => npT (List.mem_singleton.mp hm ▸ hP)) ⟨fun b o e n => ?_, fun b xs e => k3.tup _ _ (k2.tup _ _ (k1.tup _ _ e))⟩
    have e1 := k1.at_ _ _ e n
    refine k3.at_ _ _ (k2.at_ _ _ e1 List.not_mem_nil) fun hm => ?_
    rw [List.mem_singleton.mp hm, np] at e1
    cases e1
abbrev NLo : List Str := ["_law_machine", "_law_tree_here", "_law_c", "_law_many"]
theorem scLOut : FnScope NLo ["_law_machine", "_law_tree_here", "_law_c"] (defScope sLOut) := ⟨rfl, rfl, rfl, by decide +kernel, rfl, by decide +kernel, by decide +kernel⟩
def spLOut : Sp := fun vs H Q _ => ∃ (mv tv : V) (c : Nat) (gs : List Str) (s : Nat) (ss : List (List Rule)) (t : Tr), vs = [mv, tv, .int c] ∧ MachAt H mv gs s ss ∧ MachOk gs s ss ∧ TreeAt H tv t ∧ t.sz ≤ 25 ∧ 0 < c ∧ c ≤ 16 ∧ (2 * t.sz + 1) ^ c ≤ 10000 ∧
  ∀ H', Kp [] H H' → Q (.bl (yesB gs ss t c)) H'
theorem ok_lOut (L : LO K mg A D) : FnOk Pr w K mg base CX0 4 (A 41) (D 41) ["_law_machine", "_law_tree_here", "_law_c"] spLOut := by
  have B := L.B
  refine L.lout.F.ok scLOut (fun vs H Q E h => ?_) (fun cdv Ar outer s0 H vs Q E hr h => ?_)
  · obtain ⟨mv, tv, c, gs, s, ss, t, rfl, _⟩ := h
    rfl
  · obtain ⟨mv, tv, c, gs, s, ss, t, rfl, hm, ho, T, sz, c0, c16, hN, k⟩ := h
    refine ⟨_, pss_cons (ps_set (i := 3) scLOut.nd rfl (.inl rfl) (pe_callB (r := rLenQ K) call_len_seq (by rfl) B.len PySem.boot_len (pa_cons (pe_call (ok_lCells L.toLC) (hr.mono (by decide)) (by rfl) L.lcells.g L.lcells.F.kp L.lcells.b .nil pass0 (pa_cons (pv 0) (pa_cons (pv 1) (pa_cons (pv 2) pa_nil)))) pa_nil)))
      (pss_one (ps_ret (pe_cmpR op_eq (pe_ix ix_tup (pe_call (ok_lStand L.lstand.F L.toLC) (hr.mono (by decide)) (by rfl) L.lstand.g L.lstand.F.kp L.lstand.b .nil pass0 (pa_cons (pv 0) (pa_cons (pv 1) (pa_cons (pv 2) (pa_cons (pe_op op_sub (pv 3) pe_int) pa_nil))))) pe_int (fun _ _ => rfl)) (pe_callB (r := rLenQ K) call_len_seq (by rfl) B.len PySem.boot_len (pa_cons (pe_ix ix_tup (pv 0) pe_int (fun _ _ => rfl)) pa_nil)) (nomark _)))), ?_⟩
    refine ⟨_, rfl, _, rfl, _, rfl, mv, tv, c, gs, s, ss, t, rfl, hm, ho, T, sz, c0, c16, hN, fun p H1 np hp k1 => ?_⟩
    have lp : (intsV (cells0 gs t c)).length = (2 * t.sz + 1) ^ c := by rw [ints_len, cells0_len gs t c0]
    have N1 : 1 ≤ (2 * t.sz + 1) ^ c := Nat.pow_pos (by omega)
    have eN : (((intsV (cells0 gs t c)).length : Nat) : Int) - 1 = (((2 * t.sz + 1) ^ c - 1 : Nat) : Int) := by rw [lp]; omega
    have hm1 := hm.kp0 k1
    obtain ⟨m, tg, q, xs, rfl, em, ht, eq, hs⟩ := id hm1.ex
    refine ⟨p, _, rfl, .inl (sql_of hp), _, rfl, _, rfl, _, rfl, _, rfl, _, _, rfl, rfl, .ref m, tv, c, (2 * t.sz + 1) ^ c - 1, gs, s, ss, t, congrArg (fun z => [V.ref m, tv, V.int (c : Int), V.int z]) eN, hm1, ho, T.kp k1, sz, c0, c16, hN, by omega, fun r ct H3 h1 h2 k3 => ?_⟩
    refine ⟨r, _, _, _, rfl, rfl, sqt_of h1, atI_nat (j := 0) rfl, _, rfl, m, _, _, _, rfl, rfl, sqt_of (k3.tup _ _ em), atI_nat (j := 3) rfl, q, xs, rfl, .inr (sqt_of (k3.tup _ _ eq)), rfl, ?_⟩
    rw [hs.len, q_len]
    exact k H3 (k1.trans k3)
abbrev NIt : List Str := ["_law_thing", "_law_many"]
theorem scIsT : FnScope NIt ["_law_thing", "_law_many"] (defScope sIsT) := ⟨rfl, rfl, rfl, by decide +kernel, rfl, by decide +kernel, by decide +kernel⟩
def spIsT : Sp := fun vs H Q _ => ∃ (r : Addr) (xs : List V), vs = [.ref r, .int xs.length] ∧ H r = some (.tup xs) ∧ Q (.bl true) H
theorem ok_isT (L : LO K mg A D) : FnOk Pr w K mg base CX0 1 (A 33) (D 33) ["_law_thing", "_law_many"] spIsT := by
  have B := L.B
  refine L.isT.F.ok scIsT (fun vs H Q E h => ?_) (fun cdv Ar outer s0 H vs Q E hr h => ?_)
  · obtain ⟨r, xs, rfl, _⟩ := h
    rfl
  · obtain ⟨r, xs, rfl, er, k⟩ := h
    refine ⟨_, pss_one (ps_ret (pe_and (pe_callB call_isi (by rfl) B.isi (by decide +kernel) (pa_cons (pv 0) (pa_cons (pe_bltn (v := .ty "tuple") (by rfl) B.tuple (by decide +kernel) rfl) pa_nil))) (pe_one (pe_cmpR op_eq (pe_callB (r := rLenQ K) call_len_seq (by rfl) B.len PySem.boot_len (pa_cons (pv 0) pa_nil)) (pv 1) (nomark _))))), ?_⟩
    refine ⟨_, rfl, _, .ty "tuple", .type "tuple", .type "tuple", _, rfl, .ty "tuple", .base (.tup er), kit_ty (r := true) (by decide +kernel), true, rfl, iteT ⟨_, rfl, r, xs, rfl, .inr (sqt_of er), _, rfl, rfl, ?_⟩⟩
    rw [decide_eq_true rfl]
    exact k
end
end Ey
set_option maxHeartbeats 4000000
namespace Ey
open PySem PySem.Spec L2
/-! ### the two ends exchanged -/
def mir (n : Nat) (r : Rule) : Rule := (if n ≤ r.1 then 2 * n + 1 - r.1 else r.1, r.2.1, r.2.2)
def exch (ss : List (List Rule)) : List (List Rule) := ss.map fun rs => rs.map (mir ss.length)
def mirC (n : Nat) (x : Cfg) : Cfg := ⟨if n ≤ x.q then 2 * n + 1 - x.q else x.q, x.h, x.cs⟩
theorem exch_len (ss : List (List Rule)) : (exch ss).length = ss.length := List.length_map ..
theorem exch_ok {gs : List Str} {s : Nat} {ss : List (List Rule)} (h : MachOk gs s ss) : MachOk gs s (exch ss) := by
  refine ⟨h.tg, h.un, h.l3, h.s2, h.s5, by rw [exch_len]; exact h.n1, by rw [exch_len]; exact h.n4, fun rs hr => ?_⟩
  obtain ⟨r0, h0, rfl⟩ := List.mem_map.mp hr
  obtain ⟨a, b⟩ := h.st r0 h0
  refine ⟨by rw [List.length_map, a], fun r hr => ?_⟩
  obtain ⟨q, hq, rfl⟩ := List.mem_map.mp hr
  obtain ⟨c1, c2, c3, c4⟩ := b q hq
  refine ⟨?_, c2, c3, c4⟩
  rw [exch_len]
  show (if ss.length ≤ q.1 then 2 * ss.length + 1 - q.1 else q.1) ≤ _
  split <;> omega
theorem exch_rul {gs : List Str} {s : Nat} {ss : List (List Rule)} (h : MachOk gs s ss) {q c : Nat} (hq : q < ss.length) (hc : c < s) : rul (exch ss) q c = mir ss.length (rul ss q c) := by
  obtain ⟨rs, h1, h2, _⟩ := rul_ok h hq hc
  have e1 : (exch ss).getD q [] = rs.map (mir ss.length) := by
    unfold exch
    rw [List.getD_eq_getElem?_getD, List.getElem?_map, h1]
    rfl
  unfold rul at h2 ⊢
  rw [e1, List.getD_eq_getElem?_getD, List.getElem?_map, h2]
  rfl
theorem exch_run {gs : List Str} {s L : Nat} {ss : List (List Rule)} {x : Cfg} (ho : MachOk gs s ss) (h : CfgOk ss s L x) (hq : x.q = 0) : ∀ k, runN (exch ss) k x = mirC ss.length (runN ss k x)
  | 0 => by
    have := ho.n1
    show x = mirC ss.length x
    unfold mirC
    rw [if_neg (by omega)]
  | k + 1 => by
    have ih := exch_run ho h hq k
    have ok := run_ok ho h k
    have hq2 := runN_q ho h (by omega) k
    show stp (exch ss) (runN (exch ss) k x) = mirC ss.length (stp ss (runN ss k x))
    rw [ih]
    generalize runN ss k x = y at ok hq2
    unfold stp
    rw [exch_len]
    by_cases hy : y.q < ss.length
    · have e : mirC ss.length y = y := by
        unfold mirC
        rw [if_neg (by omega)]
      rw [e, if_pos hy, if_pos hy]
      have hlt : y.h < y.cs.length := by rw [ok.l]; exact ok.h
      have hc : y.cs.getD y.h 0 < s := by
        rw [List.getD_eq_getElem?_getD, List.getElem?_eq_getElem hlt]
        exact ok.c _ (List.getElem_mem hlt)
      rw [exch_rul ho hy hc]
      rfl
    · rw [if_neg hy]
      have : ¬ (mirC ss.length y).q < ss.length := by
        unfold mirC
        rw [if_pos (show ss.length ≤ y.q by omega)]
        show ¬ 2 * ss.length + 1 - y.q < ss.length
        omega
      rw [if_neg this]
theorem exch_not {gs : List Str} {s : Nat} {ss : List (List Rule)} (ho : MachOk gs s ss) (t : Tr) {c : Nat} (hc : 0 < c) : (yesB gs ss t c && yesB gs (exch ss) t c) = false := by
  unfold yesB
  rw [exch_run ho (cfg0_ok ho t hc) rfl, exch_len]
  have hq := runN_q ho (cfg0_ok ho t hc) (Nat.zero_le _) ((2 * t.sz + 1) ^ c - 1)
  generalize runN ss ((2 * t.sz + 1) ^ c - 1) (cfg0 gs t c) = y at hq
  by_cases h : y.q = ss.length
  · have : ¬ (mirC ss.length y).q = ss.length := by
      unfold mirC
      show ¬ (if ss.length ≤ y.q then 2 * ss.length + 1 - y.q else y.q) = ss.length
      rw [if_pos (by omega)]
      omega
    rw [decide_eq_false this, Bool.and_false]
  · rw [decide_eq_false h, Bool.false_and]
/-! ### a machine that walks for a sign -/
structure SeekOk (wanted s : Nat) (rs : List Rule) : Prop where
  l : rs.length = s
  w : wanted < s
  r : ∀ j, j < s → ∃ b, b < s ∧ rs[j]? = some (if j = wanted then (1, j, 0) else (0, b, 1))
theorem seek_rul {wanted s : Nat} {rs : List Rule} (h : SeekOk wanted s rs) {c : Nat} (hc : c < s) : ∃ b, b < s ∧ rul [rs] 0 c = if c = wanted then (1, c, 0) else (0, b, 1) := by
  obtain ⟨b, hb, e⟩ := h.r c hc
  refine ⟨b, hb, ?_⟩
  unfold rul
  show rs.getD c _ = _
  rw [List.getD_eq_getElem?_getD, e]
  rfl
theorem seek_run {wanted s L : Nat} {rs : List Rule} (h : SeekOk wanted s rs) {cs : List Nat} (hl : cs.length = L) (hc : ∀ y ∈ cs, y < s) (L1 : 1 ≤ L) : ∀ k, k ≤ L - 1 →
    (wanted ∉ cs.take k ∧ ∃ cs', runN [rs] k ⟨0, 0, cs⟩ = ⟨0, k, cs'⟩ ∧ cs'.length = L ∧ cs'.drop k = cs.drop k) ∨ (wanted ∈ cs.take k ∧ (runN [rs] k ⟨0, 0, cs⟩).q = 1)
  | 0, _ => .inl ⟨by simp, cs, rfl, hl, rfl⟩
  | k + 1, hk => by
    have hkL : k < cs.length := by omega
    rcases seek_run h hl hc L1 k (by omega) with ⟨hn, cs', er, l2, ed⟩ | ⟨hm, hq⟩
    · have ek : cs'.getD k 0 = cs[k] := by
        have e0 : (cs'.drop k)[0]? = (cs.drop k)[0]? := by rw [ed]
        rw [List.getElem?_drop, List.getElem?_drop, Nat.add_zero] at e0
        rw [List.getD_eq_getElem?_getD, e0, List.getElem?_eq_getElem hkL]
        rfl
      have hck : cs[k] < s := hc _ (List.getElem_mem hkL)
      obtain ⟨b, hb, e2⟩ := seek_rul h hck
      have st : runN [rs] (k + 1) ⟨0, 0, cs⟩ = stp [rs] ⟨0, k, cs'⟩ := by
        show stp [rs] (runN [rs] k ⟨0, 0, cs⟩) = _
        rw [er]
      have tk : cs.take (k + 1) = cs.take k ++ [cs[k]] := by rw [List.take_add_one, List.getElem?_eq_getElem hkL]; rfl
      by_cases hw : cs[k] = wanted
      · refine .inr ⟨by rw [tk, hw]; simp, ?_⟩
        rw [st]
        unfold stp
        rw [if_pos (show 0 < [rs].length from Nat.one_pos)]
        show (rul [rs] 0 (cs'.getD k 0)).1 = 1
        rw [ek, e2, if_pos hw]
      · refine .inl ⟨by rw [tk, List.mem_append]; rintro (z | z); exact hn z; exact hw (List.mem_singleton.mp z).symm, cs'.set k b, ?_, by rw [List.length_set, l2], ?_⟩
        · rw [st]
          unfold stp
          rw [if_pos (show 0 < [rs].length from Nat.one_pos)]
          show Cfg.mk (rul [rs] 0 (cs'.getD k 0)).1 (clampI k (rul [rs] 0 (cs'.getD k 0)).2.2 cs'.length) (cs'.set k (rul [rs] 0 (cs'.getD k 0)).2.1) = _
          rw [ek, e2, if_neg hw]
          have ec : clampI k 1 cs'.length = k + 1 := by
            unfold clampI
            rw [if_neg (by omega), if_neg (by omega)]
            omega
          show Cfg.mk 0 (clampI k 1 cs'.length) (cs'.set k b) = _
          rw [ec]
        · rw [List.drop_set_of_lt (by omega)]
          have := congrArg (List.drop 1) ed
          rw [List.drop_drop, List.drop_drop] at this
          exact this
    · refine .inr ⟨?_, ?_⟩
      · rw [List.take_add_one]
        exact List.mem_append_left _ hm
      · show (stp [rs] (runN [rs] k ⟨0, 0, cs⟩)).q = 1
        unfold stp
        rw [if_neg (show ¬ (runN [rs] k ⟨0, 0, cs⟩).q < [rs].length by rw [hq]; exact Nat.lt_irrefl 1)]
        exact hq
theorem seek_yes {wanted s : Nat} {gs : List Str} {rs : List Rule} (h : SeekOk wanted s rs) (hs : gs.length + 2 ≤ s) (t : Tr) {c : Nat} (hc : 0 < c) : yesB gs [rs] t c = (cells0 gs t c).dropLast.any fun y => decide (y = wanted) := by
  have hl := cells0_len gs t hc
  have N1 : 1 ≤ (2 * t.sz + 1) ^ c := Nat.pow_pos (by omega)
  have r := seek_run h hl (cells0_lt hs t c) N1 ((2 * t.sz + 1) ^ c - 1) (Nat.le_refl _)
  have ed : (cells0 gs t c).take ((2 * t.sz + 1) ^ c - 1) = (cells0 gs t c).dropLast := by rw [List.dropLast_eq_take, hl]
  rw [ed] at r
  unfold yesB
  show decide ((runN [rs] ((2 * t.sz + 1) ^ c - 1) ⟨0, 0, cells0 gs t c⟩).q = 1) = _
  rcases r with ⟨hn, cs', er, _, _⟩ | ⟨hm, hq⟩
  · rw [er]
    symm
    refine List.any_eq_false.mpr fun y hy e => hn ?_
    exact of_decide_eq_true e ▸ hy
  · rw [hq]
    symm
    exact List.any_eq_true.mpr ⟨wanted, hm, decide_eq_true rfl⟩
end Ey
set_option maxHeartbeats 4000000
namespace Ey
open PySem PySem.Spec L2
section
variable {Pr : Program} {w : World} {K : PySem.W.Frag} {mg : Str → Option Value} {base : Heap} {A : Nat → Addr} {D : Nat → FuncData} {a : Adr}
abbrev NSk : List Str := ["_law_deck_here", "_law_tags_here", "_law_signs", "_law_wanted", "_law_rules", "_law_sign"]
theorem scSeek : FnScope NSk ["_law_deck_here"] (defScope sSeek) := ⟨rfl, rfl, rfl, by decide +kernel, rfl, by decide +kernel, by decide +kernel⟩
def spSeek : Sp := fun vs H Q _ => ∃ (d l : Addr) (ms : List Addr), vs = [.ref d] ∧ Frame ms d l H ∧
  ∀ (r : Addr) (mv : V) (wanted s : Nat) (gs : List Str) (rs : List Rule) (H' : Hp), H' r = some (.tup [mv, .int wanted]) → MachAt H' mv gs s [rs] → MachOk gs s [rs] → SeekOk wanted s rs → Frame ms d l H' → Kp [d, l] H H' → Q (.ref r) H'
theorem ok_seek (L : LO K mg A D) : FnOk Pr w K mg base CX0 5 (A 42) (D 42) ["_law_deck_here"] spSeek := by
  have B := L.B
  refine L.seek.F.ok scSeek (fun vs H Q E h => ?_) (fun cdv Ar outer s0 H vs Q E hr h => ?_)
  · obtain ⟨d, l, ms, rfl, _⟩ := h
    rfl
  · obtain ⟨d, l, ms, rfl, Fr, k⟩ := h
    refine ⟨_, pss_cons (ps_set (i := 1) scSeek.nd rfl (.inl rfl) (pe_call (ok_dTags L.toLT) (hr.mono (by decide)) (by rfl) L.dtags.g L.dtags.F.kp L.dtags.b .nil pass0 (pa_cons (pv 0) (pa_cons (pe_op op_add pe_int (pe_call (ok_draw L.draw.F B) (hr.mono (by decide)) (by rfl) L.draw.g L.draw.F.kp L.draw.b .nil pass0 (pa_cons (pv 0) (pa_cons pe_int pa_nil)))) pa_nil))))
      (pss_cons (ps_set (i := 2) scSeek.nd rfl (.inl rfl) (pe_op op_add (pe_callB (r := rLenQ K) call_len_seq (by rfl) B.len PySem.boot_len (pa_cons (pv 1) pa_nil)) pe_int))
      (pss_cons (ps_par (i := 3) (j := 4) (by rfl) scSeek.nd rfl rfl (by decide) rfl rfl (pa_cons (pe_call (ok_draw L.draw.F B) (hr.mono (by decide)) (by rfl) L.draw.g L.draw.F.kp L.draw.b .nil pass0 (pa_cons (pv 0) (pa_cons (pv 2) pa_nil))) (pa_cons (pe_lst pa_nil) pa_nil)) (by rfl))
      (pss_cons (ps_for PassesOwn.never rfl (pi_range1 (by rfl) B.range (pa_cons (pv 2) pa_nil)) (pg_name (i := 5) scSeek.nd rfl (.inl rfl))
        (pss_one (ps_expr (pe_bm PySem.F.plainAttrs_list PySem.F.slot_list_append PySem.F.type_list_append mt_append (pv 4) (pa_cons (pe_ifExp (pt_cmpR op_eq (pv 5) (pv 3) (nomark _)) (pe_tup (pa_cons pe_int (pa_cons (pv 5) (pa_cons pe_int pa_nil)))) (pe_tup (pa_cons pe_int (pa_cons (pe_call (ok_draw L.draw.F B) (hr.mono (by decide)) (by rfl) L.draw.g L.draw.F.kp L.draw.b .nil pass0 (pa_cons (pv 0) (pa_cons (pv 2) pa_nil))) (pa_cons pe_int pa_nil))))) pa_nil)))))
      (pss_one (ps_ret (pe_tup (pa_cons (pe_tup (pa_cons pe_str (pa_cons (pv 1) (pa_cons (pv 2) (pa_cons (pe_tup (pa_cons (pe_callTy call_tuple_of (by rfl) B.tuple (by decide +kernel) (pa_cons (pv 4) pa_nil)) pa_nil)) pa_nil))))) (pa_cons (pv 3) pa_nil)))))))), ?_⟩
    refine ⟨_, rfl, _, rfl, d, l, 3, rfl, Fr.dk, by decide, by decide, fun r H1 r0 r1 D1 k1 => ?_⟩
    have F1 := Fr.go k1 D1
    obtain ⟨n, rfl⟩ : ∃ n : Nat, r = (n : Int) := ⟨r.toNat, by omega⟩
    have en : (1 : Int) + (n : Int) = ((1 + n : Nat) : Int) := by omega
    refine ⟨_, _, rfl, rfl, d, l, ms, 1 + n, congrArg (fun z => [V.ref d, V.int z]) en, by omega, F1, fun t gs H2 ft hlow hnd hlen F2 k2 => ?_⟩
    have es : (((gs.map V.str).length : Nat) : Int) + 2 = ((gs.length + 2 : Nat) : Int) := by rw [List.length_map]; rfl
    refine ⟨_, rfl, t, _, rfl, .inr ft.sqt, _, _, rfl, rfl, ?_⟩
    generalize hsg : gs.length + 2 = s at es
    have s5 : s ≤ 5 := by omega
    show tSeq _ _ _ [some (.ref d), some (.ref t), some (.int ((((gs.map V.str).length : Nat) : Int) + 2)), none, none, none] H2
    rw [es]
    refine ⟨_, rfl, _, rfl, d, l, s, rfl, F2.dk, by omega, by omega, fun rw_ H3 w0 w1 D3 k3 => ⟨Nat.zero_le _, fun R nR => ⟨_, _, rfl, ?_⟩⟩⟩
    have F3 := F2.go k3 D3
    have kZ : Kp [d, l] H H3 := k1.trans (k2.trans k3)
    obtain ⟨wn, rfl⟩ : ∃ n : Nat, rw_ = (n : Int) := ⟨rw_.toNat, by omega⟩
    have ft3 := ft.kp k3 (F2.tnin ft)
    have fR := F3.has.fresh nR
    have hRd : R ≠ d := fun e => fR (e ▸ F3.dm)
    have hRl : R ≠ l := fun e => fR (e ▸ F3.lm)
    refine ⟨_, rfl, (s : Int), rfl, by omega, by omega, ?_⟩
    rw [Int.toNat_natCast]
    refine for_range (lo := 0) (n := s) (fun j σ G => (∃ y5 : Option V, σ = [some (.ref d), some (.ref t), some (.int s), some (.int wn), some (.ref R), y5]) ∧ (∃ (ys : List V) (rs : List Rule), G R = some (.lst ys) ∧ All2 (RuleAt G) ys rs ∧ rs.length = j ∧ ∀ i, i < j → ∃ b, b < s ∧ rs[i]? = some (if i = wn then (1, i, 0) else (0, b, 1))) ∧ Frame ms d l G ∧ Kp [d, l] H3 G)
      ⟨⟨_, rfl⟩, ⟨[], [], upd_same, .nil, rfl, fun i hi => absurd hi (Nat.not_lt_zero _)⟩, F3.new nR, .new nR⟩ ?_ ?_
    · rintro j σ G hj ⟨⟨y5, rfl⟩, ⟨ys, rs, hR, hB, hlr, hrs⟩, FG, kG⟩
      have ej : (0 : Int) + (j : Int) = (j : Int) := Int.zero_add _
      have lB := hB.len
      have fin : ∀ (G1 : Hp) (q : Addr) (b : Nat), b < s → Kp [d, l] G G1 → Frame ms d l G1 → G1 q = some (.tup [.int ((if j = wn then (1, j, (0 : Int)) else (0, b, 1)) : Rule).1, .int ((if j = wn then (1, j, (0 : Int)) else (0, b, 1)) : Rule).2.1, .int ((if j = wn then (1, j, (0 : Int)) else (0, b, 1)) : Rule).2.2]) →
          ∃ l2 xs y, V.ref R = .ref l2 ∧ [V.ref q] = [y] ∧ G1 l2 = some (.lst xs) ∧ xs.length < sizeLine ∧ (∃ y5 : Option V, [some (V.ref d), some (.ref t), some (.int s), some (.int wn), some (.ref R), some (.int (0 + (j : Int)))] = [some (.ref d), some (.ref t), some (.int s), some (.int wn), some (.ref R), y5]) ∧
            (∃ (ys : List V) (rs : List Rule), (upd G1 l2 (.lst (xs ++ [y]))) R = some (.lst ys) ∧ All2 (RuleAt (upd G1 l2 (.lst (xs ++ [y])))) ys rs ∧ rs.length = j + 1 ∧ ∀ i, i < j + 1 → ∃ b, b < s ∧ rs[i]? = some (if i = wn then (1, i, 0) else (0, b, 1))) ∧ Frame ms d l (upd G1 l2 (.lst (xs ++ [y]))) ∧ Kp [d, l] H3 (upd G1 l2 (.lst (xs ++ [y]))) := by
        intro G1 q b hb k1 F1 eq
        have hR1 := k1.at_ _ _ hR (by simp [hRd, hRl])
        have kR : Kp [R] G1 (upd G1 R (.lst (ys ++ [.ref q]))) := .put (by simp) hR1 (fun _ z => by cases z)
        refine ⟨R, ys, .ref q, rfl, rfl, hR1, Nat.lt_of_le_of_lt (show ys.length ≤ 5 by omega) (by decide), ⟨_, rfl⟩, ⟨ys ++ [.ref q], rs ++ [if j = wn then (1, j, 0) else (0, b, 1)], upd_same, ((hB.imp fun _ _ q => q.kp k1).imp fun _ _ q => q.kp kR).app (.cons ⟨q, rfl, kR.tup _ _ eq⟩ .nil), by rw [List.length_append, hlr]; rfl, fun i hi => ?_⟩, F1.set hR1 hRd hRl, (kG.trans k1).own nR⟩
        by_cases h : i = j
        · subst h
          refine ⟨b, hb, ?_⟩
          rw [List.getElem?_append_right (by omega), hlr, Nat.sub_self]
          rfl
        · obtain ⟨b2, hb2, e2⟩ := hrs i (by omega)
          exact ⟨b2, hb2, by rw [List.getElem?_append_left (by omega)]; exact e2⟩
      refine ⟨_, rfl, .inl ⟨rfl, _, sql_of hR⟩, _, rfl, _, rfl, rfl, _, rfl, ?_⟩
      by_cases hw : j = wn
      · refine ite2 (fun _ => ?_) (fun q => absurd (decide_eq_true (by rw [ej, hw])) q)
        refine ⟨_, rfl, by show 3 ≤ sizeLine; decide, fun q nq => ?_⟩
        exact fin _ q 0 (by omega) (.new nq) (FG.new nq) (by rw [if_pos hw, upd_same, ej]; rfl)
      · refine ite2 (fun q => absurd (of_decide_eq_true q) (by rw [ej]; intro z; injection z with z; omega)) (fun _ => ?_)
        refine ⟨_, rfl, _, rfl, d, l, s, rfl, FG.dk, by omega, by omega, fun r4 H4 a0 a1 D4 k4 => ?_⟩
        obtain ⟨b, rfl⟩ : ∃ n : Nat, r4 = (n : Int) := ⟨r4.toNat, by omega⟩
        refine ⟨by show 3 ≤ sizeLine; decide, fun q nq => ?_⟩
        exact fin _ q b (by omega) (k4.trans (.new nq)) ((FG.go k4 D4).new nq) (by rw [if_neg hw, upd_same]; rfl)
    · rintro σ G ⟨⟨y5, rfl⟩, ⟨ys, rs, hR, hB, hlr, hrs⟩, FG, kG⟩
      have ftG := ft3.kp kG (F3.tnin ft3)
      have kA : Kp [d, l] H G := kZ.trans kG
      refine ⟨_, rfl, _, rfl, _, rfl, R, _, rfl, .inl ⟨sql_of hR, fun q1 n1 => ?_⟩⟩
      have k1 : Kp [] G (upd G q1 (.tup ys)) := .new n1
      have e1 : (upd G q1 (.tup ys)) q1 = some (.tup ys) := upd_same
      have hB1 := hB.imp fun _ _ q => RuleAt.kp q k1
      have F1 := FG.new (o := .tup ys) n1
      have ft1 := ftG.kp k1 List.not_mem_nil
      generalize upd G q1 (.tup ys) = G1 at k1 e1 hB1 F1 ft1
      refine ⟨by show 1 ≤ sizeLine; decide, fun q2 n2 => ?_⟩
      have k2' : Kp [] G1 (upd G1 q2 (.tup [.ref q1])) := .new n2
      have e2 : (upd G1 q2 (.tup [.ref q1])) q2 = some (.tup [.ref q1]) := upd_same
      have e12 := k2'.tup _ _ e1
      have hB2 := hB1.imp fun _ _ q => RuleAt.kp q k2'
      have F2' := F1.new (o := .tup [.ref q1]) n2
      have ft2 := ft1.kp k2' List.not_mem_nil
      generalize upd G1 q2 (.tup [.ref q1]) = G2 at k2' e2 e12 hB2 F2' ft2
      refine ⟨by show 4 ≤ sizeLine; decide, fun m nm => ?_⟩
      have k3' : Kp [] G2 (upd G2 m (.tup [.str "tape", .ref t, .int s, .ref q2])) := .new nm
      have e3 : (upd G2 m (.tup [.str "tape", .ref t, .int s, .ref q2])) m = some (.tup [.str "tape", .ref t, .int s, .ref q2]) := upd_same
      have e23 := k3'.tup _ _ e2
      have e13 := k3'.tup _ _ e12
      have hB3 := hB2.imp fun _ _ q => RuleAt.kp q k3'
      have F3' := F2'.new (o := .tup [.str "tape", .ref t, .int s, .ref q2]) nm
      have ft3' := ft2.kp k3' List.not_mem_nil
      generalize upd G2 m (.tup [.str "tape", .ref t, .int s, .ref q2]) = G3 at k3' e3 e23 e13 hB3 F3' ft3'
      refine ⟨_, rfl, by show 2 ≤ sizeLine; decide, fun r nr => ?_⟩
      have k4' : Kp [] G3 (upd G3 r (.tup [.ref m, .int wn])) := .new nr
      refine k r (.ref m) wn s gs rs _ upd_same ⟨m, t, q2, [.ref q1], rfl, k4'.tup _ _ e3, ft3'.kp k4' List.not_mem_nil, k4'.tup _ _ e23, .cons ⟨q1, ys, rfl, k4'.tup _ _ e13, hB3.imp fun _ _ q => q.kp k4'⟩ .nil⟩
        ⟨hlow, hnd, by omega, by omega, s5, by show 1 ≤ 1; decide, by show 1 ≤ 4; decide, fun x hx => ?_⟩ ⟨hlr, by omega, hrs⟩ (F3'.new nr)
        ((kA.trans (k1.more (by simp))).trans ((k2'.trans (k3'.trans k4')).more (by simp)))
      rw [List.mem_singleton.mp hx]
      refine ⟨hlr, fun q hq => ?_⟩
      obtain ⟨i, hi⟩ := List.getElem?_of_mem hq
      have his : i < s := by have := (List.getElem?_eq_some_iff.mp hi).1; omega
      obtain ⟨b, hb, e⟩ := hrs i his
      rw [hi] at e
      injection e with e
      rw [e]
      split
      · exact ⟨by show 1 ≤ 1 + 1; decide, his, by show (-1 : Int) ≤ 0; decide, by show (0 : Int) ≤ 1; decide⟩
      · exact ⟨Nat.zero_le _, hb, by show (-1 : Int) ≤ 1; decide, by show (1 : Int) ≤ 1; decide⟩
end
end Ey
set_option maxHeartbeats 4000000
namespace Ey
open PySem PySem.Spec L2
theorem All2.cast {α : Type} {R : V → α → Prop} {vs : List V} {xs ys : List α} (h : All2 R vs xs) (e : xs = ys) : All2 R vs ys := e ▸ h
theorem mir_int (n : Nat) (r : Rule) (h : r.1 ≤ n + 1) : (if decide ((n : Int) ≤ (r.1 : Nat)) = true then (2 * (n : Int) + 1 - (r.1 : Nat)) else ((r.1 : Nat) : Int)) = ((mir n r).1 : Nat) := by
  unfold mir
  show _ = (((if n ≤ r.1 then 2 * n + 1 - r.1 else r.1 : Nat)) : Int)
  by_cases hh : n ≤ r.1
  · rw [if_pos (decide_eq_true (by omega)), if_pos hh]
    omega
  · rw [if_neg (fun z => hh (by have := of_decide_eq_true z; omega)), if_neg hh]
section
variable {Pr : Program} {w : World} {K : PySem.W.Frag} {mg : Str → Option Value} {base : Heap} {A : Nat → Addr} {D : Nat → FuncData} {a : Adr}
abbrev NEx : List Str := ["_law_machine", "_law_kind", "_law_tags_here", "_law_signs", "_law_states", "_law_many", "_law_found", "_law_state", "_law_to", "_law_sign", "_law_move"]
theorem scExch : FnScope NEx ["_law_machine"] (defScope sExch) := ⟨rfl, rfl, rfl, by decide +kernel, rfl, by decide +kernel, by decide +kernel⟩
def spExch : Sp := fun vs H Q _ => ∃ (mv : V) (gs : List Str) (s : Nat) (ss : List (List Rule)), vs = [mv] ∧ MachAt H mv gs s ss ∧ MachOk gs s ss ∧
  ∀ (r : Addr) (H' : Hp), MachAt H' (.ref r) gs s (exch ss) → Kp [] H H' → Q (.ref r) H'
theorem ok_exch (L : LO K mg A D) : FnOk Pr w K mg base CX0 1 (A 43) (D 43) ["_law_machine"] spExch := by
  have B := L.B
  refine L.exch.F.ok scExch (fun vs H Q E h => ?_) (fun cdv Ar outer s0 H vs Q E hr h => ?_)
  · obtain ⟨mv, gs, s, ss, rfl, _⟩ := h
    rfl
  · obtain ⟨mv, gs, s, ss, rfl, hm, ho, k⟩ := h
    refine ⟨_, pss_cons (ps_asg (pv 0) (pg_tup (n := 4) (by rfl) (pgs_cons (pg_name (i := 1) scExch.nd rfl (.inl rfl)) (pgs_cons (pg_name (i := 2) scExch.nd rfl (.inl rfl)) (pgs_cons (pg_name (i := 3) scExch.nd rfl (.inl rfl)) (pgs_cons (pg_name (i := 4) scExch.nd rfl (.inl rfl)) pgs_nil))))))
      (pss_cons (ps_asg (pe_tup (pa_cons (pe_callB (r := rLenQ K) call_len_seq (by rfl) B.len PySem.boot_len (pa_cons (pv 4) pa_nil)) (pa_cons (pe_lst pa_nil) pa_nil))) (pg_tup (n := 2) (by rfl) (pgs_cons (pg_name (i := 5) scExch.nd rfl (.inr rfl)) (pgs_cons (pg_name (i := 6) scExch.nd rfl (.inl rfl)) pgs_nil))))
      (pss_cons (ps_for PassesOwn.never rfl (pi_tup (pv 4)) (pg_name (i := 7) scExch.nd rfl (.inl rfl))
        (pss_one (ps_expr (pe_bm PySem.F.plainAttrs_list PySem.F.slot_list_append PySem.F.type_list_append mt_append (pv 6) (pa_cons (pe_callTy call_tuple_of (by rfl) B.tuple (by decide +kernel) (pa_cons (pe_lc (own := [("_law_to", 8), ("_law_sign", 9), ("_law_move", 10)]) (g := gTup K 3 (gCons (gName 8) (gCons (gName 9) (gCons (gName 10) gNil)))) (tt := tYes) rfl scExch.nd (pi_tup (pv 7)) (blkOk_by (N := NEx) (sc := defScope sExch) (by decide +kernel)) (fun _ _ _ _ _ => pg_tup (n := 3) (by rfl) (pgs_cons (pg_name (i := 8) scExch.nd rfl (Or.inl rfl)) (pgs_cons (pg_name (i := 9) scExch.nd rfl (Or.inl rfl)) (pgs_cons (pg_name (i := 10) scExch.nd rfl (Or.inl rfl)) pgs_nil)))) (fun _ _ _ _ _ => pts_nil)
          (fun _ _ _ _ _ => (pe_tup (pa_cons (pe_ifExp (pt_cmpR op_ge (pv 8) (pv 5) (nomark _)) (pe_op op_sub (pe_op op_add (pe_op op_mul pe_int (pv 5)) pe_int) (pv 8)) (pv 8)) (pa_cons (pv 9) (pa_cons (pv 10) pa_nil)))))) pa_nil)) pa_nil)))))
      (pss_one (ps_ret (pe_tup (pa_cons (pv 1) (pa_cons (pv 2) (pa_cons (pv 3) (pa_cons (pe_callTy call_tuple_of (by rfl) B.tuple (by decide +kernel) (pa_cons (pv 6) pa_nil)) pa_nil))))))))), ?_⟩
    obtain ⟨m, t, q, xs, rfl, em, ht, eq, hs⟩ := hm.ex
    refine ⟨_, rfl, m, _, rfl, sqt_of em, rfl, _, _, rfl, _, _, rfl, _, _, rfl, _, _, rfl, rfl, ?_⟩
    have lx := hs.len
    have n1 := ho.n1
    have n4 := ho.n4
    refine ⟨_, rfl, q, xs, rfl, .inr (sqt_of eq), Nat.zero_le _, fun F nF => ?_⟩
    have k1 : Kp [] H (upd H F (.lst [])) := .new nF
    have hF1 : (upd H F (.lst [])) F = some (.lst []) := upd_same
    generalize upd H F (.lst []) = H1 at k1 hF1
    refine ⟨by show 2 ≤ sizeLine; decide, fun pr nR => ?_⟩
    have k2 : Kp [] H1 (upd H1 pr (.tup [.int xs.length, .ref F])) := .new nR
    have e2 : (upd H1 pr (.tup [.int xs.length, .ref F])) pr = some (.tup [.int xs.length, .ref F]) := upd_same
    have hF2 := k2.at_ _ _ hF1 List.not_mem_nil
    refine ⟨pr, _, rfl, sqt_of upd_same, rfl, _, _, rfl, _, _, rfl, rfl, ?_⟩
    generalize upd H1 pr (.tup [.int xs.length, .ref F]) = H2 at k2 e2 hF2
    rw [lx]
    have k02 := k1.trans k2
    have eq2 := k02.tup _ _ eq
    refine ⟨_, rfl, q, rfl, ⟨xs, sqt_of eq2⟩, ?_⟩
    refine for_tup (K := K) (a := q) (xs := xs) (fun i σ G => (∃ x7 x8 x9 x10 : Option V, σ = [some (.ref m), some (.str "tape"), some (.ref t), some (.int s), some (.ref q), some (.int (ss.length : Nat)), some (.ref F), x7, x8, x9, x10]) ∧ (∃ ys : List V, G F = some (.lst ys) ∧ All2 (StAt G) ys ((exch ss).take i)) ∧ Kp [] H G)
      ⟨⟨_, _, _, _, rfl⟩, ⟨[], hF2, .nil⟩, k02⟩ (fun i σ G _ h => sqt_of (h.2.2.tup _ _ eq)) ?_ ?_
    · rintro i x σ G hx ⟨⟨x7, x8, x9, x10, rfl⟩, ⟨ys, hF, hA⟩, kG⟩
      obtain ⟨rs, hrs, p, zs, rfl, ep, hB⟩ := hs.getV hx
      have hi : i < ss.length := (List.getElem?_eq_some_iff.mp hrs).1
      obtain ⟨lr, hru⟩ := ho.st rs (List.mem_of_getElem? hrs)
      have epG := kG.tup _ _ ep
      have hBG := hB.imp fun _ _ z => RuleAt.kp z kG
      have lz := hB.len
      have ly := hA.len
      have s5 := ho.s5
      refine ⟨_, rfl, .inl ⟨rfl, _, sql_of hF⟩, _, rfl, p, rfl, ⟨zs, sqt_of epG⟩, fun C nC => ?_⟩
      have hCF : C ≠ F := fun e => by rw [e, hF] at nC; cases nC
      refine lc_tup (K := K) (a := p) (xs := zs) (fun j G' => (∃ us : List V, G' C = some (.lst us) ∧ All2 (RuleAt G') us ((rs.take j).map (mir ss.length)) ∧ us.length = min j zs.length) ∧ Kp [] G G')
        ⟨⟨[], upd_same, .nil, by rw [Nat.zero_min]; rfl⟩, .new nC⟩ (fun j G' _ h => sqt_of (h.2.tup _ _ epG)) ?_ ?_
      · rintro j x G' hx ⟨⟨us, hC, hU, lu⟩, k'⟩
        obtain ⟨r, hr1, pb, rfl, epb⟩ := hBG.getV hx
        have hr2 := hru r (List.mem_of_getElem? hr1)
        have hj : j < zs.length := (List.getElem?_eq_some_iff.mp hx).1
        have emi := mir_int ss.length r hr2.1
        refine ⟨pb, _, rfl, sqt_of (k'.tup _ _ epb), rfl, _, _, rfl, _, _, rfl, _, _, rfl, rfl, ?_⟩
        refine ⟨rfl, ?_⟩
        have fin : ∀ (z : Int), z = ((mir ss.length r).1 : Nat) → ∀ T, G' T = none → ∃ acc, (upd G' T (.tup [.int z, .int r.2.1, .int r.2.2])) C = some (.lst acc) ∧ acc.length < sizeLine ∧
            (∃ us : List V, (upd (upd G' T (.tup [.int z, .int r.2.1, .int r.2.2])) C (.lst (acc ++ [.ref T]))) C = some (.lst us) ∧ All2 (RuleAt (upd (upd G' T (.tup [.int z, .int r.2.1, .int r.2.2])) C (.lst (acc ++ [.ref T])))) us ((rs.take (j + 1)).map (mir ss.length)) ∧ us.length = min (j + 1) zs.length) ∧ Kp [] G (upd (upd G' T (.tup [.int z, .int r.2.1, .int r.2.2])) C (.lst (acc ++ [.ref T]))) := by
          rintro z rfl T nT
          have kT : Kp [] G' (upd G' T (.tup [.int ((mir ss.length r).1 : Nat), .int r.2.1, .int r.2.2])) := .new nT
          have eT : (upd G' T (.tup [.int ((mir ss.length r).1 : Nat), .int r.2.1, .int r.2.2])) T = some (.tup [.int ((mir ss.length r).1 : Nat), .int r.2.1, .int r.2.2]) := upd_same
          have hC1 := kT.at_ _ _ hC List.not_mem_nil
          generalize upd G' T (.tup [.int ((mir ss.length r).1 : Nat), .int r.2.1, .int r.2.2]) = G1 at kT eT hC1
          have kC : Kp [C] G1 (upd G1 C (.lst (us ++ [.ref T]))) := .put (by simp) hC1 (fun _ z => by cases z)
          refine ⟨us, hC1, Nat.lt_of_le_of_lt (show us.length ≤ 5 by omega) (by decide), ⟨us ++ [.ref T], upd_same, ?_, by rw [List.length_append, lu]; simp; omega⟩, (k'.trans kT).own nC⟩
          rw [List.take_add_one, hr1, List.map_append]
          exact ((hU.imp fun _ _ z => z.kp kT).imp fun _ _ z => z.kp kC).app (.cons ⟨T, rfl, kC.tup _ _ eT⟩ .nil)
        refine ⟨_, rfl, _, rfl, _, _, rfl, rfl, _, rfl, ite2 (fun h => ?_) (fun h => ?_)⟩
        · refine ⟨_, rfl, _, _, rfl, rfl, .inl ⟨by decide, by decide⟩, _, _, rfl, rfl, _, rfl, _, _, rfl, rfl, _, rfl, _, rfl, by show 3 ≤ sizeLine; decide, fun T nT => ?_⟩
          exact fin _ (by rw [← emi, if_pos h]) T nT
        · refine ⟨_, rfl, _, rfl, _, rfl, by show 3 ≤ sizeLine; decide, fun T nT => ?_⟩
          exact fin _ (by rw [← emi, if_neg h]) T nT
      · rintro G' ⟨⟨us, hC, hU, lu⟩, k'⟩
        refine ⟨C, us, rfl, .inl ⟨sql_of hC, fun tp ntp => ?_⟩⟩
        have kt : Kp [] G' (upd G' tp (.tup us)) := .new ntp
        have et : (upd G' tp (.tup us)) tp = some (.tup us) := upd_same
        have kZ := k'.trans kt
        have hF3 := kZ.at_ _ _ hF List.not_mem_nil
        have hU3 := hU.imp fun _ _ z => RuleAt.kp z kt
        have hA3 := hA.imp fun _ _ z => StAt.kp z kZ
        generalize upd G' tp (.tup us) = G3 at kt et kZ hF3 hU3 hA3
        have kF : Kp [F] G3 (upd G3 F (.lst (ys ++ [.ref tp]))) := .put (by simp) hF3 (fun _ z => by cases z)
        have ely : ((exch ss).take i).length = i := by rw [List.length_take, exch_len]; omega
        refine ⟨F, ys, .ref tp, rfl, rfl, hF3, Nat.lt_of_le_of_lt (show ys.length ≤ 5 by omega) (by decide), ⟨_, _, _, _, rfl⟩, ⟨ys ++ [.ref tp], upd_same, ?_⟩, (kG.trans kZ).own nF⟩
        have ex : (exch ss)[i]? = some (rs.map (mir ss.length)) := by
          unfold exch
          rw [List.getElem?_map, hrs]
          rfl
        rw [List.take_add_one, ex]
        refine (hA3.imp fun _ _ z => z.kp kF).app (.cons ⟨tp, us, rfl, kF.tup _ _ et, (hU3.imp fun _ _ z => z.kp kF).cast ?_⟩ .nil)
        rw [lz, List.take_length]
    · rintro σ G ⟨⟨x7, x8, x9, x10, rfl⟩, ⟨ys, hF, hA⟩, kG⟩
      have htG := ht.kp kG List.not_mem_nil
      rw [show xs.length = (exch ss).length by rw [exch_len, lx], List.take_length] at hA
      refine ⟨_, rfl, _, rfl, _, rfl, _, rfl, F, ys, rfl, .inl ⟨sql_of hF, fun tp ntp => ?_⟩⟩
      have kt : Kp [] G (upd G tp (.tup ys)) := .new ntp
      have et : (upd G tp (.tup ys)) tp = some (.tup ys) := upd_same
      have htT := htG.kp kt List.not_mem_nil
      have hAT := hA.imp fun _ _ z => StAt.kp z kt
      generalize upd G tp (.tup ys) = G3 at kt et htT hAT
      refine ⟨by show 4 ≤ sizeLine; decide, fun r nr => ?_⟩
      have kr : Kp [] G3 (upd G3 r (.tup [.str "tape", .ref t, .int s, .ref tp])) := .new nr
      exact k r _ ⟨r, t, tp, ys, rfl, upd_same, htT.kp kr List.not_mem_nil, kr.tup _ _ et, hAT.imp fun _ _ z => z.kp kr⟩ (kG.trans (kt.trans kr))
end
end Ey
set_option maxHeartbeats 4000000
namespace Ey
open PySem PySem.Spec L2

structure LA (K : PySem.W.Frag) (mg : Str → Option Value) (A : Nat → Addr) (D : Nat → FuncData) (a : Adr) : Prop extends LO K mg A D where
  deck : Df K mg "_law_deck" sDeck ["_law_script"] (A 30) (D 30)
  F : PO K mg a
  kOut : KBinds K (a.D 28) ["machine", "tree", "c"] ["c", "tree", "machine"] gRv gRv
section
variable {Pr : Program} {w : World} {K : PySem.W.Frag} {mg : Str → Option Value} {base : Heap} {A : Nat → Addr} {D : Nat → FuncData} {a : Adr}
/-- a number of nodes that fits the clock -/
def tNodes (Ts : List Addr) : TE := fun σ H Q => ∃ (d l : Addr) (cl : Nat), σ[1]? = some (some (.ref d)) ∧ σ[3]? = some (some (.int cl)) ∧ (cl = 1 ∨ cl = 2) ∧ LI d l Ts H ∧ ∀ (n : Nat) (G : Hp), n ≤ 24 → (2 * n + 1) ^ cl ≤ 10000 → LI d l Ts G → Kp [d, l] H G → Q (.int n) G
/-- a machine, and the sign that it looks for -/
def tMach (Ts : List Addr) : TE := fun σ H Q => ∃ (d l : Addr) (i : Nat), σ[1]? = some (some (.ref d)) ∧ σ[2]? = some (some (.int i)) ∧ LI d l Ts H ∧
  ∀ (r : Addr) (mv : V) (wn : Nat) (gs : List Str) (s : Nat) (ss : List (List Rule)) (G : Hp), G r = some (.tup [mv, .int wn]) → MachAt G mv gs s ss → MachOk gs s ss → (i = 0 → ∃ rs, ss = [rs] ∧ SeekOk wn s rs) → LI d l Ts G → Q (.ref r) G
theorem pt_weak {X : Cx} {c : Expr} {te t1 : TT} (h : PT X c te) (hc : ∀ σ H Q, t1 σ H Q → te σ H Q) : PT X c t1 := ⟨fun pins s σ H Q I q => h.run pins s σ H Q I (hc σ H Q q)⟩
theorem in_ints (w : Nat) : ∀ l : List Nat, inV (.int w) (intsV l) = l.any fun y => decide (y = w)
  | [] => rfl
  | y :: r => by
    show (((y : Int) == (w : Int)) || inV (.int w) (intsV r)) = (decide (y = w) || r.any fun y => decide (y = w))
    rw [in_ints w r]
    congr 1
    by_cases h : y = w
    · rw [decide_eq_true h, h]
      exact beq_self_eq_true _
    · rw [decide_eq_false h]
      exact beq_false_of_ne (by omega)
theorem cut_last (xs : List Nat) (h : 1 ≤ xs.length) : cutV (intsV xs) none (some (-1)) = intsV xs.dropLast := by
  have e : HT.sIx (intsV xs).length (intsV xs).length (some (-1)) = xs.length - 1 := by
    rw [ints_len]
    show (if (-1 : Int) < 0 then ((-1 : Int) + (xs.length : Int)).toNat else min (-1 : Int).toNat xs.length) = _
    rw [if_pos (by decide)]
    omega
  unfold cutV
  rw [e]
  show ((intsV xs).drop 0).take (xs.length - 1 - 0) = _
  unfold intsV
  rw [List.drop_zero, Nat.sub_zero, List.dropLast_eq_take, List.map_take]
theorem flat_ints (l : List Nat) : (intsV l).all flatV = true := by
  unfold intsV
  rw [List.all_map]
  exact List.all_eq_true.mpr fun _ _ => rfl
/-- no first refusal -/
def tOne (Ts : List Addr) : TT := fun σ H Q => ∃ (d l : Addr) (i wn : Nat) (p : Addr) (cs : List Nat) (yb xb : Bool), σ[1]? = some (some (.ref d)) ∧ σ[2]? = some (some (.int i)) ∧ σ[5]? = some (some (.int wn)) ∧ σ[7]? = some (some (.ref p)) ∧ σ[9]? = some (some (.bl yb)) ∧ σ[10]? = some (some (.bl xb)) ∧
  H p = some (.lst (intsV cs)) ∧ (i = 0 → yb = cs.dropLast.any fun y => decide (y = wn)) ∧ (yb && xb) = false ∧ 1 ≤ cs.length ∧ LI d l Ts H ∧ ∀ G, Kp [] H G → Q false G
abbrev NL : List Str := ["_law_script", "_law_deck_here", "_law_turn", "_law_c", "_law_machine", "_law_wanted", "_law_tree_here", "_law_cells_here", "_law_due", "_law_told", "_law_other", "_law_last"]
theorem scLaw : FnScope NL ["_law_script"] (defScope sLaw) := ⟨rfl, rfl, rfl, by decide +kernel, rfl, by decide +kernel, by decide +kernel⟩
def spLaw (K : PySem.W.Frag) (Ts : List Addr) : Sp := fun vs H Q _ => ∃ (c : Addr) (ns : List Int), vs = [.ref c] ∧ SqL K H c (ns.map V.int) ∧ ns.length ≤ 63 ∧ TTs Ts H ∧ ∀ H', Q (.bl true) H'
theorem ok_law {f : Addr} {fd : FuncData} (Fl : Fun K "law" "law" sLaw f fd) (L : LA K mg A D a) (b : BF base mg a) (hsm : ∃ mm, base.Ns sysModules mm) : LawOk Pr w K mg base f fd "_law_script" (spLaw K a.Ts) := by
  have B := L.B
  have F := L.F
  refine law_ok (k := 80) Fl scLaw ⟨rfl, by decide, by decide⟩ fun cdv s H v Q hr h => ?_
  obtain ⟨c, ns, e, hS, hn, g, k⟩ := h
  cases e
  have gS : FnOk Pr w K mg base CX0 12 (a.A 27) (a.D 27) ["machine", "tree", "c", "many"] (spTS a.Ts) := ok_tstand F.toPG b
  have gO : FnOk Pr w K mg base CX0 12 (a.A 28) (a.D 28) ["machine", "tree", "c"] (spOut a.Ts) := ok_out F b
  have gT : FnOk Pr w K mg base CX0 32 (A 35) (D 35) ["_law_deck_here", "_law_nodes", "_law_tags_here"] (spDTree K 30) := ok_dTree L.toLT2 30
  refine ⟨_, pss_cons (ps_set (i := 1) scLaw.nd rfl (.inl rfl) (pe_call (ok_deck L.deck.F B) (hr.mono (by decide)) (by rfl) L.deck.g L.deck.F.kp L.deck.b .nil pass0 (pa_cons (pv 0) pa_nil)))
      (pss_cons (ps_for PassesOwn.never rfl (pi_range1 (by rfl) B.range (pa_cons pe_int pa_nil)) (pg_name (i := 2) scLaw.nd rfl (.inl rfl))
        (pss_cons (ps_set (i := 3) scLaw.nd rfl (.inl rfl) (pe_call (ok_pick L.pick.F B L.draw) (hr.mono (by decide)) (by rfl) L.pick.g L.pick.F.kp L.pick.b .nil pass0 (pa_cons (pv 1) (pa_cons (pe_lst (pa_cons pe_int (pa_cons pe_int (pa_cons pe_int pa_nil)))) pa_nil))))
      (pss_cons (ps_asg (pe_weak (t1 := tMach a.Ts) (pe_ifExp (pt_cmpR op_eq (pv 2) pe_int (nomark _)) (pe_call (ok_seek L.toLO) (hr.mono (by decide)) (by rfl) L.seek.g L.seek.F.kp L.seek.b .nil pass0 (pa_cons (pv 1) pa_nil)) (pe_tup (pa_cons (pe_call (ok_dTape L.toLM) (hr.mono (by decide)) (by rfl) L.dtape.g L.dtape.F.kp L.dtape.b .nil pass0 (pa_cons (pv 1) (pa_cons pe_int pa_nil))) (pa_cons pe_int pa_nil)))) (fun σ H Q h => by
        obtain ⟨d, l, i, e1, e2, I, k⟩ := h
        refine ⟨_, e2, rfl, _, rfl, ite2 (fun _ => ?_) (fun q => ?_)⟩
        · refine ⟨_, e1, d, l, _, rfl, I.fr, fun r mv wn s gs rs H5 er m5 o5 sk F5 k5 => ?_⟩
          exact k r mv wn gs s [rs] H5 er m5 o5 (fun _ => ⟨rs, rfl, sk⟩) (I.own k5 F5)
        · refine ⟨_, e1, d, l, _, rfl, I.fr, fun mv gs s ss H5 m5 o5 F5 k5 => ⟨by show 2 ≤ sizeLine; decide, fun r nr => ?_⟩⟩
          have I5 := I.own k5 F5
          exact k r mv 0 gs s ss _ upd_same (m5.kp0 (.new nr)) o5 (fun e => absurd (decide_eq_true (by rw [e]; rfl)) q) (I5.new nr))) (pg_tup (n := 2) (by rfl) (pgs_cons (pg_name (i := 4) scLaw.nd rfl (.inl rfl)) (pgs_cons (pg_name (i := 5) scLaw.nd rfl (.inl rfl)) pgs_nil))))
      (pss_cons (ps_set (i := 6) scLaw.nd rfl (.inl rfl) (pe_call (gT) (hr.mono (by decide)) (by rfl) L.dtree.g L.dtree.F.kp L.dtree.b .nil pass0 (pa_cons (pv 1) (pa_cons (pe_weak (t1 := tNodes a.Ts) (pe_ifExp (pt_cmpR op_eq (pv 3) pe_int (nomark _)) (pe_call (ok_draw L.draw.F B) (hr.mono (by decide)) (by rfl) L.draw.g L.draw.F.kp L.draw.b .nil pass0 (pa_cons (pv 1) (pa_cons pe_int pa_nil))) (pe_call (ok_draw L.draw.F B) (hr.mono (by decide)) (by rfl) L.draw.g L.draw.F.kp L.draw.b .nil pass0 (pa_cons (pv 1) (pa_cons pe_int pa_nil)))) (fun σ H Q h => by
        obtain ⟨d, l, cl, e1, e3, hcl, I, k⟩ := h
        refine ⟨_, e3, rfl, _, rfl, ?_⟩
        rcases hcl with rfl | rfl
        · refine ite2 (fun _ => ?_) (fun q => absurd (decide_eq_true rfl) q)
          refine ⟨_, e1, d, l, 13, rfl, I.fr.dk, by decide, by decide, fun r H6 r0 r1 D6 k6 => ?_⟩
          obtain ⟨n, rfl⟩ : ∃ n : Nat, r = (n : Int) := ⟨r.toNat, by omega⟩
          exact k n H6 (by omega) (nodes_le1 (by omega)) (I.own k6 (I.fr.go k6 D6)) k6
        · refine ite2 (fun q => absurd (of_decide_eq_true q) (by decide)) (fun _ => ?_)
          refine ⟨_, e1, d, l, 4, rfl, I.fr.dk, by decide, by decide, fun r H6 r0 r1 D6 k6 => ?_⟩
          obtain ⟨n, rfl⟩ : ∃ n : Nat, r = (n : Int) := ⟨r.toNat, by omega⟩
          exact k n H6 (by omega) (nodes_le2 (by omega)) (I.own k6 (I.fr.go k6 D6)) k6)) (pa_cons (pe_op op_catZ (pe_ix ix_tup (pv 4) pe_int (fun _ _ => rfl)) (pe_call (ok_dTags L.toLT) (hr.mono (by decide)) (by rfl) L.dtags.g L.dtags.F.kp L.dtags.b .nil pass0 (pa_cons (pv 1) (pa_cons pe_int pa_nil)))) pa_nil)))))
      (pss_cons (ps_set (i := 7) scLaw.nd rfl (.inl rfl) (pe_call (ok_lCells L.toLO.toLC) (hr.mono (by decide)) (by rfl) L.lcells.g L.lcells.F.kp L.lcells.b .nil pass0 (pa_cons (pv 4) (pa_cons (pv 6) (pa_cons (pv 3) pa_nil)))))
      (pss_cons (ps_par (i := 8) (j := 9) (by rfl) scLaw.nd rfl rfl (by decide) rfl rfl (pa_cons (pe_call (ok_lOut L.toLO) (hr.mono (by decide)) (by rfl) L.lout.g L.lout.F.kp L.lout.b .nil pass0 (pa_cons (pv 4) (pa_cons (pv 6) (pa_cons (pv 3) pa_nil)))) (pa_cons (pe_call (gO) (hr.mono (by decide)) (by rfl) F.out.g F.out.F.kp F.out.b .nil pass0 (pa_cons (pv 4) (pa_cons (pv 6) (pa_cons (pv 3) pa_nil)))) pa_nil)) (by rfl))
      (pss_cons (ps_par (i := 10) (j := 11) (by rfl) scLaw.nd rfl rfl (by decide) rfl rfl (pa_cons (pe_call (gO) (hr.mono (by decide)) (by rfl) F.out.g F.out.F.kp F.out.b .nil pass0 (pa_cons (pe_call (ok_exch L.toLO) (hr.mono (by decide)) (by rfl) L.exch.g L.exch.F.kp L.exch.b .nil pass0 (pa_cons (pv 4) pa_nil)) (pa_cons (pv 6) (pa_cons (pv 3) pa_nil)))) (pa_cons (pe_call (gS) (hr.mono (by decide)) (by rfl) F.tstand.g F.tstand.F.kp F.tstand.b .nil pass0 (pa_cons (pv 4) (pa_cons (pv 6) (pa_cons (pv 3) (pa_cons (pe_op op_sub (pe_callB (r := rLenQ K) call_len_seq (by rfl) B.len PySem.boot_len (pa_cons (pv 7) pa_nil)) pe_int) pa_nil))))) pa_nil)) (by rfl))
      (pss_cons (ps_if (pt_weak (t1 := tOne a.Ts) (PW.pt (pw_or (PW.pt (pw_and (pt_cmpR op_eq (pv 2) pe_int (nomark _)) (pw_and1 (pt_cmpR op_ne (pv 9) (pe_cmpR (r := rIn K false) op_in_seq (pv 5) (pe_slice sl_list (pv 7) po_none (po_some (pe_un un_neg pe_int))) (by rfl)) (nomark _))))) (pw_or1 (PW.pt (pw_and (pt_truth (pv 9) (by intro _; rfl)) (pw_and1 (pt_truth (pv 10) (by intro _; rfl)))))))) (fun σ H Q h => by
        obtain ⟨d, l, i, wn, p, cs, yb, xb, e1, e2, e5, e7, e9, e10, hp, hy, hx, hl, I, k⟩ := h
        have tail : ∀ G, Kp [] H G → tAnd (fun σ H Q => tVar 9 σ H fun x H' => ∃ k, TruV K x H' k ∧ Q k H') (fun σ H Q => tVar 10 σ H fun x H' => ∃ k, TruV K x H' k ∧ Q k H') σ G Q := fun G kG => by
          refine ⟨_, e9, _, rfl, ?_⟩
          cases yb with
          | false => exact iteF (k G kG)
          | true =>
            rw [Bool.true_and] at hx
            subst hx
            exact iteT ⟨_, e10, _, rfl, k G kG⟩
        refine ⟨_, e2, rfl, _, rfl, ite2 (fun h0 => ?_) (fun h0 => iteF (tail H .refl))⟩
        have h1 : i = 0 := by
          have := of_decide_eq_true h0
          injection this with this
          omega
        refine ⟨_, e9, _, e5, _, e7, _, rfl, -1, rfl, p, _, rfl, sql_of hp, fun q nq => ⟨q, _, rfl, .inl (sql_of upd_same), rfl, ?_, ?_⟩⟩
        · show (cutV (intsV cs) none (some (-1))).all flatV = true
          rw [cut_last cs hl]
          exact flat_ints _
        · refine ⟨rfl, _, rfl, ?_⟩
          have hb : V.bl yb = V.bl (inV (.int wn) (cutV (intsV cs) none (some (-1)))) := by rw [cut_last cs hl, in_ints, hy h1]
          exact iteNS hb (tail _ (.new nq))))
        (pss_one (ps_ret pe_bl)) pss_nil)
      (pss_cons (ps_if (PW.pt (pw_or (pt_not (pt_val (pe_call (ok_isT L.toLO) (hr.mono (by decide)) (by rfl) L.isT.g L.isT.F.kp L.isT.b .nil pass0 (pa_cons (pv 11) (pa_cons pe_int pa_nil))))) (pw_or1 (pt_cmpR op_ne (pe_cmpR op_eq (pe_ix ix_tup (pv 11) pe_int (fun _ _ => rfl)) (pe_callB (r := rLenQ K) call_len_seq (by rfl) B.len PySem.boot_len (pa_cons (pe_ix ix_tup (pv 4) pe_int (fun _ _ => rfl)) pa_nil)) (nomark _)) (pv 9) (nomark _)))))
        (pss_one (ps_ret pe_bl)) pss_nil)
      (pss_cons (ps_if (PW.pt (pw_or (pt_cmpR op_ne (pe_callB (cr_reprE hsm rfl hr) (by rfl) B.repr (by decide +kernel) (pa_cons (pv 9) pa_nil)) (pe_callB (cr_reprE hsm rfl hr) (by rfl) B.repr (by decide +kernel) (pa_cons (pv 8) pa_nil)) (nomark _)) (pw_or1 (pt_cmpR op_ne (pe_callB (cr_reprE hsm rfl hr) (by rfl) B.repr (by decide +kernel) (pa_cons (pe_callKR (gO) (hr.mono (by decide)) (by rfl) F.out.g F.out.F.kp L.kOut pass0 (pk_cons (pv 3) (pk_cons (pv 6) (pk_cons (pv 4) pk_nil)))) pa_nil)) (pe_callB (cr_reprE hsm rfl hr) (by rfl) B.repr (by decide +kernel) (pa_cons (pv 8) pa_nil)) (nomark _)))))
        (pss_one (ps_ret pe_bl)) pss_nil)
      (pss_cons (ps_if (pt_cmpR op_ne (pe_callB (cr_reprE hsm rfl hr) (by rfl) B.repr (by decide +kernel) (pa_cons (pv 11) pa_nil)) (pe_callB (cr_reprE hsm rfl hr) (by rfl) B.repr (by decide +kernel) (pa_cons (pe_call (ok_lStand L.lstand.F L.toLO.toLC) (hr.mono (by decide)) (by rfl) L.lstand.g L.lstand.F.kp L.lstand.b .nil pass0 (pa_cons (pv 4) (pa_cons (pv 6) (pa_cons (pv 3) (pa_cons (pe_op op_sub (pe_callB (r := rLenQ K) call_len_seq (by rfl) B.len PySem.boot_len (pa_cons (pv 7) pa_nil)) pe_int) pa_nil))))) pa_nil)) (nomark _))
        (pss_one (ps_ret pe_bl)) pss_nil)
      (pss_one (ps_if (pt_cmpR op_ne (pe_callB (cr_reprE hsm rfl hr) (by rfl) B.repr (by decide +kernel) (pa_cons (pv 10) pa_nil)) (pe_callB (cr_reprE hsm rfl hr) (by rfl) B.repr (by decide +kernel) (pa_cons (pe_call (ok_lOut L.toLO) (hr.mono (by decide)) (by rfl) L.lout.g L.lout.F.kp L.lout.b .nil pass0 (pa_cons (pe_call (ok_exch L.toLO) (hr.mono (by decide)) (by rfl) L.exch.g L.exch.F.kp L.exch.b .nil pass0 (pa_cons (pv 4) pa_nil)) (pa_cons (pv 6) (pa_cons (pv 3) pa_nil)))) pa_nil)) (nomark _))
        (pss_one (ps_ret pe_bl)) pss_nil)))))))))))))
      (pss_one (ps_ret pe_bl))), ?_⟩
  -- NL: script 0, deck 1, turn 2, c 3, machine 4, wanted 5, tree 6, cells 7, due 8, told 9, other 10, last 11
  refine ⟨_, rfl, c, ns, rfl, hS, hn, fun d l H1 D1 k1 nd nl => ?_⟩
  have g1 : TTs a.Ts H1 := g.kp0 k1
  have hasAll : Has (d :: l :: a.Ts) H1 := by
    intro x hx
    obtain ⟨m, n, ms, h1, h2, _⟩ := D1.ex
    rcases List.mem_cons.mp hx with rfl | hx
    · rw [h1]
      exact fun z => nomatch z
    rcases List.mem_cons.mp hx with rfl | hx
    · rw [h2]
      exact fun z => nomatch z
    · obtain ⟨ps, e, _⟩ := g1 x hx
      rw [e]
      exact fun z => nomatch z
  have I1 : LI d l a.Ts H1 := ⟨⟨D1, by simp, by simp, hasAll⟩, g1⟩
  let M := d :: l :: a.Ts
  have dlf : ∀ {G : Hp}, DeckAt G d l → ∀ b ∈ [d, l], ∀ (o : Obj) (xs : List V), G b ≠ some (.frz o (.tup xs)) := dl_frz
  refine ⟨3, rfl, by decide, by decide, ?_⟩
  refine for_range (lo := 0) (n := 3) (fun i σ G => (∃ x2 x3 x4 x5 x6 x7 x8 x9 x10 x11 : Option V, σ = [some (.ref c), some (.ref d), x2, x3, x4, x5, x6, x7, x8, x9, x10, x11]) ∧ LI d l a.Ts G)
    ⟨⟨_, _, _, _, _, _, _, _, _, _, rfl⟩, I1⟩ ?_ ?_
  rotate_left
  · rintro σ G ⟨⟨x2, x3, x4, x5, x6, x7, x8, x9, x10, x11, rfl⟩, I⟩
    exact k G
  rintro i σ H2 hi ⟨⟨x2, x3, x4, x5, x6, x7, x8, x9, x10, x11, rfl⟩, I2⟩
  rw [Int.zero_add]
  -- the clock
  refine ⟨_, rfl, by show 3 ≤ sizeLine; decide, fun p np => ?_⟩
  have I3 := I2.new (o := .lst [.int 1, .int 1, .int 2]) np
  have nn := I2.fr.ne np
  refine ⟨d, l, p, _, rfl, I3.fr.dk, sql_of upd_same, by simp, by show 3 ≤ 1000000; decide, nn.1, nn.2, fun u H4 hu D4 k4 => ?_⟩
  have I4 := I3.own k4 (I3.fr.go k4 D4)
  obtain ⟨cl, rfl, hcl⟩ : ∃ cl : Nat, u = .int cl ∧ (cl = 1 ∨ cl = 2) := by
    simp only [List.mem_cons, List.not_mem_nil, or_false] at hu
    rcases hu with rfl | rfl | rfl
    · exact ⟨1, rfl, .inl rfl⟩
    · exact ⟨1, rfl, .inl rfl⟩
    · exact ⟨2, rfl, .inr rfl⟩
  have c0 : 0 < cl := by omega
  clear hS hn g D1 k1 nd nl g1 hasAll I1 I2 I3 D4 k4 np nn hu
  -- the machine
  refine ⟨d, l, i, rfl, rfl, I4, fun r mv wn gs s ss H5 er m5 o5 hz I5 => ?_⟩
  refine ⟨r, _, rfl, sqt_of er, rfl, _, _, rfl, _, _, rfl, rfl, ?_⟩
  clear er
  -- the tree
  refine ⟨_, rfl, d, l, cl, rfl, rfl, hcl, I5, fun n H6 n24 hN I6 k6 => ?_⟩
  have m6 := m5.kp k6 (dlf I5.fr.dk)
  obtain ⟨m, tg, q, xs, rfl, em, ht, eq, hs⟩ := id m6.ex
  refine ⟨_, rfl, m, _, _, _, rfl, rfl, sqt_of em, atI_nat (j := 1) rfl, _, rfl, d, l, M, 2, rfl, by decide, I6.fr, fun t2 gs2 H7 ft hlow hnd hlen F7 k7 => ?_⟩
  have I7 := I6.own k7 F7
  have m7 := m6.kp k7 (dlf I6.fr.dk)
  have ht7 := ht.kp k7 (I6.fr.tnin ht)
  refine ⟨tg, t2, _, _, rfl, rfl, ht7, ft, ?_, fun th H8 tx kx => ?_⟩
  · rw [List.length_map, List.length_map, hlen]
    have := o5.l3
    exact Nat.le_trans (show gs.length + 2 ≤ 10 by omega) (by decide)
  rw [← List.map_append] at tx
  have I8 := I7.kp0 kx
  have m8 := m7.kp0 kx
  have hge : gs ++ gs2 ≠ [] := by
    intro e
    have := congrArg List.length e
    rw [List.length_append, hlen] at this
    simp at this
  refine ⟨d, l, th, M, n, gs ++ gs2, rfl, by omega, by omega, I8.fr, tx.sqt, hge, ?_, tx.nin I8.fr, ?_, fun tv t H9 T9 ok9 sz9 F9 k9 => ?_⟩
  · rw [List.length_append, hlen]
    have := o5.l3
    omega
  · intro g hg
    rcases List.mem_append.mp hg with hg | hg
    · exact o5.tg g hg
    · exact hlow g hg
  have I9 := I8.own k9 F9
  have m9 := m8.kp k9 (dlf I8.fr.dk)
  have hN' : (2 * t.sz + 1) ^ cl ≤ 10000 := by rw [sz9]; exact hN
  have szt : t.sz ≤ 25 := by omega
  clear m5 I5 m6 I6 em ht eq hs I7 m7 ht7 ft I8 m8 tx kx k7 k6 k9 F7 F9 hge hlow hnd hlen sz9 hN I4 n24 hi
  -- the cells
  refine ⟨_, rfl, _, rfl, _, rfl, .ref m, tv, cl, gs, s, ss, t, rfl, m9, o5, T9, szt, c0, by omega, hN', fun p H10 np hp k10 => ?_⟩
  have I10 := I9.kp0 k10
  have m10 := m9.kp0 k10
  have T10 := T9.kp k10
  have lp : (intsV (cells0 gs t cl)).length = (2 * t.sz + 1) ^ cl := by rw [ints_len, cells0_len gs t c0]
  have N1 : 1 ≤ (2 * t.sz + 1) ^ cl := Nat.pow_pos (by omega)
  have npM : p ∉ a.Ts := fun h => (I9.fr.has.fresh np) (LI.sub p h)
  clear m9 I9 T9 k10 np
  -- the outcomes
  refine ⟨_, rfl, _, rfl, _, rfl, .ref m, tv, cl, gs, s, ss, t, rfl, m10, o5, T10, szt, c0, by omega, hN', fun H11 k11 => ?_⟩
  have I11 := I10.kp0 k11
  have m11 := m10.kp0 k11
  have T11 := T10.kp k11
  have hp11 := k11.at_ _ _ hp List.not_mem_nil
  refine ⟨_, rfl, _, rfl, _, rfl, .ref m, tv, cl, gs, s, ss, t, rfl, m11, o5, T11, ok9, by omega, c0, by omega, hN', I11.tg, fun H12 g12 k12 => ?_⟩
  have I12 := I11.prog k12 g12
  have m12 := m11.kpT I11.tg k12
  have T12 := T11.kp k12
  have hp12 := k12.at_ _ _ hp11 npM
  clear I10 m10 T10 k11 hp I11 m11 T11 hp11 k12 g12
  refine ⟨_, _, rfl, ?_⟩
  -- the other way round
  refine ⟨_, rfl, .ref m, gs, s, ss, rfl, m12, o5, fun mx H13 m13x k13 => ?_⟩
  have I13 := I12.kp0 k13
  have m13 := m12.kp0 k13
  have T13 := T12.kp k13
  have hp13 := k13.at_ _ _ hp12 List.not_mem_nil
  have ox := exch_ok o5
  refine ⟨_, rfl, _, rfl, .ref mx, tv, cl, gs, s, exch ss, t, rfl, m13x, ox, T13, ok9, by omega, c0, by omega, hN', I13.tg, fun H14 g14 k14 => ?_⟩
  have I14 := I13.prog k14 g14
  have m14 := m13.kpT I13.tg k14
  have T14 := T13.kp k14
  have hp14 := k14.at_ _ _ hp13 npM
  have gres : ∀ many : Nat, Good 2 500000 (resD (runN ss many (cfg0 gs t cl))) := fun many => by
    have ok := cfg0_ok o5 t c0
    have h1 := run_ok o5 ok many
    have h2 := runN_q o5 ok (Nat.zero_le _) many
    have := o5.n4
    have := o5.s5
    exact res_good (L := (2 * t.sz + 1) ^ cl) (by omega) (by have := h1.h; omega) (by rw [h1.l]; exact Nat.le_refl _) (fun y hy => by have := h1.c y hy; omega) hN'
  have eN : (((intsV (cells0 gs t cl)).length : Nat) : Int) - 1 = (((2 * t.sz + 1) ^ cl - 1 : Nat) : Int) := by rw [lp]; omega
  refine ⟨_, rfl, _, rfl, _, rfl, _, rfl, p, _, rfl, .inl (sql_of hp14), _, _, rfl, rfl, .ref m, tv, cl, (2 * t.sz + 1) ^ cl - 1, gs, s, ss, t, congrArg (fun z => [V.ref m, tv, V.int (cl : Int), V.int z]) eN, m14, o5, T14, ok9, by omega, c0, by omega, hN', by omega, I14.tg, fun r2 c2 H15 e1 e2 g15 k15 => ?_⟩
  have I15 := I14.prog k15 g15
  have m15 := m14.kpT I14.tg k15
  have T15 := T14.kp k15
  have hp15 := k15.at_ _ _ hp14 npM
  clear I12 m12 T12 hp12 I13 m13 T13 hp13 m13x k13 g14 k14 I14 m14 T14 hp14 g15 k15
  obtain ⟨yb, hyb⟩ : ∃ yb, yesB gs ss t cl = yb := ⟨_, rfl⟩
  obtain ⟨xb, hxb⟩ : ∃ xb, yesB gs (exch ss) t cl = xb := ⟨_, rfl⟩
  have hnot := exch_not o5 t c0
  rw [hyb, hxb] at hnot
  rw [hyb, hxb]
  refine ⟨_, _, rfl, ?_⟩
  -- the first test
  have hyw : i = 0 → yb = (cells0 gs t cl).dropLast.any fun y => decide (y = wn) := fun e => by
    obtain ⟨rs, rfl, sk⟩ := hz e
    rw [← hyb]
    exact seek_yes sk o5.s2 t c0
  refine ⟨d, l, i, wn, p, cells0 gs t cl, yb, xb, rfl, rfl, rfl, rfl, rfl, rfl, hp15, hyw, hnot, by rw [← ints_len, lp]; exact N1, I15, fun H16 k16 => iteF ?_⟩
  have I16 := I15.kp0 k16
  have m16 := m15.kp0 k16
  have T16 := T15.kp k16
  have hp16 := k16.at_ _ _ hp15 List.not_mem_nil
  have e116 := k16.tup _ _ e1
  have e216 := k16.tup _ _ e2
  clear I15 m15 T15 hp15 k16 e1 e2 hyw hz hnot
  -- the second
  refine ⟨_, rfl, r2, _, rfl, e116, true, rfl, iteF ?_⟩
  obtain ⟨m', tg, q, xs, em', em, ht, eq, hs⟩ := id m16.ex
  cases em'
  have hyq : V.bl (decide (V.int (runN ss ((2 * t.sz + 1) ^ cl - 1) (cfg0 gs t cl)).q = V.int (xs.length : Nat))) = V.bl yb := by
    rw [hs.len, q_len, ← hyb]
    rfl
  refine ⟨_, rfl, r2, _, _, _, rfl, rfl, sqt_of e116, atI_nat (j := 0) rfl, _, rfl, m, _, _, _, rfl, rfl, sqt_of em, atI_nat (j := 3) rfl, q, xs, rfl, .inr (sqt_of eq), rfl, _, rfl, rfl, _, rfl, iteNS hyq ?_⟩
  -- the third
  have gb : ∀ b : Bool, Good 2 500000 (.bool b) := fun b => ⟨rfl, Nat.zero_le _, by cases b <;> decide⟩
  obtain ⟨Ty, hTy⟩ : ∃ Tx, (PyData.bool yb).shown = Tx := ⟨_, rfl⟩
  refine ⟨_, rfl, re_anT (ms := M) (.bl _) (gb yb) (by decide) (by decide) hTy ?_⟩
  refine ⟨_, rfl, re_anT (ms := M) (.bl _) (gb yb) (by decide) (by decide) hTy ?_⟩
  refine ⟨rfl, _, rfl, iteNS rfl ?_⟩
  refine ⟨_, rfl, _, rfl, _, rfl, .ref m, tv, cl, gs, s, ss, t, rfl, m16, o5, T16, ok9, by omega, c0, by omega, hN', I16.tg, fun H17 g17 k17 => ?_⟩
  have I17 := I16.prog k17 g17
  have m17 := m16.kpT I16.tg k17
  have T17 := T16.kp k17
  have hp17 := k17.at_ _ _ hp16 npM
  have e117 := k17.tup _ _ e116
  have e217 := k17.tup _ _ e216
  rw [hyb]
  refine re_anT (ms := M) (.bl _) (gb yb) (by decide) (by decide) hTy ?_
  refine ⟨_, rfl, re_anT (ms := M) (.bl _) (gb yb) (by decide) (by decide) hTy ?_⟩
  refine ⟨rfl, _, rfl, iteNS rfl ?_⟩
  clear I16 m16 T16 hp16 e116 e216 g17 k17 hyq em ht eq hs
  -- the fourth
  have res_an : ∀ {ms : List Addr} {G : Hp} {r ct : Addr} {x : Cfg}, G r = some (.tup [.int x.q, .int x.h, .ref ct]) → G ct = some (.tup (intsV x.cs)) → An ms G (.ref r) (resD x) := fun h1 h2 => .tup h1 (.cons (.int _) (.cons (.int _) (.cons (.tup h2 (ints_an _)) .nil)))
  obtain ⟨Tx, hTx⟩ : ∃ Tx, (resD (runN ss ((2 * t.sz + 1) ^ cl - 1) (cfg0 gs t cl))).shown = Tx := ⟨_, rfl⟩
  refine ⟨_, rfl, re_anT (ms := M) (res_an e117 e217) (gres _) (by decide) (by decide) hTx ?_⟩
  refine ⟨_, rfl, _, rfl, _, rfl, _, rfl, p, _, rfl, .inl (sql_of hp17), _, _, rfl, rfl, .ref m, tv, cl, (2 * t.sz + 1) ^ cl - 1, gs, s, ss, t, congrArg (fun z => [V.ref m, tv, V.int (cl : Int), V.int z]) eN, m17, o5, T17, szt, c0, by omega, hN', by omega, fun r3 c3 H18 f1 f2 k18 => ?_⟩
  have I18 := I17.kp0 k18
  have m18 := m17.kp0 k18
  have T18 := T17.kp k18
  refine re_anT (ms := M) (res_an f1 f2) (gres _) (by decide) (by decide) hTx ?_
  refine ⟨rfl, _, rfl, iteNS rfl ?_⟩
  -- the fifth
  obtain ⟨Tz, hTz⟩ : ∃ Tx, (PyData.bool xb).shown = Tx := ⟨_, rfl⟩
  refine ⟨_, rfl, re_anT (ms := M) (.bl _) (gb xb) (by decide) (by decide) hTz ?_⟩
  refine ⟨_, rfl, .ref m, gs, s, ss, rfl, m18, o5, fun mx H19 m19x k19 => ?_⟩
  have I19 := I18.kp0 k19
  have T19 := T18.kp k19
  refine ⟨_, rfl, _, rfl, .ref mx, tv, cl, gs, s, exch ss, t, rfl, m19x, ox, T19, szt, c0, by omega, hN', fun H20 k20 => ?_⟩
  rw [hxb]
  refine re_anT (ms := M) (.bl _) (gb xb) (by decide) (by decide) hTz ?_
  refine ⟨rfl, _, rfl, iteNS rfl ?_⟩
  exact ⟨⟨_, _, _, _, _, _, _, _, _, _, rfl⟩, I19.kp0 k20⟩
end
end Ey
/-! ### the end -/
namespace Ey
open PySem PySem.Spec L2
/-- what the head tells of one def -/
structure DfK (K : PySem.W.Frag) (x : Str) (st : Stmt) (f : Addr) (oc kV dc pm cd ct : Value) (od an : Option Addr) (sl : Array (Option Value)) : Prop where
  a : PySem.W.nsIn K mainGlobals x = some (some (.ref f))
  l : K.lookup f = some ⟨oc, od, .func (PySem.W.fnOf x x (defArgs st) (defBody st) (defScope st) .none kV dc pm an cd ct), sl⟩
  c : PySem.W.codeIn K cd x = true
  k : PySem.W.keepIn K (.ref f) = true
theorem DfK.df {K : PySem.W.Frag} {x : Str} {st : Stmt} {f : Addr} {oc kV dc pm cd ct : Value} {od an : Option Addr} {sl : Array (Option Value)} {mg : Str → Option Value} {h : Heap} {ps : List Str} (e : DfK K x st f oc kV dc pm cd ct od an sl) (X : K.In h) (G : h.Ns mainGlobals mg)
    (hb : ∀ (kV doc pm : Value) (an : Option Addr) (cdv ct : Value) (us : List Value), us.length = ps.length → bindArgs (PySem.W.fnOf x x (defArgs st) (defBody st) (defScope st) .none kV doc pm an cdv ct) ⟨us, []⟩ = pure (ps.zip us)) :
    Df K mg x st ps f (PySem.W.fnOf x x (defArgs st) (defBody st) (defScope st) .none kV dc pm an cd ct) :=
  ⟨fun_mk e.l e.c e.k, (fun_mk e.l e.c e.k).binds hb, PySem.W.mg_of X G e.a⟩


set_option maxHeartbeats 8000000 in
theorem all_mk {P : Program} {q : Program} {lo : List Str} {mean : ExcName → Option Value} {w : World} {K : PySem.W.Frag} {h : Heap} {mg mb : Str → Option Value} {fa : Addr} (X : K.In h) (T : PyProof.Rows.Top q lo mean mg mb h) (hfa : mg "law" = some (.ref fa))
    {c0 P0 c1 P1 c2 P2 c3 P3 c4 P4 : Addr} {dr0 dr1 dr2 dr3 dr4 : DefRec}
    {f6 f7 f11 f12 f13 f14 f16 f18 f19 f20 f21 f22 f23 f24 f25 f26 f27 f28 f30 f31 f32 f33 f34 f35 f36 f37 f38 f39 f40 f41 f42 f43 f44 : Addr}
    {oc6 kV6 dc6 pm6 ct6 cd6 oc7 kV7 dc7 pm7 ct7 cd7 oc11 kV11 dc11 pm11 ct11 oc12 kV12 dc12 pm12 ct12 cd12 oc13 kV13 dc13 pm13 ct13 cd13 oc14 kV14 dc14 pm14 ct14 cd14 oc16 kV16 dc16 pm16 ct16 cd16 oc18 kV18 dc18 pm18 ct18 oc19 kV19 dc19 pm19 ct19 oc20 kV20 dc20 pm20 ct20 oc21 kV21 dc21 pm21 ct21 oc22 kV22 dc22 pm22 ct22 cd22 oc23 kV23 dc23 pm23 ct23 cd23 oc24 kV24 dc24 pm24 ct24 cd24 oc25 kV25 dc25 pm25 ct25 cd25 oc26 kV26 dc26 pm26 ct26 cd26 oc27 kV27 dc27 pm27 ct27 cd27 oc28 kV28 dc28 pm28 ct28 cd28 oc30 kV30 dc30 pm30 ct30 cd30 oc31 kV31 dc31 pm31 ct31 cd31 oc32 kV32 dc32 pm32 ct32 cd32 oc33 kV33 dc33 pm33 ct33 cd33 oc34 kV34 dc34 pm34 ct34 cd34 oc35 kV35 dc35 pm35 ct35 cd35 oc36 kV36 dc36 pm36 ct36 cd36 oc37 kV37 dc37 pm37 ct37 cd37 oc38 kV38 dc38 pm38 ct38 cd38 oc39 kV39 dc39 pm39 ct39 cd39 oc40 kV40 dc40 pm40 ct40 cd40 oc41 kV41 dc41 pm41 ct41 cd41 oc42 kV42 dc42 pm42 ct42 cd42 oc43 kV43 dc43 pm43 ct43 cd43 oc44 kV44 dc44 pm44 ct44 cd44 : Value}
    {od6 an6 od7 an7 od11 an11 od12 an12 od13 an13 od14 an14 od16 an16 od18 an18 od19 an19 od20 an20 od21 an21 od22 an22 od23 an23 od24 an24 od25 an25 od26 an26 od27 an27 od28 an28 od30 an30 od31 an31 od32 an32 od33 an33 od34 an34 od35 an35 od36 an36 od37 an37 od38 an38 od39 an39 od40 an40 od41 an41 od42 an42 od43 an43 od44 an44 : Option Addr}
    {sl6 sl7 sl11 sl12 sl13 sl14 sl16 sl18 sl19 sl20 sl21 sl22 sl23 sl24 sl25 sl26 sl27 sl28 sl30 sl31 sl32 sl33 sl34 sl35 sl36 sl37 sl38 sl39 sl40 sl41 sl42 sl43 sl44 : Array (Option Value)}
    (e6 : DfK K "is_plain_int" sPlain f6 oc6 kV6 dc6 pm6 cd6 ct6 od6 an6 sl6)
    (e7 : DfK K "is_natural" sNat f7 oc7 kV7 dc7 pm7 cd7 ct7 od7 an7 sl7)
    (e11 : DfK K "is_tag" sIsTag f11 oc11 kV11 dc11 pm11 (.ref c0) ct11 od11 an11 sl11)
    (e12 : DfK K "is_tree" sIsTree f12 oc12 kV12 dc12 pm12 cd12 ct12 od12 an12 sl12)
    (e13 : DfK K "check_tree" sCheck f13 oc13 kV13 dc13 pm13 cd13 ct13 od13 an13 sl13)
    (e14 : DfK K "standing" sStand f14 oc14 kV14 dc14 pm14 cd14 ct14 od14 an14 sl14)
    (e16 : DfK K "power" sPower f16 oc16 kV16 dc16 pm16 cd16 ct16 od16 an16 sl16)
    (e18 : DfK K "is_rule" sRule f18 oc18 kV18 dc18 pm18 (.ref c1) ct18 od18 an18 sl18)
    (e19 : DfK K "is_state" sState f19 oc19 kV19 dc19 pm19 (.ref c2) ct19 od19 an19 sl19)
    (e20 : DfK K "are_unlike_tags" sTags f20 oc20 kV20 dc20 pm20 (.ref c3) ct20 od20 an20 sl20)
    (e21 : DfK K "is_tape" sTape f21 oc21 kV21 dc21 pm21 (.ref c4) ct21 od21 an21 sl21)
    (e22 : DfK K "is_clock" sClock f22 oc22 kV22 dc22 pm22 cd22 ct22 od22 an22 sl22)
    (e23 : DfK K "check_clocked" sCheckC f23 oc23 kV23 dc23 pm23 cd23 ct23 od23 an23 sl23)
    (e24 : DfK K "sign_of" sSign f24 oc24 kV24 dc24 pm24 cd24 ct24 od24 an24 sl24)
    (e25 : DfK K "cells_at_first" sCells f25 oc25 kV25 dc25 pm25 cd25 ct25 od25 an25 sl25)
    (e26 : DfK K "stands_after" sAfter f26 oc26 kV26 dc26 pm26 cd26 ct26 od26 an26 sl26)
    (e27 : DfK K "tape_standing" sTStand f27 oc27 kV27 dc27 pm27 cd27 ct27 od27 an27 sl27)
    (e28 : DfK K "tape_outcome" sOut f28 oc28 kV28 dc28 pm28 cd28 ct28 od28 an28 sl28)
    (e30 : DfK K "_law_deck" sDeck f30 oc30 kV30 dc30 pm30 cd30 ct30 od30 an30 sl30)
    (e31 : DfK K "_law_draw" sDraw f31 oc31 kV31 dc31 pm31 cd31 ct31 od31 an31 sl31)
    (e32 : DfK K "_law_pick" sPick f32 oc32 kV32 dc32 pm32 cd32 ct32 od32 an32 sl32)
    (e33 : DfK K "_law_is_tuple" sIsT f33 oc33 kV33 dc33 pm33 cd33 ct33 od33 an33 sl33)
    (e34 : DfK K "_law_tags" sDTags f34 oc34 kV34 dc34 pm34 cd34 ct34 od34 an34 sl34)
    (e35 : DfK K "_law_tree" sDTree f35 oc35 kV35 dc35 pm35 cd35 ct35 od35 an35 sl35)
    (e36 : DfK K "_law_map" sMap f36 oc36 kV36 dc36 pm36 cd36 ct36 od36 an36 sl36)
    (e37 : DfK K "_law_power" sLPow f37 oc37 kV37 dc37 pm37 cd37 ct37 od37 an37 sl37)
    (e38 : DfK K "_law_tape" sDTape f38 oc38 kV38 dc38 pm38 cd38 ct38 od38 an38 sl38)
    (e39 : DfK K "_law_cells" sLCells f39 oc39 kV39 dc39 pm39 cd39 ct39 od39 an39 sl39)
    (e40 : DfK K "_law_standing" sLStand f40 oc40 kV40 dc40 pm40 cd40 ct40 od40 an40 sl40)
    (e41 : DfK K "_law_outcome" sLOut f41 oc41 kV41 dc41 pm41 cd41 ct41 od41 an41 sl41)
    (e42 : DfK K "_law_seeker" sSeek f42 oc42 kV42 dc42 pm42 cd42 ct42 od42 an42 sl42)
    (e43 : DfK K "_law_exchanged" sExch f43 oc43 kV43 dc43 pm43 cd43 ct43 od43 an43 sl43)
    (e44 : DfK K "law" sLaw f44 oc44 kV44 dc44 pm44 cd44 ct44 od44 an44 sl44)
    (z_int : PySem.W.nsIn K mainGlobals "int" = some none)
    (z_max : PySem.W.nsIn K mainGlobals "max" = some none)
    (z_list : PySem.W.nsIn K mainGlobals "list" = some none)
    (z_len : PySem.W.nsIn K mainGlobals "len" = some none)
    (z_range : PySem.W.nsIn K mainGlobals "range" = some none)
    (z_tuple : PySem.W.nsIn K mainGlobals "tuple" = some none)
    (z_sorted : PySem.W.nsIn K mainGlobals "sorted" = some none)
    (z_repr : PySem.W.nsIn K mainGlobals "repr" = some none)
    (z_isi : PySem.W.nsIn K mainGlobals "isinstance" = some none)
    (z_str : PySem.W.nsIn K mainGlobals "str" = some none)
    (z_all : PySem.W.nsIn K mainGlobals "all" = some none)
    (z_bool : PySem.W.nsIn K mainGlobals "bool" = some none)
    (z_set : PySem.W.nsIn K mainGlobals "set" = some none)
    (z_min : PySem.W.nsIn K mainGlobals "min" = some none)
    (tb0 : PySem.W.tabIn K "is_tag" = some (c0, P0)) (rc0 : (PyProof.Rows.recsOf q).find? (fun e => e.name == ("is_tag" : Str)) = some dr0) (nT0 : K.lookup P0 = none)
    (tb1 : PySem.W.tabIn K "is_rule" = some (c1, P1)) (rc1 : (PyProof.Rows.recsOf q).find? (fun e => e.name == ("is_rule" : Str)) = some dr1) (nT1 : K.lookup P1 = none)
    (tb2 : PySem.W.tabIn K "is_state" = some (c2, P2)) (rc2 : (PyProof.Rows.recsOf q).find? (fun e => e.name == ("is_state" : Str)) = some dr2) (nT2 : K.lookup P2 = none)
    (tb3 : PySem.W.tabIn K "are_unlike_tags" = some (c3, P3)) (rc3 : (PyProof.Rows.recsOf q).find? (fun e => e.name == ("are_unlike_tags" : Str)) = some dr3) (nT3 : K.lookup P3 = none)
    (tb4 : PySem.W.tabIn K "is_tape" = some (c4, P4)) (rc4 : (PyProof.Rows.recsOf q).find? (fun e => e.name == ("is_tape" : Str)) = some dr4) (nT4 : K.lookup P4 = none)
    {tL : Tok} (gL : PySem.W.nsIn K mainGlobals "LETTERS" = some (some (.str "abcdefghijklmnopqrstuvwxyz" tL)))
    {tT : Tok} (gT : PySem.W.nsIn K mainGlobals "TAG_LENGTH" = some (some (.int 8 tT)))
    :
    ∃ (fd : FuncData) (cs : List (Addr × Addr)) (sp : Sp), Tabs K h cs ∧ (∀ (s : Shared) (u : Value), BindsTo s fd ⟨[u], []⟩ [("_law_script", u)]) ∧
      (∀ (H : Hp) (a : Addr) (ns : List Int), ns.length ≤ 63 → (∀ p ∈ cs, H p.2 = some (.tbl #[])) → SqL K H a (ns.map V.int) → sp [.ref a] H (fun v _ => v = .bl true) L2.E0) ∧
      ∀ base : Heap, K.In base → base.Ns mainGlobals mg → (∀ p ∈ cs, GxR.TabB base mg p.1 p.2) → (∃ mm, base.Ns sysModules mm) → LawOk P w K mg base fa fd "_law_script" sp := by
  have G := T.g
  have e := hfa.symm.trans (PySem.W.mg_of X G e44.a)
  cases e
  obtain ⟨hd0, tq0⟩ := PySem.W.tab_of T X rc0 tb0
  obtain ⟨hd1, tq1⟩ := PySem.W.tab_of T X rc1 tb1
  obtain ⟨hd2, tq2⟩ := PySem.W.tab_of T X rc2 tb2
  obtain ⟨hd3, tq3⟩ := PySem.W.tab_of T X rc3 tb3
  obtain ⟨hd4, tq4⟩ := PySem.W.tab_of T X rc4 tb4
  have B : BI mg := ⟨PySem.W.mg_none_of X G z_int, PySem.W.mg_none_of X G z_max, PySem.W.mg_none_of X G z_list, PySem.W.mg_none_of X G z_len, PySem.W.mg_none_of X G z_range, PySem.W.mg_none_of X G z_tuple, PySem.W.mg_none_of X G z_sorted, PySem.W.mg_none_of X G z_repr, PySem.W.mg_none_of X G z_isi, PySem.W.mg_none_of X G z_str, PySem.W.mg_none_of X G z_all, PySem.W.mg_none_of X G z_bool, PySem.W.mg_none_of X G z_set, PySem.W.mg_none_of X G z_min⟩
  have D6 := e6.df (ps := ["thing"]) X G fun _ _ _ _ _ _ us hl => match us, hl with | [_], _ => rfl
  have D7 := e7.df (ps := ["thing"]) X G fun _ _ _ _ _ _ us hl => match us, hl with | [_], _ => rfl
  have D11 := e11.df (ps := ["thing"]) X G fun _ _ _ _ _ _ us hl => match us, hl with | [_], _ => rfl
  have D12 := e12.df (ps := ["thing"]) X G fun _ _ _ _ _ _ us hl => match us, hl with | [_], _ => rfl
  have D13 := e13.df (ps := ["tree"]) X G fun _ _ _ _ _ _ us hl => match us, hl with | [_], _ => rfl
  have D14 := e14.df (ps := ["tree"]) X G fun _ _ _ _ _ _ us hl => match us, hl with | [_], _ => rfl
  have D16 := e16.df (ps := ["base", "exponent"]) X G fun _ _ _ _ _ _ us hl => match us, hl with | [_, _], _ => rfl
  have D18 := e18.df (ps := ["signs", "many", "thing"]) X G fun _ _ _ _ _ _ us hl => match us, hl with | [_, _, _], _ => rfl
  have D19 := e19.df (ps := ["signs", "many", "thing"]) X G fun _ _ _ _ _ _ us hl => match us, hl with | [_, _, _], _ => rfl
  have D20 := e20.df (ps := ["thing"]) X G fun _ _ _ _ _ _ us hl => match us, hl with | [_], _ => rfl
  have D21 := e21.df (ps := ["thing"]) X G fun _ _ _ _ _ _ us hl => match us, hl with | [_], _ => rfl
  have D22 := e22.df (ps := ["thing"]) X G fun _ _ _ _ _ _ us hl => match us, hl with | [_], _ => rfl
  have D23 := e23.df (ps := ["machine", "tree", "c"]) X G fun _ _ _ _ _ _ us hl => match us, hl with | [_, _, _], _ => rfl
  have D24 := e24.df (ps := ["part", "tags"]) X G fun _ _ _ _ _ _ us hl => match us, hl with | [_, _], _ => rfl
  have D25 := e25.df (ps := ["tags", "tree", "c"]) X G fun _ _ _ _ _ _ us hl => match us, hl with | [_, _, _], _ => rfl
  have D26 := e26.df (ps := ["machine", "cells", "many"]) X G fun _ _ _ _ _ _ us hl => match us, hl with | [_, _, _], _ => rfl
  have D27 := e27.df (ps := ["machine", "tree", "c", "many"]) X G fun _ _ _ _ _ _ us hl => match us, hl with | [_, _, _, _], _ => rfl
  have D28 := e28.df (ps := ["machine", "tree", "c"]) X G fun _ _ _ _ _ _ us hl => match us, hl with | [_, _, _], _ => rfl
  have D30 := e30.df (ps := ["_law_script"]) X G fun _ _ _ _ _ _ us hl => match us, hl with | [_], _ => rfl
  have D31 := e31.df (ps := ["_law_deck_here", "_law_many"]) X G fun _ _ _ _ _ _ us hl => match us, hl with | [_, _], _ => rfl
  have D32 := e32.df (ps := ["_law_deck_here", "_law_some"]) X G fun _ _ _ _ _ _ us hl => match us, hl with | [_, _], _ => rfl
  have D33 := e33.df (ps := ["_law_thing", "_law_many"]) X G fun _ _ _ _ _ _ us hl => match us, hl with | [_, _], _ => rfl
  have D34 := e34.df (ps := ["_law_deck_here", "_law_many"]) X G fun _ _ _ _ _ _ us hl => match us, hl with | [_, _], _ => rfl
  have D35 := e35.df (ps := ["_law_deck_here", "_law_nodes", "_law_tags_here"]) X G fun _ _ _ _ _ _ us hl => match us, hl with | [_, _, _], _ => rfl
  have D36 := e36.df (ps := ["_law_tree_here"]) X G fun _ _ _ _ _ _ us hl => match us, hl with | [_], _ => rfl
  have D37 := e37.df (ps := ["_law_base", "_law_many"]) X G fun _ _ _ _ _ _ us hl => match us, hl with | [_, _], _ => rfl
  have D38 := e38.df (ps := ["_law_deck_here", "_law_most"]) X G fun _ _ _ _ _ _ us hl => match us, hl with | [_, _], _ => rfl
  have D39 := e39.df (ps := ["_law_machine", "_law_tree_here", "_law_c"]) X G fun _ _ _ _ _ _ us hl => match us, hl with | [_, _, _], _ => rfl
  have D40 := e40.df (ps := ["_law_machine", "_law_tree_here", "_law_c", "_law_many"]) X G fun _ _ _ _ _ _ us hl => match us, hl with | [_, _, _, _], _ => rfl
  have D41 := e41.df (ps := ["_law_machine", "_law_tree_here", "_law_c"]) X G fun _ _ _ _ _ _ us hl => match us, hl with | [_, _, _], _ => rfl
  have D42 := e42.df (ps := ["_law_deck_here"]) X G fun _ _ _ _ _ _ us hl => match us, hl with | [_], _ => rfl
  have D43 := e43.df (ps := ["_law_machine"]) X G fun _ _ _ _ _ _ us hl => match us, hl with | [_], _ => rfl
  have D44 := e44.df (ps := ["_law_script"]) X G fun _ _ _ _ _ _ us hl => match us, hl with | [_], _ => rfl
  have DT11 : DfT K mg "is_tag" sIsTag ["thing"] f11 _ c0 := ⟨D11, _, _, _, _, _, _, _, _, rfl, e11.l, e11.c⟩
  have DT18 : DfT K mg "is_rule" sRule ["signs", "many", "thing"] f18 _ c1 := ⟨D18, _, _, _, _, _, _, _, _, rfl, e18.l, e18.c⟩
  have DT19 : DfT K mg "is_state" sState ["signs", "many", "thing"] f19 _ c2 := ⟨D19, _, _, _, _, _, _, _, _, rfl, e19.l, e19.c⟩
  have DT20 : DfT K mg "are_unlike_tags" sTags ["thing"] f20 _ c3 := ⟨D20, _, _, _, _, _, _, _, _, rfl, e20.l, e20.c⟩
  have DT21 : DfT K mg "is_tape" sTape ["thing"] f21 _ c4 := ⟨D21, _, _, _, _, _, _, _, _, rfl, e21.l, e21.c⟩
  let AA : Nat → Addr := fun i => match i with
    | 6 => f6
    | 7 => f7
    | 11 => f11
    | 12 => f12
    | 13 => f13
    | 14 => f14
    | 16 => f16
    | 18 => f18
    | 19 => f19
    | 20 => f20
    | 21 => f21
    | 22 => f22
    | 23 => f23
    | 24 => f24
    | 25 => f25
    | 26 => f26
    | 27 => f27
    | 28 => f28
    | 30 => f30
    | 31 => f31
    | 32 => f32
    | 33 => f33
    | 34 => f34
    | 35 => f35
    | 36 => f36
    | 37 => f37
    | 38 => f38
    | 39 => f39
    | 40 => f40
    | 41 => f41
    | 42 => f42
    | 43 => f43
    | _ => 0
  let DD : Nat → FuncData := fun i => match i with
    | 6 => PySem.W.fnOf "is_plain_int" "is_plain_int" (defArgs sPlain) (defBody sPlain) (defScope sPlain) .none kV6 dc6 pm6 an6 cd6 ct6
    | 7 => PySem.W.fnOf "is_natural" "is_natural" (defArgs sNat) (defBody sNat) (defScope sNat) .none kV7 dc7 pm7 an7 cd7 ct7
    | 11 => PySem.W.fnOf "is_tag" "is_tag" (defArgs sIsTag) (defBody sIsTag) (defScope sIsTag) .none kV11 dc11 pm11 an11 (.ref c0) ct11
    | 12 => PySem.W.fnOf "is_tree" "is_tree" (defArgs sIsTree) (defBody sIsTree) (defScope sIsTree) .none kV12 dc12 pm12 an12 cd12 ct12
    | 13 => PySem.W.fnOf "check_tree" "check_tree" (defArgs sCheck) (defBody sCheck) (defScope sCheck) .none kV13 dc13 pm13 an13 cd13 ct13
    | 14 => PySem.W.fnOf "standing" "standing" (defArgs sStand) (defBody sStand) (defScope sStand) .none kV14 dc14 pm14 an14 cd14 ct14
    | 16 => PySem.W.fnOf "power" "power" (defArgs sPower) (defBody sPower) (defScope sPower) .none kV16 dc16 pm16 an16 cd16 ct16
    | 18 => PySem.W.fnOf "is_rule" "is_rule" (defArgs sRule) (defBody sRule) (defScope sRule) .none kV18 dc18 pm18 an18 (.ref c1) ct18
    | 19 => PySem.W.fnOf "is_state" "is_state" (defArgs sState) (defBody sState) (defScope sState) .none kV19 dc19 pm19 an19 (.ref c2) ct19
    | 20 => PySem.W.fnOf "are_unlike_tags" "are_unlike_tags" (defArgs sTags) (defBody sTags) (defScope sTags) .none kV20 dc20 pm20 an20 (.ref c3) ct20
    | 21 => PySem.W.fnOf "is_tape" "is_tape" (defArgs sTape) (defBody sTape) (defScope sTape) .none kV21 dc21 pm21 an21 (.ref c4) ct21
    | 22 => PySem.W.fnOf "is_clock" "is_clock" (defArgs sClock) (defBody sClock) (defScope sClock) .none kV22 dc22 pm22 an22 cd22 ct22
    | 23 => PySem.W.fnOf "check_clocked" "check_clocked" (defArgs sCheckC) (defBody sCheckC) (defScope sCheckC) .none kV23 dc23 pm23 an23 cd23 ct23
    | 24 => PySem.W.fnOf "sign_of" "sign_of" (defArgs sSign) (defBody sSign) (defScope sSign) .none kV24 dc24 pm24 an24 cd24 ct24
    | 25 => PySem.W.fnOf "cells_at_first" "cells_at_first" (defArgs sCells) (defBody sCells) (defScope sCells) .none kV25 dc25 pm25 an25 cd25 ct25
    | 26 => PySem.W.fnOf "stands_after" "stands_after" (defArgs sAfter) (defBody sAfter) (defScope sAfter) .none kV26 dc26 pm26 an26 cd26 ct26
    | 27 => PySem.W.fnOf "tape_standing" "tape_standing" (defArgs sTStand) (defBody sTStand) (defScope sTStand) .none kV27 dc27 pm27 an27 cd27 ct27
    | 28 => PySem.W.fnOf "tape_outcome" "tape_outcome" (defArgs sOut) (defBody sOut) (defScope sOut) .none kV28 dc28 pm28 an28 cd28 ct28
    | 30 => PySem.W.fnOf "_law_deck" "_law_deck" (defArgs sDeck) (defBody sDeck) (defScope sDeck) .none kV30 dc30 pm30 an30 cd30 ct30
    | 31 => PySem.W.fnOf "_law_draw" "_law_draw" (defArgs sDraw) (defBody sDraw) (defScope sDraw) .none kV31 dc31 pm31 an31 cd31 ct31
    | 32 => PySem.W.fnOf "_law_pick" "_law_pick" (defArgs sPick) (defBody sPick) (defScope sPick) .none kV32 dc32 pm32 an32 cd32 ct32
    | 33 => PySem.W.fnOf "_law_is_tuple" "_law_is_tuple" (defArgs sIsT) (defBody sIsT) (defScope sIsT) .none kV33 dc33 pm33 an33 cd33 ct33
    | 34 => PySem.W.fnOf "_law_tags" "_law_tags" (defArgs sDTags) (defBody sDTags) (defScope sDTags) .none kV34 dc34 pm34 an34 cd34 ct34
    | 35 => PySem.W.fnOf "_law_tree" "_law_tree" (defArgs sDTree) (defBody sDTree) (defScope sDTree) .none kV35 dc35 pm35 an35 cd35 ct35
    | 36 => PySem.W.fnOf "_law_map" "_law_map" (defArgs sMap) (defBody sMap) (defScope sMap) .none kV36 dc36 pm36 an36 cd36 ct36
    | 37 => PySem.W.fnOf "_law_power" "_law_power" (defArgs sLPow) (defBody sLPow) (defScope sLPow) .none kV37 dc37 pm37 an37 cd37 ct37
    | 38 => PySem.W.fnOf "_law_tape" "_law_tape" (defArgs sDTape) (defBody sDTape) (defScope sDTape) .none kV38 dc38 pm38 an38 cd38 ct38
    | 39 => PySem.W.fnOf "_law_cells" "_law_cells" (defArgs sLCells) (defBody sLCells) (defScope sLCells) .none kV39 dc39 pm39 an39 cd39 ct39
    | 40 => PySem.W.fnOf "_law_standing" "_law_standing" (defArgs sLStand) (defBody sLStand) (defScope sLStand) .none kV40 dc40 pm40 an40 cd40 ct40
    | 41 => PySem.W.fnOf "_law_outcome" "_law_outcome" (defArgs sLOut) (defBody sLOut) (defScope sLOut) .none kV41 dc41 pm41 an41 cd41 ct41
    | 42 => PySem.W.fnOf "_law_seeker" "_law_seeker" (defArgs sSeek) (defBody sSeek) (defScope sSeek) .none kV42 dc42 pm42 an42 cd42 ct42
    | 43 => PySem.W.fnOf "_law_exchanged" "_law_exchanged" (defArgs sExch) (defBody sExch) (defScope sExch) .none kV43 dc43 pm43 an43 cd43 ct43
    | _ => PySem.W.fnOf "law" "law" (defArgs sLaw) (defBody sLaw) (defScope sLaw) .none kV44 dc44 pm44 an44 cd44 ct44
  let ad : Adr := ⟨AA, DD, c0, P0, c1, P1, c2, P2, c3, P3, c4, P4⟩
  have Fp : PF K mg ad := ⟨B, D6, DT11, DT18, DT19, DT20, DT21, ⟨tL, PySem.W.mg_of X G gL⟩, ⟨tT, PySem.W.mg_of X G gT⟩⟩
  have Fg : PG K mg ad := { toPF := Fp, nat := D7, isTree := D12, check := D13, stand := D14, power := D16, clock := D22, checkC := D23, sign := D24, cells := D25, after := D26, tstand := D27 }
  have Fo : PO K mg ad := { toPG := Fg, out := D28 }
  have L1 : LR K mg AA DD := ⟨B, D31, D32⟩
  have L2 : LT K mg AA DD := ⟨L1, D34⟩
  have L3 : LT2 K mg AA DD := ⟨L2, D35⟩
  have L4 : LM K mg AA DD := ⟨L3, D38⟩
  have L5 : LC K mg AA DD := ⟨L4, D36, D37, D39⟩
  have L6 : LO K mg AA DD := { toLC := L5, isT := D33, lstand := D40, lout := D41, seek := D42, exch := D43 }
  have kt : KBinds K (DD 28) ["machine", "tree", "c"] ["c", "tree", "machine"] gRv gRv := Ey.Fun.rvs D28.F (by simp) fun _ _ _ _ _ _ us hl => match us, hl with | [_, _, _], _ => rfl
  have L : LA K mg AA DD ad := { toLO := L6, deck := D30, F := Fo, kOut := kt }
  have casesT : ∀ {R : Addr × Addr → Prop}, R (c0, P0) → R (c1, P1) → R (c2, P2) → R (c3, P3) → R (c4, P4) → ∀ p ∈ [(c0, P0), (c1, P1), (c2, P2), (c3, P3), (c4, P4)], R p := by
    intro R h0 h1 h2 h3 h4 p hp
    simp only [List.mem_cons, List.not_mem_nil, or_false] at hp
    rcases hp with rfl | rfl | rfl | rfl | rfl
    · exact h0
    · exact h1
    · exact h2
    · exact h3
    · exact h4
  refine ⟨_, [(c0, P0), (c1, P1), (c2, P2), (c3, P3), (c4, P4)], spLaw K [P0, P1, P2, P3, P4], ⟨casesT tq0 tq1 tq2 tq3 tq4, casesT nT0 nT1 nT2 nT3 nT4, casesT hd0 hd1 hd2 hd3 hd4⟩, fun s u => .of_eq rfl, fun H a ns hn hT hS => ?_, fun base KB MB TB hs => ok_law D44.F L ⟨TB (c0, P0) (by simp), TB (c1, P1) (by simp), TB (c2, P2) (by simp), TB (c3, P3) (by simp), TB (c4, P4) (by simp), MB⟩ hs⟩
  refine ⟨a, ns, rfl, hS, hn, fun P hP => ?_, fun _ => rfl⟩
  simp only [List.mem_cons, List.not_mem_nil, or_false] at hP
  rcases hP with e | e | e | e | e
  · rw [e]
    exact ⟨#[], hT (c0, P0) (by simp), trivial⟩
  · rw [e]
    exact ⟨#[], hT (c1, P1) (by simp), trivial⟩
  · rw [e]
    exact ⟨#[], hT (c2, P2) (by simp), trivial⟩
  · rw [e]
    exact ⟨#[], hT (c3, P3) (by simp), trivial⟩
  · rw [e]
    exact ⟨#[], hT (c4, P4) (by simp), trivial⟩
end Ey
open PySem PySem.W PyProof.Rows
set_option maxRecDepth 100000 in
set_option maxHeartbeats 0 in
theorem PySem.Challenge.cw_eyesonly_k57_outcomes_and_clocks_holds : PySem.Challenge.rw_eyesonly_k57_outcomes_and_clocks.Holds := by
  w_on; o_law; k_head; (case hw => w_witness2)
  k_fill
  refine Ey.walk_law (l := PySem.Challenge.rw_eyesonly_k57_outcomes_and_clocks) (x := "_law_script") (by decide +kernel) rfl (by decide) rfl (fun w h Y => PySem.W.kIn_of Y) ?F
  case F =>
    intro w mg fa h lo mean mb KX T hmg
    refine' Ey.all_mk (w := w) KX T hmg ⟨?a6, ?l6, ?c6, ?k6⟩ ⟨?a7, ?l7, ?c7, ?k7⟩ ⟨?a11, ?l11, ?c11, ?k11⟩ ⟨?a12, ?l12, ?c12, ?k12⟩ ⟨?a13, ?l13, ?c13, ?k13⟩ ⟨?a14, ?l14, ?c14, ?k14⟩ ⟨?a16, ?l16, ?c16, ?k16⟩ ⟨?a18, ?l18, ?c18, ?k18⟩ ⟨?a19, ?l19, ?c19, ?k19⟩ ⟨?a20, ?l20, ?c20, ?k20⟩ ⟨?a21, ?l21, ?c21, ?k21⟩ ⟨?a22, ?l22, ?c22, ?k22⟩ ⟨?a23, ?l23, ?c23, ?k23⟩ ⟨?a24, ?l24, ?c24, ?k24⟩ ⟨?a25, ?l25, ?c25, ?k25⟩ ⟨?a26, ?l26, ?c26, ?k26⟩ ⟨?a27, ?l27, ?c27, ?k27⟩ ⟨?a28, ?l28, ?c28, ?k28⟩ ⟨?a30, ?l30, ?c30, ?k30⟩ ⟨?a31, ?l31, ?c31, ?k31⟩ ⟨?a32, ?l32, ?c32, ?k32⟩ ⟨?a33, ?l33, ?c33, ?k33⟩ ⟨?a34, ?l34, ?c34, ?k34⟩ ⟨?a35, ?l35, ?c35, ?k35⟩ ⟨?a36, ?l36, ?c36, ?k36⟩ ⟨?a37, ?l37, ?c37, ?k37⟩ ⟨?a38, ?l38, ?c38, ?k38⟩ ⟨?a39, ?l39, ?c39, ?k39⟩ ⟨?a40, ?l40, ?c40, ?k40⟩ ⟨?a41, ?l41, ?c41, ?k41⟩ ⟨?a42, ?l42, ?c42, ?k42⟩ ⟨?a43, ?l43, ?c43, ?k43⟩ ⟨?a44, ?l44, ?c44, ?k44⟩ ?zint ?zmax ?zlist ?zlen ?zrange ?ztuple ?zsorted ?zrepr ?zisinstance ?zstr ?zall ?zbool ?zset ?zmin ?tb0 ?rc0 ?nT0 ?tb1 ?rc1 ?nT1 ?tb2 ?rc2 ?nT2 ?tb3 ?rc3 ?nT3 ?tb4 ?rc4 ?nT4 ?gL ?gT
    (case a6 => k_is); (case l6 => k_is); (case c6 => k_is); (case k6 => k_is)
    (case a7 => k_is); (case l7 => k_is); (case c7 => k_is); (case k7 => k_is)
    (case a11 => k_is); (case l11 => k_is); (case c11 => k_is); (case k11 => k_is)
    (case a12 => k_is); (case l12 => k_is); (case c12 => k_is); (case k12 => k_is)
    (case a13 => k_is); (case l13 => k_is); (case c13 => k_is); (case k13 => k_is)
    (case a14 => k_is); (case l14 => k_is); (case c14 => k_is); (case k14 => k_is)
    (case a16 => k_is); (case l16 => k_is); (case c16 => k_is); (case k16 => k_is)
    (case a18 => k_is); (case l18 => k_is); (case c18 => k_is); (case k18 => k_is)
    (case a19 => k_is); (case l19 => k_is); (case c19 => k_is); (case k19 => k_is)
    (case a20 => k_is); (case l20 => k_is); (case c20 => k_is); (case k20 => k_is)
    (case a21 => k_is); (case l21 => k_is); (case c21 => k_is); (case k21 => k_is)
    (case a22 => k_is); (case l22 => k_is); (case c22 => k_is); (case k22 => k_is)
    (case a23 => k_is); (case l23 => k_is); (case c23 => k_is); (case k23 => k_is)
    (case a24 => k_is); (case l24 => k_is); (case c24 => k_is); (case k24 => k_is)
    (case a25 => k_is); (case l25 => k_is); (case c25 => k_is); (case k25 => k_is)
    (case a26 => k_is); (case l26 => k_is); (case c26 => k_is); (case k26 => k_is)
    (case a27 => k_is); (case l27 => k_is); (case c27 => k_is); (case k27 => k_is)
    (case a28 => k_is); (case l28 => k_is); (case c28 => k_is); (case k28 => k_is)
    (case a30 => k_is); (case l30 => k_is); (case c30 => k_is); (case k30 => k_is)
    (case a31 => k_is); (case l31 => k_is); (case c31 => k_is); (case k31 => k_is)
    (case a32 => k_is); (case l32 => k_is); (case c32 => k_is); (case k32 => k_is)
    (case a33 => k_is); (case l33 => k_is); (case c33 => k_is); (case k33 => k_is)
    (case a34 => k_is); (case l34 => k_is); (case c34 => k_is); (case k34 => k_is)
    (case a35 => k_is); (case l35 => k_is); (case c35 => k_is); (case k35 => k_is)
    (case a36 => k_is); (case l36 => k_is); (case c36 => k_is); (case k36 => k_is)
    (case a37 => k_is); (case l37 => k_is); (case c37 => k_is); (case k37 => k_is)
    (case a38 => k_is); (case l38 => k_is); (case c38 => k_is); (case k38 => k_is)
    (case a39 => k_is); (case l39 => k_is); (case c39 => k_is); (case k39 => k_is)
    (case a40 => k_is); (case l40 => k_is); (case c40 => k_is); (case k40 => k_is)
    (case a41 => k_is); (case l41 => k_is); (case c41 => k_is); (case k41 => k_is)
    (case a42 => k_is); (case l42 => k_is); (case c42 => k_is); (case k42 => k_is)
    (case a43 => k_is); (case l43 => k_is); (case c43 => k_is); (case k43 => k_is)
    (case a44 => k_is); (case l44 => k_is); (case c44 => k_is); (case k44 => k_is)
    (case zint => k_is); (case zmax => k_is); (case zlist => k_is); (case zlen => k_is); (case zrange => k_is); (case ztuple => k_is); (case zsorted => k_is); (case zrepr => k_is); (case zisinstance => k_is); (case zstr => k_is); (case zall => k_is); (case zbool => k_is); (case zset => k_is); (case zmin => k_is)
    (case tb0 => rfl); (case rc0 => rfl); (case nT0 => rfl)
    (case tb1 => rfl); (case rc1 => rfl); (case nT1 => rfl)
    (case tb2 => rfl); (case rc2 => rfl); (case nT2 => rfl)
    (case tb3 => rfl); (case rc3 => rfl); (case nT3 => rfl)
    (case tb4 => rfl); (case rc4 => rfl); (case nT4 => rfl)
    (case gL => k_is); (case gT => k_is)
