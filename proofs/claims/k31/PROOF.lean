import PyProof.Rows.All
import Wide.All
import OpenK.AllK
import Wide.FinOn
import PyProof.ReprRoads
import KE.KSortAny
import PyProof.Rows.SortShellAny
import HandS.ForMost
import HandS.IsInst
import HandS.AnyAll
import HandS.EndTab
import HandS.HeadWalk
import HandS.WrittenGet
import HandS.GenList
import PyProof.EqKinds
import PyProof.NeKinds
import PyProof.NeData
import PyProof.TupleOfGen
import HandS.Conv
import HandS.StrMore
import PyProof.RowDictHeap
import PyProof.Rows.StrDigitsNeg
import PyProof.Rows.StrIntSpec
import KE.KEqNest
import PyProof.Rows.StrRev
import HandS.TupAny
import HandS.Comp
import HandS.Style
import HandS.Iter
import KE.GoesEnum
import HandS.Zip
import HandS.Walk
import KE.GoesZip
import KE.GoesMore
import HandS.More
import HandS.Exc
import HandS.TryOnly
import KE.KIsAll
import KE.KTryMore
import HandS.ExcIs
import HandS.Lambda
import HandS.Flow
import HandS.WordsExc
import HandS.Dict
import HandS.Text
import PySem.Challenge.RW_eyesonly_k31_rows_read_and_set
set_option Elab.async false
set_option linter.all false
set_option maxRecDepth 100000
set_option maxHeartbeats 4000000
namespace Ey
open PySem PySem.Spec PyProof.Rows L2
/-! ### repr of data -/
mutual
theorem dp_plain {K : PySem.W.Frag} {H : Hp} : ∀ (d : PyData) (v : V), Dp K H v d → d.hasDict = false
  | .none, _, _ => rfl
  | .bool _, _, _ => rfl
  | .int _, _, _ => rfl
  | .str _, _, _ => rfl
  | .list ds, _, h => by
    cases h with
    | lst _ q => exact dp_plains ds _ q
  | .tuple ds, _, h => by
    cases h with
    | tup _ q => exact dp_plains ds _ q
  | .dict _, _, h => by cases h
theorem dp_plains {K : PySem.W.Frag} {H : Hp} : ∀ (ds : List PyData) (vs : List V), DpAll K H vs ds → PyData.hasDictAll ds = false
  | [], _, _ => rfl
  | d :: r, _, h => by
    cases h with
    | cons a b =>
      show (d.hasDict || PyData.hasDictAll r) = false
      rw [dp_plain d _ a, dp_plains r _ b]
      rfl
end
def rRepr (K : PySem.W.Frag) : List V → Hp → VK → Prop := fun xs H Q =>
  ∃ v d, xs = [v] ∧ Dp K H v d ∧ d.showable = true ∧ d.depth ≤ 100 ∧ d.shown.length ≤ sizeLine ∧ Q (.str d.shown) H
section
variable {X : Cx} {k : Nat}
theorem cr_repr (hg : X.A.guards = some []) (hr : Room k X.A) : CallR X (.builtin "repr") (rRepr X.K) := by
  intro pins s σ H xs us Q I r h
  obtain ⟨v, d, rfl, hd, hs, hp, hz, q⟩ := h
  obtain ⟨u, rfl, ru⟩ := vals1 r
  obtain ⟨as, rd⟩ := Dp.reads I d v u hd ru
  have nd := dp_plain d v hd
  have room : X.A.units + (d.depth + 1) < cLine := by
    have := hr.un
    omega
  have fin : ∀ (h' : Heap) (tk : Nat) (t : Tok), (∀ b o, s.heap.get? b = some o → h'.get? b = some o) → EP X pins σ Q (.str d.shown t) { s with heap := h', toks := tk } :=
    fun h' tk t hk => ⟨.str d.shown, H, I.kept hk, ⟨t, rfl⟩, q⟩
  cases rd with
  | none => exact PySem.P.repr_of_none (fin s.heap _ _ fun _ _ e => e)
  | bool b => exact PySem.P.repr_of_bool (fin s.heap _ _ fun _ _ e => e)
  | int i t => exact PySem.P.repr_of_int (of_decide_eq_true hs) (fin s.heap _ _ fun _ _ e => e)
  | str x t => exact PySem.P.repr_of_str (fin s.heap _ _ fun _ _ e => e) hz
  | list a b c e => exact repr_of_reads' (.list a b c e) hs (PyData.noDict_hsm nd) hg room (fun _ _ e => e) (fun h' u tk hk => fin h' tk u hk) hz
  | tuple a b c e => exact repr_of_reads' (.tuple a b c e) hs (PyData.noDict_hsm nd) hg room (fun _ _ e => e) (fun h' u tk hk => fin h' tk u hk) hz
  | dict a b c e f => cases nd
/-! ### sorted of texts, at any length -/
def rSortT (K : PySem.W.Frag) : List V → Hp → VK → Prop := fun vs H Q => ∃ (a : Addr) (xs : List Str), vs = [V.ref a] ∧ SqL K H a (xs.map V.str) ∧ xs.length ≤ sizeLine ∧
  ∀ (ys : List Str) (p : Addr), ys.Perm xs → sortedS ys = true → H p = none → Q (.ref p) (upd H p (.lst (ys.map V.str)))
theorem cr_sortT : CallR X (.builtin "sorted") (rSortT X.K) := by
  intro pins s σ H vs us Q I r h
  obtain ⟨a, xs, rfl, hs, hl, q⟩ := h
  obtain ⟨its, rv, pl, _⟩ := I.list hs
  rw [Vals.ref1 r]
  have n0 := rv.length
  rw [List.length_map] at n0
  refine PyProof.Rows.sorted_strsAny pl.isList rv.strs (by rw [← n0]; exact hl) fun out ys h1 h2 h3 => ?_
  obtain ⟨ep, at'⟩ := PyProof.Rows.sortedAll_at s.heap its out
  have n1 : (ys.map V.str).length ≤ sizeLine := by rw [List.length_map, h2.length_eq]; exact hl
  refine ⟨.ref _, upd H (s.heap.objs.size + 1) (.lst (ys.map V.str)), ?_, rfl, q ys _ h2 h3 (I.hok.fresh (Nat.le_succ _))⟩
  exact I.laid (t' := s.toks) (fun _ _ => PyProof.Rows.sortedAll_old) (Nat.le_succ _) ⟨n1, out.toList, ep, vals_of_strs h1, at'⟩
end
end Ey
set_option maxHeartbeats 2000000
namespace Ey
open PySem PySem.Spec PyProof.Rows L2 GxR
/-! ### all(test of sign for sign in text), where the test reads a name of the module -/
/-- the test, in the generator's own frame: the module stands as it stood -/
def EltG (X : Cx) (sc : Scope) (x : Str) (elt : Expr) (pb : Nat → Bool) : Prop :=
  ∀ (ge : Env) (B : Around) (F' : Value → Shared → Prop) (c : Nat) (t : Tok) (z : Shared) (m : Str → Option Value), ge.scope = sc → ge.globals = X.env.globals →
    (∀ b o, X.base.get? b = some o → z.heap.get? b = some o) → z.heap.Ns ge.locals m → m x = some (.str ⟨#[c]⟩ t) →
    wpAny (model X.prog X.w) B (eval elt ge) (fun y z' => y = .bool (pb c) ∧ Keeps z z') F' z
section
variable {X : Cx} {pins : List (Addr × Obj)} {σ : L2.St} {H : Hp} {s : Shared}
theorem gen_glob {c P : Addr} {elt iter : Expr} {x : Str} {px gp : Pos} {sc : Scope} {pb : Nat → Bool} {te : TE} {k : Nat} {Q' : Value → Shared → Prop} {R : Str → Hp → Prop}
    (hr : Room k X.A) (TB : TabB X.base X.mg c P) (hco : X.env.code = .ref c) (S : GenS X.env sc x) (hi : PE X iter te) (hel : EltG X sc x elt pb)
    (hs : ∀ v, genFold iter X.env v = pure v) (I : Inv X pins σ H s) (h : te σ H fun v H1 => ∃ a : Str, v = .str a ∧ TabG H1 P ∧ R a H1)
    (hQ : ∀ a H1 g s5, R a H1 → Ready X pins σ H1 P a pb g s5 → Q' (.ref g) s5) :
    wpAny (model X.prog X.w) X.A (eval (.GeneratorExp elt [⟨.Name x px, iter, [], 0⟩] sc gp) X.env) Q' X.xe s := by
  refine wpAny_GeneratorExp_walksQ hr.hd S.co (closure_ok S.free) S.cell S.dot S.loc S.kind (Nat.lt_of_le_of_lt (by omega) hr.dp) ?_ hs
  refine thn (hi.run pins s σ H _ I h) fun xv sA ⟨v, H1, J, rv, q⟩ => ?_
  obtain ⟨a, rfl, ⟨ps, tP, tok⟩, q⟩ := q
  obtain ⟨t, rfl⟩ := _root_.id rv
  refine wpAny_pyIter_str fun ob St W start => ?_
  have gP : sA.heap.get? P = some { cls := .none, data := .fields ps } := J.hok P _ tP
  have ltP : P < sA.heap.objs.size := Heap.lt_size gP
  have gP2 : (sA.heap.push ob).get? P = some { cls := .none, data := .fields ps } := Heap.get?_push_of_some _ gP
  have head : PySem.W.CodeHd (sA.heap.push ob) c P := TB.code.keeps fun b u e => Heap.get?_push_of_some _ (J.bk b u e)
  have noL : (sA.heap.push ob).NoLimit := J.nolimit.push ob
  have go : ∀ (code : Value) (hN : Heap) (tk : Nat) (qs : Array Value), Heap.ExtBut P (sA.heap.push ob) hN → (sA.heap.push ob).objs.size ≤ hN.objs.size → hN.get? P = some { cls := .none, data := .fields qs } → (∃ more, qs = ps ++ more) → TriplesOk qs.toList →
      wpAny (model X.prog X.w) X.A (builtinsFor X.env.globals X.env.builtins) (fun bi sB =>
        ∃ Ia fp wr n₀ Pf St₀ pz F, Value.ref sA.heap.objs.size = .ref Ia ∧ (∀ B : Around, B.handled = none → Walks X.prog X.w B Ia fp wr n₀ Pf St₀) ∧ St₀ 0 sB.heap ∧ (∀ b ∈ fp, b < sB.heap.objs.size) ∧ sB.heap.NoLimit ∧ cStatics ∉ wr ∧
          (∀ hf : Heap, (∀ b o, sB.heap.get? b = some o → hf.get? b = some o) →
            QuietGen X.prog X.w (genEnv sc (cloFrom X.env.cells sc.names []) sB.heap.objs.size code bi X.env) x [] elt (List.range sB.heap.objs.size) wr Pf pz F hf) ∧
          (∀ g hG tg gs, gs.bare = true → sB.heap.objs.size < g → hG.objs.size = g + 1 → (∀ b o, sB.heap.get? b = some o → hG.get? b = some o) →
            WalksS X.prog X.w X.A.in4 g (g :: sB.heap.objs.size :: List.range sB.heap.objs.size) (sB.heap.objs.size :: wr) (GenOnlyQ sB.gens.size) (passing pz n₀ 0).length
              (fun j y => ∃ i, (passing pz n₀ 0)[j]? = some i ∧ F i y) (GenAt X.prog X.w X.A.in4 g sB.gens.size sB.heap.objs.size (List.range sB.heap.objs.size) wr pz n₀ F) →
            GenAt X.prog X.w X.A.in4 g sB.gens.size sB.heap.objs.size (List.range sB.heap.objs.size) wr pz n₀ F 0 { sB with gens := sB.gens.push gs, toks := tg, heap := hG } →
            Q' (.ref g) { sB with gens := sB.gens.push gs, toks := tg, heap := hG })) X.xe { sA with heap := hN, toks := tk } := by
    intro code hN tk qs ext hsz gPN more okN
    obtain ⟨bm, obm, e1, e2, e3, e4, e5, e6, e7, e8⟩ := TB.bm
    have ncP : cStatics ≠ P := fun e => by
      obtain ⟨_, ns, _⟩ := J.nolimit
      obtain ⟨o', es, ep, g', d', _⟩ := ns
      rw [e, gP] at g'
      cases g'
      cases d'
    have ltC : cStatics < sA.heap.objs.size := let ⟨_, ns, _⟩ := J.nolimit; ns.lt
    have szA : (sA.heap.push ob).objs.size = sA.heap.objs.size + 1 := Heap.size_push ..
    have stay : ∀ b u, b ≠ P → sA.heap.get? b = some u → hN.get? b = some u := fun b u nb e => ext b u nb (Heap.get?_push_of_some _ e)
    have old : ∀ b u, X.base.get? b = some u → hN.get? b = some u ∧ b < sA.heap.objs.size := fun b u e => by
      obtain ⟨e1, e2⟩ := J.bs b u e
      refine ⟨stay b u (fun z => ?_) e1, Heap.lt_size e1⟩
      rw [z, tP] at e2
      cases e2
    refine wpAny_builtinsFor (m := X.mg) (by rw [J.ok.glob]; exact ((J.mod.glob.keeps J.bk).push ob).extBut ext TB.gP) e1 e2 (stay _ _ e4 (J.bk _ _ e5)) e6 e7 e8 ?_
    refine ⟨sA.heap.objs.size, [sA.heap.objs.size], [sA.heap.objs.size], a.cps.size, SignAt a, St, (fun _ => true), (fun i y => ∃ cc, a.cps[i]? = some cc ∧ y = .bool (pb cc)), rfl, W, ?_, ?_, noL.extBut ext ncP, ?_, ?_, ?_⟩
    · refine (W X.A hr.hd).frame _ _ _ start fun b hb u e => ext b u (fun z => ?_) e
      have hb' : b = sA.heap.objs.size := List.mem_singleton.mp hb
      exact Nat.ne_of_lt ltP (z.symm.trans hb')
    · intro b hb
      have hb' : b = sA.heap.objs.size := List.mem_singleton.mp hb
      rw [hb']
      show sA.heap.objs.size < hN.objs.size
      omega
    · intro z
      have z' : cStatics = sA.heap.objs.size := List.mem_singleton.mp z
      exact Nat.ne_of_lt ltC z'
    · intro hf sub
      refine ⟨fun B F' i v z m hB hv hn hm hk => ?_, fun B F' i v z m hB hv hp hn hm hk => ?_⟩
      · simp only [List.forIn_nil]
        exact wpAny_pure ⟨rfl, keeps_refl _⟩
      · obtain ⟨cc, u, hcc, rfl⟩ := hv
        refine wpAny_mono (hel _ B F' cc u z m rfl rfl (fun b o e => ?_) hn hm) (fun y z' r => ⟨⟨cc, hcc, r.1⟩, r.2⟩) fun _ _ e => e
        obtain ⟨e1, e2⟩ := old b o e
        refine hk b (List.mem_range.mpr (Heap.lt_size e1)) (fun w => ?_) o (sub b o e1)
        have w' : b = sA.heap.objs.size := List.mem_singleton.mp w
        exact Nat.ne_of_lt e2 w'
    · intro g hG tg gs bare ltg szg keepg Wg atg
      simp only [GxR.passing_true, List.length_range] at Wg
      refine hQ a H1 g _ q ⟨_, _, _, _, _, Wg.in4_1, atg, ?_, fun s' mv => ?_⟩
      · intro j y sj Qj Ej hy hj
        obtain ⟨i, ij, cc, hcc, rfl⟩ := hy
        obtain ⟨lj, ej⟩ := List.getElem?_eq_some_iff.mp ij
        rw [List.getElem_range] at ej
        subst ej
        have sign : a.cps.toList[j]? = some cc := (Array.getElem?_toList).trans hcc
        have hj' : Qj (trF pb a.cps.toList j) sj := hj
        rw [trF_some sign] at hj'
        exact wpAny_truthy_bool hj'
      · obtain ⟨mo, em⟩ := more
        have nw : ∀ b u, sA.heap.get? b = some u → b ∉ hN.objs.size :: [sA.heap.objs.size] := fun b u e z => by
          have l := Heap.lt_size e
          rcases List.mem_cons.mp z with z | z
          · rw [z] at l
            have l2 : (hN.objs.size : Nat) < sA.heap.objs.size := l
            omega
          · exact Nat.ne_of_lt l (List.mem_singleton.mp z)
        have L := inv_tab (more := mo) (h' := s'.heap) (g' := s'.gens) (d' := s'.drawn) (t' := s'.toks) J tP (fun b u nb e => mv.heap b u (nw b u e) (keepg b u (stay b u nb e)))
          (by rw [← em]; exact mv.heap P _ (nw P _ gP) (keepg P _ gPN)) (AllBare.movedS (J.bare.push bare) mv)
        rw [sh_eta sA s' mv.os] at L
        refine ⟨upd H1 P (.tbl (ps ++ mo)), ⟨⟨ps ++ mo, upd_same, ?_⟩, fun b nb => upd_ne nb⟩, L⟩
        rw [← em]
        exact okN
  refine ⟨noL, ?_⟩
  cases am : codeAmong gp ps.toList with
  | none =>
    refine wpAny_genexprCodeX hco (head.code gP2 tok) (head.tab gP2) am fun c' hN tk ext hge hlt hc' _ tab' _ => ?_
    obtain ⟨o1, vs, f1, tf, fl, tg, inF, tx, tt, op, _, _, _, _, _, _, _, _, _, tr, _⟩ := hc'
    exact go _ hN tk _ ext (Nat.le_trans hge (Nat.le_of_lt hlt)) tab'.2 ⟨_, rfl⟩ tr
  | some cv =>
    refine wpAny_genexprCode_hit hco (head.code gP2 tok) am ?_
    exact go cv (sA.heap.push ob) sA.toks ps (Heap.ExtBut.refl _ _) (Nat.le_refl _) gP2 ⟨#[], by simp⟩ tok
theorem pe_allG {c P : Addr} {elt iter : Expr} {x : Str} {px p pos gp : Pos} {sc : Scope} {pb : Nat → Bool} {te : TE} {k : Nat}
    (hr : Room k X.A) (hg : Gl X "all") (hm : X.mg "all" = none) (hb : bootBuiltins "all" = some (.builtin "all")) (TB : TabB X.base X.mg c P) (hco : X.env.code = .ref c) (S : GenS X.env sc x) (hi : PE X iter te) (hel : EltG X sc x elt pb)
    (hs : ∀ v, genFold iter X.env v = pure v)
    (he : starEach [.GeneratorExp elt [⟨.Name x px, iter, [], 0⟩] sc gp] X.env = (false, eval (.GeneratorExp elt [⟨.Name x px, iter, [], 0⟩] sc gp) X.env) :: starEach [] X.env := by rfl) :
    PE X (.Call (.Name "all" p) [.GeneratorExp elt [⟨.Name x px, iter, [], 0⟩] sc gp] [] pos) (tAllS P pb te) := by
  refine ⟨fun pins s σ H Q I h => wpAny_Call_Name_kw (ld_blt I hg hm hb ?_)⟩
  refine PyProof.Rows.callWith_builtin1 ?_ he (by rfl)
  rw [he]
  show wpAny _ _ (spliced ((false, eval (.GeneratorExp elt [⟨.Name x px, iter, [], 0⟩] sc gp) X.env) :: backTo pos (starEach [] X.env))) _ _ s
  refine Calls.spliced_cons (gen_glob (R := fun a H1 => ∀ H2, Tabbed P H1 H2 → Q (.bl (a.cps.toList.all pb)) H2) hr TB hco S hi hel hs I h fun a H1 g s5 hR rdy => ?_)
  obtain ⟨fp, wr, G, F, St, W, st0, tru, inv⟩ := rdy
  refine Calls.spliced_nil (call_all_walkS (W.self 0 _ _ _ st0 ⟨g, fp, wr, G, _, F, St, _, rfl, W, st0, tru, fun s' mv => ?_⟩))
  obtain ⟨H2, hT, L⟩ := inv s' mv
  refine ⟨.bl _, H2, L, rfl, ?_⟩
  rw [all_signs a pb]
  exact hR H2 hT
/-- sign in NAME, NAME a text of the module -/
theorem elt_inG {sc : Scope} {x y : Str} {T : Str} {p1 p2 p3 : Pos} {tk : Tok} (hk : sc.kind = .function) (hl : sc.names.lookup x = some .local) (hy : sc.names.lookup y = some .globalImplicit) (hG : X.env.globals = mainGlobals) (M : X.base.Ns mainGlobals X.mg) (hm : X.mg y = some (.str T tk))
    (hd : (x == ("__debug__" : Str)) = false := by decide) (hd2 : (y == ("__debug__" : Str)) = false := by decide) :
    EltG X sc x (.Compare (.Name x p1) [.In] [.Name y p2] p3) (fun c => decide (c ∈ T.cps.toList)) := by
  intro ge B F' c t z m h1 h2 h3 h4 h5
  have k1 : ge.scope.kind = .function := by rw [h1]; exact hk
  refine wpAny_Compare1 (wpAny_Name (wpAny_loadName_local k1 (show ge.scope.names.lookup x = some .local by rw [h1]; exact hl) h4 h5 ?_) hd)
  refine Calls.Name_function_global k1 (show ge.scope.names.lookup y = some .globalImplicit by rw [h1]; exact hy) (Calls.loadGlobal_global (by rw [h2, hG]; exact M.keeps h3) hm ?_) hd2
  refine PyProof.Rows.in_str ?_
  refine ⟨congrArg Value.bool ?_, keeps_refl _⟩
  exact PySem.StrLaws.found_one T c
end
end Ey
set_option maxHeartbeats 2000000
namespace Ey
open PySem PySem.Spec PyProof.Rows L2 GxR
/-! ### all(e for x in it), e any expression that HandS can tell -/
/-- the generator's own frame -/
def gxOf (X : Cx) (A : Around) (s : Shared) (H : Hp) (ge : Env) (x : Str) (fp : List Addr) : Cx :=
  { X with A := A, N := [x], s_0 := s, H_0 := H, env := ge, outer := X.stack, stack := ge :: X.stack, ex := fp, fn := fun _ => false, calm := true, pn := [], xe := fun _ _ => False }
abbrev gcode (elt iter : Expr) (x : Str) (px : Pos) (sc : Scope) (gp : Pos) (it : Addr) (ge : Env) : Code := .compLoop (.GeneratorExp elt [⟨.Name x px, iter, [], 0⟩] sc gp) 0 (.ref it) .none ge
/-- the generator stands at turn i -/
structure GIn (Xg : Cx) (fp : List Addr) (tn : Nat → Heap → Prop) (ga : Addr) (go : Obj) (g : Nat) (W : Nat → Hp → Prop) (i : Nat) (s : Shared) : Prop where
  ex : ∃ (H : Hp) (y : Option V), Inv Xg [(ga, go)] [y] H s ∧ tn i s.heap ∧ (∀ b ∈ fp, FpOk Xg [(ga, go)] H b) ∧ W i H
  sz : g + 1 ≤ s.gens.size
/-- it is over -/
def GEd (Xg : Cx) (ga : Addr) (go : Obj) (Qe : Hp → Prop) (s : Shared) : Prop := ∃ (H : Hp) (y : Option V), Inv Xg [(ga, go)] [y] H s ∧ Qe H
def YG (GI : Nat → Shared → Prop) (GF : Shared → Prop) (n0 : Nat) : Protocol := fun m _ v s kap => ∃ b : Bool, v = .bool b ∧ (b = true → GI (n0 - m) s ∧ ∀ s'', GI (n0 - m) s'' → kap (.send .none) s'') ∧ (b = false → GF s)
def RG (GT : Shared → Prop) : GenEnd := fun _ _ r s => r = .ok .next ∧ GT s
section
variable {X : Cx} {A : Around} {sG : Shared} {HG : Hp} {ge : Env} {x : Str} {fp : List Addr} {tn : Nat → Heap → Prop} {ga it : Addr} {go : Obj} {g : Nat} {W : Nat → Hp → Prop} {Qf Qt : Hp → Prop} {J : It} {elt iter : Expr} {px gp : Pos} {sc : Scope} {te : TE} {n0 : Nat}
theorem seg_gloop (T : Turn X.prog X.w X.K (.Name x px) J fp it tn) (hx : ge.scope.names.lookup x = some .local) (hco : ge.scope.isCoroutine = false)
    (hel : PE (gxOf X (A.over (gcode elt iter x px sc gp it ge) []) sG HG ge x fp) elt te)
    (hW : ∀ i H, W i H → (i < n0 ∧ J.go i H ∧ ∀ v H', J.yld i H v H' → te [some v] H' fun y H3 => ∃ b, y = .bl b ∧ if b = true then W (i + 1) H3 else Qf H3) ∨ (J.stop i H ∧ Qt H)) :
    ∀ (k i : Nat) (s₀ s : Shared), n0 - i = k → GIn (gxOf X (A.over (gcode elt iter x px sc gp it ge) []) sG HG ge x fp) fp tn ga go g W i s →
      Seg (model X.prog X.w) A (RG (GEd (gxOf X (A.over (gcode elt iter x px sc gp it ge) []) sG HG ge x fp) ga go Qt))
        (YG (GIn (gxOf X (A.over (gcode elt iter x px sc gp it ge) []) sG HG ge x fp) fp tn ga go g W) (GEd (gxOf X (A.over (gcode elt iter x px sc gp it ge) []) sG HG ge x fp) ga go Qf) n0) (n0 - i) s₀
        (gcode elt iter x px sc gp it ge) ((model X.prog X.w).den (gcode elt iter x px sc gp it ge)) [] s := by
  generalize hXg : gxOf X (A.over (gcode elt iter x px sc gp it ge) []) sG HG ge x fp = Xg at *
  have eP : Xg.prog = X.prog := by rw [← hXg]; rfl
  have eW : Xg.w = X.w := by rw [← hXg]; rfl
  have eK : Xg.K = X.K := by rw [← hXg]; rfl
  have eC : Xg.calm = true := by rw [← hXg]; rfl
  have eA : Xg.A = A.over (gcode elt iter x px sc gp it ge) [] := by rw [← hXg]; rfl
  have eE : Xg.env = ge := by rw [← hXg]; rfl
  have eN : Xg.N = [x] := by rw [← hXg]; rfl
  have eX : Xg.xe = fun _ _ => False := by rw [← hXg]; rfl
  have ePn : Xg.pn = [] := by rw [← hXg]; rfl
  have stat : ∀ {pins : List (Addr × Obj)} {H H' : Hp}, (∀ b ∈ fp, FpOk Xg pins H b) → (∀ b ∈ fp, H' b = none) → ∀ b ∈ fp, FpOk Xg pins H' b := fun f2 hn b hb => ⟨hn b hb, (f2 b hb).2⟩
  intro k
  induction k with
  | zero =>
    intro i s₀ s hk gi
    obtain ⟨⟨H, y, I, st, fo, w⟩, sz⟩ := gi
    rcases hW i H w with ⟨lt, _⟩ | ⟨stop, qt⟩
    · omega
    show Seg _ A _ _ _ s₀ _ ((compTurn (.GeneratorExp elt [⟨.Name x px, iter, [], 0⟩] sc gp) 0 (.ref it) .none ge).onRaise (leaving ge)) [] s
    rw [compTurn_gen, Sem.onRaise_eq_wrap]
    refine seg_bind_wrap (wpAny_standAt ?_)
    refine seg_bind_wrap (eA ▸ wpAny_mono (T.done Xg eP eW eK eC i _ s [y] H (fun _ _ => False) I fo st stop) (fun r s1 ⟨hr, I1⟩ => ?_) fun _ _ e => e.elim)
    subst hr
    exact seg_end (.ok .next) ⟨rfl, H, y, I1, qt⟩
  | succ k ih =>
    intro i s₀ s hk gi
    obtain ⟨⟨H, y, I, st, fo, w⟩, sz⟩ := gi
    show Seg _ A _ _ _ s₀ _ ((compTurn (.GeneratorExp elt [⟨.Name x px, iter, [], 0⟩] sc gp) 0 (.ref it) .none ge).onRaise (leaving ge)) [] s
    rw [compTurn_gen, Sem.onRaise_eq_wrap]
    refine seg_bind_wrap (wpAny_standAt ?_)
    rcases hW i H w with ⟨lt, gg, step⟩ | ⟨stop, qt⟩
    · refine seg_bind_wrap (eA ▸ GenW.wpAny_gsz sz (wpAny_mono (T.item Xg eP eW eK eC i _ s [y] H (fun _ _ => False) I fo st gg) (fun r s1 ⟨u, hr, rest⟩ sz1 => ?_) fun _ _ e _ => e.elim))
      subst hr
      refine seg_bind_wrap (eA ▸ GenW.wpAny_gsz sz1 (wpAny_mono rest (fun _ s2 ⟨v, H2, I2, rv, yl, st2, fr2⟩ sz2 => ?_) fun _ _ e _ => e.elim))
      have fo2 := stat fo fr2
      have I2' := I2.pinned fo2 (T.obj _ _ st2)
      have pgn : PG Xg (.Name x px) (gName 0) := pg_name (by rw [eN]; simp) (by rw [eN]; rfl) (.inl (by rw [eE]; exact hx)) (.inr (by rw [eE]; exact hx))
      have run1 := pgn.run _ s2 [y] H2 v u (fun σ' H' => σ' = [some v] ∧ H' = H2) I2' rv ⟨rfl, rfl⟩
      rw [eE, eX] at run1
      refine seg_bind_wrap (eA ▸ GenW.wpAny_gsz sz2 (wpAny_mono (eP ▸ eW ▸ run1) (fun _ s3 ⟨σ3, H3, I3, e3, e4⟩ sz3 => ?_) fun _ _ e _ => e.elim))
      subst e3 e4
      simp only [List.forIn_nil]
      refine seg_bind_wrap (wpAny_pure ?_)
      rw [if_pos rfl]
      have hy : ∀ v, yieldOut ge v = yieldValue v := fun v => by simp only [yieldOut, hco, Bool.false_eq_true, if_false]
      simp only [hy]
      rw [Sem.bind_eq_wrap', Sem.bind_eq_wrap', Sem.wrap_wrap, Sem.wrap_wrap]
      have run2 := hel.run _ s3 [some v] H3 _ I3 (step v H3 yl)
      rw [eE, eX] at run2
      refine seg_wrap (eA ▸ GenW.wpAny_gsz sz3 (wpAny_mono (eP ▸ eW ▸ run2) (fun z s4 ⟨zv, H4, I4, rz, b, ez, q⟩ sz4 => ?_) fun _ _ e _ => e.elim))
      subst ez
      have ez' : z = .bool b := rz
      subst ez'
      have hn : n0 - i = (n0 - (i + 1)) + 1 := by omega
      have hm : n0 - (n0 - (i + 1)) = i + 1 := by omega
      rw [hn]
      have st4 : tn (i + 1) s4.heap := T.keep _ _ _ st2 fun b hb o e => (I4.pin (b, o) (List.mem_append_right _ (List.mem_append_right _ (mem_pinsAt hb e)))).1
      have fr4 : ∀ b ∈ fp, H4 b = none := fun b hb => by
        obtain ⟨o, e, d⟩ := T.obj _ _ st2 b hb
        exact (I4.pin (b, o) (List.mem_append_right _ (List.mem_append_right _ (mem_pinsAt hb e)))).2.1
      refine seg_at (seg_yield rfl rfl rfl ⟨b, rfl, fun hb => ?_, fun hb => ?_⟩)
      · rw [hb, if_pos rfl] at q
        rw [hm]
        exact ⟨⟨⟨H4, _, I4.unpinned, st4, stat fo fr4, q⟩, sz4⟩, fun s'' gi => seg_again rfl (ih (i + 1) s'' s'' (by omega) gi)⟩
      · rw [hb, if_neg Bool.false_ne_true] at q
        exact ⟨H4, _, I4.unpinned, q⟩
    · refine seg_bind_wrap (eA ▸ wpAny_mono (T.done Xg eP eW eK eC i _ s [y] H (fun _ _ => False) I fo st stop) (fun r s1 ⟨hr, I1⟩ => ?_) fun _ _ e => e.elim)
      subst hr
      exact seg_end (.ok .next) ⟨rfl, H, y, I1, qt⟩
/-- the generator as its consumer has it -/
def CSt (M : Model) (A : Around) (R : GenEnd) (Y : Protocol) (GI : Nat → Shared → Prop) (g n0 i : Nat) (s : Shared) : Prop :=
  GI i s ∧ ∃ gs, s.gens[g]? = some gs ∧ ∀ s'', GI i s'' → gs.Goes M A R Y (n0 - i) (.send .none) s''
theorem Inv.gens {Xg : Cx} {pins : List (Addr × Obj)} {σ : L2.St} {H : Hp} {s : Shared} {gs : Array GenState} (I : Inv Xg pins σ H s) (h : AllBare gs) : Inv Xg pins σ H { s with gens := gs } :=
  ⟨I.ok, I.os, h, I.base, I.loc, I.cell, I.free, I.freeC, I.pin, I.hok, I.len⟩
theorem GIn.set {Xg : Cx} {i : Nat} {s : Shared} {gs : GenState} (h : GIn Xg fp tn ga go g W i s) (hb : gs.bare = true) : GIn Xg fp tn ga go g W i (s.setGen g gs) := by
  obtain ⟨⟨H, y, I, st, fo, w⟩, sz⟩ := h
  refine ⟨⟨H, y, Inv.gens I (L2.allBare_setGen I.bare hb), st, fo, w⟩, ?_⟩
  rw [GenW.setGen_size]
  exact sz
theorem GEd.set {Xg : Cx} {s : Shared} {gs : GenState} {Qe : Hp → Prop} (h : GEd Xg ga go Qe s) (hb : gs.bare = true) : GEd Xg ga go Qe (s.setGen g gs) := by
  obtain ⟨H, y, I, q⟩ := h
  exact ⟨H, y, Inv.gens I (L2.allBare_setGen I.bare hb), q⟩
theorem gen_next {Xg : Cx} {E : Value → Shared → Prop} {s : Shared} {i : Nat} (hc : go.cls = .type "generator") (hd : ∃ nm qn, go.data = .fields #[.int g 0, nm, qn]) (hs : go.slots = #[]) (hh : A.handled = none) (hroom : A.depth < recursionLimit)
    (h : CSt (model X.prog X.w) A.in1 (RG (GEd Xg ga go Qt)) (YG (GIn Xg fp tn ga go g W) (GEd Xg ga go Qf) n0) (GIn Xg fp tn ga go g W) g n0 i s) :
    wpAny (model X.prog X.w) A (pyNext (.ref ga)) (fun r s' => (r = some (.bool true) ∧ i < n0 ∧ CSt (model X.prog X.w) A.in1 (RG (GEd Xg ga go Qt)) (YG (GIn Xg fp tn ga go g W) (GEd Xg ga go Qf) n0) (GIn Xg fp tn ga go g W) g n0 (i + 1) s') ∨
      (r = some (.bool false) ∧ GEd Xg ga go Qf s') ∨ (r = none ∧ GEd Xg ga go Qt s')) E s := by
  obtain ⟨gi, gs, hgs, hgo⟩ := h
  obtain ⟨nm, qn, hd⟩ := hd
  have hg : s.heap.IsGen ga g := by
    obtain ⟨⟨H, y, I, _⟩, _⟩ := gi
    exact ⟨go, nm, qn, (I.pin (ga, go) (List.mem_append_right _ (List.mem_singleton.mpr rfl))).1, hc, hd, hs⟩
  have hl : s.heap.NoLimit := by
    obtain ⟨⟨H, y, I, _⟩, _⟩ := gi
    exact I.nolimit
  refine wpAny_pyNext_genexpQ (P := fun _ _ s₁ => GEd Xg ga go Qt s₁) hh hl hroom hg hgs (hgo _ (gi.set rfl)) (fun v s₁ gs' hb hv => ?_) (fun s₁ hp h' hk => ?_)
  · obtain ⟨b, rfl, ht, hf⟩ := hv
    cases b with
    | false => exact .inr (.inl ⟨rfl, (hf rfl).set hb⟩)
    | true =>
      obtain ⟨g1, g2⟩ := ht rfl
      cases hn : n0 - i with
      | zero =>
        rw [hn] at g1 g2
        exact (g2 s₁ g1).elim
      | succ m =>
        rw [hn] at g1 g2
        have e : n0 - (m + 1 - 1) = i + 1 := by omega
        rw [e] at g1 g2
        refine .inl ⟨rfl, by omega, g1.set hb, gs', L2.setGen_at (Nat.lt_of_succ_le g1.sz), fun s'' gi'' => ?_⟩
        have e2 : n0 - (i + 1) = m := by omega
        rw [e2]
        exact g2 s'' gi''
  · obtain ⟨H, y, I, q⟩ := hp
    refine .inr (.inr ⟨rfl, H, y, ?_, q⟩)
    have I2 := Inv.gens (gs := (s₁.setGen g .finished).gens) I (L2.allBare_setGen I.bare rfl)
    exact I2.kept (t' := s₁.toks) hk
theorem all_loopX {Xg : Cx} {R : Result → Shared → Prop} (hc : go.cls = .type "generator") (hd : ∃ nm qn, go.data = .fields #[.int g 0, nm, qn]) (hs : go.slots = #[]) (hh : A.handled = none) (hroom : A.in1.depth < recursionLimit)
    (hT : ∀ s', GEd Xg ga go Qt s' → R (.ok (.ret (.bool true))) s') (hF : ∀ s', GEd Xg ga go Qf s' → R (.ok (.ret (.bool false))) s') : ∀ (k i : Nat) (s : Shared), n0 - i = k →
    CSt (model X.prog X.w) A.in1.in1 (RG (GEd Xg ga go Qt)) (YG (GIn Xg fp tn ga go g W) (GEd Xg ga go Qf) n0) (GIn Xg fp tn ga go g W) g n0 i s → codeAny (model X.prog X.w) A (.builtin "all.loop" ⟨[.ref ga], []⟩) R s := by
  intro k
  induction k with
  | zero =>
    intro i s hk cs
    refine codeAny_builtin F.entry_all_loop ?_
    rw [Around.under_plainId F.plain_all_loop _]
    show wpAny _ A.in1 (pyNext (.ref ga) >>= _) _ _ s
    refine wpAny_bind (wpAny_mono (gen_next hc hd hs hh hroom cs) (fun r s' h => ?_) fun _ _ e => e)
    rcases h with ⟨rfl, lt, _⟩ | ⟨rfl, q⟩ | ⟨rfl, q⟩
    · omega
    · refine wpAny_bind (wpAny_holding (wpAny_truthy_bool ?_))
      refine wpAny_bind (wpAny_letGo ?_)
      simp only [Bool.false_eq_true, if_false]
      exact wpAny_bind (wpAny_rule (wpAny_pure (hF s' q)))
    · exact wpAny_bind (wpAny_rule (wpAny_pure (hT s' q)))
  | succ k ih =>
    intro i s hk cs
    refine codeAny_builtin F.entry_all_loop ?_
    rw [Around.under_plainId F.plain_all_loop _]
    show wpAny _ A.in1 (pyNext (.ref ga) >>= _) _ _ s
    refine wpAny_bind (wpAny_mono (gen_next hc hd hs hh hroom cs) (fun r s' h => ?_) fun _ _ e => e)
    rcases h with ⟨rfl, lt, cs'⟩ | ⟨rfl, q⟩ | ⟨rfl, q⟩
    · refine wpAny_bind (wpAny_holding (wpAny_truthy_bool ?_))
      refine wpAny_bind (wpAny_letGo ?_)
      simp only [if_true]
      exact wpAny_pure ⟨plainId_quiet F.plain_all_loop _, ih (i + 1) s' (by omega) cs'⟩
    · refine wpAny_bind (wpAny_holding (wpAny_truthy_bool ?_))
      refine wpAny_bind (wpAny_letGo ?_)
      simp only [Bool.false_eq_true, if_false]
      exact wpAny_bind (wpAny_rule (wpAny_pure (hF s' q)))
    · exact wpAny_bind (wpAny_rule (wpAny_pure (hT s' q)))
end
end Ey
set_option maxHeartbeats 4000000
namespace Ey
open PySem PySem.Spec PyProof.Rows L2 GxR
section
variable {X : Cx} {pins : List (Addr × Obj)} {σ : L2.St} {H : Hp} {s : Shared}
/-- the generator's frame begins -/
theorem inv_gx {A : Around} {sc : Scope} {x : Str} {fp : List Addr} {code : Value} {h5 : Heap} {g5 : Array GenState} {t5 : Nat} {m : Str → Option Value} (I : Inv X pins σ H s)
    (hk : sc.kind = .function) (hc : ∀ y ∈ sc.names, y.2 ≠ .cell) (hf : ∀ y ∈ sc.names, y.2 ≠ .free) (hns : h5.Ns s.heap.objs.size m) (keep : ∀ b o, s.heap.get? b = some o → h5.get? b = some o) (bare : AllBare g5) (hh : A.handled = none)
    (fr : A.frames = some (genEnv sc [] s.heap.objs.size code builtinsNs X.env :: X.stack)) (ho : ∀ b ∈ fp, FpOk X pins H b ∧ b < s.heap.objs.size) :
    Inv (gxOf X A s H (genEnv sc [] s.heap.objs.size code builtinsNs X.env) x fp) [] [none] H { s with heap := h5, gens := g5, toks := t5 } := by
  have nofs : ∀ b ∈ fp, b ∉ frs X.stack := fun b hb z => by
    obtain ⟨⟨_, h1, h2, _⟩, _⟩ := ho b hb
    rcases List.mem_cons.mp (I.stkSub b z) with q | q
    · exact h1 q
    · exact h2 q
  refine ⟨⟨I.ok.mod, hk, I.ok.glob, rfl, Nat.le_refl _, fun y z c e _ => ?_, fun y hy => ?_, fun y c e _ => ?_, fun _ => hh, fr, .inr ⟨rfl, rfl⟩, fun b hb => ⟨Nat.ne_of_lt (ho b hb).2, fun y c e => ?_⟩, fun b o e => I.bs b o e, Nat.le_trans I.ok.bsz I.sz, fun b o e hb => ?_, fun b hb => nofs b hb, I.stack, I.stkFree⟩,
    rfl, bare, Un.kept keep, ⟨m, hns, fun i y v h1 h2 _ => ?_⟩, fun y c e => ?_, I.hok.fresh (Nat.le_refl _), fun y c e => ?_, fun p hp => ?_, I.hok.kept keep, rfl⟩
  · exact absurd e (by intro z; cases z)
  · have hy' : sc.names.lookup y = some .cell ∨ sc.names.lookup y = some .free := hy
    rcases hy' with q | q
    · exact absurd rfl (hc _ (PySem.mem_of_lookup q))
    · exact absurd rfl (hf _ (PySem.mem_of_lookup q))
  · exact absurd e (by intro z; cases z)
  · exact absurd e (by intro z; cases z)
  · obtain ⟨⟨_, _, _, h3, _⟩, _⟩ := ho b hb
    rcases h3 with q | q
    · exact I.ok.noex b o e q
    · exact Nat.lt_irrefl _ (Nat.lt_of_lt_of_le (Heap.lt_size e) (Nat.le_trans I.ok.bsz q))
  · cases i with
    | zero => cases h2
    | succ i => cases h2
  · exact absurd e (by intro z; cases z)
  · exact absurd e (by intro z; cases z)
  · exact absurd hp (by intro z; cases z)
/-- all(e for x in it): the table of the running def's code may have grown; then, item by item -/
def tAllX (P : Addr) (wi : TI) (te : TE) : TE := fun σ H Q => wi σ H fun J H1 => TabG H1 P ∧ ∀ H2, Tabbed P H1 H2 → ∃ (n0 : Nat) (W : Nat → Hp → Prop), W 0 H2 ∧
  ∀ i H', W i H' → (i < n0 ∧ J.go i H' ∧ ∀ v H'', J.yld i H' v H'' → te [some v] H'' fun y H3 => ∃ b, y = .bl b ∧ if b = true then W (i + 1) H3 else Q (.bl false) H3) ∨ (J.stop i H' ∧ Q (.bl true) H')
theorem pe_allX {c P : Addr} {elt iter : Expr} {x : Str} {px p pos gp : Pos} {sc : Scope} {wi : TI} {te : TE} {k : Nat}
    (hr : Room (k + 2) X.A) (hg : Gl X "all") (hm : X.mg "all" = none) (hb : bootBuiltins "all" = some (.builtin "all")) (TB : TabB X.base X.mg c P) (hco : X.env.code = .ref c) (S : GenS X.env sc x) (nf : ∀ y ∈ sc.names, y.2 ≠ .free)
    (hi : PI X (.Name x px) iter wi)
    (hel : ∀ (A : Around) (s : Shared) (H : Hp) (C : Addr) (code : Value) (fp : List Addr), Room k A → PE (gxOf X A s H (genEnv sc [] C code builtinsNs X.env) x fp) elt te)
    (hs : ∀ v, genFold iter X.env v = pure v) (hcl : cloFrom X.env.cells sc.names [] = [] := by rfl)
    (he : starEach [.GeneratorExp elt [⟨.Name x px, iter, [], 0⟩] sc gp] X.env = (false, eval (.GeneratorExp elt [⟨.Name x px, iter, [], 0⟩] sc gp) X.env) :: starEach [] X.env := by rfl) :
    PE X (.Call (.Name "all" p) [.GeneratorExp elt [⟨.Name x px, iter, [], 0⟩] sc gp] [] pos) (tAllX P wi te) := by
  refine ⟨fun pins s σ H Q I h => wpAny_Call_Name_kw (ld_blt I hg hm hb ?_)⟩
  refine PyProof.Rows.callWith_builtin1 ?_ he (by rfl)
  rw [he]
  show wpAny _ _ (spliced ((false, eval (.GeneratorExp elt [⟨.Name x px, iter, [], 0⟩] sc gp) X.env) :: backTo pos (starEach [] X.env))) _ _ s
  refine Calls.spliced_cons (wpAny_GeneratorExp_make S.co (cl := []) (hcl ▸ closure_ok S.free) S.cell S.dot S.kind (Nat.lt_of_le_of_lt (by omega) hr.dp) ?_ hs)
  refine thn (hi.run pins s σ H _ I h) fun v s1 h1 => thn h1 fun itv s2 h2 => ?_
  obtain ⟨it, fp, tn, J, H1, e, J1, T, st, fo, ⟨ps, tP, tok⟩, q⟩ := h2
  subst e
  have gP : s2.heap.get? P = some { cls := .none, data := .fields ps } := J1.hok P _ tP
  have head : PySem.W.CodeHd s2.heap c P := TB.code.keeps fun b u e => J1.bk b u e
  have ncP : cStatics ≠ P := fun e => by
    obtain ⟨_, ns, _⟩ := J1.nolimit
    obtain ⟨o', es, ep, g', d', _⟩ := ns
    rw [e, gP] at g'
    cases g'
    cases d'
  have fpP : ∀ b ∈ fp, b ≠ P := fun b hb z => by
    have := (fo b hb).1
    rw [z, tP] at this
    cases this
  refine ⟨J1.nolimit, ?_⟩
  have go : ∀ (code : Value) (hN : Heap) (tk : Nat) (qs : Array Value), Heap.ExtBut P s2.heap hN → hN.get? P = some { cls := .none, data := .fields qs } → (∃ more, qs = ps ++ more) → TriplesOk qs.toList →
      wpAny (model X.prog X.w) X.A (builtinsFor X.env.globals X.env.builtins) (fun bi s₄ =>
        ∀ h', h'.Ns s₄.heap.objs.size (fun y => if y = ".0" then some (.ref it) else none) → Heap.SameBut s₄.heap.objs.size (s₄.heap.push { cls := .type "frame", data := .dict #[] }) h' →
          wpAny (model X.prog X.w) X.A (spliced (backTo pos (starEach [] X.env))) (fun us s' => wpAny (model X.prog X.w) X.A (call (.builtin "all") (.ref h'.objs.size :: us)) (EP X pins σ Q) X.xe s') X.xe { s₄ with
            gens := s₄.gens.push (.fresh (.compStart (.GeneratorExp elt [⟨.Name x px, iter, [], 0⟩] sc gp) 0 (.ref it) .none (genEnv sc [] s₄.heap.objs.size code bi X.env))),
            toks := s₄.toks + 1 + 1 + 1,
            heap := h'.push { cls := .type "generator", data := .fields #[.int s₄.gens.size 0, .str "<genexpr>" (s₄.toks + 1), .str (X.env.qual ++ "<genexpr>") (s₄.toks + 1 + 1)] } }) X.xe { s2 with heap := hN, toks := tk } := by
    intro code hN tk qs ext gPN more okN
    obtain ⟨bm, obm, e1, e2, e3, e4, e5, e6, e7, e8⟩ := TB.bm
    have stay : ∀ b u, b ≠ P → s2.heap.get? b = some u → hN.get? b = some u := fun b u nb e => ext b u nb e
    obtain ⟨mo, em⟩ := more
    subst em
    have J2 : Inv X pins σ (upd H1 P (.tbl (ps ++ mo))) { s2 with heap := hN, toks := tk } := inv_tab (more := mo) (h' := hN) (g' := s2.gens) (d' := s2.drawn) (t' := tk) J1 tP stay gPN J1.bare
    refine wpAny_builtinsFor (m := X.mg) (by rw [J1.ok.glob]; exact (J1.mod.glob.keeps J1.bk).extBut ext TB.gP) e1 e2 (stay _ _ e4 (J1.bk _ _ e5)) e6 e7 e8 ?_
    intro h' hn' hs'
    refine Calls.spliced_nil ?_
    obtain ⟨n0, W, w0, hW⟩ := q (upd H1 P (.tbl (ps ++ mo))) ⟨⟨ps ++ mo, upd_same, okN⟩, fun b nb => upd_ne nb⟩
    have sz' : h'.objs.size = hN.objs.size + 1 := by
      rw [hs'.1, Heap.size_push]
    have keep' : ∀ b o, hN.get? b = some o → h'.get? b = some o := fun b o e => hs'.extBut b o (Nat.ne_of_lt (Heap.lt_size e)) (Heap.get?_push_of_some _ e)
    generalize hgo : ({ cls := .type "generator", data := .fields #[.int s2.gens.size 0, .str "<genexpr>" (tk + 1), .str (X.env.qual ++ "<genexpr>") (tk + 1 + 1)] } : Obj) = gob
    have gc : gob.cls = .type "generator" := by rw [← hgo]
    have gd : ∃ nm qn, gob.data = .fields #[.int s2.gens.size 0, nm, qn] := ⟨_, _, by rw [← hgo]⟩
    have gs : gob.slots = #[] := by rw [← hgo]
    show wpAny (model X.prog X.w) X.A (call (.builtin "all") [.ref h'.objs.size]) (EP X pins σ Q) X.xe { s2 with
            gens := s2.gens.push (.fresh (.compStart (.GeneratorExp elt [⟨.Name x px, iter, [], 0⟩] sc gp) 0 (.ref it) .none (genEnv sc [] hN.objs.size code builtinsNs X.env))),
            toks := tk + 1 + 1 + 1, heap := h'.push gob }
    have keep5 : ∀ b o, hN.get? b = some o → (h'.push gob).get? b = some o := fun b o e => Heap.get?_push_of_some _ (keep' b o e)
    have atG : (h'.push gob).get? h'.objs.size = some gob := Heap.get?_push_size _ (by
      obtain ⟨nm, qn, e⟩ := gd
      exact Obj.isFreed_of_fields e)
    -- the frame
    generalize hge : genEnv sc [] hN.objs.size code builtinsNs X.env = ge
    have fpl : ∀ b ∈ fp, b < hN.objs.size := fun b hb => by
      obtain ⟨o, e, _⟩ := T.obj _ _ st b hb
      exact Heap.lt_size (stay b o (fpP b hb) e)
    have foN : ∀ b ∈ fp, FpOk X pins (upd H1 P (.tbl (ps ++ mo))) b := fun b hb => ⟨by rw [upd_ne (fpP b hb)]; exact (fo b hb).1, (fo b hb).2⟩
    have stN : tn 0 (h'.push gob) := T.keep _ _ _ st fun b hb o e => keep5 b o (stay b o (fpP b hb) e)
    have hAh : (X.A.in1.in1.over (gcode elt iter x px sc gp it ge) []).handled = none := hr.hd
    have hAf : (X.A.in1.in1.over (gcode elt iter x px sc gp it ge) []).frames = some (ge :: X.stack) := by
      show pushEnvs (gcode elt iter x px sc gp it ge).envs (pushEnvs [] X.A.frames) = _
      rw [J1.ok.frames]
      rfl
    have IG0 := inv_gx (A := X.A.in1.in1.over (gcode elt iter x px sc gp it ge) []) (sc := sc) (x := x) (fp := fp) (code := code) (h5 := h'.push gob)
      (g5 := s2.gens.push (.fresh (.compStart (.GeneratorExp elt [⟨.Name x px, iter, [], 0⟩] sc gp) 0 (.ref it) .none ge))) (t5 := tk + 1 + 1 + 1) J2 S.kind S.cell nf (hn'.push gob) keep5 (AllBare.push J1.bare rfl) hAh (by rw [hAf, ← hge]) (fun b hb => ⟨foN b hb, fpl b hb⟩)
    rw [hge] at IG0
    generalize hXg : gxOf X (X.A.in1.in1.over (gcode elt iter x px sc gp it ge) []) { s2 with heap := hN, toks := tk } (upd H1 P (.tbl (ps ++ mo))) ge x fp = Xg at IG0
    have gne : ∀ b ∈ fp, h'.objs.size ≠ b := fun b hb => Nat.ne_of_gt (Nat.lt_trans (fpl b hb) (by omega))
    have fpXg : ∀ b ∈ fp, FpOk Xg [(h'.objs.size, gob)] (upd H1 P (.tbl (ps ++ mo))) b := fun b hb => by
      rw [← hXg]
      refine ⟨(foN b hb).1, ?_, fun z => ?_, .inl hb, fun y cc e => ?_, fun p hp => ?_⟩
      · show b ≠ ge.locals
        rw [← hge]
        exact Nat.ne_of_lt (fpl b hb)
      · obtain ⟨_, q1, q2, _⟩ := foN b hb
        rcases List.mem_cons.mp (J2.stkSub b z) with q | q
        · exact q1 q
        · exact q2 q
      · have e' : ge.cells.lookup y = some cc := e
        rw [← hge] at e'
        cases e'
      · have hp' : p ∈ [(h'.objs.size, gob)] := hp
        rw [List.mem_singleton.mp hp']
        exact gne b hb
    have IG : Inv Xg [(h'.objs.size, gob)] [none] (upd H1 P (.tbl (ps ++ mo))) { s2 with heap := h'.push gob, gens := s2.gens.push (.fresh (.compStart (.GeneratorExp elt [⟨.Name x px, iter, [], 0⟩] sc gp) 0 (.ref it) .none ge)), toks := tk + 1 + 1 + 1 } := by
      refine IG0.pins_of fun p hp => ?_
      rw [List.mem_singleton.mp hp]
      have big : hN.objs.size < h'.objs.size := by omega
      refine ⟨atG, J2.hok.fresh (Nat.le_of_lt big), ?_, ?_, fun v e => ?_⟩
      · rw [← hXg]
        show h'.objs.size ≠ ge.locals
        rw [← hge]
        exact Nat.ne_of_gt big
      · rw [← hXg]
        intro z
        rcases List.mem_cons.mp (J2.stkSub _ z) with q | q
        · have l := J2.lt
          rw [← q] at l
          exact absurd (Nat.lt_trans big l) (Nat.lt_irrefl _)
        · exact J2.nofs (Nat.le_of_lt big) q
      · obtain ⟨nm, qn, e2⟩ := gd
        have e' : gob.data = .cell v := e
        rw [e2] at e'
        cases e'
    have back : ∀ (b : Bool) (s' : Shared), GEd Xg h'.objs.size gob (Q (.bl b)) s' → EP X pins σ Q (.bool b) s' := fun b s' ⟨H', y, K, q⟩ => by
      rw [← hXg] at K
      exact ⟨.bl b, H', J2.call' (ch := fp) K.os K.base K.hok K.bare (fun c hc => ⟨(foN c hc).2.2.2.1, (foN c hc).2.1, (foN c hc).2.2.2.2.1, (foN c hc).2.2.2.2.2⟩), rfl, q⟩
    have loopS := seg_gloop (X := X) (A := X.A.in1.in1) (sG := { s2 with heap := hN, toks := tk }) (HG := upd H1 P (.tbl (ps ++ mo))) (ge := ge) (fp := fp) (tn := tn) (ga := h'.objs.size) (go := gob) (g := s2.gens.size) (W := W) (Qf := Q (.bl false)) (Qt := Q (.bl true))
      (gp := gp) (sc := sc) (elt := elt) (iter := iter) (n0 := n0) (te := te) T (by rw [← hge]; exact S.loc) (by rw [← hge]; exact S.co) (by
        rw [← hge]
        refine hel _ _ _ _ _ _ ⟨hr.hd, ?_, ?_⟩
        · have := hr.dp
          show X.A.depth + 0 + 1 + 3 * k + 5 < _
          omega
        · have := hr.un
          show X.A.units + 1 + 1 + 0 + 3 + 16 * k + 200 < _
          omega) hW
    rw [hXg] at loopS
    have GI0 : GIn Xg fp tn h'.objs.size gob s2.gens.size W 0 { s2 with heap := h'.push gob, gens := s2.gens.push (.fresh (.compStart (.GeneratorExp elt [⟨.Name x px, iter, [], 0⟩] sc gp) 0 (.ref it) .none ge)), toks := tk + 1 + 1 + 1 } :=
      ⟨⟨_, _, IG, stN, fpXg, w0⟩, by show s2.gens.size + 1 ≤ (s2.gens.push _).size; rw [Array.size_push]; exact Nat.le_refl _⟩
    refine call_function_tree F.kind_all F.plain_all F.entry_all (F.args_all1 _) ?_
    unfold Builtin.«all»
    refine wpAny_bind (m := oneArg "all" _) (wpAny_pure ?_)
    refine wpAny_bind (wpAny_pyIter_gen ⟨gob, _, _, atG, gc, gd.choose_spec.choose_spec, gs⟩ ?_)
    refine wpAny_pure ⟨plainId_quiet F.plain_all_loop _, all_loopX (X := X) (A := X.A) (R := fun r s' => match r with | .ok (.ret v) => EP X pins σ Q v s' | .ok _ => False | .error e => X.xe e s') (Xg := Xg) (Qf := Q (.bl false)) (Qt := Q (.bl true)) (W := W) (fp := fp) (tn := tn) (n0 := n0) gc gd gs hr.hd (Nat.lt_of_le_of_lt (by show X.A.depth ≤ X.A.depth + 3 * (k + 2) + 5; omega) hr.dp) (fun s' q => back true s' q) (fun s' q => back false s' q) n0 0 _ (Nat.sub_zero _) ⟨GI0, _, Array.getElem?_push_size .., fun s'' gi => ⟨rfl, ?_⟩⟩⟩
    have loop := loopS n0 0 s'' s'' (Nat.sub_zero _) gi
    obtain ⟨_, _, _, sti, _⟩ := gi.ex
    show Seg _ X.A.in1.in1 _ _ _ s'' _ ((compStart (.GeneratorExp elt [⟨.Name x px, iter, [], 0⟩] sc gp) 0 (.ref it) .none ge).onRaise (leaving ge)) [] s''
    unfold compStart
    rw [Sem.onRaise_eq_wrap]
    show Seg _ X.A.in1.in1 _ _ _ s'' _ ((ask >>= _).wrap _ _ _ _) [] s''
    refine seg_bind_wrap (wpAny_askSetting ?_)
    split
    · exact seg_again rfl loop
    · first
        | exact seg_bind_wrap (wpAny_rule (seg_bind_wrap (wpAny_standAt (seg_bind_wrap (T.self _ 0 _ _ _ sti (seg_again rfl loop))))))
        | (refine seg_bind_wrap (wpAny_rule ?_); show Seg _ X.A.in1.in1 _ _ _ s'' _ ((standAt iter.pos >>= _).wrap _ _ _ _) [] s''; exact seg_bind_wrap (wpAny_standAt (seg_bind_wrap (T.self _ 0 _ _ _ sti (seg_again rfl loop)))))
  cases am : codeAmong gp ps.toList with
  | none =>
    refine wpAny_genexprCodeX hco (head.code gP tok) (head.tab gP) am fun c' hN tk ext hge hlt hc' _ tab' _ => ?_
    obtain ⟨o1, vs, f1, tf, fl, tg, inF, tx, tt, op, _, _, _, _, _, _, _, _, _, tr, _⟩ := hc'
    exact go _ hN tk _ ext tab'.2 ⟨_, rfl⟩ tr
  | some cv =>
    refine wpAny_genexprCode_hit hco (head.code gP tok) am ?_
    exact go cv s2.heap s2.toks ps (Heap.ExtBut.refl _ _) gP ⟨#[], by simp⟩ tok
end
end Ey
set_option maxHeartbeats 4000000
namespace Ey
open PySem PySem.Spec PyProof.Rows L2 GxR PySem.SeqAt
open AutoSeq1 (wpAny_loadPart')
open MeetsSeq MeetsSeq2 MeetsSeq3
/-! ### a dict beside a text -/
theorem dict_eq_declines_str (l : Addr) (es : Array DictEntry) (n : Nat) (dd : Option Addr) (sl : Array (Option Value)) (b : Str) (u : Tok) :
    Meets (Builtin.«dict.__eq__» ⟨[.ref l, .str b u], []⟩) (fun _ R s => s.heap.get? l = some { cls := .type "dict", dict := dd, data := .dict es n, slots := sl } ∧ R (.ok (.ret .notImplemented)) s) :=
  .of_wp fun prog w A R s h => by obtain ⟨hp, g, d, tk, os⟩ := s; obtain ⟨hl, h⟩ := h; have f1 := F.sub_str_dict; wp_walk using wpAny_loadPart' hl, wpAny_load hl; exact ⟨_, rfl, h⟩
theorem dict_ne_declines_str (l : Addr) (es : Array DictEntry) (n : Nat) (dd : Option Addr) (sl : Array (Option Value)) (b : Str) (u : Tok) :
    Meets (Builtin.«dict.__ne__» ⟨[.ref l, .str b u], []⟩) (fun _ R s => s.heap.get? l = some { cls := .type "dict", dict := dd, data := .dict es n, slots := sl } ∧ R (.ok (.ret .notImplemented)) s) :=
  .of_wp fun prog w A R s h => by obtain ⟨hp, g, d, tk, os⟩ := s; obtain ⟨hl, h⟩ := h; have f1 := F.sub_str_dict; wp_walk using wpAny_loadPart' hl, wpAny_load hl; exact ⟨_, rfl, h⟩
theorem str_eq_declines_dict (b : Str) (u : Tok) (l : Addr) (es : Array DictEntry) (n : Nat) (dd : Option Addr) (sl : Array (Option Value)) :
    Meets (Builtin.«str.__eq__» ⟨[.str b u, .ref l], []⟩) (fun _ R s => s.heap.get? l = some { cls := .type "dict", dict := dd, data := .dict es n, slots := sl } ∧ R (.ok (.ret .notImplemented)) s) :=
  .of_wp fun prog w A R s h => by obtain ⟨hp, g, d, tk, os⟩ := s; obtain ⟨hl, h⟩ := h; wp_walk using wpAny_loadPart' hl, wpAny_load hl; exact ⟨_, rfl, h⟩
theorem str_ne_declines_dict (b : Str) (u : Tok) (l : Addr) (es : Array DictEntry) (n : Nat) (dd : Option Addr) (sl : Array (Option Value)) :
    Meets (Builtin.«str.__ne__» ⟨[.str b u, .ref l], []⟩) (fun _ R s => s.heap.get? l = some { cls := .type "dict", dict := dd, data := .dict es n, slots := sl } ∧ R (.ok (.ret .notImplemented)) s) :=
  .of_wp fun prog w A R s h => by obtain ⟨hp, g, d, tk, os⟩ := s; obtain ⟨hl, h⟩ := h; wp_walk using wpAny_loadPart' hl, wpAny_load hl; exact ⟨_, rfl, h⟩
end Ey
set_option maxHeartbeats 2000000
namespace Ey
open PySem PySem.Spec PyProof.Rows L2 GxR
/-! ### a law's own call: nothing is under way around it, so that repr is told of data -/
def LawOk (P : Program) (w : World) (K : PySem.W.Frag) (mg : Str → Option Value) (base : Heap) (f : Addr) (fd : FuncData) (x : Str) (sp : Sp) : Prop :=
  ∀ (s : Shared) (H : Hp) (u : Value) (v : V) (Q : VK), Env0 P w K mg base callerA [] s H → BindsTo s fd ⟨[u], []⟩ [(x, u)] → RelV v u → sp [v] H Q E0 →
    codeAny (model P w) callerA (.call (.ref f) ⟨[u], []⟩) (CR CX0 [] P w H s Q E0) s
section
variable {P : Program} {w : World} {K : PySem.W.Frag} {mg : Str → Option Value} {base : Heap}
theorem law_ok {x qual p : Str} {st : Stmt} {f : Addr} {fd : FuncData} {N : List Str} {k : Nat} {sp : Sp} (F : Fun K x qual st f fd) (S : FnScope N [p] (defScope st)) (hr : Room (k + 1) callerA)
    (body : ∀ (cdv : Value) (s : Shared) (H : Hp) (v : V) (Q : VK), Room k (callerA.deeper (envOfC qual (defScope st) s.heap.objs.size f cdv)) → sp [v] H Q E0 →
      ∃ t, PSs (cxOf CX0 P w K mg base N qual (defScope st) f cdv callerA [] s H E0).nox (defBody st) t ∧ t { nx := fun _ H' => Q .non H', rt := Q } (start N [v]) H) :
    LawOk P w K mg base f fd p sp := by
  obtain ⟨oc, od, kV, doc, pm, an, cdv, ct, osl, rfl, lk, code⟩ := F.ex
  intro s H u v Q e0 hb rv hsp
  have inK : K.In s.heap := e0.mod.kin.keeps fun b o e => (e0.bs b o e).1
  have noL : s.heap.NoLimit := e0.mod.nolimit.keeps fun b o e => (e0.bs b o e).1
  have kinds : ∀ y ∈ [p].zip [u], (defScope st).names.lookup y.1 = some .local ∨ ((defScope st).names.lookup y.1 = some .cell ∧ ((cellsFrom (s.heap.objs.size + 1) (defScope st).names []).lookup y.1).isSome = true) := fun ⟨n, z⟩ hy => by
    rcases S.par n (List.of_mem_zip hy).1 with q | q
    · exact .inl q
    · exact .inr ⟨q, PySem.W.cellsFrom_some _ _ _ (.inl q)⟩
  refine codeAny_call_function (Nat.lt_of_le_of_lt (by omega) hr.dp) (inK _ _ lk) rfl S.co S.gen rfl (PySem.W.codeRec_of inK code) (hb _ _ _ _ ?_)
  refine wpAny_newFunctionEnv_cells (binds := [p].zip [u]) S.kind kinds fun env he s1 xc => ?_
  subst he
  refine ⟨noL.keeps xc.toInCall.keep, codeAny_func ?_⟩
  obtain ⟨t, dv, rd⟩ := body cdv s H v Q (hr.deeper _) hsp
  have I := inv_start (CX := CX0) (E := E0) (P := P) (w := w) (K := K) (mg := mg) (base := base) (N := N) (ps := [p]) (A := callerA) (vs := [v]) (us := [u]) S rfl e0 rfl (.cons rv .nil) xc
  refine wpAny_mono (dv.nox.run [] s1 (start N [v]) H _ I rd) (fun fl s' hs => ?_) fun e s' hs => hs
  cases fl with
  | next =>
    obtain ⟨σ', H', J, q⟩ := hs
    exact ⟨V.non, H', J.os, J.bare, J.base, J.hok, rfl, q⟩
  | ret z =>
    obtain ⟨y, σ', H', J, ry, q⟩ := hs
    exact ⟨y, H', J.os, J.bare, J.base, J.hok, ry, q⟩
  | brk =>
    obtain ⟨_, _, _, q⟩ := hs
    exact q.elim
  | cont =>
    obtain ⟨_, _, _, q⟩ := hs
    exact q.elim
end
end Ey
set_option maxHeartbeats 2000000
namespace Ey
open PySem PySem.Spec PyProof.Rows L2 GxR
/-- the tables cs stand empty in h, outside the written part -/
structure Tabs (K : PySem.W.Frag) (h : Heap) (cs : List (Addr × Addr)) : Prop where
  at_ : ∀ p ∈ cs, h.get? p.2 = some { cls := .none, data := .fields #[] }
  out : ∀ p ∈ cs, K.lookup p.2 = none
  hd : ∀ p ∈ cs, PySem.W.CodeHd h p.1 p.2
/-- what a heap says of the module's own builtins -/
def BMain (mg : Str → Option Value) (h : Heap) : Prop :=
  ∃ (bm : Addr) (ob : Obj), mg "__builtins__" = some (.ref bm) ∧ bm ≠ builtinsNs ∧ h.get? bm = some ob ∧ ob.cls = .type "module" ∧ ob.dict = some builtinsNs ∧ ob.data = .plain
section
variable {P : Program} {w : World} {K : PySem.W.Frag} {mg mb : Str → Option Value}
/-- the script at a, the tables cs: what is tracked ahead of the law -/
def start0 (K : PySem.W.Frag) (a : Addr) (o : Obj) (ns : List Int) (cs : List (Addr × Addr)) : Hp := fun b =>
  if b ∈ cs.map (·.2) then some (.tbl #[]) else if b = a ∧ K.lookup a = none then some (.frz o (.lst (ns.map V.int))) else none
theorem call_law {f a : Addr} {cs : List (Addr × Addr)} {fd : FuncData} {x : Str} {sp : Sp} {z : Shared} {vs : List Value} {ns : List Int}
    (KX : K.In z.heap) (hns : z.heap.Ns mainGlobals mg) (hb : z.heap.Ns builtinsNs mb) (hbb : ∀ x : Str, x ≠ "__name__" → mb x = bootBuiltins x) (lim : z.heap.NoLimit) (hsm : ∃ mm, z.heap.Ns sysModules mm) (hg : z.gens = #[])
    (T : Tabs K z.heap cs) (hbm : BMain mg z.heap) (ha : z.heap.get? a = some { cls := .type "list", data := .seq vs.toArray }) (hi : IntsAre vs ns) (hl : ns.length ≤ sizeLine)
    (F : ∀ base : Heap, K.In base → base.Ns mainGlobals mg → (∀ p ∈ cs, TabB base mg p.1 p.2) → (∃ mm, base.Ns sysModules mm) → LawOk P w K mg base f fd x sp) (hbind : ∀ (s : Shared) (u : Value), BindsTo s fd ⟨[u], []⟩ [(x, u)])
    (hsp : ∀ H : Hp, (∀ p ∈ cs, H p.2 = some (.tbl #[])) → SqL K H a (ns.map V.int) → sp [.ref a] H (fun v _ => v = .bl true) E0) :
    codeAny (model P w) callerA (.call (.ref f) ⟨[.ref a], []⟩) (fun r s' => r = .ok (.ret (.bool true)) ∧ OldK z.heap s'.heap ∧ s'.os = z.os ∧ AllBare s'.gens) z := by
  have rv := vals_ints hi
  have nV : vs.length = ns.length := hi.length
  have tabAt : ∀ b : Addr, b ∈ cs.map (·.2) → z.heap.get? b = some { cls := .none, data := .fields #[] } ∧ K.lookup b = none := fun b m => by
    obtain ⟨p, hp, rfl⟩ := List.mem_map.mp m
    exact ⟨T.at_ p hp, T.out p hp⟩
  have aT : a ∉ cs.map (·.2) := fun m => by
    have e := (tabAt a m).1
    rw [ha] at e
    injection e with e
    have e' : Data.seq vs.toArray _ = Data.fields #[] := congrArg Obj.data e
    cases e'
  let H : Hp := start0 K a { cls := .type "list", data := .seq vs.toArray } ns cs
  have HT : ∀ p ∈ cs, H p.2 = some (.tbl #[]) := fun p hp => if_pos (List.mem_map.mpr ⟨p, hp, rfl⟩)
  have Hcase : ∀ b, H b = none ∨ (b ∈ cs.map (·.2) ∧ H b = some (.tbl #[])) ∨ (b = a ∧ K.lookup a = none ∧ H b = some (.frz { cls := .type "list", data := .seq vs.toArray } (.lst (ns.map V.int)))) := fun b => by
    by_cases h1 : b ∈ cs.map (·.2)
    · exact .inr (.inl ⟨h1, if_pos h1⟩)
    · by_cases h2 : b = a ∧ K.lookup a = none
      · exact .inr (.inr ⟨h2.1, h2.2, (if_neg h1).trans (if_pos h2)⟩)
      · exact .inl ((if_neg h1).trans (if_neg h2))
  have HS : SqL K H a (ns.map V.int) := by
    cases hk : K.lookup a with
    | some o =>
      have e := KX a o hk
      rw [ha] at e
      injection e with e
      subst e
      exact .inr ⟨_, vs.toArray, _, hk, rfl, rfl, rfl, by rw [List.size_toArray, nV]; exact hl, by simpa using rv⟩
    | none => exact .inl (.inr ⟨_, (if_neg aT).trans (if_pos ⟨rfl, hk⟩)⟩)
  have HO : HOk P w H z.heap := fun b u e => by
    rcases Hcase b with q | ⟨m, q⟩ | ⟨m, _, q⟩
    · rw [q] at e
      cases e
    · rw [q] at e
      cases e
      exact (tabAt b m).1
    · rw [q] at e
      cases e
      subst m
      exact ⟨ha, by rw [List.length_map]; exact hl, vs, _, rv, ha⟩
  -- what is neither the script nor a table stands in the base
  have inB : ∀ {b : Addr} {o : Obj}, z.heap.get? b = some o → (∀ xs n, o.data ≠ .seq xs n) → o.data ≠ .fields #[] → (hidT z.heap H).get? b = some o := fun {b o} e h1 h2 => by
    refine hidT_get e ?_
    rcases Hcase b with q | ⟨m, q⟩ | ⟨m, _, q⟩
    · exact q
    · rw [(tabAt b m).1] at e
      injection e with e
      subst e
      exact absurd rfl h2
    · subst m
      rw [ha] at e
      injection e with e
      subst e
      exact absurd rfl (h1 _ _)
  have nsB : ∀ {b : Addr} {m : Str → Option Value}, z.heap.Ns b m → (hidT z.heap H).Ns b m := fun {b m} ⟨o, es, ep, e, d, r⟩ =>
    ⟨o, es, ep, inB e (fun xs n q => by rw [d] at q; cases q) (fun q => by rw [d] at q; cases q), d, r⟩
  have KB : K.In (hidT z.heap H) := fun b o e => by
    refine hidT_get (KX b o e) ?_
    rcases Hcase b with q | ⟨m, q⟩ | ⟨m, n, q⟩
    · exact q
    · rw [(tabAt b m).2] at e
      cases e
    · subst m
      rw [n] at e
      cases e
  have M : L2.Mod K mg (hidT z.heap H) := ⟨KB, nsB hns, ⟨mb, nsB hb, hbb⟩, let ⟨mc, h1, h2⟩ := lim; ⟨mc, nsB h1, h2⟩⟩
  have TB : ∀ p ∈ cs, TabB (hidT z.heap H) mg p.1 p.2 := fun p hp => by
    have pT := T.at_ p hp
    refine ⟨?_, ?_, fun q => ?_⟩
    · obtain ⟨o, us, fi, tf, fl, tg, nf, tx, tt, e1, r1, r2, r3, rest⟩ := T.hd p hp
      refine ⟨o, us, fi, tf, fl, tg, nf, tx, tt, inB e1 (fun xs n q => ?_) (fun q => ?_), r1, r2, r3, rest⟩
      · rw [r2] at q
        cases q
      · rw [r2] at q
        cases q
        simp at r3
    · obtain ⟨bm, ob, b1, b2, b3, b4, b5, b6⟩ := hbm
      refine ⟨bm, ob, b1, b2, fun q => ?_, fun q => ?_, inB b3 (fun xs n q => ?_) (fun q => ?_), b4, b5, b6⟩
      · obtain ⟨o, es, ep, e, d, _⟩ := hns
        rw [q, e] at b3
        injection b3 with b3
        subst b3
        rw [d] at b6
        cases b6
      · rw [q, pT] at b3
        injection b3 with b3
        subst b3
        cases b6
      · rw [b6] at q
        cases q
      · rw [b6] at q
        cases q
    · obtain ⟨o, es, ep, e, d, _⟩ := hns
      rw [q, pT] at e
      injection e with e
      subst e
      cases d
  have e0 : Env0 P w K mg (hidT z.heap H) callerA [] z H := ⟨rfl, M, fun b o e => of_hidT e, Nat.le_of_eq (hidT_size _ _), trivial, fun b m => absurd m List.not_mem_nil, HO, .of_eq hg⟩
  refine codeAny_mono (F _ KB (nsB hns) TB (let ⟨mm, q⟩ := hsm; ⟨mm, nsB q⟩) z H (.ref a) (.ref a) _ e0 (hbind z _) rfl (hsp H HT HS)) fun r s' h => ?_
  cases r with
  | error e => exact h.elim
  | ok fl =>
    cases fl with
    | next => exact h.elim
    | brk => exact h.elim
    | cont => exact h.elim
    | ret u =>
      obtain ⟨v, H', os, bare, un, ok', r', q⟩ := h
      have q' : v = .bl true := q
      subst q'
      obtain rfl : u = Value.bool true := r'
      have keep : ∀ b o, b ∉ cs.map (·.2) → z.heap.get? b = some o → s'.heap.get? b = some o := fun b o nb e => by
        rcases Hcase b with q | ⟨m, q⟩ | ⟨m, _, q⟩
        · exact un.keep b o e q List.not_mem_nil List.not_mem_nil
        · exact absurd m nb
        · have e1 := (HO b _ q).1
          rw [e] at e1
          injection e1 with e1
          subst e1
          exact (ok' b _ (un.frzs b _ _ q)).1
      have grown : ∀ b, b ∈ cs.map (·.2) → ∃ more : Array Value, s'.heap.get? b = some { cls := .none, data := .fields more } := fun b m => by
        obtain ⟨p, hp, rfl⟩ := List.mem_map.mp m
        obtain ⟨more, q⟩ := un.tbls p.2 #[] (HT p hp)
        exact ⟨_, ok' p.2 _ q⟩
      refine ⟨rfl, ⟨fun b o e => ?_, fun b o e => ?_⟩, os, bare⟩
      · by_cases m : b ∈ cs.map (·.2)
        · obtain ⟨more, g⟩ := grown b m
          obtain ⟨p, hp, rfl⟩ := List.mem_map.mp m
          rw [T.at_ p hp] at e
          injection e with e
          subst e
          exact .inr (.inl ⟨((T.hd p hp).tab (T.at_ p hp)).isCodeTable, rfl, #[], more, rfl, by rw [Array.empty_append]; exact g⟩)
        · exact .inl (keep b o m e)
      · by_cases m : b ∈ cs.map (·.2)
        · obtain ⟨more, g⟩ := grown b m
          exact ⟨_, g⟩
        · exact ⟨o, keep b o m e⟩
end
/-- the goal that k_head leaves, from the law's promise at any base -/
theorem walk_law {l : PySem.W.OpenLaw} {n : Nat} {q : Program} {loose : List Str} {XP : (Str → Option Value) → Heap → Prop} {YP : World → Heap → Prop} {d : DefRec} {K : Params → PySem.W.Frag} {x : Str}
    (hi0 : PyProof.Rows.importsNone q = true) (hn : l.most = some n) (hn2 : n ≤ sizeLine) (hdf : d.params.defaults = []) (hY : ∀ (w : World) (h : Heap), YP w h → (K w.params).In h)
    (F : ∀ (w : World) (mg : Str → Option Value) (f : Addr) (h : Heap) (lo : List Str) (mean : ExcName → Option Value) (mb : Str → Option Value), (K w.params).In h → PyProof.Rows.Top q lo mean mg mb h → mg d.name = some (.ref f) →
      ∃ (fd : FuncData) (cs : List (Addr × Addr)) (sp : Sp), Tabs (K w.params) h cs ∧ (∀ (s : Shared) (u : Value), BindsTo s fd ⟨[u], []⟩ [(x, u)]) ∧
        (∀ (H : Hp) (a : Addr) (ns : List Int), ns.length ≤ n → (∀ p ∈ cs, H p.2 = some (.tbl #[])) → SqL (K w.params) H a (ns.map V.int) → sp [.ref a] H (fun v _ => v = .bl true) E0) ∧
        ∀ base : Heap, (K w.params).In base → base.Ns mainGlobals mg → (∀ p ∈ cs, TabB base mg p.1 p.2) → (∃ mm, base.Ns sysModules mm) → LawOk l.prog w (K w.params) mg base f fd x sp) :
    PySem.W.WalkO q loose XP YP l.row.toRowW d [] (fun f vs => PySem.call f vs) := by
  refine Att.attach_call hn hdf fun w s₀ z mg mb f o pm cd doc a vs ns G Y ho hd hcd hmg hobj hi hlen hg => ?_
  obtain ⟨fd, cs, sp, T, hb, hsp, hF⟩ := F w mg f _ _ _ _ (hY w _ Y) G.T hmg
  exact call_law (hY w _ Y) G.T.g G.T.b G.T.builtins G.T.nolimit (let ⟨mm, q, _⟩ := (G.T.seer hi0).mods; ⟨mm, q⟩) hg T G.T.bmain hobj hi (Nat.le_trans hlen hn2) hF hb fun H h1 h2 => hsp H a ns hlen h1 h2
end Ey
set_option maxHeartbeats 2000000
namespace PySem.W
open PySem PySem.Calls PyProof.Rows PyProof.V PySem.Spec Builtin
section
variable {prog : Program} {w : World} {A : Around} {E : Value → Shared → Prop} {s : Shared} {T : String} {r d : Addr} {n : Nat} {P : Nat → Value → Prop} {OK : Heap → Prop}
/-- what a source yields, collected -/
theorem ey_collect {Q : List Value → Shared → Prop} (K : KdlSrc prog w T r d n P OK) (hh : A.handled = none) (hok : OK s.heap) (hn : n ≤ sizeLine)
    (hQ : ∀ h' tk (acc : Array Value), (∀ b o, s.heap.get? b = some o → h'.get? b = some o) → ItemsOf P acc n → Q acc.toList { s with heap := h', toks := tk }) :
    wpAny (model prog w) A (collect (.ref r)) Q E s := by
  unfold collect
  refine wpAny_bind (wpAny_runValue (codeAny_builtin PySem.F.entry_proto_collect ?_))
  rw [Around.under_plainId PySem.F.plain_proto_collect _]
  show wpAny _ A.in1 (newList [] >>= fun l => again (.builtin "list.__iadd__" ⟨[l, .ref r], []⟩)) _ _ s
  refine wpAny_bind (wpAny_newObj_type (wpAny_pure ⟨plainId_quiet PySem.F.plain_list_iadd _, codeAny_builtin PySem.F.entry_list_iadd ?_⟩))
  rw [Around.under_plainId PySem.F.plain_list_iadd _]
  show wpAny _ A.in1 (Builtin.List.listExtendWith (.ref s.heap.objs.size) (.ref r) (.ref s.heap.objs.size)) _ _ _
  have at0 : (s.heap.push { cls := .type "list", data := .seq ([] : List Value).toArray }).get? s.heap.objs.size = some { cls := .type "list", data := .seq #[] 0 } := Heap.get?_push_size _ rfl
  have lt := K.there _ hok
  have ok1 : OK (s.heap.push { cls := .type "list", data := .seq ([] : List Value).toArray }) := K.keep _ _ hok fun b _ o e => Heap.get?_push_of_some _ e
  have fin : ∀ (h' : Heap) (tk : Nat) (acc : Array Value) (c : Nat), (∀ b o, s.heap.get? b = some o → h'.get? b = some o) → h'.get? s.heap.objs.size = some { cls := .type "list", dict := none, data := .seq acc c, slots := #[] } → ItemsOf P acc n →
      wpAny (model prog w) A (match Value.ref s.heap.objs.size with
      | Value.ref a => do
        match (← load a).data with
          | Data.seq xs _ => pure xs.toList
          | _ => unsupported "internal:collect"
      | _ => unsupported "internal:collect") Q E { s with heap := h', toks := tk } := fun h' tk acc c hk at1 it => by
    show wpAny _ A (load s.heap.objs.size >>= _) _ _ _
    exact wpAny_bind (wpAny_load at1 (wpAny_pure (hQ h' tk acc hk it)))
  refine wpAny_mono (kdl_extend (A := A) (s := { s with heap := s.heap.push { cls := .type "list", data := .seq ([] : List Value).toArray } })
    (R := fun q s' => q = .ok (.ret (.ref s.heap.objs.size)) ∧ ∃ (h' : Heap) (tk : Nat) (acc : Array Value) (c : Nat), s' = { s with heap := h', toks := tk } ∧ (∀ b o, s.heap.get? b = some o → h'.get? b = some o) ∧ h'.get? s.heap.objs.size = some { cls := .type "list", dict := none, data := .seq acc c, slots := #[] } ∧ ItemsOf P acc n)
    K hh ok1 s.heap.objs.size (Nat.ne_of_gt lt.1) (Nat.ne_of_gt lt.2) (.ref s.heap.objs.size) 0 at0 (fun h' tk acc c hk at1 it => ⟨rfl, h', tk, acc, c, rfl, fun b o e => hk b o (Nat.ne_of_lt (Heap.lt_size e)) (Heap.get?_push_of_some _ e), at1, it⟩) hn) (fun q s' h => ?_) (fun e s' h => ?_)
  · cases q with
    | done f =>
      obtain ⟨e, h', tk, acc, c, rfl, hk, at1, it⟩ := h
      cases e
      exact fin h' tk acc c hk at1 it
    | again c' =>
      refine ⟨h.1, codeAny_mono h.2 fun q s2 hq => ?_⟩
      obtain ⟨rfl, h', tk, acc, c, rfl, hk, at1, it⟩ := hq
      exact fin h' tk acc c hk at1 it
  · exact absurd h.1 (by simp)
/-- tuple(of it) -/
theorem ey_tuple_new {Q₁ : Value → Shared → Prop} (K : KdlSrc prog w "dict" r d n P OK) (hh : A.handled = none) (hok : OK s.heap) (hn : n ≤ sizeLine)
    (h : ∀ (h' : Heap) (tk : Nat) (acc : Array Value), (∀ b o, s.heap.get? b = some o → h'.get? b = some o) → ItemsOf P acc n → Q₁ (.ref h'.objs.size) { s with heap := h'.push { cls := .type "tuple", data := .seq acc }, toks := tk }) :
    codeAny (model prog w) A (.call (.builtin "tuple.__new__") ⟨[.type "tuple", .ref r], []⟩) (wants Q₁ E) s := by
  refine codeAny_of_tree ?_
  show wpAny _ A.in1 (do checkBuiltinCall "tuple.__new__" ⟨[.type "tuple", .ref r], []⟩; again (.builtin "tuple.__new__" ⟨[.type "tuple", .ref r], []⟩)) _ _ s
  refine wpAny_bind (wpAny_of_eq (PySem.F.newCall_tuple_1 _) (wpAny_pure ⟨plainId_quiet PySem.F.plain_tuple_new _, codeAny_builtin PySem.F.entry_tuple_new ?_⟩))
  rw [Around.under_plainId PySem.F.plain_tuple_new _]
  have sub1 := sub_tuple_self
  have init1 := init_tuple_lookup
  have made1 := madeHere_tuple
  have ty1 := K.type s hok
  wp_walk using wpAny_typeOf ty1, ey_collect (A := A.in1) K hh hok hn
  intro h' tk acc hk it
  show wpAny _ _ (Builtin.Tuple.tupleExact acc.toList.toArray >>= fun v => ret v) _ _ _
  unfold Builtin.Tuple.tupleExact
  refine wpAny_bind (wpAny_newObj_type ?_ (by show acc.toList.toArray.size ≤ sizeLine; rw [Array.toArray_toList, it.1]; exact hn))
  refine wpAny_pure ?_
  rw [Array.toArray_toList]
  exact h h' tk acc hk it
theorem ey_tuple {Q : Value → Shared → Prop} (K : KdlSrc prog w "dict" r d n P OK) (hh : A.handled = none) (hok : OK s.heap) (hn : n ≤ sizeLine)
    (h : ∀ (h' : Heap) (tk : Nat) (acc : Array Value), (∀ b o, s.heap.get? b = some o → h'.get? b = some o) → ItemsOf P acc n → Q (.ref h'.objs.size) { s with heap := h'.push { cls := .type "tuple", data := .seq acc }, toks := tk }) :
    wpAny (model prog w) A (call (.type "tuple") [.ref r]) Q E s := by
  refine callType_codes (Q₁ := fun o z => z.TypeIs o "tuple" ∧ Q o z) PySem.F.called_tuple (PySem.F.typeCall_tuple_1 _) PySem.F.entry_object_init
    (ey_tuple_new (A := A.in1) K hh hok hn fun h' tk acc hk it => ⟨⟨_, Heap.get?_push_size _ rfl, rfl⟩, h h' tk acc hk it⟩) fun o z hz => ?_
  exact ⟨hz.1, PySem.F.args_object_init_2 o _, object_init_meets PySem.F.called_tuple.init.lookup PySem.F.called_tuple.made (by decide) prog w A.in1 _ z ⟨hz.1, rfl, hz.2⟩⟩
end
end PySem.W
namespace Ey
open PySem PySem.Spec PyProof.Rows L2
/-- tuple(d), d a dict: its keys -/
def rTupD : List V → Hp → VK → Prop := fun xs H Q => ∃ p kvs, xs = [.ref p] ∧ H p = some (.dK kvs) ∧ ∀ q, H q = none → Q (.ref q) (upd H q (.tup (kvs.map fun kv => kV kv.1)))
theorem call_tupD {X : Cx} (hc : X.calm = true) : CallR X (.type "tuple") rTupD := by
  intro pins s σ H xs us Q I r h
  obtain ⟨p, kvs, rfl, hk, q⟩ := h
  obtain ⟨u, rfl, rx⟩ := vals1 r
  obtain rfl : u = Value.ref p := rx
  obtain ⟨z, lo, vs, rk, hd⟩ := (show ObjOk X.prog X.w H s.heap p (.dK kvs) from I.hok p _ hk)
  obtain ⟨ep, at0⟩ := hd.dictAt
  have nl : kvs.length = vs.length := Paired.length rk
  refine PySem.W.ey_tuple (PySem.W.kdl_dict (knd := mixKind X.prog X.w) (kvs := vs) (ep := ep) lo) (I.ok.hd hc) at0 (by rw [← nl]; exact z) fun h' tk acc keep it => ?_
  have I1 : Inv X pins σ H { s with heap := h', toks := tk } := I.kept keep
  refine ⟨.ref h'.objs.size, upd H h'.objs.size (.tup (kvs.map fun kv => kV kv.1)), I1.laid (t' := tk) (fun b o e => Heap.get?_push_of_some _ e) (Nat.le_refl _) (show ObjOk X.prog X.w _ _ _ (.tup _) from ⟨?_, acc.toList, ?_, ?_⟩), rfl, q _ (I1.hok.fresh (Nat.le_refl _))⟩
  · rw [List.length_map]
    exact z
  · have nA : acc.toList.length = acc.size := by simp
    refine vals_of_at (by rw [List.length_map, nA, it.1, nl]) fun j x v h1 h2 => ?_
    obtain ⟨k, y, e, ki⟩ := it.2 j v (by rw [← Array.getElem?_toList]; exact h2)
    have e1 : (kvs.map (·.1))[j]? = some k := by
      rw [KV.keys rk, List.getElem?_map, e]
      rfl
    rw [List.getElem?_map] at h1 e1
    cases g : kvs[j]? with
    | none =>
      rw [g] at e1
      cases e1
    | some kv =>
      rw [g] at e1 h1
      injection e1 with e1
      injection h1 with h1
      have e2 : kv.1 = k := e1
      rw [← h1]
      show L2.RelV (kV kv.1) v
      rw [e2]
      exact keyIs_rel ki
  · have := IsTup.new h' acc
    rw [Array.toArray_toList]
    exact this
end Ey
/-! Trees, places: the mathematics. -/
namespace Ey
open PySem PySem.Spec PyProof.Rows
/-! ### texts as lists of signs -/
def st (p : List Nat) : Str := ⟨p.toArray⟩
theorem st_inj {p q : List Nat} (h : st p = st q) : p = q := by
  have h2 : p.toArray = q.toArray := congrArg Str.cps h
  simpa using h2
theorem st_app (p q : List Nat) : st p ++ st q = st (p ++ q) := by
  show (⟨p.toArray ++ q.toArray⟩ : Str) = ⟨(p ++ q).toArray⟩
  rw [List.append_toArray]
theorem st_len (p : List Nat) : (st p).length = p.length := rfl
theorem st_list (p : List Nat) : (st p).cps.toList = p := rfl
theorem st_of (x : Str) : x = st x.cps.toList := by
  cases x
  rfl
theorem st_ne {p q : List Nat} (h : p ≠ q) : st p ≠ st q := fun e => h (st_inj e)
/-! ### trees -/
inductive Tr where
  | nil
  | nd (tag : Str) (l r : Tr)
def abc : List Nat := [97, 98, 99, 100, 101, 102, 103, 104, 105, 106, 107, 108, 109, 110, 111, 112, 113, 114, 115, 116, 117, 118, 119, 120, 121, 122]
def isTag (x : Str) : Bool := decide (1 ≤ x.length) && decide (x.length ≤ 8) && x.cps.toList.all fun c => decide (c ∈ abc)
def Tr.ok : Tr → Prop
  | .nil => True
  | .nd g l r => isTag g = true ∧ l.ok ∧ r.ok
def Tr.sz : Tr → Nat
  | .nil => 0
  | .nd _ l r => l.sz + r.sz + 1
def Tr.ht : Tr → Nat
  | .nil => 0
  | .nd _ l r => max l.ht r.ht + 1
def Tr.full : Tr → Bool
  | .nil => false
  | .nd _ _ _ => true
def pl : Tr → List (List Nat)
  | .nil => [[]]
  | .nd _ l r => [] :: ((pl l).map (108 :: ·) ++ (pl r).map (114 :: ·))
def pt : Tr → List Nat → Tr
  | t, [] => t
  | .nil, _ :: _ => .nil
  | .nd _ l r, c :: p => if c = 108 then pt l p else pt r p
def isP : Tr → List Nat → Bool
  | _, [] => true
  | .nil, _ :: _ => false
  | .nd _ l r, c :: p => if c = 108 then isP l p else if c = 114 then isP r p else false
theorem pt_nil (t : Tr) : pt t [] = t := by cases t <;> rfl
theorem isP_nil (t : Tr) : isP t [] = true := by cases t <;> rfl
theorem isP_iff : ∀ (t : Tr) (p : List Nat), isP t p = true ↔ p ∈ pl t
  | .nil, [] => by simp [pl, isP]
  | .nil, c :: p => by simp [pl, isP]
  | .nd g l r, [] => by simp [pl, isP]
  | .nd g l r, c :: p => by
    have il := isP_iff l p
    have ir := isP_iff r p
    have e : (c :: p) ∈ pl (.nd g l r) ↔ (c = 108 ∧ p ∈ pl l) ∨ (c = 114 ∧ p ∈ pl r) := by
      simp only [pl, List.mem_cons, List.mem_append, List.mem_map, reduceCtorEq, false_or]
      constructor
      · rintro (⟨q, hq, e⟩ | ⟨q, hq, e⟩)
        · cases e
          exact .inl ⟨rfl, hq⟩
        · cases e
          exact .inr ⟨rfl, hq⟩
      · rintro (⟨rfl, h⟩ | ⟨rfl, h⟩)
        · exact .inl ⟨p, h, rfl⟩
        · exact .inr ⟨p, h, rfl⟩
    rw [e, ← il, ← ir]
    show (if c = 108 then isP l p else if c = 114 then isP r p else false) = true ↔ _
    by_cases h1 : c = 108
    · subst h1
      simp
    · by_cases h2 : c = 114
      · subst h2
        simp
      · simp [h1, h2]
theorem pl_len : ∀ t : Tr, (pl t).length = 2 * t.sz + 1
  | .nil => rfl
  | .nd g l r => by
    simp only [pl, List.length_cons, List.length_append, List.length_map, pl_len l, pl_len r, Tr.sz]
    omega
theorem pl_ht : ∀ (t : Tr) (p : List Nat), p ∈ pl t → p.length ≤ t.ht
  | .nil, p, h => by
    simp only [pl, List.mem_singleton] at h
    subst h
    exact Nat.zero_le _
  | .nd g l r, p, h => by
    simp only [pl, List.mem_cons, List.mem_append, List.mem_map] at h
    rcases h with rfl | ⟨q, hq, rfl⟩ | ⟨q, hq, rfl⟩
    · exact Nat.zero_le _
    · have := pl_ht l q hq
      simp only [List.length_cons, Tr.ht]
      omega
    · have := pl_ht r q hq
      simp only [List.length_cons, Tr.ht]
      omega
theorem ht_sz : ∀ t : Tr, t.ht ≤ t.sz
  | .nil => Nat.le_refl _
  | .nd g l r => by
    have a := ht_sz l
    have b := ht_sz r
    simp only [Tr.ht, Tr.sz]
    omega
theorem pl_ne (t : Tr) : pl t ≠ [] := by cases t <;> simp [pl]
theorem pl_head (t : Tr) : (pl t)[0]? = some [] := by cases t <;> rfl
theorem pl_signs : ∀ (t : Tr) (p : List Nat), p ∈ pl t → ∀ c ∈ p, c = 108 ∨ c = 114
  | .nil, p, h => by
    simp only [pl, List.mem_singleton] at h
    subst h
    exact fun c hc => absurd hc List.not_mem_nil
  | .nd g l r, p, h => by
    simp only [pl, List.mem_cons, List.mem_append, List.mem_map] at h
    rcases h with rfl | ⟨q, hq, rfl⟩ | ⟨q, hq, rfl⟩
    · exact fun c hc => absurd hc List.not_mem_nil
    · intro c hc
      rcases List.mem_cons.mp hc with e | e
      · exact .inl e
      · exact pl_signs l q hq c e
    · intro c hc
      rcases List.mem_cons.mp hc with e | e
      · exact .inr e
      · exact pl_signs r q hq c e
/-! ### the order -/
def ltL (a b : List Nat) : Prop := ltCps a b = true
theorem ltL_cons {c : Nat} {a b : List Nat} : ltL (c :: a) (c :: b) ↔ ltL a b := by simp [ltL, ltCps]
theorem ltL_nil {c : Nat} {a : List Nat} : ltL [] (c :: a) := rfl
theorem ltL_lt {c d : Nat} {a b : List Nat} (h : c < d) : ltL (c :: a) (d :: b) := by simp [ltL, ltCps, h]
theorem ltL_irr : ∀ a : List Nat, ¬ ltL a a
  | [] => by simp [ltL, ltCps]
  | c :: a => by
    rw [ltL_cons]
    exact ltL_irr a
theorem ltL_trans : ∀ {a b c : List Nat}, ltL a b → ltL b c → ltL a c
  | [], [], _, h, _ => absurd h (ltL_irr [])
  | [], _ :: _, [], _, h => by simp [ltL, ltCps] at h
  | [], _ :: _, _ :: _, _, _ => rfl
  | _ :: _, [], _, h, _ => by simp [ltL, ltCps] at h
  | _ :: _, _ :: _, [], _, h => by simp [ltL, ltCps] at h
  | x :: a, y :: b, z :: c, h1, h2 => by
    simp only [ltL, ltCps, Bool.or_eq_true, decide_eq_true_eq, Bool.and_eq_true, beq_iff_eq] at h1 h2 ⊢
    rcases h1 with h1 | ⟨rfl, h1⟩
    · rcases h2 with h2 | ⟨rfl, h2⟩
      · exact .inl (Nat.lt_trans h1 h2)
      · exact .inl h1
    · rcases h2 with h2 | ⟨rfl, h2⟩
      · exact .inl h2
      · exact .inr ⟨rfl, ltL_trans h1 h2⟩
theorem ltL_tri : ∀ a b : List Nat, ltL a b ∨ a = b ∨ ltL b a
  | [], [] => .inr (.inl rfl)
  | [], _ :: _ => .inl rfl
  | _ :: _, [] => .inr (.inr rfl)
  | x :: a, y :: b => by
    rcases Nat.lt_trichotomy x y with h | rfl | h
    · exact .inl (ltL_lt h)
    · rcases ltL_tri a b with h | rfl | h
      · exact .inl (ltL_cons.mpr h)
      · exact .inr (.inl rfl)
      · exact .inr (.inr (ltL_cons.mpr h))
    · exact .inr (.inr (ltL_lt h))
theorem pl_up : ∀ t : Tr, (pl t).Pairwise ltL
  | .nil => by simp [pl]
  | .nd g l r => by
    simp only [pl, List.pairwise_cons, List.pairwise_append, List.pairwise_map]
    refine ⟨fun p hp => ?_, (pl_up l).imp fun h => ltL_cons.mpr h, (pl_up r).imp fun h => ltL_cons.mpr h, fun a ha b hb => ?_⟩
    · simp only [List.mem_append, List.mem_map] at hp
      rcases hp with ⟨q, _, rfl⟩ | ⟨q, _, rfl⟩
      · exact rfl
      · exact rfl
    · simp only [List.mem_map] at ha hb
      obtain ⟨p, _, rfl⟩ := ha
      obtain ⟨q, _, rfl⟩ := hb
      exact ltL_lt (by decide)
theorem pl_nodup (t : Tr) : (pl t).Nodup := (pl_up t).imp fun {a b} h e => by
  subst e
  exact ltL_irr _ h
/-- what sorted hands back, of texts that are all unlike -/
theorem rising_pw : ∀ (l : List Str) (p : Str), risingS p l = true → (p :: l).Pairwise fun a b => ¬ ltL b.cps.toList a.cps.toList
  | [], p, _ => by simp
  | x :: r, p, h => by
    simp only [risingS, Bool.and_eq_true, Bool.not_eq_true'] at h
    have ih := rising_pw r x h.2
    have h1 : ¬ ltL x.cps.toList p.cps.toList := by
      intro e
      rw [ltL, h.1] at e
      cases e
    rw [List.pairwise_cons]
    refine ⟨fun y hy => ?_, ih⟩
    rcases List.mem_cons.mp hy with rfl | hy
    · exact h1
    · have h2 := (List.pairwise_cons.mp ih).1 y hy
      intro e
      rcases ltL_tri x.cps.toList p.cps.toList with q | q | q
      · exact h1 q
      · rw [← q] at e
        exact h2 e
      · exact h2 (ltL_trans e q)
theorem sorted_is {l : List Str} {ps : List (List Nat)} (h : l.Perm (ps.map st)) (hs : sortedS l = true) (hp : ps.Pairwise ltL) : l = ps.map st := by
  have pw : l.Pairwise fun a b => ¬ ltL b.cps.toList a.cps.toList := by
    cases l with
    | nil => simp
    | cons x r => exact rising_pw r x hs
  have pw2 : (ps.map st).Pairwise fun a b => ¬ ltL b.cps.toList a.cps.toList := by
    rw [List.pairwise_map]
    exact hp.imp fun {a b} h e => ltL_irr _ (ltL_trans h e)
  refine List.Perm.eq_of_pairwise (fun a b _ _ h1 h2 => ?_) pw pw2 h
  rcases ltL_tri a.cps.toList b.cps.toList with q | q | q
  · exact absurd q h2
  · rw [st_of a, st_of b, q]
  · exact absurd q h1
/-! ### the next place -/
def stripR (p : List Nat) : List Nat := (p.reverse.dropWhile fun c => c == 114).reverse
def nxt (full : Bool) (p : List Nat) : Option (List Nat) :=
  if full = true then some (p ++ [108]) else if stripR p = [] then none else some ((stripR p).dropLast ++ [114])
theorem dropWhile_snoc (f : Nat → Bool) (a : List Nat) (c : Nat) : (a ++ [c]).dropWhile f = if a.dropWhile f = [] then [c].dropWhile f else a.dropWhile f ++ [c] := by
  induction a with
  | nil => simp
  | cons x a ih =>
    rw [List.cons_append]
    by_cases h : f x = true
    · rw [List.dropWhile_cons_of_pos h, List.dropWhile_cons_of_pos h]
      exact ih
    · rw [List.dropWhile_cons_of_neg h, List.dropWhile_cons_of_neg h]
      simp
theorem stripR_cons (c : Nat) (p : List Nat) : stripR (c :: p) = if stripR p = [] then (if c = 114 then [] else [c]) else c :: stripR p := by
  unfold stripR
  rw [List.reverse_cons, dropWhile_snoc]
  by_cases h : (p.reverse.dropWhile fun c => c == 114) = []
  · rw [if_pos h, if_pos (by rw [h]; rfl)]
    by_cases hc : c = 114
    · simp [hc]
    · simp [hc]
  · rw [if_neg h, if_neg (by rw [List.reverse_eq_nil_iff]; exact h)]
    simp
theorem nxt_cons {f : Bool} {c : Nat} {p q : List Nat} (h : nxt f p = some q) : nxt f (c :: p) = some (c :: q) := by
  unfold nxt at h ⊢
  by_cases hf : f = true
  · rw [if_pos hf] at h ⊢
    cases h
    rfl
  · rw [if_neg hf] at h ⊢
    by_cases hp : stripR p = []
    · rw [if_pos hp] at h
      cases h
    · rw [if_neg hp] at h
      injection h with h
      have e : stripR (c :: p) = c :: stripR p := by rw [stripR_cons, if_neg hp]
      rw [e, if_neg (by simp), ← h, List.dropLast_cons_of_ne_nil hp]
      rfl
theorem nxt_last {f : Bool} {p : List Nat} (h : nxt f p = none) : nxt f (108 :: p) = some [114] ∧ nxt f (114 :: p) = none := by
  unfold nxt at h ⊢
  by_cases hf : f = true
  · rw [if_pos hf] at h
    cases h
  · rw [if_neg hf] at h
    by_cases hp : stripR p = []
    · rw [if_neg hf, if_neg hf, stripR_cons, stripR_cons, if_pos hp, if_pos hp]
      simp
    · rw [if_neg hp] at h
      cases h
theorem nxt_pl : ∀ (t : Tr) (i : Nat) (p : List Nat), (pl t)[i]? = some p → nxt (pt t p).full p = (pl t)[i + 1]?
  | .nil, i, p, h => by
    cases i with
    | zero =>
      cases h
      rfl
    | succ i => simp [pl] at h
  | .nd g l r, i, p, h => by
    cases i with
    | zero =>
      have e : p = [] := by
        simp only [pl, List.getElem?_cons_zero] at h
        exact (Option.some.inj h).symm
      subst e
      have e2 : (pl (.nd g l r))[0 + 1]? = some [108] := by
        have hl := pl_head l
        simp only [pl, List.getElem?_cons_succ]
        rw [List.getElem?_append_left (by rw [List.length_map]; exact List.length_pos_iff.mpr (pl_ne l)), List.getElem?_map, hl]
        rfl
      rw [e2]
      rfl
    | succ i =>
      simp only [pl, List.getElem?_cons_succ] at h ⊢
      by_cases hi : i < (pl l).length
      · rw [List.getElem?_append_left (by rw [List.length_map]; exact hi), List.getElem?_map] at h
        obtain ⟨q, hq, rfl⟩ := Option.map_eq_some_iff.mp h
        have ih := nxt_pl l i q hq
        have ef : pt (.nd g l r) (108 :: q) = pt l q := by show (if 108 = 108 then _ else _) = _; rw [if_pos rfl]
        rw [ef]
        by_cases hn : i + 1 < (pl l).length
        · rw [List.getElem?_append_left (by rw [List.length_map]; exact hn), List.getElem?_map]
          rw [List.getElem?_eq_getElem hn] at ih ⊢
          exact nxt_cons ih
        · have en : i + 1 = (pl l).length := by omega
          rw [List.getElem?_eq_none (by omega)] at ih
          rw [List.getElem?_append_right (by rw [List.length_map]; omega), List.length_map, en, Nat.sub_self, List.getElem?_map, pl_head r]
          exact (nxt_last ih).1
      · rw [List.getElem?_append_right (by rw [List.length_map]; omega), List.length_map, List.getElem?_map] at h
        obtain ⟨q, hq, rfl⟩ := Option.map_eq_some_iff.mp h
        have ih := nxt_pl r (i - (pl l).length) q hq
        have ef : pt (.nd g l r) (114 :: q) = pt r q := by show (if 114 = 108 then _ else _) = _; rw [if_neg (by decide)]
        rw [ef, List.getElem?_append_right (by rw [List.length_map]; omega), List.length_map, List.getElem?_map]
        have en : i + 1 - (pl l).length = i - (pl l).length + 1 := by omega
        rw [en]
        cases hr : (pl r)[i - (pl l).length + 1]? with
        | none =>
          rw [hr] at ih
          exact (nxt_last ih).2
        | some z =>
          rw [hr] at ih
          exact nxt_cons ih
/-! ### the places below a place -/
theorem below : ∀ (t : Tr) (p : List Nat), isP t p = true → (pl t).filter (fun q => decide (q.take p.length = p)) = (pl (pt t p)).map (p ++ ·)
  | t, [], _ => by
    rw [pt_nil]
    simp
  | .nil, c :: p, h => by cases h
  | .nd g l r, c :: p, h => by
    simp only [pl, List.filter_cons, List.filter_append, List.filter_map]
    have e0 : decide (([] : List Nat).take (c :: p).length = c :: p) = false := by simp
    rw [if_neg (by rw [e0]; exact Bool.false_ne_true)]
    by_cases h1 : c = 108
    · subst h1
      have hp : isP l p = true := h
      have ih := below l p hp
      have ea : ((fun q => decide (q.take (108 :: p).length = 108 :: p)) ∘ (108 :: ·)) = fun q : List Nat => decide (q.take p.length = p) := by
        funext q
        simp
      have eb : (pl r).filter ((fun q => decide (q.take (108 :: p).length = 108 :: p)) ∘ (114 :: ·)) = [] := by
        rw [List.filter_eq_nil_iff]
        intro q _
        simp
      rw [ea, eb, ih]
      show _ = (pl (if 108 = 108 then pt l p else pt r p)).map _
      rw [if_pos rfl]
      simp
    · by_cases h2 : c = 114
      · subst h2
        have hp : isP r p = true := h
        have ih := below r p hp
        have ea : ((fun q => decide (q.take (114 :: p).length = 114 :: p)) ∘ (114 :: ·)) = fun q : List Nat => decide (q.take p.length = p) := by
          funext q
          simp
        have eb : (pl l).filter ((fun q => decide (q.take (114 :: p).length = 114 :: p)) ∘ (108 :: ·)) = [] := by
          rw [List.filter_eq_nil_iff]
          intro q _
          simp
        rw [ea, eb, ih]
        show _ = (pl (if 114 = 108 then pt l p else pt r p)).map _
        rw [if_neg (by decide)]
        simp
      · have : isP (.nd g l r) (c :: p) = false := by
          show (if c = 108 then isP l p else if c = 114 then isP r p else false) = false
          rw [if_neg h1, if_neg h2]
        rw [this] at h
        cases h
end Ey
namespace Ey
open PySem PySem.Spec L2
theorem dw_drop (f : Nat → Bool) : ∀ l : List Nat, l.dropWhile f = l.drop (l.takeWhile f).length
  | [] => rfl
  | a :: l => by
    cases h : f a
    · simp [List.dropWhile_cons, List.takeWhile_cons, h]
    · simp [List.dropWhile_cons, List.takeWhile_cons, h, dw_drop f l]
theorem stripR_take (p : List Nat) : stripR p = p.take (p.length - (p.reverse.takeWhile fun c => c == 114).length) := by
  have hle : (p.reverse.takeWhile fun c => c == 114).length ≤ p.length := by
    have := (List.takeWhile_sublist (fun c => c == 114) (l := p.reverse)).length_le
    rwa [List.length_reverse] at this
  unfold stripR
  rw [dw_drop, ← List.reverse_reverse (p.take _), List.reverse_take]
  have e : p.length - (p.length - (p.reverse.takeWhile fun c => c == 114).length) = (p.reverse.takeWhile fun c => c == 114).length := by omega
  rw [e]
theorem rstrip_st (p : List Nat) : Txt.rstripChars (st p) (st [114]) = st (stripR p) := by
  have e1 : (st [114]).cps.contains = fun c => c == 114 := by
    funext c
    show (#[114] : Array Nat).contains c = (c == 114)
    simp [Array.contains]
  have e3 := stripR_take p
  have lo : stripLo (st [114]).cps.contains false (st p) = 0 := rfl
  have hi : stripHi (st [114]).cps.contains true (st p) 0 = p.length - (p.reverse.takeWhile fun c => c == 114).length := by
    rw [e1]
    rfl
  unfold Txt.rstripChars Txt.stripBy stripSame stripped
  rw [lo, hi]
  have ex : Builtin.Str.strSub (st p) 0 (p.length - (p.reverse.takeWhile fun c => c == 114).length) = st (stripR p) := by
    rw [e3]
    show (⟨p.toArray.extract 0 _⟩ : Str) = ⟨_⟩
    simp
  rw [ex]
  split
  · rename_i h
    simp only [Bool.and_eq_true, beq_iff_eq] at h
    rw [e3, h.2]
    show st p = st (p.take p.length)
    rw [List.take_length]
  · rfl
theorem for_str {x : Str} {g : TG} {tb : TS} {D : Ends} {σ : St} {H : Hp} (Pv : Nat → St → Hp → Prop) (h0 : Pv 0 σ H)
    (hs : ∀ i c σ H, x.cps.toList[i]? = some c → Pv i σ H → g (.str (st [c])) σ H fun σ2 H2 => tb { D with nx := Pv (i + 1), ct := Pv (i + 1), bk := D.nx } σ2 H2)
    (hd : ∀ σ H, Pv x.cps.toList.length σ H → D.nx σ H) :
    ∃ W : Nat → Nat → St → Hp → Prop, (∃ m, W 0 m σ H) ∧ ∀ i m σ H, W i m σ H →
      ((Its x).stop i H ∧ D.nx σ H) ∨ ((Its x).go i H ∧ ∃ N : St → Hp → Prop, (∀ σ' H', N σ' H' → ∃ m', m' < m ∧ W (i + 1) m' σ' H') ∧ ∀ v H', (Its x).yld i H v H' → g v σ H' fun σ2 H2 => tb { D with nx := N, ct := N, bk := D.nx } σ2 H2) := by
  refine ⟨fun i m σ H => m = x.cps.size - i ∧ i ≤ x.cps.size ∧ Pv i σ H, ⟨_, rfl, Nat.zero_le _, h0⟩, fun i m σ H hw => ?_⟩
  obtain ⟨rfl, hi, p⟩ := hw
  by_cases lt : i < x.cps.size
  · refine .inr ⟨lt, Pv (i + 1), fun σ' H' p' => ⟨x.cps.size - (i + 1), by omega, rfl, lt, p'⟩, fun v H' y => ?_⟩
    obtain ⟨rfl, c, hc, rfl⟩ := y
    exact hs i c σ _ (by rw [Array.getElem?_toList]; exact hc) p
  · have e : i = x.cps.size := by omega
    subst e
    exact .inl ⟨Nat.le_refl _, hd σ H (by rw [Array.length_toList]; exact p)⟩
end Ey
namespace Ey
open PySem PySem.Spec L2
/-! ### heaps -/
/-- all that was tracked is as it was, but what stands at ms; tuples never change -/
structure Kp (ms : List Addr) (H H' : Hp) : Prop where
  at_ : ∀ b o, H b = some o → b ∉ ms → H' b = some o
  tup : ∀ b xs, H b = some (.tup xs) → H' b = some (.tup xs)
section
variable {ms : List Addr} {H H' H1 H2 : Hp}
theorem Kp.refl : Kp ms H H := ⟨fun _ _ e _ => e, fun _ _ e => e⟩
theorem Kp.trans (a : Kp ms H H1) (b : Kp ms H1 H2) : Kp ms H H2 := ⟨fun c o e n => b.at_ c o (a.at_ c o e n) n, fun c xs e => b.tup c xs (a.tup c xs e)⟩
theorem Kp.more {ms' : List Addr} (a : Kp ms H H1) (h : ∀ x ∈ ms, x ∈ ms') : Kp ms' H H1 := ⟨fun c o e n => a.at_ c o e fun q => n (h c q), a.tup⟩
theorem Kp.new {p : Addr} {o : HO} (h : H p = none) : Kp ms H (upd H p o) :=
  ⟨fun c u e _ => by rw [upd_ne (ne_of_none e h)]; exact e, fun c xs e => by rw [upd_ne (ne_of_none e h)]; exact e⟩
theorem Kp.put {p : Addr} {o u : HO} (hm : p ∈ ms) (h : H p = some u) (nt : ∀ xs, u ≠ .tup xs) : Kp ms H (upd H p o) := by
  refine ⟨fun c v e n => ?_, fun c xs e => ?_⟩
  · rw [upd_ne (fun q => n (by rw [q]; exact hm))]
    exact e
  · rw [upd_ne (fun q => ?_)]
    · exact e
    · rw [q, h] at e
      exact nt xs (Option.some.inj e)
theorem Kp.same (s : Same H H1) : Kp ms H H1 := ⟨fun c o e _ => s c o e, fun c xs e => s c _ e⟩
theorem Kp.free (a : Kp ms H H1) {p : Addr} (h : H1 p = none) (n : p ∉ ms) : H p = none := by
  cases q : H p with
  | none => rfl
  | some o =>
    rw [a.at_ p o q n] at h
    cases h
theorem Kp.lst {K : PySem.W.Frag} {a : Addr} {xs : List V} (k : Kp ms H H1) (n : a ∉ ms) (h : SqL K H a xs) : SqL K H1 a xs := by
  rcases h with (h | ⟨o, h⟩) | h
  · exact .inl (.inl (k.at_ _ _ h n))
  · exact .inl (.inr ⟨o, k.at_ _ _ h n⟩)
  · exact .inr h
end
/-! ### trees in the heap -/
inductive TreeAt (H : Hp) : V → Tr → Prop where
  | nil : TreeAt H .non .nil
  | nd {a : Addr} {g : Str} {l r : Tr} {v w : V} : H a = some (.tup [.str g, v, w]) → TreeAt H v l → TreeAt H w r → TreeAt H (.ref a) (.nd g l r)
theorem TreeAt.kp {ms : List Addr} {H H1 : Hp} {v : V} {t : Tr} (k : Kp ms H H1) (h : TreeAt H v t) : TreeAt H1 v t := by
  induction h with
  | nil => exact .nil
  | nd e _ _ ih1 ih2 => exact .nd (k.tup _ _ e) ih1 ih2
theorem TreeAt.non {H : Hp} {v : V} {t : Tr} (h : TreeAt H v t) : decide (v = .non) = !t.full := by
  cases h <;> rfl
theorem sqt_of {K : PySem.W.Frag} {H : Hp} {a : Addr} {xs : List V} (h : H a = some (.tup xs)) : SqT K H a xs := .inl (.inl h)
theorem sql_of {K : PySem.W.Frag} {H : Hp} {a : Addr} {xs : List V} (h : H a = some (.lst xs)) : SqL K H a xs := .inl (.inl h)
/-- a tree as data -/
def td : Tr → PyData
  | .nil => .none
  | .nd g l r => .tuple [.str g, td l, td r]
theorem TreeAt.dp {K : PySem.W.Frag} {H : Hp} {v : V} {t : Tr} (h : TreeAt H v t) : Dp K H v (td t) := by
  induction h with
  | nil => exact .non
  | nd e _ _ ih1 ih2 => exact .tup (sqt_of e) (.cons (.str _) (.cons ih1 (.cons ih2 .nil)))
theorem td_show : ∀ t : Tr, (td t).showable = true
  | .nil => rfl
  | .nd g l r => by
    show (true && ((td l).showable && ((td r).showable && true))) = true
    rw [td_show l, td_show r]
    rfl
theorem td_depth : ∀ t : Tr, (td t).depth ≤ 1 + t.ht
  | .nil => by decide
  | .nd g l r => by
    have a := td_depth l
    have b := td_depth r
    simp only [td, PyData.depth, PyData.depthAll, Tr.ht]
    omega
theorem tag_signs {g : Str} (h : isTag g = true) : ∀ c ∈ g.cps.toList, c < 16 ^ 8 := fun c hc => by
  simp only [isTag, Bool.and_eq_true, List.all_eq_true, decide_eq_true_eq] at h
  have := h.2 c hc
  simp only [abc, List.mem_cons, List.not_mem_nil, or_false] at this
  omega
theorem tag_len {g : Str} (h : isTag g = true) : g.length ≤ 8 := by
  simp only [isTag, Bool.and_eq_true, decide_eq_true_eq] at h
  exact h.1.2
theorem len_app (a b : Str) : (a ++ b).length = a.length + b.length := by
  show (a.cps ++ b.cps).size = _
  rw [Array.size_append]
  rfl
theorem td_len : ∀ t : Tr, t.ok → (td t).shown.length ≤ 100 * t.sz + 4
  | .nil, _ => by decide +kernel
  | .nd g l r, h => by
    obtain ⟨hg, hl, hr⟩ := h
    have a := td_len l hl
    have b := td_len r hr
    have c := StrLaws.reprText_len g (tag_signs hg)
    have d := tag_len hg
    have e : (td (.nd g l r)).shown.length ≤ (reprText g).length + (td l).shown.length + (td r).shown.length + 6 := by
      show (tupleText [reprText g, (td l).shown, (td r).shown]).length ≤ _
      unfold tupleText
      rw [len_app, len_app]
      simp only [Str.join, len_app]
      have q1 : (", " : Str).length = 2 := by decide +kernel
      have q2 : ("(" : Str).length = 1 := by decide +kernel
      have q3 : (Str.ofString (if (([reprText g, (td l).shown, (td r).shown] : List Str).length == 1) = true then ",)" else ")")).length = 1 := by
        show (Str.ofString (if ((3 : Nat) == 1) = true then ",)" else ")")).length = 1
        decide +kernel
      rw [q1, q2]
      omega
    simp only [Tr.sz]
    omega
end Ey
set_option maxHeartbeats 4000000
namespace Ey
open PySem PySem.Spec PyProof.Rows L2
/-! ### data: what is a tree, what may be told -/
def isTagD : PyData → Bool
  | .str g => isTag g
  | .none | .bool _ | .int _ | .list _ | .tuple _ | .dict _ => false
def tri : List PyData → List Bool → Bool
  | [x, _, _], [_, b, c] => isTagD x && (b && c)
  | _, _ => false
mutual
def isT : PyData → Bool
  | .none => true
  | .tuple ds => tri ds (isTs ds)
  | .bool _ | .int _ | .str _ | .list _ | .dict _ => false
def isTs : List PyData → List Bool
  | [] => []
  | x :: r => isT x :: isTs r
end
mutual
def fit : PyData → Bool
  | .none | .bool _ => true
  | .int i => decide (i.natAbs < 10 ^ 40)
  | .str x => x.cps.toList.all fun c => decide (c < 1000)
  | .list ds | .tuple ds => fitAll ds
  | .dict kvs => fitKv kvs
def fitAll : List PyData → Bool
  | [] => true
  | x :: r => fit x && fitAll r
def fitKv : List (PyData × PyData) → Bool
  | [] => true
  | (k, v) :: r => (fit k && fit v) && fitKv r
end
mutual
def wd : PyData → Nat
  | .none => 4
  | .bool _ => 5
  | .int _ => 45
  | .str x => 10 * x.length + 2
  | .list ds | .tuple ds => wdAll ds + 3
  | .dict kvs => wdKv kvs + 3
def wdAll : List PyData → Nat
  | [] => 0
  | x :: r => wd x + 2 + wdAll r
def wdKv : List (PyData × PyData) → Nat
  | [] => 0
  | (k, v) :: r => wd k + wd v + 4 + wdKv r
end
theorem nat_len {n : Nat} (h : n < 10 ^ 40) : (Str.ofString (toString (n : Int))).length ≤ 40 := by
  rw [ofString_len]
  show (Nat.repr n).length ≤ 40
  have e : (Nat.repr n).length = (Nat.toDigits 10 n).length := by
    unfold Nat.repr
    simp
  rw [e]
  exact digits10_le (by decide) h
theorem int_ok (i : Int) (h : i.natAbs < 10 ^ 40) : i.natAbs.log2 < 1920 ∧ (PyData.shown (.int i)).length ≤ 45 := by
  refine ⟨?_, ?_⟩
  · by_cases h0 : i.natAbs = 0
    · rw [h0]
      decide
    · rw [Nat.log2_lt h0]
      exact Nat.lt_trans h (by decide +kernel)
  · show (Str.ofString (toString i)).length ≤ 45
    by_cases hn : i < 0
    · rw [len_text_neg hn]
      obtain ⟨n, e⟩ : ∃ n : Nat, 0 - i = (n : Int) := ⟨(0 - i).toNat, by omega⟩
      rw [e]
      have := nat_len (n := n) (by omega)
      omega
    · obtain ⟨n, rfl⟩ : ∃ n : Nat, i = (n : Int) := ⟨i.toNat, by omega⟩
      have := nat_len (n := n) (by simpa using h)
      omega
theorem lenD (ts : List Str) : (listText ts).length ≤ piled ts + 2 := by
  have q1 : ("[" : Str).length = 1 := by decide +kernel
  have q2 : ("]" : Str).length = 1 := by decide +kernel
  unfold listText
  rw [len_app, q2]
  cases ts with
  | nil =>
    show (textFrom 0 "[" []).length + 1 ≤ _
    unfold textFrom
    rw [q1]
    omega
  | cons t r =>
    show (textFrom 1 (("[" : Str) ++ Str.ofString "" ++ t) r).length + 1 ≤ piled (t :: r) + 2
    have e : (Str.ofString "").length = 0 := by decide +kernel
    rw [textFrom_length_pos r 1 _ (by decide), len_app, len_app, q1, e, piled_cons]
    omega
theorem joinD (ts : List Str) : (Str.join ", " ts).length ≤ piled ts := by
  cases ts with
  | nil => exact Nat.zero_le _
  | cons t r =>
    have := join_length_add (t :: r) (by simp)
    omega
theorem lenT (ts : List Str) : (tupleText ts).length ≤ piled ts + 3 := by
  have q1 : ("(" : Str).length = 1 := by decide +kernel
  have q2 : (Str.ofString ",)").length = 2 := by decide +kernel
  have q3 : (Str.ofString ")").length = 1 := by decide +kernel
  have q : (Str.ofString (if (ts.length == 1) = true then ",)" else ")")).length ≤ 2 := by
    split
    · rw [q2]
      exact Nat.le_refl _
    · rw [q3]
      decide
  have := joinD ts
  unfold tupleText
  rw [len_app, len_app, q1]
  omega
theorem lenK (ts : List Str) : (dictText ts).length ≤ piled ts + 3 := by
  have q1 : ("{" : Str).length = 1 := by decide +kernel
  have q2 : ("}" : Str).length = 1 := by decide +kernel
  have := joinD ts
  unfold dictText
  rw [len_app, len_app, q1, q2]
  omega
mutual
theorem fit_told : ∀ d : PyData, fit d = true → d.showable = true ∧ d.shown.length ≤ wd d
  | .none, _ => ⟨rfl, by show ("None" : Str).length ≤ 4; decide +kernel⟩
  | .bool b, _ => ⟨rfl, by
      show (PyData.shown (.bool b)).length ≤ 5
      cases b <;> decide +kernel⟩
  | .int i, h => by
    have a := int_ok i (of_decide_eq_true h)
    exact ⟨decide_eq_true a.1, a.2⟩
  | .str x, h => by
    refine ⟨rfl, StrLaws.reprText_len x fun c hc => ?_⟩
    have h2 : (x.cps.toList.all fun c => decide (c < 1000)) = true := h
    exact Nat.lt_of_lt_of_le (of_decide_eq_true (List.all_eq_true.mp h2 c hc)) (by decide)
  | .list ds, h => by
    obtain ⟨a, b⟩ := fit_tolds ds h
    exact ⟨a, Nat.le_trans (lenD _) (by show piled (PyData.shownAll ds) + 2 ≤ wdAll ds + 3; omega)⟩
  | .tuple ds, h => by
    obtain ⟨a, b⟩ := fit_tolds ds h
    exact ⟨a, Nat.le_trans (lenT _) (by show piled (PyData.shownAll ds) + 3 ≤ wdAll ds + 3; omega)⟩
  | .dict kvs, h => by
    obtain ⟨a, b⟩ := fit_toldKv kvs h
    exact ⟨a, Nat.le_trans (lenK _) (by show piled (PyData.shownKv kvs) + 3 ≤ wdKv kvs + 3; omega)⟩
theorem fit_tolds : ∀ ds : List PyData, fitAll ds = true → PyData.showableAll ds = true ∧ piled (PyData.shownAll ds) ≤ wdAll ds
  | [], _ => ⟨rfl, Nat.le_refl _⟩
  | x :: r, h => by
    have h2 : (fit x && fitAll r) = true := h
    rw [Bool.and_eq_true] at h2
    obtain ⟨a, b⟩ := fit_told x h2.1
    obtain ⟨c, d⟩ := fit_tolds r h2.2
    refine ⟨?_, ?_⟩
    · show (x.showable && PyData.showableAll r) = true
      rw [a, c]
      rfl
    · show piled (x.shown :: PyData.shownAll r) ≤ wd x + 2 + wdAll r
      rw [piled_cons]
      omega
theorem fit_toldKv : ∀ kvs : List (PyData × PyData), fitKv kvs = true → PyData.showableKv kvs = true ∧ piled (PyData.shownKv kvs) ≤ wdKv kvs
  | [], _ => ⟨rfl, Nat.le_refl _⟩
  | (k, v) :: r, h => by
    have h2 : ((fit k && fit v) && fitKv r) = true := h
    rw [Bool.and_eq_true, Bool.and_eq_true] at h2
    obtain ⟨a, b⟩ := fit_told k h2.1.1
    obtain ⟨a2, b2⟩ := fit_told v h2.1.2
    obtain ⟨c, d⟩ := fit_toldKv r h2.2
    refine ⟨?_, ?_⟩
    · show (k.showable && v.showable && PyData.showableKv r) = true
      rw [a, a2, c]
      rfl
    · show piled ((k.shown ++ ": " ++ v.shown) :: PyData.shownKv r) ≤ wd k + wd v + 4 + wdKv r
      have q : (Str.ofString ": ").length = 2 := by decide +kernel
      rw [piled_cons, len_app, len_app, q]
      omega
end
/-! ### trees as data -/
theorem td_isT : ∀ t : Tr, t.ok → isT (td t) = true
  | .nil, _ => rfl
  | .nd g l r, h => by
    show (isTag g && (isT (td l) && isT (td r))) = true
    rw [h.1, td_isT l h.2.1, td_isT r h.2.2]
    rfl
theorem tag_low {g : Str} (h : isTag g = true) : ∀ c ∈ g.cps.toList, c < 1000 := fun c hc => by
  simp only [isTag, Bool.and_eq_true, List.all_eq_true, decide_eq_true_eq] at h
  have := h.2 c hc
  simp only [abc, List.mem_cons, List.not_mem_nil, or_false] at this
  omega
theorem td_fit : ∀ t : Tr, t.ok → fit (td t) = true
  | .nil, _ => rfl
  | .nd g l r, h => by
    have a : (g.cps.toList.all fun c => decide (c < 1000)) = true := List.all_eq_true.mpr fun c hc => decide_eq_true (tag_low h.1 c hc)
    show ((g.cps.toList.all fun c => decide (c < 1000)) && (fit (td l) && (fit (td r) && true))) = true
    rw [a, td_fit l h.2.1, td_fit r h.2.2]
    rfl
theorem td_wd : ∀ t : Tr, t.ok → wd (td t) ≤ 100 * t.sz + 4
  | .nil, _ => Nat.le_refl _
  | .nd g l r, h => by
    have a := td_wd l h.2.1
    have b := td_wd r h.2.2
    have c := tag_len h.1
    show (10 * g.length + 2) + 2 + (wd (td l) + 2 + (wd (td r) + 2 + 0)) + 3 ≤ 100 * (l.sz + r.sz + 1) + 4
    omega
theorem sz_wd : ∀ t : Tr, t.sz ≤ wd (td t)
  | .nil => Nat.zero_le _
  | .nd g l r => by
    have a := sz_wd l
    have b := sz_wd r
    show l.sz + r.sz + 1 ≤ (10 * g.length + 2) + 2 + (wd (td l) + 2 + (wd (td r) + 2 + 0)) + 3
    omega
theorem ht_depth : ∀ t : Tr, t.ht ≤ (td t).depth
  | .nil => Nat.le_refl _
  | .nd g l r => by
    have a := ht_depth l
    have b := ht_depth r
    show max l.ht r.ht + 1 ≤ max 0 (max (td l).depth (max (td r).depth 0)) + 1
    omega
mutual
theorem isT_td : ∀ d : PyData, isT d = true → ∃ t : Tr, t.ok ∧ td t = d
  | .none, _ => ⟨.nil, trivial, rfl⟩
  | .bool _, h => by cases h
  | .int _, h => by cases h
  | .str _, h => by cases h
  | .list _, h => by cases h
  | .dict _, h => by cases h
  | .tuple ds, h => isTs_td ds h
theorem isTs_td : ∀ ds : List PyData, tri ds (isTs ds) = true → ∃ t : Tr, t.ok ∧ td t = .tuple ds
  | [], h => by cases h
  | [_], h => by cases h
  | [_, _], h => by cases h
  | _ :: _ :: _ :: _ :: _, h => by cases h
  | [x, a, b], h => by
    have h2 : (isTagD x && (isT a && isT b)) = true := h
    rw [Bool.and_eq_true, Bool.and_eq_true] at h2
    obtain ⟨l, ol, el⟩ := isT_td a h2.2.1
    obtain ⟨r, or', er⟩ := isT_td b h2.2.2
    cases x with
    | str g => exact ⟨.nd g l r, ⟨h2.1, ol, or'⟩, by rw [td, el, er]⟩
    | none => cases h2.1
    | bool _ => cases h2.1
    | int _ => cases h2.1
    | list _ => cases h2.1
    | tuple _ => cases h2.1
    | dict _ => cases h2.1
end
/-! ### data in the heap, none of its lists and dicts at ms -/
def kD : Key → PyData
  | .inl i => .int i
  | .inr x => .str x
mutual
inductive An (ms : List Addr) (H : Hp) : V → PyData → Prop
  | non : An ms H .non .none
  | bl (b : Bool) : An ms H (.bl b) (.bool b)
  | int (i : Int) : An ms H (.int i) (.int i)
  | str (x : Str) : An ms H (.str x) (.str x)
  | lst {a : Addr} {xs : List V} {ds : List PyData} : H a = some (.lst xs) → a ∉ ms → AnAll ms H xs ds → An ms H (.ref a) (.list ds)
  | tup {a : Addr} {xs : List V} {ds : List PyData} : H a = some (.tup xs) → AnAll ms H xs ds → An ms H (.ref a) (.tuple ds)
  | dct {a : Addr} {kvs : List (Key × V)} {ds : List (PyData × PyData)} : H a = some (.dK kvs) → a ∉ ms → AnKv ms H kvs ds → An ms H (.ref a) (.dict ds)
inductive AnAll (ms : List Addr) (H : Hp) : List V → List PyData → Prop
  | nil : AnAll ms H [] []
  | cons {v : V} {vs : List V} {d : PyData} {ds : List PyData} : An ms H v d → AnAll ms H vs ds → AnAll ms H (v :: vs) (d :: ds)
inductive AnKv (ms : List Addr) (H : Hp) : List (Key × V) → List (PyData × PyData) → Prop
  | nil : AnKv ms H [] []
  | cons {k : Key} {v : V} {kvs : List (Key × V)} {d : PyData} {ds : List (PyData × PyData)} : An ms H v d → AnKv ms H kvs ds → AnKv ms H ((k, v) :: kvs) ((kD k, d) :: ds)
end
section
variable {ms ms' : List Addr} {H H1 : Hp}
mutual
theorem An.kp (k : Kp ms' H H1) (hs : ∀ x ∈ ms', x ∈ ms) : ∀ {v : V} (d : PyData), An ms H v d → An ms H1 v d
  | _, .none, h => by cases h; exact .non
  | _, .bool b, h => by cases h; exact .bl b
  | _, .int i, h => by cases h; exact .int i
  | _, .str x, h => by cases h; exact .str x
  | _, .list ds, h => by
    cases h with
    | lst e n a => exact .lst (k.at_ _ _ e fun q => n (hs _ q)) n (AnAll.kp k hs ds a)
  | _, .tuple ds, h => by
    cases h with
    | tup e a => exact .tup (k.tup _ _ e) (AnAll.kp k hs ds a)
  | _, .dict ds, h => by
    cases h with
    | dct e n a => exact .dct (k.at_ _ _ e fun q => n (hs _ q)) n (AnKv.kp k hs ds a)
theorem AnAll.kp (k : Kp ms' H H1) (hs : ∀ x ∈ ms', x ∈ ms) : ∀ {vs : List V} (ds : List PyData), AnAll ms H vs ds → AnAll ms H1 vs ds
  | _, [], h => by cases h; exact .nil
  | _, d :: r, h => by
    cases h with
    | cons a b => exact .cons (An.kp k hs d a) (AnAll.kp k hs r b)
theorem AnKv.kp (k : Kp ms' H H1) (hs : ∀ x ∈ ms', x ∈ ms) : ∀ {vs : List (Key × V)} (ds : List (PyData × PyData)), AnKv ms H vs ds → AnKv ms H1 vs ds
  | _, [], h => by cases h; exact .nil
  | _, (y, d) :: r, h => by
    cases h with
    | cons a b => exact .cons (An.kp k hs d a) (AnKv.kp k hs r b)
end
theorem TreeAt.an {v : V} {t : Tr} (h : TreeAt H v t) : An ms H v (td t) := by
  induction h with
  | nil => exact .non
  | nd e _ _ ih1 ih2 => exact .tup e (.cons (.str _) (.cons ih1 (.cons ih2 .nil)))
theorem An.tree : ∀ (t : Tr) {v : V}, An ms H v (td t) → TreeAt H v t
  | .nil, _, h => by cases h; exact .nil
  | .nd g l r, _, h => by
    cases h with
    | tup e a =>
      cases a with
      | cons a1 a =>
        cases a1
        cases a with
        | cons a2 a =>
          cases a with
          | cons a3 a =>
            cases a
            exact .nd e (An.tree l a2) (An.tree r a3)
theorem AnAll.append {vs ws : List V} {ds es : List PyData} (h : AnAll ms H vs ds) (g : AnAll ms H ws es) : AnAll ms H (vs ++ ws) (ds ++ es) := by
  induction ds generalizing vs with
  | nil => cases h; exact g
  | cons d r ih =>
    cases h with
    | cons a b => exact .cons a (ih b)
theorem AnAll.length {vs : List V} {ds : List PyData} (h : AnAll ms H vs ds) : vs.length = ds.length := by
  induction ds generalizing vs with
  | nil => cases h; rfl
  | cons d r ih =>
    cases h with
    | cons a b => rw [List.length_cons, List.length_cons, ih b]
theorem AnAll.take {vs : List V} {ds : List PyData} (h : AnAll ms H vs ds) (n : Nat) : AnAll ms H (vs.take n) (ds.take n) := by
  induction ds generalizing vs n with
  | nil =>
    cases h
    rw [List.take_nil, List.take_nil]
    exact .nil
  | cons d r ih =>
    cases h with
    | cons a b =>
      cases n with
      | zero => exact .nil
      | succ n => exact .cons a (ih b n)
theorem AnAll.drop {vs : List V} {ds : List PyData} (h : AnAll ms H vs ds) (n : Nat) : AnAll ms H (vs.drop n) (ds.drop n) := by
  induction ds generalizing vs n with
  | nil =>
    cases h
    rw [List.drop_nil, List.drop_nil]
    exact .nil
  | cons d r ih =>
    cases h with
    | cons a b =>
      cases n with
      | zero => exact .cons a b
      | succ n => exact ih b n
theorem AnAll.rev {vs : List V} {ds : List PyData} (h : AnAll ms H vs ds) : AnAll ms H vs.reverse ds.reverse := by
  induction ds generalizing vs with
  | nil => cases h; exact .nil
  | cons d r ih =>
    cases h with
    | cons a b =>
      rw [List.reverse_cons, List.reverse_cons]
      exact (ih b).append (.cons a .nil)
theorem AnAll.get {vs : List V} {ds : List PyData} (h : AnAll ms H vs ds) {i : Nat} {v : V} (e : vs[i]? = some v) : ∃ d, ds[i]? = some d ∧ An ms H v d := by
  induction ds generalizing vs i with
  | nil => cases h; cases e
  | cons d r ih =>
    cases h with
    | cons a b =>
      cases i with
      | zero =>
        cases e
        exact ⟨d, rfl, a⟩
      | succ i => exact ih b e
/-- all at ms is tracked -/
def Has (ms : List Addr) (H : Hp) : Prop := ∀ b ∈ ms, H b ≠ none
theorem Has.fresh {p : Addr} (h : Has ms H) (n : H p = none) : p ∉ ms := fun q => h p q n
theorem Has.new {p : Addr} {o : HO} (h : Has ms H) : Has ms (upd H p o) := fun b q => by
  by_cases e : b = p
  · rw [e, upd_same]
    exact fun z => nomatch z
  · rw [upd_ne e]
    exact h b q
theorem Has.kp (h : Has ms H) (k : Kp ms' H H1) (hs : ∀ b ∈ ms', H1 b ≠ none) : Has ms H1 := fun b q => by
  by_cases m : b ∈ ms'
  · exact hs b m
  · cases e : H b with
    | none => exact absurd e (h b q)
    | some o =>
      rw [k.at_ b o e m]
      exact fun z => nomatch z
end
section
variable {X : Cx} {pins : List (Addr × Obj)} {σ : L2.St} {H : Hp} {s : Shared} {ms : List Addr}
theorem low (I : Inv X pins σ H s) (hs : ∃ mm, X.base.Ns sysModules mm) {a : Addr} {o : HO} (e : H a = some o) : a ≠ sysModules := by
  rintro rfl
  obtain ⟨mm, ob, es, ep, g, _⟩ := hs
  rw [(I.bs _ _ g).2] at e
  cases e
theorem key_reads (k : Key) (y : Value) (h : keyIs k y = true) : Reads s.heap y (kD k) [] := by
  rcases keyIs_shape h with ⟨i, t, rfl, rfl⟩ | ⟨x, t, rfl, rfl⟩
  · exact .int i t
  · exact .str x t
mutual
theorem An.reads (I : Inv X pins σ H s) (hs : ∃ mm, X.base.Ns sysModules mm) : ∀ {v : V} {u : Value} (d : PyData), An ms H v d → RelV v u → ∃ as, Reads s.heap u d as ∧ sysModules ∉ as
  | _, _, .none, h, r => by
    cases h
    cases r
    exact ⟨_, .none, List.not_mem_nil⟩
  | _, _, .bool b, h, r => by
    cases h
    cases r
    exact ⟨_, .bool b, List.not_mem_nil⟩
  | _, _, .int i, h, r => by
    cases h
    obtain ⟨t, rfl⟩ := r
    exact ⟨_, .int i t, List.not_mem_nil⟩
  | _, _, .str x, h, r => by
    cases h
    obtain ⟨t, rfl⟩ := r
    exact ⟨_, .str x t, List.not_mem_nil⟩
  | _, _, .list ds, h, r => by
    cases h with
    | @lst a xs _ e n hd =>
      cases r
      obtain ⟨_, its, m, rv, at0⟩ := (show ObjOk X.prog X.w H s.heap a (.lst xs) from I.hok a _ e)
      obtain ⟨as, q, nq⟩ := AnAll.reads I hs ds hd rv
      refine ⟨_, .list at0 rfl rfl q, fun z => ?_⟩
      rcases List.mem_cons.mp z with z | z
      · exact low I hs e z.symm
      · exact nq z
  | _, _, .tuple ds, h, r => by
    cases h with
    | @tup a xs _ e hd =>
      cases r
      obtain ⟨_, its, rv, o, h1, h2, n, h3⟩ := (show ObjOk X.prog X.w H s.heap a (.tup xs) from I.hok a _ e)
      obtain ⟨as, q, nq⟩ := AnAll.reads I hs ds hd rv
      exact ⟨_, .tuple h1 h2 h3 q, nq⟩
  | _, _, .dict ds, h, r => by
    cases h with
    | @dct a kvs _ e n hd =>
      cases r
      obtain ⟨_, lo, vs, rk, dd⟩ := (show ObjOk X.prog X.w H s.heap a (.dK kvs) from I.hok a _ e)
      obtain ⟨as, q, nq⟩ := AnKv.reads I hs ds hd rk
      refine ⟨_, PyProof.V.reads_dictOf (fun k y hk => key_reads k y hk) dd q, fun z => ?_⟩
      rcases List.mem_cons.mp z with z | z
      · exact low I hs e z.symm
      · exact nq z
theorem AnAll.reads (I : Inv X pins σ H s) (hs : ∃ mm, X.base.Ns sysModules mm) : ∀ {vs : List V} {us : List Value} (ds : List PyData), AnAll ms H vs ds → Vals vs us → ∃ as, ReadsAll s.heap us ds as ∧ sysModules ∉ as
  | _, _, [], h, r => by
    cases h
    cases r
    exact ⟨_, .nil, List.not_mem_nil⟩
  | _, _, d :: ds, h, r => by
    cases h with
    | cons h1 h2 =>
      cases r with
      | cons r1 r2 =>
        obtain ⟨as, q1, n1⟩ := An.reads I hs d h1 r1
        obtain ⟨bs, q2, n2⟩ := AnAll.reads I hs ds h2 r2
        exact ⟨_, .cons q1 q2, fun z => (List.mem_append.mp z).elim n1 n2⟩
theorem AnKv.reads (I : Inv X pins σ H s) (hs : ∃ mm, X.base.Ns sysModules mm) : ∀ {kvs : List (Key × V)} {vs : List (Key × Value)} (ds : List (PyData × PyData)), AnKv ms H kvs ds → KV kvs vs → ∃ as, PyProof.V.PairsRead s.heap kD vs ds as ∧ sysModules ∉ as
  | _, _, [], h, r => by
    cases h
    cases r
    exact ⟨_, .nil, List.not_mem_nil⟩
  | _, _, (y, d) :: ds, h, r => by
    cases h with
    | @cons k v kvs _ _ h1 h2 =>
      cases r with
      | @cons _ b _ _ r1 r2 =>
        obtain ⟨k2, u⟩ := b
        obtain ⟨e, r1⟩ := r1
        have e' : k = k2 := e
        subst e'
        obtain ⟨as, q1, n1⟩ := An.reads I hs d h1 r1
        obtain ⟨bs, q2, n2⟩ := AnKv.reads I hs ds h2 r2
        exact ⟨_, .cons q1 q2, fun z => (List.mem_append.mp z).elim n1 n2⟩
end
/-- repr of data, dicts among it -/
def rReprA (ms : List Addr) : List V → Hp → VK → Prop := fun xs H Q =>
  ∃ v d, xs = [v] ∧ An ms H v d ∧ fit d = true ∧ d.depth ≤ 100 ∧ wd d ≤ 1000000 ∧ Q (.str d.shown) H
theorem cr_reprA {k : Nat} (hs : ∃ mm, X.base.Ns sysModules mm) (hg : X.A.guards = some []) (hr : Room k X.A) : CallR X (.builtin "repr") (rReprA ms) := by
  intro pins s σ H xs us Q I r h
  obtain ⟨v, d, rfl, hd, hf, hp, hz, q⟩ := h
  obtain ⟨u, rfl, ru⟩ := vals1 r
  obtain ⟨as, rd, ns⟩ := An.reads I hs d hd ru
  obtain ⟨sh, ln⟩ := fit_told d hf
  have z : d.shown.length ≤ sizeLine := Nat.le_trans ln (Nat.le_trans hz (by decide))
  have room : X.A.units + (d.depth + 1) < cLine := by
    have := hr.un
    omega
  have fin : ∀ (h' : Heap) (tk : Nat) (t : Tok), (∀ b o, s.heap.get? b = some o → h'.get? b = some o) → EP X pins σ Q (.str d.shown t) { s with heap := h', toks := tk } :=
    fun h' tk t hk => ⟨.str d.shown, H, I.kept hk, ⟨t, rfl⟩, q⟩
  cases rd with
  | none => exact PySem.P.repr_of_none (fin s.heap _ _ fun _ _ e => e)
  | bool b => exact PySem.P.repr_of_bool (fin s.heap _ _ fun _ _ e => e)
  | int i t => exact PySem.P.repr_of_int (of_decide_eq_true sh) (fin s.heap _ _ fun _ _ e => e)
  | str x t => exact PySem.P.repr_of_str (fin s.heap _ _ fun _ _ e => e) z
  | list a b c e => exact repr_of_reads' (.list a b c e) sh (fun _ => ns) hg room (fun _ _ e => e) (fun h' u tk hk => fin h' tk u hk) z
  | tuple a b c e => exact repr_of_reads' (.tuple a b c e) sh (fun _ => ns) hg room (fun _ _ e => e) (fun h' u tk hk => fin h' tk u hk) z
  | dict a b c e f => exact repr_of_reads' (.dict a b c e f) sh (fun _ => ns) hg room (fun _ _ e => e) (fun h' u tk hk => fin h' tk u hk) z
end
/-! ### kinds -/
def isTup : PyData → Bool
  | .tuple _ => true
  | .none | .bool _ | .int _ | .list _ | .str _ | .dict _ => false
def isStr : PyData → Bool
  | .str _ => true
  | .none | .bool _ | .int _ | .list _ | .tuple _ | .dict _ => false
theorem An.tupK {ms : List Addr} {K : PySem.W.Frag} {H : Hp} {v : V} {d : PyData} (h : An ms H v d) : ∃ t, TyX K H v t ∧ PySem.W.kitOne K t (.type "tuple") = some (isTup d) := by
  cases h with
  | non => exact ⟨_, .base .non, kit_ty (r := false) (by decide +kernel)⟩
  | bl b => exact ⟨_, .base (.bl b), kit_ty (r := false) (by decide +kernel)⟩
  | int i => exact ⟨_, .base (.int i), kit_ty (r := false) (by decide +kernel)⟩
  | str x => exact ⟨_, .base (.str x), kit_ty (r := false) (by decide +kernel)⟩
  | lst e => exact ⟨_, .base (.lst e), kit_ty (r := false) (by decide +kernel)⟩
  | tup e => exact ⟨_, .base (.tup e), kit_ty (r := true) (by decide +kernel)⟩
  | dct e => exact ⟨_, .base (.dK e), kit_ty (r := false) (by decide +kernel)⟩
theorem An.strK {ms : List Addr} {K : PySem.W.Frag} {H : Hp} {v : V} {d : PyData} (h : An ms H v d) : ∃ t, TyX K H v t ∧ PySem.W.kitOne K t (.type "str") = some (isStr d) := by
  cases h with
  | non => exact ⟨_, .base .non, kit_ty (r := false) (by decide +kernel)⟩
  | bl b => exact ⟨_, .base (.bl b), kit_ty (r := false) (by decide +kernel)⟩
  | int i => exact ⟨_, .base (.int i), kit_ty (r := false) (by decide +kernel)⟩
  | str x => exact ⟨_, .base (.str x), kit_ty (r := true) (by decide +kernel)⟩
  | lst e => exact ⟨_, .base (.lst e), kit_ty (r := false) (by decide +kernel)⟩
  | tup e => exact ⟨_, .base (.tup e), kit_ty (r := false) (by decide +kernel)⟩
  | dct e => exact ⟨_, .base (.dK e), kit_ty (r := false) (by decide +kernel)⟩
theorem An.noneK {ms : List Addr} {H : Hp} {v : V} {d : PyData} (h : An ms H v d) : v = .non ↔ d = .none := by
  cases h <;> simp
theorem isi_tup {ms : List Addr} {K : PySem.W.Frag} {H : Hp} {v : V} {d : PyData} {Q : VK} (h : An ms H v d) (q : Q (.bl (isTup d)) H) : rIsi K [v, .ty "tuple"] H Q := by
  obtain ⟨t, a, b⟩ := h.tupK (K := K)
  exact ⟨v, .ty "tuple", t, .type "tuple", _, rfl, .ty "tuple", a, b, q⟩
theorem isi_str {ms : List Addr} {K : PySem.W.Frag} {H : Hp} {v : V} {d : PyData} {Q : VK} (h : An ms H v d) (q : Q (.bl (isStr d)) H) : rIsi K [v, .ty "str"] H Q := by
  obtain ⟨t, a, b⟩ := h.strK (K := K)
  exact ⟨v, .ty "str", t, .type "str", _, rfl, .ty "str", a, b, q⟩
end Ey
set_option maxHeartbeats 4000000
namespace Ey
open PySem PySem.Spec PyProof.Rows L2 PySem.SeqAt
/-! ### any data beside a text -/
def isThe (t : Str) : PyData → Bool
  | .str g => decide (g = t)
  | .none | .bool _ | .int _ | .list _ | .tuple _ | .dict _ => false
section
variable {A : Around} {s : Shared}
theorem rcNe_dict_str {l : Addr} {o : Obj} {es : Array DictEntry} {n : Nat} (b : Str) (u : Tok) (ho : s.heap.get? l = some o) (hc : o.cls = .type "dict") (hd : o.data = .dict es n) (hu : A.units < cLine) : RcNeAt A s (.ref l) (.str b u) true := fun prog w E Q h => by
  obtain ⟨cls, dd, data, sl⟩ := o
  simp only at hc hd
  subst hc hd
  exact rc_ne_decline_or (k := false) ⟨_, ho, rfl⟩ (typeIs_str s b u) (by decide) F.sub_str_dict F.slot_dict_ne F.slot_str_ne_refl
    (fun _ hq => call_meets F.slot_dict_ne ⟨_, ho, rfl⟩ F.entry_dict_ne (F.args_dict_ne_2 _ _) (dict_ne_declines_str l es n dd sl b u) ⟨ho, hq⟩)
    (fun _ hq => call_meets F.slot_str_ne_refl (typeIs_str s b u) F.entry_str_ne (F.args_str_ne_2 _ _) (str_ne_declines_dict b u l es n dd sl) ⟨ho, hq⟩)
    (fun _ hq => wpAny_of_eq (rfl : isSame (.ref l) (.str b u) = pure false) hq) (.inr hu) h
theorem rc_str_dict {l : Addr} {o : Obj} {es : Array DictEntry} {n : Nat} (b : Str) (u : Tok) (ho : s.heap.get? l = some o) (hc : o.cls = .type "dict") (hd : o.data = .dict es n) (hu : A.units < cLine) : RcAt A s (.str b u) (.ref l) false := fun prog w E Q h => by
  obtain ⟨cls, dd, data, sl⟩ := o
  simp only at hc hd
  subst hc hd
  exact rc_eq_decline_or (k := false) (typeIs_str s b u) ⟨_, ho, rfl⟩ (by decide) F.sub_dict_str F.slot_str_eq F.slot_dict_eq_refl
    (fun _ hq => call_meets F.slot_str_eq (typeIs_str s b u) F.entry_str_eq (F.args_str_eq_2 _ _) (str_eq_declines_dict b u l es n dd sl) ⟨ho, hq⟩)
    (fun _ hq => call_meets F.slot_dict_eq_refl ⟨_, ho, rfl⟩ F.entry_dict_eq (F.args_dict_eq_2 _ _) (dict_eq_declines_str l es n dd sl b u) ⟨ho, hq⟩)
    (fun _ hq => wpAny_of_eq (rfl : isSame (.str b u) (.ref l) = pure false) hq) (.inr hu) h
theorem eq_str_dict {l : Addr} {o : Obj} {es : Array DictEntry} {n : Nat} (b : Str) (u : Tok) (ho : s.heap.get? l = some o) (hc : o.cls = .type "dict") (hd : o.data = .dict es n) (hu : A.units < cLine) : EqAt A s (.str b u) (.ref l) false := fun prog w E Q h => by
  unfold eqBool
  refine wpAny_holding ?_
  refine wpAny_ite_split (fun hab => absurd (eq_of_beq hab) nofun) (fun _ => ?_)
  exact wpAny_bind (rc_str_dict b u ho hc hd hu prog w E _ (wpAny_truthy_bool h))
end
section
variable {X : Cx} {pins : List (Addr × Obj)} {σ : L2.St} {H : Hp} {s : Shared}
theorem dict_obj {a : Addr} {kvs : List (Key × V)} (I : Inv X pins σ H s) (e : H a = some (.dK kvs)) : ∃ (o : Obj) (es : Array DictEntry) (n : Nat), s.heap.get? a = some o ∧ o.cls = .type "dict" ∧ o.data = .dict es n := by
  obtain ⟨_, _, vs, _, o, es, ep, h1, h2, h3, _⟩ := (show ObjOk X.prog X.w H s.heap a (.dK kvs) from I.hok a _ e)
  exact ⟨o, es, ep, h1, h2.1, h3⟩
theorem tup_obj {a : Addr} {xs : List V} (I : Inv X pins σ H s) (e : H a = some (.tup xs)) : ∃ its : List Value, Vals xs its ∧ s.heap.IsTuple a its.toArray := by
  obtain ⟨_, its, r, t⟩ := (show ObjOk X.prog X.w H s.heap a (.tup xs) from I.hok a _ e)
  exact ⟨its, r, t⟩
theorem lst_obj {a : Addr} {xs : List V} (I : Inv X pins σ H s) (e : H a = some (.lst xs)) : ∃ its : List Value, Vals xs its ∧ s.heap.IsList a its.toArray := by
  obtain ⟨_, its, n, r, t⟩ := (show ObjOk X.prog X.w H s.heap a (.lst xs) from I.hok a _ e)
  exact ⟨its, r, ⟨_, t, rfl, n, rfl⟩⟩
/-- x != t, t a text -/
def rNeAn : R2 := fun x y H Q => ∃ ms d t, An ms H x d ∧ y = .str t ∧ Q (.bl (!isThe t d)) H
theorem op_neAn (hu : X.A.units < cLine) : OpR X (compareOp .NotEq) rNeAn := by
  intro pins s σ H x y v u Q I rx ry h
  obtain ⟨ms, d, t, hx, rfl, q⟩ := h
  obtain ⟨tk, rfl⟩ := ry
  have fin : ∀ b : Bool, (!isThe t d) = b → EP X pins σ Q (.bool b) s := fun b e => ⟨.bl b, H, I, rfl, e ▸ q⟩
  show wpAny _ _ (richCompare .NotEq v (.str t tk)) _ _ s
  cases hx with
  | non =>
    cases rx
    exact RcNeAt.none_str t tk _ _ _ _ (fin _ rfl)
  | bl b =>
    cases rx
    exact RcNeAt.bool_str b t tk _ _ _ _ (fin _ rfl)
  | int i =>
    obtain ⟨t2, rfl⟩ := rx
    exact RcNeAt.int_str i t2 t tk _ _ _ _ (fin _ rfl)
  | str g =>
    obtain ⟨t2, rfl⟩ := rx
    refine RcNeAt.str_str g t2 t tk _ _ _ _ (fin _ ?_)
    show (!decide (g = t)) = !(g == t)
    by_cases e : g = t
    · subst e
      simp
    · simp [e]
  | @lst a xs ds e n hd =>
    cases rx
    obtain ⟨its, r, p⟩ := lst_obj I e
    exact RcNeAt.list_str t tk p hu _ _ _ _ (fin _ rfl)
  | @tup a xs ds e hd =>
    cases rx
    obtain ⟨its, r, p⟩ := tup_obj I e
    exact RcNeAt.tuple_str t tk p hu _ _ _ _ (fin _ rfl)
  | @dct a kvs ds e n hd =>
    cases rx
    obtain ⟨o, es, ep, h1, h2, h3⟩ := dict_obj I e
    exact rcNe_dict_str t tk h1 h2 h3 hu _ _ _ _ (fin _ rfl)
/-- x in (t, ..), a tuple or list of texts -/
def rInAn (K : PySem.W.Frag) : R2 := fun x y H Q => ∃ (ms : List Addr) (d : PyData) (p : Addr) (ts : List Str), An ms H x d ∧ y = .ref p ∧ SqT K H p (ts.map V.str) ∧ Q (.bl (ts.any fun t => isThe t d)) H
theorem op_inAn (hu : X.A.units + 1 < cLine) : OpR X (compareOp .In) (rInAn X.K) := by
  intro pins s σ H x y v u Q I rx ry h
  obtain ⟨ms, d, p, ts, hx, rfl, hq, q⟩ := h
  cases ry
  obtain ⟨its, r, pl, hz⟩ := I.tuple hq
  let eU : Value → Bool := fun w => match w with
    | .str z _ => isThe z d
    | _ => false
  have ev : ∀ (ts : List Str) (us : List Value), Vals (ts.map V.str) us → us.any eU = ts.any fun t => isThe t d := by
    intro ts
    induction ts with
    | nil =>
      intro us h
      cases h
      rfl
    | cons t r ih =>
      intro us h
      cases h with
      | cons a b =>
        obtain ⟨tk, rfl⟩ := a
        rw [List.any_cons, List.any_cons, ih _ b]
  have each : ∀ (ts : List Str) (us : List Value), Vals (ts.map V.str) us → ∀ w ∈ us, ∃ z tk, w = .str z tk := by
    intro ts
    induction ts with
    | nil =>
      intro us h
      cases h
      exact fun w hw => absurd hw List.not_mem_nil
    | cons t r ih =>
      intro us h
      cases h with
      | cons a b =>
        obtain ⟨tk, rfl⟩ := a
        intro w hw
        rcases List.mem_cons.mp hw with rfl | hw
        · exact ⟨_, _, rfl⟩
        · exact ih _ b w hw
  refine SeqAt.in_tupleAt eU pl (fun w hw => ?_) ⟨.bl _, H, I, rfl, ?_⟩
  · obtain ⟨z, tk, rfl⟩ := each ts its r w (by simpa using hw)
    cases hx with
    | non =>
      cases rx
      exact EqAt.str_none z tk
    | bl b =>
      cases rx
      exact EqAt.str_bool z tk b
    | int i =>
      obtain ⟨t2, rfl⟩ := rx
      exact EqAt.str_int z tk i t2
    | str g =>
      obtain ⟨t2, rfl⟩ := rx
      have e : eU (.str z tk) = (z == g) := by
        show decide (g = z) = (z == g)
        by_cases e : g = z
        · subst e
          simp
        · have e2 : ¬ z = g := fun h => e h.symm
          simp [e, e2]
      rw [e]
      exact EqAt.str_str z tk g t2
    | @lst a xs ds e n hd =>
      cases rx
      obtain ⟨its, r, p⟩ := lst_obj I e
      exact EqAt.str_list z tk p (show X.A.units + 1 < cLine from hu)
    | @tup a xs ds e hd =>
      cases rx
      obtain ⟨its, r, p⟩ := tup_obj I e
      exact EqAt.str_tuple z tk p (show X.A.units + 1 < cLine from hu)
    | @dct a kvs ds e n hd =>
      cases rx
      obtain ⟨o, es, ep, h1, h2, h3⟩ := dict_obj I e
      exact eq_str_dict z tk h1 h2 h3 (show X.A.units + 1 < cLine from hu)
  · rw [show its.toArray.any eU = its.any eU by simp, ev ts its r]
    exact q
/-- t == (), t any tuple -/
def rEqE : R2 := fun x y H Q => ∃ a b xs, x = .ref a ∧ y = .ref b ∧ H a = some (.tup xs) ∧ H b = some (.tup []) ∧ Q (.bl xs.isEmpty) H
theorem op_eqE (hu : X.A.units + 64 < cLine) : OpR X (compareOp .Eq) rEqE := by
  intro pins s σ H x y v u Q I rx ry h
  obtain ⟨a, b, xs, rfl, rfl, h1, h2, q⟩ := h
  cases rx
  cases ry
  obtain ⟨its, r, p⟩ := tup_obj I h1
  obtain ⟨its2, r2, p2⟩ := tup_obj I h2
  cases r2
  refine PySem.W.eq_tuplesT (n := 1) (e := fun _ => true) p p2 (fun j h1 h2 => absurd h2 (by simp)) (by omega) ⟨.bl xs.isEmpty, H, I, ?_, q⟩
  cases r with
  | nil => rfl
  | cons _ _ => rfl

end
end Ey
set_option maxHeartbeats 4000000
namespace Ey
open PySem PySem.Spec L2
/-! ### a list of one's own as a pile, its top first -/
theorem pile_top (x : V) (us : List V) : ((x :: us).reverse)[(x :: us).reverse.length - 1]? = some x := by
  rw [List.reverse_cons, List.length_append]
  show (us.reverse ++ [x])[us.reverse.length + 1 - 1]? = some x
  rw [Nat.add_sub_cancel, List.getElem?_append_right (Nat.le_refl _), Nat.sub_self]
  rfl
theorem pile_pop (x : V) (us : List V) : ((x :: us).reverse).dropLast = us.reverse := by
  rw [List.reverse_cons]
  exact List.dropLast_concat
theorem pile_push (x : V) (us : List V) : us.reverse ++ [x] = (x :: us).reverse := (List.reverse_cons).symm
theorem Kp.own {ms : List Addr} {H H1 : Hp} {p : Addr} {o : HO} (k : Kp ms H H1) (n : H p = none) : Kp ms H (upd H1 p o) :=
  ⟨fun b u e h => by rw [upd_ne (ne_of_none e n)]; exact k.at_ b u e h, fun b xs e => by rw [upd_ne (ne_of_none e n)]; exact k.tup b xs e⟩
theorem tabg_kp {ms : List Addr} {H H1 : Hp} {P : Addr} (g : GxR.TabG H P) (k : Kp ms H H1) (n : P ∉ ms) : GxR.TabG H1 P := by
  obtain ⟨ps, h, t⟩ := g
  exact ⟨ps, k.at_ _ _ h n, t⟩
theorem tabg_upd {H : Hp} {P p : Addr} {o : HO} (g : GxR.TabG H P) (n : P ≠ p) : GxR.TabG (upd H p o) P := by
  obtain ⟨ps, h, t⟩ := g
  exact ⟨ps, by rw [upd_ne n]; exact h, t⟩
/-- H' is H but for the table at P -/
abbrev Tb (P : Addr) (H H' : Hp) : Prop := GxR.Tabbed P H H'
theorem tb_refl {P : Addr} {H : Hp} (h : GxR.TabG H P) : Tb P H H := ⟨h, fun _ _ => rfl⟩
theorem tb_kp {P : Addr} {H H1 : Hp} (g : GxR.TabG H P) (a : Tb P H H1) : Kp [P] H H1 := by
  refine ⟨fun b o e n => ?_, fun b xs e => ?_⟩
  · rw [a.2 b (fun q => n (by rw [q]; simp))]
    exact e
  · rw [a.2 b (fun q => ?_)]
    · exact e
    · obtain ⟨ps, h, _⟩ := g
      rw [q, h] at e
      cases e
/-- the tables of all defs that have generators -/
def TTs (Ts : List Addr) (H : Hp) : Prop := ∀ P ∈ Ts, GxR.TabG H P
theorem TTs.tab {Ts : List Addr} {H H1 : Hp} {P : Addr} (h : TTs Ts H) (hP : P ∈ Ts) (t : Tb P H H1) : TTs Ts H1 ∧ Kp Ts H H1 := by
  refine ⟨fun q hq => ?_, (tb_kp (h P hP) t).more fun x hx => by rw [List.mem_singleton.mp hx]; exact hP⟩
  by_cases e : q = P
  · rw [e]
    exact t.1
  · obtain ⟨ps, a, b⟩ := h q hq
    exact ⟨ps, (t.2 q e).trans a, b⟩
theorem TTs.kp {ms Ts : List Addr} {H H1 : Hp} (h : TTs Ts H) (k : Kp ms H H1) (n : ∀ P ∈ Ts, P ∉ ms) : TTs Ts H1 := fun P hP => tabg_kp (h P hP) k (n P hP)
theorem TTs.kp0 {Ts : List Addr} {H H1 : Hp} (h : TTs Ts H) (k : Kp [] H H1) : TTs Ts H1 := h.kp k fun _ _ => List.not_mem_nil
theorem TTs.ne {Ts : List Addr} {H : Hp} {P p : Addr} (h : TTs Ts H) (hP : P ∈ Ts) (n : H p = none) : P ≠ p := by
  obtain ⟨ps, e, _⟩ := h P hP
  exact ne_of_none e n
theorem TTs.nin {Ts : List Addr} {H : Hp} {p : Addr} (h : TTs Ts H) (n : H p = none) : p ∉ Ts := fun hp => h.ne hp n rfl
theorem TTs.nino {Ts : List Addr} {H : Hp} {p : Addr} {o : HO} (h : TTs Ts H) (e : H p = some o) (no : ∀ ps, o ≠ .tbl ps) : p ∉ Ts := fun hp => by
  obtain ⟨ps, e2, _⟩ := h p hp
  rw [e2] at e
  exact no ps (Option.some.inj e).symm
/-- all(..) over a tuple that stays -/
theorem all_tup {K : PySem.W.Frag} {a : Addr} {xs : List V} {te : TE} {Q : VK} {H1 : Hp} (Pv : Nat → Hp → Prop) (h0 : Pv 0 H1) (hl : ∀ i H, Pv i H → SqT K H a xs)
    (hs : ∀ i x H, xs[i]? = some x → Pv i H → te [some x] H fun y H3 => ∃ b, y = .bl b ∧ if b = true then Pv (i + 1) H3 else Q (.bl false) H3) (hd : ∀ H, Pv xs.length H → Q (.bl true) H) :
    ∃ (n0 : Nat) (W : Nat → Hp → Prop), W 0 H1 ∧ ∀ i H', W i H' → (i < n0 ∧ (Itt K a).go i H' ∧ ∀ v H'', (Itt K a).yld i H' v H'' → te [some v] H'' fun y H3 => ∃ b, y = .bl b ∧ if b = true then W (i + 1) H3 else Q (.bl false) H3) ∨ ((Itt K a).stop i H' ∧ Q (.bl true) H') := by
  refine ⟨xs.length, fun i H => i ≤ xs.length ∧ Pv i H, ⟨Nat.zero_le _, h0⟩, fun i H ⟨hi, p⟩ => ?_⟩
  have q := hl i H p
  by_cases lt : i < xs.length
  · refine .inl ⟨lt, ⟨xs, xs[i], q, List.getElem?_eq_getElem lt⟩, fun v H'' y => ?_⟩
    obtain ⟨e, y⟩ := y
    subst e
    have h := hs i v H'' (y xs q) p
    have e : (fun (y : V) (H3 : Hp) => ∃ b, y = .bl b ∧ if b = true then (i + 1 ≤ xs.length ∧ Pv (i + 1) H3) else Q (.bl false) H3) = fun y H3 => ∃ b, y = .bl b ∧ if b = true then Pv (i + 1) H3 else Q (.bl false) H3 := by
      funext y H3
      refine propext ⟨fun ⟨b, e, h⟩ => ⟨b, e, ?_⟩, fun ⟨b, e, h⟩ => ⟨b, e, ?_⟩⟩
      · cases b
        · exact h
        · rw [if_pos rfl] at h ⊢
          exact h.2
      · cases b
        · exact h
        · rw [if_pos rfl] at h ⊢
          exact ⟨lt, h⟩
    rw [e]
    exact h
  · have e : i = xs.length := by omega
    subst e
    exact .inr ⟨⟨xs, q, Nat.le_refl _⟩, hd H p⟩
/-- a tuple of the written part -/
def KTup (K : PySem.W.Frag) (a : Addr) (xs : List V) : Prop := ∃ (o : Obj) (its : Array Value) (n : Nat), K.lookup a = some o ∧ o.cls = .type "tuple" ∧ o.data = .seq its n ∧ its.size ≤ sizeLine ∧ Vals xs its.toList
theorem KTup.sqt {K : PySem.W.Frag} {a : Addr} {xs : List V} (h : KTup K a xs) (H : Hp) : SqT K H a xs := by
  obtain ⟨o, its, n, h1, h2, h3, h4, h5⟩ := h
  exact .inr ⟨o, its, n, h1, h2, h3, h4, h5⟩
/-- a dict of the written part: its keys are just these -/
def keyS (e : DictEntry) : Option Str := match e.key with
  | .str x _ => some x
  | _ => none
theorem no_key {K : PySem.W.Frag} {a : Addr} {o d : _} {es : Array DictEntry} {n : Nat} {sl : _} {ks : List Str} (h : K.lookup a = some ⟨o, d, .dict es n, sl⟩) (hk : es.toList.map keyS = ks.map some) {z : Str} (hz : z ∉ ks) : PySem.W.nsIn K a z = some none := by
  have all : ∀ e ∈ es.toList, ∃ x t, e.key = .str x t ∧ x ∈ ks := fun e he => by
    have m : keyS e ∈ ks.map some := hk ▸ List.mem_map.mpr ⟨e, he, rfl⟩
    obtain ⟨x, hx, ex⟩ := List.mem_map.mp m
    unfold keyS at ex
    split at ex
    · rename_i x' t' e'
      refine ⟨x', t', e', ?_⟩
      rw [← Option.some.inj ex]
      exact hx
    · cases ex
  unfold PySem.W.nsIn
  rw [h]
  have f : es.toList.find? (fun e => e.key.isStr z) = none := List.find?_eq_none.mpr fun e he q => by
    obtain ⟨x, t, e1, e2⟩ := all e he
    rw [e1] at q
    have : (x == z) = true := q
    rw [beq_iff_eq] at this
    exact hz (this ▸ e2)
  show (match es.toList.find? (fun e => e.key.isStr z) with
    | some e => some (some e.val)
    | none => if es.toList.any (fun e => e.refKey) then none else some none) = some none
  rw [f]
  have g : es.toList.any (fun e => e.refKey) = false := List.any_eq_false.mpr fun e he q => by
    obtain ⟨x, t, e1, e2⟩ := all e he
    unfold DictEntry.refKey at q
    rw [e1] at q
    cases q
  show (if es.toList.any (fun e => e.refKey) = true then none else some none) = some none
  rw [g]
  rfl
theorem fn_any {ι : Type} {P : Program} {w : World} {K : PySem.W.Frag} {mg : Str → Option Value} {base : Heap} {CX : CXT} {k : Nat} {f : Addr} {fd : FuncData} {ps : List Str} {sp : ι → Sp} (h : ∀ i, FnOk P w K mg base CX k f fd ps (sp i)) :
    FnOk P w K mg base CX k f fd ps (fun vs H Q E => ∃ i, sp i vs H Q E) :=
  ⟨fun vs H Q E ⟨i, q⟩ => (h i).len vs H Q E q, fun A outer s H args us vs Q E hr e b v ⟨i, q⟩ => (h i).run A outer s H args us vs Q E hr e b v q⟩
/-- repr of any data -/
def rReprE : List V → Hp → VK → Prop := fun xs H Q => ∃ ms, rReprA ms xs H Q
theorem cr_reprE {X : Cx} {k : Nat} (hs : ∃ mm, X.base.Ns sysModules mm) (hg : X.A.guards = some []) (hr : Room k X.A) : CallR X (.builtin "repr") rReprE := by
  intro pins s σ H xs us Q I r h
  obtain ⟨ms, h⟩ := h
  exact cr_reprA (ms := ms) hs hg hr pins s σ H xs us Q I r h
end Ey
set_option maxHeartbeats 4000000
namespace Ey
open PySem PySem.Calls PySem.Spec PyProof.Rows L2 HT
section
variable {prog : Program} {w : World} {A : Around} {E : Value → Shared → Prop} {s : Shared}
theorem ey_steps (n : Nat) : Builtin.Slice.slicePlaces ((n : Int) - 1) (-1) (-1) = n := by
  unfold Builtin.Slice.slicePlaces
  rw [if_neg (by decide)]
  by_cases hn : (n : Int) - 1 > -1
  · rw [if_pos hn]
    have q : (- -1 : Int) = 1 := by decide
    rw [q, Int.ediv_one]
    omega
  · rw [if_neg hn]
    omega
theorem ey_applied_rev {sl : Addr} {vl vu vs : Value} {n : Nat} {Q : Int × Int × Nat → Shared → Prop} (q : s.heap.IsSliceOf sl vl vu vs) (pl : IsPart vl none) (pu : IsPart vu none) (ps : IsPart vs (some (-1)))
    (h : Q ((n : Int) - 1, -1, n) s) : wpAny (model prog w) A (Builtin.Slice.sliceApplied (.ref sl) (pure (n : Int))) Q E s := by
  obtain ⟨ob, hob, hcl, hda⟩ := id q
  unfold Builtin.Slice.sliceApplied Builtin.Slice.sliceFields
  refine wpAny_bind (wpAny_bind (wpAny_field hob hda (x := vl) rfl (wpAny_bind (wpAny_field hob hda (x := vu) rfl (wpAny_bind (wpAny_field hob hda (x := vs) rfl (wpAny_pure ?_)))))))
  refine wpAny_bind (slicePart_ ps ?_)
  show wpAny _ _ (if ((-1 : Int) == 0) = true then _ else _) _ _ s
  rw [if_neg (by decide)]
  refine wpAny_bind (slicePart_ pl (wpAny_bind (slicePart_ pu (wpAny_bind (wpAny_pure ?_)))))
  show wpAny _ _ (pure ((n : Int) - 1, (-1 : Int), Builtin.Slice.slicePlaces ((n : Int) - 1) (-1) (-1))) _ _ s
  rw [ey_steps]
  exact wpAny_pure h
theorem ey_back (xs : Array Value) : ((List.range xs.size).filterMap fun (m : Nat) => xs[((xs.size : Int) - 1 + (m : Int) * -1).toNat]?).toArray = xs.toList.reverse.toArray := by
  congr 1
  refine List.ext_getElem? fun i => ?_
  have key : ∀ m, m < xs.size → xs[((xs.size : Int) - 1 + (m : Int) * -1).toNat]? = (xs.toList.reverse)[m]? := fun m hm => by
    have e : ((xs.size : Int) - 1 + (m : Int) * -1).toNat = xs.size - 1 - m := by omega
    rw [e, List.getElem?_reverse (by rw [Array.length_toList]; exact hm), Array.length_toList, Array.getElem?_toList]
  have all : ∀ l : List Nat, (∀ m ∈ l, m < xs.size) → (l.filterMap fun (m : Nat) => xs[((xs.size : Int) - 1 + (m : Int) * -1).toNat]?) = l.filterMap fun m => (xs.toList.reverse)[m]? := fun l => by
    induction l with
    | nil => intro _; rfl
    | cons a r ih =>
      intro h
      rw [List.filterMap_cons, List.filterMap_cons, key a (h a List.mem_cons_self), ih fun m hm => h m (List.mem_cons_of_mem _ hm)]
  rw [all _ fun m hm => List.mem_range.mp hm]
  have fin : ∀ ys : List Value, (List.range ys.length).filterMap (fun m => ys[m]?) = ys := fun ys => by
    induction ys with
    | nil => rfl
    | cons y r ih =>
      rw [List.length_cons, List.range_succ_eq_map, List.filterMap_cons]
      show y :: List.filterMap _ _ = _
      rw [List.filterMap_map]
      exact congrArg (List.cons y) ih
  have := fin xs.toList.reverse
  rw [List.length_reverse, Array.length_toList] at this
  rw [this]
theorem ey_tuple_rev {tp sl : Addr} {items : Array Value} {vl vu vs : Value} {Q : Value → Shared → Prop} (it : IsTup s.heap tp items) (q : s.heap.IsSliceOf sl vl vu vs) (pl : IsPart vl none) (pu : IsPart vu none) (ps : IsPart vs (some (-1)))
    (h : Q (.ref s.heap.objs.size) { s with heap := s.heap.push { cls := .type "tuple", data := .seq items.toList.reverse.toArray } })
    (hz : items.size ≤ sizeLine) : wpAny (model prog w) A (getItem (.ref tp) (.ref sl)) Q E s := by
  have fits : sizeOk (.seq items.toList.reverse.toArray) := by
    show items.toList.reverse.toArray.size ≤ sizeLine
    rw [List.size_toArray, List.length_reverse, Array.length_toList]
    exact hz
  obtain ⟨ob, hob, hcl, hda⟩ := id q
  have kind : s.TypeIs (.ref sl) "slice" := ⟨ob, hob, hcl⟩
  unfold getItem
  try with_reducible refine wpAny_holding ?_
  first | refine wpAny_bind (wpAny_pure ?_) | skip
  refine wpAny_bind (wpAny_sequenceKey it.typeIs (by decide) ?_)
  refine wpAny_bind (wpAny_callSpecial?_slot (name := Str.ofString "__getitem__") it.typeIs PyProof.Rows.slot_tuple_getitem (wpAny_call_entry PyProof.Rows.slot_tuple_getitem it.typeIs entry_tuple_getitem ?_ (args_tuple_getitem _ _)))
  show wpAny _ _ (Builtin.Tuple.tupleItemsOf (.ref tp) >>= _) _ _ s
  refine wpAny_bind (tupleItemsOf_ it ?_)
  refine wpAny_bind (wpAny_typeOf kind ?_)
  rw [if_pos (by decide)]
  refine wpAny_bind (ey_applied_rev q pl pu ps ?_)
  have off : ¬ ((((items.size : Int) - 1 == 0) && ((-1 : Int) == 1) && (items.size == items.size)) = true) := by
    rw [show ((-1 : Int) == 1) = false from rfl, Bool.and_false, Bool.false_and]
    exact Bool.false_ne_true
  show wpAny _ _ (if (((items.size : Int) - 1 == 0) && ((-1 : Int) == 1) && (items.size == items.size)) = true then _ else _) _ _ s
  rw [if_neg off, ey_back]
  first
    | exact wpAny_bind (m := Builtin.Tuple.tupleExact _) (wpAny_newObj_type (wpAny_pure ⟨_, rfl, wpAny_pure h⟩) fits)
    | exact wpAny_bind (m := Builtin.Tuple.tupleExact _) (wpAny_newObj_type (wpAny_bind (wpAny_pure (wpAny_pure ⟨_, rfl, wpAny_pure h⟩))) fits)
    | exact wpAny_bind (wpAny_bind (m := Builtin.Tuple.tupleExact _) (wpAny_newObj_type (wpAny_pure (wpAny_pure ⟨_, rfl, wpAny_pure h⟩)) fits))
    | exact wpAny_bind (wpAny_bind (m := Builtin.Tuple.tupleExact _) (wpAny_newObj_type (wpAny_pure ⟨_, rfl, wpAny_pure h⟩) fits))
end
section
variable {X : Cx}
/-- e[::-1], e a tuple or a text -/
def tRevA (K : PySem.W.Frag) (te : TE) : TE := fun σ H Q => te σ H fun x H1 => (∃ a xs, x = .ref a ∧ SqT K H1 a xs ∧ ∀ p, H1 p = none → Q (.ref p) (upd H1 p (.tup xs.reverse))) ∨ ∃ p : List Nat, x = .str (st p) ∧ p.length ≤ sizeLine ∧ Q (.str (st p.reverse)) H1
theorem sb_rev (p : List Nat) (u : Tok) : Txt.sliceBy (st p) none none (-1, u) = st p.reverse := by
  have e := step_rev_list (st p) u
  have e2 : (Txt.sliceBy (st p) none none (-1, u)) = st ((List.range p.length).map fun k => p.toArray.getD (p.length - 1 - k) 0) := by
    rw [st_of (Txt.sliceBy (st p) none none (-1, u)), e]
    rfl
  rw [e2]
  congr 1
  refine List.ext_getElem? fun i => ?_
  rw [List.getElem?_map]
  by_cases hi : i < p.length
  · rw [List.getElem?_range hi, List.getElem?_reverse hi]
    show some (p.toArray.getD (p.length - 1 - i) 0) = _
    rw [List.getElem?_eq_getElem (by omega)]
    congr 1
    simp [Array.getD, show p.length - 1 - i < p.length by omega]
  · rw [List.getElem?_eq_none (by rw [List.length_range]; omega), List.getElem?_eq_none (by rw [List.length_reverse]; omega)]
    rfl
theorem pe_revA {e : Expr} {te : TE} {k : Nat} {p1 p2 p3 pos : Pos} (he : PE X e te) : PE X (.Subscript e (.Slice none none (some (.UnaryOp .USub (.Constant (.int 1) k p1) p2)) p3) pos) (tRevA X.K te) := by
  refine ⟨fun pins s σ H Q I h => ?_⟩
  refine Subscript_ (thn (he.run pins s σ H _ I h) fun v s1 ⟨x, H1, I1, r1, q1⟩ => ?_)
  have step : PO X (some (.UnaryOp .USub (.Constant (.int 1) k p1) p2)) (tPart (tUn (rU fun i => .int (-i)) (tC (.int 1)))) := po_some (pe_un un_neg pe_int)
  refine wpAny_Slice (thn (po_none.run pins s1 σ H1 (fun o H2 => o = none ∧ H2 = H1) I1 ⟨rfl, rfl⟩) fun vl s2 ⟨lo, H2, I2, pl, ea, eb⟩ => ?_)
  subst ea eb
  refine thn (po_none.run pins s2 σ H2 (fun o H3 => o = none ∧ H3 = H2) I2 ⟨rfl, rfl⟩) fun vu s3 ⟨up, H3, I3, pu, ec, ed⟩ => ?_
  subst ec ed
  refine thn (step.run pins s3 σ H3 (fun o H4 => o = some (-1) ∧ H4 = H3) I3 ⟨1, rfl, -1, rfl, rfl, rfl⟩) fun vs s4 ⟨o, H4, I4, pst, ee, ef⟩ => ?_
  subst ee ef
  have I5 : Inv X pins σ H4 { s4 with heap := s4.heap.push { cls := .type "slice", data := .fields #[vl, vu, vs] } } := I4.kept (t' := s4.toks) fun b ob q => Heap.get?_push_of_some _ q
  rcases q1 with ⟨a, xs, ex, hx, q⟩ | ⟨p, ex, hz, q⟩
  · subst ex
    cases r1
    obtain ⟨its, r, it, hz⟩ := I5.tuple hx
    have hlen : its.toArray.size = xs.length := by rw [List.size_toArray]; exact r.length.symm
    show wpAny (model X.prog X.w) X.A (subscriptTail e (.Slice none none (some (.UnaryOp .USub (.Constant (.int 1) k p1) p2)) p3) (.ref a) (.ref s4.heap.objs.size)) (EP X pins σ Q) X.xe { s4 with heap := s4.heap.push { cls := .type "slice", data := .fields #[vl, vu, vs] } }
    refine tail_any (ops := [.ref a, .ref s4.heap.objs.size]) it.typeIs PyProof.Rows.slot_tuple_getitem.lookup ?_ (by with_unfolding_all rfl)
    refine ey_tuple_rev it (Heap.IsSliceOf.new _ vl vu vs) pl pu pst ?_ (by rw [hlen]; exact hz)
    refine ⟨.ref _, _, I5.laid (t' := s4.toks) (o := .tup xs.reverse) (fun b ob q => Heap.get?_push_of_some _ q) (Nat.le_refl _) ?_, rfl, q _ (I5.hok.fresh (Nat.le_refl _))⟩
    refine ⟨by rw [List.length_reverse]; exact hz, its.reverse, r.reverse, ?_⟩
    have := IsTup.new { s4 with heap := s4.heap.push { cls := .type "slice", data := .fields #[vl, vu, vs] } }.heap its.reverse.toArray
    simpa using this
  · subst ex
    obtain ⟨t, rfl⟩ := r1
    cases pl
    cases pu
    cases pst with
    | int _ u =>
      show wpAny (model X.prog X.w) X.A (subscriptTail e (.Slice none none (some (.UnaryOp .USub (.Constant (.int 1) k p1) p2)) p3) (.str (st p) t) (.ref s4.heap.objs.size)) (EP X pins σ Q) X.xe { s4 with heap := s4.heap.push { cls := .type "slice", data := .fields #[.none, .none, .int (-1) u] } }
      refine tail_any (ops := [.str (st p) t, .ref s4.heap.objs.size]) (typeIs_str _ _ _) F.slot_str_getitem.lookup ?_ (by with_unfolding_all rfl)
      refine wpAny_getItem_str_slice (l := none) (u := none) (st := some (-1, u)) ⟨_, Heap.get?_push_size _ rfl, rfl, rfl⟩ rfl ?_
      have made : sliceMade (st p) t none none (some (-1, u)) = .str (st p.reverse) := by
        rw [← sb_rev p u]
        rfl
      rw [made]
      refine ⟨?_, .str (st p.reverse), _, I5.tok _, ⟨_, rfl⟩, q⟩
      rw [st_len, List.length_reverse]
      exact hz
end
end Ey
set_option maxHeartbeats 4000000
namespace Ey
open PySem PySem.Spec L2
/-- a comprehension over a text -/
theorem lcStr {z : Str} {g : TG} {tests : TT} {each : TE} {slots : List Nat} {σ : L2.St} {H1 : Hp} {D : Addr} {Qd : Hp → Prop} (Pv : Nat → Hp → Prop) (h0 : Pv 0 (upd H1 D (.lst [])))
    (hs : ∀ i c H, z.cps.toList[i]? = some c → Pv i H → g (.str (st [c])) (wipe σ slots) H fun σ2 H2 => wipe σ2 slots = wipe σ slots ∧ tests σ2 H2 fun b H3 => if b = true then each σ2 H3 fun y H4 => ∃ acc, H4 D = some (.lst acc) ∧ acc.length < sizeLine ∧ Pv (i + 1) (upd H4 D (.lst (acc ++ [y]))) else Pv (i + 1) H3)
    (hd : ∀ H, Pv z.cps.toList.length H → Qd H) :
    ∃ W : Nat → Nat → Hp → Prop, (∃ m, W 0 m (upd H1 D (.lst []))) ∧ ∀ i m H, W i m H → ((Its z).stop i H ∧ Qd H) ∨ ((Its z).go i H ∧ ∃ Nx : Hp → Prop, (∀ H', Nx H' → ∃ m', m' < m ∧ W (i + 1) m' H') ∧ ∀ x H', (Its z).yld i H x H' → g x (wipe σ slots) H' fun σ2 H2 => wipe σ2 slots = wipe σ slots ∧ tests σ2 H2 fun b H3 => if b = true then each σ2 H3 fun y H4 => ∃ acc, H4 D = some (.lst acc) ∧ acc.length < sizeLine ∧ Nx (upd H4 D (.lst (acc ++ [y]))) else Nx H3) := by
  refine ⟨fun i m H => m = z.cps.size - i ∧ i ≤ z.cps.size ∧ Pv i H, ⟨_, rfl, Nat.zero_le _, h0⟩, fun i m H hw => ?_⟩
  obtain ⟨rfl, hi, p⟩ := hw
  by_cases lt : i < z.cps.size
  · refine .inr ⟨lt, Pv (i + 1), fun H' p' => ⟨z.cps.size - (i + 1), by omega, rfl, lt, p'⟩, fun v H' y => ?_⟩
    obtain ⟨rfl, c, hc, rfl⟩ := y
    exact hs i c _ (by rw [Array.getElem?_toList]; exact hc) p
  · have e : i = z.cps.size := by omega
    subst e
    exact .inl ⟨Nat.le_refl _, hd H (by rw [Array.length_toList]; exact p)⟩
theorem wd_get {ds : List PyData} {i : Nat} {d : PyData} (h : ds[i]? = some d) : wd d + 2 ≤ wdAll ds := by
  induction ds generalizing i with
  | nil => cases h
  | cons x r ih =>
    cases i with
    | zero =>
      have q : x = d := Option.some.inj h
      rw [q]
      show wd d + 2 ≤ wd d + 2 + wdAll r
      omega
    | succ i =>
      have := ih h
      show wd d + 2 ≤ wd x + 2 + wdAll r
      omega
theorem len_wd (ds : List PyData) : ds.length ≤ wdAll ds := by
  induction ds with
  | nil => exact Nat.le_refl _
  | cons x r ih =>
    show r.length + 1 ≤ wd x + 2 + wdAll r
    omega
theorem eqv_strs (ps : List Nat) : PyData.eqv (.list (ps.map fun c => .str (st [c]))) (.list []) = ps.isEmpty := by
  cases ps <;> rfl
theorem dp_signs {K : PySem.W.Frag} {H : Hp} : ∀ ps : List Nat, DpAll K H (ps.map fun c => V.str (st [c])) (ps.map fun c => .str (st [c]))
  | [] => .nil
  | c :: r => .cons (.str _) (dp_signs r)
theorem lay_signs : ∀ ps : List Nat, (∀ c ∈ ps, c < 1000) → PyData.canLayAll0 (ps.map fun c => .str (st [c])) = true ∧ PyData.depthAll (ps.map fun c => .str (st [c])) = 0
  | [], _ => ⟨rfl, rfl⟩
  | c :: r, h => by
    obtain ⟨a, b⟩ := lay_signs r fun x hx => h x (List.mem_cons_of_mem _ hx)
    refine ⟨?_, ?_⟩
    · show (PyData.canLay0 (.str (st [c])) && PyData.canLayAll0 (r.map fun c => .str (st [c]))) = true
      have q : PyData.canLay0 (.str (st [c])) = true := by
        have := h c List.mem_cons_self
        have e : (st [c]).cps = #[c] := rfl
        simp only [PyData.canLay0, PyData.strOk, e]
        simp
        omega
      rw [a, q]
      rfl
    · show max 0 (PyData.depthAll (r.map fun c => .str (st [c]))) = 0
      rw [b]
      rfl
theorem shaped_signs (ps : List Nat) (h : ∀ c ∈ ps, c < 1000) : SeqAt.shaped (.list (ps.map fun c => .str (st [c]))) = true := by
  obtain ⟨a, b⟩ := lay_signs ps h
  show (PyData.canLayAll0 (ps.map fun c => .str (st [c])) && decide (PyData.depthAll (ps.map fun c => .str (st [c])) + 1 ≤ 64)) = true
  rw [a, b]
  rfl
theorem isTag_alt (g : Str) (h1 : 1 ≤ g.length) (h2 : g.length ≤ 8) : isTag g = (g.cps.toList.filter fun c => !decide (c ∈ abc)).isEmpty := by
  rw [isTag, decide_eq_true h1, decide_eq_true h2]
  show (g.cps.toList.all fun c => decide (c ∈ abc)) = _
  generalize g.cps.toList = l
  induction l with
  | nil => rfl
  | cons a r ih =>
    rw [List.all_cons, List.filter_cons, ih]
    cases decide (a ∈ abc) <;> rfl
theorem take_filter {l : List Nat} {f : Nat → Bool} {i c : Nat} (h : l[i]? = some c) : (l.take (i + 1)).filter f = (l.take i).filter f ++ if f c = true then [c] else [] := by
  rw [List.take_add_one, h, List.filter_append]
  congr 1
  show List.filter f [c] = _
  rw [List.filter_cons]
  rfl
def wAny : Nat → Nat
  | 0 => 130
  | n + 1 => 3 * wAny n + 140
theorem wAny_ge : ∀ n, 130 ≤ wAny n
  | 0 => Nat.le_refl _
  | n + 1 => by
    have := wAny_ge n
    show 130 ≤ 3 * wAny n + 140
    omega
/-- what is told of a drawn value -/
structure Good (n w : Nat) (x : PyData) : Prop where
  f : fit x = true
  d : x.depth ≤ n
  w : wd x ≤ w
theorem Good.mono {n w n' w' : Nat} {x : PyData} (g : Good n w x) (h1 : n ≤ n') (h2 : w ≤ w') : Good n' w' x := ⟨g.f, Nat.le_trans g.d h1, Nat.le_trans g.w h2⟩
inductive GoodAll (n w : Nat) : List PyData → Prop
  | nil : GoodAll n w []
  | cons {x : PyData} {r : List PyData} : Good n w x → GoodAll n w r → GoodAll n w (x :: r)
theorem GoodAll.facts {n w : Nat} {ds : List PyData} (h : GoodAll n w ds) : fitAll ds = true ∧ PyData.depthAll ds ≤ n ∧ wdAll ds ≤ (w + 2) * ds.length := by
  induction h with
  | nil => exact ⟨rfl, Nat.zero_le _, Nat.zero_le _⟩
  | @cons x r g _ ih =>
    obtain ⟨a, b, c⟩ := ih
    refine ⟨?_, ?_, ?_⟩
    · show (fit x && fitAll r) = true
      rw [g.f, a]
      rfl
    · show max x.depth (PyData.depthAll r) ≤ n
      have := g.d
      omega
    · show wd x + 2 + wdAll r ≤ (w + 2) * (r.length + 1)
      have := g.w
      rw [Nat.mul_add]
      omega
theorem GoodAll.snoc {n w : Nat} {ds : List PyData} {x : PyData} (h : GoodAll n w ds) (g : Good n w x) : GoodAll n w (ds ++ [x]) := by
  induction h with
  | nil => exact .cons g .nil
  | cons a _ ih => exact .cons a ih
section
variable {ms ms' : List Addr} {H : Hp}
mutual
theorem An.mono (hs : ∀ x ∈ ms', x ∈ ms) : ∀ {v : V} (d : PyData), An ms H v d → An ms' H v d
  | _, .none, h => by cases h; exact .non
  | _, .bool b, h => by cases h; exact .bl b
  | _, .int i, h => by cases h; exact .int i
  | _, .str x, h => by cases h; exact .str x
  | _, .list ds, h => by
    cases h with
    | lst e n a => exact .lst e (fun q => n (hs _ q)) (AnAll.mono hs ds a)
  | _, .tuple ds, h => by
    cases h with
    | tup e a => exact .tup e (AnAll.mono hs ds a)
  | _, .dict ds, h => by
    cases h with
    | dct e n a => exact .dct e (fun q => n (hs _ q)) (AnKv.mono hs ds a)
theorem AnAll.mono (hs : ∀ x ∈ ms', x ∈ ms) : ∀ {vs : List V} (ds : List PyData), AnAll ms H vs ds → AnAll ms' H vs ds
  | _, [], h => by cases h; exact .nil
  | _, d :: r, h => by
    cases h with
    | cons a b => exact .cons (An.mono hs d a) (AnAll.mono hs r b)
theorem AnKv.mono (hs : ∀ x ∈ ms', x ∈ ms) : ∀ {vs : List (Key × V)} (ds : List (PyData × PyData)), AnKv ms H vs ds → AnKv ms' H vs ds
  | _, [], h => by cases h; exact .nil
  | _, (y, d) :: r, h => by
    cases h with
    | cons a b => exact .cons (An.mono hs d a) (AnKv.mono hs r b)
end
end
section
variable {X : Cx}
/-- t[lo:hi] of a tuple, as one case -/
def rCut : V → Option Int → Option Int → Hp → VK → Prop := fun x lo hi H Q => ∃ (a : Addr) (xs : List V), x = .ref a ∧ H a = some (.tup xs) ∧ ∀ (q : Addr) (H' : Hp), H' q = some (.tup (cutV xs lo hi)) → Kp [] H H' → Q (.ref q) H'
theorem sl_cut : SlR X rCut := by
  intro pins s σ H x v vl vu lo hi sl Q I rx hs pl pu h
  obtain ⟨a, xs, rfl, e, k⟩ := h
  refine sl_tupA pins s σ H _ v vl vu lo hi sl Q I rx hs pl pu ⟨a, xs, rfl, sqt_of e, fun w => k a H ?_ .refl, fun _ p np => k p _ upd_same (.new np)⟩
  have whole : cutV xs lo hi = xs := by
    unfold cutV
    rw [w.1, w.2, List.drop_zero, Nat.sub_zero, List.take_length]
  rw [whole]
  exact e
/-- t + u of tuples, as one case -/
def rCat2 : R2 := fun x y H Q => ∃ (a b : Addr) (xs ys : List V), x = .ref a ∧ y = .ref b ∧ H a = some (.tup xs) ∧ H b = some (.tup ys) ∧ xs.length + ys.length ≤ sizeLine ∧ ∀ (q : Addr) (H' : Hp), H' q = some (.tup (xs ++ ys)) → Kp [] H H' → Q (.ref q) H'
theorem op_cat2 : OpR X (binaryOp .Add) rCat2 := by
  intro pins s σ H x y v u Q I rx ry h
  obtain ⟨a, b, xs, ys, rfl, rfl, ea, eb, hz, k⟩ := h
  refine op_catA pins s σ H _ _ v u Q I rx ry ⟨a, b, xs, ys, rfl, rfl, sqt_of ea, sqt_of eb, hz, fun e => k b H ?_ .refl, fun _ e => k a H ?_ .refl, fun _ _ p np => k p _ upd_same (.new np)⟩
  · rw [e]
    exact eb
  · rw [e, List.append_nil]
    exact ea
theorem cut_take (xs : List V) (i : Nat) : cutV xs none (some (i : Int)) = xs.take i := by
  unfold cutV
  rw [HT.sIx_none, HT.sIx_nat, List.drop_zero, Nat.sub_zero, ← List.take_take, List.take_length]
theorem cut_drop (xs : List V) (i : Nat) : cutV xs (some (i : Int)) none = xs.drop i := by
  unfold cutV
  rw [HT.sIx_none, HT.sIx_nat]
  by_cases h : i ≤ xs.length
  · rw [Nat.min_eq_left h]
    exact List.take_of_length_le (by rw [List.length_drop]; exact Nat.le_refl _)
  · rw [Nat.min_eq_right (by omega), Nat.sub_self, List.take_zero, List.drop_of_length_le (by omega)]
theorem pe_nev {e : Expr} : PE X e (fun _ _ _ => False) := ⟨fun _ _ _ _ _ _ h => h.elim⟩
end
theorem goodAll_of {n w : Nat} : ∀ ds : List PyData, (∀ x ∈ ds, Good n w x) → GoodAll n w ds
  | [], _ => .nil
  | x :: r, h => .cons (h x List.mem_cons_self) (goodAll_of r fun y hy => h y (List.mem_cons_of_mem _ hy))
theorem two_good {n w : Nat} {x y : PyData} (a : Good n w x) (b : Good n w y) : Good (n + 1) (2 * w + 7) (.tuple [x, y]) := by
  refine ⟨?_, ?_, ?_⟩
  · show (fit x && (fit y && true)) = true
    rw [a.f, b.f]
    rfl
  · show max x.depth (max y.depth 0) + 1 ≤ n + 1
    have := a.d
    have := b.d
    omega
  · show wd x + 2 + (wd y + 2 + 0) + 3 ≤ 2 * w + 7
    have := a.w
    have := b.w
    omega
theorem bl_good (b : Bool) : Good 0 5 (.bool b) := ⟨rfl, Nat.le_refl _, Nat.le_refl _⟩
end Ey
set_option maxHeartbeats 4000000
namespace Ey
open PySem PySem.Spec L2
def topS (i : Nat) : Stmt := PySem.Challenge.pw_eyesonly_k31_rows_read_and_set.main.body.getD i (.Pass ⟨0, 0, 0, 0⟩)
abbrev sDeck : Stmt := topS 21
abbrev sDraw : Stmt := topS 22
abbrev sPick : Stmt := topS 23
/-- what the module leaves of the built-in names -/
structure BI (mg : Str → Option Value) : Prop where
  int : mg "int" = none
  max : mg "max" = none
  list : mg "list" = none
  len : mg "len" = none
  range : mg "range" = none
  tuple : mg "tuple" = none
  sorted : mg "sorted" = none
  repr : mg "repr" = none
  isi : mg "isinstance" = none
  str : mg "str" = none
  all : mg "all" = none
  bool : mg "bool" = none
  zip : mg "zip" = none
/-! ### the deck -/
def kLeft : Key := .inr "cells"
def kMix : Key := .inr "mixed"
def kDraw : Key := .inr "draws"
theorem kLM : ¬ kLeft = kMix := by decide +kernel
theorem kLD : ¬ kLeft = kDraw := by decide +kernel
theorem kMD : ¬ kMix = kDraw := by decide +kernel
def deckD (l : Addr) (m n : Int) : List (Key × V) := [(kLeft, .ref l), (kMix, .int m), (kDraw, .int n)]
section
variable (l : Addr) (m n : Int)
theorem deck_left : valV (deckD l m n) kLeft = some (.ref l) := valV_pos rfl
theorem deck_mix : valV (deckD l m n) kMix = some (.int m) := (valV_neg kLM).trans (valV_pos rfl)
theorem deck_draw : valV (deckD l m n) kDraw = some (.int n) := (valV_neg kLD).trans ((valV_neg kMD).trans (valV_pos rfl))
theorem put_mix (z : Int) : putK (deckD l m n) kMix (.int z) = deckD l z n := by
  have h : ((deckD l m n).any fun kv => decide (kv.1 = kMix)) = true := by rw [valV_any, deck_mix]; rfl
  unfold putK
  rw [if_pos h]
  have h2 : ¬ kDraw = kMix := fun e => kMD e.symm
  simp [deckD, kLM, h2]
theorem put_draw (z : Int) : putK (deckD l m n) kDraw (.int z) = deckD l m z := by
  have h : ((deckD l m n).any fun kv => decide (kv.1 = kDraw)) = true := by rw [valV_any, deck_draw]; rfl
  unfold putK
  rw [if_pos h]
  simp [deckD, kLD, kMD]
end
theorem merge_deck (l : Addr) (m n : Int) : mergeK [] (deckD l m n) = deckD l m n := by
  have e1 : putK ([] : List (Key × V)) kLeft (.ref l) = [(kLeft, .ref l)] := putK_new _ rfl
  have e2 : putK [(kLeft, V.ref l)] kMix (.int m) = [(kLeft, V.ref l), (kMix, .int m)] := putK_new _ (valV_neg kLM)
  have e3 : putK [(kLeft, V.ref l), (kMix, V.int m)] kDraw (.int n) = deckD l m n := putK_new _ ((valV_neg kLD).trans (valV_neg kMD))
  show putK (putK (putK [] kLeft (.ref l)) kMix (.int m)) kDraw (.int n) = _
  rw [e1, e2, e3]
theorem deck_sz (l : Addr) (m n : Int) : (deckD l m n).length < sizeLine := small1000 (by show 3 ≤ 1000; decide)
section
variable {H : Hp} {d l : Addr} {m n : Int}
theorem get_left (h : H d = some (.dK (deckD l m n))) : DGet H d (kV kLeft) (some (.ref l)) := deck_left l m n ▸ DGet.k h
theorem get_mix (h : H d = some (.dK (deckD l m n))) : DGet H d (kV kMix) (some (.int m)) := deck_mix l m n ▸ DGet.k h
theorem get_draw (h : H d = some (.dK (deckD l m n))) : DGet H d (kV kDraw) (some (.int n)) := deck_draw l m n ▸ DGet.k h
theorem set_mix (h : H d = some (.dK (deckD l m n))) (z : Int) : DPut H d (kV kMix) (.int z) (upd H d (.dK (deckD l z n))) := put_mix l m n z ▸ DPut.k h (deck_sz l m n)
theorem set_draw (h : H d = some (.dK (deckD l m n))) (z : Int) : DPut H d (kV kDraw) (.int z) (upd H d (.dK (deckD l m z))) := put_draw l m n z ▸ DPut.k h (deck_sz l m n)
end
structure DeckAt (H : Hp) (d l : Addr) : Prop where
  ex : ∃ (m n : Int) (ns : List Int), H d = some (.dK (deckD l m n)) ∧ H l = some (.lst (ns.map V.int)) ∧ ns.length ≤ 63
theorem DeckAt.ne {H : Hp} {d l : Addr} (D : DeckAt H d l) : d ≠ l := by
  obtain ⟨m, n, ns, h1, h2, _⟩ := D.ex
  exact ne_of h1 h2 (by intro z; cases z)
theorem DeckAt.kp {ms : List Addr} {H H1 : Hp} {d l : Addr} (D : DeckAt H d l) (k : Kp ms H H1) (nd : d ∉ ms) (nl : l ∉ ms) : DeckAt H1 d l := by
  obtain ⟨m, n, ns, h1, h2, h3⟩ := D.ex
  exact ⟨m, n, ns, k.at_ _ _ h1 nd, k.at_ _ _ h2 nl, h3⟩
def spDraw : Sp := fun vs H Q _ => ∃ (d l : Addr) (many : Int), vs = [.ref d, .int many] ∧ DeckAt H d l ∧ 0 < many ∧ many < 1073741824 ∧
  ∀ (r : Int) (H' : Hp), 0 ≤ r → r < many → DeckAt H' d l → Kp [d, l] H H' → Q (.int r) H'
section
variable {P : Program} {w : World} {K : PySem.W.Frag} {mg : Str → Option Value} {base : Heap}
theorem scDraw : FnScope ["_law_deck_here", "_law_many", "_law_number", "_law_cell"] ["_law_deck_here", "_law_many"] (defScope sDraw) := ⟨rfl, rfl, rfl, by decide +kernel, rfl, by decide +kernel, by decide +kernel⟩
theorem fmod_lt {i j : Int} (h : 0 < j) : 0 ≤ i.fmod j ∧ i.fmod j < j := ⟨Int.fmod_nonneg_of_pos _ h, Int.fmod_lt_of_pos _ h⟩
theorem fdiv_ne : (2147483647 : Int) ≠ 0 := by decide
theorem lt64 {i : Int} (h0 : 0 ≤ i) (h1 : i < 2147483647) : -(2 ^ 64) < i ∧ i < 2 ^ 64 := by
  constructor
  · exact Int.lt_of_lt_of_le (by decide) h0
  · exact Int.lt_trans h1 (by decide)
theorem eqv_nil (ns : List Int) : PyData.eqv (.list (ns.map PyData.int)) (.list []) = ns.isEmpty := by
  cases ns <;> rfl
theorem dp_ints {K : PySem.W.Frag} {H : Hp} : ∀ ns : List Int, DpAll K H (ns.map V.int) (ns.map PyData.int)
  | [] => .nil
  | n :: r => .cons (.int n) (dp_ints r)
theorem lay_ints : ∀ ns : List Int, PyData.canLayAll0 (ns.map PyData.int) = true ∧ PyData.depthAll (ns.map PyData.int) = 0
  | [] => ⟨rfl, rfl⟩
  | n :: r => by
    obtain ⟨a, b⟩ := lay_ints r
    refine ⟨?_, ?_⟩
    · show (PyData.canLay0 (.int n) && PyData.canLayAll0 (r.map PyData.int)) = true
      rw [a]
      rfl
    · show max 0 (PyData.depthAll (r.map PyData.int)) = 0
      rw [b]
      rfl
theorem shaped_ints (ns : List Int) : SeqAt.shaped (.list (ns.map PyData.int)) = true := by
  obtain ⟨a, b⟩ := lay_ints ns
  show (PyData.canLayAll0 (ns.map PyData.int) && decide (PyData.depthAll (ns.map PyData.int) + 1 ≤ 64)) = true
  rw [a, b]
  rfl
theorem ok_draw {f : Addr} {fd : FuncData} (F : Fun K "_law_draw" "_law_draw" sDraw f fd) (B : BI mg) : FnOk P w K mg base CX0 1 f fd ["_law_deck_here", "_law_many"] spDraw := by
  refine F.ok scDraw (fun vs H Q E h => ?_) (fun cdv A outer s H vs Q E hr h => ?_)
  · obtain ⟨d, l, many, rfl, _⟩ := h
    rfl
  · obtain ⟨d, l, many, rfl, D, m0, m1, k⟩ := h
    have hu := hu_of hr
    have mne : many ≠ 0 := by omega
    -- the tail: number, number, number, return
    obtain ⟨tt, dt, rt⟩ : ∃ tt, PSs (cxOf CX0 P w K mg base ["_law_deck_here", "_law_many", "_law_number", "_law_cell"] "_law_draw" (defScope sDraw) f cdv A outer s H E).nox ((defBody sDraw).drop 3) tt ∧
        ∀ (H2 : Hp) (z : Int) (y : Option V), DeckAt H2 d l → Kp [d, l] H H2 → tt { nx := fun _ H' => Q .non H', rt := Q } [some (.ref d), some (.int many), some (.int z), y] H2 := by
      refine ⟨_, pss_cons (ps_set (i := 2) scDraw.nd rfl (.inl rfl) (pe_op op_modN (pe_callTy call_int1 (by rfl) B.int (by decide +kernel) (pa_cons (pe_op op_add (pe_op op_mul (pv 2) pe_int) pe_int) pa_nil)) pe_int))
        (pss_cons (ps_set (i := 2) scDraw.nd rfl (.inl rfl) (pe_op op_modN (pe_callTy call_int1 (by rfl) B.int (by decide +kernel) (pa_cons (pe_op op_add (pe_op op_add (pe_op op_mul (pv 2) (pv 2)) (pe_op op_mul pe_int (pe_dget hu (pv 0) pe_str (fun _ _ => rfl)))) pe_int) pa_nil)) pe_int))
        (pss_cons (ps_set (i := 2) scDraw.nd rfl (.inl rfl) (pe_op op_modN (pe_callTy call_int1 (by rfl) B.int (by decide +kernel) (pa_cons (pe_op op_mul (pv 2) pe_int) pa_nil)) pe_int))
        (pss_one (ps_ret (pe_op op_modN (pe_callTy call_int1 (by rfl) B.int (by decide +kernel) (pa_cons (pe_op op_fdivN (pv 2) pe_int) pa_nil)) (pv 1)))))), fun H2 z y D2 k2 => ?_⟩
      obtain ⟨m, n, ns, hd, hl, hn⟩ := id D2
      refine ⟨_, rfl, _, _, rfl, rfl, .inr ⟨by decide, by decide⟩, _, _, rfl, rfl, .inl ⟨_, rfl, ?_⟩⟩
      refine ⟨_, _, rfl, rfl, (by decide : (2147483579 : Int) ≠ 0), ?_⟩
      have b1 := fmod_lt (i := z * 39373 + 115) (j := 2147483579) (by decide)
      refine ⟨_, rfl, _, rfl, _, _, rfl, rfl, .inl (lt64 b1.1 (Int.lt_trans b1.2 (by decide))), _, rfl, d, _, rfl, get_draw hd, _, _, rfl, rfl, .inl ⟨by decide, by decide⟩, _, _, rfl, rfl, _, _, rfl, rfl, .inl ⟨_, rfl, ?_⟩⟩
      refine ⟨_, _, rfl, rfl, (by decide : (2147483647 : Int) ≠ 0), ?_⟩
      have b2 := fmod_lt (i := (z * 39373 + 115).fmod 2147483579 * (z * 39373 + 115).fmod 2147483579 + 52361 * n + 227) (j := 2147483647) (by decide)
      refine ⟨_, rfl, _, _, rfl, rfl, .inl (lt64 b2.1 b2.2), .inl ⟨_, rfl, ?_⟩⟩
      refine ⟨_, _, rfl, rfl, (by decide : (2147483563 : Int) ≠ 0), ?_⟩
      refine ⟨_, rfl, _, _, rfl, rfl, (⟨by decide, by decide⟩ : (64 : Int) ≠ 0 ∧ (64 : Int).natAbs < 1073741824), .inl ⟨_, rfl, _, rfl, _, _, rfl, rfl, mne, ?_⟩⟩
      have b3 := fun i : Int => fmod_lt (i := i) m0
      exact k _ H2 (b3 _).1 (b3 _).2 D2 k2
    refine ⟨_, pss_cons (ps_dput hu (pv 0) pe_str (pe_op op_add (pe_dget hu (pv 0) pe_str (fun _ _ => rfl)) pe_int) rfl)
      (pss_cons (ps_set (i := 2) scDraw.nd rfl (.inl rfl) (pe_op op_add (pe_dget hu (pv 0) pe_str (fun _ _ => rfl)) (pe_op op_mul pe_int (pe_dget hu (pv 0) pe_str (fun _ _ => rfl)))))
      (pss_cons (ps_if (pt_cmpR (op_neD hr.units) (pe_dget hu (pv 0) pe_str (fun _ _ => rfl)) (pe_lst pa_nil) (nomark _))
        (pss_cons (ps_set (i := 3) scDraw.nd rfl (.inl rfl) (pe_bm0 PySem.F.plainAttrs_list PySem.F.slot_list_pop PySem.F.type_list_pop mt_pop (pe_dget hu (pv 0) pe_str (fun _ _ => rfl))))
        (pss_cons (ps_if (pt_cmpR op_ge (pv 3) (pe_op op_pow pe_int pe_int) (nomark _))
          (pss_cons (ps_expr (pe_bm PySem.F.plainAttrs_list PySem.F.slot_list_append PySem.F.type_list_append mt_append (pe_dget hu (pv 0) pe_str (fun _ _ => rfl))
            (pa_cons (pe_op op_fdivN (pv 3) (pe_callB (call_max2 rfl) (by rfl) B.max (by decide +kernel) (pa_cons pe_int (pa_cons (pv 1) pa_nil)))) pa_nil)))
          (pss_one (ps_ret (pe_op op_modN (pe_callTy call_int1 (by rfl) B.int (by decide +kernel) (pa_cons (pv 3) pa_nil)) (pv 1))))) pss_nil)
        (pss_one (ps_set (i := 2) scDraw.nd rfl (.inl rfl) (pe_op op_add (pv 2) (pe_op op_modN (pe_callTy call_int1 (by rfl) B.int (by decide +kernel) (pa_cons (pv 3) pa_nil)) pe_int)))))) pss_nil)
      dt)), ?_⟩
    obtain ⟨m, n, ns, hd, hl, hn⟩ := D.ex
    have ndl := D.ne
    -- deck['draws'] = deck['draws'] + 1
    refine ⟨_, rfl, d, _, rfl, get_draw hd, _, _, rfl, rfl, _, rfl, d, _, rfl, set_draw hd _, ?_⟩
    have kd : Kp [d, l] H (upd H d (.dK (deckD l m (n + 1)))) := .put (by simp) hd (fun xs z => by cases z)
    have hd1 : (upd H d (.dK (deckD l m (n + 1)))) d = some (.dK (deckD l m (n + 1))) := upd_same
    have hl1 : (upd H d (.dK (deckD l m (n + 1)))) l = some (.lst (ns.map V.int)) := by rw [upd_ne ndl.symm]; exact hl
    generalize upd H d (.dK (deckD l m (n + 1))) = H1 at kd hd1 hl1
    -- number
    refine ⟨_, rfl, d, _, rfl, get_mix hd1, _, rfl, d, _, rfl, get_draw hd1, _, _, rfl, rfl, .inl ⟨by decide, by decide⟩, _, _, rfl, rfl, ?_⟩
    -- if deck['cells'] != []
    refine ⟨_, rfl, d, _, rfl, get_left hd1, Nat.zero_le _, fun p np => ⟨.list (ns.map PyData.int), .list [], .lst (sql_of (by rw [upd_ne (ne_of_none hl1 np)]; exact hl1)) (dp_ints ns), .lst (sql_of upd_same) .nil, shaped_ints ns, rfl, ?_⟩⟩
    rw [eqv_nil]
    have kp : Kp [d, l] H (upd H1 p (.lst [])) := kd.trans (.new np)
    have hd2 : (upd H1 p (.lst [])) d = some (.dK (deckD l m (n + 1))) := by rw [upd_ne (ne_of_none hd1 np)]; exact hd1
    have hl2 : (upd H1 p (.lst [])) l = some (.lst (ns.map V.int)) := by rw [upd_ne (ne_of_none hl1 np)]; exact hl1
    generalize upd H1 p (.lst []) = H2 at kp hd2 hl2
    refine ⟨_, rfl, ?_⟩
    cases e : ns.isEmpty with
    | true =>
      refine iteF ?_
      exact rt H2 _ _ ⟨_, _, _, hd2, hl2, hn⟩ kp
    | false =>
      refine iteT ?_
      -- the last cell
      obtain ⟨ini, z, rfl⟩ : ∃ ini z, ns = ini ++ [z] := by
        refine ⟨ns.dropLast, ns.getLast (fun q => by rw [q] at e; cases e), (List.dropLast_concat_getLast _).symm⟩
      have lst : ((ini ++ [z]).map V.int)[((ini ++ [z]).map V.int).length - 1]? = some (.int z) := by
        rw [List.map_append, List.length_append]
        show (ini.map V.int ++ [V.int z])[(ini.map V.int).length + 1 - 1]? = _
        rw [Nat.add_sub_cancel, List.getElem?_append_right (Nat.le_refl _), Nat.sub_self]
        rfl
      have dr : ((ini ++ [z]).map V.int).dropLast = ini.map V.int := by
        rw [List.map_append]
        exact List.dropLast_concat
      rw [List.length_append] at hn
      have hn' : ini.length + 1 ≤ 63 := hn
      refine ⟨_, rfl, d, _, rfl, get_left hd2, .inl ⟨rfl, _, sql_of hl2⟩, l, _, _, rfl, rfl, hl2, lst, ?_⟩
      rw [dr]
      have k3 : Kp [d, l] H (upd H2 l (.lst (ini.map V.int))) := kp.trans (.put (by simp) hl2 (fun xs z => by cases z))
      have hd3 : (upd H2 l (.lst (ini.map V.int))) d = some (.dK (deckD l m (n + 1))) := by rw [upd_ne ndl]; exact hd2
      have hl3 : (upd H2 l (.lst (ini.map V.int))) l = some (.lst (ini.map V.int)) := upd_same
      generalize upd H2 l (.lst (ini.map V.int)) = H3 at k3 hd3 hl3
      -- if cell >= 10 ** 18
      refine ⟨_, rfl, _, _, rfl, rfl, (⟨by decide, by decide, by decide⟩ : (0 : Int) ≤ 18 ∧ (18 : Int) ≤ 1000000 ∧ (10 : Int).natAbs < 2 ^ 64), _, _, rfl, rfl, _, rfl, ite2 (fun _ => ?_) (fun _ => ?_)⟩
      · -- append, return
        refine ⟨_, rfl, d, _, rfl, get_left hd3, .inl ⟨rfl, _, sql_of hl3⟩, _, rfl, _, rfl, _, _, rfl, _, _, rfl, rfl, ?_, ?_⟩
        · show (if many > 2 then many else 2) ≠ 0 ∧ (if many > 2 then many else 2).natAbs < 1073741824
          split <;> omega
        · refine ⟨l, _, _, rfl, rfl, hl3, ?_, ?_⟩
          · rw [List.length_map]
            exact small1000 (by omega)
          · refine ⟨_, rfl, .inl ⟨_, rfl, _, rfl, _, _, rfl, rfl, mne, ?_⟩⟩
            have b3 := fun i : Int => fmod_lt (i := i) m0
            refine k _ _ (b3 _).1 (b3 _).2 ⟨m, n + 1, ini ++ [z.fdiv (if many > 2 then many else 2)], ?_, ?_, ?_⟩ (k3.trans (.put (by simp) hl3 (fun xs z => by cases z)))
            · rw [upd_ne ndl]
              exact hd3
            · rw [upd_same, List.map_append]
              rfl
            · rw [List.length_append]
              show ini.length + 1 ≤ 63
              omega
      · refine ⟨_, rfl, _, rfl, .inl ⟨_, rfl, _, _, rfl, rfl, (by decide : (2147483629 : Int) ≠ 0), _, _, rfl, rfl, ?_⟩⟩
        exact rt _ _ _ ⟨_, _, ini, hd3, hl3, by omega⟩ k3
theorem cut63 (xs : List V) (h : xs.length ≤ 63) : cutV xs none (some 63) = xs := by
  unfold cutV
  rw [HT.sIx_none, show HT.sIx xs.length xs.length (some 63) = min 63 xs.length from HT.sIx_nat _ _ 63, Nat.min_eq_right h]
  show List.take xs.length xs = xs
  exact List.take_length
theorem scDeck : FnScope ["_law_script", "_law_mixed", "_law_cell"] ["_law_script"] (defScope sDeck) := ⟨rfl, rfl, rfl, by decide +kernel, rfl, by decide +kernel, by decide +kernel⟩
def spDeck (K : PySem.W.Frag) : Sp := fun vs H Q _ => ∃ (a : Addr) (ns : List Int), vs = [.ref a] ∧ SqL K H a (ns.map V.int) ∧ ns.length ≤ 63 ∧
  ∀ (d l : Addr) (H' : Hp), DeckAt H' d l → Kp [] H H' → H d = none → H l = none → Q (.ref d) H'
theorem ok_deck {f : Addr} {fd : FuncData} (F : Fun K "_law_deck" "_law_deck" sDeck f fd) (B : BI mg) : FnOk P w K mg base CX0 1 f fd ["_law_script"] (spDeck K) := by
  refine F.ok scDeck (fun vs H Q E h => ?_) (fun cdv A outer s H vs Q E hr h => ?_)
  · obtain ⟨a, ns, rfl, _⟩ := h
    rfl
  · obtain ⟨a, ns, rfl, hS, hn, k⟩ := h
    refine ⟨_, pss_cons (ps_set (i := 1) scDeck.nd rfl (.inl rfl) pe_int)
      (pss_cons (ps_for PassesOwn.never rfl (pi_list (pe_slice sl_list (pv 0) po_none (po_some pe_int))) (pg_name (i := 2) scDeck.nd rfl (.inl rfl))
        (pss_one (ps_set (i := 1) scDeck.nd rfl (.inl rfl) (pe_op op_modN (pe_callTy call_int1 (by rfl) B.int (by decide +kernel) (pa_cons (pe_op op_add (pe_op op_add (pe_op op_mul (pv 1) pe_int)
          (pe_op op_modN (pe_callTy call_int1 (by rfl) B.int (by decide +kernel) (pa_cons (pv 2) pa_nil)) pe_int)) pe_int) pa_nil)) pe_int))))
      (pss_one (ps_ret (pe_disp (pps_cons pe_str (pe_revL (pe_callTy call_list_of (by rfl) B.list (by decide +kernel) (pa_cons (pe_slice sl_list (pv 0) po_none (po_some pe_int)) pa_nil)))
        (pps_cons pe_str (pv 1) (pps_cons pe_str pe_int pps_nil))) (by rfl) (by rfl) (fun z => by cases z) (by decide))))), ?_⟩
    have hl63 : (ns.map V.int).length ≤ 63 := by rw [List.length_map]; exact hn
    refine ⟨_, rfl, 63, rfl, a, ns.map V.int, rfl, hS, fun c nc => ?_⟩
    rw [cut63 _ hl63]
    have k0 : Kp [] H (upd H c (.lst (ns.map V.int))) := .new nc
    refine ⟨c, rfl, ⟨_, sql_of upd_same⟩, for_list (K := K) (a := c) (xs := ns.map V.int) (fun i σ H2 => ∃ (m : Int) (y : Option V), σ = [some (.ref a), some (.int m), y] ∧ Kp [] H H2 ∧ SqL K H2 c (ns.map V.int))
      ⟨_, none, rfl, k0, sql_of upd_same⟩ (fun i σ H2 _ ⟨_, _, _, _, q⟩ => q) ?_ ?_⟩
    · rintro i x σ H2 hi ⟨m, y, rfl, k2, hc⟩
      obtain ⟨z, rfl⟩ : ∃ z, x = V.int z := by
        rw [List.getElem?_map] at hi
        obtain ⟨z, _, e⟩ := Option.map_eq_some_iff.mp hi
        exact ⟨z, e.symm⟩
      refine ⟨_, rfl, _, _, rfl, rfl, .inr ⟨by decide, by decide⟩, _, rfl, .inl ⟨_, rfl, _, _, rfl, rfl, (by decide : (2147483629 : Int) ≠ 0), _, _, rfl, rfl, _, _, rfl, rfl, .inl ⟨_, rfl, ?_⟩⟩⟩
      exact ⟨_, _, rfl, rfl, (by decide : (2147483549 : Int) ≠ 0), _, _, rfl, k2, hc⟩
    · rintro σ H2 ⟨m, y, rfl, k2, hc⟩
      intro d nd
      have kd : Kp [] H2 (upd H2 d (.dK [])) := .new nd
      have hdd : (upd H2 d (.dK [])) d = some (.dK []) := upd_same
      generalize upd H2 d (.dK []) = H3 at kd hdd
      have hS3 : SqL K H3 a (ns.map V.int) := (k2.trans kd).lst List.not_mem_nil hS
      refine ⟨_, rfl, 63, rfl, a, ns.map V.int, rfl, hS3, fun e ne => ?_⟩
      rw [cut63 _ hl63]
      refine ⟨e, _, rfl, .inl (sql_of upd_same), fun g ng => ?_⟩
      refine ⟨g, _, rfl, sql_of upd_same, fun l nl => ?_⟩
      have k5 : Kp [] H3 (upd (upd (upd H3 e (.lst (ns.map V.int))) g (.lst (ns.map V.int))) l (.lst (ns.map V.int).reverse)) := (Kp.new ne).trans ((Kp.new ng).trans (Kp.new nl))
      have hl5 : (upd (upd (upd H3 e (.lst (ns.map V.int))) g (.lst (ns.map V.int))) l (.lst (ns.map V.int).reverse)) l = some (.lst (ns.map V.int).reverse) := upd_same
      have nl3 : H3 l = none := ((Kp.new (ms := []) ne).trans (Kp.new ng)).free nl List.not_mem_nil
      generalize upd (upd (upd H3 e (.lst (ns.map V.int))) g (.lst (ns.map V.int))) l (.lst (ns.map V.int).reverse) = H4 at k5 hl5
      have hd4 : H4 d = some (.dK []) := k5.at_ _ _ hdd List.not_mem_nil
      refine ⟨_, rfl, hd4, deckD l m 0, rfl, by show 3 ≤ 15; decide, ?_⟩
      rw [merge_deck]
      have ndl : d ≠ l := ne_of hd4 hl5 (by intro z; cases z)
      refine k d l _ ⟨m, 0, ns.reverse, upd_same, ?_, by rw [List.length_reverse]; exact hn⟩ ?_ (k2.free nd List.not_mem_nil) ((k2.trans kd).free nl3 List.not_mem_nil)
      · rw [upd_ne ndl.symm, hl5, List.map_reverse]
      · refine ⟨fun b o e1 _ => ?_, fun b xs e1 => ?_⟩
        · have nb : b ≠ d := ne_of_none e1 (k2.free nd List.not_mem_nil)
          rw [upd_ne nb]
          exact k5.at_ _ _ (kd.at_ _ _ (k2.at_ _ _ e1 List.not_mem_nil) List.not_mem_nil) List.not_mem_nil
        · have nb : b ≠ d := ne_of_none e1 (k2.free nd List.not_mem_nil)
          rw [upd_ne nb]
          exact k5.tup _ _ (kd.tup _ _ (k2.tup _ _ e1))
theorem scPick : FnScope ["_law_deck_here", "_law_some"] ["_law_deck_here", "_law_some"] (defScope sPick) := ⟨rfl, rfl, rfl, by decide +kernel, rfl, by decide +kernel, by decide +kernel⟩
def spPick (K : PySem.W.Frag) : Sp := fun vs H Q _ => ∃ (d l a : Addr) (xs : List V), vs = [.ref d, .ref a] ∧ DeckAt H d l ∧ SqL K H a xs ∧ xs ≠ [] ∧ xs.length ≤ 1000000 ∧ a ≠ d ∧ a ≠ l ∧
  ∀ (x : V) (H' : Hp), x ∈ xs → DeckAt H' d l → Kp [d, l] H H' → Q x H'
/-- a def of the module, as callers need it -/
structure Df (K : PySem.W.Frag) (mg : Str → Option Value) (x : Str) (st : Stmt) (ps : List Str) (f : Addr) (fd : FuncData) : Prop where
  F : Fun K x x st f fd
  b : Binds K fd ps []
  g : mg x = some (.ref f)
theorem ok_pick {f fD : Addr} {fd fdD : FuncData} (F : Fun K "_law_pick" "_law_pick" sPick f fd) (B : BI mg) (D : Df K mg "_law_draw" sDraw ["_law_deck_here", "_law_many"] fD fdD) : FnOk P w K mg base CX0 2 f fd ["_law_deck_here", "_law_some"] (spPick K) := by
  refine F.ok scPick (fun vs H Q E h => ?_) (fun cdv A outer s H vs Q E hr h => ?_)
  · obtain ⟨d, l, a, xs, rfl, _⟩ := h
    rfl
  · obtain ⟨d, l, a, xs, rfl, DA, hS, hne, hlen, had, hal, k⟩ := h
    refine ⟨_, pss_one (ps_ret (pe_ix ix_list (pv 1) (pe_call (ok_draw D.F B) hr (by rfl) D.g D.F.kp D.b .nil pass0 (pa_cons (pv 0) (pa_cons (pe_callB call_len_seq (by rfl) B.len PySem.boot_len (pa_cons (pv 1) pa_nil)) pa_nil))) (fun _ _ => rfl))), ?_⟩
    have hpos : 0 < xs.length := List.length_pos_iff.mpr hne
    refine ⟨_, rfl, _, rfl, _, rfl, a, xs, rfl, .inl hS, d, l, _, rfl, DA, by omega, by omega, fun r H' r0 r1 D' kp => ?_⟩
    have hn : a ∉ [d, l] := by simp [had, hal]
    obtain ⟨i, rfl⟩ : ∃ i : Nat, r = (i : Int) := ⟨r.toNat, by omega⟩
    have hi : i < xs.length := by omega
    refine ⟨a, xs, _, xs[i], rfl, rfl, kp.lst hn hS, ?_, ?_⟩
    · exact atI_nat (List.getElem?_eq_getElem hi)
    · exact k _ H' (List.getElem_mem hi) D' kp
end
end Ey
set_option maxHeartbeats 4000000
namespace Ey
open PySem PySem.Spec PyProof.Rows L2 GxR
/-! ### all(e for x in it), e any expression that HandS can tell -/
/-- the generator's own frame -/
def gxO (X : Cx) (A : Around) (s : Shared) (H : Hp) (ge : Env) (ns : List Str) (fp : List Addr) : Cx :=
  { X with A := A, N := ns, s_0 := s, H_0 := H, env := ge, outer := X.stack, stack := ge :: X.stack, ex := fp, fn := fun _ => false, calm := true, pn := [], xe := fun _ _ => False }
abbrev gcodeO (elt iter tgt : Expr) (sc : Scope) (gp : Pos) (it : Addr) (ge : Env) : Code := .compLoop (.GeneratorExp elt [⟨tgt, iter, [], 0⟩] sc gp) 0 (.ref it) .none ge
/-- the generator stands at turn i -/
structure GInO (Xg : Cx) (fp : List Addr) (tn : Nat → Heap → Prop) (ga : Addr) (go : Obj) (g : Nat) (W : Nat → Hp → Prop) (i : Nat) (s : Shared) : Prop where
  ex : ∃ (H : Hp) (y : L2.St), Inv Xg [(ga, go)] y H s ∧ tn i s.heap ∧ (∀ b ∈ fp, FpOk Xg [(ga, go)] H b) ∧ W i H
  sz : g + 1 ≤ s.gens.size
/-- it is over -/
def GEdO (Xg : Cx) (ga : Addr) (go : Obj) (Qe : Hp → Prop) (s : Shared) : Prop := ∃ (H : Hp) (y : L2.St), Inv Xg [(ga, go)] y H s ∧ Qe H
def YGO (GI : Nat → Shared → Prop) (GF : Shared → Prop) (n0 : Nat) : Protocol := fun m _ v s kap => ∃ b : Bool, v = .bool b ∧ (b = true → GI (n0 - m) s ∧ ∀ s'', GI (n0 - m) s'' → kap (.send .none) s'') ∧ (b = false → GF s)
def RGO (GT : Shared → Prop) : GenEnd := fun _ _ r s => r = .ok .next ∧ GT s
section
variable {X : Cx} {A : Around} {sG : Shared} {HG : Hp} {ge : Env} {ns : List Str} {tgt : Expr} {tg : TG} {fp : List Addr} {tn : Nat → Heap → Prop} {ga it : Addr} {go : Obj} {g : Nat} {W : Nat → Hp → Prop} {Qf Qt : Hp → Prop} {J : It} {elt iter : Expr} {gp : Pos} {sc : Scope} {te : TE} {n0 : Nat}
theorem seg_gloopO (T : Turn X.prog X.w X.K tgt J fp it tn) (hpg : PG (gxO X (A.over (gcodeO elt iter tgt sc gp it ge) []) sG HG ge ns fp) tgt tg) (hco : ge.scope.isCoroutine = false)
    (hel : PE (gxO X (A.over (gcodeO elt iter tgt sc gp it ge) []) sG HG ge ns fp) elt te)
    (hW : ∀ i H, W i H → (i < n0 ∧ J.go i H ∧ ∀ v H', J.yld i H v H' → ∀ σ : L2.St, σ.length = ns.length → tg v σ H' fun σ2 H2 => te σ2 H2 fun y H3 => ∃ b, y = .bl b ∧ if b = true then W (i + 1) H3 else Qf H3) ∨ (J.stop i H ∧ Qt H)) :
    ∀ (k i : Nat) (s₀ s : Shared), n0 - i = k → GInO (gxO X (A.over (gcodeO elt iter tgt sc gp it ge) []) sG HG ge ns fp) fp tn ga go g W i s →
      Seg (model X.prog X.w) A (RGO (GEdO (gxO X (A.over (gcodeO elt iter tgt sc gp it ge) []) sG HG ge ns fp) ga go Qt))
        (YGO (GInO (gxO X (A.over (gcodeO elt iter tgt sc gp it ge) []) sG HG ge ns fp) fp tn ga go g W) (GEdO (gxO X (A.over (gcodeO elt iter tgt sc gp it ge) []) sG HG ge ns fp) ga go Qf) n0) (n0 - i) s₀
        (gcodeO elt iter tgt sc gp it ge) ((model X.prog X.w).den (gcodeO elt iter tgt sc gp it ge)) [] s := by
  generalize hXg : gxO X (A.over (gcodeO elt iter tgt sc gp it ge) []) sG HG ge ns fp = Xg at *
  have eP : Xg.prog = X.prog := by rw [← hXg]; rfl
  have eW : Xg.w = X.w := by rw [← hXg]; rfl
  have eK : Xg.K = X.K := by rw [← hXg]; rfl
  have eC : Xg.calm = true := by rw [← hXg]; rfl
  have eA : Xg.A = A.over (gcodeO elt iter tgt sc gp it ge) [] := by rw [← hXg]; rfl
  have eE : Xg.env = ge := by rw [← hXg]; rfl
  have eX : Xg.xe = fun _ _ => False := by rw [← hXg]; rfl
  have ePn : Xg.pn = [] := by rw [← hXg]; rfl
  have stat : ∀ {pins : List (Addr × Obj)} {H H' : Hp}, (∀ b ∈ fp, FpOk Xg pins H b) → (∀ b ∈ fp, H' b = none) → ∀ b ∈ fp, FpOk Xg pins H' b := fun f2 hn b hb => ⟨hn b hb, (f2 b hb).2⟩
  intro k
  induction k with
  | zero =>
    intro i s₀ s hk gi
    obtain ⟨⟨H, y, I, st, fo, w⟩, sz⟩ := gi
    rcases hW i H w with ⟨lt, _⟩ | ⟨stop, qt⟩
    · omega
    show Seg _ A _ _ _ s₀ _ ((compTurn (.GeneratorExp elt [⟨tgt, iter, [], 0⟩] sc gp) 0 (.ref it) .none ge).onRaise (leaving ge)) [] s
    rw [compTurn_gen, Sem.onRaise_eq_wrap]
    refine seg_bind_wrap (wpAny_standAt ?_)
    refine seg_bind_wrap (eA ▸ wpAny_mono (T.done Xg eP eW eK eC i _ s y H (fun _ _ => False) I fo st stop) (fun r s1 ⟨hr, I1⟩ => ?_) fun _ _ e => e.elim)
    subst hr
    exact seg_end (.ok .next) ⟨rfl, H, y, I1, qt⟩
  | succ k ih =>
    intro i s₀ s hk gi
    obtain ⟨⟨H, y, I, st, fo, w⟩, sz⟩ := gi
    show Seg _ A _ _ _ s₀ _ ((compTurn (.GeneratorExp elt [⟨tgt, iter, [], 0⟩] sc gp) 0 (.ref it) .none ge).onRaise (leaving ge)) [] s
    rw [compTurn_gen, Sem.onRaise_eq_wrap]
    refine seg_bind_wrap (wpAny_standAt ?_)
    rcases hW i H w with ⟨lt, gg, step⟩ | ⟨stop, qt⟩
    · refine seg_bind_wrap (eA ▸ GenW.wpAny_gsz sz (wpAny_mono (T.item Xg eP eW eK eC i _ s y H (fun _ _ => False) I fo st gg) (fun r s1 ⟨u, hr, rest⟩ sz1 => ?_) fun _ _ e _ => e.elim))
      subst hr
      refine seg_bind_wrap (eA ▸ GenW.wpAny_gsz sz1 (wpAny_mono rest (fun _ s2 ⟨v, H2, I2, rv, yl, st2, fr2⟩ sz2 => ?_) fun _ _ e _ => e.elim))
      have fo2 := stat fo fr2
      have I2' := I2.pinned fo2 (T.obj _ _ st2)
      have run1 := hpg.run _ s2 y H2 v u _ I2' rv (step v H2 yl y (by have q := I2'.len; rw [← hXg] at q; exact q))
      rw [eE, eX] at run1
      refine seg_bind_wrap (eA ▸ GenW.wpAny_gsz sz2 (wpAny_mono (eP ▸ eW ▸ run1) (fun _ s3 ⟨σ3, H3, I3, e3⟩ sz3 => ?_) fun _ _ e _ => e.elim))
      simp only [List.forIn_nil]
      refine seg_bind_wrap (wpAny_pure ?_)
      rw [if_pos rfl]
      have hy : ∀ v, yieldOut ge v = yieldValue v := fun v => by simp only [yieldOut, hco, Bool.false_eq_true, if_false]
      simp only [hy]
      rw [Sem.bind_eq_wrap', Sem.bind_eq_wrap', Sem.wrap_wrap, Sem.wrap_wrap]
      have run2 := hel.run _ s3 σ3 H3 _ I3 e3
      rw [eE, eX] at run2
      refine seg_wrap (eA ▸ GenW.wpAny_gsz sz3 (wpAny_mono (eP ▸ eW ▸ run2) (fun z s4 ⟨zv, H4, I4, rz, b, ez, q⟩ sz4 => ?_) fun _ _ e _ => e.elim))
      subst ez
      have ez' : z = .bool b := rz
      subst ez'
      have hn : n0 - i = (n0 - (i + 1)) + 1 := by omega
      have hm : n0 - (n0 - (i + 1)) = i + 1 := by omega
      rw [hn]
      have st4 : tn (i + 1) s4.heap := T.keep _ _ _ st2 fun b hb o e => (I4.pin (b, o) (List.mem_append_right _ (List.mem_append_right _ (mem_pinsAt hb e)))).1
      have fr4 : ∀ b ∈ fp, H4 b = none := fun b hb => by
        obtain ⟨o, e, d⟩ := T.obj _ _ st2 b hb
        exact (I4.pin (b, o) (List.mem_append_right _ (List.mem_append_right _ (mem_pinsAt hb e)))).2.1
      refine seg_at (seg_yield rfl rfl rfl ⟨b, rfl, fun hb => ?_, fun hb => ?_⟩)
      · rw [hb, if_pos rfl] at q
        rw [hm]
        exact ⟨⟨⟨H4, _, I4.unpinned, st4, stat fo fr4, q⟩, sz4⟩, fun s'' gi => seg_again rfl (ih (i + 1) s'' s'' (by omega) gi)⟩
      · rw [hb, if_neg Bool.false_ne_true] at q
        exact ⟨H4, _, I4.unpinned, q⟩
    · refine seg_bind_wrap (eA ▸ wpAny_mono (T.done Xg eP eW eK eC i _ s y H (fun _ _ => False) I fo st stop) (fun r s1 ⟨hr, I1⟩ => ?_) fun _ _ e => e.elim)
      subst hr
      exact seg_end (.ok .next) ⟨rfl, H, y, I1, qt⟩
/-- the generator as its consumer has it -/
def CStO (M : Model) (A : Around) (R : GenEnd) (Y : Protocol) (GI : Nat → Shared → Prop) (g n0 i : Nat) (s : Shared) : Prop :=
  GI i s ∧ ∃ gs, s.gens[g]? = some gs ∧ ∀ s'', GI i s'' → gs.Goes M A R Y (n0 - i) (.send .none) s''
theorem GInO.set {Xg : Cx} {i : Nat} {s : Shared} {gs : GenState} (h : GInO Xg fp tn ga go g W i s) (hb : gs.bare = true) : GInO Xg fp tn ga go g W i (s.setGen g gs) := by
  obtain ⟨⟨H, y, I, st, fo, w⟩, sz⟩ := h
  refine ⟨⟨H, y, Inv.gens I (L2.allBare_setGen I.bare hb), st, fo, w⟩, ?_⟩
  rw [GenW.setGen_size]
  exact sz
theorem GEdO.set {Xg : Cx} {s : Shared} {gs : GenState} {Qe : Hp → Prop} (h : GEdO Xg ga go Qe s) (hb : gs.bare = true) : GEdO Xg ga go Qe (s.setGen g gs) := by
  obtain ⟨H, y, I, q⟩ := h
  exact ⟨H, y, Inv.gens I (L2.allBare_setGen I.bare hb), q⟩
theorem gen_nextO {Xg : Cx} {E : Value → Shared → Prop} {s : Shared} {i : Nat} (hc : go.cls = .type "generator") (hd : ∃ nm qn, go.data = .fields #[.int g 0, nm, qn]) (hs : go.slots = #[]) (hh : A.handled = none) (hroom : A.depth < recursionLimit)
    (h : CStO (model X.prog X.w) A.in1 (RGO (GEdO Xg ga go Qt)) (YGO (GInO Xg fp tn ga go g W) (GEdO Xg ga go Qf) n0) (GInO Xg fp tn ga go g W) g n0 i s) :
    wpAny (model X.prog X.w) A (pyNext (.ref ga)) (fun r s' => (r = some (.bool true) ∧ i < n0 ∧ CStO (model X.prog X.w) A.in1 (RGO (GEdO Xg ga go Qt)) (YGO (GInO Xg fp tn ga go g W) (GEdO Xg ga go Qf) n0) (GInO Xg fp tn ga go g W) g n0 (i + 1) s') ∨
      (r = some (.bool false) ∧ GEdO Xg ga go Qf s') ∨ (r = none ∧ GEdO Xg ga go Qt s')) E s := by
  obtain ⟨gi, gs, hgs, hgo⟩ := h
  obtain ⟨nm, qn, hd⟩ := hd
  have hg : s.heap.IsGen ga g := by
    obtain ⟨⟨H, y, I, _⟩, _⟩ := gi
    exact ⟨go, nm, qn, (I.pin (ga, go) (List.mem_append_right _ (List.mem_singleton.mpr rfl))).1, hc, hd, hs⟩
  have hl : s.heap.NoLimit := by
    obtain ⟨⟨H, y, I, _⟩, _⟩ := gi
    exact I.nolimit
  refine wpAny_pyNext_genexpQ (P := fun _ _ s₁ => GEdO Xg ga go Qt s₁) hh hl hroom hg hgs (hgo _ (gi.set rfl)) (fun v s₁ gs' hb hv => ?_) (fun s₁ hp h' hk => ?_)
  · obtain ⟨b, rfl, ht, hf⟩ := hv
    cases b with
    | false => exact .inr (.inl ⟨rfl, (hf rfl).set hb⟩)
    | true =>
      obtain ⟨g1, g2⟩ := ht rfl
      cases hn : n0 - i with
      | zero =>
        rw [hn] at g1 g2
        exact (g2 s₁ g1).elim
      | succ m =>
        rw [hn] at g1 g2
        have e : n0 - (m + 1 - 1) = i + 1 := by omega
        rw [e] at g1 g2
        refine .inl ⟨rfl, by omega, g1.set hb, gs', L2.setGen_at (Nat.lt_of_succ_le g1.sz), fun s'' gi'' => ?_⟩
        have e2 : n0 - (i + 1) = m := by omega
        rw [e2]
        exact g2 s'' gi''
  · obtain ⟨H, y, I, q⟩ := hp
    refine .inr (.inr ⟨rfl, H, y, ?_, q⟩)
    have I2 := Inv.gens (gs := (s₁.setGen g .finished).gens) I (L2.allBare_setGen I.bare rfl)
    exact I2.kept (t' := s₁.toks) hk
theorem all_loopO {Xg : Cx} {R : Result → Shared → Prop} (hc : go.cls = .type "generator") (hd : ∃ nm qn, go.data = .fields #[.int g 0, nm, qn]) (hs : go.slots = #[]) (hh : A.handled = none) (hroom : A.in1.depth < recursionLimit)
    (hT : ∀ s', GEdO Xg ga go Qt s' → R (.ok (.ret (.bool true))) s') (hF : ∀ s', GEdO Xg ga go Qf s' → R (.ok (.ret (.bool false))) s') : ∀ (k i : Nat) (s : Shared), n0 - i = k →
    CStO (model X.prog X.w) A.in1.in1 (RGO (GEdO Xg ga go Qt)) (YGO (GInO Xg fp tn ga go g W) (GEdO Xg ga go Qf) n0) (GInO Xg fp tn ga go g W) g n0 i s → codeAny (model X.prog X.w) A (.builtin "all.loop" ⟨[.ref ga], []⟩) R s := by
  intro k
  induction k with
  | zero =>
    intro i s hk cs
    refine codeAny_builtin F.entry_all_loop ?_
    rw [Around.under_plainId F.plain_all_loop _]
    show wpAny _ A.in1 (pyNext (.ref ga) >>= _) _ _ s
    refine wpAny_bind (wpAny_mono (gen_nextO hc hd hs hh hroom cs) (fun r s' h => ?_) fun _ _ e => e)
    rcases h with ⟨rfl, lt, _⟩ | ⟨rfl, q⟩ | ⟨rfl, q⟩
    · omega
    · refine wpAny_bind (wpAny_holding (wpAny_truthy_bool ?_))
      refine wpAny_bind (wpAny_letGo ?_)
      simp only [Bool.false_eq_true, if_false]
      exact wpAny_bind (wpAny_rule (wpAny_pure (hF s' q)))
    · exact wpAny_bind (wpAny_rule (wpAny_pure (hT s' q)))
  | succ k ih =>
    intro i s hk cs
    refine codeAny_builtin F.entry_all_loop ?_
    rw [Around.under_plainId F.plain_all_loop _]
    show wpAny _ A.in1 (pyNext (.ref ga) >>= _) _ _ s
    refine wpAny_bind (wpAny_mono (gen_nextO hc hd hs hh hroom cs) (fun r s' h => ?_) fun _ _ e => e)
    rcases h with ⟨rfl, lt, cs'⟩ | ⟨rfl, q⟩ | ⟨rfl, q⟩
    · refine wpAny_bind (wpAny_holding (wpAny_truthy_bool ?_))
      refine wpAny_bind (wpAny_letGo ?_)
      simp only [if_true]
      exact wpAny_pure ⟨plainId_quiet F.plain_all_loop _, ih (i + 1) s' (by omega) cs'⟩
    · refine wpAny_bind (wpAny_holding (wpAny_truthy_bool ?_))
      refine wpAny_bind (wpAny_letGo ?_)
      simp only [Bool.false_eq_true, if_false]
      exact wpAny_bind (wpAny_rule (wpAny_pure (hF s' q)))
    · exact wpAny_bind (wpAny_rule (wpAny_pure (hT s' q)))
end
section
variable {X : Cx} {pins : List (Addr × Obj)} {σ : L2.St} {H : Hp} {s : Shared}
/-- the generator's frame begins -/
theorem inv_gxO {A : Around} {sc : Scope} {ns : List Str} {fp : List Addr} {code : Value} {h5 : Heap} {g5 : Array GenState} {t5 : Nat} {m : Str → Option Value} (I : Inv X pins σ H s)
    (hk : sc.kind = .function) (hc : ∀ y ∈ sc.names, y.2 ≠ .cell) (hf : ∀ y ∈ sc.names, y.2 ≠ .free) (hns : h5.Ns s.heap.objs.size m) (keep : ∀ b o, s.heap.get? b = some o → h5.get? b = some o) (bare : AllBare g5) (hh : A.handled = none)
    (fr : A.frames = some (genEnv sc [] s.heap.objs.size code builtinsNs X.env :: X.stack)) (ho : ∀ b ∈ fp, FpOk X pins H b ∧ b < s.heap.objs.size) :
    Inv (gxO X A s H (genEnv sc [] s.heap.objs.size code builtinsNs X.env) ns fp) [] (ns.map fun _ => none) H { s with heap := h5, gens := g5, toks := t5 } := by
  have nofs : ∀ b ∈ fp, b ∉ frs X.stack := fun b hb z => by
    obtain ⟨⟨_, h1, h2, _⟩, _⟩ := ho b hb
    rcases List.mem_cons.mp (I.stkSub b z) with q | q
    · exact h1 q
    · exact h2 q
  refine ⟨⟨I.ok.mod, hk, I.ok.glob, rfl, Nat.le_refl _, fun y z c e _ => ?_, fun y hy => ?_, fun y c e _ => ?_, fun _ => hh, fr, .inr ⟨rfl, rfl⟩, fun b hb => ⟨Nat.ne_of_lt (ho b hb).2, fun y c e => ?_⟩, fun b o e => I.bs b o e, Nat.le_trans I.ok.bsz I.sz, fun b o e hb => ?_, fun b hb => nofs b hb, I.stack, I.stkFree⟩,
    rfl, bare, Un.kept keep, ⟨m, hns, fun i y v h1 h2 _ => ?_⟩, fun y c e => ?_, I.hok.fresh (Nat.le_refl _), fun y c e => ?_, fun p hp => ?_, I.hok.kept keep, by simp [gxO]⟩
  · exact absurd e (by intro z; cases z)
  · have hy' : sc.names.lookup y = some .cell ∨ sc.names.lookup y = some .free := hy
    rcases hy' with q | q
    · exact absurd rfl (hc _ (PySem.mem_of_lookup q))
    · exact absurd rfl (hf _ (PySem.mem_of_lookup q))
  · exact absurd e (by intro z; cases z)
  · exact absurd e (by intro z; cases z)
  · obtain ⟨⟨_, _, _, h3, _⟩, _⟩ := ho b hb
    rcases h3 with q | q
    · exact I.ok.noex b o e q
    · exact Nat.lt_irrefl _ (Nat.lt_of_lt_of_le (Heap.lt_size e) (Nat.le_trans I.ok.bsz q))
  · exfalso
    rw [List.getElem?_map] at h2
    cases e : ns[i]? with
    | none => rw [e] at h2; cases h2
    | some q => rw [e] at h2; cases h2
  · exact absurd e (by intro z; cases z)
  · exact absurd e (by intro z; cases z)
  · exact absurd hp (by intro z; cases z)
/-- all(e for x in it): the table of the running def's code may have grown; then, item by item -/
def tAllO (P : Addr) (nl : Nat) (wi : TI) (tg : TG) (te : TE) : TE := fun σ H Q => wi σ H fun J H1 => TabG H1 P ∧ ∀ H2, Tabbed P H1 H2 → ∃ (n0 : Nat) (W : Nat → Hp → Prop), W 0 H2 ∧
  ∀ i H', W i H' → (i < n0 ∧ J.go i H' ∧ ∀ v H'', J.yld i H' v H'' → ∀ σ : L2.St, σ.length = nl → tg v σ H'' fun σ2 H2 => te σ2 H2 fun y H3 => ∃ b, y = .bl b ∧ if b = true then W (i + 1) H3 else Q (.bl false) H3) ∨ (J.stop i H' ∧ Q (.bl true) H')
theorem pe_allO {c P : Addr} {elt iter tgt : Expr} {x : Str} {ns : List Str} {p pos gp : Pos} {sc : Scope} {wi : TI} {tg : TG} {te : TE} {k : Nat}
    (hr : Room (k + 2) X.A) (hg : Gl X "all") (hm : X.mg "all" = none) (hb : bootBuiltins "all" = some (.builtin "all")) (TB : TabB X.base X.mg c P) (hco : X.env.code = .ref c) (S : GenS X.env sc x) (nf : ∀ y ∈ sc.names, y.2 ≠ .free)
    (hi : PI X tgt iter wi)
    (hpg : ∀ (A : Around) (s : Shared) (H : Hp) (C : Addr) (code : Value) (fp : List Addr), PG (gxO X A s H (genEnv sc [] C code builtinsNs X.env) ns fp) tgt tg)
    (hel : ∀ (A : Around) (s : Shared) (H : Hp) (C : Addr) (code : Value) (fp : List Addr), Room k A → PE (gxO X A s H (genEnv sc [] C code builtinsNs X.env) ns fp) elt te)
    (hs : ∀ v, genFold iter X.env v = pure v) (hcl : cloFrom X.env.cells sc.names [] = [] := by rfl)
    (he : starEach [.GeneratorExp elt [⟨tgt, iter, [], 0⟩] sc gp] X.env = (false, eval (.GeneratorExp elt [⟨tgt, iter, [], 0⟩] sc gp) X.env) :: starEach [] X.env := by rfl) :
    PE X (.Call (.Name "all" p) [.GeneratorExp elt [⟨tgt, iter, [], 0⟩] sc gp] [] pos) (tAllO P ns.length wi tg te) := by
  refine ⟨fun pins s σ H Q I h => wpAny_Call_Name_kw (ld_blt I hg hm hb ?_)⟩
  refine PyProof.Rows.callWith_builtin1 ?_ he (by rfl)
  rw [he]
  show wpAny _ _ (spliced ((false, eval (.GeneratorExp elt [⟨tgt, iter, [], 0⟩] sc gp) X.env) :: backTo pos (starEach [] X.env))) _ _ s
  refine Calls.spliced_cons (wpAny_GeneratorExp_make S.co (cl := []) (hcl ▸ closure_ok S.free) S.cell S.dot S.kind (Nat.lt_of_le_of_lt (by omega) hr.dp) ?_ hs)
  refine thn (hi.run pins s σ H _ I h) fun v s1 h1 => thn h1 fun itv s2 h2 => ?_
  obtain ⟨it, fp, tn, J, H1, e, J1, T, st, fo, ⟨ps, tP, tok⟩, q⟩ := h2
  subst e
  have gP : s2.heap.get? P = some { cls := .none, data := .fields ps } := J1.hok P _ tP
  have head : PySem.W.CodeHd s2.heap c P := TB.code.keeps fun b u e => J1.bk b u e
  have ncP : cStatics ≠ P := fun e => by
    obtain ⟨_, ns, _⟩ := J1.nolimit
    obtain ⟨o', es, ep, g', d', _⟩ := ns
    rw [e, gP] at g'
    cases g'
    cases d'
  have fpP : ∀ b ∈ fp, b ≠ P := fun b hb z => by
    have := (fo b hb).1
    rw [z, tP] at this
    cases this
  refine ⟨J1.nolimit, ?_⟩
  have go : ∀ (code : Value) (hN : Heap) (tk : Nat) (qs : Array Value), Heap.ExtBut P s2.heap hN → hN.get? P = some { cls := .none, data := .fields qs } → (∃ more, qs = ps ++ more) → TriplesOk qs.toList →
      wpAny (model X.prog X.w) X.A (builtinsFor X.env.globals X.env.builtins) (fun bi s₄ =>
        ∀ h', h'.Ns s₄.heap.objs.size (fun y => if y = ".0" then some (.ref it) else none) → Heap.SameBut s₄.heap.objs.size (s₄.heap.push { cls := .type "frame", data := .dict #[] }) h' →
          wpAny (model X.prog X.w) X.A (spliced (backTo pos (starEach [] X.env))) (fun us s' => wpAny (model X.prog X.w) X.A (call (.builtin "all") (.ref h'.objs.size :: us)) (EP X pins σ Q) X.xe s') X.xe { s₄ with
            gens := s₄.gens.push (.fresh (.compStart (.GeneratorExp elt [⟨tgt, iter, [], 0⟩] sc gp) 0 (.ref it) .none (genEnv sc [] s₄.heap.objs.size code bi X.env))),
            toks := s₄.toks + 1 + 1 + 1,
            heap := h'.push { cls := .type "generator", data := .fields #[.int s₄.gens.size 0, .str "<genexpr>" (s₄.toks + 1), .str (X.env.qual ++ "<genexpr>") (s₄.toks + 1 + 1)] } }) X.xe { s2 with heap := hN, toks := tk } := by
    intro code hN tk qs ext gPN more okN
    obtain ⟨bm, obm, e1, e2, e3, e4, e5, e6, e7, e8⟩ := TB.bm
    have stay : ∀ b u, b ≠ P → s2.heap.get? b = some u → hN.get? b = some u := fun b u nb e => ext b u nb e
    obtain ⟨mo, em⟩ := more
    subst em
    have J2 : Inv X pins σ (upd H1 P (.tbl (ps ++ mo))) { s2 with heap := hN, toks := tk } := inv_tab (more := mo) (h' := hN) (g' := s2.gens) (d' := s2.drawn) (t' := tk) J1 tP stay gPN J1.bare
    refine wpAny_builtinsFor (m := X.mg) (by rw [J1.ok.glob]; exact (J1.mod.glob.keeps J1.bk).extBut ext TB.gP) e1 e2 (stay _ _ e4 (J1.bk _ _ e5)) e6 e7 e8 ?_
    intro h' hn' hs'
    refine Calls.spliced_nil ?_
    obtain ⟨n0, W, w0, hW⟩ := q (upd H1 P (.tbl (ps ++ mo))) ⟨⟨ps ++ mo, upd_same, okN⟩, fun b nb => upd_ne nb⟩
    have sz' : h'.objs.size = hN.objs.size + 1 := by
      rw [hs'.1, Heap.size_push]
    have keep' : ∀ b o, hN.get? b = some o → h'.get? b = some o := fun b o e => hs'.extBut b o (Nat.ne_of_lt (Heap.lt_size e)) (Heap.get?_push_of_some _ e)
    generalize hgo : ({ cls := .type "generator", data := .fields #[.int s2.gens.size 0, .str "<genexpr>" (tk + 1), .str (X.env.qual ++ "<genexpr>") (tk + 1 + 1)] } : Obj) = gob
    have gc : gob.cls = .type "generator" := by rw [← hgo]
    have gd : ∃ nm qn, gob.data = .fields #[.int s2.gens.size 0, nm, qn] := ⟨_, _, by rw [← hgo]⟩
    have gs : gob.slots = #[] := by rw [← hgo]
    show wpAny (model X.prog X.w) X.A (call (.builtin "all") [.ref h'.objs.size]) (EP X pins σ Q) X.xe { s2 with
            gens := s2.gens.push (.fresh (.compStart (.GeneratorExp elt [⟨tgt, iter, [], 0⟩] sc gp) 0 (.ref it) .none (genEnv sc [] hN.objs.size code builtinsNs X.env))),
            toks := tk + 1 + 1 + 1, heap := h'.push gob }
    have keep5 : ∀ b o, hN.get? b = some o → (h'.push gob).get? b = some o := fun b o e => Heap.get?_push_of_some _ (keep' b o e)
    have atG : (h'.push gob).get? h'.objs.size = some gob := Heap.get?_push_size _ (by
      obtain ⟨nm, qn, e⟩ := gd
      exact Obj.isFreed_of_fields e)
    -- the frame
    generalize hge : genEnv sc [] hN.objs.size code builtinsNs X.env = ge
    have fpl : ∀ b ∈ fp, b < hN.objs.size := fun b hb => by
      obtain ⟨o, e, _⟩ := T.obj _ _ st b hb
      exact Heap.lt_size (stay b o (fpP b hb) e)
    have foN : ∀ b ∈ fp, FpOk X pins (upd H1 P (.tbl (ps ++ mo))) b := fun b hb => ⟨by rw [upd_ne (fpP b hb)]; exact (fo b hb).1, (fo b hb).2⟩
    have stN : tn 0 (h'.push gob) := T.keep _ _ _ st fun b hb o e => keep5 b o (stay b o (fpP b hb) e)
    have hAh : (X.A.in1.in1.over (gcodeO elt iter tgt sc gp it ge) []).handled = none := hr.hd
    have hAf : (X.A.in1.in1.over (gcodeO elt iter tgt sc gp it ge) []).frames = some (ge :: X.stack) := by
      show pushEnvs (gcodeO elt iter tgt sc gp it ge).envs (pushEnvs [] X.A.frames) = _
      rw [J1.ok.frames]
      rfl
    have IG0 := inv_gxO (A := X.A.in1.in1.over (gcodeO elt iter tgt sc gp it ge) []) (sc := sc) (ns := ns) (fp := fp) (code := code) (h5 := h'.push gob)
      (g5 := s2.gens.push (.fresh (.compStart (.GeneratorExp elt [⟨tgt, iter, [], 0⟩] sc gp) 0 (.ref it) .none ge))) (t5 := tk + 1 + 1 + 1) J2 S.kind S.cell nf (hn'.push gob) keep5 (AllBare.push J1.bare rfl) hAh (by rw [hAf, ← hge]) (fun b hb => ⟨foN b hb, fpl b hb⟩)
    rw [hge] at IG0
    generalize hXg : gxO X (X.A.in1.in1.over (gcodeO elt iter tgt sc gp it ge) []) { s2 with heap := hN, toks := tk } (upd H1 P (.tbl (ps ++ mo))) ge ns fp = Xg at IG0
    have gne : ∀ b ∈ fp, h'.objs.size ≠ b := fun b hb => Nat.ne_of_gt (Nat.lt_trans (fpl b hb) (by omega))
    have fpXg : ∀ b ∈ fp, FpOk Xg [(h'.objs.size, gob)] (upd H1 P (.tbl (ps ++ mo))) b := fun b hb => by
      rw [← hXg]
      refine ⟨(foN b hb).1, ?_, fun z => ?_, .inl hb, fun y cc e => ?_, fun p hp => ?_⟩
      · show b ≠ ge.locals
        rw [← hge]
        exact Nat.ne_of_lt (fpl b hb)
      · obtain ⟨_, q1, q2, _⟩ := foN b hb
        rcases List.mem_cons.mp (J2.stkSub b z) with q | q
        · exact q1 q
        · exact q2 q
      · have e' : ge.cells.lookup y = some cc := e
        rw [← hge] at e'
        cases e'
      · have hp' : p ∈ [(h'.objs.size, gob)] := hp
        rw [List.mem_singleton.mp hp']
        exact gne b hb
    have IG : Inv Xg [(h'.objs.size, gob)] (ns.map fun _ => none) (upd H1 P (.tbl (ps ++ mo))) { s2 with heap := h'.push gob, gens := s2.gens.push (.fresh (.compStart (.GeneratorExp elt [⟨tgt, iter, [], 0⟩] sc gp) 0 (.ref it) .none ge)), toks := tk + 1 + 1 + 1 } := by
      refine IG0.pins_of fun p hp => ?_
      rw [List.mem_singleton.mp hp]
      have big : hN.objs.size < h'.objs.size := by omega
      refine ⟨atG, J2.hok.fresh (Nat.le_of_lt big), ?_, ?_, fun v e => ?_⟩
      · rw [← hXg]
        show h'.objs.size ≠ ge.locals
        rw [← hge]
        exact Nat.ne_of_gt big
      · rw [← hXg]
        intro z
        rcases List.mem_cons.mp (J2.stkSub _ z) with q | q
        · have l := J2.lt
          rw [← q] at l
          exact absurd (Nat.lt_trans big l) (Nat.lt_irrefl _)
        · exact J2.nofs (Nat.le_of_lt big) q
      · obtain ⟨nm, qn, e2⟩ := gd
        have e' : gob.data = .cell v := e
        rw [e2] at e'
        cases e'
    have back : ∀ (b : Bool) (s' : Shared), GEdO Xg h'.objs.size gob (Q (.bl b)) s' → EP X pins σ Q (.bool b) s' := fun b s' ⟨H', y, K, q⟩ => by
      rw [← hXg] at K
      exact ⟨.bl b, H', J2.call' (ch := fp) K.os K.base K.hok K.bare (fun c hc => ⟨(foN c hc).2.2.2.1, (foN c hc).2.1, (foN c hc).2.2.2.2.1, (foN c hc).2.2.2.2.2⟩), rfl, q⟩
    have loopS := seg_gloopO (X := X) (A := X.A.in1.in1) (sG := { s2 with heap := hN, toks := tk }) (HG := upd H1 P (.tbl (ps ++ mo))) (ge := ge) (fp := fp) (tn := tn) (ga := h'.objs.size) (go := gob) (g := s2.gens.size) (W := W) (Qf := Q (.bl false)) (Qt := Q (.bl true))
      (gp := gp) (sc := sc) (elt := elt) (iter := iter) (n0 := n0) (te := te) T (by rw [← hge]; exact hpg _ _ _ _ _ _) (by rw [← hge]; exact S.co) (by
        rw [← hge]
        refine hel _ _ _ _ _ _ ⟨hr.hd, ?_, ?_⟩
        · have := hr.dp
          show X.A.depth + 0 + 1 + 3 * k + 5 < _
          omega
        · have := hr.un
          show X.A.units + 1 + 1 + 0 + 3 + 16 * k + 200 < _
          omega) hW
    rw [hXg] at loopS
    have GI0 : GInO Xg fp tn h'.objs.size gob s2.gens.size W 0 { s2 with heap := h'.push gob, gens := s2.gens.push (.fresh (.compStart (.GeneratorExp elt [⟨tgt, iter, [], 0⟩] sc gp) 0 (.ref it) .none ge)), toks := tk + 1 + 1 + 1 } :=
      ⟨⟨_, _, IG, stN, fpXg, w0⟩, by show s2.gens.size + 1 ≤ (s2.gens.push _).size; rw [Array.size_push]; exact Nat.le_refl _⟩
    refine call_function_tree F.kind_all F.plain_all F.entry_all (F.args_all1 _) ?_
    unfold Builtin.«all»
    refine wpAny_bind (m := oneArg "all" _) (wpAny_pure ?_)
    refine wpAny_bind (wpAny_pyIter_gen ⟨gob, _, _, atG, gc, gd.choose_spec.choose_spec, gs⟩ ?_)
    refine wpAny_pure ⟨plainId_quiet F.plain_all_loop _, all_loopO (X := X) (A := X.A) (R := fun r s' => match r with | .ok (.ret v) => EP X pins σ Q v s' | .ok _ => False | .error e => X.xe e s') (Xg := Xg) (Qf := Q (.bl false)) (Qt := Q (.bl true)) (W := W) (fp := fp) (tn := tn) (n0 := n0) gc gd gs hr.hd (Nat.lt_of_le_of_lt (by show X.A.depth ≤ X.A.depth + 3 * (k + 2) + 5; omega) hr.dp) (fun s' q => back true s' q) (fun s' q => back false s' q) n0 0 _ (Nat.sub_zero _) ⟨GI0, _, Array.getElem?_push_size .., fun s'' gi => ⟨rfl, ?_⟩⟩⟩
    have loop := loopS n0 0 s'' s'' (Nat.sub_zero _) gi
    obtain ⟨_, _, _, sti, _⟩ := gi.ex
    show Seg _ X.A.in1.in1 _ _ _ s'' _ ((compStart (.GeneratorExp elt [⟨tgt, iter, [], 0⟩] sc gp) 0 (.ref it) .none ge).onRaise (leaving ge)) [] s''
    unfold compStart
    rw [Sem.onRaise_eq_wrap]
    show Seg _ X.A.in1.in1 _ _ _ s'' _ ((ask >>= _).wrap _ _ _ _) [] s''
    refine seg_bind_wrap (wpAny_askSetting ?_)
    split
    · exact seg_again rfl loop
    · first
        | exact seg_bind_wrap (wpAny_rule (seg_bind_wrap (wpAny_standAt (seg_bind_wrap (T.self _ 0 _ _ _ sti (seg_again rfl loop))))))
        | (refine seg_bind_wrap (wpAny_rule ?_); show Seg _ X.A.in1.in1 _ _ _ s'' _ ((standAt iter.pos >>= _).wrap _ _ _ _) [] s''; exact seg_bind_wrap (wpAny_standAt (seg_bind_wrap (T.self _ 0 _ _ _ sti (seg_again rfl loop)))))
  cases am : codeAmong gp ps.toList with
  | none =>
    refine wpAny_genexprCodeX hco (head.code gP tok) (head.tab gP) am fun c' hN tk ext hge hlt hc' _ tab' _ => ?_
    obtain ⟨o1, vs, f1, tf, fl, tg, inF, tx, tt, op, _, _, _, _, _, _, _, _, _, tr, _⟩ := hc'
    exact go _ hN tk _ ext tab'.2 ⟨_, rfl⟩ tr
  | some cv =>
    refine wpAny_genexprCode_hit hco (head.code gP tok) am ?_
    exact go cv s2.heap s2.toks ps (Heap.ExtBut.refl _ _) gP ⟨#[], by simp⟩ tok
end
end Ey
set_option maxHeartbeats 4000000
namespace Ey
open PySem PySem.AutoSeq1
theorem extend_tuple (l : Addr) (items : Array Value) (n : Nat) (b : Addr) (items2 : Array Value) (n2 : Nat) (dd : Option Addr) (sl : Array (Option Value)) (hs0 : ¬(!items.isEmpty && Builtin.List.listTooLong (items.size + items2.size)) = true) (hs1 : items.size ≤ sizeLine) (hs2 : items.size + items2.size ≤ sizeLine + 1) :
    Meets (Builtin.«list.extend» ⟨[.ref l, .ref b], []⟩) (fun _ R s => s.heap.get? l = some { cls := .type "list", dict := none, data := .seq items n, slots := #[] } ∧ s.heap.get? b = some { cls := .type "tuple", dict := dd, data := .seq items2 n2, slots := sl } ∧ R (.ok (.ret Value.none)) { s with heap := s.heap.update l (Obj.mapSeq fun x => x ++ items2), toks := s.toks }) :=
  .of_wp fun prog w A R s h => by
    obtain ⟨hp, g, d, tk, os⟩ := s; obtain ⟨hl, hb, h⟩ := h; have f1 := idx_int; have f2 := sub_tuple_tuple; have f3 := sub_list_list; have f4 := sub_tuple_list; have f5 := sub_list_tuple;
    have hz' : (items ++ items2).size ≤ sizeLine + 1 := by rw [Array.size_append]; exact hs2
    wp_walk using (wpAny_updateSeq hl rfl (hz := hs1) (_hz' := hz')), wpAny_loadPart' hl, wpAny_loadPart' hb; exact ⟨_, rfl, h⟩
end Ey
namespace Ey
open PySem PySem.Spec PyProof.Rows L2
section
variable {X : Cx}
def rExtendT : V → List V → Hp → VK → Prop := fun x vs H Q => ∃ l b xs zs, x = .ref l ∧ vs = [.ref b] ∧ H l = some (.lst xs) ∧ H b = some (.tup zs) ∧ xs.length + zs.length ≤ sizeLine ∧ Q .non (upd H l (.lst (xs ++ zs)))
theorem mt_extendT : MtM X "list.extend" rExtendT := by
  intro pins s σ H x vs v us Q I rx rv h
  obtain ⟨l, b, xs, zs, rfl, rfl, hH, hB, hz, q⟩ := h
  cases rx
  obtain ⟨u, rfl, ru⟩ := rv.one
  cases ru
  obtain ⟨z, its, n, r, hl, e⟩ := I.lstM hH
  obtain ⟨_, its2, r2, ⟨cls, dd, data, sl⟩, e2, hc, n2, hd⟩ := (show ObjOk X.prog X.w H s.heap b (.tup zs) from I.hok b _ hB)
  simp only at hc hd
  subst hc hd
  have hl2 := r2.length
  have hsz : its.toArray.size + its2.toArray.size ≤ sizeLine := by rw [List.size_toArray, List.size_toArray]; omega
  have hlong : ¬ (!its.toArray.isEmpty && Builtin.List.listTooLong (its.toArray.size + its2.toArray.size)) = true := by
    rw [notLongL hsz, Bool.and_false]
    exact Bool.false_ne_true
  refine call_meets PySem.F.slot_list_extend ⟨_, e, rfl⟩ PySem.F.entry_list_extend (PySem.F.args_list_extend_2 _ _)
    (extend_tuple l its.toArray n b its2.toArray n2 dd sl hlong (by rw [List.size_toArray]; omega) (by omega)) ⟨e, e2, ?_⟩
  refine ⟨.non, _, I.lset (its' := its ++ its2) hH e (by simp) (r.append r2) ?_, rfl, q⟩
  rw [List.length_append]
  omega
end
end Ey
set_option maxHeartbeats 4000000
namespace Ey
open PySem PySem.Spec L2 PyProof.Rows
open Sem (wp)
theorem meets_enumerate_newT {v : Value} {o : Obj} {H : Heap → Prop} (B : Begins v o H) :
    Meets (Builtin.«enumerate.__new__» ⟨[.type "enumerate", v], []⟩) (fun _ R s => H s.heap ∧
      R (.ok (.ret (.ref (s.heap.push o).objs.size))) { s with heap := (s.heap.push o).push { cls := .type "enumerate", data := .fields #[.none, .bool false, .ref s.heap.objs.size, rawInt 0, .none, .none] } }) :=
  .of_wp fun prog w A R s h => by
    obtain ⟨hp, g, d, tk, os⟩ := s; obtain ⟨h1, h⟩ := h
    have hsub := sub_enumerate
    have q1 : ∀ {A' : Around} {E : Value → Shared → Prop} {Q : Value → Shared → Prop}, Q (.ref hp.objs.size) ⟨hp.push o, g, d, tk, os⟩ → wpAny (model prog w) A' (pyIter v) Q E ⟨hp, g, d, tk, os⟩ :=
      fun q => B.iter prog w _ _ ⟨hp, g, d, tk, os⟩ _ h1 q
    wp_walk using q1
    refine wpAny_stack_any fun st => wpAny_pure ?_
    split
    · rename_i c _ _ _ _ _
      cases (c == Value.type "enumerate")
      · wp_walk using q1
        exact ⟨_, rfl, h⟩
      · wp_walk using q1
        exact ⟨_, rfl, h⟩
    · wp_walk using q1
      exact ⟨_, rfl, h⟩
section
variable {prog : Program} {w : World} {A : Around} {E : Value → Shared → Prop} {s : Shared}
theorem enum_begins1 {v : Value} {o : Obj} {H : Heap → Prop} {Q : Value → Shared → Prop} (B : Begins v o H) (h1 : H s.heap)
    (h : ∀ h', IsEnum h' (s.heap.objs.size + 1) s.heap.objs.size 0 .none → h'.get? s.heap.objs.size = some o → h'.objs.size = s.heap.objs.size + 2 →
      (∀ b o, s.heap.get? b = some o → h'.get? b = some o) → Q (.ref (s.heap.objs.size + 1)) { s with heap := h' }) :
    wpAny (model prog w) A (call (.type "enumerate") [v]) Q E s := by
  refine callType_new F.called_enumerate (by decide) (F.typeCall_enumerate_1 _) (F.newCall_enumerate_1 _) (fun obj => F.args_object_init_2 obj _) F.entry_enumerate_new
    (meets_enumerate_newT B) ⟨h1, ?_⟩
  have hz : (s.heap.push o).objs.size = s.heap.objs.size + 1 := Heap.size_push ..
  show _ ∧ _
  rw [hz]
  have he : IsEnum ((s.heap.push o).push { cls := .type "enumerate", data := .fields #[.none, .bool false, .ref s.heap.objs.size, rawInt 0, .none, .none] }) (s.heap.objs.size + 1) s.heap.objs.size 0 .none := by
    have := Heap.get?_push_size (s.heap.push o) (o := { cls := .type "enumerate", data := .fields #[.none, .bool false, .ref s.heap.objs.size, rawInt 0, .none, .none] }) rfl
    rw [hz] at this; exact this
  refine ⟨⟨_, he, rfl⟩, h _ he (Heap.get?_push_of_some _ (Heap.get?_push_size _ B.free)) (by rw [Heap.size_push, hz]) fun b o x => Heap.get?_push_of_some _ (Heap.get?_push_of_some _ x)⟩
end
section
variable {prog : Program} {w : World} {A : Around} {E : Value → Shared → Prop} {s : Shared}
theorem enum_endT {e it t : Addr} {items : Array Value} {j : Nat} {i : Int} {old : Value} {Q : Option Value → Shared → Prop} (hh : A.handled = none)
    (he : IsEnum s.heap e it i old) (hit : s.heap.IsTupleIter it t j) (ht : s.heap.IsTuple t items) (hx : items[j]? = none)
    (hQ : ∀ h', Heap.ExtBut it s.heap h' → Q none { s with heap := h' }) : wpAny (model prog w) A (pyNext (.ref e)) Q E s := by
  have hT : s.TypeIs (.ref e) "enumerate" := ⟨_, he, rfl⟩
  unfold pyNext
  refine wpAny_bind (wpAny_attempt (wpAny_callSpecial?_slot (name := Str.ofString "__next__") hT F.slot_enumerate_next
    (wpAny_call_entry F.slot_enumerate_next hT F.entry_enumerate_next ?_ (F.args_enumerate_next_1 _))))
  show wpAny _ _ (field (.ref e) 2 >>= _) _ _ _
  refine wpAny_bind (wpAny_field he rfl (x := .ref it) rfl ?_)
  refine wpAny_bind (wpAny_nextOf_tuple_end hh hit ht hx fun h' x he' hx' => ?_)
  obtain ⟨o, ho, hc⟩ := hx'
  refine wpAny_bind (wpAny_isInstance (T := "StopIteration") (b := true) ⟨o, ho, hc⟩ isSubtype_stop ?_)
  exact wpAny_pure (hQ _ he')
end
/-- the tuple at a, each item in a new pair -/
def Itet (K : PySem.W.Frag) (a : Addr) : It :=
  ⟨fun i H => ∃ (xs : List V) (x : V), SqT K H a xs ∧ xs[i]? = some x, fun i H v H' => ∃ T x, v = .ref T ∧ H T = none ∧ H' = upd H T (.tup [.int (i : Nat), x]) ∧ ∀ xs, SqT K H a xs → xs[i]? = some x, fun i H => ∃ xs : List V, SqT K H a xs ∧ xs.length ≤ i⟩
theorem turn_enumT {P : Program} {w : World} {K : PySem.W.Frag} {elts : List Expr} {kk : Nat} {tpos : Pos} (a e it : Addr) :
    Turn P w K (.Tuple elts kk tpos) (Itet K a) [e, it] e (fun i h => (∃ old, IsEnum h e it ((i : Nat) : Int) old) ∧ h.IsTupleIter it a i ∧ e ≠ it) where
  mem := by simp
  obj := fun i h st b hb => by
    obtain ⟨⟨old, he⟩, ⟨o, ho, hc, hd⟩, _⟩ := st
    have e' : b = e ∨ b = it := by simpa using hb
    rcases e' with z | z
    · rw [z]; exact ⟨_, he, fun v q => nomatch q⟩
    · rw [z]; exact ⟨o, ho, fun v q => by rw [hd] at q; cases q⟩
  keep := fun i h h' st k => let ⟨⟨old, he⟩, hi, hne⟩ := st; ⟨⟨old, k e (by simp) _ he⟩, hi.at fun o q => k it (by simp) o q, hne⟩
  item := by
    intro X hP hw hK hc i pins s σ H E I hf st hg
    subst hP hw hK
    obtain ⟨⟨old, he⟩, hit, hne⟩ := st
    obtain ⟨xs, x, hq, hx⟩ := hg
    obtain ⟨its, rv, p, hz⟩ := I.tuple hq
    obtain ⟨u, hu, ru⟩ := rv.get hx
    have hel : e < s.heap.objs.size := Heap.lt_size he
    have hil : it < s.heap.objs.size := by obtain ⟨_, q, _⟩ := hit; exact Heap.lt_size q
    have hai : a ≠ it := by
      intro z
      subst z
      obtain ⟨o, q, c, _⟩ := hit
      obtain ⟨o2, q2, c2, _⟩ := (show s.heap.IsTuple a its.toArray from p)
      rw [q] at q2
      cases q2
      rw [c] at c2
      injection c2 with c3
      exact absurd c3 (by decide)
    have hae : a ≠ e := by
      intro z
      subst z
      obtain ⟨o2, q2, c2, _⟩ := (show s.heap.IsTuple a its.toArray from p)
      rw [he] at q2
      cases q2
      injection c2 with c3
      exact absurd c3 (by decide)
    have D := Draws.tuple (prog := X.prog) (w := X.w) (A := X.A.in1) (I.ok.hd hc) it a hai its.toArray
    have hlt : i < its.toArray.size := by
      have := (List.getElem?_eq_some_iff.mp hu).1
      simpa using this
    refine wpAny_pyNext_enum_itemD D he ⟨hit, p⟩ hlt hne (by simp [hne, hae.symm]) fun u' h' tk hP ho hst hT hsz hk => ?_
    have eu : u' = u := by
      have q1 : its.toArray[i]? = some u' := hP
      have q2 : its.toArray[i]? = some u := by simpa using hu
      rw [q1] at q2
      exact Option.some.inj q2
    subst eu
    have hit' := hst.1
    refine ⟨_, rfl, wpAny_letOwnedTupleGo_enum (s := { s with heap := h', toks := tk + 1 }) ho fun h'' he' sb => ?_⟩
    have hT2 : h''.get? s.heap.objs.size = some { cls := .type "tuple", data := .seq #[.int i tk, u'] } := (sb.2 _ (Nat.ne_of_gt hel)).trans hT
    have new : ObjOk X.prog X.w (upd H s.heap.objs.size (.tup [.int (i : Nat), x])) h'' s.heap.objs.size (.tup [.int (i : Nat), x]) :=
      ⟨by show 2 ≤ sizeLine; decide, [.int i tk, u'], .cons ⟨_, rfl⟩ (.cons ru .nil), ⟨_, hT2, rfl, _, rfl⟩⟩
    have I1 : Inv X pins σ (upd H s.heap.objs.size (.tup [.int (i : Nat), x])) { s with heap := h'', toks := tk + 1 } :=
      I.turnedNew (ch := [e, it]) (fun b ob hb q => (sb.2 b (fun z => hb (by simp [z]))).trans (hk b ob (fun z => hb (by simp [z])) (fun z => hb (by simp [z])) q)) hf (Nat.le_refl _) new
    refine ⟨.ref s.heap.objs.size, _, I1, rfl, ⟨_, x, rfl, I.hok.fresh (Nat.le_refl _), rfl, fun ys hy => by rw [I.tuple_inj hy hq]; exact hx⟩, ⟨⟨u', ?_⟩, hit'.at fun o q => (sb.2 it (Ne.symm hne)).trans q, hne⟩, fun b hb => ?_⟩
    · have e1 : ((i + 1 : Nat) : Int) = (i : Int) + 1 := by omega
      rw [e1]; exact he'
    · have hb' : b < s.heap.objs.size := by
        have e' : b = e ∨ b = it := by simpa using hb
        rcases e' with z | z
        · rw [z]; exact hel
        · rw [z]; exact hil
      rw [upd_ne (Nat.ne_of_lt hb')]
      exact (hf b hb).1
  done := by
    intro X hP hw hK hc i pins s σ H E I hf st hg
    subst hP hw hK
    obtain ⟨⟨old, he⟩, hit, hne⟩ := st
    obtain ⟨xs, hq, hx⟩ := hg
    obtain ⟨its, rv, p, hz⟩ := I.tuple hq
    obtain ⟨f0, f1, f2, f3, f4, f5⟩ := hf it (by simp)
    have hl := rv.length
    exact enum_endT (I.ok.hd hc) he hit p (by simp; omega) fun h' eb => ⟨rfl, I.turned (t' := s.toks) (fun b o hb q => eb b o hb q) f0 f1 f3 f4 f5⟩
  self := fun A i s Q E st h => let ⟨⟨_, he⟩, _⟩ := st; wpAny_pyIter_enum he h
def iEnumT (K : PySem.W.Frag) (ta : TA) : TI := fun σ H R => ta σ H fun vs H1 => ∃ a xs, vs = [.ref a] ∧ SqT K H1 a xs ∧ R (Itet K a) H1
theorem pi_enumT {X : Cx} {e : Expr} {ta : TA} {p pos tpos : Pos} {elts : List Expr} {kk : Nat} (hg : Gl X "enumerate") (hm : X.mg "enumerate" = none) (ha : PA X [e] ta) (hs : starEach [e] X.env = [(false, eval e X.env)] := by rfl) :
    PI X (.Tuple elts kk tpos) (.Call (.Name "enumerate" p) [e] [] pos) (iEnumT X.K ta) := by
  refine ⟨fun pins s σ H R I h => ?_⟩
  refine Call_ (ld_blt I hg hm boot_enumerate (PyProof.Rows.callWith_type1 (thn (ha.run pos pins s σ H _ I h) fun us s1 ⟨vs, H1, I1, r1, q1⟩ => ?_) hs rfl))
  obtain ⟨a, xs, ex, hq, q⟩ := q1
  subst ex
  cases r1 with
  | cons r rr =>
    cases rr
    cases r
    obtain ⟨its, rv, p', hz⟩ := I1.tuple hq
    refine enum_begins1 (begins_tuple a its.toArray) p' fun h' he hit hsz hk => wpAny_pyIter_enum he ?_
    have I2 : Inv X pins σ H1 { s1 with heap := h' } := I1.kept (t' := s1.toks) hk
    refine ⟨s1.heap.objs.size + 1, [s1.heap.objs.size + 1, s1.heap.objs.size], _, _, H1, rfl, I2, turn_enumT a (s1.heap.objs.size + 1) s1.heap.objs.size, ⟨⟨.none, he⟩, ⟨_, hit, rfl, rfl⟩, Nat.succ_ne_self _⟩, fun b hb => ?_, q⟩
    have e' : b = s1.heap.objs.size + 1 ∨ b = s1.heap.objs.size := by simpa using hb
    have hle : s1.heap.objs.size ≤ b := by
      rcases e' with z | z
      · rw [z]; exact Nat.le_add_right _ _
      · rw [z]; exact Nat.le_refl _
    exact I1.fpOk hle (I1.hok.fresh hle)
end Ey
set_option maxHeartbeats 4000000
namespace Ey
open PySem PySem.Spec L2 PyProof.Rows
/-! ### zip(text, tuple) -/
/-- the text z beside the tuple at b, each sign with its item in a new pair -/
def ItzS (K : PySem.W.Frag) (z : Str) (b : Addr) : It :=
  ⟨fun i H => ∃ (ys : List V) (c : Nat) (y : V), SqT K H b ys ∧ z.cps[i]? = some c ∧ ys[i]? = some y,
    fun i H v H' => ∃ (T : Addr) (c : Nat) (y : V), v = .ref T ∧ H T = none ∧ H' = upd H T (.tup [.str ⟨#[c]⟩, y]) ∧ z.cps[i]? = some c ∧ ∀ ys, SqT K H b ys → ys[i]? = some y,
    fun i H => ∃ ys : List V, SqT K H b ys ∧ i ≤ z.cps.size ∧ i ≤ ys.length ∧ (i = z.cps.size ∨ i = ys.length)⟩
theorem turn_zipS {P : Program} {w : World} {K : PySem.W.Frag} {elts : List Expr} {kk : Nat} {tpos : Pos} {x : Str} {tok : Tok} {b z TI TO i1 i2 : Addr} (S : ZipSep2 z TI TO i1 i2 [i1] [i2, b]) :
    Turn P w K (.Tuple elts kk tpos) (ItzS K x b) [z, TI, TO, i1, i2] z (fun i h => IsZip h z TI TO .none ∧ IsTupOf2 h TI (.ref i1) (.ref i2) ∧ (∃ u v, IsTupOf2 h TO u v) ∧ h.IsStrIter i1 (strIterType x) x tok i ∧ h.IsTupleIter i2 b i) where
  mem := by simp
  obj := fun i h st c hc => by
    obtain ⟨hz, hTI, ⟨u, v, hTO⟩, ⟨o1, e1, _, d1⟩, ⟨o2, e2, _, d2⟩⟩ := st
    have e' : c = z ∨ c = TI ∨ c = TO ∨ c = i1 ∨ c = i2 := by simpa using hc
    rcases e' with q | q | q | q | q
    · rw [q]; exact ⟨_, hz, fun v q => nomatch q⟩
    · rw [q]; exact ⟨_, hTI, fun v q => nomatch q⟩
    · rw [q]; exact ⟨_, hTO, fun v q => nomatch q⟩
    · rw [q]; exact ⟨o1, e1, fun v q => by rw [d1] at q; cases q⟩
    · rw [q]; exact ⟨o2, e2, fun v q => by rw [d2] at q; cases q⟩
  keep := fun i h h' st k => by
    obtain ⟨hz, hTI, ⟨u, v, hTO⟩, ⟨o1, e1, c1, d1⟩, h2⟩ := st
    exact ⟨k z (by simp) _ hz, k TI (by simp) _ hTI, ⟨u, v, k TO (by simp) _ hTO⟩, ⟨o1, k i1 (by simp) o1 e1, c1, d1⟩, h2.at fun o q => k i2 (by simp) o q⟩
  item := by
    intro X hP hw hK hc i pins s σ H E I hf st hg
    subst hP hw hK
    obtain ⟨hz, hTI, ⟨u0, v0, hTO⟩, h1, h2⟩ := st
    obtain ⟨ys, c, y, hqy, hx, hy⟩ := hg
    obtain ⟨its, rv, p, _⟩ := I.tuple hqy
    obtain ⟨u2, hu2, ru2⟩ := rv.get hy
    have hzl : z < s.heap.objs.size := Heap.lt_size hz
    have hb2 : b ≠ i2 := by
      intro q
      subst q
      obtain ⟨o, q, c1, _⟩ := h2
      obtain ⟨o2, q2, c2, _⟩ := (show s.heap.IsTuple b its.toArray from p)
      rw [q] at q2
      cases q2
      rw [c1] at c2
      injection c2 with c3
      exact absurd c3 (by decide)
    have D1 := Draws.text (prog := X.prog) (w := X.w) (A := X.A.in1) (I.ok.hd hc) i1 x tok
    have D2 := Draws.tuple (prog := X.prog) (w := X.w) (A := X.A.in1) (I.ok.hd hc) i2 b hb2 its.toArray
    have lt1 : i < x.cps.size := (Array.getElem?_eq_some_iff.mp hx).1
    have lt2 : i < its.toArray.size := by
      have := (List.getElem?_eq_some_iff.mp hu2).1
      simpa using this
    refine wpAny_pyNext_zipD2_item S D1 D2 hz hTI hTO h1 ⟨h2, p⟩ lt1 lt2 fun x1 x2 h' tk y1 y2 hz' hTO' st1 st2 hT hsz hk => ?_
    obtain ⟨c', t', hc', rfl⟩ := y1
    have ec : c' = c := by rw [hx] at hc'; exact (Option.some.inj hc').symm
    subst ec
    have eu : x2 = u2 := by
      have q1 : its.toArray[i]? = some x2 := y2
      have q2 : its.toArray[i]? = some u2 := by simpa using hu2
      rw [q1] at q2
      exact Option.some.inj q2
    subst eu
    refine ⟨_, rfl, wpAny_letOwnedTupleGo_zip (s := { s with heap := h', toks := tk }) hz' fun h'' z'' sb => ?_⟩
    have hT2 : h''.get? s.heap.objs.size = some { cls := .type "tuple", data := .seq #[.str ⟨#[c']⟩ t', x2] } := (sb.2 _ (Nat.ne_of_gt hzl)).trans hT
    have new : ObjOk X.prog X.w (upd H s.heap.objs.size (.tup [.str ⟨#[c']⟩, y])) h'' s.heap.objs.size (.tup [.str ⟨#[c']⟩, y]) :=
      ⟨by show 2 ≤ sizeLine; decide, [.str ⟨#[c']⟩ t', x2], .cons ⟨_, rfl⟩ (.cons ru2 .nil), ⟨_, hT2, rfl, _, rfl⟩⟩
    have I1 : Inv X pins σ (upd H s.heap.objs.size (.tup [.str ⟨#[c']⟩, y])) { s with heap := h'', toks := tk } :=
      I.turnedNew (t' := tk) (ch := [z, TI, TO, i1, i2]) (fun c o hb q => (sb.2 c (fun q' => hb (by simp [q']))).trans (hk c o (fun q' => hb (by simp [q'])) (fun q' => hb (by simp [q'])) (fun q' => hb (by simp [q'])) (fun q' => hb (by simp [q'])) q)) hf (Nat.le_refl _) new
    refine ⟨.ref s.heap.objs.size, _, I1, rfl, ⟨_, c', y, rfl, I.hok.fresh (Nat.le_refl _), rfl, hx, fun l hl => by rw [I.tuple_inj hl hqy]; exact hy⟩, ⟨z'', ?_, ⟨.str ⟨#[c']⟩ t', x2, ?_⟩, ?_, ?_⟩, fun c hcm => ?_⟩
    · exact (sb.2 _ S.TIz).trans (hk _ _ S.TIz S.TITO S.TIi1 S.TIi2 hTI)
    · exact (sb.2 _ S.TOz).trans hTO'
    · obtain ⟨o1, e1, c1, d1⟩ := st1
      exact ⟨o1, (sb.2 _ (Ne.symm S.zi1)).trans e1, c1, d1⟩
    · exact st2.1.at fun o q => (sb.2 _ (Ne.symm S.zi2)).trans q
    · have hlt : c < s.heap.objs.size := by
        have e' : c = z ∨ c = TI ∨ c = TO ∨ c = i1 ∨ c = i2 := by simpa using hcm
        rcases e' with q | q | q | q | q
        · rw [q]; exact hzl
        · rw [q]; exact Heap.lt_size hTI
        · rw [q]; exact Heap.lt_size hTO
        · rw [q]; obtain ⟨_, e1, _⟩ := h1; exact Heap.lt_size e1
        · rw [q]; obtain ⟨_, e2, _⟩ := h2; exact Heap.lt_size e2
      rw [upd_ne (Nat.ne_of_lt hlt)]
      exact (hf c hcm).1
  done := by
    intro X hP hw hK hc i pins s σ H E I hf st hg
    subst hP hw hK
    obtain ⟨hz, hTI, ⟨u0, v0, hTO⟩, h1, h2⟩ := st
    obtain ⟨ys, hqy, le1, le2, hend⟩ := hg
    obtain ⟨its, rv, p, _⟩ := I.tuple hqy
    have l2 := rv.length
    have hb2 : b ≠ i2 := by
      intro q
      subst q
      obtain ⟨o, q, c1, _⟩ := h2
      obtain ⟨o2, q2, c2, _⟩ := (show s.heap.IsTuple b its.toArray from p)
      rw [q] at q2
      cases q2
      rw [c1] at c2
      injection c2 with c3
      exact absurd c3 (by decide)
    have D1 := Draws.text (prog := X.prog) (w := X.w) (A := X.A.in1) (I.ok.hd hc) i1 x tok
    have D2 := Draws.tuple (prog := X.prog) (w := X.w) (A := X.A.in1) (I.ok.hd hc) i2 b hb2 its.toArray
    have n2 : its.toArray.size = ys.length := by simp [l2]
    exact wpAny_pyNext_zipD2_end S D1 D2 hz hTI hTO h1 ⟨h2, p⟩ le1 (by omega) (by omega) fun h' tk hk => ⟨rfl, I.turnedL (t' := tk) (ch := [z, TI, TO, i1, i2]) (fun c o hb q =>
      hk c o (fun q' => hb (by simp [q'])) (fun q' => hb (by simp [q'])) (fun q' => hb (by simp [q'])) (fun q' => hb (by simp [q'])) q) hf⟩
  self := fun A i s Q E st h => wpAny_pyIter_zip st.1 h
def iZipS (K : PySem.W.Frag) (ta : TA) : TI := fun σ H R => ta σ H fun vs H1 => ∃ (x : Str) (b : Addr) (ys : List V), vs = [.str x, .ref b] ∧ SqT K H1 b ys ∧ R (ItzS K x b) H1
theorem pi_zipS {X : Cx} {e e2 : Expr} {ta : TA} {p pos tpos : Pos} {elts : List Expr} {kk : Nat} (hg : Gl X "zip") (hm : X.mg "zip" = none) (ha : PA X [e, e2] ta)
    (hs : starEach [e, e2] X.env = (false, eval e X.env) :: starEach [e2] X.env := by rfl) (hpl : (backTo pos (starEach [e2] X.env)).any (·.1) = false := by rfl) :
    PI X (.Tuple elts kk tpos) (.Call (.Name "zip" p) [e, e2] [] pos) (iZipS X.K ta) := by
  refine ⟨fun pins s σ H R I h => ?_⟩
  refine Call_ (ld_blt I hg hm PyProof.Rows.boot_zip (PyProof.Rows.callWith_type1 (thn (ha.run pos pins s σ H _ I h) fun us s1 ⟨vs, H1, I1, r1, q1⟩ => ?_) hs hpl))
  obtain ⟨x, b, ys, ex, hqy, q⟩ := q1
  subst ex
  cases r1 with
  | cons r rr =>
    cases rr with
    | cons r' rr =>
      cases rr
      obtain ⟨tok, rfl⟩ := r
      cases r'
      obtain ⟨its2, rv2, p2, _⟩ := I1.tuple hqy
      have hbl : b < s1.heap.objs.size := by
        obtain ⟨o2, ho2, _⟩ := id p2
        exact Heap.lt_size ho2
      have fresh5 : ∀ c, c ∈ [s1.heap.objs.size + 4, s1.heap.objs.size + 2, s1.heap.objs.size + 3, s1.heap.objs.size, s1.heap.objs.size + 1] → FpOk X pins H1 c := fun c hcm => by
        have e' : c = s1.heap.objs.size + 4 ∨ c = s1.heap.objs.size + 2 ∨ c = s1.heap.objs.size + 3 ∨ c = s1.heap.objs.size ∨ c = s1.heap.objs.size + 1 := by simpa using hcm
        have hle : s1.heap.objs.size ≤ c := by omega
        exact I1.fpOk hle (I1.hok.fresh hle)
      refine zip_begins2 (begins_text x tok) (begins_tuple b its2.toArray) trivial p2 fun h' hz hTI hTO h1 h2 hsz hk => wpAny_pyIter_zip hz ?_
      have I2 : Inv X pins σ H1 { s1 with heap := h' } := I1.kept (t' := s1.toks) hk
      exact ⟨s1.heap.objs.size + 4, [s1.heap.objs.size + 4, s1.heap.objs.size + 2, s1.heap.objs.size + 3, s1.heap.objs.size, s1.heap.objs.size + 1], _, _, H1, rfl, I2,
        turn_zipS (tok := tok) (zip_sep2 (N := s1.heap.objs.size) (fp1 := []) (fp2 := [b]) (fun _ h => by cases h) (fun c hc => by rw [List.mem_singleton.mp hc]; exact hbl)), ⟨hz, hTI, ⟨_, _, hTO⟩, ⟨_, h1, rfl, rfl⟩, ⟨_, h2, rfl, rfl⟩⟩, fresh5, q⟩
end Ey
set_option maxHeartbeats 4000000
namespace Ey
open PySem PySem.Spec L2
/-! ### rows as data -/
theorem abc_is : (Str.ofString "abcdefghijklmnopqrstuvwxyz").cps.toList = abc := by decide +kernel
def rowsL : List (Str × Str) := [("top", "d"), ("move", "ds"), ("left", "ds"), ("right", "ds"), ("up", "ds"), ("yes", "d"), ("no", "d"), ("has", "dst"), ("empty", "ds"), ("same", "dss"), ("not", "ds"), ("skip", "k"), ("unless", "sk"), ("call", "dfa"), ("give", "s")]
def shp (w : Str) : Option Str := (rowsL.find? fun p => decide (p.1 = w)).map (·.2)
theorem shp_none {w : Str} (h : shp w = none) : w ∉ rowsL.map (·.1) := fun hw => by
  obtain ⟨p, hp, e⟩ := List.mem_map.mp hw
  have q : rowsL.find? (fun p : Str × Str => decide (p.1 = w)) = none := Option.map_eq_none_iff.mp h
  exact List.find?_eq_none.mp q p hp (decide_eq_true e)
theorem shp_some {w z : Str} (h : shp w = some z) : ∃ p ∈ rowsL, p.1 = w ∧ p.2 = z := by
  obtain ⟨p, q, e⟩ := Option.map_eq_some_iff.mp h
  exact ⟨p, List.mem_of_find?_eq_some q, of_decide_eq_true (List.find?_some (p := fun p : Str × Str => decide (p.1 = w)) q), e⟩
def natD : PyData → Bool
  | .int i => decide (0 ≤ i)
  | .none | .bool _ | .str _ | .list _ | .tuple _ | .dict _ => false
def natsD : PyData → Bool
  | .tuple ds => ds.all natD
  | .none | .bool _ | .int _ | .str _ | .list _ | .dict _ => false
def itemD (c : Nat) (x : PyData) : Bool := if c = 116 then isTagD x else if c = 97 then natsD x else natD x
def zipD (z : List Nat) (r : List PyData) : Bool := decide (r.length = z.length) && (z.zip r).all fun p => itemD p.1 p.2
def rowR (r : List PyData) : Option Str → Bool
  | some z => zipD z.cps.toList r
  | none => false
def rowD : PyData → Bool
  | .tuple (.str w :: r) => rowR r (shp w)
  | _ => false
abbrev sPlain : Stmt := topS 4
abbrev sNat : Stmt := topS 5
abbrev sIsTag : Stmt := topS 9
abbrev sItem : Stmt := topS 12
abbrev sRow : Stmt := topS 13
abbrev sItems : Stmt := topS 14
abbrev sRRead : Stmt := topS 15
abbrev sRSet : Stmt := topS 16
abbrev sReadBy : Stmt := topS 18
abbrev sSetBy : Stmt := topS 19
/-- a def whose code object stands at c, its table at P -/
structure DfT (K : PySem.W.Frag) (mg : Str → Option Value) (x : Str) (st : Stmt) (ps : List Str) (f : Addr) (fd : FuncData) (c : Addr) : Prop extends Df K mg x st ps f fd where
  ex : ∃ (oc : Value) (od : Option Addr) (kV doc pm : Value) (an : Option Addr) (ct : Value) (osl : Array (Option Value)),
    fd = PySem.W.fnOf x x (defArgs st) (defBody st) (defScope st) .none kV doc pm an (.ref c) ct ∧ K.lookup f = some ⟨oc, od, .func fd, osl⟩ ∧ PySem.W.codeIn K (.ref c) x = true
/-- where the program's things stand -/
structure Adr where
  A : Nat → Addr
  D : Nat → FuncData
  c0 : Addr
  P0 : Addr
  c1 : Addr
  P1 : Addr
  c2 : Addr
  P2 : Addr
  aS : Addr
abbrev Adr.Ts (a : Adr) : List Addr := [a.P0, a.P1, a.P2]
structure PF (K : PySem.W.Frag) (w : World) (mg : Str → Option Value) (a : Adr) : Prop where
  B : BI mg
  plain : Df K mg "is_plain_int" sPlain ["thing"] (a.A 4) (a.D 4)
  nat : Df K mg "is_natural" sNat ["thing"] (a.A 5) (a.D 5)
  tag : DfT K mg "is_tag" sIsTag ["thing"] (a.A 9) (a.D 9) a.c0
  item : DfT K mg "is_item" sItem ["letter", "thing"] (a.A 12) (a.D 12) a.c1
  row : DfT K mg "is_row" sRow ["thing"] (a.A 13) (a.D 13) a.c2
  items : Df K mg "items_at" sItems ["row", "letter"] (a.A 14) (a.D 14)
  rread : Df K mg "registers_read" sRRead ["row"] (a.A 15) (a.D 15)
  rset : Df K mg "register_set" sRSet ["row"] (a.A 16) (a.D 16)
  lett : ∃ t, mg "LETTERS" = some (.str "abcdefghijklmnopqrstuvwxyz" t)
  tlen : ∃ t, mg "TAG_LENGTH" = some (.int 8 t)
  shape : mg "ROW_SHAPES" = some (.ref a.aS)
  sD : ∃ es n, KDict K w a.aS es n ∧ es.toList.map keyS = (rowsL.map (·.1)).map some
  sG : ∀ p ∈ rowsL, ∃ t, PySem.W.nsIn K a.aS p.1 = some (some (.str p.2 t))
structure BF (base : Heap) (mg : Str → Option Value) (a : Adr) : Prop where
  T0 : GxR.TabB base mg a.c0 a.P0
  T1 : GxR.TabB base mg a.c1 a.P1
  T2 : GxR.TabB base mg a.c2 a.P2
  M : base.Ns mainGlobals mg
theorem wd_mem {x : PyData} : ∀ {ds : List PyData}, x ∈ ds → wd x + 2 ≤ wdAll ds
  | y :: r, h => by
    rcases List.mem_cons.mp h with rfl | h
    · show wd x + 2 ≤ wd x + 2 + wdAll r
      omega
    · have := wd_mem h
      show wd x + 2 ≤ wd y + 2 + wdAll r
      omega
theorem take_all {α : Type} {f : α → Bool} {l : List α} {i : Nat} {x : α} (h : l[i]? = some x) : (l.take (i + 1)).all f = ((l.take i).all f && f x) := by
  rw [List.take_add_one, h, List.all_append]
  simp
theorem AnAll.at {ms : List Addr} {H : Hp} {vs : List V} {ds : List PyData} (h : AnAll ms H vs ds) {i : Nat} {v : V} (e : vs[i]? = some v) : ∃ d, ds[i]? = some d ∧ An ms H v d := h.get e
theorem dec_int (i j : Int) : decide (V.int i = V.int j) = decide (i = j) := by
  by_cases h : i = j
  · rw [decide_eq_true h, decide_eq_true (congrArg V.int h)]
  · rw [decide_eq_false h, decide_eq_false fun z => h (V.int.inj z)]
section
variable {Pr : Program} {w : World} {K : PySem.W.Frag} {mg : Str → Option Value} {base : Heap} {ms : List Addr} {a : Adr}
/-- a promise about any data -/
def spD (ms Ts : List Addr) (g : PyData → Bool) : Sp := fun vs H Q _ => ∃ (v : V) (d : PyData), vs = [v] ∧ An ms H v d ∧ wd d ≤ 1000000 ∧ TTs Ts H ∧ (∀ P ∈ Ts, P ∈ ms) ∧ ∀ H', TTs Ts H' → Kp Ts H H' → Q (.bl (g d)) H'
theorem scTag : FnScope ["thing"] ["thing"] (defScope sIsTag) := ⟨rfl, rfl, rfl, by decide +kernel, rfl, by decide +kernel, by decide +kernel⟩
theorem ok_tag (F : PF K w mg a) (b : BF base mg a) : FnOk Pr w K mg base CX0 1 (a.A 9) (a.D 9) ["thing"] (spD ms a.Ts isTagD) := by
  obtain ⟨tL, mL⟩ := F.lett
  obtain ⟨tT, mT⟩ := F.tlen
  have B := F.B
  obtain ⟨oc, od, kV, doc, pm, an, ct, osl, efd, lk, code⟩ := F.tag.ex
  rw [efd]
  rw [efd] at lk
  refine fn_of lk code scTag (fun vs H Q E h => ?_) (fun A outer s H vs Q E hr h => ?_)
  · obtain ⟨v, d, rfl, _⟩ := h
    rfl
  · obtain ⟨v, d, rfl, hv, hz, hT, hsub, k⟩ := h
    refine ⟨_, pss_one (ps_ret (pe_and (pe_callB call_isi (by rfl) B.isi (by decide +kernel) (pa_cons (pv 0) (pa_cons (pe_bltn (v := .ty "str") (by rfl) B.str (by decide +kernel) rfl) pa_nil)))
      (pe_and (pe_chain op_le op_le pe_int (pe_callB call_len_str (by rfl) B.len PySem.boot_len (pa_cons (pv 0) pa_nil)) (pe_glob (v := .int 8) (by rfl) mT ⟨_, rfl⟩))
        (pe_one (pe_allG (P := a.P0) (c := a.c0) hr (by rfl) B.all (by decide +kernel) b.T0 rfl ⟨rfl, rfl, by decide +kernel, rfl, rfl, (by intro y hy e; exfalso; revert y; decide +kernel)⟩ (pv 0) (elt_inG rfl rfl rfl rfl b.M mL) (fun _ => rfl)))))), ?_⟩
    have kH := k H hT .refl
    obtain ⟨ty, hty, kty⟩ := hv.strK (K := K)
    refine ⟨_, rfl, _, .ty "str", ty, .type "str", _, rfl, .ty "str", hty, kty, ?_⟩
    cases hv with
    | non => exact ⟨false, rfl, iteF kH⟩
    | bl b => exact ⟨false, rfl, iteF kH⟩
    | int i => exact ⟨false, rfl, iteF kH⟩
    | lst e => exact ⟨false, rfl, iteF kH⟩
    | tup e => exact ⟨false, rfl, iteF kH⟩
    | dct e => exact ⟨false, rfl, iteF kH⟩
    | str g =>
      refine ⟨true, rfl, iteT ?_⟩
      have hg : g.length ≤ sizeLine := by
        have h1 : 10 * g.length + 2 ≤ 1000000 := hz
        exact Nat.le_trans (show g.length ≤ 1000000 by omega) (by decide)
      have fin : ∀ b, isTag g = b → Q (.bl b) H := fun b e => by
        rw [← e]
        exact kH
      refine ⟨_, rfl, _, rfl, hg, _, _, rfl, rfl, _, rfl, ?_⟩
      by_cases h1 : 1 ≤ g.length
      · rw [decide_eq_true (show (1 : Int) ≤ (g.length : Int) by omega)]
        refine iteT ⟨_, _, rfl, rfl, _, rfl, ?_⟩
        by_cases h2 : g.length ≤ 8
        · rw [decide_eq_true (show (g.length : Int) ≤ 8 by omega)]
          refine iteT ⟨_, rfl, g, rfl, hT _ (by simp), fun H2 h => ?_⟩
          obtain ⟨g2, k2⟩ := hT.tab (by simp) h
          have q : Q (.bl (isTag g)) H2 := k H2 g2 k2
          rw [isTag, decide_eq_true h1, decide_eq_true h2] at q
          rw [abc_is]
          exact q
        · rw [decide_eq_false (show ¬ (g.length : Int) ≤ 8 by omega)]
          refine iteF (fin _ ?_)
          rw [isTag, decide_eq_false h2, Bool.and_false]
          rfl
      · rw [decide_eq_false (show ¬ (1 : Int) ≤ (g.length : Int) by omega)]
        refine iteF ⟨_, rfl, iteF (fin _ ?_)⟩
        rw [isTag, decide_eq_false h1]
        rfl
theorem scPlain : FnScope ["thing"] ["thing"] (defScope sPlain) := ⟨rfl, rfl, rfl, by decide +kernel, rfl, by decide +kernel, by decide +kernel⟩
def isIntD : PyData → Bool
  | .int _ => true
  | .none | .bool _ | .str _ | .list _ | .tuple _ | .dict _ => false
def spI (ms : List Addr) (g : PyData → Bool) : Sp := fun vs H Q _ => ∃ (v : V) (d : PyData), vs = [v] ∧ An ms H v d ∧ Q (.bl (g d)) H
theorem ok_plain {x y : Str} {st : Stmt} {f : Addr} {fd : FuncData} (F : Fun K x x st f fd) (sc : FnScope [y] [y] (defScope st)) 
    (ht : ∀ (cdv : Value) (A : Around) (outer : List Env) (s : Shared) (H : Hp) (E : XK), PSs (cxOf CX0 Pr w K mg base [y] x (defScope st) f cdv A outer s H E).nox (defBody st)
      (tRet (tAndV (tCB (rIsi K) (tCons (tVar 0) (tCons (tC (.ty "int")) tNil))) (tNotV (tCB (rIsi K) (tCons (tVar 0) (tCons (tC (.ty "bool")) tNil))))))) : FnOk Pr w K mg base CX0 1 f fd [y] (spI ms isIntD) := by
  refine F.ok sc (fun vs H Q E h => ?_) (fun cdv Ar outer s H vs Q E hr h => ?_)
  · obtain ⟨v, d, rfl, _⟩ := h
    rfl
  · obtain ⟨v, d, rfl, hv, k⟩ := h
    refine ⟨_, ht cdv Ar outer s H E, ?_⟩
    cases hv with
    | non => exact ⟨_, rfl, _, .ty "int", _, .type "int", false, rfl, .ty "int", .base .non, kit_ty (by decide +kernel), false, rfl, iteF k⟩
    | bl b => exact ⟨_, rfl, _, .ty "int", _, .type "int", true, rfl, .ty "int", .base (.bl b), kit_ty (by decide +kernel), true, rfl, iteT ⟨_, rfl, _, .ty "bool", _, .type "bool", true, rfl, .ty "bool", .base (.bl b), kit_ty (by decide +kernel), _, rfl, k⟩⟩
    | int i => exact ⟨_, rfl, _, .ty "int", _, .type "int", true, rfl, .ty "int", .base (.int i), kit_ty (by decide +kernel), true, rfl, iteT ⟨_, rfl, _, .ty "bool", _, .type "bool", false, rfl, .ty "bool", .base (.int i), kit_ty (by decide +kernel), _, rfl, k⟩⟩
    | str x => exact ⟨_, rfl, _, .ty "int", _, .type "int", false, rfl, .ty "int", .base (.str x), kit_ty (by decide +kernel), false, rfl, iteF k⟩
    | lst e => exact ⟨_, rfl, _, .ty "int", _, .type "int", false, rfl, .ty "int", .base (.lst e), kit_ty (by decide +kernel), false, rfl, iteF k⟩
    | tup e => exact ⟨_, rfl, _, .ty "int", _, .type "int", false, rfl, .ty "int", .base (.tup e), kit_ty (by decide +kernel), false, rfl, iteF k⟩
    | dct e => exact ⟨_, rfl, _, .ty "int", _, .type "int", false, rfl, .ty "int", .base (.dK e), kit_ty (by decide +kernel), false, rfl, iteF k⟩
theorem go_plain (F : PF K w mg a) : FnOk Pr w K mg base CX0 1 (a.A 4) (a.D 4) ["thing"] (spI ms isIntD) :=
  ok_plain F.plain.F scPlain fun cdv A outer s H E => pss_one (ps_ret (pe_and (pe_callB call_isi (by rfl) F.B.isi (by decide +kernel) (pa_cons (pv 0) (pa_cons (pe_bltn (v := .ty "int") (by rfl) F.B.int (by decide +kernel) rfl) pa_nil)))
      (pe_one (pe_not (pe_callB call_isi (by rfl) F.B.isi (by decide +kernel) (pa_cons (pv 0) (pa_cons (pe_bltn (v := .ty "bool") (by rfl) F.B.bool (by decide +kernel) rfl) pa_nil)))))))
theorem scNat : FnScope ["thing"] ["thing"] (defScope sNat) := ⟨rfl, rfl, rfl, by decide +kernel, rfl, by decide +kernel, by decide +kernel⟩
theorem ok_nat (F : PF K w mg a) : FnOk Pr w K mg base CX0 2 (a.A 5) (a.D 5) ["thing"] (spI ms natD) := by
  refine F.nat.F.ok scNat (fun vs H Q E h => ?_) (fun cdv Ar outer s H vs Q E hr h => ?_)
  · obtain ⟨v, d, rfl, _⟩ := h
    rfl
  · obtain ⟨v, d, rfl, hv, k⟩ := h
    refine ⟨_, pss_one (ps_ret (pe_and (pe_call (go_plain (ms := ms) F) hr (by rfl) F.plain.g F.plain.F.kp F.plain.b .nil pass0 (pa_cons (pv 0) pa_nil)) (pe_one (pe_cmpR op_ge (pv 0) pe_int (nomark _))))), ?_⟩
    refine ⟨_, rfl, v, d, rfl, hv, _, rfl, ?_⟩
    cases hv with
    | int i =>
      refine iteT ⟨_, rfl, _, _, rfl, rfl, ?_⟩
      exact k
    | non => exact iteF k
    | bl b => exact iteF k
    | str x => exact iteF k
    | lst e => exact iteF k
    | tup e => exact iteF k
    | dct e => exact iteF k
end
end Ey
set_option maxHeartbeats 4000000
namespace Ey
open PySem PySem.Spec L2
/-! ### all(e for x, y in zip(text, tuple)) -/
theorem all_zipS {K : PySem.W.Frag} {k : Nat} {z : Str} {b : Addr} {ys : List V} {tg : TG} {te : TE} {Q : VK} {H1 : Hp} (hlen : z.cps.toList.length = ys.length) (Pv : Nat → Hp → Prop) (h0 : Pv 0 H1) (hl : ∀ i H, Pv i H → SqT K H b ys)
    (hs : ∀ (i c : Nat) (y : V) (T : Addr) (H : Hp), z.cps.toList[i]? = some c → ys[i]? = some y → Pv i H → H T = none → ∀ σ : L2.St, σ.length = k → tg (.ref T) σ (upd H T (.tup [.str (st [c]), y])) fun σ2 H2 => te σ2 H2 fun y H3 => ∃ b, y = .bl b ∧ if b = true then Pv (i + 1) H3 else Q (.bl false) H3)
    (hd : ∀ H, Pv ys.length H → Q (.bl true) H) :
    ∃ (n0 : Nat) (W : Nat → Hp → Prop), W 0 H1 ∧ ∀ i H', W i H' → (i < n0 ∧ (ItzS K z b).go i H' ∧ ∀ v H'', (ItzS K z b).yld i H' v H'' → ∀ σ : L2.St, σ.length = k → tg v σ H'' fun σ2 H2 => te σ2 H2 fun y H3 => ∃ b, y = .bl b ∧ if b = true then W (i + 1) H3 else Q (.bl false) H3) ∨ ((ItzS K z b).stop i H' ∧ Q (.bl true) H') := by
  have ez : z.cps.size = ys.length := by rw [← hlen, Array.length_toList]
  refine ⟨ys.length, fun i H => i ≤ ys.length ∧ Pv i H, ⟨Nat.zero_le _, h0⟩, fun i H ⟨hi, p⟩ => ?_⟩
  have q := hl i H p
  by_cases lt : i < ys.length
  · have lz : i < z.cps.size := by omega
    refine .inl ⟨lt, ⟨ys, z.cps[i], ys[i], q, Array.getElem?_eq_getElem lz, List.getElem?_eq_getElem lt⟩, fun v H'' y => ?_⟩
    obtain ⟨T, c, y', rfl, hT, rfl, hc, hy⟩ := y
    intro σ hσ
    have hy' := hy ys q
    have r := hs i c y' T H (by rw [Array.getElem?_toList]; exact hc) hy' p hT σ hσ
    have conv : ∀ {R1 R2 : Prop}, R1 = R2 → R1 → R2 := fun e h => e ▸ h
    refine conv ?_ r
    congr 1
    funext σ2 H2
    congr 1
    funext y H3
    refine propext ⟨fun ⟨b, e, h⟩ => ⟨b, e, ?_⟩, fun ⟨b, e, h⟩ => ⟨b, e, ?_⟩⟩
    · cases b with
      | true => exact ⟨lt, h⟩
      | false => exact h
    · cases b with
      | true => exact h.2
      | false => exact h
  · have e : i = ys.length := by omega
    subst e
    exact .inr ⟨⟨ys, q, by omega, Nat.le_refl _, .inr rfl⟩, hd H p⟩
theorem zip_take {α β : Type} {f : α × β → Bool} {xs : List α} {ys : List β} {i : Nat} {x : α} {y : β} (h1 : xs[i]? = some x) (h2 : ys[i]? = some y) : ((xs.zip ys).take (i + 1)).all f = (((xs.zip ys).take i).all f && f (x, y)) := by
  refine take_all (f := f) ?_
  rw [List.getElem?_zip_eq_some]
  exact ⟨h1, h2⟩
section
variable {Pr : Program} {w : World} {K : PySem.W.Frag} {mg : Str → Option Value} {base : Heap} {ms : List Addr} {a : Adr}
theorem sgn (c d : Nat) (h : V.str (st [c]) = V.str (st [d])) : c = d := (List.cons.inj (st_inj (V.str.inj h))).1
theorem s_t : (Str.ofString "t") = st [116] := by decide +kernel
theorem s_a : (Str.ofString "a") = st [97] := by decide +kernel
theorem scItem : FnScope ["letter", "thing"] ["letter", "thing"] (defScope sItem) := ⟨rfl, rfl, rfl, by decide +kernel, rfl, by decide +kernel, by decide +kernel⟩
def spItem (ms Ts : List Addr) : Sp := fun vs H Q _ => ∃ (c : Nat) (v : V) (d : PyData), vs = [.str (st [c]), v] ∧ An ms H v d ∧ wd d ≤ 1000000 ∧ TTs Ts H ∧ (∀ P ∈ Ts, P ∈ ms) ∧ ∀ H', TTs Ts H' → Kp Ts H H' → Q (.bl (itemD c d)) H'
theorem ok_item (F : PF K w mg a) (b : BF base mg a) : FnOk Pr w K mg base CX0 5 (a.A 12) (a.D 12) ["letter", "thing"] (spItem ms a.Ts) := by
  have B := F.B
  obtain ⟨oc, od, kV, doc, pm, an, ct, osl, efd, lk, code⟩ := F.item.ex
  rw [efd]
  rw [efd] at lk
  refine fn_of lk code scItem (fun vs H Q E h => ?_) (fun A outer s H vs Q E hr h => ?_)
  · obtain ⟨c, v, d, rfl, _⟩ := h
    rfl
  · obtain ⟨c, v, d, rfl, hv, hz, hT, hsub, k⟩ := h
    have hr2 := hr.mono (show 2 ≤ 4 by decide)
    have hr1 := hr.mono (show 1 ≤ 4 by decide)
    refine ⟨_, pss_cons (ps_if (pt_cmpR op_eq (pv 0) pe_str (nomark _)) (pss_one (ps_ret (pe_call (ok_tag (ms := ms) F b) hr1 (by rfl) F.tag.g F.tag.F.kp F.tag.b .nil pass0 (pa_cons (pv 1) pa_nil)))) pss_nil)
      (pss_cons (ps_if (pt_cmpR op_eq (pv 0) pe_str (nomark _)) (pss_one (ps_ret (pe_and (pe_callB call_isi (by rfl) B.isi (by decide +kernel) (pa_cons (pv 1) (pa_cons (pe_bltn (v := .ty "tuple") (by rfl) B.tuple (by decide +kernel) rfl) pa_nil)))
        (pe_one (pe_allX (k := 2) (P := a.P1) (c := a.c1) hr (by rfl) B.all (by decide +kernel) b.T1 rfl ⟨rfl, rfl, by decide +kernel, rfl, rfl, (by intro y hy e; exfalso; revert y; decide +kernel)⟩ (by decide +kernel) (pi_tup (pv 1))
          (fun A s H C code fp hr => pe_call (ok_nat (ms := ms) F) hr (by rfl) F.nat.g F.nat.F.kp F.nat.b .nil pass0 (pa_cons (pv 0) pa_nil)) (fun _ => rfl)))))) pss_nil)
      (pss_one (ps_ret (pe_call (ok_nat (ms := ms) F) hr2 (by rfl) F.nat.g F.nat.F.kp F.nat.b .nil pass0 (pa_cons (pv 1) pa_nil))))), ?_⟩
    refine ⟨_, rfl, rfl, _, rfl, ite2 (fun q => ?_) (fun q1 => ?_)⟩
    · have e : c = 116 := sgn c 116 (s_t ▸ of_decide_eq_true q)
      have k2 : ∀ H', TTs a.Ts H' → Kp a.Ts H H' → Q (.bl (isTagD d)) H' := fun H' g' k' => by
        have := k H' g' k'
        unfold itemD at this
        rw [if_pos e] at this
        exact this
      exact ⟨_, rfl, v, d, rfl, hv, hz, hT, hsub, k2⟩
    have n1 : ¬ c = 116 := fun e => q1 (decide_eq_true (by rw [e, s_t]))
    refine ⟨_, rfl, rfl, _, rfl, ite2 (fun q => ?_) (fun q2 => ?_)⟩
    · have e : c = 97 := sgn c 97 (s_a ▸ of_decide_eq_true q)
      have k2 : ∀ H', TTs a.Ts H' → Kp a.Ts H H' → Q (.bl (natsD d)) H' := fun H' g' k' => by
        have := k H' g' k'
        unfold itemD at this
        rw [if_neg n1, if_pos e] at this
        exact this
      have kH := k2 H hT .refl
      obtain ⟨ty, hty, kty⟩ := hv.tupK (K := K)
      refine ⟨_, rfl, _, .ty "tuple", ty, .type "tuple", _, rfl, .ty "tuple", hty, kty, ?_⟩
      cases hv with
      | non => exact ⟨false, rfl, iteF kH⟩
      | bl b => exact ⟨false, rfl, iteF kH⟩
      | int i => exact ⟨false, rfl, iteF kH⟩
      | str g => exact ⟨false, rfl, iteF kH⟩
      | lst e => exact ⟨false, rfl, iteF kH⟩
      | dct e => exact ⟨false, rfl, iteF kH⟩
      | @tup t xs ds e hds =>
        refine ⟨true, rfl, iteT ⟨_, rfl, t, rfl, ⟨_, sqt_of e⟩, hT _ (by simp), fun H2 h2 => ?_⟩⟩
        obtain ⟨g2, kt2⟩ := hT.tab (by simp) h2
        have ln := hds.length
        refine all_tup (fun i H' => TTs a.Ts H' ∧ Kp a.Ts H H' ∧ (ds.take i).all natD = true) ⟨g2, kt2, rfl⟩ (fun i H' ⟨_, k', _⟩ => sqt_of (k'.tup _ _ e)) ?_ ?_
        · rintro i x H' hx ⟨g', k', q⟩
          obtain ⟨dx, e1, ax⟩ := hds.get hx
          refine ⟨_, rfl, x, dx, rfl, ax.kp k' hsub dx, _, rfl, ?_⟩
          cases e2 : natD dx with
          | true =>
            refine iteT ⟨g', k', ?_⟩
            rw [take_all e1, q, e2]
            rfl
          | false =>
            have e3 : natsD (.tuple ds) = false := List.all_eq_false.mpr ⟨dx, List.mem_of_getElem? e1, by rw [e2]; exact Bool.false_ne_true⟩
            rw [e3] at k2
            exact iteF (k2 H' g' k')
        · rintro H' ⟨g', k', q⟩
          rw [ln, List.take_length] at q
          have e3 : natsD (.tuple ds) = true := q
          rw [e3] at k2
          exact k2 H' g' k'
    · have n2 : ¬ c = 97 := fun e => q2 (decide_eq_true (by rw [e, s_a]))
      refine ⟨_, rfl, v, d, rfl, hv, ?_⟩
      have := k H hT .refl
      unfold itemD at this
      rw [if_neg n1, if_neg n2] at this
      exact this
theorem scRow : FnScope ["thing", "shape"] ["thing"] (defScope sRow) := ⟨rfl, rfl, rfl, by decide +kernel, rfl, by decide +kernel, by decide +kernel⟩
theorem ok_row (F : PF K w mg a) (b : BF base mg a) : FnOk Pr w K mg base CX0 8 (a.A 13) (a.D 13) ["thing"] (spD ms a.Ts rowD) := by
  have B := F.B
  obtain ⟨es, n, DD, hks⟩ := F.sD
  obtain ⟨oc, od, kV, doc, pm, an, ct, osl, efd, lk, code⟩ := F.row.ex
  rw [efd]
  rw [efd] at lk
  refine fn_of lk code scRow (fun vs H Q E h => ?_) (fun A outer s H vs Q E hr h => ?_)
  · obtain ⟨v, d, rfl, _⟩ := h
    rfl
  · obtain ⟨v, d, rfl, hv, hz, hT, hsub, k⟩ := h
    refine ⟨_, pss_cons (ps_if (PW.pt (pw_or (pt_not (pt_val (pe_callB call_isi (by rfl) B.isi (by decide +kernel) (pa_cons (pv 0) (pa_cons (pe_bltn (v := .ty "tuple") (by rfl) B.tuple (by decide +kernel) rfl) pa_nil)))))
        (pw_or (pt_not (pt_truth (pv 0) (by intro _; rfl)))
        (pw_or (pt_not (pt_val (pe_callB call_isi (by rfl) B.isi (by decide +kernel) (pa_cons (pe_ix ix_tup (pv 0) pe_int (fun _ _ => rfl)) (pa_cons (pe_bltn (v := .ty "str") (by rfl) B.str (by decide +kernel) rfl) pa_nil)))))
        (pw_or1 (pt_cmpR (op_notIn_kd DD) (pe_ix ix_tup (pv 0) pe_int (fun _ _ => rfl)) (pe_glob (v := .ref a.aS) (by rfl) F.shape rfl) (by rfl))))))) (pss_one (ps_ret pe_bl)) pss_nil)
      (pss_cons (ps_set (i := 1) scRow.nd rfl (.inl rfl) (pe_ix ix_kdict (pe_glob (v := .ref a.aS) (by rfl) F.shape rfl) (pe_ix ix_tup (pv 0) pe_int (fun _ _ => rfl)) (fun _ _ => rfl)))
      (pss_one (ps_ret (pe_and (pe_cmpR op_eq (pe_callB call_len_seq (by rfl) B.len PySem.boot_len (pa_cons (pv 0) pa_nil)) (pe_op op_add pe_int (pe_callB call_len_str (by rfl) B.len PySem.boot_len (pa_cons (pv 1) pa_nil))) (nomark _))
        (pe_one (pe_allO (k := 5) (P := a.P2) (c := a.c2) (ns := ["letter", "item"]) (x := "letter") (tg := gTup K 2 (gCons (gName 0) (gCons (gName 1) gNil))) hr (by rfl) B.all (by decide +kernel) b.T2 rfl ⟨rfl, rfl, by decide +kernel, rfl, rfl, (by intro y hy e; exfalso; revert y; decide +kernel)⟩ (by decide +kernel)
          (pi_zipS (by rfl) B.zip (pa_cons (pv 1) (pa_cons (pe_slice sl_cut (pv 0) (po_some pe_int) po_none) pa_nil)))
          (fun A s H C code fp => pg_tup (n := 2) rfl (pgs_cons (pg_name (i := 0) (show [("letter" : Str), "item"].Nodup by decide +kernel) rfl (.inl rfl) (.inr rfl)) (pgs_cons (pg_name (i := 1) (show [("letter" : Str), "item"].Nodup by decide +kernel) rfl (.inl rfl) (.inr rfl)) pgs_nil)))
          (fun A s H C code fp hr => pe_call (ok_item (ms := ms) F b) hr (by rfl) F.item.g F.item.F.kp F.item.b .nil pass0 (pa_cons (pv 0) (pa_cons (pv 1) pa_nil))) (fun _ => rfl))))))), ?_⟩
    have kH := k H hT .refl
    obtain ⟨ty, hty, kty⟩ := hv.tupK (K := K)
    refine ⟨_, rfl, _, .ty "tuple", ty, .type "tuple", _, rfl, .ty "tuple", hty, kty, ?_⟩
    cases hv with
    | non => exact ⟨false, rfl, iteT kH⟩
    | bl b => exact ⟨false, rfl, iteT kH⟩
    | int i => exact ⟨false, rfl, iteT kH⟩
    | str g => exact ⟨false, rfl, iteT kH⟩
    | lst e => exact ⟨false, rfl, iteT kH⟩
    | dct e => exact ⟨false, rfl, iteT kH⟩
    | @tup t xs ds e hds =>
      refine ⟨true, rfl, iteF ?_⟩
      cases hds with
      | nil => exact ⟨_, rfl, false, .inr (.inl ⟨_, sqt_of e, rfl⟩), iteT kH⟩
      | @cons v0 vs d0 r h0 hr0 =>
        refine ⟨_, rfl, true, .inr (.inl ⟨_, sqt_of e, rfl⟩), iteF ?_⟩
        obtain ⟨ty0, hty0, kty0⟩ := h0.strK (K := K)
        refine ⟨_, rfl, t, _, _, _, rfl, rfl, sqt_of e, atI_nat (j := 0) rfl, _, .ty "str", ty0, .type "str", _, rfl, .ty "str", hty0, kty0, ?_⟩
        cases h0 with
        | non => exact ⟨false, rfl, iteT kH⟩
        | bl b => exact ⟨false, rfl, iteT kH⟩
        | int i => exact ⟨false, rfl, iteT kH⟩
        | lst e => exact ⟨false, rfl, iteT kH⟩
        | dct e => exact ⟨false, rfl, iteT kH⟩
        | tup e => exact ⟨false, rfl, iteT kH⟩
        | str wd0 =>
          refine ⟨true, rfl, iteF ?_⟩
          have kw : ∀ H', TTs a.Ts H' → Kp a.Ts H H' → Q (.bl (rowR r (shp wd0))) H' := k
          refine ⟨_, rfl, t, _, _, _, rfl, rfl, sqt_of e, atI_nat (j := 0) rfl, ?_⟩
          cases es0 : shp wd0 with
          | none =>
            rw [es0] at kw
            refine ⟨wd0, none, rfl, rfl, no_key DD.at_ hks (shp_none es0), _, rfl, iteT ?_⟩
            exact kw H hT .refl
          | some z =>
            rw [es0] at kw
            obtain ⟨p, hp, rfl, rfl⟩ := shp_some es0
            obtain ⟨tk, hg⟩ := F.sG p hp
            refine ⟨p.1, some _, rfl, rfl, hg, _, rfl, iteF ?_⟩
            refine ⟨_, rfl, t, _, _, _, rfl, rfl, sqt_of e, atI_nat (j := 0) rfl, a.aS, p.1, .str p.2, rfl, rfl, ⟨es, n, _, DD.at_, DD.lit, hg, ⟨tk, rfl⟩⟩, ?_⟩
            have lz : p.2.length ≤ 10 := by
              have : ∀ p ∈ rowsL, p.2.length ≤ 10 := by decide +kernel
              exact this p hp
            have ezl : p.2.cps.toList.length = p.2.length := by
              rw [Array.length_toList]
              rfl
            have ln := hr0.length
            refine ⟨_, rfl, t, _, rfl, .inr (sqt_of e), _, rfl, _, rfl, Nat.le_trans lz (by decide), _, _, rfl, rfl, rfl, ?_⟩
            have kB : ∀ bb H', zipD p.2.cps.toList r = bb → TTs a.Ts H' → Kp a.Ts H H' → Q (.bl bb) H' := fun bb H' e' g' k' => e' ▸ kw H' g' k'
            by_cases hlen : r.length = p.2.cps.toList.length
            · rw [decide_eq_true (show V.int (((V.str p.1 :: vs).length : Nat) : Int) = V.int (1 + (p.2.length : Int)) by
                congr 1
                rw [List.length_cons, ln, hlen, ezl]
                omega)]
              refine ⟨_, rfl, iteT ?_⟩
              refine ⟨_, rfl, _, rfl, 1, rfl, t, _, rfl, e, fun q1 H5 e5 k5 => ?_⟩
              have c1 : cutV (V.str p.1 :: vs) (some 1) none = vs := by
                rw [show cutV (V.str p.1 :: vs) (some 1) none = (V.str p.1 :: vs).drop 1 from cut_drop _ 1]
                rfl
              rw [c1] at e5
              have T5 := hT.kp0 k5
              refine ⟨_, q1, vs, rfl, sqt_of e5, T5 _ (by simp), fun H6 h6 => ?_⟩
              obtain ⟨g6, kt6⟩ := T5.tab (by simp) h6
              have k6 : Kp a.Ts H H6 := (k5.more (by simp)).trans kt6
              have hwr : wdAll r ≤ 1000000 := by
                have q : wd (.str p.1) + 2 + wdAll r + 3 ≤ 1000000 := hz
                omega
              refine all_zipS (by rw [ln, hlen]) (fun i H' => TTs a.Ts H' ∧ Kp a.Ts H H' ∧ H' q1 = some (.tup vs) ∧ ((p.2.cps.toList.zip r).take i).all (fun p => itemD p.1 p.2) = true) ⟨g6, k6, kt6.tup _ _ e5, rfl⟩ (fun i H' h => sqt_of h.2.2.1) ?_ ?_
              · rintro i c y T H' hc hy ⟨g', k', e', q⟩ hTn σ hσ
                match σ, hσ with
                | [u0, u1], _ =>
                obtain ⟨dy, e1, ay⟩ := hr0.get hy
                have kn : Kp [] H' (upd H' T (.tup [.str (st [c]), y])) := .new hTn
                have g2 := g'.kp0 kn
                have := wd_get e1
                refine ⟨T, _, rfl, sqt_of upd_same, rfl, _, _, rfl, _, _, rfl, rfl, ?_⟩
                refine ⟨_, rfl, _, rfl, c, y, dy, rfl, ((ay.kp k' hsub dy).kp kn (by simp) dy), by omega, g2, hsub, fun H3 g3 k3 => ⟨_, rfl, ?_⟩⟩
                have zt := zip_take (f := fun p => itemD p.1 p.2) hc e1
                have k03 : Kp a.Ts H H3 := k'.trans ((kn.more (by simp)).trans k3)
                cases e2 : itemD c dy with
                | true =>
                  refine iteT ⟨g3, k03, k3.tup _ _ (kn.tup _ _ e'), ?_⟩
                  rw [zt, q, e2]
                  rfl
                | false =>
                  refine iteF (kB false H3 ?_ g3 k03)
                  unfold zipD
                  have : ((p.2.cps.toList.zip r).all fun p => itemD p.1 p.2) = false := by
                    refine List.all_eq_false.mpr ⟨(c, dy), List.mem_of_getElem? (i := i) (List.getElem?_zip_eq_some.mpr ⟨hc, e1⟩), ?_⟩
                    show ¬ itemD c dy = true
                    rw [e2]
                    exact Bool.false_ne_true
                  rw [this, Bool.and_false]
              · rintro H' ⟨g', k', e', q⟩
                refine kB true H' ?_ g' k'
                unfold zipD
                rw [decide_eq_true hlen, Bool.true_and]
                rw [List.take_of_length_le (by rw [List.length_zip, ← hlen, ln]; omega)] at q
                exact q
            · rw [decide_eq_false (show ¬ V.int (((V.str p.1 :: vs).length : Nat) : Int) = V.int (1 + (p.2.length : Int)) from fun z => hlen (by
                have := V.int.inj z
                rw [List.length_cons, ln, ← ezl] at this
                omega))]
              refine ⟨_, rfl, iteF (kB false H ?_ hT .refl)⟩
              unfold zipD
              rw [decide_eq_false hlen]
              rfl
end
end Ey
set_option maxHeartbeats 4000000
namespace Ey
open PySem PySem.Spec L2
/-- the items at a letter -/
def at_ {α : Type} (z : List Nat) (c : Nat) (r : List α) : List α := ((z.zip r).filter fun p => decide (p.1 = c)).map (·.2)
theorem at_cons {α : Type} (b c : Nat) (z : List Nat) (x : α) (r : List α) : at_ (b :: z) c (x :: r) = if b = c then x :: at_ z c r else at_ z c r := by
  unfold at_
  rw [List.zip_cons_cons, List.filter_cons]
  by_cases h : b = c
  · rw [if_pos (decide_eq_true h), if_pos h]
    rfl
  · rw [if_neg (by simpa using h), if_neg h]
theorem AnAll.at_ {ms : List Addr} {H : Hp} (c : Nat) : ∀ (z : List Nat) {xs : List V} {ds : List PyData}, AnAll ms H xs ds → AnAll ms H (Ey.at_ z c xs) (Ey.at_ z c ds)
  | [], _, _, _ => .nil
  | b :: z, _, _, .nil => .nil
  | b :: z, _, _, .cons a h => by
    rw [at_cons, at_cons]
    split
    · exact .cons a (AnAll.at_ c z h)
    · exact AnAll.at_ c z h
theorem at_take {α : Type} {z : List Nat} {c b : Nat} {r : List α} {i : Nat} {x : α} (h1 : z[i]? = some b) (h2 : r[i]? = some x) : at_ (z.take (i + 1)) c (r.take (i + 1)) = at_ (z.take i) c (r.take i) ++ if b = c then [x] else [] := by
  have e1 : (z.take (i + 1)).zip (r.take (i + 1)) = ((z.take i).zip (r.take i)) ++ [(b, x)] := by
    have e : (z.zip r)[i]? = some (b, x) := List.getElem?_zip_eq_some.mpr ⟨h1, h2⟩
    have tz : ∀ n, (z.take n).zip (r.take n) = (z.zip r).take n := fun n => (List.take_zipWith (f := Prod.mk)).symm
    rw [tz, tz, List.take_add_one, e]
    rfl
  unfold at_
  rw [e1, List.filter_append, List.map_append]
  congr 1
  rw [List.filter_cons]
  by_cases h : b = c
  · rw [if_pos (decide_eq_true h), if_pos h]
    rfl
  · rw [if_neg (by simpa using h), if_neg h]
    rfl
theorem at_len {α : Type} (z : List Nat) (c : Nat) (r : List α) : (at_ z c r).length ≤ z.length := by
  unfold at_
  rw [List.length_map]
  refine Nat.le_trans (List.length_filter_le _ _) ?_
  rw [List.length_zip]
  omega
theorem walk_zipS {K : PySem.W.Frag} {z : Str} {b : Addr} {ys : List V} (h : z.cps.toList.length = ys.length) : Walk (ItzS K z b) ys.length (fun H => SqT K H b ys)
    (fun i H v H' => ∃ (T : Addr) (c : Nat) (y : V), v = .ref T ∧ H T = none ∧ H' = upd H T (.tup [.str (st [c]), y]) ∧ z.cps.toList[i]? = some c ∧ ys[i]? = some y) := by
  have e : z.cps.size = ys.length := by rw [← h, Array.length_toList]
  refine ⟨fun i H hi q => ?_, fun H q => ⟨ys, q, by omega, Nat.le_refl _, .inr rfl⟩, fun i H v H' _ q y => ?_⟩
  · have h1 : i < z.cps.size := by omega
    exact ⟨ys, z.cps[i], ys[i], q, Array.getElem?_eq_getElem h1, List.getElem?_eq_getElem hi⟩
  · obtain ⟨T, c, y, rfl, hT, rfl, hc, hy⟩ := y
    exact ⟨T, c, y, rfl, hT, rfl, by rw [Array.getElem?_toList]; exact hc, hy ys q⟩
theorem shp_sz : ∀ p ∈ rowsL, p.2.cps.toList.length ≤ 10 := by decide +kernel
section
variable {Pr : Program} {w : World} {K : PySem.W.Frag} {mg : Str → Option Value} {base : Heap} {ms : List Addr} {a : Adr}
abbrev NI : List Str := ["row", "letter", "sign", "item"]
theorem scItems : FnScope NI ["row", "letter"] (defScope sItems) := ⟨rfl, rfl, rfl, by decide +kernel, rfl, by decide +kernel, by decide +kernel⟩
def spItems : Sp := fun vs H Q _ => ∃ (t : Addr) (wd0 z : Str) (xs : List V) (c : Nat), vs = [.ref t, .str (st [c])] ∧ H t = some (.tup (.str wd0 :: xs)) ∧ shp wd0 = some z ∧ xs.length = z.cps.toList.length ∧
  ∀ (q : Addr) (H' : Hp), H' q = some (.lst (at_ z.cps.toList c xs)) → H q = none → Kp [] H H' → Q (.ref q) H'
theorem ok_items (F : PF K w mg a) : FnOk Pr w K mg base CX0 1 (a.A 14) (a.D 14) ["row", "letter"] spItems := by
  have B := F.B
  obtain ⟨es, n, DD, hks⟩ := F.sD
  refine F.items.F.ok scItems (fun vs H Q E h => ?_) (fun cdv Ar outer s H vs Q E hr h => ?_)
  · obtain ⟨t, wd0, z, xs, c, rfl, _⟩ := h
    rfl
  · obtain ⟨t, wd0, z, xs, c, rfl, e, hs, hlen, k⟩ := h
    obtain ⟨p, hp, rfl, rfl⟩ := shp_some hs
    obtain ⟨tk, hg⟩ := F.sG p hp
    refine ⟨_, pss_one (ps_ret (pe_lc (own := [("sign", 2), ("item", 3)]) (g := gTup K 2 (gCons (gName 2) (gCons (gName 3) gNil))) rfl scItems.nd
        (pi_zipS (by rfl) B.zip (pa_cons (pe_ix ix_kdict (pe_glob (v := .ref a.aS) (by rfl) F.shape rfl) (pe_ix ix_tup (pv 0) pe_int (fun _ _ => rfl)) (fun _ _ => rfl)) (pa_cons (pe_slice sl_cut (pv 0) (po_some pe_int) po_none) pa_nil)))
        (blkOk_by (N := NI) (sc := defScope sItems) (by decide +kernel)) (fun _ _ _ _ _ => pg_tup (n := 2) rfl (pgs_cons (pg_name (i := 2) scItems.nd rfl (Or.inl rfl)) (pgs_cons (pg_name (i := 3) scItems.nd rfl (Or.inl rfl)) pgs_nil)))
        (fun _ _ _ _ _ => pts_one (pt_cmpR op_eq (pv 2) (pv 1) (nomark _))) (fun _ _ _ _ _ => pv 3))), ?_⟩
    refine ⟨_, rfl, t, _, _, _, rfl, rfl, sqt_of e, atI_nat (j := 0) rfl, a.aS, p.1, .str p.2, rfl, rfl, ⟨es, n, _, DD.at_, DD.lit, hg, ⟨tk, rfl⟩⟩, ?_⟩
    refine ⟨_, rfl, 1, rfl, t, _, rfl, e, fun q1 H5 e5 k5 => ?_⟩
    have c1 : cutV (V.str p.1 :: xs) (some 1) none = xs := by
      rw [show cutV (V.str p.1 :: xs) (some 1) none = (V.str p.1 :: xs).drop 1 from cut_drop _ 1]
      rfl
    rw [c1] at e5
    refine ⟨_, q1, xs, rfl, sqt_of e5, fun D nD => ?_⟩
    have fD : H D = none := k5.free nD List.not_mem_nil
    refine lc_it (walk_zipS (K := K) (z := p.2) (b := q1) hlen.symm) (fun i H' => H' D = some (.lst (at_ (p.2.cps.toList.take i) c (xs.take i))) ∧ H' q1 = some (.tup xs) ∧ Kp [] H5 H')
      ⟨upd_same, (Kp.new (ms := []) nD).tup _ _ e5, .new nD⟩ (fun i H' _ h => sqt_of h.2.1) ?_ ?_
    · rintro i x H' H'' hi ⟨hD, hq, k'⟩ ⟨T, b, y, rfl, hT, rfl, hb, hy⟩
      have kn : Kp [] H' (upd H' T (.tup [.str (st [b]), y])) := .new hT
      have hD2 := kn.at_ _ _ hD List.not_mem_nil
      refine ⟨T, _, rfl, sqt_of upd_same, rfl, _, _, rfl, _, _, rfl, rfl, rfl, ?_⟩
      have hstep := at_take (c := c) hb hy
      refine ⟨_, rfl, _, rfl, rfl, _, rfl, ?_⟩
      by_cases h : b = c
      · rw [decide_eq_true (show V.str (st [b]) = V.str (st [c]) by rw [h])]
        rw [if_pos h] at hstep
        refine iteT ⟨_, rfl, _, hD2, ?_, ?_, ?_, (k'.trans kn).own nD⟩
        · have h1 := at_len (p.2.cps.toList.take i) c (xs.take i)
          have h2 := shp_sz p hp
          rw [List.length_take] at h1
          exact Nat.lt_of_le_of_lt (show _ ≤ 10 by omega) (by decide)
        · rw [upd_same, hstep]
        · rw [upd_ne (ne_of_none e5 nD)]
          exact kn.tup _ _ hq
      · rw [decide_eq_false (fun z => h (sgn b c z))]
        rw [if_neg h, List.append_nil] at hstep
        exact iteF ⟨by rw [hstep]; exact hD2, kn.tup _ _ hq, k'.trans kn⟩
    · rintro H' ⟨hD, hq, k'⟩
      rw [List.take_of_length_le (by rw [hlen]; exact Nat.le_refl _), List.take_length] at hD
      exact k D H' hD fD (k5.trans k')
end
end Ey
set_option maxHeartbeats 4000000
namespace PySem
namespace OwE
open Builtin Builtin.ObjectAttr PySem.HandSPX
/-! ### own exceptions whose chain of own classes ends in Exception -/
abbrev exTl : List Value := [.type "Exception", .type "BaseException", .type "object"]
def refsEx : List Value → Bool
  | .ref _ :: r => refsEx r
  | l => l == exTl
theorem refsEx_cases : ∀ l : List Value, refsEx l = true → (∃ c r, l = .ref c :: r ∧ refsEx r = true) ∨ l = exTl
  | [], e => .inr (beq_iff_eq.mp e)
  | .ref c :: r, e => .inl ⟨c, r, rfl, e⟩
  | .none :: _, e => .inr (beq_iff_eq.mp e)
  | .ellipsis :: _, e => .inr (beq_iff_eq.mp e)
  | .notImplemented :: _, e => .inr (beq_iff_eq.mp e)
  | .bool _ :: _, e => .inr (beq_iff_eq.mp e)
  | .int _ _ :: _, e => .inr (beq_iff_eq.mp e)
  | .float _ _ :: _, e => .inr (beq_iff_eq.mp e)
  | .str _ _ :: _, e => .inr (beq_iff_eq.mp e)
  | .bytes _ _ :: _, e => .inr (beq_iff_eq.mp e)
  | .type _ :: _, e => .inr (beq_iff_eq.mp e)
  | .builtin _ :: _, e => .inr (beq_iff_eq.mp e)
theorem refsEx_pass (self : Value) : ∀ l : List Value, refsEx l = true → refuseLoop self "__setattr__" l = pure () := by
  intro l
  induction l with
  | nil => intro e; exact absurd e (by decide)
  | cons a r ih =>
    intro e
    rcases refsEx_cases (a :: r) e with ⟨c, r', q, h⟩ | q
    · obtain ⟨rfl, rfl⟩ := List.cons.inj q
      rw [refuseLoop_ref]
      exact ih h
    · rw [q]
      exact F.store_Exception.passes self
theorem refsEx_has (X : String) : ∀ l : List Value, refsEx l = true → l.contains (.type X) = exTl.contains (.type X) := by
  intro l
  induction l with
  | nil => intro e; exact absurd e (by decide)
  | cons a r ih =>
    intro e
    rcases refsEx_cases (a :: r) e with ⟨c, r', q, h⟩ | q
    · obtain ⟨rfl, rfl⟩ := List.cons.inj q
      rw [List.contains_cons, ih h]
      rfl
    · rw [q]
theorem refsEx_ne {l : List Value} (e : refsEx l = true) : l.isEmpty = false := by
  cases l with
  | nil => exact absurd e (by decide)
  | cons _ _ => rfl
section
variable {prog : Program} {w : World} {A : Around} {E : Value → Shared → Prop} {R : Result → Shared → Prop} {hp : Heap} {g : Array GenState} {d : Drawn} {t : Nat} {os : OsState}
theorem osa_first {K : W.Frag} {name : Str} {tk : Tok} {v : Value} {x C : Addr} {fv : Array Value} {cd : ClassData}
    (X : K.In hp) (hx : hp.get? x = some { cls := .ref C, data := .fields fv }) (hcd : W.clsIn K C = some cd) (hm : refsEx cd.mro = true) (hh : cd.hasDict = true) (ha : W.findIn K (.ref C) name = some none)
    (hq : ∀ h' tk' dx, (∀ b o, b ≠ x → hp.get? b = some o → h'.get? b = some o) → hp.objs.size ≤ dx → dx ≠ x → h'.get? x = some { cls := .ref C, dict := some dx, data := .fields fv } →
      h'.Ns1 dx (fun y => if y = name then some v else none) → R (.ok (.ret .none)) ⟨h', g, d, tk', os⟩) :
    codeAny (model prog w) A (.call (.builtin "object.__setattr__") ⟨[.ref x, .str name tk, v], []⟩) R ⟨hp, g, d, t, os⟩ := by
  have hIn : W.InstAt hp x { cls := .ref C, data := .fields fv } C none := ⟨hx, rfl, rfl, trivial⟩
  have hSF := F.store_object
  have hne := refsEx_ne hm
  have hobj : cd.mro.contains (.type "object") = true := (refsEx_has "object" _ hm).trans (by decide +kernel)
  have hxs : x ≠ hp.objs.size := Nat.ne_of_lt (Heap.lt_size hx)
  have hsub : W.Looks (model prog w) hp (isInstance (.ref x) (.type "object")) true := hIn.type.andThen (W.looks_mroIn X (by unfold W.mroIn; rw [hcd, Option.bind_some, if_neg (by rw [hne]; decide), hobj]))
  refine codeAny_call_builtin hSF.slot.plain hSF.entry (@W.check_slot (model prog w) _ _ ⟨hp, g, d, t, os⟩ "object.__setattr__" "object" "__setattr__" (.ref x) [.str name tk, v] [] _ hSF.kind hSF.split hsub (hSF.args (.ref x) (.str name tk) v) ?_)
  have hmr : W.Looks (model prog w) hp (mroOf (.ref C)) cd.mro := (W.looks_clsIn X hcd).andThen .now
  have hst : W.Looks (model prog w) hp (storeTaker? none) none := .now
  have hcls : W.Looks (model prog w) hp (classData C) cd := W.looks_clsIn X hcd
  rw [W.osa_eq, refuse_eq]
  refine wpAny_bind (wpAny_bind (hIn.type.at (wpAny_bind (hmr.at ?_))))
  rw [refsEx_pass _ _ hm]
  refine wpAny_pure (wpAny_bind (hIn.type.at (wpAny_bind ((W.looks_findIn X ha).at (wpAny_bind (hst.at ?_))))))
  show wpAny _ _ (storeInOwnDict (.ref x) (.ref C) (.str name tk) name v false) _ _ _
  obtain ⟨nm, bs, mro, ns, qn, hd, sn, sb, ab, col, del⟩ := cd
  dsimp only at hh
  subst hh
  unfold storeInOwnDict ownDictForStores
  repeat (first | with_reducible refine store_in_new ?_ ?_ | with_reducible refine wpAny_loadPart_at hx ?_ | with_reducible refine hcls.at ?_ | wp_step)
  · exact ⟨_, #[], _, (Heap.get?_update_ne _ _ _ _ hxs.symm).trans (Heap.get?_push_at rfl rfl), rfl, fun e he => absurd he (by simp), fun _ => rfl⟩
  · intro h' tk' hn' hs
    have hx₁ : (hp.push { cls := .type "dict", data := .dict #[] }).get? x = some { cls := .ref C, data := .fields fv } := Heap.get?_push_of_some _ hx
    refine hq h' tk' hp.objs.size (fun b o hb ho => ?_) (Nat.le_refl _) hxs.symm ?_ hn'
    · exact (hs.2 b (Nat.ne_of_lt (Heap.lt_size ho))).trans ((Heap.get?_update_ne _ _ _ _ hb).trans (Heap.get?_push_of_some _ ho))
    · exact (hs.2 x hxs).trans (Heap.get?_update_self _ hx₁ rfl)
end
end OwE
end PySem
set_option maxHeartbeats 4000000
namespace PySem
namespace BadRowX
open PySem.W PySem.Calls PyProof.Rows PySem.HandSPX
/-! ### the text of __init__ -/
def iA (p1 p2 : Pos) : Arguments := { posonlyargs := [], args := [{ arg := "self", annotation := none, pos := p1 }, { arg := "thing", annotation := none, pos := p2 }], vararg := none, kwonlyargs := [], kw_defaults := [], kwarg := none, defaults := [] }
def iB (q1 q2 q3 q4 : Pos) : List Stmt := [.Assign [.Attribute (.Name "self" q1) "thing" q2] (.Name "thing" q3) q4]
def iS : Scope := { kind := .function, names := [(PySem.Str.ofString "self", .local), (PySem.Str.ofString "thing", .local)], isGenerator := false, isCoroutine := false, more := [] }
/-- what the written part says of Low, at C, and of its __init__, at fI -/
structure BadRowTxt (K : Frag) (mg : Str → Option Value) (C fI : Addr) : Prop where
  gC : mg "BadRow" = some (.ref C)
  cls : ∃ nm q N bs bm sn sub ab col dd k0 k1 k2 k3 k5, K.lookup C = some (excClassObj nm q C N bs bm true sn sub ab col dd k0 k1 k2 k3 k5 "Exception.__new__") ∧ OwE.refsEx bm = true
  sa : findIn K (.ref C) "__setattr__" = some (some (.builtin "object.__setattr__"))
  ga : findIn K (.ref C) "__getattribute__" = some (some (.builtin "BaseException.__getattribute__"))
  gg : findIn K (.ref C) "__getattr__" = some none
  noN : findIn K (.ref C) "thing" = some none
  iC : findIn K (.ref C) "__init__" = some (some (.ref fI))
  tC : typeIn K (.ref fI) = some (.type "function")
  kC : keepIn K (.ref C) = true
  exC : subIn K (.ref C) (.type "BaseException") = some true
  tyC : typeIn K (.ref C) = some (.type "type")
  hdC : hasDictIn K C = true
  te : exmOne K (.ref C) (.ref C) = some true
  fn : ∃ (oc : Value) (od : Option Addr) (doc pm : Value) (an : Option Addr) (cdv ct : Value) (osl : Array (Option Value)) (p1 p2 q1 q2 q3 q4 : Pos),
    K.lookup fI = some ⟨oc, od, .func (fnOf "__init__" "BadRow.__init__" (iA p1 p2) (iB q1 q2 q3 q4) iS .none .none doc pm an cdv ct), osl⟩ ∧ codeIn K cdv "BadRow.__init__" = true
theorem one_size (v : Value) : [v].length ≤ sizeLine := by
  rw [sizeLine_eq]
  exact (by decide : 1 ≤ 16777216)
theorem kept_but {K : Frag} {h h' : Heap} {x : Addr} (X : K.In h) (hx : K.lookup x = none) (k : ∀ b o, b ≠ x → h.get? b = some o → h'.get? b = some o) : K.In h' := fun a o e =>
  k a o (fun z => by rw [z, hx] at e; cases e) (X a o e)
theorem ldC {M : Model} {s : Shared} {name : Str} {scope : Scope} {L a : Addr} {cd : Value} {m : Str → Option Value} {x : Str} {pos : Pos} {v : Value} {Q : Value → Shared → Prop} {A : Around} {E : Value → Shared → Prop} (hn : s.heap.Ns L m) (hv : m x = some v) (h : Q v s)
    (hk : scope.kind = .function := by rfl) (hl : (envOfC name scope L a cd).kindOf x = some .local := by rfl) (hd : (x == ("__debug__" : Str)) = false := by decide) :
    wpAny M A (eval (.Name x pos) (envOfC name scope L a cd)) Q E s := wpAny_Name (wpAny_loadName_local hk hl hn hv h) hd
/-- what __init__ leaves of a fresh exception at x -/
structure InitEnd (h h' : Heap) (x C dx t1 : Addr) (v : Value) : Prop where
  keep : ∀ b o, b ≠ x → h.get? b = some o → h'.get? b = some o
  obj : h'.get? x = some { cls := .ref C, dict := some dx, data := .fields #[.ref t1, .none, .none, .none, .bool false, .none] }
  dbig : h.objs.size ≤ dx
  dne : dx ≠ x
  ns : h'.Ns1 dx (fun y => if y = "thing" then some v else none)
/-- a made Low -/
structure OwnMade (h h' : Heap) (e C d : Addr) (v : Value) : Prop where
  keep : ∀ b o, h.get? b = some o → h'.get? b = some o
  new : h.objs.size ≤ e
  obj : ∃ oe vs, h'.get? e = some oe ∧ oe.cls = .ref C ∧ oe.dict = some d ∧ oe.data = .fields vs ∧ vs[1]? = some .none
  dbig : h.objs.size ≤ d
  dne : d ≠ e
  ns : h'.Ns1 d (fun y => if y = "thing" then some v else none)
section
variable {prog : Program} {w : World} {A : Around} {E : Value → Shared → Prop} {R : Result → Shared → Prop} {s : Shared} {K : Frag} {mg : Str → Option Value} {C fI : Addr}
theorem low_init (T : BadRowTxt K mg C fI) {x t0 : Addr} {v : Value} (X : K.In s.heap) (hlim : s.heap.NoLimit) (hx : s.heap.get? x = some (excO C t0)) (hnx : K.lookup x = none) (hroom : A.depth < recursionLimit)
    (hq : ∀ h' tk dx, InitEnd s.heap h' x C dx t0 v → R (.ok (.ret .none)) { s with heap := h', toks := tk }) :
    codeAny (model prog w) A (.call (.ref fI) ⟨[.ref x, v], []⟩) R s := by
  obtain ⟨oc, od, doc, pm, an, cdv, ct, osl, p1, p2, q1, q2, q3, q4, ho, hcd⟩ := T.fn
  obtain ⟨nm, q, N, bs, bm, sn, sub, ab, col, dd, k0, k1, k2, k3, k5, hC, hbm⟩ := T.cls
  have hcl : clsIn K C = some { name := nm, bases := bs, mro := .ref C :: bm, ns := N, qualname := q, hasDict := true, slotNames := sn, subclasses := sub, abstract := ab, collection := col, hasDel := false } := by unfold clsIn; rw [hC] <;> rfl
  refine Att.call_fn (binds := [("self", .ref x), ("thing", v)]) X hlim ho hcd hroom (BindsTo.of_eq (by first | rfl | with_unfolding_all rfl)) (by first | rfl | decide | with_unfolding_all rfl) (fun s₁ IC => ?_) rfl rfl rfl
  obtain ⟨h₁, tk₁, rfl⟩ := IC.toInCall.same
  have k : ∀ b o, s.heap.get? b = some o → h₁.get? b = some o := IC.toInCall.keep
  have hn := IC.toInCall.ns
  have hxL : s.heap.objs.size ≠ x := Nat.ne_of_gt (Heap.lt_size hx)
  have X₁ : K.In h₁ := X.keeps k
  have hx₁ := k _ _ hx
  -- self.by = by
  show wpAny _ _ (execs _ _) _ _ _
  refine wpAny_execs_cons (plainObj_wpAny_Assign_Attribute ?_)
  refine ldC (v := v) hn (by first | rfl | with_unfolding_all rfl | kernel_rfl) (ldC (v := .ref x) hn (by first | rfl | with_unfolding_all rfl | kernel_rfl) ?_)
  refine set_plain X₁ (ox := excO C t0) (od := none) ⟨hx₁, rfl, rfl, trivial⟩ T.sa ?_
  refine OwE.osa_first X₁ hx₁ hcl (show OwE.refsEx (.ref C :: bm) = true from hbm) rfl T.noN (fun h₃ tk₃ dx k₃ dn dne hx₃ hn₃ => ?_)
  show wpAny _ _ (execs _ _) _ _ _
  have z : s.heap.objs.size < h₁.objs.size := hn.lt
  exact wpAny_execs_nil (hq h₃ tk₃ dx ⟨fun b o hb e => k₃ b o hb (k b o e), hx₃, Nat.le_of_lt (Nat.lt_of_lt_of_le z dn), dne, hn₃⟩)
theorem low_made (T : BadRowTxt K mg C fI) {v : Value} (X : K.In s.heap) (hlim : s.heap.NoLimit) (hroom : A.depth + 1 < recursionLimit)
    (hq : ∀ h' tk e d, OwnMade s.heap h' e C d v → R (.ok (.ret (.ref e))) { s with heap := h', toks := tk }) :
    codeAny (model prog w) A (.call (.ref C) ⟨[v], []⟩) R s := by
  obtain ⟨nm, q, N, bs, bm, sn, sub, ab, col, dd, k0, k1, k2, k3, k5, hC, hbm⟩ := T.cls
  obtain ⟨hp, g, dr, tk, os⟩ := s
  have k : ∀ b o, hp.get? b = some o → ((hp.push (kdv_tup [v])).push (excO C hp.objs.size)).get? b = some o := fun b o e => Heap.get?_push_of_some _ (Heap.get?_push_of_some _ e)
  have hget : ((hp.push (kdv_tup [v])).push (excO C hp.objs.size)).get? (hp.objs.size + 1) = some (excO C hp.objs.size) := by heap_get
  have hnx : K.lookup (hp.objs.size + 1) = none := by
    cases e : K.lookup (hp.objs.size + 1) with
    | none => rfl
    | some o =>
      have z : hp.get? (hp.objs.size + 1) = some o := X _ _ e
      exact absurd (Nat.lt_of_succ_lt (Heap.lt_size z)) (Nat.lt_irrefl _)
  refine call_own F.excBase_Exception (fun X => OwE.refsEx_has X bm hbm) (X _ _ hC) (looks_findIn X T.iC) (fun self => bind_fn X self T.tC) (one_size v) ?_
  refine low_init (s := ⟨(hp.push (kdv_tup [v])).push (excO C hp.objs.size), g, dr, tk, os⟩) T (X.keeps k) (hlim.keeps k) hget hnx ?_ fun h' tk' dx ⟨k', hx, dn, dne, hns⟩ => ?_
  · show A.depth + 1 < recursionLimit
    exact hroom
  · have old : ∀ b o, hp.get? b = some o → h'.get? b = some o := fun b o e => k' b o (Nat.ne_of_lt (Nat.lt_succ_of_lt (Heap.lt_size e))) (k b o e)
    have z : hp.objs.size + 1 + 1 ≤ dx := by
      first
        | (simpa only [Heap.size_push] using dn)
        | exact dn
        | (have q := dn; rw [Heap.size_push, Heap.size_push] at q; exact q)
    exact ⟨rfl, hq h' tk' (hp.objs.size + 1) dx ⟨old, Nat.le_succ _, ⟨_, _, hx, rfl, rfl, rfl, rfl⟩, Nat.le_trans (Nat.le_trans (Nat.le_succ _) (Nat.le_succ _)) z, dne, hns⟩⟩
end
end BadRowX
end PySem
namespace L2
open PySem PySem.Spec PyProof.Rows
theorem relO_BadRow {v : V} {v' : Value} (r : RelV v v') (f : Str) : RelO (List.lookup f [(("thing" : Str), v)]) (if f = "thing" then some v' else none) := by
  by_cases hw : f = "thing"
  · subst hw
    rw [if_pos rfl]
    have q : List.lookup ("thing" : Str) [(("thing" : Str), v)] = some v := by simp [List.lookup]
    rw [q]
    exact r
  · rw [if_neg hw]
    have qw : (f == ("thing" : Str)) = false := by simpa using hw
    have q2 : List.lookup f [(("thing" : Str), v)] = none := by simp [List.lookup, qw]
    rw [q2]
    trivial
section
variable {X : Cx} {C fI : Addr}
/-- Low(e) -/
def tMkBadRow (C : Addr) (ta : TA) : St → Hp → XK → Prop := fun σ H Q => ta σ H fun vs H1 => ∃ v, vs = [v] ∧ ∀ d, H1 d = none → Q (.ref C) (some d) (upd H1 d (.xd [(("thing" : Str), v)]))
theorem pmk_BadRow {a : Expr} {ta : TA} {p pos : Pos} {k : Nat} (T : PySem.BadRowX.BadRowTxt X.K X.mg C fI) (hr : Room k X.A) (ha : PA X [a] ta) (hg : Gl X "BadRow" := by rfl)
    (he : starEach (a :: []) X.env = (false, eval a X.env) :: starEach [] X.env := by rfl) (hpl : (backTo pos (starEach [] X.env)).any (·.1) = false := by rfl) :
    PMk X (.Call (.Name "BadRow" p) [a] [] pos) (tMkBadRow C ta) := by
  intro pins s σ H Q I h
  refine wpAny_Call_Name_kw (ld_glob I hg T.gC ?_)
  refine PySem.W.callWith_K (h₀ := X.base) I.ok.mod.kin T.kC (thn (ha.run pos pins s σ H _ I h) fun us s1 hh => ?_) he hpl
  obtain ⟨vs, H1, I1, r1, v, ev, q1⟩ := hh
  subst ev
  refine ⟨I1.kIn, ?_⟩
  cases r1 with
  | cons rv rn =>
    rename_i v' us'
    cases rn
    show wpAny _ _ (call (.ref C) [v']) _ _ _
    have hlim := I1.nolimit
    obtain ⟨hp, g, dr, tk, os⟩ := s1
    refine wpAny_call (PySem.BadRowX.low_made T I1.kIn hlim (by have := hr.dp; omega) fun h' tk' e d M => ?_)
    show MkP X pins σ Q (.ref e) ⟨h', g, dr, tk', os⟩
    obtain ⟨oe, fv, hoe, hc, hd, hdat, h1⟩ := M.obj
    have hns := M.ns
    obtain ⟨G', g1, g2⟩ := restrict h' fun b => decide (b ≠ e)
    have gk : ∀ b, b ≠ e → G'.get? b = h'.get? b := fun b hb => g1 b (decide_eq_true hb)
    have ge : G'.get? e = none := g2 e (by simp)
    have old : ∀ b o, hp.get? b = some o → G'.get? b = some o := fun b o q => (gk b (Nat.ne_of_lt (Nat.lt_of_lt_of_le (Heap.lt_size q) M.new))).trans (M.keep b o q)
    have ob : ObjOk X.prog X.w (upd H1 d (.xd [(("thing" : Str), v)])) G' d (.xd [(("thing" : Str), v)]) :=
      ⟨_, hns.at (fun o q => (gk d M.dne).trans q), fun f => relO_BadRow rv f⟩
    have J : Inv X pins σ (upd H1 d (.xd [(("thing" : Str), v)])) ⟨G', g, dr, tk', os⟩ := I1.laid (t' := tk') old M.dbig ob
    refine ⟨e, oe, fv, ⟨G', g, dr, tk', os⟩, _, .ref C, some d, rfl, J, fun b o q => ?_, ge, hoe, ⟨hc, hd⟩, hdat, h1, ?_, rfl, I1.bare, raises_own T.exC T.tyC, q1 d (I1.hok.fresh M.dbig)⟩
    · by_cases hb : b = e
      · have q' : G'.get? b = some o := q
        rw [hb, ge] at q'; cases q'
      · exact (gk b hb).symm.trans q
    · rw [upd_ne (Ne.symm M.dne)]
      exact I1.hok.fresh M.new
/-- raise Low(e) -/
def tRaiseBadRow (C : Addr) (W : WX) (ta : TA) : TS := fun _ σ H => tMkBadRow C ta σ H fun cls d H' => W cls d σ H'
theorem ps_raiseBadRow {a : Expr} {ta : TA} {W : WX} {p pos pos2 : Pos} {k : Nat} (hc : X.calm = true) (T : PySem.BadRowX.BadRowTxt X.K X.mg C fI) (hr : Room k X.A) (tk : Takes X W) (ha : PA X [a] ta) (hg : Gl X "BadRow" := by rfl)
    (he : starEach (a :: []) X.env = (false, eval a X.env) :: starEach [] X.env := by rfl) (hpl : (backTo pos (starEach [] X.env)).any (·.1) = false := by rfl) :
    PS X (.Raise (some (.Call (.Name "BadRow" p) [a] [] pos)) none pos2) (tRaiseBadRow C W ta) := ps_raise hc tk (pmk_BadRow T hr ha hg he hpl)
/-- low.by, low the exception that the suite holds (at a; its class cls, its dict d) -/
def tByBadRow (C : Addr) (a : Addr) (cls : Value) (d : Option Addr) (te : TE) : TE := fun σ H Q => te σ H fun x H1 => x = .ref a ∧ cls = .ref C ∧ ∃ (dd : Addr) (v : V), d = some dd ∧ H1 dd = some (.xd [(("thing" : Str), v)]) ∧ Q v H1
theorem pe_byBadRow {a : Addr} {oe : Obj} {cls : Value} {d : Option Addr} {pn : List (Addr × Obj)} {e : Expr} {te : TE} {pos : Pos} (T : PySem.BadRowX.BadRowTxt X.K X.mg C fI) (hz : Zc cls d oe) (hf : ∃ vs, oe.data = .fields vs) (he : PE (X.suite a ((a, oe) :: pn)) e te)
    (hb : attributeBase e "thing" X.env (eval e X.env) = eval e X.env := by rfl) :
    PE (X.suite a ((a, oe) :: pn)) (.Attribute e "thing" pos) (tByBadRow C a cls d te) := by
  refine ⟨fun pins s σ H Q I h => ?_⟩
  refine attr_of hb (thn (he.run pins s σ H _ I h) fun u s1 hh => ?_)
  obtain ⟨x, H1, I1, rx, ex, ec, dd, v, ed, ea, q⟩ := hh
  subst ex
  obtain rfl : u = Value.ref a := rx
  subst ec
  subst ed
  obtain ⟨ha, _⟩ := I1.pin (a, oe) (List.mem_append_left _ List.mem_cons_self)
  obtain ⟨vs, hd⟩ := hf
  have hx : ObjOk X.prog X.w H1 s1.heap dd (.xd [(("thing" : Str), v)]) := I1.hok dd _ ea
  obtain ⟨mA, hns, hr⟩ := hx
  obtain ⟨od, ho, hl⟩ := lookIn_ns hns
  have l : List.lookup ("thing" : Str) [(("thing" : Str), v)] = some v := by simp [List.lookup]
  obtain ⟨u, hu, ru⟩ := RelO.some_of (v := v) (o := mA "thing") (by rw [← l]; exact hr "thing")
  have J : PySem.W.InstAt s1.heap a oe C (some od) := ⟨ha, hz.1, by unfold PySem.W.notCls; rw [hd] <;> rfl, by rw [hz.2]; exact ho⟩
  exact HandSPX.exc_get I1.kIn J T.ga T.gg T.exC (PySem.W.findObj_own T.hdC T.noN rfl (by rw [hl, hu])) (handed_of ru) ⟨v, H1, I1.tok _, ru, q⟩
end
end L2
set_option maxHeartbeats 4000000
namespace PySem
namespace OwE
open PySem PySem.Spec PySem.Calls PyProof.Rows PySem.W
/-! ### isinstance of a caught own exception that has a dict -/
section
variable {prog : Program} {w : World} {A : Around} {E : Value → Shared → Prop} {s : Shared} {K : Frag} {e D : Addr} {oE : Obj} {dE : Option Obj}
/-- what the class says of its own __class__ -/
structure SaysC (K : Frag) (D : Addr) : Prop where
  ga : findIn K (.ref D) "__getattribute__" = some (some (.builtin "BaseException.__getattribute__"))
  gg : findIn K (.ref D) "__getattr__" = some none
  sb : subIn K (.ref D) (.type "BaseException") = some true
  hd : hasDictIn K D = true
  cl : findIn K (.ref D) "__class__" = some (some (.builtin "object.__class__"))
  sp : specialIn K (.builtin "object.__class__") "__get__" = some (some (.builtin "getset_descriptor.__get__"))
  tk : takesIn K (.builtin "object.__class__") = some true
  mo : mroIn K D (.type "object") = some true
theorem SaysC.found (S : SaysC K D) : findObj K D dE "__class__" = some (.bind (.builtin "getset_descriptor.__get__") (.builtin "object.__class__")) := by
  obtain ⟨cd, hc, _⟩ := any_some S.hd
  unfold findObj
  rw [hc, Option.bind_some, S.cl, Option.bind_some]
  simp [S.sp, S.tk]
theorem asked_class {Q : Option Value → Shared → Prop} (S : SaysC K D) (hK : K.In s.heap) (hI : InstAt s.heap e oE D dE) (hq : Q (some (.ref D)) { s with toks := s.toks + 1 }) : wpAny (model prog w) A (getAttr? (.ref e) "__class__") Q E s := by
  have hf := S.found (dE := dE)
  obtain ⟨hp, gg, dd, tt, oo⟩ := s
  have hT := hI.type (M := model prog w)
  have hA := looks_findIn (M := model prog w) hK S.ga
  have hB := looks_findIn (M := model prog w) hK S.gg
  have hC := looks_find (M := model prog w) hK hI hf
  have hS : Looks (model prog w) hp (isInstance (.ref e) (.type "BaseException")) true := hT.andThen (looks_subIn hK S.sb)
  have n0 : (false && onTheHeap (Value.builtin "BaseException.__getattribute__")) = false := rfl
  have n2 : (Value.builtin "BaseException.__getattribute__" == Value.builtin "object.__getattribute__") = false := by decide +kernel
  have n1 : (onTheHeap (Value.ref D) && Value.builtin "BaseException.__getattribute__" == Value.builtin "object.__getattribute__") = false := by
    rw [n2]
    rfl
  unfold getAttr?
  unfold getAttrBy? getAttrBy
  refine wpAny_bind (wpAny_mkText (wpAny_bind (wpAny_attempt (wpAny_holding (wpAny_bind (hT.at (wpAny_bind (hA.at ?_))))))))
  show wpAny _ _ (if (onTheHeap (Value.ref D) && Value.builtin "BaseException.__getattribute__" == Value.builtin "object.__getattribute__") = true then _ else _) _ _ _
  rw [n1, if_neg Bool.false_ne_true]
  unfold getAttrByItsOwn
  unfold hookBefore
  refine wpAny_bind ?_
  rw [if_pos (show (onTheHeap (Value.ref D)) = true from rfl)]
  refine hB.at ?_
  refine wpAny_bind (wpAny_attempt ?_)
  refine wpAny_holding ?_
  unfold callGetattribute
  rw [n0, if_neg Bool.false_ne_true]
  unfold boundAndCalled
  rw [PySem.F.excAttr_ValueError.ga.bind (.ref e)]
  refine wpAny_bind (wpAny_pure ?_)
  show wpAny _ _ (call (.builtin "BaseException.__getattribute__") [.ref e, .str "__class__" tt]) _ _ _
  refine wpAny_call ?_
  refine codeAny_call_builtin PySem.F.excAttr_ValueError.ga.plain PySem.F.entry_bexc_ga ?_
  refine @check_slot (model prog w) _ _ ⟨hp, gg, dd, tt + 1, oo⟩ "BaseException.__getattribute__" "BaseException" "__getattribute__" (.ref e) [.str "__class__" tt] [] _ (by decide +kernel) (by decide +kernel) hS (PySem.F.args_bexc_ga (.ref e) (.str "__class__" tt)) ?_
  unfold Builtin.«object.__getattribute__»
  refine wpAny_bind (wpAny_of_eq (a := ((Value.ref e : Value), [Value.str "__class__" tt])) (by first | rfl | (simp only [slotArgs]; rfl)) ?_)
  refine wpAny_bind (wpAny_pure (wpAny_bind (hT.at (wpAny_bind (hC.at ?_)))))
  show wpAny _ _ (holding [Value.builtin "object.__class__"] (call (.builtin "getset_descriptor.__get__") [.builtin "object.__class__", .ref e, .ref D]) >>= ret) _ _ _
  refine wpAny_bind (wpAny_holding (wpAny_call (class_get (s := ⟨hp, gg, dd, tt + 1, oo⟩) (ox := oE) (od := dE) hK hI S.mo ?_)))
  refine wpAny_pure ?_
  show wpAny _ _ (handedOut (.ref D)) _ _ _
  rw [handedOut_of (v := Value.ref D) rfl]
  first
    | exact wpAny_pure (wpAny_pure hq)
    | exact wpAny_pure hq
    | exact wpAny_pure (wpAny_bind (wpAny_pure (wpAny_pure hq)))
theorem kitx (S : SaysC K D) : KitX K (.ref e) (.ref D) (fun h => InstAt h e oE D dE) where
  ty := fun _ _ _ hI => hI.type
  it := fun _ _ hK _ => by
    obtain ⟨cd, hc, _⟩ := any_some S.hd
    unfold clsIn at hc
    split at hc
    · rename_i c' d' cd' sl' ho
      intro A' Q' E' s' k q
      unfold isType
      unfold loadHead
      exact wpAny_bind (wpAny_loadPart (k _ _ (hK _ _ ho)) (wpAny_pure q))
    · cases hc
  ne := fun h tp dd its n sl hK htp => by
    obtain ⟨cd, hc, _⟩ := any_some S.hd
    refine Bool.eq_false_iff.mpr fun q => ?_
    have hh : D = tp := Value.ref.inj (beq_iff_eq.mp q)
    subst hh
    unfold clsIn at hc
    split at hc
    · rename_i c' d' cd' sl' ho
      have z := (hK _ _ ho).symm.trans htp
      cases z
    · cases hc
  ca := fun hK hI k => asked_class S hK hI k
end
end OwE
end PySem
namespace L2
open PySem PySem.Spec PyProof.Rows
/-- isinstance(e, c), e the exception that the suite holds, its class D, its dict at dd -/
def rIsE2 (K : PySem.W.Frag) (D a : Addr) (cls : Value) (d : Option Addr) : List V → Hp → VK → Prop := fun xs H Q => cls = .ref D ∧ ∃ (dd : Addr) (fs : List (Str × V)), d = some dd ∧ H dd = some (.xd fs) ∧ rIsE K D a xs H Q
theorem call_isE2 {X : Cx} {a D : Addr} {oe : Obj} {pn : List (Addr × Obj)} {cls : Value} {d : Option Addr} (S : PySem.OwE.SaysC X.K D) (hz : Zc cls d oe) (hf : ∃ vs, oe.data = .fields vs) :
    CallR (X.suite a ((a, oe) :: pn)) (.builtin "isinstance") (rIsE2 X.K D a cls d) := by
  intro pins s σ H xs us Q I r h
  obtain ⟨ec, dd, fs, ed, hdd, c, cv, b, rfl, hcv, e, q⟩ := h
  subst ec
  subst ed
  cases r with
  | cons rx rr =>
    cases rr with
    | cons rt rr =>
      cases rr
      cases rx
      have ec := hcv _ rt
      subst ec
      obtain ⟨hget, _⟩ := I.pin (a, oe) (List.mem_append.mpr (.inl List.mem_cons_self))
      have hx : ObjOk X.prog X.w H s.heap dd (.xd fs) := I.hok dd _ hdd
      obtain ⟨mA, hns, _⟩ := hx
      obtain ⟨od, ho, _⟩ := lookIn_ns hns
      have J : PySem.W.InstAt s.heap a oe D (some od) := ⟨hget, hz.1, by unfold PySem.W.notCls; obtain ⟨vs, hd⟩ := hf; rw [hd] <;> rfl, by rw [hz.2]; exact ho⟩
      exact PySem.W.kia_one (PySem.OwE.kitx S) I.kIn J e (fun z => nomatch z) fun tk => ⟨.bl b, H, I.kept (t' := tk) fun _ _ z => z, rfl, q⟩
end L2
set_option maxHeartbeats 4000000
namespace Ey
open PySem PySem.Spec PyProof.Rows L2 LamX
/-! ### x(lambda: e): nothing but the table of the running code is another one behind it -/
section
variable {X : Cx} {pins : List (Addr × Obj)} {σ : L2.St} {H : Hp} {s : Shared}
theorem lam_made {c P : Addr} {lp : Arguments} {lb : Expr} {ls : Scope} {pos : Pos} {E Q : Value → Shared → Prop} (hI : Inv X pins σ H s) (TB : LamX.TabB X.base X.mg c P) (hcode : X.env.code = .ref c)
    (hT : TabS H P (X.env.qual ++ "<lambda>")) (hdef : defaultsOf lp X.env = ([], [])) (hfree : ∀ y ∈ ls.names, y.2 = .free → ∃ c, X.env.cells.lookup y.1 = some c)
    (next : ∀ (f cN : Addr) (pm ctv : Value) (H1 : Hp) (sN : Shared), Inv X pins σ H1 sN → Kp [P] H H1 → TabS H1 P (X.env.qual ++ "<lambda>") →
      sN.heap.get? f = some (PySem.W.kla_obj "<lambda>" (X.env.qual ++ "<lambda>") lp lb ls (cloFrom X.env.cells ls.names []) pm cN ctv) → H1 f = none → f ∉ frs X.stack → H1 cN = some (CodeO cN (X.env.qual ++ "<lambda>")) → Q (.ref f) sN) :
    wpAny (model X.prog X.w) X.A (eval (.Lambda lp lb ls pos) X.env) Q E s := by
  obtain ⟨qs, hP, okq, named⟩ := hT
  refine PySem.W.kla_eval hdef ?_
  have bltP : s.heap.BuiltinsAt X.mg P := TB.bm.keeps hI.bk
  have atP : s.heap.get? P = some { cls := .none, data := .fields qs } := hI.hok P _ hP
  have noFr : ∀ f, s.heap.objs.size ≤ f → f ∉ frs X.stack := by
    intro f hf z
    rcases List.mem_cons.mp (hI.stkSub _ z) with e | e
    · have hl := hI.lt
      rw [← e] at hl
      exact absurd (Nat.lt_of_lt_of_le hl hf) (Nat.lt_irrefl _)
    · exact hI.nofs hf e
  cases hc : codeAmong pos qs.toList with
  | none =>
    refine PySem.W.kla_makeFunction (mg := X.mg) (c := c) (P := P) (ps := qs) (closure_ok hfree) hI.ok.glob (hI.mod.glob.keeps hI.bk) hcode (TB.code.keeps hI.bk) atP okq hc TB.gP bltP fun cN ctv hN tN kx kge klt krec ktab => ?_
    obtain ⟨c2, oc, vs, t, e2, hoc, hd, hv⟩ := krec
    cases e2
    have size_le : s.heap.objs.size ≤ hN.objs.size := Nat.le_trans kge (Nat.le_of_lt klt)
    have freeC : H cN = none := hI.hok.fresh kge
    have J := inv_table (t' := tN) (more := #[rawInt pos.line, rawInt pos.col, .ref cN]) (h' := hN.push (PySem.W.kla_obj "<lambda>" (X.env.qual ++ "<lambda>") lp lb ls (cloFrom X.env.cells ls.names []) ((X.mg "__name__").getD .none) cN ctv)) hI hP
      (fun b o hb e => Heap.get?_push_of_some _ (kx b o hb e)) (Heap.get?_push_of_some _ ktab) kge ⟨oc, vs, t, Heap.get?_push_of_some _ hoc, hd, hv⟩
    have neC : ∀ b o, H b = some o → b ≠ cN := fun b o e => ne_of_none e freeC
    have kp : Kp [P] H (upd (upd H P (.tbl (qs ++ #[rawInt pos.line, rawInt pos.col, .ref cN]))) cN (CodeO cN (X.env.qual ++ "<lambda>"))) := by
      refine ⟨fun b o e n => ?_, fun b xs e => ?_⟩
      · rw [upd_ne (neC b o e), upd_ne (fun z => n (by rw [z]; simp))]
        exact e
      · rw [upd_ne (neC b _ e), upd_ne (fun z => by rw [z, hP] at e; cases e)]
        exact e
    have eqL : (qs ++ #[rawInt pos.line, rawInt pos.col, .ref cN]).toList = qs.toList ++ [rawInt pos.line, rawInt pos.col, .ref cN] := by simp
    refine next hN.objs.size cN ((X.mg "__name__").getD .none) ctv _ _ J kp ⟨_, by rw [upd_ne (neC P _ hP), upd_same], ?_, ?_⟩ (Heap.get?_push_size _ rfl) ?_ (noFr _ size_le) upd_same
    · rw [eqL]
      exact PySem.TriplesOk_snoc _ _ _ _ okq
    · intro p2 cv hcv
      rw [eqL] at hcv
      rcases among_app _ okq hcv with z | z
      · obtain ⟨c0, e1, e2⟩ := named p2 cv z
        refine ⟨c0, e1, ?_⟩
        rw [upd_ne (neC c0 _ e2), upd_ne (fun z => by rw [z, hP] at e2; exact codeO_ne _ (Option.some.inj e2).symm)]
        exact e2
      · exact ⟨cN, z, upd_same⟩
    · have n1 : hN.objs.size ≠ cN := Nat.ne_of_gt klt
      have n2 : hN.objs.size ≠ P := Nat.ne_of_gt (Nat.lt_of_lt_of_le (Heap.lt_size atP) size_le)
      rw [upd_ne n1, upd_ne n2]
      exact hI.hok.fresh size_le
  | some cv =>
    obtain ⟨cN, e, hco⟩ := named pos cv hc
    subst e
    refine PySem.W.kla_makeFunctionHit (mg := X.mg) (c := c) (P := P) (ps := qs) (closure_ok hfree) hI.ok.glob (hI.mod.glob.keeps hI.bk) hcode (TB.code.keeps hI.bk) atP okq hc bltP fun ctv hN tN kx ksz => ?_
    have J : Inv X pins σ H { s with heap := hN.push (PySem.W.kla_obj "<lambda>" (X.env.qual ++ "<lambda>") lp lb ls (cloFrom X.env.cells ls.names []) ((X.mg "__name__").getD .none) cN ctv), toks := tN } := hI.kept fun b o e => Heap.get?_push_of_some _ (kx b o e)
    exact next hN.objs.size cN ((X.mg "__name__").getD .none) ctv H _ J .refl ⟨qs, hP, okq, named⟩ (Heap.get?_push_size _ rfl) (hI.hok.fresh ksz) (noFr _ ksz) hco
end
/-- what is asked: the table; then what the def makes of the lambda's reading -/
def tLamK (P : Addr) (q : Str) (TT : (XK → Hp → VK → Prop) → Hp → VK → Prop) (t : XK → TE) : TE := fun σ H Q => TabS H P q ∧ ∀ H1, Kp [P] H H1 → TabS H1 P q → TT (fun E H' Q' => t E σ H' Q') H1 Q
section
variable {X : Cx}
theorem pe_lamK {TT : (XK → Hp → VK → Prop) → Hp → VK → Prop} {x a : Str} {g c P : Addr} {k : Nat} {pg : Arguments} {bg : List Stmt} {sg : Scope} {dV kV doc pm cdv ct oc : Value} {an od : Option Addr} {osl : Array (Option Value)} {Ng : List Str}
    {lp : Arguments} {lb : Expr} {ls : Scope} {t : XK → TE} {p lpos pos : Pos} (hg : Gl X x) (hm : X.mg x = some (.ref g)) (hk : PySem.W.keepIn X.K (.ref g) = true)
    (lk : X.K.lookup g = some ⟨oc, od, .func (PySem.W.fnOf x x pg bg sg dV kV doc pm an cdv ct), osl⟩) (hcg : PySem.W.codeIn X.K cdv x = true) (hb : L2.Binds X.K (PySem.W.fnOf x x pg bg sg dV kV doc pm an cdv ct) [a] []) (Sg : FnScope Ng [a] sg) (hNg : Ng[0]? = some a) (hva : Vis sg a)
    (hG : GivesTo X Ng x sg g cdv bg a (X.env.qual ++ "<lambda>") TT)
    (TB : LamX.TabB X.base X.mg c P) (hcode : X.env.code = .ref c) (hr : Room (k + 2) X.A) (L : LamS X.env.scope ls) (hdef : defaultsOf lp X.env = ([], []))
    (hbind : ∀ (q : Str) (cl : List (Str × Addr)) (pm cv ctv : Value), bindArgs (PySem.W.kla_fn "<lambda>" q lp lb ls cl pm cv ctv) ⟨[], []⟩ = pure [])
    (hbody : ∀ (A : Around) (outer : List Env) (s : Shared) (H : Hp) (E : XK) (f c' : Addr), Room k (A.deeper (lamEnv X ls s.heap.objs.size f c')) → PE (lamCx X A outer s H E ls f c') lb (t E))
    (hdb : (x == ("__debug__" : Str)) = false := by decide) (hd : (a == ("__debug__" : Str)) = false := by decide) (hcd : (a == ("__classdict__" : Str)) = false := by decide) :
    PE X (.Call (.Name x p) [.Lambda lp lb ls lpos] [] pos) (tLamK P (X.env.qual ++ "<lambda>") TT t) := by
  refine ⟨fun pins s σ H Q hI h => ?_⟩
  obtain ⟨hT, h⟩ := h
  refine wpAny_Call_Name_kw (ld_glob hI hg hm ?_ hdb)
  refine PySem.W.callWith_K (h₀ := X.base) hI.ok.mod.kin hk ?_ (by rfl) (by rfl)
  show wpAny _ _ (spliced ((false, eval (.Lambda lp lb ls lpos) X.env) :: backTo pos (starEach [] X.env))) _ _ s
  refine Calls.spliced_cons (lam_made hI TB hcode hT hdef (L.has hI.ok) fun f cN pmN ctv H1 sN J kp T1 hf hfn hfr hco => ?_)
  refine Calls.spliced_nil ⟨J.kIn, ?_⟩
  have rc : codeAny (model X.prog X.w) X.A (.call (.ref g) ⟨[.ref f], []⟩) (CR C8.CX0 X.stack X.prog X.w H1 sN Q C8.E0) sN := by
    refine run_ofS (N := Ng) (ps := [a]) (us := [.ref f]) (vs := [.ref f]) lk hcg Sg hr J.env0 (hb sN [.ref f] J.kIn rfl) (.cons rfl .nil) rfl fun hr' => ?_
    obtain ⟨t1, ht1, hq1⟩ := hG f cN sN H1 Q (fun E H' Q' => t E σ H' Q') (fun W pn xe E p1 p2 tk hW => pe_act (i := 0) J L hf hfn hfr (hbind _ _ _ _ _) tk hW hr' (fun A outer s H hr2 => hbody A outer s H E f cN hr2) hNg hva hd hcd) hco (h H1 kp T1)
    exact ⟨t1, ht1.nox, hq1⟩
  refine wpAny_call (codeAny_mono rc fun r s2 hq => ?_)
  cases r with
  | error e => exact (show False from hq).elim
  | ok fl =>
    cases fl with
    | ret u => exact J.after hq
    | next => exact False.elim hq
    | brk => exact False.elim hq
    | cont => exact False.elim hq
end
/-- repr, wherever there is room in the units -/
theorem cr_reprU {X : Cx} (hs : ∃ mm, X.base.Ns sysModules mm) (hg : X.A.guards = some []) (hu : X.A.units + 200 < cLine) : CallR X (.builtin "repr") rReprE := by
  intro pins s σ H xs us Q I r h
  obtain ⟨ms, v, d, rfl, hd, hf, hp, hz, q⟩ := h
  obtain ⟨u, rfl, ru⟩ := vals1 r
  obtain ⟨as, rd, ns⟩ := An.reads I hs d hd ru
  obtain ⟨sh, ln⟩ := fit_told d hf
  have z : d.shown.length ≤ sizeLine := Nat.le_trans ln (Nat.le_trans hz (by decide))
  have room : X.A.units + (d.depth + 1) < cLine := by omega
  have fin : ∀ (hN : Heap) (tk : Nat) (t : Tok), (∀ b o, s.heap.get? b = some o → hN.get? b = some o) → EP X pins σ Q (.str d.shown t) { s with heap := hN, toks := tk } :=
    fun hN tk t hk => ⟨.str d.shown, H, I.kept hk, ⟨t, rfl⟩, q⟩
  cases rd with
  | none => exact PySem.P.repr_of_none (fin s.heap _ _ fun _ _ e => e)
  | bool b => exact PySem.P.repr_of_bool (fin s.heap _ _ fun _ _ e => e)
  | int i t => exact PySem.P.repr_of_int (of_decide_eq_true sh) (fin s.heap _ _ fun _ _ e => e)
  | str x t => exact PySem.P.repr_of_str (fin s.heap _ _ fun _ _ e => e) z
  | list a b c e => exact repr_of_reads' (.list a b c e) sh (fun _ => ns) hg room (fun _ _ e => e) (fun hN u tk hk => fin hN tk u hk) z
  | tuple a b c e => exact repr_of_reads' (.tuple a b c e) sh (fun _ => ns) hg room (fun _ _ e => e) (fun hN u tk hk => fin hN tk u hk) z
  | dict a b c e f => exact repr_of_reads' (.dict a b c e f) sh (fun _ => ns) hg room (fun _ _ e => e) (fun hN u tk hk => fin hN tk u hk) z
end Ey
set_option maxHeartbeats 4000000
namespace Ey
open PySem PySem.Spec L2
def kCall : Str := "call"
def readR (w : Str) (r : List PyData) : PyData := if w = kCall then r.getD 2 .none else .tuple (at_ (match shp w with | some z => z.cps.toList | none => []) 115 r)
/-- the registers that a row reads -/
def readD : PyData → PyData
  | .tuple (.str w :: r) => readR w r
  | _ => .none
def head0 : List PyData → PyData
  | x :: _ => x
  | [] => .none
def setR (w : Str) (r : List PyData) : PyData := head0 (at_ (match shp w with | some z => z.cps.toList | none => []) 100 r)
def setD : PyData → PyData
  | .tuple (.str w :: r) => setR w r
  | _ => .none
/-- a row, taken apart -/
theorem row_parts {ms : List Addr} {H : Hp} {v : V} {d : PyData} (hv : An ms H v d) (h : rowD d = true) : ∃ (t : Addr) (w z : Str) (xs : List V) (r : List PyData), v = .ref t ∧ d = .tuple (.str w :: r) ∧ H t = some (.tup (.str w :: xs)) ∧ AnAll ms H xs r ∧ shp w = some z ∧ zipD z.cps.toList r = true := by
  cases hv with
  | non => cases h
  | bl _ => cases h
  | int _ => cases h
  | str _ => cases h
  | lst _ _ _ => cases h
  | dct _ _ _ => cases h
  | @tup t xs ds e hds =>
    cases hds with
    | nil => cases h
    | @cons v0 vs d0 r h0 hr0 =>
      cases h0 with
      | non => cases h
      | bl _ => cases h
      | int _ => cases h
      | lst _ _ _ => cases h
      | dct _ _ _ => cases h
      | tup _ _ => cases h
      | str w =>
        have h2 : rowR r (shp w) = true := h
        cases es : shp w with
        | none => rw [es] at h2; cases h2
        | some z =>
          rw [es] at h2
          exact ⟨t, w, z, vs, r, rfl, rfl, e, hr0, es, h2⟩
theorem zip_len {z : List Nat} {r : List PyData} (h : zipD z r = true) : r.length = z.length := by
  unfold zipD at h
  rw [Bool.and_eq_true, decide_eq_true_eq] at h
  exact h.1
theorem zip_item {z : List Nat} {r : List PyData} (h : zipD z r = true) {i c : Nat} {x : PyData} (h1 : z[i]? = some c) (h2 : r[i]? = some x) : itemD c x = true := by
  unfold zipD at h
  rw [Bool.and_eq_true, List.all_eq_true] at h
  exact h.2 (c, x) (List.mem_of_getElem? (i := i) (List.getElem?_zip_eq_some.mpr ⟨h1, h2⟩))
theorem shp_call : shp kCall = some "dfa" := by decide +kernel
theorem dfa : (Str.ofString "dfa").cps.toList = [100, 102, 97] := by decide +kernel
theorem s_s : (Str.ofString "s") = st [115] := by decide +kernel
theorem s_d : (Str.ofString "d") = st [100] := by decide +kernel
section
variable {Pr : Program} {w : World} {K : PySem.W.Frag} {mg : Str → Option Value} {base : Heap} {ms : List Addr} {a : Adr} {CB fB f1 : Addr} {d1 : FuncData}
def spRow (ms : List Addr) (g : PyData → PyData) : Sp := fun vs H Q _ => ∃ (v : V) (d : PyData), vs = [v] ∧ An ms H v d ∧ rowD d = true ∧ ∀ v' H', An ms H' v' (g d) → Kp [] H H' → Q v' H'
theorem scRRead : FnScope ["row"] ["row"] (defScope sRRead) := ⟨rfl, rfl, rfl, by decide +kernel, rfl, by decide +kernel, by decide +kernel⟩
theorem ok_rread (F : PF K w mg a) : FnOk Pr w K mg base CX0 2 (a.A 15) (a.D 15) ["row"] (spRow ms readD) := by
  have B := F.B
  refine F.rread.F.ok scRRead (fun vs H Q E h => ?_) (fun cdv Ar outer s H vs Q E hr h => ?_)
  · obtain ⟨v, d, rfl, _⟩ := h
    rfl
  · obtain ⟨v, d, rfl, hv, hd, k⟩ := h
    obtain ⟨t, w0, z, xs, r, rfl, rfl, e, hr0, hs, hz⟩ := row_parts hv hd
    have hlen : xs.length = z.cps.toList.length := by rw [hr0.length, zip_len hz]
    refine ⟨_, pss_one (ps_ret (pe_ifExp (pt_cmpR op_eq (pe_ix ix_tup (pv 0) pe_int (fun _ _ => rfl)) pe_str (nomark _)) (pe_ix ix_tup (pv 0) pe_int (fun _ _ => rfl))
      (pe_callTy call_tuple_of (by rfl) B.tuple (by decide +kernel) (pa_cons (pe_call (ok_items F) hr (by rfl) F.items.g F.items.F.kp F.items.b .nil pass0 (pa_cons (pv 0) (pa_cons pe_str pa_nil))) pa_nil)))), ?_⟩
    refine ⟨_, rfl, t, _, _, _, rfl, rfl, sqt_of e, atI_nat (j := 0) rfl, rfl, _, rfl, ite2 (fun q => ?_) (fun q => ?_)⟩
    · have ew : w0 = kCall := V.str.inj (of_decide_eq_true q)
      subst ew
      rw [shp_call] at hs
      cases hs
      have h3 : xs.length = 3 := by rw [hlen, dfa]; rfl
      have e2 : xs[2]? = some xs[2] := List.getElem?_eq_getElem (by omega)
      obtain ⟨d2, ed, a2⟩ := hr0.get e2
      refine ⟨_, rfl, t, _, _, xs[2], rfl, rfl, sqt_of e, atI_nat (j := 3) e2, ?_⟩
      refine k _ H ?_ .refl
      show An ms H xs[2] (readR kCall r)
      unfold readR
      rw [if_pos rfl, List.getD_eq_getElem?_getD, ed]
      exact a2
    · have ew : ¬ w0 = kCall := fun z => q (decide_eq_true (by rw [z]; rfl))
      refine ⟨_, rfl, t, w0, z, xs, 115, by rw [s_s]; rfl, e, hs, hlen, fun q1 H1 e1 n1 k1 => ?_⟩
      refine ⟨q1, _, rfl, .inl ⟨sql_of e1, fun q2 n2 => ?_⟩⟩
      have kn : Kp [] H1 (upd H1 q2 (.tup (at_ z.cps.toList 115 xs))) := .new n2
      refine k _ _ ?_ (k1.trans kn)
      show An ms _ (.ref q2) (readR w0 r)
      unfold readR
      rw [if_neg ew, hs]
      exact .tup upd_same (((hr0.kp k1 (by simp) r).kp kn (by simp) r).at_ 115 z.cps.toList)
theorem scRSet : FnScope ["row", "found"] ["row"] (defScope sRSet) := ⟨rfl, rfl, rfl, by decide +kernel, rfl, by decide +kernel, by decide +kernel⟩
theorem ok_rset (F : PF K w mg a) : FnOk Pr w K mg base CX0 2 (a.A 16) (a.D 16) ["row"] (spRow ms setD) := by
  have B := F.B
  refine F.rset.F.ok scRSet (fun vs H Q E h => ?_) (fun cdv Ar outer s H vs Q E hr h => ?_)
  · obtain ⟨v, d, rfl, _⟩ := h
    rfl
  · obtain ⟨v, d, rfl, hv, hd, k⟩ := h
    obtain ⟨t, w0, z, xs, r, rfl, rfl, e, hr0, hs, hz⟩ := row_parts hv hd
    have hlen : xs.length = z.cps.toList.length := by rw [hr0.length, zip_len hz]
    refine ⟨_, pss_cons (ps_set (i := 1) scRSet.nd rfl (.inl rfl) (pe_call (ok_items F) hr (by rfl) F.items.g F.items.F.kp F.items.b .nil pass0 (pa_cons (pv 0) (pa_cons pe_str pa_nil))))
      (pss_one (ps_ret (pe_ifExp (pt_truth (pv 1) (by intro _; rfl)) (pe_ix ix_list (pv 1) pe_int (fun _ _ => rfl)) pe_non))), ?_⟩
    refine ⟨_, rfl, t, w0, z, xs, 100, by rw [s_d]; rfl, e, hs, hlen, fun q1 H1 e1 n1 k1 => ?_⟩
    have hA := (hr0.kp k1 (by simp) r).at_ 100 z.cps.toList
    have es : setD (.tuple (.str w0 :: r)) = head0 (at_ z.cps.toList 100 r) := by
      show setR w0 r = _
      unfold setR
      rw [hs]
    rw [es] at k
    refine ⟨_, rfl, _, .inl ⟨_, sql_of e1, rfl⟩, ?_⟩
    generalize at_ z.cps.toList 100 xs = us at e1 hA
    generalize at_ z.cps.toList 100 r = rs at k hA
    cases hA with
    | nil => exact iteF (k _ H1 .non k1)
    | cons ax hx => exact iteT ⟨_, rfl, q1, _, _, _, rfl, rfl, sql_of e1, atI_nat (j := 0) rfl, k _ H1 ax k1⟩
/-- what a refusal or an answer is -/
def spBy (ms Ts : List Addr) (CB : Addr) (g : PyData → PyData) : Sp := fun vs H Q E => ∃ (v : V) (d : PyData), vs = [v] ∧ An ms H v d ∧ wd d ≤ 1000000 ∧ TTs Ts H ∧ (∀ P ∈ Ts, P ∈ ms) ∧
  (rowD d = true → ∀ v' H', An ms H' v' (g d) → TTs Ts H' → Kp Ts H H' → Q v' H') ∧
  (rowD d = false → ∀ dd H', H' dd = some (.xd [("thing", v)]) → TTs Ts H' → Kp Ts H H' → E (.ref CB) (some dd) H')
theorem scReadBy : FnScope ["row"] ["row"] (defScope sReadBy) := ⟨rfl, rfl, rfl, by decide +kernel, rfl, by decide +kernel, by decide +kernel⟩
theorem ok_readBy (F : PF K w mg a) (b : BF base mg a) (T : PySem.BadRowX.BadRowTxt K mg CB fB) (D1 : Df K mg "read_by" sReadBy ["row"] f1 d1) : FnOk Pr w K mg base (L2.CX Pr w) 9 f1 d1 ["row"] (spBy ms a.Ts CB readD) := by
  refine D1.F.okX scReadBy (fun vs H Q E h => ?_) (fun cdv Ar outer s H vs Q E hr h => ?_)
  · obtain ⟨v, d, rfl, _⟩ := h
    rfl
  · obtain ⟨v, d, rfl, hv, hz, hT, hsub, kS, kE⟩ := h
    have hr2 := hr.mono (show 2 ≤ 8 by decide)
    refine ⟨_, pss_cons (ps_if (pt_not (pt_val (pe_call (ok_row (ms := ms) F b) hr (by rfl) F.row.g F.row.F.kp F.row.b .nil pass0 (by exact (pa_cons (pv 0) pa_nil))))) (pss_one (ps_raiseBadRow rfl T hr (takes_of rfl rfl rfl rfl) (by exact (pa_cons (pv 0) pa_nil)))) pss_nil)
      (pss_one (ps_ret (pe_call (ok_rread (ms := ms) F) hr2 (by rfl) F.rread.g F.rread.F.kp F.rread.b .nil pass0 (by exact (pa_cons (pv 0) pa_nil))))), ?_⟩
    refine ⟨_, rfl, v, d, rfl, hv, hz, hT, hsub, fun H1 g1 k1 => ⟨_, rfl, ?_⟩⟩
    cases e : rowD d with
    | false => exact iteT ⟨_, rfl, _, rfl, fun dd hd => kE e dd _ upd_same (g1.kp0 (.new hd)) (k1.trans (.new hd))⟩
    | true => exact iteF ⟨_, rfl, v, d, rfl, hv.kp k1 hsub d, e, fun v' H' hA k' => kS e v' H' hA (g1.kp0 k') (k1.trans (k'.more (by simp)))⟩
theorem scSetBy : FnScope ["row"] ["row"] (defScope sSetBy) := ⟨rfl, rfl, rfl, by decide +kernel, rfl, by decide +kernel, by decide +kernel⟩
theorem ok_setBy (F : PF K w mg a) (b : BF base mg a) (T : PySem.BadRowX.BadRowTxt K mg CB fB) (D1 : Df K mg "set_by" sSetBy ["row"] f1 d1) : FnOk Pr w K mg base (L2.CX Pr w) 9 f1 d1 ["row"] (spBy ms a.Ts CB setD) := by
  refine D1.F.okX scSetBy (fun vs H Q E h => ?_) (fun cdv Ar outer s H vs Q E hr h => ?_)
  · obtain ⟨v, d, rfl, _⟩ := h
    rfl
  · obtain ⟨v, d, rfl, hv, hz, hT, hsub, kS, kE⟩ := h
    have hr2 := hr.mono (show 2 ≤ 8 by decide)
    refine ⟨_, pss_cons (ps_if (pt_not (pt_val (pe_call (ok_row (ms := ms) F b) hr (by rfl) F.row.g F.row.F.kp F.row.b .nil pass0 (by exact (pa_cons (pv 0) pa_nil))))) (pss_one (ps_raiseBadRow rfl T hr (takes_of rfl rfl rfl rfl) (by exact (pa_cons (pv 0) pa_nil)))) pss_nil)
      (pss_one (ps_ret (pe_call (ok_rset (ms := ms) F) hr2 (by rfl) F.rset.g F.rset.F.kp F.rset.b .nil pass0 (by exact (pa_cons (pv 0) pa_nil))))), ?_⟩
    refine ⟨_, rfl, v, d, rfl, hv, hz, hT, hsub, fun H1 g1 k1 => ⟨_, rfl, ?_⟩⟩
    cases e : rowD d with
    | false => exact iteT ⟨_, rfl, _, rfl, fun dd hd => kE e dd _ upd_same (g1.kp0 (.new hd)) (k1.trans (.new hd))⟩
    | true => exact iteF ⟨_, rfl, v, d, rfl, hv.kp k1 hsub d, e, fun v' H' hA k' => kS e v' H' hA (g1.kp0 k') (k1.trans (k'.more (by simp)))⟩
end
end Ey
set_option maxHeartbeats 4000000
namespace Ey
open PySem PySem.Spec PyProof.Rows L2 PySem.SeqAt
section
variable {X : Cx}
/-- t != (), t any tuple -/
def rNeE : R2 := fun x y H Q => ∃ a b xs, x = .ref a ∧ y = .ref b ∧ H a = some (.tup xs) ∧ H b = some (.tup []) ∧ Q (.bl (!xs.isEmpty)) H
theorem op_neE (hu : X.A.units + 64 < cLine) : OpR X (compareOp .NotEq) rNeE := by
  intro pins s σ H x y v u Q I rx ry h
  obtain ⟨a, b, xs, rfl, rfl, h1, h2, q⟩ := h
  cases rx
  cases ry
  obtain ⟨its, r, p⟩ := tup_obj I h1
  obtain ⟨its2, r2, p2⟩ := tup_obj I h2
  cases r2
  refine RcNeAt.tuples (e := fun _ => true) p p2 (by omega) (fun j h1 h2 => absurd h2 (by simp)) _ _ _ _ ⟨.bl (!xs.isEmpty), H, I, ?_, q⟩
  cases r with
  | nil => rfl
  | cons _ _ => rfl
/-- xs != [], xs any list -/
def rNeEL : R2 := fun x y H Q => ∃ a b xs, x = .ref a ∧ y = .ref b ∧ H a = some (.lst xs) ∧ H b = some (.lst []) ∧ Q (.bl (!xs.isEmpty)) H
theorem op_neEL (hu : X.A.units + 64 < cLine) : OpR X (compareOp .NotEq) rNeEL := by
  intro pins s σ H x y v u Q I rx ry h
  obtain ⟨a, b, xs, rfl, rfl, h1, h2, q⟩ := h
  cases rx
  cases ry
  obtain ⟨its, r, p⟩ := lst_obj I h1
  obtain ⟨its2, r2, p2⟩ := lst_obj I h2
  cases r2
  cases r with
  | nil => exact RcNeAt.lists (e := fun _ => true) p p2 rfl (by omega) (fun j h1 h2 => absurd h2 (by simp)) _ _ _ _ ⟨.bl false, H, I, rfl, q⟩
  | cons _ _ => exact RcNeAt.lists_lengths p p2 (by simp) (by omega) _ _ _ _ ⟨.bl true, H, I, rfl, q⟩
end
end Ey
set_option maxHeartbeats 4000000
namespace Ey
open PySem PySem.Spec L2
abbrev sLInt : Stmt := topS 24
abbrev sLNum : Stmt := topS 25
abbrev sLIsTag : Stmt := topS 26
abbrev sShapes : Stmt := topS 27
abbrev sLIsRow : Stmt := topS 28
abbrev sLRead : Stmt := topS 29
abbrev sLSet : Stmt := topS 30
section
variable {X : Cx}
/-- xs == [], xs any list -/
def rEqEL : R2 := fun x y H Q => ∃ a b xs, x = .ref a ∧ y = .ref b ∧ H a = some (.lst xs) ∧ H b = some (.lst []) ∧ Q (.bl xs.isEmpty) H
theorem op_eqEL (hu : X.A.units + 64 < cLine) : OpR X (compareOp .Eq) rEqEL := by
  intro pins s σ H x y v u Q I rx ry h
  obtain ⟨a, b, xs, rfl, rfl, h1, h2, q⟩ := h
  cases rx
  cases ry
  obtain ⟨its, r, p⟩ := lst_obj I h1
  obtain ⟨its2, r2, p2⟩ := lst_obj I h2
  cases r2
  cases r with
  | nil => exact PySem.W.eq_listsT (n := 1) (e := fun _ => true) p p2 rfl (fun j h1 h2 => absurd h2 (by simp)) (by omega) ⟨.bl true, H, I, rfl, q⟩
  | cons _ _ => exact SeqAt.RcAt.lists_lengths p p2 (by simp) (by omega) _ _ _ _ ⟨.bl false, H, I, rfl, q⟩
end
/-- where the law's own looking stands -/
structure LR (K : PySem.W.Frag) (mg : Str → Option Value) (A : Nat → Addr) (D : Nat → FuncData) : Prop where
  B : BI mg
  int : Df K mg "_law_is_integer" sLInt ["_law_thing"] (A 24) (D 24)
  num : Df K mg "_law_is_number" sLNum ["_law_thing"] (A 25) (D 25)
  tag : Df K mg "_law_is_tag" sLIsTag ["_law_thing"] (A 26) (D 26)
  shapes : Df K mg "_law_shapes" sShapes [] (A 27) (D 27)
  row : Df K mg "_law_is_row" sLIsRow ["_law_thing"] (A 28) (D 28)
  read : Df K mg "_law_read" sLRead ["_law_row"] (A 29) (D 29)
  set : Df K mg "_law_set" sLSet ["_law_row"] (A 30) (D 30)
section
variable {Pr : Program} {w : World} {K : PySem.W.Frag} {mg : Str → Option Value} {base : Heap} {ms : List Addr} {A : Nat → Addr} {D : Nat → FuncData}
theorem scLInt : FnScope ["_law_thing"] ["_law_thing"] (defScope sLInt) := ⟨rfl, rfl, rfl, by decide +kernel, rfl, by decide +kernel, by decide +kernel⟩
theorem go_lInt (L : LR K mg A D) : FnOk Pr w K mg base CX0 1 (A 24) (D 24) ["_law_thing"] (spI ms isIntD) :=
  ok_plain L.int.F scLInt fun cdv A outer s H E => pss_one (ps_ret (pe_and (pe_callB call_isi (by rfl) L.B.isi (by decide +kernel) (pa_cons (pv 0) (pa_cons (pe_bltn (v := .ty "int") (by rfl) L.B.int (by decide +kernel) rfl) pa_nil)))
      (pe_one (pe_not (pe_callB call_isi (by rfl) L.B.isi (by decide +kernel) (pa_cons (pv 0) (pa_cons (pe_bltn (v := .ty "bool") (by rfl) L.B.bool (by decide +kernel) rfl) pa_nil)))))))
theorem scLNum : FnScope ["_law_thing"] ["_law_thing"] (defScope sLNum) := ⟨rfl, rfl, rfl, by decide +kernel, rfl, by decide +kernel, by decide +kernel⟩
theorem ok_lNum (L : LR K mg A D) : FnOk Pr w K mg base CX0 2 (A 25) (D 25) ["_law_thing"] (spI ms natD) := by
  refine L.num.F.ok scLNum (fun vs H Q E h => ?_) (fun cdv Ar outer s H vs Q E hr h => ?_)
  · obtain ⟨v, d, rfl, _⟩ := h
    rfl
  · obtain ⟨v, d, rfl, hv, k⟩ := h
    refine ⟨_, pss_one (ps_ret (pe_and (pe_call (go_lInt (ms := ms) L) hr (by rfl) L.int.g L.int.F.kp L.int.b .nil pass0 (pa_cons (pv 0) pa_nil)) (pe_one (pe_cmpR op_ge (pv 0) pe_int (nomark _))))), ?_⟩
    refine ⟨_, rfl, v, d, rfl, hv, _, rfl, ?_⟩
    cases hv with
    | int i =>
      refine iteT ⟨_, rfl, _, _, rfl, rfl, ?_⟩
      exact k
    | non => exact iteF k
    | bl b => exact iteF k
    | str x => exact iteF k
    | lst e => exact iteF k
    | tup e => exact iteF k
    | dct e => exact iteF k
theorem scLIsTag : FnScope ["_law_thing", "_law_sign"] ["_law_thing"] (defScope sLIsTag) := ⟨rfl, rfl, rfl, by decide +kernel, rfl, by decide +kernel, by decide +kernel⟩
def spL (ms : List Addr) (g : PyData → Bool) : Sp := fun vs H Q _ => ∃ (v : V) (d : PyData), vs = [v] ∧ An ms H v d ∧ wd d ≤ 1000000 ∧ ∀ H', Kp [] H H' → Q (.bl (g d)) H'
theorem ok_lIsTag (L : LR K mg A D) : FnOk Pr w K mg base CX0 1 (A 26) (D 26) ["_law_thing"] (spL ms isTagD) := by
  have B := L.B
  refine L.tag.F.ok scLIsTag (fun vs H Q E h => ?_) (fun cdv Ar outer s H vs Q E hr h => ?_)
  · obtain ⟨v, d, rfl, _⟩ := h
    rfl
  · obtain ⟨v, d, rfl, hv, hz, k⟩ := h
    refine ⟨_, pss_cons (ps_if (PW.pt (pw_or (pt_not (pt_val (pe_callB call_isi (by rfl) B.isi (by decide +kernel) (pa_cons (pv 0) (pa_cons (pe_bltn (v := .ty "str") (by rfl) B.str (by decide +kernel) rfl) pa_nil)))))
        (pw_or1 (pt_not (pt_chain op_le op_le pe_int (pe_callB call_len_str (by rfl) B.len PySem.boot_len (pa_cons (pv 0) pa_nil)) pe_int))))) (pss_one (ps_ret pe_bl)) pss_nil)
      (pss_one (ps_ret (pe_cmpR (op_eqEL hr.units) (pe_lc (own := [("_law_sign", 1)]) (g := gName 1) rfl scLIsTag.nd (pi_str (pv 0)) (blkOk_by (N := ["_law_thing", "_law_sign"]) (sc := defScope sLIsTag) (by decide +kernel)) (fun _ _ _ _ _ => pg_name (i := 1) scLIsTag.nd rfl (Or.inl rfl))
        (fun _ _ _ _ _ => pts_one (pt_cmpR op_notIn_str (pv 1) pe_str (by rfl))) (fun _ _ _ _ _ => pv 1)) (pe_lst pa_nil) (nomark _)))), ?_⟩
    have kH := k H .refl
    obtain ⟨ty, hty, kty⟩ := hv.strK (K := K)
    refine ⟨_, rfl, _, .ty "str", ty, .type "str", _, rfl, .ty "str", hty, kty, ?_⟩
    cases hv with
    | non => exact ⟨false, rfl, iteT kH⟩
    | bl b => exact ⟨false, rfl, iteT kH⟩
    | int i => exact ⟨false, rfl, iteT kH⟩
    | lst e => exact ⟨false, rfl, iteT kH⟩
    | tup e => exact ⟨false, rfl, iteT kH⟩
    | dct e => exact ⟨false, rfl, iteT kH⟩
    | str g =>
      refine ⟨true, rfl, iteF ?_⟩
      have hg : g.length ≤ 1000000 := by
        have h1 : 10 * g.length + 2 ≤ 1000000 := hz
        omega
      have hgs : g.length ≤ sizeLine := Nat.le_trans hg (by decide)
      have fin : ∀ b, isTag g = b → Q (.bl b) H := fun b e => by
        rw [← e]
        exact kH
      refine ⟨_, rfl, _, rfl, hgs, ?_⟩
      refine ⟨_, _, rfl, rfl, _, rfl, ?_⟩
      by_cases h1 : 1 ≤ g.length
      · rw [decide_eq_true (show (1 : Int) ≤ (g.length : Int) by omega)]
        refine iteT ⟨_, _, rfl, rfl, _, rfl, ?_⟩
        by_cases h2 : g.length ≤ 8
        · rw [decide_eq_true (show (g.length : Int) ≤ 8 by omega)]
          refine iteF ⟨_, rfl, g, rfl, fun D nD => ?_⟩
          refine lcStr (z := g) (fun i H2 => H2 D = some (.lst (((g.cps.toList.take i).filter fun c => !decide (c ∈ abc)).map fun c => V.str (st [c]))) ∧ Kp [] H H2)
            ⟨upd_same, .new nD⟩ ?_ ?_
          · rintro i c H2 hi ⟨hD, kH⟩
            refine ⟨rfl, _, rfl, _, _, rfl, rfl, _, rfl, ?_⟩
            have fo : (!(Builtin.Str.occurrences (Str.ofString "abcdefghijklmnopqrstuvwxyz") (st [c]) 0 (Str.ofString "abcdefghijklmnopqrstuvwxyz").length 1).isEmpty) = decide (c ∈ abc) := by
              rw [← abc_is]
              exact PySem.StrLaws.found_one _ c
            have tf := take_filter (f := fun c => !decide (c ∈ abc)) hi
            rw [fo]
            cases e : decide (c ∈ abc) with
            | true =>
              refine iteF ⟨?_, kH⟩
              rw [tf, e, if_neg (by simp), List.append_nil]
              exact hD
            | false =>
              refine iteT ⟨_, rfl, _, hD, ?_, ?_, kH.own nD⟩
              · rw [List.length_map]
                have a := List.length_filter_le (fun c => !decide (c ∈ abc)) (g.cps.toList.take i)
                rw [List.length_take] at a
                have b : g.cps.toList.length = g.length := by rw [Array.length_toList]; rfl
                exact Nat.lt_of_le_of_lt (show _ ≤ 8 by omega) (by decide)
              · rw [upd_same, tf, e, List.map_append]
                rfl
          rintro H3 ⟨hD, k3⟩
          rw [List.take_length] at hD
          refine ⟨Nat.zero_le _, fun p np => ⟨D, p, (g.cps.toList.filter fun c => !decide (c ∈ abc)).map (fun c => V.str (st [c])), rfl, rfl, ?_, upd_same, ?_⟩⟩
          · rw [upd_ne (ne_of_none hD np)]
            exact hD
          rw [List.isEmpty_map, ← isTag_alt g h1 h2]
          exact k _ (k3.trans (.new np))
        · rw [decide_eq_false (show ¬ (g.length : Int) ≤ 8 by omega)]
          refine iteT (fin _ ?_)
          rw [isTag, decide_eq_false h2, Bool.and_false]
          rfl
      · rw [decide_eq_false (show ¬ (1 : Int) ≤ (g.length : Int) by omega)]
        refine iteF ⟨false, rfl, iteT (fin _ ?_)⟩
        rw [isTag, decide_eq_false h1]
        rfl
/-! ### the shapes, made anew -/
def shapesK : List (Key × V) := rowsL.map fun p => (.inr p.1, .str p.2)
theorem scShapes : FnScope [] [] (defScope sShapes) := ⟨rfl, rfl, rfl, by decide +kernel, rfl, by decide +kernel, by decide +kernel⟩
def spShapes : Sp := fun vs H Q _ => vs = [] ∧ ∀ (q : Addr) (H' : Hp), H q = none → H' q = some (.dK shapesK) → Kp [] H H' → Q (.ref q) H'
theorem merge_id : ∀ (kvs acc : List (Key × V)), (acc ++ kvs).map (·.1) |>.Nodup → mergeK acc kvs = acc ++ kvs
  | [], acc, _ => (List.append_nil acc).symm
  | (k, v) :: r, acc, h => by
    have e : putK acc k v = acc ++ [(k, v)] := by
      refine putK_new _ ?_
      rw [List.map_append, List.nodup_append] at h
      have h3 := h.2.2
      have nk : k ∉ acc.map (·.1) := fun hk => h3 k hk k (by simp) rfl
      clear h h3
      induction acc with
      | nil => rfl
      | cons a b ih => exact (valV_neg (fun e => nk (by simp [e]))).trans (ih fun z => nk (by simp only [List.map_cons, List.mem_cons]; exact .inr z))
    show mergeK (putK acc k v) r = _
    rw [e, merge_id r _ (by rw [List.append_assoc]; exact h), List.append_assoc]
    rfl
theorem shapes_nd : (([] : List (Key × V)) ++ shapesK).map (·.1) |>.Nodup := by decide +kernel
theorem shapes_merge : mergeK [] shapesK = shapesK := merge_id shapesK [] shapes_nd
theorem shapes_get (w : Str) : valV shapesK (.inr w) = (shp w).map V.str := by
  unfold shapesK shp
  generalize rowsL = l
  induction l with
  | nil => rfl
  | cons p r ih =>
    rw [List.map_cons, List.find?_cons]
    by_cases h : p.1 = w
    · rw [decide_eq_true h]
      exact valV_pos (by rw [h])
    · rw [decide_eq_false h]
      exact (valV_neg (fun e => h (Sum.inr.inj e))).trans ih
theorem ok_shapes (L : LR K mg A D) : FnOk Pr w K mg base CX0 1 (A 27) (D 27) [] spShapes := by
  refine L.shapes.F.ok scShapes (fun vs H Q E h => ?_) (fun cdv A outer s H vs Q E hr h => ?_)
  · obtain ⟨rfl, _⟩ := h
    rfl
  · obtain ⟨rfl, k⟩ := h
    refine ⟨_, pss_one (ps_ret (pe_disp (pps_cons pe_str pe_str (pps_cons pe_str pe_str (pps_cons pe_str pe_str (pps_cons pe_str pe_str (pps_cons pe_str pe_str (pps_cons pe_str pe_str (pps_cons pe_str pe_str (pps_cons pe_str pe_str (pps_cons pe_str pe_str (pps_cons pe_str pe_str (pps_cons pe_str pe_str (pps_cons pe_str pe_str (pps_cons pe_str pe_str (pps_cons pe_str pe_str (pps_cons pe_str pe_str pps_nil))))))))))))))) (by rfl) (by rfl) (fun z => by cases z) (by decide))), ?_⟩
    intro q nq
    refine ⟨upd_same, shapesK, rfl, by show 15 ≤ 15; decide, ?_⟩
    rw [shapes_merge, upd_upd]
    exact k q _ nq upd_same (.new nq)
theorem shapes_dg {H : Hp} {q : Addr} (h : H q = some (.dK shapesK)) (w : Str) : DGet H q (.str w) ((shp w).map V.str) := shapes_get w ▸ DGet.k (k := Sum.inr w) h
end
end Ey
set_option maxHeartbeats 4000000
namespace Ey
open PySem PySem.Spec L2
theorem shp_in : ∀ p ∈ rowsL, ∀ c ∈ p.2.cps.toList, c = 100 ∨ c = 115 ∨ c = 107 ∨ c = 102 ∨ c = 116 ∨ c = 97 := by decide +kernel
theorem dskf : (Str.ofString "dskf").cps.toList = [100, 115, 107, 102] := by decide +kernel
theorem shp_len : ∀ p ∈ rowsL, p.2.length ≤ 10 := by decide +kernel
theorem cps_len (z : Str) : z.cps.toList.length = z.length := by
  rw [Array.length_toList]
  rfl
section
variable {Pr : Program} {w : World} {K : PySem.W.Frag} {mg : Str → Option Value} {base : Heap} {ms : List Addr} {A : Nat → Addr} {D : Nat → FuncData}
abbrev NR : List Str := ["_law_thing", "_law_shape", "_law_kind", "_law_it", "_law_x"]
theorem scLIsRow : FnScope NR ["_law_thing"] (defScope sLIsRow) := ⟨rfl, rfl, rfl, by decide +kernel, rfl, by decide +kernel, by decide +kernel⟩
theorem ok_lIsRow (L : LR K mg A D) : FnOk Pr w K mg base CX0 3 (A 28) (D 28) ["_law_thing"] (spL ms rowD) := by
  have B := L.B
  refine L.row.F.ok scLIsRow (fun vs H Q E h => ?_) (fun cdv Ar outer s H vs Q E hr h => ?_)
  · obtain ⟨v, d, rfl, _⟩ := h
    rfl
  · obtain ⟨v, d, rfl, hv, hz, k⟩ := h
    have hr1 := hr.mono (show 1 ≤ 2 by decide)
    have hu := hu_of hr
    refine ⟨_, pss_cons (ps_if (PW.pt (pw_or (pt_not (pt_val (pe_callB call_isi (by rfl) B.isi (by decide +kernel) (pa_cons (pv 0) (pa_cons (pe_bltn (v := .ty "tuple") (by rfl) B.tuple (by decide +kernel) rfl) pa_nil)))))
        (pw_or (pt_cmpR (op_eqE hr.units) (pv 0) (pe_tup pa_nil) (nomark _))
        (pw_or1 (pt_not (pt_val (pe_callB call_isi (by rfl) B.isi (by decide +kernel) (pa_cons (pe_ix ix_tup (pv 0) pe_int (fun _ _ => rfl)) (pa_cons (pe_bltn (v := .ty "str") (by rfl) B.str (by decide +kernel) rfl) pa_nil))))))))) (pss_one (ps_ret pe_bl)) pss_nil)
      (pss_cons (ps_set (i := 1) scLIsRow.nd rfl (.inl rfl) (pe_dget1 (hu_of hr) (pe_call0 (ok_shapes L) hr1 (by rfl) L.shapes.g L.shapes.F.kp L.shapes.b .nil pass0) (pe_ix ix_tup (pv 0) pe_int (fun _ _ => rfl)) ⟨rfl, rfl, rfl, rfl⟩))
      (pss_cons (ps_if (PW.pt (pw_or (pt_cmpR op_isN (pv 1) pe_non (nomark _)) (pw_or1 (pt_cmpR op_ne (pe_callB call_len_seq (by rfl) B.len PySem.boot_len (pa_cons (pv 0) pa_nil)) (pe_op op_add pe_int (pe_callB call_len_str (by rfl) B.len PySem.boot_len (pa_cons (pv 1) pa_nil))) (nomark _))))) (pss_one (ps_ret pe_bl)) pss_nil)
      (pss_cons (ps_for PassesOwn.never rfl (pi_zipS (by rfl) B.zip (pa_cons (pv 1) (pa_cons (pe_slice sl_cut (pv 0) (po_some pe_int) po_none) pa_nil))) (pg_tup (n := 2) rfl (pgs_cons (pg_name (i := 2) scLIsRow.nd rfl (Or.inl rfl)) (pgs_cons (pg_name (i := 3) scLIsRow.nd rfl (Or.inl rfl)) pgs_nil)))
        (pss_cons (ps_if (PW.pt (pw_or (PW.pt (pw_and (pt_cmpR op_eq (pv 2) pe_str (nomark _)) (pw_and1 (pt_not (pt_val (pe_call (ok_lIsTag (ms := ms) L) hr1 (by rfl) L.tag.g L.tag.F.kp L.tag.b .nil pass0 (pa_cons (pv 3) pa_nil)))))))
            (pw_or1 (PW.pt (pw_and (pt_cmpR op_in_sign (pv 2) pe_str (by rfl)) (pw_and1 (pt_not (pt_val (pe_call (ok_lNum (ms := ms) L) hr (by rfl) L.num.g L.num.F.kp L.num.b .nil pass0 (pa_cons (pv 3) pa_nil)))))))))) (pss_one (ps_ret pe_bl)) pss_nil)
        (pss_one (ps_if (PW.pt (pw_and (pt_cmpR op_eq (pv 2) pe_str (nomark _)) (pw_and1 (PW.pt (pw_or (pt_not (pt_val (pe_callB call_isi (by rfl) B.isi (by decide +kernel) (pa_cons (pv 3) (pa_cons (pe_bltn (v := .ty "tuple") (by rfl) B.tuple (by decide +kernel) rfl) pa_nil)))))
            (pw_or1 (pt_cmpR (op_neEL hr.units) (pe_lc (own := [("_law_x", 4)]) (g := gName 4) rfl scLIsRow.nd (pi_tup (pv 3)) (blkOk_by (N := NR) (sc := defScope sLIsRow) (by decide +kernel)) (fun _ _ _ _ _ => pg_name (i := 4) scLIsRow.nd rfl (Or.inl rfl))
              (fun _ _ _ _ _ => pts_one (pt_not (pt_val (pe_call (ok_lNum (ms := ms) L) hr (by rfl) L.num.g L.num.F.kp L.num.b .nil pass0 (pa_cons (pv 4) pa_nil))))) (fun _ _ _ _ _ => pv 4)) (pe_lst pa_nil) (nomark _))))))))
            (pss_one (ps_ret pe_bl)) pss_nil))))
      (pss_one (ps_ret pe_bl))))), ?_⟩
    have kH := k H .refl
    obtain ⟨ty, hty, kty⟩ := hv.tupK (K := K)
    refine ⟨_, rfl, _, .ty "tuple", ty, .type "tuple", _, rfl, .ty "tuple", hty, kty, ?_⟩
    cases hv with
    | non => exact ⟨false, rfl, iteT kH⟩
    | bl b => exact ⟨false, rfl, iteT kH⟩
    | int i => exact ⟨false, rfl, iteT kH⟩
    | str g => exact ⟨false, rfl, iteT kH⟩
    | lst e => exact ⟨false, rfl, iteT kH⟩
    | dct e => exact ⟨false, rfl, iteT kH⟩
    | @tup t xs ds e hds =>
      refine ⟨true, rfl, iteF ?_⟩
      refine ⟨_, rfl, Nat.zero_le _, fun p np => ?_⟩
      have kp : Kp [] H (upd H p (.tup [])) := .new np
      have ep : (upd H p (.tup [])) p = some (.tup []) := upd_same
      have e1 := kp.tup _ _ e
      have hds1 := hds.kp kp (by simp) ds
      generalize upd H p (.tup []) = H1 at kp ep e1 hds1
      refine ⟨t, p, xs, rfl, rfl, e1, ep, _, rfl, ?_⟩
      have kH := k H1 kp
      cases hds1 with
      | nil => exact iteT kH
      | @cons v0 vs d0 r h0 hr0 =>
        refine iteF ?_
        obtain ⟨ty0, hty0, kty0⟩ := h0.strK (K := K)
        refine ⟨_, rfl, t, _, _, _, rfl, rfl, sqt_of e1, atI_nat (j := 0) rfl, _, .ty "str", ty0, .type "str", _, rfl, .ty "str", hty0, kty0, ?_⟩
        cases h0 with
        | non => exact ⟨false, rfl, iteT kH⟩
        | bl b => exact ⟨false, rfl, iteT kH⟩
        | int i => exact ⟨false, rfl, iteT kH⟩
        | lst e => exact ⟨false, rfl, iteT kH⟩
        | tup e => exact ⟨false, rfl, iteT kH⟩
        | dct e => exact ⟨false, rfl, iteT kH⟩
        | str wd0 =>
          refine ⟨true, rfl, iteF ?_⟩
          have kw : ∀ H', Kp [] H H' → Q (.bl (rowR r (shp wd0))) H' := k
          refine ⟨rfl, fun q H2 nq eq k2 => ?_⟩
          have e2 := k2.tup _ _ e1
          have k02 := kp.trans k2
          have hr2 := hr0.kp k2 (by simp) r
          refine ⟨q, rfl, .inl ⟨shapesK, .inl eq⟩, _, rfl, t, _, _, _, rfl, rfl, sqt_of e2, atI_nat (j := 0) rfl, _, shapes_dg eq wd0, ?_⟩
          cases es0 : shp wd0 with
          | none =>
            rw [es0] at kw
            exact ⟨_, rfl, rfl, _, rfl, iteT (kw H2 k02)⟩
          | some z =>
            rw [es0] at kw
            obtain ⟨p, hp, rfl, rfl⟩ := shp_some es0
            refine ⟨_, rfl, rfl, _, rfl, iteF ?_⟩
            have lz := shp_len p hp
            have ezl := cps_len p.2
            have ln := hr2.length
            refine ⟨_, rfl, t, _, rfl, .inr (sqt_of e2), _, rfl, _, rfl, Nat.le_trans lz (by decide), _, _, rfl, rfl, rfl, _, rfl, ?_⟩
            have kB : ∀ bb H', zipD p.2.cps.toList r = bb → Kp [] H H' → Q (.bl bb) H' := fun bb H' e' k' => e' ▸ kw H' k'
            by_cases hlen : r.length = p.2.cps.toList.length
            · rw [decide_eq_true (show V.int (((V.str p.1 :: vs).length : Nat) : Int) = V.int (1 + (p.2.length : Int)) by
                congr 1
                rw [List.length_cons, ln, hlen, ezl]
                omega)]
              refine iteF ?_
              refine ⟨_, rfl, _, rfl, 1, rfl, t, _, rfl, e2, fun q1 H5 e5 k5 => ?_⟩
              have c1 : cutV (V.str p.1 :: vs) (some 1) none = vs := by
                rw [show cutV (V.str p.1 :: vs) (some 1) none = (V.str p.1 :: vs).drop 1 from cut_drop _ 1]
                rfl
              rw [c1] at e5
              refine ⟨_, q1, vs, rfl, sqt_of e5, ?_⟩
              have hwr : wdAll r ≤ 1000000 := by
                have q : wd (.str p.1) + 2 + wdAll r + 3 ≤ 1000000 := hz
                omega
              have hlz : vs.length = p.2.cps.toList.length := by rw [ln, hlen]
              refine for_it (walk_zipS (K := K) (z := p.2) (b := q1) hlz.symm) (fun i σ H' => (∃ y z u, σ = [some (.ref t), some (.str p.2), y, z, u]) ∧ Kp [] H H' ∧ H' q1 = some (.tup vs) ∧ ((p.2.cps.toList.zip r).take i).all (fun p => itemD p.1 p.2) = true)
                ⟨⟨none, none, none, rfl⟩, k02.trans k5, e5, rfl⟩ (fun i σ H' _ h => sqt_of h.2.2.1) ?_ ?_
              · rintro i x σ H' H'' hi ⟨⟨y0, z0, u0, rfl⟩, k', e', qa⟩ ⟨T, c, y, rfl, hTn, rfl, hc, hy⟩
                obtain ⟨dy, ey, ay0⟩ := hr2.get hy
                have ay := (((ay0.kp k5 (by simp) dy)))
                have zt := zip_take (f := fun p => itemD p.1 p.2) hc ey
                have hwy := wd_get ey
                have kn : Kp [] H' (upd H' T (.tup [.str (st [c]), y])) := .new hTn
                have no : ∀ H6, itemD c dy = false → Kp [] H H6 → Q (.bl false) H6 := fun H6 e6 k6 => by
                  refine kB false H6 ?_ k6
                  unfold zipD
                  have : ((p.2.cps.toList.zip r).all fun p => itemD p.1 p.2) = false := by
                    refine List.all_eq_false.mpr ⟨(c, dy), List.mem_of_getElem? (i := i) (List.getElem?_zip_eq_some.mpr ⟨hc, ey⟩), ?_⟩
                    show ¬ itemD c dy = true
                    rw [e6]
                    exact Bool.false_ne_true
                  rw [this, Bool.and_false]
                refine ⟨T, _, rfl, sqt_of upd_same, rfl, _, _, rfl, _, _, rfl, rfl, ?_⟩
                have kz : Kp [] H (upd H' T (.tup [.str (st [c]), y])) := k'.trans kn
                have eq1 := kn.tup _ _ e'
                have k5' : Kp [] H2 H5 := k5
                have aq : An ms (upd H' T (.tup [.str (st [c]), y])) y dy := by
                  obtain ⟨dy2, ey2, ay2⟩ := (hds.kp kz (by simp) _).get (i := i + 1) hy
                  rw [show r[i]? = some dy2 from ey2] at ey
                  cases ey
                  exact ay2
                generalize upd H' T (.tup [.str (st [c]), y]) = H6 at kz eq1 aq
                have yes : ∀ H7, itemD c dy = true → Kp [] H6 H7 → Kp [] H H7 ∧ H7 q1 = some (.tup vs) ∧ ((p.2.cps.toList.zip r).take (i + 1)).all (fun p => itemD p.1 p.2) = true := fun H7 e7 k7 => by
                  refine ⟨kz.trans k7, k7.tup _ _ eq1, ?_⟩
                  rw [zt, qa, e7]
                  rfl
                have wy : wd dy ≤ 1000000 := by omega
                clear zt qa kB kw kH ay0 ay hwy
                refine ⟨_, rfl, rfl, _, rfl, ite2 (fun q => ?_) (fun q1 => ?_)⟩
                · have ec : c = 116 := sgn c 116 (s_t ▸ of_decide_eq_true q)
                  refine ⟨_, rfl, y, dy, rfl, aq, wy, fun H7 k7 => ⟨_, rfl, ?_⟩⟩
                  have e7 : itemD c dy = isTagD dy := by unfold itemD; rw [if_pos ec]
                  cases e8 : isTagD dy with
                  | false => exact iteT (no H7 (e7.trans e8) (kz.trans k7))
                  | true =>
                    refine iteF ⟨_, rfl, c, _, rfl, rfl, _, rfl, ?_⟩
                    rw [dskf, ec]
                    refine iteF ⟨_, rfl, rfl, _, rfl, ite2 (fun q => ?_) (fun q1 => ?_)⟩
                    · have e9 : (116 : Nat) = 97 := sgn 116 97 (s_a ▸ of_decide_eq_true q)
                      omega
                    · exact ⟨⟨_, _, _, rfl⟩, yes H7 (e7.trans e8) k7⟩
                have n1 : ¬ c = 116 := fun e => q1 (decide_eq_true (by rw [e, s_t]))
                refine ⟨_, rfl, c, _, rfl, rfl, _, rfl, ite2 (fun q => ?_) (fun q2 => ?_)⟩
                · have hcc : c = 100 ∨ c = 115 ∨ c = 107 ∨ c = 102 := by
                    have := of_decide_eq_true q
                    rw [dskf] at this
                    simpa using this
                  have n2 : ¬ c = 97 := by omega
                  have e7 : itemD c dy = natD dy := by unfold itemD; rw [if_neg n1, if_neg n2]
                  refine ⟨_, rfl, y, dy, rfl, aq, _, rfl, ?_⟩
                  cases e8 : natD dy with
                  | false => exact iteT (no H6 (e7.trans e8) kz)
                  | true =>
                    refine iteF ⟨_, rfl, rfl, _, rfl, ite2 (fun q => ?_) (fun q1 => ?_)⟩
                    · have e9 : c = 97 := sgn c 97 (s_a ▸ of_decide_eq_true q)
                      omega
                    · exact ⟨⟨_, _, _, rfl⟩, yes H6 (e7.trans e8) .refl⟩
                have n2 : ¬ (c = 100 ∨ c = 115 ∨ c = 107 ∨ c = 102) := fun e => q2 (decide_eq_true (by rw [dskf]; simpa using e))
                have ec : c = 97 := by
                  rcases shp_in p hp c (List.mem_of_getElem? hc) with e | e | e | e | e | e <;> omega
                have e7 : itemD c dy = natsD dy := by unfold itemD; rw [if_neg n1, if_pos ec]
                refine ⟨_, rfl, rfl, _, rfl, ite2 (fun q => ?_) (fun q1 => absurd (decide_eq_true (by rw [ec, s_a])) q1)⟩
                obtain ⟨ty3, hty3, kty3⟩ := aq.tupK (K := K)
                refine ⟨_, rfl, _, .ty "tuple", ty3, .type "tuple", _, rfl, .ty "tuple", hty3, kty3, ?_⟩
                cases aq with
                | non => exact ⟨false, rfl, iteT (no H6 e7 kz)⟩
                | bl b => exact ⟨false, rfl, iteT (no H6 e7 kz)⟩
                | int i => exact ⟨false, rfl, iteT (no H6 e7 kz)⟩
                | str g => exact ⟨false, rfl, iteT (no H6 e7 kz)⟩
                | lst e => exact ⟨false, rfl, iteT (no H6 e7 kz)⟩
                | dct e => exact ⟨false, rfl, iteT (no H6 e7 kz)⟩
                | @tup t3 ys es e3 hes =>
                  refine ⟨true, rfl, iteF ?_⟩
                  have l3 := hes.length
                  have w3 : es.length ≤ 1000000 := by
                    have h1 := len_wd es
                    have h2 : wdAll es + 3 ≤ 1000000 := wy
                    omega
                  refine ⟨_, rfl, t3, rfl, ⟨_, sqt_of e3⟩, fun D nD => ?_⟩
                  refine lc_tup (K := K) (a := t3) (xs := ys) (fun j H' => ∃ us, H' D = some (.lst us) ∧ us.isEmpty = (es.take j).all natD ∧ us.length ≤ j ∧ Kp [] H6 H')
                    ⟨[], upd_same, rfl, Nat.le_refl _, .new nD⟩ (fun j H' _ h => by obtain ⟨us, _, _, _, k⟩ := h; exact sqt_of (k.tup _ _ e3)) ?_ ?_
                  · rintro j x H' hx ⟨us, hD, hus, hlu, k6⟩
                    obtain ⟨dx, ex, ax⟩ := hes.get hx
                    have hj : j < ys.length := by
                      have := List.getElem?_eq_some_iff.mp hx
                      exact this.1
                    have tf := take_all (f := natD) ex
                    refine ⟨rfl, _, rfl, x, dx, rfl, ax.kp k6 (by simp) dx, _, rfl, ?_⟩
                    cases e8 : natD dx with
                    | true =>
                      refine iteF ⟨us, hD, ?_, by omega, k6⟩
                      rw [tf, e8, Bool.and_true]
                      exact hus
                    | false =>
                      refine iteT ⟨_, rfl, us, hD, Nat.lt_of_le_of_lt (show us.length ≤ 1000000 by omega) (by decide), us ++ [x], upd_same, ?_, by rw [List.length_append]; exact Nat.succ_le_succ hlu, k6.own nD⟩
                      rw [tf, e8, Bool.and_false]
                      cases us <;> rfl
                  · rintro H7 ⟨us, hD, hus, hlu, k7⟩
                    rw [l3, List.take_length] at hus
                    refine ⟨Nat.zero_le _, fun p2 np2 => ⟨D, p2, us, rfl, rfl, by rw [upd_ne (ne_of_none hD np2)]; exact hD, upd_same, _, rfl, ?_⟩⟩
                    rw [hus]
                    have k8 := k7.trans (Kp.new (ms := []) (o := .lst []) np2)
                    cases e8 : es.all natD with
                    | false => exact iteT (no _ (e7.trans e8) (kz.trans k8))
                    | true => exact iteF ⟨⟨_, _, _, rfl⟩, yes _ (e7.trans e8) k8⟩
              · rintro σ H' ⟨_, k', _, qa⟩
                refine kB true H' ?_ k'
                unfold zipD
                rw [decide_eq_true hlen, Bool.true_and]
                rw [List.take_of_length_le (by rw [List.length_zip, ← hlen, ln]; omega)] at qa
                exact qa
            · rw [decide_eq_false (show ¬ V.int (((V.str p.1 :: vs).length : Nat) : Int) = V.int (1 + (p.2.length : Int)) from fun z => hlen (by
                have := V.int.inj z
                rw [List.length_cons, ln, ← ezl] at this
                omega))]
              refine iteT (kB false H2 ?_ k02)
              unfold zipD
              rw [decide_eq_false hlen]
              rfl
end
end Ey
set_option maxHeartbeats 4000000
namespace Ey
open PySem PySem.Spec L2
theorem shp_a : ∀ p ∈ rowsL, p.1 = kCall ∨ ∀ c ∈ p.2.cps.toList, ¬ c = 97 := by decide +kernel
def headD : List Nat → Bool
  | c :: r => r.all fun x => !decide (x = 100)
  | [] => false
theorem shp_d : ∀ p ∈ rowsL, headD p.2.cps.toList = true := by decide +kernel
theorem at_none {α : Type} : ∀ (z : List Nat) (r : List α), (z.all fun x => !decide (x = 100)) = true → at_ z 100 r = []
  | [], _, _ => rfl
  | c :: z, [], _ => rfl
  | c :: z, x :: r, h => by
    rw [List.all_cons, Bool.and_eq_true] at h
    rw [at_cons, if_neg (by simpa using h.1)]
    exact at_none z r h.2
def litV (w : Str) (z : List Nat) (xs ys : List V) (i : Nat) : List V := if w = kCall then (if i ≤ 2 then [] else ys) else at_ (z.take i) 115 (xs.take i)
structure RdI (H : Hp) (t D q1 : Addr) (w0 : Str) (z : List Nat) (xs ys : List V) (i : Nat) (σ : L2.St) (H' : Hp) : Prop where
  s : ∃ y u, σ = [some (.ref t), some (.ref D), y, u]
  k : Kp [] H H'
  e : H' q1 = some (.tup xs)
  d : H' D = some (.lst (litV w0 z xs ys i))
section
variable {Pr : Program} {w : World} {K : PySem.W.Frag} {mg : Str → Option Value} {base : Heap} {ms : List Addr} {A : Nat → Addr} {D : Nat → FuncData}
abbrev NRd : List Str := ["_law_row", "_law_found", "_law_kind", "_law_it"]
theorem scLRead : FnScope NRd ["_law_row"] (defScope sLRead) := ⟨rfl, rfl, rfl, by decide +kernel, rfl, by decide +kernel, by decide +kernel⟩
def spLRead (ms : List Addr) : Sp := fun vs H Q _ => ∃ (v : V) (d : PyData), vs = [v] ∧ An ms H v d ∧ rowD d = true ∧ wd d ≤ 1000000 ∧
  ∀ (q : Addr) (H' : Hp) (us : List V) (es : List PyData), readD d = .tuple es → H q = none → H' q = some (.lst us) → AnAll ms H' us es → Kp [] H H' → Q (.ref q) H'
theorem ok_lRead (L : LR K mg A D) : FnOk Pr w K mg base CX0 2 (A 29) (D 29) ["_law_row"] (spLRead ms) := by
  have B := L.B
  refine L.read.F.ok scLRead (fun vs H Q E h => ?_) (fun cdv Ar outer s H vs Q E hr h => ?_)
  · obtain ⟨v, d, rfl, _⟩ := h
    rfl
  · obtain ⟨v, d, rfl, hv, hd, hwd, k⟩ := h
    have hu := hu_of hr
    obtain ⟨t, w0, z, xs, r, rfl, rfl, e, hr0, hs, hz⟩ := row_parts hv hd
    have hlen : xs.length = z.cps.toList.length := by rw [hr0.length, zip_len hz]
    have lxs : xs.length ≤ 10 := by
      obtain ⟨p, hp, rfl, rfl⟩ := shp_some hs
      rw [hlen]
      exact shp_sz p hp
    refine ⟨_, pss_cons (ps_set (i := 1) scLRead.nd rfl (.inl rfl) (pe_lst pa_nil))
      (pss_cons (ps_for PassesOwn.never rfl (pi_zipS (by rfl) B.zip (pa_cons (pe_dget hu (pe_call0 (ok_shapes L) hr (by rfl) L.shapes.g L.shapes.F.kp L.shapes.b .nil pass0) (pe_ix ix_tup (pv 0) pe_int (fun _ _ => rfl)) (fun _ _ => rfl)) (pa_cons (pe_slice sl_cut (pv 0) (po_some pe_int) po_none) pa_nil))) (pg_tup (n := 2) rfl (pgs_cons (pg_name (i := 2) scLRead.nd rfl (Or.inl rfl)) (pgs_cons (pg_name (i := 3) scLRead.nd rfl (Or.inl rfl)) pgs_nil)))
        (pss_one (ps_expr (pe_bm PySem.F.plainAttrs_list PySem.F.slot_list_extend PySem.F.type_list_extend mt_extend (pv 1)
          (pa_cons (pe_ifExp (pt_cmpR op_eq (pv 2) pe_str (nomark _)) (pe_lst (pa_cons (pv 3) pa_nil)) (pe_ifExp (pt_cmpR op_eq (pv 2) pe_str (nomark _)) (pe_callTy call_list_of (by rfl) B.list (by decide +kernel) (pa_cons (pv 3) pa_nil)) (pe_lst pa_nil))) pa_nil)))))
      (pss_one (ps_ret (pv 1)))), ?_⟩
    refine ⟨Nat.zero_le _, fun D nD => ?_⟩
    have kD : Kp [] H (upd H D (.lst [])) := .new nD
    have hD0 : (upd H D (.lst [])) D = some (.lst []) := upd_same
    generalize upd H D (.lst []) = H1 at kD hD0
    have e1 := kD.tup _ _ e
    refine ⟨rfl, fun q H2 nq eq k2 => ?_⟩
    have e2 := k2.tup _ _ e1
    refine ⟨_, rfl, t, _, _, _, rfl, rfl, sqt_of e2, atI_nat (j := 0) rfl, q, .str z, rfl, by
      have := shapes_dg eq w0
      rw [hs] at this
      exact this, ?_⟩
    refine ⟨_, rfl, 1, rfl, t, _, rfl, e2, fun q1 H5 e5 k5 => ?_⟩
    have c1 : cutV (V.str w0 :: xs) (some 1) none = xs := by
      rw [show cutV (V.str w0 :: xs) (some 1) none = (V.str w0 :: xs).drop 1 from cut_drop _ 1]
      rfl
    rw [c1] at e5
    have hD5 : H5 D = some (.lst []) := k5.at_ _ _ (k2.at_ _ _ hD0 List.not_mem_nil) List.not_mem_nil
    have k05 : Kp [] H H5 := kD.trans (k2.trans k5)
    refine ⟨_, q1, xs, rfl, sqt_of e5, ?_⟩
    obtain ⟨t2, ys, ds, hc2, lys⟩ : ∃ (t2 : Addr) (ys : List V) (ds : List PyData), (w0 = kCall → z = "dfa" ∧ xs[2]? = some (.ref t2) ∧ H t2 = some (.tup ys) ∧ AnAll ms H ys ds ∧ r.getD 2 .none = .tuple ds) ∧ ys.length ≤ 1000000 := by
      by_cases ew : w0 = kCall
      · subst ew
        rw [shp_call] at hs
        cases hs
        have h3 : xs.length = 3 := by rw [hlen, dfa]; rfl
        have e2 : xs[2]? = some xs[2] := List.getElem?_eq_getElem (by omega)
        obtain ⟨d2, ed, a2⟩ := hr0.get e2
        have hi := zip_item hz (i := 2) (c := 97) (by rw [dfa]; rfl) ed
        have hw2 := wd_get ed
        have hi2 : natsD d2 = true := hi
        generalize xs[2] = x2 at e2 a2
        cases a2 with
        | non => cases hi2
        | bl _ => cases hi2
        | int _ => cases hi2
        | str _ => cases hi2
        | lst _ _ _ => cases hi2
        | dct _ _ _ => cases hi2
        | @tup t2 ys ds e3 hds =>
          refine ⟨t2, ys, ds, fun _ => ⟨rfl, e2, e3, hds, by rw [List.getD_eq_getElem?_getD, ed]; rfl⟩, ?_⟩
          rw [hds.length]
          have h1 := len_wd ds
          have h2 : wd (.tuple ds) = wdAll ds + 3 := rfl
          have h3 : wd (.str kCall) + 2 + wdAll r + 3 ≤ 1000000 := hwd
          omega
      · exact ⟨0, [], [], fun e => absurd e ew, Nat.zero_le _⟩
    refine for_it (walk_zipS (K := K) (z := z) (b := q1) hlen.symm) (RdI H t D q1 w0 z.cps.toList xs ys)
      ⟨⟨none, none, rfl⟩, k05, e5, by
        have e0 : litV w0 z.cps.toList xs ys 0 = [] := by
          unfold litV
          split
          · rfl
          · rw [List.take_zero, List.take_zero]
            rfl
        rw [e0]
        exact hD5⟩ (fun i σ H' _ h => sqt_of h.e) ?_ ?_
    · rintro i x σ H' H'' hi ⟨⟨y0, z0, rfl⟩, k', e', hD'⟩ ⟨T, c, y, rfl, hTn, rfl, hc, hy⟩
      have kn : Kp [] H' (upd H' T (.tup [.str (st [c]), y])) := .new hTn
      have hD6 := kn.at_ _ _ hD' List.not_mem_nil
      have e6 := kn.tup _ _ e'
      have k06 := k'.trans kn
      have eT : (upd H' T (.tup [.str (st [c]), y])) T = some (.tup [.str (st [c]), y]) := upd_same
      generalize upd H' T (.tup [.str (st [c]), y]) = H6 at kn hD6 e6 k06 eT
      have neD : q1 ≠ D := ne_of e6 hD6 (by intro z; cases z)
      refine ⟨T, _, rfl, sqt_of eT, rfl, _, _, rfl, _, _, rfl, rfl, ?_⟩
      have llit : (litV w0 z.cps.toList xs ys i).length ≤ 1000010 := by
        unfold litV
        split
        · split
          · exact Nat.zero_le _
          · omega
        · refine Nat.le_trans (at_len _ _ _) ?_
          rw [List.length_take]
          omega
      -- an end: the list us is put behind
      have fin : ∀ (q3 : Addr) (H7 : Hp) (us : List V), H7 q3 = some (.lst us) → Kp [] H6 H7 → us.length ≤ 1000000 → litV w0 z.cps.toList xs ys (i + 1) = litV w0 z.cps.toList xs ys i ++ us →
          (litV w0 z.cps.toList xs ys i).length + us.length ≤ sizeLine ∧ RdI H t D q1 w0 z.cps.toList xs ys (i + 1) [some (.ref t), some (.ref D), some (.str (st [c])), some y] (upd H7 D (.lst (litV w0 z.cps.toList xs ys i ++ us))) := fun q3 H7 us e7 k7 l7 hl => by
        refine ⟨Nat.le_trans (show _ ≤ 2000010 by omega) (by decide), ⟨_, _, rfl⟩, (k06.trans k7).own nD, ?_, ?_⟩
        · rw [upd_ne neD]
          exact k7.tup _ _ e6
        · rw [upd_same, hl]
      refine ⟨_, rfl, .inl ⟨rfl, _, sql_of hD6⟩, _, rfl, rfl, _, rfl, ite2 (fun q => ?_) (fun qn => ?_)⟩
      · have ec : c = 115 := sgn c 115 (s_s ▸ of_decide_eq_true q)
        refine ⟨_, rfl, by show 1 ≤ sizeLine; decide, fun p3 n3 => ?_⟩
        have k3 : Kp [] H6 (upd H6 p3 (.lst [y])) := .new n3
        have ew : ¬ w0 = kCall := fun ew => by
          obtain ⟨rfl, _⟩ := hc2 ew
          rw [dfa, ec] at hc
          have hi3 : i < 3 := by
            have := (List.getElem?_eq_some_iff.mp hc).1
            exact this
          rcases (show i = 0 ∨ i = 1 ∨ i = 2 by omega) with rfl | rfl | rfl <;> cases hc
        obtain ⟨f1, f2⟩ := fin p3 _ [y] upd_same k3 (by show 1 ≤ 1000000; decide) (by
          unfold litV
          rw [if_neg ew, if_neg ew, at_take (c := 115) hc hy, if_pos ec])
        exact ⟨D, p3, _, _, rfl, rfl, k3.at_ _ _ hD6 List.not_mem_nil, upd_same, f1, f2⟩
      have n1 : ¬ c = 115 := fun e => qn (decide_eq_true (by rw [e, s_s]))
      refine ⟨_, rfl, rfl, _, rfl, ite2 (fun q => ?_) (fun qn2 => ?_)⟩
      · have ec : c = 97 := sgn c 97 (s_a ▸ of_decide_eq_true q)
        have ew : w0 = kCall := by
          obtain ⟨p, hp, rfl, rfl⟩ := shp_some hs
          rcases shp_a p hp with h | h
          · exact h
          · exact absurd ec (h c (List.mem_of_getElem? hc))
        obtain ⟨rfl, ex2, et2, hds, _⟩ := hc2 ew
        rw [dfa, ec] at hc
        have hi3 : i < 3 := by
          have := (List.getElem?_eq_some_iff.mp hc).1
          exact this
        have i2 : i = 2 := by
          rcases (show i = 0 ∨ i = 1 ∨ i = 2 by omega) with rfl | rfl | rfl
          · cases hc
          · cases hc
          · rfl
        subst i2
        rw [ex2] at hy
        cases hy
        refine ⟨_, rfl, t2, ys, rfl, .inr (sqt_of (k06.tup _ _ et2)), fun p3 n3 => ?_⟩
        have k3 : Kp [] H6 (upd H6 p3 (.lst ys)) := .new n3
        obtain ⟨f1, f2⟩ := fin p3 _ ys upd_same k3 lys (by
          unfold litV
          rw [if_pos ew, if_pos ew]
          rfl)
        exact ⟨D, p3, _, _, rfl, rfl, k3.at_ _ _ hD6 List.not_mem_nil, upd_same, f1, f2⟩
      · have n2 : ¬ c = 97 := fun e => qn2 (decide_eq_true (by rw [e, s_a]))
        refine ⟨Nat.zero_le _, fun p3 n3 => ?_⟩
        have k3 : Kp [] H6 (upd H6 p3 (.lst [])) := .new n3
        obtain ⟨f1, f2⟩ := fin p3 _ [] upd_same k3 (by decide) (by
          rw [List.append_nil]
          unfold litV
          by_cases ew : w0 = kCall
          · rw [if_pos ew, if_pos ew]
            obtain ⟨rfl, _⟩ := hc2 ew
            rw [dfa] at hc
            have hi3 : i < 3 := by
              have := (List.getElem?_eq_some_iff.mp hc).1
              exact this
            rcases (show i = 0 ∨ i = 1 ∨ i = 2 by omega) with rfl | rfl | rfl
            · rfl
            · rfl
            · cases hc
              exact absurd rfl n2
          · rw [if_neg ew, if_neg ew, at_take (c := 115) hc hy, if_neg n1, List.append_nil])
        exact ⟨D, p3, _, _, rfl, rfl, k3.at_ _ _ hD6 List.not_mem_nil, upd_same, f1, f2⟩
    · rintro σ H' ⟨⟨y0, z0, rfl⟩, k', e', hD'⟩
      by_cases ew : w0 = kCall
      · obtain ⟨rfl, ex2, et2, hds, hg⟩ := hc2 ew
        have h3 : xs.length = 3 := by rw [hlen, dfa]; rfl
        have el : litV w0 (Str.ofString "dfa").cps.toList xs ys xs.length = ys := by
          unfold litV
          rw [if_pos ew, h3]
          rfl
        rw [el] at hD'
        refine ⟨_, rfl, k D H' ys ds ?_ nD hD' (hds.kp k' (by simp) ds) k'⟩
        show readR w0 r = _
        unfold readR
        rw [if_pos ew, hg]
      · have el : litV w0 z.cps.toList xs ys xs.length = at_ z.cps.toList 115 xs := by
          unfold litV
          rw [if_neg ew, List.take_length, hlen, List.take_length]
        rw [el] at hD'
        refine ⟨_, rfl, k D H' _ (at_ z.cps.toList 115 r) ?_ nD hD' ((hr0.kp k' (by simp) r).at_ 115 z.cps.toList) k'⟩
        show readR w0 r = _
        unfold readR
        rw [if_neg ew, hs]
/-! ### what a row sets -/
theorem scLSet : FnScope ["_law_row"] ["_law_row"] (defScope sLSet) := ⟨rfl, rfl, rfl, by decide +kernel, rfl, by decide +kernel, by decide +kernel⟩
theorem ok_lSet (L : LR K mg A D) : FnOk Pr w K mg base CX0 2 (A 30) (D 30) ["_law_row"] (spRow ms setD) := by
  have B := L.B
  refine L.set.F.ok scLSet (fun vs H Q E h => ?_) (fun cdv Ar outer s H vs Q E hr h => ?_)
  · obtain ⟨v, d, rfl, _⟩ := h
    rfl
  · obtain ⟨v, d, rfl, hv, hd, k⟩ := h
    have hu := hu_of hr
    obtain ⟨t, w0, z, xs, r, rfl, rfl, e, hr0, hs, hz⟩ := row_parts hv hd
    refine ⟨_, pss_one (ps_ret (pe_ifExp (pt_cmpR op_eq (pe_ix ix_str (pe_dget hu (pe_call0 (ok_shapes L) hr (by rfl) L.shapes.g L.shapes.F.kp L.shapes.b .nil pass0) (pe_ix ix_tup (pv 0) pe_int (fun _ _ => rfl)) (fun _ _ => rfl)) pe_int (fun _ _ => rfl)) pe_str (nomark _)) (pe_ix ix_tup (pv 0) pe_int (fun _ _ => rfl)) pe_non)), ?_⟩
    refine ⟨rfl, fun q H2 nq eq k2 => ?_⟩
    have e2 := k2.tup _ _ e
    have hr2 := hr0.kp k2 (by simp) r
    obtain ⟨c, zs, ez, hzs⟩ : ∃ c zs, z.cps.toList = c :: zs ∧ (zs.all fun x => !decide (x = 100)) = true := by
      obtain ⟨p, hp, rfl, rfl⟩ := shp_some hs
      have := shp_d p hp
      generalize p.2.cps.toList = l at this
      cases l with
      | nil => cases this
      | cons c zs => exact ⟨c, zs, rfl, this⟩
    have lz : z.length ≤ 10 := by
      obtain ⟨p, hp, rfl, rfl⟩ := shp_some hs
      exact shp_len p hp
    have es : setD (.tuple (.str w0 :: r)) = head0 (at_ (c :: zs) 100 r) := by
      show setR w0 r = _
      unfold setR
      rw [hs]
      show head0 (at_ z.cps.toList 100 r) = _
      rw [ez]
    rw [es] at k
    have hl := zip_len hz
    rw [ez] at hl
    refine ⟨_, rfl, t, _, _, _, rfl, rfl, sqt_of e2, atI_nat (j := 0) rfl, q, .str z, rfl, by
      have := shapes_dg eq w0
      rw [hs] at this
      exact this, ?_⟩
    refine ⟨z, _, c, rfl, rfl, Nat.le_trans lz (by decide), by rw [ez]; exact atI_nat (j := 0) rfl, rfl, _, rfl, ite2 (fun q => ?_) (fun q1 => ?_)⟩
    · have ec : c = 100 := sgn c 100 (s_d ▸ of_decide_eq_true q)
      cases hr2 with
      | nil => cases hl
      | @cons x1 vs d1 r1 h1 hr1 =>
        refine ⟨_, rfl, t, _, _, _, rfl, rfl, sqt_of e2, atI_nat (j := 1) rfl, k _ H2 ?_ k2⟩
        rw [at_cons, if_pos ec]
        exact h1
    · have ec : ¬ c = 100 := fun e => q1 (decide_eq_true (by rw [e, s_d]; rfl))
      cases hr2 with
      | nil => cases hl
      | @cons x1 vs d1 r1 h1 hr1 =>
        refine k _ H2 ?_ k2
        rw [at_cons, if_neg ec, at_none zs r1 hzs]
        exact .non
end
end Ey
set_option maxHeartbeats 4000000
namespace Ey
open PySem PySem.Spec L2
abbrev sAny : Stmt := topS 31
/-- what the drawing leans on -/
structure LH (K : PySem.W.Frag) (mg : Str → Option Value) (A : Nat → Addr) (D : Nat → FuncData) : Prop extends LR K mg A D where
  draw : Df K mg "_law_draw" sDraw ["_law_deck_here", "_law_many"] (A 22) (D 22)
  pick : Df K mg "_law_pick" sPick ["_law_deck_here", "_law_some"] (A 23) (D 23)
  any : Df K mg "_law_any" sAny ["_law_deck_here", "_law_deep"] (A 31) (D 31)
mutual
def fitJ (B : Nat) : PyData → Bool
  | .none | .bool _ => true
  | .int i => decide (i.natAbs < B)
  | .str x => x.cps.toList.all fun c => decide (c < 128)
  | .list ds | .tuple ds => fitJAll B ds
  | .dict kvs => fitJKv B kvs
def fitJAll (B : Nat) : List PyData → Bool
  | [] => true
  | x :: r => fitJ B x && fitJAll B r
def fitJKv (B : Nat) : List (PyData × PyData) → Bool
  | [] => true
  | (k, v) :: r => (fitJ B k && fitJ B v) && fitJKv B r
end
mutual
theorem fitJ_le {B C : Nat} (h : B ≤ C) : ∀ d : PyData, fitJ B d = true → fitJ C d = true
  | .none, _ => rfl
  | .bool _, _ => rfl
  | .int i, e => by
    have q : i.natAbs < B := of_decide_eq_true e
    exact decide_eq_true (Nat.lt_of_lt_of_le q h)
  | .str x, e => e
  | .list ds, e => fitJAll_le h ds e
  | .tuple ds, e => fitJAll_le h ds e
  | .dict ds, e => fitJKv_le h ds e
theorem fitJAll_le {B C : Nat} (h : B ≤ C) : ∀ d : List PyData, fitJAll B d = true → fitJAll C d = true
  | [], _ => rfl
  | x :: r, e => by
    have q : (fitJ B x && fitJAll B r) = true := e
    rw [Bool.and_eq_true] at q
    show (fitJ C x && fitJAll C r) = true
    rw [fitJ_le h x q.1, fitJAll_le h r q.2]
    rfl
theorem fitJKv_le {B C : Nat} (h : B ≤ C) : ∀ d : List (PyData × PyData), fitJKv B d = true → fitJKv C d = true
  | [], _ => rfl
  | (k, v) :: r, e => by
    have q : ((fitJ B k && fitJ B v) && fitJKv B r) = true := e
    rw [Bool.and_eq_true, Bool.and_eq_true] at q
    show ((fitJ C k && fitJ C v) && fitJKv C r) = true
    rw [fitJ_le h k q.1.1, fitJ_le h v q.1.2, fitJKv_le h r q.2]
    rfl
end
mutual
theorem fitJ_is : ∀ d : PyData, fitJ (10 ^ 40) d = true → fit d = true
  | .none, _ => rfl
  | .bool _, _ => rfl
  | .int i, h => h
  | .str x, h => by
    have q : (x.cps.toList.all fun c => decide (c < 128)) = true := h
    rw [List.all_eq_true] at q
    show (x.cps.toList.all fun c => decide (c < 1000)) = true
    rw [List.all_eq_true]
    intro c hc
    have := of_decide_eq_true (q c hc)
    exact decide_eq_true (by omega)
  | .list ds, h => fitJAll_is ds h
  | .tuple ds, h => fitJAll_is ds h
  | .dict ds, h => fitJKv_is ds h
theorem fitJAll_is : ∀ d : List PyData, fitJAll (10 ^ 40) d = true → fitAll d = true
  | [], _ => rfl
  | x :: r, h => by
    have q : (fitJ (10 ^ 40) x && fitJAll (10 ^ 40) r) = true := h
    rw [Bool.and_eq_true] at q
    show (fit x && fitAll r) = true
    rw [fitJ_is x q.1, fitJAll_is r q.2]
    rfl
theorem fitJKv_is : ∀ d : List (PyData × PyData), fitJKv (10 ^ 40) d = true → fitKv d = true
  | [], _ => rfl
  | (k, v) :: r, h => by
    have q : ((fitJ (10 ^ 40) k && fitJ (10 ^ 40) v) && fitJKv (10 ^ 40) r) = true := h
    rw [Bool.and_eq_true, Bool.and_eq_true] at q
    show ((fit k && fit v) && fitKv r) = true
    rw [fitJ_is k q.1.1, fitJ_is v q.1.2, fitJKv_is r q.2]
    rfl
end
theorem fitJ_mem {B : Nat} {x : PyData} : ∀ {ds : List PyData}, fitJAll B ds = true → x ∈ ds → fitJ B x = true
  | y :: r, h, hx => by
    have h2 : (fitJ B y && fitJAll B r) = true := h
    rw [Bool.and_eq_true] at h2
    rcases List.mem_cons.mp hx with rfl | hx
    · exact h2.1
    · exact fitJ_mem h2.2 hx
theorem fitJ_all {B : Nat} : ∀ {ds : List PyData}, (∀ x ∈ ds, fitJ B x = true) → fitJAll B ds = true
  | [], _ => rfl
  | y :: r, h => by
    show (fitJ B y && fitJAll B r) = true
    rw [h y (by simp), fitJ_all fun x hx => h x (List.mem_cons_of_mem _ hx)]
    rfl
structure GoodJ (B n w : Nat) (x : PyData) : Prop where
  f : fitJ B x = true
  d : x.depth ≤ n
  w : wd x ≤ w
theorem GoodJ.mono {B C n w n' w' : Nat} {x : PyData} (g : GoodJ B n w x) (h0 : B ≤ C) (h1 : n ≤ n') (h2 : w ≤ w') : GoodJ C n' w' x := ⟨fitJ_le h0 x g.f, Nat.le_trans g.d h1, Nat.le_trans g.w h2⟩
theorem GoodJ.good {B n w : Nat} {x : PyData} (g : GoodJ B n w x) (h0 : B ≤ 10 ^ 40) : Good n w x := ⟨fitJ_is x (fitJ_le h0 x g.f), g.d, g.w⟩
inductive GoodJAll (B n w : Nat) : List PyData → Prop
  | nil : GoodJAll B n w []
  | cons {x : PyData} {r : List PyData} : GoodJ B n w x → GoodJAll B n w r → GoodJAll B n w (x :: r)
theorem GoodJAll.facts {B n w : Nat} {ds : List PyData} (h : GoodJAll B n w ds) : fitJAll B ds = true ∧ PyData.depthAll ds ≤ n ∧ wdAll ds ≤ (w + 2) * ds.length := by
  induction h with
  | nil => exact ⟨rfl, Nat.zero_le _, Nat.zero_le _⟩
  | @cons x r g _ ih =>
    obtain ⟨a, b, c⟩ := ih
    refine ⟨?_, ?_, ?_⟩
    · show (fitJ B x && fitJAll B r) = true
      rw [g.f, a]
      rfl
    · show max x.depth (PyData.depthAll r) ≤ n
      have := g.d
      omega
    · show wd x + 2 + wdAll r ≤ (w + 2) * (r.length + 1)
      have := g.w
      rw [Nat.mul_add]
      omega
theorem GoodJAll.snoc {B n w : Nat} {ds : List PyData} {x : PyData} (h : GoodJAll B n w ds) (g : GoodJ B n w x) : GoodJAll B n w (ds ++ [x]) := by
  induction h with
  | nil => exact .cons g .nil
  | cons a _ ih => exact .cons a ih
def wJ : Nat → Nat
  | 0 => 140
  | n + 1 => 3 * wJ n + 150
theorem wJ_ge : ∀ n, 140 ≤ wJ n
  | 0 => Nat.le_refl _
  | n + 1 => by
    have := wJ_ge n
    show 140 ≤ 3 * wJ n + 150
    omega
/-- the deck, and what else is not data -/
structure Frame (ms : List Addr) (d l : Addr) (H : Hp) : Prop where
  dk : DeckAt H d l
  dm : d ∈ ms
  lm : l ∈ ms
  has : Has ms H
theorem Frame.sub {ms : List Addr} {d l : Addr} {H : Hp} (F : Frame ms d l H) : ∀ x ∈ [d, l], x ∈ ms := fun x hx => by
  rcases List.mem_cons.mp hx with rfl | hx
  · exact F.dm
  · rw [List.mem_singleton.mp hx]
    exact F.lm
theorem DeckAt.some_ {d l : Addr} {H : Hp} (D : DeckAt H d l) : ∀ b ∈ [d, l], H b ≠ none := fun b hb => by
  obtain ⟨m, n, ns, h1, h2, _⟩ := D.ex
  rcases List.mem_cons.mp hb with rfl | hb
  · rw [h1]
    exact fun z => nomatch z
  · rw [List.mem_singleton.mp hb, h2]
    exact fun z => nomatch z
theorem Frame.go {ms : List Addr} {d l : Addr} {H H1 : Hp} (F : Frame ms d l H) (k : Kp [d, l] H H1) (D : DeckAt H1 d l) : Frame ms d l H1 := ⟨D, F.dm, F.lm, F.has.kp k D.some_⟩
theorem Frame.kp0 {ms : List Addr} {d l : Addr} {H H1 : Hp} (F : Frame ms d l H) (k : Kp [] H H1) : Frame ms d l H1 := ⟨F.dk.kp k List.not_mem_nil List.not_mem_nil, F.dm, F.lm, F.has.kp k fun b hb => absurd hb List.not_mem_nil⟩
theorem Frame.new {ms : List Addr} {d l p : Addr} {H : Hp} {o : HO} (F : Frame ms d l H) (n : H p = none) : Frame ms d l (upd H p o) := F.kp0 (.new n)
theorem Frame.ne {ms : List Addr} {d l p : Addr} {H : Hp} (F : Frame ms d l H) (n : H p = none) : p ≠ d ∧ p ≠ l :=
  ⟨fun e => F.has d F.dm (e ▸ n), fun e => F.has l F.lm (e ▸ n)⟩
def kKey : Key := .inr "a"
theorem merge_one (x : V) : mergeK [] [(kKey, x)] = [(kKey, x)] := show putK [] kKey x = _ from putK_new _ rfl
def bAny : Nat := 10 ^ 39 + 1
def spAny (n : Nat) : Sp := fun vs H Q _ => ∃ (d l : Addr) (ms : List Addr) (deep : Nat), vs = [.ref d, .int deep] ∧ deep < n ∧ Frame ms d l H ∧
  ∀ (v : V) (x : PyData) (H' : Hp), An ms H' v x → GoodJ (bAny) (2 * deep + 2) (wJ deep) x → Frame ms d l H' → Kp [d, l] H H' → Q v H'
section
variable {Pr : Program} {w : World} {K : PySem.W.Frag} {mg : Str → Option Value} {base : Heap} {A : Nat → Addr} {D : Nat → FuncData}
def NA : List Str := ["_law_deck_here", "_law_deep", "_law_way", "_law_some", "_law_turn"]
theorem scAny : FnScope NA ["_law_deck_here", "_law_deep"] (defScope sAny) := ⟨rfl, rfl, rfl, by decide +kernel, rfl, by decide +kernel, by decide +kernel⟩
theorem ok_any (Fa : LH K mg A D) (D0 : Df K mg "_law_any" sAny ["_law_deck_here", "_law_deep"] (A 31) (D 31)) : ∀ n : Nat, FnOk Pr w K mg base CX0 (n + 2) (A 31) (D 31) ["_law_deck_here", "_law_deep"] (spAny n)
  | 0 => by
    refine D0.F.ok scAny (fun vs H Q E h => ?_) (fun cdv Ar outer s H vs Q E hr h => ?_)
    · obtain ⟨d, l, ms, deep, rfl, _⟩ := h
      rfl
    · obtain ⟨d, l, ms, deep, rfl, hd, _⟩ := h
      exact absurd hd (Nat.not_lt_zero _)
  | n + 1 => by
    have ih := ok_any Fa D0 n
    refine D0.F.ok scAny (fun vs H Q E h => ?_) (fun cdv Ar outer s H vs Q E hr h => ?_)
    · obtain ⟨d, l, ms, deep, rfl, _⟩ := h
      rfl
    · obtain ⟨d, l, ms, deep, rfl, hdn, Fr, k⟩ := h
      have hr2 := hr.mono (show 2 ≤ n + 2 by omega)
      have hr1 := hr.mono (show 1 ≤ n + 2 by omega)
      have w0 := wJ_ge deep
      obtain ⟨tt, dt, rt⟩ : ∃ tt, PSs (cxOf CX0 Pr w K mg base NA "_law_any" (defScope sAny) (A 31) cdv Ar outer s H E).nox ((defBody sAny).drop 3) tt ∧
          ∀ (H3 : Hp) (D : Addr) (xs : List V) (ds : List PyData) (y : Option V) (r : Int), H3 D = some (.lst xs) → AnAll ms H3 xs ds → D ∉ ms → fitJAll (bAny) ds = true → PyData.depthAll ds ≤ 2 * deep → wdAll ds + 136 ≤ wJ deep → ds.length ≤ 3 → Frame ms d l H3 → Kp [d, l] H H3 →
          tt { nx := fun _ H' => Q .non H', rt := Q } [some (.ref d), some (.int deep), some (.int r), some (.ref D), y] H3 := by
        refine ⟨_, pss_one (ps_ret (pe_ifExp (pt_cmpR op_eq (pv 2) pe_int (nomark _)) (pv 3) (pe_ifExp (pt_cmpR op_eq (pv 2) pe_int (nomark _)) (pe_disp (pps_cons pe_str (pv 3) pps_nil) (by rfl) (by rfl) (fun z => by cases z) (by decide))
            (pe_callTy call_tuple_of (by rfl) Fa.B.tuple (by decide +kernel) (pa_cons (pv 3) pa_nil))))), ?_⟩
        intro H3 D xs ds y r hD hA nD hf hdp hw hln F3 k3
        have lx := hA.length
        refine ⟨_, rfl, rfl, _, rfl, ite2 (fun _ => ?_) (fun _ => ?_)⟩
        · refine ⟨_, rfl, ?_⟩
          exact k _ (.list ds) H3 (.lst hD nD hA) ⟨hf, by show PyData.depthAll ds + 1 ≤ 2 * deep + 2; omega, by show wdAll ds + 3 ≤ wJ deep; omega⟩ F3 k3
        refine ⟨_, rfl, rfl, _, rfl, ite2 (fun _ => ?_) (fun _ => ?_)⟩
        · intro q nq
          have hDq : D ≠ q := ne_of_none hD nq
          refine ⟨_, rfl, upd_same, [(kKey, .ref D)], rfl, by show 1 ≤ 15; decide, ?_⟩
          rw [merge_one, upd_upd]
          have kq : Kp [] H3 (upd H3 q (.dK [(kKey, .ref D)])) := .new nq
          refine k _ (.dict [(kD kKey, .list ds)]) _ (.dct upd_same (F3.has.fresh nq) (.cons (.lst (by rw [upd_ne hDq]; exact hD) nD (hA.kp kq (by simp) ds)) .nil)) ⟨?_, ?_, ?_⟩ (F3.new nq) (k3.trans (.new nq))
          · have q1 : fitJ bAny (kD kKey) = true := by decide +kernel
            show ((fitJ bAny (kD kKey) && fitJAll bAny ds) && true) = true
            rw [q1, hf]
            rfl
          · show max (max 0 (PyData.depthAll ds + 1)) 0 + 1 ≤ 2 * deep + 2
            omega
          · have q1 : wd (kD kKey) = 12 := by decide +kernel
            show wd (kD kKey) + (wdAll ds + 3) + 4 + 0 + 3 ≤ wJ deep
            omega
        · refine ⟨_, rfl, D, _, rfl, .inl ⟨sql_of hD, fun q nq => ?_⟩⟩
          have kq : Kp [] H3 (upd H3 q (.tup xs)) := .new nq
          exact k _ (.tuple ds) _ (.tup upd_same (hA.kp kq (by simp) ds)) ⟨hf, by show PyData.depthAll ds + 1 ≤ 2 * deep + 2; omega, by show wdAll ds + 3 ≤ wJ deep; omega⟩ (F3.new nq) (k3.trans (.new nq))
      refine ⟨_, pss_cons (ps_set (i := 2) scAny.nd rfl (.inl rfl) (pe_call (ok_draw Fa.draw.F Fa.B) hr1 (by rfl) Fa.draw.g Fa.draw.F.kp Fa.draw.b .nil pass0 (pa_cons (pv 0) (pa_cons pe_int pa_nil))))
        (pss_cons (ps_if (pt_cmpR op_lt (pv 2) pe_int (nomark _)) (pss_one (ps_ret (pe_call (ok_pick Fa.pick.F Fa.B Fa.draw) hr2 (by rfl) Fa.pick.g Fa.pick.F.kp Fa.pick.b .nil pass0 (pa_cons (pv 0) (pa_cons (pe_lst (pa_cons pe_non (pa_cons pe_bl (pa_cons pe_bl (pa_cons pe_int (pa_cons pe_int (pa_cons (pe_un un_neg pe_int) (pa_cons (pe_op op_pow pe_int pe_int) (pa_cons pe_str (pa_cons pe_str (pa_cons pe_str (pa_cons pe_str (pa_cons (pe_tup pa_nil) (pa_cons (pe_tup (pa_cons pe_int pa_nil)) (pa_cons (pe_tup (pa_cons pe_str (pa_cons pe_int pa_nil))) (pa_cons (pe_tup (pa_cons pe_str (pa_cons pe_int pa_nil))) (pa_cons (pe_tup (pa_cons pe_int (pa_cons (pe_tup (pa_cons pe_str pa_nil)) pa_nil))) pa_nil))))))))))))))))) pa_nil))))) pss_nil)
        (pss_cons (ps_set (i := 3) scAny.nd rfl (.inl rfl) (pe_ifExp (pt_cmpR op_gt (pv 1) pe_int (nomark _))
          (pe_lc (own := [("_law_turn", 4)]) (g := gName 4) (tt := tYes) rfl scAny.nd (pi_range1 (by rfl) Fa.B.range (pa_cons (pe_call (ok_draw Fa.draw.F Fa.B) hr1 (by rfl) Fa.draw.g Fa.draw.F.kp Fa.draw.b .nil pass0 (pa_cons (pv 0) (pa_cons pe_int pa_nil))) pa_nil))
            (blkOk_by (N := NA) (sc := defScope sAny) (by decide +kernel)) (fun _ _ _ _ _ => pg_name (i := 4) scAny.nd rfl (Or.inl rfl)) (fun _ _ _ _ _ => pts_nil)
            (fun _ _ _ _ _ => pe_call ih hr (by rfl) D0.g D0.F.kp D0.b .nil pass0 (pa_cons (pv 0) (pa_cons (pe_op op_sub (pv 1) pe_int) pa_nil))))
          (pe_lst pa_nil)))
        dt)), ?_⟩
      have leaf : ∀ (v : V) (x : PyData) (H1 : Hp), An ms H1 v x → fitJ bAny x = true → x.depth ≤ 2 → wd x ≤ 130 → DeckAt H1 d l → Kp [d, l] H H1 → Q v H1 := fun v x H1 a b c e D1 k1 =>
        k v x H1 a ⟨b, by omega, by omega⟩ (Fr.go k1 D1) k1
      refine ⟨_, rfl, d, l, 8, rfl, Fr.dk, by decide, by decide, fun r H1 r0 r1 D1 k1 => ?_⟩
      have F1 := Fr.go k1 D1
      refine ⟨_, rfl, _, _, rfl, rfl, _, rfl, ite2 (fun _ => ?_) (fun _ => ?_)⟩
      · refine ⟨_, rfl, 1, rfl, _, _, rfl, rfl, (⟨by decide, by decide, by decide⟩ : (0 : Int) ≤ 39 ∧ (39 : Int) ≤ 1000000 ∧ (10 : Int).natAbs < 2 ^ 64), ?_⟩
        refine ⟨by show 0 ≤ sizeLine; decide, fun t1 n1 => ?_⟩
        have c1 : Kp [] H1 (upd H1 t1 (.tup [])) := .new n1
        have e1 : (upd H1 t1 (.tup [])) t1 = some (.tup []) := upd_same
        generalize upd H1 t1 (.tup []) = G1 at c1 e1 ⊢
        refine ⟨by show 1 ≤ sizeLine; decide, fun t2 n2 => ?_⟩
        have c2 : Kp [] G1 (upd G1 t2 (.tup [.int 0])) := .new n2
        have e2 : (upd G1 t2 (.tup [.int 0])) t2 = some (.tup [.int 0]) := upd_same
        generalize upd G1 t2 (.tup [.int 0]) = G2 at c2 e2 ⊢
        refine ⟨by show 2 ≤ sizeLine; decide, fun t3 n3 => ?_⟩
        have c3 : Kp [] G2 (upd G2 t3 (.tup [.str "top", .int 0])) := .new n3
        have e3 : (upd G2 t3 (.tup [.str "top", .int 0])) t3 = some (.tup [.str "top", .int 0]) := upd_same
        generalize upd G2 t3 (.tup [.str "top", .int 0]) = G3 at c3 e3 ⊢
        refine ⟨by show 2 ≤ sizeLine; decide, fun t4 n4 => ?_⟩
        have c4 : Kp [] G3 (upd G3 t4 (.tup [.str "give", .int 0])) := .new n4
        have e4 : (upd G3 t4 (.tup [.str "give", .int 0])) t4 = some (.tup [.str "give", .int 0]) := upd_same
        generalize upd G3 t4 (.tup [.str "give", .int 0]) = G4 at c4 e4 ⊢
        refine ⟨by show 1 ≤ sizeLine; decide, fun t5 n5 => ?_⟩
        have c5 : Kp [] G4 (upd G4 t5 (.tup [.str ""])) := .new n5
        have e5 : (upd G4 t5 (.tup [.str ""])) t5 = some (.tup [.str ""]) := upd_same
        generalize upd G4 t5 (.tup [.str ""]) = G5 at c5 e5 ⊢
        refine ⟨by show 2 ≤ sizeLine; decide, fun t6 n6 => ?_⟩
        have c6 : Kp [] G5 (upd G5 t6 (.tup [.int 0, .ref t5])) := .new n6
        have e6 : (upd G5 t6 (.tup [.int 0, .ref t5])) t6 = some (.tup [.int 0, .ref t5]) := upd_same
        generalize upd G5 t6 (.tup [.int 0, .ref t5]) = G6 at c6 e6 ⊢
        refine ⟨by show 16 ≤ sizeLine; decide, fun p np => ?_⟩
        have F2 : Frame ms d l G6 := (((((F1.kp0 c1).kp0 c2).kp0 c3).kp0 c4).kp0 c5).kp0 c6
        have nn := F2.ne np
        refine ⟨d, l, p, _, rfl, (F2.new np).dk, sql_of upd_same, by simp, by show 16 ≤ 1000000; decide, nn.1, nn.2, fun x H4 hx D4 k4 => ?_⟩
        have k6 : Kp [d, l] G6 H4 := (Kp.new np).trans k4
        have k5 : Kp [d, l] G5 H4 := (c6.more (by simp)).trans k6
        have k4' : Kp [d, l] G4 H4 := (c5.more (by simp)).trans k5
        have k3 : Kp [d, l] G3 H4 := (c4.more (by simp)).trans k4'
        have k2 : Kp [d, l] G2 H4 := (c3.more (by simp)).trans k3
        have k1' : Kp [d, l] G1 H4 := (c2.more (by simp)).trans k2
        have kk : Kp [d, l] H H4 := k1.trans ((c1.more (by simp)).trans k1')
        simp only [List.mem_cons, List.not_mem_nil, or_false] at hx
        rcases hx with rfl | rfl | rfl | rfl | rfl | rfl | rfl | rfl | rfl | rfl | rfl | rfl | rfl | rfl | rfl | rfl
        · exact leaf _ _ H4 .non rfl (by decide) (by show 4 ≤ 130; decide) D4 kk
        · exact leaf _ _ H4 (.bl true) rfl (by decide) (by show 5 ≤ 130; decide) D4 kk
        · exact leaf _ _ H4 (.bl false) rfl (by decide) (by show 5 ≤ 130; decide) D4 kk
        · exact leaf _ _ H4 (.int _) (by decide +kernel) (by decide) (by show 45 ≤ 130; decide) D4 kk
        · exact leaf _ _ H4 (.int _) (by decide +kernel) (by decide) (by show 45 ≤ 130; decide) D4 kk
        · exact leaf _ _ H4 (.int _) (by decide +kernel) (by decide) (by show 45 ≤ 130; decide) D4 kk
        · exact leaf _ _ H4 (.int _) (by decide +kernel) (Nat.zero_le _) (by show 45 ≤ 130; decide) D4 kk
        · exact leaf _ _ H4 (.str _) (by decide +kernel) (Nat.zero_le _) (by decide +kernel) D4 kk
        · exact leaf _ _ H4 (.str _) (by decide +kernel) (Nat.zero_le _) (by decide +kernel) D4 kk
        · exact leaf _ _ H4 (.str _) (by decide +kernel) (Nat.zero_le _) (by decide +kernel) D4 kk
        · exact leaf _ _ H4 (.str _) (by decide +kernel) (Nat.zero_le _) (by decide +kernel) D4 kk
        · exact leaf _ (.tuple []) H4 (.tup (k1'.tup _ _ e1) .nil) rfl (by decide +kernel) (by decide +kernel) D4 kk
        · exact leaf _ (.tuple [.int 0]) H4 (.tup (k2.tup _ _ e2) (.cons (.int 0) .nil)) (by decide +kernel) (by decide +kernel) (by decide +kernel) D4 kk
        · exact leaf _ (.tuple [.str "top", .int 0]) H4 (.tup (k3.tup _ _ e3) (.cons (.str _) (.cons (.int 0) .nil))) (by decide +kernel) (by decide +kernel) (by decide +kernel) D4 kk
        · exact leaf _ (.tuple [.str "give", .int 0]) H4 (.tup (k4'.tup _ _ e4) (.cons (.str _) (.cons (.int 0) .nil))) (by decide +kernel) (by decide +kernel) (by decide +kernel) D4 kk
        · exact leaf _ (.tuple [.int 0, .tuple [.str ""]]) H4 (.tup (k6.tup _ _ e6) (.cons (.int 0) (.cons (.tup (k5.tup _ _ e5) (.cons (.str _) .nil)) .nil))) (by decide +kernel) (by decide +kernel) (by decide +kernel) D4 kk
      refine ⟨_, rfl, _, _, rfl, rfl, _, rfl, ite2 (fun q => ?_) (fun _ => ?_)⟩
      · have hd0 : 0 < deep := by
          have := of_decide_eq_true q
          omega
        refine ⟨_, rfl, d, l, 4, rfl, D1, by decide, by decide, fun c H2 c0 c1 D2 k2 => ?_⟩
        have F2 := F1.go k2 D2
        obtain ⟨m, rfl⟩ : ∃ m : Nat, c = (m : Int) := ⟨c.toNat, by omega⟩
        refine ⟨m, rfl, by omega, by omega, ?_⟩
        rw [Int.toNat_natCast]
        intro D nD
        have nDm := F2.has.fresh nD
        refine lc_range (lo := 0) (n := m) (fun i H => ∃ (xs : List V) (ds : List PyData), H D = some (.lst xs) ∧ AnAll (D :: ms) H xs ds ∧ GoodJAll (bAny) (2 * (deep - 1) + 2) (wJ (deep - 1)) ds ∧ ds.length = i ∧ Frame ms d l H ∧ Kp [d, l] H2 H)
          ⟨[], [], upd_same, .nil, .nil, rfl, F2.new nD, .new nD⟩ ?_ ?_
        · rintro i H5 hi ⟨xs, ds, hD, hA, hG, hl, F5, k5⟩
          have hDd : D ≠ d := fun e => nDm (e ▸ F2.dm)
          have hDl : D ≠ l := fun e => nDm (e ▸ F2.lm)
          have FD : Frame (D :: ms) d l H5 := ⟨F5.dk, List.mem_cons_of_mem _ F5.dm, List.mem_cons_of_mem _ F5.lm, fun b hb => by
            rcases List.mem_cons.mp hb with rfl | hb
            · rw [hD]
              exact fun z => nomatch z
            · exact F5.has b hb⟩
          refine ⟨rfl, _, rfl, _, rfl, _, _, rfl, rfl, d, l, D :: ms, deep - 1, ?_, by omega, FD, fun v x H6 hx gx F6 k6 => ?_⟩
          · show [V.ref d, V.int ((deep : Int) - 1)] = _
            rw [show (deep : Int) - 1 = ((deep - 1 : Nat) : Int) by omega]
          have hD6 : H6 D = some (.lst xs) := k6.at_ _ _ hD (by simp [hDd, hDl])
          have kD : Kp [D] H6 (upd H6 D (.lst (xs ++ [v]))) := .put (by simp) hD6 (fun _ z => by cases z)
          refine ⟨xs, hD6, ?_, xs ++ [v], ds ++ [x], upd_same, ?_, hG.snoc gx, by rw [List.length_append, hl]; rfl, ?_, ?_⟩
          · have := hA.length
            exact Nat.lt_of_le_of_lt (show xs.length ≤ 3 by omega) (by decide)
          · exact ((hA.kp k6 FD.sub ds).kp kD (by simp) ds).append (.cons (hx.kp kD (by simp) x) .nil)
          · have F6' : Frame ms d l H6 := F5.go k6 F6.dk
            refine ⟨F6'.dk.kp kD (by simp [hDd.symm]) (by simp [hDl.symm]), F6'.dm, F6'.lm, F6'.has.kp kD fun b hb => ?_⟩
            rw [List.mem_singleton.mp hb, upd_same]
            exact fun z => nomatch z
          · exact (k5.trans k6).own nD
        · rintro H5 ⟨xs, ds, hD, hA, hG, hl, F5, k5⟩
          obtain ⟨g1, g2, g3⟩ := hG.facts
          have e : wJ deep = 3 * wJ (deep - 1) + 150 := by
            obtain ⟨z, rfl⟩ : ∃ z, deep = z + 1 := ⟨deep - 1, by omega⟩
            rfl
          have h3 : (wJ (deep - 1) + 2) * ds.length ≤ (wJ (deep - 1) + 2) * 3 := Nat.mul_le_mul_left _ (by omega)
          exact rt H5 D xs ds _ r hD (hA.mono (fun x hx => List.mem_cons_of_mem _ hx) ds) nDm g1 (by omega) (by omega) (by omega) F5 (k1.trans (k2.trans k5))
      · refine ⟨by show 0 ≤ sizeLine; decide, fun D nD => ?_⟩
        exact rt _ D [] [] _ r upd_same .nil (F1.has.fresh nD) rfl (Nat.zero_le _) (by show 0 + 136 ≤ wJ deep; omega) (by decide) (F1.new nD) (k1.trans (.new nD))
end
end Ey
set_option maxHeartbeats 4000000
namespace Ey
open PySem PySem.Spec L2
abbrev sBent : Stmt := topS 32
theorem nat_low (n : Nat) : ∀ c ∈ (toString n).toList, c.toNat < 128 := by
  intro c hc
  have e : (toString n).toList = Nat.toDigits 10 n := by
    show (Nat.repr n).toList = _
    unfold Nat.repr
    simp
  rw [e] at hc
  have := Nat.isDigit_of_mem_toDigits (by decide) (by decide) hc
  unfold Char.isDigit at this
  simp only [Bool.and_eq_true, decide_eq_true_eq] at this
  have h2 : c.val.toNat ≤ 57 := this.2
  show c.val.toNat < 128
  omega
theorem int_low (B : Nat) (i : Int) : fitJ B (.str (Str.ofString (toString i))) = true := by
  show ((Str.ofString (toString i)).cps.toList.all fun c => decide (c < 128)) = true
  have e : (Str.ofString (toString i)).cps.toList = (toString i).toList.map Char.toNat := by
    rw [Str.ofString_eq_toList]
  rw [e, List.all_map, List.all_eq_true]
  intro c hc
  refine decide_eq_true ?_
  show c.toNat < 128
  cases i with
  | ofNat n => exact nat_low n c hc
  | negSucc n =>
    have e2 : (toString (Int.negSucc n)).toList = '-' :: (toString (n + 1)).toList := by
      show ("-" ++ Nat.repr (n + 1)).toList = _
      rw [String.toList_append]
      rfl
    rw [e2] at hc
    rcases List.mem_cons.mp hc with rfl | hc
    · decide
    · exact nat_low _ c hc
theorem dep_mem {x : PyData} : ∀ {ds : List PyData}, x ∈ ds → x.depth ≤ PyData.depthAll ds
  | y :: r, hx => by
    show x.depth ≤ max y.depth (PyData.depthAll r)
    rcases List.mem_cons.mp hx with rfl | hx
    · omega
    · have := dep_mem hx
      omega
theorem fitJ_app (B : Nat) (b : List PyData) : ∀ a : List PyData, fitJAll B (a ++ b) = (fitJAll B a && fitJAll B b)
  | [] => rfl
  | x :: r => by
    show (fitJ B x && fitJAll B (r ++ b)) = ((fitJ B x && fitJAll B r) && fitJAll B b)
    rw [fitJ_app B b r, Bool.and_assoc]
theorem dep_app (b : List PyData) : ∀ a : List PyData, PyData.depthAll (a ++ b) = max (PyData.depthAll a) (PyData.depthAll b)
  | [] => by
    show PyData.depthAll b = max 0 (PyData.depthAll b)
    omega
  | x :: r => by
    show max x.depth (PyData.depthAll (r ++ b)) = max (max x.depth (PyData.depthAll r)) (PyData.depthAll b)
    rw [dep_app b r]
    omega
theorem wd_app (b : List PyData) : ∀ a : List PyData, wdAll (a ++ b) = wdAll a + wdAll b
  | [] => (Nat.zero_add _).symm
  | x :: r => by
    show wd x + 2 + wdAll (r ++ b) = wd x + 2 + wdAll r + wdAll b
    rw [wd_app b r]
    omega
theorem fitJ_rev (B : Nat) (a : List PyData) (h : fitJAll B a = true) : fitJAll B a.reverse = true := fitJ_all fun x hx => fitJ_mem h (List.mem_reverse.mp hx)
theorem dep_rev : ∀ a : List PyData, PyData.depthAll a.reverse = PyData.depthAll a
  | [] => rfl
  | x :: r => by
    rw [List.reverse_cons, dep_app, dep_rev r]
    show max (PyData.depthAll r) (max x.depth 0) = max x.depth (PyData.depthAll r)
    omega
theorem wd_rev : ∀ a : List PyData, wdAll a.reverse = wdAll a
  | [] => rfl
  | x :: r => by
    rw [List.reverse_cons, wd_app, wd_rev r]
    show wdAll r + (wd x + 2 + 0) = wd x + 2 + wdAll r
    omega
theorem cut_facts (B : Nat) (ds : List PyData) (n : Nat) (h : fitJAll B ds = true) : fitJAll B (ds.take n) = true ∧ fitJAll B (ds.drop n) = true ∧ PyData.depthAll (ds.take n) ≤ PyData.depthAll ds ∧ PyData.depthAll (ds.drop n) ≤ PyData.depthAll ds ∧ wdAll (ds.take n) + wdAll (ds.drop n) = wdAll ds := by
  have e := List.take_append_drop n ds
  have h1 := fitJ_app B (ds.drop n) (ds.take n)
  have h2 := dep_app (ds.drop n) (ds.take n)
  have h3 := wd_app (ds.drop n) (ds.take n)
  rw [e] at h1 h2 h3
  rw [h1, Bool.and_eq_true] at h
  refine ⟨h.1, h.2, ?_, ?_, h3.symm⟩ <;> rw [h2] <;> omega
/-- one part told otherwise -/
theorem swap_good {B C n w : Nat} {ds : List PyData} {i : Nat} {xi x' : PyData} (h : fitJAll B ds = true) (e : ds[i]? = some xi) (hBC : B ≤ C) (g : GoodJ C (xi.depth + n) (2 * wd xi + w) x') :
    GoodJ C ((PyData.tuple ds).depth + n) (2 * wd (.tuple ds) + w) (.tuple (ds.take i ++ [x'] ++ ds.drop (i + 1))) := by
  obtain ⟨a1, a2, a3, a4, a5⟩ := cut_facts B ds (i + 1) h
  obtain ⟨b1, b2, b3, b4, b5⟩ := cut_facts B ds i h
  have et : wdAll (ds.take (i + 1)) = wdAll (ds.take i) + (wd xi + 2 + 0) := by
    rw [List.take_add_one, e, wd_app]
    rfl
  have hm := dep_mem (List.mem_of_getElem? e)
  have hw := wd_mem (List.mem_of_getElem? e)
  have gd := g.d
  have gw := g.w
  have f2 := g.f
  refine ⟨?_, ?_, ?_⟩
  · show fitJAll C (ds.take i ++ [x'] ++ ds.drop (i + 1)) = true
    rw [fitJ_app, fitJ_app, fitJAll_le hBC _ b1, fitJAll_le hBC _ a2]
    show (true && (fitJ C x' && true)) && true = true
    rw [f2]
    rfl
  · show PyData.depthAll (ds.take i ++ [x'] ++ ds.drop (i + 1)) + 1 ≤ PyData.depthAll ds + 1 + n
    rw [dep_app, dep_app]
    show max (max (PyData.depthAll (ds.take i)) (max x'.depth 0)) (PyData.depthAll (ds.drop (i + 1))) + 1 ≤ _
    omega
  · show wdAll (ds.take i ++ [x'] ++ ds.drop (i + 1)) + 3 ≤ 2 * (wdAll ds + 3) + w
    rw [wd_app, wd_app]
    show wdAll (ds.take i) + (wd x' + 2 + 0) + wdAll (ds.drop (i + 1)) + 3 ≤ _
    omega
structure LB (K : PySem.W.Frag) (mg : Str → Option Value) (A : Nat → Addr) (D : Nat → FuncData) : Prop extends LH K mg A D where
  bent : Df K mg "_law_bent" sBent ["_law_deck_here", "_law_thing", "_law_deep"] (A 32) (D 32)
def ib : Stmt → List Stmt
  | .If _ b _ _ => b
  | _ => []
def noSt : Stmt := .Pass ⟨0, 0, 0, 0⟩
abbrev BB : List Stmt := ib ((defBody sBent).getD 0 noSt)
theorem cut_mid (xs : List V) (i : Nat) : cutV xs (some (i : Int)) (some ((i + 1 : Nat) : Int)) = (xs.take (i + 1)).drop i := by
  unfold cutV
  rw [HT.sIx_nat, HT.sIx_nat, List.drop_take]
  by_cases h : i + 1 ≤ xs.length
  · rw [Nat.min_eq_left h, Nat.min_eq_left (by omega)]
  · rw [Nat.min_eq_right (by omega)]
    by_cases h2 : i ≤ xs.length
    · rw [Nat.min_eq_left h2, List.take_of_length_le (by rw [List.length_drop]; exact Nat.le_refl _), List.take_of_length_le (by rw [List.length_drop]; omega)]
    · rw [Nat.min_eq_right (by omega), List.drop_length, List.drop_of_length_le (by omega)]
      simp
theorem str_eta (z : Str) : z = st z.cps.toList := by
  cases z
  rfl
theorem cut_oneS (p : List Nat) : cutS (st p) (some 1) none = st (p.drop 1) := by
  unfold cutS
  rw [HT.sIx_none]
  have e : HT.sIx (st p).length 0 (some 1) = min 1 p.length := HT.sIx_nat _ _ 1
  rw [e, st_list, st_len]
  cases p with
  | nil => rfl
  | cons c r =>
    have : min 1 (c :: r).length = 1 := by rw [List.length_cons]; omega
    rw [this]
    show st (List.take (r.length + 1 - 1) r) = st r
    rw [Nat.add_sub_cancel, List.take_length]
theorem cut_fromS (z : Str) : (cutS z (some 1) none).cps.toList = z.cps.toList.drop 1 := by
  rw [str_eta z, cut_oneS, st_list, st_list]
theorem app_lo {a b : Str} (h : ∀ c ∈ a.cps.toList, c < 128) (h2 : ∀ c ∈ b.cps.toList, c < 128) : ∀ c ∈ (a ++ b).cps.toList, c < 128 := by
  rw [str_eta a, str_eta b, st_app, st_list]
  intro c hc
  rcases List.mem_append.mp hc with q | q
  · exact h c q
  · exact h2 c q
theorem up_lo {a : Str} (h : ∀ c ∈ a.cps.toList, c < 128) : (∀ c ∈ (PySem.Txt.upper a).cps.toList, c < 128) ∧ (PySem.Txt.upper a).length = a.length := by
  rw [PyProof.Rows.upper_ascii h]
  refine ⟨fun c hc => ?_, ?_⟩
  · have hc : c ∈ (a.cps.map PyProof.Rows.up1).toList := hc
    rw [Array.toList_map] at hc
    obtain ⟨x, hx, rfl⟩ := List.mem_map.mp hc
    have := h x hx
    unfold PyProof.Rows.up1
    split <;> omega
  · show (a.cps.map PyProof.Rows.up1).size = a.cps.size
    rw [Array.size_map]
/-- a text bent a little -/
theorem goodS {B : Nat} {z z2 : Str} {c : Nat} (h : ∀ x ∈ z2.cps.toList, x < 128) (hl : z2.length ≤ z.length + 20) : GoodJ B ((PyData.str z).depth + 6) (2 * wd (.str z) + 6000) (.str z2) := by
  refine ⟨?_, Nat.zero_le _, ?_⟩
  · show (z2.cps.toList.all fun c => decide (c < 128)) = true
    rw [List.all_eq_true]
    exact fun x hx => decide_eq_true (h x hx)
  · show 10 * z2.length + 2 ≤ 2 * (10 * z.length + 2) + 6000
    omega
section
variable {Pr : Program} {w : World} {K : PySem.W.Frag} {mg : Str → Option Value} {base : Heap} {A : Nat → Addr} {D : Nat → FuncData}
abbrev NB : List Str := ["_law_deck_here", "_law_thing", "_law_deep", "_law_at", "_law_way"]
theorem scBent : FnScope NB ["_law_deck_here", "_law_thing", "_law_deep"] (defScope sBent) := ⟨rfl, rfl, rfl, by decide +kernel, rfl, by decide +kernel, by decide +kernel⟩
def spBent (n : Nat) : Sp := fun vs H Q _ => ∃ (d l : Addr) (ms : List Addr) (v : V) (x : PyData) (deep B : Nat), vs = [.ref d, v, .int deep] ∧ deep < n ∧ An ms H v x ∧ fitJ B x = true ∧ bAny ≤ B ∧ B ≤ 10 ^ 39 + 1000 ∧ wd x ≤ 300000 ∧ Frame ms d l H ∧
  ∀ (v' : V) (x' : PyData) (H' : Hp), An ms H' v' x' → GoodJ (B + 5) (x.depth + 6) (2 * wd x + 6000) x' → Frame ms d l H' → Kp [d, l] H H' → Q v' H'
theorem ok_bent (L : LB K mg A D) : ∀ n : Nat, FnOk Pr w K mg base CX0 (n + 5) (A 32) (D 32) ["_law_deck_here", "_law_thing", "_law_deep"] (spBent n)
  | 0 => by
    refine L.bent.F.ok scBent (fun vs H Q E h => ?_) (fun cdv Ar outer s H vs Q E hr h => ?_)
    · obtain ⟨d, l, ms, v, x, deep, B, rfl, _⟩ := h
      rfl
    · obtain ⟨d, l, ms, v, x, deep, B, rfl, hd, _⟩ := h
      exact absurd hd (Nat.not_lt_zero _)
  | n + 1 => by
    have ih := ok_bent L n
    have LH := L.toLH
    have D0 := L.bent
    have Bt := L.B
    refine D0.F.ok scBent (fun vs H Q E h => ?_) (fun cdv Ar outer s H vs Q E hr h => ?_)
    · obtain ⟨d, l, ms, v, x, deep, B, rfl, _⟩ := h
      rfl
    · obtain ⟨d, l, ms, v, x, deep, B, rfl, hdn, hT, hfx, hB1, hB2, hwx, Fr, k⟩ := h
      have hr5 := hr.mono (show 5 ≤ n + 5 by omega)
      have hr2 := hr.mono (show 2 ≤ n + 5 by omega)
      have hr1 := hr.mono (show 1 ≤ n + 5 by omega)
      -- what is done at the place itself
      obtain ⟨tt, dt, rt⟩ : ∃ tt, PSs (cxOf CX0 Pr w K mg base NB "_law_bent" (defScope sBent) (A 32) cdv Ar outer s H E).nox BB tt ∧
          ∀ (De : Ends) (H3 : Hp) (y z : Option V), De.rt = Q → An ms H3 v x → Frame ms d l H3 → Kp [d, l] H H3 →
          tt De [some (.ref d), some v, some (.int deep), y, z] H3 := by
        refine ⟨_, pss_cons (ps_if (pt_val (pe_call (go_lInt (ms := ms) LH.toLR) hr1 (by rfl) L.int.g L.int.F.kp L.int.b .nil pass0 (pa_cons (pv 1) pa_nil)))
            (pss_one (ps_ret (pe_call (ok_pick L.pick.F Bt L.draw) hr2 (by rfl) L.pick.g L.pick.F.kp L.pick.b .nil pass0 (pa_cons (pv 0) (pa_cons (pe_lst (pa_cons (pe_op op_add (pv 1) pe_int) (pa_cons (pe_op op_sub (pv 1) pe_int) (pa_cons (pe_op op_sub pe_int (pv 1)) (pa_cons (pe_cmpR op_eq (pv 1) pe_int (nomark _))
              (pa_cons (pe_callTy call_str_int (by rfl) Bt.str (by decide +kernel) (pa_cons (pv 1) pa_nil)) (pa_cons pe_non (pa_cons pe_int pa_nil)))))))) pa_nil))))) pss_nil)
          (pss_cons (ps_if (pt_val (pe_callB call_isi (by rfl) Bt.isi (by decide +kernel) (pa_cons (pv 1) (pa_cons (pe_bltn (v := .ty "str") (by rfl) Bt.str (by decide +kernel) rfl) pa_nil))))
            (pss_one (ps_ret (pe_call (ok_pick L.pick.F Bt L.draw) hr2 (by rfl) L.pick.g L.pick.F.kp L.pick.b .nil pass0 (pa_cons (pv 0) (pa_cons (pe_lst (pa_cons (pe_op op_add_str (pv 1) pe_str) (pa_cons (pe_slice sl_str (pv 1) (po_some pe_int) po_none) (pa_cons (pe_upper (pv 1)) (pa_cons pe_str (pa_cons pe_str (pa_cons pe_str (pa_cons pe_str (pa_cons pe_int (pa_cons (pe_op op_add_str (pv 1) pe_str) (pa_cons pe_str pa_nil))))))))))) pa_nil))))) pss_nil)
          (pss_one (ps_ret (pe_ifExp (pt_not (pt_val (pe_callB call_isi (by rfl) Bt.isi (by decide +kernel) (pa_cons (pv 1) (pa_cons (pe_bltn (v := .ty "bool") (by rfl) Bt.bool (by decide +kernel) rfl) pa_nil)))))
            (pe_call (ok_any LH L.any 3) hr5 (by rfl) L.any.g L.any.F.kp L.any.b .nil pass0 (pa_cons (pv 0) (pa_cons pe_int pa_nil)))
            (pe_call (ok_pick L.pick.F Bt L.draw) hr2 (by rfl) L.pick.g L.pick.F.kp L.pick.b .nil pass0 (pa_cons (pv 0) (pa_cons (pe_lst (pa_cons (pe_not (pv 1)) (pa_cons (pe_callTy call_int1 (by rfl) Bt.int (by decide +kernel) (pa_cons (pv 1) pa_nil)) (pa_cons pe_non pa_nil)))) pa_nil))))))), ?_⟩
        intro De H3 y z eD hT3 F3 k3
        subst eD
        refine ⟨_, rfl, v, x, rfl, hT3, _, rfl, ?_⟩
        have anyEnd : ∀ (v' : V) (x' : PyData) (H5 : Hp), An ms H5 v' x' → GoodJ bAny (2 * 2 + 2) (wJ 2) x' → Frame ms d l H5 → Kp [d, l] H3 H5 → De.rt v' H5 := fun v' x' H5 a g F5 k5 => by
          have e2 : wJ 2 = 1860 := rfl
          exact k v' x' H5 a (g.mono (by omega) (by omega) (by omega)) F5 (k3.trans k5)
        cases ei : isIntD x with
        | true =>
          refine iteT ?_
          cases hT3 with
          | int i =>
            have hi : i.natAbs < B := of_decide_eq_true hfx
            have hlog := (int_ok i (Nat.lt_of_lt_of_le hi (Nat.le_trans hB2 (by decide)))).1
            have hlen := (int_ok i (Nat.lt_of_lt_of_le hi (Nat.le_trans hB2 (by decide)))).2
            have hsl : (Str.ofString (toString i)).length ≤ 45 := hlen
            have hfi : ∀ j : Int, j.natAbs < B + 5 → GoodJ (B + 5) ((PyData.int i).depth + 6) (2 * wd (.int i) + 6000) (.int j) := fun j hj => ⟨decide_eq_true hj, Nat.zero_le _, by show 45 ≤ 2 * 45 + 6000; decide⟩
            refine ⟨_, rfl, _, rfl, _, _, rfl, rfl, _, rfl, _, _, rfl, rfl, _, rfl, _, _, rfl, rfl, _, rfl, rfl, _, rfl, i, rfl, hlog, by show 7 ≤ sizeLine; decide, fun p3 n3 => ?_⟩
            have ne3 := F3.ne n3
            have F7 := F3.new (o := .lst [.int (i + 1), .int (i - 1), .int (0 - i), .bl (decide (V.int i = V.int 1)), .str (Str.ofString (toString i)), .non, .int 0]) n3
            have k6 : Kp [d, l] H3 _ := Kp.new (o := .lst [.int (i + 1), .int (i - 1), .int (0 - i), .bl (decide (V.int i = V.int 1)), .str (Str.ofString (toString i)), .non, .int 0]) n3
            refine ⟨d, l, p3, _, rfl, F7.dk, sql_of upd_same, by simp, by show 7 ≤ 1000000; decide, ne3.1, ne3.2, fun y' H8 hy D8 k8 => ?_⟩
            have F8 := F7.go k8 D8
            obtain ⟨xd, ay, gy⟩ : ∃ xd, An ms H8 y' xd ∧ GoodJ (B + 5) ((PyData.int i).depth + 6) (2 * wd (.int i) + 6000) xd := by
              simp only [List.mem_cons, List.not_mem_nil, or_false] at hy
              rcases hy with rfl | rfl | rfl | rfl | rfl | rfl | rfl
              · exact ⟨_, .int _, hfi _ (by omega)⟩
              · exact ⟨_, .int _, hfi _ (by omega)⟩
              · exact ⟨_, .int _, hfi _ (by omega)⟩
              · exact ⟨_, .bl _, rfl, Nat.zero_le _, by show 5 ≤ 2 * 45 + 6000; decide⟩
              · exact ⟨_, .str _, int_low _ i, Nat.zero_le _, by show 10 * (Str.ofString (toString i)).length + 2 ≤ 2 * 45 + 6000; omega⟩
              · exact ⟨_, .non, rfl, Nat.zero_le _, by show 4 ≤ 2 * 45 + 6000; decide⟩
              · exact ⟨_, .int _, hfi _ (by omega)⟩
            exact k _ _ H8 ay gy F8 (k3.trans (k6.trans k8))
          | non => cases ei
          | bl _ => cases ei
          | str _ => cases ei
          | lst _ _ _ => cases ei
          | tup _ _ => cases ei
          | dct _ _ _ => cases ei
        | false =>
        refine iteF ?_
        obtain ⟨ty, hty, kty⟩ := hT3.strK (K := K)
        refine ⟨_, rfl, _, .ty "str", ty, .type "str", _, rfl, .ty "str", hty, kty, _, rfl, ?_⟩
        cases es : isStr x with
        | true =>
          refine iteT ?_
          cases hT3 with
          | str g =>
            have hgw : 10 * g.length + 2 ≤ 300000 := hwx
            have hg1 : g.length + 1 ≤ sizeLine := Nat.le_trans (show g.length + 1 ≤ 30000 by omega) (by decide)
            have hgl : ∀ c ∈ g.cps.toList, c < 128 := by
              have q : (g.cps.toList.all fun c => decide (c < 128)) = true := hfx
              rw [List.all_eq_true] at q
              exact fun c hc => of_decide_eq_true (q c hc)
            refine ⟨_, rfl, _, rfl, _, _, rfl, rfl, hg1, _, rfl, 1, rfl, g, rfl, Nat.le_of_succ_le hg1, _, rfl, ⟨_, rfl⟩, g, rfl, rfl, Nat.le_trans (show g.length ≤ 30000 by omega) (by decide), _, rfl, _, _, rfl, rfl, hg1, by show 10 ≤ sizeLine; decide, fun p3 n3 => ?_⟩
            have ne3 := F3.ne n3
            have F7 := F3.new (o := .lst [.str (g ++ "a"), .str (cutS g (some 1) none), .str (PySem.Txt.upper g), .str "place", .str "truth", .str "move", .str "", .int 0, .str (g ++ " "), .str "a1"]) n3
            have k6 : Kp [d, l] H3 _ := Kp.new (o := .lst [.str (g ++ "a"), .str (cutS g (some 1) none), .str (PySem.Txt.upper g), .str "place", .str "truth", .str "move", .str "", .int 0, .str (g ++ " "), .str "a1"]) n3
            refine ⟨d, l, p3, _, rfl, F7.dk, sql_of upd_same, by simp, by show 10 ≤ 1000000; decide, ne3.1, ne3.2, fun y' H8 hy D8 k8 => ?_⟩
            have F8 := F7.go k8 D8
            have low : ∀ z2 : Str, (∀ x ∈ z2.cps.toList, x < 128) → z2.length ≤ g.length + 20 → ∃ xd, An ms H8 (.str z2) xd ∧ GoodJ (B + 5) ((PyData.str g).depth + 6) (2 * wd (.str g) + 6000) xd :=
              fun z2 h1 h2 => ⟨_, .str _, goodS (c := 0) h1 h2⟩
            have al : ∀ (t : Str), t.length ≤ 20 → (g ++ t).length ≤ g.length + 20 := fun t ht => by
              rw [str_eta g, str_eta t, st_app, st_len, List.length_append, st_len]
              have : t.cps.toList.length = t.length := cps_len t
              omega
            obtain ⟨xd, ay, gy⟩ : ∃ xd, An ms H8 y' xd ∧ GoodJ (B + 5) ((PyData.str g).depth + 6) (2 * wd (.str g) + 6000) xd := by
              simp only [List.mem_cons, List.not_mem_nil, or_false] at hy
              rcases hy with rfl | rfl | rfl | rfl | rfl | rfl | rfl | rfl | rfl | rfl
              · exact low _ (app_lo hgl (by decide +kernel)) (al _ (by decide +kernel))
              · refine low _ (fun x hx => ?_) ?_
                · rw [cut_fromS] at hx
                  exact hgl x (List.mem_of_mem_drop hx)
                · rw [← cps_len, cut_fromS, List.length_drop, cps_len]
                  omega
              · exact low _ (up_lo hgl).1 (by rw [(up_lo hgl).2]; omega)
              · exact low _ (by decide +kernel) (Nat.le_trans (show _ ≤ 20 by decide +kernel) (by omega))
              · exact low _ (by decide +kernel) (Nat.le_trans (show _ ≤ 20 by decide +kernel) (by omega))
              · exact low _ (by decide +kernel) (Nat.le_trans (show _ ≤ 20 by decide +kernel) (by omega))
              · exact low _ (by decide +kernel) (Nat.le_trans (show _ ≤ 20 by decide +kernel) (by omega))
              · exact ⟨_, .int _, decide_eq_true (show (0 : Int).natAbs < B + 5 by show 0 < B + 5; omega), Nat.zero_le _, by show 45 ≤ 2 * (10 * g.length + 2) + 6000; omega⟩
              · exact low _ (app_lo hgl (by decide +kernel)) (al _ (by decide +kernel))
              · exact low _ (by decide +kernel) (Nat.le_trans (show _ ≤ 20 by decide +kernel) (by omega))
            exact k _ _ H8 ay gy F8 (k3.trans (k6.trans k8))
          | non => cases es
          | bl _ => cases es
          | int _ => cases es
          | lst _ _ _ => cases es
          | tup _ _ => cases es
          | dct _ _ _ => cases es
        | false =>
        refine iteF ?_
        have any_ : ∀ P : Prop, P → P := fun _ h => h
        cases hT3 with
        | non => exact ⟨_, rfl, _, .ty "bool", _, .type "bool", false, rfl, .ty "bool", .base .non, kit_ty (by decide +kernel), _, rfl, iteT ⟨_, rfl, d, l, ms, 2, rfl, by decide, F3, anyEnd⟩⟩
        | int _ => cases ei
        | str _ => cases es
        | lst e => exact ⟨_, rfl, _, .ty "bool", _, .type "bool", false, rfl, .ty "bool", .base (.lst e), kit_ty (by decide +kernel), _, rfl, iteT ⟨_, rfl, d, l, ms, 2, rfl, by decide, F3, anyEnd⟩⟩
        | tup e => exact ⟨_, rfl, _, .ty "bool", _, .type "bool", false, rfl, .ty "bool", .base (.tup e), kit_ty (by decide +kernel), _, rfl, iteT ⟨_, rfl, d, l, ms, 2, rfl, by decide, F3, anyEnd⟩⟩
        | dct e => exact ⟨_, rfl, _, .ty "bool", _, .type "bool", false, rfl, .ty "bool", .base (.dK e), kit_ty (by decide +kernel), _, rfl, iteT ⟨_, rfl, d, l, ms, 2, rfl, by decide, F3, anyEnd⟩⟩
        | bl b =>
          refine ⟨_, rfl, _, .ty "bool", _, .type "bool", true, rfl, .ty "bool", .base (.bl b), kit_ty (by decide +kernel), _, rfl, iteF ⟨_, rfl, _, rfl, _, rfl, _, rfl, .inr ⟨_, rfl, by show 3 ≤ sizeLine; decide, fun p3 n3 => ?_⟩⟩⟩
          have ne3 := F3.ne n3
          have F7 := F3.new (o := .lst [.bl (!b), .int (if b then 1 else 0), .non]) n3
          have k6 : Kp [d, l] H3 _ := Kp.new (o := .lst [.bl (!b), .int (if b then 1 else 0), .non]) n3
          refine ⟨d, l, p3, _, rfl, F7.dk, sql_of upd_same, by simp, by show 3 ≤ 1000000; decide, ne3.1, ne3.2, fun y' H8 hy D8 k8 => ?_⟩
          have F8 := F7.go k8 D8
          obtain ⟨xd, ay, gy⟩ : ∃ xd, An ms H8 y' xd ∧ GoodJ (B + 5) ((PyData.bool b).depth + 6) (2 * wd (.bool b) + 6000) xd := by
            simp only [List.mem_cons, List.not_mem_nil, or_false] at hy
            rcases hy with rfl | rfl | rfl
            · exact ⟨_, .bl _, rfl, Nat.zero_le _, by show 5 ≤ 2 * 5 + 6000; decide⟩
            · exact ⟨_, .int _, decide_eq_true (by cases b <;> show _ < B + 5 <;> simp), Nat.zero_le _, by show 45 ≤ 2 * 5 + 6000; decide⟩
            · exact ⟨_, .non, rfl, Nat.zero_le _, by show 4 ≤ 2 * 5 + 6000; decide⟩
          exact k _ _ H8 ay gy F8 (k3.trans (k6.trans k8))
      refine ⟨_, pss_cons (ps_if (PW.pt (pw_or (pt_not (pt_val (pe_callB call_isi (by rfl) Bt.isi (by decide +kernel) (pa_cons (pv 1) (pa_cons (pe_bltn (v := .ty "tuple") (by rfl) Bt.tuple (by decide +kernel) rfl) pa_nil)))))
          (pw_or (pt_cmpR (op_eqE hr.units) (pv 1) (pe_tup pa_nil) (nomark _)) (pw_or (pt_cmpR op_eq (pv 2) pe_int (nomark _)) (pw_or1 (pt_cmpR op_eq (pe_call (ok_draw L.draw.F Bt) hr1 (by rfl) L.draw.g L.draw.F.kp L.draw.b .nil pass0 (pa_cons (pv 0) (pa_cons pe_int pa_nil))) pe_int (nomark _))))))) dt pss_nil)
        (pss_cons (ps_par (i := 3) (j := 4) (by rfl) scBent.nd rfl rfl (by decide) rfl rfl (pa_cons (pe_call (ok_draw L.draw.F Bt) hr1 (by rfl) L.draw.g L.draw.F.kp L.draw.b .nil pass0 (pa_cons (pv 0) (pa_cons (pe_callB call_len_seq (by rfl) Bt.len PySem.boot_len (pa_cons (pv 1) pa_nil)) pa_nil))) (pa_cons (pe_call (ok_draw L.draw.F Bt) hr1 (by rfl) L.draw.g L.draw.F.kp L.draw.b .nil pass0 (pa_cons (pv 0) (pa_cons pe_int pa_nil))) pa_nil)) (by rfl))
        (pss_cons (ps_if (pt_cmpR op_eq (pv 4) pe_int (nomark _)) (pss_one (ps_ret (pe_op op_cat2 (pe_slice sl_cut (pv 1) po_none (po_some (pv 3))) (pe_slice sl_cut (pv 1) (po_some (pe_op op_add (pv 3) pe_int)) po_none)))) pss_nil)
        (pss_cons (ps_if (pt_cmpR op_eq (pv 4) pe_int (nomark _)) (pss_one (ps_ret (pe_op op_cat2 (pe_op op_cat2 (pe_slice sl_cut (pv 1) po_none (po_some (pv 3))) (pe_slice sl_cut (pv 1) (po_some (pv 3)) (po_some (pe_op op_add (pv 3) pe_int)))) (pe_slice sl_cut (pv 1) (po_some (pv 3)) po_none)))) pss_nil)
        (pss_cons (ps_if (pt_cmpR op_eq (pv 4) pe_int (nomark _)) (pss_one (ps_ret (pe_ifExp (pt_cmpR op_eq (pe_call (ok_draw L.draw.F Bt) hr1 (by rfl) L.draw.g L.draw.F.kp L.draw.b .nil pass0 (pa_cons (pv 0) (pa_cons pe_int pa_nil))) pe_int (nomark _))
            (pe_callTy call_list_of (by rfl) Bt.list (by decide +kernel) (pa_cons (pv 1) pa_nil)) (pe_revA (pv 1))))) pss_nil)
        (pss_one (ps_ret (pe_op op_cat2 (pe_op op_cat2 (pe_slice sl_cut (pv 1) po_none (po_some (pv 3))) (pe_tup (pa_cons (pe_call ih hr (by rfl) D0.g D0.F.kp D0.b .nil pass0 (pa_cons (pv 0) (pa_cons (pe_ix ix_tup (pv 1) (pv 3) (fun _ _ => rfl)) (pa_cons (pe_op op_sub (pv 2) pe_int) pa_nil)))) pa_nil))) (pe_slice sl_cut (pv 1) (po_some (pe_op op_add (pv 3) pe_int)) po_none)))))))), ?_⟩
      obtain ⟨ty, hty, kty⟩ := hT.tupK (K := K)
      refine ⟨_, rfl, _, .ty "tuple", ty, .type "tuple", _, rfl, .ty "tuple", hty, kty, _, rfl, ?_⟩
      cases e : isTup x with
      | false =>
        refine iteT ?_
        exact rt _ H none none rfl hT Fr .refl
      | true =>
        refine iteF ?_
        refine ⟨_, rfl, Nat.zero_le _, fun p np => ?_⟩
        have kp : Kp [] H (upd H p (.tup [])) := .new np
        have F1 := Fr.new (o := .tup []) np
        have hT1 := hT.kp kp (by simp) x
        have ep : (upd H p (.tup [])) p = some (.tup []) := upd_same
        have kp1 : Kp [d, l] H (upd H p (.tup [])) := .new np
        generalize upd H p (.tup []) = H1 at kp F1 hT1 ep kp1
        have hT1' := hT1
        cases hT1 with
        | non => cases e
        | bl _ => cases e
        | int _ => cases e
        | str _ => cases e
        | lst _ _ _ => cases e
        | dct _ _ _ => cases e
        | @tup a xs ds ea hP =>
          have lx := hP.length
          have ll := len_wd ds
          have hx : (PyData.tuple ds).depth = PyData.depthAll ds + 1 := rfl
          have hw : wd (.tuple ds) = wdAll ds + 3 := rfl
          have hfd : fitJAll B ds = true := hfx
          have hf5 : fitJAll (B + 5) ds = true := fitJAll_le (by omega) ds hfd
          refine ⟨a, p, xs, rfl, rfl, ea, ep, _, rfl, ?_⟩
          cases ex : xs.isEmpty with
          | true => exact iteT (rt _ H1 none none rfl hT1' F1 kp1)
          | false =>
            refine iteF ?_
            have hpos : 0 < xs.length := by
              cases xs with
              | nil => cases ex
              | cons _ _ => exact Nat.succ_pos _
            refine ⟨_, rfl, rfl, _, rfl, ite2 (fun _ => ?_) (fun q0 => ?_)⟩
            · exact rt _ H1 none none rfl hT1' F1 kp1
            refine ⟨_, rfl, d, l, 9, rfl, F1.dk, by decide, by decide, fun r H2 r0 r1 D2 k2 => ⟨rfl, _, rfl, ite2 (fun _ => ?_) (fun _ => ?_)⟩⟩
            · exact rt _ H2 none none rfl (hT1'.kp k2 F1.sub _) (F1.go k2 D2) (kp1.trans k2)
            have F2 := F1.go k2 D2
            have e2 := k2.tup _ _ ea
            refine ⟨_, rfl, _, rfl, a, _, rfl, .inr (sqt_of e2), d, l, _, rfl, D2, by omega, by omega, fun at' H3 a0 a1 D3 k3 => ?_⟩
            have F3 := F2.go k3 D3
            have e3 := k3.tup _ _ e2
            obtain ⟨i, rfl⟩ : ∃ i : Nat, at' = (i : Int) := ⟨at'.toNat, by omega⟩
            have hi : i < xs.length := by omega
            have hP3 := (hP.kp k2 F1.sub ds).kp k3 F2.sub ds
            have k13 := kp1.trans (k2.trans k3)
            refine ⟨_, rfl, d, l, 10, rfl, F3.dk, by decide, by decide, fun r4 H4 r40 r41 D4 k4 => ?_⟩
            have F4 := F3.go k4 D4
            have e4 := k4.tup _ _ e3
            have hP4 := hP3.kp k4 F3.sub ds
            have k14 := k13.trans k4
            have ei1 : ((i : Int) + 1) = ((i + 1 : Nat) : Int) := by omega
            have hz : xs.length ≤ 300000 := by omega
            have cut : ∀ n, (xs.take n).length ≤ 300000 ∧ (xs.drop n).length ≤ 300000 := fun n => by
              rw [List.length_take, List.length_drop]
              omega
            have lim : ∀ n, n ≤ 900010 → n ≤ sizeLine := fun n h => Nat.le_trans h (by decide)
            obtain ⟨a1', a2', a3', a4', a5'⟩ := cut_facts (B + 5) ds (i + 1) hf5
            obtain ⟨b1', b2', b3', b4', b5'⟩ := cut_facts (B + 5) ds i hf5
            rw [hx, hw] at k
            refine ⟨_, _, rfl, _, rfl, rfl, _, rfl, ite2 (fun _ => ?_) (fun _ => ?_)⟩
            · -- one left out
              refine ⟨_, rfl, _, rfl, _, rfl, a, xs, rfl, e4, fun q1 H5 e5 k5 => ?_⟩
              rw [cut_take] at e5
              refine ⟨_, rfl, _, rfl, _, _, rfl, rfl, _, rfl, a, xs, rfl, k5.tup _ _ e4, fun q2 H6 e6 k6 => ?_⟩
              rw [ei1, cut_drop] at e6
              refine ⟨q1, q2, _, _, rfl, rfl, k6.tup _ _ e5, e6, lim _ (by have := cut i; have := cut (i + 1); omega), fun q3 H7 e7 k7 => ?_⟩
              have k47 := k5.trans (k6.trans k7)
              have hP7 := hP4.kp k47 (by simp) ds
              refine k _ (.tuple (ds.take i ++ ds.drop (i + 1))) _ (.tup e7 ((hP7.take i).append (hP7.drop (i + 1)))) ⟨?_, ?_, ?_⟩ (F4.kp0 k47) (k14.trans (k47.more (by simp)))
              · show fitJAll (B + 5) (ds.take i ++ ds.drop (i + 1)) = true
                rw [fitJ_app, b1', a2']
                rfl
              · show PyData.depthAll (ds.take i ++ ds.drop (i + 1)) + 1 ≤ _
                rw [dep_app]
                omega
              · show wdAll (ds.take i ++ ds.drop (i + 1)) + 3 ≤ _
                rw [wd_app]
                omega
            refine ⟨_, rfl, rfl, _, rfl, ite2 (fun _ => ?_) (fun _ => ?_)⟩
            · -- one doubled
              refine ⟨_, rfl, _, rfl, _, rfl, a, xs, rfl, e4, fun q1 H5 e5 k5 => ?_⟩
              rw [cut_take] at e5
              refine ⟨_, rfl, _, rfl, _, rfl, _, rfl, _, _, rfl, rfl, _, rfl, a, xs, rfl, k5.tup _ _ e4, fun q2 H6 e6 k6 => ?_⟩
              rw [ei1, cut_mid] at e6
              have hl6 : ((xs.take (i + 1)).drop i).length ≤ 300000 := by
                rw [List.length_drop]
                have := (cut (i + 1)).1
                omega
              refine ⟨q1, q2, _, _, rfl, rfl, k6.tup _ _ e5, e6, lim _ (by have := cut i; omega), fun q3 H7 e7 k7 => ?_⟩
              have k47 := k5.trans (k6.trans k7)
              refine ⟨_, rfl, _, rfl, _, rfl, a, xs, rfl, k47.tup _ _ e4, fun q4 H8 e8 k8 => ?_⟩
              rw [cut_drop] at e8
              refine ⟨q3, q4, _, _, rfl, rfl, k8.tup _ _ e7, e8, lim _ (by rw [List.length_append]; have := cut i; omega), fun q5 H9 e9 k9 => ?_⟩
              have k49 := k47.trans (k8.trans k9)
              have hP9 := hP4.kp k49 (by simp) ds
              obtain ⟨c1', c2', c3', c4', c5'⟩ := cut_facts (B + 5) (ds.take (i + 1)) i a1'
              refine k _ (.tuple (ds.take i ++ (ds.take (i + 1)).drop i ++ ds.drop i)) _ (.tup e9 (((hP9.take i).append ((hP9.take (i + 1)).drop i)).append (hP9.drop i))) ⟨?_, ?_, ?_⟩ (F4.kp0 k49) (k14.trans (k49.more (by simp)))
              · show fitJAll (B + 5) (ds.take i ++ (ds.take (i + 1)).drop i ++ ds.drop i) = true
                rw [fitJ_app, fitJ_app, b1', c2', b2']
                rfl
              · show PyData.depthAll (ds.take i ++ (ds.take (i + 1)).drop i ++ ds.drop i) + 1 ≤ _
                rw [dep_app, dep_app]
                omega
              · show wdAll (ds.take i ++ (ds.take (i + 1)).drop i ++ ds.drop i) + 3 ≤ _
                rw [wd_app, wd_app]
                omega
            refine ⟨_, rfl, rfl, _, rfl, ite2 (fun _ => ?_) (fun _ => ?_)⟩
            · refine ⟨_, rfl, d, l, 2, rfl, D4, by decide, by decide, fun r5 H5 r50 r51 D5 k5 => ⟨rfl, _, rfl, ite2 (fun _ => ?_) (fun _ => ?_)⟩⟩
              · have F5 := F4.go k5 D5
                have e5 := k5.tup _ _ e4
                have hP5 := hP4.kp k5 F4.sub ds
                refine ⟨_, rfl, a, _, rfl, .inr (sqt_of e5), fun q nq => ?_⟩
                have kq : Kp [] H5 (upd H5 q (.lst xs)) := .new nq
                exact k _ (.list ds) _ (.lst upd_same (F5.has.fresh nq) (hP5.kp kq (by simp) _)) ⟨hf5, by show PyData.depthAll ds + 1 ≤ _; omega, by show wdAll ds + 3 ≤ _; omega⟩ (F5.new nq) (k14.trans (k5.trans (.new nq)))
              · have F5 := F4.go k5 D5
                have e5 := k5.tup _ _ e4
                have hP5 := hP4.kp k5 F4.sub ds
                refine ⟨_, rfl, .inl ⟨a, _, rfl, sqt_of e5, fun q nq => ?_⟩⟩
                have kq : Kp [] H5 (upd H5 q (.tup xs.reverse)) := .new nq
                refine k _ (.tuple ds.reverse) _ (.tup upd_same ((AnAll.kp kq (by simp) _ hP5).rev)) ⟨fitJ_rev _ _ hf5, ?_, ?_⟩ (F5.new nq) (k14.trans (k5.trans (.new nq)))
                · show PyData.depthAll ds.reverse + 1 ≤ _
                  rw [dep_rev]
                  omega
                · show wdAll ds.reverse + 3 ≤ _
                  rw [wd_rev]
                  omega
            · -- one bent itself
              refine ⟨_, rfl, _, rfl, _, rfl, a, xs, rfl, e4, fun q1 H5 e5 k5 => ?_⟩
              rw [cut_take] at e5
              have F5 := F4.kp0 k5
              have e5a := k5.tup _ _ e4
              have hP5 := hP4.kp k5 (by simp) ds
              obtain ⟨xi, exi, axi⟩ := hP5.get (List.getElem?_eq_getElem hi)
              have hd0 : 0 < deep := by
                cases deep with
                | zero => exact absurd (decide_eq_true rfl) q0
                | succ z => exact Nat.succ_pos z
              have hmem := List.mem_of_getElem? exi
              have hwi := wd_mem hmem
              refine ⟨_, rfl, _, rfl, _, rfl, a, _, _, xs[i], rfl, rfl, sqt_of e5a, atI_nat (List.getElem?_eq_getElem hi), _, rfl, _, _, rfl, rfl, d, l, ms, xs[i], xi, deep - 1, B, ?_, by omega, axi, fitJ_mem hfd hmem, hB1, hB2, by omega, F5, fun v' x' H6 ax gx F6 k6 => ?_⟩
              · show [V.ref d, xs[i], V.int ((deep : Int) - 1)] = _
                rw [show (deep : Int) - 1 = ((deep - 1 : Nat) : Int) by omega]
              refine ⟨by show 1 ≤ sizeLine; decide, fun q2 n2 => ?_⟩
              have k7 : Kp [] H6 (upd H6 q2 (.tup [v'])) := .new n2
              have e7 : (upd H6 q2 (.tup [v'])) q2 = some (.tup [v']) := upd_same
              generalize upd H6 q2 (.tup [v']) = H7 at k7 e7
              refine ⟨q1, q2, _, _, rfl, rfl, k7.tup _ _ (k6.tup _ _ e5), e7, lim _ (by show (xs.take i).length + 1 ≤ 900010; have := cut i; omega), fun q3 H8 e8 k8 => ?_⟩
              have k68 := k7.trans k8
              refine ⟨_, rfl, _, rfl, _, _, rfl, rfl, _, rfl, a, xs, rfl, k68.tup _ _ (k6.tup _ _ e5a), fun q4 H9 e9 k9 => ?_⟩
              rw [ei1, cut_drop] at e9
              refine ⟨q3, q4, _, _, rfl, rfl, k9.tup _ _ e8, e9, lim _ (by rw [List.length_append]; show (xs.take i).length + 1 + _ ≤ 900010; have := cut i; have := cut (i + 1); omega), fun q5 H10 e10 k10 => ?_⟩
              have k610 := k68.trans (k9.trans k10)
              have hP10 := (hP5.kp k6 F5.sub ds).kp k610 (by simp) ds
              have gg := swap_good (B := B) (C := B + 5) (n := 6) (w := 6000) hfd exi (by omega) gx
              rw [hx, hw] at gg
              exact k _ (.tuple (ds.take i ++ [x'] ++ ds.drop (i + 1))) _ (.tup e10 (((hP10.take i).append (.cons (ax.kp k610 (by simp) _) .nil)).append (hP10.drop (i + 1)))) gg (F6.kp0 k610) (k14.trans ((k5.more (by simp)).trans (k6.trans (k610.more (by simp)))))
end
end Ey
set_option maxHeartbeats 4000000
namespace Ey
open PySem PySem.Spec L2
abbrev sAnyRow : Stmt := topS 33
structure LY (K : PySem.W.Frag) (mg : Str → Option Value) (A : Nat → Addr) (D : Nat → FuncData) : Prop extends LB K mg A D where
  arow : Df K mg "_law_any_row" sAnyRow ["_law_deck_here"] (A 33) (D 33)
theorem low_rows : ∀ p ∈ rowsL, (p.1.cps.toList.all fun c => decide (c < 128)) = true ∧ wd (.str p.1) ≤ 80 := by decide +kernel
theorem ints_good : ∀ (ns : List Int), (∀ n ∈ ns, n.natAbs < 1000) → fitJAll bAny (ns.map .int) = true ∧ PyData.depthAll (ns.map .int) = 0 ∧ wdAll (ns.map .int) = 47 * ns.length
  | [], _ => ⟨rfl, rfl, rfl⟩
  | n :: r, h => by
    obtain ⟨a, b, c⟩ := ints_good r fun x hx => h x (List.mem_cons_of_mem _ hx)
    have h0 := h n List.mem_cons_self
    have hb : 1000 ≤ bAny := by decide +kernel
    refine ⟨?_, ?_, ?_⟩
    · show (decide (n.natAbs < bAny) && fitJAll bAny (r.map .int)) = true
      rw [a, decide_eq_true (by omega)]
      rfl
    · show max 0 (PyData.depthAll (r.map .int)) = 0
      rw [b]
      rfl
    · show 45 + 2 + wdAll (r.map .int) = 47 * (r.length + 1)
      rw [c]
      omega
theorem ints_an {ms : List Addr} {H : Hp} : ∀ ns : List Int, AnAll ms H (ns.map V.int) (ns.map .int)
  | [] => .nil
  | n :: r => .cons (.int n) (ints_an r)
structure YI (ms : List Addr) (d l D : Addr) (w0 : Str) (H : Hp) (i : Nat) (σ : L2.St) (H' : Hp) : Prop where
  s : ∃ y u, σ = [some (.ref d), some (.str w0), some (.ref D), y, u]
  x : ∃ (xs : List V) (ds : List PyData), H' D = some (.lst xs) ∧ AnAll (D :: ms) H' xs ds ∧ GoodJAll bAny 1 300 ds ∧ ds.length = i + 1
  F : Frame ms d l H'
  k : Kp [d, l] H H'
section
variable {Pr : Program} {w : World} {K : PySem.W.Frag} {mg : Str → Option Value} {base : Heap} {A : Nat → Addr} {D : Nat → FuncData}
def spPickT (K : PySem.W.Frag) : Sp := fun vs H Q _ => ∃ (d l a : Addr) (xs : List V), vs = [.ref d, .ref a] ∧ DeckAt H d l ∧ H a = some (.tup xs) ∧ xs ≠ [] ∧ xs.length ≤ 1000000 ∧
  ∀ (x : V) (H' : Hp), x ∈ xs → DeckAt H' d l → Kp [d, l] H H' → Q x H'
theorem ok_pickT (L : LH K mg A D) : FnOk Pr w K mg base CX0 2 (A 23) (D 23) ["_law_deck_here", "_law_some"] (spPickT K) := by
  refine L.pick.F.ok scPick (fun vs H Q E h => ?_) (fun cdv A outer s H vs Q E hr h => ?_)
  · obtain ⟨d, l, a, xs, rfl, _⟩ := h
    rfl
  · obtain ⟨d, l, a, xs, rfl, DA, hS, hne, hlen, k⟩ := h
    refine ⟨_, pss_one (ps_ret (pe_ix ix_tup (pv 1) (pe_call (ok_draw L.draw.F L.B) hr (by rfl) L.draw.g L.draw.F.kp L.draw.b .nil pass0 (pa_cons (pv 0) (pa_cons (pe_callB call_len_seq (by rfl) L.B.len PySem.boot_len (pa_cons (pv 1) pa_nil)) pa_nil))) (fun _ _ => rfl))), ?_⟩
    have hpos : 0 < xs.length := List.length_pos_iff.mpr hne
    refine ⟨_, rfl, _, rfl, _, rfl, a, xs, rfl, .inr (sqt_of hS), d, l, _, rfl, DA, by omega, by omega, fun r H' r0 r1 D' kp => ?_⟩
    obtain ⟨i, rfl⟩ : ∃ i : Nat, r = (i : Int) := ⟨r.toNat, by omega⟩
    have hi : i < xs.length := by omega
    refine ⟨a, xs, _, xs[i], rfl, rfl, sqt_of (kp.tup _ _ hS), ?_, ?_⟩
    · exact atI_nat (List.getElem?_eq_getElem hi)
    · exact k _ H' (List.getElem_mem hi) D' kp
abbrev NY : List Str := ["_law_deck_here", "_law_word", "_law_found", "_law_kind", "_law_turn"]
theorem scAnyRow : FnScope NY ["_law_deck_here"] (defScope sAnyRow) := ⟨rfl, rfl, rfl, by decide +kernel, rfl, by decide +kernel, by decide +kernel⟩
def spAnyRow : Sp := fun vs H Q _ => ∃ (d l : Addr) (ms : List Addr), vs = [.ref d] ∧ Frame ms d l H ∧
  ∀ (v : V) (x : PyData) (H' : Hp), An ms H' v x → GoodJ bAny 6 6000 x → Frame ms d l H' → Kp [d, l] H H' → Q v H'
theorem ok_anyRow (L : LY K mg A D) : FnOk Pr w K mg base CX0 3 (A 33) (D 33) ["_law_deck_here"] spAnyRow := by
  have Bt := L.B
  refine L.arow.F.ok scAnyRow (fun vs H Q E h => ?_) (fun cdv Ar outer s H vs Q E hr h => ?_)
  · obtain ⟨d, l, ms, rfl, _⟩ := h
    rfl
  · obtain ⟨d, l, ms, rfl, Fr, k⟩ := h
    have hr1 := hr.mono (show 1 ≤ 2 by decide)
    have hu := hu_of hr
    refine ⟨_, pss_cons (ps_set (i := 1) scAnyRow.nd rfl (.inl rfl) (pe_call (ok_pick L.pick.F Bt L.draw) hr (by rfl) L.pick.g L.pick.F.kp L.pick.b .nil pass0 (pa_cons (pv 0) (pa_cons (pe_callB cr_sortedS (by rfl) Bt.sorted (by decide +kernel) (pa_cons (pe_callTy (call_listD rfl) (by rfl) Bt.list (by decide +kernel) (pa_cons (pe_call0 (ok_shapes L.toLR) hr1 (by rfl) L.shapes.g L.shapes.F.kp L.shapes.b .nil pass0) pa_nil)) pa_nil)) pa_nil))))
      (pss_cons (ps_set (i := 2) scAnyRow.nd rfl (.inl rfl) (pe_lst (pa_cons (pv 1) pa_nil)))
      (pss_cons (ps_for PassesOwn.never rfl (pi_str (pe_dget hu (pe_call0 (ok_shapes L.toLR) hr1 (by rfl) L.shapes.g L.shapes.F.kp L.shapes.b .nil pass0) (pv 1) (fun _ _ => rfl))) (pg_name (i := 3) scAnyRow.nd rfl (Or.inl rfl))
        (pss_one (ps_if (pt_cmpR op_eq (pv 3) pe_str (nomark _))
          (pss_one (ps_expr (pe_bm PySem.F.plainAttrs_list PySem.F.slot_list_append PySem.F.type_list_append mt_append (pv 2) (pa_cons (pe_call (ok_pickT L.toLH) hr (by rfl) L.pick.g L.pick.F.kp L.pick.b .nil pass0 (pa_cons (pv 0) (pa_cons (pe_tup (pa_cons pe_str (pa_cons pe_str (pa_cons pe_str pa_nil)))) pa_nil))) pa_nil))))
          (pss_one (ps_if (pt_cmpR op_eq (pv 3) pe_str (nomark _))
            (pss_one (ps_expr (pe_bm PySem.F.plainAttrs_list PySem.F.slot_list_append PySem.F.type_list_append mt_append (pv 2) (pa_cons (pe_callTy call_tuple_of (by rfl) Bt.tuple (by decide +kernel) (pa_cons
              (pe_lc (own := [("_law_turn", 4)]) (g := gName 4) (tt := tYes) rfl scAnyRow.nd (pi_range1 (by rfl) Bt.range (pa_cons (pe_call (ok_draw L.draw.F Bt) hr1 (by rfl) L.draw.g L.draw.F.kp L.draw.b .nil pass0 (pa_cons (pv 0) (pa_cons pe_int pa_nil))) pa_nil))
                (blkOk_by (N := NY) (sc := defScope sAnyRow) (by decide +kernel)) (fun _ _ _ _ _ => pg_name (i := 4) scAnyRow.nd rfl (Or.inl rfl)) (fun _ _ _ _ _ => pts_nil)
                (fun _ _ _ _ _ => pe_call (ok_draw L.draw.F Bt) hr1 (by rfl) L.draw.g L.draw.F.kp L.draw.b .nil pass0 (pa_cons (pv 0) (pa_cons pe_int pa_nil)))) pa_nil)) pa_nil))))
            (pss_one (ps_expr (pe_bm PySem.F.plainAttrs_list PySem.F.slot_list_append PySem.F.type_list_append mt_append (pv 2) (pa_cons (pe_call (ok_pickT L.toLH) hr (by rfl) L.pick.g L.pick.F.kp L.pick.b .nil pass0 (pa_cons (pv 0) (pa_cons (pe_tup (pa_cons pe_int (pa_cons pe_int (pa_cons pe_int (pa_cons pe_int (pa_cons pe_int (pa_cons (pe_call (ok_draw L.draw.F Bt) hr1 (by rfl) L.draw.g L.draw.F.kp L.draw.b .nil pass0 (pa_cons (pv 0) (pa_cons pe_int pa_nil))) pa_nil))))))) pa_nil))) pa_nil)))))))))
      (pss_one (ps_ret (pe_callTy call_tuple_of (by rfl) Bt.tuple (by decide +kernel) (pa_cons (pv 2) pa_nil)))))), ?_⟩
    refine ⟨_, rfl, rfl, fun q H1 nq eq k1 => ?_⟩
    have F1 := Fr.kp0 k1
    refine ⟨q, shapesK, rfl, .inl eq, fun p np => ?_⟩
    have F2 := F1.new (o := .lst (shapesK.map fun kv => kV kv.1)) np
    have k2 : Kp [d, l] H (upd H1 p (.lst (shapesK.map fun kv => kV kv.1))) := (k1.more (by simp)).trans (.new np)
    have e2 : (upd H1 p (.lst (shapesK.map fun kv => kV kv.1))) p = some (.lst ((rowsL.map (·.1)).map V.str)) := upd_same
    generalize upd H1 p (.lst (shapesK.map fun kv => kV kv.1)) = H2 at F2 k2 e2
    refine ⟨p, rowsL.map (·.1), rfl, sql_of e2, by decide, fun ys p2 perm srt np2 => ?_⟩
    have F3 := F2.new (o := .lst (ys.map V.str)) np2
    have n2 := F2.ne np2
    have k3 : Kp [d, l] H (upd H2 p2 (.lst (ys.map V.str))) := k2.trans (.new np2)
    have ly : ys.length = 15 := perm.length_eq
    refine ⟨d, l, p2, _, rfl, F3.dk, sql_of upd_same, ?_, ?_, n2.1, n2.2, fun x H4 hx D4 k4 => ?_⟩
    · intro e
      have := congrArg List.length e
      rw [List.length_map, ly] at this
      cases this
    · rw [List.length_map, ly]
      decide
    obtain ⟨w0, hw, rfl⟩ := List.mem_map.mp hx
    have F4 := F3.go k4 D4
    have k04 := k3.trans k4
    obtain ⟨pr, hp, rfl⟩ := List.mem_map.mp (perm.mem_iff.mp hw)
    obtain ⟨lo1, lo2⟩ := low_rows pr hp
    obtain ⟨z, hs⟩ : ∃ z, shp pr.1 = some z := by
      cases e : shp pr.1 with
      | none => exact absurd (List.mem_map.mpr ⟨pr, hp, rfl⟩) (shp_none e)
      | some z => exact ⟨z, rfl⟩
    have lz : z.cps.toList.length ≤ 10 := by
      obtain ⟨p, hp, _, rfl⟩ := shp_some hs
      exact shp_sz p hp
    refine ⟨_, rfl, by show 1 ≤ sizeLine; decide, fun D nD => ?_⟩
    have nDm := F4.has.fresh nD
    have nDk := F4.ne nD
    have F5 := F4.new (o := .lst [.str pr.1]) nD
    have k05 : Kp [d, l] H (upd H4 D (.lst [.str pr.1])) := k04.trans (.new nD)
    have e5 : (upd H4 D (.lst [.str pr.1])) D = some (.lst [.str pr.1]) := upd_same
    generalize upd H4 D (.lst [.str pr.1]) = H5 at F5 k05 e5
    refine ⟨rfl, fun q6 H6 nq6 eq6 k6 => ?_⟩
    have F6 := F5.kp0 k6
    have e6 := k6.at_ _ _ e5 List.not_mem_nil
    have k06 : Kp [d, l] H H6 := k05.trans (k6.more (by simp))
    refine ⟨_, rfl, q6, .str z, rfl, by
      have := shapes_dg eq6 pr.1
      rw [hs] at this
      exact this, z, rfl, ?_⟩
    refine for_str (x := z) (YI ms d l D pr.1 H) ⟨⟨none, none, rfl⟩, ⟨[.str pr.1], [.str pr.1], e6, .cons (.str _) .nil, .cons ⟨lo1, Nat.zero_le _, Nat.le_trans lo2 (by decide)⟩ .nil, rfl⟩, F6, k06⟩ ?_ ?_
    · rintro i c σ H7 hc ⟨⟨y0, u0, rfl⟩, ⟨xs, ds, hD, hA, hG, hl⟩, F7, k07⟩
      have hi : i < 10 := Nat.lt_of_lt_of_le (List.getElem?_eq_some_iff.mp hc).1 lz
      have lx := hA.length
      have sub : ∀ x ∈ [d, l], x ∈ D :: ms := fun x hx => List.mem_cons_of_mem _ (F7.sub x hx)
      -- an item put behind
      have fin : ∀ (H8 : Hp) (v : V) (x : PyData) (y u : Option V), An (D :: ms) H8 v x → GoodJ bAny 1 300 x → Frame ms d l H8 → Kp [d, l] H7 H8 →
          H8 D = some (.lst xs) ∧ xs.length < sizeLine ∧ YI ms d l D pr.1 H (i + 1) [some (.ref d), some (.str pr.1), some (.ref D), y, u] (upd H8 D (.lst (xs ++ [v]))) := fun H8 v x y u a g F8 k8 => by
        have hD8 := k8.at_ _ _ hD (by simp [nDk.1, nDk.2])
        have kD : Kp [D] H8 (upd H8 D (.lst (xs ++ [v]))) := .put (by simp) hD8 (fun _ z => by cases z)
        refine ⟨hD8, Nat.lt_of_le_of_lt (show xs.length ≤ 11 by omega) (by decide), ⟨_, _, rfl⟩, ⟨xs ++ [v], ds ++ [x], upd_same, ?_, hG.snoc g, by rw [List.length_append, hl]; rfl⟩, ?_, ?_⟩
        · exact ((hA.kp k8 sub ds).kp kD (by simp) ds).append (.cons (a.kp kD (by simp) x) .nil)
        · refine ⟨F8.dk.kp kD (by simp [nDk.1.symm]) (by simp [nDk.2.symm]), F8.dm, F8.lm, F8.has.kp kD fun b hb => ?_⟩
          rw [List.mem_singleton.mp hb, upd_same]
          exact fun z => nomatch z
        · exact (k07.trans k8).own (k04.free nD (by simp [nDk.1, nDk.2]))
      refine ⟨_, rfl, rfl, _, rfl, ite2 (fun _ => ?_) (fun _ => ?_)⟩
      · refine ⟨_, rfl, .inl ⟨rfl, _, sql_of hD⟩, _, rfl, by show 3 ≤ sizeLine; decide, fun p3 n3 => ?_⟩
        have F8 := F7.new (o := .tup [.str "a", .str "zz", .str "abcdefgh"]) n3
        refine ⟨d, l, p3, _, rfl, F8.dk, upd_same, by simp, by show 3 ≤ 1000000; decide, fun x H9 hx D9 k9 => ?_⟩
        have F9 := F8.go k9 D9
        have k79 : Kp [d, l] H7 H9 := (Kp.new n3).trans k9
        have leaf : ∀ g : Str, x = .str g → (g.cps.toList.all fun c => decide (c < 128)) = true → wd (.str g) ≤ 300 → _ := fun g e h1 h2 => fin H9 (.str g) (.str g) (some (.str (st [c]))) u0 (.str g) ⟨h1, Nat.zero_le _, h2⟩ F9 k79
        simp only [List.mem_cons, List.not_mem_nil, or_false] at hx
        rcases hx with rfl | rfl | rfl
        all_goals
          obtain ⟨f1, f2, f3⟩ := leaf _ rfl (by decide +kernel) (by decide +kernel)
          exact ⟨D, _, _, rfl, rfl, f1, f2, f3⟩
      refine ⟨_, rfl, rfl, _, rfl, ite2 (fun _ => ?_) (fun _ => ?_)⟩
      · refine ⟨_, rfl, .inl ⟨rfl, _, sql_of hD⟩, _, rfl, d, l, 5, rfl, F7.dk, by decide, by decide, fun c1 H8 c0 cm D8 k8 => ?_⟩
        have F8 := F7.go k8 D8
        obtain ⟨m, rfl⟩ : ∃ m : Nat, c1 = (m : Int) := ⟨c1.toNat, by omega⟩
        refine ⟨m, rfl, by omega, by omega, ?_⟩
        rw [Int.toNat_natCast]
        intro D2 nD2
        have nk2 := F8.ne nD2
        refine lc_range (lo := 0) (n := m) (fun j H9 => ∃ ns : List Int, H9 D2 = some (.lst (ns.map V.int)) ∧ (∀ n ∈ ns, n.natAbs < 1000) ∧ ns.length = j ∧ Frame ms d l H9 ∧ Kp [d, l] H8 H9)
          ⟨[], upd_same, fun n hn => absurd hn List.not_mem_nil, rfl, F8.new nD2, .new nD2⟩ ?_ ?_
        · rintro j H9 hj ⟨ns, hD2, hn, hln, F9, k9⟩
          refine ⟨rfl, _, rfl, d, l, 6, rfl, F9.dk, by decide, by decide, fun r H10 r0 r1 D10 k10 => ?_⟩
          have hD3 := k10.at_ _ _ hD2 (by simp [nk2.1, nk2.2])
          refine ⟨_, hD3, Nat.lt_of_le_of_lt (show _ ≤ 10 by rw [List.length_map]; omega) (by decide), ns ++ [r], by rw [upd_same, List.map_append]; rfl, ?_, by rw [List.length_append, hln]; rfl, ?_, ?_⟩
          · intro n hn2
            rcases List.mem_append.mp hn2 with h | h
            · exact hn n h
            · rw [List.mem_singleton.mp h]
              omega
          · have F10 := F9.go k10 D10
            have kD : Kp [D2] H10 (upd H10 D2 (.lst (ns.map V.int ++ [.int r]))) := .put (by simp) hD3 (fun _ z => by cases z)
            refine ⟨F10.dk.kp kD (by simp [nk2.1.symm]) (by simp [nk2.2.symm]), F10.dm, F10.lm, F10.has.kp kD fun b hb => ?_⟩
            rw [List.mem_singleton.mp hb, upd_same]
            exact fun z => nomatch z
          · exact (k9.trans k10).own nD2
        · rintro H9 ⟨ns, hD2, hn, hln, F9, k9⟩
          refine ⟨D2, _, rfl, .inl ⟨sql_of hD2, fun p4 n4 => ?_⟩⟩
          have k49 : Kp [d, l] H7 (upd H9 p4 (.tup (ns.map V.int))) := k8.trans (k9.trans (.new n4))
          obtain ⟨g1, g2, g3⟩ := ints_good ns hn
          obtain ⟨f1, f2, f3⟩ := fin _ (.ref p4) (.tuple (ns.map .int)) (some (.str (st [c]))) u0 (.tup upd_same (ints_an ns)) ⟨g1, by show PyData.depthAll (ns.map .int) + 1 ≤ 1; omega, by show wdAll (ns.map .int) + 3 ≤ 300; omega⟩ (F9.new n4) k49
          exact ⟨D, _, _, rfl, rfl, f1, f2, f3⟩
      · refine ⟨_, rfl, .inl ⟨rfl, _, sql_of hD⟩, _, rfl, _, rfl, d, l, 1000, rfl, F7.dk, by decide, by decide, fun r H8 r0 r1 D8 k8 => ?_⟩
        have F8 := F7.go k8 D8
        refine ⟨by show 6 ≤ sizeLine; decide, fun p3 n3 => ?_⟩
        have F8' := F8.new (o := .tup [.int 0, .int 1, .int 2, .int 7, .int 99, .int r]) n3
        refine ⟨d, l, p3, _, rfl, F8'.dk, upd_same, by simp, by show 6 ≤ 1000000; decide, fun x H9 hx D9 k9 => ?_⟩
        have F9 := F8'.go k9 D9
        have k79 : Kp [d, l] H7 H9 := k8.trans ((Kp.new n3).trans k9)
        obtain ⟨n, rfl, hn⟩ : ∃ n : Int, x = .int n ∧ n.natAbs < 1000 := by
          simp only [List.mem_cons, List.not_mem_nil, or_false] at hx
          rcases hx with rfl | rfl | rfl | rfl | rfl | rfl
          · exact ⟨_, rfl, by decide⟩
          · exact ⟨_, rfl, by decide⟩
          · exact ⟨_, rfl, by decide⟩
          · exact ⟨_, rfl, by decide⟩
          · exact ⟨_, rfl, by decide⟩
          · exact ⟨_, rfl, by omega⟩
        have hb : 1000 ≤ bAny := by decide +kernel
        obtain ⟨f1, f2, f3⟩ := fin H9 (.int n) (.int n) (some (.str (st [c]))) u0 (.int n) ⟨decide_eq_true (Nat.lt_of_lt_of_le hn hb), Nat.zero_le _, by show 45 ≤ 300; decide⟩ F9 k79
        exact ⟨D, _, _, rfl, rfl, f1, f2, f3⟩
    · rintro σ H7 ⟨⟨y0, u0, rfl⟩, ⟨xs, ds, hD, hA, hG, hl⟩, F7, k07⟩
      refine ⟨_, rfl, D, _, rfl, .inl ⟨sql_of hD, fun q nq => ?_⟩⟩
      have kq : Kp [] H7 (upd H7 q (.tup xs)) := .new nq
      obtain ⟨g1, g2, g3⟩ := hG.facts
      have l11 : ds.length ≤ 11 := by omega
      have h3 : (300 + 2) * ds.length ≤ (300 + 2) * 11 := Nat.mul_le_mul_left _ l11
      exact k _ (.tuple ds) _ (.tup upd_same ((hA.mono (fun x hx => List.mem_cons_of_mem _ hx) ds).kp kq (by simp) ds)) ⟨g1, by show PyData.depthAll ds + 1 ≤ 6; omega, by show wdAll ds + 3 ≤ 6000; omega⟩ (F7.new nq) (k07.trans (.new nq))
end
end Ey
set_option maxHeartbeats 4000000
namespace Ey
open PySem PySem.Spec PyProof.Rows L2
abbrev sTried : Stmt := topS 34
abbrev sLaw : Stmt := topS 35
abbrev NT : List Str := ["_law_call", "e"]
theorem scTried : FnScope NT ["_law_call"] (defScope sTried) := ⟨rfl, rfl, rfl, by decide +kernel, rfl, by decide +kernel, by decide +kernel⟩
/-- what is known of the two classes of errors -/
structure XF (K : PySem.W.Frag) (mg : Str → Option Value) (CB CE fB : Addr) : Prop where
  T : PySem.BadRowX.BadRowTxt K mg CB fB
  gE : mg "EyesError" = some (.ref CE)
  says : PySem.OwE.SaysC K CB
  ex : PySem.W.exmOne K (.ref CB) (.ref CE) = some true
  kit : PySem.W.kitOne K (.ref CB) (.ref CB) = some true
/-- the lambda's BadRow, told -/
def EchT (CB : Addr) (Q : VK) : XK := fun cls d H' => cls = .ref CB ∧ ∃ (dd : Addr) (ms : List Addr) (v : V) (x : PyData), d = some dd ∧ H' dd = some (.xd [("thing", v)]) ∧ An ms H' v x ∧ fit x = true ∧ x.depth ≤ 60 ∧ wd x ≤ 400000 ∧
      ∀ z : Addr, H' z = none → Q (.ref z) (upd H' z (.tup [.str "raised", .bl true, .str x.shown]))
def RetT (Q : VK) : VK := fun v H' => [V.str "returned", v].length ≤ sizeLine ∧ ∀ z : Addr, H' z = none → Q (.ref z) (upd H' z (.tup [.str "returned", v]))
def TTried (CB : Addr) : (XK → Hp → VK → Prop) → Hp → VK → Prop := fun tl H Q => tl (EchT CB Q) H (RetT Q)
/-- a wish that knows how many names there are -/
theorem takes_len {X : Cx} {W : WX} (t : Takes X W) : Takes X (fun c d σ H => σ.length = X.N.length → W c d σ H) := fun u s1 z => by
  obtain ⟨a, B, sI, pins, σ, H, cls, d, e, I, z1, z2, z3, z4, z5, z6, w⟩ := z
  exact t u s1 ⟨a, B, sI, pins, σ, H, cls, d, e, I, z1, z2, z3, z4, z5, z6, w I.len⟩
abbrev tryB : List Stmt := match (defBody sTried).getD 0 noSt with
  | .Try b _ _ _ _ => b
  | _ => []
section
variable {X : Cx} {CB CE fB : Addr}
theorem tried_gives {q : Str} {g : Addr} {cdg : Value} (F : XF X.K X.mg CB CE fB) (B : BI X.mg) (hsm : ∃ mm, X.base.Ns sysModules mm) (hg : X.A.guards = some []) (hu : X.A.units + 400 < cLine) :
    LamX.GivesTo X NT "_law_tried" (defScope sTried) g cdg (defBody sTried) "_law_call" q (TTried CB) := by
  intro f c' s H Q tl act hc h
  refine ⟨_, pss_one (ps_try_as (i := 1) (Wout := fun _ _ _ _ => False) (X := (cxOf C8.CX0 X.prog X.w X.K X.mg X.base NT "_law_tried" (defScope sTried) g cdg X.A X.stack s H C8.E0).nox)
      (tb := fun W D σ H => ∃ Ech : XK, (∀ cls d σ' H', Ech cls d H' → σ'.length = 2 → W cls d σ' H') ∧ σ[0]? = some (some (.ref f)) ∧ H c' = some (LamX.CodeO c' q) ∧ tl Ech H (RetT D.rt))
      rfl rfl scTried.nd rfl rfl ⟨rfl, by decide, .inl F.gE⟩ takes0 (fun W pn xe tk _ => ?_)
      (fun a oe cls d pn hz hf => pss_one (ps_ret (pe_tup (pa_cons pe_str (pa_cons (pe_callB (call_isE2 F.says hz hf) (by rfl) B.isi (by decide +kernel) (pa_cons (pv 1) (pa_cons (pe_glob (v := .ref CB) (by rfl) F.T.gC rfl) pa_nil)))
        (pa_cons (pe_ifExp (pt_val (pe_callB (call_isE2 F.says hz hf) (by rfl) B.isi (by decide +kernel) (pa_cons (pv 1) (pa_cons (pe_glob (v := .ref CB) (by rfl) F.T.gC rfl) pa_nil))))
          (pe_callB (cr_reprU hsm hg (by show X.A.units + 3 + 200 < cLine; omega)) (by rfl) B.repr (by decide +kernel) (pa_cons (pe_byBadRow F.T hz hf (pv 1)) pa_nil)) pe_non) pa_nil))))))), ?_⟩
  · refine ⟨fun pins s' σ H' D I h' => ?_⟩
    obtain ⟨Ech, hW, h1, h2, h3⟩ := h'
    have hq : PSs ((cxOf C8.CX0 X.prog X.w X.K X.mg X.base NT "_law_tried" (defScope sTried) g cdg X.A X.stack s H C8.E0).tr pn xe) tryB _ := pss_one (ps_ret (pe_tup (pa_cons pe_str (pa_cons (act _ pn xe Ech _ _ (takes_len tk) hW) pa_nil))))
    exact hq.run pins s' σ H' D I ⟨h1, h2, h3⟩
  · refine ⟨EchT CB Q, fun cls d σ' H' hh hl => ?_, rfl, hc, h⟩
    obtain ⟨rfl, dd, ms, v, x, rfl, hd, ha, hfx, hdx, hwx, k⟩ := hh
    refine ⟨true, F.ex, fun _ a ha2 => ?_, fun q => nomatch q⟩
    match σ', hl with
    | [u0, u1], _ =>
    refine ⟨_, rfl, rfl, dd, _, rfl, hd, .ref CB, .ref CB, true, rfl, fun u r => r, F.kit, ?_⟩
    refine ⟨_, rfl, rfl, dd, _, rfl, hd, .ref CB, .ref CB, true, rfl, fun u r => r, F.kit, _, rfl, iteT ⟨_, rfl, rfl, rfl, dd, v, rfl, hd, ?_⟩⟩
    exact ⟨ms, v, x, rfl, ha, hfx, by omega, by omega, by show 3 ≤ sizeLine; decide, k⟩
end
end Ey
set_option maxHeartbeats 4000000
namespace Ey
open PySem PySem.Spec PyProof.Rows L2
/-! ### what is shown of low data is low -/
def Lw (x : Str) : Prop := ∀ c ∈ x.cps.toList, c < 1000
theorem lw_app {a b : Str} (h : Lw a) (h2 : Lw b) : Lw (a ++ b) := by
  show ∀ c ∈ (a ++ b).cps.toList, c < 1000
  rw [str_eta a, str_eta b, st_app, st_list]
  intro c hc
  rcases List.mem_append.mp hc with q | q
  · exact h c q
  · exact h2 c q
theorem lw_char : ∀ c, c < 128 → ((Builtin.Str.reprChar 39 c).all fun x => decide (x < 1000)) = true ∧ ((Builtin.Str.reprChar 34 c).all fun x => decide (x < 1000)) = true := by decide +kernel
theorem lw_fold (q : Nat) (hq : q = 39 ∨ q = 34) : ∀ (l : List Nat) (acc : Array Nat), (∀ c ∈ l, c < 128) → (∀ c ∈ acc.toList, c < 1000) → ∀ c ∈ (l.foldl (fun out c => out ++ (Builtin.Str.reprChar q c).toArray) acc).toList, c < 1000
  | [], acc, _, h => h
  | x :: r, acc, hl, h => by
    refine lw_fold q hq r _ (fun c hc => hl c (List.mem_cons_of_mem _ hc)) fun c hc => ?_
    rw [Array.toList_append] at hc
    rcases List.mem_append.mp hc with z | z
    · exact h c z
    · obtain ⟨a, b⟩ := lw_char x (hl x List.mem_cons_self)
      rcases hq with rfl | rfl
      · exact of_decide_eq_true (List.all_eq_true.mp a c z)
      · exact of_decide_eq_true (List.all_eq_true.mp b c z)
theorem lw_repr {x : Str} (h : ∀ c ∈ x.cps.toList, c < 128) : Lw (reprText x) := by
  have hq : reprQuote x = 39 ∨ reprQuote x = 34 := by
    unfold reprQuote
    split
    · exact .inr rfl
    · exact .inl rfl
  intro c hc
  have hc : c ∈ ((x.cps.foldl (fun out c => out ++ (Builtin.Str.reprChar (reprQuote x) c).toArray) #[reprQuote x]).push (reprQuote x)).toList := hc
  rw [Array.toList_push, ← Array.foldl_toList] at hc
  have q0 : reprQuote x < 1000 := by omega
  rcases List.mem_append.mp hc with z | z
  · refine lw_fold _ hq _ _ h (fun c hc => ?_) c z
    have : c = reprQuote x := by simpa using hc
    omega
  · have : c = reprQuote x := by simpa using z
    omega
theorem lw_from : ∀ (ts : List Str) (k : Nat) (acc : Str), Lw acc → (∀ t ∈ ts, Lw t) → Lw (textFrom k acc ts)
  | [], _, _, h, _ => h
  | t :: r, k, acc, h, hr => by
    refine lw_from r (k + 1) _ (lw_app (lw_app h ?_) (hr t List.mem_cons_self)) fun x hx => hr x (List.mem_cons_of_mem _ hx)
    by_cases e : k > 0
    · rw [if_pos e]
      unfold Lw
      decide +kernel
    · rw [if_neg e]
      unfold Lw
      decide +kernel
theorem lw_join : ∀ ts : List Str, (∀ t ∈ ts, Lw t) → Lw (Str.join ", " ts)
  | [], _ => by
    unfold Lw
    decide +kernel
  | [x], h => h x List.mem_cons_self
  | x :: y :: r, h => by
    have sep : Lw ", " := by
      unfold Lw
      decide +kernel
    exact lw_app (lw_app (h x List.mem_cons_self) sep) (lw_join (y :: r) fun t ht => h t (List.mem_cons_of_mem _ ht))
mutual
theorem lw_shown {B : Nat} : ∀ d : PyData, fitJ B d = true → Lw d.shown
  | .none, _ => by
    show Lw "None"
    unfold Lw
    decide +kernel
  | .bool b, _ => by
    cases b
    · show Lw "False"
      unfold Lw
      decide +kernel
    · show Lw "True"
      unfold Lw
      decide +kernel
  | .int i, _ => by
    intro c hc
    have h := int_low 0 i
    have q : ((Str.ofString (toString i)).cps.toList.all fun c => decide (c < 128)) = true := h
    have := of_decide_eq_true (List.all_eq_true.mp q c hc)
    omega
  | .str x, h => by
    have q : (x.cps.toList.all fun c => decide (c < 128)) = true := h
    exact lw_repr fun c hc => of_decide_eq_true (List.all_eq_true.mp q c hc)
  | .list ds, h => by
    show Lw (textFrom 0 "[" (PyData.shownAll ds) ++ "]")
    exact lw_app (lw_from _ _ _ (by unfold Lw; decide +kernel) (lw_shownAll ds h)) (by unfold Lw; decide +kernel)
  | .tuple ds, h => by
    show Lw (("(" : Str) ++ Str.join ", " (PyData.shownAll ds) ++ (if (PyData.shownAll ds).length == 1 then ",)" else ")" : String))
    refine lw_app (lw_app (by unfold Lw; decide +kernel) (lw_join _ (lw_shownAll ds h))) ?_
    split <;> (unfold Lw; decide +kernel)
  | .dict ds, h => by
    show Lw (("{" : Str) ++ Str.join ", " (PyData.shownKv ds) ++ "}")
    exact lw_app (lw_app (by unfold Lw; decide +kernel) (lw_join _ (lw_shownKv ds h))) (by unfold Lw; decide +kernel)
theorem lw_shownAll {B : Nat} : ∀ ds : List PyData, fitJAll B ds = true → ∀ t ∈ PyData.shownAll ds, Lw t
  | [], _ => fun t ht => absurd ht List.not_mem_nil
  | x :: r, h => by
    have q : (fitJ B x && fitJAll B r) = true := h
    rw [Bool.and_eq_true] at q
    intro t ht
    have ht : t ∈ x.shown :: PyData.shownAll r := ht
    rcases List.mem_cons.mp ht with rfl | z
    · exact lw_shown x q.1
    · exact lw_shownAll r q.2 t z
theorem lw_shownKv {B : Nat} : ∀ ds : List (PyData × PyData), fitJKv B ds = true → ∀ t ∈ PyData.shownKv ds, Lw t
  | [], _ => fun t ht => absurd ht List.not_mem_nil
  | (k, v) :: r, h => by
    have q : ((fitJ B k && fitJ B v) && fitJKv B r) = true := h
    rw [Bool.and_eq_true, Bool.and_eq_true] at q
    intro t ht
    have ht : t ∈ (k.shown ++ ": " ++ v.shown) :: PyData.shownKv r := ht
    rcases List.mem_cons.mp ht with rfl | z
    · exact lw_app (lw_app (lw_shown k q.1.1) (by unfold Lw; decide +kernel)) (lw_shown v q.1.2)
    · exact lw_shownKv r q.2 t z
end
/-! ### what is due -/
def raD (x : PyData) : PyData := .tuple [.str "raised", .bool true, .str x.shown]
def reD (x : PyData) : PyData := .tuple [.str "returned", x]
def dueR (x : PyData) : PyData := if rowD x = true then reD (readD x) else raD x
def dueS (x : PyData) : PyData := if rowD x = true then reD (setD x) else raD x
end Ey
set_option maxHeartbeats 4000000
namespace Ey
open PySem PySem.Spec L2
/-! ### f(k = v, ..), the parameters told from the last one to the first -/
def gRv {α : Type} (us ws : List α) : List α := match us with
  | [] => ws.reverse
  | _ :: _ => []
theorem vals_rv {xs : List V} {us : List Value} (h : Vals xs us) : Vals xs.reverse us.reverse := by
  induction h with
  | nil => exact .nil
  | cons a _ ih =>
    rw [List.reverse_cons, List.reverse_cons]
    exact ih.append (.cons a .nil)
theorem kb_rv {K : PySem.W.Frag} {fd : FuncData} {ps ks : List Str} (hp : ps ≠ []) (h : ∀ ws : List Value, ws.length = ps.length → bindArgs fd ⟨[], ks.zip ws⟩ = pure (ps.zip ws.reverse)) : KBinds K fd ps ks gRv gRv := by
  refine ⟨fun s us ws _ hl => ?_, fun {vs us zs ws} r1 r2 => ?_⟩
  · cases us with
    | nil => exact .of_eq (h ws (by rw [← hl]; exact (List.length_reverse).symm))
    | cons a r => exact absurd hl (by intro e; exact hp (List.length_eq_zero_iff.mp e.symm))
  · cases r1 with
    | nil => exact vals_rv r2
    | cons _ _ => exact .nil
theorem Fun.rvs {K : PySem.W.Frag} {x qual : Str} {st : Stmt} {f : Addr} {fd : FuncData} {ps ks : List Str} (F : Fun K x qual st f fd) (hp : ps ≠ [])
    (h : ∀ (kV doc pm : Value) (an : Option Addr) (cdv ct : Value) (ws : List Value), ws.length = ps.length → bindArgs (PySem.W.fnOf x qual (defArgs st) (defBody st) (defScope st) .none kV doc pm an cdv ct) ⟨[], ks.zip ws⟩ = pure (ps.zip ws.reverse)) : KBinds K fd ps ks gRv gRv := by
  obtain ⟨oc, od, kV, doc, pm, an, cdv, ct, osl, rfl, lk, _⟩ := F.ex
  exact kb_rv hp (h kV doc pm an cdv ct)
section
variable {X : Cx} {CX : CXT} {k : Nat} {f : Addr} {fd : FuncData} {qs ks : List Str} {sp : Sp} {E : XK} {x : Str} {p pos : Pos} {kws : List Keyword} {tk : TA} {g : List Value → List Value → List Value} {gV : List V → List V → List V}
theorem pe_callKR (F : FnOk X.prog X.w X.K X.mg X.base CX k f fd qs sp) (hr : Room k X.A) (hg : Gl X x) (hm : X.mg x = some (.ref f)) (hk : PySem.W.keepIn X.K (.ref f) = true) (hb : KBinds X.K fd qs ks g gV) (hx : Passes CX X E) (hkw : PK X kws tk)
    (hall : (backToKw pos (keywordEach kws X.env)).all (·.1.isSome) = true := by rfl) (hks : (backToKw pos (keywordEach kws X.env)).filterMap (·.1) = ks := by rfl) (hdb : (x == ("__debug__" : Str)) = false := by decide)
    (hpl : ((backTo pos (starEach [] X.env)).any (·.1) || (backToKw pos (keywordEach kws X.env)).any (·.1.isNone)) = false := by rfl) :
    PE X (.Call (.Name x p) [] kws pos) (tCallK sp gV E tNil tk) := by
  refine ⟨fun pins s σ H Q I h => wpAny_Call_Name_kw (ld_glob I hg hm ?_ hdb)⟩
  refine PySem.W.callWith_KW0 (h₀ := X.base) I.ok.mod.kin hk hall ?_ hpl
  refine thn (hkw.run pos pins s σ H _ I h) fun ws s2 ⟨zs, H2, I2, rz, q2⟩ => ⟨I2.kIn, ?_⟩
  rw [hks]
  exact run_fnk (us := []) (vs := []) F hr hb hx I2 .nil rz q2
end
end Ey
set_option maxHeartbeats 4000000
namespace Ey
open PySem PySem.Spec PyProof.Rows L2 GxR
/-! ### a law whose own code object is known: for its lambdas -/
section
variable {P : Program} {w : World} {K : PySem.W.Frag} {mg : Str → Option Value} {base : Heap}
theorem law_okT {x p : Str} {st : Stmt} {f c : Addr} {fd : FuncData} {N : List Str} {k : Nat} {sp : Sp} (F : DfT K mg x st [p] f fd c) (S : FnScope N [p] (defScope st)) (hr : Room (k + 1) callerA)
    (body : ∀ (s : Shared) (H : Hp) (v : V) (Q : VK), Room k (callerA.deeper (envOfC x (defScope st) s.heap.objs.size f (.ref c))) → sp [v] H Q E0 →
      ∃ t, PSs (cxOf CX0 P w K mg base N x (defScope st) f (.ref c) callerA [] s H E0).nox (defBody st) t ∧ t { nx := fun _ H' => Q .non H', rt := Q } (start N [v]) H) :
    LawOk P w K mg base f fd p sp := by
  obtain ⟨oc, od, kV, doc, pm, an, ct, osl, rfl, lk, code⟩ := F.ex
  intro s H u v Q e0 hb rv hsp
  have inK : K.In s.heap := e0.mod.kin.keeps fun b o e => (e0.bs b o e).1
  have noL : s.heap.NoLimit := e0.mod.nolimit.keeps fun b o e => (e0.bs b o e).1
  have kinds : ∀ y ∈ [p].zip [u], (defScope st).names.lookup y.1 = some .local ∨ ((defScope st).names.lookup y.1 = some .cell ∧ ((cellsFrom (s.heap.objs.size + 1) (defScope st).names []).lookup y.1).isSome = true) := fun ⟨n, z⟩ hy => by
    rcases S.par n (List.of_mem_zip hy).1 with q | q
    · exact .inl q
    · exact .inr ⟨q, PySem.W.cellsFrom_some _ _ _ (.inl q)⟩
  refine codeAny_call_function (Nat.lt_of_le_of_lt (by omega) hr.dp) (inK _ _ lk) rfl S.co S.gen rfl (PySem.W.codeRec_of inK code) (hb _ _ _ _ ?_)
  refine wpAny_newFunctionEnv_cells (binds := [p].zip [u]) S.kind kinds fun env he s1 xc => ?_
  subst he
  refine ⟨noL.keeps xc.toInCall.keep, codeAny_func ?_⟩
  obtain ⟨t, dv, rd⟩ := body s H v Q (hr.deeper _) hsp
  have I := inv_start (CX := CX0) (E := E0) (P := P) (w := w) (K := K) (mg := mg) (base := base) (N := N) (ps := [p]) (A := callerA) (vs := [v]) (us := [u]) S rfl e0 rfl (.cons rv .nil) xc
  refine wpAny_mono (dv.nox.run [] s1 (start N [v]) H _ I rd) (fun fl s' hs => ?_) fun e s' hs => hs
  cases fl with
  | next =>
    obtain ⟨σ', H', J, q⟩ := hs
    exact ⟨V.non, H', J.os, J.bare, J.base, J.hok, rfl, q⟩
  | ret z =>
    obtain ⟨y, σ', H', J, ry, q⟩ := hs
    exact ⟨y, H', J.os, J.bare, J.base, J.hok, ry, q⟩
  | brk =>
    obtain ⟨_, _, _, q⟩ := hs
    exact q.elim
  | cont =>
    obtain ⟨_, _, _, q⟩ := hs
    exact q.elim
end
end Ey
set_option maxHeartbeats 4000000
namespace Ey
open PySem PySem.Spec PyProof.Rows L2
/-! ### what a row reads and sets, in bounds -/
theorem at_mem {α : Type} {z : List Nat} {c : Nat} {r : List α} {x : α} (h : x ∈ at_ z c r) : x ∈ r := by
  unfold at_ at h
  obtain ⟨p, hp, rfl⟩ := List.mem_map.mp h
  exact (List.of_mem_zip (List.mem_filter.mp hp).1).2
theorem goodJ_all {B n w : Nat} : ∀ ds : List PyData, (∀ x ∈ ds, GoodJ B n w x) → GoodJAll B n w ds
  | [], _ => .nil
  | x :: r, h => .cons (h x List.mem_cons_self) (goodJ_all r fun y hy => h y (List.mem_cons_of_mem _ hy))
theorem good_mem {B n w : Nat} {ds : List PyData} (g : GoodJ B n w (.tuple ds)) {x : PyData} (h : x ∈ ds) : GoodJ B n w x := by
  have h1 : fitJAll B ds = true := g.f
  have h2 : PyData.depthAll ds + 1 ≤ n := g.d
  have h3 : wdAll ds + 3 ≤ w := g.w
  have h4 := dep_mem h
  have h5 := wd_mem h
  exact ⟨fitJ_mem h1 h, by omega, by omega⟩
theorem good_tail {B n w : Nat} {y : PyData} {r : List PyData} (g : GoodJ B n w (.tuple (y :: r))) {x : PyData} (h : x ∈ r) : GoodJ B n w x := good_mem g (List.mem_cons_of_mem _ h)
theorem good_none {B n w : Nat} (h : 4 ≤ w) : GoodJ B n w .none := ⟨rfl, Nat.zero_le _, h⟩
theorem read_good {B n w : Nat} {x : PyData} (g : GoodJ B n w x) (hr : rowD x = true) : GoodJ B (n + 1) ((w + 2) * 10 + 10) (readD x) := by
  match x, hr, g with
  | .tuple (.str v :: r), hr, g =>
    show GoodJ _ _ _ (readR v r)
    unfold readR
    by_cases e : v = kCall
    · rw [if_pos e]
      by_cases h : 2 < r.length
      · have e2 : r.getD 2 .none = r[2] := by
          rw [List.getD_eq_getElem?_getD, List.getElem?_eq_getElem h]
          rfl
        rw [e2]
        exact (good_tail g (List.getElem_mem h)).mono (Nat.le_refl _) (Nat.le_succ _) (by omega)
      · have e2 : r.getD 2 .none = .none := by
          rw [List.getD_eq_getElem?_getD, List.getElem?_eq_none (by omega)]
          rfl
        rw [e2]
        exact good_none (by omega)
    · rw [if_neg e]
      have go : ∀ zs : List Nat, zs.length ≤ 10 → GoodJ B (n + 1) ((w + 2) * 10 + 10) (.tuple (at_ zs 115 r)) := fun zs hz => by
        obtain ⟨a, b, c⟩ := (goodJ_all (at_ zs 115 r) fun y hy => good_tail g (at_mem hy)).facts
        have l10 : (at_ zs 115 r).length ≤ 10 := Nat.le_trans (at_len _ _ _) hz
        have hm : (w + 2) * (at_ zs 115 r).length ≤ (w + 2) * 10 := Nat.mul_le_mul_left _ l10
        refine ⟨a, ?_, ?_⟩
        · show PyData.depthAll (at_ zs 115 r) + 1 ≤ n + 1
          omega
        · show wdAll (at_ zs 115 r) + 3 ≤ _
          omega
      cases es : shp v with
      | none => exact go [] (Nat.zero_le _)
      | some z =>
        obtain ⟨p, hp, _, rfl⟩ := shp_some es
        exact go _ (shp_sz p hp)
theorem head_good {B n w : Nat} (hw : 4 ≤ w) : ∀ {ds : List PyData}, (∀ x ∈ ds, GoodJ B n w x) → GoodJ B n w (head0 ds)
  | [], _ => good_none hw
  | x :: _, h => h x List.mem_cons_self
theorem set_good {B n w : Nat} {x : PyData} (g : GoodJ B n w x) (hr : rowD x = true) (hw : 4 ≤ w) : GoodJ B n w (setD x) := by
  match x, hr, g with
  | .tuple (.str v :: r), hr, g =>
    exact head_good hw fun y hy => good_tail g (at_mem hy)
def bLaw : Nat := bAny + 5
/-- what is told of a row, in bounds -/
theorem re_good {n w : Nat} {x : PyData} (g : GoodJ bLaw n w x) : Good (n + 1) (w + 120) (reD x) := by
  have gg := g.good (show bLaw ≤ 10 ^ 40 by decide +kernel)
  have e1 : fit (.str "returned") = true := by decide +kernel
  have e2 : wd (.str "returned") ≤ 100 := by decide +kernel
  refine ⟨?_, ?_, ?_⟩
  · show (fit (.str "returned") && (fit x && true)) = true
    rw [e1, gg.f]
    rfl
  · show max 0 (max x.depth 0) + 1 ≤ n + 1
    have := g.d
    omega
  · show wd (.str "returned") + 2 + (wd x + 2 + 0) + 3 ≤ w + 120
    have := g.w
    omega
theorem ra_good {n w : Nat} {x : PyData} (g : GoodJ bLaw n w x) : Good (n + 1) (10 * w + 200) (raD x) := by
  have gg := g.good (show bLaw ≤ 10 ^ 40 by decide +kernel)
  have e1 : fit (.str "raised") = true := by decide +kernel
  have e2 : wd (.str "raised") ≤ 100 := by decide +kernel
  have hl := (fit_told x gg.f).2
  have lw : fit (.str x.shown) = true := by
    show (x.shown.cps.toList.all fun c => decide (c < 1000)) = true
    rw [List.all_eq_true]
    exact fun c hc => decide_eq_true (lw_shown x g.f c hc)
  refine ⟨?_, ?_, ?_⟩
  · show (fit (.str "raised") && (true && (fit (.str x.shown) && true))) = true
    rw [e1, lw]
    rfl
  · show max 0 (max 0 (max 0 0)) + 1 ≤ n + 1
    omega
  · show wd (.str "raised") + 2 + (5 + 2 + (10 * x.shown.length + 2 + 2 + 0)) + 3 ≤ 10 * w + 200
    have := g.w
    omega
theorem due_good {x : PyData} (g : GoodJ bLaw 12 18000 x) : Good 14 180400 (dueR x) ∧ Good 14 180400 (dueS x) := by
  unfold dueR dueS
  cases e : rowD x with
  | true => exact ⟨(re_good (read_good g e)).mono (by decide) (by decide), (re_good (set_good g e (by decide))).mono (by decide) (by decide)⟩
  | false => exact ⟨(ra_good g).mono (by decide) (by decide), (ra_good g).mono (by decide) (by decide)⟩
theorem pair_good {n w : Nat} {x y : PyData} (a : Good n w x) (b : Good n w y) : Good (n + 1) (2 * w + 7) (.list [x, y]) := by
  refine ⟨?_, ?_, ?_⟩
  · show (fit x && (fit y && true)) = true
    rw [a.f, b.f]
    rfl
  · show max x.depth (max y.depth 0) + 1 ≤ n + 1
    have := a.d
    have := b.d
    omega
  · show wd x + 2 + (wd y + 2 + 0) + 3 ≤ 2 * w + 7
    have := a.w
    have := b.w
    omega
/-! ### what stands all through the law -/
theorem tabS_kp {ms : List Addr} {H H1 : Hp} {P : Addr} {q : Str} (t : LamX.TabS H P q) (k : Kp ms H H1) (hP : P ∉ ms) (hc : ∀ b ∈ ms, ∀ o, H b = some o → ∀ c q, o ≠ LamX.CodeO c q) : LamX.TabS H1 P q := by
  obtain ⟨ps, e, ok, nm⟩ := t
  refine ⟨ps, k.at_ _ _ e hP, ok, fun pos cv h => ?_⟩
  obtain ⟨c, e1, e2⟩ := nm pos cv h
  exact ⟨c, e1, k.at_ _ _ e2 fun hm => hc c hm _ e2 c q rfl⟩
structure LI (Ts : List Addr) (d l PL : Addr) (q : Str) (H : Hp) : Prop where
  fr : Frame (d :: l :: PL :: Ts) d l H
  ts : TTs Ts H
  tl : LamX.TabS H PL q
  nt : PL ∉ Ts
section
variable {Ts : List Addr} {d l PL : Addr} {q : Str} {H H1 : Hp}
theorem LI.pd (h : LI Ts d l PL q H) : PL ≠ d ∧ PL ≠ l := by
  obtain ⟨m, n, ns, h1, h2, _⟩ := h.fr.dk.ex
  obtain ⟨ps, e, _⟩ := h.tl
  exact ⟨ne_of e h1 (by intro z; cases z), ne_of e h2 (by intro z; cases z)⟩
theorem LI.td (h : LI Ts d l PL q H) : d ∉ Ts ∧ l ∉ Ts := by
  obtain ⟨m, n, ns, h1, h2, _⟩ := h.fr.dk.ex
  exact ⟨h.ts.nino h1 (by intro ps z; cases z), h.ts.nino h2 (by intro ps z; cases z)⟩
theorem LI.dl (h : LI Ts d l PL q H) : ∀ b ∈ [d, l], ∀ o, H b = some o → ∀ c q, o ≠ LamX.CodeO c q := fun b hb o e c q z => by
  obtain ⟨m, n, ns, h1, h2, _⟩ := h.fr.dk.ex
  subst z
  rcases List.mem_cons.mp hb with rfl | hb
  · rw [h1] at e
    cases e
  · rw [List.mem_singleton.mp hb, h2] at e
    cases e
/-- a call of the law's own that draws -/
theorem LI.own (h : LI Ts d l PL q H) (k : Kp [d, l] H H1) (F : Frame (d :: l :: PL :: Ts) d l H1) : LI Ts d l PL q H1 := by
  refine ⟨F, h.ts.kp k fun P hP => ?_, tabS_kp h.tl k (by simp [h.pd.1, h.pd.2]) h.dl, h.nt⟩
  intro hm
  rcases List.mem_cons.mp hm with rfl | hm
  · exact h.td.1 hP
  · rw [List.mem_singleton.mp hm] at hP
    exact h.td.2 hP
theorem LI.kp0 (h : LI Ts d l PL q H) (k : Kp [] H H1) : LI Ts d l PL q H1 := ⟨h.fr.kp0 k, h.ts.kp0 k, tabS_kp h.tl k List.not_mem_nil (fun b hb => absurd hb List.not_mem_nil), h.nt⟩
theorem LI.new {p : Addr} {o : HO} (h : LI Ts d l PL q H) (n : H p = none) : LI Ts d l PL q (upd H p o) := h.kp0 (.new n)
/-- a call of the program -/
theorem LI.prog (h : LI Ts d l PL q H) (k : Kp Ts H H1) (g : TTs Ts H1) : LI Ts d l PL q H1 := by
  refine ⟨⟨h.fr.dk.kp k h.td.1 h.td.2, h.fr.dm, h.fr.lm, h.fr.has.kp k fun b hb => ?_⟩, g, tabS_kp h.tl k h.nt (fun b hb o e c q z => ?_), h.nt⟩
  · obtain ⟨ps, e, _⟩ := g b hb
    rw [e]
    exact fun z => nomatch z
  · obtain ⟨ps, e2, _⟩ := h.ts b hb
    rw [e2] at e
    subst z
    exact LamX.codeO_ne ps (Option.some.inj e).symm
/-- a lambda made -/
theorem LI.lam (h : LI Ts d l PL q H) (k : Kp [PL] H H1) (g : LamX.TabS H1 PL q) : LI Ts d l PL q H1 := by
  refine ⟨⟨h.fr.dk.kp k (by simp [h.pd.1.symm]) (by simp [h.pd.2.symm]), h.fr.dm, h.fr.lm, h.fr.has.kp k fun b hb => ?_⟩, h.ts.kp k (fun P hP hm => ?_), g, h.nt⟩
  · obtain ⟨ps, e, _⟩ := g
    rw [List.mem_singleton.mp hb, e]
    exact fun z => nomatch z
  · rw [List.mem_singleton.mp hm] at hP
    exact h.nt hP
end
end Ey
set_option maxHeartbeats 1000000
namespace Ey
open PySem PySem.Spec PyProof.Rows L2
abbrev NL : List Str := ["_law_script", "_law_deck_here", "_law_turn", "_law_row", "_law_due", "_law_told"]
theorem scLaw : FnScope NL ["_law_script"] (defScope sLaw) := ⟨rfl, rfl, rfl, by decide +kernel, rfl, by decide +kernel, by decide +kernel⟩
def fb : Stmt → List Stmt
  | .For _ _ b _ _ => b
  | _ => []
abbrev B1 : List Stmt := fb ((defBody sLaw).getD 1 noSt)
/-- all that the law leans on -/
structure LW (K : PySem.W.Frag) (w : World) (mg : Str → Option Value) (A : Nat → Addr) (D : Nat → FuncData) (a : Adr) (CB CE fB f1 f2 : Addr) (d1 d2 : FuncData) : Prop extends LY K mg A D where
  deck : Df K mg "_law_deck" sDeck ["_law_script"] (A 21) (D 21)
  tried : Df K mg "_law_tried" sTried ["_law_call"] (A 34) (D 34)
  P : PF K w mg a
  R : Df K mg "read_by" sReadBy ["row"] f1 d1
  kR : KBinds K d1 ["row"] ["row"] gRv gRv
  S : Df K mg "set_by" sSetBy ["row"] f2 d2
  kS : KBinds K d2 ["row"] ["row"] gRv gRv
  X : XF K mg CB CE fB
abbrev XL (Pr : Program) (w : World) (K : PySem.W.Frag) (mg : Str → Option Value) (base : Heap) (f c : Addr) (s : Shared) (H0 : Hp) : Cx := (cxOf CX0 Pr w K mg base NL "law" (defScope sLaw) f (.ref c) callerA [] s H0 E0).nox
abbrev qX (Pr : Program) (w : World) (K : PySem.W.Frag) (mg : Str → Option Value) (base : Heap) (f c : Addr) (s : Shared) (H0 : Hp) : Str := (XL Pr w K mg base f c s H0).env.qual ++ ("<lambda>" : Str)
section
variable {ms : List Addr} {H : Hp} {p : Addr}
mutual
theorem An.grow (n : H p = none) : ∀ {v : V} (d : PyData), An ms H v d → An (p :: ms) H v d
  | _, .none, h => by cases h; exact .non
  | _, .bool b, h => by cases h; exact .bl b
  | _, .int i, h => by cases h; exact .int i
  | _, .str x, h => by cases h; exact .str x
  | _, .list ds, h => by
    cases h with
    | lst e nn a => exact .lst e (fun q => (List.mem_cons.mp q).elim (fun z => ne_of_none e n z) nn) (AnAll.grow n ds a)
  | _, .tuple ds, h => by
    cases h with
    | tup e a => exact .tup e (AnAll.grow n ds a)
  | _, .dict ds, h => by
    cases h with
    | dct e nn a => exact .dct e (fun q => (List.mem_cons.mp q).elim (fun z => ne_of_none e n z) nn) (AnKv.grow n ds a)
theorem AnAll.grow (n : H p = none) : ∀ {vs : List V} (ds : List PyData), AnAll ms H vs ds → AnAll (p :: ms) H vs ds
  | _, [], h => by cases h; exact .nil
  | _, d :: r, h => by
    cases h with
    | cons a b => exact .cons (An.grow n d a) (AnAll.grow n r b)
theorem AnKv.grow (n : H p = none) : ∀ {vs : List (Key × V)} (ds : List (PyData × PyData)), AnKv ms H vs ds → AnKv (p :: ms) H vs ds
  | _, [], h => by cases h; exact .nil
  | _, (y, d) :: r, h => by
    cases h with
    | cons a b => exact .cons (An.grow n d a) (AnKv.grow n r b)
end
end
theorem ite_both {c : Bool} {P Q R : Prop} (r : R) (h1 : R → P) (h2 : R → Q) : if c = true then P else Q := by
  cases c
  · exact iteF (h2 r)
  · exact iteT (h1 r)
theorem fn_ex {P : Program} {w : World} {K : PySem.W.Frag} {mg : Str → Option Value} {base : Heap} {CX : CXT} {k : Nat} {f : Addr} {fd : FuncData} {ps : List Str} {sp : List Addr → Sp} (h : ∀ ms, FnOk P w K mg base CX k f fd ps (sp ms)) :
    FnOk P w K mg base CX k f fd ps (fun vs H Q E => ∃ ms, sp ms vs H Q E) :=
  ⟨fun vs H Q E ⟨ms, x⟩ => (h ms).len vs H Q E x, fun A outer s H args us vs Q E a b c d ⟨ms, x⟩ => (h ms).run A outer s H args us vs Q E a b c d x⟩
theorem re_an {ms : List Addr} {n w : Nat} {H : Hp} {v : V} {d : PyData} {Q : VK} (h : An ms H v d) (g : Good n w d) (hn : n ≤ 100) (hw : w ≤ 1000000) (q : Q (.str d.shown) H) : rReprE [v] H Q :=
  ⟨ms, v, d, rfl, h, g.f, Nat.le_trans g.d hn, Nat.le_trans g.w hw, q⟩
/-- a call of the program, told -/
theorem by_told {ms Ts : List Addr} {CB : Addr} {g : PyData → PyData} {v : V} {x : PyData} {H : Hp} {Q : VK} (ha : An ms H v x) (gx : GoodJ bLaw 12 18000 x) (ht : TTs Ts H) (sub : ∀ P ∈ Ts, P ∈ ms)
    (k : ∀ (z : Addr) (H' : Hp), An ms H' (.ref z) (if rowD x = true then reD (g x) else raD x) → TTs Ts H' → Kp Ts H H' → Q (.ref z) H') : ∃ ms, spBy ms Ts CB g [v] H (RetT Q) (EchT CB Q) := by
  have gg := gx.good (show bLaw ≤ 10 ^ 40 by decide +kernel)
  refine ⟨ms, v, x, rfl, ha, Nat.le_trans gx.w (by decide), ht, sub, fun e v' H' a g' k' => ⟨by show 2 ≤ sizeLine; decide, fun z nz => ?_⟩, fun e dd H' hd g' k' => ⟨rfl, dd, ms, v, x, rfl, hd, ha.kp k' sub x, gg.f, Nat.le_trans gg.d (by decide), Nat.le_trans gg.w (by decide), fun z nz => ?_⟩⟩
  · refine k z _ ?_ (g'.kp0 (.new nz)) (k'.trans (.new nz))
    rw [if_pos e]
    exact .tup upd_same (.cons (.str _) (.cons (a.kp (Kp.new (ms := []) nz) (by simp) _) .nil))
  · refine k z _ ?_ (g'.kp0 (.new nz)) (k'.trans (.new nz))
    rw [if_neg (by rw [e]; exact Bool.false_ne_true)]
    exact .tup upd_same (.cons (.str _) (.cons (.bl true) (.cons (.str _) .nil)))
section
variable {Pr : Program} {w : World} {K : PySem.W.Frag} {mg : Str → Option Value} {base : Heap} {A : Nat → Addr} {D : Nat → FuncData} {a : Adr} {CB CE fB f1 f2 : Addr} {d1 d2 : FuncData}
/-- the two calls, asked and compared -/
theorem ask_piece (L : LW K w mg A D a CB CE fB f1 f2 d1 d2) (b : BF base mg a) (hsm : ∃ mm, base.Ns sysModules mm) (f c PL : Addr) (TB : LamX.TabB base mg c PL) (s0 : Shared) (H0 : Hp) (hr : Room 80 (XL Pr w K mg base f c s0 H0).A) :
    ∃ tt, PSs (XL Pr w K mg base f c s0 H0) (B1.drop 4) tt ∧ ∀ (E : Ends) (H : Hp) (d l q : Addr) (v : V) (x : PyData) (i : Int) (x0 x5 : Option V), LI a.Ts d l PL (qX Pr w K mg base f c s0 H0) H → An (d :: l :: PL :: a.Ts) H v x → GoodJ bLaw 12 18000 x → An (d :: l :: PL :: a.Ts) H (.ref q) (.list [dueR x, dueS x]) →
      (∀ (x5 : Option V) (H3 : Hp), LI a.Ts d l PL (qX Pr w K mg base f c s0 H0) H3 → E.nx [x0, some (.ref d), some (.int i), some v, some (.ref q), x5] H3) → tt E [x0, some (.ref d), some (.int i), some v, some (.ref q), x5] H := by
  have B := L.B
  obtain ⟨oc, od, kV, doc, pm, an, cdv, ct, osl, efd, lk, code⟩ := L.tried.F.ex
  have bt := L.tried.b
  rw [efd] at bt lk
  have gR : FnOk Pr w K mg base (L2.CX Pr w) 9 f1 d1 ["row"] (fun vs H Q E => ∃ ms, spBy ms a.Ts CB readD vs H Q E) := fn_ex fun ms => ok_readBy (ms := ms) L.P b L.X.T L.R
  have gS : FnOk Pr w K mg base (L2.CX Pr w) 9 f2 d2 ["row"] (fun vs H Q E => ∃ ms, spBy ms a.Ts CB setD vs H Q E) := fn_ex fun ms => ok_setBy (ms := ms) L.P b L.X.T L.S
  have hun : (XL Pr w K mg base f c s0 H0).A.units + 400 < cLine := by
    have := hr.un
    omega
  refine ⟨_, pss_cons (ps_set (i := 5) scLaw.nd rfl (.inl rfl) (pe_lst (pa_cons (pe_lamK (k := 20) (X := XL Pr w K mg base f c s0 H0) (by rfl) L.tried.g L.tried.F.kp lk code bt scTried rfl (.inl rfl) (tried_gives L.X L.B hsm rfl hun) TB rfl (hr.mono (by decide)) (LamX.lamS_by (sc := defScope sLaw) (by decide +kernel)) rfl (by intro q cl pm cv ctv; rfl)
    (fun A' outer s H E f' c' hr' => pe_ifExp (pt_cmpR op_eq (pe_op op_and (pv 2) pe_int) pe_int (nomark _)) (pe_call (E := E) gR (hr'.mono (by decide)) (by rfl) L.R.g L.R.F.kp L.R.b .nil (passes_call (takes_of rfl rfl rfl rfl) (fun _ _ _ _ h => h)) (by exact (pa_cons (pv 3) pa_nil)))
      (pe_callKR (E := E) gR (hr'.mono (by decide)) (by rfl) L.R.g L.R.F.kp L.kR (passes_call (takes_of rfl rfl rfl rfl) (fun _ _ _ _ h => h)) (by exact (pk_cons (pv 3) pk_nil))))) pa_nil)))
    (pss_cons (ps_expr (pe_bm PySem.F.plainAttrs_list PySem.F.slot_list_append PySem.F.type_list_append mt_append (pv 5) (pa_cons (pe_lamK (k := 20) (X := XL Pr w K mg base f c s0 H0) (by rfl) L.tried.g L.tried.F.kp lk code bt scTried rfl (.inl rfl) (tried_gives L.X L.B hsm rfl hun) TB rfl (hr.mono (by decide)) (LamX.lamS_by (sc := defScope sLaw) (by decide +kernel)) rfl (by intro q cl pm cv ctv; rfl)
    (fun A' outer s H E f' c' hr' => pe_ifExp (pt_cmpR op_eq (pe_op op_and (pv 2) pe_int) pe_int (nomark _)) (pe_call (E := E) gS (hr'.mono (by decide)) (by rfl) L.S.g L.S.F.kp L.S.b .nil (passes_call (takes_of rfl rfl rfl rfl) (fun _ _ _ _ h => h)) (by exact (pa_cons (pv 3) pa_nil)))
      (pe_callKR (E := E) gS (hr'.mono (by decide)) (by rfl) L.S.g L.S.F.kp L.kS (passes_call (takes_of rfl rfl rfl rfl) (fun _ _ _ _ h => h)) (by exact (pk_cons (pv 3) pk_nil))))) pa_nil)))
    (pss_one (ps_if (pt_cmpR op_ne (pe_callB (cr_reprE hsm rfl hr) (by rfl) B.repr (by decide +kernel) (pa_cons (pv 5) pa_nil)) (pe_callB (cr_reprE hsm rfl hr) (by rfl) B.repr (by decide +kernel) (pa_cons (pv 4) pa_nil)) (nomark _)) (pss_one (ps_ret pe_bl)) pss_nil))), ?_⟩
  intro E H d l q v x i x0 x5 I ha gx hq k
  have subT : ∀ P ∈ a.Ts, P ∈ d :: l :: PL :: a.Ts := fun P hP => by simp [hP]
  have subL : ∀ P ∈ [PL], P ∈ d :: l :: PL :: a.Ts := fun P hP => by simp [List.mem_singleton.mp hP]
  -- the first lambda
  refine ⟨I.tl, fun H1 k1 T1 => ?_⟩
  have I1 := I.lam k1 T1
  have ha1 := ha.kp k1 subL x
  have hq1 := hq.kp k1 subL _
  refine ⟨_, rfl, _, _, rfl, rfl, rfl, _, rfl, ite_both ?_ (fun h => ⟨_, rfl, h⟩) (fun h => ⟨_, rfl, h⟩)⟩
  refine by_told ha1 gx I1.ts subT (fun z1 H2 a1 g2 k2 => ?_)
  have I2 := I1.prog k2 g2
  have hv2 := ha1.kp k2 subT x
  have hq2 := hq1.kp k2 subT _
  refine ⟨by show 1 ≤ sizeLine; decide, fun p np => ?_⟩
  have fp := I2.fr.has.fresh np
  have ne : p ≠ d ∧ p ≠ l := I2.fr.ne np
  have I3 := I2.new (o := .lst [.ref z1]) np
  have kp : Kp [] H2 (upd H2 p (.lst [.ref z1])) := .new np
  have ep : (upd H2 p (.lst [.ref z1])) p = some (.lst [.ref z1]) := upd_same
  have hv3 := (hv2.grow np x).kp kp (by simp) x
  generalize upd H2 p (.lst [.ref z1]) = H3 at I3 kp ep hv3
  have pT : p ∉ a.Ts := fun h => fp (by simp [h])
  have pL : p ≠ PL := fun h => fp (by simp [h])
  -- the second lambda
  refine ⟨_, rfl, .inl ⟨rfl, _, sql_of ep⟩, I3.tl, fun H4 k4 T4 => ?_⟩
  have I4 := I3.lam k4 T4
  have ep4 := k4.at_ _ _ ep (by simp [pL])
  have hv4 := hv3.kp k4 (fun P hP => List.mem_cons_of_mem _ (subL P hP)) x
  refine ⟨_, rfl, _, _, rfl, rfl, rfl, _, rfl, ite_both ?_ (fun h => ⟨_, rfl, h⟩) (fun h => ⟨_, rfl, h⟩)⟩
  refine by_told hv4 gx I4.ts (fun P hP => List.mem_cons_of_mem _ (subT P hP)) (fun z2 H5 a2 g5 k5 => ?_)
  have I5 := I4.prog k5 g5
  have ep5 := k5.at_ _ _ ep4 pT
  refine ⟨p, _, _, rfl, rfl, ep5, by show 1 < sizeLine; decide, ?_⟩
  have kD : Kp [p] H5 (upd H5 p (.lst ([.ref z1] ++ [.ref z2]))) := .put (by simp) ep5 (fun _ z => by cases z)
  have k25 : Kp (PL :: a.Ts) H2 H5 := (kp.more (by simp)).trans ((k4.more (by simp)).trans (k5.more (by simp)))
  have k26 : Kp (PL :: a.Ts) H2 (upd H5 p (.lst ([.ref z1] ++ [.ref z2]))) := k25.own np
  have sub2 : ∀ P ∈ PL :: a.Ts, P ∈ d :: l :: PL :: a.Ts := fun P hP => List.mem_cons_of_mem _ (List.mem_cons_of_mem _ hP)
  have I6 : LI a.Ts d l PL (qX Pr w K mg base f c s0 H0) (upd H5 p (.lst ([.ref z1] ++ [.ref z2]))) := by
    refine ⟨⟨I5.fr.dk.kp kD (by simp [ne.1.symm]) (by simp [ne.2.symm]), I5.fr.dm, I5.fr.lm, I5.fr.has.kp kD fun b hb => ?_⟩, I5.ts.kp kD (fun P hP hm => ?_), tabS_kp I5.tl kD (by simp [pL.symm]) (fun b hb o e c q z => ?_), I5.nt⟩
    · rw [List.mem_singleton.mp hb, upd_same]
      exact fun z => nomatch z
    · rw [List.mem_singleton.mp hm] at hP
      exact pT hP
    · rw [List.mem_singleton.mp hb, ep5] at e
      subst z
      cases e
  have b1 := a1.kp k26 sub2 _
  have b2 := (a2.kp kD (by simp) _).mono (ms' := d :: l :: PL :: a.Ts) (fun x hx => List.mem_cons_of_mem _ hx) _
  have b3 := hq2.kp k26 sub2 _
  have e6 : (upd H5 p (.lst ([.ref z1] ++ [.ref z2]))) p = some (.lst [.ref z1, .ref z2]) := upd_same
  generalize upd H5 p (.lst ([.ref z1] ++ [.ref z2])) = H6 at I6 b1 b2 b3 e6
  obtain ⟨gR', gS'⟩ := due_good gx
  have gd := pair_good gR' gS'
  refine ⟨_, rfl, re_an (.lst e6 fp (.cons b1 (.cons b2 .nil))) gd (by decide) (by decide) ?_⟩
  exact ⟨_, rfl, re_an b3 gd (by decide) (by decide) ⟨rfl, _, rfl, iteNS rfl (k _ H6 I6)⟩⟩
end
end Ey
set_option maxHeartbeats 1000000
namespace Ey
open PySem PySem.Spec PyProof.Rows L2
section
variable {Pr : Program} {w : World} {K : PySem.W.Frag} {mg : Str → Option Value} {base : Heap} {A : Nat → Addr} {D : Nat → FuncData} {a : Adr} {CB CE fB f1 f2 : Addr} {d1 d2 : FuncData}
/-- from the row on -/
theorem row_piece (L : LW K w mg A D a CB CE fB f1 f2 d1 d2) (b : BF base mg a) (hsm : ∃ mm, base.Ns sysModules mm) (f c PL : Addr) (TB : LamX.TabB base mg c PL) (s0 : Shared) (H0 : Hp) (hr : Room 80 (XL Pr w K mg base f c s0 H0).A) :
    ∃ tt, PSs (XL Pr w K mg base f c s0 H0) (B1.drop 2) tt ∧ ∀ (E : Ends) (H : Hp) (d l : Addr) (v : V) (x : PyData) (i : Int) (x0 x4 x5 : Option V), LI a.Ts d l PL (qX Pr w K mg base f c s0 H0) H → An (d :: l :: PL :: a.Ts) H v x → GoodJ bLaw 12 18000 x →
      (∀ (x3 x4 x5 : Option V) (H3 : Hp), LI a.Ts d l PL (qX Pr w K mg base f c s0 H0) H3 → E.nx [x0, some (.ref d), some (.int i), x3, x4, x5] H3) → tt E [x0, some (.ref d), some (.int i), some v, x4, x5] H := by
  have B := L.B
  obtain ⟨ta, da, ra⟩ := ask_piece (Pr := Pr) L b hsm f c PL TB s0 H0 hr
  have gI : FnOk Pr w K mg base CX0 3 (A 28) (D 28) ["_law_thing"] (fun vs H Q E => ∃ ms, spL ms rowD vs H Q E) := fn_ex fun ms => ok_lIsRow (ms := ms) L.toLR
  have gR : FnOk Pr w K mg base CX0 2 (A 29) (D 29) ["_law_row"] (fun vs H Q E => ∃ ms, spLRead ms vs H Q E) := fn_ex fun ms => ok_lRead (ms := ms) L.toLR
  have gS : FnOk Pr w K mg base CX0 2 (A 30) (D 30) ["_law_row"] (fun vs H Q E => ∃ ms, spRow ms setD vs H Q E) := fn_ex fun ms => ok_lSet (ms := ms) L.toLR
  refine ⟨_, pss_cons (ps_set (i := 4) scLaw.nd rfl (.inl rfl) (pe_op op_rep (pe_lst (pa_cons (pe_tup (pa_cons pe_str (pa_cons pe_bl (pa_cons (pe_callB (cr_reprE hsm rfl hr) (by rfl) B.repr (by decide +kernel) (pa_cons (pv 3) pa_nil)) pa_nil)))) pa_nil)) pe_int))
    (pss_cons (ps_if (pt_val (pe_call gI (hr.mono (by decide)) (by rfl) L.row.g L.row.F.kp L.row.b .nil pass0 (pa_cons (pv 3) pa_nil)))
      (pss_one (ps_set (i := 4) scLaw.nd rfl (.inl rfl) (pe_lst (pa_cons (pe_tup (pa_cons pe_str (pa_cons (pe_callTy call_tuple_of (by rfl) B.tuple (by decide +kernel) (pa_cons (pe_call gR (hr.mono (by decide)) (by rfl) L.read.g L.read.F.kp L.read.b .nil pass0 (pa_cons (pv 3) pa_nil)) pa_nil)) pa_nil)))
        (pa_cons (pe_tup (pa_cons pe_str (pa_cons (pe_call gS (hr.mono (by decide)) (by rfl) L.set.g L.set.F.kp L.set.b .nil pass0 (pa_cons (pv 3) pa_nil)) pa_nil))) pa_nil))))) pss_nil) da), ?_⟩
  intro E H d l v x i x0 x4 x5 I ha gx k
  have gg := gx.good (show bLaw ≤ 10 ^ 40 by decide +kernel)
  let M := d :: l :: PL :: a.Ts
  refine ⟨_, rfl, M, v, x, rfl, ha, gg.f, Nat.le_trans gg.d (by decide), Nat.le_trans gg.w (by decide), by show 3 ≤ sizeLine; decide, fun t nt => ?_⟩
  have I1 := I.new (o := .tup [.str "raised", .bl true, .str x.shown]) nt
  have k1 : Kp [] H (upd H t (.tup [.str "raised", .bl true, .str x.shown])) := .new nt
  have e1 : (upd H t (.tup [.str "raised", .bl true, .str x.shown])) t = some (.tup [.str "raised", .bl true, .str x.shown]) := upd_same
  generalize upd H t (.tup [.str "raised", .bl true, .str x.shown]) = H1 at I1 k1 e1
  refine ⟨by show 1 ≤ sizeLine; decide, fun p1 n1 => ?_⟩
  have I2 := I1.new (o := .lst [.ref t]) n1
  have k2 : Kp [] H1 (upd H1 p1 (.lst [.ref t])) := .new n1
  have e2 : (upd H1 p1 (.lst [.ref t])) p1 = some (.lst [.ref t]) := upd_same
  generalize upd H1 p1 (.lst [.ref t]) = H2 at I2 k2 e2
  refine ⟨p1, 2, _, rfl, rfl, e2, by decide, by decide, by show 1 * 2 ≤ sizeLine; decide, fun p2 n2 => ?_⟩
  have I3 := I2.new (o := .lst [.ref t, .ref t]) n2
  have k3 : Kp [] H2 (upd H2 p2 (.lst [.ref t, .ref t])) := .new n2
  have e3 : (upd H2 p2 (.lst [.ref t, .ref t])) p2 = some (.lst [.ref t, .ref t]) := upd_same
  have f2 := I2.fr.has.fresh n2
  show (_ : Prop)
  have er : (List.replicate (2 : Int).toNat [V.ref t]).flatten = [V.ref t, V.ref t] := rfl
  rw [er]
  generalize upd H2 p2 (.lst [.ref t, .ref t]) = H3 at I3 k3 e3
  have k13 := k2.trans k3
  have k03 := k1.trans k13
  have ha3 := ha.kp k03 (by simp) x
  have at3 : An M H3 (.ref t) (raD x) := .tup (k13.tup _ _ e1) (.cons (.str _) (.cons (.bl true) (.cons (.str _) .nil)))
  refine ⟨_, rfl, M, v, x, rfl, ha3, Nat.le_trans gg.w (by decide), fun H4 k4 => ⟨_, rfl, ?_⟩⟩
  have I4 := I3.kp0 k4
  have ha4 := ha3.kp k4 (by simp) x
  cases er : rowD x with
  | false =>
    refine iteF ?_
    have hdue : An M H4 (.ref p2) (.list [dueR x, dueS x]) := by
      unfold dueR dueS
      rw [er]
      have z := at3.kp k4 (by simp) _
      exact .lst (k4.at_ _ _ e3 List.not_mem_nil) f2 (.cons z (.cons z .nil))
    exact ra E H4 d l p2 v x i x0 x5 I4 ha4 gx hdue fun x5 H5 I5 => k _ _ _ H5 I5
  | true =>
    refine iteT ?_
    refine ⟨_, rfl, M, v, x, rfl, ha4, er, Nat.le_trans gg.w (by decide), fun q5 H5 us es hes nq5 e5 a5 k5 => ?_⟩
    have I5 := I4.kp0 k5
    have ha5 := ha4.kp k5 (by simp) x
    refine ⟨q5, _, rfl, .inl ⟨sql_of e5, fun t6 n6 => ?_⟩⟩
    have k6 : Kp [] H5 (upd H5 t6 (.tup us)) := .new n6
    have I6 := I5.new (o := .tup us) n6
    have e6 : (upd H5 t6 (.tup us)) t6 = some (.tup us) := upd_same
    have a6 := a5.kp k6 (by simp) es
    have ha6 := ha5.kp k6 (by simp) x
    generalize upd H5 t6 (.tup us) = H6 at k6 I6 e6 a6 ha6
    have ar : An M H6 (.ref t6) (readD x) := by
      rw [hes]
      exact .tup e6 a6
    refine ⟨by show 2 ≤ sizeLine; decide, fun t7 n7 => ?_⟩
    have k7 : Kp [] H6 (upd H6 t7 (.tup [.str "returned", .ref t6])) := .new n7
    have I7 := I6.new (o := .tup [.str "returned", .ref t6]) n7
    have e7 : (upd H6 t7 (.tup [.str "returned", .ref t6])) t7 = some (.tup [.str "returned", .ref t6]) := upd_same
    have ar7 := ar.kp k7 (by simp) _
    have ha7 := ha6.kp k7 (by simp) x
    generalize upd H6 t7 (.tup [.str "returned", .ref t6]) = H7 at k7 I7 e7 ar7 ha7
    have aR : An M H7 (.ref t7) (reD (readD x)) := .tup e7 (.cons (.str _) (.cons ar7 .nil))
    refine ⟨_, rfl, M, v, x, rfl, ha7, er, fun v8 H8 a8 k8 => ?_⟩
    have I8 := I7.kp0 k8
    have aR8 := aR.kp k8 (by simp) _
    have ha8 := ha7.kp k8 (by simp) x
    refine ⟨by show 2 ≤ sizeLine; decide, fun t9 n9 => ?_⟩
    have k9 : Kp [] H8 (upd H8 t9 (.tup [.str "returned", v8])) := .new n9
    have I9 := I8.new (o := .tup [.str "returned", v8]) n9
    have e9 : (upd H8 t9 (.tup [.str "returned", v8])) t9 = some (.tup [.str "returned", v8]) := upd_same
    have a9 := a8.kp k9 (by simp) _
    have aR9 := aR8.kp k9 (by simp) _
    have ha9 := ha8.kp k9 (by simp) x
    generalize upd H8 t9 (.tup [.str "returned", v8]) = H9 at k9 I9 e9 a9 aR9 ha9
    have aS : An M H9 (.ref t9) (reD (setD x)) := .tup e9 (.cons (.str _) (.cons a9 .nil))
    refine ⟨by show 2 ≤ sizeLine; decide, fun p10 n10 => ?_⟩
    have f10 := I9.fr.has.fresh n10
    have k10 : Kp [] H9 (upd H9 p10 (.lst [.ref t7, .ref t9])) := .new n10
    have I10 := I9.new (o := .lst [.ref t7, .ref t9]) n10
    have e10 : (upd H9 p10 (.lst [.ref t7, .ref t9])) p10 = some (.lst [.ref t7, .ref t9]) := upd_same
    have aR10 := aR9.kp k10 (by simp) _
    have aS10 := aS.kp k10 (by simp) _
    have ha10 := ha9.kp k10 (by simp) x
    generalize upd H9 p10 (.lst [.ref t7, .ref t9]) = H10 at k10 I10 e10 aR10 aS10 ha10
    have hdue : An M H10 (.ref p10) (.list [dueR x, dueS x]) := by
      unfold dueR dueS
      rw [er]
      exact .lst e10 f10 (.cons aR10 (.cons aS10 .nil))
    exact ra E H10 d l p10 v x i x0 x5 I10 ha10 gx hdue fun x5 H5 I5 => k _ _ _ H5 I5
/-- from the bending on -/
theorem bent_piece (L : LW K w mg A D a CB CE fB f1 f2 d1 d2) (b : BF base mg a) (hsm : ∃ mm, base.Ns sysModules mm) (f c PL : Addr) (TB : LamX.TabB base mg c PL) (s0 : Shared) (H0 : Hp) (hr : Room 80 (XL Pr w K mg base f c s0 H0).A) :
    ∃ tt, PSs (XL Pr w K mg base f c s0 H0) (B1.drop 1) tt ∧ ∀ (E : Ends) (H : Hp) (d l : Addr) (v : V) (x : PyData) (i : Int) (x0 x4 x5 : Option V), LI a.Ts d l PL (qX Pr w K mg base f c s0 H0) H → An (d :: l :: PL :: a.Ts) H v x → GoodJ bAny 6 6000 x →
      (∀ (x3 x4 x5 : Option V) (H3 : Hp), LI a.Ts d l PL (qX Pr w K mg base f c s0 H0) H3 → E.nx [x0, some (.ref d), some (.int i), x3, x4, x5] H3) → tt E [x0, some (.ref d), some (.int i), some v, x4, x5] H := by
  have B := L.B
  obtain ⟨tr, dr, rr⟩ := row_piece (Pr := Pr) L b hsm f c PL TB s0 H0 hr
  refine ⟨_, pss_cons (ps_if (pt_cmpR op_eq (pe_call (ok_draw L.draw.F B) (hr.mono (by decide)) (by rfl) L.draw.g L.draw.F.kp L.draw.b .nil pass0 (pa_cons (pv 1) (pa_cons pe_int pa_nil))) pe_int (nomark _))
    (pss_one (ps_set (i := 3) scLaw.nd rfl (.inr rfl) (pe_call (ok_bent L.toLB 3) (hr.mono (by decide)) (by rfl) L.bent.g L.bent.F.kp L.bent.b .nil pass0 (pa_cons (pv 1) (pa_cons (pv 3) (pa_cons pe_int pa_nil)))))) pss_nil) dr, ?_⟩
  intro E H d l v x i x0 x4 x5 I ha gx k
  refine ⟨_, rfl, d, l, 3, rfl, I.fr.dk, by decide, by decide, fun r H1 r0 r1 D1 k1 => ⟨rfl, _, rfl, ite2 (fun _ => ?_) (fun _ => ?_)⟩⟩
  · have F1 := I.fr.go k1 D1
    have I1 := I.own k1 F1
    have ha1 := ha.kp k1 I.fr.sub x
    refine ⟨_, rfl, _, rfl, d, l, _, v, x, 2, bAny, rfl, by decide, ha1, gx.f, Nat.le_refl _, by decide +kernel, Nat.le_trans gx.w (by decide), F1, fun v2 x2 H2 a2 g2 F2 k2 => ?_⟩
    refine rr E H2 d l v2 x2 i x0 x4 x5 (I1.own k2 F2) a2 (g2.mono (Nat.le_refl _) ?_ ?_) k
    · have := gx.d
      omega
    · have := gx.w
      omega
  · have F1 := I.fr.go k1 D1
    exact rr E H1 d l v x i x0 x4 x5 (I.own k1 F1) (ha.kp k1 I.fr.sub x) (gx.mono (by decide +kernel) (by decide) (by decide)) k
def spLaw (K : PySem.W.Frag) (Ts : List Addr) (PL : Addr) (q : Str) : Sp := fun vs H Q _ => ∃ (a : Addr) (ns : List Int), vs = [.ref a] ∧ SqL K H a (ns.map V.int) ∧ ns.length ≤ 63 ∧ TTs Ts H ∧ H PL = some (.tbl #[]) ∧ PL ∉ Ts ∧ ∀ H', Q (.bl true) H'
theorem ok_law {f c PL : Addr} {fd : FuncData} (F : DfT K mg "law" sLaw ["_law_script"] f fd c) (L : LW K w mg A D a CB CE fB f1 f2 d1 d2) (b : BF base mg a) (TB : LamX.TabB base mg c PL) (hsm : ∃ mm, base.Ns sysModules mm) : LawOk Pr w K mg base f fd "_law_script" (spLaw K a.Ts PL "") := by
  refine law_okT (k := 80) F scLaw ⟨rfl, by decide, by decide⟩ fun s H v Q hr h => ?_
  obtain ⟨sc, ns, e, hS, hn, gT, gL, hnt, k⟩ := h
  cases e
  have B := L.B
  obtain ⟨tb, db, rb⟩ := bent_piece (Pr := Pr) L b hsm f c PL TB s H hr
  refine ⟨_, pss_cons (ps_set (i := 1) scLaw.nd rfl (.inl rfl) (pe_call (ok_deck L.deck.F B) (hr.mono (by decide)) (by rfl) L.deck.g L.deck.F.kp L.deck.b .nil pass0 (pa_cons (pv 0) pa_nil)))
    (pss_cons (ps_for PassesOwn.never rfl (pi_range1 (by rfl) B.range (pa_cons pe_int pa_nil)) (pg_name (i := 2) scLaw.nd rfl (.inr rfl))
      (pss_cons (ps_set (i := 3) scLaw.nd rfl (.inr rfl) (pe_ifExp (pt_cmpR op_gt (pe_call (ok_draw L.draw.F B) (hr.mono (by decide)) (by rfl) L.draw.g L.draw.F.kp L.draw.b .nil pass0 (pa_cons (pv 1) (pa_cons pe_int pa_nil))) pe_int (nomark _))
        (pe_call (ok_anyRow L.toLY) (hr.mono (by decide)) (by rfl) L.arow.g L.arow.F.kp L.arow.b .nil pass0 (pa_cons (pv 1) pa_nil))
        (pe_call (ok_any L.toLH L.any 3) (hr.mono (by decide)) (by rfl) L.any.g L.any.F.kp L.any.b .nil pass0 (pa_cons (pv 1) (pa_cons pe_int pa_nil)))))
      db))
    (pss_one (ps_ret pe_bl))), ?_⟩
  refine ⟨_, rfl, sc, ns, rfl, hS, hn, fun d l H1 D1 k1 nd nl => ?_⟩
  have hT1 := gT.kp0 k1
  have hL1 := k1.at_ _ _ gL List.not_mem_nil
  have I1 : LI a.Ts d l PL (qX Pr w K mg base f c s H) H1 := by
    refine ⟨⟨D1, by simp, by simp, fun x hx => ?_⟩, hT1, LamX.TabS.nil hL1, hnt⟩
    obtain ⟨m, n, ns2, h1, h2, _⟩ := D1.ex
    rcases List.mem_cons.mp hx with rfl | hx
    · rw [h1]
      exact fun z => nomatch z
    rcases List.mem_cons.mp hx with rfl | hx
    · rw [h2]
      exact fun z => nomatch z
    rcases List.mem_cons.mp hx with rfl | hx
    · rw [hL1]
      exact fun z => nomatch z
    · obtain ⟨ps, e, _⟩ := hT1 x hx
      rw [e]
      exact fun z => nomatch z
  refine ⟨14, rfl, by decide, by decide, ?_⟩
  refine for_range (lo := 0) (n := 14) (fun i σ H2 => ∃ (x2 x3 x4 x5 : Option V), σ = [some (.ref sc), some (.ref d), x2, x3, x4, x5] ∧ LI a.Ts d l PL (qX Pr w K mg base f c s H) H2)
    ⟨_, _, _, _, rfl, I1⟩ ?_ ?_
  · rintro i σ H2 hi ⟨x2, x3, x4, x5, rfl, I⟩
    refine ⟨_, rfl, d, l, 8, rfl, I.fr.dk, by decide, by decide, fun r H3 r0 r1 D3 k3 => ⟨_, _, rfl, rfl, _, rfl, ite2 (fun _ => ?_) (fun _ => ?_)⟩⟩
    · have F3 := I.fr.go k3 D3
      have I3 := I.own k3 F3
      refine ⟨_, rfl, d, l, _, rfl, F3, fun v x H4 a4 g4 F4 k4 => ?_⟩
      refine rb _ H4 d l v x _ _ _ _ (I3.own k4 F4) a4 g4 fun y3 y4 y5 H5 I5 => ?_
      exact ⟨_, _, _, _, rfl, I5⟩
    · have F3 := I.fr.go k3 D3
      have I3 := I.own k3 F3
      refine ⟨_, rfl, d, l, _, 2, rfl, by decide, F3, fun v x H4 a4 g4 F4 k4 => ?_⟩
      refine rb _ H4 d l v x _ _ _ _ (I3.own k4 F4) a4 (g4.mono (Nat.le_refl _) (by decide) (by decide)) fun y3 y4 y5 H5 I5 => ?_
      exact ⟨_, _, _, _, rfl, I5⟩
  · rintro σ H2 ⟨x2, x3, x4, x5, rfl, I⟩
    exact k H2
end
end Ey
/-! ### the end -/
namespace Ey
open PySem PySem.Spec L2
/-- what the head tells of one def -/
structure DfK (K : PySem.W.Frag) (x : Str) (st : Stmt) (f : Addr) (oc kV dc pm cd ct : Value) (od an : Option Addr) (sl : Array (Option Value)) : Prop where
  a : PySem.W.nsIn K mainGlobals x = some (some (.ref f))
  l : K.lookup f = some ⟨oc, od, .func (PySem.W.fnOf x x (defArgs st) (defBody st) (defScope st) .none kV dc pm an cd ct), sl⟩
  c : PySem.W.codeIn K cd x = true
  k : PySem.W.keepIn K (.ref f) = true
theorem DfK.df {K : PySem.W.Frag} {x : Str} {st : Stmt} {f : Addr} {oc kV dc pm cd ct : Value} {od an : Option Addr} {sl : Array (Option Value)} {mg : Str → Option Value} {h : Heap} {ps : List Str} (e : DfK K x st f oc kV dc pm cd ct od an sl) (X : K.In h) (G : h.Ns mainGlobals mg)
    (hb : ∀ (kV doc pm : Value) (an : Option Addr) (cdv ct : Value) (us : List Value), us.length = ps.length → bindArgs (PySem.W.fnOf x x (defArgs st) (defBody st) (defScope st) .none kV doc pm an cdv ct) ⟨us, []⟩ = pure (ps.zip us)) :
    Df K mg x st ps f (PySem.W.fnOf x x (defArgs st) (defBody st) (defScope st) .none kV dc pm an cd ct) :=
  ⟨fun_mk e.l e.c e.k, (fun_mk e.l e.c e.k).binds hb, PySem.W.mg_of X G e.a⟩


abbrev sBR : Stmt := inClass (topS 2) 0

set_option maxHeartbeats 8000000 in
theorem all_mk {P : Program} {q : Program} {lo : List Str} {mean : ExcName → Option Value} {w : World} {K : PySem.W.Frag} {h : Heap} {mg mb : Str → Option Value} {fa : Addr} (X : K.In h) (T : PyProof.Rows.Top q lo mean mg mb h) (hfa : mg "law" = some (.ref fa))
    {c0 P0 c1 P1 c2 P2 c3 P3 aS CB CE fB : Addr} {dr0 dr1 dr2 dr3 : DefRec} {es : Array DictEntry} {nS : Nat} {tL tT ts0 ts1 ts2 ts3 ts4 ts5 ts6 ts7 ts8 ts9 ts10 ts11 ts12 ts13 ts14 : Tok}
    {f4 f5 f9 f12 f13 f14 f15 f16 f18 f19 f21 f22 f23 f24 f25 f26 f27 f28 f29 f30 f31 f32 f33 f34 f35 : Addr}
    {oc4 kV4 dc4 pm4 ct4 cd4 oc5 kV5 dc5 pm5 ct5 cd5 oc9 kV9 dc9 pm9 ct9 oc12 kV12 dc12 pm12 ct12 oc13 kV13 dc13 pm13 ct13 oc14 kV14 dc14 pm14 ct14 cd14 oc15 kV15 dc15 pm15 ct15 cd15 oc16 kV16 dc16 pm16 ct16 cd16 oc18 kV18 dc18 pm18 ct18 cd18 oc19 kV19 dc19 pm19 ct19 cd19 oc21 kV21 dc21 pm21 ct21 cd21 oc22 kV22 dc22 pm22 ct22 cd22 oc23 kV23 dc23 pm23 ct23 cd23 oc24 kV24 dc24 pm24 ct24 cd24 oc25 kV25 dc25 pm25 ct25 cd25 oc26 kV26 dc26 pm26 ct26 cd26 oc27 kV27 dc27 pm27 ct27 cd27 oc28 kV28 dc28 pm28 ct28 cd28 oc29 kV29 dc29 pm29 ct29 cd29 oc30 kV30 dc30 pm30 ct30 cd30 oc31 kV31 dc31 pm31 ct31 cd31 oc32 kV32 dc32 pm32 ct32 cd32 oc33 kV33 dc33 pm33 ct33 cd33 oc34 kV34 dc34 pm34 ct34 cd34 oc35 kV35 dc35 pm35 ct35 : Value}
    {od4 an4 od5 an5 od9 an9 od12 an12 od13 an13 od14 an14 od15 an15 od16 an16 od18 an18 od19 an19 od21 an21 od22 an22 od23 an23 od24 an24 od25 an25 od26 an26 od27 an27 od28 an28 od29 an29 od30 an30 od31 an31 od32 an32 od33 an33 od34 an34 od35 an35 odB anB : Option Addr}
    {sl4 sl5 sl9 sl12 sl13 sl14 sl15 sl16 sl18 sl19 sl21 sl22 sl23 sl24 sl25 sl26 sl27 sl28 sl29 sl30 sl31 sl32 sl33 sl34 sl35 slB : Array (Option Value)}
    {nmB qB : Str} {NB : Addr} {bsB : List Value} {snB : List Str} {subB : List Value} {abB : Bool} {colB : Option Bool} {ddB : Option Addr} {mB0 mB1 mB2 mB3 mB5 : Option Value} {ocB dcB pmB cdB ctB : Value}
    (e4 : DfK K "is_plain_int" sPlain f4 oc4 kV4 dc4 pm4 cd4 ct4 od4 an4 sl4)
    (e5 : DfK K "is_natural" sNat f5 oc5 kV5 dc5 pm5 cd5 ct5 od5 an5 sl5)
    (e9 : DfK K "is_tag" sIsTag f9 oc9 kV9 dc9 pm9 (.ref c0) ct9 od9 an9 sl9)
    (e12 : DfK K "is_item" sItem f12 oc12 kV12 dc12 pm12 (.ref c1) ct12 od12 an12 sl12)
    (e13 : DfK K "is_row" sRow f13 oc13 kV13 dc13 pm13 (.ref c2) ct13 od13 an13 sl13)
    (e14 : DfK K "items_at" sItems f14 oc14 kV14 dc14 pm14 cd14 ct14 od14 an14 sl14)
    (e15 : DfK K "registers_read" sRRead f15 oc15 kV15 dc15 pm15 cd15 ct15 od15 an15 sl15)
    (e16 : DfK K "register_set" sRSet f16 oc16 kV16 dc16 pm16 cd16 ct16 od16 an16 sl16)
    (e18 : DfK K "read_by" sReadBy f18 oc18 kV18 dc18 pm18 cd18 ct18 od18 an18 sl18)
    (e19 : DfK K "set_by" sSetBy f19 oc19 kV19 dc19 pm19 cd19 ct19 od19 an19 sl19)
    (e21 : DfK K "_law_deck" sDeck f21 oc21 kV21 dc21 pm21 cd21 ct21 od21 an21 sl21)
    (e22 : DfK K "_law_draw" sDraw f22 oc22 kV22 dc22 pm22 cd22 ct22 od22 an22 sl22)
    (e23 : DfK K "_law_pick" sPick f23 oc23 kV23 dc23 pm23 cd23 ct23 od23 an23 sl23)
    (e24 : DfK K "_law_is_integer" sLInt f24 oc24 kV24 dc24 pm24 cd24 ct24 od24 an24 sl24)
    (e25 : DfK K "_law_is_number" sLNum f25 oc25 kV25 dc25 pm25 cd25 ct25 od25 an25 sl25)
    (e26 : DfK K "_law_is_tag" sLIsTag f26 oc26 kV26 dc26 pm26 cd26 ct26 od26 an26 sl26)
    (e27 : DfK K "_law_shapes" sShapes f27 oc27 kV27 dc27 pm27 cd27 ct27 od27 an27 sl27)
    (e28 : DfK K "_law_is_row" sLIsRow f28 oc28 kV28 dc28 pm28 cd28 ct28 od28 an28 sl28)
    (e29 : DfK K "_law_read" sLRead f29 oc29 kV29 dc29 pm29 cd29 ct29 od29 an29 sl29)
    (e30 : DfK K "_law_set" sLSet f30 oc30 kV30 dc30 pm30 cd30 ct30 od30 an30 sl30)
    (e31 : DfK K "_law_any" sAny f31 oc31 kV31 dc31 pm31 cd31 ct31 od31 an31 sl31)
    (e32 : DfK K "_law_bent" sBent f32 oc32 kV32 dc32 pm32 cd32 ct32 od32 an32 sl32)
    (e33 : DfK K "_law_any_row" sAnyRow f33 oc33 kV33 dc33 pm33 cd33 ct33 od33 an33 sl33)
    (e34 : DfK K "_law_tried" sTried f34 oc34 kV34 dc34 pm34 cd34 ct34 od34 an34 sl34)
    (e35 : DfK K "law" sLaw f35 oc35 kV35 dc35 pm35 (.ref c3) ct35 od35 an35 sl35)
    (z_int : PySem.W.nsIn K mainGlobals "int" = some none)
    (z_max : PySem.W.nsIn K mainGlobals "max" = some none)
    (z_list : PySem.W.nsIn K mainGlobals "list" = some none)
    (z_len : PySem.W.nsIn K mainGlobals "len" = some none)
    (z_range : PySem.W.nsIn K mainGlobals "range" = some none)
    (z_tuple : PySem.W.nsIn K mainGlobals "tuple" = some none)
    (z_sorted : PySem.W.nsIn K mainGlobals "sorted" = some none)
    (z_repr : PySem.W.nsIn K mainGlobals "repr" = some none)
    (z_isi : PySem.W.nsIn K mainGlobals "isinstance" = some none)
    (z_str : PySem.W.nsIn K mainGlobals "str" = some none)
    (z_all : PySem.W.nsIn K mainGlobals "all" = some none)
    (z_bool : PySem.W.nsIn K mainGlobals "bool" = some none)
    (z_zip : PySem.W.nsIn K mainGlobals "zip" = some none)
    (tb0 : PySem.W.tabIn K "is_tag" = some (c0, P0)) (rc0 : (PyProof.Rows.recsOf q).find? (fun e => e.name == ("is_tag" : Str)) = some dr0) (nT0 : K.lookup P0 = none)
    (tb1 : PySem.W.tabIn K "is_item" = some (c1, P1)) (rc1 : (PyProof.Rows.recsOf q).find? (fun e => e.name == ("is_item" : Str)) = some dr1) (nT1 : K.lookup P1 = none)
    (tb2 : PySem.W.tabIn K "is_row" = some (c2, P2)) (rc2 : (PyProof.Rows.recsOf q).find? (fun e => e.name == ("is_row" : Str)) = some dr2) (nT2 : K.lookup P2 = none)
    (tb3 : PySem.W.tabIn K "law" = some (c3, P3)) (rc3 : (PyProof.Rows.recsOf q).find? (fun e => e.name == ("law" : Str)) = some dr3) (nT3 : K.lookup P3 = none)
    (hPL : P3 ∉ [P0, P1, P2])
    (gL : PySem.W.nsIn K mainGlobals "LETTERS" = some (some (.str "abcdefghijklmnopqrstuvwxyz" tL))) (gT : PySem.W.nsIn K mainGlobals "TAG_LENGTH" = some (some (.int 8 tT)))
    (gS : PySem.W.nsIn K mainGlobals "ROW_SHAPES" = some (some (.ref aS))) (lS : K.lookup aS = some ⟨.type "dict", none, .dict es nS, #[]⟩) (kS : PySem.W.KeysLit w.params es.toList) (sS : (aS == sysModules) = false)
    (mS : es.toList.map keyS = (rowsL.map (·.1)).map some) (sg0 : PySem.W.nsIn K aS "top" = some (some (.str "d" ts0))) (sg1 : PySem.W.nsIn K aS "move" = some (some (.str "ds" ts1))) (sg2 : PySem.W.nsIn K aS "left" = some (some (.str "ds" ts2))) (sg3 : PySem.W.nsIn K aS "right" = some (some (.str "ds" ts3))) (sg4 : PySem.W.nsIn K aS "up" = some (some (.str "ds" ts4))) (sg5 : PySem.W.nsIn K aS "yes" = some (some (.str "d" ts5))) (sg6 : PySem.W.nsIn K aS "no" = some (some (.str "d" ts6))) (sg7 : PySem.W.nsIn K aS "has" = some (some (.str "dst" ts7))) (sg8 : PySem.W.nsIn K aS "empty" = some (some (.str "ds" ts8))) (sg9 : PySem.W.nsIn K aS "same" = some (some (.str "dss" ts9))) (sg10 : PySem.W.nsIn K aS "not" = some (some (.str "ds" ts10))) (sg11 : PySem.W.nsIn K aS "skip" = some (some (.str "k" ts11))) (sg12 : PySem.W.nsIn K aS "unless" = some (some (.str "sk" ts12))) (sg13 : PySem.W.nsIn K aS "call" = some (some (.str "dfa" ts13))) (sg14 : PySem.W.nsIn K aS "give" = some (some (.str "s" ts14)))
    (aB : PySem.W.nsIn K mainGlobals "BadRow" = some (some (.ref CB))) (aE : PySem.W.nsIn K mainGlobals "EyesError" = some (some (.ref CE)))
    (xB : K.lookup CB = some (excClassObj nmB qB CB NB bsB [.ref CE, .type "Exception", .type "BaseException", .type "object"] true snB subB abB colB ddB mB0 mB1 mB2 mB3 mB5 "Exception.__new__"))
    (saB : PySem.W.findIn K (.ref CB) "__setattr__" = some (some (.builtin "object.__setattr__"))) (gaB : PySem.W.findIn K (.ref CB) "__getattribute__" = some (some (.builtin "BaseException.__getattribute__"))) (ggB : PySem.W.findIn K (.ref CB) "__getattr__" = some none) (nbB : PySem.W.findIn K (.ref CB) "thing" = some none)
    (a1B : PySem.W.findIn K (.ref CB) "__init__" = some (some (.ref fB))) (t1B : PySem.W.typeIn K (.ref fB) = some (.type "function"))
    (l1B : K.lookup fB = some ⟨ocB, odB, .func (PySem.W.fnOf "__init__" "BadRow.__init__" (defArgs sBR) (defBody sBR) (defScope sBR) .none .none dcB pmB anB cdB ctB), slB⟩) (c1B : PySem.W.codeIn K cdB "BadRow.__init__" = true)
    (kB : PySem.W.keepIn K (.ref CB) = true) (eB : PySem.W.subIn K (.ref CB) (.type "BaseException") = some true) (tB : PySem.W.typeIn K (.ref CB) = some (.type "type")) (hB : PySem.W.hasDictIn K CB = true) (sB : PySem.W.subIn K (.ref CB) (.ref CB) = some true)
    (eE : PySem.W.subIn K (.ref CE) (.type "BaseException") = some true) (tE : PySem.W.typeIn K (.ref CE) = some (.type "type")) (hE : PySem.W.hasDictIn K CE = true) (sE : PySem.W.subIn K (.ref CB) (.ref CE) = some true)
    (clB : PySem.W.findIn K (.ref CB) "__class__" = some (some (.builtin "object.__class__"))) (spB : PySem.W.specialIn K (.builtin "object.__class__") "__get__" = some (some (.builtin "getset_descriptor.__get__"))) (tkB : PySem.W.takesIn K (.builtin "object.__class__") = some true) (moB : PySem.W.mroIn K CB (.type "object") = some true) (kitB : PySem.W.kitOne K (.ref CB) (.ref CB) = some true) :
    ∃ (fd : FuncData) (cs : List (Addr × Addr)) (sp : Sp), Tabs K h cs ∧ (∀ (s : Shared) (u : Value), BindsTo s fd ⟨[u], []⟩ [("_law_script", u)]) ∧
      (∀ (H : Hp) (a : Addr) (ns : List Int), ns.length ≤ 63 → (∀ p ∈ cs, H p.2 = some (.tbl #[])) → SqL K H a (ns.map V.int) → sp [.ref a] H (fun v _ => v = .bl true) E0) ∧
      ∀ base : Heap, K.In base → base.Ns mainGlobals mg → (∀ p ∈ cs, GxR.TabB base mg p.1 p.2) → (∃ mm, base.Ns sysModules mm) → LawOk P w K mg base fa fd "_law_script" sp := by
  have G := T.g
  have e := hfa.symm.trans (PySem.W.mg_of X G e35.a)
  cases e
  obtain ⟨hd0, tq0⟩ := PySem.W.tab_of T X rc0 tb0
  obtain ⟨hd1, tq1⟩ := PySem.W.tab_of T X rc1 tb1
  obtain ⟨hd2, tq2⟩ := PySem.W.tab_of T X rc2 tb2
  obtain ⟨hd3, tq3⟩ := PySem.W.tab_of T X rc3 tb3
  have B : BI mg := ⟨PySem.W.mg_none_of X G z_int, PySem.W.mg_none_of X G z_max, PySem.W.mg_none_of X G z_list, PySem.W.mg_none_of X G z_len, PySem.W.mg_none_of X G z_range, PySem.W.mg_none_of X G z_tuple, PySem.W.mg_none_of X G z_sorted, PySem.W.mg_none_of X G z_repr, PySem.W.mg_none_of X G z_isi, PySem.W.mg_none_of X G z_str, PySem.W.mg_none_of X G z_all, PySem.W.mg_none_of X G z_bool, PySem.W.mg_none_of X G z_zip⟩
  have D4 := e4.df (ps := ["thing"]) X G fun _ _ _ _ _ _ us hl => match us, hl with | [_], _ => rfl
  have D5 := e5.df (ps := ["thing"]) X G fun _ _ _ _ _ _ us hl => match us, hl with | [_], _ => rfl
  have D9 := e9.df (ps := ["thing"]) X G fun _ _ _ _ _ _ us hl => match us, hl with | [_], _ => rfl
  have D12 := e12.df (ps := ["letter", "thing"]) X G fun _ _ _ _ _ _ us hl => match us, hl with | [_, _], _ => rfl
  have D13 := e13.df (ps := ["thing"]) X G fun _ _ _ _ _ _ us hl => match us, hl with | [_], _ => rfl
  have D14 := e14.df (ps := ["row", "letter"]) X G fun _ _ _ _ _ _ us hl => match us, hl with | [_, _], _ => rfl
  have D15 := e15.df (ps := ["row"]) X G fun _ _ _ _ _ _ us hl => match us, hl with | [_], _ => rfl
  have D16 := e16.df (ps := ["row"]) X G fun _ _ _ _ _ _ us hl => match us, hl with | [_], _ => rfl
  have D18 := e18.df (ps := ["row"]) X G fun _ _ _ _ _ _ us hl => match us, hl with | [_], _ => rfl
  have D19 := e19.df (ps := ["row"]) X G fun _ _ _ _ _ _ us hl => match us, hl with | [_], _ => rfl
  have D21 := e21.df (ps := ["_law_script"]) X G fun _ _ _ _ _ _ us hl => match us, hl with | [_], _ => rfl
  have D22 := e22.df (ps := ["_law_deck_here", "_law_many"]) X G fun _ _ _ _ _ _ us hl => match us, hl with | [_, _], _ => rfl
  have D23 := e23.df (ps := ["_law_deck_here", "_law_some"]) X G fun _ _ _ _ _ _ us hl => match us, hl with | [_, _], _ => rfl
  have D24 := e24.df (ps := ["_law_thing"]) X G fun _ _ _ _ _ _ us hl => match us, hl with | [_], _ => rfl
  have D25 := e25.df (ps := ["_law_thing"]) X G fun _ _ _ _ _ _ us hl => match us, hl with | [_], _ => rfl
  have D26 := e26.df (ps := ["_law_thing"]) X G fun _ _ _ _ _ _ us hl => match us, hl with | [_], _ => rfl
  have D27 := e27.df (ps := []) X G fun _ _ _ _ _ _ us hl => match us, hl with | [], _ => rfl
  have D28 := e28.df (ps := ["_law_thing"]) X G fun _ _ _ _ _ _ us hl => match us, hl with | [_], _ => rfl
  have D29 := e29.df (ps := ["_law_row"]) X G fun _ _ _ _ _ _ us hl => match us, hl with | [_], _ => rfl
  have D30 := e30.df (ps := ["_law_row"]) X G fun _ _ _ _ _ _ us hl => match us, hl with | [_], _ => rfl
  have D31 := e31.df (ps := ["_law_deck_here", "_law_deep"]) X G fun _ _ _ _ _ _ us hl => match us, hl with | [_, _], _ => rfl
  have D32 := e32.df (ps := ["_law_deck_here", "_law_thing", "_law_deep"]) X G fun _ _ _ _ _ _ us hl => match us, hl with | [_, _, _], _ => rfl
  have D33 := e33.df (ps := ["_law_deck_here"]) X G fun _ _ _ _ _ _ us hl => match us, hl with | [_], _ => rfl
  have D34 := e34.df (ps := ["_law_call"]) X G fun _ _ _ _ _ _ us hl => match us, hl with | [_], _ => rfl
  have D35 := e35.df (ps := ["_law_script"]) X G fun _ _ _ _ _ _ us hl => match us, hl with | [_], _ => rfl
  have DT9 : DfT K mg "is_tag" sIsTag ["thing"] f9 _ c0 := ⟨D9, _, _, _, _, _, _, _, _, rfl, e9.l, e9.c⟩
  have DT12 : DfT K mg "is_item" sItem ["letter", "thing"] f12 _ c1 := ⟨D12, _, _, _, _, _, _, _, _, rfl, e12.l, e12.c⟩
  have DT13 : DfT K mg "is_row" sRow ["thing"] f13 _ c2 := ⟨D13, _, _, _, _, _, _, _, _, rfl, e13.l, e13.c⟩
  have DT35 : DfT K mg "law" sLaw ["_law_script"] _ _ c3 := ⟨D35, _, _, _, _, _, _, _, _, rfl, e35.l, e35.c⟩
  have sG : ∀ p ∈ rowsL, ∃ t, PySem.W.nsIn K aS p.1 = some (some (.str p.2 t)) := by
    intro p hp
    simp only [rowsL, List.mem_cons, List.not_mem_nil, or_false] at hp
    rcases hp with rfl | rfl | rfl | rfl | rfl | rfl | rfl | rfl | rfl | rfl | rfl | rfl | rfl | rfl | rfl
    · exact ⟨_, sg0⟩
    · exact ⟨_, sg1⟩
    · exact ⟨_, sg2⟩
    · exact ⟨_, sg3⟩
    · exact ⟨_, sg4⟩
    · exact ⟨_, sg5⟩
    · exact ⟨_, sg6⟩
    · exact ⟨_, sg7⟩
    · exact ⟨_, sg8⟩
    · exact ⟨_, sg9⟩
    · exact ⟨_, sg10⟩
    · exact ⟨_, sg11⟩
    · exact ⟨_, sg12⟩
    · exact ⟨_, sg13⟩
    · exact ⟨_, sg14⟩
  have bt : PySem.BadRowX.BadRowTxt K mg CB fB :=
    { gC := PySem.W.mg_of X G aB, cls := ⟨nmB, qB, NB, bsB, _, snB, subB, abB, colB, ddB, mB0, mB1, mB2, mB3, mB5, xB, rfl⟩, sa := saB, ga := gaB, gg := ggB, noN := nbB, iC := a1B, tC := t1B, kC := kB, exC := eB, tyC := tB, hdC := hB, te := PySem.W.exm_ref eB hB tB sB,
      fn := ⟨ocB, odB, dcB, pmB, anB, cdB, ctB, slB, _, _, _, _, _, _, l1B, c1B⟩ }
  have XFx : XF K mg CB CE fB := ⟨bt, PySem.W.mg_of X G aE, ⟨gaB, ggB, eB, hB, clB, spB, tkB, moB⟩, PySem.W.exm_ref eE hE tE sE, kitB⟩
  let AA : Nat → Addr := fun i => match i with
    | 4 => f4
    | 5 => f5
    | 9 => f9
    | 12 => f12
    | 13 => f13
    | 14 => f14
    | 15 => f15
    | 16 => f16
    | 18 => f18
    | 19 => f19
    | 21 => f21
    | 22 => f22
    | 23 => f23
    | 24 => f24
    | 25 => f25
    | 26 => f26
    | 27 => f27
    | 28 => f28
    | 29 => f29
    | 30 => f30
    | 31 => f31
    | 32 => f32
    | 33 => f33
    | 34 => f34
    | _ => 0
  let DD : Nat → FuncData := fun i => match i with
    | 4 => PySem.W.fnOf "is_plain_int" "is_plain_int" (defArgs sPlain) (defBody sPlain) (defScope sPlain) .none kV4 dc4 pm4 an4 cd4 ct4
    | 5 => PySem.W.fnOf "is_natural" "is_natural" (defArgs sNat) (defBody sNat) (defScope sNat) .none kV5 dc5 pm5 an5 cd5 ct5
    | 9 => PySem.W.fnOf "is_tag" "is_tag" (defArgs sIsTag) (defBody sIsTag) (defScope sIsTag) .none kV9 dc9 pm9 an9 (.ref c0) ct9
    | 12 => PySem.W.fnOf "is_item" "is_item" (defArgs sItem) (defBody sItem) (defScope sItem) .none kV12 dc12 pm12 an12 (.ref c1) ct12
    | 13 => PySem.W.fnOf "is_row" "is_row" (defArgs sRow) (defBody sRow) (defScope sRow) .none kV13 dc13 pm13 an13 (.ref c2) ct13
    | 14 => PySem.W.fnOf "items_at" "items_at" (defArgs sItems) (defBody sItems) (defScope sItems) .none kV14 dc14 pm14 an14 cd14 ct14
    | 15 => PySem.W.fnOf "registers_read" "registers_read" (defArgs sRRead) (defBody sRRead) (defScope sRRead) .none kV15 dc15 pm15 an15 cd15 ct15
    | 16 => PySem.W.fnOf "register_set" "register_set" (defArgs sRSet) (defBody sRSet) (defScope sRSet) .none kV16 dc16 pm16 an16 cd16 ct16
    | 18 => PySem.W.fnOf "read_by" "read_by" (defArgs sReadBy) (defBody sReadBy) (defScope sReadBy) .none kV18 dc18 pm18 an18 cd18 ct18
    | 19 => PySem.W.fnOf "set_by" "set_by" (defArgs sSetBy) (defBody sSetBy) (defScope sSetBy) .none kV19 dc19 pm19 an19 cd19 ct19
    | 21 => PySem.W.fnOf "_law_deck" "_law_deck" (defArgs sDeck) (defBody sDeck) (defScope sDeck) .none kV21 dc21 pm21 an21 cd21 ct21
    | 22 => PySem.W.fnOf "_law_draw" "_law_draw" (defArgs sDraw) (defBody sDraw) (defScope sDraw) .none kV22 dc22 pm22 an22 cd22 ct22
    | 23 => PySem.W.fnOf "_law_pick" "_law_pick" (defArgs sPick) (defBody sPick) (defScope sPick) .none kV23 dc23 pm23 an23 cd23 ct23
    | 24 => PySem.W.fnOf "_law_is_integer" "_law_is_integer" (defArgs sLInt) (defBody sLInt) (defScope sLInt) .none kV24 dc24 pm24 an24 cd24 ct24
    | 25 => PySem.W.fnOf "_law_is_number" "_law_is_number" (defArgs sLNum) (defBody sLNum) (defScope sLNum) .none kV25 dc25 pm25 an25 cd25 ct25
    | 26 => PySem.W.fnOf "_law_is_tag" "_law_is_tag" (defArgs sLIsTag) (defBody sLIsTag) (defScope sLIsTag) .none kV26 dc26 pm26 an26 cd26 ct26
    | 27 => PySem.W.fnOf "_law_shapes" "_law_shapes" (defArgs sShapes) (defBody sShapes) (defScope sShapes) .none kV27 dc27 pm27 an27 cd27 ct27
    | 28 => PySem.W.fnOf "_law_is_row" "_law_is_row" (defArgs sLIsRow) (defBody sLIsRow) (defScope sLIsRow) .none kV28 dc28 pm28 an28 cd28 ct28
    | 29 => PySem.W.fnOf "_law_read" "_law_read" (defArgs sLRead) (defBody sLRead) (defScope sLRead) .none kV29 dc29 pm29 an29 cd29 ct29
    | 30 => PySem.W.fnOf "_law_set" "_law_set" (defArgs sLSet) (defBody sLSet) (defScope sLSet) .none kV30 dc30 pm30 an30 cd30 ct30
    | 31 => PySem.W.fnOf "_law_any" "_law_any" (defArgs sAny) (defBody sAny) (defScope sAny) .none kV31 dc31 pm31 an31 cd31 ct31
    | 32 => PySem.W.fnOf "_law_bent" "_law_bent" (defArgs sBent) (defBody sBent) (defScope sBent) .none kV32 dc32 pm32 an32 cd32 ct32
    | 33 => PySem.W.fnOf "_law_any_row" "_law_any_row" (defArgs sAnyRow) (defBody sAnyRow) (defScope sAnyRow) .none kV33 dc33 pm33 an33 cd33 ct33
    | 34 => PySem.W.fnOf "_law_tried" "_law_tried" (defArgs sTried) (defBody sTried) (defScope sTried) .none kV34 dc34 pm34 an34 cd34 ct34
    | _ => PySem.W.fnOf "law" "law" (defArgs sLaw) (defBody sLaw) (defScope sLaw) .none kV35 dc35 pm35 an35 (.ref c3) ct35
  let ad : Adr := ⟨AA, DD, c0, P0, c1, P1, c2, P2, aS⟩
  have Fp : PF K w mg ad := ⟨B, D4, D5, DT9, DT12, DT13, D14, D15, D16, ⟨tL, PySem.W.mg_of X G gL⟩, ⟨tT, PySem.W.mg_of X G gT⟩, PySem.W.mg_of X G gS, ⟨es, nS, ⟨lS, kS, sS⟩, mS⟩, sG⟩
  have L1 : LR K mg AA DD := ⟨B, D24, D25, D26, D27, D28, D29, D30⟩
  have L2 : LH K mg AA DD := ⟨L1, D22, D23, D31⟩
  have L3 : LB K mg AA DD := ⟨L2, D32⟩
  have L4 : LY K mg AA DD := ⟨L3, D33⟩
  have kR : KBinds K (DD 18) ["row"] ["row"] gRv gRv := Ey.Fun.rvs D18.F (by simp) fun _ _ _ _ _ _ us hl => match us, hl with | [_], _ => rfl
  have kS2 : KBinds K (DD 19) ["row"] ["row"] gRv gRv := Ey.Fun.rvs D19.F (by simp) fun _ _ _ _ _ _ us hl => match us, hl with | [_], _ => rfl
  have L : LW K w mg AA DD ad CB CE fB f18 f19 (DD 18) (DD 19) := { toLY := L4, deck := D21, tried := D34, P := Fp, R := D18, kR := kR, S := D19, kS := kS2, X := XFx }
  have cases4 : ∀ {R : Addr × Addr → Prop}, R (c0, P0) → R (c1, P1) → R (c2, P2) → R (c3, P3) → ∀ p ∈ [(c0, P0), (c1, P1), (c2, P2), (c3, P3)], R p := by
    intro R h0 h1 h2 h3 p hp
    simp only [List.mem_cons, List.not_mem_nil, or_false] at hp
    rcases hp with rfl | rfl | rfl | rfl
    · exact h0
    · exact h1
    · exact h2
    · exact h3
  refine ⟨_, [(c0, P0), (c1, P1), (c2, P2), (c3, P3)], spLaw K [P0, P1, P2] P3 "", ⟨cases4 tq0 tq1 tq2 tq3, cases4 nT0 nT1 nT2 nT3, cases4 hd0 hd1 hd2 hd3⟩, fun s u => .of_eq rfl, fun H a ns hn hT hS => ?_, fun base KB MB TB hs => ok_law DT35 L ⟨TB (c0, P0) (by simp), TB (c1, P1) (by simp), TB (c2, P2) (by simp), MB⟩ ⟨(TB (c3, P3) (by simp)).code, (TB (c3, P3) (by simp)).bm, (TB (c3, P3) (by simp)).gP⟩ hs⟩
  refine ⟨a, ns, rfl, hS, hn, fun P hP => ?_, hT (c3, P3) (by simp), hPL, fun _ => rfl⟩
  simp only [List.mem_cons, List.not_mem_nil, or_false] at hP
  rcases hP with e | e | e
  · rw [e]
    exact ⟨#[], hT (c0, P0) (by simp), trivial⟩
  · rw [e]
    exact ⟨#[], hT (c1, P1) (by simp), trivial⟩
  · rw [e]
    exact ⟨#[], hT (c2, P2) (by simp), trivial⟩
end Ey
open PySem PySem.W PyProof.Rows
set_option maxRecDepth 100000 in
set_option maxHeartbeats 0 in
theorem PySem.Challenge.cw_eyesonly_k31_rows_read_and_set_holds : PySem.Challenge.rw_eyesonly_k31_rows_read_and_set.Holds := by
  w_on; o_law; k_head; (case hw => w_witness2)
  k_fill
  refine Ey.walk_law (l := PySem.Challenge.rw_eyesonly_k31_rows_read_and_set) (x := "_law_script") (by decide +kernel) rfl (by decide) rfl (fun w h Y => PySem.W.km_in_of Y) ?F
  case F =>
    intro w mg fa h lo mean mb KX T hmg
    refine' Ey.all_mk (w := w) KX T hmg ⟨?a4, ?l4, ?c4, ?k4⟩ ⟨?a5, ?l5, ?c5, ?k5⟩ ⟨?a9, ?l9, ?c9, ?k9⟩ ⟨?a12, ?l12, ?c12, ?k12⟩ ⟨?a13, ?l13, ?c13, ?k13⟩ ⟨?a14, ?l14, ?c14, ?k14⟩ ⟨?a15, ?l15, ?c15, ?k15⟩ ⟨?a16, ?l16, ?c16, ?k16⟩ ⟨?a18, ?l18, ?c18, ?k18⟩ ⟨?a19, ?l19, ?c19, ?k19⟩ ⟨?a21, ?l21, ?c21, ?k21⟩ ⟨?a22, ?l22, ?c22, ?k22⟩ ⟨?a23, ?l23, ?c23, ?k23⟩ ⟨?a24, ?l24, ?c24, ?k24⟩ ⟨?a25, ?l25, ?c25, ?k25⟩ ⟨?a26, ?l26, ?c26, ?k26⟩ ⟨?a27, ?l27, ?c27, ?k27⟩ ⟨?a28, ?l28, ?c28, ?k28⟩ ⟨?a29, ?l29, ?c29, ?k29⟩ ⟨?a30, ?l30, ?c30, ?k30⟩ ⟨?a31, ?l31, ?c31, ?k31⟩ ⟨?a32, ?l32, ?c32, ?k32⟩ ⟨?a33, ?l33, ?c33, ?k33⟩ ⟨?a34, ?l34, ?c34, ?k34⟩ ⟨?a35, ?l35, ?c35, ?k35⟩ ?zint ?zmax ?zlist ?zlen ?zrange ?ztuple ?zsorted ?zrepr ?zisi ?zstr ?zall ?zbool ?zzip ?tb0 ?rc0 ?nT0 ?tb1 ?rc1 ?nT1 ?tb2 ?rc2 ?nT2 ?tb3 ?rc3 ?nT3 ?hPL ?gL ?gT ?gS ?lS ?kS ?sS ?mS ?sg0 ?sg1 ?sg2 ?sg3 ?sg4 ?sg5 ?sg6 ?sg7 ?sg8 ?sg9 ?sg10 ?sg11 ?sg12 ?sg13 ?sg14 ?aB ?aE ?xB ?saB ?gaB ?ggB ?nbB ?a1B ?t1B ?l1B ?c1B ?kB ?eB ?tB ?hB ?sB ?eE ?tE ?hE ?sE ?clB ?spB ?tkB ?moB ?kitB
    (case a4 => k_is); (case l4 => k_is); (case c4 => k_is); (case k4 => k_is)
    (case a5 => k_is); (case l5 => k_is); (case c5 => k_is); (case k5 => k_is)
    (case a9 => k_is); (case l9 => k_is); (case c9 => k_is); (case k9 => k_is)
    (case a12 => k_is); (case l12 => k_is); (case c12 => k_is); (case k12 => k_is)
    (case a13 => k_is); (case l13 => k_is); (case c13 => k_is); (case k13 => k_is)
    (case a14 => k_is); (case l14 => k_is); (case c14 => k_is); (case k14 => k_is)
    (case a15 => k_is); (case l15 => k_is); (case c15 => k_is); (case k15 => k_is)
    (case a16 => k_is); (case l16 => k_is); (case c16 => k_is); (case k16 => k_is)
    (case a18 => k_is); (case l18 => k_is); (case c18 => k_is); (case k18 => k_is)
    (case a19 => k_is); (case l19 => k_is); (case c19 => k_is); (case k19 => k_is)
    (case a21 => k_is); (case l21 => k_is); (case c21 => k_is); (case k21 => k_is)
    (case a22 => k_is); (case l22 => k_is); (case c22 => k_is); (case k22 => k_is)
    (case a23 => k_is); (case l23 => k_is); (case c23 => k_is); (case k23 => k_is)
    (case a24 => k_is); (case l24 => k_is); (case c24 => k_is); (case k24 => k_is)
    (case a25 => k_is); (case l25 => k_is); (case c25 => k_is); (case k25 => k_is)
    (case a26 => k_is); (case l26 => k_is); (case c26 => k_is); (case k26 => k_is)
    (case a27 => k_is); (case l27 => k_is); (case c27 => k_is); (case k27 => k_is)
    (case a28 => k_is); (case l28 => k_is); (case c28 => k_is); (case k28 => k_is)
    (case a29 => k_is); (case l29 => k_is); (case c29 => k_is); (case k29 => k_is)
    (case a30 => k_is); (case l30 => k_is); (case c30 => k_is); (case k30 => k_is)
    (case a31 => k_is); (case l31 => k_is); (case c31 => k_is); (case k31 => k_is)
    (case a32 => k_is); (case l32 => k_is); (case c32 => k_is); (case k32 => k_is)
    (case a33 => k_is); (case l33 => k_is); (case c33 => k_is); (case k33 => k_is)
    (case a34 => k_is); (case l34 => k_is); (case c34 => k_is); (case k34 => k_is)
    (case a35 => k_is); (case l35 => k_is); (case c35 => k_is); (case k35 => k_is)
    (case zint => k_is); (case zmax => k_is); (case zlist => k_is); (case zlen => k_is); (case zrange => k_is); (case ztuple => k_is); (case zsorted => k_is); (case zrepr => k_is); (case zisi => k_is); (case zstr => k_is); (case zall => k_is); (case zbool => k_is); (case zzip => k_is)
    (case tb0 => rfl)
    (case rc0 => rfl)
    (case nT0 => rfl)
    (case tb1 => rfl)
    (case rc1 => rfl)
    (case nT1 => rfl)
    (case tb2 => rfl)
    (case rc2 => rfl)
    (case nT2 => rfl)
    (case tb3 => rfl)
    (case rc3 => rfl)
    (case nT3 => rfl)
    (case hPL => decide)
    (case gL => k_is); (case gT => k_is)
    (case gS => k_is); (case lS => k_is)
    (case kS => exact ⟨⟨_, _, rfl, rfl⟩, ⟨_, _, rfl, rfl⟩, ⟨_, _, rfl, rfl⟩, ⟨_, _, rfl, rfl⟩, ⟨_, _, rfl, rfl⟩, ⟨_, _, rfl, rfl⟩, ⟨_, _, rfl, rfl⟩, ⟨_, _, rfl, rfl⟩, ⟨_, _, rfl, rfl⟩, ⟨_, _, rfl, rfl⟩, ⟨_, _, rfl, rfl⟩, ⟨_, _, rfl, rfl⟩, ⟨_, _, rfl, rfl⟩, ⟨_, _, rfl, rfl⟩, ⟨_, _, rfl, rfl⟩, trivial⟩)
    (case sS => decide)
    (case mS => rfl)
    (case sg0 => k_is); (case sg1 => k_is); (case sg2 => k_is); (case sg3 => k_is); (case sg4 => k_is); (case sg5 => k_is); (case sg6 => k_is); (case sg7 => k_is); (case sg8 => k_is); (case sg9 => k_is); (case sg10 => k_is); (case sg11 => k_is); (case sg12 => k_is); (case sg13 => k_is); (case sg14 => k_is)
    (case aB => k_is); (case aE => k_is)
    (case xB => k_is)
    (case saB => k_is); (case gaB => k_is); (case ggB => k_is); (case nbB => k_is); (case a1B => k_is); (case t1B => k_is); (case l1B => k_is); (case c1B => k_is); (case kB => k_is); (case eB => k_is); (case tB => k_is); (case hB => k_is); (case eE => k_is); (case tE => k_is); (case hE => k_is)
    (case sB => first | rfl | k_is)
    (case sE => first | rfl | k_is)
    (case clB => first | k_is | rfl | decide +kernel); (case spB => first | k_is | rfl | decide +kernel); (case tkB => first | k_is | rfl | decide +kernel); (case moB => first | k_is | rfl | decide +kernel)
    (case kitB => first | k_is | rfl | decide +kernel)
