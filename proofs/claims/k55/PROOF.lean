import PyProof.Rows.All
import Wide.All
import OpenK.AllK
import Wide.FinOn
import PyProof.ReprRoads
import KE.KSortAny
import PyProof.Rows.SortShellAny
import HandS.ForMost
import HandS.IsInst
import HandS.AnyAll
import HandS.EndTab
import HandS.HeadWalk
import HandS.WrittenGet
import HandS.GenList
import PyProof.EqKinds
import PyProof.NeKinds
import PyProof.NeData
import PyProof.TupleOfGen
import HandS.Conv
import HandS.StrMore
import PyProof.RowDictHeap
import PyProof.Rows.StrDigitsNeg
import PyProof.Rows.StrIntSpec
import KE.KEqNest
import PyProof.Rows.StrRev
import HandS.TupAny
import HandS.Comp
import HandS.Style
import HandS.Lambda
import HandS.SetFor
import HandS.Strs
import HandS.More
import HandS.Small
import PyProof.Rows.TupMore
import HandS.Iter
import KE.GoesEnum
import HandS.Dict
import HandS.Text
import PySem.Challenge.RW_eyesonly_k55_tape_machines_of_any_value
set_option Elab.async false
set_option linter.all false
set_option maxRecDepth 100000
set_option maxHeartbeats 4000000
namespace Ey
open PySem PySem.Spec PyProof.Rows L2
/-! ### repr of data -/
mutual
theorem dp_plain {K : PySem.W.Frag} {H : Hp} : ∀ (d : PyData) (v : V), Dp K H v d → d.hasDict = false
  | .none, _, _ => rfl
  | .bool _, _, _ => rfl
  | .int _, _, _ => rfl
  | .str _, _, _ => rfl
  | .list ds, _, h => by
    cases h with
    | lst _ q => exact dp_plains ds _ q
  | .tuple ds, _, h => by
    cases h with
    | tup _ q => exact dp_plains ds _ q
  | .dict _, _, h => by cases h
theorem dp_plains {K : PySem.W.Frag} {H : Hp} : ∀ (ds : List PyData) (vs : List V), DpAll K H vs ds → PyData.hasDictAll ds = false
  | [], _, _ => rfl
  | d :: r, _, h => by
    cases h with
    | cons a b =>
      show (d.hasDict || PyData.hasDictAll r) = false
      rw [dp_plain d _ a, dp_plains r _ b]
      rfl
end
def rRepr (K : PySem.W.Frag) : List V → Hp → VK → Prop := fun xs H Q =>
  ∃ v d, xs = [v] ∧ Dp K H v d ∧ d.showable = true ∧ d.depth ≤ 100 ∧ d.shown.length ≤ sizeLine ∧ Q (.str d.shown) H
section
variable {X : Cx} {k : Nat}
theorem cr_repr (hg : X.A.guards = some []) (hr : Room k X.A) : CallR X (.builtin "repr") (rRepr X.K) := by
  intro pins s σ H xs us Q I r h
  obtain ⟨v, d, rfl, hd, hs, hp, hz, q⟩ := h
  obtain ⟨u, rfl, ru⟩ := vals1 r
  obtain ⟨as, rd⟩ := Dp.reads I d v u hd ru
  have nd := dp_plain d v hd
  have room : X.A.units + (d.depth + 1) < cLine := by
    have := hr.un
    omega
  have fin : ∀ (h' : Heap) (tk : Nat) (t : Tok), (∀ b o, s.heap.get? b = some o → h'.get? b = some o) → EP X pins σ Q (.str d.shown t) { s with heap := h', toks := tk } :=
    fun h' tk t hk => ⟨.str d.shown, H, I.kept hk, ⟨t, rfl⟩, q⟩
  cases rd with
  | none => exact PySem.P.repr_of_none (fin s.heap _ _ fun _ _ e => e)
  | bool b => exact PySem.P.repr_of_bool (fin s.heap _ _ fun _ _ e => e)
  | int i t => exact PySem.P.repr_of_int (of_decide_eq_true hs) (fin s.heap _ _ fun _ _ e => e)
  | str x t => exact PySem.P.repr_of_str (fin s.heap _ _ fun _ _ e => e) hz
  | list a b c e => exact repr_of_reads' (.list a b c e) hs (PyData.noDict_hsm nd) hg room (fun _ _ e => e) (fun h' u tk hk => fin h' tk u hk) hz
  | tuple a b c e => exact repr_of_reads' (.tuple a b c e) hs (PyData.noDict_hsm nd) hg room (fun _ _ e => e) (fun h' u tk hk => fin h' tk u hk) hz
  | dict a b c e f => cases nd
/-! ### sorted of texts, at any length -/
def rSortT (K : PySem.W.Frag) : List V → Hp → VK → Prop := fun vs H Q => ∃ (a : Addr) (xs : List Str), vs = [V.ref a] ∧ SqL K H a (xs.map V.str) ∧ xs.length ≤ sizeLine ∧
  ∀ (ys : List Str) (p : Addr), ys.Perm xs → sortedS ys = true → H p = none → Q (.ref p) (upd H p (.lst (ys.map V.str)))
theorem cr_sortT : CallR X (.builtin "sorted") (rSortT X.K) := by
  intro pins s σ H vs us Q I r h
  obtain ⟨a, xs, rfl, hs, hl, q⟩ := h
  obtain ⟨its, rv, pl, _⟩ := I.list hs
  rw [Vals.ref1 r]
  have n0 := rv.length
  rw [List.length_map] at n0
  refine PyProof.Rows.sorted_strsAny pl.isList rv.strs (by rw [← n0]; exact hl) fun out ys h1 h2 h3 => ?_
  obtain ⟨ep, at'⟩ := PyProof.Rows.sortedAll_at s.heap its out
  have n1 : (ys.map V.str).length ≤ sizeLine := by rw [List.length_map, h2.length_eq]; exact hl
  refine ⟨.ref _, upd H (s.heap.objs.size + 1) (.lst (ys.map V.str)), ?_, rfl, q ys _ h2 h3 (I.hok.fresh (Nat.le_succ _))⟩
  exact I.laid (t' := s.toks) (fun _ _ => PyProof.Rows.sortedAll_old) (Nat.le_succ _) ⟨n1, out.toList, ep, vals_of_strs h1, at'⟩
end
end Ey
set_option maxHeartbeats 2000000
namespace Ey
open PySem PySem.Spec PyProof.Rows L2 GxR
/-! ### all(test of sign for sign in text), where the test reads a name of the module -/
/-- the test, in the generator's own frame: the module stands as it stood -/
def EltG (X : Cx) (sc : Scope) (x : Str) (elt : Expr) (pb : Nat → Bool) : Prop :=
  ∀ (ge : Env) (B : Around) (F' : Value → Shared → Prop) (c : Nat) (t : Tok) (z : Shared) (m : Str → Option Value), ge.scope = sc → ge.globals = X.env.globals →
    (∀ b o, X.base.get? b = some o → z.heap.get? b = some o) → z.heap.Ns ge.locals m → m x = some (.str ⟨#[c]⟩ t) →
    wpAny (model X.prog X.w) B (eval elt ge) (fun y z' => y = .bool (pb c) ∧ Keeps z z') F' z
section
variable {X : Cx} {pins : List (Addr × Obj)} {σ : L2.St} {H : Hp} {s : Shared}
theorem gen_glob {c P : Addr} {elt iter : Expr} {x : Str} {px gp : Pos} {sc : Scope} {pb : Nat → Bool} {te : TE} {k : Nat} {Q' : Value → Shared → Prop} {R : Str → Hp → Prop}
    (hr : Room k X.A) (TB : TabB X.base X.mg c P) (hco : X.env.code = .ref c) (S : GenS X.env sc x) (hi : PE X iter te) (hel : EltG X sc x elt pb)
    (hs : ∀ v, genFold iter X.env v = pure v) (I : Inv X pins σ H s) (h : te σ H fun v H1 => ∃ a : Str, v = .str a ∧ TabG H1 P ∧ R a H1)
    (hQ : ∀ a H1 g s5, R a H1 → Ready X pins σ H1 P a pb g s5 → Q' (.ref g) s5) :
    wpAny (model X.prog X.w) X.A (eval (.GeneratorExp elt [⟨.Name x px, iter, [], 0⟩] sc gp) X.env) Q' X.xe s := by
  refine wpAny_GeneratorExp_walksQ hr.hd S.co (closure_ok S.free) S.cell S.dot S.loc S.kind (Nat.lt_of_le_of_lt (by omega) hr.dp) ?_ hs
  refine thn (hi.run pins s σ H _ I h) fun xv sA ⟨v, H1, J, rv, q⟩ => ?_
  obtain ⟨a, rfl, ⟨ps, tP, tok⟩, q⟩ := q
  obtain ⟨t, rfl⟩ := _root_.id rv
  refine wpAny_pyIter_str fun ob St W start => ?_
  have gP : sA.heap.get? P = some { cls := .none, data := .fields ps } := J.hok P _ tP
  have ltP : P < sA.heap.objs.size := Heap.lt_size gP
  have gP2 : (sA.heap.push ob).get? P = some { cls := .none, data := .fields ps } := Heap.get?_push_of_some _ gP
  have head : PySem.W.CodeHd (sA.heap.push ob) c P := TB.code.keeps fun b u e => Heap.get?_push_of_some _ (J.bk b u e)
  have noL : (sA.heap.push ob).NoLimit := J.nolimit.push ob
  have go : ∀ (code : Value) (hN : Heap) (tk : Nat) (qs : Array Value), Heap.ExtBut P (sA.heap.push ob) hN → (sA.heap.push ob).objs.size ≤ hN.objs.size → hN.get? P = some { cls := .none, data := .fields qs } → (∃ more, qs = ps ++ more) → TriplesOk qs.toList →
      wpAny (model X.prog X.w) X.A (builtinsFor X.env.globals X.env.builtins) (fun bi sB =>
        ∃ Ia fp wr n₀ Pf St₀ pz F, Value.ref sA.heap.objs.size = .ref Ia ∧ (∀ B : Around, B.handled = none → Walks X.prog X.w B Ia fp wr n₀ Pf St₀) ∧ St₀ 0 sB.heap ∧ (∀ b ∈ fp, b < sB.heap.objs.size) ∧ sB.heap.NoLimit ∧ cStatics ∉ wr ∧
          (∀ hf : Heap, (∀ b o, sB.heap.get? b = some o → hf.get? b = some o) →
            QuietGen X.prog X.w (genEnv sc (cloFrom X.env.cells sc.names []) sB.heap.objs.size code bi X.env) x [] elt (List.range sB.heap.objs.size) wr Pf pz F hf) ∧
          (∀ g hG tg gs, gs.bare = true → sB.heap.objs.size < g → hG.objs.size = g + 1 → (∀ b o, sB.heap.get? b = some o → hG.get? b = some o) →
            WalksS X.prog X.w X.A.in4 g (g :: sB.heap.objs.size :: List.range sB.heap.objs.size) (sB.heap.objs.size :: wr) (GenOnlyQ sB.gens.size) (passing pz n₀ 0).length
              (fun j y => ∃ i, (passing pz n₀ 0)[j]? = some i ∧ F i y) (GenAt X.prog X.w X.A.in4 g sB.gens.size sB.heap.objs.size (List.range sB.heap.objs.size) wr pz n₀ F) →
            GenAt X.prog X.w X.A.in4 g sB.gens.size sB.heap.objs.size (List.range sB.heap.objs.size) wr pz n₀ F 0 { sB with gens := sB.gens.push gs, toks := tg, heap := hG } →
            Q' (.ref g) { sB with gens := sB.gens.push gs, toks := tg, heap := hG })) X.xe { sA with heap := hN, toks := tk } := by
    intro code hN tk qs ext hsz gPN more okN
    obtain ⟨bm, obm, e1, e2, e3, e4, e5, e6, e7, e8⟩ := TB.bm
    have ncP : cStatics ≠ P := fun e => by
      obtain ⟨_, ns, _⟩ := J.nolimit
      obtain ⟨o', es, ep, g', d', _⟩ := ns
      rw [e, gP] at g'
      cases g'
      cases d'
    have ltC : cStatics < sA.heap.objs.size := let ⟨_, ns, _⟩ := J.nolimit; ns.lt
    have szA : (sA.heap.push ob).objs.size = sA.heap.objs.size + 1 := Heap.size_push ..
    have stay : ∀ b u, b ≠ P → sA.heap.get? b = some u → hN.get? b = some u := fun b u nb e => ext b u nb (Heap.get?_push_of_some _ e)
    have old : ∀ b u, X.base.get? b = some u → hN.get? b = some u ∧ b < sA.heap.objs.size := fun b u e => by
      obtain ⟨e1, e2⟩ := J.bs b u e
      refine ⟨stay b u (fun z => ?_) e1, Heap.lt_size e1⟩
      rw [z, tP] at e2
      cases e2
    refine wpAny_builtinsFor (m := X.mg) (by rw [J.ok.glob]; exact ((J.mod.glob.keeps J.bk).push ob).extBut ext TB.gP) e1 e2 (stay _ _ e4 (J.bk _ _ e5)) e6 e7 e8 ?_
    refine ⟨sA.heap.objs.size, [sA.heap.objs.size], [sA.heap.objs.size], a.cps.size, SignAt a, St, (fun _ => true), (fun i y => ∃ cc, a.cps[i]? = some cc ∧ y = .bool (pb cc)), rfl, W, ?_, ?_, noL.extBut ext ncP, ?_, ?_, ?_⟩
    · refine (W X.A hr.hd).frame _ _ _ start fun b hb u e => ext b u (fun z => ?_) e
      have hb' : b = sA.heap.objs.size := List.mem_singleton.mp hb
      exact Nat.ne_of_lt ltP (z.symm.trans hb')
    · intro b hb
      have hb' : b = sA.heap.objs.size := List.mem_singleton.mp hb
      rw [hb']
      show sA.heap.objs.size < hN.objs.size
      omega
    · intro z
      have z' : cStatics = sA.heap.objs.size := List.mem_singleton.mp z
      exact Nat.ne_of_lt ltC z'
    · intro hf sub
      refine ⟨fun B F' i v z m hB hv hn hm hk => ?_, fun B F' i v z m hB hv hp hn hm hk => ?_⟩
      · simp only [List.forIn_nil]
        exact wpAny_pure ⟨rfl, keeps_refl _⟩
      · obtain ⟨cc, u, hcc, rfl⟩ := hv
        refine wpAny_mono (hel _ B F' cc u z m rfl rfl (fun b o e => ?_) hn hm) (fun y z' r => ⟨⟨cc, hcc, r.1⟩, r.2⟩) fun _ _ e => e
        obtain ⟨e1, e2⟩ := old b o e
        refine hk b (List.mem_range.mpr (Heap.lt_size e1)) (fun w => ?_) o (sub b o e1)
        have w' : b = sA.heap.objs.size := List.mem_singleton.mp w
        exact Nat.ne_of_lt e2 w'
    · intro g hG tg gs bare ltg szg keepg Wg atg
      simp only [GxR.passing_true, List.length_range] at Wg
      refine hQ a H1 g _ q ⟨_, _, _, _, _, Wg.in4_1, atg, ?_, fun s' mv => ?_⟩
      · intro j y sj Qj Ej hy hj
        obtain ⟨i, ij, cc, hcc, rfl⟩ := hy
        obtain ⟨lj, ej⟩ := List.getElem?_eq_some_iff.mp ij
        rw [List.getElem_range] at ej
        subst ej
        have sign : a.cps.toList[j]? = some cc := (Array.getElem?_toList).trans hcc
        have hj' : Qj (trF pb a.cps.toList j) sj := hj
        rw [trF_some sign] at hj'
        exact wpAny_truthy_bool hj'
      · obtain ⟨mo, em⟩ := more
        have nw : ∀ b u, sA.heap.get? b = some u → b ∉ hN.objs.size :: [sA.heap.objs.size] := fun b u e z => by
          have l := Heap.lt_size e
          rcases List.mem_cons.mp z with z | z
          · rw [z] at l
            have l2 : (hN.objs.size : Nat) < sA.heap.objs.size := l
            omega
          · exact Nat.ne_of_lt l (List.mem_singleton.mp z)
        have L := inv_tab (more := mo) (h' := s'.heap) (g' := s'.gens) (d' := s'.drawn) (t' := s'.toks) J tP (fun b u nb e => mv.heap b u (nw b u e) (keepg b u (stay b u nb e)))
          (by rw [← em]; exact mv.heap P _ (nw P _ gP) (keepg P _ gPN)) (AllBare.movedS (J.bare.push bare) mv)
        rw [sh_eta sA s' mv.os] at L
        refine ⟨upd H1 P (.tbl (ps ++ mo)), ⟨⟨ps ++ mo, upd_same, ?_⟩, fun b nb => upd_ne nb⟩, L⟩
        rw [← em]
        exact okN
  refine ⟨noL, ?_⟩
  cases am : codeAmong gp ps.toList with
  | none =>
    refine wpAny_genexprCodeX hco (head.code gP2 tok) (head.tab gP2) am fun c' hN tk ext hge hlt hc' _ tab' _ => ?_
    obtain ⟨o1, vs, f1, tf, fl, tg, inF, tx, tt, op, _, _, _, _, _, _, _, _, _, tr, _⟩ := hc'
    exact go _ hN tk _ ext (Nat.le_trans hge (Nat.le_of_lt hlt)) tab'.2 ⟨_, rfl⟩ tr
  | some cv =>
    refine wpAny_genexprCode_hit hco (head.code gP2 tok) am ?_
    exact go cv (sA.heap.push ob) sA.toks ps (Heap.ExtBut.refl _ _) (Nat.le_refl _) gP2 ⟨#[], by simp⟩ tok
theorem pe_allG {c P : Addr} {elt iter : Expr} {x : Str} {px p pos gp : Pos} {sc : Scope} {pb : Nat → Bool} {te : TE} {k : Nat}
    (hr : Room k X.A) (hg : Gl X "all") (hm : X.mg "all" = none) (hb : bootBuiltins "all" = some (.builtin "all")) (TB : TabB X.base X.mg c P) (hco : X.env.code = .ref c) (S : GenS X.env sc x) (hi : PE X iter te) (hel : EltG X sc x elt pb)
    (hs : ∀ v, genFold iter X.env v = pure v)
    (he : starEach [.GeneratorExp elt [⟨.Name x px, iter, [], 0⟩] sc gp] X.env = (false, eval (.GeneratorExp elt [⟨.Name x px, iter, [], 0⟩] sc gp) X.env) :: starEach [] X.env := by rfl) :
    PE X (.Call (.Name "all" p) [.GeneratorExp elt [⟨.Name x px, iter, [], 0⟩] sc gp] [] pos) (tAllS P pb te) := by
  refine ⟨fun pins s σ H Q I h => wpAny_Call_Name_kw (ld_blt I hg hm hb ?_)⟩
  refine PyProof.Rows.callWith_builtin1 ?_ he (by rfl)
  rw [he]
  show wpAny _ _ (spliced ((false, eval (.GeneratorExp elt [⟨.Name x px, iter, [], 0⟩] sc gp) X.env) :: backTo pos (starEach [] X.env))) _ _ s
  refine Calls.spliced_cons (gen_glob (R := fun a H1 => ∀ H2, Tabbed P H1 H2 → Q (.bl (a.cps.toList.all pb)) H2) hr TB hco S hi hel hs I h fun a H1 g s5 hR rdy => ?_)
  obtain ⟨fp, wr, G, F, St, W, st0, tru, inv⟩ := rdy
  refine Calls.spliced_nil (call_all_walkS (W.self 0 _ _ _ st0 ⟨g, fp, wr, G, _, F, St, _, rfl, W, st0, tru, fun s' mv => ?_⟩))
  obtain ⟨H2, hT, L⟩ := inv s' mv
  refine ⟨.bl _, H2, L, rfl, ?_⟩
  rw [all_signs a pb]
  exact hR H2 hT
/-- sign in NAME, NAME a text of the module -/
theorem elt_inG {sc : Scope} {x y : Str} {T : Str} {p1 p2 p3 : Pos} {tk : Tok} (hk : sc.kind = .function) (hl : sc.names.lookup x = some .local) (hy : sc.names.lookup y = some .globalImplicit) (hG : X.env.globals = mainGlobals) (M : X.base.Ns mainGlobals X.mg) (hm : X.mg y = some (.str T tk))
    (hd : (x == ("__debug__" : Str)) = false := by decide) (hd2 : (y == ("__debug__" : Str)) = false := by decide) :
    EltG X sc x (.Compare (.Name x p1) [.In] [.Name y p2] p3) (fun c => decide (c ∈ T.cps.toList)) := by
  intro ge B F' c t z m h1 h2 h3 h4 h5
  have k1 : ge.scope.kind = .function := by rw [h1]; exact hk
  refine wpAny_Compare1 (wpAny_Name (wpAny_loadName_local k1 (show ge.scope.names.lookup x = some .local by rw [h1]; exact hl) h4 h5 ?_) hd)
  refine Calls.Name_function_global k1 (show ge.scope.names.lookup y = some .globalImplicit by rw [h1]; exact hy) (Calls.loadGlobal_global (by rw [h2, hG]; exact M.keeps h3) hm ?_) hd2
  refine PyProof.Rows.in_str ?_
  refine ⟨congrArg Value.bool ?_, keeps_refl _⟩
  exact PySem.StrLaws.found_one T c
end
end Ey
set_option maxHeartbeats 2000000
namespace Ey
open PySem PySem.Spec PyProof.Rows L2 GxR
/-! ### all(e for x in it), e any expression that HandS can tell -/
/-- the generator's own frame -/
def gxOf (X : Cx) (A : Around) (s : Shared) (H : Hp) (ge : Env) (x : Str) (fp : List Addr) : Cx :=
  { X with A := A, N := [x], s_0 := s, H_0 := H, env := ge, outer := X.stack, stack := ge :: X.stack, ex := fp, fn := fun _ => false, calm := true, pn := [], xe := fun _ _ => False }
abbrev gcode (elt iter : Expr) (x : Str) (px : Pos) (sc : Scope) (gp : Pos) (it : Addr) (ge : Env) : Code := .compLoop (.GeneratorExp elt [⟨.Name x px, iter, [], 0⟩] sc gp) 0 (.ref it) .none ge
/-- the generator stands at turn i -/
structure GIn (Xg : Cx) (fp : List Addr) (tn : Nat → Heap → Prop) (ga : Addr) (go : Obj) (g : Nat) (W : Nat → Hp → Prop) (i : Nat) (s : Shared) : Prop where
  ex : ∃ (H : Hp) (y : Option V), Inv Xg [(ga, go)] [y] H s ∧ tn i s.heap ∧ (∀ b ∈ fp, FpOk Xg [(ga, go)] H b) ∧ W i H
  sz : g + 1 ≤ s.gens.size
/-- it is over -/
def GEd (Xg : Cx) (ga : Addr) (go : Obj) (Qe : Hp → Prop) (s : Shared) : Prop := ∃ (H : Hp) (y : Option V), Inv Xg [(ga, go)] [y] H s ∧ Qe H
def YG (GI : Nat → Shared → Prop) (GF : Shared → Prop) (n0 : Nat) : Protocol := fun m _ v s kap => ∃ b : Bool, v = .bool b ∧ (b = true → GI (n0 - m) s ∧ ∀ s'', GI (n0 - m) s'' → kap (.send .none) s'') ∧ (b = false → GF s)
def RG (GT : Shared → Prop) : GenEnd := fun _ _ r s => r = .ok .next ∧ GT s
section
variable {X : Cx} {A : Around} {sG : Shared} {HG : Hp} {ge : Env} {x : Str} {fp : List Addr} {tn : Nat → Heap → Prop} {ga it : Addr} {go : Obj} {g : Nat} {W : Nat → Hp → Prop} {Qf Qt : Hp → Prop} {J : It} {elt iter : Expr} {px gp : Pos} {sc : Scope} {te : TE} {n0 : Nat}
theorem seg_gloop (T : Turn X.prog X.w X.K (.Name x px) J fp it tn) (hx : ge.scope.names.lookup x = some .local) (hco : ge.scope.isCoroutine = false)
    (hel : PE (gxOf X (A.over (gcode elt iter x px sc gp it ge) []) sG HG ge x fp) elt te)
    (hW : ∀ i H, W i H → (i < n0 ∧ J.go i H ∧ ∀ v H', J.yld i H v H' → te [some v] H' fun y H3 => ∃ b, y = .bl b ∧ if b = true then W (i + 1) H3 else Qf H3) ∨ (J.stop i H ∧ Qt H)) :
    ∀ (k i : Nat) (s₀ s : Shared), n0 - i = k → GIn (gxOf X (A.over (gcode elt iter x px sc gp it ge) []) sG HG ge x fp) fp tn ga go g W i s →
      Seg (model X.prog X.w) A (RG (GEd (gxOf X (A.over (gcode elt iter x px sc gp it ge) []) sG HG ge x fp) ga go Qt))
        (YG (GIn (gxOf X (A.over (gcode elt iter x px sc gp it ge) []) sG HG ge x fp) fp tn ga go g W) (GEd (gxOf X (A.over (gcode elt iter x px sc gp it ge) []) sG HG ge x fp) ga go Qf) n0) (n0 - i) s₀
        (gcode elt iter x px sc gp it ge) ((model X.prog X.w).den (gcode elt iter x px sc gp it ge)) [] s := by
  generalize hXg : gxOf X (A.over (gcode elt iter x px sc gp it ge) []) sG HG ge x fp = Xg at *
  have eP : Xg.prog = X.prog := by rw [← hXg]; rfl
  have eW : Xg.w = X.w := by rw [← hXg]; rfl
  have eK : Xg.K = X.K := by rw [← hXg]; rfl
  have eC : Xg.calm = true := by rw [← hXg]; rfl
  have eA : Xg.A = A.over (gcode elt iter x px sc gp it ge) [] := by rw [← hXg]; rfl
  have eE : Xg.env = ge := by rw [← hXg]; rfl
  have eN : Xg.N = [x] := by rw [← hXg]; rfl
  have eX : Xg.xe = fun _ _ => False := by rw [← hXg]; rfl
  have ePn : Xg.pn = [] := by rw [← hXg]; rfl
  have stat : ∀ {pins : List (Addr × Obj)} {H H' : Hp}, (∀ b ∈ fp, FpOk Xg pins H b) → (∀ b ∈ fp, H' b = none) → ∀ b ∈ fp, FpOk Xg pins H' b := fun f2 hn b hb => ⟨hn b hb, (f2 b hb).2⟩
  intro k
  induction k with
  | zero =>
    intro i s₀ s hk gi
    obtain ⟨⟨H, y, I, st, fo, w⟩, sz⟩ := gi
    rcases hW i H w with ⟨lt, _⟩ | ⟨stop, qt⟩
    · omega
    show Seg _ A _ _ _ s₀ _ ((compTurn (.GeneratorExp elt [⟨.Name x px, iter, [], 0⟩] sc gp) 0 (.ref it) .none ge).onRaise (leaving ge)) [] s
    rw [compTurn_gen, Sem.onRaise_eq_wrap]
    refine seg_bind_wrap (wpAny_standAt ?_)
    refine seg_bind_wrap (eA ▸ wpAny_mono (T.done Xg eP eW eK eC i _ s [y] H (fun _ _ => False) I fo st stop) (fun r s1 ⟨hr, I1⟩ => ?_) fun _ _ e => e.elim)
    subst hr
    exact seg_end (.ok .next) ⟨rfl, H, y, I1, qt⟩
  | succ k ih =>
    intro i s₀ s hk gi
    obtain ⟨⟨H, y, I, st, fo, w⟩, sz⟩ := gi
    show Seg _ A _ _ _ s₀ _ ((compTurn (.GeneratorExp elt [⟨.Name x px, iter, [], 0⟩] sc gp) 0 (.ref it) .none ge).onRaise (leaving ge)) [] s
    rw [compTurn_gen, Sem.onRaise_eq_wrap]
    refine seg_bind_wrap (wpAny_standAt ?_)
    rcases hW i H w with ⟨lt, gg, step⟩ | ⟨stop, qt⟩
    · refine seg_bind_wrap (eA ▸ GenW.wpAny_gsz sz (wpAny_mono (T.item Xg eP eW eK eC i _ s [y] H (fun _ _ => False) I fo st gg) (fun r s1 ⟨u, hr, rest⟩ sz1 => ?_) fun _ _ e _ => e.elim))
      subst hr
      refine seg_bind_wrap (eA ▸ GenW.wpAny_gsz sz1 (wpAny_mono rest (fun _ s2 ⟨v, H2, I2, rv, yl, st2, fr2⟩ sz2 => ?_) fun _ _ e _ => e.elim))
      have fo2 := stat fo fr2
      have I2' := I2.pinned fo2 (T.obj _ _ st2)
      have pgn : PG Xg (.Name x px) (gName 0) := pg_name (by rw [eN]; simp) (by rw [eN]; rfl) (.inl (by rw [eE]; exact hx)) (.inr (by rw [eE]; exact hx))
      have run1 := pgn.run _ s2 [y] H2 v u (fun σ' H' => σ' = [some v] ∧ H' = H2) I2' rv ⟨rfl, rfl⟩
      rw [eE, eX] at run1
      refine seg_bind_wrap (eA ▸ GenW.wpAny_gsz sz2 (wpAny_mono (eP ▸ eW ▸ run1) (fun _ s3 ⟨σ3, H3, I3, e3, e4⟩ sz3 => ?_) fun _ _ e _ => e.elim))
      subst e3 e4
      simp only [List.forIn_nil]
      refine seg_bind_wrap (wpAny_pure ?_)
      rw [if_pos rfl]
      have hy : ∀ v, yieldOut ge v = yieldValue v := fun v => by simp only [yieldOut, hco, Bool.false_eq_true, if_false]
      simp only [hy]
      rw [Sem.bind_eq_wrap', Sem.bind_eq_wrap', Sem.wrap_wrap, Sem.wrap_wrap]
      have run2 := hel.run _ s3 [some v] H3 _ I3 (step v H3 yl)
      rw [eE, eX] at run2
      refine seg_wrap (eA ▸ GenW.wpAny_gsz sz3 (wpAny_mono (eP ▸ eW ▸ run2) (fun z s4 ⟨zv, H4, I4, rz, b, ez, q⟩ sz4 => ?_) fun _ _ e _ => e.elim))
      subst ez
      have ez' : z = .bool b := rz
      subst ez'
      have hn : n0 - i = (n0 - (i + 1)) + 1 := by omega
      have hm : n0 - (n0 - (i + 1)) = i + 1 := by omega
      rw [hn]
      have st4 : tn (i + 1) s4.heap := T.keep _ _ _ st2 fun b hb o e => (I4.pin (b, o) (List.mem_append_right _ (List.mem_append_right _ (mem_pinsAt hb e)))).1
      have fr4 : ∀ b ∈ fp, H4 b = none := fun b hb => by
        obtain ⟨o, e, d⟩ := T.obj _ _ st2 b hb
        exact (I4.pin (b, o) (List.mem_append_right _ (List.mem_append_right _ (mem_pinsAt hb e)))).2.1
      refine seg_at (seg_yield rfl rfl rfl ⟨b, rfl, fun hb => ?_, fun hb => ?_⟩)
      · rw [hb, if_pos rfl] at q
        rw [hm]
        exact ⟨⟨⟨H4, _, I4.unpinned, st4, stat fo fr4, q⟩, sz4⟩, fun s'' gi => seg_again rfl (ih (i + 1) s'' s'' (by omega) gi)⟩
      · rw [hb, if_neg Bool.false_ne_true] at q
        exact ⟨H4, _, I4.unpinned, q⟩
    · refine seg_bind_wrap (eA ▸ wpAny_mono (T.done Xg eP eW eK eC i _ s [y] H (fun _ _ => False) I fo st stop) (fun r s1 ⟨hr, I1⟩ => ?_) fun _ _ e => e.elim)
      subst hr
      exact seg_end (.ok .next) ⟨rfl, H, y, I1, qt⟩
/-- the generator as its consumer has it -/
def CSt (M : Model) (A : Around) (R : GenEnd) (Y : Protocol) (GI : Nat → Shared → Prop) (g n0 i : Nat) (s : Shared) : Prop :=
  GI i s ∧ ∃ gs, s.gens[g]? = some gs ∧ ∀ s'', GI i s'' → gs.Goes M A R Y (n0 - i) (.send .none) s''
theorem Inv.gens {Xg : Cx} {pins : List (Addr × Obj)} {σ : L2.St} {H : Hp} {s : Shared} {gs : Array GenState} (I : Inv Xg pins σ H s) (h : AllBare gs) : Inv Xg pins σ H { s with gens := gs } :=
  ⟨I.ok, I.os, h, I.base, I.loc, I.cell, I.free, I.freeC, I.pin, I.hok, I.len⟩
theorem GIn.set {Xg : Cx} {i : Nat} {s : Shared} {gs : GenState} (h : GIn Xg fp tn ga go g W i s) (hb : gs.bare = true) : GIn Xg fp tn ga go g W i (s.setGen g gs) := by
  obtain ⟨⟨H, y, I, st, fo, w⟩, sz⟩ := h
  refine ⟨⟨H, y, Inv.gens I (L2.allBare_setGen I.bare hb), st, fo, w⟩, ?_⟩
  rw [GenW.setGen_size]
  exact sz
theorem GEd.set {Xg : Cx} {s : Shared} {gs : GenState} {Qe : Hp → Prop} (h : GEd Xg ga go Qe s) (hb : gs.bare = true) : GEd Xg ga go Qe (s.setGen g gs) := by
  obtain ⟨H, y, I, q⟩ := h
  exact ⟨H, y, Inv.gens I (L2.allBare_setGen I.bare hb), q⟩
theorem gen_next {Xg : Cx} {E : Value → Shared → Prop} {s : Shared} {i : Nat} (hc : go.cls = .type "generator") (hd : ∃ nm qn, go.data = .fields #[.int g 0, nm, qn]) (hs : go.slots = #[]) (hh : A.handled = none) (hroom : A.depth < recursionLimit)
    (h : CSt (model X.prog X.w) A.in1 (RG (GEd Xg ga go Qt)) (YG (GIn Xg fp tn ga go g W) (GEd Xg ga go Qf) n0) (GIn Xg fp tn ga go g W) g n0 i s) :
    wpAny (model X.prog X.w) A (pyNext (.ref ga)) (fun r s' => (r = some (.bool true) ∧ i < n0 ∧ CSt (model X.prog X.w) A.in1 (RG (GEd Xg ga go Qt)) (YG (GIn Xg fp tn ga go g W) (GEd Xg ga go Qf) n0) (GIn Xg fp tn ga go g W) g n0 (i + 1) s') ∨
      (r = some (.bool false) ∧ GEd Xg ga go Qf s') ∨ (r = none ∧ GEd Xg ga go Qt s')) E s := by
  obtain ⟨gi, gs, hgs, hgo⟩ := h
  obtain ⟨nm, qn, hd⟩ := hd
  have hg : s.heap.IsGen ga g := by
    obtain ⟨⟨H, y, I, _⟩, _⟩ := gi
    exact ⟨go, nm, qn, (I.pin (ga, go) (List.mem_append_right _ (List.mem_singleton.mpr rfl))).1, hc, hd, hs⟩
  have hl : s.heap.NoLimit := by
    obtain ⟨⟨H, y, I, _⟩, _⟩ := gi
    exact I.nolimit
  refine wpAny_pyNext_genexpQ (P := fun _ _ s₁ => GEd Xg ga go Qt s₁) hh hl hroom hg hgs (hgo _ (gi.set rfl)) (fun v s₁ gs' hb hv => ?_) (fun s₁ hp h' hk => ?_)
  · obtain ⟨b, rfl, ht, hf⟩ := hv
    cases b with
    | false => exact .inr (.inl ⟨rfl, (hf rfl).set hb⟩)
    | true =>
      obtain ⟨g1, g2⟩ := ht rfl
      cases hn : n0 - i with
      | zero =>
        rw [hn] at g1 g2
        exact (g2 s₁ g1).elim
      | succ m =>
        rw [hn] at g1 g2
        have e : n0 - (m + 1 - 1) = i + 1 := by omega
        rw [e] at g1 g2
        refine .inl ⟨rfl, by omega, g1.set hb, gs', L2.setGen_at (Nat.lt_of_succ_le g1.sz), fun s'' gi'' => ?_⟩
        have e2 : n0 - (i + 1) = m := by omega
        rw [e2]
        exact g2 s'' gi''
  · obtain ⟨H, y, I, q⟩ := hp
    refine .inr (.inr ⟨rfl, H, y, ?_, q⟩)
    have I2 := Inv.gens (gs := (s₁.setGen g .finished).gens) I (L2.allBare_setGen I.bare rfl)
    exact I2.kept (t' := s₁.toks) hk
theorem all_loopX {Xg : Cx} {R : Result → Shared → Prop} (hc : go.cls = .type "generator") (hd : ∃ nm qn, go.data = .fields #[.int g 0, nm, qn]) (hs : go.slots = #[]) (hh : A.handled = none) (hroom : A.in1.depth < recursionLimit)
    (hT : ∀ s', GEd Xg ga go Qt s' → R (.ok (.ret (.bool true))) s') (hF : ∀ s', GEd Xg ga go Qf s' → R (.ok (.ret (.bool false))) s') : ∀ (k i : Nat) (s : Shared), n0 - i = k →
    CSt (model X.prog X.w) A.in1.in1 (RG (GEd Xg ga go Qt)) (YG (GIn Xg fp tn ga go g W) (GEd Xg ga go Qf) n0) (GIn Xg fp tn ga go g W) g n0 i s → codeAny (model X.prog X.w) A (.builtin "all.loop" ⟨[.ref ga], []⟩) R s := by
  intro k
  induction k with
  | zero =>
    intro i s hk cs
    refine codeAny_builtin F.entry_all_loop ?_
    rw [Around.under_plainId F.plain_all_loop _]
    show wpAny _ A.in1 (pyNext (.ref ga) >>= _) _ _ s
    refine wpAny_bind (wpAny_mono (gen_next hc hd hs hh hroom cs) (fun r s' h => ?_) fun _ _ e => e)
    rcases h with ⟨rfl, lt, _⟩ | ⟨rfl, q⟩ | ⟨rfl, q⟩
    · omega
    · refine wpAny_bind (wpAny_holding (wpAny_truthy_bool ?_))
      refine wpAny_bind (wpAny_letGo ?_)
      simp only [Bool.false_eq_true, if_false]
      exact wpAny_bind (wpAny_rule (wpAny_pure (hF s' q)))
    · exact wpAny_bind (wpAny_rule (wpAny_pure (hT s' q)))
  | succ k ih =>
    intro i s hk cs
    refine codeAny_builtin F.entry_all_loop ?_
    rw [Around.under_plainId F.plain_all_loop _]
    show wpAny _ A.in1 (pyNext (.ref ga) >>= _) _ _ s
    refine wpAny_bind (wpAny_mono (gen_next hc hd hs hh hroom cs) (fun r s' h => ?_) fun _ _ e => e)
    rcases h with ⟨rfl, lt, cs'⟩ | ⟨rfl, q⟩ | ⟨rfl, q⟩
    · refine wpAny_bind (wpAny_holding (wpAny_truthy_bool ?_))
      refine wpAny_bind (wpAny_letGo ?_)
      simp only [if_true]
      exact wpAny_pure ⟨plainId_quiet F.plain_all_loop _, ih (i + 1) s' (by omega) cs'⟩
    · refine wpAny_bind (wpAny_holding (wpAny_truthy_bool ?_))
      refine wpAny_bind (wpAny_letGo ?_)
      simp only [Bool.false_eq_true, if_false]
      exact wpAny_bind (wpAny_rule (wpAny_pure (hF s' q)))
    · exact wpAny_bind (wpAny_rule (wpAny_pure (hT s' q)))
end
end Ey
set_option maxHeartbeats 4000000
namespace Ey
open PySem PySem.Spec PyProof.Rows L2 GxR
section
variable {X : Cx} {pins : List (Addr × Obj)} {σ : L2.St} {H : Hp} {s : Shared}
/-- the generator's frame begins -/
theorem inv_gx {A : Around} {sc : Scope} {x : Str} {fp : List Addr} {code : Value} {h5 : Heap} {g5 : Array GenState} {t5 : Nat} {m : Str → Option Value} (I : Inv X pins σ H s)
    (hk : sc.kind = .function) (hc : ∀ y ∈ sc.names, y.2 ≠ .cell) (hf : ∀ y ∈ sc.names, y.2 ≠ .free) (hns : h5.Ns s.heap.objs.size m) (keep : ∀ b o, s.heap.get? b = some o → h5.get? b = some o) (bare : AllBare g5) (hh : A.handled = none)
    (fr : A.frames = some (genEnv sc [] s.heap.objs.size code builtinsNs X.env :: X.stack)) (ho : ∀ b ∈ fp, FpOk X pins H b ∧ b < s.heap.objs.size) :
    Inv (gxOf X A s H (genEnv sc [] s.heap.objs.size code builtinsNs X.env) x fp) [] [none] H { s with heap := h5, gens := g5, toks := t5 } := by
  have nofs : ∀ b ∈ fp, b ∉ frs X.stack := fun b hb z => by
    obtain ⟨⟨_, h1, h2, _⟩, _⟩ := ho b hb
    rcases List.mem_cons.mp (I.stkSub b z) with q | q
    · exact h1 q
    · exact h2 q
  refine ⟨⟨I.ok.mod, hk, I.ok.glob, rfl, Nat.le_refl _, fun y z c e _ => ?_, fun y hy => ?_, fun y c e _ => ?_, fun _ => hh, fr, .inr ⟨rfl, rfl⟩, fun b hb => ⟨Nat.ne_of_lt (ho b hb).2, fun y c e => ?_⟩, fun b o e => I.bs b o e, Nat.le_trans I.ok.bsz I.sz, fun b o e hb => ?_, fun b hb => nofs b hb, I.stack, I.stkFree⟩,
    rfl, bare, Un.kept keep, ⟨m, hns, fun i y v h1 h2 _ => ?_⟩, fun y c e => ?_, I.hok.fresh (Nat.le_refl _), fun y c e => ?_, fun p hp => ?_, I.hok.kept keep, rfl⟩
  · exact absurd e (by intro z; cases z)
  · have hy' : sc.names.lookup y = some .cell ∨ sc.names.lookup y = some .free := hy
    rcases hy' with q | q
    · exact absurd rfl (hc _ (PySem.mem_of_lookup q))
    · exact absurd rfl (hf _ (PySem.mem_of_lookup q))
  · exact absurd e (by intro z; cases z)
  · exact absurd e (by intro z; cases z)
  · obtain ⟨⟨_, _, _, h3, _⟩, _⟩ := ho b hb
    rcases h3 with q | q
    · exact I.ok.noex b o e q
    · exact Nat.lt_irrefl _ (Nat.lt_of_lt_of_le (Heap.lt_size e) (Nat.le_trans I.ok.bsz q))
  · cases i with
    | zero => cases h2
    | succ i => cases h2
  · exact absurd e (by intro z; cases z)
  · exact absurd e (by intro z; cases z)
  · exact absurd hp (by intro z; cases z)
/-- all(e for x in it): the table of the running def's code may have grown; then, item by item -/
def tAllX (P : Addr) (wi : TI) (te : TE) : TE := fun σ H Q => wi σ H fun J H1 => TabG H1 P ∧ ∀ H2, Tabbed P H1 H2 → ∃ (n0 : Nat) (W : Nat → Hp → Prop), W 0 H2 ∧
  ∀ i H', W i H' → (i < n0 ∧ J.go i H' ∧ ∀ v H'', J.yld i H' v H'' → te [some v] H'' fun y H3 => ∃ b, y = .bl b ∧ if b = true then W (i + 1) H3 else Q (.bl false) H3) ∨ (J.stop i H' ∧ Q (.bl true) H')
theorem pe_allX {c P : Addr} {elt iter : Expr} {x : Str} {px p pos gp : Pos} {sc : Scope} {wi : TI} {te : TE} {k : Nat}
    (hr : Room (k + 2) X.A) (hg : Gl X "all") (hm : X.mg "all" = none) (hb : bootBuiltins "all" = some (.builtin "all")) (TB : TabB X.base X.mg c P) (hco : X.env.code = .ref c) (S : GenS X.env sc x) (nf : ∀ y ∈ sc.names, y.2 ≠ .free)
    (hi : PI X (.Name x px) iter wi)
    (hel : ∀ (A : Around) (s : Shared) (H : Hp) (C : Addr) (code : Value) (fp : List Addr), Room k A → PE (gxOf X A s H (genEnv sc [] C code builtinsNs X.env) x fp) elt te)
    (hs : ∀ v, genFold iter X.env v = pure v) (hcl : cloFrom X.env.cells sc.names [] = [] := by rfl)
    (he : starEach [.GeneratorExp elt [⟨.Name x px, iter, [], 0⟩] sc gp] X.env = (false, eval (.GeneratorExp elt [⟨.Name x px, iter, [], 0⟩] sc gp) X.env) :: starEach [] X.env := by rfl) :
    PE X (.Call (.Name "all" p) [.GeneratorExp elt [⟨.Name x px, iter, [], 0⟩] sc gp] [] pos) (tAllX P wi te) := by
  refine ⟨fun pins s σ H Q I h => wpAny_Call_Name_kw (ld_blt I hg hm hb ?_)⟩
  refine PyProof.Rows.callWith_builtin1 ?_ he (by rfl)
  rw [he]
  show wpAny _ _ (spliced ((false, eval (.GeneratorExp elt [⟨.Name x px, iter, [], 0⟩] sc gp) X.env) :: backTo pos (starEach [] X.env))) _ _ s
  refine Calls.spliced_cons (wpAny_GeneratorExp_make S.co (cl := []) (hcl ▸ closure_ok S.free) S.cell S.dot S.kind (Nat.lt_of_le_of_lt (by omega) hr.dp) ?_ hs)
  refine thn (hi.run pins s σ H _ I h) fun v s1 h1 => thn h1 fun itv s2 h2 => ?_
  obtain ⟨it, fp, tn, J, H1, e, J1, T, st, fo, ⟨ps, tP, tok⟩, q⟩ := h2
  subst e
  have gP : s2.heap.get? P = some { cls := .none, data := .fields ps } := J1.hok P _ tP
  have head : PySem.W.CodeHd s2.heap c P := TB.code.keeps fun b u e => J1.bk b u e
  have ncP : cStatics ≠ P := fun e => by
    obtain ⟨_, ns, _⟩ := J1.nolimit
    obtain ⟨o', es, ep, g', d', _⟩ := ns
    rw [e, gP] at g'
    cases g'
    cases d'
  have fpP : ∀ b ∈ fp, b ≠ P := fun b hb z => by
    have := (fo b hb).1
    rw [z, tP] at this
    cases this
  refine ⟨J1.nolimit, ?_⟩
  have go : ∀ (code : Value) (hN : Heap) (tk : Nat) (qs : Array Value), Heap.ExtBut P s2.heap hN → hN.get? P = some { cls := .none, data := .fields qs } → (∃ more, qs = ps ++ more) → TriplesOk qs.toList →
      wpAny (model X.prog X.w) X.A (builtinsFor X.env.globals X.env.builtins) (fun bi s₄ =>
        ∀ h', h'.Ns s₄.heap.objs.size (fun y => if y = ".0" then some (.ref it) else none) → Heap.SameBut s₄.heap.objs.size (s₄.heap.push { cls := .type "frame", data := .dict #[] }) h' →
          wpAny (model X.prog X.w) X.A (spliced (backTo pos (starEach [] X.env))) (fun us s' => wpAny (model X.prog X.w) X.A (call (.builtin "all") (.ref h'.objs.size :: us)) (EP X pins σ Q) X.xe s') X.xe { s₄ with
            gens := s₄.gens.push (.fresh (.compStart (.GeneratorExp elt [⟨.Name x px, iter, [], 0⟩] sc gp) 0 (.ref it) .none (genEnv sc [] s₄.heap.objs.size code bi X.env))),
            toks := s₄.toks + 1 + 1 + 1,
            heap := h'.push { cls := .type "generator", data := .fields #[.int s₄.gens.size 0, .str "<genexpr>" (s₄.toks + 1), .str (X.env.qual ++ "<genexpr>") (s₄.toks + 1 + 1)] } }) X.xe { s2 with heap := hN, toks := tk } := by
    intro code hN tk qs ext gPN more okN
    obtain ⟨bm, obm, e1, e2, e3, e4, e5, e6, e7, e8⟩ := TB.bm
    have stay : ∀ b u, b ≠ P → s2.heap.get? b = some u → hN.get? b = some u := fun b u nb e => ext b u nb e
    obtain ⟨mo, em⟩ := more
    subst em
    have J2 : Inv X pins σ (upd H1 P (.tbl (ps ++ mo))) { s2 with heap := hN, toks := tk } := inv_tab (more := mo) (h' := hN) (g' := s2.gens) (d' := s2.drawn) (t' := tk) J1 tP stay gPN J1.bare
    refine wpAny_builtinsFor (m := X.mg) (by rw [J1.ok.glob]; exact (J1.mod.glob.keeps J1.bk).extBut ext TB.gP) e1 e2 (stay _ _ e4 (J1.bk _ _ e5)) e6 e7 e8 ?_
    intro h' hn' hs'
    refine Calls.spliced_nil ?_
    obtain ⟨n0, W, w0, hW⟩ := q (upd H1 P (.tbl (ps ++ mo))) ⟨⟨ps ++ mo, upd_same, okN⟩, fun b nb => upd_ne nb⟩
    have sz' : h'.objs.size = hN.objs.size + 1 := by
      rw [hs'.1, Heap.size_push]
    have keep' : ∀ b o, hN.get? b = some o → h'.get? b = some o := fun b o e => hs'.extBut b o (Nat.ne_of_lt (Heap.lt_size e)) (Heap.get?_push_of_some _ e)
    generalize hgo : ({ cls := .type "generator", data := .fields #[.int s2.gens.size 0, .str "<genexpr>" (tk + 1), .str (X.env.qual ++ "<genexpr>") (tk + 1 + 1)] } : Obj) = gob
    have gc : gob.cls = .type "generator" := by rw [← hgo]
    have gd : ∃ nm qn, gob.data = .fields #[.int s2.gens.size 0, nm, qn] := ⟨_, _, by rw [← hgo]⟩
    have gs : gob.slots = #[] := by rw [← hgo]
    show wpAny (model X.prog X.w) X.A (call (.builtin "all") [.ref h'.objs.size]) (EP X pins σ Q) X.xe { s2 with
            gens := s2.gens.push (.fresh (.compStart (.GeneratorExp elt [⟨.Name x px, iter, [], 0⟩] sc gp) 0 (.ref it) .none (genEnv sc [] hN.objs.size code builtinsNs X.env))),
            toks := tk + 1 + 1 + 1, heap := h'.push gob }
    have keep5 : ∀ b o, hN.get? b = some o → (h'.push gob).get? b = some o := fun b o e => Heap.get?_push_of_some _ (keep' b o e)
    have atG : (h'.push gob).get? h'.objs.size = some gob := Heap.get?_push_size _ (by
      obtain ⟨nm, qn, e⟩ := gd
      exact Obj.isFreed_of_fields e)
    -- the frame
    generalize hge : genEnv sc [] hN.objs.size code builtinsNs X.env = ge
    have fpl : ∀ b ∈ fp, b < hN.objs.size := fun b hb => by
      obtain ⟨o, e, _⟩ := T.obj _ _ st b hb
      exact Heap.lt_size (stay b o (fpP b hb) e)
    have foN : ∀ b ∈ fp, FpOk X pins (upd H1 P (.tbl (ps ++ mo))) b := fun b hb => ⟨by rw [upd_ne (fpP b hb)]; exact (fo b hb).1, (fo b hb).2⟩
    have stN : tn 0 (h'.push gob) := T.keep _ _ _ st fun b hb o e => keep5 b o (stay b o (fpP b hb) e)
    have hAh : (X.A.in1.in1.over (gcode elt iter x px sc gp it ge) []).handled = none := hr.hd
    have hAf : (X.A.in1.in1.over (gcode elt iter x px sc gp it ge) []).frames = some (ge :: X.stack) := by
      show pushEnvs (gcode elt iter x px sc gp it ge).envs (pushEnvs [] X.A.frames) = _
      rw [J1.ok.frames]
      rfl
    have IG0 := inv_gx (A := X.A.in1.in1.over (gcode elt iter x px sc gp it ge) []) (sc := sc) (x := x) (fp := fp) (code := code) (h5 := h'.push gob)
      (g5 := s2.gens.push (.fresh (.compStart (.GeneratorExp elt [⟨.Name x px, iter, [], 0⟩] sc gp) 0 (.ref it) .none ge))) (t5 := tk + 1 + 1 + 1) J2 S.kind S.cell nf (hn'.push gob) keep5 (AllBare.push J1.bare rfl) hAh (by rw [hAf, ← hge]) (fun b hb => ⟨foN b hb, fpl b hb⟩)
    rw [hge] at IG0
    generalize hXg : gxOf X (X.A.in1.in1.over (gcode elt iter x px sc gp it ge) []) { s2 with heap := hN, toks := tk } (upd H1 P (.tbl (ps ++ mo))) ge x fp = Xg at IG0
    have gne : ∀ b ∈ fp, h'.objs.size ≠ b := fun b hb => Nat.ne_of_gt (Nat.lt_trans (fpl b hb) (by omega))
    have fpXg : ∀ b ∈ fp, FpOk Xg [(h'.objs.size, gob)] (upd H1 P (.tbl (ps ++ mo))) b := fun b hb => by
      rw [← hXg]
      refine ⟨(foN b hb).1, ?_, fun z => ?_, .inl hb, fun y cc e => ?_, fun p hp => ?_⟩
      · show b ≠ ge.locals
        rw [← hge]
        exact Nat.ne_of_lt (fpl b hb)
      · obtain ⟨_, q1, q2, _⟩ := foN b hb
        rcases List.mem_cons.mp (J2.stkSub b z) with q | q
        · exact q1 q
        · exact q2 q
      · have e' : ge.cells.lookup y = some cc := e
        rw [← hge] at e'
        cases e'
      · have hp' : p ∈ [(h'.objs.size, gob)] := hp
        rw [List.mem_singleton.mp hp']
        exact gne b hb
    have IG : Inv Xg [(h'.objs.size, gob)] [none] (upd H1 P (.tbl (ps ++ mo))) { s2 with heap := h'.push gob, gens := s2.gens.push (.fresh (.compStart (.GeneratorExp elt [⟨.Name x px, iter, [], 0⟩] sc gp) 0 (.ref it) .none ge)), toks := tk + 1 + 1 + 1 } := by
      refine IG0.pins_of fun p hp => ?_
      rw [List.mem_singleton.mp hp]
      have big : hN.objs.size < h'.objs.size := by omega
      refine ⟨atG, J2.hok.fresh (Nat.le_of_lt big), ?_, ?_, fun v e => ?_⟩
      · rw [← hXg]
        show h'.objs.size ≠ ge.locals
        rw [← hge]
        exact Nat.ne_of_gt big
      · rw [← hXg]
        intro z
        rcases List.mem_cons.mp (J2.stkSub _ z) with q | q
        · have l := J2.lt
          rw [← q] at l
          exact absurd (Nat.lt_trans big l) (Nat.lt_irrefl _)
        · exact J2.nofs (Nat.le_of_lt big) q
      · obtain ⟨nm, qn, e2⟩ := gd
        have e' : gob.data = .cell v := e
        rw [e2] at e'
        cases e'
    have back : ∀ (b : Bool) (s' : Shared), GEd Xg h'.objs.size gob (Q (.bl b)) s' → EP X pins σ Q (.bool b) s' := fun b s' ⟨H', y, K, q⟩ => by
      rw [← hXg] at K
      exact ⟨.bl b, H', J2.call' (ch := fp) K.os K.base K.hok K.bare (fun c hc => ⟨(foN c hc).2.2.2.1, (foN c hc).2.1, (foN c hc).2.2.2.2.1, (foN c hc).2.2.2.2.2⟩), rfl, q⟩
    have loopS := seg_gloop (X := X) (A := X.A.in1.in1) (sG := { s2 with heap := hN, toks := tk }) (HG := upd H1 P (.tbl (ps ++ mo))) (ge := ge) (fp := fp) (tn := tn) (ga := h'.objs.size) (go := gob) (g := s2.gens.size) (W := W) (Qf := Q (.bl false)) (Qt := Q (.bl true))
      (gp := gp) (sc := sc) (elt := elt) (iter := iter) (n0 := n0) (te := te) T (by rw [← hge]; exact S.loc) (by rw [← hge]; exact S.co) (by
        rw [← hge]
        refine hel _ _ _ _ _ _ ⟨hr.hd, ?_, ?_⟩
        · have := hr.dp
          show X.A.depth + 0 + 1 + 3 * k + 5 < _
          omega
        · have := hr.un
          show X.A.units + 1 + 1 + 0 + 3 + 16 * k + 200 < _
          omega) hW
    rw [hXg] at loopS
    have GI0 : GIn Xg fp tn h'.objs.size gob s2.gens.size W 0 { s2 with heap := h'.push gob, gens := s2.gens.push (.fresh (.compStart (.GeneratorExp elt [⟨.Name x px, iter, [], 0⟩] sc gp) 0 (.ref it) .none ge)), toks := tk + 1 + 1 + 1 } :=
      ⟨⟨_, _, IG, stN, fpXg, w0⟩, by show s2.gens.size + 1 ≤ (s2.gens.push _).size; rw [Array.size_push]; exact Nat.le_refl _⟩
    refine call_function_tree F.kind_all F.plain_all F.entry_all (F.args_all1 _) ?_
    unfold Builtin.«all»
    refine wpAny_bind (m := oneArg "all" _) (wpAny_pure ?_)
    refine wpAny_bind (wpAny_pyIter_gen ⟨gob, _, _, atG, gc, gd.choose_spec.choose_spec, gs⟩ ?_)
    refine wpAny_pure ⟨plainId_quiet F.plain_all_loop _, all_loopX (X := X) (A := X.A) (R := fun r s' => match r with | .ok (.ret v) => EP X pins σ Q v s' | .ok _ => False | .error e => X.xe e s') (Xg := Xg) (Qf := Q (.bl false)) (Qt := Q (.bl true)) (W := W) (fp := fp) (tn := tn) (n0 := n0) gc gd gs hr.hd (Nat.lt_of_le_of_lt (by show X.A.depth ≤ X.A.depth + 3 * (k + 2) + 5; omega) hr.dp) (fun s' q => back true s' q) (fun s' q => back false s' q) n0 0 _ (Nat.sub_zero _) ⟨GI0, _, Array.getElem?_push_size .., fun s'' gi => ⟨rfl, ?_⟩⟩⟩
    have loop := loopS n0 0 s'' s'' (Nat.sub_zero _) gi
    obtain ⟨_, _, _, sti, _⟩ := gi.ex
    show Seg _ X.A.in1.in1 _ _ _ s'' _ ((compStart (.GeneratorExp elt [⟨.Name x px, iter, [], 0⟩] sc gp) 0 (.ref it) .none ge).onRaise (leaving ge)) [] s''
    unfold compStart
    rw [Sem.onRaise_eq_wrap]
    show Seg _ X.A.in1.in1 _ _ _ s'' _ ((ask >>= _).wrap _ _ _ _) [] s''
    refine seg_bind_wrap (wpAny_askSetting ?_)
    split
    · exact seg_again rfl loop
    · first
        | exact seg_bind_wrap (wpAny_rule (seg_bind_wrap (wpAny_standAt (seg_bind_wrap (T.self _ 0 _ _ _ sti (seg_again rfl loop))))))
        | (refine seg_bind_wrap (wpAny_rule ?_); show Seg _ X.A.in1.in1 _ _ _ s'' _ ((standAt iter.pos >>= _).wrap _ _ _ _) [] s''; exact seg_bind_wrap (wpAny_standAt (seg_bind_wrap (T.self _ 0 _ _ _ sti (seg_again rfl loop)))))
  cases am : codeAmong gp ps.toList with
  | none =>
    refine wpAny_genexprCodeX hco (head.code gP tok) (head.tab gP) am fun c' hN tk ext hge hlt hc' _ tab' _ => ?_
    obtain ⟨o1, vs, f1, tf, fl, tg, inF, tx, tt, op, _, _, _, _, _, _, _, _, _, tr, _⟩ := hc'
    exact go _ hN tk _ ext tab'.2 ⟨_, rfl⟩ tr
  | some cv =>
    refine wpAny_genexprCode_hit hco (head.code gP tok) am ?_
    exact go cv s2.heap s2.toks ps (Heap.ExtBut.refl _ _) gP ⟨#[], by simp⟩ tok
end
end Ey
set_option maxHeartbeats 4000000
namespace Ey
open PySem PySem.Spec PyProof.Rows L2 GxR PySem.SeqAt
open AutoSeq1 (wpAny_loadPart')
open MeetsSeq MeetsSeq2 MeetsSeq3
/-! ### a dict beside a text -/
theorem dict_eq_declines_str (l : Addr) (es : Array DictEntry) (n : Nat) (dd : Option Addr) (sl : Array (Option Value)) (b : Str) (u : Tok) :
    Meets (Builtin.«dict.__eq__» ⟨[.ref l, .str b u], []⟩) (fun _ R s => s.heap.get? l = some { cls := .type "dict", dict := dd, data := .dict es n, slots := sl } ∧ R (.ok (.ret .notImplemented)) s) :=
  .of_wp fun prog w A R s h => by obtain ⟨hp, g, d, tk, os⟩ := s; obtain ⟨hl, h⟩ := h; have f1 := F.sub_str_dict; wp_walk using wpAny_loadPart' hl, wpAny_load hl; exact ⟨_, rfl, h⟩
theorem dict_ne_declines_str (l : Addr) (es : Array DictEntry) (n : Nat) (dd : Option Addr) (sl : Array (Option Value)) (b : Str) (u : Tok) :
    Meets (Builtin.«dict.__ne__» ⟨[.ref l, .str b u], []⟩) (fun _ R s => s.heap.get? l = some { cls := .type "dict", dict := dd, data := .dict es n, slots := sl } ∧ R (.ok (.ret .notImplemented)) s) :=
  .of_wp fun prog w A R s h => by obtain ⟨hp, g, d, tk, os⟩ := s; obtain ⟨hl, h⟩ := h; have f1 := F.sub_str_dict; wp_walk using wpAny_loadPart' hl, wpAny_load hl; exact ⟨_, rfl, h⟩
theorem str_eq_declines_dict (b : Str) (u : Tok) (l : Addr) (es : Array DictEntry) (n : Nat) (dd : Option Addr) (sl : Array (Option Value)) :
    Meets (Builtin.«str.__eq__» ⟨[.str b u, .ref l], []⟩) (fun _ R s => s.heap.get? l = some { cls := .type "dict", dict := dd, data := .dict es n, slots := sl } ∧ R (.ok (.ret .notImplemented)) s) :=
  .of_wp fun prog w A R s h => by obtain ⟨hp, g, d, tk, os⟩ := s; obtain ⟨hl, h⟩ := h; wp_walk using wpAny_loadPart' hl, wpAny_load hl; exact ⟨_, rfl, h⟩
theorem str_ne_declines_dict (b : Str) (u : Tok) (l : Addr) (es : Array DictEntry) (n : Nat) (dd : Option Addr) (sl : Array (Option Value)) :
    Meets (Builtin.«str.__ne__» ⟨[.str b u, .ref l], []⟩) (fun _ R s => s.heap.get? l = some { cls := .type "dict", dict := dd, data := .dict es n, slots := sl } ∧ R (.ok (.ret .notImplemented)) s) :=
  .of_wp fun prog w A R s h => by obtain ⟨hp, g, d, tk, os⟩ := s; obtain ⟨hl, h⟩ := h; wp_walk using wpAny_loadPart' hl, wpAny_load hl; exact ⟨_, rfl, h⟩
end Ey
set_option maxHeartbeats 2000000
namespace Ey
open PySem PySem.Spec PyProof.Rows L2 GxR
/-! ### a law's own call: nothing is under way around it, so that repr is told of data -/
def LawOk (P : Program) (w : World) (K : PySem.W.Frag) (mg : Str → Option Value) (base : Heap) (f : Addr) (fd : FuncData) (x : Str) (sp : Sp) : Prop :=
  ∀ (s : Shared) (H : Hp) (u : Value) (v : V) (Q : VK), Env0 P w K mg base callerA [] s H → BindsTo s fd ⟨[u], []⟩ [(x, u)] → RelV v u → sp [v] H Q E0 →
    codeAny (model P w) callerA (.call (.ref f) ⟨[u], []⟩) (CR CX0 [] P w H s Q E0) s
section
variable {P : Program} {w : World} {K : PySem.W.Frag} {mg : Str → Option Value} {base : Heap}
theorem law_ok {x qual p : Str} {st : Stmt} {f : Addr} {fd : FuncData} {N : List Str} {k : Nat} {sp : Sp} (F : Fun K x qual st f fd) (S : FnScope N [p] (defScope st)) (hr : Room (k + 1) callerA)
    (body : ∀ (cdv : Value) (s : Shared) (H : Hp) (v : V) (Q : VK), Room k (callerA.deeper (envOfC qual (defScope st) s.heap.objs.size f cdv)) → sp [v] H Q E0 →
      ∃ t, PSs (cxOf CX0 P w K mg base N qual (defScope st) f cdv callerA [] s H E0).nox (defBody st) t ∧ t { nx := fun _ H' => Q .non H', rt := Q } (start N [v]) H) :
    LawOk P w K mg base f fd p sp := by
  obtain ⟨oc, od, kV, doc, pm, an, cdv, ct, osl, rfl, lk, code⟩ := F.ex
  intro s H u v Q e0 hb rv hsp
  have inK : K.In s.heap := e0.mod.kin.keeps fun b o e => (e0.bs b o e).1
  have noL : s.heap.NoLimit := e0.mod.nolimit.keeps fun b o e => (e0.bs b o e).1
  have kinds : ∀ y ∈ [p].zip [u], (defScope st).names.lookup y.1 = some .local ∨ ((defScope st).names.lookup y.1 = some .cell ∧ ((cellsFrom (s.heap.objs.size + 1) (defScope st).names []).lookup y.1).isSome = true) := fun ⟨n, z⟩ hy => by
    rcases S.par n (List.of_mem_zip hy).1 with q | q
    · exact .inl q
    · exact .inr ⟨q, PySem.W.cellsFrom_some _ _ _ (.inl q)⟩
  refine codeAny_call_function (Nat.lt_of_le_of_lt (by omega) hr.dp) (inK _ _ lk) rfl S.co S.gen rfl (PySem.W.codeRec_of inK code) (hb _ _ _ _ ?_)
  refine wpAny_newFunctionEnv_cells (binds := [p].zip [u]) S.kind kinds fun env he s1 xc => ?_
  subst he
  refine ⟨noL.keeps xc.toInCall.keep, codeAny_func ?_⟩
  obtain ⟨t, dv, rd⟩ := body cdv s H v Q (hr.deeper _) hsp
  have I := inv_start (CX := CX0) (E := E0) (P := P) (w := w) (K := K) (mg := mg) (base := base) (N := N) (ps := [p]) (A := callerA) (vs := [v]) (us := [u]) S rfl e0 rfl (.cons rv .nil) xc
  refine wpAny_mono (dv.nox.run [] s1 (start N [v]) H _ I rd) (fun fl s' hs => ?_) fun e s' hs => hs
  cases fl with
  | next =>
    obtain ⟨σ', H', J, q⟩ := hs
    exact ⟨V.non, H', J.os, J.bare, J.base, J.hok, rfl, q⟩
  | ret z =>
    obtain ⟨y, σ', H', J, ry, q⟩ := hs
    exact ⟨y, H', J.os, J.bare, J.base, J.hok, ry, q⟩
  | brk =>
    obtain ⟨_, _, _, q⟩ := hs
    exact q.elim
  | cont =>
    obtain ⟨_, _, _, q⟩ := hs
    exact q.elim
end
end Ey
set_option maxHeartbeats 2000000
namespace Ey
open PySem PySem.Spec PyProof.Rows L2 GxR
/-- the tables cs stand empty in h, outside the written part -/
structure Tabs (K : PySem.W.Frag) (h : Heap) (cs : List (Addr × Addr)) : Prop where
  at_ : ∀ p ∈ cs, h.get? p.2 = some { cls := .none, data := .fields #[] }
  out : ∀ p ∈ cs, K.lookup p.2 = none
  hd : ∀ p ∈ cs, PySem.W.CodeHd h p.1 p.2
/-- what a heap says of the module's own builtins -/
def BMain (mg : Str → Option Value) (h : Heap) : Prop :=
  ∃ (bm : Addr) (ob : Obj), mg "__builtins__" = some (.ref bm) ∧ bm ≠ builtinsNs ∧ h.get? bm = some ob ∧ ob.cls = .type "module" ∧ ob.dict = some builtinsNs ∧ ob.data = .plain
section
variable {P : Program} {w : World} {K : PySem.W.Frag} {mg mb : Str → Option Value}
/-- the script at a, the tables cs: what is tracked ahead of the law -/
def start0 (K : PySem.W.Frag) (a : Addr) (o : Obj) (ns : List Int) (cs : List (Addr × Addr)) : Hp := fun b =>
  if b ∈ cs.map (·.2) then some (.tbl #[]) else if b = a ∧ K.lookup a = none then some (.frz o (.lst (ns.map V.int))) else none
theorem call_law {f a : Addr} {cs : List (Addr × Addr)} {fd : FuncData} {x : Str} {sp : Sp} {z : Shared} {vs : List Value} {ns : List Int}
    (KX : K.In z.heap) (hns : z.heap.Ns mainGlobals mg) (hb : z.heap.Ns builtinsNs mb) (hbb : ∀ x : Str, x ≠ "__name__" → mb x = bootBuiltins x) (lim : z.heap.NoLimit) (hsm : ∃ mm, z.heap.Ns sysModules mm) (hg : z.gens = #[])
    (T : Tabs K z.heap cs) (hbm : BMain mg z.heap) (ha : z.heap.get? a = some { cls := .type "list", data := .seq vs.toArray }) (hi : IntsAre vs ns) (hl : ns.length ≤ sizeLine)
    (F : ∀ base : Heap, K.In base → base.Ns mainGlobals mg → (∀ p ∈ cs, TabB base mg p.1 p.2) → (∃ mm, base.Ns sysModules mm) → LawOk P w K mg base f fd x sp) (hbind : ∀ (s : Shared) (u : Value), BindsTo s fd ⟨[u], []⟩ [(x, u)])
    (hsp : ∀ H : Hp, (∀ p ∈ cs, H p.2 = some (.tbl #[])) → SqL K H a (ns.map V.int) → sp [.ref a] H (fun v _ => v = .bl true) E0) :
    codeAny (model P w) callerA (.call (.ref f) ⟨[.ref a], []⟩) (fun r s' => r = .ok (.ret (.bool true)) ∧ OldK z.heap s'.heap ∧ s'.os = z.os ∧ AllBare s'.gens) z := by
  have rv := vals_ints hi
  have nV : vs.length = ns.length := hi.length
  have tabAt : ∀ b : Addr, b ∈ cs.map (·.2) → z.heap.get? b = some { cls := .none, data := .fields #[] } ∧ K.lookup b = none := fun b m => by
    obtain ⟨p, hp, rfl⟩ := List.mem_map.mp m
    exact ⟨T.at_ p hp, T.out p hp⟩
  have aT : a ∉ cs.map (·.2) := fun m => by
    have e := (tabAt a m).1
    rw [ha] at e
    injection e with e
    have e' : Data.seq vs.toArray _ = Data.fields #[] := congrArg Obj.data e
    cases e'
  let H : Hp := start0 K a { cls := .type "list", data := .seq vs.toArray } ns cs
  have HT : ∀ p ∈ cs, H p.2 = some (.tbl #[]) := fun p hp => if_pos (List.mem_map.mpr ⟨p, hp, rfl⟩)
  have Hcase : ∀ b, H b = none ∨ (b ∈ cs.map (·.2) ∧ H b = some (.tbl #[])) ∨ (b = a ∧ K.lookup a = none ∧ H b = some (.frz { cls := .type "list", data := .seq vs.toArray } (.lst (ns.map V.int)))) := fun b => by
    by_cases h1 : b ∈ cs.map (·.2)
    · exact .inr (.inl ⟨h1, if_pos h1⟩)
    · by_cases h2 : b = a ∧ K.lookup a = none
      · exact .inr (.inr ⟨h2.1, h2.2, (if_neg h1).trans (if_pos h2)⟩)
      · exact .inl ((if_neg h1).trans (if_neg h2))
  have HS : SqL K H a (ns.map V.int) := by
    cases hk : K.lookup a with
    | some o =>
      have e := KX a o hk
      rw [ha] at e
      injection e with e
      subst e
      exact .inr ⟨_, vs.toArray, _, hk, rfl, rfl, rfl, by rw [List.size_toArray, nV]; exact hl, by simpa using rv⟩
    | none => exact .inl (.inr ⟨_, (if_neg aT).trans (if_pos ⟨rfl, hk⟩)⟩)
  have HO : HOk P w H z.heap := fun b u e => by
    rcases Hcase b with q | ⟨m, q⟩ | ⟨m, _, q⟩
    · rw [q] at e
      cases e
    · rw [q] at e
      cases e
      exact (tabAt b m).1
    · rw [q] at e
      cases e
      subst m
      exact ⟨ha, by rw [List.length_map]; exact hl, vs, _, rv, ha⟩
  -- what is neither the script nor a table stands in the base
  have inB : ∀ {b : Addr} {o : Obj}, z.heap.get? b = some o → (∀ xs n, o.data ≠ .seq xs n) → o.data ≠ .fields #[] → (hidT z.heap H).get? b = some o := fun {b o} e h1 h2 => by
    refine hidT_get e ?_
    rcases Hcase b with q | ⟨m, q⟩ | ⟨m, _, q⟩
    · exact q
    · rw [(tabAt b m).1] at e
      injection e with e
      subst e
      exact absurd rfl h2
    · subst m
      rw [ha] at e
      injection e with e
      subst e
      exact absurd rfl (h1 _ _)
  have nsB : ∀ {b : Addr} {m : Str → Option Value}, z.heap.Ns b m → (hidT z.heap H).Ns b m := fun {b m} ⟨o, es, ep, e, d, r⟩ =>
    ⟨o, es, ep, inB e (fun xs n q => by rw [d] at q; cases q) (fun q => by rw [d] at q; cases q), d, r⟩
  have KB : K.In (hidT z.heap H) := fun b o e => by
    refine hidT_get (KX b o e) ?_
    rcases Hcase b with q | ⟨m, q⟩ | ⟨m, n, q⟩
    · exact q
    · rw [(tabAt b m).2] at e
      cases e
    · subst m
      rw [n] at e
      cases e
  have M : L2.Mod K mg (hidT z.heap H) := ⟨KB, nsB hns, ⟨mb, nsB hb, hbb⟩, let ⟨mc, h1, h2⟩ := lim; ⟨mc, nsB h1, h2⟩⟩
  have TB : ∀ p ∈ cs, TabB (hidT z.heap H) mg p.1 p.2 := fun p hp => by
    have pT := T.at_ p hp
    refine ⟨?_, ?_, fun q => ?_⟩
    · obtain ⟨o, us, fi, tf, fl, tg, nf, tx, tt, e1, r1, r2, r3, rest⟩ := T.hd p hp
      refine ⟨o, us, fi, tf, fl, tg, nf, tx, tt, inB e1 (fun xs n q => ?_) (fun q => ?_), r1, r2, r3, rest⟩
      · rw [r2] at q
        cases q
      · rw [r2] at q
        cases q
        simp at r3
    · obtain ⟨bm, ob, b1, b2, b3, b4, b5, b6⟩ := hbm
      refine ⟨bm, ob, b1, b2, fun q => ?_, fun q => ?_, inB b3 (fun xs n q => ?_) (fun q => ?_), b4, b5, b6⟩
      · obtain ⟨o, es, ep, e, d, _⟩ := hns
        rw [q, e] at b3
        injection b3 with b3
        subst b3
        rw [d] at b6
        cases b6
      · rw [q, pT] at b3
        injection b3 with b3
        subst b3
        cases b6
      · rw [b6] at q
        cases q
      · rw [b6] at q
        cases q
    · obtain ⟨o, es, ep, e, d, _⟩ := hns
      rw [q, pT] at e
      injection e with e
      subst e
      cases d
  have e0 : Env0 P w K mg (hidT z.heap H) callerA [] z H := ⟨rfl, M, fun b o e => of_hidT e, Nat.le_of_eq (hidT_size _ _), trivial, fun b m => absurd m List.not_mem_nil, HO, .of_eq hg⟩
  refine codeAny_mono (F _ KB (nsB hns) TB (let ⟨mm, q⟩ := hsm; ⟨mm, nsB q⟩) z H (.ref a) (.ref a) _ e0 (hbind z _) rfl (hsp H HT HS)) fun r s' h => ?_
  cases r with
  | error e => exact h.elim
  | ok fl =>
    cases fl with
    | next => exact h.elim
    | brk => exact h.elim
    | cont => exact h.elim
    | ret u =>
      obtain ⟨v, H', os, bare, un, ok', r', q⟩ := h
      have q' : v = .bl true := q
      subst q'
      obtain rfl : u = Value.bool true := r'
      have keep : ∀ b o, b ∉ cs.map (·.2) → z.heap.get? b = some o → s'.heap.get? b = some o := fun b o nb e => by
        rcases Hcase b with q | ⟨m, q⟩ | ⟨m, _, q⟩
        · exact un.keep b o e q List.not_mem_nil List.not_mem_nil
        · exact absurd m nb
        · have e1 := (HO b _ q).1
          rw [e] at e1
          injection e1 with e1
          subst e1
          exact (ok' b _ (un.frzs b _ _ q)).1
      have grown : ∀ b, b ∈ cs.map (·.2) → ∃ more : Array Value, s'.heap.get? b = some { cls := .none, data := .fields more } := fun b m => by
        obtain ⟨p, hp, rfl⟩ := List.mem_map.mp m
        obtain ⟨more, q⟩ := un.tbls p.2 #[] (HT p hp)
        exact ⟨_, ok' p.2 _ q⟩
      refine ⟨rfl, ⟨fun b o e => ?_, fun b o e => ?_⟩, os, bare⟩
      · by_cases m : b ∈ cs.map (·.2)
        · obtain ⟨more, g⟩ := grown b m
          obtain ⟨p, hp, rfl⟩ := List.mem_map.mp m
          rw [T.at_ p hp] at e
          injection e with e
          subst e
          exact .inr (.inl ⟨((T.hd p hp).tab (T.at_ p hp)).isCodeTable, rfl, #[], more, rfl, by rw [Array.empty_append]; exact g⟩)
        · exact .inl (keep b o m e)
      · by_cases m : b ∈ cs.map (·.2)
        · obtain ⟨more, g⟩ := grown b m
          exact ⟨_, g⟩
        · exact ⟨o, keep b o m e⟩
end
/-- the goal that k_head leaves, from the law's promise at any base -/
theorem walk_law {l : PySem.W.OpenLaw} {n : Nat} {q : Program} {loose : List Str} {XP : (Str → Option Value) → Heap → Prop} {YP : World → Heap → Prop} {d : DefRec} {K : Params → PySem.W.Frag} {x : Str}
    (hi0 : PyProof.Rows.importsNone q = true) (hn : l.most = some n) (hn2 : n ≤ sizeLine) (hdf : d.params.defaults = []) (hY : ∀ (w : World) (h : Heap), YP w h → (K w.params).In h)
    (F : ∀ (w : World) (mg : Str → Option Value) (f : Addr) (h : Heap) (lo : List Str) (mean : ExcName → Option Value) (mb : Str → Option Value), (K w.params).In h → PyProof.Rows.Top q lo mean mg mb h → mg d.name = some (.ref f) →
      ∃ (fd : FuncData) (cs : List (Addr × Addr)) (sp : Sp), Tabs (K w.params) h cs ∧ (∀ (s : Shared) (u : Value), BindsTo s fd ⟨[u], []⟩ [(x, u)]) ∧
        (∀ (H : Hp) (a : Addr) (ns : List Int), ns.length ≤ n → (∀ p ∈ cs, H p.2 = some (.tbl #[])) → SqL (K w.params) H a (ns.map V.int) → sp [.ref a] H (fun v _ => v = .bl true) E0) ∧
        ∀ base : Heap, (K w.params).In base → base.Ns mainGlobals mg → (∀ p ∈ cs, TabB base mg p.1 p.2) → (∃ mm, base.Ns sysModules mm) → LawOk l.prog w (K w.params) mg base f fd x sp) :
    PySem.W.WalkO q loose XP YP l.row.toRowW d [] (fun f vs => PySem.call f vs) := by
  refine Att.attach_call hn hdf fun w s₀ z mg mb f o pm cd doc a vs ns G Y ho hd hcd hmg hobj hi hlen hg => ?_
  obtain ⟨fd, cs, sp, T, hb, hsp, hF⟩ := F w mg f _ _ _ _ (hY w _ Y) G.T hmg
  exact call_law (hY w _ Y) G.T.g G.T.b G.T.builtins G.T.nolimit (let ⟨mm, q, _⟩ := (G.T.seer hi0).mods; ⟨mm, q⟩) hg T G.T.bmain hobj hi (Nat.le_trans hlen hn2) hF hb fun H h1 h2 => hsp H a ns hlen h1 h2
end Ey
set_option maxHeartbeats 2000000
namespace PySem.W
open PySem PySem.Calls PyProof.Rows PyProof.V PySem.Spec Builtin
section
variable {prog : Program} {w : World} {A : Around} {E : Value → Shared → Prop} {s : Shared} {T : String} {r d : Addr} {n : Nat} {P : Nat → Value → Prop} {OK : Heap → Prop}
/-- what a source yields, collected -/
theorem ey_collect {Q : List Value → Shared → Prop} (K : KdlSrc prog w T r d n P OK) (hh : A.handled = none) (hok : OK s.heap) (hn : n ≤ sizeLine)
    (hQ : ∀ h' tk (acc : Array Value), (∀ b o, s.heap.get? b = some o → h'.get? b = some o) → ItemsOf P acc n → Q acc.toList { s with heap := h', toks := tk }) :
    wpAny (model prog w) A (collect (.ref r)) Q E s := by
  unfold collect
  refine wpAny_bind (wpAny_runValue (codeAny_builtin PySem.F.entry_proto_collect ?_))
  rw [Around.under_plainId PySem.F.plain_proto_collect _]
  show wpAny _ A.in1 (newList [] >>= fun l => again (.builtin "list.__iadd__" ⟨[l, .ref r], []⟩)) _ _ s
  refine wpAny_bind (wpAny_newObj_type (wpAny_pure ⟨plainId_quiet PySem.F.plain_list_iadd _, codeAny_builtin PySem.F.entry_list_iadd ?_⟩))
  rw [Around.under_plainId PySem.F.plain_list_iadd _]
  show wpAny _ A.in1 (Builtin.List.listExtendWith (.ref s.heap.objs.size) (.ref r) (.ref s.heap.objs.size)) _ _ _
  have at0 : (s.heap.push { cls := .type "list", data := .seq ([] : List Value).toArray }).get? s.heap.objs.size = some { cls := .type "list", data := .seq #[] 0 } := Heap.get?_push_size _ rfl
  have lt := K.there _ hok
  have ok1 : OK (s.heap.push { cls := .type "list", data := .seq ([] : List Value).toArray }) := K.keep _ _ hok fun b _ o e => Heap.get?_push_of_some _ e
  have fin : ∀ (h' : Heap) (tk : Nat) (acc : Array Value) (c : Nat), (∀ b o, s.heap.get? b = some o → h'.get? b = some o) → h'.get? s.heap.objs.size = some { cls := .type "list", dict := none, data := .seq acc c, slots := #[] } → ItemsOf P acc n →
      wpAny (model prog w) A (match Value.ref s.heap.objs.size with
      | Value.ref a => do
        match (← load a).data with
          | Data.seq xs _ => pure xs.toList
          | _ => unsupported "internal:collect"
      | _ => unsupported "internal:collect") Q E { s with heap := h', toks := tk } := fun h' tk acc c hk at1 it => by
    show wpAny _ A (load s.heap.objs.size >>= _) _ _ _
    exact wpAny_bind (wpAny_load at1 (wpAny_pure (hQ h' tk acc hk it)))
  refine wpAny_mono (kdl_extend (A := A) (s := { s with heap := s.heap.push { cls := .type "list", data := .seq ([] : List Value).toArray } })
    (R := fun q s' => q = .ok (.ret (.ref s.heap.objs.size)) ∧ ∃ (h' : Heap) (tk : Nat) (acc : Array Value) (c : Nat), s' = { s with heap := h', toks := tk } ∧ (∀ b o, s.heap.get? b = some o → h'.get? b = some o) ∧ h'.get? s.heap.objs.size = some { cls := .type "list", dict := none, data := .seq acc c, slots := #[] } ∧ ItemsOf P acc n)
    K hh ok1 s.heap.objs.size (Nat.ne_of_gt lt.1) (Nat.ne_of_gt lt.2) (.ref s.heap.objs.size) 0 at0 (fun h' tk acc c hk at1 it => ⟨rfl, h', tk, acc, c, rfl, fun b o e => hk b o (Nat.ne_of_lt (Heap.lt_size e)) (Heap.get?_push_of_some _ e), at1, it⟩) hn) (fun q s' h => ?_) (fun e s' h => ?_)
  · cases q with
    | done f =>
      obtain ⟨e, h', tk, acc, c, rfl, hk, at1, it⟩ := h
      cases e
      exact fin h' tk acc c hk at1 it
    | again c' =>
      refine ⟨h.1, codeAny_mono h.2 fun q s2 hq => ?_⟩
      obtain ⟨rfl, h', tk, acc, c, rfl, hk, at1, it⟩ := hq
      exact fin h' tk acc c hk at1 it
  · exact absurd h.1 (by simp)
/-- tuple(of it) -/
theorem ey_tuple_new {Q₁ : Value → Shared → Prop} (K : KdlSrc prog w "dict" r d n P OK) (hh : A.handled = none) (hok : OK s.heap) (hn : n ≤ sizeLine)
    (h : ∀ (h' : Heap) (tk : Nat) (acc : Array Value), (∀ b o, s.heap.get? b = some o → h'.get? b = some o) → ItemsOf P acc n → Q₁ (.ref h'.objs.size) { s with heap := h'.push { cls := .type "tuple", data := .seq acc }, toks := tk }) :
    codeAny (model prog w) A (.call (.builtin "tuple.__new__") ⟨[.type "tuple", .ref r], []⟩) (wants Q₁ E) s := by
  refine codeAny_of_tree ?_
  show wpAny _ A.in1 (do checkBuiltinCall "tuple.__new__" ⟨[.type "tuple", .ref r], []⟩; again (.builtin "tuple.__new__" ⟨[.type "tuple", .ref r], []⟩)) _ _ s
  refine wpAny_bind (wpAny_of_eq (PySem.F.newCall_tuple_1 _) (wpAny_pure ⟨plainId_quiet PySem.F.plain_tuple_new _, codeAny_builtin PySem.F.entry_tuple_new ?_⟩))
  rw [Around.under_plainId PySem.F.plain_tuple_new _]
  have sub1 := sub_tuple_self
  have init1 := init_tuple_lookup
  have made1 := madeHere_tuple
  have ty1 := K.type s hok
  wp_walk using wpAny_typeOf ty1, ey_collect (A := A.in1) K hh hok hn
  intro h' tk acc hk it
  show wpAny _ _ (Builtin.Tuple.tupleExact acc.toList.toArray >>= fun v => ret v) _ _ _
  unfold Builtin.Tuple.tupleExact
  refine wpAny_bind (wpAny_newObj_type ?_ (by show acc.toList.toArray.size ≤ sizeLine; rw [Array.toArray_toList, it.1]; exact hn))
  refine wpAny_pure ?_
  rw [Array.toArray_toList]
  exact h h' tk acc hk it
theorem ey_tuple {Q : Value → Shared → Prop} (K : KdlSrc prog w "dict" r d n P OK) (hh : A.handled = none) (hok : OK s.heap) (hn : n ≤ sizeLine)
    (h : ∀ (h' : Heap) (tk : Nat) (acc : Array Value), (∀ b o, s.heap.get? b = some o → h'.get? b = some o) → ItemsOf P acc n → Q (.ref h'.objs.size) { s with heap := h'.push { cls := .type "tuple", data := .seq acc }, toks := tk }) :
    wpAny (model prog w) A (call (.type "tuple") [.ref r]) Q E s := by
  refine callType_codes (Q₁ := fun o z => z.TypeIs o "tuple" ∧ Q o z) PySem.F.called_tuple (PySem.F.typeCall_tuple_1 _) PySem.F.entry_object_init
    (ey_tuple_new (A := A.in1) K hh hok hn fun h' tk acc hk it => ⟨⟨_, Heap.get?_push_size _ rfl, rfl⟩, h h' tk acc hk it⟩) fun o z hz => ?_
  exact ⟨hz.1, PySem.F.args_object_init_2 o _, object_init_meets PySem.F.called_tuple.init.lookup PySem.F.called_tuple.made (by decide) prog w A.in1 _ z ⟨hz.1, rfl, hz.2⟩⟩
end
end PySem.W
namespace Ey
open PySem PySem.Spec PyProof.Rows L2
/-- tuple(d), d a dict: its keys -/
def rTupD : List V → Hp → VK → Prop := fun xs H Q => ∃ p kvs, xs = [.ref p] ∧ H p = some (.dK kvs) ∧ ∀ q, H q = none → Q (.ref q) (upd H q (.tup (kvs.map fun kv => kV kv.1)))
theorem call_tupD {X : Cx} (hc : X.calm = true) : CallR X (.type "tuple") rTupD := by
  intro pins s σ H xs us Q I r h
  obtain ⟨p, kvs, rfl, hk, q⟩ := h
  obtain ⟨u, rfl, rx⟩ := vals1 r
  obtain rfl : u = Value.ref p := rx
  obtain ⟨z, lo, vs, rk, hd⟩ := (show ObjOk X.prog X.w H s.heap p (.dK kvs) from I.hok p _ hk)
  obtain ⟨ep, at0⟩ := hd.dictAt
  have nl : kvs.length = vs.length := Paired.length rk
  refine PySem.W.ey_tuple (PySem.W.kdl_dict (knd := mixKind X.prog X.w) (kvs := vs) (ep := ep) lo) (I.ok.hd hc) at0 (by rw [← nl]; exact z) fun h' tk acc keep it => ?_
  have I1 : Inv X pins σ H { s with heap := h', toks := tk } := I.kept keep
  refine ⟨.ref h'.objs.size, upd H h'.objs.size (.tup (kvs.map fun kv => kV kv.1)), I1.laid (t' := tk) (fun b o e => Heap.get?_push_of_some _ e) (Nat.le_refl _) (show ObjOk X.prog X.w _ _ _ (.tup _) from ⟨?_, acc.toList, ?_, ?_⟩), rfl, q _ (I1.hok.fresh (Nat.le_refl _))⟩
  · rw [List.length_map]
    exact z
  · have nA : acc.toList.length = acc.size := by simp
    refine vals_of_at (by rw [List.length_map, nA, it.1, nl]) fun j x v h1 h2 => ?_
    obtain ⟨k, y, e, ki⟩ := it.2 j v (by rw [← Array.getElem?_toList]; exact h2)
    have e1 : (kvs.map (·.1))[j]? = some k := by
      rw [KV.keys rk, List.getElem?_map, e]
      rfl
    rw [List.getElem?_map] at h1 e1
    cases g : kvs[j]? with
    | none =>
      rw [g] at e1
      cases e1
    | some kv =>
      rw [g] at e1 h1
      injection e1 with e1
      injection h1 with h1
      have e2 : kv.1 = k := e1
      rw [← h1]
      show L2.RelV (kV kv.1) v
      rw [e2]
      exact keyIs_rel ki
  · have := IsTup.new h' acc
    rw [Array.toArray_toList]
    exact this
end Ey
/-! Trees, places: the mathematics. -/
namespace Ey
open PySem PySem.Spec PyProof.Rows
/-! ### texts as lists of signs -/
def st (p : List Nat) : Str := ⟨p.toArray⟩
theorem st_inj {p q : List Nat} (h : st p = st q) : p = q := by
  have h2 : p.toArray = q.toArray := congrArg Str.cps h
  simpa using h2
theorem st_app (p q : List Nat) : st p ++ st q = st (p ++ q) := by
  show (⟨p.toArray ++ q.toArray⟩ : Str) = ⟨(p ++ q).toArray⟩
  rw [List.append_toArray]
theorem st_len (p : List Nat) : (st p).length = p.length := rfl
theorem st_list (p : List Nat) : (st p).cps.toList = p := rfl
theorem st_of (x : Str) : x = st x.cps.toList := by
  cases x
  rfl
theorem st_ne {p q : List Nat} (h : p ≠ q) : st p ≠ st q := fun e => h (st_inj e)
/-! ### trees -/
inductive Tr where
  | nil
  | nd (tag : Str) (l r : Tr)
def abc : List Nat := [97, 98, 99, 100, 101, 102, 103, 104, 105, 106, 107, 108, 109, 110, 111, 112, 113, 114, 115, 116, 117, 118, 119, 120, 121, 122]
def isTag (x : Str) : Bool := decide (1 ≤ x.length) && decide (x.length ≤ 8) && x.cps.toList.all fun c => decide (c ∈ abc)
def Tr.ok : Tr → Prop
  | .nil => True
  | .nd g l r => isTag g = true ∧ l.ok ∧ r.ok
def Tr.sz : Tr → Nat
  | .nil => 0
  | .nd _ l r => l.sz + r.sz + 1
def Tr.ht : Tr → Nat
  | .nil => 0
  | .nd _ l r => max l.ht r.ht + 1
def Tr.full : Tr → Bool
  | .nil => false
  | .nd _ _ _ => true
def pl : Tr → List (List Nat)
  | .nil => [[]]
  | .nd _ l r => [] :: ((pl l).map (108 :: ·) ++ (pl r).map (114 :: ·))
def pt : Tr → List Nat → Tr
  | t, [] => t
  | .nil, _ :: _ => .nil
  | .nd _ l r, c :: p => if c = 108 then pt l p else pt r p
def isP : Tr → List Nat → Bool
  | _, [] => true
  | .nil, _ :: _ => false
  | .nd _ l r, c :: p => if c = 108 then isP l p else if c = 114 then isP r p else false
theorem pt_nil (t : Tr) : pt t [] = t := by cases t <;> rfl
theorem isP_nil (t : Tr) : isP t [] = true := by cases t <;> rfl
theorem isP_iff : ∀ (t : Tr) (p : List Nat), isP t p = true ↔ p ∈ pl t
  | .nil, [] => by simp [pl, isP]
  | .nil, c :: p => by simp [pl, isP]
  | .nd g l r, [] => by simp [pl, isP]
  | .nd g l r, c :: p => by
    have il := isP_iff l p
    have ir := isP_iff r p
    have e : (c :: p) ∈ pl (.nd g l r) ↔ (c = 108 ∧ p ∈ pl l) ∨ (c = 114 ∧ p ∈ pl r) := by
      simp only [pl, List.mem_cons, List.mem_append, List.mem_map, reduceCtorEq, false_or]
      constructor
      · rintro (⟨q, hq, e⟩ | ⟨q, hq, e⟩)
        · cases e
          exact .inl ⟨rfl, hq⟩
        · cases e
          exact .inr ⟨rfl, hq⟩
      · rintro (⟨rfl, h⟩ | ⟨rfl, h⟩)
        · exact .inl ⟨p, h, rfl⟩
        · exact .inr ⟨p, h, rfl⟩
    rw [e, ← il, ← ir]
    show (if c = 108 then isP l p else if c = 114 then isP r p else false) = true ↔ _
    by_cases h1 : c = 108
    · subst h1
      simp
    · by_cases h2 : c = 114
      · subst h2
        simp
      · simp [h1, h2]
theorem pl_len : ∀ t : Tr, (pl t).length = 2 * t.sz + 1
  | .nil => rfl
  | .nd g l r => by
    simp only [pl, List.length_cons, List.length_append, List.length_map, pl_len l, pl_len r, Tr.sz]
    omega
theorem pl_ht : ∀ (t : Tr) (p : List Nat), p ∈ pl t → p.length ≤ t.ht
  | .nil, p, h => by
    simp only [pl, List.mem_singleton] at h
    subst h
    exact Nat.zero_le _
  | .nd g l r, p, h => by
    simp only [pl, List.mem_cons, List.mem_append, List.mem_map] at h
    rcases h with rfl | ⟨q, hq, rfl⟩ | ⟨q, hq, rfl⟩
    · exact Nat.zero_le _
    · have := pl_ht l q hq
      simp only [List.length_cons, Tr.ht]
      omega
    · have := pl_ht r q hq
      simp only [List.length_cons, Tr.ht]
      omega
theorem ht_sz : ∀ t : Tr, t.ht ≤ t.sz
  | .nil => Nat.le_refl _
  | .nd g l r => by
    have a := ht_sz l
    have b := ht_sz r
    simp only [Tr.ht, Tr.sz]
    omega
theorem pl_ne (t : Tr) : pl t ≠ [] := by cases t <;> simp [pl]
theorem pl_head (t : Tr) : (pl t)[0]? = some [] := by cases t <;> rfl
theorem pl_signs : ∀ (t : Tr) (p : List Nat), p ∈ pl t → ∀ c ∈ p, c = 108 ∨ c = 114
  | .nil, p, h => by
    simp only [pl, List.mem_singleton] at h
    subst h
    exact fun c hc => absurd hc List.not_mem_nil
  | .nd g l r, p, h => by
    simp only [pl, List.mem_cons, List.mem_append, List.mem_map] at h
    rcases h with rfl | ⟨q, hq, rfl⟩ | ⟨q, hq, rfl⟩
    · exact fun c hc => absurd hc List.not_mem_nil
    · intro c hc
      rcases List.mem_cons.mp hc with e | e
      · exact .inl e
      · exact pl_signs l q hq c e
    · intro c hc
      rcases List.mem_cons.mp hc with e | e
      · exact .inr e
      · exact pl_signs r q hq c e
/-! ### the order -/
def ltL (a b : List Nat) : Prop := ltCps a b = true
theorem ltL_cons {c : Nat} {a b : List Nat} : ltL (c :: a) (c :: b) ↔ ltL a b := by simp [ltL, ltCps]
theorem ltL_nil {c : Nat} {a : List Nat} : ltL [] (c :: a) := rfl
theorem ltL_lt {c d : Nat} {a b : List Nat} (h : c < d) : ltL (c :: a) (d :: b) := by simp [ltL, ltCps, h]
theorem ltL_irr : ∀ a : List Nat, ¬ ltL a a
  | [] => by simp [ltL, ltCps]
  | c :: a => by
    rw [ltL_cons]
    exact ltL_irr a
theorem ltL_trans : ∀ {a b c : List Nat}, ltL a b → ltL b c → ltL a c
  | [], [], _, h, _ => absurd h (ltL_irr [])
  | [], _ :: _, [], _, h => by simp [ltL, ltCps] at h
  | [], _ :: _, _ :: _, _, _ => rfl
  | _ :: _, [], _, h, _ => by simp [ltL, ltCps] at h
  | _ :: _, _ :: _, [], _, h => by simp [ltL, ltCps] at h
  | x :: a, y :: b, z :: c, h1, h2 => by
    simp only [ltL, ltCps, Bool.or_eq_true, decide_eq_true_eq, Bool.and_eq_true, beq_iff_eq] at h1 h2 ⊢
    rcases h1 with h1 | ⟨rfl, h1⟩
    · rcases h2 with h2 | ⟨rfl, h2⟩
      · exact .inl (Nat.lt_trans h1 h2)
      · exact .inl h1
    · rcases h2 with h2 | ⟨rfl, h2⟩
      · exact .inl h2
      · exact .inr ⟨rfl, ltL_trans h1 h2⟩
theorem ltL_tri : ∀ a b : List Nat, ltL a b ∨ a = b ∨ ltL b a
  | [], [] => .inr (.inl rfl)
  | [], _ :: _ => .inl rfl
  | _ :: _, [] => .inr (.inr rfl)
  | x :: a, y :: b => by
    rcases Nat.lt_trichotomy x y with h | rfl | h
    · exact .inl (ltL_lt h)
    · rcases ltL_tri a b with h | rfl | h
      · exact .inl (ltL_cons.mpr h)
      · exact .inr (.inl rfl)
      · exact .inr (.inr (ltL_cons.mpr h))
    · exact .inr (.inr (ltL_lt h))
theorem pl_up : ∀ t : Tr, (pl t).Pairwise ltL
  | .nil => by simp [pl]
  | .nd g l r => by
    simp only [pl, List.pairwise_cons, List.pairwise_append, List.pairwise_map]
    refine ⟨fun p hp => ?_, (pl_up l).imp fun h => ltL_cons.mpr h, (pl_up r).imp fun h => ltL_cons.mpr h, fun a ha b hb => ?_⟩
    · simp only [List.mem_append, List.mem_map] at hp
      rcases hp with ⟨q, _, rfl⟩ | ⟨q, _, rfl⟩
      · exact rfl
      · exact rfl
    · simp only [List.mem_map] at ha hb
      obtain ⟨p, _, rfl⟩ := ha
      obtain ⟨q, _, rfl⟩ := hb
      exact ltL_lt (by decide)
theorem pl_nodup (t : Tr) : (pl t).Nodup := (pl_up t).imp fun {a b} h e => by
  subst e
  exact ltL_irr _ h
/-- what sorted hands back, of texts that are all unlike -/
theorem rising_pw : ∀ (l : List Str) (p : Str), risingS p l = true → (p :: l).Pairwise fun a b => ¬ ltL b.cps.toList a.cps.toList
  | [], p, _ => by simp
  | x :: r, p, h => by
    simp only [risingS, Bool.and_eq_true, Bool.not_eq_true'] at h
    have ih := rising_pw r x h.2
    have h1 : ¬ ltL x.cps.toList p.cps.toList := by
      intro e
      rw [ltL, h.1] at e
      cases e
    rw [List.pairwise_cons]
    refine ⟨fun y hy => ?_, ih⟩
    rcases List.mem_cons.mp hy with rfl | hy
    · exact h1
    · have h2 := (List.pairwise_cons.mp ih).1 y hy
      intro e
      rcases ltL_tri x.cps.toList p.cps.toList with q | q | q
      · exact h1 q
      · rw [← q] at e
        exact h2 e
      · exact h2 (ltL_trans e q)
theorem sorted_is {l : List Str} {ps : List (List Nat)} (h : l.Perm (ps.map st)) (hs : sortedS l = true) (hp : ps.Pairwise ltL) : l = ps.map st := by
  have pw : l.Pairwise fun a b => ¬ ltL b.cps.toList a.cps.toList := by
    cases l with
    | nil => simp
    | cons x r => exact rising_pw r x hs
  have pw2 : (ps.map st).Pairwise fun a b => ¬ ltL b.cps.toList a.cps.toList := by
    rw [List.pairwise_map]
    exact hp.imp fun {a b} h e => ltL_irr _ (ltL_trans h e)
  refine List.Perm.eq_of_pairwise (fun a b _ _ h1 h2 => ?_) pw pw2 h
  rcases ltL_tri a.cps.toList b.cps.toList with q | q | q
  · exact absurd q h2
  · rw [st_of a, st_of b, q]
  · exact absurd q h1
/-! ### the next place -/
def stripR (p : List Nat) : List Nat := (p.reverse.dropWhile fun c => c == 114).reverse
def nxt (full : Bool) (p : List Nat) : Option (List Nat) :=
  if full = true then some (p ++ [108]) else if stripR p = [] then none else some ((stripR p).dropLast ++ [114])
theorem dropWhile_snoc (f : Nat → Bool) (a : List Nat) (c : Nat) : (a ++ [c]).dropWhile f = if a.dropWhile f = [] then [c].dropWhile f else a.dropWhile f ++ [c] := by
  induction a with
  | nil => simp
  | cons x a ih =>
    rw [List.cons_append]
    by_cases h : f x = true
    · rw [List.dropWhile_cons_of_pos h, List.dropWhile_cons_of_pos h]
      exact ih
    · rw [List.dropWhile_cons_of_neg h, List.dropWhile_cons_of_neg h]
      simp
theorem stripR_cons (c : Nat) (p : List Nat) : stripR (c :: p) = if stripR p = [] then (if c = 114 then [] else [c]) else c :: stripR p := by
  unfold stripR
  rw [List.reverse_cons, dropWhile_snoc]
  by_cases h : (p.reverse.dropWhile fun c => c == 114) = []
  · rw [if_pos h, if_pos (by rw [h]; rfl)]
    by_cases hc : c = 114
    · simp [hc]
    · simp [hc]
  · rw [if_neg h, if_neg (by rw [List.reverse_eq_nil_iff]; exact h)]
    simp
theorem nxt_cons {f : Bool} {c : Nat} {p q : List Nat} (h : nxt f p = some q) : nxt f (c :: p) = some (c :: q) := by
  unfold nxt at h ⊢
  by_cases hf : f = true
  · rw [if_pos hf] at h ⊢
    cases h
    rfl
  · rw [if_neg hf] at h ⊢
    by_cases hp : stripR p = []
    · rw [if_pos hp] at h
      cases h
    · rw [if_neg hp] at h
      injection h with h
      have e : stripR (c :: p) = c :: stripR p := by rw [stripR_cons, if_neg hp]
      rw [e, if_neg (by simp), ← h, List.dropLast_cons_of_ne_nil hp]
      rfl
theorem nxt_last {f : Bool} {p : List Nat} (h : nxt f p = none) : nxt f (108 :: p) = some [114] ∧ nxt f (114 :: p) = none := by
  unfold nxt at h ⊢
  by_cases hf : f = true
  · rw [if_pos hf] at h
    cases h
  · rw [if_neg hf] at h
    by_cases hp : stripR p = []
    · rw [if_neg hf, if_neg hf, stripR_cons, stripR_cons, if_pos hp, if_pos hp]
      simp
    · rw [if_neg hp] at h
      cases h
theorem nxt_pl : ∀ (t : Tr) (i : Nat) (p : List Nat), (pl t)[i]? = some p → nxt (pt t p).full p = (pl t)[i + 1]?
  | .nil, i, p, h => by
    cases i with
    | zero =>
      cases h
      rfl
    | succ i => simp [pl] at h
  | .nd g l r, i, p, h => by
    cases i with
    | zero =>
      have e : p = [] := by
        simp only [pl, List.getElem?_cons_zero] at h
        exact (Option.some.inj h).symm
      subst e
      have e2 : (pl (.nd g l r))[0 + 1]? = some [108] := by
        have hl := pl_head l
        simp only [pl, List.getElem?_cons_succ]
        rw [List.getElem?_append_left (by rw [List.length_map]; exact List.length_pos_iff.mpr (pl_ne l)), List.getElem?_map, hl]
        rfl
      rw [e2]
      rfl
    | succ i =>
      simp only [pl, List.getElem?_cons_succ] at h ⊢
      by_cases hi : i < (pl l).length
      · rw [List.getElem?_append_left (by rw [List.length_map]; exact hi), List.getElem?_map] at h
        obtain ⟨q, hq, rfl⟩ := Option.map_eq_some_iff.mp h
        have ih := nxt_pl l i q hq
        have ef : pt (.nd g l r) (108 :: q) = pt l q := by show (if 108 = 108 then _ else _) = _; rw [if_pos rfl]
        rw [ef]
        by_cases hn : i + 1 < (pl l).length
        · rw [List.getElem?_append_left (by rw [List.length_map]; exact hn), List.getElem?_map]
          rw [List.getElem?_eq_getElem hn] at ih ⊢
          exact nxt_cons ih
        · have en : i + 1 = (pl l).length := by omega
          rw [List.getElem?_eq_none (by omega)] at ih
          rw [List.getElem?_append_right (by rw [List.length_map]; omega), List.length_map, en, Nat.sub_self, List.getElem?_map, pl_head r]
          exact (nxt_last ih).1
      · rw [List.getElem?_append_right (by rw [List.length_map]; omega), List.length_map, List.getElem?_map] at h
        obtain ⟨q, hq, rfl⟩ := Option.map_eq_some_iff.mp h
        have ih := nxt_pl r (i - (pl l).length) q hq
        have ef : pt (.nd g l r) (114 :: q) = pt r q := by show (if 114 = 108 then _ else _) = _; rw [if_neg (by decide)]
        rw [ef, List.getElem?_append_right (by rw [List.length_map]; omega), List.length_map, List.getElem?_map]
        have en : i + 1 - (pl l).length = i - (pl l).length + 1 := by omega
        rw [en]
        cases hr : (pl r)[i - (pl l).length + 1]? with
        | none =>
          rw [hr] at ih
          exact (nxt_last ih).2
        | some z =>
          rw [hr] at ih
          exact nxt_cons ih
/-! ### the places below a place -/
theorem below : ∀ (t : Tr) (p : List Nat), isP t p = true → (pl t).filter (fun q => decide (q.take p.length = p)) = (pl (pt t p)).map (p ++ ·)
  | t, [], _ => by
    rw [pt_nil]
    simp
  | .nil, c :: p, h => by cases h
  | .nd g l r, c :: p, h => by
    simp only [pl, List.filter_cons, List.filter_append, List.filter_map]
    have e0 : decide (([] : List Nat).take (c :: p).length = c :: p) = false := by simp
    rw [if_neg (by rw [e0]; exact Bool.false_ne_true)]
    by_cases h1 : c = 108
    · subst h1
      have hp : isP l p = true := h
      have ih := below l p hp
      have ea : ((fun q => decide (q.take (108 :: p).length = 108 :: p)) ∘ (108 :: ·)) = fun q : List Nat => decide (q.take p.length = p) := by
        funext q
        simp
      have eb : (pl r).filter ((fun q => decide (q.take (108 :: p).length = 108 :: p)) ∘ (114 :: ·)) = [] := by
        rw [List.filter_eq_nil_iff]
        intro q _
        simp
      rw [ea, eb, ih]
      show _ = (pl (if 108 = 108 then pt l p else pt r p)).map _
      rw [if_pos rfl]
      simp
    · by_cases h2 : c = 114
      · subst h2
        have hp : isP r p = true := h
        have ih := below r p hp
        have ea : ((fun q => decide (q.take (114 :: p).length = 114 :: p)) ∘ (114 :: ·)) = fun q : List Nat => decide (q.take p.length = p) := by
          funext q
          simp
        have eb : (pl l).filter ((fun q => decide (q.take (114 :: p).length = 114 :: p)) ∘ (108 :: ·)) = [] := by
          rw [List.filter_eq_nil_iff]
          intro q _
          simp
        rw [ea, eb, ih]
        show _ = (pl (if 114 = 108 then pt l p else pt r p)).map _
        rw [if_neg (by decide)]
        simp
      · have : isP (.nd g l r) (c :: p) = false := by
          show (if c = 108 then isP l p else if c = 114 then isP r p else false) = false
          rw [if_neg h1, if_neg h2]
        rw [this] at h
        cases h
end Ey
namespace Ey
open PySem PySem.Spec L2
theorem dw_drop (f : Nat → Bool) : ∀ l : List Nat, l.dropWhile f = l.drop (l.takeWhile f).length
  | [] => rfl
  | a :: l => by
    cases h : f a
    · simp [List.dropWhile_cons, List.takeWhile_cons, h]
    · simp [List.dropWhile_cons, List.takeWhile_cons, h, dw_drop f l]
theorem stripR_take (p : List Nat) : stripR p = p.take (p.length - (p.reverse.takeWhile fun c => c == 114).length) := by
  have hle : (p.reverse.takeWhile fun c => c == 114).length ≤ p.length := by
    have := (List.takeWhile_sublist (fun c => c == 114) (l := p.reverse)).length_le
    rwa [List.length_reverse] at this
  unfold stripR
  rw [dw_drop, ← List.reverse_reverse (p.take _), List.reverse_take]
  have e : p.length - (p.length - (p.reverse.takeWhile fun c => c == 114).length) = (p.reverse.takeWhile fun c => c == 114).length := by omega
  rw [e]
theorem rstrip_st (p : List Nat) : Txt.rstripChars (st p) (st [114]) = st (stripR p) := by
  have e1 : (st [114]).cps.contains = fun c => c == 114 := by
    funext c
    show (#[114] : Array Nat).contains c = (c == 114)
    simp [Array.contains]
  have e3 := stripR_take p
  have lo : stripLo (st [114]).cps.contains false (st p) = 0 := rfl
  have hi : stripHi (st [114]).cps.contains true (st p) 0 = p.length - (p.reverse.takeWhile fun c => c == 114).length := by
    rw [e1]
    rfl
  unfold Txt.rstripChars Txt.stripBy stripSame stripped
  rw [lo, hi]
  have ex : Builtin.Str.strSub (st p) 0 (p.length - (p.reverse.takeWhile fun c => c == 114).length) = st (stripR p) := by
    rw [e3]
    show (⟨p.toArray.extract 0 _⟩ : Str) = ⟨_⟩
    simp
  rw [ex]
  split
  · rename_i h
    simp only [Bool.and_eq_true, beq_iff_eq] at h
    rw [e3, h.2]
    show st p = st (p.take p.length)
    rw [List.take_length]
  · rfl
theorem for_str {x : Str} {g : TG} {tb : TS} {D : Ends} {σ : St} {H : Hp} (Pv : Nat → St → Hp → Prop) (h0 : Pv 0 σ H)
    (hs : ∀ i c σ H, x.cps.toList[i]? = some c → Pv i σ H → g (.str (st [c])) σ H fun σ2 H2 => tb { D with nx := Pv (i + 1), ct := Pv (i + 1), bk := D.nx } σ2 H2)
    (hd : ∀ σ H, Pv x.cps.toList.length σ H → D.nx σ H) :
    ∃ W : Nat → Nat → St → Hp → Prop, (∃ m, W 0 m σ H) ∧ ∀ i m σ H, W i m σ H →
      ((Its x).stop i H ∧ D.nx σ H) ∨ ((Its x).go i H ∧ ∃ N : St → Hp → Prop, (∀ σ' H', N σ' H' → ∃ m', m' < m ∧ W (i + 1) m' σ' H') ∧ ∀ v H', (Its x).yld i H v H' → g v σ H' fun σ2 H2 => tb { D with nx := N, ct := N, bk := D.nx } σ2 H2) := by
  refine ⟨fun i m σ H => m = x.cps.size - i ∧ i ≤ x.cps.size ∧ Pv i σ H, ⟨_, rfl, Nat.zero_le _, h0⟩, fun i m σ H hw => ?_⟩
  obtain ⟨rfl, hi, p⟩ := hw
  by_cases lt : i < x.cps.size
  · refine .inr ⟨lt, Pv (i + 1), fun σ' H' p' => ⟨x.cps.size - (i + 1), by omega, rfl, lt, p'⟩, fun v H' y => ?_⟩
    obtain ⟨rfl, c, hc, rfl⟩ := y
    exact hs i c σ _ (by rw [Array.getElem?_toList]; exact hc) p
  · have e : i = x.cps.size := by omega
    subst e
    exact .inl ⟨Nat.le_refl _, hd σ H (by rw [Array.length_toList]; exact p)⟩
end Ey
namespace Ey
open PySem PySem.Spec L2
/-! ### heaps -/
/-- all that was tracked is as it was, but what stands at ms; tuples never change -/
structure Kp (ms : List Addr) (H H' : Hp) : Prop where
  at_ : ∀ b o, H b = some o → b ∉ ms → H' b = some o
  tup : ∀ b xs, H b = some (.tup xs) → H' b = some (.tup xs)
section
variable {ms : List Addr} {H H' H1 H2 : Hp}
theorem Kp.refl : Kp ms H H := ⟨fun _ _ e _ => e, fun _ _ e => e⟩
theorem Kp.trans (a : Kp ms H H1) (b : Kp ms H1 H2) : Kp ms H H2 := ⟨fun c o e n => b.at_ c o (a.at_ c o e n) n, fun c xs e => b.tup c xs (a.tup c xs e)⟩
theorem Kp.more {ms' : List Addr} (a : Kp ms H H1) (h : ∀ x ∈ ms, x ∈ ms') : Kp ms' H H1 := ⟨fun c o e n => a.at_ c o e fun q => n (h c q), a.tup⟩
theorem Kp.new {p : Addr} {o : HO} (h : H p = none) : Kp ms H (upd H p o) :=
  ⟨fun c u e _ => by rw [upd_ne (ne_of_none e h)]; exact e, fun c xs e => by rw [upd_ne (ne_of_none e h)]; exact e⟩
theorem Kp.put {p : Addr} {o u : HO} (hm : p ∈ ms) (h : H p = some u) (nt : ∀ xs, u ≠ .tup xs) : Kp ms H (upd H p o) := by
  refine ⟨fun c v e n => ?_, fun c xs e => ?_⟩
  · rw [upd_ne (fun q => n (by rw [q]; exact hm))]
    exact e
  · rw [upd_ne (fun q => ?_)]
    · exact e
    · rw [q, h] at e
      exact nt xs (Option.some.inj e)
theorem Kp.same (s : Same H H1) : Kp ms H H1 := ⟨fun c o e _ => s c o e, fun c xs e => s c _ e⟩
theorem Kp.free (a : Kp ms H H1) {p : Addr} (h : H1 p = none) (n : p ∉ ms) : H p = none := by
  cases q : H p with
  | none => rfl
  | some o =>
    rw [a.at_ p o q n] at h
    cases h
theorem Kp.lst {K : PySem.W.Frag} {a : Addr} {xs : List V} (k : Kp ms H H1) (n : a ∉ ms) (h : SqL K H a xs) : SqL K H1 a xs := by
  rcases h with (h | ⟨o, h⟩) | h
  · exact .inl (.inl (k.at_ _ _ h n))
  · exact .inl (.inr ⟨o, k.at_ _ _ h n⟩)
  · exact .inr h
end
/-! ### trees in the heap -/
inductive TreeAt (H : Hp) : V → Tr → Prop where
  | nil : TreeAt H .non .nil
  | nd {a : Addr} {g : Str} {l r : Tr} {v w : V} : H a = some (.tup [.str g, v, w]) → TreeAt H v l → TreeAt H w r → TreeAt H (.ref a) (.nd g l r)
theorem TreeAt.kp {ms : List Addr} {H H1 : Hp} {v : V} {t : Tr} (k : Kp ms H H1) (h : TreeAt H v t) : TreeAt H1 v t := by
  induction h with
  | nil => exact .nil
  | nd e _ _ ih1 ih2 => exact .nd (k.tup _ _ e) ih1 ih2
theorem TreeAt.non {H : Hp} {v : V} {t : Tr} (h : TreeAt H v t) : decide (v = .non) = !t.full := by
  cases h <;> rfl
theorem sqt_of {K : PySem.W.Frag} {H : Hp} {a : Addr} {xs : List V} (h : H a = some (.tup xs)) : SqT K H a xs := .inl (.inl h)
theorem sql_of {K : PySem.W.Frag} {H : Hp} {a : Addr} {xs : List V} (h : H a = some (.lst xs)) : SqL K H a xs := .inl (.inl h)
/-- a tree as data -/
def td : Tr → PyData
  | .nil => .none
  | .nd g l r => .tuple [.str g, td l, td r]
theorem TreeAt.dp {K : PySem.W.Frag} {H : Hp} {v : V} {t : Tr} (h : TreeAt H v t) : Dp K H v (td t) := by
  induction h with
  | nil => exact .non
  | nd e _ _ ih1 ih2 => exact .tup (sqt_of e) (.cons (.str _) (.cons ih1 (.cons ih2 .nil)))
theorem td_show : ∀ t : Tr, (td t).showable = true
  | .nil => rfl
  | .nd g l r => by
    show (true && ((td l).showable && ((td r).showable && true))) = true
    rw [td_show l, td_show r]
    rfl
theorem td_depth : ∀ t : Tr, (td t).depth ≤ 1 + t.ht
  | .nil => by decide
  | .nd g l r => by
    have a := td_depth l
    have b := td_depth r
    simp only [td, PyData.depth, PyData.depthAll, Tr.ht]
    omega
theorem tag_signs {g : Str} (h : isTag g = true) : ∀ c ∈ g.cps.toList, c < 16 ^ 8 := fun c hc => by
  simp only [isTag, Bool.and_eq_true, List.all_eq_true, decide_eq_true_eq] at h
  have := h.2 c hc
  simp only [abc, List.mem_cons, List.not_mem_nil, or_false] at this
  omega
theorem tag_len {g : Str} (h : isTag g = true) : g.length ≤ 8 := by
  simp only [isTag, Bool.and_eq_true, decide_eq_true_eq] at h
  exact h.1.2
theorem len_app (a b : Str) : (a ++ b).length = a.length + b.length := by
  show (a.cps ++ b.cps).size = _
  rw [Array.size_append]
  rfl
theorem td_len : ∀ t : Tr, t.ok → (td t).shown.length ≤ 100 * t.sz + 4
  | .nil, _ => by decide +kernel
  | .nd g l r, h => by
    obtain ⟨hg, hl, hr⟩ := h
    have a := td_len l hl
    have b := td_len r hr
    have c := StrLaws.reprText_len g (tag_signs hg)
    have d := tag_len hg
    have e : (td (.nd g l r)).shown.length ≤ (reprText g).length + (td l).shown.length + (td r).shown.length + 6 := by
      show (tupleText [reprText g, (td l).shown, (td r).shown]).length ≤ _
      unfold tupleText
      rw [len_app, len_app]
      simp only [Str.join, len_app]
      have q1 : (", " : Str).length = 2 := by decide +kernel
      have q2 : ("(" : Str).length = 1 := by decide +kernel
      have q3 : (Str.ofString (if (([reprText g, (td l).shown, (td r).shown] : List Str).length == 1) = true then ",)" else ")")).length = 1 := by
        show (Str.ofString (if ((3 : Nat) == 1) = true then ",)" else ")")).length = 1
        decide +kernel
      rw [q1, q2]
      omega
    simp only [Tr.sz]
    omega
end Ey
set_option maxHeartbeats 4000000
namespace Ey
open PySem PySem.Spec PyProof.Rows L2
/-! ### data: what is a tree, what may be told -/
def isTagD : PyData → Bool
  | .str g => isTag g
  | .none | .bool _ | .int _ | .list _ | .tuple _ | .dict _ => false
def tri : List PyData → List Bool → Bool
  | [x, _, _], [_, b, c] => isTagD x && (b && c)
  | _, _ => false
mutual
def isT : PyData → Bool
  | .none => true
  | .tuple ds => tri ds (isTs ds)
  | .bool _ | .int _ | .str _ | .list _ | .dict _ => false
def isTs : List PyData → List Bool
  | [] => []
  | x :: r => isT x :: isTs r
end
mutual
def fit : PyData → Bool
  | .none | .bool _ => true
  | .int i => decide (i.natAbs < 10 ^ 40)
  | .str x => x.cps.toList.all fun c => decide (c < 1000)
  | .list ds | .tuple ds => fitAll ds
  | .dict kvs => fitKv kvs
def fitAll : List PyData → Bool
  | [] => true
  | x :: r => fit x && fitAll r
def fitKv : List (PyData × PyData) → Bool
  | [] => true
  | (k, v) :: r => (fit k && fit v) && fitKv r
end
mutual
def wd : PyData → Nat
  | .none => 4
  | .bool _ => 5
  | .int _ => 45
  | .str x => 10 * x.length + 2
  | .list ds | .tuple ds => wdAll ds + 3
  | .dict kvs => wdKv kvs + 3
def wdAll : List PyData → Nat
  | [] => 0
  | x :: r => wd x + 2 + wdAll r
def wdKv : List (PyData × PyData) → Nat
  | [] => 0
  | (k, v) :: r => wd k + wd v + 4 + wdKv r
end
theorem nat_len {n : Nat} (h : n < 10 ^ 40) : (Str.ofString (toString (n : Int))).length ≤ 40 := by
  rw [ofString_len]
  show (Nat.repr n).length ≤ 40
  have e : (Nat.repr n).length = (Nat.toDigits 10 n).length := by
    unfold Nat.repr
    simp
  rw [e]
  exact digits10_le (by decide) h
theorem int_ok (i : Int) (h : i.natAbs < 10 ^ 40) : i.natAbs.log2 < 1920 ∧ (PyData.shown (.int i)).length ≤ 45 := by
  refine ⟨?_, ?_⟩
  · by_cases h0 : i.natAbs = 0
    · rw [h0]
      decide
    · rw [Nat.log2_lt h0]
      exact Nat.lt_trans h (by decide +kernel)
  · show (Str.ofString (toString i)).length ≤ 45
    by_cases hn : i < 0
    · rw [len_text_neg hn]
      obtain ⟨n, e⟩ : ∃ n : Nat, 0 - i = (n : Int) := ⟨(0 - i).toNat, by omega⟩
      rw [e]
      have := nat_len (n := n) (by omega)
      omega
    · obtain ⟨n, rfl⟩ : ∃ n : Nat, i = (n : Int) := ⟨i.toNat, by omega⟩
      have := nat_len (n := n) (by simpa using h)
      omega
theorem lenD (ts : List Str) : (listText ts).length ≤ piled ts + 2 := by
  have q1 : ("[" : Str).length = 1 := by decide +kernel
  have q2 : ("]" : Str).length = 1 := by decide +kernel
  unfold listText
  rw [len_app, q2]
  cases ts with
  | nil =>
    show (textFrom 0 "[" []).length + 1 ≤ _
    unfold textFrom
    rw [q1]
    omega
  | cons t r =>
    show (textFrom 1 (("[" : Str) ++ Str.ofString "" ++ t) r).length + 1 ≤ piled (t :: r) + 2
    have e : (Str.ofString "").length = 0 := by decide +kernel
    rw [textFrom_length_pos r 1 _ (by decide), len_app, len_app, q1, e, piled_cons]
    omega
theorem joinD (ts : List Str) : (Str.join ", " ts).length ≤ piled ts := by
  cases ts with
  | nil => exact Nat.zero_le _
  | cons t r =>
    have := join_length_add (t :: r) (by simp)
    omega
theorem lenT (ts : List Str) : (tupleText ts).length ≤ piled ts + 3 := by
  have q1 : ("(" : Str).length = 1 := by decide +kernel
  have q2 : (Str.ofString ",)").length = 2 := by decide +kernel
  have q3 : (Str.ofString ")").length = 1 := by decide +kernel
  have q : (Str.ofString (if (ts.length == 1) = true then ",)" else ")")).length ≤ 2 := by
    split
    · rw [q2]
      exact Nat.le_refl _
    · rw [q3]
      decide
  have := joinD ts
  unfold tupleText
  rw [len_app, len_app, q1]
  omega
theorem lenK (ts : List Str) : (dictText ts).length ≤ piled ts + 3 := by
  have q1 : ("{" : Str).length = 1 := by decide +kernel
  have q2 : ("}" : Str).length = 1 := by decide +kernel
  have := joinD ts
  unfold dictText
  rw [len_app, len_app, q1, q2]
  omega
mutual
theorem fit_told : ∀ d : PyData, fit d = true → d.showable = true ∧ d.shown.length ≤ wd d
  | .none, _ => ⟨rfl, by show ("None" : Str).length ≤ 4; decide +kernel⟩
  | .bool b, _ => ⟨rfl, by
      show (PyData.shown (.bool b)).length ≤ 5
      cases b <;> decide +kernel⟩
  | .int i, h => by
    have a := int_ok i (of_decide_eq_true h)
    exact ⟨decide_eq_true a.1, a.2⟩
  | .str x, h => by
    refine ⟨rfl, StrLaws.reprText_len x fun c hc => ?_⟩
    have h2 : (x.cps.toList.all fun c => decide (c < 1000)) = true := h
    exact Nat.lt_of_lt_of_le (of_decide_eq_true (List.all_eq_true.mp h2 c hc)) (by decide)
  | .list ds, h => by
    obtain ⟨a, b⟩ := fit_tolds ds h
    exact ⟨a, Nat.le_trans (lenD _) (by show piled (PyData.shownAll ds) + 2 ≤ wdAll ds + 3; omega)⟩
  | .tuple ds, h => by
    obtain ⟨a, b⟩ := fit_tolds ds h
    exact ⟨a, Nat.le_trans (lenT _) (by show piled (PyData.shownAll ds) + 3 ≤ wdAll ds + 3; omega)⟩
  | .dict kvs, h => by
    obtain ⟨a, b⟩ := fit_toldKv kvs h
    exact ⟨a, Nat.le_trans (lenK _) (by show piled (PyData.shownKv kvs) + 3 ≤ wdKv kvs + 3; omega)⟩
theorem fit_tolds : ∀ ds : List PyData, fitAll ds = true → PyData.showableAll ds = true ∧ piled (PyData.shownAll ds) ≤ wdAll ds
  | [], _ => ⟨rfl, Nat.le_refl _⟩
  | x :: r, h => by
    have h2 : (fit x && fitAll r) = true := h
    rw [Bool.and_eq_true] at h2
    obtain ⟨a, b⟩ := fit_told x h2.1
    obtain ⟨c, d⟩ := fit_tolds r h2.2
    refine ⟨?_, ?_⟩
    · show (x.showable && PyData.showableAll r) = true
      rw [a, c]
      rfl
    · show piled (x.shown :: PyData.shownAll r) ≤ wd x + 2 + wdAll r
      rw [piled_cons]
      omega
theorem fit_toldKv : ∀ kvs : List (PyData × PyData), fitKv kvs = true → PyData.showableKv kvs = true ∧ piled (PyData.shownKv kvs) ≤ wdKv kvs
  | [], _ => ⟨rfl, Nat.le_refl _⟩
  | (k, v) :: r, h => by
    have h2 : ((fit k && fit v) && fitKv r) = true := h
    rw [Bool.and_eq_true, Bool.and_eq_true] at h2
    obtain ⟨a, b⟩ := fit_told k h2.1.1
    obtain ⟨a2, b2⟩ := fit_told v h2.1.2
    obtain ⟨c, d⟩ := fit_toldKv r h2.2
    refine ⟨?_, ?_⟩
    · show (k.showable && v.showable && PyData.showableKv r) = true
      rw [a, a2, c]
      rfl
    · show piled ((k.shown ++ ": " ++ v.shown) :: PyData.shownKv r) ≤ wd k + wd v + 4 + wdKv r
      have q : (Str.ofString ": ").length = 2 := by decide +kernel
      rw [piled_cons, len_app, len_app, q]
      omega
end
/-! ### trees as data -/
theorem td_isT : ∀ t : Tr, t.ok → isT (td t) = true
  | .nil, _ => rfl
  | .nd g l r, h => by
    show (isTag g && (isT (td l) && isT (td r))) = true
    rw [h.1, td_isT l h.2.1, td_isT r h.2.2]
    rfl
theorem tag_low {g : Str} (h : isTag g = true) : ∀ c ∈ g.cps.toList, c < 1000 := fun c hc => by
  simp only [isTag, Bool.and_eq_true, List.all_eq_true, decide_eq_true_eq] at h
  have := h.2 c hc
  simp only [abc, List.mem_cons, List.not_mem_nil, or_false] at this
  omega
theorem td_fit : ∀ t : Tr, t.ok → fit (td t) = true
  | .nil, _ => rfl
  | .nd g l r, h => by
    have a : (g.cps.toList.all fun c => decide (c < 1000)) = true := List.all_eq_true.mpr fun c hc => decide_eq_true (tag_low h.1 c hc)
    show ((g.cps.toList.all fun c => decide (c < 1000)) && (fit (td l) && (fit (td r) && true))) = true
    rw [a, td_fit l h.2.1, td_fit r h.2.2]
    rfl
theorem td_wd : ∀ t : Tr, t.ok → wd (td t) ≤ 100 * t.sz + 4
  | .nil, _ => Nat.le_refl _
  | .nd g l r, h => by
    have a := td_wd l h.2.1
    have b := td_wd r h.2.2
    have c := tag_len h.1
    show (10 * g.length + 2) + 2 + (wd (td l) + 2 + (wd (td r) + 2 + 0)) + 3 ≤ 100 * (l.sz + r.sz + 1) + 4
    omega
theorem sz_wd : ∀ t : Tr, t.sz ≤ wd (td t)
  | .nil => Nat.zero_le _
  | .nd g l r => by
    have a := sz_wd l
    have b := sz_wd r
    show l.sz + r.sz + 1 ≤ (10 * g.length + 2) + 2 + (wd (td l) + 2 + (wd (td r) + 2 + 0)) + 3
    omega
theorem ht_depth : ∀ t : Tr, t.ht ≤ (td t).depth
  | .nil => Nat.le_refl _
  | .nd g l r => by
    have a := ht_depth l
    have b := ht_depth r
    show max l.ht r.ht + 1 ≤ max 0 (max (td l).depth (max (td r).depth 0)) + 1
    omega
mutual
theorem isT_td : ∀ d : PyData, isT d = true → ∃ t : Tr, t.ok ∧ td t = d
  | .none, _ => ⟨.nil, trivial, rfl⟩
  | .bool _, h => by cases h
  | .int _, h => by cases h
  | .str _, h => by cases h
  | .list _, h => by cases h
  | .dict _, h => by cases h
  | .tuple ds, h => isTs_td ds h
theorem isTs_td : ∀ ds : List PyData, tri ds (isTs ds) = true → ∃ t : Tr, t.ok ∧ td t = .tuple ds
  | [], h => by cases h
  | [_], h => by cases h
  | [_, _], h => by cases h
  | _ :: _ :: _ :: _ :: _, h => by cases h
  | [x, a, b], h => by
    have h2 : (isTagD x && (isT a && isT b)) = true := h
    rw [Bool.and_eq_true, Bool.and_eq_true] at h2
    obtain ⟨l, ol, el⟩ := isT_td a h2.2.1
    obtain ⟨r, or', er⟩ := isT_td b h2.2.2
    cases x with
    | str g => exact ⟨.nd g l r, ⟨h2.1, ol, or'⟩, by rw [td, el, er]⟩
    | none => cases h2.1
    | bool _ => cases h2.1
    | int _ => cases h2.1
    | list _ => cases h2.1
    | tuple _ => cases h2.1
    | dict _ => cases h2.1
end
/-! ### data in the heap, none of its lists and dicts at ms -/
def kD : Key → PyData
  | .inl i => .int i
  | .inr x => .str x
mutual
inductive An (ms : List Addr) (H : Hp) : V → PyData → Prop
  | non : An ms H .non .none
  | bl (b : Bool) : An ms H (.bl b) (.bool b)
  | int (i : Int) : An ms H (.int i) (.int i)
  | str (x : Str) : An ms H (.str x) (.str x)
  | lst {a : Addr} {xs : List V} {ds : List PyData} : H a = some (.lst xs) → a ∉ ms → AnAll ms H xs ds → An ms H (.ref a) (.list ds)
  | tup {a : Addr} {xs : List V} {ds : List PyData} : H a = some (.tup xs) → AnAll ms H xs ds → An ms H (.ref a) (.tuple ds)
  | dct {a : Addr} {kvs : List (Key × V)} {ds : List (PyData × PyData)} : H a = some (.dK kvs) → a ∉ ms → AnKv ms H kvs ds → An ms H (.ref a) (.dict ds)
inductive AnAll (ms : List Addr) (H : Hp) : List V → List PyData → Prop
  | nil : AnAll ms H [] []
  | cons {v : V} {vs : List V} {d : PyData} {ds : List PyData} : An ms H v d → AnAll ms H vs ds → AnAll ms H (v :: vs) (d :: ds)
inductive AnKv (ms : List Addr) (H : Hp) : List (Key × V) → List (PyData × PyData) → Prop
  | nil : AnKv ms H [] []
  | cons {k : Key} {v : V} {kvs : List (Key × V)} {d : PyData} {ds : List (PyData × PyData)} : An ms H v d → AnKv ms H kvs ds → AnKv ms H ((k, v) :: kvs) ((kD k, d) :: ds)
end
section
variable {ms ms' : List Addr} {H H1 : Hp}
mutual
theorem An.kp (k : Kp ms' H H1) (hs : ∀ x ∈ ms', x ∈ ms) : ∀ {v : V} (d : PyData), An ms H v d → An ms H1 v d
  | _, .none, h => by cases h; exact .non
  | _, .bool b, h => by cases h; exact .bl b
  | _, .int i, h => by cases h; exact .int i
  | _, .str x, h => by cases h; exact .str x
  | _, .list ds, h => by
    cases h with
    | lst e n a => exact .lst (k.at_ _ _ e fun q => n (hs _ q)) n (AnAll.kp k hs ds a)
  | _, .tuple ds, h => by
    cases h with
    | tup e a => exact .tup (k.tup _ _ e) (AnAll.kp k hs ds a)
  | _, .dict ds, h => by
    cases h with
    | dct e n a => exact .dct (k.at_ _ _ e fun q => n (hs _ q)) n (AnKv.kp k hs ds a)
theorem AnAll.kp (k : Kp ms' H H1) (hs : ∀ x ∈ ms', x ∈ ms) : ∀ {vs : List V} (ds : List PyData), AnAll ms H vs ds → AnAll ms H1 vs ds
  | _, [], h => by cases h; exact .nil
  | _, d :: r, h => by
    cases h with
    | cons a b => exact .cons (An.kp k hs d a) (AnAll.kp k hs r b)
theorem AnKv.kp (k : Kp ms' H H1) (hs : ∀ x ∈ ms', x ∈ ms) : ∀ {vs : List (Key × V)} (ds : List (PyData × PyData)), AnKv ms H vs ds → AnKv ms H1 vs ds
  | _, [], h => by cases h; exact .nil
  | _, (y, d) :: r, h => by
    cases h with
    | cons a b => exact .cons (An.kp k hs d a) (AnKv.kp k hs r b)
end
theorem TreeAt.an {v : V} {t : Tr} (h : TreeAt H v t) : An ms H v (td t) := by
  induction h with
  | nil => exact .non
  | nd e _ _ ih1 ih2 => exact .tup e (.cons (.str _) (.cons ih1 (.cons ih2 .nil)))
theorem An.tree : ∀ (t : Tr) {v : V}, An ms H v (td t) → TreeAt H v t
  | .nil, _, h => by cases h; exact .nil
  | .nd g l r, _, h => by
    cases h with
    | tup e a =>
      cases a with
      | cons a1 a =>
        cases a1
        cases a with
        | cons a2 a =>
          cases a with
          | cons a3 a =>
            cases a
            exact .nd e (An.tree l a2) (An.tree r a3)
theorem AnAll.append {vs ws : List V} {ds es : List PyData} (h : AnAll ms H vs ds) (g : AnAll ms H ws es) : AnAll ms H (vs ++ ws) (ds ++ es) := by
  induction ds generalizing vs with
  | nil => cases h; exact g
  | cons d r ih =>
    cases h with
    | cons a b => exact .cons a (ih b)
theorem AnAll.length {vs : List V} {ds : List PyData} (h : AnAll ms H vs ds) : vs.length = ds.length := by
  induction ds generalizing vs with
  | nil => cases h; rfl
  | cons d r ih =>
    cases h with
    | cons a b => rw [List.length_cons, List.length_cons, ih b]
theorem AnAll.take {vs : List V} {ds : List PyData} (h : AnAll ms H vs ds) (n : Nat) : AnAll ms H (vs.take n) (ds.take n) := by
  induction ds generalizing vs n with
  | nil =>
    cases h
    rw [List.take_nil, List.take_nil]
    exact .nil
  | cons d r ih =>
    cases h with
    | cons a b =>
      cases n with
      | zero => exact .nil
      | succ n => exact .cons a (ih b n)
theorem AnAll.drop {vs : List V} {ds : List PyData} (h : AnAll ms H vs ds) (n : Nat) : AnAll ms H (vs.drop n) (ds.drop n) := by
  induction ds generalizing vs n with
  | nil =>
    cases h
    rw [List.drop_nil, List.drop_nil]
    exact .nil
  | cons d r ih =>
    cases h with
    | cons a b =>
      cases n with
      | zero => exact .cons a b
      | succ n => exact ih b n
theorem AnAll.rev {vs : List V} {ds : List PyData} (h : AnAll ms H vs ds) : AnAll ms H vs.reverse ds.reverse := by
  induction ds generalizing vs with
  | nil => cases h; exact .nil
  | cons d r ih =>
    cases h with
    | cons a b =>
      rw [List.reverse_cons, List.reverse_cons]
      exact (ih b).append (.cons a .nil)
theorem AnAll.get {vs : List V} {ds : List PyData} (h : AnAll ms H vs ds) {i : Nat} {v : V} (e : vs[i]? = some v) : ∃ d, ds[i]? = some d ∧ An ms H v d := by
  induction ds generalizing vs i with
  | nil => cases h; cases e
  | cons d r ih =>
    cases h with
    | cons a b =>
      cases i with
      | zero =>
        cases e
        exact ⟨d, rfl, a⟩
      | succ i => exact ih b e
/-- all at ms is tracked -/
def Has (ms : List Addr) (H : Hp) : Prop := ∀ b ∈ ms, H b ≠ none
theorem Has.fresh {p : Addr} (h : Has ms H) (n : H p = none) : p ∉ ms := fun q => h p q n
theorem Has.new {p : Addr} {o : HO} (h : Has ms H) : Has ms (upd H p o) := fun b q => by
  by_cases e : b = p
  · rw [e, upd_same]
    exact fun z => nomatch z
  · rw [upd_ne e]
    exact h b q
theorem Has.kp (h : Has ms H) (k : Kp ms' H H1) (hs : ∀ b ∈ ms', H1 b ≠ none) : Has ms H1 := fun b q => by
  by_cases m : b ∈ ms'
  · exact hs b m
  · cases e : H b with
    | none => exact absurd e (h b q)
    | some o =>
      rw [k.at_ b o e m]
      exact fun z => nomatch z
end
section
variable {X : Cx} {pins : List (Addr × Obj)} {σ : L2.St} {H : Hp} {s : Shared} {ms : List Addr}
theorem low (I : Inv X pins σ H s) (hs : ∃ mm, X.base.Ns sysModules mm) {a : Addr} {o : HO} (e : H a = some o) : a ≠ sysModules := by
  rintro rfl
  obtain ⟨mm, ob, es, ep, g, _⟩ := hs
  rw [(I.bs _ _ g).2] at e
  cases e
theorem key_reads (k : Key) (y : Value) (h : keyIs k y = true) : Reads s.heap y (kD k) [] := by
  rcases keyIs_shape h with ⟨i, t, rfl, rfl⟩ | ⟨x, t, rfl, rfl⟩
  · exact .int i t
  · exact .str x t
mutual
theorem An.reads (I : Inv X pins σ H s) (hs : ∃ mm, X.base.Ns sysModules mm) : ∀ {v : V} {u : Value} (d : PyData), An ms H v d → RelV v u → ∃ as, Reads s.heap u d as ∧ sysModules ∉ as
  | _, _, .none, h, r => by
    cases h
    cases r
    exact ⟨_, .none, List.not_mem_nil⟩
  | _, _, .bool b, h, r => by
    cases h
    cases r
    exact ⟨_, .bool b, List.not_mem_nil⟩
  | _, _, .int i, h, r => by
    cases h
    obtain ⟨t, rfl⟩ := r
    exact ⟨_, .int i t, List.not_mem_nil⟩
  | _, _, .str x, h, r => by
    cases h
    obtain ⟨t, rfl⟩ := r
    exact ⟨_, .str x t, List.not_mem_nil⟩
  | _, _, .list ds, h, r => by
    cases h with
    | @lst a xs _ e n hd =>
      cases r
      obtain ⟨_, its, m, rv, at0⟩ := (show ObjOk X.prog X.w H s.heap a (.lst xs) from I.hok a _ e)
      obtain ⟨as, q, nq⟩ := AnAll.reads I hs ds hd rv
      refine ⟨_, .list at0 rfl rfl q, fun z => ?_⟩
      rcases List.mem_cons.mp z with z | z
      · exact low I hs e z.symm
      · exact nq z
  | _, _, .tuple ds, h, r => by
    cases h with
    | @tup a xs _ e hd =>
      cases r
      obtain ⟨_, its, rv, o, h1, h2, n, h3⟩ := (show ObjOk X.prog X.w H s.heap a (.tup xs) from I.hok a _ e)
      obtain ⟨as, q, nq⟩ := AnAll.reads I hs ds hd rv
      exact ⟨_, .tuple h1 h2 h3 q, nq⟩
  | _, _, .dict ds, h, r => by
    cases h with
    | @dct a kvs _ e n hd =>
      cases r
      obtain ⟨_, lo, vs, rk, dd⟩ := (show ObjOk X.prog X.w H s.heap a (.dK kvs) from I.hok a _ e)
      obtain ⟨as, q, nq⟩ := AnKv.reads I hs ds hd rk
      refine ⟨_, PyProof.V.reads_dictOf (fun k y hk => key_reads k y hk) dd q, fun z => ?_⟩
      rcases List.mem_cons.mp z with z | z
      · exact low I hs e z.symm
      · exact nq z
theorem AnAll.reads (I : Inv X pins σ H s) (hs : ∃ mm, X.base.Ns sysModules mm) : ∀ {vs : List V} {us : List Value} (ds : List PyData), AnAll ms H vs ds → Vals vs us → ∃ as, ReadsAll s.heap us ds as ∧ sysModules ∉ as
  | _, _, [], h, r => by
    cases h
    cases r
    exact ⟨_, .nil, List.not_mem_nil⟩
  | _, _, d :: ds, h, r => by
    cases h with
    | cons h1 h2 =>
      cases r with
      | cons r1 r2 =>
        obtain ⟨as, q1, n1⟩ := An.reads I hs d h1 r1
        obtain ⟨bs, q2, n2⟩ := AnAll.reads I hs ds h2 r2
        exact ⟨_, .cons q1 q2, fun z => (List.mem_append.mp z).elim n1 n2⟩
theorem AnKv.reads (I : Inv X pins σ H s) (hs : ∃ mm, X.base.Ns sysModules mm) : ∀ {kvs : List (Key × V)} {vs : List (Key × Value)} (ds : List (PyData × PyData)), AnKv ms H kvs ds → KV kvs vs → ∃ as, PyProof.V.PairsRead s.heap kD vs ds as ∧ sysModules ∉ as
  | _, _, [], h, r => by
    cases h
    cases r
    exact ⟨_, .nil, List.not_mem_nil⟩
  | _, _, (y, d) :: ds, h, r => by
    cases h with
    | @cons k v kvs _ _ h1 h2 =>
      cases r with
      | @cons _ b _ _ r1 r2 =>
        obtain ⟨k2, u⟩ := b
        obtain ⟨e, r1⟩ := r1
        have e' : k = k2 := e
        subst e'
        obtain ⟨as, q1, n1⟩ := An.reads I hs d h1 r1
        obtain ⟨bs, q2, n2⟩ := AnKv.reads I hs ds h2 r2
        exact ⟨_, .cons q1 q2, fun z => (List.mem_append.mp z).elim n1 n2⟩
end
/-- repr of data, dicts among it -/
def rReprA (ms : List Addr) : List V → Hp → VK → Prop := fun xs H Q =>
  ∃ v d, xs = [v] ∧ An ms H v d ∧ fit d = true ∧ d.depth ≤ 100 ∧ wd d ≤ 1000000 ∧ Q (.str d.shown) H
theorem cr_reprA {k : Nat} (hs : ∃ mm, X.base.Ns sysModules mm) (hg : X.A.guards = some []) (hr : Room k X.A) : CallR X (.builtin "repr") (rReprA ms) := by
  intro pins s σ H xs us Q I r h
  obtain ⟨v, d, rfl, hd, hf, hp, hz, q⟩ := h
  obtain ⟨u, rfl, ru⟩ := vals1 r
  obtain ⟨as, rd, ns⟩ := An.reads I hs d hd ru
  obtain ⟨sh, ln⟩ := fit_told d hf
  have z : d.shown.length ≤ sizeLine := Nat.le_trans ln (Nat.le_trans hz (by decide))
  have room : X.A.units + (d.depth + 1) < cLine := by
    have := hr.un
    omega
  have fin : ∀ (h' : Heap) (tk : Nat) (t : Tok), (∀ b o, s.heap.get? b = some o → h'.get? b = some o) → EP X pins σ Q (.str d.shown t) { s with heap := h', toks := tk } :=
    fun h' tk t hk => ⟨.str d.shown, H, I.kept hk, ⟨t, rfl⟩, q⟩
  cases rd with
  | none => exact PySem.P.repr_of_none (fin s.heap _ _ fun _ _ e => e)
  | bool b => exact PySem.P.repr_of_bool (fin s.heap _ _ fun _ _ e => e)
  | int i t => exact PySem.P.repr_of_int (of_decide_eq_true sh) (fin s.heap _ _ fun _ _ e => e)
  | str x t => exact PySem.P.repr_of_str (fin s.heap _ _ fun _ _ e => e) z
  | list a b c e => exact repr_of_reads' (.list a b c e) sh (fun _ => ns) hg room (fun _ _ e => e) (fun h' u tk hk => fin h' tk u hk) z
  | tuple a b c e => exact repr_of_reads' (.tuple a b c e) sh (fun _ => ns) hg room (fun _ _ e => e) (fun h' u tk hk => fin h' tk u hk) z
  | dict a b c e f => exact repr_of_reads' (.dict a b c e f) sh (fun _ => ns) hg room (fun _ _ e => e) (fun h' u tk hk => fin h' tk u hk) z
end
/-! ### kinds -/
def isTup : PyData → Bool
  | .tuple _ => true
  | .none | .bool _ | .int _ | .list _ | .str _ | .dict _ => false
def isStr : PyData → Bool
  | .str _ => true
  | .none | .bool _ | .int _ | .list _ | .tuple _ | .dict _ => false
theorem An.tupK {ms : List Addr} {K : PySem.W.Frag} {H : Hp} {v : V} {d : PyData} (h : An ms H v d) : ∃ t, TyX K H v t ∧ PySem.W.kitOne K t (.type "tuple") = some (isTup d) := by
  cases h with
  | non => exact ⟨_, .base .non, kit_ty (r := false) (by decide +kernel)⟩
  | bl b => exact ⟨_, .base (.bl b), kit_ty (r := false) (by decide +kernel)⟩
  | int i => exact ⟨_, .base (.int i), kit_ty (r := false) (by decide +kernel)⟩
  | str x => exact ⟨_, .base (.str x), kit_ty (r := false) (by decide +kernel)⟩
  | lst e => exact ⟨_, .base (.lst e), kit_ty (r := false) (by decide +kernel)⟩
  | tup e => exact ⟨_, .base (.tup e), kit_ty (r := true) (by decide +kernel)⟩
  | dct e => exact ⟨_, .base (.dK e), kit_ty (r := false) (by decide +kernel)⟩
theorem An.strK {ms : List Addr} {K : PySem.W.Frag} {H : Hp} {v : V} {d : PyData} (h : An ms H v d) : ∃ t, TyX K H v t ∧ PySem.W.kitOne K t (.type "str") = some (isStr d) := by
  cases h with
  | non => exact ⟨_, .base .non, kit_ty (r := false) (by decide +kernel)⟩
  | bl b => exact ⟨_, .base (.bl b), kit_ty (r := false) (by decide +kernel)⟩
  | int i => exact ⟨_, .base (.int i), kit_ty (r := false) (by decide +kernel)⟩
  | str x => exact ⟨_, .base (.str x), kit_ty (r := true) (by decide +kernel)⟩
  | lst e => exact ⟨_, .base (.lst e), kit_ty (r := false) (by decide +kernel)⟩
  | tup e => exact ⟨_, .base (.tup e), kit_ty (r := false) (by decide +kernel)⟩
  | dct e => exact ⟨_, .base (.dK e), kit_ty (r := false) (by decide +kernel)⟩
theorem An.noneK {ms : List Addr} {H : Hp} {v : V} {d : PyData} (h : An ms H v d) : v = .non ↔ d = .none := by
  cases h <;> simp
theorem isi_tup {ms : List Addr} {K : PySem.W.Frag} {H : Hp} {v : V} {d : PyData} {Q : VK} (h : An ms H v d) (q : Q (.bl (isTup d)) H) : rIsi K [v, .ty "tuple"] H Q := by
  obtain ⟨t, a, b⟩ := h.tupK (K := K)
  exact ⟨v, .ty "tuple", t, .type "tuple", _, rfl, .ty "tuple", a, b, q⟩
theorem isi_str {ms : List Addr} {K : PySem.W.Frag} {H : Hp} {v : V} {d : PyData} {Q : VK} (h : An ms H v d) (q : Q (.bl (isStr d)) H) : rIsi K [v, .ty "str"] H Q := by
  obtain ⟨t, a, b⟩ := h.strK (K := K)
  exact ⟨v, .ty "str", t, .type "str", _, rfl, .ty "str", a, b, q⟩
end Ey
set_option maxHeartbeats 4000000
namespace Ey
open PySem PySem.Spec PyProof.Rows L2 PySem.SeqAt
/-! ### any data beside a text -/
def isThe (t : Str) : PyData → Bool
  | .str g => decide (g = t)
  | .none | .bool _ | .int _ | .list _ | .tuple _ | .dict _ => false
section
variable {A : Around} {s : Shared}
theorem rcNe_dict_str {l : Addr} {o : Obj} {es : Array DictEntry} {n : Nat} (b : Str) (u : Tok) (ho : s.heap.get? l = some o) (hc : o.cls = .type "dict") (hd : o.data = .dict es n) (hu : A.units < cLine) : RcNeAt A s (.ref l) (.str b u) true := fun prog w E Q h => by
  obtain ⟨cls, dd, data, sl⟩ := o
  simp only at hc hd
  subst hc hd
  exact rc_ne_decline_or (k := false) ⟨_, ho, rfl⟩ (typeIs_str s b u) (by decide) F.sub_str_dict F.slot_dict_ne F.slot_str_ne_refl
    (fun _ hq => call_meets F.slot_dict_ne ⟨_, ho, rfl⟩ F.entry_dict_ne (F.args_dict_ne_2 _ _) (dict_ne_declines_str l es n dd sl b u) ⟨ho, hq⟩)
    (fun _ hq => call_meets F.slot_str_ne_refl (typeIs_str s b u) F.entry_str_ne (F.args_str_ne_2 _ _) (str_ne_declines_dict b u l es n dd sl) ⟨ho, hq⟩)
    (fun _ hq => wpAny_of_eq (rfl : isSame (.ref l) (.str b u) = pure false) hq) (.inr hu) h
theorem rc_str_dict {l : Addr} {o : Obj} {es : Array DictEntry} {n : Nat} (b : Str) (u : Tok) (ho : s.heap.get? l = some o) (hc : o.cls = .type "dict") (hd : o.data = .dict es n) (hu : A.units < cLine) : RcAt A s (.str b u) (.ref l) false := fun prog w E Q h => by
  obtain ⟨cls, dd, data, sl⟩ := o
  simp only at hc hd
  subst hc hd
  exact rc_eq_decline_or (k := false) (typeIs_str s b u) ⟨_, ho, rfl⟩ (by decide) F.sub_dict_str F.slot_str_eq F.slot_dict_eq_refl
    (fun _ hq => call_meets F.slot_str_eq (typeIs_str s b u) F.entry_str_eq (F.args_str_eq_2 _ _) (str_eq_declines_dict b u l es n dd sl) ⟨ho, hq⟩)
    (fun _ hq => call_meets F.slot_dict_eq_refl ⟨_, ho, rfl⟩ F.entry_dict_eq (F.args_dict_eq_2 _ _) (dict_eq_declines_str l es n dd sl b u) ⟨ho, hq⟩)
    (fun _ hq => wpAny_of_eq (rfl : isSame (.str b u) (.ref l) = pure false) hq) (.inr hu) h
theorem eq_str_dict {l : Addr} {o : Obj} {es : Array DictEntry} {n : Nat} (b : Str) (u : Tok) (ho : s.heap.get? l = some o) (hc : o.cls = .type "dict") (hd : o.data = .dict es n) (hu : A.units < cLine) : EqAt A s (.str b u) (.ref l) false := fun prog w E Q h => by
  unfold eqBool
  refine wpAny_holding ?_
  refine wpAny_ite_split (fun hab => absurd (eq_of_beq hab) nofun) (fun _ => ?_)
  exact wpAny_bind (rc_str_dict b u ho hc hd hu prog w E _ (wpAny_truthy_bool h))
end
section
variable {X : Cx} {pins : List (Addr × Obj)} {σ : L2.St} {H : Hp} {s : Shared}
theorem dict_obj {a : Addr} {kvs : List (Key × V)} (I : Inv X pins σ H s) (e : H a = some (.dK kvs)) : ∃ (o : Obj) (es : Array DictEntry) (n : Nat), s.heap.get? a = some o ∧ o.cls = .type "dict" ∧ o.data = .dict es n := by
  obtain ⟨_, _, vs, _, o, es, ep, h1, h2, h3, _⟩ := (show ObjOk X.prog X.w H s.heap a (.dK kvs) from I.hok a _ e)
  exact ⟨o, es, ep, h1, h2.1, h3⟩
theorem tup_obj {a : Addr} {xs : List V} (I : Inv X pins σ H s) (e : H a = some (.tup xs)) : ∃ its : List Value, Vals xs its ∧ s.heap.IsTuple a its.toArray := by
  obtain ⟨_, its, r, t⟩ := (show ObjOk X.prog X.w H s.heap a (.tup xs) from I.hok a _ e)
  exact ⟨its, r, t⟩
theorem lst_obj {a : Addr} {xs : List V} (I : Inv X pins σ H s) (e : H a = some (.lst xs)) : ∃ its : List Value, Vals xs its ∧ s.heap.IsList a its.toArray := by
  obtain ⟨_, its, n, r, t⟩ := (show ObjOk X.prog X.w H s.heap a (.lst xs) from I.hok a _ e)
  exact ⟨its, r, ⟨_, t, rfl, n, rfl⟩⟩
/-- x != t, t a text -/
def rNeAn : R2 := fun x y H Q => ∃ ms d t, An ms H x d ∧ y = .str t ∧ Q (.bl (!isThe t d)) H
theorem op_neAn (hu : X.A.units < cLine) : OpR X (compareOp .NotEq) rNeAn := by
  intro pins s σ H x y v u Q I rx ry h
  obtain ⟨ms, d, t, hx, rfl, q⟩ := h
  obtain ⟨tk, rfl⟩ := ry
  have fin : ∀ b : Bool, (!isThe t d) = b → EP X pins σ Q (.bool b) s := fun b e => ⟨.bl b, H, I, rfl, e ▸ q⟩
  show wpAny _ _ (richCompare .NotEq v (.str t tk)) _ _ s
  cases hx with
  | non =>
    cases rx
    exact RcNeAt.none_str t tk _ _ _ _ (fin _ rfl)
  | bl b =>
    cases rx
    exact RcNeAt.bool_str b t tk _ _ _ _ (fin _ rfl)
  | int i =>
    obtain ⟨t2, rfl⟩ := rx
    exact RcNeAt.int_str i t2 t tk _ _ _ _ (fin _ rfl)
  | str g =>
    obtain ⟨t2, rfl⟩ := rx
    refine RcNeAt.str_str g t2 t tk _ _ _ _ (fin _ ?_)
    show (!decide (g = t)) = !(g == t)
    by_cases e : g = t
    · subst e
      simp
    · simp [e]
  | @lst a xs ds e n hd =>
    cases rx
    obtain ⟨its, r, p⟩ := lst_obj I e
    exact RcNeAt.list_str t tk p hu _ _ _ _ (fin _ rfl)
  | @tup a xs ds e hd =>
    cases rx
    obtain ⟨its, r, p⟩ := tup_obj I e
    exact RcNeAt.tuple_str t tk p hu _ _ _ _ (fin _ rfl)
  | @dct a kvs ds e n hd =>
    cases rx
    obtain ⟨o, es, ep, h1, h2, h3⟩ := dict_obj I e
    exact rcNe_dict_str t tk h1 h2 h3 hu _ _ _ _ (fin _ rfl)
/-- x in (t, ..), a tuple or list of texts -/
def rInAn (K : PySem.W.Frag) : R2 := fun x y H Q => ∃ (ms : List Addr) (d : PyData) (p : Addr) (ts : List Str), An ms H x d ∧ y = .ref p ∧ SqT K H p (ts.map V.str) ∧ Q (.bl (ts.any fun t => isThe t d)) H
theorem op_inAn (hu : X.A.units + 1 < cLine) : OpR X (compareOp .In) (rInAn X.K) := by
  intro pins s σ H x y v u Q I rx ry h
  obtain ⟨ms, d, p, ts, hx, rfl, hq, q⟩ := h
  cases ry
  obtain ⟨its, r, pl, hz⟩ := I.tuple hq
  let eU : Value → Bool := fun w => match w with
    | .str z _ => isThe z d
    | _ => false
  have ev : ∀ (ts : List Str) (us : List Value), Vals (ts.map V.str) us → us.any eU = ts.any fun t => isThe t d := by
    intro ts
    induction ts with
    | nil =>
      intro us h
      cases h
      rfl
    | cons t r ih =>
      intro us h
      cases h with
      | cons a b =>
        obtain ⟨tk, rfl⟩ := a
        rw [List.any_cons, List.any_cons, ih _ b]
  have each : ∀ (ts : List Str) (us : List Value), Vals (ts.map V.str) us → ∀ w ∈ us, ∃ z tk, w = .str z tk := by
    intro ts
    induction ts with
    | nil =>
      intro us h
      cases h
      exact fun w hw => absurd hw List.not_mem_nil
    | cons t r ih =>
      intro us h
      cases h with
      | cons a b =>
        obtain ⟨tk, rfl⟩ := a
        intro w hw
        rcases List.mem_cons.mp hw with rfl | hw
        · exact ⟨_, _, rfl⟩
        · exact ih _ b w hw
  refine SeqAt.in_tupleAt eU pl (fun w hw => ?_) ⟨.bl _, H, I, rfl, ?_⟩
  · obtain ⟨z, tk, rfl⟩ := each ts its r w (by simpa using hw)
    cases hx with
    | non =>
      cases rx
      exact EqAt.str_none z tk
    | bl b =>
      cases rx
      exact EqAt.str_bool z tk b
    | int i =>
      obtain ⟨t2, rfl⟩ := rx
      exact EqAt.str_int z tk i t2
    | str g =>
      obtain ⟨t2, rfl⟩ := rx
      have e : eU (.str z tk) = (z == g) := by
        show decide (g = z) = (z == g)
        by_cases e : g = z
        · subst e
          simp
        · have e2 : ¬ z = g := fun h => e h.symm
          simp [e, e2]
      rw [e]
      exact EqAt.str_str z tk g t2
    | @lst a xs ds e n hd =>
      cases rx
      obtain ⟨its, r, p⟩ := lst_obj I e
      exact EqAt.str_list z tk p (show X.A.units + 1 < cLine from hu)
    | @tup a xs ds e hd =>
      cases rx
      obtain ⟨its, r, p⟩ := tup_obj I e
      exact EqAt.str_tuple z tk p (show X.A.units + 1 < cLine from hu)
    | @dct a kvs ds e n hd =>
      cases rx
      obtain ⟨o, es, ep, h1, h2, h3⟩ := dict_obj I e
      exact eq_str_dict z tk h1 h2 h3 (show X.A.units + 1 < cLine from hu)
  · rw [show its.toArray.any eU = its.any eU by simp, ev ts its r]
    exact q
/-- t == (), t any tuple -/
def rEqE : R2 := fun x y H Q => ∃ a b xs, x = .ref a ∧ y = .ref b ∧ H a = some (.tup xs) ∧ H b = some (.tup []) ∧ Q (.bl xs.isEmpty) H
theorem op_eqE (hu : X.A.units + 64 < cLine) : OpR X (compareOp .Eq) rEqE := by
  intro pins s σ H x y v u Q I rx ry h
  obtain ⟨a, b, xs, rfl, rfl, h1, h2, q⟩ := h
  cases rx
  cases ry
  obtain ⟨its, r, p⟩ := tup_obj I h1
  obtain ⟨its2, r2, p2⟩ := tup_obj I h2
  cases r2
  refine PySem.W.eq_tuplesT (n := 1) (e := fun _ => true) p p2 (fun j h1 h2 => absurd h2 (by simp)) (by omega) ⟨.bl xs.isEmpty, H, I, ?_, q⟩
  cases r with
  | nil => rfl
  | cons _ _ => rfl

end
end Ey
set_option maxHeartbeats 4000000
namespace Ey
open PySem PySem.Spec L2
/-! ### a list of one's own as a pile, its top first -/
theorem pile_top (x : V) (us : List V) : ((x :: us).reverse)[(x :: us).reverse.length - 1]? = some x := by
  rw [List.reverse_cons, List.length_append]
  show (us.reverse ++ [x])[us.reverse.length + 1 - 1]? = some x
  rw [Nat.add_sub_cancel, List.getElem?_append_right (Nat.le_refl _), Nat.sub_self]
  rfl
theorem pile_pop (x : V) (us : List V) : ((x :: us).reverse).dropLast = us.reverse := by
  rw [List.reverse_cons]
  exact List.dropLast_concat
theorem pile_push (x : V) (us : List V) : us.reverse ++ [x] = (x :: us).reverse := (List.reverse_cons).symm
theorem Kp.own {ms : List Addr} {H H1 : Hp} {p : Addr} {o : HO} (k : Kp ms H H1) (n : H p = none) : Kp ms H (upd H1 p o) :=
  ⟨fun b u e h => by rw [upd_ne (ne_of_none e n)]; exact k.at_ b u e h, fun b xs e => by rw [upd_ne (ne_of_none e n)]; exact k.tup b xs e⟩
theorem tabg_kp {ms : List Addr} {H H1 : Hp} {P : Addr} (g : GxR.TabG H P) (k : Kp ms H H1) (n : P ∉ ms) : GxR.TabG H1 P := by
  obtain ⟨ps, h, t⟩ := g
  exact ⟨ps, k.at_ _ _ h n, t⟩
theorem tabg_upd {H : Hp} {P p : Addr} {o : HO} (g : GxR.TabG H P) (n : P ≠ p) : GxR.TabG (upd H p o) P := by
  obtain ⟨ps, h, t⟩ := g
  exact ⟨ps, by rw [upd_ne n]; exact h, t⟩
/-- H' is H but for the table at P -/
abbrev Tb (P : Addr) (H H' : Hp) : Prop := GxR.Tabbed P H H'
theorem tb_refl {P : Addr} {H : Hp} (h : GxR.TabG H P) : Tb P H H := ⟨h, fun _ _ => rfl⟩
theorem tb_kp {P : Addr} {H H1 : Hp} (g : GxR.TabG H P) (a : Tb P H H1) : Kp [P] H H1 := by
  refine ⟨fun b o e n => ?_, fun b xs e => ?_⟩
  · rw [a.2 b (fun q => n (by rw [q]; simp))]
    exact e
  · rw [a.2 b (fun q => ?_)]
    · exact e
    · obtain ⟨ps, h, _⟩ := g
      rw [q, h] at e
      cases e
/-- the tables of all defs that have generators -/
def TTs (Ts : List Addr) (H : Hp) : Prop := ∀ P ∈ Ts, GxR.TabG H P
theorem TTs.tab {Ts : List Addr} {H H1 : Hp} {P : Addr} (h : TTs Ts H) (hP : P ∈ Ts) (t : Tb P H H1) : TTs Ts H1 ∧ Kp Ts H H1 := by
  refine ⟨fun q hq => ?_, (tb_kp (h P hP) t).more fun x hx => by rw [List.mem_singleton.mp hx]; exact hP⟩
  by_cases e : q = P
  · rw [e]
    exact t.1
  · obtain ⟨ps, a, b⟩ := h q hq
    exact ⟨ps, (t.2 q e).trans a, b⟩
theorem TTs.kp {ms Ts : List Addr} {H H1 : Hp} (h : TTs Ts H) (k : Kp ms H H1) (n : ∀ P ∈ Ts, P ∉ ms) : TTs Ts H1 := fun P hP => tabg_kp (h P hP) k (n P hP)
theorem TTs.kp0 {Ts : List Addr} {H H1 : Hp} (h : TTs Ts H) (k : Kp [] H H1) : TTs Ts H1 := h.kp k fun _ _ => List.not_mem_nil
theorem TTs.ne {Ts : List Addr} {H : Hp} {P p : Addr} (h : TTs Ts H) (hP : P ∈ Ts) (n : H p = none) : P ≠ p := by
  obtain ⟨ps, e, _⟩ := h P hP
  exact ne_of_none e n
theorem TTs.nin {Ts : List Addr} {H : Hp} {p : Addr} (h : TTs Ts H) (n : H p = none) : p ∉ Ts := fun hp => h.ne hp n rfl
theorem TTs.nino {Ts : List Addr} {H : Hp} {p : Addr} {o : HO} (h : TTs Ts H) (e : H p = some o) (no : ∀ ps, o ≠ .tbl ps) : p ∉ Ts := fun hp => by
  obtain ⟨ps, e2, _⟩ := h p hp
  rw [e2] at e
  exact no ps (Option.some.inj e).symm
/-- all(..) over a tuple that stays -/
theorem all_tup {K : PySem.W.Frag} {a : Addr} {xs : List V} {te : TE} {Q : VK} {H1 : Hp} (Pv : Nat → Hp → Prop) (h0 : Pv 0 H1) (hl : ∀ i H, Pv i H → SqT K H a xs)
    (hs : ∀ i x H, xs[i]? = some x → Pv i H → te [some x] H fun y H3 => ∃ b, y = .bl b ∧ if b = true then Pv (i + 1) H3 else Q (.bl false) H3) (hd : ∀ H, Pv xs.length H → Q (.bl true) H) :
    ∃ (n0 : Nat) (W : Nat → Hp → Prop), W 0 H1 ∧ ∀ i H', W i H' → (i < n0 ∧ (Itt K a).go i H' ∧ ∀ v H'', (Itt K a).yld i H' v H'' → te [some v] H'' fun y H3 => ∃ b, y = .bl b ∧ if b = true then W (i + 1) H3 else Q (.bl false) H3) ∨ ((Itt K a).stop i H' ∧ Q (.bl true) H') := by
  refine ⟨xs.length, fun i H => i ≤ xs.length ∧ Pv i H, ⟨Nat.zero_le _, h0⟩, fun i H ⟨hi, p⟩ => ?_⟩
  have q := hl i H p
  by_cases lt : i < xs.length
  · refine .inl ⟨lt, ⟨xs, xs[i], q, List.getElem?_eq_getElem lt⟩, fun v H'' y => ?_⟩
    obtain ⟨e, y⟩ := y
    subst e
    have h := hs i v H'' (y xs q) p
    have e : (fun (y : V) (H3 : Hp) => ∃ b, y = .bl b ∧ if b = true then (i + 1 ≤ xs.length ∧ Pv (i + 1) H3) else Q (.bl false) H3) = fun y H3 => ∃ b, y = .bl b ∧ if b = true then Pv (i + 1) H3 else Q (.bl false) H3 := by
      funext y H3
      refine propext ⟨fun ⟨b, e, h⟩ => ⟨b, e, ?_⟩, fun ⟨b, e, h⟩ => ⟨b, e, ?_⟩⟩
      · cases b
        · exact h
        · rw [if_pos rfl] at h ⊢
          exact h.2
      · cases b
        · exact h
        · rw [if_pos rfl] at h ⊢
          exact ⟨lt, h⟩
    rw [e]
    exact h
  · have e : i = xs.length := by omega
    subst e
    exact .inr ⟨⟨xs, q, Nat.le_refl _⟩, hd H p⟩
/-- a tuple of the written part -/
def KTup (K : PySem.W.Frag) (a : Addr) (xs : List V) : Prop := ∃ (o : Obj) (its : Array Value) (n : Nat), K.lookup a = some o ∧ o.cls = .type "tuple" ∧ o.data = .seq its n ∧ its.size ≤ sizeLine ∧ Vals xs its.toList
theorem KTup.sqt {K : PySem.W.Frag} {a : Addr} {xs : List V} (h : KTup K a xs) (H : Hp) : SqT K H a xs := by
  obtain ⟨o, its, n, h1, h2, h3, h4, h5⟩ := h
  exact .inr ⟨o, its, n, h1, h2, h3, h4, h5⟩
/-- a dict of the written part: its keys are just these -/
def keyS (e : DictEntry) : Option Str := match e.key with
  | .str x _ => some x
  | _ => none
theorem no_key {K : PySem.W.Frag} {a : Addr} {o d : _} {es : Array DictEntry} {n : Nat} {sl : _} {ks : List Str} (h : K.lookup a = some ⟨o, d, .dict es n, sl⟩) (hk : es.toList.map keyS = ks.map some) {z : Str} (hz : z ∉ ks) : PySem.W.nsIn K a z = some none := by
  have all : ∀ e ∈ es.toList, ∃ x t, e.key = .str x t ∧ x ∈ ks := fun e he => by
    have m : keyS e ∈ ks.map some := hk ▸ List.mem_map.mpr ⟨e, he, rfl⟩
    obtain ⟨x, hx, ex⟩ := List.mem_map.mp m
    unfold keyS at ex
    split at ex
    · rename_i x' t' e'
      refine ⟨x', t', e', ?_⟩
      rw [← Option.some.inj ex]
      exact hx
    · cases ex
  unfold PySem.W.nsIn
  rw [h]
  have f : es.toList.find? (fun e => e.key.isStr z) = none := List.find?_eq_none.mpr fun e he q => by
    obtain ⟨x, t, e1, e2⟩ := all e he
    rw [e1] at q
    have : (x == z) = true := q
    rw [beq_iff_eq] at this
    exact hz (this ▸ e2)
  show (match es.toList.find? (fun e => e.key.isStr z) with
    | some e => some (some e.val)
    | none => if es.toList.any (fun e => e.refKey) then none else some none) = some none
  rw [f]
  have g : es.toList.any (fun e => e.refKey) = false := List.any_eq_false.mpr fun e he q => by
    obtain ⟨x, t, e1, e2⟩ := all e he
    unfold DictEntry.refKey at q
    rw [e1] at q
    cases q
  show (if es.toList.any (fun e => e.refKey) = true then none else some none) = some none
  rw [g]
  rfl
theorem fn_any {ι : Type} {P : Program} {w : World} {K : PySem.W.Frag} {mg : Str → Option Value} {base : Heap} {CX : CXT} {k : Nat} {f : Addr} {fd : FuncData} {ps : List Str} {sp : ι → Sp} (h : ∀ i, FnOk P w K mg base CX k f fd ps (sp i)) :
    FnOk P w K mg base CX k f fd ps (fun vs H Q E => ∃ i, sp i vs H Q E) :=
  ⟨fun vs H Q E ⟨i, q⟩ => (h i).len vs H Q E q, fun A outer s H args us vs Q E hr e b v ⟨i, q⟩ => (h i).run A outer s H args us vs Q E hr e b v q⟩
/-- repr of any data -/
def rReprE : List V → Hp → VK → Prop := fun xs H Q => ∃ ms, rReprA ms xs H Q
theorem cr_reprE {X : Cx} {k : Nat} (hs : ∃ mm, X.base.Ns sysModules mm) (hg : X.A.guards = some []) (hr : Room k X.A) : CallR X (.builtin "repr") rReprE := by
  intro pins s σ H xs us Q I r h
  obtain ⟨ms, h⟩ := h
  exact cr_reprA (ms := ms) hs hg hr pins s σ H xs us Q I r h
end Ey
set_option maxHeartbeats 4000000
namespace Ey
open PySem PySem.Calls PySem.Spec PyProof.Rows L2 HT
section
variable {prog : Program} {w : World} {A : Around} {E : Value → Shared → Prop} {s : Shared}
theorem ey_steps (n : Nat) : Builtin.Slice.slicePlaces ((n : Int) - 1) (-1) (-1) = n := by
  unfold Builtin.Slice.slicePlaces
  rw [if_neg (by decide)]
  by_cases hn : (n : Int) - 1 > -1
  · rw [if_pos hn]
    have q : (- -1 : Int) = 1 := by decide
    rw [q, Int.ediv_one]
    omega
  · rw [if_neg hn]
    omega
theorem ey_applied_rev {sl : Addr} {vl vu vs : Value} {n : Nat} {Q : Int × Int × Nat → Shared → Prop} (q : s.heap.IsSliceOf sl vl vu vs) (pl : IsPart vl none) (pu : IsPart vu none) (ps : IsPart vs (some (-1)))
    (h : Q ((n : Int) - 1, -1, n) s) : wpAny (model prog w) A (Builtin.Slice.sliceApplied (.ref sl) (pure (n : Int))) Q E s := by
  obtain ⟨ob, hob, hcl, hda⟩ := id q
  unfold Builtin.Slice.sliceApplied Builtin.Slice.sliceFields
  refine wpAny_bind (wpAny_bind (wpAny_field hob hda (x := vl) rfl (wpAny_bind (wpAny_field hob hda (x := vu) rfl (wpAny_bind (wpAny_field hob hda (x := vs) rfl (wpAny_pure ?_)))))))
  refine wpAny_bind (slicePart_ ps ?_)
  show wpAny _ _ (if ((-1 : Int) == 0) = true then _ else _) _ _ s
  rw [if_neg (by decide)]
  refine wpAny_bind (slicePart_ pl (wpAny_bind (slicePart_ pu (wpAny_bind (wpAny_pure ?_)))))
  show wpAny _ _ (pure ((n : Int) - 1, (-1 : Int), Builtin.Slice.slicePlaces ((n : Int) - 1) (-1) (-1))) _ _ s
  rw [ey_steps]
  exact wpAny_pure h
theorem ey_back (xs : Array Value) : ((List.range xs.size).filterMap fun (m : Nat) => xs[((xs.size : Int) - 1 + (m : Int) * -1).toNat]?).toArray = xs.toList.reverse.toArray := by
  congr 1
  refine List.ext_getElem? fun i => ?_
  have key : ∀ m, m < xs.size → xs[((xs.size : Int) - 1 + (m : Int) * -1).toNat]? = (xs.toList.reverse)[m]? := fun m hm => by
    have e : ((xs.size : Int) - 1 + (m : Int) * -1).toNat = xs.size - 1 - m := by omega
    rw [e, List.getElem?_reverse (by rw [Array.length_toList]; exact hm), Array.length_toList, Array.getElem?_toList]
  have all : ∀ l : List Nat, (∀ m ∈ l, m < xs.size) → (l.filterMap fun (m : Nat) => xs[((xs.size : Int) - 1 + (m : Int) * -1).toNat]?) = l.filterMap fun m => (xs.toList.reverse)[m]? := fun l => by
    induction l with
    | nil => intro _; rfl
    | cons a r ih =>
      intro h
      rw [List.filterMap_cons, List.filterMap_cons, key a (h a List.mem_cons_self), ih fun m hm => h m (List.mem_cons_of_mem _ hm)]
  rw [all _ fun m hm => List.mem_range.mp hm]
  have fin : ∀ ys : List Value, (List.range ys.length).filterMap (fun m => ys[m]?) = ys := fun ys => by
    induction ys with
    | nil => rfl
    | cons y r ih =>
      rw [List.length_cons, List.range_succ_eq_map, List.filterMap_cons]
      show y :: List.filterMap _ _ = _
      rw [List.filterMap_map]
      exact congrArg (List.cons y) ih
  have := fin xs.toList.reverse
  rw [List.length_reverse, Array.length_toList] at this
  rw [this]
theorem ey_tuple_rev {tp sl : Addr} {items : Array Value} {vl vu vs : Value} {Q : Value → Shared → Prop} (it : IsTup s.heap tp items) (q : s.heap.IsSliceOf sl vl vu vs) (pl : IsPart vl none) (pu : IsPart vu none) (ps : IsPart vs (some (-1)))
    (h : Q (.ref s.heap.objs.size) { s with heap := s.heap.push { cls := .type "tuple", data := .seq items.toList.reverse.toArray } })
    (hz : items.size ≤ sizeLine) : wpAny (model prog w) A (getItem (.ref tp) (.ref sl)) Q E s := by
  have fits : sizeOk (.seq items.toList.reverse.toArray) := by
    show items.toList.reverse.toArray.size ≤ sizeLine
    rw [List.size_toArray, List.length_reverse, Array.length_toList]
    exact hz
  obtain ⟨ob, hob, hcl, hda⟩ := id q
  have kind : s.TypeIs (.ref sl) "slice" := ⟨ob, hob, hcl⟩
  unfold getItem
  try with_reducible refine wpAny_holding ?_
  first | refine wpAny_bind (wpAny_pure ?_) | skip
  refine wpAny_bind (wpAny_sequenceKey it.typeIs (by decide) ?_)
  refine wpAny_bind (wpAny_callSpecial?_slot (name := Str.ofString "__getitem__") it.typeIs PyProof.Rows.slot_tuple_getitem (wpAny_call_entry PyProof.Rows.slot_tuple_getitem it.typeIs entry_tuple_getitem ?_ (args_tuple_getitem _ _)))
  show wpAny _ _ (Builtin.Tuple.tupleItemsOf (.ref tp) >>= _) _ _ s
  refine wpAny_bind (tupleItemsOf_ it ?_)
  refine wpAny_bind (wpAny_typeOf kind ?_)
  rw [if_pos (by decide)]
  refine wpAny_bind (ey_applied_rev q pl pu ps ?_)
  have off : ¬ ((((items.size : Int) - 1 == 0) && ((-1 : Int) == 1) && (items.size == items.size)) = true) := by
    rw [show ((-1 : Int) == 1) = false from rfl, Bool.and_false, Bool.false_and]
    exact Bool.false_ne_true
  show wpAny _ _ (if (((items.size : Int) - 1 == 0) && ((-1 : Int) == 1) && (items.size == items.size)) = true then _ else _) _ _ s
  rw [if_neg off, ey_back]
  first
    | exact wpAny_bind (m := Builtin.Tuple.tupleExact _) (wpAny_newObj_type (wpAny_pure ⟨_, rfl, wpAny_pure h⟩) fits)
    | exact wpAny_bind (m := Builtin.Tuple.tupleExact _) (wpAny_newObj_type (wpAny_bind (wpAny_pure (wpAny_pure ⟨_, rfl, wpAny_pure h⟩))) fits)
    | exact wpAny_bind (wpAny_bind (m := Builtin.Tuple.tupleExact _) (wpAny_newObj_type (wpAny_pure (wpAny_pure ⟨_, rfl, wpAny_pure h⟩)) fits))
    | exact wpAny_bind (wpAny_bind (m := Builtin.Tuple.tupleExact _) (wpAny_newObj_type (wpAny_pure ⟨_, rfl, wpAny_pure h⟩) fits))
end
section
variable {X : Cx}
/-- e[::-1], e a tuple or a text -/
def tRevA (K : PySem.W.Frag) (te : TE) : TE := fun σ H Q => te σ H fun x H1 => (∃ a xs, x = .ref a ∧ SqT K H1 a xs ∧ ∀ p, H1 p = none → Q (.ref p) (upd H1 p (.tup xs.reverse))) ∨ ∃ p : List Nat, x = .str (st p) ∧ p.length ≤ sizeLine ∧ Q (.str (st p.reverse)) H1
theorem sb_rev (p : List Nat) (u : Tok) : Txt.sliceBy (st p) none none (-1, u) = st p.reverse := by
  have e := step_rev_list (st p) u
  have e2 : (Txt.sliceBy (st p) none none (-1, u)) = st ((List.range p.length).map fun k => p.toArray.getD (p.length - 1 - k) 0) := by
    rw [st_of (Txt.sliceBy (st p) none none (-1, u)), e]
    rfl
  rw [e2]
  congr 1
  refine List.ext_getElem? fun i => ?_
  rw [List.getElem?_map]
  by_cases hi : i < p.length
  · rw [List.getElem?_range hi, List.getElem?_reverse hi]
    show some (p.toArray.getD (p.length - 1 - i) 0) = _
    rw [List.getElem?_eq_getElem (by omega)]
    congr 1
    simp [Array.getD, show p.length - 1 - i < p.length by omega]
  · rw [List.getElem?_eq_none (by rw [List.length_range]; omega), List.getElem?_eq_none (by rw [List.length_reverse]; omega)]
    rfl
theorem pe_revA {e : Expr} {te : TE} {k : Nat} {p1 p2 p3 pos : Pos} (he : PE X e te) : PE X (.Subscript e (.Slice none none (some (.UnaryOp .USub (.Constant (.int 1) k p1) p2)) p3) pos) (tRevA X.K te) := by
  refine ⟨fun pins s σ H Q I h => ?_⟩
  refine Subscript_ (thn (he.run pins s σ H _ I h) fun v s1 ⟨x, H1, I1, r1, q1⟩ => ?_)
  have step : PO X (some (.UnaryOp .USub (.Constant (.int 1) k p1) p2)) (tPart (tUn (rU fun i => .int (-i)) (tC (.int 1)))) := po_some (pe_un un_neg pe_int)
  refine wpAny_Slice (thn (po_none.run pins s1 σ H1 (fun o H2 => o = none ∧ H2 = H1) I1 ⟨rfl, rfl⟩) fun vl s2 ⟨lo, H2, I2, pl, ea, eb⟩ => ?_)
  subst ea eb
  refine thn (po_none.run pins s2 σ H2 (fun o H3 => o = none ∧ H3 = H2) I2 ⟨rfl, rfl⟩) fun vu s3 ⟨up, H3, I3, pu, ec, ed⟩ => ?_
  subst ec ed
  refine thn (step.run pins s3 σ H3 (fun o H4 => o = some (-1) ∧ H4 = H3) I3 ⟨1, rfl, -1, rfl, rfl, rfl⟩) fun vs s4 ⟨o, H4, I4, pst, ee, ef⟩ => ?_
  subst ee ef
  have I5 : Inv X pins σ H4 { s4 with heap := s4.heap.push { cls := .type "slice", data := .fields #[vl, vu, vs] } } := I4.kept (t' := s4.toks) fun b ob q => Heap.get?_push_of_some _ q
  rcases q1 with ⟨a, xs, ex, hx, q⟩ | ⟨p, ex, hz, q⟩
  · subst ex
    cases r1
    obtain ⟨its, r, it, hz⟩ := I5.tuple hx
    have hlen : its.toArray.size = xs.length := by rw [List.size_toArray]; exact r.length.symm
    show wpAny (model X.prog X.w) X.A (subscriptTail e (.Slice none none (some (.UnaryOp .USub (.Constant (.int 1) k p1) p2)) p3) (.ref a) (.ref s4.heap.objs.size)) (EP X pins σ Q) X.xe { s4 with heap := s4.heap.push { cls := .type "slice", data := .fields #[vl, vu, vs] } }
    refine tail_any (ops := [.ref a, .ref s4.heap.objs.size]) it.typeIs PyProof.Rows.slot_tuple_getitem.lookup ?_ (by with_unfolding_all rfl)
    refine ey_tuple_rev it (Heap.IsSliceOf.new _ vl vu vs) pl pu pst ?_ (by rw [hlen]; exact hz)
    refine ⟨.ref _, _, I5.laid (t' := s4.toks) (o := .tup xs.reverse) (fun b ob q => Heap.get?_push_of_some _ q) (Nat.le_refl _) ?_, rfl, q _ (I5.hok.fresh (Nat.le_refl _))⟩
    refine ⟨by rw [List.length_reverse]; exact hz, its.reverse, r.reverse, ?_⟩
    have := IsTup.new { s4 with heap := s4.heap.push { cls := .type "slice", data := .fields #[vl, vu, vs] } }.heap its.reverse.toArray
    simpa using this
  · subst ex
    obtain ⟨t, rfl⟩ := r1
    cases pl
    cases pu
    cases pst with
    | int _ u =>
      show wpAny (model X.prog X.w) X.A (subscriptTail e (.Slice none none (some (.UnaryOp .USub (.Constant (.int 1) k p1) p2)) p3) (.str (st p) t) (.ref s4.heap.objs.size)) (EP X pins σ Q) X.xe { s4 with heap := s4.heap.push { cls := .type "slice", data := .fields #[.none, .none, .int (-1) u] } }
      refine tail_any (ops := [.str (st p) t, .ref s4.heap.objs.size]) (typeIs_str _ _ _) F.slot_str_getitem.lookup ?_ (by with_unfolding_all rfl)
      refine wpAny_getItem_str_slice (l := none) (u := none) (st := some (-1, u)) ⟨_, Heap.get?_push_size _ rfl, rfl, rfl⟩ rfl ?_
      have made : sliceMade (st p) t none none (some (-1, u)) = .str (st p.reverse) := by
        rw [← sb_rev p u]
        rfl
      rw [made]
      refine ⟨?_, .str (st p.reverse), _, I5.tok _, ⟨_, rfl⟩, q⟩
      rw [st_len, List.length_reverse]
      exact hz
end
end Ey
set_option maxHeartbeats 4000000
namespace Ey
open PySem PySem.Spec L2
/-- a comprehension over a text -/
theorem lcStr {z : Str} {g : TG} {tests : TT} {each : TE} {slots : List Nat} {σ : L2.St} {H1 : Hp} {D : Addr} {Qd : Hp → Prop} (Pv : Nat → Hp → Prop) (h0 : Pv 0 (upd H1 D (.lst [])))
    (hs : ∀ i c H, z.cps.toList[i]? = some c → Pv i H → g (.str (st [c])) (wipe σ slots) H fun σ2 H2 => wipe σ2 slots = wipe σ slots ∧ tests σ2 H2 fun b H3 => if b = true then each σ2 H3 fun y H4 => ∃ acc, H4 D = some (.lst acc) ∧ acc.length < sizeLine ∧ Pv (i + 1) (upd H4 D (.lst (acc ++ [y]))) else Pv (i + 1) H3)
    (hd : ∀ H, Pv z.cps.toList.length H → Qd H) :
    ∃ W : Nat → Nat → Hp → Prop, (∃ m, W 0 m (upd H1 D (.lst []))) ∧ ∀ i m H, W i m H → ((Its z).stop i H ∧ Qd H) ∨ ((Its z).go i H ∧ ∃ Nx : Hp → Prop, (∀ H', Nx H' → ∃ m', m' < m ∧ W (i + 1) m' H') ∧ ∀ x H', (Its z).yld i H x H' → g x (wipe σ slots) H' fun σ2 H2 => wipe σ2 slots = wipe σ slots ∧ tests σ2 H2 fun b H3 => if b = true then each σ2 H3 fun y H4 => ∃ acc, H4 D = some (.lst acc) ∧ acc.length < sizeLine ∧ Nx (upd H4 D (.lst (acc ++ [y]))) else Nx H3) := by
  refine ⟨fun i m H => m = z.cps.size - i ∧ i ≤ z.cps.size ∧ Pv i H, ⟨_, rfl, Nat.zero_le _, h0⟩, fun i m H hw => ?_⟩
  obtain ⟨rfl, hi, p⟩ := hw
  by_cases lt : i < z.cps.size
  · refine .inr ⟨lt, Pv (i + 1), fun H' p' => ⟨z.cps.size - (i + 1), by omega, rfl, lt, p'⟩, fun v H' y => ?_⟩
    obtain ⟨rfl, c, hc, rfl⟩ := y
    exact hs i c _ (by rw [Array.getElem?_toList]; exact hc) p
  · have e : i = z.cps.size := by omega
    subst e
    exact .inl ⟨Nat.le_refl _, hd H (by rw [Array.length_toList]; exact p)⟩
theorem wd_get {ds : List PyData} {i : Nat} {d : PyData} (h : ds[i]? = some d) : wd d + 2 ≤ wdAll ds := by
  induction ds generalizing i with
  | nil => cases h
  | cons x r ih =>
    cases i with
    | zero =>
      have q : x = d := Option.some.inj h
      rw [q]
      show wd d + 2 ≤ wd d + 2 + wdAll r
      omega
    | succ i =>
      have := ih h
      show wd d + 2 ≤ wd x + 2 + wdAll r
      omega
theorem len_wd (ds : List PyData) : ds.length ≤ wdAll ds := by
  induction ds with
  | nil => exact Nat.le_refl _
  | cons x r ih =>
    show r.length + 1 ≤ wd x + 2 + wdAll r
    omega
theorem eqv_strs (ps : List Nat) : PyData.eqv (.list (ps.map fun c => .str (st [c]))) (.list []) = ps.isEmpty := by
  cases ps <;> rfl
theorem dp_signs {K : PySem.W.Frag} {H : Hp} : ∀ ps : List Nat, DpAll K H (ps.map fun c => V.str (st [c])) (ps.map fun c => .str (st [c]))
  | [] => .nil
  | c :: r => .cons (.str _) (dp_signs r)
theorem lay_signs : ∀ ps : List Nat, (∀ c ∈ ps, c < 1000) → PyData.canLayAll0 (ps.map fun c => .str (st [c])) = true ∧ PyData.depthAll (ps.map fun c => .str (st [c])) = 0
  | [], _ => ⟨rfl, rfl⟩
  | c :: r, h => by
    obtain ⟨a, b⟩ := lay_signs r fun x hx => h x (List.mem_cons_of_mem _ hx)
    refine ⟨?_, ?_⟩
    · show (PyData.canLay0 (.str (st [c])) && PyData.canLayAll0 (r.map fun c => .str (st [c]))) = true
      have q : PyData.canLay0 (.str (st [c])) = true := by
        have := h c List.mem_cons_self
        have e : (st [c]).cps = #[c] := rfl
        simp only [PyData.canLay0, PyData.strOk, e]
        simp
        omega
      rw [a, q]
      rfl
    · show max 0 (PyData.depthAll (r.map fun c => .str (st [c]))) = 0
      rw [b]
      rfl
theorem shaped_signs (ps : List Nat) (h : ∀ c ∈ ps, c < 1000) : SeqAt.shaped (.list (ps.map fun c => .str (st [c]))) = true := by
  obtain ⟨a, b⟩ := lay_signs ps h
  show (PyData.canLayAll0 (ps.map fun c => .str (st [c])) && decide (PyData.depthAll (ps.map fun c => .str (st [c])) + 1 ≤ 64)) = true
  rw [a, b]
  rfl
theorem isTag_alt (g : Str) (h1 : 1 ≤ g.length) (h2 : g.length ≤ 8) : isTag g = (g.cps.toList.filter fun c => !decide (c ∈ abc)).isEmpty := by
  rw [isTag, decide_eq_true h1, decide_eq_true h2]
  show (g.cps.toList.all fun c => decide (c ∈ abc)) = _
  generalize g.cps.toList = l
  induction l with
  | nil => rfl
  | cons a r ih =>
    rw [List.all_cons, List.filter_cons, ih]
    cases decide (a ∈ abc) <;> rfl
theorem take_filter {l : List Nat} {f : Nat → Bool} {i c : Nat} (h : l[i]? = some c) : (l.take (i + 1)).filter f = (l.take i).filter f ++ if f c = true then [c] else [] := by
  rw [List.take_add_one, h, List.filter_append]
  congr 1
  show List.filter f [c] = _
  rw [List.filter_cons]
  rfl
def wAny : Nat → Nat
  | 0 => 130
  | n + 1 => 3 * wAny n + 140
theorem wAny_ge : ∀ n, 130 ≤ wAny n
  | 0 => Nat.le_refl _
  | n + 1 => by
    have := wAny_ge n
    show 130 ≤ 3 * wAny n + 140
    omega
/-- what is told of a drawn value -/
structure Good (n w : Nat) (x : PyData) : Prop where
  f : fit x = true
  d : x.depth ≤ n
  w : wd x ≤ w
theorem Good.mono {n w n' w' : Nat} {x : PyData} (g : Good n w x) (h1 : n ≤ n') (h2 : w ≤ w') : Good n' w' x := ⟨g.f, Nat.le_trans g.d h1, Nat.le_trans g.w h2⟩
inductive GoodAll (n w : Nat) : List PyData → Prop
  | nil : GoodAll n w []
  | cons {x : PyData} {r : List PyData} : Good n w x → GoodAll n w r → GoodAll n w (x :: r)
theorem GoodAll.facts {n w : Nat} {ds : List PyData} (h : GoodAll n w ds) : fitAll ds = true ∧ PyData.depthAll ds ≤ n ∧ wdAll ds ≤ (w + 2) * ds.length := by
  induction h with
  | nil => exact ⟨rfl, Nat.zero_le _, Nat.zero_le _⟩
  | @cons x r g _ ih =>
    obtain ⟨a, b, c⟩ := ih
    refine ⟨?_, ?_, ?_⟩
    · show (fit x && fitAll r) = true
      rw [g.f, a]
      rfl
    · show max x.depth (PyData.depthAll r) ≤ n
      have := g.d
      omega
    · show wd x + 2 + wdAll r ≤ (w + 2) * (r.length + 1)
      have := g.w
      rw [Nat.mul_add]
      omega
theorem GoodAll.snoc {n w : Nat} {ds : List PyData} {x : PyData} (h : GoodAll n w ds) (g : Good n w x) : GoodAll n w (ds ++ [x]) := by
  induction h with
  | nil => exact .cons g .nil
  | cons a _ ih => exact .cons a ih
section
variable {ms ms' : List Addr} {H : Hp}
mutual
theorem An.mono (hs : ∀ x ∈ ms', x ∈ ms) : ∀ {v : V} (d : PyData), An ms H v d → An ms' H v d
  | _, .none, h => by cases h; exact .non
  | _, .bool b, h => by cases h; exact .bl b
  | _, .int i, h => by cases h; exact .int i
  | _, .str x, h => by cases h; exact .str x
  | _, .list ds, h => by
    cases h with
    | lst e n a => exact .lst e (fun q => n (hs _ q)) (AnAll.mono hs ds a)
  | _, .tuple ds, h => by
    cases h with
    | tup e a => exact .tup e (AnAll.mono hs ds a)
  | _, .dict ds, h => by
    cases h with
    | dct e n a => exact .dct e (fun q => n (hs _ q)) (AnKv.mono hs ds a)
theorem AnAll.mono (hs : ∀ x ∈ ms', x ∈ ms) : ∀ {vs : List V} (ds : List PyData), AnAll ms H vs ds → AnAll ms' H vs ds
  | _, [], h => by cases h; exact .nil
  | _, d :: r, h => by
    cases h with
    | cons a b => exact .cons (An.mono hs d a) (AnAll.mono hs r b)
theorem AnKv.mono (hs : ∀ x ∈ ms', x ∈ ms) : ∀ {vs : List (Key × V)} (ds : List (PyData × PyData)), AnKv ms H vs ds → AnKv ms' H vs ds
  | _, [], h => by cases h; exact .nil
  | _, (y, d) :: r, h => by
    cases h with
    | cons a b => exact .cons (An.mono hs d a) (AnKv.mono hs r b)
end
end
section
variable {X : Cx}
/-- t[lo:hi] of a tuple, as one case -/
def rCut : V → Option Int → Option Int → Hp → VK → Prop := fun x lo hi H Q => ∃ (a : Addr) (xs : List V), x = .ref a ∧ H a = some (.tup xs) ∧ ∀ (q : Addr) (H' : Hp), H' q = some (.tup (cutV xs lo hi)) → Kp [] H H' → Q (.ref q) H'
theorem sl_cut : SlR X rCut := by
  intro pins s σ H x v vl vu lo hi sl Q I rx hs pl pu h
  obtain ⟨a, xs, rfl, e, k⟩ := h
  refine sl_tupA pins s σ H _ v vl vu lo hi sl Q I rx hs pl pu ⟨a, xs, rfl, sqt_of e, fun w => k a H ?_ .refl, fun _ p np => k p _ upd_same (.new np)⟩
  have whole : cutV xs lo hi = xs := by
    unfold cutV
    rw [w.1, w.2, List.drop_zero, Nat.sub_zero, List.take_length]
  rw [whole]
  exact e
/-- t + u of tuples, as one case -/
def rCat2 : R2 := fun x y H Q => ∃ (a b : Addr) (xs ys : List V), x = .ref a ∧ y = .ref b ∧ H a = some (.tup xs) ∧ H b = some (.tup ys) ∧ xs.length + ys.length ≤ sizeLine ∧ ∀ (q : Addr) (H' : Hp), H' q = some (.tup (xs ++ ys)) → Kp [] H H' → Q (.ref q) H'
theorem op_cat2 : OpR X (binaryOp .Add) rCat2 := by
  intro pins s σ H x y v u Q I rx ry h
  obtain ⟨a, b, xs, ys, rfl, rfl, ea, eb, hz, k⟩ := h
  refine op_catA pins s σ H _ _ v u Q I rx ry ⟨a, b, xs, ys, rfl, rfl, sqt_of ea, sqt_of eb, hz, fun e => k b H ?_ .refl, fun _ e => k a H ?_ .refl, fun _ _ p np => k p _ upd_same (.new np)⟩
  · rw [e]
    exact eb
  · rw [e, List.append_nil]
    exact ea
theorem cut_take (xs : List V) (i : Nat) : cutV xs none (some (i : Int)) = xs.take i := by
  unfold cutV
  rw [HT.sIx_none, HT.sIx_nat, List.drop_zero, Nat.sub_zero, ← List.take_take, List.take_length]
theorem cut_drop (xs : List V) (i : Nat) : cutV xs (some (i : Int)) none = xs.drop i := by
  unfold cutV
  rw [HT.sIx_none, HT.sIx_nat]
  by_cases h : i ≤ xs.length
  · rw [Nat.min_eq_left h]
    exact List.take_of_length_le (by rw [List.length_drop]; exact Nat.le_refl _)
  · rw [Nat.min_eq_right (by omega), Nat.sub_self, List.take_zero, List.drop_of_length_le (by omega)]
theorem pe_nev {e : Expr} : PE X e (fun _ _ _ => False) := ⟨fun _ _ _ _ _ _ h => h.elim⟩
end
theorem goodAll_of {n w : Nat} : ∀ ds : List PyData, (∀ x ∈ ds, Good n w x) → GoodAll n w ds
  | [], _ => .nil
  | x :: r, h => .cons (h x List.mem_cons_self) (goodAll_of r fun y hy => h y (List.mem_cons_of_mem _ hy))
theorem two_good {n w : Nat} {x y : PyData} (a : Good n w x) (b : Good n w y) : Good (n + 1) (2 * w + 7) (.tuple [x, y]) := by
  refine ⟨?_, ?_, ?_⟩
  · show (fit x && (fit y && true)) = true
    rw [a.f, b.f]
    rfl
  · show max x.depth (max y.depth 0) + 1 ≤ n + 1
    have := a.d
    have := b.d
    omega
  · show wd x + 2 + (wd y + 2 + 0) + 3 ≤ 2 * w + 7
    have := a.w
    have := b.w
    omega
theorem bl_good (b : Bool) : Good 0 5 (.bool b) := ⟨rfl, Nat.le_refl _, Nat.le_refl _⟩
end Ey
set_option maxHeartbeats 4000000
namespace Ey
open PySem PySem.Spec L2
def topS (i : Nat) : Stmt := PySem.Challenge.pw_eyesonly_k55_tape_machines_of_any_value.main.body.getD i (.Pass ⟨0, 0, 0, 0⟩)
abbrev sDeck : Stmt := topS 12
abbrev sDraw : Stmt := topS 13
abbrev sPick : Stmt := topS 14
/-- what the module leaves of the built-in names -/
structure BI (mg : Str → Option Value) : Prop where
  int : mg "int" = none
  max : mg "max" = none
  list : mg "list" = none
  len : mg "len" = none
  range : mg "range" = none
  tuple : mg "tuple" = none
  sorted : mg "sorted" = none
  repr : mg "repr" = none
  isi : mg "isinstance" = none
  str : mg "str" = none
  all : mg "all" = none
  bool : mg "bool" = none
  set : mg "set" = none
  min : mg "min" = none
/-! ### the deck -/
def kLeft : Key := .inr "left"
def kMix : Key := .inr "mixed"
def kDraw : Key := .inr "draws"
theorem kLM : ¬ kLeft = kMix := by decide +kernel
theorem kLD : ¬ kLeft = kDraw := by decide +kernel
theorem kMD : ¬ kMix = kDraw := by decide +kernel
def deckD (l : Addr) (m n : Int) : List (Key × V) := [(kLeft, .ref l), (kMix, .int m), (kDraw, .int n)]
section
variable (l : Addr) (m n : Int)
theorem deck_left : valV (deckD l m n) kLeft = some (.ref l) := valV_pos rfl
theorem deck_mix : valV (deckD l m n) kMix = some (.int m) := (valV_neg kLM).trans (valV_pos rfl)
theorem deck_draw : valV (deckD l m n) kDraw = some (.int n) := (valV_neg kLD).trans ((valV_neg kMD).trans (valV_pos rfl))
theorem put_mix (z : Int) : putK (deckD l m n) kMix (.int z) = deckD l z n := by
  have h : ((deckD l m n).any fun kv => decide (kv.1 = kMix)) = true := by rw [valV_any, deck_mix]; rfl
  unfold putK
  rw [if_pos h]
  have h2 : ¬ kDraw = kMix := fun e => kMD e.symm
  simp [deckD, kLM, h2]
theorem put_draw (z : Int) : putK (deckD l m n) kDraw (.int z) = deckD l m z := by
  have h : ((deckD l m n).any fun kv => decide (kv.1 = kDraw)) = true := by rw [valV_any, deck_draw]; rfl
  unfold putK
  rw [if_pos h]
  simp [deckD, kLD, kMD]
end
theorem merge_deck (l : Addr) (m n : Int) : mergeK [] (deckD l m n) = deckD l m n := by
  have e1 : putK ([] : List (Key × V)) kLeft (.ref l) = [(kLeft, .ref l)] := putK_new _ rfl
  have e2 : putK [(kLeft, V.ref l)] kMix (.int m) = [(kLeft, V.ref l), (kMix, .int m)] := putK_new _ (valV_neg kLM)
  have e3 : putK [(kLeft, V.ref l), (kMix, V.int m)] kDraw (.int n) = deckD l m n := putK_new _ ((valV_neg kLD).trans (valV_neg kMD))
  show putK (putK (putK [] kLeft (.ref l)) kMix (.int m)) kDraw (.int n) = _
  rw [e1, e2, e3]
theorem deck_sz (l : Addr) (m n : Int) : (deckD l m n).length < sizeLine := small1000 (by show 3 ≤ 1000; decide)
section
variable {H : Hp} {d l : Addr} {m n : Int}
theorem get_left (h : H d = some (.dK (deckD l m n))) : DGet H d (kV kLeft) (some (.ref l)) := deck_left l m n ▸ DGet.k h
theorem get_mix (h : H d = some (.dK (deckD l m n))) : DGet H d (kV kMix) (some (.int m)) := deck_mix l m n ▸ DGet.k h
theorem get_draw (h : H d = some (.dK (deckD l m n))) : DGet H d (kV kDraw) (some (.int n)) := deck_draw l m n ▸ DGet.k h
theorem set_mix (h : H d = some (.dK (deckD l m n))) (z : Int) : DPut H d (kV kMix) (.int z) (upd H d (.dK (deckD l z n))) := put_mix l m n z ▸ DPut.k h (deck_sz l m n)
theorem set_draw (h : H d = some (.dK (deckD l m n))) (z : Int) : DPut H d (kV kDraw) (.int z) (upd H d (.dK (deckD l m z))) := put_draw l m n z ▸ DPut.k h (deck_sz l m n)
end
structure DeckAt (H : Hp) (d l : Addr) : Prop where
  ex : ∃ (m n : Int) (ns : List Int), H d = some (.dK (deckD l m n)) ∧ H l = some (.lst (ns.map V.int)) ∧ ns.length ≤ 63
theorem DeckAt.ne {H : Hp} {d l : Addr} (D : DeckAt H d l) : d ≠ l := by
  obtain ⟨m, n, ns, h1, h2, _⟩ := D.ex
  exact ne_of h1 h2 (by intro z; cases z)
theorem DeckAt.kp {ms : List Addr} {H H1 : Hp} {d l : Addr} (D : DeckAt H d l) (k : Kp ms H H1) (nd : d ∉ ms) (nl : l ∉ ms) : DeckAt H1 d l := by
  obtain ⟨m, n, ns, h1, h2, h3⟩ := D.ex
  exact ⟨m, n, ns, k.at_ _ _ h1 nd, k.at_ _ _ h2 nl, h3⟩
def spDraw : Sp := fun vs H Q _ => ∃ (d l : Addr) (many : Int), vs = [.ref d, .int many] ∧ DeckAt H d l ∧ 0 < many ∧ many < 1073741824 ∧
  ∀ (r : Int) (H' : Hp), 0 ≤ r → r < many → DeckAt H' d l → Kp [d, l] H H' → Q (.int r) H'
section
variable {P : Program} {w : World} {K : PySem.W.Frag} {mg : Str → Option Value} {base : Heap}
theorem scDraw : FnScope ["_law_deck_here", "_law_many", "_law_figure", "_law_cell"] ["_law_deck_here", "_law_many"] (defScope sDraw) := ⟨rfl, rfl, rfl, by decide +kernel, rfl, by decide +kernel, by decide +kernel⟩
theorem fmod_lt {i j : Int} (h : 0 < j) : 0 ≤ i.fmod j ∧ i.fmod j < j := ⟨Int.fmod_nonneg_of_pos _ h, Int.fmod_lt_of_pos _ h⟩
theorem fdiv_ne : (2147483647 : Int) ≠ 0 := by decide
theorem lt64 {i : Int} (h0 : 0 ≤ i) (h1 : i < 2147483647) : -(2 ^ 64) < i ∧ i < 2 ^ 64 := by
  constructor
  · exact Int.lt_of_lt_of_le (by decide) h0
  · exact Int.lt_trans h1 (by decide)
theorem eqv_nil (ns : List Int) : PyData.eqv (.list (ns.map PyData.int)) (.list []) = ns.isEmpty := by
  cases ns <;> rfl
theorem dp_ints {K : PySem.W.Frag} {H : Hp} : ∀ ns : List Int, DpAll K H (ns.map V.int) (ns.map PyData.int)
  | [] => .nil
  | n :: r => .cons (.int n) (dp_ints r)
theorem lay_ints : ∀ ns : List Int, PyData.canLayAll0 (ns.map PyData.int) = true ∧ PyData.depthAll (ns.map PyData.int) = 0
  | [] => ⟨rfl, rfl⟩
  | n :: r => by
    obtain ⟨a, b⟩ := lay_ints r
    refine ⟨?_, ?_⟩
    · show (PyData.canLay0 (.int n) && PyData.canLayAll0 (r.map PyData.int)) = true
      rw [a]
      rfl
    · show max 0 (PyData.depthAll (r.map PyData.int)) = 0
      rw [b]
      rfl
theorem shaped_ints (ns : List Int) : SeqAt.shaped (.list (ns.map PyData.int)) = true := by
  obtain ⟨a, b⟩ := lay_ints ns
  show (PyData.canLayAll0 (ns.map PyData.int) && decide (PyData.depthAll (ns.map PyData.int) + 1 ≤ 64)) = true
  rw [a, b]
  rfl
theorem ok_draw {f : Addr} {fd : FuncData} (F : Fun K "_law_draw" "_law_draw" sDraw f fd) (B : BI mg) : FnOk P w K mg base CX0 1 f fd ["_law_deck_here", "_law_many"] spDraw := by
  refine F.ok scDraw (fun vs H Q E h => ?_) (fun cdv A outer s H vs Q E hr h => ?_)
  · obtain ⟨d, l, many, rfl, _⟩ := h
    rfl
  · obtain ⟨d, l, many, rfl, D, m0, m1, k⟩ := h
    have hu := hu_of hr
    have mne : many ≠ 0 := by omega
    -- the tail: number, number, number, return
    obtain ⟨tt, dt, rt⟩ : ∃ tt, PSs (cxOf CX0 P w K mg base ["_law_deck_here", "_law_many", "_law_figure", "_law_cell"] "_law_draw" (defScope sDraw) f cdv A outer s H E).nox ((defBody sDraw).drop 3) tt ∧
        ∀ (H2 : Hp) (z : Int) (y : Option V), DeckAt H2 d l → Kp [d, l] H H2 → tt { nx := fun _ H' => Q .non H', rt := Q } [some (.ref d), some (.int many), some (.int z), y] H2 := by
      refine ⟨_, pss_cons (ps_set (i := 2) scDraw.nd rfl (.inl rfl) (pe_op op_modN (pe_callTy call_int1 (by rfl) B.int (by decide +kernel) (pa_cons (pe_op op_add (pe_op op_mul (pv 2) pe_int) pe_int) pa_nil)) pe_int))
        (pss_cons (ps_set (i := 2) scDraw.nd rfl (.inl rfl) (pe_op op_modN (pe_callTy call_int1 (by rfl) B.int (by decide +kernel) (pa_cons (pe_op op_add (pe_op op_add (pe_op op_mul (pv 2) (pv 2)) (pe_op op_mul pe_int (pe_dget hu (pv 0) pe_str (fun _ _ => rfl)))) pe_int) pa_nil)) pe_int))
        (pss_cons (ps_set (i := 2) scDraw.nd rfl (.inl rfl) (pe_op op_modN (pe_callTy call_int1 (by rfl) B.int (by decide +kernel) (pa_cons (pe_op op_mul (pv 2) pe_int) pa_nil)) pe_int))
        (pss_one (ps_ret (pe_op op_modN (pe_callTy call_int1 (by rfl) B.int (by decide +kernel) (pa_cons (pe_op op_fdivN (pv 2) pe_int) pa_nil)) (pv 1)))))), fun H2 z y D2 k2 => ?_⟩
      obtain ⟨m, n, ns, hd, hl, hn⟩ := id D2
      refine ⟨_, rfl, _, _, rfl, rfl, .inr ⟨by decide, by decide⟩, _, _, rfl, rfl, .inl ⟨_, rfl, ?_⟩⟩
      refine ⟨_, _, rfl, rfl, (by decide : (2147483647 : Int) ≠ 0), ?_⟩
      have b1 := fmod_lt (i := z * 39373 + 55) (j := 2147483647) (by decide)
      refine ⟨_, rfl, _, rfl, _, _, rfl, rfl, .inl (lt64 b1.1 b1.2), _, rfl, d, _, rfl, get_draw hd, _, _, rfl, rfl, .inl ⟨by decide, by decide⟩, _, _, rfl, rfl, _, _, rfl, rfl, .inl ⟨_, rfl, ?_⟩⟩
      refine ⟨_, _, rfl, rfl, (by decide : (2147483587 : Int) ≠ 0), ?_⟩
      have b2 := fmod_lt (i := (z * 39373 + 55).fmod 2147483647 * (z * 39373 + 55).fmod 2147483647 + 60089 * n + 55) (j := 2147483587) (by decide)
      refine ⟨_, rfl, _, _, rfl, rfl, .inl (lt64 b2.1 (Int.lt_trans b2.2 (by decide))), .inl ⟨_, rfl, ?_⟩⟩
      refine ⟨_, _, rfl, rfl, (by decide : (2147483563 : Int) ≠ 0), ?_⟩
      refine ⟨_, rfl, _, _, rfl, rfl, (⟨by decide, by decide⟩ : (64 : Int) ≠ 0 ∧ (64 : Int).natAbs < 1073741824), .inl ⟨_, rfl, _, rfl, _, _, rfl, rfl, mne, ?_⟩⟩
      have b3 := fun i : Int => fmod_lt (i := i) m0
      exact k _ H2 (b3 _).1 (b3 _).2 D2 k2
    refine ⟨_, pss_cons (ps_dput hu (pv 0) pe_str (pe_op op_add (pe_dget hu (pv 0) pe_str (fun _ _ => rfl)) pe_int) rfl)
      (pss_cons (ps_set (i := 2) scDraw.nd rfl (.inl rfl) (pe_op op_add (pe_dget hu (pv 0) pe_str (fun _ _ => rfl)) (pe_op op_mul pe_int (pe_dget hu (pv 0) pe_str (fun _ _ => rfl)))))
      (pss_cons (ps_if (pt_cmpR (op_neD hr.units) (pe_dget hu (pv 0) pe_str (fun _ _ => rfl)) (pe_lst pa_nil) (nomark _))
        (pss_cons (ps_set (i := 3) scDraw.nd rfl (.inl rfl) (pe_bm0 PySem.F.plainAttrs_list PySem.F.slot_list_pop PySem.F.type_list_pop mt_pop (pe_dget hu (pv 0) pe_str (fun _ _ => rfl))))
        (pss_cons (ps_if (pt_cmpR op_ge (pv 3) (pe_op op_pow pe_int pe_int) (nomark _))
          (pss_cons (ps_expr (pe_bm PySem.F.plainAttrs_list PySem.F.slot_list_append PySem.F.type_list_append mt_append (pe_dget hu (pv 0) pe_str (fun _ _ => rfl))
            (pa_cons (pe_op op_fdivN (pv 3) (pe_callB (call_max2 rfl) (by rfl) B.max (by decide +kernel) (pa_cons pe_int (pa_cons (pv 1) pa_nil)))) pa_nil)))
          (pss_one (ps_ret (pe_op op_modN (pe_callTy call_int1 (by rfl) B.int (by decide +kernel) (pa_cons (pv 3) pa_nil)) (pv 1))))) pss_nil)
        (pss_one (ps_set (i := 2) scDraw.nd rfl (.inl rfl) (pe_op op_add (pv 2) (pe_op op_modN (pe_callTy call_int1 (by rfl) B.int (by decide +kernel) (pa_cons (pv 3) pa_nil)) pe_int)))))) pss_nil)
      dt)), ?_⟩
    obtain ⟨m, n, ns, hd, hl, hn⟩ := D.ex
    have ndl := D.ne
    -- deck['draws'] = deck['draws'] + 1
    refine ⟨_, rfl, d, _, rfl, get_draw hd, _, _, rfl, rfl, _, rfl, d, _, rfl, set_draw hd _, ?_⟩
    have kd : Kp [d, l] H (upd H d (.dK (deckD l m (n + 1)))) := .put (by simp) hd (fun xs z => by cases z)
    have hd1 : (upd H d (.dK (deckD l m (n + 1)))) d = some (.dK (deckD l m (n + 1))) := upd_same
    have hl1 : (upd H d (.dK (deckD l m (n + 1)))) l = some (.lst (ns.map V.int)) := by rw [upd_ne ndl.symm]; exact hl
    generalize upd H d (.dK (deckD l m (n + 1))) = H1 at kd hd1 hl1
    -- number
    refine ⟨_, rfl, d, _, rfl, get_mix hd1, _, rfl, d, _, rfl, get_draw hd1, _, _, rfl, rfl, .inl ⟨by decide, by decide⟩, _, _, rfl, rfl, ?_⟩
    -- if deck['cells'] != []
    refine ⟨_, rfl, d, _, rfl, get_left hd1, Nat.zero_le _, fun p np => ⟨.list (ns.map PyData.int), .list [], .lst (sql_of (by rw [upd_ne (ne_of_none hl1 np)]; exact hl1)) (dp_ints ns), .lst (sql_of upd_same) .nil, shaped_ints ns, rfl, ?_⟩⟩
    rw [eqv_nil]
    have kp : Kp [d, l] H (upd H1 p (.lst [])) := kd.trans (.new np)
    have hd2 : (upd H1 p (.lst [])) d = some (.dK (deckD l m (n + 1))) := by rw [upd_ne (ne_of_none hd1 np)]; exact hd1
    have hl2 : (upd H1 p (.lst [])) l = some (.lst (ns.map V.int)) := by rw [upd_ne (ne_of_none hl1 np)]; exact hl1
    generalize upd H1 p (.lst []) = H2 at kp hd2 hl2
    refine ⟨_, rfl, ?_⟩
    cases e : ns.isEmpty with
    | true =>
      refine iteF ?_
      exact rt H2 _ _ ⟨_, _, _, hd2, hl2, hn⟩ kp
    | false =>
      refine iteT ?_
      -- the last cell
      obtain ⟨ini, z, rfl⟩ : ∃ ini z, ns = ini ++ [z] := by
        refine ⟨ns.dropLast, ns.getLast (fun q => by rw [q] at e; cases e), (List.dropLast_concat_getLast _).symm⟩
      have lst : ((ini ++ [z]).map V.int)[((ini ++ [z]).map V.int).length - 1]? = some (.int z) := by
        rw [List.map_append, List.length_append]
        show (ini.map V.int ++ [V.int z])[(ini.map V.int).length + 1 - 1]? = _
        rw [Nat.add_sub_cancel, List.getElem?_append_right (Nat.le_refl _), Nat.sub_self]
        rfl
      have dr : ((ini ++ [z]).map V.int).dropLast = ini.map V.int := by
        rw [List.map_append]
        exact List.dropLast_concat
      rw [List.length_append] at hn
      have hn' : ini.length + 1 ≤ 63 := hn
      refine ⟨_, rfl, d, _, rfl, get_left hd2, .inl ⟨rfl, _, sql_of hl2⟩, l, _, _, rfl, rfl, hl2, lst, ?_⟩
      rw [dr]
      have k3 : Kp [d, l] H (upd H2 l (.lst (ini.map V.int))) := kp.trans (.put (by simp) hl2 (fun xs z => by cases z))
      have hd3 : (upd H2 l (.lst (ini.map V.int))) d = some (.dK (deckD l m (n + 1))) := by rw [upd_ne ndl]; exact hd2
      have hl3 : (upd H2 l (.lst (ini.map V.int))) l = some (.lst (ini.map V.int)) := upd_same
      generalize upd H2 l (.lst (ini.map V.int)) = H3 at k3 hd3 hl3
      -- if cell >= 10 ** 18
      refine ⟨_, rfl, _, _, rfl, rfl, (⟨by decide, by decide, by decide⟩ : (0 : Int) ≤ 18 ∧ (18 : Int) ≤ 1000000 ∧ (10 : Int).natAbs < 2 ^ 64), _, _, rfl, rfl, _, rfl, ite2 (fun _ => ?_) (fun _ => ?_)⟩
      · -- append, return
        refine ⟨_, rfl, d, _, rfl, get_left hd3, .inl ⟨rfl, _, sql_of hl3⟩, _, rfl, _, rfl, _, _, rfl, _, _, rfl, rfl, ?_, ?_⟩
        · show (if many > 2 then many else 2) ≠ 0 ∧ (if many > 2 then many else 2).natAbs < 1073741824
          split <;> omega
        · refine ⟨l, _, _, rfl, rfl, hl3, ?_, ?_⟩
          · rw [List.length_map]
            exact small1000 (by omega)
          · refine ⟨_, rfl, .inl ⟨_, rfl, _, rfl, _, _, rfl, rfl, mne, ?_⟩⟩
            have b3 := fun i : Int => fmod_lt (i := i) m0
            refine k _ _ (b3 _).1 (b3 _).2 ⟨m, n + 1, ini ++ [z.fdiv (if many > 2 then many else 2)], ?_, ?_, ?_⟩ (k3.trans (.put (by simp) hl3 (fun xs z => by cases z)))
            · rw [upd_ne ndl]
              exact hd3
            · rw [upd_same, List.map_append]
              rfl
            · rw [List.length_append]
              show ini.length + 1 ≤ 63
              omega
      · refine ⟨_, rfl, _, rfl, .inl ⟨_, rfl, _, _, rfl, rfl, (by decide : (2147483629 : Int) ≠ 0), _, _, rfl, rfl, ?_⟩⟩
        exact rt _ _ _ ⟨_, _, ini, hd3, hl3, by omega⟩ k3
theorem cut63 (xs : List V) (h : xs.length ≤ 63) : cutV xs none (some 63) = xs := by
  unfold cutV
  rw [HT.sIx_none, show HT.sIx xs.length xs.length (some 63) = min 63 xs.length from HT.sIx_nat _ _ 63, Nat.min_eq_right h]
  show List.take xs.length xs = xs
  exact List.take_length
theorem scDeck : FnScope ["_law_script", "_law_mixed", "_law_cell"] ["_law_script"] (defScope sDeck) := ⟨rfl, rfl, rfl, by decide +kernel, rfl, by decide +kernel, by decide +kernel⟩
def spDeck (K : PySem.W.Frag) : Sp := fun vs H Q _ => ∃ (a : Addr) (ns : List Int), vs = [.ref a] ∧ SqL K H a (ns.map V.int) ∧ ns.length ≤ 63 ∧
  ∀ (d l : Addr) (H' : Hp), DeckAt H' d l → Kp [] H H' → H d = none → H l = none → Q (.ref d) H'
theorem ok_deck {f : Addr} {fd : FuncData} (F : Fun K "_law_deck" "_law_deck" sDeck f fd) (B : BI mg) : FnOk P w K mg base CX0 1 f fd ["_law_script"] (spDeck K) := by
  refine F.ok scDeck (fun vs H Q E h => ?_) (fun cdv A outer s H vs Q E hr h => ?_)
  · obtain ⟨a, ns, rfl, _⟩ := h
    rfl
  · obtain ⟨a, ns, rfl, hS, hn, k⟩ := h
    refine ⟨_, pss_cons (ps_set (i := 1) scDeck.nd rfl (.inl rfl) pe_int)
      (pss_cons (ps_for PassesOwn.never rfl (pi_list (pe_slice sl_list (pv 0) po_none (po_some pe_int))) (pg_name (i := 2) scDeck.nd rfl (.inl rfl))
        (pss_one (ps_set (i := 1) scDeck.nd rfl (.inl rfl) (pe_op op_modN (pe_callTy call_int1 (by rfl) B.int (by decide +kernel) (pa_cons (pe_op op_add (pe_op op_add (pe_op op_mul (pv 1) pe_int)
          (pe_op op_modN (pe_callTy call_int1 (by rfl) B.int (by decide +kernel) (pa_cons (pv 2) pa_nil)) pe_int)) pe_int) pa_nil)) pe_int))))
      (pss_one (ps_ret (pe_disp (pps_cons pe_str (pe_revL (pe_callTy call_list_of (by rfl) B.list (by decide +kernel) (pa_cons (pe_slice sl_list (pv 0) po_none (po_some pe_int)) pa_nil)))
        (pps_cons pe_str (pv 1) (pps_cons pe_str pe_int pps_nil))) (by rfl) (by rfl) (fun z => by cases z) (by decide))))), ?_⟩
    have hl63 : (ns.map V.int).length ≤ 63 := by rw [List.length_map]; exact hn
    refine ⟨_, rfl, 63, rfl, a, ns.map V.int, rfl, hS, fun c nc => ?_⟩
    rw [cut63 _ hl63]
    have k0 : Kp [] H (upd H c (.lst (ns.map V.int))) := .new nc
    refine ⟨c, rfl, ⟨_, sql_of upd_same⟩, for_list (K := K) (a := c) (xs := ns.map V.int) (fun i σ H2 => ∃ (m : Int) (y : Option V), σ = [some (.ref a), some (.int m), y] ∧ Kp [] H H2 ∧ SqL K H2 c (ns.map V.int))
      ⟨_, none, rfl, k0, sql_of upd_same⟩ (fun i σ H2 _ ⟨_, _, _, _, q⟩ => q) ?_ ?_⟩
    · rintro i x σ H2 hi ⟨m, y, rfl, k2, hc⟩
      obtain ⟨z, rfl⟩ : ∃ z, x = V.int z := by
        rw [List.getElem?_map] at hi
        obtain ⟨z, _, e⟩ := Option.map_eq_some_iff.mp hi
        exact ⟨z, e.symm⟩
      refine ⟨_, rfl, _, _, rfl, rfl, .inr ⟨by decide, by decide⟩, _, rfl, .inl ⟨_, rfl, _, _, rfl, rfl, (by decide : (2147483629 : Int) ≠ 0), _, _, rfl, rfl, _, _, rfl, rfl, .inl ⟨_, rfl, ?_⟩⟩⟩
      exact ⟨_, _, rfl, rfl, (by decide : (2147483563 : Int) ≠ 0), _, _, rfl, k2, hc⟩
    · rintro σ H2 ⟨m, y, rfl, k2, hc⟩
      intro d nd
      have kd : Kp [] H2 (upd H2 d (.dK [])) := .new nd
      have hdd : (upd H2 d (.dK [])) d = some (.dK []) := upd_same
      generalize upd H2 d (.dK []) = H3 at kd hdd
      have hS3 : SqL K H3 a (ns.map V.int) := (k2.trans kd).lst List.not_mem_nil hS
      refine ⟨_, rfl, 63, rfl, a, ns.map V.int, rfl, hS3, fun e ne => ?_⟩
      rw [cut63 _ hl63]
      refine ⟨e, _, rfl, .inl (sql_of upd_same), fun g ng => ?_⟩
      refine ⟨g, _, rfl, sql_of upd_same, fun l nl => ?_⟩
      have k5 : Kp [] H3 (upd (upd (upd H3 e (.lst (ns.map V.int))) g (.lst (ns.map V.int))) l (.lst (ns.map V.int).reverse)) := (Kp.new ne).trans ((Kp.new ng).trans (Kp.new nl))
      have hl5 : (upd (upd (upd H3 e (.lst (ns.map V.int))) g (.lst (ns.map V.int))) l (.lst (ns.map V.int).reverse)) l = some (.lst (ns.map V.int).reverse) := upd_same
      have nl3 : H3 l = none := ((Kp.new (ms := []) ne).trans (Kp.new ng)).free nl List.not_mem_nil
      generalize upd (upd (upd H3 e (.lst (ns.map V.int))) g (.lst (ns.map V.int))) l (.lst (ns.map V.int).reverse) = H4 at k5 hl5
      have hd4 : H4 d = some (.dK []) := k5.at_ _ _ hdd List.not_mem_nil
      refine ⟨_, rfl, hd4, deckD l m 0, rfl, by show 3 ≤ 15; decide, ?_⟩
      rw [merge_deck]
      have ndl : d ≠ l := ne_of hd4 hl5 (by intro z; cases z)
      refine k d l _ ⟨m, 0, ns.reverse, upd_same, ?_, by rw [List.length_reverse]; exact hn⟩ ?_ (k2.free nd List.not_mem_nil) ((k2.trans kd).free nl3 List.not_mem_nil)
      · rw [upd_ne ndl.symm, hl5, List.map_reverse]
      · refine ⟨fun b o e1 _ => ?_, fun b xs e1 => ?_⟩
        · have nb : b ≠ d := ne_of_none e1 (k2.free nd List.not_mem_nil)
          rw [upd_ne nb]
          exact k5.at_ _ _ (kd.at_ _ _ (k2.at_ _ _ e1 List.not_mem_nil) List.not_mem_nil) List.not_mem_nil
        · have nb : b ≠ d := ne_of_none e1 (k2.free nd List.not_mem_nil)
          rw [upd_ne nb]
          exact k5.tup _ _ (kd.tup _ _ (k2.tup _ _ e1))
theorem scPick : FnScope ["_law_deck_here", "_law_some"] ["_law_deck_here", "_law_some"] (defScope sPick) := ⟨rfl, rfl, rfl, by decide +kernel, rfl, by decide +kernel, by decide +kernel⟩
def spPick (K : PySem.W.Frag) : Sp := fun vs H Q _ => ∃ (d l a : Addr) (xs : List V), vs = [.ref d, .ref a] ∧ DeckAt H d l ∧ SqL K H a xs ∧ xs ≠ [] ∧ xs.length ≤ 1000000 ∧ a ≠ d ∧ a ≠ l ∧
  ∀ (x : V) (H' : Hp), x ∈ xs → DeckAt H' d l → Kp [d, l] H H' → Q x H'
/-- a def of the module, as callers need it -/
structure Df (K : PySem.W.Frag) (mg : Str → Option Value) (x : Str) (st : Stmt) (ps : List Str) (f : Addr) (fd : FuncData) : Prop where
  F : Fun K x x st f fd
  b : Binds K fd ps []
  g : mg x = some (.ref f)
theorem ok_pick {f fD : Addr} {fd fdD : FuncData} (F : Fun K "_law_pick" "_law_pick" sPick f fd) (B : BI mg) (D : Df K mg "_law_draw" sDraw ["_law_deck_here", "_law_many"] fD fdD) : FnOk P w K mg base CX0 2 f fd ["_law_deck_here", "_law_some"] (spPick K) := by
  refine F.ok scPick (fun vs H Q E h => ?_) (fun cdv A outer s H vs Q E hr h => ?_)
  · obtain ⟨d, l, a, xs, rfl, _⟩ := h
    rfl
  · obtain ⟨d, l, a, xs, rfl, DA, hS, hne, hlen, had, hal, k⟩ := h
    refine ⟨_, pss_one (ps_ret (pe_ix ix_list (pv 1) (pe_call (ok_draw D.F B) hr (by rfl) D.g D.F.kp D.b .nil pass0 (pa_cons (pv 0) (pa_cons (pe_callB call_len_seq (by rfl) B.len PySem.boot_len (pa_cons (pv 1) pa_nil)) pa_nil))) (fun _ _ => rfl))), ?_⟩
    have hpos : 0 < xs.length := List.length_pos_iff.mpr hne
    refine ⟨_, rfl, _, rfl, _, rfl, a, xs, rfl, .inl hS, d, l, _, rfl, DA, by omega, by omega, fun r H' r0 r1 D' kp => ?_⟩
    have hn : a ∉ [d, l] := by simp [had, hal]
    obtain ⟨i, rfl⟩ : ∃ i : Nat, r = (i : Int) := ⟨r.toNat, by omega⟩
    have hi : i < xs.length := by omega
    refine ⟨a, xs, _, xs[i], rfl, rfl, kp.lst hn hS, ?_, ?_⟩
    · exact atI_nat (List.getElem?_eq_getElem hi)
    · exact k _ H' (List.getElem_mem hi) D' kp
end
end Ey
set_option maxHeartbeats 2000000
namespace Ey
open PySem PySem.Spec PyProof.Rows L2 GxR
/-! ### all(e for x in it), e any expression that HandS can tell -/
/-- the generator's own frame -/
def gxOfC (X : Cx) (A : Around) (s : Shared) (H : Hp) (ge : Env) (x : Str) (ys : List Str) (fp : List Addr) : Cx :=
  { X with A := A, N := x :: ys, s_0 := s, H_0 := H, env := ge, outer := X.stack, stack := ge :: X.stack, ex := fp, fn := fun _ => false, calm := true, pn := [], xe := fun _ _ => False }
abbrev gcodeC (elt iter : Expr) (x : Str) (px : Pos) (sc : Scope) (gp : Pos) (it : Addr) (ge : Env) : Code := .compLoop (.GeneratorExp elt [⟨.Name x px, iter, [], 0⟩] sc gp) 0 (.ref it) .none ge
/-- the generator stands at turn i -/
structure GInC (Xg : Cx) (cs : L2.St) (fp : List Addr) (tn : Nat → Heap → Prop) (ga : Addr) (go : Obj) (g : Nat) (W : Nat → Hp → Prop) (i : Nat) (s : Shared) : Prop where
  ex : ∃ (H : Hp) (y : Option V), Inv Xg [(ga, go)] (y :: cs) H s ∧ tn i s.heap ∧ (∀ b ∈ fp, FpOk Xg [(ga, go)] H b) ∧ W i H
  sz : g + 1 ≤ s.gens.size
/-- it is over -/
def GEdC (Xg : Cx) (cs : L2.St) (ga : Addr) (go : Obj) (Qe : Hp → Prop) (s : Shared) : Prop := ∃ (H : Hp) (y : Option V), Inv Xg [(ga, go)] (y :: cs) H s ∧ Qe H
def YGC (GI : Nat → Shared → Prop) (GF : Shared → Prop) (n0 : Nat) : Protocol := fun m _ v s kap => ∃ b : Bool, v = .bool b ∧ (b = true → GI (n0 - m) s ∧ ∀ s'', GI (n0 - m) s'' → kap (.send .none) s'') ∧ (b = false → GF s)
def RGC (GT : Shared → Prop) : GenEnd := fun _ _ r s => r = .ok .next ∧ GT s
section
variable {X : Cx} {A : Around} {sG : Shared} {HG : Hp} {ge : Env} {x : Str} {fp : List Addr} {tn : Nat → Heap → Prop} {ga it : Addr} {go : Obj} {g : Nat} {W : Nat → Hp → Prop} {Qf Qt : Hp → Prop} {J : It} {elt iter : Expr} {px gp : Pos} {sc : Scope} {te : TE} {n0 : Nat} {ys : List Str} {cs : L2.St}
theorem seg_gloopC (T : Turn X.prog X.w X.K (.Name x px) J fp it tn) (hx : ge.scope.names.lookup x = some .local) (hnd : (x :: ys).Nodup) (hco : ge.scope.isCoroutine = false)
    (hel : PE (gxOfC X (A.over (gcodeC elt iter x px sc gp it ge) []) sG HG ge x ys fp) elt te)
    (hW : ∀ i H, W i H → (i < n0 ∧ J.go i H ∧ ∀ v H', J.yld i H v H' → te (some v :: cs) H' fun y H3 => ∃ b, y = .bl b ∧ if b = true then W (i + 1) H3 else Qf H3) ∨ (J.stop i H ∧ Qt H)) :
    ∀ (k i : Nat) (s₀ s : Shared), n0 - i = k → GInC (gxOfC X (A.over (gcodeC elt iter x px sc gp it ge) []) sG HG ge x ys fp) cs fp tn ga go g W i s →
      Seg (model X.prog X.w) A (RGC (GEdC (gxOfC X (A.over (gcodeC elt iter x px sc gp it ge) []) sG HG ge x ys fp) cs ga go Qt))
        (YGC (GInC (gxOfC X (A.over (gcodeC elt iter x px sc gp it ge) []) sG HG ge x ys fp) cs fp tn ga go g W) (GEdC (gxOfC X (A.over (gcodeC elt iter x px sc gp it ge) []) sG HG ge x ys fp) cs ga go Qf) n0) (n0 - i) s₀
        (gcodeC elt iter x px sc gp it ge) ((model X.prog X.w).den (gcodeC elt iter x px sc gp it ge)) [] s := by
  generalize hXg : gxOfC X (A.over (gcodeC elt iter x px sc gp it ge) []) sG HG ge x ys fp = Xg at *
  have eP : Xg.prog = X.prog := by rw [← hXg]; rfl
  have eW : Xg.w = X.w := by rw [← hXg]; rfl
  have eK : Xg.K = X.K := by rw [← hXg]; rfl
  have eC : Xg.calm = true := by rw [← hXg]; rfl
  have eA : Xg.A = A.over (gcodeC elt iter x px sc gp it ge) [] := by rw [← hXg]; rfl
  have eE : Xg.env = ge := by rw [← hXg]; rfl
  have eN : Xg.N = x :: ys := by rw [← hXg]; rfl
  have eX : Xg.xe = fun _ _ => False := by rw [← hXg]; rfl
  have ePn : Xg.pn = [] := by rw [← hXg]; rfl
  have stat : ∀ {pins : List (Addr × Obj)} {H H' : Hp}, (∀ b ∈ fp, FpOk Xg pins H b) → (∀ b ∈ fp, H' b = none) → ∀ b ∈ fp, FpOk Xg pins H' b := fun f2 hn b hb => ⟨hn b hb, (f2 b hb).2⟩
  intro k
  induction k with
  | zero =>
    intro i s₀ s hk gi
    obtain ⟨⟨H, y, I, st, fo, w⟩, sz⟩ := gi
    rcases hW i H w with ⟨lt, _⟩ | ⟨stop, qt⟩
    · omega
    show Seg _ A _ _ _ s₀ _ ((compTurn (.GeneratorExp elt [⟨.Name x px, iter, [], 0⟩] sc gp) 0 (.ref it) .none ge).onRaise (leaving ge)) [] s
    rw [compTurn_gen, Sem.onRaise_eq_wrap]
    refine seg_bind_wrap (wpAny_standAt ?_)
    refine seg_bind_wrap (eA ▸ wpAny_mono (T.done Xg eP eW eK eC i _ s (y :: cs) H (fun _ _ => False) I fo st stop) (fun r s1 ⟨hr, I1⟩ => ?_) fun _ _ e => e.elim)
    subst hr
    exact seg_end (.ok .next) ⟨rfl, H, y, I1, qt⟩
  | succ k ih =>
    intro i s₀ s hk gi
    obtain ⟨⟨H, y, I, st, fo, w⟩, sz⟩ := gi
    show Seg _ A _ _ _ s₀ _ ((compTurn (.GeneratorExp elt [⟨.Name x px, iter, [], 0⟩] sc gp) 0 (.ref it) .none ge).onRaise (leaving ge)) [] s
    rw [compTurn_gen, Sem.onRaise_eq_wrap]
    refine seg_bind_wrap (wpAny_standAt ?_)
    rcases hW i H w with ⟨lt, gg, step⟩ | ⟨stop, qt⟩
    · refine seg_bind_wrap (eA ▸ GenW.wpAny_gsz sz (wpAny_mono (T.item Xg eP eW eK eC i _ s (y :: cs) H (fun _ _ => False) I fo st gg) (fun r s1 ⟨u, hr, rest⟩ sz1 => ?_) fun _ _ e _ => e.elim))
      subst hr
      refine seg_bind_wrap (eA ▸ GenW.wpAny_gsz sz1 (wpAny_mono rest (fun _ s2 ⟨v, H2, I2, rv, yl, st2, fr2⟩ sz2 => ?_) fun _ _ e _ => e.elim))
      have fo2 := stat fo fr2
      have I2' := I2.pinned fo2 (T.obj _ _ st2)
      have pgn : PG Xg (.Name x px) (gName 0) := pg_name (by rw [eN]; exact hnd) (by rw [eN]; rfl) (.inl (by rw [eE]; exact hx)) (.inr (by rw [eE]; exact hx))
      have run1 := pgn.run _ s2 (y :: cs) H2 v u (fun σ' H' => σ' = some v :: cs ∧ H' = H2) I2' rv ⟨rfl, rfl⟩
      rw [eE, eX] at run1
      refine seg_bind_wrap (eA ▸ GenW.wpAny_gsz sz2 (wpAny_mono (eP ▸ eW ▸ run1) (fun _ s3 ⟨σ3, H3, I3, e3, e4⟩ sz3 => ?_) fun _ _ e _ => e.elim))
      subst e3 e4
      simp only [List.forIn_nil]
      refine seg_bind_wrap (wpAny_pure ?_)
      rw [if_pos rfl]
      have hy : ∀ v, yieldOut ge v = yieldValue v := fun v => by simp only [yieldOut, hco, Bool.false_eq_true, if_false]
      simp only [hy]
      rw [Sem.bind_eq_wrap', Sem.bind_eq_wrap', Sem.wrap_wrap, Sem.wrap_wrap]
      have run2 := hel.run _ s3 (some v :: cs) H3 _ I3 (step v H3 yl)
      rw [eE, eX] at run2
      refine seg_wrap (eA ▸ GenW.wpAny_gsz sz3 (wpAny_mono (eP ▸ eW ▸ run2) (fun z s4 ⟨zv, H4, I4, rz, b, ez, q⟩ sz4 => ?_) fun _ _ e _ => e.elim))
      subst ez
      have ez' : z = .bool b := rz
      subst ez'
      have hn : n0 - i = (n0 - (i + 1)) + 1 := by omega
      have hm : n0 - (n0 - (i + 1)) = i + 1 := by omega
      rw [hn]
      have st4 : tn (i + 1) s4.heap := T.keep _ _ _ st2 fun b hb o e => (I4.pin (b, o) (List.mem_append_right _ (List.mem_append_right _ (mem_pinsAt hb e)))).1
      have fr4 : ∀ b ∈ fp, H4 b = none := fun b hb => by
        obtain ⟨o, e, d⟩ := T.obj _ _ st2 b hb
        exact (I4.pin (b, o) (List.mem_append_right _ (List.mem_append_right _ (mem_pinsAt hb e)))).2.1
      refine seg_at (seg_yield rfl rfl rfl ⟨b, rfl, fun hb => ?_, fun hb => ?_⟩)
      · rw [hb, if_pos rfl] at q
        rw [hm]
        exact ⟨⟨⟨H4, _, I4.unpinned, st4, stat fo fr4, q⟩, sz4⟩, fun s'' gi => seg_again rfl (ih (i + 1) s'' s'' (by omega) gi)⟩
      · rw [hb, if_neg Bool.false_ne_true] at q
        exact ⟨H4, _, I4.unpinned, q⟩
    · refine seg_bind_wrap (eA ▸ wpAny_mono (T.done Xg eP eW eK eC i _ s (y :: cs) H (fun _ _ => False) I fo st stop) (fun r s1 ⟨hr, I1⟩ => ?_) fun _ _ e => e.elim)
      subst hr
      exact seg_end (.ok .next) ⟨rfl, H, y, I1, qt⟩
/-- the generator as its consumer has it -/
def CStC (M : Model) (A : Around) (R : GenEnd) (Y : Protocol) (GI : Nat → Shared → Prop) (g n0 i : Nat) (s : Shared) : Prop :=
  GI i s ∧ ∃ gs, s.gens[g]? = some gs ∧ ∀ s'', GI i s'' → gs.Goes M A R Y (n0 - i) (.send .none) s''
theorem Inv.gensC {Xg : Cx} {pins : List (Addr × Obj)} {σ : L2.St} {H : Hp} {s : Shared} {gs : Array GenState} (I : Inv Xg pins σ H s) (h : AllBare gs) : Inv Xg pins σ H { s with gens := gs } :=
  ⟨I.ok, I.os, h, I.base, I.loc, I.cell, I.free, I.freeC, I.pin, I.hok, I.len⟩
theorem GInC.set {Xg : Cx} {i : Nat} {s : Shared} {gs : GenState} (h : GInC Xg cs fp tn ga go g W i s) (hb : gs.bare = true) : GInC Xg cs fp tn ga go g W i (s.setGen g gs) := by
  obtain ⟨⟨H, y, I, st, fo, w⟩, sz⟩ := h
  refine ⟨⟨H, y, Inv.gensC I (L2.allBare_setGen I.bare hb), st, fo, w⟩, ?_⟩
  rw [GenW.setGen_size]
  exact sz
theorem GEdC.set {Xg : Cx} {s : Shared} {gs : GenState} {Qe : Hp → Prop} (h : GEdC Xg cs ga go Qe s) (hb : gs.bare = true) : GEdC Xg cs ga go Qe (s.setGen g gs) := by
  obtain ⟨H, y, I, q⟩ := h
  exact ⟨H, y, Inv.gensC I (L2.allBare_setGen I.bare hb), q⟩
theorem gen_nextC {Xg : Cx} {E : Value → Shared → Prop} {s : Shared} {i : Nat} (hc : go.cls = .type "generator") (hd : ∃ nm qn, go.data = .fields #[.int g 0, nm, qn]) (hs : go.slots = #[]) (hh : A.handled = none) (hroom : A.depth < recursionLimit)
    (h : CStC (model X.prog X.w) A.in1 (RGC (GEdC Xg cs ga go Qt)) (YGC (GInC Xg cs fp tn ga go g W) (GEdC Xg cs ga go Qf) n0) (GInC Xg cs fp tn ga go g W) g n0 i s) :
    wpAny (model X.prog X.w) A (pyNext (.ref ga)) (fun r s' => (r = some (.bool true) ∧ i < n0 ∧ CStC (model X.prog X.w) A.in1 (RGC (GEdC Xg cs ga go Qt)) (YGC (GInC Xg cs fp tn ga go g W) (GEdC Xg cs ga go Qf) n0) (GInC Xg cs fp tn ga go g W) g n0 (i + 1) s') ∨
      (r = some (.bool false) ∧ GEdC Xg cs ga go Qf s') ∨ (r = none ∧ GEdC Xg cs ga go Qt s')) E s := by
  obtain ⟨gi, gs, hgs, hgo⟩ := h
  obtain ⟨nm, qn, hd⟩ := hd
  have hg : s.heap.IsGen ga g := by
    obtain ⟨⟨H, y, I, _⟩, _⟩ := gi
    exact ⟨go, nm, qn, (I.pin (ga, go) (List.mem_append_right _ (List.mem_singleton.mpr rfl))).1, hc, hd, hs⟩
  have hl : s.heap.NoLimit := by
    obtain ⟨⟨H, y, I, _⟩, _⟩ := gi
    exact I.nolimit
  refine wpAny_pyNext_genexpQ (P := fun _ _ s₁ => GEdC Xg cs ga go Qt s₁) hh hl hroom hg hgs (hgo _ (gi.set rfl)) (fun v s₁ gs' hb hv => ?_) (fun s₁ hp h' hk => ?_)
  · obtain ⟨b, rfl, ht, hf⟩ := hv
    cases b with
    | false => exact .inr (.inl ⟨rfl, (hf rfl).set hb⟩)
    | true =>
      obtain ⟨g1, g2⟩ := ht rfl
      cases hn : n0 - i with
      | zero =>
        rw [hn] at g1 g2
        exact (g2 s₁ g1).elim
      | succ m =>
        rw [hn] at g1 g2
        have e : n0 - (m + 1 - 1) = i + 1 := by omega
        rw [e] at g1 g2
        refine .inl ⟨rfl, by omega, g1.set hb, gs', L2.setGen_at (Nat.lt_of_succ_le g1.sz), fun s'' gi'' => ?_⟩
        have e2 : n0 - (i + 1) = m := by omega
        rw [e2]
        exact g2 s'' gi''
  · obtain ⟨H, y, I, q⟩ := hp
    refine .inr (.inr ⟨rfl, H, y, ?_, q⟩)
    have I2 := Inv.gensC (gs := (s₁.setGen g .finished).gens) I (L2.allBare_setGen I.bare rfl)
    exact I2.kept (t' := s₁.toks) hk
theorem all_loopXC {Xg : Cx} {R : Result → Shared → Prop} (hc : go.cls = .type "generator") (hd : ∃ nm qn, go.data = .fields #[.int g 0, nm, qn]) (hs : go.slots = #[]) (hh : A.handled = none) (hroom : A.in1.depth < recursionLimit)
    (hT : ∀ s', GEdC Xg cs ga go Qt s' → R (.ok (.ret (.bool true))) s') (hF : ∀ s', GEdC Xg cs ga go Qf s' → R (.ok (.ret (.bool false))) s') : ∀ (k i : Nat) (s : Shared), n0 - i = k →
    CStC (model X.prog X.w) A.in1.in1 (RGC (GEdC Xg cs ga go Qt)) (YGC (GInC Xg cs fp tn ga go g W) (GEdC Xg cs ga go Qf) n0) (GInC Xg cs fp tn ga go g W) g n0 i s → codeAny (model X.prog X.w) A (.builtin "all.loop" ⟨[.ref ga], []⟩) R s := by
  intro k
  induction k with
  | zero =>
    intro i s hk cs
    refine codeAny_builtin F.entry_all_loop ?_
    rw [Around.under_plainId F.plain_all_loop _]
    show wpAny _ A.in1 (pyNext (.ref ga) >>= _) _ _ s
    refine wpAny_bind (wpAny_mono (gen_nextC hc hd hs hh hroom cs) (fun r s' h => ?_) fun _ _ e => e)
    rcases h with ⟨rfl, lt, _⟩ | ⟨rfl, q⟩ | ⟨rfl, q⟩
    · omega
    · refine wpAny_bind (wpAny_holding (wpAny_truthy_bool ?_))
      refine wpAny_bind (wpAny_letGo ?_)
      simp only [Bool.false_eq_true, if_false]
      exact wpAny_bind (wpAny_rule (wpAny_pure (hF s' q)))
    · exact wpAny_bind (wpAny_rule (wpAny_pure (hT s' q)))
  | succ k ih =>
    intro i s hk cs
    refine codeAny_builtin F.entry_all_loop ?_
    rw [Around.under_plainId F.plain_all_loop _]
    show wpAny _ A.in1 (pyNext (.ref ga) >>= _) _ _ s
    refine wpAny_bind (wpAny_mono (gen_nextC hc hd hs hh hroom cs) (fun r s' h => ?_) fun _ _ e => e)
    rcases h with ⟨rfl, lt, cs'⟩ | ⟨rfl, q⟩ | ⟨rfl, q⟩
    · refine wpAny_bind (wpAny_holding (wpAny_truthy_bool ?_))
      refine wpAny_bind (wpAny_letGo ?_)
      simp only [if_true]
      exact wpAny_pure ⟨plainId_quiet F.plain_all_loop _, ih (i + 1) s' (by omega) cs'⟩
    · refine wpAny_bind (wpAny_holding (wpAny_truthy_bool ?_))
      refine wpAny_bind (wpAny_letGo ?_)
      simp only [Bool.false_eq_true, if_false]
      exact wpAny_bind (wpAny_rule (wpAny_pure (hF s' q)))
    · exact wpAny_bind (wpAny_rule (wpAny_pure (hT s' q)))
end
end Ey
set_option maxHeartbeats 4000000
namespace Ey
open PySem PySem.Spec PyProof.Rows L2 GxR
section
variable {X : Cx} {pins : List (Addr × Obj)} {σ : L2.St} {H : Hp} {s : Shared}
/-- the generator's frame begins -/
theorem inv_gxC {A : Around} {sc : Scope} {x : Str} {ys : List Str} {cs : L2.St} {fp : List Addr} {code : Value} {h5 : Heap} {g5 : Array GenState} {t5 : Nat} {m : Str → Option Value} (I : Inv X pins σ H s)
    (hk : sc.kind = .function) (hc : ∀ y ∈ sc.names, y.2 ≠ .cell) (hfree : ∀ y ∈ sc.names, y.2 = .free → ∃ c, X.env.cells.lookup y.1 = some c) (hvis : ∀ y ∈ sc.names, y.2 = .free → X.env.scope.names.lookup y.1 = some .cell ∨ X.env.scope.names.lookup y.1 = some .free)
    (hys : ∀ y ∈ ys, sc.names.lookup y = some .free) (hln : cs.length = ys.length) (hsel : ∀ (j : Nat) (y : Str) (v : V), ys[j]? = some y → cs[j]? = some (some v) → ∃ i : Nat, X.N[i]? = some y ∧ σ[i]? = some (some v))
    (hns : h5.Ns s.heap.objs.size m) (keep : ∀ b o, s.heap.get? b = some o → h5.get? b = some o) (bare : AllBare g5) (hh : A.handled = none)
    (fr : A.frames = some (genEnv sc (cloFrom X.env.cells sc.names []) s.heap.objs.size code builtinsNs X.env :: X.stack)) (ho : ∀ b ∈ fp, FpOk X pins H b ∧ b < s.heap.objs.size) :
    Inv (gxOfC X A s H (genEnv sc (cloFrom X.env.cells sc.names []) s.heap.objs.size code builtinsNs X.env) x ys fp) [] (none :: cs) H { s with heap := h5, gens := g5, toks := t5 } := by
  have cm : ∀ {y c}, (cloFrom X.env.cells sc.names []).lookup y = some c → X.env.cells.lookup y = some c := fun {y c} e => by
    rcases cloFrom_mem (PySem.mem_of_lookup e) with hm | ⟨q1, q2⟩
    · cases hm
    · obtain ⟨c1, hc1⟩ := hfree _ q1 rfl
      have hc2 : X.env.cells.lookup y = some c1 := hc1
      have e2 : c = c1 := by
        rw [q2, hc2] <;> rfl
      rw [e2]
      exact hc2
  have lk : ∀ {y}, sc.names.lookup y = some .free → ∃ c, (cloFrom X.env.cells sc.names []).lookup y = some c := fun {y} hl => by
    have hy : (y, NameKind.free) ∈ sc.names := PySem.mem_of_lookup hl
    exact mem_lookup (cloFrom_has (cells := X.env.cells) (acc := []) hy)
  have cellK : ∀ {c : Addr} {v : Option Value}, s.heap.IsCell c v → h5.IsCell c v := fun {c v} ⟨o, q1, q2⟩ => ⟨o, keep _ _ q1, q2⟩
  have nofs : ∀ b ∈ fp, b ∉ frs X.stack := fun b hb z => by
    obtain ⟨⟨_, h1, h2, _⟩, _⟩ := ho b hb
    rcases List.mem_cons.mp (I.stkSub b z) with q | q
    · exact h1 q
    · exact h2 q
  refine ⟨⟨I.ok.mod, hk, I.ok.glob, rfl, Nat.le_refl _, fun y z c e1 e2 => I.ok.inj y z c (cm e1) (cm e2), fun y hy => ?_, fun y c e _ => ?_, fun _ => hh, fr, .inr ⟨rfl, rfl⟩, fun b hb => ⟨Nat.ne_of_lt (ho b hb).2, fun y c e => ?_⟩, fun b o e => I.bs b o e, Nat.le_trans I.ok.bsz I.sz, fun b o e hb => ?_, fun b hb => nofs b hb, I.stack, I.stkFree⟩,
    rfl, bare, Un.kept keep, ⟨m, hns, fun i y v h1 h2 h3 => ?_⟩, fun y c e => ?_, I.hok.fresh (Nat.le_refl _), fun y c e => ?_, fun p hp => ?_, I.hok.kept keep, ?_⟩
  · have hy' : sc.names.lookup y = some .cell ∨ sc.names.lookup y = some .free := hy
    rcases hy' with q | q
    · exact absurd rfl (hc _ (PySem.mem_of_lookup q))
    · exact lk q
  · exact absurd e (by intro z; cases z)
  · exact fun z => (ho b hb).1.2.2.2.2.1 y c (cm e) (by first | exact z | exact z.symm)
  · obtain ⟨⟨_, _, _, h3, _⟩, _⟩ := ho b hb
    rcases h3 with q | q
    · exact I.ok.noex b o e q
    · exact Nat.lt_irrefl _ (Nat.lt_of_lt_of_le (Heap.lt_size e) (Nat.le_trans I.ok.bsz q))
  · cases i with
    | zero => cases h2
    | succ i =>
      have h1 : ys[i]? = some y := h1
      have h2 : cs[i]? = some (some v) := h2
      have kf := hys y (List.mem_of_getElem? h1)
      obtain ⟨i', e1, e2⟩ := hsel i y v h1 h2
      obtain ⟨m0, hn0, hl0⟩ := I.loc
      have kv := hvis _ (PySem.mem_of_lookup kf) rfl
      have hV : Vis X.env.scope y := kv.elim (fun k => .inr (.inl k)) (fun k => .inr (.inr k))
      obtain ⟨w1, r1, q1⟩ := hl0 i' y v e1 e2 hV
      obtain ⟨c2, z2⟩ := lk kf
      refine ⟨w1, r1, .inr ⟨.inr kf, c2, z2, ?_⟩⟩
      have c1 := cm z2
      rcases q1 with ⟨k', _⟩ | ⟨_, c3, e', z⟩
      · have k' : X.env.scope.names.lookup y = some .local := k'
        rcases kv with k2 | k2 <;> rw [show X.env.scope.names.lookup y = _ from k2] at k' <;> cases k'
      · rw [c1] at e'
        cases e'
        exact cellK z
  · obtain ⟨w1, z⟩ := I.cell y c (cm e)
    exact ⟨w1, cellK z⟩
  · exact I.freeC y c (cm e)
  · exact absurd hp (by intro z; cases z)
  · show cs.length + 1 = ys.length + 1
    rw [hln]
/-- all(e for x in it): the table of the running def's code may have grown; then, item by item -/
def selV (ix : List Nat) (σ : L2.St) : L2.St := ix.map fun i => (σ[i]?).join
def tAllC (P : Addr) (ix : List Nat) (wi : TI) (te : TE) : TE := fun σ H Q => wi σ H fun J H1 => TabG H1 P ∧ ∀ H2, Tabbed P H1 H2 → ∃ (n0 : Nat) (W : Nat → Hp → Prop), W 0 H2 ∧
  ∀ i H', W i H' → (i < n0 ∧ J.go i H' ∧ ∀ v H'', J.yld i H' v H'' → te (some v :: selV ix σ) H'' fun y H3 => ∃ b, y = .bl b ∧ if b = true then W (i + 1) H3 else Q (.bl false) H3) ∨ (J.stop i H' ∧ Q (.bl true) H')
theorem pe_allC {c P : Addr} {elt iter : Expr} {x : Str} {px p pos gp : Pos} {sc : Scope} {wi : TI} {te : TE} {k : Nat} {ix : List Nat} {ys : List Str}
    (hr : Room (k + 2) X.A) (hg : Gl X "all") (hm : X.mg "all" = none) (hb : bootBuiltins "all" = some (.builtin "all")) (TB : TabB X.base X.mg c P) (hco : X.env.code = .ref c) (S : GenS X.env sc x) (hnd : (x :: ys).Nodup) (hvis : ∀ y ∈ sc.names, y.2 = .free → X.env.scope.names.lookup y.1 = some .cell ∨ X.env.scope.names.lookup y.1 = some .free) (hys : ∀ y ∈ ys, sc.names.lookup y = some .free) (hln : ix.length = ys.length) (hix : ∀ (j : Nat) (y : Str), ys[j]? = some y → ∃ i : Nat, ix[j]? = some i ∧ X.N[i]? = some y)
    (hi : PI X (.Name x px) iter wi)
    (hel : ∀ (A : Around) (s : Shared) (H : Hp) (C : Addr) (code : Value) (fp : List Addr), Room k A → PE (gxOfC X A s H (genEnv sc (cloFrom X.env.cells sc.names []) C code builtinsNs X.env) x ys fp) elt te)
    (hs : ∀ v, genFold iter X.env v = pure v)
    (he : starEach [.GeneratorExp elt [⟨.Name x px, iter, [], 0⟩] sc gp] X.env = (false, eval (.GeneratorExp elt [⟨.Name x px, iter, [], 0⟩] sc gp) X.env) :: starEach [] X.env := by rfl) :
    PE X (.Call (.Name "all" p) [.GeneratorExp elt [⟨.Name x px, iter, [], 0⟩] sc gp] [] pos) (tAllC P ix wi te) := by
  refine ⟨fun pins s σ H Q I h => wpAny_Call_Name_kw (ld_blt I hg hm hb ?_)⟩
  refine PyProof.Rows.callWith_builtin1 ?_ he (by rfl)
  rw [he]
  show wpAny _ _ (spliced ((false, eval (.GeneratorExp elt [⟨.Name x px, iter, [], 0⟩] sc gp) X.env) :: backTo pos (starEach [] X.env))) _ _ s
  refine Calls.spliced_cons (wpAny_GeneratorExp_make S.co (cl := cloFrom X.env.cells sc.names []) (closure_ok S.free) S.cell S.dot S.kind (Nat.lt_of_le_of_lt (by omega) hr.dp) ?_ hs)
  refine thn (hi.run pins s σ H _ I h) fun v s1 h1 => thn h1 fun itv s2 h2 => ?_
  obtain ⟨it, fp, tn, J, H1, e, J1, T, st, fo, ⟨ps, tP, tok⟩, q⟩ := h2
  subst e
  have gP : s2.heap.get? P = some { cls := .none, data := .fields ps } := J1.hok P _ tP
  have head : PySem.W.CodeHd s2.heap c P := TB.code.keeps fun b u e => J1.bk b u e
  have ncP : cStatics ≠ P := fun e => by
    obtain ⟨_, ns, _⟩ := J1.nolimit
    obtain ⟨o', es, ep, g', d', _⟩ := ns
    rw [e, gP] at g'
    cases g'
    cases d'
  have hlc : (selV ix σ).length = ys.length := by
    unfold selV
    rw [List.length_map, hln]
  have hsel : ∀ (j : Nat) (y : Str) (v : V), ys[j]? = some y → (selV ix σ)[j]? = some (some v) → ∃ i : Nat, X.N[i]? = some y ∧ σ[i]? = some (some v) := fun j y v h1 h2 => by
    obtain ⟨i, e1, e2⟩ := hix j y h1
    refine ⟨i, e2, ?_⟩
    unfold selV at h2
    rw [List.getElem?_map, e1] at h2
    have h2 : (σ[i]?).join = some v := Option.some.inj h2
    cases q : σ[i]? with
    | none =>
      rw [q] at h2
      cases h2
    | some o =>
      rw [q] at h2
      have h2 : o = some v := h2
      rw [h2]
  have fpP : ∀ b ∈ fp, b ≠ P := fun b hb z => by
    have := (fo b hb).1
    rw [z, tP] at this
    cases this
  refine ⟨J1.nolimit, ?_⟩
  have go : ∀ (code : Value) (hN : Heap) (tk : Nat) (qs : Array Value), Heap.ExtBut P s2.heap hN → hN.get? P = some { cls := .none, data := .fields qs } → (∃ more, qs = ps ++ more) → TriplesOk qs.toList →
      wpAny (model X.prog X.w) X.A (builtinsFor X.env.globals X.env.builtins) (fun bi s₄ =>
        ∀ h', h'.Ns s₄.heap.objs.size (fun y => if y = ".0" then some (.ref it) else none) → Heap.SameBut s₄.heap.objs.size (s₄.heap.push { cls := .type "frame", data := .dict #[] }) h' →
          wpAny (model X.prog X.w) X.A (spliced (backTo pos (starEach [] X.env))) (fun us s' => wpAny (model X.prog X.w) X.A (call (.builtin "all") (.ref h'.objs.size :: us)) (EP X pins σ Q) X.xe s') X.xe { s₄ with
            gens := s₄.gens.push (.fresh (.compStart (.GeneratorExp elt [⟨.Name x px, iter, [], 0⟩] sc gp) 0 (.ref it) .none (genEnv sc (cloFrom X.env.cells sc.names []) s₄.heap.objs.size code bi X.env))),
            toks := s₄.toks + 1 + 1 + 1,
            heap := h'.push { cls := .type "generator", data := .fields #[.int s₄.gens.size 0, .str "<genexpr>" (s₄.toks + 1), .str (X.env.qual ++ "<genexpr>") (s₄.toks + 1 + 1)] } }) X.xe { s2 with heap := hN, toks := tk } := by
    intro code hN tk qs ext gPN more okN
    obtain ⟨bm, obm, e1, e2, e3, e4, e5, e6, e7, e8⟩ := TB.bm
    have stay : ∀ b u, b ≠ P → s2.heap.get? b = some u → hN.get? b = some u := fun b u nb e => ext b u nb e
    obtain ⟨mo, em⟩ := more
    subst em
    have J2 : Inv X pins σ (upd H1 P (.tbl (ps ++ mo))) { s2 with heap := hN, toks := tk } := inv_tab (more := mo) (h' := hN) (g' := s2.gens) (d' := s2.drawn) (t' := tk) J1 tP stay gPN J1.bare
    refine wpAny_builtinsFor (m := X.mg) (by rw [J1.ok.glob]; exact (J1.mod.glob.keeps J1.bk).extBut ext TB.gP) e1 e2 (stay _ _ e4 (J1.bk _ _ e5)) e6 e7 e8 ?_
    intro h' hn' hs'
    refine Calls.spliced_nil ?_
    obtain ⟨n0, W, w0, hW⟩ := q (upd H1 P (.tbl (ps ++ mo))) ⟨⟨ps ++ mo, upd_same, okN⟩, fun b nb => upd_ne nb⟩
    have sz' : h'.objs.size = hN.objs.size + 1 := by
      rw [hs'.1, Heap.size_push]
    have keep' : ∀ b o, hN.get? b = some o → h'.get? b = some o := fun b o e => hs'.extBut b o (Nat.ne_of_lt (Heap.lt_size e)) (Heap.get?_push_of_some _ e)
    generalize hgo : ({ cls := .type "generator", data := .fields #[.int s2.gens.size 0, .str "<genexpr>" (tk + 1), .str (X.env.qual ++ "<genexpr>") (tk + 1 + 1)] } : Obj) = gob
    have gc : gob.cls = .type "generator" := by rw [← hgo]
    have gd : ∃ nm qn, gob.data = .fields #[.int s2.gens.size 0, nm, qn] := ⟨_, _, by rw [← hgo]⟩
    have gs : gob.slots = #[] := by rw [← hgo]
    show wpAny (model X.prog X.w) X.A (call (.builtin "all") [.ref h'.objs.size]) (EP X pins σ Q) X.xe { s2 with
            gens := s2.gens.push (.fresh (.compStart (.GeneratorExp elt [⟨.Name x px, iter, [], 0⟩] sc gp) 0 (.ref it) .none (genEnv sc (cloFrom X.env.cells sc.names []) hN.objs.size code builtinsNs X.env))),
            toks := tk + 1 + 1 + 1, heap := h'.push gob }
    have keep5 : ∀ b o, hN.get? b = some o → (h'.push gob).get? b = some o := fun b o e => Heap.get?_push_of_some _ (keep' b o e)
    have atG : (h'.push gob).get? h'.objs.size = some gob := Heap.get?_push_size _ (by
      obtain ⟨nm, qn, e⟩ := gd
      exact Obj.isFreed_of_fields e)
    -- the frame
    generalize hge : genEnv sc (cloFrom X.env.cells sc.names []) hN.objs.size code builtinsNs X.env = ge
    have fpl : ∀ b ∈ fp, b < hN.objs.size := fun b hb => by
      obtain ⟨o, e, _⟩ := T.obj _ _ st b hb
      exact Heap.lt_size (stay b o (fpP b hb) e)
    have foN : ∀ b ∈ fp, FpOk X pins (upd H1 P (.tbl (ps ++ mo))) b := fun b hb => ⟨by rw [upd_ne (fpP b hb)]; exact (fo b hb).1, (fo b hb).2⟩
    have stN : tn 0 (h'.push gob) := T.keep _ _ _ st fun b hb o e => keep5 b o (stay b o (fpP b hb) e)
    have hAh : (X.A.in1.in1.over (gcodeC elt iter x px sc gp it ge) []).handled = none := hr.hd
    have hAf : (X.A.in1.in1.over (gcodeC elt iter x px sc gp it ge) []).frames = some (ge :: X.stack) := by
      show pushEnvs (gcodeC elt iter x px sc gp it ge).envs (pushEnvs [] X.A.frames) = _
      rw [J1.ok.frames]
      rfl
    have IG0 := inv_gxC (A := X.A.in1.in1.over (gcodeC elt iter x px sc gp it ge) []) (sc := sc) (x := x) (ys := ys) (cs := selV ix σ) (fp := fp) (code := code) (h5 := h'.push gob)
      (g5 := s2.gens.push (.fresh (.compStart (.GeneratorExp elt [⟨.Name x px, iter, [], 0⟩] sc gp) 0 (.ref it) .none ge))) (t5 := tk + 1 + 1 + 1) J2 S.kind S.cell S.free hvis hys hlc hsel (hn'.push gob) keep5 (AllBare.push J1.bare rfl) hAh (by rw [hAf, ← hge]) (fun b hb => ⟨foN b hb, fpl b hb⟩)
    rw [hge] at IG0
    generalize hXg : gxOfC X (X.A.in1.in1.over (gcodeC elt iter x px sc gp it ge) []) { s2 with heap := hN, toks := tk } (upd H1 P (.tbl (ps ++ mo))) ge x ys fp = Xg at IG0
    have gne : ∀ b ∈ fp, h'.objs.size ≠ b := fun b hb => Nat.ne_of_gt (Nat.lt_trans (fpl b hb) (by omega))
    have fpXg : ∀ b ∈ fp, FpOk Xg [(h'.objs.size, gob)] (upd H1 P (.tbl (ps ++ mo))) b := fun b hb => by
      rw [← hXg]
      refine ⟨(foN b hb).1, ?_, fun z => ?_, .inl hb, fun y cc e => ?_, fun p hp => ?_⟩
      · show b ≠ ge.locals
        rw [← hge]
        exact Nat.ne_of_lt (fpl b hb)
      · obtain ⟨_, q1, q2, _⟩ := foN b hb
        rcases List.mem_cons.mp (J2.stkSub b z) with q | q
        · exact q1 q
        · exact q2 q
      · have e' : ge.cells.lookup y = some cc := e
        rw [← hge] at e'
        have e' : (cloFrom X.env.cells sc.names []).lookup y = some cc := e'
        have e2 : X.env.cells.lookup y = some cc := by
          rcases cloFrom_mem (PySem.mem_of_lookup e') with hm | ⟨q1, q2⟩
          · cases hm
          · obtain ⟨c1, hc1⟩ := S.free _ q1 rfl
            have hc2 : X.env.cells.lookup y = some c1 := hc1
            have e3 : cc = c1 := by
              rw [q2, hc2] <;> rfl
            rw [e3]
            exact hc2
        exact (foN b hb).2.2.2.2.1 y cc e2
      · have hp' : p ∈ [(h'.objs.size, gob)] := hp
        rw [List.mem_singleton.mp hp']
        exact gne b hb
    have IG : Inv Xg [(h'.objs.size, gob)] (none :: selV ix σ) (upd H1 P (.tbl (ps ++ mo))) { s2 with heap := h'.push gob, gens := s2.gens.push (.fresh (.compStart (.GeneratorExp elt [⟨.Name x px, iter, [], 0⟩] sc gp) 0 (.ref it) .none ge)), toks := tk + 1 + 1 + 1 } := by
      refine IG0.pins_of fun p hp => ?_
      rw [List.mem_singleton.mp hp]
      have big : hN.objs.size < h'.objs.size := by omega
      refine ⟨atG, J2.hok.fresh (Nat.le_of_lt big), ?_, ?_, fun v e => ?_⟩
      · rw [← hXg]
        show h'.objs.size ≠ ge.locals
        rw [← hge]
        exact Nat.ne_of_gt big
      · rw [← hXg]
        intro z
        rcases List.mem_cons.mp (J2.stkSub _ z) with q | q
        · have l := J2.lt
          rw [← q] at l
          exact absurd (Nat.lt_trans big l) (Nat.lt_irrefl _)
        · exact J2.nofs (Nat.le_of_lt big) q
      · obtain ⟨nm, qn, e2⟩ := gd
        have e' : gob.data = .cell v := e
        rw [e2] at e'
        cases e'
    have back : ∀ (b : Bool) (s' : Shared), GEdC Xg (selV ix σ) h'.objs.size gob (Q (.bl b)) s' → EP X pins σ Q (.bool b) s' := fun b s' ⟨H', y, K, q⟩ => by
      rw [← hXg] at K
      exact ⟨.bl b, H', J2.call' (ch := fp) K.os K.base K.hok K.bare (fun c hc => ⟨(foN c hc).2.2.2.1, (foN c hc).2.1, (foN c hc).2.2.2.2.1, (foN c hc).2.2.2.2.2⟩), rfl, q⟩
    have loopS := seg_gloopC (X := X) (A := X.A.in1.in1) (sG := { s2 with heap := hN, toks := tk }) (HG := upd H1 P (.tbl (ps ++ mo))) (ge := ge) (fp := fp) (tn := tn) (ga := h'.objs.size) (go := gob) (g := s2.gens.size) (W := W) (Qf := Q (.bl false)) (Qt := Q (.bl true))
      (gp := gp) (sc := sc) (elt := elt) (iter := iter) (n0 := n0) (te := te) (ys := ys) (cs := selV ix σ) T (by rw [← hge]; exact S.loc) hnd (by rw [← hge]; exact S.co) (by
        rw [← hge]
        refine hel _ _ _ _ _ _ ⟨hr.hd, ?_, ?_⟩
        · have := hr.dp
          show X.A.depth + 0 + 1 + 3 * k + 5 < _
          omega
        · have := hr.un
          show X.A.units + 1 + 1 + 0 + 3 + 16 * k + 200 < _
          omega) hW
    rw [hXg] at loopS
    have GI0 : GInC Xg (selV ix σ) fp tn h'.objs.size gob s2.gens.size W 0 { s2 with heap := h'.push gob, gens := s2.gens.push (.fresh (.compStart (.GeneratorExp elt [⟨.Name x px, iter, [], 0⟩] sc gp) 0 (.ref it) .none ge)), toks := tk + 1 + 1 + 1 } :=
      ⟨⟨_, _, IG, stN, fpXg, w0⟩, by show s2.gens.size + 1 ≤ (s2.gens.push _).size; rw [Array.size_push]; exact Nat.le_refl _⟩
    refine call_function_tree F.kind_all F.plain_all F.entry_all (F.args_all1 _) ?_
    unfold Builtin.«all»
    refine wpAny_bind (m := oneArg "all" _) (wpAny_pure ?_)
    refine wpAny_bind (wpAny_pyIter_gen ⟨gob, _, _, atG, gc, gd.choose_spec.choose_spec, gs⟩ ?_)
    refine wpAny_pure ⟨plainId_quiet F.plain_all_loop _, all_loopXC (X := X) (A := X.A) (R := fun r s' => match r with | .ok (.ret v) => EP X pins σ Q v s' | .ok _ => False | .error e => X.xe e s') (Xg := Xg) (Qf := Q (.bl false)) (Qt := Q (.bl true)) (W := W) (fp := fp) (tn := tn) (n0 := n0) (cs := selV ix σ) gc gd gs hr.hd (Nat.lt_of_le_of_lt (by show X.A.depth ≤ X.A.depth + 3 * (k + 2) + 5; omega) hr.dp) (fun s' q => back true s' q) (fun s' q => back false s' q) n0 0 _ (Nat.sub_zero _) ⟨GI0, _, Array.getElem?_push_size .., fun s'' gi => ⟨rfl, ?_⟩⟩⟩
    have loop := loopS n0 0 s'' s'' (Nat.sub_zero _) gi
    obtain ⟨_, _, _, sti, _⟩ := gi.ex
    show Seg _ X.A.in1.in1 _ _ _ s'' _ ((compStart (.GeneratorExp elt [⟨.Name x px, iter, [], 0⟩] sc gp) 0 (.ref it) .none ge).onRaise (leaving ge)) [] s''
    unfold compStart
    rw [Sem.onRaise_eq_wrap]
    show Seg _ X.A.in1.in1 _ _ _ s'' _ ((ask >>= _).wrap _ _ _ _) [] s''
    refine seg_bind_wrap (wpAny_askSetting ?_)
    split
    · exact seg_again rfl loop
    · first
        | exact seg_bind_wrap (wpAny_rule (seg_bind_wrap (wpAny_standAt (seg_bind_wrap (T.self _ 0 _ _ _ sti (seg_again rfl loop))))))
        | (refine seg_bind_wrap (wpAny_rule ?_); show Seg _ X.A.in1.in1 _ _ _ s'' _ ((standAt iter.pos >>= _).wrap _ _ _ _) [] s''; exact seg_bind_wrap (wpAny_standAt (seg_bind_wrap (T.self _ 0 _ _ _ sti (seg_again rfl loop)))))
  cases am : codeAmong gp ps.toList with
  | none =>
    refine wpAny_genexprCodeX hco (head.code gP tok) (head.tab gP) am fun c' hN tk ext hge hlt hc' _ tab' _ => ?_
    obtain ⟨o1, vs, f1, tf, fl, tg, inF, tx, tt, op, _, _, _, _, _, _, _, _, _, tr, _⟩ := hc'
    exact go _ hN tk _ ext tab'.2 ⟨_, rfl⟩ tr
  | some cv =>
    refine wpAny_genexprCode_hit hco (head.code gP tok) am ?_
    exact go cv s2.heap s2.toks ps (Heap.ExtBut.refl _ _) gP ⟨#[], by simp⟩ tok
end
end Ey
set_option maxHeartbeats 4000000
namespace Ey
open PySem PySem.Spec PyProof.Rows L2
/-! ### len(set(t)), t a tuple of texts -/
/-- how many unlike ones, from the last to the first -/
def distR : List Str → Nat
  | [] => 0
  | x :: r => if r.any (· == x) = true then distR r else distR r + 1
def distN (xs : List Str) : Nat := distR xs.reverse
theorem distN_snoc (xs : List Str) (x : Str) : distN (xs ++ [x]) = if xs.any (· == x) = true then distN xs else distN xs + 1 := by
  unfold distN
  rw [List.reverse_append]
  show (if xs.reverse.any (· == x) = true then _ else _) = _
  rw [List.any_reverse]
  rfl
theorem distR_le : ∀ xs : List Str, distR xs ≤ xs.length
  | [] => Nat.le_refl _
  | x :: r => by
    have := distR_le r
    unfold distR
    split
    · exact Nat.le_succ_of_le this
    · exact Nat.succ_le_succ this
theorem distN_le (xs : List Str) : distN xs ≤ xs.length := by
  have := distR_le xs.reverse
  rw [List.length_reverse] at this
  exact this
section
variable {prog : Program} {w : World} {A : Around}
/-- the set in the making, at S -/
abbrev InSet (prog : Program) (w : World) (h : Heap) (S : Addr) (xs : List Str) : Prop := h.SetOf (PySem.strKind prog w) S (fun y => xs.any (· == y)) (distN xs)
theorem InSet.more {h : Heap} {S : Addr} {xs : List Str} {x : Str} (g : h.SetOf (PySem.strKind prog w) S (fun y => xs.any (· == y) || decide (y = x)) (if xs.any (· == x) = true then distN xs else distN xs + 1)) : InSet prog w h S (xs ++ [x]) := by
  refine SetOf_congr g (fun y => ?_) (distN_snoc xs x).symm
  rw [List.any_append]
  show _ = (xs.any (· == y) || (x == y || false))
  rw [Bool.or_false]
  by_cases e : y = x
  · rw [decide_eq_true e, e, beq_self_eq_true]
  · rw [decide_eq_false e, beq_eq_false_iff_ne.mpr fun z => e z.symm]
theorem fill_set {I S : Addr} {fp wr : List Addr} {G : Array GenState → Array GenState → Prop} {n : Nat} {Pv : Nat → Value → Prop} {St : Nat → Shared → Prop} {R : Result → Shared → Prop} (xs : List Str)
    (W : WalksS prog w A.in1 I fp wr G n Pv St) (hS : S ∉ fp) (hn : n = xs.length) (hb : xs.length ≤ 4000) (hv : ∀ i v, Pv i v → ∃ y t, xs[i]? = some y ∧ v = .str y t)
    (fin : ∀ s', Moved (S :: wr) G s' s' → True) :
    ∀ (m i : Nat) (s : Shared), n - i = m → i ≤ n → St i s → InSet prog w s.heap S (xs.take i) → (∀ s', Moved (S :: wr) G s s' → InSet prog w s'.heap S xs → R (.ok (.ret .none)) s') →
      codeAny (model prog w) A (.builtin "set.update.loop" ⟨[.ref S, .ref I], []⟩) R s := by
  have noW : S ∉ wr := fun h => hS (W.sub _ h)
  have more : ∀ b ∈ wr, b ∈ S :: wr := fun b h => List.mem_cons_of_mem _ h
  have stays : ∀ {s s' : Shared} {ys : List Str}, Moved wr G s s' → InSet prog w s.heap S ys → InSet prog w s'.heap S ys := fun m ⟨o, es, ep, t, ho, r⟩ => ⟨o, es, ep, t, m.heap S _ noW ho, r⟩
  intro m
  induction m with
  | zero =>
    intro i s e hi st g out
    have ei : xs.take i = xs := List.take_of_length_le (by omega)
    rw [ei] at g
    have ein : i = n := by omega
    subst ein
    refine codeAny_builtin (F.entry_set_update_loop) (?_)
    rw [Around.under_plainId (F.plain_set_update_loop) (_)]
    refine wpAny_bind (m := pyNext (.ref I)) (W.done s _ _ st fun s' mv => ?_)
    exact (show wpAny (model prog w) A.in1 (ret Value.none) _ _ s' from wpAny_pure (out s' (mv.mono more) (stays mv g)))
  | succ m ih =>
    intro i s e hi st g out
    have lt : i < n := by omega
    refine codeAny_builtin (F.entry_set_update_loop) (?_)
    rw [Around.under_plainId (F.plain_set_update_loop) (_)]
    refine wpAny_bind (m := pyNext (.ref I)) (W.item i s _ _ lt st fun v s' hp st' mv => ?_)
    obtain ⟨y, t, hy, rfl⟩ := hv i v hp
    have g' := stays mv g
    refine wpAny_bind (m := holding [Value.str y t] (setAdd S (.str y t))) (wpAny_holding ?_)
    unfold setAdd
    refine wpAny_holding (wpAny_bind ((PySem.strKind prog w).pyHash (k := y) (strKind_is _ _ _ _) ?_))
    have few : distN (xs.take i) + 1 < scanBound := by
      have h1 := distN_le (xs.take i)
      rw [List.length_take] at h1
      unfold scanBound
      omega
    refine wpAny_setAddHashed_of (knd := PySem.strKind prog w) (s := { s' with toks := s'.toks + 1 }) (strKind_is _ _ _ _) (rfl) (g') (few) fun h2 sb g2 => ?_
    have g3 : InSet prog w h2 S (xs.take (i + 1)) := by
      rw [List.take_add_one, hy]
      exact InSet.more g2
    refine wpAny_pure ⟨plainId_quiet (F.plain_set_update_loop) (_), ih (i + 1) _ (by omega) lt (W.frame _ s' _ _ st' (Nat.le_succ _) fun b hb o eo => ?_) g3 fun s2 mv2 g4 => out s2 ?_ g4⟩
    · rw [sb.2 b fun z : b = S => hS (z ▸ hb)]
      exact eo
    · refine Moved.trans W.gtrans ((mv.mono more).then_heap (Nat.le_succ _) fun b o nb eo => ?_) mv2
      rw [sb.2 b fun z : b = S => nb (z ▸ List.mem_cons_self)]
      exact eo
end
section
variable {prog : Program} {w : World} {A : Around} {E : Value → Shared → Prop} {s : Shared}
/-- the new set -/
abbrev bareSet (led : Bool) : Obj := { cls := .type "set", dict := none, data := .set #[] 0 (.fresh 0 0 led) }
set_option maxHeartbeats 3200000 in
theorem set_of_texts {l : Addr} {its : Array Value} {xs : List Str} {Q : Value → Shared → Prop} (hh : A.handled = none) (hl : s.heap.IsTuple l its) (hx : StrsAre its.toList xs) (hb : xs.length ≤ 4000)
    (out : ∀ (h2 : Heap) (tk : Nat), InSet prog w h2 s.heap.objs.size xs → (∀ b o, s.heap.get? b = some o → h2.get? b = some o) → Q (.ref s.heap.objs.size) { s with heap := h2, toks := tk }) :
    wpAny (model prog w) A (call (.type "set") [.ref l]) Q E s := by
  have many : its.size = xs.length := by
    rw [← StrsAre.len_eq hx, Array.length_toList]
  obtain ⟨c, tl, mr⟩ := F.called_set.mro
  have made := F.called_set.made
  have sub := F.called_set.sub
  refine wpAny_call (codeAny_of_tree (?_))
  refine (show wpAny (model prog w) _ (callAny (.type "set") _) _ _ _ from ?_)
  refine wpAny_pure ⟨Code.quiet_builtin _ (by decide +kernel), codeAny_builtin (F.entry_type_call) (?_)⟩
  rw [Around.under_plain (weight_type_call_type "set" [.ref l] []) (rfl)]
  have p1 := F.called_set.notType
  have p2 := F.called_set.canCreate
  have p3 := F.typeCall_set_1 (.ref l)
  repeat any_goals first | assumption | wp_step
  refine codeAny_mono (code_set_new_1 (.ref l) (E := E) (Q₁ := fun ob s1 => ∃ led : Bool, ob = .ref s.heap.objs.size ∧ s1 = { s with heap := s.heap.push (bareSet led) }) fun led => ⟨led, rfl, rfl⟩) fun r s1 hr => ?_
  cases r with
  | error e => exact hr
  | ok fl =>
    cases fl with
    | next => exact hr.elim
    | brk => exact hr.elim
    | cont => exact hr.elim
    | ret ob =>
      obtain ⟨led, rfl, rfl⟩ := hr
      have hS : (s.heap.push (bareSet led)).get? s.heap.objs.size = some (bareSet led) := Heap.get?_push_size _ rfl
      have tS : Shared.TypeIs { s with heap := s.heap.push (bareSet led) } (.ref s.heap.objs.size) "set" := ⟨_, hS, rfl⟩
      have i1 := F.called_set.init.lookup
      have i2 := F.called_set.init.bind (.ref s.heap.objs.size)
      repeat any_goals first | assumption | wp_step
      refine codeAny_mono (codeAny_call_builtin (R := wants (fun r s2 => r = .none ∧ ∃ h2 tk, s2 = { s with heap := h2, toks := tk } ∧ InSet prog w h2 s.heap.objs.size xs ∧ ∀ b o, s.heap.get? b = some o → h2.get? b = some o) E) F.called_set.init.plain F.entry_set_init (check_set_init_1 tS ?_)) fun r2 s2 hr2 => ?_
      · obtain ⟨⟨oc, od, oda, osl⟩, ho, hc, nl, hd⟩ := hl
        simp only at hc hd
        subst hc hd
        have ho1 : (s.heap.push (bareSet led)).get? l = some { cls := .type "tuple", dict := od, data := .seq its nl, slots := osl } := Heap.get?_push_of_some _ ho
        have q1 := F.sub_tuple_set
        have q2 := F.sub_tuple_frozenset
        have q3 : (Value.type "tuple" == Value.type "dict") = false := by decide
        have hl1 : (s.heap.push (bareSet led)).IsTuple l its := ⟨_, ho1, rfl, nl, rfl⟩
        have ls : l < s.heap.objs.size := Heap.lt_size ho
        have sz : (s.heap.push (bareSet led)).objs.size = s.heap.objs.size + 1 := Heap.size_push ..
        unfold Builtin.«set.__init__» noKeywords Builtin.Frozenset.updateFrom
        generalize hPI : pyIter = PI
        wp_walk
        subst hPI
        refine wpAny_pyIter_tuple hl1 (wpAny_bind (wpAny_runValue ?_))
        refine fill_set (n := its.size) xs ((Walks.tuple (by simp [hh]) _ l (by rw [sz]; exact Nat.ne_of_lt (Nat.lt_succ_of_lt ls)) its).toS) (by rw [sz]; simp only [List.mem_cons, List.not_mem_nil, or_false, not_or]; exact ⟨Nat.ne_of_lt (Nat.lt_succ_self _), Nat.ne_of_gt ls⟩) many hb (fun i v hv => ?_) (fun _ _ => trivial) (its.size - 0) 0 _ (by omega) (Nat.zero_le _) ⟨⟨_, Heap.get?_push_size _ rfl, rfl, rfl⟩, hl1.push _⟩ ?_ ?_
        · obtain ⟨t, e⟩ := SS.strs_at hx i v (by rw [Array.getElem?_toList]; exact hv)
          have hi : i < xs.length := by rw [← many]; exact (Array.getElem?_eq_some_iff.mp hv).1
          exact ⟨xs[i], t, List.getElem?_eq_getElem hi, by rw [e, List.getD_eq_getElem?_getD, List.getElem?_eq_getElem hi]; rfl⟩
        · exact SetOf_congr ((setObjOf_fresh (knd := PySem.strKind prog w) led).setOf (Heap.get?_push_of_some _ hS) (by unfold scanBound; omega)) (fun _ => rfl) rfl
        · intro s3 mv g
          obtain ⟨h3, g3, d3, t3, o3⟩ := s3
          have e1 : g3 = s.gens := mv.gens
          have e2 : d3 = s.drawn := mv.drawn
          have e3 : o3 = s.os := mv.os
          subst e1 e2 e3
          show wpAny _ _ _ _ _ _
          refine wpAny_pure (show wpAny _ _ (ret Value.none) _ _ _ from wpAny_pure ⟨rfl, h3, t3, rfl, g, fun b o eb => ?_⟩)
          have lb : b < s.heap.objs.size := Heap.lt_size eb
          have n1 : b ≠ s.heap.objs.size := Nat.ne_of_lt lb
          have n2 : b ≠ s.heap.objs.size + 1 := Nat.ne_of_lt (Nat.lt_succ_of_lt lb)
          exact mv.heap b o (by rw [sz]; simp [n1, n2]) (Heap.get?_push_of_some _ (Heap.get?_push_of_some _ eb))
      · cases r2 with
        | error e => exact hr2
        | ok f2 =>
          cases f2 with
          | next => exact hr2.elim
          | brk => exact hr2.elim
          | cont => exact hr2.elim
          | ret r =>
            obtain ⟨rfl, h2, tk, rfl, g, kp⟩ := hr2
            repeat any_goals first | assumption | wp_step
            exact out h2 tk g kp
end
section
variable {X : Cx}
def tLenSetS (K : PySem.W.Frag) (ta : TE) : TE := fun σ H Q => ta σ H fun x H1 => ∃ (l : Addr) (xs : List Str), x = .ref l ∧ SqT K H1 l (xs.map V.str) ∧ xs.length ≤ 4000 ∧ Q (.int (distN xs : Nat)) H1
theorem pe_lenSetS {a : Expr} {ta : TE} {p p2 q pos : Pos} (hg : Gl X "len") (hm : X.mg "len" = none) (hg2 : Gl X "set") (hm2 : X.mg "set" = none) (ha : PE X a ta) (hc : X.calm = true := by rfl)
    (na : starEach [a] X.env = (false, eval a X.env) :: starEach [] X.env := by rfl) : PE X (.Call (.Name "len" p) [.Call (.Name "set" p2) [a] [] q] [] pos) (tLenSetS X.K ta) := by
  refine ⟨fun pins s σ H Q I h => Call_ (ld_blt I hg hm boot_len (callWith_builtin1 (args_cons (Call_ (ld_blt I hg2 hm2 boot_set ?_)) rfl) rfl rfl))⟩
  refine callWith_type1 (args_cons (thn (ha.run pins s σ H _ I h) fun v s1 ⟨x, H1, I1, r1, q1⟩ => args_nil ?_) na) na rfl
  obtain ⟨l, xs, rfl, hq, hb, q1⟩ := q1
  cases r1
  obtain ⟨its, r, pl, hz⟩ := I1.tuple hq
  refine set_of_texts (I1.ok.hd hc) pl (by simpa using L2.strsAre_of r) hb fun h2 tk hS hk => args_nil ?_
  obtain ⟨o, es, ep, t, ho, hex, hd, _, _, _, hf, hn⟩ := hS
  have I2 : Inv X pins σ H1 { s1 with heap := h2, toks := tk } := I1.kept hk
  have few := distN_le xs
  exact call_len_set ho hex hd hf (by rw [hn]; unfold scanBound at *; omega) ⟨.int (distN xs : Nat), H1, I2.tok _, ⟨_, by rw [hn]⟩, q1⟩
end
end Ey
set_option maxHeartbeats 4000000
namespace Ey
open PySem PySem.Spec L2
theorem abc_is : (Str.ofString "abcdefghijklmnopqrstuvwxyz").cps.toList = abc := by decide +kernel
abbrev sPlain : Stmt := topS 1
abbrev sIsTag : Stmt := topS 5
abbrev sRule : Stmt := topS 7
abbrev sState : Stmt := topS 8
abbrev sTags : Stmt := topS 9
abbrev sTape : Stmt := topS 10
/-! ### tape machines as data -/
def intIn (lo hi : Int) : PyData → Bool
  | .int i => decide (lo ≤ i) && decide (i ≤ hi)
  | .none | .bool _ | .str _ | .list _ | .tuple _ | .dict _ => false
def rule3 (s m : Int) : List PyData → Bool
  | [x, y, z] => intIn 0 (m + 1) x && (intIn 0 (s - 1) y && intIn (-1) 1 z)
  | _ => false
def ruleD (s m : Int) : PyData → Bool
  | .tuple ds => rule3 s m ds
  | .none | .bool _ | .int _ | .str _ | .list _ | .dict _ => false
def stateD (s m : Int) : PyData → Bool
  | .tuple ds => decide ((ds.length : Int) = s) && ds.all (ruleD s m)
  | .none | .bool _ | .int _ | .str _ | .list _ | .dict _ => false
def strsOf : List PyData → List Str
  | [] => []
  | .str x :: r => x :: strsOf r
  | _ :: r => strsOf r
def tagsD : PyData → Bool
  | .tuple ds => ds.all isTagD && decide (distN (strsOf ds) = ds.length)
  | .none | .bool _ | .int _ | .str _ | .list _ | .dict _ => false
def partsOf : PyData → List PyData
  | .tuple ds => ds
  | .none | .bool _ | .int _ | .str _ | .list _ | .dict _ => []
def valI : PyData → Int
  | .int i => i
  | .none | .bool _ | .tuple _ | .str _ | .list _ | .dict _ => 0
def isIntD : PyData → Bool
  | .int _ => true
  | .none | .bool _ | .str _ | .list _ | .tuple _ | .dict _ => false
def isTupD : PyData → Bool
  | .tuple _ => true
  | .none | .bool _ | .int _ | .str _ | .list _ | .dict _ => false
def tape4 : List PyData → Bool
  | [k, t, s, q] => isThe "tape" k && (tagsD t && ((isIntD s && decide (((partsOf t).length : Int) + 2 ≤ valI s)) && (isTupD q && (!(partsOf q).isEmpty && (partsOf q).all (stateD (valI s) (partsOf q).length)))))
  | _ => false
def tapeD : PyData → Bool
  | .tuple ds => tape4 ds
  | .none | .bool _ | .int _ | .str _ | .list _ | .dict _ => false
/-- a def whose code object stands at c, its table at P -/
structure DfT (K : PySem.W.Frag) (mg : Str → Option Value) (x : Str) (st : Stmt) (ps : List Str) (f : Addr) (fd : FuncData) (c : Addr) : Prop extends Df K mg x st ps f fd where
  ex : ∃ (oc : Value) (od : Option Addr) (kV doc pm : Value) (an : Option Addr) (ct : Value) (osl : Array (Option Value)),
    fd = PySem.W.fnOf x x (defArgs st) (defBody st) (defScope st) .none kV doc pm an (.ref c) ct ∧ K.lookup f = some ⟨oc, od, .func fd, osl⟩ ∧ PySem.W.codeIn K (.ref c) x = true
/-- where the program's things stand -/
structure Adr where
  A : Nat → Addr
  D : Nat → FuncData
  c0 : Addr
  P0 : Addr
  c1 : Addr
  P1 : Addr
  c2 : Addr
  P2 : Addr
  c3 : Addr
  P3 : Addr
  c4 : Addr
  P4 : Addr
abbrev Adr.Ts (a : Adr) : List Addr := [a.P0, a.P1, a.P2, a.P3, a.P4]
structure PF (K : PySem.W.Frag) (mg : Str → Option Value) (a : Adr) : Prop where
  B : BI mg
  plain : Df K mg "is_plain_int" sPlain ["thing"] (a.A 1) (a.D 1)
  tag : DfT K mg "is_tag" sIsTag ["thing"] (a.A 5) (a.D 5) a.c0
  rule : DfT K mg "is_rule" sRule ["signs", "many", "thing"] (a.A 7) (a.D 7) a.c1
  state : DfT K mg "is_state" sState ["signs", "many", "thing"] (a.A 8) (a.D 8) a.c2
  tags : DfT K mg "are_unlike_tags" sTags ["thing"] (a.A 9) (a.D 9) a.c3
  tape : DfT K mg "is_tape" sTape ["thing"] (a.A 10) (a.D 10) a.c4
  lett : ∃ t, mg "LETTERS" = some (.str "abcdefghijklmnopqrstuvwxyz" t)
  tlen : ∃ t, mg "TAG_LENGTH" = some (.int 8 t)
structure BF (base : Heap) (mg : Str → Option Value) (a : Adr) : Prop where
  T0 : GxR.TabB base mg a.c0 a.P0
  T1 : GxR.TabB base mg a.c1 a.P1
  T2 : GxR.TabB base mg a.c2 a.P2
  T3 : GxR.TabB base mg a.c3 a.P3
  T4 : GxR.TabB base mg a.c4 a.P4
  M : base.Ns mainGlobals mg
theorem take_all {α : Type} {f : α → Bool} {l : List α} {i : Nat} {x : α} (h : l[i]? = some x) : (l.take (i + 1)).all f = ((l.take i).all f && f x) := by
  rw [List.take_add_one, h, List.all_append]
  simp
theorem all_no {α : Type} {f : α → Bool} {l : List α} {i : Nat} {x : α} (h : l[i]? = some x) (e : f x = false) : l.all f = false :=
  List.all_eq_false.mpr ⟨x, List.mem_of_getElem? h, by rw [e]; exact Bool.false_ne_true⟩
theorem dec_int (i j : Int) : decide (V.int i = V.int j) = decide (i = j) := by
  by_cases h : i = j
  · rw [decide_eq_true h, decide_eq_true (congrArg V.int h)]
  · rw [decide_eq_false h, decide_eq_false fun z => h (V.int.inj z)]
section
variable {Pr : Program} {w : World} {K : PySem.W.Frag} {mg : Str → Option Value} {base : Heap} {ms : List Addr} {a : Adr}
/-- a promise about any data -/
def spD (ms Ts : List Addr) (g : PyData → Bool) : Sp := fun vs H Q _ => ∃ (v : V) (d : PyData), vs = [v] ∧ An ms H v d ∧ wd d ≤ 1000000 ∧ TTs Ts H ∧ (∀ P ∈ Ts, P ∈ ms) ∧ ∀ H', TTs Ts H' → Kp Ts H H' → Q (.bl (g d)) H'
theorem scTag : FnScope ["thing"] ["thing"] (defScope sIsTag) := ⟨rfl, rfl, rfl, by decide +kernel, rfl, by decide +kernel, by decide +kernel⟩
theorem ok_tag (F : PF K mg a) (b : BF base mg a) : FnOk Pr w K mg base CX0 1 (a.A 5) (a.D 5) ["thing"] (spD ms a.Ts isTagD) := by
  obtain ⟨tL, mL⟩ := F.lett
  obtain ⟨tT, mT⟩ := F.tlen
  have B := F.B
  obtain ⟨oc, od, kV, doc, pm, an, ct, osl, efd, lk, code⟩ := F.tag.ex
  rw [efd]
  rw [efd] at lk
  refine fn_of lk code scTag (fun vs H Q E h => ?_) (fun A outer s H vs Q E hr h => ?_)
  · obtain ⟨v, d, rfl, _⟩ := h
    rfl
  · obtain ⟨v, d, rfl, hv, hz, hT, hsub, k⟩ := h
    refine ⟨_, pss_one (ps_ret (pe_and (pe_callB call_isi (by rfl) B.isi (by decide +kernel) (pa_cons (pv 0) (pa_cons (pe_bltn (v := .ty "str") (by rfl) B.str (by decide +kernel) rfl) pa_nil)))
      (pe_and (pe_chain op_le op_le pe_int (pe_callB call_len_str (by rfl) B.len PySem.boot_len (pa_cons (pv 0) pa_nil)) (pe_glob (v := .int 8) (by rfl) mT ⟨_, rfl⟩))
        (pe_one (pe_allG (P := a.P0) (c := a.c0) hr (by rfl) B.all (by decide +kernel) b.T0 rfl ⟨rfl, rfl, by decide +kernel, rfl, rfl, (by intro y hy e; exfalso; revert y; decide +kernel)⟩ (pv 0) (elt_inG rfl rfl rfl rfl b.M mL) (fun _ => rfl)))))), ?_⟩
    have kH := k H hT .refl
    obtain ⟨ty, hty, kty⟩ := hv.strK (K := K)
    refine ⟨_, rfl, _, .ty "str", ty, .type "str", _, rfl, .ty "str", hty, kty, ?_⟩
    cases hv with
    | non => exact ⟨false, rfl, iteF kH⟩
    | bl b => exact ⟨false, rfl, iteF kH⟩
    | int i => exact ⟨false, rfl, iteF kH⟩
    | lst e => exact ⟨false, rfl, iteF kH⟩
    | tup e => exact ⟨false, rfl, iteF kH⟩
    | dct e => exact ⟨false, rfl, iteF kH⟩
    | str g =>
      refine ⟨true, rfl, iteT ?_⟩
      have hg : g.length ≤ sizeLine := by
        have h1 : 10 * g.length + 2 ≤ 1000000 := hz
        exact Nat.le_trans (show g.length ≤ 1000000 by omega) (by decide)
      have fin : ∀ b, isTag g = b → Q (.bl b) H := fun b e => by
        rw [← e]
        exact kH
      refine ⟨_, rfl, _, rfl, hg, _, _, rfl, rfl, _, rfl, ?_⟩
      by_cases h1 : 1 ≤ g.length
      · rw [decide_eq_true (show (1 : Int) ≤ (g.length : Int) by omega)]
        refine iteT ⟨_, _, rfl, rfl, _, rfl, ?_⟩
        by_cases h2 : g.length ≤ 8
        · rw [decide_eq_true (show (g.length : Int) ≤ 8 by omega)]
          refine iteT ⟨_, rfl, g, rfl, hT _ (by simp), fun H2 h => ?_⟩
          obtain ⟨g2, k2⟩ := hT.tab (by simp) h
          have q : Q (.bl (isTag g)) H2 := k H2 g2 k2
          rw [isTag, decide_eq_true h1, decide_eq_true h2] at q
          rw [abc_is]
          exact q
        · rw [decide_eq_false (show ¬ (g.length : Int) ≤ 8 by omega)]
          refine iteF (fin _ ?_)
          rw [isTag, decide_eq_false h2, Bool.and_false]
          rfl
      · rw [decide_eq_false (show ¬ (1 : Int) ≤ (g.length : Int) by omega)]
        refine iteF ⟨_, rfl, iteF (fin _ ?_)⟩
        rw [isTag, decide_eq_false h1]
        rfl
theorem scPlain : FnScope ["thing"] ["thing"] (defScope sPlain) := ⟨rfl, rfl, rfl, by decide +kernel, rfl, by decide +kernel, by decide +kernel⟩
def spI (ms : List Addr) (g : PyData → Bool) : Sp := fun vs H Q _ => ∃ (v : V) (d : PyData), vs = [v] ∧ An ms H v d ∧ Q (.bl (g d)) H
theorem ok_plain {x y : Str} {st : Stmt} {f : Addr} {fd : FuncData} (F : Fun K x x st f fd) (sc : FnScope [y] [y] (defScope st)) 
    (ht : ∀ (cdv : Value) (A : Around) (outer : List Env) (s : Shared) (H : Hp) (E : XK), PSs (cxOf CX0 Pr w K mg base [y] x (defScope st) f cdv A outer s H E).nox (defBody st)
      (tRet (tAndV (tCB (rIsi K) (tCons (tVar 0) (tCons (tC (.ty "int")) tNil))) (tNotV (tCB (rIsi K) (tCons (tVar 0) (tCons (tC (.ty "bool")) tNil))))))) : FnOk Pr w K mg base CX0 1 f fd [y] (spI ms isIntD) := by
  refine F.ok sc (fun vs H Q E h => ?_) (fun cdv Ar outer s H vs Q E hr h => ?_)
  · obtain ⟨v, d, rfl, _⟩ := h
    rfl
  · obtain ⟨v, d, rfl, hv, k⟩ := h
    refine ⟨_, ht cdv Ar outer s H E, ?_⟩
    cases hv with
    | non => exact ⟨_, rfl, _, .ty "int", _, .type "int", false, rfl, .ty "int", .base .non, kit_ty (by decide +kernel), false, rfl, iteF k⟩
    | bl b => exact ⟨_, rfl, _, .ty "int", _, .type "int", true, rfl, .ty "int", .base (.bl b), kit_ty (by decide +kernel), true, rfl, iteT ⟨_, rfl, _, .ty "bool", _, .type "bool", true, rfl, .ty "bool", .base (.bl b), kit_ty (by decide +kernel), _, rfl, k⟩⟩
    | int i => exact ⟨_, rfl, _, .ty "int", _, .type "int", true, rfl, .ty "int", .base (.int i), kit_ty (by decide +kernel), true, rfl, iteT ⟨_, rfl, _, .ty "bool", _, .type "bool", false, rfl, .ty "bool", .base (.int i), kit_ty (by decide +kernel), _, rfl, k⟩⟩
    | str x => exact ⟨_, rfl, _, .ty "int", _, .type "int", false, rfl, .ty "int", .base (.str x), kit_ty (by decide +kernel), false, rfl, iteF k⟩
    | lst e => exact ⟨_, rfl, _, .ty "int", _, .type "int", false, rfl, .ty "int", .base (.lst e), kit_ty (by decide +kernel), false, rfl, iteF k⟩
    | tup e => exact ⟨_, rfl, _, .ty "int", _, .type "int", false, rfl, .ty "int", .base (.tup e), kit_ty (by decide +kernel), false, rfl, iteF k⟩
    | dct e => exact ⟨_, rfl, _, .ty "int", _, .type "int", false, rfl, .ty "int", .base (.dK e), kit_ty (by decide +kernel), false, rfl, iteF k⟩
theorem go_plain (F : PF K mg a) : FnOk Pr w K mg base CX0 1 (a.A 1) (a.D 1) ["thing"] (spI ms isIntD) :=
  ok_plain F.plain.F scPlain fun cdv A outer s H E => pss_one (ps_ret (pe_and (pe_callB call_isi (by rfl) F.B.isi (by decide +kernel) (pa_cons (pv 0) (pa_cons (pe_bltn (v := .ty "int") (by rfl) F.B.int (by decide +kernel) rfl) pa_nil)))
      (pe_one (pe_not (pe_callB call_isi (by rfl) F.B.isi (by decide +kernel) (pa_cons (pv 0) (pa_cons (pe_bltn (v := .ty "bool") (by rfl) F.B.bool (by decide +kernel) rfl) pa_nil)))))))
end
end Ey
set_option maxHeartbeats 4000000
namespace Ey
open PySem PySem.Spec PyProof.Rows L2
/-! ### bool(a tuple) -/
theorem new_bool_tup (l : Addr) (its : Array Value) (few : (its.size : Int) < 2 ^ 63) :
    Meets (Builtin.«bool.__new__» ⟨[.type "bool", .ref l], []⟩) (fun _ R s => IsTup s.heap l its ∧ R (.ok (.ret (.bool (!its.isEmpty)))) { s with toks := s.toks + 1 + 1 }) :=
  Meets.of_wp fun prog w A R s hs => by
    obtain ⟨hl, hs⟩ := hs
    obtain ⟨h, g, d, t, o⟩ := s
    have f1 := F.conv_sub_bool
    repeat any_goals first | assumption | (with_reducible refine truthy_tuple hl few ?_) | wp_step
    all_goals first | exact ⟨_, rfl, hs⟩ | exact hs | skip
section
variable {X : Cx}
theorem call_boolT : CallR X (.type "bool") (fun xs H Q => ∃ (a : Addr) (zs : List V), xs = [.ref a] ∧ SqT X.K H a zs ∧ Q (.bl (!zs.isEmpty)) H) := by
  intro pins s σ H xs us Q I r h
  obtain ⟨a, zs, rfl, hq, q⟩ := h
  obtain rfl := Vals.ref1 r
  obtain ⟨its, rv, pl, hz⟩ := I.tuple hq
  have hl := line63
  have hlen := rv.length
  refine call_bool_1 (new_bool_tup a its.toArray (by simp only [List.size_toArray]; omega)) ⟨pl, rfl, ?_⟩
  exact ⟨.bl (!zs.isEmpty), H, I.tok _, by rw [isEmpty_of rv]; rfl, q⟩
end
end Ey
set_option maxHeartbeats 4000000
namespace Ey
open PySem PySem.Spec L2
/-- all(..) over a tuple, beside captured names -/
theorem all_tupC {K : PySem.W.Frag} {a : Addr} {xs : List V} {cs : L2.St} {te : TE} {Q : VK} {H1 : Hp} (Pv : Nat → Hp → Prop) (h0 : Pv 0 H1) (hl : ∀ i H, Pv i H → SqT K H a xs)
    (hs : ∀ i x H, xs[i]? = some x → Pv i H → te (some x :: cs) H fun y H3 => ∃ b, y = .bl b ∧ if b = true then Pv (i + 1) H3 else Q (.bl false) H3) (hd : ∀ H, Pv xs.length H → Q (.bl true) H) :
    ∃ (n0 : Nat) (W : Nat → Hp → Prop), W 0 H1 ∧ ∀ i H', W i H' → (i < n0 ∧ (Itt K a).go i H' ∧ ∀ v H'', (Itt K a).yld i H' v H'' → te (some v :: cs) H'' fun y H3 => ∃ b, y = .bl b ∧ if b = true then W (i + 1) H3 else Q (.bl false) H3) ∨ ((Itt K a).stop i H' ∧ Q (.bl true) H') := by
  obtain ⟨n0, W, h1, h2⟩ := all_tup (K := K) (a := a) (xs := xs) (te := fun σ H R => te (σ ++ cs) H R) (Q := Q) Pv h0 hl hs hd
  exact ⟨n0, W, h1, h2⟩
def BK (Q : Bool → Hp → Prop) : VK := fun x H1 => ∃ c, x = .bl c ∧ Q c H1
def tBN (te : TE) : TT := fun σ H Q => te σ H (BK Q)
theorem pt_valN {X : Cx} {e : Expr} {te : TE} (h : PE X e te) (he : ∀ whole, PySem.isTrue e X.env whole = (do let v ← whole; standAt e.pos; holding [v] (truthy v)) := by intro _; rfl) : PT X e (tBN te) := pt_val h he
theorem ruleD_len {s m : Int} {ds : List PyData} (h : ds.length ≠ 3) : ruleD s m (.tuple ds) = false := by
  match ds, h with
  | [], _ => rfl
  | [_], _ => rfl
  | [_, _], _ => rfl
  | [_, _, _], h => exact absurd rfl h
  | _ :: _ :: _ :: _ :: _, _ => rfl
theorem intIn_int {lo hi : Int} {x : PyData} (h : intIn lo hi x = true) : isIntD x = true := by
  cases x with
  | int i => rfl
  | none => cases h
  | bool b => cases h
  | str b => cases h
  | list b => cases h
  | tuple b => cases h
  | dict b => cases h
theorem ruleD_int {s m : Int} {ds : List PyData} (h : ds.all isIntD = false) : ruleD s m (.tuple ds) = false := by
  by_cases e : ds.length = 3
  · match ds, e, h with
    | [x, y, z], _, h =>
      refine Bool.eq_false_iff.mpr fun q => ?_
      have q : (intIn 0 (m + 1) x && (intIn 0 (s - 1) y && intIn (-1) 1 z)) = true := q
      rw [Bool.and_eq_true, Bool.and_eq_true] at q
      have h : (isIntD x && (isIntD y && (isIntD z && true))) = false := h
      rw [intIn_int q.1, intIn_int q.2.1, intIn_int q.2.2] at h
      cases h
  · exact ruleD_len e
theorem int_an {ms : List Addr} {H : Hp} {v : V} {d : PyData} (a : An ms H v d) (h : isIntD d = true) : ∃ i, v = .int i ∧ d = .int i := by
  cases a with
  | int i => exact ⟨i, rfl, rfl⟩
  | non => cases h
  | bl b => cases h
  | str g => cases h
  | lst e => cases h
  | tup e => cases h
  | dct e => cases h
section
variable {Pr : Program} {w : World} {K : PySem.W.Frag} {mg : Str → Option Value} {base : Heap} {ms : List Addr} {a : Adr}
theorem scRule : FnScope ["signs", "many", "thing"] ["signs", "many", "thing"] (defScope sRule) := ⟨rfl, rfl, rfl, by decide +kernel, rfl, by decide +kernel, by decide +kernel⟩
def spR (ms Ts : List Addr) (g : Int → Int → PyData → Bool) : Sp := fun vs H Q _ => ∃ (s m : Int) (v : V) (d : PyData), vs = [.int s, .int m, v] ∧ An ms H v d ∧ wd d ≤ 1000000 ∧ TTs Ts H ∧ (∀ P ∈ Ts, P ∈ ms) ∧ ∀ H', TTs Ts H' → Kp Ts H H' → Q (.bl (g s m d)) H'
theorem ok_rule (F : PF K mg a) (b : BF base mg a) : FnOk Pr w K mg base CX0 4 (a.A 7) (a.D 7) ["signs", "many", "thing"] (spR ms a.Ts ruleD) := by
  have B := F.B
  obtain ⟨oc, od, kV, doc, pm, an, ct, osl, efd, lk, code⟩ := F.rule.ex
  rw [efd]
  rw [efd] at lk
  refine fn_of lk code scRule (fun vs H Q E h => ?_) (fun A outer s0 H vs Q E hr h => ?_)
  · obtain ⟨s, m, v, d, rfl, _⟩ := h
    rfl
  · obtain ⟨s, m, v, d, rfl, hv, hz, hT, hsub, k⟩ := h
    refine ⟨_, pss_cons (ps_if (PW.pt (pw_or (pt_not (pt_val (pe_callB call_isi (by rfl) B.isi (by decide +kernel) (pa_cons (pv 2) (pa_cons (pe_bltn (v := .ty "tuple") (by rfl) B.tuple (by decide +kernel) rfl) pa_nil)))))
        (pw_or (pt_cmpR op_ne (pe_callB call_len_seq (by rfl) B.len PySem.boot_len (pa_cons (pv 2) pa_nil)) pe_int (nomark _))
        (pw_or1 (pt_not (pt_valN (pe_allC (k := 1) (P := a.P1) (c := a.c1) (ix := []) (ys := []) hr (by rfl) B.all (by decide +kernel) b.T1 rfl ⟨rfl, rfl, by decide +kernel, rfl, rfl, (by intro y hy e; exfalso; revert y; decide +kernel)⟩ (by decide +kernel) (by intro y hy e; exfalso; revert y; decide +kernel) (fun y hy => absurd hy List.not_mem_nil) rfl (fun j y h => by cases h) (pi_tup (pv 2))
          (fun A s H C code fp hr => pe_call (go_plain (ms := ms) F) hr (by rfl) F.plain.g F.plain.F.kp F.plain.b .nil pass0 (pa_cons (pv 0) pa_nil)) (fun _ => rfl)))))))) (pss_one (ps_ret pe_bl)) pss_nil)
      (pss_one (ps_ret (pe_and (pe_chain op_le op_le pe_int (pe_ix (r := rIxT K) ix_tup (pv 2) pe_int (fun _ _ => rfl)) (pe_op op_add (pv 1) pe_int))
        (pe_and (pe_chain op_le op_lt pe_int (pe_ix (r := rIxT K) ix_tup (pv 2) pe_int (fun _ _ => rfl)) (pv 0))
        (pe_one (pe_chain op_le op_le (pe_un un_neg pe_int) (pe_ix (r := rIxT K) ix_tup (pv 2) pe_int (fun _ _ => rfl)) pe_int)))))), ?_⟩
    have kH := k H hT .refl
    obtain ⟨ty, hty, kty⟩ := hv.tupK (K := K)
    refine ⟨_, rfl, _, .ty "tuple", ty, .type "tuple", _, rfl, .ty "tuple", hty, kty, ?_⟩
    cases hv with
    | non => exact ⟨false, rfl, iteT kH⟩
    | bl b => exact ⟨false, rfl, iteT kH⟩
    | int i => exact ⟨false, rfl, iteT kH⟩
    | str g => exact ⟨false, rfl, iteT kH⟩
    | lst e => exact ⟨false, rfl, iteT kH⟩
    | dct e => exact ⟨false, rfl, iteT kH⟩
    | @tup t xs ds e hds =>
      have lx := hds.length
      refine ⟨true, rfl, iteF ⟨_, rfl, t, _, rfl, .inr (sqt_of e), rfl, _, rfl, ?_⟩⟩
      rw [dec_int]
      by_cases h3 : ((xs.length : Nat) : Int) = 3
      rotate_left
      · rw [decide_eq_false h3]
        have q : ruleD s m (.tuple ds) = false := ruleD_len (by omega)
        rw [q] at kH
        exact iteT kH
      rw [decide_eq_true h3]
      refine iteF ⟨_, rfl, t, rfl, ⟨_, sqt_of e⟩, hT _ (by simp), fun H2 h2 => ?_⟩
      obtain ⟨g2, kt2⟩ := hT.tab (by simp) h2
      refine all_tupC (K := K) (a := t) (xs := xs) (fun i H' => TTs a.Ts H' ∧ Kp a.Ts H H' ∧ (ds.take i).all isIntD = true) ⟨g2, kt2, rfl⟩ (fun i H' h => sqt_of (h.2.1.tup _ _ e)) ?_ ?_
      · rintro i x H' hx ⟨g', k', qa⟩
        obtain ⟨dx, ex, ax⟩ := hds.get hx
        refine ⟨_, rfl, x, dx, rfl, ax.kp k' hsub dx, _, rfl, ?_⟩
        cases e2 : isIntD dx with
        | true =>
          refine iteT ⟨g', k', ?_⟩
          rw [take_all ex, qa, e2]
          rfl
        | false =>
          have q : ruleD s m (.tuple ds) = false := ruleD_int (all_no ex e2)
          have kf := k H' g' k'
          rw [q] at kf
          exact iteF ⟨false, rfl, iteT kf⟩
      · rintro H' ⟨g', k', qa⟩
        rw [lx, List.take_length] at qa
        refine ⟨true, rfl, iteF ?_⟩
        have e' := k'.tup _ _ e
        match ds, hds, qa, k with
        | [], .nil, _, _ => cases h3
        | [_], .cons _ .nil, _, _ => cases h3
        | [_, _], .cons _ (.cons _ .nil), _, _ => cases h3
        | _ :: _ :: _ :: _ :: r, .cons _ (.cons _ (.cons _ (.cons _ t))), _, _ =>
          simp only [List.length_cons] at h3
          omega
        | [d0, d1, d2], .cons a0 (.cons a1 (.cons a2 .nil)), qa, k =>
          have qa : (isIntD d0 && (isIntD d1 && (isIntD d2 && true))) = true := qa
          rw [Bool.and_eq_true, Bool.and_eq_true, Bool.and_true] at qa
          obtain ⟨i0, rfl, rfl⟩ := int_an a0 qa.1
          obtain ⟨i1, rfl, rfl⟩ := int_an a1 qa.2.1
          obtain ⟨i2, rfl, rfl⟩ := int_an a2 qa.2.2
          have fin : ∀ c, ((decide (0 ≤ i0) && decide (i0 ≤ m + 1)) && ((decide (0 ≤ i1) && decide (i1 ≤ s - 1)) && (decide (-1 ≤ i2) && decide (i2 ≤ 1)))) = c → Q (.bl c) H' := fun c ec => ec ▸ k H' g' k'
          refine ⟨_, rfl, t, _, _, _, rfl, rfl, sqt_of e', atI_nat (j := 0) rfl, _, _, rfl, rfl, _, rfl, ite2 (fun h => ?_) (fun h => ⟨_, rfl, iteF (fin _ (by simp at h ⊢; omega))⟩)⟩
          refine ⟨_, rfl, _, _, rfl, rfl, _, _, rfl, rfl, _, rfl, ite2 (fun h1 => ?_) (fun h1 => fin _ (by simp at h h1 ⊢; omega))⟩
          refine ⟨_, rfl, t, _, _, _, rfl, rfl, sqt_of e', atI_nat (j := 1) rfl, _, _, rfl, rfl, _, rfl, ite2 (fun h2 => ?_) (fun h2 => ⟨_, rfl, iteF (fin _ (by simp at h h1 h2 ⊢; omega))⟩)⟩
          refine ⟨_, rfl, _, _, rfl, rfl, _, rfl, ite2 (fun h3 => ?_) (fun h3 => fin _ (by simp at h h1 h2 h3 ⊢; omega))⟩
          refine ⟨_, rfl, _, rfl, t, _, _, _, rfl, rfl, sqt_of e', atI_nat (j := 2) rfl, _, _, rfl, rfl, _, rfl, ite2 (fun h4 => ?_) (fun h4 => fin _ (by simp at h h1 h2 h3 h4 ⊢; omega))⟩
          exact ⟨_, _, rfl, rfl, fin _ (by rw [h, h1, h2, show decide (i1 ≤ s - 1) = true from decide_eq_true (by have := of_decide_eq_true h3; omega), show decide (-1 ≤ i2) = true from h4]; rfl)⟩
theorem scState : FnScope ["signs", "many", "thing"] ["signs", "many", "thing"] (defScope sState) := ⟨rfl, rfl, rfl, by decide +kernel, rfl, by decide +kernel, by decide +kernel⟩
theorem ok_state (F : PF K mg a) (b : BF base mg a) : FnOk Pr w K mg base CX0 7 (a.A 8) (a.D 8) ["signs", "many", "thing"] (spR ms a.Ts stateD) := by
  have B := F.B
  obtain ⟨oc, od, kV, doc, pm, an, ct, osl, efd, lk, code⟩ := F.state.ex
  rw [efd]
  rw [efd] at lk
  refine fn_of lk code scState (fun vs H Q E h => ?_) (fun A outer s0 H vs Q E hr h => ?_)
  · obtain ⟨s, m, v, d, rfl, _⟩ := h
    rfl
  · obtain ⟨s, m, v, d, rfl, hv, hz, hT, hsub, k⟩ := h
    refine ⟨_, pss_one (ps_ret (pe_and (pe_callB call_isi (by rfl) B.isi (by decide +kernel) (pa_cons (pv 2) (pa_cons (pe_bltn (v := .ty "tuple") (by rfl) B.tuple (by decide +kernel) rfl) pa_nil)))
      (pe_and (pe_cmpR op_eq (pe_callB call_len_seq (by rfl) B.len PySem.boot_len (pa_cons (pv 2) pa_nil)) (pv 0) (nomark _))
        (pe_one (pe_allC (k := 4) (P := a.P2) (c := a.c2) (ix := [0, 1]) (ys := ["signs", "many"]) hr (by rfl) B.all (by decide +kernel) b.T2 rfl ⟨rfl, rfl, by decide +kernel, rfl, rfl, (by intro y hy e; simp only [List.mem_cons, List.not_mem_nil, or_false] at hy; rcases hy with rfl | rfl | rfl | rfl | rfl <;> first | (cases e; done) | exact ⟨_, rfl⟩)⟩ (by decide +kernel) (by intro y hy e; simp only [List.mem_cons, List.not_mem_nil, or_false] at hy; rcases hy with rfl | rfl | rfl | rfl | rfl <;> first | (cases e; done) | exact .inl rfl) (by intro y hy; simp only [List.mem_cons, List.not_mem_nil, or_false] at hy; rcases hy with rfl | rfl <;> rfl) rfl (by intro j y h; match j, h with | 0, h => exact ⟨0, rfl, h⟩ | 1, h => exact ⟨1, rfl, h⟩)
          (pi_tup (pv 2))
          (fun A s H C code fp hr => pe_call (ok_rule (ms := ms) F b) hr (by rfl) F.rule.g F.rule.F.kp F.rule.b .nil pass0 (pa_cons (pv 1) (pa_cons (pv 2) (pa_cons (pv 0) pa_nil)))) (fun _ => rfl)))))), ?_⟩
    have kH := k H hT .refl
    obtain ⟨ty, hty, kty⟩ := hv.tupK (K := K)
    refine ⟨_, rfl, _, .ty "tuple", ty, .type "tuple", _, rfl, .ty "tuple", hty, kty, ?_⟩
    cases hv with
    | non => exact ⟨false, rfl, iteF kH⟩
    | bl b => exact ⟨false, rfl, iteF kH⟩
    | int i => exact ⟨false, rfl, iteF kH⟩
    | str g => exact ⟨false, rfl, iteF kH⟩
    | lst e => exact ⟨false, rfl, iteF kH⟩
    | dct e => exact ⟨false, rfl, iteF kH⟩
    | @tup t xs ds e hds =>
      have lx := hds.length
      refine ⟨true, rfl, iteT ⟨_, rfl, t, _, rfl, .inr (sqt_of e), _, rfl, rfl, _, rfl, ?_⟩⟩
      rw [dec_int, lx]
      have kw : ∀ H', TTs a.Ts H' → Kp a.Ts H H' → Q (.bl (decide ((ds.length : Int) = s) && ds.all (ruleD s m))) H' := k
      cases hc : decide (((ds.length : Nat) : Int) = s) with
      | false =>
        have q := kw H hT .refl
        rw [hc] at q
        exact iteF q
      | true =>
        rw [hc] at kw
        refine iteT ⟨_, rfl, t, rfl, ⟨_, sqt_of e⟩, hT _ (by simp), fun H2 h2 => ?_⟩
        obtain ⟨g2, kt2⟩ := hT.tab (by simp) h2
        refine all_tupC (K := K) (a := t) (xs := xs) (fun i H' => TTs a.Ts H' ∧ Kp a.Ts H H' ∧ (ds.take i).all (ruleD s m) = true) ⟨g2, kt2, rfl⟩ (fun i H' h => sqt_of (h.2.1.tup _ _ e)) ?_ ?_
        · rintro i x H' hx ⟨g', k', qa⟩
          obtain ⟨dx, ex, ax⟩ := hds.get hx
          have wx := wd_get ex
          have hz' : wdAll ds + 3 ≤ 1000000 := hz
          refine ⟨_, rfl, _, rfl, _, rfl, s, m, x, dx, rfl, ax.kp k' hsub dx, by omega, g', hsub, fun H3 g3 k3 => ⟨_, rfl, ?_⟩⟩
          cases e2 : ruleD s m dx with
          | true =>
            refine iteT ⟨g3, k'.trans k3, ?_⟩
            rw [take_all ex, qa, e2]
            rfl
          | false =>
            have q := kw H3 g3 (k'.trans k3)
            rw [all_no ex e2] at q
            exact iteF q
        · rintro H' ⟨g', k', qa⟩
          rw [lx, List.take_length] at qa
          have q := kw H' g' k'
          rw [qa] at q
          exact q
end
end Ey
set_option maxHeartbeats 4000000
namespace Ey
open PySem PySem.Spec L2
def tAndB (ta tb : TE) : TE := fun σ H Q => ta σ H (BK fun c H1 => if c = true then tb σ H1 Q else Q (.bl false) H1)
theorem pe_andB {X : Cx} {a b : Expr} {rest : List Expr} {pos : Pos} {ta tb : TE} (ha : PE X a ta) (hb : PE X (.BoolOp .And (b :: rest) pos) tb) : PE X (.BoolOp .And (a :: b :: rest) pos) (tAndB ta tb) := pe_and ha hb
theorem tag_str {x : PyData} (h : isTagD x = true) : ∃ g, x = .str g := by
  cases x with
  | str g => exact ⟨g, rfl⟩
  | int i => cases h
  | none => cases h
  | bool b => cases h
  | list b => cases h
  | tuple b => cases h
  | dict b => cases h
theorem strs_an {ms : List Addr} {H : Hp} : ∀ {vs : List V} {ds : List PyData}, AnAll ms H vs ds → ds.all isTagD = true → vs = (strsOf ds).map V.str ∧ (strsOf ds).length = ds.length ∧ 4 * ds.length ≤ wdAll ds
  | _, _, .nil, _ => ⟨rfl, rfl, Nat.le_refl _⟩
  | v :: vs, d :: ds, .cons a as, h => by
    have h : (isTagD d && ds.all isTagD) = true := h
    rw [Bool.and_eq_true] at h
    obtain ⟨g, rfl⟩ := tag_str h.1
    obtain ⟨e1, e2, e3⟩ := strs_an as h.2
    cases a with
    | str =>
      refine ⟨?_, ?_, ?_⟩
      · show V.str g :: vs = V.str g :: (strsOf ds).map V.str
        rw [← e1]
      · show (strsOf ds).length + 1 = ds.length + 1
        rw [e2]
      · show 4 * (ds.length + 1) ≤ 10 * g.length + 2 + 2 + wdAll ds
        omega
section
variable {Pr : Program} {w : World} {K : PySem.W.Frag} {mg : Str → Option Value} {base : Heap} {ms : List Addr} {a : Adr}
/-- a promise about any data of a bounded kind -/
def spW (ms Ts : List Addr) (g : PyData → Bool) : Sp := fun vs H Q _ => ∃ (v : V) (d : PyData), vs = [v] ∧ An ms H v d ∧ wd d ≤ 16000 ∧ TTs Ts H ∧ (∀ P ∈ Ts, P ∈ ms) ∧ ∀ H', TTs Ts H' → Kp Ts H H' → Q (.bl (g d)) H'
theorem scTags : FnScope ["thing"] ["thing"] (defScope sTags) := ⟨rfl, rfl, rfl, by decide +kernel, rfl, by decide +kernel, by decide +kernel⟩
theorem ok_tags (F : PF K mg a) (b : BF base mg a) : FnOk Pr w K mg base CX0 4 (a.A 9) (a.D 9) ["thing"] (spW ms a.Ts tagsD) := by
  have B := F.B
  obtain ⟨oc, od, kV, doc, pm, an, ct, osl, efd, lk, code⟩ := F.tags.ex
  rw [efd]
  rw [efd] at lk
  refine fn_of lk code scTags (fun vs H Q E h => ?_) (fun A outer s0 H vs Q E hr h => ?_)
  · obtain ⟨v, d, rfl, _⟩ := h
    rfl
  · obtain ⟨v, d, rfl, hv, hz, hT, hsub, k⟩ := h
    refine ⟨_, pss_one (ps_ret (pe_and (pe_callB call_isi (by rfl) B.isi (by decide +kernel) (pa_cons (pv 0) (pa_cons (pe_bltn (v := .ty "tuple") (by rfl) B.tuple (by decide +kernel) rfl) pa_nil)))
      (pe_andB (pe_allC (k := 1) (P := a.P3) (c := a.c3) (ix := []) (ys := []) hr (by rfl) B.all (by decide +kernel) b.T3 rfl ⟨rfl, rfl, by decide +kernel, rfl, rfl, (by intro y hy e; exfalso; revert y; decide +kernel)⟩ (by decide +kernel) (by intro y hy e; exfalso; revert y; decide +kernel) (fun y hy => absurd hy List.not_mem_nil) rfl (fun j y h => by cases h) (pi_tup (pv 0))
          (fun A s H C code fp hr => pe_call (ok_tag (ms := ms) F b) hr (by rfl) F.tag.g F.tag.F.kp F.tag.b .nil pass0 (pa_cons (pv 0) pa_nil)) (fun _ => rfl))
        (pe_one (pe_cmpR op_eq (pe_lenSetS (by rfl) B.len (by rfl) B.set (pv 0)) (pe_callB call_len_seq (by rfl) B.len PySem.boot_len (pa_cons (pv 0) pa_nil)) (nomark _)))))), ?_⟩
    have kH := k H hT .refl
    obtain ⟨ty, hty, kty⟩ := hv.tupK (K := K)
    refine ⟨_, rfl, _, .ty "tuple", ty, .type "tuple", _, rfl, .ty "tuple", hty, kty, ?_⟩
    cases hv with
    | non => exact ⟨false, rfl, iteF kH⟩
    | bl b => exact ⟨false, rfl, iteF kH⟩
    | int i => exact ⟨false, rfl, iteF kH⟩
    | str g => exact ⟨false, rfl, iteF kH⟩
    | lst e => exact ⟨false, rfl, iteF kH⟩
    | dct e => exact ⟨false, rfl, iteF kH⟩
    | @tup t xs ds e hds =>
      have lx := hds.length
      have hz' : wdAll ds + 3 ≤ 16000 := hz
      have kw : ∀ H', TTs a.Ts H' → Kp a.Ts H H' → Q (.bl (ds.all isTagD && decide (distN (strsOf ds) = ds.length))) H' := k
      refine ⟨true, rfl, iteT ⟨_, rfl, t, rfl, ⟨_, sqt_of e⟩, hT _ (by simp), fun H2 h2 => ?_⟩⟩
      obtain ⟨g2, kt2⟩ := hT.tab (by simp) h2
      refine all_tupC (K := K) (a := t) (xs := xs) (fun i H' => TTs a.Ts H' ∧ Kp a.Ts H H' ∧ (ds.take i).all isTagD = true) ⟨g2, kt2, rfl⟩ (fun i H' h => sqt_of (h.2.1.tup _ _ e)) ?_ ?_
      · rintro i x H' hx ⟨g', k', qa⟩
        obtain ⟨dx, ex, ax⟩ := hds.get hx
        have wx := wd_get ex
        refine ⟨_, rfl, x, dx, rfl, ax.kp k' hsub dx, by omega, g', hsub, fun H3 g3 k3 => ⟨_, rfl, ?_⟩⟩
        cases e2 : isTagD dx with
        | true =>
          refine iteT ⟨g3, k'.trans k3, ?_⟩
          rw [take_all ex, qa, e2]
          rfl
        | false =>
          have q := kw H3 g3 (k'.trans k3)
          rw [all_no ex e2] at q
          exact iteF ⟨false, rfl, iteF q⟩
      · rintro H' ⟨g', k', qa⟩
        rw [lx, List.take_length] at qa
        have q := kw H' g' k'
        rw [qa] at q
        obtain ⟨e1, e2, e3⟩ := strs_an hds qa
        have e' := k'.tup _ _ e
        refine ⟨true, rfl, iteT ⟨_, rfl, t, strsOf ds, rfl, ?_, by omega, ?_⟩⟩
        · rw [← e1]
          exact sqt_of e'
        · refine ⟨_, rfl, t, _, rfl, .inr (sqt_of e'), rfl, ?_⟩
          rw [dec_int, lx]
          have ed : decide (((distN (strsOf ds) : Nat) : Int) = ((ds.length : Nat) : Int)) = decide (distN (strsOf ds) = ds.length) := by
            by_cases h : distN (strsOf ds) = ds.length
            · rw [decide_eq_true h, decide_eq_true (by omega)]
            · rw [decide_eq_false h, decide_eq_false (by omega)]
          rw [ed]
          exact q
end
end Ey
set_option maxHeartbeats 4000000
namespace Ey
open PySem PySem.Spec L2
abbrev rLenQ (K : PySem.W.Frag) : List V → Hp → VK → Prop := fun xs H Q => ∃ p ys, xs = [V.ref p] ∧ (SqL K H p ys ∨ SqT K H p ys) ∧ Q (V.int ys.length) H
section
variable {Pr : Program} {w : World} {K : PySem.W.Frag} {mg : Str → Option Value} {base : Heap} {ms : List Addr} {a : Adr}
abbrev NTp : List Str := ["thing", "_", "tags", "signs", "states"]
theorem scTape : FnScope NTp ["thing"] (defScope sTape) := ⟨rfl, rfl, rfl, by decide +kernel, rfl, by decide +kernel, by decide +kernel⟩
theorem ok_tape (F : PF K mg a) (b : BF base mg a) : FnOk Pr w K mg base CX0 10 (a.A 10) (a.D 10) ["thing"] (spW ms a.Ts tapeD) := by
  have B := F.B
  obtain ⟨oc, od, kV, doc, pm, an, ct, osl, efd, lk, code⟩ := F.tape.ex
  rw [efd]
  rw [efd] at lk
  refine fn_of lk code scTape (fun vs H Q E h => ?_) (fun A outer s0 H vs Q E hr h => ?_)
  · obtain ⟨v, d, rfl, _⟩ := h
    rfl
  · obtain ⟨v, d, rfl, hv, hz, hT, hsub, k⟩ := h
    have hr1 := hr.mono (show 1 ≤ 9 by decide)
    have hr3 := hr.mono (show 4 ≤ 9 by decide)
    have hu1 := hr.units
    refine ⟨_, pss_cons (ps_if (PW.pt (pw_or (pt_not (pt_val (pe_callB call_isi (by rfl) B.isi (by decide +kernel) (pa_cons (pv 0) (pa_cons (pe_bltn (v := .ty "tuple") (by rfl) B.tuple (by decide +kernel) rfl) pa_nil)))))
        (pw_or (pt_cmpR op_ne (pe_callB call_len_seq (by rfl) B.len PySem.boot_len (pa_cons (pv 0) pa_nil)) pe_int (nomark _))
        (pw_or1 (pt_cmpR (op_neAn (Nat.lt_of_le_of_lt (Nat.le_add_right _ 64) hu1)) (pe_ix (r := rIxT K) ix_tup (pv 0) pe_int (fun _ _ => rfl)) pe_str (nomark _)))))) (pss_one (ps_ret pe_bl)) pss_nil)
      (pss_cons (ps_asg (pv 0) (pg_tup (n := 4) rfl (pgs_cons (pg_name (i := 1) scTape.nd rfl (.inl rfl)) (pgs_cons (pg_name (i := 2) scTape.nd rfl (.inl rfl)) (pgs_cons (pg_name (i := 3) scTape.nd rfl (.inr rfl)) (pgs_cons (pg_name (i := 4) scTape.nd rfl (.inr rfl)) pgs_nil))))))
      (pss_cons (ps_if (PW.pt (pw_or (pt_not (pt_val (pe_call (ok_tags (ms := ms) F b) hr3 (by rfl) F.tags.g F.tags.F.kp F.tags.b .nil pass0 (pa_cons (pv 2) pa_nil))))
        (pw_or (pt_not (pt_val (pe_call (go_plain (ms := ms) F) hr1 (by rfl) F.plain.g F.plain.F.kp F.plain.b .nil pass0 (pa_cons (pv 3) pa_nil))))
        (pw_or1 (pt_cmpR op_lt (pv 3) (pe_op op_add (pe_callB call_len_seq (by rfl) B.len PySem.boot_len (pa_cons (pv 2) pa_nil)) pe_int) (nomark _)))))) (pss_one (ps_ret pe_bl)) pss_nil)
      (pss_one (ps_ret (pe_and (pe_callB call_isi (by rfl) B.isi (by decide +kernel) (pa_cons (pv 4) (pa_cons (pe_bltn (v := .ty "tuple") (by rfl) B.tuple (by decide +kernel) rfl) pa_nil)))
        (pe_and (pe_callTy call_boolT (by rfl) B.bool (by decide +kernel) (pa_cons (pv 4) pa_nil))
        (pe_one (pe_allC (k := 7) (P := a.P4) (c := a.c4) (ix := [3, 4]) (ys := ["signs", "states"]) hr (by rfl) B.all (by decide +kernel) b.T4 rfl ⟨rfl, rfl, by decide +kernel, rfl, rfl, (by intro y hy e; simp only [List.mem_cons, List.not_mem_nil, or_false] at hy; rcases hy with rfl | rfl | rfl | rfl | rfl | rfl <;> first | (cases e; done) | exact ⟨_, rfl⟩)⟩ (by decide +kernel) (by intro y hy e; simp only [List.mem_cons, List.not_mem_nil, or_false] at hy; rcases hy with rfl | rfl | rfl | rfl | rfl | rfl <;> first | (cases e; done) | exact .inl rfl) (by intro y hy; simp only [List.mem_cons, List.not_mem_nil, or_false] at hy; rcases hy with rfl | rfl <;> rfl) rfl (by intro j y h; match j, h with | 0, h => exact ⟨3, rfl, h⟩ | 1, h => exact ⟨4, rfl, h⟩)
          (pi_tup (pv 4))
          (fun A s H C code fp hr => pe_call (ok_state (ms := ms) F b) hr (by rfl) F.state.g F.state.F.kp F.state.b .nil pass0 (pa_cons (pv 1) (pa_cons (pe_callB (r := rLenQ K) call_len_seq (by rfl) B.len PySem.boot_len (pa_cons (pv 2) pa_nil)) (pa_cons (pv 0) pa_nil)))) (fun _ => rfl))))))))), ?_⟩
    have kH := k H hT .refl
    obtain ⟨ty, hty, kty⟩ := hv.tupK (K := K)
    refine ⟨_, rfl, _, .ty "tuple", ty, .type "tuple", _, rfl, .ty "tuple", hty, kty, ?_⟩
    cases hv with
    | non => exact ⟨false, rfl, iteT kH⟩
    | bl b => exact ⟨false, rfl, iteT kH⟩
    | int i => exact ⟨false, rfl, iteT kH⟩
    | str g => exact ⟨false, rfl, iteT kH⟩
    | lst e => exact ⟨false, rfl, iteT kH⟩
    | dct e => exact ⟨false, rfl, iteT kH⟩
    | @tup t xs ds e hds =>
      have lx := hds.length
      have hz' : wdAll ds + 3 ≤ 16000 := hz
      refine ⟨true, rfl, iteF ⟨_, rfl, t, _, rfl, .inr (sqt_of e), rfl, _, rfl, ?_⟩⟩
      rw [dec_int]
      by_cases h4 : ((xs.length : Nat) : Int) = 4
      rotate_left
      · rw [decide_eq_false h4]
        have q : tapeD (.tuple ds) = false := by
          show tape4 ds = false
          match ds, lx with
          | [], _ => rfl
          | [_], _ => rfl
          | [_, _], _ => rfl
          | [_, _, _], _ => rfl
          | [_, _, _, _], lx => exact absurd (by rw [lx]; rfl) h4
          | _ :: _ :: _ :: _ :: _ :: _, _ => rfl
        rw [q] at kH
        exact iteT kH
      rw [decide_eq_true h4]
      match xs, ds, hds, h4, k, kH, hz', e with
      | _, _, .nil, h4, _, _, _, _ => cases h4
      | _, _, .cons _ .nil, h4, _, _, _, _ => cases h4
      | _, _, .cons _ (.cons _ .nil), h4, _, _, _, _ => cases h4
      | _, _, .cons _ (.cons _ (.cons _ .nil)), h4, _, _, _, _ => cases h4
      | _, _, .cons _ (.cons _ (.cons _ (.cons _ (.cons _ t)))), h4, _, _, _, _ =>
        simp only [List.length_cons] at h4
        omega
      | [v0, v1, v2, v3], [d0, d1, d2, d3], .cons a0 (.cons a1 (.cons a2 (.cons a3 .nil))), _, k, kH, hz', e =>
        refine iteF ⟨_, rfl, t, _, _, _, rfl, rfl, sqt_of e, atI_nat (j := 0) rfl, ms, d0, _, a0, rfl, _, rfl, ?_⟩
        have kw : ∀ H', TTs a.Ts H' → Kp a.Ts H H' → Q (.bl (isThe "tape" d0 && (tagsD d1 && ((isIntD d2 && decide (((partsOf d1).length : Int) + 2 ≤ valI d2)) && (isTupD d3 && (!(partsOf d3).isEmpty && (partsOf d3).all (stateD (valI d2) (partsOf d3).length))))))) H' := k
        cases hk : isThe "tape" d0 with
        | false =>
          have q := kw H hT .refl
          rw [hk] at q
          exact iteT q
        | true =>
          rw [hk] at kw
          have w4 : wd d0 + 2 + (wd d1 + 2 + (wd d2 + 2 + (wd d3 + 2 + 0))) + 3 ≤ 16000 := hz
          refine iteF ⟨_, rfl, t, _, rfl, sqt_of e, rfl, _, _, rfl, _, _, rfl, _, _, rfl, _, _, rfl, rfl, ?_⟩
          refine ⟨_, rfl, v1, d1, rfl, a1, by omega, hT, hsub, fun H1 g1 k1 => ⟨_, rfl, ?_⟩⟩
          cases ht : tagsD d1 with
          | false =>
            have q := kw H1 g1 k1
            rw [ht] at q
            exact iteT q
          | true =>
            rw [ht] at kw
            refine iteF ⟨_, rfl, v2, d2, rfl, a2.kp k1 hsub d2, _, rfl, ?_⟩
            cases hi : isIntD d2 with
            | false =>
              have q := kw H1 g1 k1
              rw [hi] at q
              exact iteT q
            | true =>
              rw [hi] at kw
              obtain ⟨s, rfl, rfl⟩ := int_an a2 hi
              obtain ⟨ts, rfl⟩ : ∃ ts, d1 = .tuple ts := by
                cases d1 with
                | tuple ts => exact ⟨ts, rfl⟩
                | none => cases ht
                | bool b => cases ht
                | int b => cases ht
                | str b => cases ht
                | list b => cases ht
                | dict b => cases ht
              have a1' := a1.kp k1 hsub _
              cases a1' with
              | @tup t1 ys _ e1 hds1 =>
              have ly := hds1.length
              refine iteF ⟨_, rfl, _, rfl, t1, _, rfl, .inr (sqt_of e1), _, _, rfl, rfl, _, _, rfl, rfl, _, rfl, ite2 (fun h => ?_) (fun h => ?_)⟩
              · have q := kw H1 g1 k1
                have hn : ¬ ((ts.length : Nat) : Int) + 2 ≤ s := by
                  have := of_decide_eq_true h
                  rw [ly] at this
                  omega
                have e2 : decide (((partsOf (.tuple ts)).length : Int) + 2 ≤ valI (.int s)) = false := decide_eq_false hn
                rw [e2] at q
                exact q
              · have hn : ((ts.length : Nat) : Int) + 2 ≤ s := by
                  have h' : ¬ s < ((ys.length : Nat) : Int) + 2 := fun z => h (decide_eq_true z)
                  rw [ly] at h'
                  omega
                have e2 : decide (((partsOf (.tuple ts)).length : Int) + 2 ≤ valI (.int s)) = true := decide_eq_true hn
                rw [e2] at kw
                have a3' := a3.kp k1 hsub d3
                have kH1 := kw H1 g1 k1
                obtain ⟨ty, hty, kty⟩ := a3'.tupK (K := K)
                refine ⟨_, rfl, _, .ty "tuple", ty, .type "tuple", _, rfl, .ty "tuple", hty, kty, ?_⟩
                cases a3' with
                | non => exact ⟨false, rfl, iteF kH1⟩
                | bl b => exact ⟨false, rfl, iteF kH1⟩
                | int i => exact ⟨false, rfl, iteF kH1⟩
                | str g => exact ⟨false, rfl, iteF kH1⟩
                | lst e => exact ⟨false, rfl, iteF kH1⟩
                | dct e => exact ⟨false, rfl, iteF kH1⟩
                | @tup t3 zs ss e3 hds3 =>
                have lz := hds3.length
                refine ⟨true, rfl, iteT ⟨_, rfl, t3, zs, rfl, sqt_of e3, _, rfl, ?_⟩⟩
                have ez : zs.isEmpty = ss.isEmpty := by
                  cases hds3 <;> rfl
                rw [ez]
                cases he : ss.isEmpty with
                | true =>
                  have q := kw H1 g1 k1
                  have e5 : (partsOf (.tuple ss)).isEmpty = true := he
                  rw [e5] at q
                  exact iteF q
                | false =>
                  have e5 : (partsOf (.tuple ss)).isEmpty = false := he
                  rw [e5] at kw
                  refine iteT ⟨_, rfl, t3, rfl, ⟨_, sqt_of e3⟩, g1 _ (by simp), fun H2 h2 => ?_⟩
                  obtain ⟨g2, kt2⟩ := g1.tab (by simp) h2
                  have wz : wdAll ss + 3 ≤ 16000 := by
                    have : wd (.tuple ss) = wdAll ss + 3 := rfl
                    omega
                  refine all_tupC (K := K) (a := t3) (xs := zs) (fun i H' => TTs a.Ts H' ∧ Kp a.Ts H1 H' ∧ (ss.take i).all (stateD s ss.length) = true) ⟨g2, kt2, rfl⟩ (fun i H' h => sqt_of (h.2.1.tup _ _ e3)) ?_ ?_
                  · rintro i x H' hx ⟨g', k', qa⟩
                    obtain ⟨dx, ex, ax⟩ := hds3.get hx
                    have wx := wd_get ex
                    refine ⟨_, rfl, _, rfl, t3, zs, rfl, .inr (sqt_of (k'.tup _ _ e3)), _, rfl, s, _, x, dx, rfl, ax.kp k' hsub dx, by omega, g', hsub, fun H3 g3 k3 => ⟨_, rfl, ?_⟩⟩
                    rw [lz]
                    cases e6 : stateD s ss.length dx with
                    | true =>
                      refine iteT ⟨g3, k'.trans k3, ?_⟩
                      rw [take_all ex, qa, e6]
                      rfl
                    | false =>
                      have q := kw H3 g3 (k1.trans (k'.trans k3))
                      have e7 : (partsOf (.tuple ss)).all (stateD (valI (.int s)) (partsOf (.tuple ss)).length) = false := all_no (f := stateD s ss.length) ex e6
                      rw [e7] at q
                      exact iteF q
                  · rintro H' ⟨g', k', qa⟩
                    rw [lz, List.take_length] at qa
                    have q := kw H' g' (k1.trans k')
                    have e7 : (partsOf (.tuple ss)).all (stateD (valI (.int s)) (partsOf (.tuple ss)).length) = true := qa
                    rw [e7] at q
                    exact q
end
end Ey
set_option maxHeartbeats 4000000
namespace Ey
open PySem PySem.AutoSeq1
theorem extend_tuple (l : Addr) (items : Array Value) (n : Nat) (b : Addr) (items2 : Array Value) (n2 : Nat) (dd : Option Addr) (sl : Array (Option Value)) (hs0 : ¬(!items.isEmpty && Builtin.List.listTooLong (items.size + items2.size)) = true) (hs1 : items.size ≤ sizeLine) (hs2 : items.size + items2.size ≤ sizeLine + 1) :
    Meets (Builtin.«list.extend» ⟨[.ref l, .ref b], []⟩) (fun _ R s => s.heap.get? l = some { cls := .type "list", dict := none, data := .seq items n, slots := #[] } ∧ s.heap.get? b = some { cls := .type "tuple", dict := dd, data := .seq items2 n2, slots := sl } ∧ R (.ok (.ret Value.none)) { s with heap := s.heap.update l (Obj.mapSeq fun x => x ++ items2), toks := s.toks }) :=
  .of_wp fun prog w A R s h => by
    obtain ⟨hp, g, d, tk, os⟩ := s; obtain ⟨hl, hb, h⟩ := h; have f1 := idx_int; have f2 := sub_tuple_tuple; have f3 := sub_list_list; have f4 := sub_tuple_list; have f5 := sub_list_tuple;
    have hz' : (items ++ items2).size ≤ sizeLine + 1 := by rw [Array.size_append]; exact hs2
    wp_walk using (wpAny_updateSeq hl rfl (hz := hs1) (_hz' := hz')), wpAny_loadPart' hl, wpAny_loadPart' hb; exact ⟨_, rfl, h⟩
end Ey
namespace Ey
open PySem PySem.Spec PyProof.Rows L2
section
variable {X : Cx}
def rExtendT : V → List V → Hp → VK → Prop := fun x vs H Q => ∃ l b xs zs, x = .ref l ∧ vs = [.ref b] ∧ H l = some (.lst xs) ∧ H b = some (.tup zs) ∧ xs.length + zs.length ≤ sizeLine ∧ Q .non (upd H l (.lst (xs ++ zs)))
theorem mt_extendT : MtM X "list.extend" rExtendT := by
  intro pins s σ H x vs v us Q I rx rv h
  obtain ⟨l, b, xs, zs, rfl, rfl, hH, hB, hz, q⟩ := h
  cases rx
  obtain ⟨u, rfl, ru⟩ := rv.one
  cases ru
  obtain ⟨z, its, n, r, hl, e⟩ := I.lstM hH
  obtain ⟨_, its2, r2, ⟨cls, dd, data, sl⟩, e2, hc, n2, hd⟩ := (show ObjOk X.prog X.w H s.heap b (.tup zs) from I.hok b _ hB)
  simp only at hc hd
  subst hc hd
  have hl2 := r2.length
  have hsz : its.toArray.size + its2.toArray.size ≤ sizeLine := by rw [List.size_toArray, List.size_toArray]; omega
  have hlong : ¬ (!its.toArray.isEmpty && Builtin.List.listTooLong (its.toArray.size + its2.toArray.size)) = true := by
    rw [notLongL hsz, Bool.and_false]
    exact Bool.false_ne_true
  refine call_meets PySem.F.slot_list_extend ⟨_, e, rfl⟩ PySem.F.entry_list_extend (PySem.F.args_list_extend_2 _ _)
    (extend_tuple l its.toArray n b its2.toArray n2 dd sl hlong (by rw [List.size_toArray]; omega) (by omega)) ⟨e, e2, ?_⟩
  refine ⟨.non, _, I.lset (its' := its ++ its2) hH e (by simp) (r.append r2) ?_, rfl, q⟩
  rw [List.length_append]
  omega
end
end Ey
set_option maxHeartbeats 4000000
namespace Ey
open PySem PySem.Spec L2 PyProof.Rows
open Sem (wp)
theorem meets_enumerate_newT {v : Value} {o : Obj} {H : Heap → Prop} (B : Begins v o H) :
    Meets (Builtin.«enumerate.__new__» ⟨[.type "enumerate", v], []⟩) (fun _ R s => H s.heap ∧
      R (.ok (.ret (.ref (s.heap.push o).objs.size))) { s with heap := (s.heap.push o).push { cls := .type "enumerate", data := .fields #[.none, .bool false, .ref s.heap.objs.size, rawInt 0, .none, .none] } }) :=
  .of_wp fun prog w A R s h => by
    obtain ⟨hp, g, d, tk, os⟩ := s; obtain ⟨h1, h⟩ := h
    have hsub := sub_enumerate
    have q1 : ∀ {A' : Around} {E : Value → Shared → Prop} {Q : Value → Shared → Prop}, Q (.ref hp.objs.size) ⟨hp.push o, g, d, tk, os⟩ → wpAny (model prog w) A' (pyIter v) Q E ⟨hp, g, d, tk, os⟩ :=
      fun q => B.iter prog w _ _ ⟨hp, g, d, tk, os⟩ _ h1 q
    wp_walk using q1
    refine wpAny_stack_any fun st => wpAny_pure ?_
    split
    · rename_i c _ _ _ _ _
      cases (c == Value.type "enumerate")
      · wp_walk using q1
        exact ⟨_, rfl, h⟩
      · wp_walk using q1
        exact ⟨_, rfl, h⟩
    · wp_walk using q1
      exact ⟨_, rfl, h⟩
section
variable {prog : Program} {w : World} {A : Around} {E : Value → Shared → Prop} {s : Shared}
theorem enum_begins1 {v : Value} {o : Obj} {H : Heap → Prop} {Q : Value → Shared → Prop} (B : Begins v o H) (h1 : H s.heap)
    (h : ∀ h', IsEnum h' (s.heap.objs.size + 1) s.heap.objs.size 0 .none → h'.get? s.heap.objs.size = some o → h'.objs.size = s.heap.objs.size + 2 →
      (∀ b o, s.heap.get? b = some o → h'.get? b = some o) → Q (.ref (s.heap.objs.size + 1)) { s with heap := h' }) :
    wpAny (model prog w) A (call (.type "enumerate") [v]) Q E s := by
  refine callType_new F.called_enumerate (by decide) (F.typeCall_enumerate_1 _) (F.newCall_enumerate_1 _) (fun obj => F.args_object_init_2 obj _) F.entry_enumerate_new
    (meets_enumerate_newT B) ⟨h1, ?_⟩
  have hz : (s.heap.push o).objs.size = s.heap.objs.size + 1 := Heap.size_push ..
  show _ ∧ _
  rw [hz]
  have he : IsEnum ((s.heap.push o).push { cls := .type "enumerate", data := .fields #[.none, .bool false, .ref s.heap.objs.size, rawInt 0, .none, .none] }) (s.heap.objs.size + 1) s.heap.objs.size 0 .none := by
    have := Heap.get?_push_size (s.heap.push o) (o := { cls := .type "enumerate", data := .fields #[.none, .bool false, .ref s.heap.objs.size, rawInt 0, .none, .none] }) rfl
    rw [hz] at this; exact this
  refine ⟨⟨_, he, rfl⟩, h _ he (Heap.get?_push_of_some _ (Heap.get?_push_size _ B.free)) (by rw [Heap.size_push, hz]) fun b o x => Heap.get?_push_of_some _ (Heap.get?_push_of_some _ x)⟩
end
section
variable {prog : Program} {w : World} {A : Around} {E : Value → Shared → Prop} {s : Shared}
theorem enum_endT {e it t : Addr} {items : Array Value} {j : Nat} {i : Int} {old : Value} {Q : Option Value → Shared → Prop} (hh : A.handled = none)
    (he : IsEnum s.heap e it i old) (hit : s.heap.IsTupleIter it t j) (ht : s.heap.IsTuple t items) (hx : items[j]? = none)
    (hQ : ∀ h', Heap.ExtBut it s.heap h' → Q none { s with heap := h' }) : wpAny (model prog w) A (pyNext (.ref e)) Q E s := by
  have hT : s.TypeIs (.ref e) "enumerate" := ⟨_, he, rfl⟩
  unfold pyNext
  refine wpAny_bind (wpAny_attempt (wpAny_callSpecial?_slot (name := Str.ofString "__next__") hT F.slot_enumerate_next
    (wpAny_call_entry F.slot_enumerate_next hT F.entry_enumerate_next ?_ (F.args_enumerate_next_1 _))))
  show wpAny _ _ (field (.ref e) 2 >>= _) _ _ _
  refine wpAny_bind (wpAny_field he rfl (x := .ref it) rfl ?_)
  refine wpAny_bind (wpAny_nextOf_tuple_end hh hit ht hx fun h' x he' hx' => ?_)
  obtain ⟨o, ho, hc⟩ := hx'
  refine wpAny_bind (wpAny_isInstance (T := "StopIteration") (b := true) ⟨o, ho, hc⟩ isSubtype_stop ?_)
  exact wpAny_pure (hQ _ he')
end
/-- the tuple at a, each item in a new pair -/
def Itet (K : PySem.W.Frag) (a : Addr) : It :=
  ⟨fun i H => ∃ (xs : List V) (x : V), SqT K H a xs ∧ xs[i]? = some x, fun i H v H' => ∃ T x, v = .ref T ∧ H T = none ∧ H' = upd H T (.tup [.int (i : Nat), x]) ∧ ∀ xs, SqT K H a xs → xs[i]? = some x, fun i H => ∃ xs : List V, SqT K H a xs ∧ xs.length ≤ i⟩
theorem turn_enumT {P : Program} {w : World} {K : PySem.W.Frag} {elts : List Expr} {kk : Nat} {tpos : Pos} (a e it : Addr) :
    Turn P w K (.Tuple elts kk tpos) (Itet K a) [e, it] e (fun i h => (∃ old, IsEnum h e it ((i : Nat) : Int) old) ∧ h.IsTupleIter it a i ∧ e ≠ it) where
  mem := by simp
  obj := fun i h st b hb => by
    obtain ⟨⟨old, he⟩, ⟨o, ho, hc, hd⟩, _⟩ := st
    have e' : b = e ∨ b = it := by simpa using hb
    rcases e' with z | z
    · rw [z]; exact ⟨_, he, fun v q => nomatch q⟩
    · rw [z]; exact ⟨o, ho, fun v q => by rw [hd] at q; cases q⟩
  keep := fun i h h' st k => let ⟨⟨old, he⟩, hi, hne⟩ := st; ⟨⟨old, k e (by simp) _ he⟩, hi.at fun o q => k it (by simp) o q, hne⟩
  item := by
    intro X hP hw hK hc i pins s σ H E I hf st hg
    subst hP hw hK
    obtain ⟨⟨old, he⟩, hit, hne⟩ := st
    obtain ⟨xs, x, hq, hx⟩ := hg
    obtain ⟨its, rv, p, hz⟩ := I.tuple hq
    obtain ⟨u, hu, ru⟩ := rv.get hx
    have hel : e < s.heap.objs.size := Heap.lt_size he
    have hil : it < s.heap.objs.size := by obtain ⟨_, q, _⟩ := hit; exact Heap.lt_size q
    have hai : a ≠ it := by
      intro z
      subst z
      obtain ⟨o, q, c, _⟩ := hit
      obtain ⟨o2, q2, c2, _⟩ := (show s.heap.IsTuple a its.toArray from p)
      rw [q] at q2
      cases q2
      rw [c] at c2
      injection c2 with c3
      exact absurd c3 (by decide)
    have hae : a ≠ e := by
      intro z
      subst z
      obtain ⟨o2, q2, c2, _⟩ := (show s.heap.IsTuple a its.toArray from p)
      rw [he] at q2
      cases q2
      injection c2 with c3
      exact absurd c3 (by decide)
    have D := Draws.tuple (prog := X.prog) (w := X.w) (A := X.A.in1) (I.ok.hd hc) it a hai its.toArray
    have hlt : i < its.toArray.size := by
      have := (List.getElem?_eq_some_iff.mp hu).1
      simpa using this
    refine wpAny_pyNext_enum_itemD D he ⟨hit, p⟩ hlt hne (by simp [hne, hae.symm]) fun u' h' tk hP ho hst hT hsz hk => ?_
    have eu : u' = u := by
      have q1 : its.toArray[i]? = some u' := hP
      have q2 : its.toArray[i]? = some u := by simpa using hu
      rw [q1] at q2
      exact Option.some.inj q2
    subst eu
    have hit' := hst.1
    refine ⟨_, rfl, wpAny_letOwnedTupleGo_enum (s := { s with heap := h', toks := tk + 1 }) ho fun h'' he' sb => ?_⟩
    have hT2 : h''.get? s.heap.objs.size = some { cls := .type "tuple", data := .seq #[.int i tk, u'] } := (sb.2 _ (Nat.ne_of_gt hel)).trans hT
    have new : ObjOk X.prog X.w (upd H s.heap.objs.size (.tup [.int (i : Nat), x])) h'' s.heap.objs.size (.tup [.int (i : Nat), x]) :=
      ⟨by show 2 ≤ sizeLine; decide, [.int i tk, u'], .cons ⟨_, rfl⟩ (.cons ru .nil), ⟨_, hT2, rfl, _, rfl⟩⟩
    have I1 : Inv X pins σ (upd H s.heap.objs.size (.tup [.int (i : Nat), x])) { s with heap := h'', toks := tk + 1 } :=
      I.turnedNew (ch := [e, it]) (fun b ob hb q => (sb.2 b (fun z => hb (by simp [z]))).trans (hk b ob (fun z => hb (by simp [z])) (fun z => hb (by simp [z])) q)) hf (Nat.le_refl _) new
    refine ⟨.ref s.heap.objs.size, _, I1, rfl, ⟨_, x, rfl, I.hok.fresh (Nat.le_refl _), rfl, fun ys hy => by rw [I.tuple_inj hy hq]; exact hx⟩, ⟨⟨u', ?_⟩, hit'.at fun o q => (sb.2 it (Ne.symm hne)).trans q, hne⟩, fun b hb => ?_⟩
    · have e1 : ((i + 1 : Nat) : Int) = (i : Int) + 1 := by omega
      rw [e1]; exact he'
    · have hb' : b < s.heap.objs.size := by
        have e' : b = e ∨ b = it := by simpa using hb
        rcases e' with z | z
        · rw [z]; exact hel
        · rw [z]; exact hil
      rw [upd_ne (Nat.ne_of_lt hb')]
      exact (hf b hb).1
  done := by
    intro X hP hw hK hc i pins s σ H E I hf st hg
    subst hP hw hK
    obtain ⟨⟨old, he⟩, hit, hne⟩ := st
    obtain ⟨xs, hq, hx⟩ := hg
    obtain ⟨its, rv, p, hz⟩ := I.tuple hq
    obtain ⟨f0, f1, f2, f3, f4, f5⟩ := hf it (by simp)
    have hl := rv.length
    exact enum_endT (I.ok.hd hc) he hit p (by simp; omega) fun h' eb => ⟨rfl, I.turned (t' := s.toks) (fun b o hb q => eb b o hb q) f0 f1 f3 f4 f5⟩
  self := fun A i s Q E st h => let ⟨⟨_, he⟩, _⟩ := st; wpAny_pyIter_enum he h
def iEnumT (K : PySem.W.Frag) (ta : TA) : TI := fun σ H R => ta σ H fun vs H1 => ∃ a xs, vs = [.ref a] ∧ SqT K H1 a xs ∧ R (Itet K a) H1
theorem pi_enumT {X : Cx} {e : Expr} {ta : TA} {p pos tpos : Pos} {elts : List Expr} {kk : Nat} (hg : Gl X "enumerate") (hm : X.mg "enumerate" = none) (ha : PA X [e] ta) (hs : starEach [e] X.env = [(false, eval e X.env)] := by rfl) :
    PI X (.Tuple elts kk tpos) (.Call (.Name "enumerate" p) [e] [] pos) (iEnumT X.K ta) := by
  refine ⟨fun pins s σ H R I h => ?_⟩
  refine Call_ (ld_blt I hg hm boot_enumerate (PyProof.Rows.callWith_type1 (thn (ha.run pos pins s σ H _ I h) fun us s1 ⟨vs, H1, I1, r1, q1⟩ => ?_) hs rfl))
  obtain ⟨a, xs, ex, hq, q⟩ := q1
  subst ex
  cases r1 with
  | cons r rr =>
    cases rr
    cases r
    obtain ⟨its, rv, p', hz⟩ := I1.tuple hq
    refine enum_begins1 (begins_tuple a its.toArray) p' fun h' he hit hsz hk => wpAny_pyIter_enum he ?_
    have I2 : Inv X pins σ H1 { s1 with heap := h' } := I1.kept (t' := s1.toks) hk
    refine ⟨s1.heap.objs.size + 1, [s1.heap.objs.size + 1, s1.heap.objs.size], _, _, H1, rfl, I2, turn_enumT a (s1.heap.objs.size + 1) s1.heap.objs.size, ⟨⟨.none, he⟩, ⟨_, hit, rfl, rfl⟩, Nat.succ_ne_self _⟩, fun b hb => ?_, q⟩
    have e' : b = s1.heap.objs.size + 1 ∨ b = s1.heap.objs.size := by simpa using hb
    have hle : s1.heap.objs.size ≤ b := by
      rcases e' with z | z
      · rw [z]; exact Nat.le_add_right _ _
      · rw [z]; exact Nat.le_refl _
    exact I1.fpOk hle (I1.hok.fresh hle)
end Ey
set_option maxHeartbeats 4000000
namespace Ey
open PySem PySem.Spec PyProof.Rows L2 PySem.SeqAt
section
variable {X : Cx}
/-- t != (), t any tuple -/
def rNeE : R2 := fun x y H Q => ∃ a b xs, x = .ref a ∧ y = .ref b ∧ H a = some (.tup xs) ∧ H b = some (.tup []) ∧ Q (.bl (!xs.isEmpty)) H
theorem op_neE (hu : X.A.units + 64 < cLine) : OpR X (compareOp .NotEq) rNeE := by
  intro pins s σ H x y v u Q I rx ry h
  obtain ⟨a, b, xs, rfl, rfl, h1, h2, q⟩ := h
  cases rx
  cases ry
  obtain ⟨its, r, p⟩ := tup_obj I h1
  obtain ⟨its2, r2, p2⟩ := tup_obj I h2
  cases r2
  refine RcNeAt.tuples (e := fun _ => true) p p2 (by omega) (fun j h1 h2 => absurd h2 (by simp)) _ _ _ _ ⟨.bl (!xs.isEmpty), H, I, ?_, q⟩
  cases r with
  | nil => rfl
  | cons _ _ => rfl
/-- xs != [], xs any list -/
def rNeEL : R2 := fun x y H Q => ∃ a b xs, x = .ref a ∧ y = .ref b ∧ H a = some (.lst xs) ∧ H b = some (.lst []) ∧ Q (.bl (!xs.isEmpty)) H
theorem op_neEL (hu : X.A.units + 64 < cLine) : OpR X (compareOp .NotEq) rNeEL := by
  intro pins s σ H x y v u Q I rx ry h
  obtain ⟨a, b, xs, rfl, rfl, h1, h2, q⟩ := h
  cases rx
  cases ry
  obtain ⟨its, r, p⟩ := lst_obj I h1
  obtain ⟨its2, r2, p2⟩ := lst_obj I h2
  cases r2
  cases r with
  | nil => exact RcNeAt.lists (e := fun _ => true) p p2 rfl (by omega) (fun j h1 h2 => absurd h2 (by simp)) _ _ _ _ ⟨.bl false, H, I, rfl, q⟩
  | cons _ _ => exact RcNeAt.lists_lengths p p2 (by simp) (by omega) _ _ _ _ ⟨.bl true, H, I, rfl, q⟩
end
end Ey
set_option exponentiation.threshold 1000
set_option maxHeartbeats 4000000
namespace Ey
open PySem PySem.Spec L2
abbrev sLInt : Stmt := topS 15
abbrev sLTup : Stmt := topS 16
abbrev sLIsTag : Stmt := topS 17
abbrev sDTags : Stmt := topS 18
abbrev sLTape : Stmt := topS 19
abbrev sDTape : Stmt := topS 20
abbrev sLeaf : Stmt := topS 21
abbrev sBent : Stmt := topS 22
abbrev sOther : Stmt := topS 23
abbrev sBeyond : Stmt := topS 24
abbrev sLaw : Stmt := topS 25
section
variable {X : Cx}
/-- xs == [], xs any list -/
def rEqEL : R2 := fun x y H Q => ∃ a b xs, x = .ref a ∧ y = .ref b ∧ H a = some (.lst xs) ∧ H b = some (.lst []) ∧ Q (.bl xs.isEmpty) H
theorem op_eqEL (hu : X.A.units + 64 < cLine) : OpR X (compareOp .Eq) rEqEL := by
  intro pins s σ H x y v u Q I rx ry h
  obtain ⟨a, b, xs, rfl, rfl, h1, h2, q⟩ := h
  cases rx
  cases ry
  obtain ⟨its, r, p⟩ := lst_obj I h1
  obtain ⟨its2, r2, p2⟩ := lst_obj I h2
  cases r2
  cases r with
  | nil => exact PySem.W.eq_listsT (n := 1) (e := fun _ => true) p p2 rfl (fun j h1 h2 => absurd h2 (by simp)) (by omega) ⟨.bl true, H, I, rfl, q⟩
  | cons _ _ => exact SeqAt.RcAt.lists_lengths p p2 (by simp) (by omega) _ _ _ _ ⟨.bl false, H, I, rfl, q⟩
end
/-- where the law's own looking stands -/
structure LR (K : PySem.W.Frag) (mg : Str → Option Value) (A : Nat → Addr) (D : Nat → FuncData) : Prop where
  B : BI mg
  draw : Df K mg "_law_draw" sDraw ["_law_deck_here", "_law_many"] (A 13) (D 13)
  pick : Df K mg "_law_pick" sPick ["_law_deck_here", "_law_some"] (A 14) (D 14)
  int : Df K mg "_law_is_int" sLInt ["_law_thing", "_law_low", "_law_high"] (A 15) (D 15)
  tup : Df K mg "_law_is_tuple" sLTup ["_law_thing", "_law_many"] (A 16) (D 16)
  tag : Df K mg "_law_is_tag" sLIsTag ["_law_thing"] (A 17) (D 17)
  tape : Df K mg "_law_is_tape" sLTape ["_law_thing"] (A 19) (D 19)
def tupN (n : Int) : PyData → Bool
  | .tuple ds => decide ((ds.length : Int) = n)
  | .none | .bool _ | .int _ | .str _ | .list _ | .dict _ => false
section
variable {Pr : Program} {w : World} {K : PySem.W.Frag} {mg : Str → Option Value} {base : Heap} {ms : List Addr} {A : Nat → Addr} {D : Nat → FuncData}
theorem scLInt : FnScope ["_law_thing", "_law_low", "_law_high"] ["_law_thing", "_law_low", "_law_high"] (defScope sLInt) := ⟨rfl, rfl, rfl, by decide +kernel, rfl, by decide +kernel, by decide +kernel⟩
def spI3 (ms : List Addr) : Sp := fun vs H Q _ => ∃ (v : V) (d : PyData) (lo hi : Int), vs = [v, .int lo, .int hi] ∧ An ms H v d ∧ Q (.bl (intIn lo hi d)) H
theorem ok_lInt (L : LR K mg A D) : FnOk Pr w K mg base CX0 1 (A 15) (D 15) ["_law_thing", "_law_low", "_law_high"] (spI3 ms) := by
  have B := L.B
  refine L.int.F.ok scLInt (fun vs H Q E h => ?_) (fun cdv Ar outer s H vs Q E hr h => ?_)
  · obtain ⟨v, d, lo, hi, rfl, _⟩ := h
    rfl
  · obtain ⟨v, d, lo, hi, rfl, hv, k⟩ := h
    refine ⟨_, pss_one (ps_ret (pe_and (pe_callB call_isi (by rfl) B.isi (by decide +kernel) (pa_cons (pv 0) (pa_cons (pe_bltn (v := .ty "int") (by rfl) B.int (by decide +kernel) rfl) pa_nil)))
      (pe_and (pe_not (pe_callB call_isi (by rfl) B.isi (by decide +kernel) (pa_cons (pv 0) (pa_cons (pe_bltn (v := .ty "bool") (by rfl) B.bool (by decide +kernel) rfl) pa_nil))))
      (pe_one (pe_chain op_le op_le (pv 1) (pv 0) (pv 2)))))), ?_⟩
    cases hv with
    | non => exact ⟨_, rfl, _, .ty "int", _, .type "int", false, rfl, .ty "int", .base .non, kit_ty (by decide +kernel), false, rfl, iteF k⟩
    | bl b => exact ⟨_, rfl, _, .ty "int", _, .type "int", true, rfl, .ty "int", .base (.bl b), kit_ty (by decide +kernel), true, rfl, iteT ⟨_, rfl, _, .ty "bool", _, .type "bool", true, rfl, .ty "bool", .base (.bl b), kit_ty (by decide +kernel), _, rfl, _, rfl, iteF k⟩⟩
    | int i =>
      have fin : ∀ c, (decide (lo ≤ i) && decide (i ≤ hi)) = c → Q (.bl c) H := fun c e => e ▸ k
      refine ⟨_, rfl, _, .ty "int", _, .type "int", true, rfl, .ty "int", .base (.int i), kit_ty (by decide +kernel), true, rfl, iteT ⟨_, rfl, _, .ty "bool", _, .type "bool", false, rfl, .ty "bool", .base (.int i), kit_ty (by decide +kernel), _, rfl, _, rfl, iteT ⟨_, rfl, _, rfl, _, _, rfl, rfl, _, rfl, ite2 (fun h => ?_) (fun h => fin _ (by simp at h ⊢; omega))⟩⟩⟩
      exact ⟨_, rfl, _, _, rfl, rfl, fin _ (by rw [h, Bool.true_and])⟩
    | str x => exact ⟨_, rfl, _, .ty "int", _, .type "int", false, rfl, .ty "int", .base (.str x), kit_ty (by decide +kernel), false, rfl, iteF k⟩
    | lst e => exact ⟨_, rfl, _, .ty "int", _, .type "int", false, rfl, .ty "int", .base (.lst e), kit_ty (by decide +kernel), false, rfl, iteF k⟩
    | tup e => exact ⟨_, rfl, _, .ty "int", _, .type "int", false, rfl, .ty "int", .base (.tup e), kit_ty (by decide +kernel), false, rfl, iteF k⟩
    | dct e => exact ⟨_, rfl, _, .ty "int", _, .type "int", false, rfl, .ty "int", .base (.dK e), kit_ty (by decide +kernel), false, rfl, iteF k⟩
theorem scLTup : FnScope ["_law_thing", "_law_many"] ["_law_thing", "_law_many"] (defScope sLTup) := ⟨rfl, rfl, rfl, by decide +kernel, rfl, by decide +kernel, by decide +kernel⟩
def spTN (ms : List Addr) : Sp := fun vs H Q _ => ∃ (v : V) (d : PyData) (n : Int), vs = [v, .int n] ∧ An ms H v d ∧ Q (.bl (tupN n d)) H
theorem ok_lTup (L : LR K mg A D) : FnOk Pr w K mg base CX0 1 (A 16) (D 16) ["_law_thing", "_law_many"] (spTN ms) := by
  have B := L.B
  refine L.tup.F.ok scLTup (fun vs H Q E h => ?_) (fun cdv Ar outer s H vs Q E hr h => ?_)
  · obtain ⟨v, d, n, rfl, _⟩ := h
    rfl
  · obtain ⟨v, d, n, rfl, hv, k⟩ := h
    refine ⟨_, pss_one (ps_ret (pe_and (pe_callB call_isi (by rfl) B.isi (by decide +kernel) (pa_cons (pv 0) (pa_cons (pe_bltn (v := .ty "tuple") (by rfl) B.tuple (by decide +kernel) rfl) pa_nil)))
      (pe_one (pe_cmpR op_eq (pe_callB call_len_seq (by rfl) B.len PySem.boot_len (pa_cons (pv 0) pa_nil)) (pv 1) (nomark _))))), ?_⟩
    obtain ⟨ty, hty, kty⟩ := hv.tupK (K := K)
    refine ⟨_, rfl, _, .ty "tuple", ty, .type "tuple", _, rfl, .ty "tuple", hty, kty, ?_⟩
    cases hv with
    | non => exact ⟨false, rfl, iteF k⟩
    | bl b => exact ⟨false, rfl, iteF k⟩
    | int i => exact ⟨false, rfl, iteF k⟩
    | str g => exact ⟨false, rfl, iteF k⟩
    | lst e => exact ⟨false, rfl, iteF k⟩
    | dct e => exact ⟨false, rfl, iteF k⟩
    | @tup t xs ds e hds =>
      refine ⟨true, rfl, iteT ⟨_, rfl, t, _, rfl, .inr (sqt_of e), _, rfl, rfl, ?_⟩⟩
      rw [dec_int, hds.length]
      exact k
theorem scLIsTag : FnScope ["_law_thing", "_law_sign"] ["_law_thing"] (defScope sLIsTag) := ⟨rfl, rfl, rfl, by decide +kernel, rfl, by decide +kernel, by decide +kernel⟩
def spL (ms : List Addr) (g : PyData → Bool) : Sp := fun vs H Q _ => ∃ (v : V) (d : PyData), vs = [v] ∧ An ms H v d ∧ wd d ≤ 1000000 ∧ ∀ H', Kp [] H H' → Q (.bl (g d)) H'
theorem ok_lIsTag (L : LR K mg A D) : FnOk Pr w K mg base CX0 1 (A 17) (D 17) ["_law_thing"] (spL ms isTagD) := by
  have B := L.B
  refine L.tag.F.ok scLIsTag (fun vs H Q E h => ?_) (fun cdv Ar outer s H vs Q E hr h => ?_)
  · obtain ⟨v, d, rfl, _⟩ := h
    rfl
  · obtain ⟨v, d, rfl, hv, hz, k⟩ := h
    refine ⟨_, pss_cons (ps_if (PW.pt (pw_or (pt_not (pt_val (pe_callB call_isi (by rfl) B.isi (by decide +kernel) (pa_cons (pv 0) (pa_cons (pe_bltn (v := .ty "str") (by rfl) B.str (by decide +kernel) rfl) pa_nil)))))
        (pw_or1 (pt_not (pt_chain op_le op_le pe_int (pe_callB call_len_str (by rfl) B.len PySem.boot_len (pa_cons (pv 0) pa_nil)) pe_int))))) (pss_one (ps_ret pe_bl)) pss_nil)
      (pss_one (ps_ret (pe_cmpR (op_eqEL hr.units) (pe_lc (own := [("_law_sign", 1)]) (g := gName 1) rfl scLIsTag.nd (pi_str (pv 0)) (blkOk_by (N := ["_law_thing", "_law_sign"]) (sc := defScope sLIsTag) (by decide +kernel)) (fun _ _ _ _ _ => pg_name (i := 1) scLIsTag.nd rfl (Or.inl rfl))
        (fun _ _ _ _ _ => pts_one (pt_cmpR op_notIn_str (pv 1) pe_str (by rfl))) (fun _ _ _ _ _ => pv 1)) (pe_lst pa_nil) (nomark _)))), ?_⟩
    have kH := k H .refl
    obtain ⟨ty, hty, kty⟩ := hv.strK (K := K)
    refine ⟨_, rfl, _, .ty "str", ty, .type "str", _, rfl, .ty "str", hty, kty, ?_⟩
    cases hv with
    | non => exact ⟨false, rfl, iteT kH⟩
    | bl b => exact ⟨false, rfl, iteT kH⟩
    | int i => exact ⟨false, rfl, iteT kH⟩
    | lst e => exact ⟨false, rfl, iteT kH⟩
    | tup e => exact ⟨false, rfl, iteT kH⟩
    | dct e => exact ⟨false, rfl, iteT kH⟩
    | str g =>
      refine ⟨true, rfl, iteF ?_⟩
      have hg : g.length ≤ 1000000 := by
        have h1 : 10 * g.length + 2 ≤ 1000000 := hz
        omega
      have hgs : g.length ≤ sizeLine := Nat.le_trans hg (by decide)
      have fin : ∀ b, isTag g = b → Q (.bl b) H := fun b e => by
        rw [← e]
        exact kH
      refine ⟨_, rfl, _, rfl, hgs, ?_⟩
      refine ⟨_, _, rfl, rfl, _, rfl, ?_⟩
      by_cases h1 : 1 ≤ g.length
      · rw [decide_eq_true (show (1 : Int) ≤ (g.length : Int) by omega)]
        refine iteT ⟨_, _, rfl, rfl, _, rfl, ?_⟩
        by_cases h2 : g.length ≤ 8
        · rw [decide_eq_true (show (g.length : Int) ≤ 8 by omega)]
          refine iteF ⟨_, rfl, g, rfl, fun D nD => ?_⟩
          refine lcStr (z := g) (fun i H2 => H2 D = some (.lst (((g.cps.toList.take i).filter fun c => !decide (c ∈ abc)).map fun c => V.str (st [c]))) ∧ Kp [] H H2)
            ⟨upd_same, .new nD⟩ ?_ ?_
          · rintro i c H2 hi ⟨hD, kH⟩
            refine ⟨rfl, _, rfl, _, _, rfl, rfl, _, rfl, ?_⟩
            have fo : (!(Builtin.Str.occurrences (Str.ofString "abcdefghijklmnopqrstuvwxyz") (st [c]) 0 (Str.ofString "abcdefghijklmnopqrstuvwxyz").length 1).isEmpty) = decide (c ∈ abc) := by
              rw [← abc_is]
              exact PySem.StrLaws.found_one _ c
            have tf := take_filter (f := fun c => !decide (c ∈ abc)) hi
            rw [fo]
            cases e : decide (c ∈ abc) with
            | true =>
              refine iteF ⟨?_, kH⟩
              rw [tf, e, if_neg (by simp), List.append_nil]
              exact hD
            | false =>
              refine iteT ⟨_, rfl, _, hD, ?_, ?_, kH.own nD⟩
              · rw [List.length_map]
                have a := List.length_filter_le (fun c => !decide (c ∈ abc)) (g.cps.toList.take i)
                rw [List.length_take] at a
                have b : g.cps.toList.length = g.length := by rw [Array.length_toList]; rfl
                exact Nat.lt_of_le_of_lt (show _ ≤ 8 by omega) (by decide)
              · rw [upd_same, tf, e, List.map_append]
                rfl
          rintro H3 ⟨hD, k3⟩
          rw [List.take_length] at hD
          refine ⟨Nat.zero_le _, fun p np => ⟨D, p, (g.cps.toList.filter fun c => !decide (c ∈ abc)).map (fun c => V.str (st [c])), rfl, rfl, ?_, upd_same, ?_⟩⟩
          · rw [upd_ne (ne_of_none hD np)]
            exact hD
          rw [List.isEmpty_map, ← isTag_alt g h1 h2]
          exact k _ (k3.trans (.new np))
        · rw [decide_eq_false (show ¬ (g.length : Int) ≤ 8 by omega)]
          refine iteT (fin _ ?_)
          rw [isTag, decide_eq_false h2, Bool.and_false]
          rfl
      · rw [decide_eq_false (show ¬ (1 : Int) ≤ (g.length : Int) by omega)]
        refine iteF ⟨false, rfl, iteT (fin _ ?_)⟩
        rw [isTag, decide_eq_false h1]
        rfl
/-! ### the shapes, made anew -/
end
end Ey
set_option exponentiation.threshold 1000
set_option maxHeartbeats 4000000
namespace Ey
open PySem PySem.Spec L2
theorem fn_ex {P : Program} {w : World} {K : PySem.W.Frag} {mg : Str → Option Value} {base : Heap} {CX : CXT} {k : Nat} {f : Addr} {fd : FuncData} {ps : List Str} {sp : List Addr → Sp} (h : ∀ ms, FnOk P w K mg base CX k f fd ps (sp ms)) :
    FnOk P w K mg base CX k f fd ps (fun vs H Q E => ∃ ms, sp ms vs H Q E) :=
  ⟨fun vs H Q E ⟨ms, x⟩ => (h ms).len vs H Q E x, fun A outer s H args us vs Q E a b c d ⟨ms, x⟩ => (h ms).run A outer s H args us vs Q E a b c d x⟩
def noSt : Stmt := .Pass ⟨0, 0, 0, 0⟩
theorem an_tup {ms : List Addr} {H : Hp} {v : V} {d : PyData} (a : An ms H v d) (h : isTupD d = true) : ∃ (t : Addr) (xs : List V) (ds : List PyData), v = .ref t ∧ d = .tuple ds ∧ H t = some (.tup xs) ∧ AnAll ms H xs ds := by
  cases a with
  | @tup t xs ds e hds => exact ⟨t, xs, ds, rfl, rfl, e, hds⟩
  | int i => cases h
  | non => cases h
  | bl b => cases h
  | str g => cases h
  | lst e => cases h
  | dct e => cases h
theorem tupN_tup {n : Int} {d : PyData} (h : tupN n d = true) : isTupD d = true := by
  cases d with
  | tuple ds => rfl
  | int i => cases h
  | none => cases h
  | bool b => cases h
  | str g => cases h
  | list g => cases h
  | dict g => cases h
theorem stateD_alt (s m : Int) (d : PyData) : stateD s m d = (tupN s d && (partsOf d).all (ruleD s m)) := by
  cases d <;> rfl
theorem ruleD_no {s m : Int} {d : PyData} (h : tupN 3 d = false) : ruleD s m d = false := by
  cases d with
  | tuple ds =>
    refine ruleD_len fun e => ?_
    have h : decide ((ds.length : Int) = 3) = false := h
    rw [decide_eq_true (by omega)] at h
    cases h
  | int i => rfl
  | none => rfl
  | bool b => rfl
  | str g => rfl
  | list g => rfl
  | dict g => rfl
theorem an_three {ms : List Addr} {H : Hp} {xs : List V} {ds : List PyData} (a : AnAll ms H xs ds) (h : ds.length = 3) : ∃ v0 v1 v2 d0 d1 d2, xs = [v0, v1, v2] ∧ ds = [d0, d1, d2] ∧ An ms H v0 d0 ∧ An ms H v1 d1 ∧ An ms H v2 d2 := by
  obtain ⟨d0, d1, d2, rfl⟩ : ∃ d0 d1 d2, ds = [d0, d1, d2] := by
    match ds, h with
    | [x, y, z], _ => exact ⟨x, y, z, rfl⟩
  cases a with
  | cons a0 r => cases r with
    | cons a1 r => cases r with
      | cons a2 r => cases r with
        | nil => exact ⟨_, _, _, _, _, _, rfl, rfl, a0, a1, a2⟩
theorem an_four {ms : List Addr} {H : Hp} {xs : List V} {ds : List PyData} (a : AnAll ms H xs ds) (h : ds.length = 4) : ∃ v0 v1 v2 v3 d0 d1 d2 d3, xs = [v0, v1, v2, v3] ∧ ds = [d0, d1, d2, d3] ∧ An ms H v0 d0 ∧ An ms H v1 d1 ∧ An ms H v2 d2 ∧ An ms H v3 d3 := by
  obtain ⟨d0, d1, d2, d3, rfl⟩ : ∃ d0 d1 d2 d3, ds = [d0, d1, d2, d3] := by
    match ds, h with
    | [x, y, z, u], _ => exact ⟨x, y, z, u, rfl⟩
  cases a with
  | cons a0 r => cases r with
    | cons a1 r => cases r with
      | cons a2 r => cases r with
        | cons a3 r => cases r with
          | nil => exact ⟨_, _, _, _, _, _, _, _, rfl, rfl, a0, a1, a2, a3⟩
theorem tape_no {d : PyData} (h : tupN 4 d = false) : tapeD d = false := by
  cases d with
  | tuple ds =>
    have h : decide ((ds.length : Int) = 4) = false := h
    have h := of_decide_eq_false h
    show tape4 ds = false
    match ds, h with
    | [], _ => rfl
    | [_], _ => rfl
    | [_, _], _ => rfl
    | [_, _, _], _ => rfl
    | [_, _, _, _], h => exact absurd rfl h
    | _ :: _ :: _ :: _ :: _ :: _, _ => rfl
  | int i => rfl
  | none => rfl
  | bool b => rfl
  | str g => rfl
  | list g => rfl
  | dict g => rfl
theorem intIn_fit {lo : Int} {d : PyData} (h : fit d = true) : intIn lo ((10 : Int) ^ (40 : Int).toNat) d = (isIntD d && decide (lo ≤ valI d)) := by
  cases d with
  | int i =>
    have h : decide (i.natAbs < 10 ^ 40) = true := h
    have h := of_decide_eq_true h
    show (decide (lo ≤ i) && decide (i ≤ (10 : Int) ^ (40 : Int).toNat)) = (true && decide (lo ≤ i))
    have e : ((10 ^ 40 : Nat) : Int) = (10 : Int) ^ (40 : Int).toNat := by decide +kernel
    rw [decide_eq_true (show i ≤ (10 : Int) ^ (40 : Int).toNat by omega), Bool.and_true, Bool.true_and]
  | tuple ds => rfl
  | none => rfl
  | bool b => rfl
  | str g => rfl
  | list g => rfl
  | dict g => rfl
section
variable {Pr : Program} {w : World} {K : PySem.W.Frag} {mg : Str → Option Value} {base : Heap} {ms : List Addr} {A : Nat → Addr} {D : Nat → FuncData}
abbrev NLt : List Str := ["_law_thing", "_law_kind", "_law_tags_here", "_law_signs", "_law_states", "_law_state", "_law_rule", "_law_tag"]
theorem scLTape : FnScope NLt ["_law_thing"] (defScope sLTape) := ⟨rfl, rfl, rfl, by decide +kernel, rfl, by decide +kernel, by decide +kernel⟩
def spLt (ms : List Addr) (g : PyData → Bool) : Sp := fun vs H Q _ => ∃ (v : V) (d : PyData), vs = [v] ∧ An ms H v d ∧ fit d = true ∧ wd d ≤ 16000 ∧ ∀ H', Kp [] H H' → Q (.bl (g d)) H'
theorem ok_lTape (L : LR K mg A D) : FnOk Pr w K mg base CX0 3 (A 19) (D 19) ["_law_thing"] (spLt ms tapeD) := by
  have B := L.B
  have gI : FnOk Pr w K mg base CX0 1 (A 15) (D 15) ["_law_thing", "_law_low", "_law_high"] (spI3 ms) := ok_lInt L
  have gT : FnOk Pr w K mg base CX0 1 (A 16) (D 16) ["_law_thing", "_law_many"] (spTN ms) := ok_lTup L
  have gG : FnOk Pr w K mg base CX0 1 (A 17) (D 17) ["_law_thing"] (spL ms isTagD) := ok_lIsTag L
  refine L.tape.F.ok scLTape (fun vs H Q E h => ?_) (fun cdv Ar outer s0 H vs Q E hr h => ?_)
  · obtain ⟨v, d, rfl, _⟩ := h
    rfl
  · obtain ⟨v, d, rfl, hv, hf, hz, k⟩ := h
    have hr1 := hr.mono (show 1 ≤ 2 by decide)
    have hu1 := hr.units
    refine ⟨_, pss_cons (ps_if (PW.pt (pw_or (pt_not (pt_val (pe_call gT hr1 (by rfl) L.tup.g L.tup.F.kp L.tup.b .nil pass0 (pa_cons (pv 0) (pa_cons pe_int pa_nil)))))
        (pw_or (pt_not (pt_val (pe_callB call_isi (by rfl) B.isi (by decide +kernel) (pa_cons (pe_ix (r := rIxT K) ix_tup (pv 0) pe_int (fun _ _ => rfl)) (pa_cons (pe_bltn (v := .ty "str") (by rfl) B.str (by decide +kernel) rfl) pa_nil)))))
        (pw_or (pt_cmpR op_ne (pe_ix (r := rIxT K) ix_tup (pv 0) pe_int (fun _ _ => rfl)) pe_str (nomark _))
        (pw_or1 (pt_not (pt_val (pe_callB call_isi (by rfl) B.isi (by decide +kernel) (pa_cons (pe_ix (r := rIxT K) ix_tup (pv 0) pe_int (fun _ _ => rfl)) (pa_cons (pe_bltn (v := .ty "tuple") (by rfl) B.tuple (by decide +kernel) rfl) pa_nil)))))))))) (pss_one (ps_ret pe_bl)) pss_nil)
      (pss_cons (ps_asg (pv 0) (pg_tup (n := 4) rfl (pgs_cons (pg_name (i := 1) scLTape.nd rfl (.inl rfl)) (pgs_cons (pg_name (i := 2) scLTape.nd rfl (.inl rfl)) (pgs_cons (pg_name (i := 3) scLTape.nd rfl (.inl rfl)) (pgs_cons (pg_name (i := 4) scLTape.nd rfl (.inl rfl)) pgs_nil))))))
      (pss_cons (ps_if (PW.pt (pw_or (pt_cmpR (op_neEL hu1) (pe_lc (own := [("_law_tag", 7)]) (g := gName 7) rfl scLTape.nd (pi_tup (pv 2)) (blkOk_by (N := NLt) (sc := defScope sLTape) (by decide +kernel)) (fun _ _ _ _ _ => pg_name (i := 7) scLTape.nd rfl (Or.inl rfl))
          (fun _ _ _ _ _ => pts_one (pt_not (pt_val (pe_call gG hr1 (by rfl) L.tag.g L.tag.F.kp L.tag.b .nil pass0 (pa_cons (pv 7) pa_nil))))) (fun _ _ _ _ _ => pv 7)) (pe_lst pa_nil) (nomark _))
        (pw_or1 (pt_cmpR op_ne (pe_lenSetS (by rfl) B.len (by rfl) B.set (pv 2)) (pe_callB call_len_seq (by rfl) B.len PySem.boot_len (pa_cons (pv 2) pa_nil)) (nomark _))))) (pss_one (ps_ret pe_bl)) pss_nil)
      (pss_cons (ps_if (PW.pt (pw_or (pt_not (pt_val (pe_call gI hr1 (by rfl) L.int.g L.int.F.kp L.int.b .nil pass0 (pa_cons (pv 3) (pa_cons (pe_op op_add (pe_callB call_len_seq (by rfl) B.len PySem.boot_len (pa_cons (pv 2) pa_nil)) pe_int) (pa_cons (pe_op op_pow pe_int pe_int) pa_nil))))))
        (pw_or (pt_not (pt_val (pe_callB call_isi (by rfl) B.isi (by decide +kernel) (pa_cons (pv 4) (pa_cons (pe_bltn (v := .ty "tuple") (by rfl) B.tuple (by decide +kernel) rfl) pa_nil)))))
        (pw_or1 (pt_cmpR (op_eqE hu1) (pv 4) (pe_tup pa_nil) (nomark _)))))) (pss_one (ps_ret pe_bl)) pss_nil)
      (pss_cons (ps_for PassesOwn.never rfl (pi_tup (pv 4)) (pg_name (i := 5) scLTape.nd rfl (Or.inl rfl))
        (pss_cons (ps_if (pt_not (pt_val (pe_call gT hr1 (by rfl) L.tup.g L.tup.F.kp L.tup.b .nil pass0 (pa_cons (pv 5) (pa_cons (pv 3) pa_nil))))) (pss_one (ps_ret pe_bl)) pss_nil)
        (pss_one (ps_for PassesOwn.never rfl (pi_tup (pv 5)) (pg_name (i := 6) scLTape.nd rfl (Or.inl rfl))
          (pss_cons (ps_if (PW.pt (pw_or (pt_not (pt_val (pe_call gT hr1 (by rfl) L.tup.g L.tup.F.kp L.tup.b .nil pass0 (pa_cons (pv 6) (pa_cons pe_int pa_nil)))))
              (pw_or1 (pt_not (pt_val (pe_call gI hr1 (by rfl) L.int.g L.int.F.kp L.int.b .nil pass0 (pa_cons (pe_ix (r := rIxT K) ix_tup (pv 6) pe_int (fun _ _ => rfl)) (pa_cons pe_int (pa_cons (pe_op op_add (pe_callB call_len_seq (by rfl) B.len PySem.boot_len (pa_cons (pv 4) pa_nil)) pe_int) pa_nil))))))))) (pss_one (ps_ret pe_bl)) pss_nil)
          (pss_one (ps_if (PW.pt (pw_or (pt_not (pt_val (pe_call gI hr1 (by rfl) L.int.g L.int.F.kp L.int.b .nil pass0 (pa_cons (pe_ix (r := rIxT K) ix_tup (pv 6) pe_int (fun _ _ => rfl)) (pa_cons pe_int (pa_cons (pe_op op_sub (pv 3) pe_int) pa_nil))))))
              (pw_or1 (pt_not (pt_val (pe_call gI hr1 (by rfl) L.int.g L.int.F.kp L.int.b .nil pass0 (pa_cons (pe_ix (r := rIxT K) ix_tup (pv 6) pe_int (fun _ _ => rfl)) (pa_cons (pe_un un_neg pe_int) (pa_cons pe_int pa_nil))))))))) (pss_one (ps_ret pe_bl)) pss_nil)))))))
      (pss_one (ps_ret pe_bl)))))), ?_⟩
    have kH := k H .refl
    have nf : tapeD d = false → Q (.bl false) H := fun e => e ▸ kH
    refine ⟨_, rfl, v, d, 4, rfl, hv, _, rfl, ?_⟩
    cases h4 : tupN 4 d with
    | false => exact iteT (nf (tape_no h4))
    | true =>
    obtain ⟨t, xs, ds, rfl, rfl, e, hds⟩ := an_tup hv (tupN_tup h4)
    have l4 : ds.length = 4 := by
      have h := of_decide_eq_true h4
      omega
    obtain ⟨v0, v1, v2, v3, d0, d1, d2, d3, rfl, rfl, a0, a1, a2, a3⟩ := an_four hds l4
    have w4 : wd d0 + 2 + (wd d1 + 2 + (wd d2 + 2 + (wd d3 + 2 + 0))) + 3 ≤ 16000 := hz
    have f4 : (fit d0 && (fit d1 && (fit d2 && (fit d3 && true)))) = true := hf
    rw [Bool.and_eq_true, Bool.and_eq_true, Bool.and_eq_true, Bool.and_eq_true] at f4
    have kw : ∀ H', Kp [] H H' → Q (.bl (isThe "tape" d0 && (tagsD d1 && ((isIntD d2 && decide (((partsOf d1).length : Int) + 2 ≤ valI d2)) && (isTupD d3 && (!(partsOf d3).isEmpty && (partsOf d3).all (stateD (valI d2) (partsOf d3).length))))))) H' := k
    have nk : isThe "tape" d0 = false → Q (.bl false) H := fun e => by
      have q := kw H .refl
      rw [e] at q
      exact q
    obtain ⟨ty0, hty0, kty0⟩ := a0.strK (K := K)
    refine iteF ⟨_, rfl, t, _, _, _, rfl, rfl, sqt_of e, atI_nat (j := 0) rfl, _, .ty "str", ty0, .type "str", _, rfl, .ty "str", hty0, kty0, ?_⟩
    cases a0 with
    | non => exact ⟨false, rfl, iteT (nk rfl)⟩
    | bl b => exact ⟨false, rfl, iteT (nk rfl)⟩
    | int i => exact ⟨false, rfl, iteT (nk rfl)⟩
    | lst e => exact ⟨false, rfl, iteT (nk rfl)⟩
    | tup e => exact ⟨false, rfl, iteT (nk rfl)⟩
    | dct e => exact ⟨false, rfl, iteT (nk rfl)⟩
    | str g =>
    refine ⟨true, rfl, iteF ⟨_, rfl, t, _, _, _, rfl, rfl, sqt_of e, atI_nat (j := 0) rfl, rfl, _, rfl, ?_⟩⟩
    by_cases hg : g = "tape"
    rotate_left
    · rw [decide_eq_false (show ¬ V.str g = V.str "tape" from fun z => hg (V.str.inj z))]
      exact iteT (nk (decide_eq_false hg))
    rw [decide_eq_true (congrArg V.str hg)]
    have ek : isThe "tape" (.str g) = true := decide_eq_true hg
    rw [ek] at kw
    obtain ⟨ty1, hty1, kty1⟩ := a1.tupK (K := K)
    refine iteF ⟨_, rfl, t, _, _, _, rfl, rfl, sqt_of e, atI_nat (j := 1) rfl, _, .ty "tuple", ty1, .type "tuple", _, rfl, .ty "tuple", hty1, kty1, ?_⟩
    have kt := kw H .refl
    have a1' := a1
    cases a1 with
    | non => exact ⟨false, rfl, iteT kt⟩
    | bl b => exact ⟨false, rfl, iteT kt⟩
    | int i => exact ⟨false, rfl, iteT kt⟩
    | str g => exact ⟨false, rfl, iteT kt⟩
    | lst e => exact ⟨false, rfl, iteT kt⟩
    | dct e => exact ⟨false, rfl, iteT kt⟩
    | @tup t1 ys ts e1 hd1 =>
    have ly := hd1.length
    have w1 : wdAll ts + 3 = wd (.tuple ts) := rfl
    refine ⟨true, rfl, iteF ⟨_, rfl, t, _, rfl, sqt_of e, rfl, _, _, rfl, _, _, rfl, _, _, rfl, _, _, rfl, rfl, ?_⟩⟩
    -- the tags
    refine ⟨_, rfl, t1, rfl, ⟨_, sqt_of e1⟩, fun D1 nD => ?_⟩
    refine lc_tup (K := K) (a := t1) (xs := ys) (fun i H' => (∃ us, H' D1 = some (.lst us) ∧ us.length ≤ i ∧ us.isEmpty = (ts.take i).all isTagD) ∧ Kp [] H H') ⟨⟨[], upd_same, Nat.le_refl _, rfl⟩, .new nD⟩ (fun i H' _ h => sqt_of (h.2.tup _ _ e1)) ?_ ?_
    · rintro i x H' hx ⟨⟨us, hD, hlu, hus⟩, k'⟩
      obtain ⟨dx, ex, ax⟩ := hd1.get hx
      have wx := wd_get ex
      have hil : i < ts.length := (List.getElem?_eq_some_iff.mp ex).1
      have hln := len_wd ts
      refine ⟨rfl, _, rfl, x, dx, rfl, ax.kp k' (by simp) dx, by omega, fun H3 k3 => ⟨_, rfl, ?_⟩⟩
      have hD3 := k3.at_ _ _ hD List.not_mem_nil
      have k13 := k'.trans k3
      cases e2 : isTagD dx with
      | true =>
        refine iteF ⟨⟨us, hD3, Nat.le_succ_of_le hlu, ?_⟩, k13⟩
        rw [take_all ex, hus, e2, Bool.and_true]
      | false =>
        refine iteT ⟨_, rfl, us, hD3, Nat.lt_of_le_of_lt (show us.length ≤ 1000000 by omega) (by decide), ⟨us ++ [x], upd_same, ?_, ?_⟩, k13.own nD⟩
        · rw [List.length_append]
          exact Nat.succ_le_succ hlu
        · rw [take_all ex, e2, Bool.and_false]
          cases us <;> rfl
    rintro H1 ⟨⟨us, hD, hlu, hus⟩, k1⟩
    rw [ly, List.take_length] at hus
    refine ⟨Nat.zero_le _, fun p np => ⟨D1, p, us, rfl, rfl, by rw [upd_ne (ne_of_none hD np)]; exact hD, upd_same, _, rfl, ?_⟩⟩
    have k2 : Kp [] H (upd H1 p (.lst [])) := k1.trans (.new np)
    generalize upd H1 p (.lst []) = H2 at k2
    clear hD np
    rw [hus]
    cases ht : ts.all isTagD with
    | false =>
      have q := kw H2 k2
      have e5 : tagsD (.tuple ts) = false := by
        show (ts.all isTagD && _) = false
        rw [ht]
        rfl
      rw [e5] at q
      exact iteT q
    | true =>
    obtain ⟨es1, es2, es3⟩ := strs_an hd1 ht
    have e12 := k2.tup _ _ e1
    refine iteF ⟨_, rfl, t1, strsOf ts, rfl, by rw [← es1]; exact sqt_of e12, by omega, _, rfl, t1, _, rfl, .inr (sqt_of e12), rfl, _, rfl, ?_⟩
    rw [dec_int, ly]
    by_cases hds2 : distN (strsOf ts) = ts.length
    rotate_left
    · rw [decide_eq_false (show ¬ ((distN (strsOf ts) : Nat) : Int) = ((ts.length : Nat) : Int) by omega)]
      have q := kw H2 k2
      have e5 : tagsD (.tuple ts) = false := by
        show (ts.all isTagD && decide (distN (strsOf ts) = ts.length)) = false
        rw [decide_eq_false hds2, Bool.and_false]
      rw [e5] at q
      exact iteT q
    rw [decide_eq_true (show ((distN (strsOf ts) : Nat) : Int) = ((ts.length : Nat) : Int) by omega)]
    have e5 : tagsD (.tuple ts) = true := by
      show (ts.all isTagD && decide (distN (strsOf ts) = ts.length)) = true
      rw [ht, decide_eq_true hds2]
      rfl
    rw [e5] at kw
    -- the number of signs
    refine iteF ⟨_, rfl, _, rfl, t1, _, rfl, .inr (sqt_of e12), _, _, rfl, rfl, _, _, rfl, rfl, (⟨by decide, by decide, by decide⟩ : (0 : Int) ≤ 40 ∧ (40 : Int) ≤ 1000000 ∧ (10 : Int).natAbs < 2 ^ 64), v2, d2, _, _, rfl, a2.kp k2 (by simp) d2, _, rfl, ?_⟩
    rw [ly, intIn_fit f4.2.2.1]
    cases hs : (isIntD d2 && decide (((ts.length : Nat) : Int) + 2 ≤ valI d2)) with
    | false =>
      have q := kw H2 k2
      have e6 : (isIntD d2 && decide (((partsOf (.tuple ts)).length : Int) + 2 ≤ valI d2)) = false := hs
      rw [e6] at q
      exact iteT q
    | true =>
    have e6 : (isIntD d2 && decide (((partsOf (.tuple ts)).length : Int) + 2 ≤ valI d2)) = true := hs
    rw [e6] at kw
    rw [Bool.and_eq_true] at hs
    obtain ⟨s, rfl, rfl⟩ := int_an a2 hs.1
    have a3' := a3.kp k2 (by simp) d3
    obtain ⟨ty3, hty3, kty3⟩ := a3'.tupK (K := K)
    refine iteF ⟨_, rfl, _, .ty "tuple", ty3, .type "tuple", _, rfl, .ty "tuple", hty3, kty3, ?_⟩
    have kt := kw H2 k2
    cases a3' with
    | non => exact ⟨false, rfl, iteT kt⟩
    | bl b => exact ⟨false, rfl, iteT kt⟩
    | int i => exact ⟨false, rfl, iteT kt⟩
    | str g => exact ⟨false, rfl, iteT kt⟩
    | lst e => exact ⟨false, rfl, iteT kt⟩
    | dct e => exact ⟨false, rfl, iteT kt⟩
    | @tup t3 zs ss e3 hd3 =>
    have lz := hd3.length
    have w3 : wdAll ss + 3 = wd (.tuple ss) := rfl
    refine ⟨true, rfl, iteF ⟨_, rfl, Nat.zero_le _, fun p np => ⟨t3, p, zs, rfl, rfl, (Kp.new (ms := []) np).tup _ _ e3, upd_same, _, rfl, ?_⟩⟩⟩
    have k3 : Kp [] H2 (upd H2 p (.tup [])) := .new np
    generalize upd H2 p (.tup []) = H3 at k3
    clear np
    have ez : zs.isEmpty = ss.isEmpty := by
      cases hd3 <;> rfl
    rw [ez]
    have k03 := k2.trans k3
    cases he : ss.isEmpty with
    | true =>
      have q := kw H3 k03
      have e7 : (partsOf (.tuple ss)).isEmpty = true := he
      rw [e7] at q
      exact iteT q
    | false =>
    have e7 : (partsOf (.tuple ss)).isEmpty = false := he
    rw [e7] at kw
    have kz : ∀ b H', ss.all (stateD s ss.length) = b → Kp [] H H' → Q (.bl b) H' := fun b H' e8 k' => e8 ▸ kw H' k'
    have e33 := k3.tup _ _ e3
    -- the states
    refine iteF ⟨_, rfl, t3, rfl, ⟨_, sqt_of e33⟩, ?_⟩
    refine for_tup (K := K) (a := t3) (xs := zs) (fun i σ H' => (∃ y5 y6, σ = [some (.ref t), some (.str g), some (.ref t1), some (.int s), some (.ref t3), y5, y6, none]) ∧ Kp [] H3 H' ∧ (ss.take i).all (stateD s ss.length) = true)
      ⟨⟨_, _, rfl⟩, .refl, rfl⟩ (fun i σ H' _ h => sqt_of (h.2.1.tup _ _ e33)) ?_ ?_
    · rintro i x σ H4 hx ⟨⟨y5, y6, rfl⟩, k4, qa⟩
      obtain ⟨dx, ex, ax⟩ := hd3.get hx
      have wx := wd_get ex
      have ax4 := (ax.kp k3 (by simp) dx).kp k4 (by simp) dx
      refine ⟨_, rfl, _, rfl, x, dx, _, rfl, ax4, _, rfl, ?_⟩
      cases e8 : tupN s dx with
      | false =>
        refine iteT (kz false H4 (all_no ex ?_) (k03.trans k4))
        rw [stateD_alt, e8, Bool.false_and]
      | true =>
      obtain ⟨t5, rs, ps, rfl, rfl, e9, hd5⟩ := an_tup ax4 (tupN_tup e8)
      have w5 : wdAll ps + 3 = wd (.tuple ps) := rfl
      have lr := hd5.length
      refine iteF ⟨_, rfl, t5, rfl, ⟨_, sqt_of e9⟩, ?_⟩
      refine for_tup (K := K) (a := t5) (xs := rs) (fun j σ H' => (∃ y6, σ = [some (.ref t), some (.str g), some (.ref t1), some (.int s), some (.ref t3), some (.ref t5), y6, none]) ∧ Kp [] H4 H' ∧ (ps.take j).all (ruleD s ss.length) = true)
        ⟨⟨_, rfl⟩, .refl, rfl⟩ (fun j σ H' _ h => sqt_of (h.2.1.tup _ _ e9)) ?_ ?_
      · rintro j y σ H5 hy ⟨⟨y6, rfl⟩, k5, qb⟩
        obtain ⟨dy, ey, ay⟩ := hd5.get hy
        have ay5 := ay.kp k5 (by simp) dy
        have no : ruleD s ss.length dy = false → Q (.bl false) H5 := fun e10 => by
          refine kz false H5 (all_no ex ?_) (k03.trans (k4.trans k5))
          rw [stateD_alt]
          show (_ && ps.all _) = false
          rw [all_no ey e10, Bool.and_false]
        refine ⟨_, rfl, y, dy, _, rfl, ay5, _, rfl, ?_⟩
        cases e10 : tupN 3 dy with
        | false => exact iteT (no (ruleD_no e10))
        | true =>
        obtain ⟨t6, qs, us3, rfl, rfl, e11, hd6⟩ := an_tup ay5 (tupN_tup e10)
        have l3 : us3.length = 3 := by
          have h := of_decide_eq_true e10
          omega
        obtain ⟨u0, u1, u2, c0, c1, c2, rfl, rfl, b0, b1, b2⟩ := an_three hd6 l3
        have no3 : (intIn 0 ((ss.length : Int) + 1) c0 && (intIn 0 (s - 1) c1 && intIn (-1) 1 c2)) = false → Q (.bl false) H5 := no
        have e335 := (k4.trans k5).tup _ _ e33
        refine iteF ⟨_, rfl, t6, _, _, _, rfl, rfl, sqt_of e11, atI_nat (j := 0) rfl, _, rfl, t3, _, rfl, .inr (sqt_of e335), _, _, rfl, rfl, _, _, _, _, rfl, b0, _, rfl, ?_⟩
        rw [lz]
        cases q0 : intIn 0 ((ss.length : Int) + 1) c0 with
        | false => exact iteT (no3 (by rw [q0]; rfl))
        | true =>
        refine iteF ⟨_, rfl, t6, _, _, _, rfl, rfl, sqt_of e11, atI_nat (j := 1) rfl, _, rfl, _, _, rfl, rfl, _, _, _, _, rfl, b1, _, rfl, ?_⟩
        cases q1 : intIn 0 (s - 1) c1 with
        | false => exact iteT (no3 (by rw [q1, Bool.false_and, Bool.and_false]))
        | true =>
        refine iteF ⟨_, rfl, t6, _, _, _, rfl, rfl, sqt_of e11, atI_nat (j := 2) rfl, _, rfl, _, _, _, _, rfl, b2, _, rfl, ?_⟩
        cases q2 : intIn (-1) 1 c2 with
        | false => exact iteT (no3 (by rw [show intIn (-1) 1 c2 = false from q2, Bool.and_false, Bool.and_false]))
        | true =>
        refine iteF ⟨⟨_, rfl⟩, k5, ?_⟩
        rw [take_all ey, qb]
        show (true && (intIn 0 ((ss.length : Int) + 1) c0 && (intIn 0 (s - 1) c1 && intIn (-1) 1 c2))) = true
        rw [q0, q1, show intIn (-1) 1 c2 = true from q2]
        rfl
      · rintro σ H5 ⟨⟨y6, rfl⟩, k5, qb⟩
        rw [lr, List.take_length] at qb
        refine ⟨⟨_, _, rfl⟩, k4.trans k5, ?_⟩
        rw [take_all ex, qa, stateD_alt, e8]
        show (true && (true && ps.all (ruleD s ss.length))) = true
        rw [qb]
        rfl
    · rintro σ H4 ⟨⟨y5, y6, rfl⟩, k4, qa⟩
      rw [lz, List.take_length] at qa
      exact kz true H4 qa (k03.trans k4)
end
end Ey
set_option maxHeartbeats 4000000
namespace Ey
open PySem PySem.Spec L2
/-! ### bounds of any data; the deck beside it -/
theorem cps_len (z : Str) : z.cps.toList.length = z.length := by
  rw [Array.length_toList]
  rfl
theorem wd_mem {x : PyData} : ∀ {ds : List PyData}, x ∈ ds → wd x + 2 ≤ wdAll ds
  | y :: r, h => by
    rcases List.mem_cons.mp h with rfl | h
    · show wd x + 2 ≤ wd x + 2 + wdAll r
      omega
    · have := wd_mem h
      show wd x + 2 ≤ wd y + 2 + wdAll r
      omega
mutual
def fitJ (B : Nat) : PyData → Bool
  | .none | .bool _ => true
  | .int i => decide (i.natAbs < B)
  | .str x => x.cps.toList.all fun c => decide (c < 128)
  | .list ds | .tuple ds => fitJAll B ds
  | .dict kvs => fitJKv B kvs
def fitJAll (B : Nat) : List PyData → Bool
  | [] => true
  | x :: r => fitJ B x && fitJAll B r
def fitJKv (B : Nat) : List (PyData × PyData) → Bool
  | [] => true
  | (k, v) :: r => (fitJ B k && fitJ B v) && fitJKv B r
end
mutual
theorem fitJ_le {B C : Nat} (h : B ≤ C) : ∀ d : PyData, fitJ B d = true → fitJ C d = true
  | .none, _ => rfl
  | .bool _, _ => rfl
  | .int i, e => by
    have q : i.natAbs < B := of_decide_eq_true e
    exact decide_eq_true (Nat.lt_of_lt_of_le q h)
  | .str x, e => e
  | .list ds, e => fitJAll_le h ds e
  | .tuple ds, e => fitJAll_le h ds e
  | .dict ds, e => fitJKv_le h ds e
theorem fitJAll_le {B C : Nat} (h : B ≤ C) : ∀ d : List PyData, fitJAll B d = true → fitJAll C d = true
  | [], _ => rfl
  | x :: r, e => by
    have q : (fitJ B x && fitJAll B r) = true := e
    rw [Bool.and_eq_true] at q
    show (fitJ C x && fitJAll C r) = true
    rw [fitJ_le h x q.1, fitJAll_le h r q.2]
    rfl
theorem fitJKv_le {B C : Nat} (h : B ≤ C) : ∀ d : List (PyData × PyData), fitJKv B d = true → fitJKv C d = true
  | [], _ => rfl
  | (k, v) :: r, e => by
    have q : ((fitJ B k && fitJ B v) && fitJKv B r) = true := e
    rw [Bool.and_eq_true, Bool.and_eq_true] at q
    show ((fitJ C k && fitJ C v) && fitJKv C r) = true
    rw [fitJ_le h k q.1.1, fitJ_le h v q.1.2, fitJKv_le h r q.2]
    rfl
end
mutual
theorem fitJ_is : ∀ d : PyData, fitJ (10 ^ 40) d = true → fit d = true
  | .none, _ => rfl
  | .bool _, _ => rfl
  | .int i, h => h
  | .str x, h => by
    have q : (x.cps.toList.all fun c => decide (c < 128)) = true := h
    rw [List.all_eq_true] at q
    show (x.cps.toList.all fun c => decide (c < 1000)) = true
    rw [List.all_eq_true]
    intro c hc
    have := of_decide_eq_true (q c hc)
    exact decide_eq_true (by omega)
  | .list ds, h => fitJAll_is ds h
  | .tuple ds, h => fitJAll_is ds h
  | .dict ds, h => fitJKv_is ds h
theorem fitJAll_is : ∀ d : List PyData, fitJAll (10 ^ 40) d = true → fitAll d = true
  | [], _ => rfl
  | x :: r, h => by
    have q : (fitJ (10 ^ 40) x && fitJAll (10 ^ 40) r) = true := h
    rw [Bool.and_eq_true] at q
    show (fit x && fitAll r) = true
    rw [fitJ_is x q.1, fitJAll_is r q.2]
    rfl
theorem fitJKv_is : ∀ d : List (PyData × PyData), fitJKv (10 ^ 40) d = true → fitKv d = true
  | [], _ => rfl
  | (k, v) :: r, h => by
    have q : ((fitJ (10 ^ 40) k && fitJ (10 ^ 40) v) && fitJKv (10 ^ 40) r) = true := h
    rw [Bool.and_eq_true, Bool.and_eq_true] at q
    show ((fit k && fit v) && fitKv r) = true
    rw [fitJ_is k q.1.1, fitJ_is v q.1.2, fitJKv_is r q.2]
    rfl
end
theorem fitJ_mem {B : Nat} {x : PyData} : ∀ {ds : List PyData}, fitJAll B ds = true → x ∈ ds → fitJ B x = true
  | y :: r, h, hx => by
    have h2 : (fitJ B y && fitJAll B r) = true := h
    rw [Bool.and_eq_true] at h2
    rcases List.mem_cons.mp hx with rfl | hx
    · exact h2.1
    · exact fitJ_mem h2.2 hx
theorem fitJ_all {B : Nat} : ∀ {ds : List PyData}, (∀ x ∈ ds, fitJ B x = true) → fitJAll B ds = true
  | [], _ => rfl
  | y :: r, h => by
    show (fitJ B y && fitJAll B r) = true
    rw [h y (by simp), fitJ_all fun x hx => h x (List.mem_cons_of_mem _ hx)]
    rfl
structure GoodJ (B n w : Nat) (x : PyData) : Prop where
  f : fitJ B x = true
  d : x.depth ≤ n
  w : wd x ≤ w
theorem GoodJ.mono {B C n w n' w' : Nat} {x : PyData} (g : GoodJ B n w x) (h0 : B ≤ C) (h1 : n ≤ n') (h2 : w ≤ w') : GoodJ C n' w' x := ⟨fitJ_le h0 x g.f, Nat.le_trans g.d h1, Nat.le_trans g.w h2⟩
theorem GoodJ.good {B n w : Nat} {x : PyData} (g : GoodJ B n w x) (h0 : B ≤ 10 ^ 40) : Good n w x := ⟨fitJ_is x (fitJ_le h0 x g.f), g.d, g.w⟩
inductive GoodJAll (B n w : Nat) : List PyData → Prop
  | nil : GoodJAll B n w []
  | cons {x : PyData} {r : List PyData} : GoodJ B n w x → GoodJAll B n w r → GoodJAll B n w (x :: r)
theorem GoodJAll.facts {B n w : Nat} {ds : List PyData} (h : GoodJAll B n w ds) : fitJAll B ds = true ∧ PyData.depthAll ds ≤ n ∧ wdAll ds ≤ (w + 2) * ds.length := by
  induction h with
  | nil => exact ⟨rfl, Nat.zero_le _, Nat.zero_le _⟩
  | @cons x r g _ ih =>
    obtain ⟨a, b, c⟩ := ih
    refine ⟨?_, ?_, ?_⟩
    · show (fitJ B x && fitJAll B r) = true
      rw [g.f, a]
      rfl
    · show max x.depth (PyData.depthAll r) ≤ n
      have := g.d
      omega
    · show wd x + 2 + wdAll r ≤ (w + 2) * (r.length + 1)
      have := g.w
      rw [Nat.mul_add]
      omega
theorem GoodJAll.snoc {B n w : Nat} {ds : List PyData} {x : PyData} (h : GoodJAll B n w ds) (g : GoodJ B n w x) : GoodJAll B n w (ds ++ [x]) := by
  induction h with
  | nil => exact .cons g .nil
  | cons a _ ih => exact .cons a ih
def wJ : Nat → Nat
  | 0 => 140
  | n + 1 => 3 * wJ n + 150
theorem wJ_ge : ∀ n, 140 ≤ wJ n
  | 0 => Nat.le_refl _
  | n + 1 => by
    have := wJ_ge n
    show 140 ≤ 3 * wJ n + 150
    omega
/-- the deck, and what else is not data -/
structure Frame (ms : List Addr) (d l : Addr) (H : Hp) : Prop where
  dk : DeckAt H d l
  dm : d ∈ ms
  lm : l ∈ ms
  has : Has ms H
theorem Frame.sub {ms : List Addr} {d l : Addr} {H : Hp} (F : Frame ms d l H) : ∀ x ∈ [d, l], x ∈ ms := fun x hx => by
  rcases List.mem_cons.mp hx with rfl | hx
  · exact F.dm
  · rw [List.mem_singleton.mp hx]
    exact F.lm
theorem DeckAt.some_ {d l : Addr} {H : Hp} (D : DeckAt H d l) : ∀ b ∈ [d, l], H b ≠ none := fun b hb => by
  obtain ⟨m, n, ns, h1, h2, _⟩ := D.ex
  rcases List.mem_cons.mp hb with rfl | hb
  · rw [h1]
    exact fun z => nomatch z
  · rw [List.mem_singleton.mp hb, h2]
    exact fun z => nomatch z
theorem Frame.go {ms : List Addr} {d l : Addr} {H H1 : Hp} (F : Frame ms d l H) (k : Kp [d, l] H H1) (D : DeckAt H1 d l) : Frame ms d l H1 := ⟨D, F.dm, F.lm, F.has.kp k D.some_⟩
theorem Frame.kp0 {ms : List Addr} {d l : Addr} {H H1 : Hp} (F : Frame ms d l H) (k : Kp [] H H1) : Frame ms d l H1 := ⟨F.dk.kp k List.not_mem_nil List.not_mem_nil, F.dm, F.lm, F.has.kp k fun b hb => absurd hb List.not_mem_nil⟩
theorem Frame.new {ms : List Addr} {d l p : Addr} {H : Hp} {o : HO} (F : Frame ms d l H) (n : H p = none) : Frame ms d l (upd H p o) := F.kp0 (.new n)
theorem Frame.ne {ms : List Addr} {d l p : Addr} {H : Hp} (F : Frame ms d l H) (n : H p = none) : p ≠ d ∧ p ≠ l :=
  ⟨fun e => F.has d F.dm (e ▸ n), fun e => F.has l F.lm (e ▸ n)⟩
def bAny : Nat := 10 ^ 39 + 1
theorem nat_low (n : Nat) : ∀ c ∈ (toString n).toList, c.toNat < 128 := by
  intro c hc
  have e : (toString n).toList = Nat.toDigits 10 n := by
    show (Nat.repr n).toList = _
    unfold Nat.repr
    simp
  rw [e] at hc
  have := Nat.isDigit_of_mem_toDigits (by decide) (by decide) hc
  unfold Char.isDigit at this
  simp only [Bool.and_eq_true, decide_eq_true_eq] at this
  have h2 : c.val.toNat ≤ 57 := this.2
  show c.val.toNat < 128
  omega
theorem int_low (B : Nat) (i : Int) : fitJ B (.str (Str.ofString (toString i))) = true := by
  show ((Str.ofString (toString i)).cps.toList.all fun c => decide (c < 128)) = true
  have e : (Str.ofString (toString i)).cps.toList = (toString i).toList.map Char.toNat := by
    rw [Str.ofString_eq_toList]
  rw [e, List.all_map, List.all_eq_true]
  intro c hc
  refine decide_eq_true ?_
  show c.toNat < 128
  cases i with
  | ofNat n => exact nat_low n c hc
  | negSucc n =>
    have e2 : (toString (Int.negSucc n)).toList = '-' :: (toString (n + 1)).toList := by
      show ("-" ++ Nat.repr (n + 1)).toList = _
      rw [String.toList_append]
      rfl
    rw [e2] at hc
    rcases List.mem_cons.mp hc with rfl | hc
    · decide
    · exact nat_low _ c hc
theorem dep_mem {x : PyData} : ∀ {ds : List PyData}, x ∈ ds → x.depth ≤ PyData.depthAll ds
  | y :: r, hx => by
    show x.depth ≤ max y.depth (PyData.depthAll r)
    rcases List.mem_cons.mp hx with rfl | hx
    · omega
    · have := dep_mem hx
      omega
theorem fitJ_app (B : Nat) (b : List PyData) : ∀ a : List PyData, fitJAll B (a ++ b) = (fitJAll B a && fitJAll B b)
  | [] => rfl
  | x :: r => by
    show (fitJ B x && fitJAll B (r ++ b)) = ((fitJ B x && fitJAll B r) && fitJAll B b)
    rw [fitJ_app B b r, Bool.and_assoc]
theorem dep_app (b : List PyData) : ∀ a : List PyData, PyData.depthAll (a ++ b) = max (PyData.depthAll a) (PyData.depthAll b)
  | [] => by
    show PyData.depthAll b = max 0 (PyData.depthAll b)
    omega
  | x :: r => by
    show max x.depth (PyData.depthAll (r ++ b)) = max (max x.depth (PyData.depthAll r)) (PyData.depthAll b)
    rw [dep_app b r]
    omega
theorem wd_app (b : List PyData) : ∀ a : List PyData, wdAll (a ++ b) = wdAll a + wdAll b
  | [] => (Nat.zero_add _).symm
  | x :: r => by
    show wd x + 2 + wdAll (r ++ b) = wd x + 2 + wdAll r + wdAll b
    rw [wd_app b r]
    omega
theorem fitJ_rev (B : Nat) (a : List PyData) (h : fitJAll B a = true) : fitJAll B a.reverse = true := fitJ_all fun x hx => fitJ_mem h (List.mem_reverse.mp hx)
theorem dep_rev : ∀ a : List PyData, PyData.depthAll a.reverse = PyData.depthAll a
  | [] => rfl
  | x :: r => by
    rw [List.reverse_cons, dep_app, dep_rev r]
    show max (PyData.depthAll r) (max x.depth 0) = max x.depth (PyData.depthAll r)
    omega
theorem wd_rev : ∀ a : List PyData, wdAll a.reverse = wdAll a
  | [] => rfl
  | x :: r => by
    rw [List.reverse_cons, wd_app, wd_rev r]
    show wdAll r + (wd x + 2 + 0) = wd x + 2 + wdAll r
    omega
theorem cut_facts (B : Nat) (ds : List PyData) (n : Nat) (h : fitJAll B ds = true) : fitJAll B (ds.take n) = true ∧ fitJAll B (ds.drop n) = true ∧ PyData.depthAll (ds.take n) ≤ PyData.depthAll ds ∧ PyData.depthAll (ds.drop n) ≤ PyData.depthAll ds ∧ wdAll (ds.take n) + wdAll (ds.drop n) = wdAll ds := by
  have e := List.take_append_drop n ds
  have h1 := fitJ_app B (ds.drop n) (ds.take n)
  have h2 := dep_app (ds.drop n) (ds.take n)
  have h3 := wd_app (ds.drop n) (ds.take n)
  rw [e] at h1 h2 h3
  rw [h1, Bool.and_eq_true] at h
  refine ⟨h.1, h.2, ?_, ?_, h3.symm⟩ <;> rw [h2] <;> omega
/-- one part told otherwise -/
theorem swap_good {B C n w : Nat} {ds : List PyData} {i : Nat} {xi x' : PyData} (h : fitJAll B ds = true) (e : ds[i]? = some xi) (hBC : B ≤ C) (g : GoodJ C (xi.depth + n) (2 * wd xi + w) x') :
    GoodJ C ((PyData.tuple ds).depth + n) (2 * wd (.tuple ds) + w) (.tuple (ds.take i ++ [x'] ++ ds.drop (i + 1))) := by
  obtain ⟨a1, a2, a3, a4, a5⟩ := cut_facts B ds (i + 1) h
  obtain ⟨b1, b2, b3, b4, b5⟩ := cut_facts B ds i h
  have et : wdAll (ds.take (i + 1)) = wdAll (ds.take i) + (wd xi + 2 + 0) := by
    rw [List.take_add_one, e, wd_app]
    rfl
  have hm := dep_mem (List.mem_of_getElem? e)
  have hw := wd_mem (List.mem_of_getElem? e)
  have gd := g.d
  have gw := g.w
  have f2 := g.f
  refine ⟨?_, ?_, ?_⟩
  · show fitJAll C (ds.take i ++ [x'] ++ ds.drop (i + 1)) = true
    rw [fitJ_app, fitJ_app, fitJAll_le hBC _ b1, fitJAll_le hBC _ a2]
    show (true && (fitJ C x' && true)) && true = true
    rw [f2]
    rfl
  · show PyData.depthAll (ds.take i ++ [x'] ++ ds.drop (i + 1)) + 1 ≤ PyData.depthAll ds + 1 + n
    rw [dep_app, dep_app]
    show max (max (PyData.depthAll (ds.take i)) (max x'.depth 0)) (PyData.depthAll (ds.drop (i + 1))) + 1 ≤ _
    omega
  · show wdAll (ds.take i ++ [x'] ++ ds.drop (i + 1)) + 3 ≤ 2 * (wdAll ds + 3) + w
    rw [wd_app, wd_app]
    show wdAll (ds.take i) + (wd x' + 2 + 0) + wdAll (ds.drop (i + 1)) + 3 ≤ _
    omega
theorem cut_mid (xs : List V) (i : Nat) : cutV xs (some (i : Int)) (some ((i + 1 : Nat) : Int)) = (xs.take (i + 1)).drop i := by
  unfold cutV
  rw [HT.sIx_nat, HT.sIx_nat, List.drop_take]
  by_cases h : i + 1 ≤ xs.length
  · rw [Nat.min_eq_left h, Nat.min_eq_left (by omega)]
  · rw [Nat.min_eq_right (by omega)]
    by_cases h2 : i ≤ xs.length
    · rw [Nat.min_eq_left h2, List.take_of_length_le (by rw [List.length_drop]; exact Nat.le_refl _), List.take_of_length_le (by rw [List.length_drop]; omega)]
    · rw [Nat.min_eq_right (by omega), List.drop_length, List.drop_of_length_le (by omega)]
      simp
theorem str_eta (z : Str) : z = st z.cps.toList := by
  cases z
  rfl
theorem cut_oneS (p : List Nat) : cutS (st p) (some 1) none = st (p.drop 1) := by
  unfold cutS
  rw [HT.sIx_none]
  have e : HT.sIx (st p).length 0 (some 1) = min 1 p.length := HT.sIx_nat _ _ 1
  rw [e, st_list, st_len]
  cases p with
  | nil => rfl
  | cons c r =>
    have : min 1 (c :: r).length = 1 := by rw [List.length_cons]; omega
    rw [this]
    show st (List.take (r.length + 1 - 1) r) = st r
    rw [Nat.add_sub_cancel, List.take_length]
theorem cut_fromS (z : Str) : (cutS z (some 1) none).cps.toList = z.cps.toList.drop 1 := by
  rw [str_eta z, cut_oneS, st_list, st_list]
theorem app_lo {a b : Str} (h : ∀ c ∈ a.cps.toList, c < 128) (h2 : ∀ c ∈ b.cps.toList, c < 128) : ∀ c ∈ (a ++ b).cps.toList, c < 128 := by
  rw [str_eta a, str_eta b, st_app, st_list]
  intro c hc
  rcases List.mem_append.mp hc with q | q
  · exact h c q
  · exact h2 c q
theorem up_lo {a : Str} (h : ∀ c ∈ a.cps.toList, c < 128) : (∀ c ∈ (PySem.Txt.upper a).cps.toList, c < 128) ∧ (PySem.Txt.upper a).length = a.length := by
  rw [PyProof.Rows.upper_ascii h]
  refine ⟨fun c hc => ?_, ?_⟩
  · have hc : c ∈ (a.cps.map PyProof.Rows.up1).toList := hc
    rw [Array.toList_map] at hc
    obtain ⟨x, hx, rfl⟩ := List.mem_map.mp hc
    have := h x hx
    unfold PyProof.Rows.up1
    split <;> omega
  · show (a.cps.map PyProof.Rows.up1).size = a.cps.size
    rw [Array.size_map]
end Ey
namespace Ey
open PySem PySem.Spec PyProof.Rows L2
def Lw (x : Str) : Prop := ∀ c ∈ x.cps.toList, c < 1000
theorem lw_app {a b : Str} (h : Lw a) (h2 : Lw b) : Lw (a ++ b) := by
  show ∀ c ∈ (a ++ b).cps.toList, c < 1000
  rw [str_eta a, str_eta b, st_app, st_list]
  intro c hc
  rcases List.mem_append.mp hc with q | q
  · exact h c q
  · exact h2 c q
theorem lw_char : ∀ c, c < 128 → ((Builtin.Str.reprChar 39 c).all fun x => decide (x < 1000)) = true ∧ ((Builtin.Str.reprChar 34 c).all fun x => decide (x < 1000)) = true := by decide +kernel
theorem lw_fold (q : Nat) (hq : q = 39 ∨ q = 34) : ∀ (l : List Nat) (acc : Array Nat), (∀ c ∈ l, c < 128) → (∀ c ∈ acc.toList, c < 1000) → ∀ c ∈ (l.foldl (fun out c => out ++ (Builtin.Str.reprChar q c).toArray) acc).toList, c < 1000
  | [], acc, _, h => h
  | x :: r, acc, hl, h => by
    refine lw_fold q hq r _ (fun c hc => hl c (List.mem_cons_of_mem _ hc)) fun c hc => ?_
    rw [Array.toList_append] at hc
    rcases List.mem_append.mp hc with z | z
    · exact h c z
    · obtain ⟨a, b⟩ := lw_char x (hl x List.mem_cons_self)
      rcases hq with rfl | rfl
      · exact of_decide_eq_true (List.all_eq_true.mp a c z)
      · exact of_decide_eq_true (List.all_eq_true.mp b c z)
theorem lw_repr {x : Str} (h : ∀ c ∈ x.cps.toList, c < 128) : Lw (reprText x) := by
  have hq : reprQuote x = 39 ∨ reprQuote x = 34 := by
    unfold reprQuote
    split
    · exact .inr rfl
    · exact .inl rfl
  intro c hc
  have hc : c ∈ ((x.cps.foldl (fun out c => out ++ (Builtin.Str.reprChar (reprQuote x) c).toArray) #[reprQuote x]).push (reprQuote x)).toList := hc
  rw [Array.toList_push, ← Array.foldl_toList] at hc
  have q0 : reprQuote x < 1000 := by omega
  rcases List.mem_append.mp hc with z | z
  · refine lw_fold _ hq _ _ h (fun c hc => ?_) c z
    have : c = reprQuote x := by simpa using hc
    omega
  · have : c = reprQuote x := by simpa using z
    omega
theorem lw_from : ∀ (ts : List Str) (k : Nat) (acc : Str), Lw acc → (∀ t ∈ ts, Lw t) → Lw (textFrom k acc ts)
  | [], _, _, h, _ => h
  | t :: r, k, acc, h, hr => by
    refine lw_from r (k + 1) _ (lw_app (lw_app h ?_) (hr t List.mem_cons_self)) fun x hx => hr x (List.mem_cons_of_mem _ hx)
    by_cases e : k > 0
    · rw [if_pos e]
      unfold Lw
      decide +kernel
    · rw [if_neg e]
      unfold Lw
      decide +kernel
theorem lw_join : ∀ ts : List Str, (∀ t ∈ ts, Lw t) → Lw (Str.join ", " ts)
  | [], _ => by
    unfold Lw
    decide +kernel
  | [x], h => h x List.mem_cons_self
  | x :: y :: r, h => by
    have sep : Lw ", " := by
      unfold Lw
      decide +kernel
    exact lw_app (lw_app (h x List.mem_cons_self) sep) (lw_join (y :: r) fun t ht => h t (List.mem_cons_of_mem _ ht))
mutual
theorem lw_shown {B : Nat} : ∀ d : PyData, fitJ B d = true → Lw d.shown
  | .none, _ => by
    show Lw "None"
    unfold Lw
    decide +kernel
  | .bool b, _ => by
    cases b
    · show Lw "False"
      unfold Lw
      decide +kernel
    · show Lw "True"
      unfold Lw
      decide +kernel
  | .int i, _ => by
    intro c hc
    have h := int_low 0 i
    have q : ((Str.ofString (toString i)).cps.toList.all fun c => decide (c < 128)) = true := h
    have := of_decide_eq_true (List.all_eq_true.mp q c hc)
    omega
  | .str x, h => by
    have q : (x.cps.toList.all fun c => decide (c < 128)) = true := h
    exact lw_repr fun c hc => of_decide_eq_true (List.all_eq_true.mp q c hc)
  | .list ds, h => by
    show Lw (textFrom 0 "[" (PyData.shownAll ds) ++ "]")
    exact lw_app (lw_from _ _ _ (by unfold Lw; decide +kernel) (lw_shownAll ds h)) (by unfold Lw; decide +kernel)
  | .tuple ds, h => by
    show Lw (("(" : Str) ++ Str.join ", " (PyData.shownAll ds) ++ (if (PyData.shownAll ds).length == 1 then ",)" else ")" : String))
    refine lw_app (lw_app (by unfold Lw; decide +kernel) (lw_join _ (lw_shownAll ds h))) ?_
    split <;> (unfold Lw; decide +kernel)
  | .dict ds, h => by
    show Lw (("{" : Str) ++ Str.join ", " (PyData.shownKv ds) ++ "}")
    exact lw_app (lw_app (by unfold Lw; decide +kernel) (lw_join _ (lw_shownKv ds h))) (by unfold Lw; decide +kernel)
theorem lw_shownAll {B : Nat} : ∀ ds : List PyData, fitJAll B ds = true → ∀ t ∈ PyData.shownAll ds, Lw t
  | [], _ => fun t ht => absurd ht List.not_mem_nil
  | x :: r, h => by
    have q : (fitJ B x && fitJAll B r) = true := h
    rw [Bool.and_eq_true] at q
    intro t ht
    have ht : t ∈ x.shown :: PyData.shownAll r := ht
    rcases List.mem_cons.mp ht with rfl | z
    · exact lw_shown x q.1
    · exact lw_shownAll r q.2 t z
theorem lw_shownKv {B : Nat} : ∀ ds : List (PyData × PyData), fitJKv B ds = true → ∀ t ∈ PyData.shownKv ds, Lw t
  | [], _ => fun t ht => absurd ht List.not_mem_nil
  | (k, v) :: r, h => by
    have q : ((fitJ B k && fitJ B v) && fitJKv B r) = true := h
    rw [Bool.and_eq_true, Bool.and_eq_true] at q
    intro t ht
    have ht : t ∈ (k.shown ++ ": " ++ v.shown) :: PyData.shownKv r := ht
    rcases List.mem_cons.mp ht with rfl | z
    · exact lw_app (lw_app (lw_shown k q.1.1) (by unfold Lw; decide +kernel)) (lw_shown v q.1.2)
    · exact lw_shownKv r q.2 t z
end
end Ey
set_option maxHeartbeats 4000000
namespace Ey
open PySem PySem.Spec L2
/-! ### t[:at] + (e,) + t[at + 1:], t and at read by any terms -/
abbrev tBehG (tb ta : TE) : TE := tSl rCut tb (tPart (tOp (rI0 fun i j => .int (i + j)) ta (tC (.int 1)))) tNoPart
abbrev tSwpG (tb ta te : TE) : TE := tOp rCat2 (tOp rCat2 (tSl rCut tb tNoPart (tPart ta)) (tTup (tCons te tNil))) (tBehG tb ta)
/-- what is made of e's value -/
def SwG (tb ta : TE) (Q : VK) (q1 : Addr) (σ : L2.St) : VK := fun v H2 => [v].length ≤ sizeLine ∧ ∀ p, H2 p = none → rCat2 (.ref q1) (.ref p) (upd H2 p (.tup [v])) fun y H3 => tBehG tb ta σ H3 fun z H4 => rCat2 y z H4 Q
theorem swpG {tb ta te : TE} {σ : L2.St} {H : Hp} {Q : VK} {a : Addr} {xs : List V} {i : Nat} (h1 : ∀ Q' : VK, Q' (.ref a) H → tb σ H Q') (h3 : ∀ Q' : VK, Q' (.int (i : Nat)) H → ta σ H Q') (e : H a = some (.tup xs))
    (k : ∀ (q1 : Addr) (H1 : Hp), H1 q1 = some (.tup (xs.take i)) → Kp [] H H1 → te σ H1 (SwG tb ta Q q1 σ)) : tSwpG tb ta te σ H Q := by
  refine h1 _ (h3 _ ⟨_, rfl, a, xs, rfl, e, fun q1 H1 e1 k1 => ?_⟩)
  rw [cut_take] at e1
  exact k q1 H1 e1 k1
theorem swG {tb ta : TE} {Q : VK} {q1 a : Addr} {σ : L2.St} {v : V} {H2 : Hp} {xs : List V} {i : Nat} (h1 : ∀ H', Kp [] H2 H' → ∀ Q' : VK, Q' (.ref a) H' → tb σ H' Q') (h3 : ∀ H', Kp [] H2 H' → ∀ Q' : VK, Q' (.int (i : Nat)) H' → ta σ H' Q') (hl : xs.length ≤ 300000) (e1 : H2 q1 = some (.tup (xs.take i))) (e : H2 a = some (.tup xs))
    (k : ∀ (q : Addr) (H3 : Hp), H3 q = some (.tup (xs.take i ++ [v] ++ xs.drop (i + 1))) → Kp [] H2 H3 → Q (.ref q) H3) : SwG tb ta Q q1 σ v H2 := by
  have ei1 : ((i : Int) + 1) = ((i + 1 : Nat) : Int) := by omega
  have lim : ∀ n, n ≤ 900010 → n ≤ sizeLine := fun n h => Nat.le_trans h (by decide)
  have cut : ∀ n, (xs.take n).length ≤ 300000 ∧ (xs.drop n).length ≤ 300000 := fun n => by
    rw [List.length_take, List.length_drop]
    omega
  refine ⟨by show 1 ≤ sizeLine; decide, fun p np => ?_⟩
  have k7 : Kp [] H2 (upd H2 p (.tup [v])) := .new np
  have e7 : (upd H2 p (.tup [v])) p = some (.tup [v]) := upd_same
  generalize upd H2 p (.tup [v]) = H7 at k7 e7
  refine ⟨q1, p, _, _, rfl, rfl, k7.tup _ _ e1, e7, lim _ (by show (xs.take i).length + 1 ≤ 900010; have := cut i; omega), fun q3 H8 e8 k8 => ?_⟩
  have k28 := k7.trans k8
  refine h1 _ k28 _ (h3 _ k28 _ ⟨_, _, rfl, rfl, _, rfl, a, xs, rfl, k28.tup _ _ e, fun q4 H9 e9 k9 => ?_⟩)
  rw [ei1, cut_drop] at e9
  refine ⟨q3, q4, _, _, rfl, rfl, k9.tup _ _ e8, e9, lim _ (by rw [List.length_append]; show (xs.take i).length + 1 + _ ≤ 900010; have := cut i; have := cut (i + 1); omega), fun q5 H10 e10 k10 => ?_⟩
  exact k q5 H10 e10 (k28.trans (k9.trans k10))
section
variable {Pr : Program} {w : World} {K : PySem.W.Frag} {mg : Str → Option Value} {base : Heap} {A : Nat → Addr} {D : Nat → FuncData}
/-- one sign of a text -/
def spPickS : Sp := fun vs H Q _ => ∃ (d l : Addr) (g : Str), vs = [.ref d, .str g] ∧ DeckAt H d l ∧ 0 < g.length ∧ g.length ≤ 1000 ∧
  ∀ (c : Nat) (H' : Hp), c ∈ g.cps.toList → DeckAt H' d l → Kp [d, l] H H' → Q (.str (st [c])) H'
theorem ok_pickS (L : LR K mg A D) : FnOk Pr w K mg base CX0 2 (A 14) (D 14) ["_law_deck_here", "_law_some"] spPickS := by
  have B := L.B
  refine L.pick.F.ok scPick (fun vs H Q E h => ?_) (fun cdv A outer s H vs Q E hr h => ?_)
  · obtain ⟨d, l, g, rfl, _⟩ := h
    rfl
  · obtain ⟨d, l, g, rfl, DA, h0, h1, k⟩ := h
    refine ⟨_, pss_one (ps_ret (pe_ix ix_str (pv 1) (pe_call (ok_draw L.draw.F B) hr (by rfl) L.draw.g L.draw.F.kp L.draw.b .nil pass0 (pa_cons (pv 0) (pa_cons (pe_callB call_len_str (by rfl) B.len PySem.boot_len (pa_cons (pv 1) pa_nil)) pa_nil))) (fun _ _ => rfl))), ?_⟩
    have hs : g.length ≤ sizeLine := Nat.le_trans h1 (by decide)
    refine ⟨_, rfl, _, rfl, _, rfl, g, rfl, hs, d, l, _, rfl, DA, by omega, by omega, fun r H' r0 r1 D' kp => ?_⟩
    obtain ⟨i, rfl⟩ : ∃ i : Nat, r = (i : Int) := ⟨r.toNat, by omega⟩
    have hi : i < g.cps.toList.length := by
      rw [cps_len]
      omega
    exact ⟨g, i, g.cps.toList[i], rfl, rfl, hs, atI_nat (List.getElem?_eq_getElem hi), k _ H' (List.getElem_mem hi) D' kp⟩
end
end Ey
set_option maxHeartbeats 4000000
namespace Ey
open PySem PySem.Spec L2
theorem glue_one : ∀ (l : List Nat) (a : Array Nat), List.foldl (fun (acc : Array Nat) (p : Str) => acc ++ (Str.ofString "").cps ++ p.cps) a (l.map fun k => st [k]) = a ++ l.toArray
  | [], a => by simp
  | x :: r, a => by
    rw [List.map_cons, List.foldl_cons, glue_one r]
    have e : (Str.ofString "").cps = #[] := by decide +kernel
    rw [e]
    show a ++ #[] ++ #[x] ++ r.toArray = a ++ (x :: r).toArray
    simp
theorem join_st (l : List Nat) : Txt.join "" (l.map fun k => st [k]) = st l := by
  unfold Txt.join Builtin.Str.glued
  cases l with
  | nil => rfl
  | cons x r =>
    have := glue_one r #[x]
    show Str.mk (List.foldl _ #[x] (r.map fun k => st [k])) = st (x :: r)
    rw [this]
    show Str.mk _ = Str.mk _
    congr 1
    simp
/-- a drawn text: low signs, few -/
structure LowS (g : Str) : Prop where
  c : ∀ x ∈ g.cps.toList, x < 128
  l : g.length ≤ 8
theorem LowS.good {B : Nat} {g : Str} (h : LowS g) : GoodJ B 0 82 (.str g) := by
  refine ⟨?_, Nat.le_refl _, ?_⟩
  · show (g.cps.toList.all fun c => decide (c < 128)) = true
    rw [List.all_eq_true]
    exact fun x hx => decide_eq_true (h.c x hx)
  · show 10 * g.length + 2 ≤ 82
    have := h.l
    omega
theorem Frame.set {ms : List Addr} {d l F : Addr} {H : Hp} {xs ys : List V} (Fr : Frame ms d l H) (hF : H F = some (.lst xs)) (hd : F ≠ d) (hl : F ≠ l) : Frame ms d l (upd H F (.lst ys)) := by
  have kD : Kp [F] H (upd H F (.lst ys)) := .put (by simp) hF (fun _ z => by cases z)
  refine ⟨Fr.dk.kp kD (by simp [hd.symm]) (by simp [hl.symm]), Fr.dm, Fr.lm, Fr.has.kp kD fun b hb => ?_⟩
  rw [List.mem_singleton.mp hb, upd_same]
  exact fun z => nomatch z
theorem an_strs (ms : List Addr) (H : Hp) : ∀ gs : List Str, AnAll ms H (gs.map V.str) (gs.map PyData.str)
  | [] => .nil
  | g :: r => .cons (.str g) (an_strs ms H r)
theorem flat_all (gs : List Str) : (gs.map V.str).all flatV = true := by
  rw [List.all_map]
  exact List.all_eq_true.mpr fun _ _ => rfl
theorem inV_strs (g : Str) (gs : List Str) (h : inV (.str g) (gs.map V.str) = true) : g ∈ gs := by
  unfold inV at h
  rw [List.any_map, List.any_eq_true] at h
  obtain ⟨y, hy, e⟩ := h
  have e : eqV (.str y) (.str g) = true := e
  have : y = g := by simpa [eqV] using e
  exact this ▸ hy
/-- of five texts one is not among two -/
theorem spare_ex {gs : List Str} (h : gs.length ≤ 2) (h1 : ("yes" : Str) ∈ gs) (h2 : ("top" : Str) ∈ gs) (h3 : ("fun" : Str) ∈ gs) : False := by
  have n1 : ("yes" : Str) ≠ "top" := by decide +kernel
  have n2 : ("yes" : Str) ≠ "fun" := by decide +kernel
  have n3 : ("top" : Str) ≠ "fun" := by decide +kernel
  match gs, h, h1, h2, h3 with
  | [], _, h1, _, _ => cases h1
  | [a], _, h1, h2, _ => exact n1 ((List.mem_singleton.mp h1).trans (List.mem_singleton.mp h2).symm)
  | [a, b], _, h1, h2, h3 =>
    simp only [List.mem_cons, List.not_mem_nil, or_false] at h1 h2 h3
    rcases h1 with h1 | h1 <;> rcases h2 with h2 | h2 <;> rcases h3 with h3 | h3
    · exact n1 (h1.trans h2.symm)
    · exact n1 (h1.trans h2.symm)
    · exact n2 (h1.trans h3.symm)
    · exact n3 (h2.trans h3.symm)
    · exact n3 (h2.trans h3.symm)
    · exact n2 (h1.trans h3.symm)
    · exact n1 (h1.trans h2.symm)
    · exact n1 (h1.trans h2.symm)
def fb : Stmt → List Stmt
  | .For _ _ b _ _ => b
  | _ => []
structure LT (K : PySem.W.Frag) (mg : Str → Option Value) (A : Nat → Addr) (D : Nat → FuncData) : Prop extends LR K mg A D where
  dtags : Df K mg "_law_tags" sDTags ["_law_deck_here", "_law_many"] (A 18) (D 18)
section
variable {Pr : Program} {w : World} {K : PySem.W.Frag} {mg : Str → Option Value} {base : Heap} {A : Nat → Addr} {D : Nat → FuncData}
abbrev NDt : List Str := ["_law_deck_here", "_law_many", "_law_found", "_law_turn", "_law_size", "_law_tag", "_law_spare", "_law_letter", "_law_one"]
theorem scDTags : FnScope NDt ["_law_deck_here", "_law_many"] (defScope sDTags) := ⟨rfl, rfl, rfl, by decide +kernel, rfl, by decide +kernel, by decide +kernel⟩
def spDTags : Sp := fun vs H Q _ => ∃ (d l : Addr) (ms : List Addr) (many : Nat), vs = [.ref d, .int many] ∧ many ≤ 3 ∧ Frame ms d l H ∧
  ∀ (t : Addr) (gs : List Str) (H' : Hp), H' t = some (.tup (gs.map V.str)) → (∀ g ∈ gs, LowS g) → gs.length = many → Frame ms d l H' → Kp [d, l] H H' → Q (.ref t) H'
theorem abc_low : ∀ c ∈ (Str.ofString "abcdefghijklmnopqrstuvwxyz").cps.toList, c < 128 := by decide +kernel
theorem ok_dTags (L : LT K mg A D) : FnOk Pr w K mg base CX0 4 (A 18) (D 18) ["_law_deck_here", "_law_many"] spDTags := by
  have B := L.B
  refine L.dtags.F.ok scDTags (fun vs H Q E h => ?_) (fun cdv Ar outer s H vs Q E hr h => ?_)
  · obtain ⟨d, l, ms, many, rfl, _⟩ := h
    rfl
  · obtain ⟨d, l, ms, many, rfl, hm, Fr, k⟩ := h
    have hr2 := hr.mono (show 2 ≤ 3 by decide)
    have hr1 := hr.mono (show 1 ≤ 3 by decide)
    refine ⟨_, pss_cons (ps_set (i := 2) scDTags.nd rfl (.inr rfl) (pe_lst pa_nil))
      (pss_cons (ps_for PassesOwn.never rfl (pi_range1 (by rfl) B.range (pa_cons (pv 1) pa_nil)) (pg_name (i := 3) scDTags.nd rfl (.inl rfl))
        (pss_cons (ps_set (i := 4) scDTags.nd rfl (.inl rfl) (pe_call (ok_pick L.pick.F B L.draw) hr2 (by rfl) L.pick.g L.pick.F.kp L.pick.b .nil pass0 (pa_cons (pv 0) (pa_cons (pe_lst (pa_cons pe_int (pa_cons pe_int (pa_cons pe_int (pa_cons pe_int (pa_cons pe_int pa_nil)))))) pa_nil))))
        (pss_cons (ps_set (i := 5) scDTags.nd rfl (.inl rfl) (pe_join pe_str (pe_lc (own := [("_law_letter", 7)]) (g := gName 7) (tt := tYes) rfl scDTags.nd (pi_range1 (by rfl) B.range (pa_cons (pv 4) pa_nil)) (blkOk_by (N := NDt) (sc := defScope sDTags) (by decide +kernel)) (fun _ _ _ _ _ => pg_name (i := 7) scDTags.nd rfl (Or.inl rfl)) (fun _ _ _ _ _ => pts_nil)
          (fun _ _ _ _ _ => pe_call (ok_pickS L.toLR) hr2 (by rfl) L.pick.g L.pick.F.kp L.pick.b .nil pass0 (pa_cons (pv 0) (pa_cons pe_str pa_nil))))))
        (pss_cons (ps_setLc (i := 6) (own := [("_law_one", 8)]) (g := gName 8) (by rfl) scDTags.nd rfl rfl (sw_true rfl rfl rfl (by decide +kernel)) (pi_tup (pe_tup (pa_cons (pv 5) (pa_cons pe_str (pa_cons pe_str (pa_cons pe_str (pa_cons pe_str pa_nil))))))) (blkOk_by (N := NDt) (sc := defScope sDTags) (by decide +kernel)) (fun _ _ _ _ _ => pg_name (i := 8) scDTags.nd rfl (Or.inl rfl))
          (fun _ _ _ _ _ => pts_one (pt_cmpR (r := rIn K true) op_notIn_seq (pv 8) (pv 2) (by rfl))) (fun _ _ _ _ _ => pv 8))
        (pss_one (ps_expr (pe_bm PySem.F.plainAttrs_list PySem.F.slot_list_append PySem.F.type_list_append mt_append (pv 2) (pa_cons (pe_ix ix_list (pv 6) pe_int (fun _ _ => rfl)) pa_nil))))))))
      (pss_one (ps_ret (pe_callTy call_tuple_of (by rfl) B.tuple (by decide +kernel) (pa_cons (pv 2) pa_nil))))), ?_⟩
    refine ⟨Nat.zero_le _, fun F nF => ?_⟩
    have fF := Fr.has.fresh nF
    have hFd : F ≠ d := fun e => fF (e ▸ Fr.dm)
    have hFl : F ≠ l := fun e => fF (e ▸ Fr.lm)
    refine ⟨_, rfl, many, rfl, by omega, by omega, ?_⟩
    rw [Int.toNat_natCast]
    refine for_range (lo := 0) (n := many) (fun i σ H' => (∃ y3 y4 y5 y6, σ = [some (.ref d), some (.int many), some (.ref F), y3, y4, y5, y6, none, none]) ∧ (∃ gs : List Str, H' F = some (.lst (gs.map V.str)) ∧ (∀ g ∈ gs, LowS g) ∧ gs.length = i) ∧ Frame ms d l H' ∧ Kp [d, l] H H')
      ⟨⟨_, _, _, _, rfl⟩, ⟨[], upd_same, by simp, rfl⟩, Fr.new nF, .new nF⟩ ?_ ?_
    · rintro i σ H1 hi ⟨⟨y3, y4, y5, y6, rfl⟩, ⟨gs, hF, hlow, hlen⟩, F1, k1⟩
      refine ⟨_, rfl, by show 5 ≤ sizeLine; decide, fun p np => ?_⟩
      have nn := F1.ne np
      have F2 := F1.new (o := .lst [.int 1, .int 2, .int 1, .int 8, .int 4]) np
      refine ⟨d, l, p, _, rfl, F2.dk, sql_of upd_same, by simp, by show 5 ≤ 1000000; decide, nn.1, nn.2, fun u H3 hu D3 k3 => ?_⟩
      have F3 := F2.go k3 D3
      have k13 : Kp [d, l] H1 H3 := (Kp.new np).trans k3
      obtain ⟨z, rfl, hz⟩ : ∃ z : Nat, u = .int z ∧ z ≤ 8 := by
        simp only [List.mem_cons, List.not_mem_nil, or_false] at hu
        rcases hu with rfl | rfl | rfl | rfl | rfl
        · exact ⟨1, rfl, by decide⟩
        · exact ⟨2, rfl, by decide⟩
        · exact ⟨1, rfl, by decide⟩
        · exact ⟨8, rfl, by decide⟩
        · exact ⟨4, rfl, by decide⟩
      have hF3 : H3 F = some (.lst (gs.map V.str)) := k13.at_ _ _ hF (by simp [hFd, hFl])
      have k03 := k1.trans k13
      -- the tag
      refine ⟨⟨_, rfl⟩, _, rfl, (z : Int), rfl, by omega, by omega, ?_⟩
      rw [Int.toNat_natCast]
      intro Dl nD
      have fD := F3.has.fresh nD
      have hDd : Dl ≠ d := fun e => fD (e ▸ F3.dm)
      have hDl : Dl ≠ l := fun e => fD (e ▸ F3.lm)
      refine lc_range (lo := 0) (n := z) (fun j H4 => (∃ cs : List Nat, H4 Dl = some (.lst ((cs.map fun k => st [k]).map V.str)) ∧ (∀ c ∈ cs, c < 128) ∧ cs.length = j) ∧ Frame ms d l H4 ∧ Kp [d, l] H3 H4)
        ⟨⟨[], upd_same, by simp, rfl⟩, F3.new nD, .new nD⟩ ?_ ?_
      · rintro j H4 hj ⟨⟨cs, hD, hcs, hl⟩, F4, k4⟩
        refine ⟨rfl, _, rfl, d, l, _, rfl, F4.dk, by decide +kernel, by decide +kernel, fun c H5 hc D5 k5 => ?_⟩
        have hD5 := k5.at_ _ _ hD (by simp [hDd, hDl])
        refine ⟨_, hD5, ?_, ⟨cs ++ [c], ?_, ?_, ?_⟩, (F4.go k5 D5).set hD5 hDd hDl, (k4.trans k5).own nD⟩
        · rw [List.length_map, List.length_map, hl]
          exact Nat.lt_of_lt_of_le hj (Nat.le_trans hz (by decide))
        · rw [upd_same, List.map_append, List.map_append]
          rfl
        · intro x hx
          rcases List.mem_append.mp hx with hx | hx
          · exact hcs x hx
          · rw [List.mem_singleton.mp hx]
            exact abc_low c hc
        · rw [List.length_append, hl]
          rfl
      rintro H4 ⟨⟨cs, hD, hcs, hl⟩, F4, k4⟩
      have es : ((cs.map fun k => st [k]).map fun x => x.length).sum = cs.length := by
        rw [List.map_map]
        clear hD hcs hl
        induction cs with
        | nil => rfl
        | cons c r ih =>
          rw [List.map_cons, List.sum_cons, ih, List.length_cons]
          show 1 + r.length = r.length + 1
          omega
      have e0 : (Str.ofString "").length = 0 := by decide +kernel
      refine ⟨_, Dl, _, rfl, rfl, .inl (sql_of hD), ?_, ?_⟩
      · rw [es, e0]
        omega
      rw [join_st]
      have hg : LowS (st cs) := ⟨by rw [st_list]; exact hcs, by rw [st_len, hl]; exact hz⟩
      clear hD
      generalize st cs = g at hg
      have hF4 : H4 F = some (.lst (gs.map V.str)) := k4.at_ _ _ hF3 (by simp [hFd, hFl])
      have k04 := k03.trans k4
      -- those to spare
      refine ⟨_, rfl, by show 5 ≤ sizeLine; decide, fun q nq => ⟨q, rfl, ⟨_, sqt_of upd_same⟩, ?_⟩⟩
      have kq : Kp [d, l] H (upd H4 q (.tup [.str g, .str "yes", .str "top", .str "fun", .str "zz"])) := k04.trans (.new nq)
      have F5 := F4.new (o := .tup [.str g, .str "yes", .str "top", .str "fun", .str "zz"]) nq
      have eq5 : (upd H4 q (.tup [.str g, .str "yes", .str "top", .str "fun", .str "zz"])) q = some (.tup [.str g, .str "yes", .str "top", .str "fun", .str "zz"]) := upd_same
      have hF5 : (upd H4 q (.tup [.str g, .str "yes", .str "top", .str "fun", .str "zz"])) F = some (.lst (gs.map V.str)) := (Kp.new (ms := []) nq).at_ _ _ hF4 List.not_mem_nil
      generalize upd H4 q (.tup [.str g, .str "yes", .str "top", .str "fun", .str "zz"]) = H5 at kq F5 eq5 hF5
      intro D2 nD2
      have ewl : ([.str g, .str "yes", .str "top", .str "fun", .str "zz"] : List V) = ([g, "yes", "top", "fun", "zz"] : List Str).map V.str := rfl
      have hwl : ∀ x ∈ ([g, "yes", "top", "fun", "zz"] : List Str), LowS x := by
        intro x hx
        simp only [List.mem_cons, List.not_mem_nil, or_false] at hx
        rcases hx with rfl | rfl | rfl | rfl | rfl
        · exact hg
        · exact ⟨by decide +kernel, by decide +kernel⟩
        · exact ⟨by decide +kernel, by decide +kernel⟩
        · exact ⟨by decide +kernel, by decide +kernel⟩
        · exact ⟨by decide +kernel, by decide +kernel⟩
      refine lc_tup (K := K) (a := q) (xs := [.str g, .str "yes", .str "top", .str "fun", .str "zz"]) (fun j H6 => (∃ us : List Str, H6 D2 = some (.lst (us.map V.str)) ∧ (∀ x ∈ us, LowS x) ∧ us.length ≤ j ∧ (us = [] → ∀ x ∈ ([g, "yes", "top", "fun", "zz"] : List Str).take j, x ∈ gs)) ∧ Kp [] H5 H6)
        ⟨⟨[], upd_same, by simp, Nat.le_refl _, fun _ x hx => by cases hx⟩, .new nD2⟩ (fun j H6 _ h => sqt_of (h.2.tup _ _ eq5)) ?_ ?_
      · rintro j x H6 hx ⟨⟨us, hD, hus, hlu, hall⟩, k6⟩
        rw [ewl, List.getElem?_map] at hx
        obtain ⟨y, hy, rfl⟩ := Option.map_eq_some_iff.mp hx
        have hyw := hwl y (List.mem_of_getElem? hy)
        have hj5 : j < 5 := (List.getElem?_eq_some_iff.mp hy).1
        refine ⟨rfl, _, rfl, _, rfl, F, _, rfl, .inl (sql_of (k6.at_ _ _ hF5 List.not_mem_nil)), rfl, flat_all gs, _, rfl, ?_⟩
        cases hin : inV (.str y) (gs.map V.str) with
        | true =>
          refine iteF ⟨⟨us, hD, hus, Nat.le_succ_of_le hlu, fun e x hx => ?_⟩, k6⟩
          rw [List.take_add_one, hy] at hx
          rcases List.mem_append.mp hx with hx | hx
          · exact hall e x hx
          · have : x = y := by simpa using hx
            rw [this]
            exact inV_strs y gs hin
        | false =>
          refine iteT ⟨_, rfl, _, hD, ?_, ⟨us ++ [y], ?_, ?_, ?_, fun e => ?_⟩, k6.own nD2⟩
          · rw [List.length_map]
            exact Nat.lt_of_le_of_lt (show us.length ≤ 1000000 by omega) (by decide)
          · rw [upd_same, List.map_append]
            rfl
          · intro x hx
            rcases List.mem_append.mp hx with hx | hx
            · exact hus x hx
            · rw [List.mem_singleton.mp hx]
              exact hyw
          · rw [List.length_append]
            exact Nat.succ_le_succ hlu
          · cases us <;> cases e
      rintro H6 ⟨⟨us, hD, hus, hlu, hall⟩, k6⟩
      obtain ⟨y, r, rfl⟩ : ∃ y r, us = y :: r := by
        cases us with
        | cons y r => exact ⟨y, r, rfl⟩
        | nil =>
          have hq := hall rfl
          exact (spare_ex (gs := gs) (by omega) (hq _ (by simp)) (hq _ (by simp)) (hq _ (by simp))).elim
      have hF6 := k6.at_ _ _ hF5 List.not_mem_nil
      refine ⟨_, rfl, .inl ⟨rfl, _, sql_of hF6⟩, _, rfl, D2, _, _, _, rfl, rfl, sql_of hD, atI_nat (j := 0) rfl, F, _, _, rfl, rfl, hF6, ?_, ?_⟩
      · rw [List.length_map]
        exact Nat.lt_of_le_of_lt (show gs.length ≤ 1000000 by omega) (by decide)
      refine ⟨⟨_, _, _, _, rfl⟩, ⟨gs ++ [y], ?_, ?_, ?_⟩, (F5.kp0 k6).set hF6 hFd hFl, (kq.trans (k6.more (by simp))).own nF⟩
      · rw [upd_same, List.map_append]
        rfl
      · intro x hx
        rcases List.mem_append.mp hx with hx | hx
        · exact hlow x hx
        · rw [List.mem_singleton.mp hx]
          exact hus y List.mem_cons_self
      · rw [List.length_append, hlen]
        rfl
    · rintro σ H1 ⟨⟨y3, y4, y5, y6, rfl⟩, ⟨gs, hF, hlow, hlen⟩, F1, k1⟩
      refine ⟨_, rfl, F, _, rfl, .inl ⟨sql_of hF, fun t nt => ?_⟩⟩
      exact k t gs _ upd_same hlow hlen (F1.new nt) (k1.trans (.new nt))
end
end Ey
set_option maxHeartbeats 4000000
namespace Ey
open PySem PySem.Spec L2
/-! ### a drawn machine -/
def RuleOk (r : PyData) : Prop := ∃ a b c : Int, r = .tuple [.int a, .int b, .int c] ∧ a.natAbs ≤ 20 ∧ b.natAbs ≤ 20 ∧ c.natAbs ≤ 20
def StateOk (s : Nat) (q : PyData) : Prop := ∃ rs, q = .tuple rs ∧ rs.length = s ∧ ∀ x ∈ rs, RuleOk x
structure MachOk (ts : List Str) (s : Nat) (ss : List PyData) : Prop where
  t : ∀ g ∈ ts, LowS g
  tl : ts.length ≤ 3
  s2 : 2 ≤ s
  s5 : s ≤ 5
  n1 : 1 ≤ ss.length
  n4 : ss.length ≤ 4
  q : ∀ x ∈ ss, StateOk s x
abbrev machD (ts : List Str) (s : Nat) (ss : List PyData) : PyData := .tuple [.str "tape", .tuple (ts.map PyData.str), .int s, .tuple ss]
theorem rules_any {ms ms' ks : List Addr} {H H1 : Hp} : ∀ {rs : List PyData} {ys : List V}, (∀ x ∈ rs, RuleOk x) → AnAll ms H ys rs → Kp ks H H1 → AnAll ms' H1 ys rs
  | [], _, _, h, _ => by
    cases h
    exact .nil
  | r :: rs, _, hr, h, k => by
    cases h with
    | cons a b =>
      obtain ⟨i, j, l, rfl, _⟩ := hr _ List.mem_cons_self
      cases a with
      | tup e hs =>
        cases hs with
        | cons a0 s => cases s with
          | cons a1 s => cases s with
            | cons a2 s => cases s with
              | nil =>
                cases a0
                cases a1
                cases a2
                exact .cons (.tup (k.tup _ _ e) (.cons (.int _) (.cons (.int _) (.cons (.int _) .nil)))) (rules_any (fun x hx => hr x (List.mem_cons_of_mem _ hx)) b k)
structure LM (K : PySem.W.Frag) (mg : Str → Option Value) (A : Nat → Addr) (D : Nat → FuncData) : Prop extends LT K mg A D where
  dtape : Df K mg "_law_tape" sDTape ["_law_deck_here", "_law_most"] (A 20) (D 20)
section
variable {Pr : Program} {w : World} {K : PySem.W.Frag} {mg : Str → Option Value} {base : Heap} {A : Nat → Addr} {D : Nat → FuncData}
abbrev NDm : List Str := ["_law_deck_here", "_law_most", "_law_tags_here", "_law_signs", "_law_many", "_law_states", "_law_state", "_law_rules", "_law_sign", "_law_to"]
theorem scDTape : FnScope NDm ["_law_deck_here", "_law_most"] (defScope sDTape) := ⟨rfl, rfl, rfl, by decide +kernel, rfl, by decide +kernel, by decide +kernel⟩
def spDTape : Sp := fun vs H Q _ => ∃ (d l : Addr) (ms : List Addr), vs = [.ref d, .int 4] ∧ Frame ms d l H ∧
  ∀ (v : V) (ts : List Str) (s : Nat) (ss : List PyData) (H' : Hp), An ms H' v (machD ts s ss) → MachOk ts s ss → Frame ms d l H' → Kp [d, l] H H' → Q v H'
theorem ok_dTape (L : LM K mg A D) : FnOk Pr w K mg base CX0 5 (A 20) (D 20) ["_law_deck_here", "_law_most"] spDTape := by
  have B := L.B
  refine L.dtape.F.ok scDTape (fun vs H Q E h => ?_) (fun cdv Ar outer s0 H vs Q E hr h => ?_)
  · obtain ⟨d, l, ms, rfl, _⟩ := h
    rfl
  · obtain ⟨d, l, ms, rfl, Fr, k⟩ := h
    have hr2 := hr.mono (show 2 ≤ 4 by decide)
    have hr1 := hr.mono (show 1 ≤ 4 by decide)
    refine ⟨_, pss_cons (ps_set (i := 2) scDTape.nd rfl (.inl rfl) (pe_call (ok_dTags L.toLT) hr (by rfl) L.dtags.g L.dtags.F.kp L.dtags.b .nil pass0 (pa_cons (pv 0) (pa_cons (pe_call (ok_pick L.pick.F B L.draw) hr2 (by rfl) L.pick.g L.pick.F.kp L.pick.b .nil pass0 (pa_cons (pv 0) (pa_cons (pe_lst (pa_cons pe_int (pa_cons pe_int (pa_cons pe_int (pa_cons pe_int pa_nil))))) pa_nil))) pa_nil))))
      (pss_cons (ps_set (i := 3) scDTape.nd rfl (.inl rfl) (pe_callB (call_min2 rfl) (by rfl) B.min (by decide +kernel) (pa_cons pe_int (pa_cons (pe_op op_add (pe_op op_add (pe_callB call_len_seq (by rfl) B.len PySem.boot_len (pa_cons (pv 2) pa_nil)) pe_int) (pe_call (ok_draw L.draw.F B) hr1 (by rfl) L.draw.g L.draw.F.kp L.draw.b .nil pass0 (pa_cons (pv 0) (pa_cons pe_int pa_nil)))) pa_nil))))
      (pss_cons (ps_par (i := 4) (j := 5) (by rfl) scDTape.nd rfl rfl (by decide) rfl rfl (pa_cons (pe_op op_add pe_int (pe_call (ok_draw L.draw.F B) hr1 (by rfl) L.draw.g L.draw.F.kp L.draw.b .nil pass0 (pa_cons (pv 0) (pa_cons (pv 1) pa_nil)))) (pa_cons (pe_lst pa_nil) pa_nil)) (by rfl))
      (pss_cons (ps_for PassesOwn.never rfl (pi_range1 (by rfl) B.range (pa_cons (pv 4) pa_nil)) (pg_name (i := 6) scDTape.nd rfl (.inl rfl))
        (pss_cons (ps_set (i := 7) scDTape.nd rfl (.inl rfl) (pe_lst pa_nil))
        (pss_cons (ps_for PassesOwn.never rfl (pi_range1 (by rfl) B.range (pa_cons (pv 3) pa_nil)) (pg_name (i := 8) scDTape.nd rfl (.inl rfl))
          (pss_cons (ps_set (i := 9) scDTape.nd rfl (.inl rfl) (pe_call (ok_pick L.pick.F B L.draw) hr2 (by rfl) L.pick.g L.pick.F.kp L.pick.b .nil pass0 (pa_cons (pv 0) (pa_cons (pe_lst (pa_cons (pe_call (ok_draw L.draw.F B) hr1 (by rfl) L.draw.g L.draw.F.kp L.draw.b .nil pass0 (pa_cons (pv 0) (pa_cons (pe_op op_add (pv 4) pe_int) pa_nil))) (pa_cons (pv 6) (pa_cons (pv 4) (pa_cons (pe_call (ok_draw L.draw.F B) hr1 (by rfl) L.draw.g L.draw.F.kp L.draw.b .nil pass0 (pa_cons (pv 0) (pa_cons (pv 4) pa_nil))) pa_nil))))) pa_nil))))
          (pss_one (ps_expr (pe_bm PySem.F.plainAttrs_list PySem.F.slot_list_append PySem.F.type_list_append mt_append (pv 7) (pa_cons (pe_tup (pa_cons (pv 9) (pa_cons (pe_call (ok_pick L.pick.F B L.draw) hr2 (by rfl) L.pick.g L.pick.F.kp L.pick.b .nil pass0 (pa_cons (pv 0) (pa_cons (pe_lst (pa_cons (pv 8) (pa_cons (pe_call (ok_draw L.draw.F B) hr1 (by rfl) L.draw.g L.draw.F.kp L.draw.b .nil pass0 (pa_cons (pv 0) (pa_cons (pv 3) pa_nil))) pa_nil))) pa_nil)))
            (pa_cons (pe_call (ok_pick L.pick.F B L.draw) hr2 (by rfl) L.pick.g L.pick.F.kp L.pick.b .nil pass0 (pa_cons (pv 0) (pa_cons (pe_lst (pa_cons pe_int (pa_cons pe_int (pa_cons (pe_un un_neg pe_int) (pa_cons pe_int (pa_cons pe_int pa_nil)))))) pa_nil))) pa_nil)))) pa_nil))))))
        (pss_one (ps_expr (pe_bm PySem.F.plainAttrs_list PySem.F.slot_list_append PySem.F.type_list_append mt_append (pv 5) (pa_cons (pe_callTy call_tuple_of (by rfl) B.tuple (by decide +kernel) (pa_cons (pv 7) pa_nil)) pa_nil)))))))
      (pss_one (ps_ret (pe_tup (pa_cons pe_str (pa_cons (pv 2) (pa_cons (pv 3) (pa_cons (pe_callTy call_tuple_of (by rfl) B.tuple (by decide +kernel) (pa_cons (pv 5) pa_nil)) pa_nil))))))))))
      , ?_⟩
    -- the tags
    refine ⟨_, rfl, _, rfl, by show 4 ≤ sizeLine; decide, fun p np => ?_⟩
    have nn := Fr.ne np
    have F1 := Fr.new (o := .lst [.int 1, .int 2, .int 0, .int 3]) np
    refine ⟨d, l, p, _, rfl, F1.dk, sql_of upd_same, by simp, by show 4 ≤ 1000000; decide, nn.1, nn.2, fun u H2 hu D2 k2 => ?_⟩
    have F2 := F1.go k2 D2
    have k02 : Kp [d, l] H H2 := (Kp.new np).trans k2
    obtain ⟨m, rfl, hm⟩ : ∃ m : Nat, u = .int m ∧ m ≤ 3 := by
      simp only [List.mem_cons, List.not_mem_nil, or_false] at hu
      rcases hu with rfl | rfl | rfl | rfl
      · exact ⟨1, rfl, by decide⟩
      · exact ⟨2, rfl, by decide⟩
      · exact ⟨0, rfl, by decide⟩
      · exact ⟨3, rfl, by decide⟩
    refine ⟨d, l, ms, m, rfl, hm, F2, fun t gs H3 e3 hgs hgl F3 k3 => ?_⟩
    have k03 := k02.trans k3
    -- the number of signs
    refine ⟨_, rfl, t, _, rfl, .inr (sqt_of e3), _, _, rfl, rfl, _, rfl, d, l, 2, rfl, F3.dk, by decide, by decide, fun r H4 r0 r1 D4 k4 => ?_⟩
    have F4 := F3.go k4 D4
    have k04 := k03.trans k4
    have e4 := k4.tup _ _ e3
    refine ⟨_, _, rfl, rfl, _, _, rfl, ?_⟩
    have lg : (gs.map V.str).length = m := by rw [List.length_map, hgl]
    generalize es : (if (((gs.map V.str).length : Nat) : Int) + 2 + r < 5 then (((gs.map V.str).length : Nat) : Int) + 2 + r else (5 : Int)) = sI
    obtain ⟨s, rfl, hs2, hs5⟩ : ∃ s : Nat, sI = (s : Int) ∧ 2 ≤ s ∧ s ≤ 5 := by
      refine ⟨sI.toNat, ?_, ?_, ?_⟩ <;> rw [← es, lg] <;> split <;> omega
    -- how many states
    refine ⟨_, rfl, _, rfl, d, l, 4, rfl, F4.dk, by decide, by decide, fun r5 H5 r50 r51 D5 k5 => ⟨_, _, rfl, rfl, Nat.zero_le _, fun F nF => ⟨_, _, rfl, ?_⟩⟩⟩
    obtain ⟨n, hn, hn1, hn4⟩ : ∃ n : Nat, 1 + r5 = (n : Int) ∧ 1 ≤ n ∧ n ≤ 4 := ⟨(1 + r5).toNat, by omega, by omega, by omega⟩
    have F5 := F4.go k5 D5
    have k05 := k04.trans k5
    have e5 := k5.tup _ _ e4
    have fF := F5.has.fresh nF
    have hFd : F ≠ d := fun e => fF (e ▸ F5.dm)
    have hFl : F ≠ l := fun e => fF (e ▸ F5.lm)
    have subF : ∀ x ∈ [d, l], x ∈ F :: ms := fun x hx => List.mem_cons_of_mem _ (F5.sub x hx)
    refine ⟨_, rfl, 1 + r5, rfl, by omega, by omega, ?_⟩
    rw [show (1 + r5).toNat = n by omega]
    refine for_range (lo := 0) (n := n) (fun i σ H' => (∃ y6 y7 y8 y9, σ = [some (.ref d), some (.int 4), some (.ref t), some (.int s), some (.int (1 + r5)), some (.ref F), y6, y7, y8, y9]) ∧ (∃ (xs : List V) (ss : List PyData), H' F = some (.lst xs) ∧ AnAll (F :: ms) H' xs ss ∧ (∀ x ∈ ss, StateOk s x) ∧ ss.length = i) ∧ Frame ms d l H' ∧ Kp [d, l] H5 H')
      ⟨⟨_, _, _, _, rfl⟩, ⟨[], [], upd_same, .nil, by simp, rfl⟩, F5.new nF, .new nF⟩ ?_ ?_
    · rintro i σ H6 hi ⟨⟨y6, y7, y8, y9, rfl⟩, ⟨xs, ss, hF, hA, hss, hls⟩, F6, k6⟩
      refine ⟨Nat.zero_le _, fun R nR => ?_⟩
      have fR := F6.has.fresh nR
      have hRd : R ≠ d := fun e => fR (e ▸ F6.dm)
      have hRl : R ≠ l := fun e => fR (e ▸ F6.lm)
      have hRF : R ≠ F := fun e => by rw [e, hF] at nR; cases nR
      refine ⟨_, rfl, (s : Int), rfl, by omega, by omega, ?_⟩
      rw [Int.toNat_natCast]
      have subR : ∀ x ∈ [d, l], x ∈ R :: ms := fun x hx => List.mem_cons_of_mem _ (F6.sub x hx)
      refine for_range (lo := 0) (n := s) (fun j σ H' => (∃ y8 y9, σ = [some (.ref d), some (.int 4), some (.ref t), some (.int s), some (.int (1 + r5)), some (.ref F), some (.int (0 + (i : Int))), some (.ref R), y8, y9]) ∧ (∃ (ys : List V) (rs : List PyData), H' R = some (.lst ys) ∧ AnAll (R :: ms) H' ys rs ∧ (∀ x ∈ rs, RuleOk x) ∧ rs.length = j) ∧ Frame ms d l H' ∧ Kp [d, l] H6 H')
        ⟨⟨_, _, rfl⟩, ⟨[], [], upd_same, .nil, by simp, rfl⟩, F6.new nR, .new nR⟩ ?_ ?_
      · rintro j σ H7 hj ⟨⟨y8, y9, rfl⟩, ⟨ys, rs, hR, hB, hrs, hlr⟩, F7, k7⟩
        -- where to
        refine ⟨_, rfl, _, rfl, _, rfl, _, _, rfl, rfl, d, l, _, rfl, F7.dk, by omega, by omega, fun r8 H8 r80 r81 D8 k8 => ?_⟩
        have F8 := F7.go k8 D8
        refine ⟨_, rfl, _, rfl, _, rfl, _, rfl, d, l, _, rfl, F8.dk, by omega, by omega, fun r9 H9 r90 r91 D9 k9 => ?_⟩
        have F9 := F8.go k9 D9
        refine ⟨by show 4 ≤ sizeLine; decide, fun p np => ?_⟩
        have nn := F9.ne np
        have F10 := F9.new (o := .lst [.int r8, .int (0 + (i : Int)), .int (1 + r5), .int r9]) np
        refine ⟨d, l, p, _, rfl, F10.dk, sql_of upd_same, by simp, by show 4 ≤ 1000000; decide, nn.1, nn.2, fun u H11 hu D11 k11 => ?_⟩
        have F11 := F10.go k11 D11
        have k711 : Kp [d, l] H7 H11 := k8.trans (k9.trans ((Kp.new np).trans k11))
        obtain ⟨a, rfl, ha⟩ : ∃ a : Int, u = .int a ∧ a.natAbs ≤ 20 := by
          simp only [List.mem_cons, List.not_mem_nil, or_false] at hu
          rcases hu with rfl | rfl | rfl | rfl
          · exact ⟨_, rfl, by omega⟩
          · exact ⟨_, rfl, by omega⟩
          · exact ⟨_, rfl, by omega⟩
          · exact ⟨_, rfl, by omega⟩
        have hR11 := k711.at_ _ _ hR (by simp [hRd, hRl])
        -- the rule
        refine ⟨_, rfl, .inl ⟨rfl, _, sql_of hR11⟩, _, rfl, _, rfl, _, rfl, _, rfl, _, rfl, d, l, _, rfl, F11.dk, by omega, by omega, fun r12 H12 r120 r121 D12 k12 => ?_⟩
        have F12 := F11.go k12 D12
        refine ⟨by show 2 ≤ sizeLine; decide, fun p2 np2 => ?_⟩
        have nn2 := F12.ne np2
        have F13 := F12.new (o := .lst [.int (0 + (j : Int)), .int r12]) np2
        refine ⟨d, l, p2, _, rfl, F13.dk, sql_of upd_same, by simp, by show 2 ≤ 1000000; decide, nn2.1, nn2.2, fun u2 H14 hu2 D14 k14 => ?_⟩
        have F14 := F13.go k14 D14
        obtain ⟨b, rfl, hb⟩ : ∃ b : Int, u2 = .int b ∧ b.natAbs ≤ 20 := by
          simp only [List.mem_cons, List.not_mem_nil, or_false] at hu2
          rcases hu2 with rfl | rfl
          · exact ⟨_, rfl, by omega⟩
          · exact ⟨_, rfl, by omega⟩
        refine ⟨_, rfl, _, rfl, by show 5 ≤ sizeLine; decide, fun p3 np3 => ?_⟩
        have nn3 := F14.ne np3
        have F15 := F14.new (o := .lst [.int 1, .int 1, .int (-1), .int 0, .int 1]) np3
        refine ⟨d, l, p3, _, rfl, F15.dk, sql_of upd_same, by simp, by show 5 ≤ 1000000; decide, nn3.1, nn3.2, fun u3 H16 hu3 D16 k16 => ?_⟩
        have F16 := F15.go k16 D16
        obtain ⟨c, rfl, hc⟩ : ∃ c : Int, u3 = .int c ∧ c.natAbs ≤ 20 := by
          simp only [List.mem_cons, List.not_mem_nil, or_false] at hu3
          rcases hu3 with rfl | rfl | rfl | rfl | rfl
          · exact ⟨_, rfl, by omega⟩
          · exact ⟨_, rfl, by omega⟩
          · exact ⟨_, rfl, by omega⟩
          · exact ⟨_, rfl, by omega⟩
          · exact ⟨_, rfl, by omega⟩
        have k716 : Kp [d, l] H7 H16 := k711.trans (k12.trans ((Kp.new np2).trans (k14.trans ((Kp.new np3).trans k16))))
        refine ⟨by show 3 ≤ sizeLine; decide, fun q nq => ?_⟩
        have k17 : Kp [] H16 (upd H16 q (.tup [.int a, .int b, .int c])) := .new nq
        have eq : (upd H16 q (.tup [.int a, .int b, .int c])) q = some (.tup [.int a, .int b, .int c]) := upd_same
        have F17 := F16.new (o := .tup [.int a, .int b, .int c]) nq
        generalize upd H16 q (.tup [.int a, .int b, .int c]) = H17 at k17 eq F17
        have k717 := k716.trans (k17.more (by simp))
        have hR17 := k717.at_ _ _ hR (by simp [hRd, hRl])
        have lB := hB.length
        refine ⟨R, _, _, rfl, rfl, hR17, Nat.lt_of_le_of_lt (show ys.length ≤ 5 by omega) (by decide), ⟨_, _, rfl⟩, ⟨ys ++ [.ref q], rs ++ [.tuple [.int a, .int b, .int c]], upd_same, ?_, ?_, ?_⟩, F17.set hR17 hRd hRl, (k7.trans k717).own nR⟩
        · have kR : Kp [R] H17 (upd H17 R (.lst (ys ++ [V.ref q]))) := .put (by simp) hR17 (fun _ z => by cases z)
          refine ((hB.kp k717 subR rs).kp kR (by simp) rs).append (.cons (.tup (kR.tup _ _ eq) (.cons (.int _) (.cons (.int _) (.cons (.int _) .nil)))) .nil)
        · intro x hx
          rcases List.mem_append.mp hx with hx | hx
          · exact hrs x hx
          · rw [List.mem_singleton.mp hx]
            exact ⟨a, b, c, rfl, ha, hb, hc⟩
        · rw [List.length_append, hlr]
          rfl
      · rintro σ H7 ⟨⟨y8, y9, rfl⟩, ⟨ys, rs, hR, hB, hrs, hlr⟩, F7, k7⟩
        have hF7 := k7.at_ _ _ hF (by simp [hFd, hFl])
        refine ⟨_, rfl, .inl ⟨rfl, _, sql_of hF7⟩, _, rfl, R, _, rfl, .inl ⟨sql_of hR, fun q nq => ?_⟩⟩
        have k8 : Kp [] H7 (upd H7 q (.tup ys)) := .new nq
        have eq : (upd H7 q (.tup ys)) q = some (.tup ys) := upd_same
        have F8 := F7.new (o := .tup ys) nq
        generalize upd H7 q (.tup ys) = H8 at k8 eq F8
        have k68 := k7.trans (k8.more (by simp))
        have hF8 := k68.at_ _ _ hF (by simp [hFd, hFl])
        have lA := hA.length
        refine ⟨F, _, _, rfl, rfl, hF8, Nat.lt_of_le_of_lt (show xs.length ≤ 5 by omega) (by decide), ⟨_, _, _, _, rfl⟩, ⟨xs ++ [.ref q], ss ++ [.tuple rs], upd_same, ?_, ?_, ?_⟩, F8.set hF8 hFd hFl, (k6.trans k68).own nF⟩
        · have kF : Kp [F] H8 (upd H8 F (.lst (xs ++ [V.ref q]))) := .put (by simp) hF8 (fun _ z => by cases z)
          have hB8 := (hB.kp k8 (by simp) rs)
          refine ((hA.kp k68 subF ss).kp kF (by simp) ss).append (.cons (.tup (kF.tup _ _ eq) ?_) .nil)
          exact rules_any hrs hB8 kF
        · intro x hx
          rcases List.mem_append.mp hx with hx | hx
          · exact hss x hx
          · rw [List.mem_singleton.mp hx]
            exact ⟨rs, rfl, hlr, hrs⟩
        · rw [List.length_append, hls]
          rfl
    · rintro σ H6 ⟨⟨y6, y7, y8, y9, rfl⟩, ⟨xs, ss, hF, hA, hss, hls⟩, F6, k6⟩
      refine ⟨_, rfl, _, rfl, _, rfl, F, _, rfl, .inl ⟨sql_of hF, fun q nq => ?_⟩⟩
      have k7 : Kp [] H6 (upd H6 q (.tup xs)) := .new nq
      have eq : (upd H6 q (.tup xs)) q = some (.tup xs) := upd_same
      have F7 := F6.new (o := .tup xs) nq
      have hA7 := (hA.kp k7 (by simp) ss).mono (ms' := ms) (fun x hx => List.mem_cons_of_mem _ hx) ss
      generalize upd H6 q (.tup xs) = H7 at k7 eq F7 hA7
      refine ⟨by show 4 ≤ sizeLine; decide, fun z nz => ?_⟩
      have k8 : Kp [] H7 (upd H7 z (.tup [.str "tape", .ref t, .int s, .ref q])) := .new nz
      have k78 := k7.trans k8
      have e8 := k78.tup _ _ (k6.tup _ _ e5)
      refine k _ gs s ss _ (.tup upd_same (.cons (.str _) (.cons (.tup e8 (an_strs _ _ gs)) (.cons (.int _) (.cons (.tup (k8.tup _ _ eq) (hA7.kp k8 (by simp) ss)) .nil))))) ⟨hgs, by omega, hs2, hs5, by omega, by omega, hss⟩ (F7.new nz) (k05.trans (k6.trans (k78.more (by simp))))
end
end Ey
set_option exponentiation.threshold 1000
set_option maxHeartbeats 4000000
namespace Ey
open PySem PySem.Spec L2
mutual
/-- texts of low signs, numbers, tuples of these -/
def plD : PyData → Bool
  | .int i => decide (i.natAbs < 1000)
  | .str x => x.cps.toList.all fun c => decide (c < 128)
  | .tuple ds => plAll ds
  | .none | .bool _ | .list _ | .dict _ => false
def plAll : List PyData → Bool
  | [] => true
  | x :: r => plD x && plAll r
end
mutual
theorem plD_fit : ∀ d : PyData, plD d = true → fitJ 1000 d = true
  | .int i, h => h
  | .str x, h => h
  | .tuple ds, h => plAll_fit ds h
theorem plAll_fit : ∀ ds : List PyData, plAll ds = true → fitJAll 1000 ds = true
  | [], _ => rfl
  | x :: r, h => by
    have h : (plD x && plAll r) = true := h
    rw [Bool.and_eq_true] at h
    show (fitJ 1000 x && fitJAll 1000 r) = true
    rw [plD_fit x h.1, plAll_fit r h.2]
    rfl
end
theorem plAll_mem {x : PyData} : ∀ {ds : List PyData}, plAll ds = true → x ∈ ds → plD x = true
  | y :: r, h, hx => by
    have h : (plD y && plAll r) = true := h
    rw [Bool.and_eq_true] at h
    rcases List.mem_cons.mp hx with rfl | hx
    · exact h.1
    · exact plAll_mem h.2 hx
theorem AnAll.mem {ms : List Addr} {H : Hp} {v : V} : ∀ {vs : List V} {ds : List PyData}, AnAll ms H vs ds → v ∈ vs → ∃ d ∈ ds, An ms H v d
  | _, _, .cons a b, hv => by
    rcases List.mem_cons.mp hv with rfl | hv
    · exact ⟨_, List.mem_cons_self, a⟩
    · obtain ⟨d, h1, h2⟩ := AnAll.mem b hv
      exact ⟨d, List.mem_cons_of_mem _ h1, h2⟩
abbrev oddV (t1 t2 t3 : Addr) : List V := [.non, .bl true, .bl false, .int 0, .int 1, .int (-1), .int 9, .str "", .str "a", .str "tape", .ref t1, .ref t2, .ref t3, .int ((10 : Int) ^ (39 : Int).toNat), .str "A", .str "abcdefghi"]
abbrev oddD : List PyData := [.none, .bool true, .bool false, .int 0, .int 1, .int (-1), .int 9, .str "", .str "a", .str "tape", .tuple [], .list [], .dict [], .int ((10 : Int) ^ (39 : Int).toNat), .str "A", .str "abcdefghi"]
theorem odd_good : ∀ x ∈ oddD, GoodJ bAny 1 100 x := by
  intro x hx
  simp only [List.mem_cons, List.not_mem_nil, or_false] at hx
  rcases hx with rfl | rfl | rfl | rfl | rfl | rfl | rfl | rfl | rfl | rfl | rfl | rfl | rfl | rfl | rfl | rfl <;> exact ⟨by decide +kernel, by decide +kernel, by decide +kernel⟩
theorem cut_any (xs : List V) (a b : Option Int) : ∃ i n, cutV xs a b = (xs.drop i).take n := ⟨_, _, rfl⟩
theorem sub_facts (B : Nat) (ds : List PyData) (i n : Nat) (h : fitJAll B ds = true) : fitJAll B ((ds.drop i).take n) = true ∧ PyData.depthAll ((ds.drop i).take n) ≤ PyData.depthAll ds ∧ wdAll ((ds.drop i).take n) ≤ wdAll ds := by
  obtain ⟨a1, a2, a3, a4, a5⟩ := cut_facts B ds i h
  obtain ⟨b1, b2, b3, b4, b5⟩ := cut_facts B (ds.drop i) n a2
  exact ⟨b1, by omega, by omega⟩
structure LF (K : PySem.W.Frag) (mg : Str → Option Value) (A : Nat → Addr) (D : Nat → FuncData) : Prop extends LM K mg A D where
  leaf : Df K mg "_law_leaf" sLeaf ["_law_deck_here", "_law_thing"] (A 21) (D 21)
/-- a leaf's bounds -/
abbrev LeafOk (x x' : PyData) : Prop := GoodJ bAny (x.depth + 2) (2 * wd x + 400) x'
theorem b1000 : 1000 ≤ bAny := by decide +kernel
theorem b1001 : 1002 ≤ bAny := by decide +kernel
theorem oin {ms : List Addr} {d l O : Addr} {H : Hp} {vs : List V} (hO : H O = some (.lst (.non :: vs))) (F : Frame ms d l H) : O ∉ [d, l] := by
  obtain ⟨m, n, ns, h1, h2, _⟩ := F.dk.ex
  intro h
  rcases List.mem_cons.mp h with rfl | h
  · rw [h1] at hO
    cases hO
  · rw [List.mem_singleton.mp h, h2] at hO
    cases ns with
    | nil => cases hO
    | cons x r => cases hO
section
variable {Pr : Program} {w : World} {K : PySem.W.Frag} {mg : Str → Option Value} {base : Heap} {A : Nat → Addr} {D : Nat → FuncData}
abbrev NLf : List Str := ["_law_deck_here", "_law_thing", "_law_odd"]
theorem scLeaf : FnScope NLf ["_law_deck_here", "_law_thing"] (defScope sLeaf) := ⟨rfl, rfl, rfl, by decide +kernel, rfl, by decide +kernel, by decide +kernel⟩
def spLeaf : Sp := fun vs H Q _ => ∃ (d l : Addr) (ms : List Addr) (v : V) (x : PyData), vs = [.ref d, v] ∧ An ms H v x ∧ plD x = true ∧ wd x ≤ 16000 ∧ Frame ms d l H ∧
  ∀ (v' : V) (x' : PyData) (H' : Hp), An ms H' v' x' → LeafOk x x' → Frame ms d l H' → Kp [d, l] H H' → Q v' H'
theorem ok_leaf (L : LF K mg A D) : FnOk Pr w K mg base CX0 3 (A 21) (D 21) ["_law_deck_here", "_law_thing"] spLeaf := by
  have B := L.B
  refine L.leaf.F.ok scLeaf (fun vs H Q E h => ?_) (fun cdv Ar outer s0 H vs Q E hr h => ?_)
  · obtain ⟨d, l, ms, v, x, rfl, _⟩ := h
    rfl
  · obtain ⟨d, l, ms, v, x, rfl, hv, hpl, hz, Fr, k⟩ := h
    have hr1 := hr.mono (show 1 ≤ 2 by decide)
    have hu1 := hr.units
    have b0 : 0 < bAny := by decide +kernel
    -- the odd ones and those of a text
    obtain ⟨tt, dt, rt⟩ : ∃ tt, PSs (cxOf CX0 Pr w K mg base NLf "_law_leaf" (defScope sLeaf) (A 21) cdv Ar outer s0 H E).nox ((defBody sLeaf).drop 3) tt ∧
        ∀ (De : Ends) (H3 : Hp) (O t1 t2 t3 : Addr), De.rt = Q → An ms H3 v x → H3 O = some (.lst (oddV t1 t2 t3)) → AnAll ms H3 (oddV t1 t2 t3) oddD → Frame ms d l H3 → Kp [d, l] H H3 → tt De [some (.ref d), some v, some (.ref O)] H3 := by
      refine ⟨_, pss_one (ps_ret (pe_call (ok_pick L.pick.F B L.draw) hr (by rfl) L.pick.g L.pick.F.kp L.pick.b .nil pass0 (pa_cons (pv 0) (pa_cons (pe_op op_cat (pv 2) (pe_ifExp (pt_val (pe_callB call_isi (by rfl) B.isi (by decide +kernel) (pa_cons (pv 1) (pa_cons (pe_bltn (v := .ty "str") (by rfl) B.str (by decide +kernel) rfl) pa_nil))))
        (pe_lst (pa_cons (pe_op op_add_str (pv 1) pe_str) (pa_cons (pe_slice sl_str (pv 1) (po_some pe_int) po_none) (pa_cons (pe_upper (pv 1)) (pa_cons (pe_tup (pa_cons (pv 1) pa_nil)) pa_nil))))) (pe_lst pa_nil))) pa_nil)))), ?_⟩
      intro De H3 O t1 t2 t3 eD hv3 hO hA F3 k3
      subst eD
      obtain ⟨ty, hty, kty⟩ := hv3.strK (K := K)
      refine ⟨_, rfl, _, rfl, _, rfl, _, .ty "str", ty, .type "str", _, rfl, .ty "str", hty, kty, _, rfl, ?_⟩
      -- picked of the odd ones and some others
      have fin : ∀ (H4 : Hp) (p : Addr) (ys : List V) (es : List PyData), H4 p = some (.lst ys) → AnAll ms H4 ys es → (∀ e ∈ es, LeafOk x e) → Frame ms d l H4 → Kp [] H3 H4 → ys.length ≤ 10 →
          rCat (.ref O) (.ref p) H4 fun y H5 => spPick K [.ref d, y] H5 De.rt E0 := by
        intro H4 p ys es hp hB hes F4 k4 hl
        refine ⟨O, p, _, _, rfl, rfl, k4.at_ _ _ hO List.not_mem_nil, hp, Nat.le_trans (show 16 + ys.length ≤ 100 by omega) (by decide), fun q nq => ?_⟩
        have nn := F4.ne nq
        have F5 := F4.new (o := .lst (oddV t1 t2 t3 ++ ys)) nq
        refine ⟨d, l, q, _, rfl, F5.dk, sql_of upd_same, by simp, ?_, nn.1, nn.2, fun u H6 hu D6 k6 => ?_⟩
        · rw [List.length_append]
          show 16 + ys.length ≤ 1000000
          omega
        have F6 := F5.go k6 D6
        have k46 : Kp [d, l] H4 H6 := (Kp.new nq).trans k6
        have k36 : Kp [d, l] H3 H6 := (k4.more (by simp)).trans k46
        rcases List.mem_append.mp hu with hu | hu
        · obtain ⟨e, he, ae⟩ := hA.mem hu
          exact k u e H6 (ae.kp k36 F3.sub e) ((odd_good e he).mono (Nat.le_refl _) (by omega) (by omega)) F6 (k3.trans k36)
        · obtain ⟨e, he, ae⟩ := hB.mem hu
          exact k u e H6 (ae.kp k46 F4.sub e) (hes e he) F6 (k3.trans k36)
      cases es : isStr x with
      | false =>
        refine iteF ⟨Nat.zero_le _, fun p np => ?_⟩
        exact fin _ p [] [] upd_same .nil (by simp) (F3.new np) (.new np) (by decide)
      | true =>
        refine iteT ?_
        cases hv3 with
        | non => cases es
        | bl _ => cases es
        | int _ => cases es
        | lst _ _ _ => cases es
        | tup _ _ => cases es
        | dct _ _ _ => cases es
        | str g =>
          have hgw : 10 * g.length + 2 ≤ 16000 := hz
          have hg1 : g.length + 1 ≤ sizeLine := Nat.le_trans (show g.length + 1 ≤ 30000 by omega) (by decide)
          have hgl : ∀ c ∈ g.cps.toList, c < 128 := by
            have q : (g.cps.toList.all fun c => decide (c < 128)) = true := hpl
            rw [List.all_eq_true] at q
            exact fun c hc => of_decide_eq_true (q c hc)
          refine ⟨_, rfl, _, _, rfl, rfl, hg1, _, rfl, 1, rfl, g, rfl, Nat.le_of_succ_le hg1, _, rfl, ⟨_, rfl⟩, g, rfl, rfl, Nat.le_trans (show g.length ≤ 30000 by omega) (by decide), _, rfl, by show 1 ≤ sizeLine; decide, fun z nz => ?_⟩
          have k4 : Kp [] H3 (upd H3 z (.tup [.str g])) := .new nz
          have ez : (upd H3 z (.tup [.str g])) z = some (.tup [.str g]) := upd_same
          have F4 := F3.new (o := .tup [.str g]) nz
          generalize upd H3 z (.tup [.str g]) = H4 at k4 ez F4
          refine ⟨by show 4 ≤ sizeLine; decide, fun p np => ?_⟩
          have lowG : ∀ {z2 : Str}, (∀ c ∈ z2.cps.toList, c < 128) → z2.length ≤ g.length + 20 → LeafOk (.str g) (.str z2) := fun {z2} h1 h2 => by
            refine ⟨?_, Nat.zero_le _, ?_⟩
            · show (z2.cps.toList.all fun c => decide (c < 128)) = true
              rw [List.all_eq_true]
              exact fun c hc => decide_eq_true (h1 c hc)
            · show 10 * z2.length + 2 ≤ 2 * (10 * g.length + 2) + 400
              omega
          refine fin _ p [.str (g ++ "s"), .str (cutS g (some 1) none), .str (PySem.Txt.upper g), .ref z] [.str (g ++ "s"), .str (cutS g (some 1) none), .str (PySem.Txt.upper g), .tuple [.str g]] upd_same ?_ ?_ (F4.new np) (k4.trans (.new np)) (by show 4 ≤ 10; decide)
          · exact .cons (.str _) (.cons (.str _) (.cons (.str _) (.cons (.tup ((Kp.new (ms := []) np).tup _ _ ez) (.cons (.str _) .nil)) .nil)))
          · intro e he
            simp only [List.mem_cons, List.not_mem_nil, or_false] at he
            rcases he with rfl | rfl | rfl | rfl
            · refine lowG (app_lo hgl (by decide +kernel)) ?_
              rw [str_eta g, str_eta "s", st_app, st_len, List.length_append, st_len]
              have : (Str.ofString "s").cps.toList.length = 1 := by decide +kernel
              omega
            · refine lowG (fun c hc => ?_) ?_
              · rw [cut_fromS] at hc
                exact hgl c (List.mem_of_mem_drop hc)
              · rw [← cps_len, cut_fromS, List.length_drop, cps_len]
                omega
            · exact lowG (up_lo hgl).1 (by rw [(up_lo hgl).2]; omega)
            · refine ⟨?_, ?_, ?_⟩
              · show ((g.cps.toList.all fun c => decide (c < 128)) && true) = true
                rw [show (g.cps.toList.all fun c => decide (c < 128)) = true from hpl]
                rfl
              · show max 0 0 + 1 ≤ 0 + 2
                decide
              · show 10 * g.length + 2 + 2 + 0 + 3 ≤ 2 * (10 * g.length + 2) + 400
                omega
    -- those of a number
    obtain ⟨t2, d2, r2⟩ : ∃ tt, PSs (cxOf CX0 Pr w K mg base NLf "_law_leaf" (defScope sLeaf) (A 21) cdv Ar outer s0 H E).nox ((defBody sLeaf).drop 2) tt ∧
        ∀ (De : Ends) (H3 : Hp) (O t1 t2 t3 : Addr), De.rt = Q → An ms H3 v x → H3 O = some (.lst (oddV t1 t2 t3)) → AnAll ms H3 (oddV t1 t2 t3) oddD → Frame ms d l H3 → Kp [d, l] H H3 → tt De [some (.ref d), some v, some (.ref O)] H3 := by
      refine ⟨_, pss_cons (ps_if (PW.pt (pw_and (pt_val (pe_callB call_isi (by rfl) B.isi (by decide +kernel) (pa_cons (pv 1) (pa_cons (pe_bltn (v := .ty "int") (by rfl) B.int (by decide +kernel) rfl) pa_nil))))
          (pw_and1 (pt_cmpR op_gt (pe_call (ok_draw L.draw.F B) hr1 (by rfl) L.draw.g L.draw.F.kp L.draw.b .nil pass0 (pa_cons (pv 0) (pa_cons pe_int pa_nil))) pe_int (nomark _)))))
        (pss_one (ps_ret (pe_call (ok_pick L.pick.F B L.draw) hr (by rfl) L.pick.g L.pick.F.kp L.pick.b .nil pass0 (pa_cons (pv 0) (pa_cons (pe_lst (pa_cons (pe_op op_add (pv 1) pe_int) (pa_cons (pe_op op_sub (pv 1) pe_int) (pa_cons (pe_cmpR op_eq (pv 1) pe_int (nomark _)) (pa_cons (pe_callTy call_str_int (by rfl) B.str (by decide +kernel) (pa_cons (pv 1) pa_nil))
          (pa_cons (pe_un un_neg (pv 1)) (pa_cons (pe_op op_add (pv 1) pe_int) (pa_cons (pe_tup (pa_cons (pv 1) pa_nil)) pa_nil)))))))) pa_nil))))) pss_nil) dt, ?_⟩
      intro De H3 O t1 t2 t3 eD hv3 hO hA F3 k3
      have hv3' := hv3
      cases hv3 with
      | non => cases hpl
      | bl _ => cases hpl
      | lst _ _ _ => cases hpl
      | dct _ _ _ => cases hpl
      | str g => exact ⟨_, rfl, _, .ty "int", _, .type "int", false, rfl, .ty "int", .base (.str g), kit_ty (by decide +kernel), _, rfl, iteF (iteF (rt De H3 O t1 t2 t3 eD hv3' hO hA F3 k3))⟩
      | tup e => exact ⟨_, rfl, _, .ty "int", _, .type "int", false, rfl, .ty "int", .base (.tup e), kit_ty (by decide +kernel), _, rfl, iteF (iteF (rt De H3 O t1 t2 t3 eD hv3' hO hA F3 k3))⟩
      | int i =>
        have hi : i.natAbs < 1000 := of_decide_eq_true hpl
        refine ⟨_, rfl, _, .ty "int", _, .type "int", true, rfl, .ty "int", .base (.int i), kit_ty (by decide +kernel), _, rfl, iteT ⟨_, rfl, d, l, 4, rfl, F3.dk, by decide, by decide, fun r H5 r0 r1 D5 k5 => ⟨_, _, rfl, rfl, _, rfl, ite2 (fun _ => ?_) (fun _ => ?_)⟩⟩⟩
        rotate_left
        · exact rt De H5 O t1 t2 t3 eD (hv3'.kp k5 F3.sub _) (k5.at_ _ _ hO (oin hO F3)) (hA.kp k5 F3.sub _) (F3.go k5 D5) (k3.trans k5)
        subst eD
        have F5 := F3.go k5 D5
        have hlog := (int_ok i (by have := b1000; omega)).1
        have hlen := (int_ok i (by have := b1000; omega)).2
        have hsl : (Str.ofString (toString i)).length ≤ 45 := hlen
        refine ⟨_, rfl, _, rfl, _, _, rfl, rfl, _, rfl, _, _, rfl, rfl, _, rfl, rfl, _, rfl, i, rfl, hlog, _, rfl, _, rfl, _, rfl, _, _, rfl, rfl, _, rfl, by show 1 ≤ sizeLine; decide, fun z nz => ?_⟩
        have k6 : Kp [] H5 (upd H5 z (.tup [.int i])) := .new nz
        have ez : (upd H5 z (.tup [.int i])) z = some (.tup [.int i]) := upd_same
        have F6 := F5.new (o := .tup [.int i]) nz
        generalize upd H5 z (.tup [.int i]) = H6 at k6 ez F6
        refine ⟨by show 7 ≤ sizeLine; decide, fun p np => ?_⟩
        have nn := F6.ne np
        have F7 := F6.new (o := .lst [.int (i + 1), .int (i - 1), .bl (decide (V.int i = V.int 1)), .str (Str.ofString (toString i)), .int (-i), .int (i + 2), .ref z]) np
        refine ⟨d, l, p, _, rfl, F7.dk, sql_of upd_same, by simp, by show 7 ≤ 1000000; decide, nn.1, nn.2, fun y H8 hy D8 k8 => ?_⟩
        have F8 := F7.go k8 D8
        have k68 : Kp [d, l] H6 H8 := (Kp.new np).trans k8
        have hfi : ∀ j : Int, j.natAbs < 1002 → LeafOk (.int i) (.int j) := fun j hj => ⟨decide_eq_true (by have := b1001; omega), Nat.zero_le _, by show 45 ≤ 2 * 45 + 400; decide⟩
        obtain ⟨xd, ay, gy⟩ : ∃ xd, An ms H8 y xd ∧ LeafOk (.int i) xd := by
          simp only [List.mem_cons, List.not_mem_nil, or_false] at hy
          rcases hy with rfl | rfl | rfl | rfl | rfl | rfl | rfl
          · exact ⟨_, .int _, hfi _ (by omega)⟩
          · exact ⟨_, .int _, hfi _ (by omega)⟩
          · exact ⟨_, .bl _, rfl, Nat.zero_le _, by show 5 ≤ 2 * 45 + 400; decide⟩
          · exact ⟨_, .str _, int_low _ i, Nat.zero_le _, by show 10 * (Str.ofString (toString i)).length + 2 ≤ 2 * 45 + 400; omega⟩
          · exact ⟨_, .int _, hfi _ (by omega)⟩
          · exact ⟨_, .int _, hfi _ (by omega)⟩
          · refine ⟨.tuple [.int i], .tup (k68.tup _ _ ez) (.cons (.int _) .nil), ?_, ?_, ?_⟩
            · show (decide (i.natAbs < bAny) && true) = true
              rw [decide_eq_true (by have := b1000; omega)]
              rfl
            · show max 0 0 + 1 ≤ 0 + 2
              decide
            · show 45 + 2 + 0 + 3 ≤ 2 * 45 + 400
              decide
        exact k y xd H8 ay gy F8 (k3.trans (k5.trans ((k6.more (by simp)).trans k68)))
    refine ⟨_, pss_cons (ps_set (i := 2) scLeaf.nd rfl (.inl rfl) (pe_lst (pa_cons pe_non (pa_cons pe_bl (pa_cons pe_bl (pa_cons pe_int (pa_cons pe_int (pa_cons (pe_un un_neg pe_int) (pa_cons pe_int (pa_cons pe_str (pa_cons pe_str (pa_cons pe_str (pa_cons (pe_tup pa_nil) (pa_cons (pe_lst pa_nil) (pa_cons pe_dnewK (pa_cons (pe_op op_pow pe_int pe_int) (pa_cons pe_str (pa_cons pe_str pa_nil))))))))))))))))))
      (pss_cons (ps_if (PW.pt (pw_and (pt_val (pe_callB call_isi (by rfl) B.isi (by decide +kernel) (pa_cons (pv 1) (pa_cons (pe_bltn (v := .ty "tuple") (by rfl) B.tuple (by decide +kernel) rfl) pa_nil))))
          (pw_and1 (pt_cmpR op_gt (pe_call (ok_draw L.draw.F B) hr1 (by rfl) L.draw.g L.draw.F.kp L.draw.b .nil pass0 (pa_cons (pv 0) (pa_cons pe_int pa_nil))) pe_int (nomark _)))))
        (pss_one (ps_ret (pe_call (ok_pick L.pick.F B L.draw) hr (by rfl) L.pick.g L.pick.F.kp L.pick.b .nil pass0 (pa_cons (pv 0) (pa_cons (pe_lst (pa_cons (pe_callTy call_list_of (by rfl) B.list (by decide +kernel) (pa_cons (pv 1) pa_nil)) (pa_cons (pe_revA (pv 1)) (pa_cons (pe_slice sl_cut (pv 1) (po_some pe_int) po_none)
          (pa_cons (pe_op op_cat2 (pv 1) (pe_slice sl_cut (pv 1) (po_some (pe_un un_neg pe_int)) po_none)) (pa_cons (pe_op op_cat2 (pv 1) (pe_tup (pa_cons pe_int pa_nil))) (pa_cons (pe_slice sl_cut (pv 1) po_none (po_some (pe_un un_neg pe_int))) (pa_cons (pe_tup (pa_cons (pv 1) pa_nil)) pa_nil)))))))) pa_nil))))) pss_nil) d2), ?_⟩
    refine ⟨1, rfl, Nat.zero_le _, fun t1 n1 => ?_⟩
    have c1 : Kp [] H (upd H t1 (.tup [])) := .new n1
    have e1 : (upd H t1 (.tup [])) t1 = some (.tup []) := upd_same
    have F1 := Fr.new (o := .tup []) n1
    generalize upd H t1 (.tup []) = G1 at c1 e1 F1 ⊢
    refine ⟨Nat.zero_le _, fun t2 n2 => ?_⟩
    have c2 : Kp [] G1 (upd G1 t2 (.lst [])) := .new n2
    have e2 : (upd G1 t2 (.lst [])) t2 = some (.lst []) := upd_same
    have f2 := F1.has.fresh n2
    have F2 := F1.new (o := .lst []) n2
    generalize upd G1 t2 (.lst []) = G2 at c2 e2 F2 ⊢
    intro t3 n3
    have c3 : Kp [] G2 (upd G2 t3 (.dK [])) := .new n3
    have e3 : (upd G2 t3 (.dK [])) t3 = some (.dK []) := upd_same
    have f3 := F2.has.fresh n3
    have F3 := F2.new (o := .dK []) n3
    generalize upd G2 t3 (.dK []) = G3 at c3 e3 F3 ⊢
    refine ⟨_, _, rfl, rfl, (⟨by decide, by decide, by decide⟩ : (0 : Int) ≤ 39 ∧ (39 : Int) ≤ 1000000 ∧ (10 : Int).natAbs < 2 ^ 64), by show 16 ≤ sizeLine; decide, fun O nO => ?_⟩
    have c4 : Kp [] G3 (upd G3 O (.lst (oddV t1 t2 t3))) := .new nO
    have eO : (upd G3 O (.lst (oddV t1 t2 t3))) O = some (.lst (oddV t1 t2 t3)) := upd_same
    have F4 := F3.new (o := .lst (oddV t1 t2 t3)) nO
    have hA : AnAll ms (upd G3 O (.lst (oddV t1 t2 t3))) (oddV t1 t2 t3) oddD := by
      refine .cons .non (.cons (.bl _) (.cons (.bl _) (.cons (.int _) (.cons (.int _) (.cons (.int _) (.cons (.int _) (.cons (.str _) (.cons (.str _) (.cons (.str _) (.cons ?_ (.cons ?_ (.cons ?_ (.cons (.int _) (.cons (.str _) (.cons (.str _) .nil)))))))))))))))
      · exact .tup ((c2.trans (c3.trans c4)).tup _ _ e1) .nil
      · exact .lst ((c3.trans c4).at_ _ _ e2 List.not_mem_nil) f2 .nil
      · exact .dct (c4.at_ _ _ e3 List.not_mem_nil) f3 .nil
    have c14 : Kp [] H (upd G3 O (.lst (oddV t1 t2 t3))) := c1.trans (c2.trans (c3.trans c4))
    have k4 : Kp [d, l] H (upd G3 O (.lst (oddV t1 t2 t3))) := c14.more (by simp)
    have hv4 := hv.kp c14 (by simp) x
    generalize upd G3 O (.lst (oddV t1 t2 t3)) = H4 at eO F4 hA k4 hv4 ⊢
    obtain ⟨ty, hty, kty⟩ := hv4.tupK (K := K)
    refine ⟨_, rfl, _, .ty "tuple", ty, .type "tuple", _, rfl, .ty "tuple", hty, kty, _, rfl, ?_⟩
    have hv4' := hv4
    cases hv4 with
    | non => cases hpl
    | bl _ => cases hpl
    | lst _ _ _ => cases hpl
    | dct _ _ _ => cases hpl
    | str g => exact iteF (iteF (r2 _ H4 O t1 t2 t3 rfl hv4' eO hA F4 k4))
    | int i => exact iteF (iteF (r2 _ H4 O t1 t2 t3 rfl hv4' eO hA F4 k4))
    | @tup a xs ds ea hds =>
    refine iteT ⟨_, rfl, d, l, 4, rfl, F4.dk, by decide, by decide, fun r H5 r0 r1 D5 k5 => ⟨_, _, rfl, rfl, _, rfl, ite2 (fun _ => ?_) (fun _ => ?_)⟩⟩
    rotate_left
    · exact r2 _ H5 O t1 t2 t3 rfl (hv4'.kp k5 F4.sub _) (k5.at_ _ _ eO (oin eO F4)) (hA.kp k5 F4.sub _) (F4.go k5 D5) (k4.trans k5)
    have F5 := F4.go k5 D5
    have e5 := k5.tup _ _ ea
    have h5 := hds.kp k5 F4.sub ds
    have k05 := k4.trans k5
    have lx := hds.length
    have hwd : wd (.tuple ds) = wdAll ds + 3 := rfl
    have hln := len_wd ds
    have hfd : fitJAll bAny ds = true := fitJAll_le b1000 ds (plAll_fit ds hpl)
    have lim : ∀ n, n ≤ 100000 → n ≤ sizeLine := fun n h => Nat.le_trans h (by decide)
    -- list(thing)
    refine ⟨_, rfl, _, rfl, a, _, rfl, .inr (sqt_of e5), fun q1 m1 => ?_⟩
    have g1 : Kp [] H5 (upd H5 q1 (.lst xs)) := .new m1
    have o1 : (upd H5 q1 (.lst xs)) q1 = some (.lst xs) := upd_same
    have i1 := F5.has.fresh m1
    have L1 := F5.new (o := .lst xs) m1
    generalize upd H5 q1 (.lst xs) = J1 at g1 o1 L1
    -- thing[::-1]
    refine ⟨_, rfl, .inl ⟨a, _, rfl, sqt_of (g1.tup _ _ e5), fun q2 m2 => ?_⟩⟩
    have g2 : Kp [] J1 (upd J1 q2 (.tup xs.reverse)) := .new m2
    have o2 : (upd J1 q2 (.tup xs.reverse)) q2 = some (.tup xs.reverse) := upd_same
    generalize upd J1 q2 (.tup xs.reverse) = J2 at g2 o2
    have g12 := g1.trans g2
    -- thing[1:]
    refine ⟨_, rfl, 1, rfl, a, xs, rfl, g12.tup _ _ e5, fun q3 J3 o3 g3 => ?_⟩
    have g13 := g12.trans g3
    -- thing + thing[-1:]
    refine ⟨_, rfl, _, rfl, 1, rfl, _, rfl, a, xs, rfl, g13.tup _ _ e5, fun q4 J4 o4 g4 => ?_⟩
    have g14 := g13.trans g4
    have ll4 := cutV_length xs (some (-1)) none
    refine ⟨a, q4, _, _, rfl, rfl, g14.tup _ _ e5, o4, lim _ (by omega), fun q5 J5 o5 g5 => ?_⟩
    have g15 := g14.trans g5
    -- thing + (0,)
    refine ⟨_, rfl, by show 1 ≤ sizeLine; decide, fun q6 m6 => ?_⟩
    have g6 : Kp [] J5 (upd J5 q6 (.tup [.int 0])) := .new m6
    have o6 : (upd J5 q6 (.tup [.int 0])) q6 = some (.tup [.int 0]) := upd_same
    generalize upd J5 q6 (.tup [.int 0]) = J6 at g6 o6
    have g16 := g15.trans g6
    refine ⟨a, q6, _, _, rfl, rfl, g16.tup _ _ e5, o6, lim _ (by show xs.length + 1 ≤ 100000; omega), fun q7 J7 o7 g7 => ?_⟩
    have g17 := g16.trans g7
    -- thing[:-1]
    refine ⟨_, rfl, 1, rfl, _, rfl, a, xs, rfl, g17.tup _ _ e5, fun q8 J8 o8 g8 => ?_⟩
    have g18 := g17.trans g8
    -- (thing,)
    refine ⟨_, rfl, by show 1 ≤ sizeLine; decide, fun q9 m9 => ?_⟩
    have g9 : Kp [] J8 (upd J8 q9 (.tup [.ref a])) := .new m9
    have o9 : (upd J8 q9 (.tup [.ref a])) q9 = some (.tup [.ref a]) := upd_same
    generalize upd J8 q9 (.tup [.ref a]) = J9 at g9 o9
    have g19 := g18.trans g9
    refine ⟨by show 7 ≤ sizeLine; decide, fun p np => ?_⟩
    have L9 := F5.kp0 g19
    have nn := L9.ne np
    have L10 := L9.new (o := .lst [.ref q1, .ref q2, .ref q3, .ref q5, .ref q7, .ref q8, .ref q9]) np
    refine ⟨d, l, p, _, rfl, L10.dk, sql_of upd_same, by simp, by show 7 ≤ 1000000; decide, nn.1, nn.2, fun y J11 hy D11 k11 => ?_⟩
    have L11 := L10.go k11 D11
    have h911 : Kp [d, l] J9 J11 := (Kp.new np).trans k11
    have h511 : Kp [d, l] H5 J11 := (g19.more (by simp)).trans h911
    have h11 := h5.kp h511 F5.sub ds
    have sub0 : ∀ {o : Addr} {vs : List V} {J : Hp}, J o = some (.tup vs) → Kp [] J J9 → J11 o = some (.tup vs) := fun e g => h911.tup _ _ (g.tup _ _ e)
    obtain ⟨xd, ay, gy⟩ : ∃ xd, An ms J11 y xd ∧ LeafOk (.tuple ds) xd := by
      simp only [List.mem_cons, List.not_mem_nil, or_false] at hy
      rcases hy with rfl | rfl | rfl | rfl | rfl | rfl | rfl
      · refine ⟨.list ds, .lst ?_ i1 h11, hfd, ?_, ?_⟩
        · refine h911.at_ _ _ ((g2.trans (g3.trans (g4.trans (g5.trans (g6.trans (g7.trans (g8.trans g9))))))).at_ _ _ o1 List.not_mem_nil) fun z => i1 (F5.sub _ z)
        · show PyData.depthAll ds + 1 ≤ PyData.depthAll ds + 1 + 2
          omega
        · show wdAll ds + 3 ≤ 2 * (wdAll ds + 3) + 400
          omega
      · refine ⟨.tuple ds.reverse, .tup (sub0 o2 (g3.trans (g4.trans (g5.trans (g6.trans (g7.trans (g8.trans g9))))))) h11.rev, fitJ_rev _ _ hfd, ?_, ?_⟩
        · show PyData.depthAll ds.reverse + 1 ≤ PyData.depthAll ds + 1 + 2
          rw [dep_rev]
          omega
        · show wdAll ds.reverse + 3 ≤ 2 * (wdAll ds + 3) + 400
          rw [wd_rev]
          omega
      · obtain ⟨b1, b2, b3⟩ := sub_facts bAny ds (HT.sIx xs.length 0 (some 1)) (HT.sIx xs.length xs.length none - HT.sIx xs.length 0 (some 1)) hfd
        refine ⟨.tuple _, .tup (sub0 o3 (g4.trans (g5.trans (g6.trans (g7.trans (g8.trans g9)))))) ((h11.drop _).take _), b1, ?_, ?_⟩
        · show PyData.depthAll _ + 1 ≤ PyData.depthAll ds + 1 + 2
          omega
        · show wdAll _ + 3 ≤ 2 * (wdAll ds + 3) + 400
          omega
      · obtain ⟨b1, b2, b3⟩ := sub_facts bAny ds (HT.sIx xs.length 0 (some (-1))) (HT.sIx xs.length xs.length none - HT.sIx xs.length 0 (some (-1))) hfd
        refine ⟨.tuple (ds ++ _), .tup (sub0 o5 (g6.trans (g7.trans (g8.trans g9)))) (h11.append ((h11.drop _).take _)), ?_, ?_, ?_⟩
        · show fitJAll bAny (ds ++ _) = true
          rw [fitJ_app, hfd, b1]
          rfl
        · show PyData.depthAll (ds ++ _) + 1 ≤ PyData.depthAll ds + 1 + 2
          rw [dep_app]
          omega
        · show wdAll (ds ++ _) + 3 ≤ 2 * (wdAll ds + 3) + 400
          rw [wd_app]
          omega
      · refine ⟨.tuple (ds ++ [.int 0]), .tup (sub0 o7 (g8.trans g9)) (h11.append (.cons (.int _) .nil)), ?_, ?_, ?_⟩
        · show fitJAll bAny (ds ++ [.int 0]) = true
          rw [fitJ_app, hfd]
          show (decide (0 < bAny) && true) = true
          rw [decide_eq_true b0]
          rfl
        · show PyData.depthAll (ds ++ [.int 0]) + 1 ≤ PyData.depthAll ds + 1 + 2
          rw [dep_app]
          show max (PyData.depthAll ds) (max 0 0) + 1 ≤ _
          omega
        · show wdAll (ds ++ [.int 0]) + 3 ≤ 2 * (wdAll ds + 3) + 400
          rw [wd_app]
          show wdAll ds + (45 + 2 + 0) + 3 ≤ _
          omega
      · obtain ⟨b1, b2, b3⟩ := sub_facts bAny ds (HT.sIx xs.length 0 none) (HT.sIx xs.length xs.length (some (-1)) - HT.sIx xs.length 0 none) hfd
        refine ⟨.tuple _, .tup (sub0 o8 g9) ((h11.drop _).take _), b1, ?_, ?_⟩
        · show PyData.depthAll _ + 1 ≤ PyData.depthAll ds + 1 + 2
          omega
        · show wdAll _ + 3 ≤ 2 * (wdAll ds + 3) + 400
          omega
      · refine ⟨.tuple [.tuple ds], .tup (h911.tup _ _ o9) (.cons (.tup (h511.tup _ _ e5) h11) .nil), ?_, ?_, ?_⟩
        · show (fitJAll bAny ds && true) = true
          rw [hfd]
          rfl
        · show max (PyData.depthAll ds + 1) 0 + 1 ≤ PyData.depthAll ds + 1 + 2
          omega
        · show wdAll ds + 3 + 2 + 0 + 3 ≤ 2 * (wdAll ds + 3) + 400
          omega
    exact k y xd J11 ay gy L11 (k05.trans h511)
end
end Ey
set_option exponentiation.threshold 1000
set_option maxHeartbeats 4000000
namespace Ey
open PySem PySem.Spec L2
structure LB (K : PySem.W.Frag) (mg : Str → Option Value) (A : Nat → Addr) (D : Nat → FuncData) : Prop extends LF K mg A D where
  bent : Df K mg "_law_bent" sBent ["_law_deck_here", "_law_thing", "_law_depth"] (A 22) (D 22)
section
variable {Pr : Program} {w : World} {K : PySem.W.Frag} {mg : Str → Option Value} {base : Heap} {A : Nat → Addr} {D : Nat → FuncData}
abbrev NB : List Str := ["_law_deck_here", "_law_thing", "_law_depth", "_law_at"]
theorem scBent : FnScope NB ["_law_deck_here", "_law_thing", "_law_depth"] (defScope sBent) := ⟨rfl, rfl, rfl, by decide +kernel, rfl, by decide +kernel, by decide +kernel⟩
def spBent (n : Nat) : Sp := fun vs H Q _ => ∃ (d l : Addr) (ms : List Addr) (v : V) (x : PyData) (dp : Int), vs = [.ref d, v, .int dp] ∧ x.depth < n ∧ An ms H v x ∧ plD x = true ∧ wd x ≤ 16000 ∧ Frame ms d l H ∧
  ∀ (v' : V) (x' : PyData) (H' : Hp), An ms H' v' x' → LeafOk x x' → Frame ms d l H' → Kp [d, l] H H' → Q v' H'
theorem ok_bent (L : LB K mg A D) : ∀ n : Nat, FnOk Pr w K mg base CX0 (n + 4) (A 22) (D 22) ["_law_deck_here", "_law_thing", "_law_depth"] (spBent n)
  | 0 => by
    refine L.bent.F.ok scBent (fun vs H Q E h => ?_) (fun cdv Ar outer s H vs Q E hr h => ?_)
    · obtain ⟨d, l, ms, v, x, dp, rfl, _⟩ := h
      rfl
    · obtain ⟨d, l, ms, v, x, dp, rfl, hd, _⟩ := h
      exact absurd hd (Nat.not_lt_zero _)
  | n + 1 => by
    have ih := ok_bent L n
    have B := L.B
    refine L.bent.F.ok scBent (fun vs H Q E h => ?_) (fun cdv Ar outer s H vs Q E hr h => ?_)
    · obtain ⟨d, l, ms, v, x, dp, rfl, _⟩ := h
      rfl
    · obtain ⟨d, l, ms, v, x, dp, rfl, hdn, hv, hpl, hz, Fr, k⟩ := h
      have hr3 := hr.mono (show 3 ≤ n + 4 by omega)
      have hr1 := hr.mono (show 1 ≤ n + 4 by omega)
      have hu1 := hr.units
      obtain ⟨tt, dt, rt⟩ : ∃ tt, PSs (cxOf CX0 Pr w K mg base NB "_law_bent" (defScope sBent) (A 22) cdv Ar outer s H E).nox ((defBody sBent).drop 1) tt ∧
          ∀ (De : Ends) (H3 : Hp) (z : Option V), De.rt = Q → An ms H3 v x → Frame ms d l H3 → Kp [d, l] H H3 → tt De [some (.ref d), some v, some (.int dp), z] H3 := by
        refine ⟨_, pss_one (ps_ret (pe_call (ok_leaf L.toLF) hr3 (by rfl) L.leaf.g L.leaf.F.kp L.leaf.b .nil pass0 (pa_cons (pv 0) (pa_cons (pv 1) pa_nil)))), ?_⟩
        intro De H3 z eD hv3 F3 k3
        subst eD
        exact ⟨_, rfl, _, rfl, d, l, ms, v, x, rfl, hv3, hpl, hz, F3, fun v' x' H' a g F' k' => k v' x' H' a g F' (k3.trans k')⟩
      refine ⟨_, pss_cons (ps_if (PW.pt (pw_and (pt_val (pe_callB call_isi (by rfl) B.isi (by decide +kernel) (pa_cons (pv 1) (pa_cons (pe_bltn (v := .ty "tuple") (by rfl) B.tuple (by decide +kernel) rfl) pa_nil))))
          (pw_and (pt_cmpR (op_neE hu1) (pv 1) (pe_tup pa_nil) (nomark _))
          (pw_and1 (PW.pt (pw_or (pt_cmpR op_gt (pv 2) pe_int (nomark _)) (pw_or1 (pt_cmpR op_gt (pe_call (ok_draw L.draw.F B) hr1 (by rfl) L.draw.g L.draw.F.kp L.draw.b .nil pass0 (pa_cons (pv 0) (pa_cons pe_int pa_nil))) pe_int (nomark _)))))))))
        (pss_cons (ps_set (i := 3) scBent.nd rfl (.inl rfl) (pe_call (ok_draw L.draw.F B) hr1 (by rfl) L.draw.g L.draw.F.kp L.draw.b .nil pass0 (pa_cons (pv 0) (pa_cons (pe_callB call_len_seq (by rfl) B.len PySem.boot_len (pa_cons (pv 1) pa_nil)) pa_nil))))
        (pss_one (ps_ret (pe_op op_cat2 (pe_op op_cat2 (pe_slice sl_cut (pv 1) po_none (po_some (pv 3))) (pe_tup (pa_cons (pe_call ih hr (by rfl) L.bent.g L.bent.F.kp L.bent.b .nil pass0 (pa_cons (pv 0) (pa_cons (pe_ix ix_tup (pv 1) (pv 3) (fun _ _ => rfl)) (pa_cons (pe_op op_sub (pv 2) pe_int) pa_nil)))) pa_nil))) (pe_slice sl_cut (pv 1) (po_some (pe_op op_add (pv 3) pe_int)) po_none))))) pss_nil) dt, ?_⟩
      obtain ⟨ty, hty, kty⟩ := hv.tupK (K := K)
      refine ⟨_, rfl, _, .ty "tuple", ty, .type "tuple", _, rfl, .ty "tuple", hty, kty, _, rfl, ?_⟩
      have hv' := hv
      cases hv with
      | non => cases hpl
      | bl _ => cases hpl
      | lst _ _ _ => cases hpl
      | dct _ _ _ => cases hpl
      | str g => exact iteF (iteF (rt _ H none rfl hv' Fr .refl))
      | int i => exact iteF (iteF (rt _ H none rfl hv' Fr .refl))
      | @tup a xs ds ea hds =>
      have lx := hds.length
      have hwd : wd (.tuple ds) = wdAll ds + 3 := rfl
      have hln := len_wd ds
      have hdp : (PyData.tuple ds).depth = PyData.depthAll ds + 1 := rfl
      have hpa : plAll ds = true := hpl
      refine iteT ⟨_, rfl, Nat.zero_le _, fun p np => ⟨a, p, xs, rfl, rfl, (Kp.new (ms := []) np).tup _ _ ea, upd_same, _, rfl, ?_⟩⟩
      have k1 : Kp [] H (upd H p (.tup [])) := .new np
      have F1 := Fr.new (o := .tup []) np
      generalize upd H p (.tup []) = H1 at k1 F1
      clear np
      have kk1 : Kp [d, l] H H1 := k1.more (by simp)
      cases he : xs.isEmpty with
      | true => exact iteF (iteF (rt _ H1 none rfl (hv'.kp k1 (by simp) _) F1 kk1))
      | false =>
      have hpos : 0 < xs.length := by
        cases xs with
        | nil => cases he
        | cons _ _ => exact Nat.succ_pos _
      -- one part is bent
      have go : ∀ H2, Frame ms d l H2 → Kp [d, l] H H2 → ∀ (De : Ends), De.rt = Q → (tSeq (tAsg (tCall spDraw [] E0 (tCons (tVar 0) (tCons (tCB (fun xs H_1 Q => ∃ p ys, xs = [V.ref p] ∧ (SqL K H_1 p ys ∨ SqT K H_1 p ys) ∧ Q (V.int ys.length) H_1) (tCons (tVar 1) tNil)) tNil))) (gName 3))
          (tRet (tSwpG (tVar 1) (tVar 3) (tCall (spBent n) [] E0 (tCons (tVar 0) (tCons (tOp (rIxT K) (tVar 1) (tVar 3)) (tCons (tOp (rI0 fun i j => .int (i - j)) (tVar 2) (tC (.int 1))) tNil))))))) De [some (.ref d), some (.ref a), some (.int dp), none] H2 := by
        intro H2 F2 k2 De eD
        subst eD
        have e2 := k2.tup _ _ ea
        refine ⟨_, rfl, _, rfl, a, _, rfl, .inr (sqt_of e2), d, l, _, rfl, F2.dk, by omega, by omega, fun at' H3 a0 a1 D3 k3 => ?_⟩
        have F3 := F2.go k3 D3
        have e3 := k3.tup _ _ e2
        obtain ⟨i, rfl⟩ : ∃ i : Nat, at' = (i : Int) := ⟨at'.toNat, by omega⟩
        have hi : i < xs.length := by omega
        have k03 := k2.trans k3
        have hP3 := hds.kp k03 Fr.sub ds
        show tSwpG (tVar 1) (tVar 3) (tCall (spBent n) [] E0 (tCons (tVar 0) (tCons (tOp (rIxT K) (tVar 1) (tVar 3)) (tCons (tOp (rI0 fun i j => .int (i - j)) (tVar 2) (tC (.int 1))) tNil)))) [some (.ref d), some (.ref a), some (.int dp), some (.int (i : Nat))] H3 De.rt
        refine swpG (a := a) (xs := xs) (i := i) (fun Q' q => ⟨_, rfl, q⟩) (fun Q' q => ⟨_, rfl, q⟩) e3 fun q1 H4 e4 k4 => ?_
        have e34 := k4.tup _ _ e3
        have F4 := F3.kp0 k4
        obtain ⟨xi, exi, axi⟩ := (hP3.kp k4 (by simp) ds).get (List.getElem?_eq_getElem hi)
        have hmem := List.mem_of_getElem? exi
        have hwi := wd_mem hmem
        have hdi := dep_mem hmem
        refine ⟨_, rfl, _, rfl, _, rfl, a, _, _, xs[i], rfl, rfl, sqt_of e34, atI_nat (List.getElem?_eq_getElem hi), _, rfl, _, _, rfl, rfl, d, l, ms, xs[i], xi, _, rfl, by omega, axi, plAll_mem hpa hmem, by omega, F4, fun v' x' H5 ax gx F5 k5 => ?_⟩
        refine swG (a := a) (xs := xs) (i := i) (fun H' _ Q' q => ⟨_, rfl, q⟩) (fun H' _ Q' q => ⟨_, rfl, q⟩) (by omega) (k5.tup _ _ e4) (k5.tup _ _ e34) fun q5 H6 e6 k6 => ?_
        have k36 : Kp [d, l] H3 H6 := (k4.more (by simp)).trans (k5.trans (k6.more (by simp)))
        have hP6 := hP3.kp k36 F3.sub ds
        have gg := swap_good (B := bAny) (C := bAny) (n := 2) (w := 400) (fitJAll_le b1000 ds (plAll_fit ds hpa)) exi (Nat.le_refl _) gx
        exact k _ (.tuple (ds.take i ++ [x'] ++ ds.drop (i + 1))) _ (.tup e6 (((hP6.take i).append (.cons (ax.kp k6 (by simp) _) .nil)).append (hP6.drop (i + 1)))) gg (F5.kp0 k6) (k03.trans k36)
      refine iteT ⟨_, rfl, _, _, rfl, rfl, _, rfl, ite2 (fun _ => ?_) (fun _ => ?_)⟩
      · exact iteT (go H1 F1 kk1 _ rfl)
      · refine ⟨_, rfl, d, l, 4, rfl, F1.dk, by decide, by decide, fun r H2 r0 r1 D2 k2 => ⟨_, _, rfl, rfl, _, rfl, ite2 (fun _ => ?_) (fun _ => ?_)⟩⟩
        · exact go H2 (F1.go k2 D2) (kk1.trans k2) _ rfl
        · exact rt _ H2 none rfl ((hv'.kp k1 (by simp) _).kp k2 F1.sub _) (F1.go k2 D2) (kk1.trans k2)
end
end Ey
set_option exponentiation.threshold 1000
set_option maxHeartbeats 4000000
namespace Ey
open PySem PySem.Spec L2
theorem goodJ_all {B n w : Nat} : ∀ ds : List PyData, (∀ x ∈ ds, GoodJ B n w x) → GoodJAll B n w ds
  | [], _ => .nil
  | x :: r, h => .cons (h x List.mem_cons_self) (goodJ_all r fun y hy => h y (List.mem_cons_of_mem _ hy))
theorem tup_good {B n w m : Nat} {ds : List PyData} (h : ∀ x ∈ ds, GoodJ B n w x) (hl : ds.length ≤ m) : GoodJ B (n + 1) ((w + 2) * m + 3) (.tuple ds) := by
  obtain ⟨a, b, c⟩ := (goodJ_all ds h).facts
  have hm : (w + 2) * ds.length ≤ (w + 2) * m := Nat.mul_le_mul_left _ hl
  refine ⟨a, ?_, ?_⟩
  · show PyData.depthAll ds + 1 ≤ n + 1
    omega
  · show wdAll ds + 3 ≤ _
    omega
theorem RuleOk.good {r : PyData} (h : RuleOk r) : GoodJ 1000 1 144 r ∧ plD r = true := by
  obtain ⟨a, b, c, rfl, h1, h2, h3⟩ := h
  refine ⟨⟨?_, ?_, ?_⟩, ?_⟩
  · show (decide (a.natAbs < 1000) && (decide (b.natAbs < 1000) && (decide (c.natAbs < 1000) && true))) = true
    rw [decide_eq_true (by omega), decide_eq_true (by omega), decide_eq_true (by omega)]
    rfl
  · show max 0 (max 0 (max 0 0)) + 1 ≤ 1
    decide
  · show 45 + 2 + (45 + 2 + (45 + 2 + 0)) + 3 ≤ 144
    decide
  · show (decide (a.natAbs < 1000) && (decide (b.natAbs < 1000) && (decide (c.natAbs < 1000) && true))) = true
    rw [decide_eq_true (by omega), decide_eq_true (by omega), decide_eq_true (by omega)]
    rfl
theorem plAll_of : ∀ {ds : List PyData}, (∀ x ∈ ds, plD x = true) → plAll ds = true
  | [], _ => rfl
  | x :: r, h => by
    show (plD x && plAll r) = true
    rw [h x List.mem_cons_self, plAll_of fun y hy => h y (List.mem_cons_of_mem _ hy)]
    rfl
/-- a tuple of a few rules -/
theorem rules_good {rs : List PyData} {m : Nat} (h : ∀ x ∈ rs, RuleOk x) (hl : rs.length ≤ m) : GoodJ 1000 2 (146 * m + 3) (.tuple rs) ∧ plD (.tuple rs) = true :=
  ⟨tup_good (fun x hx => (h x hx).good.1) hl, plAll_of fun x hx => (h x hx).good.2⟩
theorem StateOk.good {s : Nat} {q : PyData} (h : StateOk s q) (hs : s ≤ 5) : GoodJ 1000 2 733 q ∧ plD q = true := by
  obtain ⟨rs, rfl, hl, hr⟩ := h
  exact rules_good (m := 5) hr (by omega)
theorem strs_good {gs : List Str} {m : Nat} (h : ∀ g ∈ gs, LowS g) (hl : gs.length ≤ m) : GoodJ 1000 1 (84 * m + 3) (.tuple (gs.map PyData.str)) ∧ plD (.tuple (gs.map PyData.str)) = true := by
  refine ⟨tup_good (fun x hx => ?_) (by rw [List.length_map]; exact hl), plAll_of fun x hx => ?_⟩
  · obtain ⟨g, hg, rfl⟩ := List.mem_map.mp hx
    exact (h g hg).good
  · obtain ⟨g, hg, rfl⟩ := List.mem_map.mp hx
    exact (h g hg).good (B := 1000) |>.f
theorem four_good {B : Nat} {a b c e : PyData} {n1 n2 n3 n4 w1 w2 w3 w4 n w : Nat} (g1 : GoodJ B n1 w1 a) (g2 : GoodJ B n2 w2 b) (g3 : GoodJ B n3 w3 c) (g4 : GoodJ B n4 w4 e) (hn : n1 + 1 ≤ n ∧ n2 + 1 ≤ n ∧ n3 + 1 ≤ n ∧ n4 + 1 ≤ n) (hw : w1 + w2 + w3 + w4 + 11 ≤ w) : GoodJ B n w (.tuple [a, b, c, e]) := by
  have h1 := g1.d
  have h2 := g2.d
  have h3 := g3.d
  have h4 := g4.d
  have k1 := g1.w
  have k2 := g2.w
  have k3 := g3.w
  have k4 := g4.w
  refine ⟨?_, ?_, ?_⟩
  · show (fitJ B a && (fitJ B b && (fitJ B c && (fitJ B e && true)))) = true
    rw [g1.f, g2.f, g3.f, g4.f]
    rfl
  · show max a.depth (max b.depth (max c.depth (max e.depth 0))) + 1 ≤ n
    omega
  · show wd a + 2 + (wd b + 2 + (wd c + 2 + (wd e + 2 + 0))) + 3 ≤ w
    omega
theorem tape_str : GoodJ 1000 0 42 (.str "tape") := ⟨by decide +kernel, by decide +kernel, by decide +kernel⟩
theorem int_g {B : Nat} {i : Int} (h : i.natAbs < B) : GoodJ B 0 45 (.int i) := ⟨decide_eq_true h, Nat.le_refl _, Nat.le_refl _⟩
theorem MachOk.good {ts : List Str} {s : Nat} {ss : List PyData} (h : MachOk ts s ss) : GoodJ 1000 4 3300 (machD ts s ss) ∧ plD (machD ts s ss) = true := by
  have h1 := strs_good h.t h.tl
  have h2 : ∀ x ∈ ss, GoodJ 1000 2 733 x ∧ plD x = true := fun x hx => (h.q x hx).good h.s5
  refine ⟨four_good tape_str h1.1 (int_g (i := (s : Int)) (by have := h.s5; omega)) (tup_good (fun x hx => (h2 x hx).1) h.n4) (by decide) (by decide), ?_⟩
  show (plD (.str "tape") && (plD (.tuple (ts.map PyData.str)) && (decide ((s : Int).natAbs < 1000) && (plAll ss && true)))) = true
  rw [h1.2, plAll_of fun x hx => (h2 x hx).2, decide_eq_true (show (s : Int).natAbs < 1000 by have := h.s5; omega)]
  decide +kernel
structure LO (K : PySem.W.Frag) (mg : Str → Option Value) (A : Nat → Addr) (D : Nat → FuncData) : Prop extends LB K mg A D where
  other : Df K mg "_law_otherwise" sOther ["_law_deck_here", "_law_machine"] (A 23) (D 23)
  beyond : Df K mg "_law_is_beyond" sBeyond ["_law_thing"] (A 24) (D 24)
section
variable {Pr : Program} {w : World} {K : PySem.W.Frag} {mg : Str → Option Value} {base : Heap} {ms : List Addr} {A : Nat → Addr} {D : Nat → FuncData}
theorem scBeyond : FnScope ["_law_thing"] ["_law_thing"] (defScope sBeyond) := ⟨rfl, rfl, rfl, by decide +kernel, rfl, by decide +kernel, by decide +kernel⟩
def spBey (ms : List Addr) : Sp := fun vs H Q _ => ∃ (v : V) (d : PyData), vs = [v] ∧ An ms H v d ∧ fit d = true ∧ wd d ≤ 16000 ∧ ∀ b H', Kp [] H H' → Q (.bl b) H'
theorem ok_beyond (L : LO K mg A D) : FnOk Pr w K mg base CX0 4 (A 24) (D 24) ["_law_thing"] (spBey ms) := by
  have B := L.B
  refine L.beyond.F.ok scBeyond (fun vs H Q E h => ?_) (fun cdv Ar outer s0 H vs Q E hr h => ?_)
  · obtain ⟨v, d, rfl, _⟩ := h
    rfl
  · obtain ⟨v, d, rfl, hv, hf, hz, k⟩ := h
    refine ⟨_, pss_one (ps_ret (pe_and (pe_call (ok_lTape (ms := ms) L.toLR) hr (by rfl) L.tape.g L.tape.F.kp L.tape.b .nil pass0 (pa_cons (pv 0) pa_nil))
      (pe_one (pe_or (pe_cmpR op_gt (pe_callB call_len_seq (by rfl) B.len PySem.boot_len (pa_cons (pe_ix (r := rIxT K) ix_tup (pv 0) pe_int (fun _ _ => rfl)) pa_nil)) pe_int (nomark _))
        (pe_or (pe_cmpR op_gt (pe_ix (r := rIxT K) ix_tup (pv 0) pe_int (fun _ _ => rfl)) pe_int (nomark _))
        (pe_one (pe_cmpR op_gt (pe_callB call_len_seq (by rfl) B.len PySem.boot_len (pa_cons (pe_ix (r := rIxT K) ix_tup (pv 0) pe_int (fun _ _ => rfl)) pa_nil)) pe_int (nomark _)))))))), ?_⟩
    refine ⟨_, rfl, v, d, rfl, hv, hf, hz, fun H1 k1 => ⟨_, rfl, ?_⟩⟩
    cases ht : tapeD d with
    | false => exact iteF (k _ H1 k1)
    | true =>
      refine iteT ?_
      obtain ⟨ts, s, ss, k0, rfl⟩ : ∃ ts s ss k0, d = .tuple [k0, .tuple ts, .int s, .tuple ss] := by
        cases d with
        | tuple ds =>
          match ds, ht with
          | [k0, t, s, q], ht =>
            have ht : (isThe "tape" k0 && (tagsD t && ((isIntD s && decide (((partsOf t).length : Int) + 2 ≤ valI s)) && (isTupD q && (!(partsOf q).isEmpty && (partsOf q).all (stateD (valI s) (partsOf q).length)))))) = true := ht
            simp only [Bool.and_eq_true] at ht
            obtain ⟨_, h1, ⟨h2, _⟩, h3, _⟩ := ht
            cases t with
            | tuple ts =>
              cases s with
              | int s =>
                cases q with
                | tuple ss => exact ⟨ts, s, ss, k0, rfl⟩
                | _ => cases h3
              | _ => cases h2
            | _ => cases h1
        | _ => cases ht
      have hv1 := hv.kp k1 (by simp) _
      cases hv1 with
      | @tup a xs _ ea hds =>
      obtain ⟨v0, v1, v2, v3, d0, d1, d2, d3, rfl, e4, a0, a1, a2, a3⟩ := an_four hds rfl
      cases e4
      cases a1 with
      | @tup t1 ys _ e1 h1 =>
      cases a2 with
      | int =>
      cases a3 with
      | @tup t3 zs _ e3 h3 =>
      refine ⟨_, rfl, a, _, _, _, rfl, rfl, sqt_of ea, atI_nat (j := 1) rfl, t1, _, rfl, .inr (sqt_of e1), _, _, rfl, rfl, _, rfl, ite2 (fun _ => k _ H1 k1) (fun _ => ?_)⟩
      refine ⟨_, rfl, a, _, _, _, rfl, rfl, sqt_of ea, atI_nat (j := 2) rfl, _, _, rfl, rfl, _, rfl, ite2 (fun _ => k _ H1 k1) (fun _ => ?_)⟩
      exact ⟨_, rfl, a, _, _, _, rfl, rfl, sqt_of ea, atI_nat (j := 3) rfl, t3, _, rfl, .inr (sqt_of e3), _, _, rfl, rfl, k _ H1 k1⟩
end
end Ey
set_option exponentiation.threshold 1000
set_option maxHeartbeats 4000000
namespace Ey
open PySem PySem.Spec L2
theorem cut_takeI (xs : List V) (i : Int) (n : Nat) (h : i = (n : Int)) : cutV xs none (some i) = xs.take n := by
  rw [h, cut_take]
theorem cut_dropI (xs : List V) (i : Int) (n : Nat) (h : i = (n : Int)) : cutV xs (some i) none = xs.drop n := by
  rw [h, cut_drop]
section
variable {Pr : Program} {w : World} {K : PySem.W.Frag} {mg : Str → Option Value} {base : Heap} {A : Nat → Addr} {D : Nat → FuncData}
abbrev NOt : List Str := ["_law_deck_here", "_law_machine", "_law_kind", "_law_tags_here", "_law_signs", "_law_states", "_law_way", "_law_at", "_law_rule", "_law_spot", "_law_state"]
theorem scOther : FnScope NOt ["_law_deck_here", "_law_machine"] (defScope sOther) := ⟨rfl, rfl, rfl, by decide +kernel, rfl, by decide +kernel, by decide +kernel⟩
def spOther : Sp := fun vs H Q _ => ∃ (d l : Addr) (ms : List Addr) (v : V) (ts : List Str) (s : Nat) (ss : List PyData), vs = [.ref d, v] ∧ An ms H v (machD ts s ss) ∧ MachOk ts s ss ∧ Frame ms d l H ∧
  ∀ (v' : V) (x' : PyData) (H' : Hp), An ms H' v' x' → GoodJ bAny 6 7000 x' → Frame ms d l H' → Kp [d, l] H H' → Q v' H'
theorem ok_other (L : LO K mg A D) : FnOk Pr w K mg base CX0 10 (A 23) (D 23) ["_law_deck_here", "_law_machine"] spOther := by
  have B := L.B
  refine L.other.F.ok scOther (fun vs H Q E h => ?_) (fun cdv Ar outer s0 H vs Q E hr h => ?_)
  · obtain ⟨d, l, ms, v, ts, s, ss, rfl, _⟩ := h
    rfl
  · obtain ⟨d, l, ms, v, ts, s, ss, rfl, hv, hM, Fr, k⟩ := h
    have hr2 := hr.mono (show 2 ≤ 9 by decide)
    have hr1 := hr.mono (show 1 ≤ 9 by decide)
    obtain ⟨gM, pM⟩ := hM.good
    have hv' := hv
    cases hv with
    | @tup a xs4 _ ea hds =>
    obtain ⟨v0, v1, v2, v3, d0, d1, d2, d3, rfl, e4, a0, a1, a2, a3⟩ := an_four hds rfl
    cases e4
    cases a0 with
    | str =>
    cases a1 with
    | @tup t ys _ et hts =>
    cases a2 with
    | int =>
    cases a3 with
    | @tup q zs _ eq hss =>
    have ly := hts.length
    rw [List.length_map] at ly
    have lz := hss.length
    have hs2 := hM.s2
    have hs5 := hM.s5
    have hn1 := hM.n1
    have hn4 := hM.n4
    have htl := hM.tl
    have lim : ∀ n, n ≤ 1000 → n ≤ sizeLine := fun n h => Nat.le_trans h (by decide)
    have bB : (1000 : Nat) ≤ bAny := b1000
    -- the whole bent
    obtain ⟨t8, d8, r8⟩ : ∃ tt, PSs (cxOf CX0 Pr w K mg base NOt "_law_otherwise" (defScope sOther) (A 23) cdv Ar outer s0 H E).nox ((defBody sOther).drop 8) tt ∧
        ∀ (De : Ends) (H3 : Hp) (y2 y3 y4 y5 y6 y7 y8 y9 y10 : Option V), De.rt = Q → Frame ms d l H3 → Kp [d, l] H H3 → tt De [some (.ref d), some (.ref a), y2, y3, y4, y5, y6, y7, y8, y9, y10] H3 := by
      refine ⟨_, pss_one (ps_ret (pe_call (ok_bent L.toLB 5) hr (by rfl) L.bent.g L.bent.F.kp L.bent.b .nil pass0 (pa_cons (pv 0) (pa_cons (pv 1) (pa_cons (pe_call (ok_draw L.draw.F B) hr1 (by rfl) L.draw.g L.draw.F.kp L.draw.b .nil pass0 (pa_cons (pv 0) (pa_cons pe_int pa_nil))) pa_nil))))), ?_⟩
      intro De H3 y2 y3 y4 y5 y6 y7 y8 y9 y10 eD F3 k3
      subst eD
      refine ⟨_, rfl, _, rfl, _, rfl, d, l, 4, rfl, F3.dk, by decide, by decide, fun r H4 r0 r1 D4 k4 => ?_⟩
      have F4 := F3.go k4 D4
      have k04 := k3.trans k4
      have hd := gM.d
      have hw := gM.w
      refine ⟨d, l, ms, _, _, r, rfl, by omega, hv'.kp k04 Fr.sub _, pM, by omega, F4, fun v' x' H' ax gx F' k' => k v' x' H' ax (gx.mono (Nat.le_refl _) (by omega) (by omega)) F' (k04.trans k')⟩
    -- the states otherwise
    obtain ⟨t7, d7, r7⟩ : ∃ tt, PSs (cxOf CX0 Pr w K mg base NOt "_law_otherwise" (defScope sOther) (A 23) cdv Ar outer s0 H E).nox ((defBody sOther).drop 7) tt ∧
        ∀ (De : Ends) (H3 : Hp) (way : Int) (i : Nat) (y8 y9 y10 : Option V), De.rt = Q → i < zs.length → Frame ms d l H3 → Kp [d, l] H H3 → tt De [some (.ref d), some (.ref a), some (.str "tape"), some (.ref t), some (.int s), some (.ref q), some (.int way), some (.int (i : Nat)), y8, y9, y10] H3 := by
      refine ⟨_, pss_cons (ps_if (pt_cmpR op_eq (pv 6) pe_int (nomark _)) (pss_one (ps_ret (pe_tup (pa_cons (pv 2) (pa_cons (pv 3) (pa_cons (pv 4) (pa_cons (pe_call (ok_pick L.pick.F B L.draw) hr2 (by rfl) L.pick.g L.pick.F.kp L.pick.b .nil pass0 (pa_cons (pv 0) (pa_cons (pe_lst
          (pa_cons (pe_slice sl_cut (pv 5) (po_some pe_int) po_none) (pa_cons (pe_op op_cat2 (pv 5) (pe_slice sl_cut (pv 5) po_none (po_some pe_int))) (pa_cons (pe_tup pa_nil)
          (pa_cons (pe_op op_cat2 (pe_op op_cat2 (pe_slice sl_cut (pv 5) po_none (po_some (pv 7))) (pe_tup (pa_cons (pe_slice sl_cut (pe_ix ix_tup (pv 5) (pv 7) (fun _ _ => rfl)) (po_some pe_int) po_none) pa_nil))) (pe_slice sl_cut (pv 5) (po_some (pe_op op_add (pv 7) pe_int)) po_none)) pa_nil))))) pa_nil))) pa_nil))))))) pss_nil) d8, ?_⟩
      intro De H3 way i y8 y9 y10 eD hi F3 k3
      refine ⟨_, rfl, rfl, _, rfl, ite2 (fun _ => ?_) (fun _ => r8 De H3 _ _ _ _ _ _ _ _ _ eD F3 k3)⟩
      subst eD
      have e3 := k3.tup _ _ eq
      have h3 := hss.kp k3 Fr.sub ss
      obtain ⟨xi, exi, axi⟩ := h3.get (List.getElem?_eq_getElem hi)
      have hxi := hM.q xi (List.mem_of_getElem? exi)
      refine ⟨_, rfl, _, rfl, _, rfl, _, rfl, _, rfl, 1, rfl, q, zs, rfl, e3, fun p1 J1 o1 g1 => ?_⟩
      refine ⟨_, rfl, _, rfl, 1, rfl, q, zs, rfl, g1.tup _ _ e3, fun p2 J2 o2 g2 => ?_⟩
      have g12 := g1.trans g2
      have lc2 := cutV_length zs none (some 1)
      refine ⟨q, p2, _, _, rfl, rfl, g12.tup _ _ e3, o2, lim _ (by omega), fun p3 J3 o3 g3 => ?_⟩
      have g13 := g12.trans g3
      refine ⟨Nat.zero_le _, fun p4 n4 => ?_⟩
      have g4 : Kp [] J3 (upd J3 p4 (.tup [])) := .new n4
      have o4 : (upd J3 p4 (.tup [])) p4 = some (.tup []) := upd_same
      show tSwpG (tVar 5) (tVar 7) (tSl rCut (tOp (rIxT K) (tVar 5) (tVar 7)) (tPart (tC (.int 1))) tNoPart) _ (upd J3 p4 (.tup [])) _
      generalize upd J3 p4 (.tup []) = J4 at g4 o4 ⊢
      have g14 := g13.trans g4
      refine swpG (a := q) (xs := zs) (i := i) (fun Q' q => ⟨_, rfl, q⟩) (fun Q' q => ⟨_, rfl, q⟩) (g14.tup _ _ e3) fun p5 J5 o5 g5 => ?_
      have g15 := g14.trans g5
      obtain ⟨rs, rfl, hrl, hrs⟩ := hxi
      have axi5 := axi.kp g15 (by simp) _
      generalize hzi : zs[i] = vi at axi5
      cases axi5 with
      | @tup ai ws _ ei hws =>
      refine ⟨_, rfl, _, rfl, q, _, _, _, rfl, rfl, sqt_of (g15.tup _ _ e3), (hzi ▸ atI_nat (List.getElem?_eq_getElem hi)), 1, rfl, ai, ws, rfl, ei, fun p6 J6 o6 g6 => ?_⟩
      have g16 := g15.trans g6
      refine swG (a := q) (xs := zs) (i := i) (fun H' _ Q' q => ⟨_, rfl, q⟩) (fun H' _ Q' q => ⟨_, rfl, q⟩) (by omega) (g6.tup _ _ o5) (g16.tup _ _ e3) fun p7 J7 o7 g7 => ?_
      have g17 := g16.trans g7
      refine ⟨by show 4 ≤ sizeLine; decide, fun p np => ?_⟩
      have F7 := F3.kp0 g17
      have nn := F7.ne np
      have F8 := F7.new (o := .lst [.ref p1, .ref p3, .ref p4, .ref p7]) np
      refine ⟨d, l, p, _, rfl, F8.dk, sql_of upd_same, by simp, by show 4 ≤ 1000000; decide, nn.1, nn.2, fun y J9 hy D9 k9 => ?_⟩
      have F9 := F8.go k9 D9
      have c79 : Kp [d, l] J7 J9 := (Kp.new np).trans k9
      have c39 : Kp [d, l] H3 J9 := (g17.more (by simp)).trans c79
      have h9 := h3.kp c39 F3.sub ss
      have sub0 : ∀ {o : Addr} {vs : List V} {J : Hp}, J o = some (.tup vs) → Kp [] J J7 → J9 o = some (.tup vs) := fun e g => c79.tup _ _ (g.tup _ _ e)
      have gS : ∀ x ∈ ss, GoodJ 1000 2 733 x := fun x hx => ((hM.q x hx).good hs5).1
      obtain ⟨es, ay, ges, les⟩ : ∃ es, An ms J9 y (.tuple es) ∧ (∀ x ∈ es, GoodJ 1000 2 733 x) ∧ es.length ≤ 8 := by
        simp only [List.mem_cons, List.not_mem_nil, or_false] at hy
        rcases hy with rfl | rfl | rfl | rfl
        · refine ⟨_, .tup (sub0 o1 (g2.trans (g3.trans (g4.trans (g5.trans (g6.trans g7)))))) ((h9.drop _).take _), fun x hx => gS x (List.mem_of_mem_drop (List.mem_of_mem_take hx)), ?_⟩
          rw [List.length_take, List.length_drop]
          omega
        · refine ⟨ss ++ _, .tup (sub0 o3 (g4.trans (g5.trans (g6.trans g7)))) (h9.append ((h9.drop _).take _)), fun x hx => ?_, ?_⟩
          · rcases List.mem_append.mp hx with hx | hx
            · exact gS x hx
            · exact gS x (List.mem_of_mem_drop (List.mem_of_mem_take hx))
          · rw [List.length_append, List.length_take, List.length_drop]
            omega
        · exact ⟨[], .tup (sub0 o4 (g5.trans (g6.trans g7))) .nil, by simp, by decide⟩
        · have hw9 := (hws.kp (g6.trans g7) (by simp) rs).kp c79 F7.sub rs
          refine ⟨ss.take i ++ [.tuple _] ++ ss.drop (i + 1), .tup (c79.tup _ _ o7) (((h9.take i).append (.cons (.tup (sub0 o6 g7) ((hw9.drop _).take _)) .nil)).append (h9.drop (i + 1))), fun x hx => ?_, ?_⟩
          · rcases List.mem_append.mp hx with hx | hx
            · rcases List.mem_append.mp hx with hx | hx
              · exact gS x (List.mem_of_mem_take hx)
              · rw [List.mem_singleton.mp hx]
                refine (rules_good (m := 5) (fun z hz => hrs z (List.mem_of_mem_drop (List.mem_of_mem_take hz))) ?_).1
                rw [List.length_take, List.length_drop]
                omega
            · exact gS x (List.mem_of_mem_drop hx)
          · rw [List.length_append, List.length_append, List.length_take, List.length_drop]
            show min i ss.length + 1 + _ ≤ 8
            omega
      refine ⟨by show 4 ≤ sizeLine; decide, fun z nz => ?_⟩
      have cz : Kp [] J9 (upd J9 z (.tup [.str "tape", .ref t, .int s, y])) := .new nz
      have c09 := k3.trans c39
      refine k _ (.tuple [.str "tape", .tuple (ts.map PyData.str), .int s, .tuple es]) _ (.tup upd_same (.cons (.str _) (.cons (.tup (cz.tup _ _ (c09.tup _ _ et)) ((hts.kp c09 Fr.sub _).kp cz (by simp) _)) (.cons (.int _) (.cons (ay.kp cz (by simp) _) .nil))))) ?_ (F9.new nz) (c09.trans (.new nz))
      exact (four_good tape_str (strs_good hM.t htl).1 (int_g (i := (s : Int)) (by omega)) (tup_good (m := 8) ges les) (n := 6) (w := 7000) (by decide) (by decide)).mono bB (Nat.le_refl _) (Nat.le_refl _)
    -- one sign more, or backwards
    obtain ⟨t6, d6, r6⟩ : ∃ tt, PSs (cxOf CX0 Pr w K mg base NOt "_law_otherwise" (defScope sOther) (A 23) cdv Ar outer s0 H E).nox ((defBody sOther).drop 6) tt ∧
        ∀ (De : Ends) (H3 : Hp) (way : Int) (i : Nat) (y8 y9 : Option V), De.rt = Q → i < zs.length → Frame ms d l H3 → Kp [d, l] H H3 → tt De [some (.ref d), some (.ref a), some (.str "tape"), some (.ref t), some (.int s), some (.ref q), some (.int way), some (.int (i : Nat)), y8, y9, none] H3 := by
      refine ⟨_, pss_cons (ps_if (pt_cmpR op_eq (pv 6) pe_int (nomark _)) (pss_one (ps_ret (pe_ifExp (pt_cmpR op_lt (pv 4) pe_int (nomark _))
          (pe_tup (pa_cons (pv 2) (pa_cons (pv 3) (pa_cons (pe_op op_add (pv 4) pe_int) (pa_cons (pe_callTy call_tuple_of (by rfl) B.tuple (by decide +kernel) (pa_cons (pe_lc (own := [("_law_state", 10)]) (g := gName 10) (tt := tYes) rfl scOther.nd (pi_tup (pv 5)) (blkOk_by (N := NOt) (sc := defScope sOther) (by decide +kernel)) (fun _ _ _ _ _ => pg_name (i := 10) scOther.nd rfl (Or.inl rfl)) (fun _ _ _ _ _ => pts_nil)
            (fun _ _ _ _ _ => pe_op op_cat2 (pv 10) (pe_tup (pa_cons (pe_tup (pa_cons pe_int (pa_cons pe_int (pa_cons pe_int pa_nil)))) pa_nil)))) pa_nil)) pa_nil)))))
          (pe_revA (pv 1))))) pss_nil) d7, ?_⟩
      intro De H3 way i y8 y9 eD hi F3 k3
      refine ⟨_, rfl, rfl, _, rfl, ite2 (fun _ => ?_) (fun _ => r7 De H3 _ i _ _ _ eD hi F3 k3)⟩
      subst eD
      have e3 := k3.tup _ _ eq
      have h3 := hss.kp k3 Fr.sub ss
      refine ⟨_, rfl, _, _, rfl, rfl, _, rfl, ite2 (fun hs4 => ?_) (fun _ => ?_)⟩
      · have hs4 := of_decide_eq_true hs4
        refine ⟨_, rfl, _, rfl, _, rfl, _, _, rfl, rfl, _, rfl, q, rfl, ⟨_, sqt_of e3⟩, fun Dn nD => ?_⟩
        have fD := F3.has.fresh nD
        refine lc_tup (K := K) (a := q) (xs := zs) (fun j H4 => (∃ (us : List V) (es : List PyData), H4 Dn = some (.lst us) ∧ AnAll (Dn :: ms) H4 us es ∧ (∀ x ∈ es, GoodJ 1000 2 879 x) ∧ es.length = j) ∧ Kp [] H3 H4)
          ⟨⟨[], [], upd_same, .nil, by simp, rfl⟩, .new nD⟩ (fun j H4 _ h => sqt_of (h.2.tup _ _ e3)) ?_ ?_
        · rintro j x H4 hx ⟨⟨us, es, hD, hU, hes, hel⟩, k4⟩
          obtain ⟨xi, exi, axi⟩ := h3.get hx
          have hjl : j < ss.length := (List.getElem?_eq_some_iff.mp exi).1
          obtain ⟨rs, rfl, hrl, hrs⟩ := hM.q xi (List.mem_of_getElem? exi)
          cases axi with
          | @tup ai ws _ ei hws =>
          have lw := hws.length
          refine ⟨rfl, _, rfl, by show 3 ≤ sizeLine; decide, fun p np => ?_⟩
          have g5 : Kp [] H4 (upd H4 p (.tup [.int 0, .int 0, .int 0])) := .new np
          have o5 : (upd H4 p (.tup [.int 0, .int 0, .int 0])) p = some (.tup [.int 0, .int 0, .int 0]) := upd_same
          generalize upd H4 p (.tup [.int 0, .int 0, .int 0]) = H5 at g5 o5
          refine ⟨by show 1 ≤ sizeLine; decide, fun p2 np2 => ?_⟩
          have g6 : Kp [] H5 (upd H5 p2 (.tup [.ref p])) := .new np2
          have o6 : (upd H5 p2 (.tup [.ref p])) p2 = some (.tup [.ref p]) := upd_same
          generalize upd H5 p2 (.tup [.ref p]) = H6 at g6 o6
          have k6 := k4.trans (g5.trans g6)
          refine ⟨ai, p2, _, _, rfl, rfl, k6.tup _ _ ei, o6, lim _ (by show ws.length + 1 ≤ 1000; omega), fun p3 H7 o7 g7 => ?_⟩
          have k47 := g5.trans (g6.trans g7)
          have k7 := k4.trans k47
          have hD7 := k47.at_ _ _ hD List.not_mem_nil
          have lU := hU.length
          have kD : Kp [Dn] H7 (upd H7 Dn (.lst (us ++ [V.ref p3]))) := .put (by simp) hD7 (fun _ z => by cases z)
          refine ⟨us, hD7, Nat.lt_of_le_of_lt (show us.length ≤ 10 by omega) (by decide), ⟨us ++ [.ref p3], es ++ [.tuple (rs ++ [.tuple [.int 0, .int 0, .int 0]])], upd_same, ?_, ?_, ?_⟩, k7.own nD⟩
          · refine ((hU.kp k47 (by simp) es).kp kD (by simp) es).append (.cons (.tup (kD.tup _ _ o7) ((rules_any hrs hws (k7.more (by simp) |>.trans kD)).append (.cons (.tup (kD.tup _ _ (g7.tup _ _ (g6.tup _ _ o5))) (.cons (.int _) (.cons (.int _) (.cons (.int _) .nil)))) .nil))) .nil)
          · intro x hx
            rcases List.mem_append.mp hx with hx | hx
            · exact hes x hx
            · rw [List.mem_singleton.mp hx]
              refine (rules_good (m := 6) (fun z hz => ?_) ?_).1
              · rcases List.mem_append.mp hz with hz | hz
                · exact hrs z hz
                · rw [List.mem_singleton.mp hz]
                  exact ⟨0, 0, 0, rfl, by decide, by decide, by decide⟩
              · rw [List.length_append]
                show rs.length + 1 ≤ 6
                omega
          · rw [List.length_append, hel]
            rfl
        · rintro H4 ⟨⟨us, es, hD, hU, hes, hel⟩, k4⟩
          refine ⟨Dn, _, rfl, .inl ⟨sql_of hD, fun p np => ?_⟩⟩
          have g5 : Kp [] H4 (upd H4 p (.tup us)) := .new np
          have o5 : (upd H4 p (.tup us)) p = some (.tup us) := upd_same
          have hU5 := (hU.kp g5 (by simp) es).mono (ms' := ms) (fun x hx => List.mem_cons_of_mem _ hx) es
          generalize upd H4 p (.tup us) = H5 at g5 o5 hU5
          refine ⟨by show 4 ≤ sizeLine; decide, fun z nz => ?_⟩
          have cz : Kp [] H5 (upd H5 z (.tup [.str "tape", .ref t, .int ((s : Int) + 1), .ref p])) := .new nz
          have k5 := k4.trans g5
          have c05 : Kp [d, l] H H5 := k3.trans (k5.more (by simp))
          refine k _ (.tuple [.str "tape", .tuple (ts.map PyData.str), .int ((s : Int) + 1), .tuple es]) _ (.tup upd_same (.cons (.str _) (.cons (.tup (cz.tup _ _ (c05.tup _ _ et)) ((hts.kp c05 Fr.sub _).kp cz (by simp) _)) (.cons (.int _) (.cons (.tup (cz.tup _ _ o5) (hU5.kp cz (by simp) es)) .nil))))) ?_ ((F3.kp0 k5).new nz) (c05.trans (.new nz))
          exact (four_good tape_str (strs_good hM.t htl).1 (int_g (i := (s : Int) + 1) (by omega)) (tup_good (m := 4) hes (by omega)) (n := 6) (w := 7000) (by decide) (by decide)).mono bB (Nat.le_refl _) (Nat.le_refl _)
      · have ea3 := k3.tup _ _ ea
        refine ⟨_, rfl, .inl ⟨a, _, rfl, sqt_of ea3, fun z nz => ?_⟩⟩
        have cz : Kp [] H3 (upd H3 z (.tup [.str "tape", .ref t, .int s, .ref q].reverse)) := .new nz
        have h4 := ((hds.kp k3 Fr.sub _).kp cz (by simp) _).rev
        have gf : fitJAll 1000 [.str "tape", .tuple (ts.map PyData.str), .int s, .tuple ss] = true := gM.f
        have gd : PyData.depthAll [.str "tape", .tuple (ts.map PyData.str), .int s, .tuple ss] + 1 ≤ 4 := gM.d
        have gw : wdAll [.str "tape", .tuple (ts.map PyData.str), .int s, .tuple ss] + 3 ≤ 3300 := gM.w
        refine k _ (.tuple _) _ (.tup upd_same h4) ⟨fitJAll_le bB _ (fitJ_rev _ _ gf), ?_, ?_⟩ (F3.new nz) (k3.trans (.new nz))
        · show PyData.depthAll (List.reverse _) + 1 ≤ 6
          rw [dep_rev]
          omega
        · show wdAll (List.reverse _) + 3 ≤ 7000
          rw [wd_rev]
          omega
    -- the tags otherwise
    obtain ⟨t5, d5, r5⟩ : ∃ tt, PSs (cxOf CX0 Pr w K mg base NOt "_law_otherwise" (defScope sOther) (A 23) cdv Ar outer s0 H E).nox ((defBody sOther).drop 5) tt ∧
        ∀ (De : Ends) (H3 : Hp) (way : Int) (i : Nat) (y8 y9 : Option V), De.rt = Q → i < zs.length → Frame ms d l H3 → Kp [d, l] H H3 → tt De [some (.ref d), some (.ref a), some (.str "tape"), some (.ref t), some (.int s), some (.ref q), some (.int way), some (.int (i : Nat)), y8, y9, none] H3 := by
      refine ⟨_, pss_cons (ps_if (pt_cmpR op_eq (pv 6) pe_int (nomark _)) (pss_one (ps_ret (pe_tup (pa_cons (pv 2) (pa_cons (pe_call (ok_pick L.pick.F B L.draw) hr2 (by rfl) L.pick.g L.pick.F.kp L.pick.b .nil pass0 (pa_cons (pv 0) (pa_cons (pe_lst
          (pa_cons (pe_op op_cat2 (pv 3) (pe_tup (pa_cons pe_str pa_nil))) (pa_cons (pe_slice sl_cut (pv 3) (po_some pe_int) po_none) (pa_cons (pe_op op_cat2 (pv 3) (pe_slice sl_cut (pv 3) po_none (po_some pe_int)))
          (pa_cons (pe_tup (pa_cons pe_str pa_nil)) (pa_cons (pe_tup (pa_cons pe_str pa_nil)) (pa_cons (pe_tup (pa_cons pe_str (pa_cons pe_str (pa_cons pe_str pa_nil)))) (pa_cons (pe_callTy call_list_of (by rfl) B.list (by decide +kernel) (pa_cons (pv 3) pa_nil)) pa_nil)))))))) pa_nil))) (pa_cons (pv 4) (pa_cons (pv 5) pa_nil))))))) pss_nil) d6, ?_⟩
      intro De H3 way i y8 y9 eD hi F3 k3
      refine ⟨_, rfl, rfl, _, rfl, ite2 (fun _ => ?_) (fun _ => r6 De H3 _ i _ _ eD hi F3 k3)⟩
      subst eD
      have e3 := k3.tup _ _ et
      have h3 := hts.kp k3 Fr.sub _
      refine ⟨_, rfl, _, rfl, _, rfl, by show 1 ≤ sizeLine; decide, fun p1 n1 => ?_⟩
      have g1 : Kp [] H3 (upd H3 p1 (.tup [.str "more"])) := .new n1
      have o1 : (upd H3 p1 (.tup [.str "more"])) p1 = some (.tup [.str "more"]) := upd_same
      generalize upd H3 p1 (.tup [.str "more"]) = J1 at g1 o1
      refine ⟨t, p1, _, _, rfl, rfl, g1.tup _ _ e3, o1, lim _ (by show ys.length + 1 ≤ 1000; omega), fun p2 J2 o2 g2 => ?_⟩
      have c2 := g1.trans g2
      refine ⟨_, rfl, 1, rfl, t, ys, rfl, c2.tup _ _ e3, fun p3 J3 o3 g3 => ?_⟩
      have c3 := c2.trans g3
      refine ⟨_, rfl, _, rfl, 1, rfl, t, ys, rfl, c3.tup _ _ e3, fun p4 J4 o4 g4 => ?_⟩
      have c4 := c3.trans g4
      have lc4 := cutV_length ys none (some 1)
      refine ⟨t, p4, _, _, rfl, rfl, c4.tup _ _ e3, o4, lim _ (by omega), fun p5 J5 o5 g5 => ?_⟩
      have c5 := c4.trans g5
      refine ⟨by show 1 ≤ sizeLine; decide, fun p6 n6 => ?_⟩
      have g6 : Kp [] J5 (upd J5 p6 (.tup [.str "Bad"])) := .new n6
      have o6 : (upd J5 p6 (.tup [.str "Bad"])) p6 = some (.tup [.str "Bad"]) := upd_same
      generalize upd J5 p6 (.tup [.str "Bad"]) = J6 at g6 o6
      refine ⟨by show 1 ≤ sizeLine; decide, fun p7 n7 => ?_⟩
      have g7 : Kp [] J6 (upd J6 p7 (.tup [.str ""])) := .new n7
      have o7 : (upd J6 p7 (.tup [.str ""])) p7 = some (.tup [.str ""]) := upd_same
      generalize upd J6 p7 (.tup [.str ""]) = J7 at g7 o7
      refine ⟨by show 3 ≤ sizeLine; decide, fun p8 n8 => ?_⟩
      have g8 : Kp [] J7 (upd J7 p8 (.tup [.str "a", .str "b", .str "a"])) := .new n8
      have o8 : (upd J7 p8 (.tup [.str "a", .str "b", .str "a"])) p8 = some (.tup [.str "a", .str "b", .str "a"]) := upd_same
      generalize upd J7 p8 (.tup [.str "a", .str "b", .str "a"]) = J8 at g8 o8
      have c8 := c5.trans (g6.trans (g7.trans g8))
      have F8 := F3.kp0 c8
      refine ⟨_, rfl, t, _, rfl, .inr (sqt_of (c8.tup _ _ e3)), fun p9 n9 => ?_⟩
      have g9 : Kp [] J8 (upd J8 p9 (.lst ys)) := .new n9
      have o9 : (upd J8 p9 (.lst ys)) p9 = some (.lst ys) := upd_same
      have f9 := F8.has.fresh n9
      have F9 := F8.new (o := .lst ys) n9
      generalize upd J8 p9 (.lst ys) = J9 at g9 o9 F9
      have c9 := c8.trans g9
      refine ⟨by show 7 ≤ sizeLine; decide, fun p np => ?_⟩
      have nn := F9.ne np
      have F10 := F9.new (o := .lst [.ref p2, .ref p3, .ref p5, .ref p6, .ref p7, .ref p8, .ref p9]) np
      refine ⟨d, l, p, _, rfl, F10.dk, sql_of upd_same, by simp, by show 7 ≤ 1000000; decide, nn.1, nn.2, fun y J11 hy D11 k11 => ?_⟩
      have F11 := F10.go k11 D11
      have c911 : Kp [d, l] J9 J11 := (Kp.new np).trans k11
      have c311 : Kp [d, l] H3 J11 := (c9.more (by simp)).trans c911
      have h11 := h3.kp c311 F3.sub _
      have sub0 : ∀ {o : Addr} {vs : List V} {J : Hp}, J o = some (.tup vs) → Kp [] J J9 → J11 o = some (.tup vs) := fun e g => c911.tup _ _ (g.tup _ _ e)
      have gT : ∀ x ∈ ts.map PyData.str, GoodJ 1000 0 82 x := fun x hx => by
        obtain ⟨g, hg, rfl⟩ := List.mem_map.mp hx
        exact (hM.t g hg).good
      have gL : ∀ z : Str, (z.cps.toList.all fun c => decide (c < 128)) = true → z.length ≤ 8 → GoodJ 1000 0 82 (.str z) := fun z h1 h2 => ⟨h1, Nat.le_refl _, by show 10 * z.length + 2 ≤ 82; omega⟩
      have tg : ∀ {es : List PyData}, (∀ x ∈ es, GoodJ 1000 0 82 x) → es.length ≤ 8 → GoodJ 1000 1 675 (.tuple es) := fun h hl => tup_good (m := 8) h hl
      have g69 := g6.trans (g7.trans (g8.trans g9))
      obtain ⟨e, ay, ge⟩ : ∃ e, An ms J11 y e ∧ GoodJ 1000 1 675 e := by
        simp only [List.mem_cons, List.not_mem_nil, or_false] at hy
        rcases hy with rfl | rfl | rfl | rfl | rfl | rfl | rfl
        · refine ⟨.tuple (ts.map PyData.str ++ [.str "more"]), .tup (sub0 o2 (g3.trans (g4.trans (g5.trans g69)))) (h11.append (.cons (.str _) .nil)), tg (fun x hx => ?_) ?_⟩
          · rcases List.mem_append.mp hx with hx | hx
            · exact gT x hx
            · rw [List.mem_singleton.mp hx]
              exact gL _ (by decide +kernel) (by decide +kernel)
          · rw [List.length_append, List.length_map]
            show ts.length + 1 ≤ 8
            omega
        · refine ⟨.tuple _, .tup (sub0 o3 (g4.trans (g5.trans g69))) ((h11.drop _).take _), tg (fun x hx => gT x (List.mem_of_mem_drop (List.mem_of_mem_take hx))) ?_⟩
          rw [List.length_take, List.length_drop, List.length_map]
          omega
        · refine ⟨.tuple (ts.map PyData.str ++ _), .tup (sub0 o5 g69) (h11.append ((h11.drop _).take _)), tg (fun x hx => ?_) ?_⟩
          · rcases List.mem_append.mp hx with hx | hx
            · exact gT x hx
            · exact gT x (List.mem_of_mem_drop (List.mem_of_mem_take hx))
          · rw [List.length_append, List.length_take, List.length_drop, List.length_map]
            omega
        · exact ⟨.tuple [.str "Bad"], .tup (sub0 o6 (g7.trans (g8.trans g9))) (.cons (.str _) .nil), by decide +kernel, by decide +kernel, by decide +kernel⟩
        · exact ⟨.tuple [.str ""], .tup (sub0 o7 (g8.trans g9)) (.cons (.str _) .nil), by decide +kernel, by decide +kernel, by decide +kernel⟩
        · exact ⟨.tuple [.str "a", .str "b", .str "a"], .tup (sub0 o8 g9) (.cons (.str _) (.cons (.str _) (.cons (.str _) .nil))), by decide +kernel, by decide +kernel, by decide +kernel⟩
        · have g := tg gT (by rw [List.length_map]; omega)
          refine ⟨.list (ts.map PyData.str), .lst (c911.at_ _ _ o9 fun z => f9 (F8.sub _ z)) f9 h11, g.f, g.d, g.w⟩
      refine ⟨_, rfl, _, rfl, by show 4 ≤ sizeLine; decide, fun z nz => ?_⟩
      have cz : Kp [] J11 (upd J11 z (.tup [.str "tape", y, .int s, .ref q])) := .new nz
      have c011 := k3.trans c311
      refine k _ (.tuple [.str "tape", e, .int s, .tuple ss]) _ (.tup upd_same (.cons (.str _) (.cons (ay.kp cz (by simp) _) (.cons (.int _) (.cons (.tup (cz.tup _ _ (c011.tup _ _ eq)) ((hss.kp c011 Fr.sub _).kp cz (by simp) _)) .nil))))) ?_ (F11.new nz) (c011.trans (.new nz))
      exact (four_good tape_str ge (int_g (i := (s : Int)) (by omega)) (tup_good (m := 4) (fun x hx => ((hM.q x hx).good hs5).1) hn4) (n := 6) (w := 7000) (by decide) (by decide)).mono bB (Nat.le_refl _) (Nat.le_refl _)
    -- one rule otherwise
    obtain ⟨t4, d4, r4'⟩ : ∃ tt, PSs (cxOf CX0 Pr w K mg base NOt "_law_otherwise" (defScope sOther) (A 23) cdv Ar outer s0 H E).nox ((defBody sOther).drop 4) tt ∧
        ∀ (De : Ends) (H3 : Hp) (way : Int) (i j : Nat) (p8 : Addr) (b0 b1 b2 : Int), De.rt = Q → i < zs.length → j < s → H3 p8 = some (.tup [.int b0, .int b1, .int b2]) → b0.natAbs ≤ 20 → b1.natAbs ≤ 20 → b2.natAbs ≤ 20 → Frame ms d l H3 → Kp [d, l] H H3 → tt De [some (.ref d), some (.ref a), some (.str "tape"), some (.ref t), some (.int s), some (.ref q), some (.int way), some (.int (i : Nat)), some (.ref p8), some (.int (j : Nat)), none] H3 := by
      refine ⟨_, pss_cons (ps_if (pt_cmpR op_lt (pv 6) pe_int (nomark _))
          (pss_cons (ps_set (i := 10) scOther.nd rfl (.inl rfl) (pe_op op_cat2 (pe_op op_cat2 (pe_slice sl_cut (pe_ix ix_tup (pv 5) (pv 7) (fun _ _ => rfl)) po_none (po_some (pv 9))) (pe_tup (pa_cons (pv 8) pa_nil))) (pe_slice sl_cut (pe_ix ix_tup (pv 5) (pv 7) (fun _ _ => rfl)) (po_some (pe_op op_add (pv 9) pe_int)) po_none)))
          (pss_one (ps_ret (pe_tup (pa_cons (pv 2) (pa_cons (pv 3) (pa_cons (pv 4) (pa_cons (pe_op op_cat2 (pe_op op_cat2 (pe_slice sl_cut (pv 5) po_none (po_some (pv 7))) (pe_tup (pa_cons (pv 10) pa_nil))) (pe_slice sl_cut (pv 5) (po_some (pe_op op_add (pv 7) pe_int)) po_none)) pa_nil)))))))) pss_nil) d5, ?_⟩
      intro De H3 way i j p8 b0 b1 b2 eD hi hj e8 hb0 hb1 hb2 F3 k3
      refine ⟨_, rfl, _, _, rfl, rfl, _, rfl, ite2 (fun _ => ?_) (fun _ => r5 De H3 _ i _ _ eD hi F3 k3)⟩
      subst eD
      have e3 := k3.tup _ _ eq
      have h3 := hss.kp k3 Fr.sub ss
      obtain ⟨xi, exi, axi⟩ := h3.get (List.getElem?_eq_getElem hi)
      obtain ⟨rs, rfl, hrl, hrs⟩ := hM.q xi (List.mem_of_getElem? exi)
      have hat : atI zs (i : Int) = some zs[i] := atI_nat (List.getElem?_eq_getElem hi)
      generalize zs[i] = vi at axi hat
      cases axi with
      | @tup ai ws _ ei hws =>
      have lw := hws.length
      show tSwpG (tOp (rIxT K) (tVar 5) (tVar 7)) (tVar 9) (tVar 8) [some (.ref d), some (.ref a), some (.str "tape"), some (.ref t), some (.int s), some (.ref q), some (.int way), some (.int (i : Nat)), some (.ref p8), some (.int (j : Nat)), none] H3 _
      refine swpG (a := ai) (xs := ws) (i := j) (fun Q' qq => ⟨_, rfl, _, rfl, q, zs, _, .ref ai, rfl, rfl, sqt_of e3, hat, qq⟩) (fun Q' qq => ⟨_, rfl, qq⟩) ei fun q1 H4 e4 k4 => ⟨_, rfl, ?_⟩
      refine swG (a := ai) (xs := ws) (i := j) (fun H' k' Q' qq => ⟨_, rfl, _, rfl, q, zs, _, .ref ai, rfl, rfl, sqt_of ((k4.trans k').tup _ _ e3), hat, qq⟩) (fun H' _ Q' qq => ⟨_, rfl, qq⟩) (by omega) e4 (k4.tup _ _ ei) fun q2 H5 e5 k5 => ?_
      have k35 := k4.trans k5
      refine ⟨_, rfl, _, rfl, _, rfl, ?_⟩
      show tSwpG (tVar 5) (tVar 7) (tVar 10) [some (.ref d), some (.ref a), some (.str "tape"), some (.ref t), some (.int s), some (.ref q), some (.int way), some (.int (i : Nat)), some (.ref p8), some (.int (j : Nat)), some (.ref q2)] H5 _
      refine swpG (a := q) (xs := zs) (i := i) (fun Q' qq => ⟨_, rfl, qq⟩) (fun Q' qq => ⟨_, rfl, qq⟩) (k35.tup _ _ e3) fun q3 H6 e6 k6 => ⟨_, rfl, ?_⟩
      have k36 := k35.trans k6
      refine swG (a := q) (xs := zs) (i := i) (fun H' _ Q' qq => ⟨_, rfl, qq⟩) (fun H' _ Q' qq => ⟨_, rfl, qq⟩) (by omega) e6 (k36.tup _ _ e3) fun q4 H7 e7 k7 => ?_
      have k37 := k36.trans k7
      refine ⟨by show 4 ≤ sizeLine; decide, fun z nz => ?_⟩
      have cz : Kp [] H7 (upd H7 z (.tup [.str "tape", .ref t, .int s, .ref q4])) := .new nz
      have k3z := k37.trans cz
      have c0z : Kp [d, l] H _ := k3.trans (k3z.more (by simp))
      have hz := h3.kp k3z (by simp) ss
      have hwz := hws.kp k3z (by simp) rs
      have e8z := k3z.tup _ _ e8
      have gS : ∀ x ∈ ss, GoodJ 1000 2 733 x := fun x hx => ((hM.q x hx).good hs5).1
      refine k _ (.tuple [.str "tape", .tuple (ts.map PyData.str), .int s, .tuple (ss.take i ++ [.tuple (rs.take j ++ [.tuple [.int b0, .int b1, .int b2]] ++ rs.drop (j + 1))] ++ ss.drop (i + 1))]) _ (.tup upd_same (.cons (.str _) (.cons (.tup (c0z.tup _ _ et) (hts.kp c0z Fr.sub _)) (.cons (.int _) (.cons (.tup (cz.tup _ _ e7) (((hz.take i).append (.cons (.tup ((k6.trans (k7.trans cz)).tup _ _ e5) (((hwz.take j).append (.cons (.tup e8z (.cons (.int _) (.cons (.int _) (.cons (.int _) .nil)))) .nil)).append (hwz.drop (j + 1)))) .nil)).append (hz.drop (i + 1)))) .nil))))) ?_ ((F3.kp0 k37).new nz) c0z
      have g8 : ∀ x ∈ ss.take i ++ [.tuple (rs.take j ++ [.tuple [.int b0, .int b1, .int b2]] ++ rs.drop (j + 1))] ++ ss.drop (i + 1), GoodJ 1000 2 1025 x := fun x hx => by
        rcases List.mem_append.mp hx with hx | hx
        · rcases List.mem_append.mp hx with hx | hx
          · exact (gS x (List.mem_of_mem_take hx)).mono (Nat.le_refl _) (Nat.le_refl _) (by decide)
          · rw [List.mem_singleton.mp hx]
            refine (rules_good (m := 7) (fun y hy => ?_) ?_).1
            · rcases List.mem_append.mp hy with hy | hy
              · rcases List.mem_append.mp hy with hy | hy
                · exact hrs y (List.mem_of_mem_take hy)
                · rw [List.mem_singleton.mp hy]
                  exact ⟨b0, b1, b2, rfl, hb0, hb1, hb2⟩
              · exact hrs y (List.mem_of_mem_drop hy)
            · rw [List.length_append, List.length_append, List.length_take, List.length_drop]
              show min j rs.length + 1 + _ ≤ 7
              omega
        · exact (gS x (List.mem_of_mem_drop hx)).mono (Nat.le_refl _) (Nat.le_refl _) (by decide)
      refine (four_good tape_str (strs_good hM.t htl).1 (int_g (i := (s : Int)) (by omega)) (tup_good (m := 6) g8 ?_) (n := 6) (w := 7000) (by decide) (by decide)).mono bB (Nat.le_refl _) (Nat.le_refl _)
      rw [List.length_append, List.length_append, List.length_take, List.length_drop]
      show min i ss.length + 1 + _ ≤ 6
      omega
    refine ⟨_, pss_cons (ps_asg (pv 1) (pg_tup (n := 4) rfl (pgs_cons (pg_name (i := 2) scOther.nd rfl (.inl rfl)) (pgs_cons (pg_name (i := 3) scOther.nd rfl (.inl rfl)) (pgs_cons (pg_name (i := 4) scOther.nd rfl (.inl rfl)) (pgs_cons (pg_name (i := 5) scOther.nd rfl (.inl rfl)) pgs_nil))))))
      (pss_cons (ps_par (i := 6) (j := 7) (by rfl) scOther.nd rfl rfl (by decide) rfl rfl (pa_cons (pe_call (ok_draw L.draw.F B) hr1 (by rfl) L.draw.g L.draw.F.kp L.draw.b .nil pass0 (pa_cons (pv 0) (pa_cons pe_int pa_nil))) (pa_cons (pe_call (ok_draw L.draw.F B) hr1 (by rfl) L.draw.g L.draw.F.kp L.draw.b .nil pass0 (pa_cons (pv 0) (pa_cons (pe_callB call_len_seq (by rfl) B.len PySem.boot_len (pa_cons (pv 5) pa_nil)) pa_nil))) pa_nil)) (by rfl))
      (pss_cons (ps_set (i := 8) scOther.nd rfl (.inl rfl) (pe_tup (pa_cons (pe_op op_sub (pe_call (ok_draw L.draw.F B) hr1 (by rfl) L.draw.g L.draw.F.kp L.draw.b .nil pass0 (pa_cons (pv 0) (pa_cons (pe_op op_add (pe_callB call_len_seq (by rfl) B.len PySem.boot_len (pa_cons (pv 5) pa_nil)) pe_int) pa_nil))) pe_int)
        (pa_cons (pe_op op_sub (pe_call (ok_draw L.draw.F B) hr1 (by rfl) L.draw.g L.draw.F.kp L.draw.b .nil pass0 (pa_cons (pv 0) (pa_cons (pe_op op_add (pv 4) pe_int) pa_nil))) pe_int)
        (pa_cons (pe_op op_sub (pe_call (ok_draw L.draw.F B) hr1 (by rfl) L.draw.g L.draw.F.kp L.draw.b .nil pass0 (pa_cons (pv 0) (pa_cons pe_int pa_nil))) pe_int) pa_nil)))))
      (pss_cons (ps_set (i := 9) scOther.nd rfl (.inl rfl) (pe_call (ok_draw L.draw.F B) hr1 (by rfl) L.draw.g L.draw.F.kp L.draw.b .nil pass0 (pa_cons (pv 0) (pa_cons (pv 4) pa_nil)))) d4))), ?_⟩
    refine ⟨_, rfl, a, _, rfl, sqt_of ea, rfl, _, _, rfl, _, _, rfl, _, _, rfl, _, _, rfl, rfl, ?_⟩
    refine ⟨_, rfl, d, l, 7, rfl, Fr.dk, by decide, by decide, fun way H1 _ _ D1 k1 => ?_⟩
    have F1 := Fr.go k1 D1
    refine ⟨_, rfl, _, rfl, q, _, rfl, .inr (sqt_of (k1.tup _ _ eq)), d, l, _, rfl, F1.dk, by omega, by omega, fun at' H2 a0' a1' D2 k2 => ⟨_, _, rfl, ?_⟩⟩
    have F2 := F1.go k2 D2
    have c2 := k1.trans k2
    obtain ⟨i, rfl⟩ : ∃ i : Nat, at' = (i : Int) := ⟨at'.toNat, by omega⟩
    have hi : i < zs.length := by omega
    refine ⟨_, rfl, _, rfl, q, _, rfl, .inr (sqt_of (c2.tup _ _ eq)), _, _, rfl, rfl, d, l, _, rfl, F2.dk, by omega, by omega, fun r3 H3 r30 r31 D3 k3 => ?_⟩
    have F3 := F2.go k3 D3
    refine ⟨_, _, rfl, rfl, _, rfl, _, rfl, _, _, rfl, rfl, d, l, _, rfl, F3.dk, by omega, by omega, fun r4 H4 r40 r41 D4 k4 => ?_⟩
    have F4 := F3.go k4 D4
    refine ⟨_, _, rfl, rfl, _, rfl, d, l, 5, rfl, F4.dk, by decide, by decide, fun r5 H5 r50 r51 D5 k5 => ?_⟩
    have F5 := F4.go k5 D5
    have c5 := c2.trans (k3.trans (k4.trans k5))
    refine ⟨_, _, rfl, rfl, by show 3 ≤ sizeLine; decide, fun p8 n8 => ?_⟩
    have k6 : Kp [] H5 (upd H5 p8 (.tup [.int (r3 - 1), .int (r4 - 1), .int (r5 - 2)])) := .new n8
    have e6 : (upd H5 p8 (.tup [.int (r3 - 1), .int (r4 - 1), .int (r5 - 2)])) p8 = some (.tup [.int (r3 - 1), .int (r4 - 1), .int (r5 - 2)]) := upd_same
    have F6 := F5.new (o := .tup [.int (r3 - 1), .int (r4 - 1), .int (r5 - 2)]) n8
    refine ⟨_, rfl, _, rfl, d, l, _, rfl, F6.dk, by omega, by omega, fun r7 H7 r70 r71 D7 k7 => ?_⟩
    have F7 := F6.go k7 D7
    obtain ⟨j, rfl⟩ : ∃ j : Nat, r7 = (j : Int) := ⟨r7.toNat, by omega⟩
    exact r4' _ H7 way i j p8 (r3 - 1) (r4 - 1) (r5 - 2) rfl hi (by omega) (k7.tup _ _ e6) (by omega) (by omega) (by omega) F7 (c5.trans ((k6.more (by simp)).trans k7))
end
end Ey
set_option maxHeartbeats 4000000
namespace Ey
open PySem PySem.Spec L2
/-! ### f(k = v, ..), the parameters told from the last one to the first -/
def gRv {α : Type} (us ws : List α) : List α := match us with
  | [] => ws.reverse
  | _ :: _ => []
theorem vals_rv {xs : List V} {us : List Value} (h : Vals xs us) : Vals xs.reverse us.reverse := by
  induction h with
  | nil => exact .nil
  | cons a _ ih =>
    rw [List.reverse_cons, List.reverse_cons]
    exact ih.append (.cons a .nil)
theorem kb_rv {K : PySem.W.Frag} {fd : FuncData} {ps ks : List Str} (hp : ps ≠ []) (h : ∀ ws : List Value, ws.length = ps.length → bindArgs fd ⟨[], ks.zip ws⟩ = pure (ps.zip ws.reverse)) : KBinds K fd ps ks gRv gRv := by
  refine ⟨fun s us ws _ hl => ?_, fun {vs us zs ws} r1 r2 => ?_⟩
  · cases us with
    | nil => exact .of_eq (h ws (by rw [← hl]; exact (List.length_reverse).symm))
    | cons a r => exact absurd hl (by intro e; exact hp (List.length_eq_zero_iff.mp e.symm))
  · cases r1 with
    | nil => exact vals_rv r2
    | cons _ _ => exact .nil
theorem Fun.rvs {K : PySem.W.Frag} {x qual : Str} {st : Stmt} {f : Addr} {fd : FuncData} {ps ks : List Str} (F : Fun K x qual st f fd) (hp : ps ≠ [])
    (h : ∀ (kV doc pm : Value) (an : Option Addr) (cdv ct : Value) (ws : List Value), ws.length = ps.length → bindArgs (PySem.W.fnOf x qual (defArgs st) (defBody st) (defScope st) .none kV doc pm an cdv ct) ⟨[], ks.zip ws⟩ = pure (ps.zip ws.reverse)) : KBinds K fd ps ks gRv gRv := by
  obtain ⟨oc, od, kV, doc, pm, an, cdv, ct, osl, rfl, lk, _⟩ := F.ex
  exact kb_rv hp (h kV doc pm an cdv ct)
section
variable {X : Cx} {CX : CXT} {k : Nat} {f : Addr} {fd : FuncData} {qs ks : List Str} {sp : Sp} {E : XK} {x : Str} {p pos : Pos} {kws : List Keyword} {tk : TA} {g : List Value → List Value → List Value} {gV : List V → List V → List V}
theorem pe_callKR (F : FnOk X.prog X.w X.K X.mg X.base CX k f fd qs sp) (hr : Room k X.A) (hg : Gl X x) (hm : X.mg x = some (.ref f)) (hk : PySem.W.keepIn X.K (.ref f) = true) (hb : KBinds X.K fd qs ks g gV) (hx : Passes CX X E) (hkw : PK X kws tk)
    (hall : (backToKw pos (keywordEach kws X.env)).all (·.1.isSome) = true := by rfl) (hks : (backToKw pos (keywordEach kws X.env)).filterMap (·.1) = ks := by rfl) (hdb : (x == ("__debug__" : Str)) = false := by decide)
    (hpl : ((backTo pos (starEach [] X.env)).any (·.1) || (backToKw pos (keywordEach kws X.env)).any (·.1.isNone)) = false := by rfl) :
    PE X (.Call (.Name x p) [] kws pos) (tCallK sp gV E tNil tk) := by
  refine ⟨fun pins s σ H Q I h => wpAny_Call_Name_kw (ld_glob I hg hm ?_ hdb)⟩
  refine PySem.W.callWith_KW0 (h₀ := X.base) I.ok.mod.kin hk hall ?_ hpl
  refine thn (hkw.run pos pins s σ H _ I h) fun ws s2 ⟨zs, H2, I2, rz, q2⟩ => ⟨I2.kIn, ?_⟩
  rw [hks]
  exact run_fnk (us := []) (vs := []) F hr hb hx I2 .nil rz q2
end
end Ey
set_option exponentiation.threshold 1000
set_option maxHeartbeats 4000000
namespace Ey
open PySem PySem.Spec PyProof.Rows L2
section
variable {ms : List Addr} {H : Hp} {p : Addr}
mutual
theorem An.grow (n : H p = none) : ∀ {v : V} (d : PyData), An ms H v d → An (p :: ms) H v d
  | _, .none, h => by cases h; exact .non
  | _, .bool b, h => by cases h; exact .bl b
  | _, .int i, h => by cases h; exact .int i
  | _, .str x, h => by cases h; exact .str x
  | _, .list ds, h => by
    cases h with
    | lst e nn a => exact .lst e (fun q => (List.mem_cons.mp q).elim (fun z => ne_of_none e n z) nn) (AnAll.grow n ds a)
  | _, .tuple ds, h => by
    cases h with
    | tup e a => exact .tup e (AnAll.grow n ds a)
  | _, .dict ds, h => by
    cases h with
    | dct e nn a => exact .dct e (fun q => (List.mem_cons.mp q).elim (fun z => ne_of_none e n z) nn) (AnKv.grow n ds a)
theorem AnAll.grow (n : H p = none) : ∀ {vs : List V} (ds : List PyData), AnAll ms H vs ds → AnAll (p :: ms) H vs ds
  | _, [], h => by cases h; exact .nil
  | _, d :: r, h => by
    cases h with
    | cons a b => exact .cons (An.grow n d a) (AnAll.grow n r b)
theorem AnKv.grow (n : H p = none) : ∀ {vs : List (Key × V)} (ds : List (PyData × PyData)), AnKv ms H vs ds → AnKv (p :: ms) H vs ds
  | _, [], h => by cases h; exact .nil
  | _, (y, d) :: r, h => by
    cases h with
    | cons a b => exact .cons (An.grow n d a) (AnKv.grow n r b)
end
end
theorem re_an {ms : List Addr} {n w : Nat} {H : Hp} {v : V} {d : PyData} {Q : VK} (h : An ms H v d) (g : Good n w d) (hn : n ≤ 100) (hw : w ≤ 1000000) (q : Q (.str d.shown) H) : rReprE [v] H Q :=
  ⟨ms, v, d, rfl, h, g.f, Nat.le_trans g.d hn, Nat.le_trans g.w hw, q⟩
theorem bool_good (b : Bool) : Good 0 10 (.bool b) := ⟨rfl, Nat.le_refl _, by show 5 ≤ 10; decide⟩
theorem Frame.more {ms : List Addr} {d l D : Addr} {H : Hp} {o : HO} (F : Frame ms d l H) (h : H D = some o) : Frame (D :: ms) d l H :=
  ⟨F.dk, List.mem_cons_of_mem _ F.dm, List.mem_cons_of_mem _ F.lm, fun x hx => by
    rcases List.mem_cons.mp hx with rfl | hx
    · rw [h]
      exact fun z => nomatch z
    · exact F.has x hx⟩
theorem Frame.less {ms : List Addr} {d l D : Addr} {H : Hp} (F : Frame (D :: ms) d l H) (hd : d ∈ ms) (hl : l ∈ ms) : Frame ms d l H :=
  ⟨F.dk, hd, hl, fun x hx => F.has x (List.mem_cons_of_mem _ hx)⟩
/-- what stands all through the law -/
structure LI (d l : Addr) (Ts : List Addr) (H : Hp) : Prop where
  fr : Frame (d :: l :: Ts) d l H
  tg : TTs Ts H
theorem LI.nd {d l : Addr} {Ts : List Addr} {H : Hp} (h : LI d l Ts H) : d ∉ Ts ∧ l ∉ Ts := by
  obtain ⟨m, n, ns, h1, h2, _⟩ := h.fr.dk.ex
  exact ⟨h.tg.nino h1 (fun ps z => by cases z), h.tg.nino h2 (fun ps z => by cases z)⟩
section
variable {d l : Addr} {Ts : List Addr} {H H1 : Hp}
theorem LI.sub : ∀ y ∈ Ts, y ∈ d :: l :: Ts := fun y hy => by simp [hy]
theorem LI.own (h : LI d l Ts H) (k : Kp [d, l] H H1) (F : Frame (d :: l :: Ts) d l H1) : LI d l Ts H1 := by
  refine ⟨F, h.tg.kp k fun P hP hm => ?_⟩
  rcases List.mem_cons.mp hm with rfl | hm
  · exact h.nd.1 hP
  · rw [List.mem_singleton.mp hm] at hP
    exact h.nd.2 hP
theorem LI.kp0 (h : LI d l Ts H) (k : Kp [] H H1) : LI d l Ts H1 := ⟨h.fr.kp0 k, h.tg.kp0 k⟩
theorem LI.new {p : Addr} {o : HO} (h : LI d l Ts H) (n : H p = none) : LI d l Ts (upd H p o) := h.kp0 (.new n)
theorem LI.prog (h : LI d l Ts H) (k : Kp Ts H H1) (g : TTs Ts H1) : LI d l Ts H1 := by
  refine ⟨⟨h.fr.dk.kp k h.nd.1 h.nd.2, h.fr.dm, h.fr.lm, h.fr.has.kp k fun b hb => ?_⟩, g⟩
  obtain ⟨ps, e, _⟩ := g b hb
  rw [e]
  exact fun z => nomatch z
end
structure LA (K : PySem.W.Frag) (mg : Str → Option Value) (A : Nat → Addr) (D : Nat → FuncData) (a : Adr) : Prop extends LO K mg A D where
  deck : Df K mg "_law_deck" sDeck ["_law_script"] (A 12) (D 12)
  F : PF K mg a
  kTape : KBinds K (a.D 10) ["thing"] ["thing"] gRv gRv
abbrev NL : List Str := ["_law_script", "_law_deck_here", "_law_turn", "_law_machine", "_law_thing", "_law_text", "_law_told", "_law_more"]
theorem scLaw : FnScope NL ["_law_script"] (defScope sLaw) := ⟨rfl, rfl, rfl, by decide +kernel, rfl, by decide +kernel, by decide +kernel⟩
theorem ite_both {c : Bool} {P Q R : Prop} (r : R) (h1 : R → P) (h2 : R → Q) : if c = true then P else Q := by
  cases c
  · exact iteF (h2 r)
  · exact iteT (h1 r)
section
variable {Pr : Program} {w : World} {K : PySem.W.Frag} {mg : Str → Option Value} {base : Heap} {A : Nat → Addr} {D : Nat → FuncData} {a : Adr}
def spLaw (K : PySem.W.Frag) (Ts : List Addr) : Sp := fun vs H Q _ => ∃ (c : Addr) (ns : List Int), vs = [.ref c] ∧ SqL K H c (ns.map V.int) ∧ ns.length ≤ 63 ∧ TTs Ts H ∧ ∀ H', Q (.bl true) H'
theorem ok_law {f : Addr} {fd : FuncData} (Fl : Fun K "law" "law" sLaw f fd) (L : LA K mg A D a) (b : BF base mg a) (hsm : ∃ mm, base.Ns sysModules mm) : LawOk Pr w K mg base f fd "_law_script" (spLaw K a.Ts) := by
  have B := L.B
  have F := L.F
  refine law_ok (k := 80) Fl scLaw ⟨rfl, by decide, by decide⟩ fun cdv s H v Q hr h => ?_
  obtain ⟨c, ns, e, hS, hn, g, k⟩ := h
  cases e
  have gT : FnOk Pr w K mg base CX0 10 (a.A 10) (a.D 10) ["thing"] (fun vs H Q E => ∃ ms, spW ms a.Ts tapeD vs H Q E) := fn_ex fun ms => ok_tape (ms := ms) F b
  have gL : FnOk Pr w K mg base CX0 3 (A 19) (D 19) ["_law_thing"] (fun vs H Q E => ∃ ms, spLt ms tapeD vs H Q E) := fn_ex fun ms => ok_lTape (ms := ms) L.toLR
  have gB : FnOk Pr w K mg base CX0 4 (A 24) (D 24) ["_law_thing"] (fun vs H Q E => ∃ ms, spBey ms vs H Q E) := fn_ex fun ms => ok_beyond (ms := ms) L.toLO
  refine ⟨_, pss_cons (ps_set (i := 1) scLaw.nd rfl (.inr rfl) (pe_call (ok_deck L.deck.F B) (hr.mono (by decide)) (by rfl) L.deck.g L.deck.F.kp L.deck.b .nil pass0 (pa_cons (pv 0) pa_nil)))
    (pss_cons (ps_for PassesOwn.never rfl (pi_range1 (by rfl) B.range (pa_cons pe_int pa_nil)) (pg_name (i := 2) scLaw.nd rfl (.inl rfl))
      (pss_cons (ps_set (i := 3) scLaw.nd rfl (.inr rfl) (pe_call (ok_dTape L.toLM) (hr.mono (by decide)) (by rfl) L.dtape.g L.dtape.F.kp L.dtape.b .nil pass0 (pa_cons (pv 1) (pa_cons pe_int pa_nil))))
      (pss_one (ps_for PassesOwn.never rfl (pi_list (pe_op op_cat (pe_lst (pa_cons (pv 3) pa_nil)) (pe_lc (own := [("_law_more", 7)]) (g := gName 7) (tt := tYes) rfl scLaw.nd (pi_range1 (by rfl) B.range (pa_cons pe_int pa_nil)) (blkOk_by (N := NL) (sc := defScope sLaw) (by decide +kernel)) (fun _ _ _ _ _ => pg_name (i := 7) scLaw.nd rfl (Or.inl rfl)) (fun _ _ _ _ _ => pts_nil)
          (fun _ _ _ _ _ => pe_call (ok_other L.toLO) (hr.mono (by decide)) (by rfl) L.other.g L.other.F.kp L.other.b .nil pass0 (pa_cons (pv 1) (pa_cons (pv 3) pa_nil)))))) (pg_name (i := 4) scLaw.nd rfl (.inl rfl))
        (pss_cons (ps_set (i := 5) scLaw.nd rfl (.inl rfl) (pe_callB (cr_reprE hsm rfl hr) (by rfl) B.repr (by decide +kernel) (pa_cons (pv 4) pa_nil)))
        (pss_cons (ps_set (i := 6) scLaw.nd rfl (.inl rfl) (pe_ifExp (pt_cmpR op_eq (pv 2) pe_int (nomark _)) (pe_callKR gT (hr.mono (by decide)) (by rfl) F.tape.g F.tape.F.kp L.kTape pass0 (pk_cons (pv 4) pk_nil)) (pe_call gT (hr.mono (by decide)) (by rfl) F.tape.g F.tape.F.kp F.tape.b .nil pass0 (pa_cons (pv 4) pa_nil))))
        (pss_one (ps_if (PW.pt (pw_or (PW.pt (pw_and (pt_not (pt_val (pe_call gB (hr.mono (by decide)) (by rfl) L.beyond.g L.beyond.F.kp L.beyond.b .nil pass0 (pa_cons (pv 4) pa_nil))))
            (pw_and1 (pt_cmpR op_ne (pe_callB (cr_reprE hsm rfl hr) (by rfl) B.repr (by decide +kernel) (pa_cons (pv 6) pa_nil)) (pe_callB (cr_reprE hsm rfl hr) (by rfl) B.repr (by decide +kernel) (pa_cons (pe_call gL (hr.mono (by decide)) (by rfl) L.tape.g L.tape.F.kp L.tape.b .nil pass0 (pa_cons (pv 4) pa_nil)) pa_nil)) (nomark _)))))
          (pw_or1 (pt_cmpR op_ne (pe_callB (cr_reprE hsm rfl hr) (by rfl) B.repr (by decide +kernel) (pa_cons (pv 4) pa_nil)) (pv 5) (nomark _))))) (pss_one (ps_ret pe_bl)) pss_nil))))))))
    (pss_one (ps_ret pe_bl))), ?_⟩
  refine ⟨_, rfl, c, ns, rfl, hS, hn, fun d l H1 D1 k1 nd nl => ?_⟩
  have g1 : TTs a.Ts H1 := g.kp0 k1
  have hasAll : Has (d :: l :: a.Ts) H1 := by
    intro x hx
    obtain ⟨m, n, ms, h1, h2, _⟩ := D1.ex
    rcases List.mem_cons.mp hx with rfl | hx
    · rw [h1]
      exact fun z => nomatch z
    rcases List.mem_cons.mp hx with rfl | hx
    · rw [h2]
      exact fun z => nomatch z
    · obtain ⟨ps, e, _⟩ := g1 x hx
      rw [e]
      exact fun z => nomatch z
  have I1 : LI d l a.Ts H1 := ⟨⟨D1, by simp, by simp, hasAll⟩, g1⟩
  let M := d :: l :: a.Ts
  have subT : ∀ y ∈ a.Ts, y ∈ M := LI.sub
  have gB40 : bAny ≤ 10 ^ 40 := by decide +kernel
  refine ⟨4, rfl, by decide, by decide, ?_⟩
  refine for_range (lo := 0) (n := 4) (fun i σ H => (∃ (x2 x3 x4 x5 x6 : Option V), σ = [some (.ref c), some (.ref d), x2, x3, x4, x5, x6, none]) ∧ LI d l a.Ts H)
    ⟨⟨_, _, _, _, _, rfl⟩, I1⟩ ?_ ?_
  · rintro i σ H2 hi ⟨⟨x2, x3, x4, x5, x6, rfl⟩, I2⟩
    refine ⟨_, rfl, d, l, M, rfl, I2.fr, fun v ts s ss H3 a3 hM F3 k3 => ?_⟩
    have I3 := I2.own k3 F3
    obtain ⟨gM, _⟩ := hM.good
    refine ⟨_, rfl, by show 1 ≤ sizeLine; decide, fun p1 n1 => ?_⟩
    have I4 := I3.new (o := .lst [v]) n1
    have k4 : Kp [] H3 (upd H3 p1 (.lst [v])) := .new n1
    have o1 : (upd H3 p1 (.lst [v])) p1 = some (.lst [v]) := upd_same
    have f1 := I3.fr.has.fresh n1
    generalize upd H3 p1 (.lst [v]) = H4 at I4 k4 o1
    have a4 := a3.kp k4 (by simp) _
    refine ⟨4, rfl, by decide, by decide, fun Dn nD => ?_⟩
    have fD := I4.fr.has.fresh nD
    have hDd : Dn ≠ d := fun e => fD (e ▸ I4.fr.dm)
    have hDl : Dn ≠ l := fun e => fD (e ▸ I4.fr.lm)
    have hD1 : p1 ≠ Dn := ne_of_none o1 nD
    have a4D := An.grow nD _ a4
    have subD : ∀ x ∈ [d, l], x ∈ Dn :: M := fun x hx => List.mem_cons_of_mem _ (I4.fr.sub x hx)
    have kD0 : Kp [] H4 (upd H4 Dn (.lst [])) := .new nD
    refine lc_range (lo := 0) (n := 4) (fun j H5 => (∃ (us : List V) (es : List PyData), H5 Dn = some (.lst us) ∧ AnAll (Dn :: M) H5 us es ∧ (∀ x ∈ es, GoodJ bAny 6 7000 x) ∧ es.length = j) ∧ An (Dn :: M) H5 v (machD ts s ss) ∧ LI d l a.Ts H5 ∧ Kp [d, l] H4 H5)
      ⟨⟨[], [], upd_same, .nil, by simp, rfl⟩, a4D.kp kD0 (by simp) _, I4.new nD, .new nD⟩ ?_ ?_
    · rintro j H5 hj ⟨⟨us, es, hD, hU, hes, hel⟩, aM, I5, k5⟩
      refine ⟨rfl, _, rfl, _, rfl, d, l, Dn :: M, v, ts, s, ss, rfl, aM, hM, I5.fr.more hD, fun v' x' H6 ax gx F6 k6 => ?_⟩
      have I6 := I5.own k6 (F6.less I5.fr.dm I5.fr.lm)
      have hD6 := k6.at_ _ _ hD (by simp [hDd, hDl])
      have lU := hU.length
      have kD : Kp [Dn] H6 (upd H6 Dn (.lst (us ++ [v']))) := .put (by simp) hD6 (fun _ z => by cases z)
      refine ⟨us, hD6, Nat.lt_of_le_of_lt (show us.length ≤ 10 by omega) (by decide), ⟨us ++ [v'], es ++ [x'], upd_same, ((hU.kp k6 subD es).kp kD (by simp) es).append (.cons (ax.kp kD (by simp) _) .nil), ?_, ?_⟩, (aM.kp k6 subD _).kp kD (by simp) _, ?_, (k5.trans k6).own nD⟩
      · intro x hx
        rcases List.mem_append.mp hx with hx | hx
        · exact hes x hx
        · rw [List.mem_singleton.mp hx]
          exact gx
      · rw [List.length_append, hel]
        rfl
      · refine ⟨I6.fr.set hD6 hDd hDl, I6.tg.kp kD fun P hP hm => ?_⟩
        rw [List.mem_singleton.mp hm] at hP
        exact fD (subT _ hP)
    rintro H5 ⟨⟨us, es, hD, hU, hes, hel⟩, aM, I5, k5⟩
    have lU := hU.length
    have lim : ∀ n, n ≤ 1000 → n ≤ sizeLine := fun n h => Nat.le_trans h (by decide)
    refine ⟨p1, Dn, _, _, rfl, rfl, k5.at_ _ _ o1 (fun z => f1 (I3.fr.sub _ z)), hD, lim _ (by show 1 + us.length ≤ 1000; omega), fun p3 n3 => ?_⟩
    have f3 := I5.fr.has.fresh n3
    have I6 := I5.new (o := .lst ([v] ++ us)) n3
    have k6 : Kp [] H5 (upd H5 p3 (.lst ([v] ++ us))) := .new n3
    have o3 : (upd H5 p3 (.lst ([v] ++ us))) p3 = some (.lst ([v] ++ us)) := upd_same
    have hall : AnAll M (upd H5 p3 (.lst ([v] ++ us))) ([v] ++ us) (machD ts s ss :: es) := ((AnAll.cons aM hU).kp k6 (by simp) _).mono (ms' := M) (fun x hx => List.mem_cons_of_mem _ hx) _
    have gall : ∀ x ∈ machD ts s ss :: es, GoodJ bAny 6 7000 x := fun x hx => by
      rcases List.mem_cons.mp hx with rfl | hx
      · exact gM.mono b1000 (by decide) (by decide)
      · exact hes x hx
    generalize upd H5 p3 (.lst ([v] ++ us)) = H6 at I6 o3 hall
    refine ⟨p3, rfl, ⟨_, sql_of o3⟩, ?_⟩
    refine for_list (K := K) (a := p3) (xs := [v] ++ us) (fun j σ H7 => (∃ (x4 x5 x6 : Option V), σ = [some (.ref c), some (.ref d), some (.int (0 + (i : Int))), some v, x4, x5, x6, none]) ∧ LI d l a.Ts H7 ∧ Kp a.Ts H6 H7)
      ⟨⟨_, _, _, rfl⟩, I6, .refl⟩ (fun j σ H7 _ h => sql_of (h.2.2.at_ _ _ o3 fun z => f3 (subT _ z))) ?_ ?_
    · rintro j y σ H7 hy ⟨⟨x4, x5, x6, rfl⟩, I7, k7⟩
      obtain ⟨x, ex, ay⟩ := (hall.kp k7 subT _).get hy
      have gx := gall x (List.mem_of_getElem? ex)
      have gg := gx.good gB40
      have wx : wd x ≤ 16000 := Nat.le_trans gx.w (by decide)
      refine ⟨_, rfl, re_an ay gg (by decide) (by decide) ?_⟩
      refine ⟨_, rfl, rfl, _, rfl, ite_both ?_ (fun h => ⟨_, rfl, h⟩) (fun h => ⟨_, rfl, h⟩)⟩
      refine ⟨M, y, x, rfl, ay, wx, I7.tg, subT, fun H8 g8 k8 => ?_⟩
      have I8 := I7.prog k8 g8
      have a8 := ay.kp k8 subT _
      refine ⟨_, rfl, M, y, x, rfl, a8, gg.f, wx, fun bb H9 k9 => ⟨_, rfl, ?_⟩⟩
      have I9 := I8.kp0 k9
      have a9 := a8.kp k9 (by simp) _
      have k69 : Kp a.Ts H6 H9 := k7.trans (k8.trans (k9.more (by simp)))
      cases bb with
      | true =>
        refine iteF (iteF ?_)
        exact ⟨_, rfl, re_an a9 gg (by decide) (by decide) ⟨_, rfl, rfl, _, rfl, iteNS rfl ⟨⟨_, _, _, rfl⟩, I9, k69⟩⟩⟩
      | false =>
        refine iteT ⟨_, rfl, re_an (ms := M) (.bl _) (bool_good _) (by decide) (by decide) ⟨_, rfl, M, y, x, rfl, a9, gg.f, wx, fun H10 k10 => re_an (ms := M) (.bl _) (bool_good _) (by decide) (by decide) ⟨rfl, _, rfl, iteNS rfl ?_⟩⟩⟩
        have I10 := I9.kp0 k10
        have a10 := a9.kp k10 (by simp) _
        exact ⟨_, rfl, re_an a10 gg (by decide) (by decide) ⟨_, rfl, rfl, _, rfl, iteNS rfl ⟨⟨_, _, _, rfl⟩, I10, k69.trans (k10.more (by simp))⟩⟩⟩
    · rintro σ H7 ⟨⟨x4, x5, x6, rfl⟩, I7, k7⟩
      exact ⟨⟨_, _, _, _, _, rfl⟩, I7⟩
  · rintro σ H2 ⟨⟨x2, x3, x4, x5, x6, rfl⟩, I2⟩
    exact k H2
end
end Ey
/-! ### the end -/
namespace Ey
open PySem PySem.Spec L2
/-- what the head tells of one def -/
structure DfK (K : PySem.W.Frag) (x : Str) (st : Stmt) (f : Addr) (oc kV dc pm cd ct : Value) (od an : Option Addr) (sl : Array (Option Value)) : Prop where
  a : PySem.W.nsIn K mainGlobals x = some (some (.ref f))
  l : K.lookup f = some ⟨oc, od, .func (PySem.W.fnOf x x (defArgs st) (defBody st) (defScope st) .none kV dc pm an cd ct), sl⟩
  c : PySem.W.codeIn K cd x = true
  k : PySem.W.keepIn K (.ref f) = true
theorem DfK.df {K : PySem.W.Frag} {x : Str} {st : Stmt} {f : Addr} {oc kV dc pm cd ct : Value} {od an : Option Addr} {sl : Array (Option Value)} {mg : Str → Option Value} {h : Heap} {ps : List Str} (e : DfK K x st f oc kV dc pm cd ct od an sl) (X : K.In h) (G : h.Ns mainGlobals mg)
    (hb : ∀ (kV doc pm : Value) (an : Option Addr) (cdv ct : Value) (us : List Value), us.length = ps.length → bindArgs (PySem.W.fnOf x x (defArgs st) (defBody st) (defScope st) .none kV doc pm an cdv ct) ⟨us, []⟩ = pure (ps.zip us)) :
    Df K mg x st ps f (PySem.W.fnOf x x (defArgs st) (defBody st) (defScope st) .none kV dc pm an cd ct) :=
  ⟨fun_mk e.l e.c e.k, (fun_mk e.l e.c e.k).binds hb, PySem.W.mg_of X G e.a⟩


set_option maxHeartbeats 8000000 in
theorem all_mk {P : Program} {q : Program} {lo : List Str} {mean : ExcName → Option Value} {w : World} {K : PySem.W.Frag} {h : Heap} {mg mb : Str → Option Value} {fa : Addr} (X : K.In h) (T : PyProof.Rows.Top q lo mean mg mb h) (hfa : mg "law" = some (.ref fa))
    {c0 P0 c1 P1 c2 P2 c3 P3 c4 P4 : Addr} {dr0 dr1 dr2 dr3 dr4 : DefRec} {tL tT : Tok}
    {f1 f5 f7 f8 f9 f10 f12 f13 f14 f15 f16 f17 f18 f19 f20 f21 f22 f23 f24 f25 : Addr}
    {oc1 kV1 dc1 pm1 ct1 cd1 oc5 kV5 dc5 pm5 ct5 oc7 kV7 dc7 pm7 ct7 oc8 kV8 dc8 pm8 ct8 oc9 kV9 dc9 pm9 ct9 oc10 kV10 dc10 pm10 ct10 oc12 kV12 dc12 pm12 ct12 cd12 oc13 kV13 dc13 pm13 ct13 cd13 oc14 kV14 dc14 pm14 ct14 cd14 oc15 kV15 dc15 pm15 ct15 cd15 oc16 kV16 dc16 pm16 ct16 cd16 oc17 kV17 dc17 pm17 ct17 cd17 oc18 kV18 dc18 pm18 ct18 cd18 oc19 kV19 dc19 pm19 ct19 cd19 oc20 kV20 dc20 pm20 ct20 cd20 oc21 kV21 dc21 pm21 ct21 cd21 oc22 kV22 dc22 pm22 ct22 cd22 oc23 kV23 dc23 pm23 ct23 cd23 oc24 kV24 dc24 pm24 ct24 cd24 oc25 kV25 dc25 pm25 ct25 cd25 : Value}
    {od1 an1 od5 an5 od7 an7 od8 an8 od9 an9 od10 an10 od12 an12 od13 an13 od14 an14 od15 an15 od16 an16 od17 an17 od18 an18 od19 an19 od20 an20 od21 an21 od22 an22 od23 an23 od24 an24 od25 an25 : Option Addr}
    {sl1 sl5 sl7 sl8 sl9 sl10 sl12 sl13 sl14 sl15 sl16 sl17 sl18 sl19 sl20 sl21 sl22 sl23 sl24 sl25 : Array (Option Value)}
    (e1 : DfK K "is_plain_int" sPlain f1 oc1 kV1 dc1 pm1 cd1 ct1 od1 an1 sl1)
    (e5 : DfK K "is_tag" sIsTag f5 oc5 kV5 dc5 pm5 (.ref c0) ct5 od5 an5 sl5)
    (e7 : DfK K "is_rule" sRule f7 oc7 kV7 dc7 pm7 (.ref c1) ct7 od7 an7 sl7)
    (e8 : DfK K "is_state" sState f8 oc8 kV8 dc8 pm8 (.ref c2) ct8 od8 an8 sl8)
    (e9 : DfK K "are_unlike_tags" sTags f9 oc9 kV9 dc9 pm9 (.ref c3) ct9 od9 an9 sl9)
    (e10 : DfK K "is_tape" sTape f10 oc10 kV10 dc10 pm10 (.ref c4) ct10 od10 an10 sl10)
    (e12 : DfK K "_law_deck" sDeck f12 oc12 kV12 dc12 pm12 cd12 ct12 od12 an12 sl12)
    (e13 : DfK K "_law_draw" sDraw f13 oc13 kV13 dc13 pm13 cd13 ct13 od13 an13 sl13)
    (e14 : DfK K "_law_pick" sPick f14 oc14 kV14 dc14 pm14 cd14 ct14 od14 an14 sl14)
    (e15 : DfK K "_law_is_int" sLInt f15 oc15 kV15 dc15 pm15 cd15 ct15 od15 an15 sl15)
    (e16 : DfK K "_law_is_tuple" sLTup f16 oc16 kV16 dc16 pm16 cd16 ct16 od16 an16 sl16)
    (e17 : DfK K "_law_is_tag" sLIsTag f17 oc17 kV17 dc17 pm17 cd17 ct17 od17 an17 sl17)
    (e18 : DfK K "_law_tags" sDTags f18 oc18 kV18 dc18 pm18 cd18 ct18 od18 an18 sl18)
    (e19 : DfK K "_law_is_tape" sLTape f19 oc19 kV19 dc19 pm19 cd19 ct19 od19 an19 sl19)
    (e20 : DfK K "_law_tape" sDTape f20 oc20 kV20 dc20 pm20 cd20 ct20 od20 an20 sl20)
    (e21 : DfK K "_law_leaf" sLeaf f21 oc21 kV21 dc21 pm21 cd21 ct21 od21 an21 sl21)
    (e22 : DfK K "_law_bent" sBent f22 oc22 kV22 dc22 pm22 cd22 ct22 od22 an22 sl22)
    (e23 : DfK K "_law_otherwise" sOther f23 oc23 kV23 dc23 pm23 cd23 ct23 od23 an23 sl23)
    (e24 : DfK K "_law_is_beyond" sBeyond f24 oc24 kV24 dc24 pm24 cd24 ct24 od24 an24 sl24)
    (e25 : DfK K "law" sLaw f25 oc25 kV25 dc25 pm25 cd25 ct25 od25 an25 sl25)
    (z_int : PySem.W.nsIn K mainGlobals "int" = some none)
    (z_max : PySem.W.nsIn K mainGlobals "max" = some none)
    (z_list : PySem.W.nsIn K mainGlobals "list" = some none)
    (z_len : PySem.W.nsIn K mainGlobals "len" = some none)
    (z_range : PySem.W.nsIn K mainGlobals "range" = some none)
    (z_tuple : PySem.W.nsIn K mainGlobals "tuple" = some none)
    (z_sorted : PySem.W.nsIn K mainGlobals "sorted" = some none)
    (z_repr : PySem.W.nsIn K mainGlobals "repr" = some none)
    (z_isi : PySem.W.nsIn K mainGlobals "isinstance" = some none)
    (z_str : PySem.W.nsIn K mainGlobals "str" = some none)
    (z_all : PySem.W.nsIn K mainGlobals "all" = some none)
    (z_bool : PySem.W.nsIn K mainGlobals "bool" = some none)
    (z_set : PySem.W.nsIn K mainGlobals "set" = some none)
    (z_min : PySem.W.nsIn K mainGlobals "min" = some none)
    (tb0 : PySem.W.tabIn K "is_tag" = some (c0, P0)) (rc0 : (PyProof.Rows.recsOf q).find? (fun e => e.name == ("is_tag" : Str)) = some dr0) (nT0 : K.lookup P0 = none)
    (tb1 : PySem.W.tabIn K "is_rule" = some (c1, P1)) (rc1 : (PyProof.Rows.recsOf q).find? (fun e => e.name == ("is_rule" : Str)) = some dr1) (nT1 : K.lookup P1 = none)
    (tb2 : PySem.W.tabIn K "is_state" = some (c2, P2)) (rc2 : (PyProof.Rows.recsOf q).find? (fun e => e.name == ("is_state" : Str)) = some dr2) (nT2 : K.lookup P2 = none)
    (tb3 : PySem.W.tabIn K "are_unlike_tags" = some (c3, P3)) (rc3 : (PyProof.Rows.recsOf q).find? (fun e => e.name == ("are_unlike_tags" : Str)) = some dr3) (nT3 : K.lookup P3 = none)
    (tb4 : PySem.W.tabIn K "is_tape" = some (c4, P4)) (rc4 : (PyProof.Rows.recsOf q).find? (fun e => e.name == ("is_tape" : Str)) = some dr4) (nT4 : K.lookup P4 = none)
    (gL : PySem.W.nsIn K mainGlobals "LETTERS" = some (some (.str "abcdefghijklmnopqrstuvwxyz" tL))) (gT : PySem.W.nsIn K mainGlobals "TAG_LENGTH" = some (some (.int 8 tT))) :
    ∃ (fd : FuncData) (cs : List (Addr × Addr)) (sp : Sp), Tabs K h cs ∧ (∀ (s : Shared) (u : Value), BindsTo s fd ⟨[u], []⟩ [("_law_script", u)]) ∧
      (∀ (H : Hp) (a : Addr) (ns : List Int), ns.length ≤ 63 → (∀ p ∈ cs, H p.2 = some (.tbl #[])) → SqL K H a (ns.map V.int) → sp [.ref a] H (fun v _ => v = .bl true) E0) ∧
      ∀ base : Heap, K.In base → base.Ns mainGlobals mg → (∀ p ∈ cs, GxR.TabB base mg p.1 p.2) → (∃ mm, base.Ns sysModules mm) → LawOk P w K mg base fa fd "_law_script" sp := by
  have G := T.g
  have e := hfa.symm.trans (PySem.W.mg_of X G e25.a)
  cases e
  obtain ⟨hd0, tq0⟩ := PySem.W.tab_of T X rc0 tb0
  obtain ⟨hd1, tq1⟩ := PySem.W.tab_of T X rc1 tb1
  obtain ⟨hd2, tq2⟩ := PySem.W.tab_of T X rc2 tb2
  obtain ⟨hd3, tq3⟩ := PySem.W.tab_of T X rc3 tb3
  obtain ⟨hd4, tq4⟩ := PySem.W.tab_of T X rc4 tb4
  have B : BI mg := ⟨PySem.W.mg_none_of X G z_int, PySem.W.mg_none_of X G z_max, PySem.W.mg_none_of X G z_list, PySem.W.mg_none_of X G z_len, PySem.W.mg_none_of X G z_range, PySem.W.mg_none_of X G z_tuple, PySem.W.mg_none_of X G z_sorted, PySem.W.mg_none_of X G z_repr, PySem.W.mg_none_of X G z_isi, PySem.W.mg_none_of X G z_str, PySem.W.mg_none_of X G z_all, PySem.W.mg_none_of X G z_bool, PySem.W.mg_none_of X G z_set, PySem.W.mg_none_of X G z_min⟩
  have D1 := e1.df (ps := ["thing"]) X G fun _ _ _ _ _ _ us hl => match us, hl with | [_], _ => rfl
  have D5 := e5.df (ps := ["thing"]) X G fun _ _ _ _ _ _ us hl => match us, hl with | [_], _ => rfl
  have D7 := e7.df (ps := ["signs", "many", "thing"]) X G fun _ _ _ _ _ _ us hl => match us, hl with | [_, _, _], _ => rfl
  have D8 := e8.df (ps := ["signs", "many", "thing"]) X G fun _ _ _ _ _ _ us hl => match us, hl with | [_, _, _], _ => rfl
  have D9 := e9.df (ps := ["thing"]) X G fun _ _ _ _ _ _ us hl => match us, hl with | [_], _ => rfl
  have D10 := e10.df (ps := ["thing"]) X G fun _ _ _ _ _ _ us hl => match us, hl with | [_], _ => rfl
  have D12 := e12.df (ps := ["_law_script"]) X G fun _ _ _ _ _ _ us hl => match us, hl with | [_], _ => rfl
  have D13 := e13.df (ps := ["_law_deck_here", "_law_many"]) X G fun _ _ _ _ _ _ us hl => match us, hl with | [_, _], _ => rfl
  have D14 := e14.df (ps := ["_law_deck_here", "_law_some"]) X G fun _ _ _ _ _ _ us hl => match us, hl with | [_, _], _ => rfl
  have D15 := e15.df (ps := ["_law_thing", "_law_low", "_law_high"]) X G fun _ _ _ _ _ _ us hl => match us, hl with | [_, _, _], _ => rfl
  have D16 := e16.df (ps := ["_law_thing", "_law_many"]) X G fun _ _ _ _ _ _ us hl => match us, hl with | [_, _], _ => rfl
  have D17 := e17.df (ps := ["_law_thing"]) X G fun _ _ _ _ _ _ us hl => match us, hl with | [_], _ => rfl
  have D18 := e18.df (ps := ["_law_deck_here", "_law_many"]) X G fun _ _ _ _ _ _ us hl => match us, hl with | [_, _], _ => rfl
  have D19 := e19.df (ps := ["_law_thing"]) X G fun _ _ _ _ _ _ us hl => match us, hl with | [_], _ => rfl
  have D20 := e20.df (ps := ["_law_deck_here", "_law_most"]) X G fun _ _ _ _ _ _ us hl => match us, hl with | [_, _], _ => rfl
  have D21 := e21.df (ps := ["_law_deck_here", "_law_thing"]) X G fun _ _ _ _ _ _ us hl => match us, hl with | [_, _], _ => rfl
  have D22 := e22.df (ps := ["_law_deck_here", "_law_thing", "_law_depth"]) X G fun _ _ _ _ _ _ us hl => match us, hl with | [_, _, _], _ => rfl
  have D23 := e23.df (ps := ["_law_deck_here", "_law_machine"]) X G fun _ _ _ _ _ _ us hl => match us, hl with | [_, _], _ => rfl
  have D24 := e24.df (ps := ["_law_thing"]) X G fun _ _ _ _ _ _ us hl => match us, hl with | [_], _ => rfl
  have D25 := e25.df (ps := ["_law_script"]) X G fun _ _ _ _ _ _ us hl => match us, hl with | [_], _ => rfl
  have DT5 : DfT K mg "is_tag" sIsTag ["thing"] f5 _ c0 := ⟨D5, _, _, _, _, _, _, _, _, rfl, e5.l, e5.c⟩
  have DT7 : DfT K mg "is_rule" sRule ["signs", "many", "thing"] f7 _ c1 := ⟨D7, _, _, _, _, _, _, _, _, rfl, e7.l, e7.c⟩
  have DT8 : DfT K mg "is_state" sState ["signs", "many", "thing"] f8 _ c2 := ⟨D8, _, _, _, _, _, _, _, _, rfl, e8.l, e8.c⟩
  have DT9 : DfT K mg "are_unlike_tags" sTags ["thing"] f9 _ c3 := ⟨D9, _, _, _, _, _, _, _, _, rfl, e9.l, e9.c⟩
  have DT10 : DfT K mg "is_tape" sTape ["thing"] f10 _ c4 := ⟨D10, _, _, _, _, _, _, _, _, rfl, e10.l, e10.c⟩
  let AA : Nat → Addr := fun i => match i with
    | 1 => f1
    | 5 => f5
    | 7 => f7
    | 8 => f8
    | 9 => f9
    | 10 => f10
    | 12 => f12
    | 13 => f13
    | 14 => f14
    | 15 => f15
    | 16 => f16
    | 17 => f17
    | 18 => f18
    | 19 => f19
    | 20 => f20
    | 21 => f21
    | 22 => f22
    | 23 => f23
    | 24 => f24
    | _ => 0
  let DD : Nat → FuncData := fun i => match i with
    | 1 => PySem.W.fnOf "is_plain_int" "is_plain_int" (defArgs sPlain) (defBody sPlain) (defScope sPlain) .none kV1 dc1 pm1 an1 cd1 ct1
    | 5 => PySem.W.fnOf "is_tag" "is_tag" (defArgs sIsTag) (defBody sIsTag) (defScope sIsTag) .none kV5 dc5 pm5 an5 (.ref c0) ct5
    | 7 => PySem.W.fnOf "is_rule" "is_rule" (defArgs sRule) (defBody sRule) (defScope sRule) .none kV7 dc7 pm7 an7 (.ref c1) ct7
    | 8 => PySem.W.fnOf "is_state" "is_state" (defArgs sState) (defBody sState) (defScope sState) .none kV8 dc8 pm8 an8 (.ref c2) ct8
    | 9 => PySem.W.fnOf "are_unlike_tags" "are_unlike_tags" (defArgs sTags) (defBody sTags) (defScope sTags) .none kV9 dc9 pm9 an9 (.ref c3) ct9
    | 10 => PySem.W.fnOf "is_tape" "is_tape" (defArgs sTape) (defBody sTape) (defScope sTape) .none kV10 dc10 pm10 an10 (.ref c4) ct10
    | 12 => PySem.W.fnOf "_law_deck" "_law_deck" (defArgs sDeck) (defBody sDeck) (defScope sDeck) .none kV12 dc12 pm12 an12 cd12 ct12
    | 13 => PySem.W.fnOf "_law_draw" "_law_draw" (defArgs sDraw) (defBody sDraw) (defScope sDraw) .none kV13 dc13 pm13 an13 cd13 ct13
    | 14 => PySem.W.fnOf "_law_pick" "_law_pick" (defArgs sPick) (defBody sPick) (defScope sPick) .none kV14 dc14 pm14 an14 cd14 ct14
    | 15 => PySem.W.fnOf "_law_is_int" "_law_is_int" (defArgs sLInt) (defBody sLInt) (defScope sLInt) .none kV15 dc15 pm15 an15 cd15 ct15
    | 16 => PySem.W.fnOf "_law_is_tuple" "_law_is_tuple" (defArgs sLTup) (defBody sLTup) (defScope sLTup) .none kV16 dc16 pm16 an16 cd16 ct16
    | 17 => PySem.W.fnOf "_law_is_tag" "_law_is_tag" (defArgs sLIsTag) (defBody sLIsTag) (defScope sLIsTag) .none kV17 dc17 pm17 an17 cd17 ct17
    | 18 => PySem.W.fnOf "_law_tags" "_law_tags" (defArgs sDTags) (defBody sDTags) (defScope sDTags) .none kV18 dc18 pm18 an18 cd18 ct18
    | 19 => PySem.W.fnOf "_law_is_tape" "_law_is_tape" (defArgs sLTape) (defBody sLTape) (defScope sLTape) .none kV19 dc19 pm19 an19 cd19 ct19
    | 20 => PySem.W.fnOf "_law_tape" "_law_tape" (defArgs sDTape) (defBody sDTape) (defScope sDTape) .none kV20 dc20 pm20 an20 cd20 ct20
    | 21 => PySem.W.fnOf "_law_leaf" "_law_leaf" (defArgs sLeaf) (defBody sLeaf) (defScope sLeaf) .none kV21 dc21 pm21 an21 cd21 ct21
    | 22 => PySem.W.fnOf "_law_bent" "_law_bent" (defArgs sBent) (defBody sBent) (defScope sBent) .none kV22 dc22 pm22 an22 cd22 ct22
    | 23 => PySem.W.fnOf "_law_otherwise" "_law_otherwise" (defArgs sOther) (defBody sOther) (defScope sOther) .none kV23 dc23 pm23 an23 cd23 ct23
    | 24 => PySem.W.fnOf "_law_is_beyond" "_law_is_beyond" (defArgs sBeyond) (defBody sBeyond) (defScope sBeyond) .none kV24 dc24 pm24 an24 cd24 ct24
    | _ => PySem.W.fnOf "law" "law" (defArgs sLaw) (defBody sLaw) (defScope sLaw) .none kV25 dc25 pm25 an25 cd25 ct25
  let ad : Adr := ⟨AA, DD, c0, P0, c1, P1, c2, P2, c3, P3, c4, P4⟩
  have Fp : PF K mg ad := ⟨B, D1, DT5, DT7, DT8, DT9, DT10, ⟨tL, PySem.W.mg_of X G gL⟩, ⟨tT, PySem.W.mg_of X G gT⟩⟩
  have L1 : LR K mg AA DD := ⟨B, D13, D14, D15, D16, D17, D19⟩
  have L2 : LT K mg AA DD := ⟨L1, D18⟩
  have L3 : LM K mg AA DD := ⟨L2, D20⟩
  have L4 : LF K mg AA DD := ⟨L3, D21⟩
  have L5 : LB K mg AA DD := ⟨L4, D22⟩
  have L6 : LO K mg AA DD := ⟨L5, D23, D24⟩
  have kt : KBinds K (DD 10) ["thing"] ["thing"] gRv gRv := Ey.Fun.rvs D10.F (by simp) fun _ _ _ _ _ _ us hl => match us, hl with | [_], _ => rfl
  have L : LA K mg AA DD ad := { toLO := L6, deck := D12, F := Fp, kTape := kt }
  have cases4 : ∀ {R : Addr × Addr → Prop}, R (c0, P0) → R (c1, P1) → R (c2, P2) → R (c3, P3) → R (c4, P4) → ∀ p ∈ [(c0, P0), (c1, P1), (c2, P2), (c3, P3), (c4, P4)], R p := by
    intro R h0 h1 h2 h3 h4 p hp
    simp only [List.mem_cons, List.not_mem_nil, or_false] at hp
    rcases hp with rfl | rfl | rfl | rfl | rfl
    · exact h0
    · exact h1
    · exact h2
    · exact h3
    · exact h4
  refine ⟨_, [(c0, P0), (c1, P1), (c2, P2), (c3, P3), (c4, P4)], spLaw K [P0, P1, P2, P3, P4], ⟨cases4 tq0 tq1 tq2 tq3 tq4, cases4 nT0 nT1 nT2 nT3 nT4, cases4 hd0 hd1 hd2 hd3 hd4⟩, fun s u => .of_eq rfl, fun H a ns hn hT hS => ?_, fun base KB MB TB hs => ok_law D25.F L ⟨TB (c0, P0) (by simp), TB (c1, P1) (by simp), TB (c2, P2) (by simp), TB (c3, P3) (by simp), TB (c4, P4) (by simp), MB⟩ hs⟩
  refine ⟨a, ns, rfl, hS, hn, fun P hP => ?_, fun _ => rfl⟩
  simp only [List.mem_cons, List.not_mem_nil, or_false] at hP
  rcases hP with e | e | e | e | e
  · rw [e]
    exact ⟨#[], hT (c0, P0) (by simp), trivial⟩
  · rw [e]
    exact ⟨#[], hT (c1, P1) (by simp), trivial⟩
  · rw [e]
    exact ⟨#[], hT (c2, P2) (by simp), trivial⟩
  · rw [e]
    exact ⟨#[], hT (c3, P3) (by simp), trivial⟩
  · rw [e]
    exact ⟨#[], hT (c4, P4) (by simp), trivial⟩
end Ey
open PySem PySem.W PyProof.Rows
set_option maxRecDepth 100000 in
set_option maxHeartbeats 0 in
theorem PySem.Challenge.cw_eyesonly_k55_tape_machines_of_any_value_holds : PySem.Challenge.rw_eyesonly_k55_tape_machines_of_any_value.Holds := by
  w_on; o_law; k_head; (case hw => w_witness2)
  k_fill
  refine Ey.walk_law (l := PySem.Challenge.rw_eyesonly_k55_tape_machines_of_any_value) (x := "_law_script") (by decide +kernel) rfl (by decide) rfl (fun w h Y => PySem.W.kIn_of Y) ?F
  case F =>
    intro w mg fa h lo mean mb KX T hmg
    refine' Ey.all_mk (w := w) KX T hmg ⟨?a1, ?l1, ?c1, ?k1⟩ ⟨?a5, ?l5, ?c5, ?k5⟩ ⟨?a7, ?l7, ?c7, ?k7⟩ ⟨?a8, ?l8, ?c8, ?k8⟩ ⟨?a9, ?l9, ?c9, ?k9⟩ ⟨?a10, ?l10, ?c10, ?k10⟩ ⟨?a12, ?l12, ?c12, ?k12⟩ ⟨?a13, ?l13, ?c13, ?k13⟩ ⟨?a14, ?l14, ?c14, ?k14⟩ ⟨?a15, ?l15, ?c15, ?k15⟩ ⟨?a16, ?l16, ?c16, ?k16⟩ ⟨?a17, ?l17, ?c17, ?k17⟩ ⟨?a18, ?l18, ?c18, ?k18⟩ ⟨?a19, ?l19, ?c19, ?k19⟩ ⟨?a20, ?l20, ?c20, ?k20⟩ ⟨?a21, ?l21, ?c21, ?k21⟩ ⟨?a22, ?l22, ?c22, ?k22⟩ ⟨?a23, ?l23, ?c23, ?k23⟩ ⟨?a24, ?l24, ?c24, ?k24⟩ ⟨?a25, ?l25, ?c25, ?k25⟩ ?zint ?zmax ?zlist ?zlen ?zrange ?ztuple ?zsorted ?zrepr ?zisi ?zstr ?zall ?zbool ?zset ?zmin ?tb0 ?rc0 ?nT0 ?tb1 ?rc1 ?nT1 ?tb2 ?rc2 ?nT2 ?tb3 ?rc3 ?nT3 ?tb4 ?rc4 ?nT4 ?gL ?gT
    (case a1 => k_is); (case l1 => k_is); (case c1 => k_is); (case k1 => k_is)
    (case a5 => k_is); (case l5 => k_is); (case c5 => k_is); (case k5 => k_is)
    (case a7 => k_is); (case l7 => k_is); (case c7 => k_is); (case k7 => k_is)
    (case a8 => k_is); (case l8 => k_is); (case c8 => k_is); (case k8 => k_is)
    (case a9 => k_is); (case l9 => k_is); (case c9 => k_is); (case k9 => k_is)
    (case a10 => k_is); (case l10 => k_is); (case c10 => k_is); (case k10 => k_is)
    (case a12 => k_is); (case l12 => k_is); (case c12 => k_is); (case k12 => k_is)
    (case a13 => k_is); (case l13 => k_is); (case c13 => k_is); (case k13 => k_is)
    (case a14 => k_is); (case l14 => k_is); (case c14 => k_is); (case k14 => k_is)
    (case a15 => k_is); (case l15 => k_is); (case c15 => k_is); (case k15 => k_is)
    (case a16 => k_is); (case l16 => k_is); (case c16 => k_is); (case k16 => k_is)
    (case a17 => k_is); (case l17 => k_is); (case c17 => k_is); (case k17 => k_is)
    (case a18 => k_is); (case l18 => k_is); (case c18 => k_is); (case k18 => k_is)
    (case a19 => k_is); (case l19 => k_is); (case c19 => k_is); (case k19 => k_is)
    (case a20 => k_is); (case l20 => k_is); (case c20 => k_is); (case k20 => k_is)
    (case a21 => k_is); (case l21 => k_is); (case c21 => k_is); (case k21 => k_is)
    (case a22 => k_is); (case l22 => k_is); (case c22 => k_is); (case k22 => k_is)
    (case a23 => k_is); (case l23 => k_is); (case c23 => k_is); (case k23 => k_is)
    (case a24 => k_is); (case l24 => k_is); (case c24 => k_is); (case k24 => k_is)
    (case a25 => k_is); (case l25 => k_is); (case c25 => k_is); (case k25 => k_is)
    (case zint => k_is); (case zmax => k_is); (case zlist => k_is); (case zlen => k_is); (case zrange => k_is); (case ztuple => k_is); (case zsorted => k_is); (case zrepr => k_is); (case zisi => k_is); (case zstr => k_is); (case zall => k_is); (case zbool => k_is); (case zset => k_is); (case zmin => k_is)
    (case tb0 => rfl)
    (case rc0 => rfl)
    (case nT0 => rfl)
    (case tb1 => rfl)
    (case rc1 => rfl)
    (case nT1 => rfl)
    (case tb2 => rfl)
    (case rc2 => rfl)
    (case nT2 => rfl)
    (case tb3 => rfl)
    (case rc3 => rfl)
    (case nT3 => rfl)
    (case tb4 => rfl)
    (case rc4 => rfl)
    (case nT4 => rfl)
    (case gL => k_is); (case gT => k_is)
