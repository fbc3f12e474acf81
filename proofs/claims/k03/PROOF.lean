import PyProof.Rows.All
import Wide.All
import OpenK.AllK
import Wide.FinOn
import PyProof.ReprRoads
import KE.KSortAny
import PyProof.Rows.SortShellAny
import HandS.ForMost
import HandS.IsInst
import HandS.AnyAll
import HandS.EndTab
import HandS.HeadWalk
import HandS.WrittenGet
import PyProof.TupleOfGen
import HandS.Conv
import HandS.StrMore
import HandS.Exc
import HandS.TryOnly
import HandS.GenList
import PyProof.EqKinds
import PyProof.NeKinds
import PyProof.NeData
import PyProof.RowDictHeap
import PyProof.Rows.StrDigitsNeg
import PyProof.Rows.StrIntSpec
import KE.KEqNest
import PyProof.Rows.StrRev
import HandS.TupAny
import HandS.Comp
import HandS.Iter
import KE.GoesEnum
import PyProof.StrLawsFirst
import KE.KIsAll
import KE.KTryMore
import HandS.ExcIs
import HandS.Style
import HandS.More
import HandS.Lambda
import HandS.Flow
import HandS.WordsExc
import HandS.NoneIn
import HandS.TupMul
import PySem.Challenge.RW_eyesonly_k03_whole_texts_of_trees
set_option Elab.async false
set_option linter.all false
set_option maxRecDepth 100000
set_option maxHeartbeats 4000000
namespace Ey
open PySem PySem.Spec PyProof.Rows L2
/-! ### repr of data -/
mutual
theorem dp_plain {K : PySem.W.Frag} {H : Hp} : ∀ (d : PyData) (v : V), Dp K H v d → d.hasDict = false
  | .none, _, _ => rfl
  | .bool _, _, _ => rfl
  | .int _, _, _ => rfl
  | .str _, _, _ => rfl
  | .list ds, _, h => by
    cases h with
    | lst _ q => exact dp_plains ds _ q
  | .tuple ds, _, h => by
    cases h with
    | tup _ q => exact dp_plains ds _ q
  | .dict _, _, h => by cases h
theorem dp_plains {K : PySem.W.Frag} {H : Hp} : ∀ (ds : List PyData) (vs : List V), DpAll K H vs ds → PyData.hasDictAll ds = false
  | [], _, _ => rfl
  | d :: r, _, h => by
    cases h with
    | cons a b =>
      show (d.hasDict || PyData.hasDictAll r) = false
      rw [dp_plain d _ a, dp_plains r _ b]
      rfl
end
def rRepr (K : PySem.W.Frag) : List V → Hp → VK → Prop := fun xs H Q =>
  ∃ v d, xs = [v] ∧ Dp K H v d ∧ d.showable = true ∧ d.depth ≤ 100 ∧ d.shown.length ≤ sizeLine ∧ Q (.str d.shown) H
section
variable {X : Cx} {k : Nat}
theorem cr_repr (hg : X.A.guards = some []) (hr : Room k X.A) : CallR X (.builtin "repr") (rRepr X.K) := by
  intro pins s σ H xs us Q I r h
  obtain ⟨v, d, rfl, hd, hs, hp, hz, q⟩ := h
  obtain ⟨u, rfl, ru⟩ := vals1 r
  obtain ⟨as, rd⟩ := Dp.reads I d v u hd ru
  have nd := dp_plain d v hd
  have room : X.A.units + (d.depth + 1) < cLine := by
    have := hr.un
    omega
  have fin : ∀ (h' : Heap) (tk : Nat) (t : Tok), (∀ b o, s.heap.get? b = some o → h'.get? b = some o) → EP X pins σ Q (.str d.shown t) { s with heap := h', toks := tk } :=
    fun h' tk t hk => ⟨.str d.shown, H, I.kept hk, ⟨t, rfl⟩, q⟩
  cases rd with
  | none => exact PySem.P.repr_of_none (fin s.heap _ _ fun _ _ e => e)
  | bool b => exact PySem.P.repr_of_bool (fin s.heap _ _ fun _ _ e => e)
  | int i t => exact PySem.P.repr_of_int (of_decide_eq_true hs) (fin s.heap _ _ fun _ _ e => e)
  | str x t => exact PySem.P.repr_of_str (fin s.heap _ _ fun _ _ e => e) hz
  | list a b c e => exact repr_of_reads' (.list a b c e) hs (PyData.noDict_hsm nd) hg room (fun _ _ e => e) (fun h' u tk hk => fin h' tk u hk) hz
  | tuple a b c e => exact repr_of_reads' (.tuple a b c e) hs (PyData.noDict_hsm nd) hg room (fun _ _ e => e) (fun h' u tk hk => fin h' tk u hk) hz
  | dict a b c e f => cases nd
/-! ### sorted of texts, at any length -/
def rSortT (K : PySem.W.Frag) : List V → Hp → VK → Prop := fun vs H Q => ∃ (a : Addr) (xs : List Str), vs = [V.ref a] ∧ SqL K H a (xs.map V.str) ∧ xs.length ≤ sizeLine ∧
  ∀ (ys : List Str) (p : Addr), ys.Perm xs → sortedS ys = true → H p = none → Q (.ref p) (upd H p (.lst (ys.map V.str)))
theorem cr_sortT : CallR X (.builtin "sorted") (rSortT X.K) := by
  intro pins s σ H vs us Q I r h
  obtain ⟨a, xs, rfl, hs, hl, q⟩ := h
  obtain ⟨its, rv, pl, _⟩ := I.list hs
  rw [Vals.ref1 r]
  have n0 := rv.length
  rw [List.length_map] at n0
  refine PyProof.Rows.sorted_strsAny pl.isList rv.strs (by rw [← n0]; exact hl) fun out ys h1 h2 h3 => ?_
  obtain ⟨ep, at'⟩ := PyProof.Rows.sortedAll_at s.heap its out
  have n1 : (ys.map V.str).length ≤ sizeLine := by rw [List.length_map, h2.length_eq]; exact hl
  refine ⟨.ref _, upd H (s.heap.objs.size + 1) (.lst (ys.map V.str)), ?_, rfl, q ys _ h2 h3 (I.hok.fresh (Nat.le_succ _))⟩
  exact I.laid (t' := s.toks) (fun _ _ => PyProof.Rows.sortedAll_old) (Nat.le_succ _) ⟨n1, out.toList, ep, vals_of_strs h1, at'⟩
end
end Ey
set_option maxHeartbeats 2000000
namespace Ey
open PySem PySem.Spec PyProof.Rows L2 GxR
/-! ### all(test of sign for sign in text), where the test reads a name of the module -/
/-- the test, in the generator's own frame: the module stands as it stood -/
def EltG (X : Cx) (sc : Scope) (x : Str) (elt : Expr) (pb : Nat → Bool) : Prop :=
  ∀ (ge : Env) (B : Around) (F' : Value → Shared → Prop) (c : Nat) (t : Tok) (z : Shared) (m : Str → Option Value), ge.scope = sc → ge.globals = X.env.globals →
    (∀ b o, X.base.get? b = some o → z.heap.get? b = some o) → z.heap.Ns ge.locals m → m x = some (.str ⟨#[c]⟩ t) →
    wpAny (model X.prog X.w) B (eval elt ge) (fun y z' => y = .bool (pb c) ∧ Keeps z z') F' z
section
variable {X : Cx} {pins : List (Addr × Obj)} {σ : L2.St} {H : Hp} {s : Shared}
theorem gen_glob {c P : Addr} {elt iter : Expr} {x : Str} {px gp : Pos} {sc : Scope} {pb : Nat → Bool} {te : TE} {k : Nat} {Q' : Value → Shared → Prop} {R : Str → Hp → Prop}
    (hr : Room k X.A) (TB : TabB X.base X.mg c P) (hco : X.env.code = .ref c) (S : GenS X.env sc x) (hi : PE X iter te) (hel : EltG X sc x elt pb)
    (hs : ∀ v, genFold iter X.env v = pure v) (I : Inv X pins σ H s) (h : te σ H fun v H1 => ∃ a : Str, v = .str a ∧ TabG H1 P ∧ R a H1)
    (hQ : ∀ a H1 g s5, R a H1 → Ready X pins σ H1 P a pb g s5 → Q' (.ref g) s5) :
    wpAny (model X.prog X.w) X.A (eval (.GeneratorExp elt [⟨.Name x px, iter, [], 0⟩] sc gp) X.env) Q' X.xe s := by
  refine wpAny_GeneratorExp_walksQ hr.hd S.co (closure_ok S.free) S.cell S.dot S.loc S.kind (Nat.lt_of_le_of_lt (by omega) hr.dp) ?_ hs
  refine thn (hi.run pins s σ H _ I h) fun xv sA ⟨v, H1, J, rv, q⟩ => ?_
  obtain ⟨a, rfl, ⟨ps, tP, tok⟩, q⟩ := q
  obtain ⟨t, rfl⟩ := _root_.id rv
  refine wpAny_pyIter_str fun ob St W start => ?_
  have gP : sA.heap.get? P = some { cls := .none, data := .fields ps } := J.hok P _ tP
  have ltP : P < sA.heap.objs.size := Heap.lt_size gP
  have gP2 : (sA.heap.push ob).get? P = some { cls := .none, data := .fields ps } := Heap.get?_push_of_some _ gP
  have head : PySem.W.CodeHd (sA.heap.push ob) c P := TB.code.keeps fun b u e => Heap.get?_push_of_some _ (J.bk b u e)
  have noL : (sA.heap.push ob).NoLimit := J.nolimit.push ob
  have go : ∀ (code : Value) (hN : Heap) (tk : Nat) (qs : Array Value), Heap.ExtBut P (sA.heap.push ob) hN → (sA.heap.push ob).objs.size ≤ hN.objs.size → hN.get? P = some { cls := .none, data := .fields qs } → (∃ more, qs = ps ++ more) → TriplesOk qs.toList →
      wpAny (model X.prog X.w) X.A (builtinsFor X.env.globals X.env.builtins) (fun bi sB =>
        ∃ Ia fp wr n₀ Pf St₀ pz F, Value.ref sA.heap.objs.size = .ref Ia ∧ (∀ B : Around, B.handled = none → Walks X.prog X.w B Ia fp wr n₀ Pf St₀) ∧ St₀ 0 sB.heap ∧ (∀ b ∈ fp, b < sB.heap.objs.size) ∧ sB.heap.NoLimit ∧ cStatics ∉ wr ∧
          (∀ hf : Heap, (∀ b o, sB.heap.get? b = some o → hf.get? b = some o) →
            QuietGen X.prog X.w (genEnv sc (cloFrom X.env.cells sc.names []) sB.heap.objs.size code bi X.env) x [] elt (List.range sB.heap.objs.size) wr Pf pz F hf) ∧
          (∀ g hG tg gs, gs.bare = true → sB.heap.objs.size < g → hG.objs.size = g + 1 → (∀ b o, sB.heap.get? b = some o → hG.get? b = some o) →
            WalksS X.prog X.w X.A.in4 g (g :: sB.heap.objs.size :: List.range sB.heap.objs.size) (sB.heap.objs.size :: wr) (GenOnlyQ sB.gens.size) (passing pz n₀ 0).length
              (fun j y => ∃ i, (passing pz n₀ 0)[j]? = some i ∧ F i y) (GenAt X.prog X.w X.A.in4 g sB.gens.size sB.heap.objs.size (List.range sB.heap.objs.size) wr pz n₀ F) →
            GenAt X.prog X.w X.A.in4 g sB.gens.size sB.heap.objs.size (List.range sB.heap.objs.size) wr pz n₀ F 0 { sB with gens := sB.gens.push gs, toks := tg, heap := hG } →
            Q' (.ref g) { sB with gens := sB.gens.push gs, toks := tg, heap := hG })) X.xe { sA with heap := hN, toks := tk } := by
    intro code hN tk qs ext hsz gPN more okN
    obtain ⟨bm, obm, e1, e2, e3, e4, e5, e6, e7, e8⟩ := TB.bm
    have ncP : cStatics ≠ P := fun e => by
      obtain ⟨_, ns, _⟩ := J.nolimit
      obtain ⟨o', es, ep, g', d', _⟩ := ns
      rw [e, gP] at g'
      cases g'
      cases d'
    have ltC : cStatics < sA.heap.objs.size := let ⟨_, ns, _⟩ := J.nolimit; ns.lt
    have szA : (sA.heap.push ob).objs.size = sA.heap.objs.size + 1 := Heap.size_push ..
    have stay : ∀ b u, b ≠ P → sA.heap.get? b = some u → hN.get? b = some u := fun b u nb e => ext b u nb (Heap.get?_push_of_some _ e)
    have old : ∀ b u, X.base.get? b = some u → hN.get? b = some u ∧ b < sA.heap.objs.size := fun b u e => by
      obtain ⟨e1, e2⟩ := J.bs b u e
      refine ⟨stay b u (fun z => ?_) e1, Heap.lt_size e1⟩
      rw [z, tP] at e2
      cases e2
    refine wpAny_builtinsFor (m := X.mg) (by rw [J.ok.glob]; exact ((J.mod.glob.keeps J.bk).push ob).extBut ext TB.gP) e1 e2 (stay _ _ e4 (J.bk _ _ e5)) e6 e7 e8 ?_
    refine ⟨sA.heap.objs.size, [sA.heap.objs.size], [sA.heap.objs.size], a.cps.size, SignAt a, St, (fun _ => true), (fun i y => ∃ cc, a.cps[i]? = some cc ∧ y = .bool (pb cc)), rfl, W, ?_, ?_, noL.extBut ext ncP, ?_, ?_, ?_⟩
    · refine (W X.A hr.hd).frame _ _ _ start fun b hb u e => ext b u (fun z => ?_) e
      have hb' : b = sA.heap.objs.size := List.mem_singleton.mp hb
      exact Nat.ne_of_lt ltP (z.symm.trans hb')
    · intro b hb
      have hb' : b = sA.heap.objs.size := List.mem_singleton.mp hb
      rw [hb']
      show sA.heap.objs.size < hN.objs.size
      omega
    · intro z
      have z' : cStatics = sA.heap.objs.size := List.mem_singleton.mp z
      exact Nat.ne_of_lt ltC z'
    · intro hf sub
      refine ⟨fun B F' i v z m hB hv hn hm hk => ?_, fun B F' i v z m hB hv hp hn hm hk => ?_⟩
      · simp only [List.forIn_nil]
        exact wpAny_pure ⟨rfl, keeps_refl _⟩
      · obtain ⟨cc, u, hcc, rfl⟩ := hv
        refine wpAny_mono (hel _ B F' cc u z m rfl rfl (fun b o e => ?_) hn hm) (fun y z' r => ⟨⟨cc, hcc, r.1⟩, r.2⟩) fun _ _ e => e
        obtain ⟨e1, e2⟩ := old b o e
        refine hk b (List.mem_range.mpr (Heap.lt_size e1)) (fun w => ?_) o (sub b o e1)
        have w' : b = sA.heap.objs.size := List.mem_singleton.mp w
        exact Nat.ne_of_lt e2 w'
    · intro g hG tg gs bare ltg szg keepg Wg atg
      simp only [GxR.passing_true, List.length_range] at Wg
      refine hQ a H1 g _ q ⟨_, _, _, _, _, Wg.in4_1, atg, ?_, fun s' mv => ?_⟩
      · intro j y sj Qj Ej hy hj
        obtain ⟨i, ij, cc, hcc, rfl⟩ := hy
        obtain ⟨lj, ej⟩ := List.getElem?_eq_some_iff.mp ij
        rw [List.getElem_range] at ej
        subst ej
        have sign : a.cps.toList[j]? = some cc := (Array.getElem?_toList).trans hcc
        have hj' : Qj (trF pb a.cps.toList j) sj := hj
        rw [trF_some sign] at hj'
        exact wpAny_truthy_bool hj'
      · obtain ⟨mo, em⟩ := more
        have nw : ∀ b u, sA.heap.get? b = some u → b ∉ hN.objs.size :: [sA.heap.objs.size] := fun b u e z => by
          have l := Heap.lt_size e
          rcases List.mem_cons.mp z with z | z
          · rw [z] at l
            have l2 : (hN.objs.size : Nat) < sA.heap.objs.size := l
            omega
          · exact Nat.ne_of_lt l (List.mem_singleton.mp z)
        have L := inv_tab (more := mo) (h' := s'.heap) (g' := s'.gens) (d' := s'.drawn) (t' := s'.toks) J tP (fun b u nb e => mv.heap b u (nw b u e) (keepg b u (stay b u nb e)))
          (by rw [← em]; exact mv.heap P _ (nw P _ gP) (keepg P _ gPN)) (AllBare.movedS (J.bare.push bare) mv)
        rw [sh_eta sA s' mv.os] at L
        refine ⟨upd H1 P (.tbl (ps ++ mo)), ⟨⟨ps ++ mo, upd_same, ?_⟩, fun b nb => upd_ne nb⟩, L⟩
        rw [← em]
        exact okN
  refine ⟨noL, ?_⟩
  cases am : codeAmong gp ps.toList with
  | none =>
    refine wpAny_genexprCodeX hco (head.code gP2 tok) (head.tab gP2) am fun c' hN tk ext hge hlt hc' _ tab' _ => ?_
    obtain ⟨o1, vs, f1, tf, fl, tg, inF, tx, tt, op, _, _, _, _, _, _, _, _, _, tr, _⟩ := hc'
    exact go _ hN tk _ ext (Nat.le_trans hge (Nat.le_of_lt hlt)) tab'.2 ⟨_, rfl⟩ tr
  | some cv =>
    refine wpAny_genexprCode_hit hco (head.code gP2 tok) am ?_
    exact go cv (sA.heap.push ob) sA.toks ps (Heap.ExtBut.refl _ _) (Nat.le_refl _) gP2 ⟨#[], by simp⟩ tok
theorem pe_allG {c P : Addr} {elt iter : Expr} {x : Str} {px p pos gp : Pos} {sc : Scope} {pb : Nat → Bool} {te : TE} {k : Nat}
    (hr : Room k X.A) (hg : Gl X "all") (hm : X.mg "all" = none) (hb : bootBuiltins "all" = some (.builtin "all")) (TB : TabB X.base X.mg c P) (hco : X.env.code = .ref c) (S : GenS X.env sc x) (hi : PE X iter te) (hel : EltG X sc x elt pb)
    (hs : ∀ v, genFold iter X.env v = pure v)
    (he : starEach [.GeneratorExp elt [⟨.Name x px, iter, [], 0⟩] sc gp] X.env = (false, eval (.GeneratorExp elt [⟨.Name x px, iter, [], 0⟩] sc gp) X.env) :: starEach [] X.env := by rfl) :
    PE X (.Call (.Name "all" p) [.GeneratorExp elt [⟨.Name x px, iter, [], 0⟩] sc gp] [] pos) (tAllS P pb te) := by
  refine ⟨fun pins s σ H Q I h => wpAny_Call_Name_kw (ld_blt I hg hm hb ?_)⟩
  refine PyProof.Rows.callWith_builtin1 ?_ he (by rfl)
  rw [he]
  show wpAny _ _ (spliced ((false, eval (.GeneratorExp elt [⟨.Name x px, iter, [], 0⟩] sc gp) X.env) :: backTo pos (starEach [] X.env))) _ _ s
  refine Calls.spliced_cons (gen_glob (R := fun a H1 => ∀ H2, Tabbed P H1 H2 → Q (.bl (a.cps.toList.all pb)) H2) hr TB hco S hi hel hs I h fun a H1 g s5 hR rdy => ?_)
  obtain ⟨fp, wr, G, F, St, W, st0, tru, inv⟩ := rdy
  refine Calls.spliced_nil (call_all_walkS (W.self 0 _ _ _ st0 ⟨g, fp, wr, G, _, F, St, _, rfl, W, st0, tru, fun s' mv => ?_⟩))
  obtain ⟨H2, hT, L⟩ := inv s' mv
  refine ⟨.bl _, H2, L, rfl, ?_⟩
  rw [all_signs a pb]
  exact hR H2 hT
/-- sign in NAME, NAME a text of the module -/
theorem elt_inG {sc : Scope} {x y : Str} {T : Str} {p1 p2 p3 : Pos} {tk : Tok} (hk : sc.kind = .function) (hl : sc.names.lookup x = some .local) (hy : sc.names.lookup y = some .globalImplicit) (hG : X.env.globals = mainGlobals) (M : X.base.Ns mainGlobals X.mg) (hm : X.mg y = some (.str T tk))
    (hd : (x == ("__debug__" : Str)) = false := by decide) (hd2 : (y == ("__debug__" : Str)) = false := by decide) :
    EltG X sc x (.Compare (.Name x p1) [.In] [.Name y p2] p3) (fun c => decide (c ∈ T.cps.toList)) := by
  intro ge B F' c t z m h1 h2 h3 h4 h5
  have k1 : ge.scope.kind = .function := by rw [h1]; exact hk
  refine wpAny_Compare1 (wpAny_Name (wpAny_loadName_local k1 (show ge.scope.names.lookup x = some .local by rw [h1]; exact hl) h4 h5 ?_) hd)
  refine Calls.Name_function_global k1 (show ge.scope.names.lookup y = some .globalImplicit by rw [h1]; exact hy) (Calls.loadGlobal_global (by rw [h2, hG]; exact M.keeps h3) hm ?_) hd2
  refine PyProof.Rows.in_str ?_
  refine ⟨congrArg Value.bool ?_, keeps_refl _⟩
  exact PySem.StrLaws.found_one T c
end
end Ey
set_option maxHeartbeats 2000000
namespace Ey
open PySem PySem.Spec PyProof.Rows L2 GxR
/-! ### a law's own call: nothing is under way around it, so that repr is told of data -/
def LawOk (P : Program) (w : World) (K : PySem.W.Frag) (mg : Str → Option Value) (base : Heap) (f : Addr) (fd : FuncData) (x : Str) (sp : Sp) : Prop :=
  ∀ (s : Shared) (H : Hp) (u : Value) (v : V) (Q : VK), Env0 P w K mg base callerA [] s H → BindsTo s fd ⟨[u], []⟩ [(x, u)] → RelV v u → sp [v] H Q E0 →
    codeAny (model P w) callerA (.call (.ref f) ⟨[u], []⟩) (CR CX0 [] P w H s Q E0) s
section
variable {P : Program} {w : World} {K : PySem.W.Frag} {mg : Str → Option Value} {base : Heap}
theorem law_ok {x qual p : Str} {st : Stmt} {f : Addr} {fd : FuncData} {N : List Str} {k : Nat} {sp : Sp} (F : Fun K x qual st f fd) (S : FnScope N [p] (defScope st)) (hr : Room (k + 1) callerA)
    (body : ∀ (cdv : Value) (s : Shared) (H : Hp) (v : V) (Q : VK), Room k (callerA.deeper (envOfC qual (defScope st) s.heap.objs.size f cdv)) → sp [v] H Q E0 →
      ∃ t, PSs (cxOf CX0 P w K mg base N qual (defScope st) f cdv callerA [] s H E0).nox (defBody st) t ∧ t { nx := fun _ H' => Q .non H', rt := Q } (start N [v]) H) :
    LawOk P w K mg base f fd p sp := by
  obtain ⟨oc, od, kV, doc, pm, an, cdv, ct, osl, rfl, lk, code⟩ := F.ex
  intro s H u v Q e0 hb rv hsp
  have inK : K.In s.heap := e0.mod.kin.keeps fun b o e => (e0.bs b o e).1
  have noL : s.heap.NoLimit := e0.mod.nolimit.keeps fun b o e => (e0.bs b o e).1
  have kinds : ∀ y ∈ [p].zip [u], (defScope st).names.lookup y.1 = some .local ∨ ((defScope st).names.lookup y.1 = some .cell ∧ ((cellsFrom (s.heap.objs.size + 1) (defScope st).names []).lookup y.1).isSome = true) := fun ⟨n, z⟩ hy => by
    rcases S.par n (List.of_mem_zip hy).1 with q | q
    · exact .inl q
    · exact .inr ⟨q, PySem.W.cellsFrom_some _ _ _ (.inl q)⟩
  refine codeAny_call_function (Nat.lt_of_le_of_lt (by omega) hr.dp) (inK _ _ lk) rfl S.co S.gen rfl (PySem.W.codeRec_of inK code) (hb _ _ _ _ ?_)
  refine wpAny_newFunctionEnv_cells (binds := [p].zip [u]) S.kind kinds fun env he s1 xc => ?_
  subst he
  refine ⟨noL.keeps xc.toInCall.keep, codeAny_func ?_⟩
  obtain ⟨t, dv, rd⟩ := body cdv s H v Q (hr.deeper _) hsp
  have I := inv_start (CX := CX0) (E := E0) (P := P) (w := w) (K := K) (mg := mg) (base := base) (N := N) (ps := [p]) (A := callerA) (vs := [v]) (us := [u]) S rfl e0 rfl (.cons rv .nil) xc
  refine wpAny_mono (dv.nox.run [] s1 (start N [v]) H _ I rd) (fun fl s' hs => ?_) fun e s' hs => hs
  cases fl with
  | next =>
    obtain ⟨σ', H', J, q⟩ := hs
    exact ⟨V.non, H', J.os, J.bare, J.base, J.hok, rfl, q⟩
  | ret z =>
    obtain ⟨y, σ', H', J, ry, q⟩ := hs
    exact ⟨y, H', J.os, J.bare, J.base, J.hok, ry, q⟩
  | brk =>
    obtain ⟨_, _, _, q⟩ := hs
    exact q.elim
  | cont =>
    obtain ⟨_, _, _, q⟩ := hs
    exact q.elim
end
end Ey
set_option maxHeartbeats 2000000
namespace Ey
open PySem PySem.Spec PyProof.Rows L2 GxR
/-- the tables cs stand empty in h, outside the written part -/
structure Tabs (K : PySem.W.Frag) (h : Heap) (cs : List (Addr × Addr)) : Prop where
  at_ : ∀ p ∈ cs, h.get? p.2 = some { cls := .none, data := .fields #[] }
  out : ∀ p ∈ cs, K.lookup p.2 = none
  hd : ∀ p ∈ cs, PySem.W.CodeHd h p.1 p.2
/-- what a heap says of the module's own builtins -/
def BMain (mg : Str → Option Value) (h : Heap) : Prop :=
  ∃ (bm : Addr) (ob : Obj), mg "__builtins__" = some (.ref bm) ∧ bm ≠ builtinsNs ∧ h.get? bm = some ob ∧ ob.cls = .type "module" ∧ ob.dict = some builtinsNs ∧ ob.data = .plain
section
variable {P : Program} {w : World} {K : PySem.W.Frag} {mg mb : Str → Option Value}
/-- the script at a, the tables cs: what is tracked ahead of the law -/
def start0 (K : PySem.W.Frag) (a : Addr) (o : Obj) (ns : List Int) (cs : List (Addr × Addr)) : Hp := fun b =>
  if b ∈ cs.map (·.2) then some (.tbl #[]) else if b = a ∧ K.lookup a = none then some (.frz o (.lst (ns.map V.int))) else none
theorem call_law {f a : Addr} {cs : List (Addr × Addr)} {fd : FuncData} {x : Str} {sp : Sp} {z : Shared} {vs : List Value} {ns : List Int}
    (KX : K.In z.heap) (hns : z.heap.Ns mainGlobals mg) (hb : z.heap.Ns builtinsNs mb) (hbb : ∀ x : Str, x ≠ "__name__" → mb x = bootBuiltins x) (lim : z.heap.NoLimit) (hsm : ∃ mm, z.heap.Ns sysModules mm) (hg : z.gens = #[])
    (T : Tabs K z.heap cs) (hbm : BMain mg z.heap) (ha : z.heap.get? a = some { cls := .type "list", data := .seq vs.toArray }) (hi : IntsAre vs ns) (hl : ns.length ≤ sizeLine)
    (F : ∀ base : Heap, K.In base → base.Ns mainGlobals mg → (∀ p ∈ cs, TabB base mg p.1 p.2) → (∃ mm, base.Ns sysModules mm) → LawOk P w K mg base f fd x sp) (hbind : ∀ (s : Shared) (u : Value), BindsTo s fd ⟨[u], []⟩ [(x, u)])
    (hsp : ∀ H : Hp, (∀ p ∈ cs, H p.2 = some (.tbl #[])) → SqL K H a (ns.map V.int) → sp [.ref a] H (fun v _ => v = .bl true) E0) :
    codeAny (model P w) callerA (.call (.ref f) ⟨[.ref a], []⟩) (fun r s' => r = .ok (.ret (.bool true)) ∧ OldK z.heap s'.heap ∧ s'.os = z.os ∧ AllBare s'.gens) z := by
  have rv := vals_ints hi
  have nV : vs.length = ns.length := hi.length
  have tabAt : ∀ b : Addr, b ∈ cs.map (·.2) → z.heap.get? b = some { cls := .none, data := .fields #[] } ∧ K.lookup b = none := fun b m => by
    obtain ⟨p, hp, rfl⟩ := List.mem_map.mp m
    exact ⟨T.at_ p hp, T.out p hp⟩
  have aT : a ∉ cs.map (·.2) := fun m => by
    have e := (tabAt a m).1
    rw [ha] at e
    injection e with e
    have e' : Data.seq vs.toArray _ = Data.fields #[] := congrArg Obj.data e
    cases e'
  let H : Hp := start0 K a { cls := .type "list", data := .seq vs.toArray } ns cs
  have HT : ∀ p ∈ cs, H p.2 = some (.tbl #[]) := fun p hp => if_pos (List.mem_map.mpr ⟨p, hp, rfl⟩)
  have Hcase : ∀ b, H b = none ∨ (b ∈ cs.map (·.2) ∧ H b = some (.tbl #[])) ∨ (b = a ∧ K.lookup a = none ∧ H b = some (.frz { cls := .type "list", data := .seq vs.toArray } (.lst (ns.map V.int)))) := fun b => by
    by_cases h1 : b ∈ cs.map (·.2)
    · exact .inr (.inl ⟨h1, if_pos h1⟩)
    · by_cases h2 : b = a ∧ K.lookup a = none
      · exact .inr (.inr ⟨h2.1, h2.2, (if_neg h1).trans (if_pos h2)⟩)
      · exact .inl ((if_neg h1).trans (if_neg h2))
  have HS : SqL K H a (ns.map V.int) := by
    cases hk : K.lookup a with
    | some o =>
      have e := KX a o hk
      rw [ha] at e
      injection e with e
      subst e
      exact .inr ⟨_, vs.toArray, _, hk, rfl, rfl, rfl, by rw [List.size_toArray, nV]; exact hl, by simpa using rv⟩
    | none => exact .inl (.inr ⟨_, (if_neg aT).trans (if_pos ⟨rfl, hk⟩)⟩)
  have HO : HOk P w H z.heap := fun b u e => by
    rcases Hcase b with q | ⟨m, q⟩ | ⟨m, _, q⟩
    · rw [q] at e
      cases e
    · rw [q] at e
      cases e
      exact (tabAt b m).1
    · rw [q] at e
      cases e
      subst m
      exact ⟨ha, by rw [List.length_map]; exact hl, vs, _, rv, ha⟩
  -- what is neither the script nor a table stands in the base
  have inB : ∀ {b : Addr} {o : Obj}, z.heap.get? b = some o → (∀ xs n, o.data ≠ .seq xs n) → o.data ≠ .fields #[] → (hidT z.heap H).get? b = some o := fun {b o} e h1 h2 => by
    refine hidT_get e ?_
    rcases Hcase b with q | ⟨m, q⟩ | ⟨m, _, q⟩
    · exact q
    · rw [(tabAt b m).1] at e
      injection e with e
      subst e
      exact absurd rfl h2
    · subst m
      rw [ha] at e
      injection e with e
      subst e
      exact absurd rfl (h1 _ _)
  have nsB : ∀ {b : Addr} {m : Str → Option Value}, z.heap.Ns b m → (hidT z.heap H).Ns b m := fun {b m} ⟨o, es, ep, e, d, r⟩ =>
    ⟨o, es, ep, inB e (fun xs n q => by rw [d] at q; cases q) (fun q => by rw [d] at q; cases q), d, r⟩
  have KB : K.In (hidT z.heap H) := fun b o e => by
    refine hidT_get (KX b o e) ?_
    rcases Hcase b with q | ⟨m, q⟩ | ⟨m, n, q⟩
    · exact q
    · rw [(tabAt b m).2] at e
      cases e
    · subst m
      rw [n] at e
      cases e
  have M : L2.Mod K mg (hidT z.heap H) := ⟨KB, nsB hns, ⟨mb, nsB hb, hbb⟩, let ⟨mc, h1, h2⟩ := lim; ⟨mc, nsB h1, h2⟩⟩
  have TB : ∀ p ∈ cs, TabB (hidT z.heap H) mg p.1 p.2 := fun p hp => by
    have pT := T.at_ p hp
    refine ⟨?_, ?_, fun q => ?_⟩
    · obtain ⟨o, us, fi, tf, fl, tg, nf, tx, tt, e1, r1, r2, r3, rest⟩ := T.hd p hp
      refine ⟨o, us, fi, tf, fl, tg, nf, tx, tt, inB e1 (fun xs n q => ?_) (fun q => ?_), r1, r2, r3, rest⟩
      · rw [r2] at q
        cases q
      · rw [r2] at q
        cases q
        simp at r3
    · obtain ⟨bm, ob, b1, b2, b3, b4, b5, b6⟩ := hbm
      refine ⟨bm, ob, b1, b2, fun q => ?_, fun q => ?_, inB b3 (fun xs n q => ?_) (fun q => ?_), b4, b5, b6⟩
      · obtain ⟨o, es, ep, e, d, _⟩ := hns
        rw [q, e] at b3
        injection b3 with b3
        subst b3
        rw [d] at b6
        cases b6
      · rw [q, pT] at b3
        injection b3 with b3
        subst b3
        cases b6
      · rw [b6] at q
        cases q
      · rw [b6] at q
        cases q
    · obtain ⟨o, es, ep, e, d, _⟩ := hns
      rw [q, pT] at e
      injection e with e
      subst e
      cases d
  have e0 : Env0 P w K mg (hidT z.heap H) callerA [] z H := ⟨rfl, M, fun b o e => of_hidT e, Nat.le_of_eq (hidT_size _ _), trivial, fun b m => absurd m List.not_mem_nil, HO, .of_eq hg⟩
  refine codeAny_mono (F _ KB (nsB hns) TB (let ⟨mm, q⟩ := hsm; ⟨mm, nsB q⟩) z H (.ref a) (.ref a) _ e0 (hbind z _) rfl (hsp H HT HS)) fun r s' h => ?_
  cases r with
  | error e => exact h.elim
  | ok fl =>
    cases fl with
    | next => exact h.elim
    | brk => exact h.elim
    | cont => exact h.elim
    | ret u =>
      obtain ⟨v, H', os, bare, un, ok', r', q⟩ := h
      have q' : v = .bl true := q
      subst q'
      obtain rfl : u = Value.bool true := r'
      have keep : ∀ b o, b ∉ cs.map (·.2) → z.heap.get? b = some o → s'.heap.get? b = some o := fun b o nb e => by
        rcases Hcase b with q | ⟨m, q⟩ | ⟨m, _, q⟩
        · exact un.keep b o e q List.not_mem_nil List.not_mem_nil
        · exact absurd m nb
        · have e1 := (HO b _ q).1
          rw [e] at e1
          injection e1 with e1
          subst e1
          exact (ok' b _ (un.frzs b _ _ q)).1
      have grown : ∀ b, b ∈ cs.map (·.2) → ∃ more : Array Value, s'.heap.get? b = some { cls := .none, data := .fields more } := fun b m => by
        obtain ⟨p, hp, rfl⟩ := List.mem_map.mp m
        obtain ⟨more, q⟩ := un.tbls p.2 #[] (HT p hp)
        exact ⟨_, ok' p.2 _ q⟩
      refine ⟨rfl, ⟨fun b o e => ?_, fun b o e => ?_⟩, os, bare⟩
      · by_cases m : b ∈ cs.map (·.2)
        · obtain ⟨more, g⟩ := grown b m
          obtain ⟨p, hp, rfl⟩ := List.mem_map.mp m
          rw [T.at_ p hp] at e
          injection e with e
          subst e
          exact .inr (.inl ⟨((T.hd p hp).tab (T.at_ p hp)).isCodeTable, rfl, #[], more, rfl, by rw [Array.empty_append]; exact g⟩)
        · exact .inl (keep b o m e)
      · by_cases m : b ∈ cs.map (·.2)
        · obtain ⟨more, g⟩ := grown b m
          exact ⟨_, g⟩
        · exact ⟨o, keep b o m e⟩
end
/-- the goal that k_head leaves, from the law's promise at any base -/
theorem walk_law {l : PySem.W.OpenLaw} {n : Nat} {q : Program} {loose : List Str} {XP : (Str → Option Value) → Heap → Prop} {YP : World → Heap → Prop} {d : DefRec} {K : Params → PySem.W.Frag} {x : Str}
    (hi0 : PyProof.Rows.importsNone q = true) (hn : l.most = some n) (hn2 : n ≤ sizeLine) (hdf : d.params.defaults = []) (hY : ∀ (w : World) (h : Heap), YP w h → (K w.params).In h)
    (F : ∀ (w : World) (mg : Str → Option Value) (f : Addr) (h : Heap) (lo : List Str) (mean : ExcName → Option Value) (mb : Str → Option Value), (K w.params).In h → PyProof.Rows.Top q lo mean mg mb h → mg d.name = some (.ref f) →
      ∃ (fd : FuncData) (cs : List (Addr × Addr)) (sp : Sp), Tabs (K w.params) h cs ∧ (∀ (s : Shared) (u : Value), BindsTo s fd ⟨[u], []⟩ [(x, u)]) ∧
        (∀ (H : Hp) (a : Addr) (ns : List Int), ns.length ≤ n → (∀ p ∈ cs, H p.2 = some (.tbl #[])) → SqL (K w.params) H a (ns.map V.int) → sp [.ref a] H (fun v _ => v = .bl true) E0) ∧
        ∀ base : Heap, (K w.params).In base → base.Ns mainGlobals mg → (∀ p ∈ cs, TabB base mg p.1 p.2) → (∃ mm, base.Ns sysModules mm) → LawOk l.prog w (K w.params) mg base f fd x sp) :
    PySem.W.WalkO q loose XP YP l.row.toRowW d [] (fun f vs => PySem.call f vs) := by
  refine Att.attach_call hn hdf fun w s₀ z mg mb f o pm cd doc a vs ns G Y ho hd hcd hmg hobj hi hlen hg => ?_
  obtain ⟨fd, cs, sp, T, hb, hsp, hF⟩ := F w mg f _ _ _ _ (hY w _ Y) G.T hmg
  exact call_law (hY w _ Y) G.T.g G.T.b G.T.builtins G.T.nolimit (let ⟨mm, q, _⟩ := (G.T.seer hi0).mods; ⟨mm, q⟩) hg T G.T.bmain hobj hi (Nat.le_trans hlen hn2) hF hb fun H h1 h2 => hsp H a ns hlen h1 h2
end Ey
set_option maxHeartbeats 2000000
namespace PySem.W
open PySem PySem.Calls PyProof.Rows PyProof.V PySem.Spec Builtin
section
variable {prog : Program} {w : World} {A : Around} {E : Value → Shared → Prop} {s : Shared} {T : String} {r d : Addr} {n : Nat} {P : Nat → Value → Prop} {OK : Heap → Prop}
/-- what a source yields, collected -/
theorem ey_collect {Q : List Value → Shared → Prop} (K : KdlSrc prog w T r d n P OK) (hh : A.handled = none) (hok : OK s.heap) (hn : n ≤ sizeLine)
    (hQ : ∀ h' tk (acc : Array Value), (∀ b o, s.heap.get? b = some o → h'.get? b = some o) → ItemsOf P acc n → Q acc.toList { s with heap := h', toks := tk }) :
    wpAny (model prog w) A (collect (.ref r)) Q E s := by
  unfold collect
  refine wpAny_bind (wpAny_runValue (codeAny_builtin PySem.F.entry_proto_collect ?_))
  rw [Around.under_plainId PySem.F.plain_proto_collect _]
  show wpAny _ A.in1 (newList [] >>= fun l => again (.builtin "list.__iadd__" ⟨[l, .ref r], []⟩)) _ _ s
  refine wpAny_bind (wpAny_newObj_type (wpAny_pure ⟨plainId_quiet PySem.F.plain_list_iadd _, codeAny_builtin PySem.F.entry_list_iadd ?_⟩))
  rw [Around.under_plainId PySem.F.plain_list_iadd _]
  show wpAny _ A.in1 (Builtin.List.listExtendWith (.ref s.heap.objs.size) (.ref r) (.ref s.heap.objs.size)) _ _ _
  have at0 : (s.heap.push { cls := .type "list", data := .seq ([] : List Value).toArray }).get? s.heap.objs.size = some { cls := .type "list", data := .seq #[] 0 } := Heap.get?_push_size _ rfl
  have lt := K.there _ hok
  have ok1 : OK (s.heap.push { cls := .type "list", data := .seq ([] : List Value).toArray }) := K.keep _ _ hok fun b _ o e => Heap.get?_push_of_some _ e
  have fin : ∀ (h' : Heap) (tk : Nat) (acc : Array Value) (c : Nat), (∀ b o, s.heap.get? b = some o → h'.get? b = some o) → h'.get? s.heap.objs.size = some { cls := .type "list", dict := none, data := .seq acc c, slots := #[] } → ItemsOf P acc n →
      wpAny (model prog w) A (match Value.ref s.heap.objs.size with
      | Value.ref a => do
        match (← load a).data with
          | Data.seq xs _ => pure xs.toList
          | _ => unsupported "internal:collect"
      | _ => unsupported "internal:collect") Q E { s with heap := h', toks := tk } := fun h' tk acc c hk at1 it => by
    show wpAny _ A (load s.heap.objs.size >>= _) _ _ _
    exact wpAny_bind (wpAny_load at1 (wpAny_pure (hQ h' tk acc hk it)))
  refine wpAny_mono (kdl_extend (A := A) (s := { s with heap := s.heap.push { cls := .type "list", data := .seq ([] : List Value).toArray } })
    (R := fun q s' => q = .ok (.ret (.ref s.heap.objs.size)) ∧ ∃ (h' : Heap) (tk : Nat) (acc : Array Value) (c : Nat), s' = { s with heap := h', toks := tk } ∧ (∀ b o, s.heap.get? b = some o → h'.get? b = some o) ∧ h'.get? s.heap.objs.size = some { cls := .type "list", dict := none, data := .seq acc c, slots := #[] } ∧ ItemsOf P acc n)
    K hh ok1 s.heap.objs.size (Nat.ne_of_gt lt.1) (Nat.ne_of_gt lt.2) (.ref s.heap.objs.size) 0 at0 (fun h' tk acc c hk at1 it => ⟨rfl, h', tk, acc, c, rfl, fun b o e => hk b o (Nat.ne_of_lt (Heap.lt_size e)) (Heap.get?_push_of_some _ e), at1, it⟩) hn) (fun q s' h => ?_) (fun e s' h => ?_)
  · cases q with
    | done f =>
      obtain ⟨e, h', tk, acc, c, rfl, hk, at1, it⟩ := h
      cases e
      exact fin h' tk acc c hk at1 it
    | again c' =>
      refine ⟨h.1, codeAny_mono h.2 fun q s2 hq => ?_⟩
      obtain ⟨rfl, h', tk, acc, c, rfl, hk, at1, it⟩ := hq
      exact fin h' tk acc c hk at1 it
  · exact absurd h.1 (by simp)
/-- tuple(of it) -/
theorem ey_tuple_new {Q₁ : Value → Shared → Prop} (K : KdlSrc prog w "dict" r d n P OK) (hh : A.handled = none) (hok : OK s.heap) (hn : n ≤ sizeLine)
    (h : ∀ (h' : Heap) (tk : Nat) (acc : Array Value), (∀ b o, s.heap.get? b = some o → h'.get? b = some o) → ItemsOf P acc n → Q₁ (.ref h'.objs.size) { s with heap := h'.push { cls := .type "tuple", data := .seq acc }, toks := tk }) :
    codeAny (model prog w) A (.call (.builtin "tuple.__new__") ⟨[.type "tuple", .ref r], []⟩) (wants Q₁ E) s := by
  refine codeAny_of_tree ?_
  show wpAny _ A.in1 (do checkBuiltinCall "tuple.__new__" ⟨[.type "tuple", .ref r], []⟩; again (.builtin "tuple.__new__" ⟨[.type "tuple", .ref r], []⟩)) _ _ s
  refine wpAny_bind (wpAny_of_eq (PySem.F.newCall_tuple_1 _) (wpAny_pure ⟨plainId_quiet PySem.F.plain_tuple_new _, codeAny_builtin PySem.F.entry_tuple_new ?_⟩))
  rw [Around.under_plainId PySem.F.plain_tuple_new _]
  have sub1 := sub_tuple_self
  have init1 := init_tuple_lookup
  have made1 := madeHere_tuple
  have ty1 := K.type s hok
  wp_walk using wpAny_typeOf ty1, ey_collect (A := A.in1) K hh hok hn
  intro h' tk acc hk it
  show wpAny _ _ (Builtin.Tuple.tupleExact acc.toList.toArray >>= fun v => ret v) _ _ _
  unfold Builtin.Tuple.tupleExact
  refine wpAny_bind (wpAny_newObj_type ?_ (by show acc.toList.toArray.size ≤ sizeLine; rw [Array.toArray_toList, it.1]; exact hn))
  refine wpAny_pure ?_
  rw [Array.toArray_toList]
  exact h h' tk acc hk it
theorem ey_tuple {Q : Value → Shared → Prop} (K : KdlSrc prog w "dict" r d n P OK) (hh : A.handled = none) (hok : OK s.heap) (hn : n ≤ sizeLine)
    (h : ∀ (h' : Heap) (tk : Nat) (acc : Array Value), (∀ b o, s.heap.get? b = some o → h'.get? b = some o) → ItemsOf P acc n → Q (.ref h'.objs.size) { s with heap := h'.push { cls := .type "tuple", data := .seq acc }, toks := tk }) :
    wpAny (model prog w) A (call (.type "tuple") [.ref r]) Q E s := by
  refine callType_codes (Q₁ := fun o z => z.TypeIs o "tuple" ∧ Q o z) PySem.F.called_tuple (PySem.F.typeCall_tuple_1 _) PySem.F.entry_object_init
    (ey_tuple_new (A := A.in1) K hh hok hn fun h' tk acc hk it => ⟨⟨_, Heap.get?_push_size _ rfl, rfl⟩, h h' tk acc hk it⟩) fun o z hz => ?_
  exact ⟨hz.1, PySem.F.args_object_init_2 o _, object_init_meets PySem.F.called_tuple.init.lookup PySem.F.called_tuple.made (by decide) prog w A.in1 _ z ⟨hz.1, rfl, hz.2⟩⟩
end
end PySem.W
namespace Ey
open PySem PySem.Spec PyProof.Rows L2
/-- tuple(d), d a dict: its keys -/
def rTupD : List V → Hp → VK → Prop := fun xs H Q => ∃ p kvs, xs = [.ref p] ∧ H p = some (.dK kvs) ∧ ∀ q, H q = none → Q (.ref q) (upd H q (.tup (kvs.map fun kv => kV kv.1)))
theorem call_tupD {X : Cx} (hc : X.calm = true) : CallR X (.type "tuple") rTupD := by
  intro pins s σ H xs us Q I r h
  obtain ⟨p, kvs, rfl, hk, q⟩ := h
  obtain ⟨u, rfl, rx⟩ := vals1 r
  obtain rfl : u = Value.ref p := rx
  obtain ⟨z, lo, vs, rk, hd⟩ := (show ObjOk X.prog X.w H s.heap p (.dK kvs) from I.hok p _ hk)
  obtain ⟨ep, at0⟩ := hd.dictAt
  have nl : kvs.length = vs.length := Paired.length rk
  refine PySem.W.ey_tuple (PySem.W.kdl_dict (knd := mixKind X.prog X.w) (kvs := vs) (ep := ep) lo) (I.ok.hd hc) at0 (by rw [← nl]; exact z) fun h' tk acc keep it => ?_
  have I1 : Inv X pins σ H { s with heap := h', toks := tk } := I.kept keep
  refine ⟨.ref h'.objs.size, upd H h'.objs.size (.tup (kvs.map fun kv => kV kv.1)), I1.laid (t' := tk) (fun b o e => Heap.get?_push_of_some _ e) (Nat.le_refl _) (show ObjOk X.prog X.w _ _ _ (.tup _) from ⟨?_, acc.toList, ?_, ?_⟩), rfl, q _ (I1.hok.fresh (Nat.le_refl _))⟩
  · rw [List.length_map]
    exact z
  · have nA : acc.toList.length = acc.size := by simp
    refine vals_of_at (by rw [List.length_map, nA, it.1, nl]) fun j x v h1 h2 => ?_
    obtain ⟨k, y, e, ki⟩ := it.2 j v (by rw [← Array.getElem?_toList]; exact h2)
    have e1 : (kvs.map (·.1))[j]? = some k := by
      rw [KV.keys rk, List.getElem?_map, e]
      rfl
    rw [List.getElem?_map] at h1 e1
    cases g : kvs[j]? with
    | none =>
      rw [g] at e1
      cases e1
    | some kv =>
      rw [g] at e1 h1
      injection e1 with e1
      injection h1 with h1
      have e2 : kv.1 = k := e1
      rw [← h1]
      show L2.RelV (kV kv.1) v
      rw [e2]
      exact keyIs_rel ki
  · have := IsTup.new h' acc
    rw [Array.toArray_toList]
    exact this
end Ey
/-! Trees, places: the mathematics. -/
namespace Ey
open PySem PySem.Spec PyProof.Rows
/-! ### texts as lists of signs -/
def st (p : List Nat) : Str := ⟨p.toArray⟩
theorem st_inj {p q : List Nat} (h : st p = st q) : p = q := by
  have h2 : p.toArray = q.toArray := congrArg Str.cps h
  simpa using h2
theorem st_app (p q : List Nat) : st p ++ st q = st (p ++ q) := by
  show (⟨p.toArray ++ q.toArray⟩ : Str) = ⟨(p ++ q).toArray⟩
  rw [List.append_toArray]
theorem st_len (p : List Nat) : (st p).length = p.length := rfl
theorem st_list (p : List Nat) : (st p).cps.toList = p := rfl
theorem st_of (x : Str) : x = st x.cps.toList := by
  cases x
  rfl
theorem st_ne {p q : List Nat} (h : p ≠ q) : st p ≠ st q := fun e => h (st_inj e)
/-! ### trees -/
inductive Tr where
  | nil
  | nd (tag : Str) (l r : Tr)
def abc : List Nat := [97, 98, 99, 100, 101, 102, 103, 104, 105, 106, 107, 108, 109, 110, 111, 112, 113, 114, 115, 116, 117, 118, 119, 120, 121, 122]
def isTag (x : Str) : Bool := decide (1 ≤ x.length) && decide (x.length ≤ 8) && x.cps.toList.all fun c => decide (c ∈ abc)
def Tr.ok : Tr → Prop
  | .nil => True
  | .nd g l r => isTag g = true ∧ l.ok ∧ r.ok
def Tr.sz : Tr → Nat
  | .nil => 0
  | .nd _ l r => l.sz + r.sz + 1
def Tr.ht : Tr → Nat
  | .nil => 0
  | .nd _ l r => max l.ht r.ht + 1
def Tr.full : Tr → Bool
  | .nil => false
  | .nd _ _ _ => true
def pl : Tr → List (List Nat)
  | .nil => [[]]
  | .nd _ l r => [] :: ((pl l).map (108 :: ·) ++ (pl r).map (114 :: ·))
def pt : Tr → List Nat → Tr
  | t, [] => t
  | .nil, _ :: _ => .nil
  | .nd _ l r, c :: p => if c = 108 then pt l p else pt r p
def isP : Tr → List Nat → Bool
  | _, [] => true
  | .nil, _ :: _ => false
  | .nd _ l r, c :: p => if c = 108 then isP l p else if c = 114 then isP r p else false
theorem pt_nil (t : Tr) : pt t [] = t := by cases t <;> rfl
theorem isP_nil (t : Tr) : isP t [] = true := by cases t <;> rfl
theorem isP_iff : ∀ (t : Tr) (p : List Nat), isP t p = true ↔ p ∈ pl t
  | .nil, [] => by simp [pl, isP]
  | .nil, c :: p => by simp [pl, isP]
  | .nd g l r, [] => by simp [pl, isP]
  | .nd g l r, c :: p => by
    have il := isP_iff l p
    have ir := isP_iff r p
    have e : (c :: p) ∈ pl (.nd g l r) ↔ (c = 108 ∧ p ∈ pl l) ∨ (c = 114 ∧ p ∈ pl r) := by
      simp only [pl, List.mem_cons, List.mem_append, List.mem_map, reduceCtorEq, false_or]
      constructor
      · rintro (⟨q, hq, e⟩ | ⟨q, hq, e⟩)
        · cases e
          exact .inl ⟨rfl, hq⟩
        · cases e
          exact .inr ⟨rfl, hq⟩
      · rintro (⟨rfl, h⟩ | ⟨rfl, h⟩)
        · exact .inl ⟨p, h, rfl⟩
        · exact .inr ⟨p, h, rfl⟩
    rw [e, ← il, ← ir]
    show (if c = 108 then isP l p else if c = 114 then isP r p else false) = true ↔ _
    by_cases h1 : c = 108
    · subst h1
      simp
    · by_cases h2 : c = 114
      · subst h2
        simp
      · simp [h1, h2]
theorem pl_len : ∀ t : Tr, (pl t).length = 2 * t.sz + 1
  | .nil => rfl
  | .nd g l r => by
    simp only [pl, List.length_cons, List.length_append, List.length_map, pl_len l, pl_len r, Tr.sz]
    omega
theorem pl_ht : ∀ (t : Tr) (p : List Nat), p ∈ pl t → p.length ≤ t.ht
  | .nil, p, h => by
    simp only [pl, List.mem_singleton] at h
    subst h
    exact Nat.zero_le _
  | .nd g l r, p, h => by
    simp only [pl, List.mem_cons, List.mem_append, List.mem_map] at h
    rcases h with rfl | ⟨q, hq, rfl⟩ | ⟨q, hq, rfl⟩
    · exact Nat.zero_le _
    · have := pl_ht l q hq
      simp only [List.length_cons, Tr.ht]
      omega
    · have := pl_ht r q hq
      simp only [List.length_cons, Tr.ht]
      omega
theorem ht_sz : ∀ t : Tr, t.ht ≤ t.sz
  | .nil => Nat.le_refl _
  | .nd g l r => by
    have a := ht_sz l
    have b := ht_sz r
    simp only [Tr.ht, Tr.sz]
    omega
theorem pl_ne (t : Tr) : pl t ≠ [] := by cases t <;> simp [pl]
theorem pl_head (t : Tr) : (pl t)[0]? = some [] := by cases t <;> rfl
theorem pl_signs : ∀ (t : Tr) (p : List Nat), p ∈ pl t → ∀ c ∈ p, c = 108 ∨ c = 114
  | .nil, p, h => by
    simp only [pl, List.mem_singleton] at h
    subst h
    exact fun c hc => absurd hc List.not_mem_nil
  | .nd g l r, p, h => by
    simp only [pl, List.mem_cons, List.mem_append, List.mem_map] at h
    rcases h with rfl | ⟨q, hq, rfl⟩ | ⟨q, hq, rfl⟩
    · exact fun c hc => absurd hc List.not_mem_nil
    · intro c hc
      rcases List.mem_cons.mp hc with e | e
      · exact .inl e
      · exact pl_signs l q hq c e
    · intro c hc
      rcases List.mem_cons.mp hc with e | e
      · exact .inr e
      · exact pl_signs r q hq c e
/-! ### the order -/
def ltL (a b : List Nat) : Prop := ltCps a b = true
theorem ltL_cons {c : Nat} {a b : List Nat} : ltL (c :: a) (c :: b) ↔ ltL a b := by simp [ltL, ltCps]
theorem ltL_nil {c : Nat} {a : List Nat} : ltL [] (c :: a) := rfl
theorem ltL_lt {c d : Nat} {a b : List Nat} (h : c < d) : ltL (c :: a) (d :: b) := by simp [ltL, ltCps, h]
theorem ltL_irr : ∀ a : List Nat, ¬ ltL a a
  | [] => by simp [ltL, ltCps]
  | c :: a => by
    rw [ltL_cons]
    exact ltL_irr a
theorem ltL_trans : ∀ {a b c : List Nat}, ltL a b → ltL b c → ltL a c
  | [], [], _, h, _ => absurd h (ltL_irr [])
  | [], _ :: _, [], _, h => by simp [ltL, ltCps] at h
  | [], _ :: _, _ :: _, _, _ => rfl
  | _ :: _, [], _, h, _ => by simp [ltL, ltCps] at h
  | _ :: _, _ :: _, [], _, h => by simp [ltL, ltCps] at h
  | x :: a, y :: b, z :: c, h1, h2 => by
    simp only [ltL, ltCps, Bool.or_eq_true, decide_eq_true_eq, Bool.and_eq_true, beq_iff_eq] at h1 h2 ⊢
    rcases h1 with h1 | ⟨rfl, h1⟩
    · rcases h2 with h2 | ⟨rfl, h2⟩
      · exact .inl (Nat.lt_trans h1 h2)
      · exact .inl h1
    · rcases h2 with h2 | ⟨rfl, h2⟩
      · exact .inl h2
      · exact .inr ⟨rfl, ltL_trans h1 h2⟩
theorem ltL_tri : ∀ a b : List Nat, ltL a b ∨ a = b ∨ ltL b a
  | [], [] => .inr (.inl rfl)
  | [], _ :: _ => .inl rfl
  | _ :: _, [] => .inr (.inr rfl)
  | x :: a, y :: b => by
    rcases Nat.lt_trichotomy x y with h | rfl | h
    · exact .inl (ltL_lt h)
    · rcases ltL_tri a b with h | rfl | h
      · exact .inl (ltL_cons.mpr h)
      · exact .inr (.inl rfl)
      · exact .inr (.inr (ltL_cons.mpr h))
    · exact .inr (.inr (ltL_lt h))
theorem pl_up : ∀ t : Tr, (pl t).Pairwise ltL
  | .nil => by simp [pl]
  | .nd g l r => by
    simp only [pl, List.pairwise_cons, List.pairwise_append, List.pairwise_map]
    refine ⟨fun p hp => ?_, (pl_up l).imp fun h => ltL_cons.mpr h, (pl_up r).imp fun h => ltL_cons.mpr h, fun a ha b hb => ?_⟩
    · simp only [List.mem_append, List.mem_map] at hp
      rcases hp with ⟨q, _, rfl⟩ | ⟨q, _, rfl⟩
      · exact rfl
      · exact rfl
    · simp only [List.mem_map] at ha hb
      obtain ⟨p, _, rfl⟩ := ha
      obtain ⟨q, _, rfl⟩ := hb
      exact ltL_lt (by decide)
theorem pl_nodup (t : Tr) : (pl t).Nodup := (pl_up t).imp fun {a b} h e => by
  subst e
  exact ltL_irr _ h
/-- what sorted hands back, of texts that are all unlike -/
theorem rising_pw : ∀ (l : List Str) (p : Str), risingS p l = true → (p :: l).Pairwise fun a b => ¬ ltL b.cps.toList a.cps.toList
  | [], p, _ => by simp
  | x :: r, p, h => by
    simp only [risingS, Bool.and_eq_true, Bool.not_eq_true'] at h
    have ih := rising_pw r x h.2
    have h1 : ¬ ltL x.cps.toList p.cps.toList := by
      intro e
      rw [ltL, h.1] at e
      cases e
    rw [List.pairwise_cons]
    refine ⟨fun y hy => ?_, ih⟩
    rcases List.mem_cons.mp hy with rfl | hy
    · exact h1
    · have h2 := (List.pairwise_cons.mp ih).1 y hy
      intro e
      rcases ltL_tri x.cps.toList p.cps.toList with q | q | q
      · exact h1 q
      · rw [← q] at e
        exact h2 e
      · exact h2 (ltL_trans e q)
theorem sorted_is {l : List Str} {ps : List (List Nat)} (h : l.Perm (ps.map st)) (hs : sortedS l = true) (hp : ps.Pairwise ltL) : l = ps.map st := by
  have pw : l.Pairwise fun a b => ¬ ltL b.cps.toList a.cps.toList := by
    cases l with
    | nil => simp
    | cons x r => exact rising_pw r x hs
  have pw2 : (ps.map st).Pairwise fun a b => ¬ ltL b.cps.toList a.cps.toList := by
    rw [List.pairwise_map]
    exact hp.imp fun {a b} h e => ltL_irr _ (ltL_trans h e)
  refine List.Perm.eq_of_pairwise (fun a b _ _ h1 h2 => ?_) pw pw2 h
  rcases ltL_tri a.cps.toList b.cps.toList with q | q | q
  · exact absurd q h2
  · rw [st_of a, st_of b, q]
  · exact absurd q h1
/-! ### the next place -/
def stripR (p : List Nat) : List Nat := (p.reverse.dropWhile fun c => c == 114).reverse
def nxt (full : Bool) (p : List Nat) : Option (List Nat) :=
  if full = true then some (p ++ [108]) else if stripR p = [] then none else some ((stripR p).dropLast ++ [114])
theorem dropWhile_snoc (f : Nat → Bool) (a : List Nat) (c : Nat) : (a ++ [c]).dropWhile f = if a.dropWhile f = [] then [c].dropWhile f else a.dropWhile f ++ [c] := by
  induction a with
  | nil => simp
  | cons x a ih =>
    rw [List.cons_append]
    by_cases h : f x = true
    · rw [List.dropWhile_cons_of_pos h, List.dropWhile_cons_of_pos h]
      exact ih
    · rw [List.dropWhile_cons_of_neg h, List.dropWhile_cons_of_neg h]
      simp
theorem stripR_cons (c : Nat) (p : List Nat) : stripR (c :: p) = if stripR p = [] then (if c = 114 then [] else [c]) else c :: stripR p := by
  unfold stripR
  rw [List.reverse_cons, dropWhile_snoc]
  by_cases h : (p.reverse.dropWhile fun c => c == 114) = []
  · rw [if_pos h, if_pos (by rw [h]; rfl)]
    by_cases hc : c = 114
    · simp [hc]
    · simp [hc]
  · rw [if_neg h, if_neg (by rw [List.reverse_eq_nil_iff]; exact h)]
    simp
theorem nxt_cons {f : Bool} {c : Nat} {p q : List Nat} (h : nxt f p = some q) : nxt f (c :: p) = some (c :: q) := by
  unfold nxt at h ⊢
  by_cases hf : f = true
  · rw [if_pos hf] at h ⊢
    cases h
    rfl
  · rw [if_neg hf] at h ⊢
    by_cases hp : stripR p = []
    · rw [if_pos hp] at h
      cases h
    · rw [if_neg hp] at h
      injection h with h
      have e : stripR (c :: p) = c :: stripR p := by rw [stripR_cons, if_neg hp]
      rw [e, if_neg (by simp), ← h, List.dropLast_cons_of_ne_nil hp]
      rfl
theorem nxt_last {f : Bool} {p : List Nat} (h : nxt f p = none) : nxt f (108 :: p) = some [114] ∧ nxt f (114 :: p) = none := by
  unfold nxt at h ⊢
  by_cases hf : f = true
  · rw [if_pos hf] at h
    cases h
  · rw [if_neg hf] at h
    by_cases hp : stripR p = []
    · rw [if_neg hf, if_neg hf, stripR_cons, stripR_cons, if_pos hp, if_pos hp]
      simp
    · rw [if_neg hp] at h
      cases h
theorem nxt_pl : ∀ (t : Tr) (i : Nat) (p : List Nat), (pl t)[i]? = some p → nxt (pt t p).full p = (pl t)[i + 1]?
  | .nil, i, p, h => by
    cases i with
    | zero =>
      cases h
      rfl
    | succ i => simp [pl] at h
  | .nd g l r, i, p, h => by
    cases i with
    | zero =>
      have e : p = [] := by
        simp only [pl, List.getElem?_cons_zero] at h
        exact (Option.some.inj h).symm
      subst e
      have e2 : (pl (.nd g l r))[0 + 1]? = some [108] := by
        have hl := pl_head l
        simp only [pl, List.getElem?_cons_succ]
        rw [List.getElem?_append_left (by rw [List.length_map]; exact List.length_pos_iff.mpr (pl_ne l)), List.getElem?_map, hl]
        rfl
      rw [e2]
      rfl
    | succ i =>
      simp only [pl, List.getElem?_cons_succ] at h ⊢
      by_cases hi : i < (pl l).length
      · rw [List.getElem?_append_left (by rw [List.length_map]; exact hi), List.getElem?_map] at h
        obtain ⟨q, hq, rfl⟩ := Option.map_eq_some_iff.mp h
        have ih := nxt_pl l i q hq
        have ef : pt (.nd g l r) (108 :: q) = pt l q := by show (if 108 = 108 then _ else _) = _; rw [if_pos rfl]
        rw [ef]
        by_cases hn : i + 1 < (pl l).length
        · rw [List.getElem?_append_left (by rw [List.length_map]; exact hn), List.getElem?_map]
          rw [List.getElem?_eq_getElem hn] at ih ⊢
          exact nxt_cons ih
        · have en : i + 1 = (pl l).length := by omega
          rw [List.getElem?_eq_none (by omega)] at ih
          rw [List.getElem?_append_right (by rw [List.length_map]; omega), List.length_map, en, Nat.sub_self, List.getElem?_map, pl_head r]
          exact (nxt_last ih).1
      · rw [List.getElem?_append_right (by rw [List.length_map]; omega), List.length_map, List.getElem?_map] at h
        obtain ⟨q, hq, rfl⟩ := Option.map_eq_some_iff.mp h
        have ih := nxt_pl r (i - (pl l).length) q hq
        have ef : pt (.nd g l r) (114 :: q) = pt r q := by show (if 114 = 108 then _ else _) = _; rw [if_neg (by decide)]
        rw [ef, List.getElem?_append_right (by rw [List.length_map]; omega), List.length_map, List.getElem?_map]
        have en : i + 1 - (pl l).length = i - (pl l).length + 1 := by omega
        rw [en]
        cases hr : (pl r)[i - (pl l).length + 1]? with
        | none =>
          rw [hr] at ih
          exact (nxt_last ih).2
        | some z =>
          rw [hr] at ih
          exact nxt_cons ih
/-! ### the places below a place -/
theorem below : ∀ (t : Tr) (p : List Nat), isP t p = true → (pl t).filter (fun q => decide (q.take p.length = p)) = (pl (pt t p)).map (p ++ ·)
  | t, [], _ => by
    rw [pt_nil]
    simp
  | .nil, c :: p, h => by cases h
  | .nd g l r, c :: p, h => by
    simp only [pl, List.filter_cons, List.filter_append, List.filter_map]
    have e0 : decide (([] : List Nat).take (c :: p).length = c :: p) = false := by simp
    rw [if_neg (by rw [e0]; exact Bool.false_ne_true)]
    by_cases h1 : c = 108
    · subst h1
      have hp : isP l p = true := h
      have ih := below l p hp
      have ea : ((fun q => decide (q.take (108 :: p).length = 108 :: p)) ∘ (108 :: ·)) = fun q : List Nat => decide (q.take p.length = p) := by
        funext q
        simp
      have eb : (pl r).filter ((fun q => decide (q.take (108 :: p).length = 108 :: p)) ∘ (114 :: ·)) = [] := by
        rw [List.filter_eq_nil_iff]
        intro q _
        simp
      rw [ea, eb, ih]
      show _ = (pl (if 108 = 108 then pt l p else pt r p)).map _
      rw [if_pos rfl]
      simp
    · by_cases h2 : c = 114
      · subst h2
        have hp : isP r p = true := h
        have ih := below r p hp
        have ea : ((fun q => decide (q.take (114 :: p).length = 114 :: p)) ∘ (114 :: ·)) = fun q : List Nat => decide (q.take p.length = p) := by
          funext q
          simp
        have eb : (pl l).filter ((fun q => decide (q.take (114 :: p).length = 114 :: p)) ∘ (108 :: ·)) = [] := by
          rw [List.filter_eq_nil_iff]
          intro q _
          simp
        rw [ea, eb, ih]
        show _ = (pl (if 114 = 108 then pt l p else pt r p)).map _
        rw [if_neg (by decide)]
        simp
      · have : isP (.nd g l r) (c :: p) = false := by
          show (if c = 108 then isP l p else if c = 114 then isP r p else false) = false
          rw [if_neg h1, if_neg h2]
        rw [this] at h
        cases h
end Ey
namespace Ey
open PySem PySem.Spec L2
theorem dw_drop (f : Nat → Bool) : ∀ l : List Nat, l.dropWhile f = l.drop (l.takeWhile f).length
  | [] => rfl
  | a :: l => by
    cases h : f a
    · simp [List.dropWhile_cons, List.takeWhile_cons, h]
    · simp [List.dropWhile_cons, List.takeWhile_cons, h, dw_drop f l]
theorem stripR_take (p : List Nat) : stripR p = p.take (p.length - (p.reverse.takeWhile fun c => c == 114).length) := by
  have hle : (p.reverse.takeWhile fun c => c == 114).length ≤ p.length := by
    have := (List.takeWhile_sublist (fun c => c == 114) (l := p.reverse)).length_le
    rwa [List.length_reverse] at this
  unfold stripR
  rw [dw_drop, ← List.reverse_reverse (p.take _), List.reverse_take]
  have e : p.length - (p.length - (p.reverse.takeWhile fun c => c == 114).length) = (p.reverse.takeWhile fun c => c == 114).length := by omega
  rw [e]
theorem rstrip_st (p : List Nat) : Txt.rstripChars (st p) (st [114]) = st (stripR p) := by
  have e1 : (st [114]).cps.contains = fun c => c == 114 := by
    funext c
    show (#[114] : Array Nat).contains c = (c == 114)
    simp [Array.contains]
  have e3 := stripR_take p
  have lo : stripLo (st [114]).cps.contains false (st p) = 0 := rfl
  have hi : stripHi (st [114]).cps.contains true (st p) 0 = p.length - (p.reverse.takeWhile fun c => c == 114).length := by
    rw [e1]
    rfl
  unfold Txt.rstripChars Txt.stripBy stripSame stripped
  rw [lo, hi]
  have ex : Builtin.Str.strSub (st p) 0 (p.length - (p.reverse.takeWhile fun c => c == 114).length) = st (stripR p) := by
    rw [e3]
    show (⟨p.toArray.extract 0 _⟩ : Str) = ⟨_⟩
    simp
  rw [ex]
  split
  · rename_i h
    simp only [Bool.and_eq_true, beq_iff_eq] at h
    rw [e3, h.2]
    show st p = st (p.take p.length)
    rw [List.take_length]
  · rfl
theorem for_str {x : Str} {g : TG} {tb : TS} {D : Ends} {σ : St} {H : Hp} (Pv : Nat → St → Hp → Prop) (h0 : Pv 0 σ H)
    (hs : ∀ i c σ H, x.cps.toList[i]? = some c → Pv i σ H → g (.str (st [c])) σ H fun σ2 H2 => tb { D with nx := Pv (i + 1), ct := Pv (i + 1), bk := D.nx } σ2 H2)
    (hd : ∀ σ H, Pv x.cps.toList.length σ H → D.nx σ H) :
    ∃ W : Nat → Nat → St → Hp → Prop, (∃ m, W 0 m σ H) ∧ ∀ i m σ H, W i m σ H →
      ((Its x).stop i H ∧ D.nx σ H) ∨ ((Its x).go i H ∧ ∃ N : St → Hp → Prop, (∀ σ' H', N σ' H' → ∃ m', m' < m ∧ W (i + 1) m' σ' H') ∧ ∀ v H', (Its x).yld i H v H' → g v σ H' fun σ2 H2 => tb { D with nx := N, ct := N, bk := D.nx } σ2 H2) := by
  refine ⟨fun i m σ H => m = x.cps.size - i ∧ i ≤ x.cps.size ∧ Pv i σ H, ⟨_, rfl, Nat.zero_le _, h0⟩, fun i m σ H hw => ?_⟩
  obtain ⟨rfl, hi, p⟩ := hw
  by_cases lt : i < x.cps.size
  · refine .inr ⟨lt, Pv (i + 1), fun σ' H' p' => ⟨x.cps.size - (i + 1), by omega, rfl, lt, p'⟩, fun v H' y => ?_⟩
    obtain ⟨rfl, c, hc, rfl⟩ := y
    exact hs i c σ _ (by rw [Array.getElem?_toList]; exact hc) p
  · have e : i = x.cps.size := by omega
    subst e
    exact .inl ⟨Nat.le_refl _, hd σ H (by rw [Array.length_toList]; exact p)⟩
end Ey
namespace Ey
open PySem PySem.Spec L2
/-! ### heaps -/
/-- all that was tracked is as it was, but what stands at ms; tuples never change -/
structure Kp (ms : List Addr) (H H' : Hp) : Prop where
  at_ : ∀ b o, H b = some o → b ∉ ms → H' b = some o
  tup : ∀ b xs, H b = some (.tup xs) → H' b = some (.tup xs)
section
variable {ms : List Addr} {H H' H1 H2 : Hp}
theorem Kp.refl : Kp ms H H := ⟨fun _ _ e _ => e, fun _ _ e => e⟩
theorem Kp.trans (a : Kp ms H H1) (b : Kp ms H1 H2) : Kp ms H H2 := ⟨fun c o e n => b.at_ c o (a.at_ c o e n) n, fun c xs e => b.tup c xs (a.tup c xs e)⟩
theorem Kp.more {ms' : List Addr} (a : Kp ms H H1) (h : ∀ x ∈ ms, x ∈ ms') : Kp ms' H H1 := ⟨fun c o e n => a.at_ c o e fun q => n (h c q), a.tup⟩
theorem Kp.new {p : Addr} {o : HO} (h : H p = none) : Kp ms H (upd H p o) :=
  ⟨fun c u e _ => by rw [upd_ne (ne_of_none e h)]; exact e, fun c xs e => by rw [upd_ne (ne_of_none e h)]; exact e⟩
theorem Kp.put {p : Addr} {o u : HO} (hm : p ∈ ms) (h : H p = some u) (nt : ∀ xs, u ≠ .tup xs) : Kp ms H (upd H p o) := by
  refine ⟨fun c v e n => ?_, fun c xs e => ?_⟩
  · rw [upd_ne (fun q => n (by rw [q]; exact hm))]
    exact e
  · rw [upd_ne (fun q => ?_)]
    · exact e
    · rw [q, h] at e
      exact nt xs (Option.some.inj e)
theorem Kp.same (s : Same H H1) : Kp ms H H1 := ⟨fun c o e _ => s c o e, fun c xs e => s c _ e⟩
theorem Kp.free (a : Kp ms H H1) {p : Addr} (h : H1 p = none) (n : p ∉ ms) : H p = none := by
  cases q : H p with
  | none => rfl
  | some o =>
    rw [a.at_ p o q n] at h
    cases h
theorem Kp.lst {K : PySem.W.Frag} {a : Addr} {xs : List V} (k : Kp ms H H1) (n : a ∉ ms) (h : SqL K H a xs) : SqL K H1 a xs := by
  rcases h with (h | ⟨o, h⟩) | h
  · exact .inl (.inl (k.at_ _ _ h n))
  · exact .inl (.inr ⟨o, k.at_ _ _ h n⟩)
  · exact .inr h
end
/-! ### trees in the heap -/
inductive TreeAt (H : Hp) : V → Tr → Prop where
  | nil : TreeAt H .non .nil
  | nd {a : Addr} {g : Str} {l r : Tr} {v w : V} : H a = some (.tup [.str g, v, w]) → TreeAt H v l → TreeAt H w r → TreeAt H (.ref a) (.nd g l r)
theorem TreeAt.kp {ms : List Addr} {H H1 : Hp} {v : V} {t : Tr} (k : Kp ms H H1) (h : TreeAt H v t) : TreeAt H1 v t := by
  induction h with
  | nil => exact .nil
  | nd e _ _ ih1 ih2 => exact .nd (k.tup _ _ e) ih1 ih2
theorem TreeAt.non {H : Hp} {v : V} {t : Tr} (h : TreeAt H v t) : decide (v = .non) = !t.full := by
  cases h <;> rfl
theorem sqt_of {K : PySem.W.Frag} {H : Hp} {a : Addr} {xs : List V} (h : H a = some (.tup xs)) : SqT K H a xs := .inl (.inl h)
theorem sql_of {K : PySem.W.Frag} {H : Hp} {a : Addr} {xs : List V} (h : H a = some (.lst xs)) : SqL K H a xs := .inl (.inl h)
/-- a tree as data -/
def td : Tr → PyData
  | .nil => .none
  | .nd g l r => .tuple [.str g, td l, td r]
theorem TreeAt.dp {K : PySem.W.Frag} {H : Hp} {v : V} {t : Tr} (h : TreeAt H v t) : Dp K H v (td t) := by
  induction h with
  | nil => exact .non
  | nd e _ _ ih1 ih2 => exact .tup (sqt_of e) (.cons (.str _) (.cons ih1 (.cons ih2 .nil)))
theorem td_show : ∀ t : Tr, (td t).showable = true
  | .nil => rfl
  | .nd g l r => by
    show (true && ((td l).showable && ((td r).showable && true))) = true
    rw [td_show l, td_show r]
    rfl
theorem td_depth : ∀ t : Tr, (td t).depth ≤ 1 + t.ht
  | .nil => by decide
  | .nd g l r => by
    have a := td_depth l
    have b := td_depth r
    simp only [td, PyData.depth, PyData.depthAll, Tr.ht]
    omega
theorem tag_signs {g : Str} (h : isTag g = true) : ∀ c ∈ g.cps.toList, c < 16 ^ 8 := fun c hc => by
  simp only [isTag, Bool.and_eq_true, List.all_eq_true, decide_eq_true_eq] at h
  have := h.2 c hc
  simp only [abc, List.mem_cons, List.not_mem_nil, or_false] at this
  omega
theorem tag_len {g : Str} (h : isTag g = true) : g.length ≤ 8 := by
  simp only [isTag, Bool.and_eq_true, decide_eq_true_eq] at h
  exact h.1.2
theorem len_app (a b : Str) : (a ++ b).length = a.length + b.length := by
  show (a.cps ++ b.cps).size = _
  rw [Array.size_append]
  rfl
theorem td_len : ∀ t : Tr, t.ok → (td t).shown.length ≤ 100 * t.sz + 4
  | .nil, _ => by decide +kernel
  | .nd g l r, h => by
    obtain ⟨hg, hl, hr⟩ := h
    have a := td_len l hl
    have b := td_len r hr
    have c := StrLaws.reprText_len g (tag_signs hg)
    have d := tag_len hg
    have e : (td (.nd g l r)).shown.length ≤ (reprText g).length + (td l).shown.length + (td r).shown.length + 6 := by
      show (tupleText [reprText g, (td l).shown, (td r).shown]).length ≤ _
      unfold tupleText
      rw [len_app, len_app]
      simp only [Str.join, len_app]
      have q1 : (", " : Str).length = 2 := by decide +kernel
      have q2 : ("(" : Str).length = 1 := by decide +kernel
      have q3 : (Str.ofString (if (([reprText g, (td l).shown, (td r).shown] : List Str).length == 1) = true then ",)" else ")")).length = 1 := by
        show (Str.ofString (if ((3 : Nat) == 1) = true then ",)" else ")")).length = 1
        decide +kernel
      rw [q1, q2]
      omega
    simp only [Tr.sz]
    omega
end Ey
set_option maxHeartbeats 4000000
namespace PySem
namespace OwE
open Builtin Builtin.ObjectAttr PySem.HandSPX
/-! ### own exceptions whose chain of own classes ends in Exception -/
abbrev exTl : List Value := [.type "Exception", .type "BaseException", .type "object"]
def refsEx : List Value → Bool
  | .ref _ :: r => refsEx r
  | l => l == exTl
theorem refsEx_cases : ∀ l : List Value, refsEx l = true → (∃ c r, l = .ref c :: r ∧ refsEx r = true) ∨ l = exTl
  | [], e => .inr (beq_iff_eq.mp e)
  | .ref c :: r, e => .inl ⟨c, r, rfl, e⟩
  | .none :: _, e => .inr (beq_iff_eq.mp e)
  | .ellipsis :: _, e => .inr (beq_iff_eq.mp e)
  | .notImplemented :: _, e => .inr (beq_iff_eq.mp e)
  | .bool _ :: _, e => .inr (beq_iff_eq.mp e)
  | .int _ _ :: _, e => .inr (beq_iff_eq.mp e)
  | .float _ _ :: _, e => .inr (beq_iff_eq.mp e)
  | .str _ _ :: _, e => .inr (beq_iff_eq.mp e)
  | .bytes _ _ :: _, e => .inr (beq_iff_eq.mp e)
  | .type _ :: _, e => .inr (beq_iff_eq.mp e)
  | .builtin _ :: _, e => .inr (beq_iff_eq.mp e)
theorem refsEx_pass (self : Value) : ∀ l : List Value, refsEx l = true → refuseLoop self "__setattr__" l = pure () := by
  intro l
  induction l with
  | nil => intro e; exact absurd e (by decide)
  | cons a r ih =>
    intro e
    rcases refsEx_cases (a :: r) e with ⟨c, r', q, h⟩ | q
    · obtain ⟨rfl, rfl⟩ := List.cons.inj q
      rw [refuseLoop_ref]
      exact ih h
    · rw [q]
      exact F.store_Exception.passes self
theorem refsEx_has (X : String) : ∀ l : List Value, refsEx l = true → l.contains (.type X) = exTl.contains (.type X) := by
  intro l
  induction l with
  | nil => intro e; exact absurd e (by decide)
  | cons a r ih =>
    intro e
    rcases refsEx_cases (a :: r) e with ⟨c, r', q, h⟩ | q
    · obtain ⟨rfl, rfl⟩ := List.cons.inj q
      rw [List.contains_cons, ih h]
      rfl
    · rw [q]
theorem refsEx_ne {l : List Value} (e : refsEx l = true) : l.isEmpty = false := by
  cases l with
  | nil => exact absurd e (by decide)
  | cons _ _ => rfl
section
variable {prog : Program} {w : World} {A : Around} {E : Value → Shared → Prop} {R : Result → Shared → Prop} {hp : Heap} {g : Array GenState} {d : Drawn} {t : Nat} {os : OsState}
theorem osa_first {K : W.Frag} {name : Str} {tk : Tok} {v : Value} {x C : Addr} {fv : Array Value} {cd : ClassData}
    (X : K.In hp) (hx : hp.get? x = some { cls := .ref C, data := .fields fv }) (hcd : W.clsIn K C = some cd) (hm : refsEx cd.mro = true) (hh : cd.hasDict = true) (ha : W.findIn K (.ref C) name = some none)
    (hq : ∀ h' tk' dx, (∀ b o, b ≠ x → hp.get? b = some o → h'.get? b = some o) → hp.objs.size ≤ dx → dx ≠ x → h'.get? x = some { cls := .ref C, dict := some dx, data := .fields fv } →
      h'.Ns1 dx (fun y => if y = name then some v else none) → R (.ok (.ret .none)) ⟨h', g, d, tk', os⟩) :
    codeAny (model prog w) A (.call (.builtin "object.__setattr__") ⟨[.ref x, .str name tk, v], []⟩) R ⟨hp, g, d, t, os⟩ := by
  have hIn : W.InstAt hp x { cls := .ref C, data := .fields fv } C none := ⟨hx, rfl, rfl, trivial⟩
  have hSF := F.store_object
  have hne := refsEx_ne hm
  have hobj : cd.mro.contains (.type "object") = true := (refsEx_has "object" _ hm).trans (by decide +kernel)
  have hxs : x ≠ hp.objs.size := Nat.ne_of_lt (Heap.lt_size hx)
  have hsub : W.Looks (model prog w) hp (isInstance (.ref x) (.type "object")) true := hIn.type.andThen (W.looks_mroIn X (by unfold W.mroIn; rw [hcd, Option.bind_some, if_neg (by rw [hne]; decide), hobj]))
  refine codeAny_call_builtin hSF.slot.plain hSF.entry (@W.check_slot (model prog w) _ _ ⟨hp, g, d, t, os⟩ "object.__setattr__" "object" "__setattr__" (.ref x) [.str name tk, v] [] _ hSF.kind hSF.split hsub (hSF.args (.ref x) (.str name tk) v) ?_)
  have hmr : W.Looks (model prog w) hp (mroOf (.ref C)) cd.mro := (W.looks_clsIn X hcd).andThen .now
  have hst : W.Looks (model prog w) hp (storeTaker? none) none := .now
  have hcls : W.Looks (model prog w) hp (classData C) cd := W.looks_clsIn X hcd
  rw [W.osa_eq, refuse_eq]
  refine wpAny_bind (wpAny_bind (hIn.type.at (wpAny_bind (hmr.at ?_))))
  rw [refsEx_pass _ _ hm]
  refine wpAny_pure (wpAny_bind (hIn.type.at (wpAny_bind ((W.looks_findIn X ha).at (wpAny_bind (hst.at ?_))))))
  show wpAny _ _ (storeInOwnDict (.ref x) (.ref C) (.str name tk) name v false) _ _ _
  obtain ⟨nm, bs, mro, ns, qn, hd, sn, sb, ab, col, del⟩ := cd
  dsimp only at hh
  subst hh
  unfold storeInOwnDict ownDictForStores
  repeat (first | with_reducible refine store_in_new ?_ ?_ | with_reducible refine wpAny_loadPart_at hx ?_ | with_reducible refine hcls.at ?_ | wp_step)
  · exact ⟨_, #[], _, (Heap.get?_update_ne _ _ _ _ hxs.symm).trans (Heap.get?_push_at rfl rfl), rfl, fun e he => absurd he (by simp), fun _ => rfl⟩
  · intro h' tk' hn' hs
    have hx₁ : (hp.push { cls := .type "dict", data := .dict #[] }).get? x = some { cls := .ref C, data := .fields fv } := Heap.get?_push_of_some _ hx
    refine hq h' tk' hp.objs.size (fun b o hb ho => ?_) (Nat.le_refl _) hxs.symm ?_ hn'
    · exact (hs.2 b (Nat.ne_of_lt (Heap.lt_size ho))).trans ((Heap.get?_update_ne _ _ _ _ hb).trans (Heap.get?_push_of_some _ ho))
    · exact (hs.2 x hxs).trans (Heap.get?_update_self _ hx₁ rfl)
end
end OwE
end PySem
set_option maxHeartbeats 4000000
namespace PySem
namespace BadTextX
open PySem.W PySem.Calls PyProof.Rows PySem.HandSPX
/-! ### the text of __init__ -/
def iA (p1 p2 : Pos) : Arguments := { posonlyargs := [], args := [{ arg := "self", annotation := none, pos := p1 }, { arg := "at", annotation := none, pos := p2 }], vararg := none, kwonlyargs := [], kw_defaults := [], kwarg := none, defaults := [] }
def iB (q1 q2 q3 q4 : Pos) : List Stmt := [.Assign [.Attribute (.Name "self" q1) "at" q2] (.Name "at" q3) q4]
def iS : Scope := { kind := .function, names := [(PySem.Str.ofString "self", .local), (PySem.Str.ofString "at", .local)], isGenerator := false, isCoroutine := false, more := [] }
/-- what the written part says of Low, at C, and of its __init__, at fI -/
structure BadTextTxt (K : Frag) (mg : Str → Option Value) (C fI : Addr) : Prop where
  gC : mg "BadText" = some (.ref C)
  cls : ∃ nm q N bs bm sn sub ab col dd k0 k1 k2 k3 k5, K.lookup C = some (excClassObj nm q C N bs bm true sn sub ab col dd k0 k1 k2 k3 k5 "Exception.__new__") ∧ OwE.refsEx bm = true
  sa : findIn K (.ref C) "__setattr__" = some (some (.builtin "object.__setattr__"))
  ga : findIn K (.ref C) "__getattribute__" = some (some (.builtin "BaseException.__getattribute__"))
  gg : findIn K (.ref C) "__getattr__" = some none
  noN : findIn K (.ref C) "at" = some none
  iC : findIn K (.ref C) "__init__" = some (some (.ref fI))
  tC : typeIn K (.ref fI) = some (.type "function")
  kC : keepIn K (.ref C) = true
  exC : subIn K (.ref C) (.type "BaseException") = some true
  tyC : typeIn K (.ref C) = some (.type "type")
  hdC : hasDictIn K C = true
  te : exmOne K (.ref C) (.ref C) = some true
  fn : ∃ (oc : Value) (od : Option Addr) (doc pm : Value) (an : Option Addr) (cdv ct : Value) (osl : Array (Option Value)) (p1 p2 q1 q2 q3 q4 : Pos),
    K.lookup fI = some ⟨oc, od, .func (fnOf "__init__" "BadText.__init__" (iA p1 p2) (iB q1 q2 q3 q4) iS .none .none doc pm an cdv ct), osl⟩ ∧ codeIn K cdv "BadText.__init__" = true
theorem one_size (v : Value) : [v].length ≤ sizeLine := by
  rw [sizeLine_eq]
  exact (by decide : 1 ≤ 16777216)
theorem kept_but {K : Frag} {h h' : Heap} {x : Addr} (X : K.In h) (hx : K.lookup x = none) (k : ∀ b o, b ≠ x → h.get? b = some o → h'.get? b = some o) : K.In h' := fun a o e =>
  k a o (fun z => by rw [z, hx] at e; cases e) (X a o e)
theorem ldC {M : Model} {s : Shared} {name : Str} {scope : Scope} {L a : Addr} {cd : Value} {m : Str → Option Value} {x : Str} {pos : Pos} {v : Value} {Q : Value → Shared → Prop} {A : Around} {E : Value → Shared → Prop} (hn : s.heap.Ns L m) (hv : m x = some v) (h : Q v s)
    (hk : scope.kind = .function := by rfl) (hl : (envOfC name scope L a cd).kindOf x = some .local := by rfl) (hd : (x == ("__debug__" : Str)) = false := by decide) :
    wpAny M A (eval (.Name x pos) (envOfC name scope L a cd)) Q E s := wpAny_Name (wpAny_loadName_local hk hl hn hv h) hd
/-- what __init__ leaves of a fresh exception at x -/
structure InitEnd (h h' : Heap) (x C dx t1 : Addr) (v : Value) : Prop where
  keep : ∀ b o, b ≠ x → h.get? b = some o → h'.get? b = some o
  obj : h'.get? x = some { cls := .ref C, dict := some dx, data := .fields #[.ref t1, .none, .none, .none, .bool false, .none] }
  dbig : h.objs.size ≤ dx
  dne : dx ≠ x
  ns : h'.Ns1 dx (fun y => if y = "at" then some v else none)
/-- a made Low -/
structure OwnMade (h h' : Heap) (e C d : Addr) (v : Value) : Prop where
  keep : ∀ b o, h.get? b = some o → h'.get? b = some o
  new : h.objs.size ≤ e
  obj : ∃ oe vs, h'.get? e = some oe ∧ oe.cls = .ref C ∧ oe.dict = some d ∧ oe.data = .fields vs ∧ vs[1]? = some .none
  dbig : h.objs.size ≤ d
  dne : d ≠ e
  ns : h'.Ns1 d (fun y => if y = "at" then some v else none)
section
variable {prog : Program} {w : World} {A : Around} {E : Value → Shared → Prop} {R : Result → Shared → Prop} {s : Shared} {K : Frag} {mg : Str → Option Value} {C fI : Addr}
theorem low_init (T : BadTextTxt K mg C fI) {x t0 : Addr} {v : Value} (X : K.In s.heap) (hlim : s.heap.NoLimit) (hx : s.heap.get? x = some (excO C t0)) (hnx : K.lookup x = none) (hroom : A.depth < recursionLimit)
    (hq : ∀ h' tk dx, InitEnd s.heap h' x C dx t0 v → R (.ok (.ret .none)) { s with heap := h', toks := tk }) :
    codeAny (model prog w) A (.call (.ref fI) ⟨[.ref x, v], []⟩) R s := by
  obtain ⟨oc, od, doc, pm, an, cdv, ct, osl, p1, p2, q1, q2, q3, q4, ho, hcd⟩ := T.fn
  obtain ⟨nm, q, N, bs, bm, sn, sub, ab, col, dd, k0, k1, k2, k3, k5, hC, hbm⟩ := T.cls
  have hcl : clsIn K C = some { name := nm, bases := bs, mro := .ref C :: bm, ns := N, qualname := q, hasDict := true, slotNames := sn, subclasses := sub, abstract := ab, collection := col, hasDel := false } := by unfold clsIn; rw [hC] <;> rfl
  refine Att.call_fn (binds := [("self", .ref x), ("at", v)]) X hlim ho hcd hroom (BindsTo.of_eq (by first | rfl | with_unfolding_all rfl)) (by first | rfl | decide | with_unfolding_all rfl) (fun s₁ IC => ?_) rfl rfl rfl
  obtain ⟨h₁, tk₁, rfl⟩ := IC.toInCall.same
  have k : ∀ b o, s.heap.get? b = some o → h₁.get? b = some o := IC.toInCall.keep
  have hn := IC.toInCall.ns
  have hxL : s.heap.objs.size ≠ x := Nat.ne_of_gt (Heap.lt_size hx)
  have X₁ : K.In h₁ := X.keeps k
  have hx₁ := k _ _ hx
  -- self.by = by
  show wpAny _ _ (execs _ _) _ _ _
  refine wpAny_execs_cons (plainObj_wpAny_Assign_Attribute ?_)
  refine ldC (v := v) hn (by first | rfl | with_unfolding_all rfl | kernel_rfl) (ldC (v := .ref x) hn (by first | rfl | with_unfolding_all rfl | kernel_rfl) ?_)
  refine set_plain X₁ (ox := excO C t0) (od := none) ⟨hx₁, rfl, rfl, trivial⟩ T.sa ?_
  refine OwE.osa_first X₁ hx₁ hcl (show OwE.refsEx (.ref C :: bm) = true from hbm) rfl T.noN (fun h₃ tk₃ dx k₃ dn dne hx₃ hn₃ => ?_)
  show wpAny _ _ (execs _ _) _ _ _
  have z : s.heap.objs.size < h₁.objs.size := hn.lt
  exact wpAny_execs_nil (hq h₃ tk₃ dx ⟨fun b o hb e => k₃ b o hb (k b o e), hx₃, Nat.le_of_lt (Nat.lt_of_lt_of_le z dn), dne, hn₃⟩)
theorem low_made (T : BadTextTxt K mg C fI) {v : Value} (X : K.In s.heap) (hlim : s.heap.NoLimit) (hroom : A.depth + 1 < recursionLimit)
    (hq : ∀ h' tk e d, OwnMade s.heap h' e C d v → R (.ok (.ret (.ref e))) { s with heap := h', toks := tk }) :
    codeAny (model prog w) A (.call (.ref C) ⟨[v], []⟩) R s := by
  obtain ⟨nm, q, N, bs, bm, sn, sub, ab, col, dd, k0, k1, k2, k3, k5, hC, hbm⟩ := T.cls
  obtain ⟨hp, g, dr, tk, os⟩ := s
  have k : ∀ b o, hp.get? b = some o → ((hp.push (kdv_tup [v])).push (excO C hp.objs.size)).get? b = some o := fun b o e => Heap.get?_push_of_some _ (Heap.get?_push_of_some _ e)
  have hget : ((hp.push (kdv_tup [v])).push (excO C hp.objs.size)).get? (hp.objs.size + 1) = some (excO C hp.objs.size) := by heap_get
  have hnx : K.lookup (hp.objs.size + 1) = none := by
    cases e : K.lookup (hp.objs.size + 1) with
    | none => rfl
    | some o =>
      have z : hp.get? (hp.objs.size + 1) = some o := X _ _ e
      exact absurd (Nat.lt_of_succ_lt (Heap.lt_size z)) (Nat.lt_irrefl _)
  refine call_own F.excBase_Exception (fun X => OwE.refsEx_has X bm hbm) (X _ _ hC) (looks_findIn X T.iC) (fun self => bind_fn X self T.tC) (one_size v) ?_
  refine low_init (s := ⟨(hp.push (kdv_tup [v])).push (excO C hp.objs.size), g, dr, tk, os⟩) T (X.keeps k) (hlim.keeps k) hget hnx ?_ fun h' tk' dx ⟨k', hx, dn, dne, hns⟩ => ?_
  · show A.depth + 1 < recursionLimit
    exact hroom
  · have old : ∀ b o, hp.get? b = some o → h'.get? b = some o := fun b o e => k' b o (Nat.ne_of_lt (Nat.lt_succ_of_lt (Heap.lt_size e))) (k b o e)
    have z : hp.objs.size + 1 + 1 ≤ dx := by
      first
        | (simpa only [Heap.size_push] using dn)
        | exact dn
        | (have q := dn; rw [Heap.size_push, Heap.size_push] at q; exact q)
    exact ⟨rfl, hq h' tk' (hp.objs.size + 1) dx ⟨old, Nat.le_succ _, ⟨_, _, hx, rfl, rfl, rfl, rfl⟩, Nat.le_trans (Nat.le_trans (Nat.le_succ _) (Nat.le_succ _)) z, dne, hns⟩⟩
end
end BadTextX
end PySem
namespace L2
open PySem PySem.Spec PyProof.Rows
theorem relO_BadText {v : V} {v' : Value} (r : RelV v v') (f : Str) : RelO (List.lookup f [(("at" : Str), v)]) (if f = "at" then some v' else none) := by
  by_cases hw : f = "at"
  · subst hw
    rw [if_pos rfl]
    have q : List.lookup ("at" : Str) [(("at" : Str), v)] = some v := by simp [List.lookup]
    rw [q]
    exact r
  · rw [if_neg hw]
    have qw : (f == ("at" : Str)) = false := by simpa using hw
    have q2 : List.lookup f [(("at" : Str), v)] = none := by simp [List.lookup, qw]
    rw [q2]
    trivial
section
variable {X : Cx} {C fI : Addr}
/-- Low(e) -/
def tMkBadText (C : Addr) (ta : TA) : St → Hp → XK → Prop := fun σ H Q => ta σ H fun vs H1 => ∃ v, vs = [v] ∧ ∀ d, H1 d = none → Q (.ref C) (some d) (upd H1 d (.xd [(("at" : Str), v)]))
theorem pmk_BadText {a : Expr} {ta : TA} {p pos : Pos} {k : Nat} (T : PySem.BadTextX.BadTextTxt X.K X.mg C fI) (hr : Room k X.A) (ha : PA X [a] ta) (hg : Gl X "BadText" := by rfl)
    (he : starEach (a :: []) X.env = (false, eval a X.env) :: starEach [] X.env := by rfl) (hpl : (backTo pos (starEach [] X.env)).any (·.1) = false := by rfl) :
    PMk X (.Call (.Name "BadText" p) [a] [] pos) (tMkBadText C ta) := by
  intro pins s σ H Q I h
  refine wpAny_Call_Name_kw (ld_glob I hg T.gC ?_)
  refine PySem.W.callWith_K (h₀ := X.base) I.ok.mod.kin T.kC (thn (ha.run pos pins s σ H _ I h) fun us s1 hh => ?_) he hpl
  obtain ⟨vs, H1, I1, r1, v, ev, q1⟩ := hh
  subst ev
  refine ⟨I1.kIn, ?_⟩
  cases r1 with
  | cons rv rn =>
    rename_i v' us'
    cases rn
    show wpAny _ _ (call (.ref C) [v']) _ _ _
    have hlim := I1.nolimit
    obtain ⟨hp, g, dr, tk, os⟩ := s1
    refine wpAny_call (PySem.BadTextX.low_made T I1.kIn hlim (by have := hr.dp; omega) fun h' tk' e d M => ?_)
    show MkP X pins σ Q (.ref e) ⟨h', g, dr, tk', os⟩
    obtain ⟨oe, fv, hoe, hc, hd, hdat, h1⟩ := M.obj
    have hns := M.ns
    obtain ⟨G', g1, g2⟩ := restrict h' fun b => decide (b ≠ e)
    have gk : ∀ b, b ≠ e → G'.get? b = h'.get? b := fun b hb => g1 b (decide_eq_true hb)
    have ge : G'.get? e = none := g2 e (by simp)
    have old : ∀ b o, hp.get? b = some o → G'.get? b = some o := fun b o q => (gk b (Nat.ne_of_lt (Nat.lt_of_lt_of_le (Heap.lt_size q) M.new))).trans (M.keep b o q)
    have ob : ObjOk X.prog X.w (upd H1 d (.xd [(("at" : Str), v)])) G' d (.xd [(("at" : Str), v)]) :=
      ⟨_, hns.at (fun o q => (gk d M.dne).trans q), fun f => relO_BadText rv f⟩
    have J : Inv X pins σ (upd H1 d (.xd [(("at" : Str), v)])) ⟨G', g, dr, tk', os⟩ := I1.laid (t' := tk') old M.dbig ob
    refine ⟨e, oe, fv, ⟨G', g, dr, tk', os⟩, _, .ref C, some d, rfl, J, fun b o q => ?_, ge, hoe, ⟨hc, hd⟩, hdat, h1, ?_, rfl, I1.bare, raises_own T.exC T.tyC, q1 d (I1.hok.fresh M.dbig)⟩
    · by_cases hb : b = e
      · have q' : G'.get? b = some o := q
        rw [hb, ge] at q'; cases q'
      · exact (gk b hb).symm.trans q
    · rw [upd_ne (Ne.symm M.dne)]
      exact I1.hok.fresh M.new
/-- raise Low(e) -/
def tRaiseBadText (C : Addr) (W : WX) (ta : TA) : TS := fun _ σ H => tMkBadText C ta σ H fun cls d H' => W cls d σ H'
theorem ps_raiseBadText {a : Expr} {ta : TA} {W : WX} {p pos pos2 : Pos} {k : Nat} (hc : X.calm = true) (T : PySem.BadTextX.BadTextTxt X.K X.mg C fI) (hr : Room k X.A) (tk : Takes X W) (ha : PA X [a] ta) (hg : Gl X "BadText" := by rfl)
    (he : starEach (a :: []) X.env = (false, eval a X.env) :: starEach [] X.env := by rfl) (hpl : (backTo pos (starEach [] X.env)).any (·.1) = false := by rfl) :
    PS X (.Raise (some (.Call (.Name "BadText" p) [a] [] pos)) none pos2) (tRaiseBadText C W ta) := ps_raise hc tk (pmk_BadText T hr ha hg he hpl)
/-- low.by, low the exception that the suite holds (at a; its class cls, its dict d) -/
def tByBadText (C : Addr) (a : Addr) (cls : Value) (d : Option Addr) (te : TE) : TE := fun σ H Q => te σ H fun x H1 => x = .ref a ∧ cls = .ref C ∧ ∃ (dd : Addr) (v : V), d = some dd ∧ H1 dd = some (.xd [(("at" : Str), v)]) ∧ Q v H1
theorem pe_byBadText {a : Addr} {oe : Obj} {cls : Value} {d : Option Addr} {pn : List (Addr × Obj)} {e : Expr} {te : TE} {pos : Pos} (T : PySem.BadTextX.BadTextTxt X.K X.mg C fI) (hz : Zc cls d oe) (hf : ∃ vs, oe.data = .fields vs) (he : PE (X.suite a ((a, oe) :: pn)) e te)
    (hb : attributeBase e "at" X.env (eval e X.env) = eval e X.env := by rfl) :
    PE (X.suite a ((a, oe) :: pn)) (.Attribute e "at" pos) (tByBadText C a cls d te) := by
  refine ⟨fun pins s σ H Q I h => ?_⟩
  refine attr_of hb (thn (he.run pins s σ H _ I h) fun u s1 hh => ?_)
  obtain ⟨x, H1, I1, rx, ex, ec, dd, v, ed, ea, q⟩ := hh
  subst ex
  obtain rfl : u = Value.ref a := rx
  subst ec
  subst ed
  obtain ⟨ha, _⟩ := I1.pin (a, oe) (List.mem_append_left _ List.mem_cons_self)
  obtain ⟨vs, hd⟩ := hf
  have hx : ObjOk X.prog X.w H1 s1.heap dd (.xd [(("at" : Str), v)]) := I1.hok dd _ ea
  obtain ⟨mA, hns, hr⟩ := hx
  obtain ⟨od, ho, hl⟩ := lookIn_ns hns
  have l : List.lookup ("at" : Str) [(("at" : Str), v)] = some v := by simp [List.lookup]
  obtain ⟨u, hu, ru⟩ := RelO.some_of (v := v) (o := mA "at") (by rw [← l]; exact hr "at")
  have J : PySem.W.InstAt s1.heap a oe C (some od) := ⟨ha, hz.1, by unfold PySem.W.notCls; rw [hd] <;> rfl, by rw [hz.2]; exact ho⟩
  exact HandSPX.exc_get I1.kIn J T.ga T.gg T.exC (PySem.W.findObj_own T.hdC T.noN rfl (by rw [hl, hu])) (handed_of ru) ⟨v, H1, I1.tok _, ru, q⟩
end
end L2
set_option maxHeartbeats 2000000
namespace Ey
open PySem PySem.Spec PyProof.Rows L2 GxR
/-! ### all(e for x in it), e any expression that HandS can tell -/
/-- the generator's own frame -/
def gxOf (X : Cx) (A : Around) (s : Shared) (H : Hp) (ge : Env) (x : Str) (fp : List Addr) : Cx :=
  { X with A := A, N := [x], s_0 := s, H_0 := H, env := ge, outer := X.stack, stack := ge :: X.stack, ex := fp, fn := fun _ => false, calm := true, pn := [], xe := fun _ _ => False }
abbrev gcode (elt iter : Expr) (x : Str) (px : Pos) (sc : Scope) (gp : Pos) (it : Addr) (ge : Env) : Code := .compLoop (.GeneratorExp elt [⟨.Name x px, iter, [], 0⟩] sc gp) 0 (.ref it) .none ge
/-- the generator stands at turn i -/
structure GIn (Xg : Cx) (fp : List Addr) (tn : Nat → Heap → Prop) (ga : Addr) (go : Obj) (g : Nat) (W : Nat → Hp → Prop) (i : Nat) (s : Shared) : Prop where
  ex : ∃ (H : Hp) (y : Option V), Inv Xg [(ga, go)] [y] H s ∧ tn i s.heap ∧ (∀ b ∈ fp, FpOk Xg [(ga, go)] H b) ∧ W i H
  sz : g + 1 ≤ s.gens.size
/-- it is over -/
def GEd (Xg : Cx) (ga : Addr) (go : Obj) (Qe : Hp → Prop) (s : Shared) : Prop := ∃ (H : Hp) (y : Option V), Inv Xg [(ga, go)] [y] H s ∧ Qe H
def YG (GI : Nat → Shared → Prop) (GF : Shared → Prop) (n0 : Nat) : Protocol := fun m _ v s kap => ∃ b : Bool, v = .bool b ∧ (b = true → GI (n0 - m) s ∧ ∀ s'', GI (n0 - m) s'' → kap (.send .none) s'') ∧ (b = false → GF s)
def RG (GT : Shared → Prop) : GenEnd := fun _ _ r s => r = .ok .next ∧ GT s
section
variable {X : Cx} {A : Around} {sG : Shared} {HG : Hp} {ge : Env} {x : Str} {fp : List Addr} {tn : Nat → Heap → Prop} {ga it : Addr} {go : Obj} {g : Nat} {W : Nat → Hp → Prop} {Qf Qt : Hp → Prop} {J : It} {elt iter : Expr} {px gp : Pos} {sc : Scope} {te : TE} {n0 : Nat}
theorem seg_gloop (T : Turn X.prog X.w X.K (.Name x px) J fp it tn) (hx : ge.scope.names.lookup x = some .local) (hco : ge.scope.isCoroutine = false)
    (hel : PE (gxOf X (A.over (gcode elt iter x px sc gp it ge) []) sG HG ge x fp) elt te)
    (hW : ∀ i H, W i H → (i < n0 ∧ J.go i H ∧ ∀ v H', J.yld i H v H' → te [some v] H' fun y H3 => ∃ b, y = .bl b ∧ if b = true then W (i + 1) H3 else Qf H3) ∨ (J.stop i H ∧ Qt H)) :
    ∀ (k i : Nat) (s₀ s : Shared), n0 - i = k → GIn (gxOf X (A.over (gcode elt iter x px sc gp it ge) []) sG HG ge x fp) fp tn ga go g W i s →
      Seg (model X.prog X.w) A (RG (GEd (gxOf X (A.over (gcode elt iter x px sc gp it ge) []) sG HG ge x fp) ga go Qt))
        (YG (GIn (gxOf X (A.over (gcode elt iter x px sc gp it ge) []) sG HG ge x fp) fp tn ga go g W) (GEd (gxOf X (A.over (gcode elt iter x px sc gp it ge) []) sG HG ge x fp) ga go Qf) n0) (n0 - i) s₀
        (gcode elt iter x px sc gp it ge) ((model X.prog X.w).den (gcode elt iter x px sc gp it ge)) [] s := by
  generalize hXg : gxOf X (A.over (gcode elt iter x px sc gp it ge) []) sG HG ge x fp = Xg at *
  have eP : Xg.prog = X.prog := by rw [← hXg]; rfl
  have eW : Xg.w = X.w := by rw [← hXg]; rfl
  have eK : Xg.K = X.K := by rw [← hXg]; rfl
  have eC : Xg.calm = true := by rw [← hXg]; rfl
  have eA : Xg.A = A.over (gcode elt iter x px sc gp it ge) [] := by rw [← hXg]; rfl
  have eE : Xg.env = ge := by rw [← hXg]; rfl
  have eN : Xg.N = [x] := by rw [← hXg]; rfl
  have eX : Xg.xe = fun _ _ => False := by rw [← hXg]; rfl
  have ePn : Xg.pn = [] := by rw [← hXg]; rfl
  have stat : ∀ {pins : List (Addr × Obj)} {H H' : Hp}, (∀ b ∈ fp, FpOk Xg pins H b) → (∀ b ∈ fp, H' b = none) → ∀ b ∈ fp, FpOk Xg pins H' b := fun f2 hn b hb => ⟨hn b hb, (f2 b hb).2⟩
  intro k
  induction k with
  | zero =>
    intro i s₀ s hk gi
    obtain ⟨⟨H, y, I, st, fo, w⟩, sz⟩ := gi
    rcases hW i H w with ⟨lt, _⟩ | ⟨stop, qt⟩
    · omega
    show Seg _ A _ _ _ s₀ _ ((compTurn (.GeneratorExp elt [⟨.Name x px, iter, [], 0⟩] sc gp) 0 (.ref it) .none ge).onRaise (leaving ge)) [] s
    rw [compTurn_gen, Sem.onRaise_eq_wrap]
    refine seg_bind_wrap (wpAny_standAt ?_)
    refine seg_bind_wrap (eA ▸ wpAny_mono (T.done Xg eP eW eK eC i _ s [y] H (fun _ _ => False) I fo st stop) (fun r s1 ⟨hr, I1⟩ => ?_) fun _ _ e => e.elim)
    subst hr
    exact seg_end (.ok .next) ⟨rfl, H, y, I1, qt⟩
  | succ k ih =>
    intro i s₀ s hk gi
    obtain ⟨⟨H, y, I, st, fo, w⟩, sz⟩ := gi
    show Seg _ A _ _ _ s₀ _ ((compTurn (.GeneratorExp elt [⟨.Name x px, iter, [], 0⟩] sc gp) 0 (.ref it) .none ge).onRaise (leaving ge)) [] s
    rw [compTurn_gen, Sem.onRaise_eq_wrap]
    refine seg_bind_wrap (wpAny_standAt ?_)
    rcases hW i H w with ⟨lt, gg, step⟩ | ⟨stop, qt⟩
    · refine seg_bind_wrap (eA ▸ GenW.wpAny_gsz sz (wpAny_mono (T.item Xg eP eW eK eC i _ s [y] H (fun _ _ => False) I fo st gg) (fun r s1 ⟨u, hr, rest⟩ sz1 => ?_) fun _ _ e _ => e.elim))
      subst hr
      refine seg_bind_wrap (eA ▸ GenW.wpAny_gsz sz1 (wpAny_mono rest (fun _ s2 ⟨v, H2, I2, rv, yl, st2, fr2⟩ sz2 => ?_) fun _ _ e _ => e.elim))
      have fo2 := stat fo fr2
      have I2' := I2.pinned fo2 (T.obj _ _ st2)
      have pgn : PG Xg (.Name x px) (gName 0) := pg_name (by rw [eN]; simp) (by rw [eN]; rfl) (.inl (by rw [eE]; exact hx)) (.inr (by rw [eE]; exact hx))
      have run1 := pgn.run _ s2 [y] H2 v u (fun σ' H' => σ' = [some v] ∧ H' = H2) I2' rv ⟨rfl, rfl⟩
      rw [eE, eX] at run1
      refine seg_bind_wrap (eA ▸ GenW.wpAny_gsz sz2 (wpAny_mono (eP ▸ eW ▸ run1) (fun _ s3 ⟨σ3, H3, I3, e3, e4⟩ sz3 => ?_) fun _ _ e _ => e.elim))
      subst e3 e4
      simp only [List.forIn_nil]
      refine seg_bind_wrap (wpAny_pure ?_)
      rw [if_pos rfl]
      have hy : ∀ v, yieldOut ge v = yieldValue v := fun v => by simp only [yieldOut, hco, Bool.false_eq_true, if_false]
      simp only [hy]
      rw [Sem.bind_eq_wrap', Sem.bind_eq_wrap', Sem.wrap_wrap, Sem.wrap_wrap]
      have run2 := hel.run _ s3 [some v] H3 _ I3 (step v H3 yl)
      rw [eE, eX] at run2
      refine seg_wrap (eA ▸ GenW.wpAny_gsz sz3 (wpAny_mono (eP ▸ eW ▸ run2) (fun z s4 ⟨zv, H4, I4, rz, b, ez, q⟩ sz4 => ?_) fun _ _ e _ => e.elim))
      subst ez
      have ez' : z = .bool b := rz
      subst ez'
      have hn : n0 - i = (n0 - (i + 1)) + 1 := by omega
      have hm : n0 - (n0 - (i + 1)) = i + 1 := by omega
      rw [hn]
      have st4 : tn (i + 1) s4.heap := T.keep _ _ _ st2 fun b hb o e => (I4.pin (b, o) (List.mem_append_right _ (List.mem_append_right _ (mem_pinsAt hb e)))).1
      have fr4 : ∀ b ∈ fp, H4 b = none := fun b hb => by
        obtain ⟨o, e, d⟩ := T.obj _ _ st2 b hb
        exact (I4.pin (b, o) (List.mem_append_right _ (List.mem_append_right _ (mem_pinsAt hb e)))).2.1
      refine seg_at (seg_yield rfl rfl rfl ⟨b, rfl, fun hb => ?_, fun hb => ?_⟩)
      · rw [hb, if_pos rfl] at q
        rw [hm]
        exact ⟨⟨⟨H4, _, I4.unpinned, st4, stat fo fr4, q⟩, sz4⟩, fun s'' gi => seg_again rfl (ih (i + 1) s'' s'' (by omega) gi)⟩
      · rw [hb, if_neg Bool.false_ne_true] at q
        exact ⟨H4, _, I4.unpinned, q⟩
    · refine seg_bind_wrap (eA ▸ wpAny_mono (T.done Xg eP eW eK eC i _ s [y] H (fun _ _ => False) I fo st stop) (fun r s1 ⟨hr, I1⟩ => ?_) fun _ _ e => e.elim)
      subst hr
      exact seg_end (.ok .next) ⟨rfl, H, y, I1, qt⟩
/-- the generator as its consumer has it -/
def CSt (M : Model) (A : Around) (R : GenEnd) (Y : Protocol) (GI : Nat → Shared → Prop) (g n0 i : Nat) (s : Shared) : Prop :=
  GI i s ∧ ∃ gs, s.gens[g]? = some gs ∧ ∀ s'', GI i s'' → gs.Goes M A R Y (n0 - i) (.send .none) s''
theorem Inv.gens {Xg : Cx} {pins : List (Addr × Obj)} {σ : L2.St} {H : Hp} {s : Shared} {gs : Array GenState} (I : Inv Xg pins σ H s) (h : AllBare gs) : Inv Xg pins σ H { s with gens := gs } :=
  ⟨I.ok, I.os, h, I.base, I.loc, I.cell, I.free, I.freeC, I.pin, I.hok, I.len⟩
theorem GIn.set {Xg : Cx} {i : Nat} {s : Shared} {gs : GenState} (h : GIn Xg fp tn ga go g W i s) (hb : gs.bare = true) : GIn Xg fp tn ga go g W i (s.setGen g gs) := by
  obtain ⟨⟨H, y, I, st, fo, w⟩, sz⟩ := h
  refine ⟨⟨H, y, Inv.gens I (L2.allBare_setGen I.bare hb), st, fo, w⟩, ?_⟩
  rw [GenW.setGen_size]
  exact sz
theorem GEd.set {Xg : Cx} {s : Shared} {gs : GenState} {Qe : Hp → Prop} (h : GEd Xg ga go Qe s) (hb : gs.bare = true) : GEd Xg ga go Qe (s.setGen g gs) := by
  obtain ⟨H, y, I, q⟩ := h
  exact ⟨H, y, Inv.gens I (L2.allBare_setGen I.bare hb), q⟩
theorem gen_next {Xg : Cx} {E : Value → Shared → Prop} {s : Shared} {i : Nat} (hc : go.cls = .type "generator") (hd : ∃ nm qn, go.data = .fields #[.int g 0, nm, qn]) (hs : go.slots = #[]) (hh : A.handled = none) (hroom : A.depth < recursionLimit)
    (h : CSt (model X.prog X.w) A.in1 (RG (GEd Xg ga go Qt)) (YG (GIn Xg fp tn ga go g W) (GEd Xg ga go Qf) n0) (GIn Xg fp tn ga go g W) g n0 i s) :
    wpAny (model X.prog X.w) A (pyNext (.ref ga)) (fun r s' => (r = some (.bool true) ∧ i < n0 ∧ CSt (model X.prog X.w) A.in1 (RG (GEd Xg ga go Qt)) (YG (GIn Xg fp tn ga go g W) (GEd Xg ga go Qf) n0) (GIn Xg fp tn ga go g W) g n0 (i + 1) s') ∨
      (r = some (.bool false) ∧ GEd Xg ga go Qf s') ∨ (r = none ∧ GEd Xg ga go Qt s')) E s := by
  obtain ⟨gi, gs, hgs, hgo⟩ := h
  obtain ⟨nm, qn, hd⟩ := hd
  have hg : s.heap.IsGen ga g := by
    obtain ⟨⟨H, y, I, _⟩, _⟩ := gi
    exact ⟨go, nm, qn, (I.pin (ga, go) (List.mem_append_right _ (List.mem_singleton.mpr rfl))).1, hc, hd, hs⟩
  have hl : s.heap.NoLimit := by
    obtain ⟨⟨H, y, I, _⟩, _⟩ := gi
    exact I.nolimit
  refine wpAny_pyNext_genexpQ (P := fun _ _ s₁ => GEd Xg ga go Qt s₁) hh hl hroom hg hgs (hgo _ (gi.set rfl)) (fun v s₁ gs' hb hv => ?_) (fun s₁ hp h' hk => ?_)
  · obtain ⟨b, rfl, ht, hf⟩ := hv
    cases b with
    | false => exact .inr (.inl ⟨rfl, (hf rfl).set hb⟩)
    | true =>
      obtain ⟨g1, g2⟩ := ht rfl
      cases hn : n0 - i with
      | zero =>
        rw [hn] at g1 g2
        exact (g2 s₁ g1).elim
      | succ m =>
        rw [hn] at g1 g2
        have e : n0 - (m + 1 - 1) = i + 1 := by omega
        rw [e] at g1 g2
        refine .inl ⟨rfl, by omega, g1.set hb, gs', L2.setGen_at (Nat.lt_of_succ_le g1.sz), fun s'' gi'' => ?_⟩
        have e2 : n0 - (i + 1) = m := by omega
        rw [e2]
        exact g2 s'' gi''
  · obtain ⟨H, y, I, q⟩ := hp
    refine .inr (.inr ⟨rfl, H, y, ?_, q⟩)
    have I2 := Inv.gens (gs := (s₁.setGen g .finished).gens) I (L2.allBare_setGen I.bare rfl)
    exact I2.kept (t' := s₁.toks) hk
theorem all_loopX {Xg : Cx} {R : Result → Shared → Prop} (hc : go.cls = .type "generator") (hd : ∃ nm qn, go.data = .fields #[.int g 0, nm, qn]) (hs : go.slots = #[]) (hh : A.handled = none) (hroom : A.in1.depth < recursionLimit)
    (hT : ∀ s', GEd Xg ga go Qt s' → R (.ok (.ret (.bool true))) s') (hF : ∀ s', GEd Xg ga go Qf s' → R (.ok (.ret (.bool false))) s') : ∀ (k i : Nat) (s : Shared), n0 - i = k →
    CSt (model X.prog X.w) A.in1.in1 (RG (GEd Xg ga go Qt)) (YG (GIn Xg fp tn ga go g W) (GEd Xg ga go Qf) n0) (GIn Xg fp tn ga go g W) g n0 i s → codeAny (model X.prog X.w) A (.builtin "all.loop" ⟨[.ref ga], []⟩) R s := by
  intro k
  induction k with
  | zero =>
    intro i s hk cs
    refine codeAny_builtin F.entry_all_loop ?_
    rw [Around.under_plainId F.plain_all_loop _]
    show wpAny _ A.in1 (pyNext (.ref ga) >>= _) _ _ s
    refine wpAny_bind (wpAny_mono (gen_next hc hd hs hh hroom cs) (fun r s' h => ?_) fun _ _ e => e)
    rcases h with ⟨rfl, lt, _⟩ | ⟨rfl, q⟩ | ⟨rfl, q⟩
    · omega
    · refine wpAny_bind (wpAny_holding (wpAny_truthy_bool ?_))
      refine wpAny_bind (wpAny_letGo ?_)
      simp only [Bool.false_eq_true, if_false]
      exact wpAny_bind (wpAny_rule (wpAny_pure (hF s' q)))
    · exact wpAny_bind (wpAny_rule (wpAny_pure (hT s' q)))
  | succ k ih =>
    intro i s hk cs
    refine codeAny_builtin F.entry_all_loop ?_
    rw [Around.under_plainId F.plain_all_loop _]
    show wpAny _ A.in1 (pyNext (.ref ga) >>= _) _ _ s
    refine wpAny_bind (wpAny_mono (gen_next hc hd hs hh hroom cs) (fun r s' h => ?_) fun _ _ e => e)
    rcases h with ⟨rfl, lt, cs'⟩ | ⟨rfl, q⟩ | ⟨rfl, q⟩
    · refine wpAny_bind (wpAny_holding (wpAny_truthy_bool ?_))
      refine wpAny_bind (wpAny_letGo ?_)
      simp only [if_true]
      exact wpAny_pure ⟨plainId_quiet F.plain_all_loop _, ih (i + 1) s' (by omega) cs'⟩
    · refine wpAny_bind (wpAny_holding (wpAny_truthy_bool ?_))
      refine wpAny_bind (wpAny_letGo ?_)
      simp only [Bool.false_eq_true, if_false]
      exact wpAny_bind (wpAny_rule (wpAny_pure (hF s' q)))
    · exact wpAny_bind (wpAny_rule (wpAny_pure (hT s' q)))
end
end Ey
set_option maxHeartbeats 4000000
namespace Ey
open PySem PySem.Spec PyProof.Rows L2 GxR
section
variable {X : Cx} {pins : List (Addr × Obj)} {σ : L2.St} {H : Hp} {s : Shared}
/-- the generator's frame begins -/
theorem inv_gx {A : Around} {sc : Scope} {x : Str} {fp : List Addr} {code : Value} {h5 : Heap} {g5 : Array GenState} {t5 : Nat} {m : Str → Option Value} (I : Inv X pins σ H s)
    (hk : sc.kind = .function) (hc : ∀ y ∈ sc.names, y.2 ≠ .cell) (hf : ∀ y ∈ sc.names, y.2 ≠ .free) (hns : h5.Ns s.heap.objs.size m) (keep : ∀ b o, s.heap.get? b = some o → h5.get? b = some o) (bare : AllBare g5) (hh : A.handled = none)
    (fr : A.frames = some (genEnv sc [] s.heap.objs.size code builtinsNs X.env :: X.stack)) (ho : ∀ b ∈ fp, FpOk X pins H b ∧ b < s.heap.objs.size) :
    Inv (gxOf X A s H (genEnv sc [] s.heap.objs.size code builtinsNs X.env) x fp) [] [none] H { s with heap := h5, gens := g5, toks := t5 } := by
  have nofs : ∀ b ∈ fp, b ∉ frs X.stack := fun b hb z => by
    obtain ⟨⟨_, h1, h2, _⟩, _⟩ := ho b hb
    rcases List.mem_cons.mp (I.stkSub b z) with q | q
    · exact h1 q
    · exact h2 q
  refine ⟨⟨I.ok.mod, hk, I.ok.glob, rfl, Nat.le_refl _, fun y z c e _ => ?_, fun y hy => ?_, fun y c e _ => ?_, fun _ => hh, fr, .inr ⟨rfl, rfl⟩, fun b hb => ⟨Nat.ne_of_lt (ho b hb).2, fun y c e => ?_⟩, fun b o e => I.bs b o e, Nat.le_trans I.ok.bsz I.sz, fun b o e hb => ?_, fun b hb => nofs b hb, I.stack, I.stkFree⟩,
    rfl, bare, Un.kept keep, ⟨m, hns, fun i y v h1 h2 _ => ?_⟩, fun y c e => ?_, I.hok.fresh (Nat.le_refl _), fun y c e => ?_, fun p hp => ?_, I.hok.kept keep, rfl⟩
  · exact absurd e (by intro z; cases z)
  · have hy' : sc.names.lookup y = some .cell ∨ sc.names.lookup y = some .free := hy
    rcases hy' with q | q
    · exact absurd rfl (hc _ (PySem.mem_of_lookup q))
    · exact absurd rfl (hf _ (PySem.mem_of_lookup q))
  · exact absurd e (by intro z; cases z)
  · exact absurd e (by intro z; cases z)
  · obtain ⟨⟨_, _, _, h3, _⟩, _⟩ := ho b hb
    rcases h3 with q | q
    · exact I.ok.noex b o e q
    · exact Nat.lt_irrefl _ (Nat.lt_of_lt_of_le (Heap.lt_size e) (Nat.le_trans I.ok.bsz q))
  · cases i with
    | zero => cases h2
    | succ i => cases h2
  · exact absurd e (by intro z; cases z)
  · exact absurd e (by intro z; cases z)
  · exact absurd hp (by intro z; cases z)
/-- all(e for x in it): the table of the running def's code may have grown; then, item by item -/
def tAllX (P : Addr) (wi : TI) (te : TE) : TE := fun σ H Q => wi σ H fun J H1 => TabG H1 P ∧ ∀ H2, Tabbed P H1 H2 → ∃ (n0 : Nat) (W : Nat → Hp → Prop), W 0 H2 ∧
  ∀ i H', W i H' → (i < n0 ∧ J.go i H' ∧ ∀ v H'', J.yld i H' v H'' → te [some v] H'' fun y H3 => ∃ b, y = .bl b ∧ if b = true then W (i + 1) H3 else Q (.bl false) H3) ∨ (J.stop i H' ∧ Q (.bl true) H')
theorem pe_allX {c P : Addr} {elt iter : Expr} {x : Str} {px p pos gp : Pos} {sc : Scope} {wi : TI} {te : TE} {k : Nat}
    (hr : Room (k + 2) X.A) (hg : Gl X "all") (hm : X.mg "all" = none) (hb : bootBuiltins "all" = some (.builtin "all")) (TB : TabB X.base X.mg c P) (hco : X.env.code = .ref c) (S : GenS X.env sc x) (nf : ∀ y ∈ sc.names, y.2 ≠ .free)
    (hi : PI X (.Name x px) iter wi)
    (hel : ∀ (A : Around) (s : Shared) (H : Hp) (C : Addr) (code : Value) (fp : List Addr), Room k A → PE (gxOf X A s H (genEnv sc [] C code builtinsNs X.env) x fp) elt te)
    (hs : ∀ v, genFold iter X.env v = pure v) (hcl : cloFrom X.env.cells sc.names [] = [] := by rfl)
    (he : starEach [.GeneratorExp elt [⟨.Name x px, iter, [], 0⟩] sc gp] X.env = (false, eval (.GeneratorExp elt [⟨.Name x px, iter, [], 0⟩] sc gp) X.env) :: starEach [] X.env := by rfl) :
    PE X (.Call (.Name "all" p) [.GeneratorExp elt [⟨.Name x px, iter, [], 0⟩] sc gp] [] pos) (tAllX P wi te) := by
  refine ⟨fun pins s σ H Q I h => wpAny_Call_Name_kw (ld_blt I hg hm hb ?_)⟩
  refine PyProof.Rows.callWith_builtin1 ?_ he (by rfl)
  rw [he]
  show wpAny _ _ (spliced ((false, eval (.GeneratorExp elt [⟨.Name x px, iter, [], 0⟩] sc gp) X.env) :: backTo pos (starEach [] X.env))) _ _ s
  refine Calls.spliced_cons (wpAny_GeneratorExp_make S.co (cl := []) (hcl ▸ closure_ok S.free) S.cell S.dot S.kind (Nat.lt_of_le_of_lt (by omega) hr.dp) ?_ hs)
  refine thn (hi.run pins s σ H _ I h) fun v s1 h1 => thn h1 fun itv s2 h2 => ?_
  obtain ⟨it, fp, tn, J, H1, e, J1, T, st, fo, ⟨ps, tP, tok⟩, q⟩ := h2
  subst e
  have gP : s2.heap.get? P = some { cls := .none, data := .fields ps } := J1.hok P _ tP
  have head : PySem.W.CodeHd s2.heap c P := TB.code.keeps fun b u e => J1.bk b u e
  have ncP : cStatics ≠ P := fun e => by
    obtain ⟨_, ns, _⟩ := J1.nolimit
    obtain ⟨o', es, ep, g', d', _⟩ := ns
    rw [e, gP] at g'
    cases g'
    cases d'
  have fpP : ∀ b ∈ fp, b ≠ P := fun b hb z => by
    have := (fo b hb).1
    rw [z, tP] at this
    cases this
  refine ⟨J1.nolimit, ?_⟩
  have go : ∀ (code : Value) (hN : Heap) (tk : Nat) (qs : Array Value), Heap.ExtBut P s2.heap hN → hN.get? P = some { cls := .none, data := .fields qs } → (∃ more, qs = ps ++ more) → TriplesOk qs.toList →
      wpAny (model X.prog X.w) X.A (builtinsFor X.env.globals X.env.builtins) (fun bi s₄ =>
        ∀ h', h'.Ns s₄.heap.objs.size (fun y => if y = ".0" then some (.ref it) else none) → Heap.SameBut s₄.heap.objs.size (s₄.heap.push { cls := .type "frame", data := .dict #[] }) h' →
          wpAny (model X.prog X.w) X.A (spliced (backTo pos (starEach [] X.env))) (fun us s' => wpAny (model X.prog X.w) X.A (call (.builtin "all") (.ref h'.objs.size :: us)) (EP X pins σ Q) X.xe s') X.xe { s₄ with
            gens := s₄.gens.push (.fresh (.compStart (.GeneratorExp elt [⟨.Name x px, iter, [], 0⟩] sc gp) 0 (.ref it) .none (genEnv sc [] s₄.heap.objs.size code bi X.env))),
            toks := s₄.toks + 1 + 1 + 1,
            heap := h'.push { cls := .type "generator", data := .fields #[.int s₄.gens.size 0, .str "<genexpr>" (s₄.toks + 1), .str (X.env.qual ++ "<genexpr>") (s₄.toks + 1 + 1)] } }) X.xe { s2 with heap := hN, toks := tk } := by
    intro code hN tk qs ext gPN more okN
    obtain ⟨bm, obm, e1, e2, e3, e4, e5, e6, e7, e8⟩ := TB.bm
    have stay : ∀ b u, b ≠ P → s2.heap.get? b = some u → hN.get? b = some u := fun b u nb e => ext b u nb e
    obtain ⟨mo, em⟩ := more
    subst em
    have J2 : Inv X pins σ (upd H1 P (.tbl (ps ++ mo))) { s2 with heap := hN, toks := tk } := inv_tab (more := mo) (h' := hN) (g' := s2.gens) (d' := s2.drawn) (t' := tk) J1 tP stay gPN J1.bare
    refine wpAny_builtinsFor (m := X.mg) (by rw [J1.ok.glob]; exact (J1.mod.glob.keeps J1.bk).extBut ext TB.gP) e1 e2 (stay _ _ e4 (J1.bk _ _ e5)) e6 e7 e8 ?_
    intro h' hn' hs'
    refine Calls.spliced_nil ?_
    obtain ⟨n0, W, w0, hW⟩ := q (upd H1 P (.tbl (ps ++ mo))) ⟨⟨ps ++ mo, upd_same, okN⟩, fun b nb => upd_ne nb⟩
    have sz' : h'.objs.size = hN.objs.size + 1 := by
      rw [hs'.1, Heap.size_push]
    have keep' : ∀ b o, hN.get? b = some o → h'.get? b = some o := fun b o e => hs'.extBut b o (Nat.ne_of_lt (Heap.lt_size e)) (Heap.get?_push_of_some _ e)
    generalize hgo : ({ cls := .type "generator", data := .fields #[.int s2.gens.size 0, .str "<genexpr>" (tk + 1), .str (X.env.qual ++ "<genexpr>") (tk + 1 + 1)] } : Obj) = gob
    have gc : gob.cls = .type "generator" := by rw [← hgo]
    have gd : ∃ nm qn, gob.data = .fields #[.int s2.gens.size 0, nm, qn] := ⟨_, _, by rw [← hgo]⟩
    have gs : gob.slots = #[] := by rw [← hgo]
    show wpAny (model X.prog X.w) X.A (call (.builtin "all") [.ref h'.objs.size]) (EP X pins σ Q) X.xe { s2 with
            gens := s2.gens.push (.fresh (.compStart (.GeneratorExp elt [⟨.Name x px, iter, [], 0⟩] sc gp) 0 (.ref it) .none (genEnv sc [] hN.objs.size code builtinsNs X.env))),
            toks := tk + 1 + 1 + 1, heap := h'.push gob }
    have keep5 : ∀ b o, hN.get? b = some o → (h'.push gob).get? b = some o := fun b o e => Heap.get?_push_of_some _ (keep' b o e)
    have atG : (h'.push gob).get? h'.objs.size = some gob := Heap.get?_push_size _ (by
      obtain ⟨nm, qn, e⟩ := gd
      exact Obj.isFreed_of_fields e)
    -- the frame
    generalize hge : genEnv sc [] hN.objs.size code builtinsNs X.env = ge
    have fpl : ∀ b ∈ fp, b < hN.objs.size := fun b hb => by
      obtain ⟨o, e, _⟩ := T.obj _ _ st b hb
      exact Heap.lt_size (stay b o (fpP b hb) e)
    have foN : ∀ b ∈ fp, FpOk X pins (upd H1 P (.tbl (ps ++ mo))) b := fun b hb => ⟨by rw [upd_ne (fpP b hb)]; exact (fo b hb).1, (fo b hb).2⟩
    have stN : tn 0 (h'.push gob) := T.keep _ _ _ st fun b hb o e => keep5 b o (stay b o (fpP b hb) e)
    have hAh : (X.A.in1.in1.over (gcode elt iter x px sc gp it ge) []).handled = none := hr.hd
    have hAf : (X.A.in1.in1.over (gcode elt iter x px sc gp it ge) []).frames = some (ge :: X.stack) := by
      show pushEnvs (gcode elt iter x px sc gp it ge).envs (pushEnvs [] X.A.frames) = _
      rw [J1.ok.frames]
      rfl
    have IG0 := inv_gx (A := X.A.in1.in1.over (gcode elt iter x px sc gp it ge) []) (sc := sc) (x := x) (fp := fp) (code := code) (h5 := h'.push gob)
      (g5 := s2.gens.push (.fresh (.compStart (.GeneratorExp elt [⟨.Name x px, iter, [], 0⟩] sc gp) 0 (.ref it) .none ge))) (t5 := tk + 1 + 1 + 1) J2 S.kind S.cell nf (hn'.push gob) keep5 (AllBare.push J1.bare rfl) hAh (by rw [hAf, ← hge]) (fun b hb => ⟨foN b hb, fpl b hb⟩)
    rw [hge] at IG0
    generalize hXg : gxOf X (X.A.in1.in1.over (gcode elt iter x px sc gp it ge) []) { s2 with heap := hN, toks := tk } (upd H1 P (.tbl (ps ++ mo))) ge x fp = Xg at IG0
    have gne : ∀ b ∈ fp, h'.objs.size ≠ b := fun b hb => Nat.ne_of_gt (Nat.lt_trans (fpl b hb) (by omega))
    have fpXg : ∀ b ∈ fp, FpOk Xg [(h'.objs.size, gob)] (upd H1 P (.tbl (ps ++ mo))) b := fun b hb => by
      rw [← hXg]
      refine ⟨(foN b hb).1, ?_, fun z => ?_, .inl hb, fun y cc e => ?_, fun p hp => ?_⟩
      · show b ≠ ge.locals
        rw [← hge]
        exact Nat.ne_of_lt (fpl b hb)
      · obtain ⟨_, q1, q2, _⟩ := foN b hb
        rcases List.mem_cons.mp (J2.stkSub b z) with q | q
        · exact q1 q
        · exact q2 q
      · have e' : ge.cells.lookup y = some cc := e
        rw [← hge] at e'
        cases e'
      · have hp' : p ∈ [(h'.objs.size, gob)] := hp
        rw [List.mem_singleton.mp hp']
        exact gne b hb
    have IG : Inv Xg [(h'.objs.size, gob)] [none] (upd H1 P (.tbl (ps ++ mo))) { s2 with heap := h'.push gob, gens := s2.gens.push (.fresh (.compStart (.GeneratorExp elt [⟨.Name x px, iter, [], 0⟩] sc gp) 0 (.ref it) .none ge)), toks := tk + 1 + 1 + 1 } := by
      refine IG0.pins_of fun p hp => ?_
      rw [List.mem_singleton.mp hp]
      have big : hN.objs.size < h'.objs.size := by omega
      refine ⟨atG, J2.hok.fresh (Nat.le_of_lt big), ?_, ?_, fun v e => ?_⟩
      · rw [← hXg]
        show h'.objs.size ≠ ge.locals
        rw [← hge]
        exact Nat.ne_of_gt big
      · rw [← hXg]
        intro z
        rcases List.mem_cons.mp (J2.stkSub _ z) with q | q
        · have l := J2.lt
          rw [← q] at l
          exact absurd (Nat.lt_trans big l) (Nat.lt_irrefl _)
        · exact J2.nofs (Nat.le_of_lt big) q
      · obtain ⟨nm, qn, e2⟩ := gd
        have e' : gob.data = .cell v := e
        rw [e2] at e'
        cases e'
    have back : ∀ (b : Bool) (s' : Shared), GEd Xg h'.objs.size gob (Q (.bl b)) s' → EP X pins σ Q (.bool b) s' := fun b s' ⟨H', y, K, q⟩ => by
      rw [← hXg] at K
      exact ⟨.bl b, H', J2.call' (ch := fp) K.os K.base K.hok K.bare (fun c hc => ⟨(foN c hc).2.2.2.1, (foN c hc).2.1, (foN c hc).2.2.2.2.1, (foN c hc).2.2.2.2.2⟩), rfl, q⟩
    have loopS := seg_gloop (X := X) (A := X.A.in1.in1) (sG := { s2 with heap := hN, toks := tk }) (HG := upd H1 P (.tbl (ps ++ mo))) (ge := ge) (fp := fp) (tn := tn) (ga := h'.objs.size) (go := gob) (g := s2.gens.size) (W := W) (Qf := Q (.bl false)) (Qt := Q (.bl true))
      (gp := gp) (sc := sc) (elt := elt) (iter := iter) (n0 := n0) (te := te) T (by rw [← hge]; exact S.loc) (by rw [← hge]; exact S.co) (by
        rw [← hge]
        refine hel _ _ _ _ _ _ ⟨hr.hd, ?_, ?_⟩
        · have := hr.dp
          show X.A.depth + 0 + 1 + 3 * k + 5 < _
          omega
        · have := hr.un
          show X.A.units + 1 + 1 + 0 + 3 + 16 * k + 200 < _
          omega) hW
    rw [hXg] at loopS
    have GI0 : GIn Xg fp tn h'.objs.size gob s2.gens.size W 0 { s2 with heap := h'.push gob, gens := s2.gens.push (.fresh (.compStart (.GeneratorExp elt [⟨.Name x px, iter, [], 0⟩] sc gp) 0 (.ref it) .none ge)), toks := tk + 1 + 1 + 1 } :=
      ⟨⟨_, _, IG, stN, fpXg, w0⟩, by show s2.gens.size + 1 ≤ (s2.gens.push _).size; rw [Array.size_push]; exact Nat.le_refl _⟩
    refine call_function_tree F.kind_all F.plain_all F.entry_all (F.args_all1 _) ?_
    unfold Builtin.«all»
    refine wpAny_bind (m := oneArg "all" _) (wpAny_pure ?_)
    refine wpAny_bind (wpAny_pyIter_gen ⟨gob, _, _, atG, gc, gd.choose_spec.choose_spec, gs⟩ ?_)
    refine wpAny_pure ⟨plainId_quiet F.plain_all_loop _, all_loopX (X := X) (A := X.A) (R := fun r s' => match r with | .ok (.ret v) => EP X pins σ Q v s' | .ok _ => False | .error e => X.xe e s') (Xg := Xg) (Qf := Q (.bl false)) (Qt := Q (.bl true)) (W := W) (fp := fp) (tn := tn) (n0 := n0) gc gd gs hr.hd (Nat.lt_of_le_of_lt (by show X.A.depth ≤ X.A.depth + 3 * (k + 2) + 5; omega) hr.dp) (fun s' q => back true s' q) (fun s' q => back false s' q) n0 0 _ (Nat.sub_zero _) ⟨GI0, _, Array.getElem?_push_size .., fun s'' gi => ⟨rfl, ?_⟩⟩⟩
    have loop := loopS n0 0 s'' s'' (Nat.sub_zero _) gi
    obtain ⟨_, _, _, sti, _⟩ := gi.ex
    show Seg _ X.A.in1.in1 _ _ _ s'' _ ((compStart (.GeneratorExp elt [⟨.Name x px, iter, [], 0⟩] sc gp) 0 (.ref it) .none ge).onRaise (leaving ge)) [] s''
    unfold compStart
    rw [Sem.onRaise_eq_wrap]
    show Seg _ X.A.in1.in1 _ _ _ s'' _ ((ask >>= _).wrap _ _ _ _) [] s''
    refine seg_bind_wrap (wpAny_askSetting ?_)
    split
    · exact seg_again rfl loop
    · first
        | exact seg_bind_wrap (wpAny_rule (seg_bind_wrap (wpAny_standAt (seg_bind_wrap (T.self _ 0 _ _ _ sti (seg_again rfl loop))))))
        | (refine seg_bind_wrap (wpAny_rule ?_); show Seg _ X.A.in1.in1 _ _ _ s'' _ ((standAt iter.pos >>= _).wrap _ _ _ _) [] s''; exact seg_bind_wrap (wpAny_standAt (seg_bind_wrap (T.self _ 0 _ _ _ sti (seg_again rfl loop)))))
  cases am : codeAmong gp ps.toList with
  | none =>
    refine wpAny_genexprCodeX hco (head.code gP tok) (head.tab gP) am fun c' hN tk ext hge hlt hc' _ tab' _ => ?_
    obtain ⟨o1, vs, f1, tf, fl, tg, inF, tx, tt, op, _, _, _, _, _, _, _, _, _, tr, _⟩ := hc'
    exact go _ hN tk _ ext tab'.2 ⟨_, rfl⟩ tr
  | some cv =>
    refine wpAny_genexprCode_hit hco (head.code gP tok) am ?_
    exact go cv s2.heap s2.toks ps (Heap.ExtBut.refl _ _) gP ⟨#[], by simp⟩ tok
end
end Ey
set_option maxHeartbeats 4000000
namespace Ey
open PySem PySem.Spec PyProof.Rows L2 GxR PySem.SeqAt
open AutoSeq1 (wpAny_loadPart')
open MeetsSeq MeetsSeq2 MeetsSeq3
/-! ### a dict beside a text -/
theorem dict_eq_declines_str (l : Addr) (es : Array DictEntry) (n : Nat) (dd : Option Addr) (sl : Array (Option Value)) (b : Str) (u : Tok) :
    Meets (Builtin.«dict.__eq__» ⟨[.ref l, .str b u], []⟩) (fun _ R s => s.heap.get? l = some { cls := .type "dict", dict := dd, data := .dict es n, slots := sl } ∧ R (.ok (.ret .notImplemented)) s) :=
  .of_wp fun prog w A R s h => by obtain ⟨hp, g, d, tk, os⟩ := s; obtain ⟨hl, h⟩ := h; have f1 := F.sub_str_dict; wp_walk using wpAny_loadPart' hl, wpAny_load hl; exact ⟨_, rfl, h⟩
theorem dict_ne_declines_str (l : Addr) (es : Array DictEntry) (n : Nat) (dd : Option Addr) (sl : Array (Option Value)) (b : Str) (u : Tok) :
    Meets (Builtin.«dict.__ne__» ⟨[.ref l, .str b u], []⟩) (fun _ R s => s.heap.get? l = some { cls := .type "dict", dict := dd, data := .dict es n, slots := sl } ∧ R (.ok (.ret .notImplemented)) s) :=
  .of_wp fun prog w A R s h => by obtain ⟨hp, g, d, tk, os⟩ := s; obtain ⟨hl, h⟩ := h; have f1 := F.sub_str_dict; wp_walk using wpAny_loadPart' hl, wpAny_load hl; exact ⟨_, rfl, h⟩
theorem str_eq_declines_dict (b : Str) (u : Tok) (l : Addr) (es : Array DictEntry) (n : Nat) (dd : Option Addr) (sl : Array (Option Value)) :
    Meets (Builtin.«str.__eq__» ⟨[.str b u, .ref l], []⟩) (fun _ R s => s.heap.get? l = some { cls := .type "dict", dict := dd, data := .dict es n, slots := sl } ∧ R (.ok (.ret .notImplemented)) s) :=
  .of_wp fun prog w A R s h => by obtain ⟨hp, g, d, tk, os⟩ := s; obtain ⟨hl, h⟩ := h; wp_walk using wpAny_loadPart' hl, wpAny_load hl; exact ⟨_, rfl, h⟩
theorem str_ne_declines_dict (b : Str) (u : Tok) (l : Addr) (es : Array DictEntry) (n : Nat) (dd : Option Addr) (sl : Array (Option Value)) :
    Meets (Builtin.«str.__ne__» ⟨[.str b u, .ref l], []⟩) (fun _ R s => s.heap.get? l = some { cls := .type "dict", dict := dd, data := .dict es n, slots := sl } ∧ R (.ok (.ret .notImplemented)) s) :=
  .of_wp fun prog w A R s h => by obtain ⟨hp, g, d, tk, os⟩ := s; obtain ⟨hl, h⟩ := h; wp_walk using wpAny_loadPart' hl, wpAny_load hl; exact ⟨_, rfl, h⟩
end Ey
set_option maxHeartbeats 4000000
namespace Ey
open PySem PySem.Spec PyProof.Rows L2
/-! ### data: what is a tree, what may be told -/
def isTagD : PyData → Bool
  | .str g => isTag g
  | .none | .bool _ | .int _ | .list _ | .tuple _ | .dict _ => false
def tri : List PyData → List Bool → Bool
  | [x, _, _], [_, b, c] => isTagD x && (b && c)
  | _, _ => false
mutual
def isT : PyData → Bool
  | .none => true
  | .tuple ds => tri ds (isTs ds)
  | .bool _ | .int _ | .str _ | .list _ | .dict _ => false
def isTs : List PyData → List Bool
  | [] => []
  | x :: r => isT x :: isTs r
end
mutual
def fit : PyData → Bool
  | .none | .bool _ => true
  | .int i => decide (i.natAbs < 10 ^ 40)
  | .str x => x.cps.toList.all fun c => decide (c < 1000)
  | .list ds | .tuple ds => fitAll ds
  | .dict kvs => fitKv kvs
def fitAll : List PyData → Bool
  | [] => true
  | x :: r => fit x && fitAll r
def fitKv : List (PyData × PyData) → Bool
  | [] => true
  | (k, v) :: r => (fit k && fit v) && fitKv r
end
mutual
def wd : PyData → Nat
  | .none => 4
  | .bool _ => 5
  | .int _ => 45
  | .str x => 10 * x.length + 2
  | .list ds | .tuple ds => wdAll ds + 3
  | .dict kvs => wdKv kvs + 3
def wdAll : List PyData → Nat
  | [] => 0
  | x :: r => wd x + 2 + wdAll r
def wdKv : List (PyData × PyData) → Nat
  | [] => 0
  | (k, v) :: r => wd k + wd v + 4 + wdKv r
end
theorem nat_len {n : Nat} (h : n < 10 ^ 40) : (Str.ofString (toString (n : Int))).length ≤ 40 := by
  rw [ofString_len]
  show (Nat.repr n).length ≤ 40
  have e : (Nat.repr n).length = (Nat.toDigits 10 n).length := by
    unfold Nat.repr
    simp
  rw [e]
  exact digits10_le (by decide) h
theorem int_ok (i : Int) (h : i.natAbs < 10 ^ 40) : i.natAbs.log2 < 1920 ∧ (PyData.shown (.int i)).length ≤ 45 := by
  refine ⟨?_, ?_⟩
  · by_cases h0 : i.natAbs = 0
    · rw [h0]
      decide
    · rw [Nat.log2_lt h0]
      exact Nat.lt_trans h (by decide +kernel)
  · show (Str.ofString (toString i)).length ≤ 45
    by_cases hn : i < 0
    · rw [len_text_neg hn]
      obtain ⟨n, e⟩ : ∃ n : Nat, 0 - i = (n : Int) := ⟨(0 - i).toNat, by omega⟩
      rw [e]
      have := nat_len (n := n) (by omega)
      omega
    · obtain ⟨n, rfl⟩ : ∃ n : Nat, i = (n : Int) := ⟨i.toNat, by omega⟩
      have := nat_len (n := n) (by simpa using h)
      omega
theorem lenD (ts : List Str) : (listText ts).length ≤ piled ts + 2 := by
  have q1 : ("[" : Str).length = 1 := by decide +kernel
  have q2 : ("]" : Str).length = 1 := by decide +kernel
  unfold listText
  rw [len_app, q2]
  cases ts with
  | nil =>
    show (textFrom 0 "[" []).length + 1 ≤ _
    unfold textFrom
    rw [q1]
    omega
  | cons t r =>
    show (textFrom 1 (("[" : Str) ++ Str.ofString "" ++ t) r).length + 1 ≤ piled (t :: r) + 2
    have e : (Str.ofString "").length = 0 := by decide +kernel
    rw [textFrom_length_pos r 1 _ (by decide), len_app, len_app, q1, e, piled_cons]
    omega
theorem joinD (ts : List Str) : (Str.join ", " ts).length ≤ piled ts := by
  cases ts with
  | nil => exact Nat.zero_le _
  | cons t r =>
    have := join_length_add (t :: r) (by simp)
    omega
theorem lenT (ts : List Str) : (tupleText ts).length ≤ piled ts + 3 := by
  have q1 : ("(" : Str).length = 1 := by decide +kernel
  have q2 : (Str.ofString ",)").length = 2 := by decide +kernel
  have q3 : (Str.ofString ")").length = 1 := by decide +kernel
  have q : (Str.ofString (if (ts.length == 1) = true then ",)" else ")")).length ≤ 2 := by
    split
    · rw [q2]
      exact Nat.le_refl _
    · rw [q3]
      decide
  have := joinD ts
  unfold tupleText
  rw [len_app, len_app, q1]
  omega
theorem lenK (ts : List Str) : (dictText ts).length ≤ piled ts + 3 := by
  have q1 : ("{" : Str).length = 1 := by decide +kernel
  have q2 : ("}" : Str).length = 1 := by decide +kernel
  have := joinD ts
  unfold dictText
  rw [len_app, len_app, q1, q2]
  omega
mutual
theorem fit_told : ∀ d : PyData, fit d = true → d.showable = true ∧ d.shown.length ≤ wd d
  | .none, _ => ⟨rfl, by show ("None" : Str).length ≤ 4; decide +kernel⟩
  | .bool b, _ => ⟨rfl, by
      show (PyData.shown (.bool b)).length ≤ 5
      cases b <;> decide +kernel⟩
  | .int i, h => by
    have a := int_ok i (of_decide_eq_true h)
    exact ⟨decide_eq_true a.1, a.2⟩
  | .str x, h => by
    refine ⟨rfl, StrLaws.reprText_len x fun c hc => ?_⟩
    have h2 : (x.cps.toList.all fun c => decide (c < 1000)) = true := h
    exact Nat.lt_of_lt_of_le (of_decide_eq_true (List.all_eq_true.mp h2 c hc)) (by decide)
  | .list ds, h => by
    obtain ⟨a, b⟩ := fit_tolds ds h
    exact ⟨a, Nat.le_trans (lenD _) (by show piled (PyData.shownAll ds) + 2 ≤ wdAll ds + 3; omega)⟩
  | .tuple ds, h => by
    obtain ⟨a, b⟩ := fit_tolds ds h
    exact ⟨a, Nat.le_trans (lenT _) (by show piled (PyData.shownAll ds) + 3 ≤ wdAll ds + 3; omega)⟩
  | .dict kvs, h => by
    obtain ⟨a, b⟩ := fit_toldKv kvs h
    exact ⟨a, Nat.le_trans (lenK _) (by show piled (PyData.shownKv kvs) + 3 ≤ wdKv kvs + 3; omega)⟩
theorem fit_tolds : ∀ ds : List PyData, fitAll ds = true → PyData.showableAll ds = true ∧ piled (PyData.shownAll ds) ≤ wdAll ds
  | [], _ => ⟨rfl, Nat.le_refl _⟩
  | x :: r, h => by
    have h2 : (fit x && fitAll r) = true := h
    rw [Bool.and_eq_true] at h2
    obtain ⟨a, b⟩ := fit_told x h2.1
    obtain ⟨c, d⟩ := fit_tolds r h2.2
    refine ⟨?_, ?_⟩
    · show (x.showable && PyData.showableAll r) = true
      rw [a, c]
      rfl
    · show piled (x.shown :: PyData.shownAll r) ≤ wd x + 2 + wdAll r
      rw [piled_cons]
      omega
theorem fit_toldKv : ∀ kvs : List (PyData × PyData), fitKv kvs = true → PyData.showableKv kvs = true ∧ piled (PyData.shownKv kvs) ≤ wdKv kvs
  | [], _ => ⟨rfl, Nat.le_refl _⟩
  | (k, v) :: r, h => by
    have h2 : ((fit k && fit v) && fitKv r) = true := h
    rw [Bool.and_eq_true, Bool.and_eq_true] at h2
    obtain ⟨a, b⟩ := fit_told k h2.1.1
    obtain ⟨a2, b2⟩ := fit_told v h2.1.2
    obtain ⟨c, d⟩ := fit_toldKv r h2.2
    refine ⟨?_, ?_⟩
    · show (k.showable && v.showable && PyData.showableKv r) = true
      rw [a, a2, c]
      rfl
    · show piled ((k.shown ++ ": " ++ v.shown) :: PyData.shownKv r) ≤ wd k + wd v + 4 + wdKv r
      have q : (Str.ofString ": ").length = 2 := by decide +kernel
      rw [piled_cons, len_app, len_app, q]
      omega
end
/-! ### trees as data -/
theorem td_isT : ∀ t : Tr, t.ok → isT (td t) = true
  | .nil, _ => rfl
  | .nd g l r, h => by
    show (isTag g && (isT (td l) && isT (td r))) = true
    rw [h.1, td_isT l h.2.1, td_isT r h.2.2]
    rfl
theorem tag_low {g : Str} (h : isTag g = true) : ∀ c ∈ g.cps.toList, c < 1000 := fun c hc => by
  simp only [isTag, Bool.and_eq_true, List.all_eq_true, decide_eq_true_eq] at h
  have := h.2 c hc
  simp only [abc, List.mem_cons, List.not_mem_nil, or_false] at this
  omega
theorem td_fit : ∀ t : Tr, t.ok → fit (td t) = true
  | .nil, _ => rfl
  | .nd g l r, h => by
    have a : (g.cps.toList.all fun c => decide (c < 1000)) = true := List.all_eq_true.mpr fun c hc => decide_eq_true (tag_low h.1 c hc)
    show ((g.cps.toList.all fun c => decide (c < 1000)) && (fit (td l) && (fit (td r) && true))) = true
    rw [a, td_fit l h.2.1, td_fit r h.2.2]
    rfl
theorem td_wd : ∀ t : Tr, t.ok → wd (td t) ≤ 100 * t.sz + 4
  | .nil, _ => Nat.le_refl _
  | .nd g l r, h => by
    have a := td_wd l h.2.1
    have b := td_wd r h.2.2
    have c := tag_len h.1
    show (10 * g.length + 2) + 2 + (wd (td l) + 2 + (wd (td r) + 2 + 0)) + 3 ≤ 100 * (l.sz + r.sz + 1) + 4
    omega
theorem sz_wd : ∀ t : Tr, t.sz ≤ wd (td t)
  | .nil => Nat.zero_le _
  | .nd g l r => by
    have a := sz_wd l
    have b := sz_wd r
    show l.sz + r.sz + 1 ≤ (10 * g.length + 2) + 2 + (wd (td l) + 2 + (wd (td r) + 2 + 0)) + 3
    omega
theorem ht_depth : ∀ t : Tr, t.ht ≤ (td t).depth
  | .nil => Nat.le_refl _
  | .nd g l r => by
    have a := ht_depth l
    have b := ht_depth r
    show max l.ht r.ht + 1 ≤ max 0 (max (td l).depth (max (td r).depth 0)) + 1
    omega
mutual
theorem isT_td : ∀ d : PyData, isT d = true → ∃ t : Tr, t.ok ∧ td t = d
  | .none, _ => ⟨.nil, trivial, rfl⟩
  | .bool _, h => by cases h
  | .int _, h => by cases h
  | .str _, h => by cases h
  | .list _, h => by cases h
  | .dict _, h => by cases h
  | .tuple ds, h => isTs_td ds h
theorem isTs_td : ∀ ds : List PyData, tri ds (isTs ds) = true → ∃ t : Tr, t.ok ∧ td t = .tuple ds
  | [], h => by cases h
  | [_], h => by cases h
  | [_, _], h => by cases h
  | _ :: _ :: _ :: _ :: _, h => by cases h
  | [x, a, b], h => by
    have h2 : (isTagD x && (isT a && isT b)) = true := h
    rw [Bool.and_eq_true, Bool.and_eq_true] at h2
    obtain ⟨l, ol, el⟩ := isT_td a h2.2.1
    obtain ⟨r, or', er⟩ := isT_td b h2.2.2
    cases x with
    | str g => exact ⟨.nd g l r, ⟨h2.1, ol, or'⟩, by rw [td, el, er]⟩
    | none => cases h2.1
    | bool _ => cases h2.1
    | int _ => cases h2.1
    | list _ => cases h2.1
    | tuple _ => cases h2.1
    | dict _ => cases h2.1
end
/-! ### data in the heap, none of its lists and dicts at ms -/
def kD : Key → PyData
  | .inl i => .int i
  | .inr x => .str x
mutual
inductive An (ms : List Addr) (H : Hp) : V → PyData → Prop
  | non : An ms H .non .none
  | bl (b : Bool) : An ms H (.bl b) (.bool b)
  | int (i : Int) : An ms H (.int i) (.int i)
  | str (x : Str) : An ms H (.str x) (.str x)
  | lst {a : Addr} {xs : List V} {ds : List PyData} : H a = some (.lst xs) → a ∉ ms → AnAll ms H xs ds → An ms H (.ref a) (.list ds)
  | tup {a : Addr} {xs : List V} {ds : List PyData} : H a = some (.tup xs) → AnAll ms H xs ds → An ms H (.ref a) (.tuple ds)
  | dct {a : Addr} {kvs : List (Key × V)} {ds : List (PyData × PyData)} : H a = some (.dK kvs) → a ∉ ms → AnKv ms H kvs ds → An ms H (.ref a) (.dict ds)
inductive AnAll (ms : List Addr) (H : Hp) : List V → List PyData → Prop
  | nil : AnAll ms H [] []
  | cons {v : V} {vs : List V} {d : PyData} {ds : List PyData} : An ms H v d → AnAll ms H vs ds → AnAll ms H (v :: vs) (d :: ds)
inductive AnKv (ms : List Addr) (H : Hp) : List (Key × V) → List (PyData × PyData) → Prop
  | nil : AnKv ms H [] []
  | cons {k : Key} {v : V} {kvs : List (Key × V)} {d : PyData} {ds : List (PyData × PyData)} : An ms H v d → AnKv ms H kvs ds → AnKv ms H ((k, v) :: kvs) ((kD k, d) :: ds)
end
section
variable {ms ms' : List Addr} {H H1 : Hp}
mutual
theorem An.kp (k : Kp ms' H H1) (hs : ∀ x ∈ ms', x ∈ ms) : ∀ {v : V} (d : PyData), An ms H v d → An ms H1 v d
  | _, .none, h => by cases h; exact .non
  | _, .bool b, h => by cases h; exact .bl b
  | _, .int i, h => by cases h; exact .int i
  | _, .str x, h => by cases h; exact .str x
  | _, .list ds, h => by
    cases h with
    | lst e n a => exact .lst (k.at_ _ _ e fun q => n (hs _ q)) n (AnAll.kp k hs ds a)
  | _, .tuple ds, h => by
    cases h with
    | tup e a => exact .tup (k.tup _ _ e) (AnAll.kp k hs ds a)
  | _, .dict ds, h => by
    cases h with
    | dct e n a => exact .dct (k.at_ _ _ e fun q => n (hs _ q)) n (AnKv.kp k hs ds a)
theorem AnAll.kp (k : Kp ms' H H1) (hs : ∀ x ∈ ms', x ∈ ms) : ∀ {vs : List V} (ds : List PyData), AnAll ms H vs ds → AnAll ms H1 vs ds
  | _, [], h => by cases h; exact .nil
  | _, d :: r, h => by
    cases h with
    | cons a b => exact .cons (An.kp k hs d a) (AnAll.kp k hs r b)
theorem AnKv.kp (k : Kp ms' H H1) (hs : ∀ x ∈ ms', x ∈ ms) : ∀ {vs : List (Key × V)} (ds : List (PyData × PyData)), AnKv ms H vs ds → AnKv ms H1 vs ds
  | _, [], h => by cases h; exact .nil
  | _, (y, d) :: r, h => by
    cases h with
    | cons a b => exact .cons (An.kp k hs d a) (AnKv.kp k hs r b)
end
theorem TreeAt.an {v : V} {t : Tr} (h : TreeAt H v t) : An ms H v (td t) := by
  induction h with
  | nil => exact .non
  | nd e _ _ ih1 ih2 => exact .tup e (.cons (.str _) (.cons ih1 (.cons ih2 .nil)))
theorem An.tree : ∀ (t : Tr) {v : V}, An ms H v (td t) → TreeAt H v t
  | .nil, _, h => by cases h; exact .nil
  | .nd g l r, _, h => by
    cases h with
    | tup e a =>
      cases a with
      | cons a1 a =>
        cases a1
        cases a with
        | cons a2 a =>
          cases a with
          | cons a3 a =>
            cases a
            exact .nd e (An.tree l a2) (An.tree r a3)
theorem AnAll.append {vs ws : List V} {ds es : List PyData} (h : AnAll ms H vs ds) (g : AnAll ms H ws es) : AnAll ms H (vs ++ ws) (ds ++ es) := by
  induction ds generalizing vs with
  | nil => cases h; exact g
  | cons d r ih =>
    cases h with
    | cons a b => exact .cons a (ih b)
theorem AnAll.length {vs : List V} {ds : List PyData} (h : AnAll ms H vs ds) : vs.length = ds.length := by
  induction ds generalizing vs with
  | nil => cases h; rfl
  | cons d r ih =>
    cases h with
    | cons a b => rw [List.length_cons, List.length_cons, ih b]
theorem AnAll.take {vs : List V} {ds : List PyData} (h : AnAll ms H vs ds) (n : Nat) : AnAll ms H (vs.take n) (ds.take n) := by
  induction ds generalizing vs n with
  | nil =>
    cases h
    rw [List.take_nil, List.take_nil]
    exact .nil
  | cons d r ih =>
    cases h with
    | cons a b =>
      cases n with
      | zero => exact .nil
      | succ n => exact .cons a (ih b n)
theorem AnAll.drop {vs : List V} {ds : List PyData} (h : AnAll ms H vs ds) (n : Nat) : AnAll ms H (vs.drop n) (ds.drop n) := by
  induction ds generalizing vs n with
  | nil =>
    cases h
    rw [List.drop_nil, List.drop_nil]
    exact .nil
  | cons d r ih =>
    cases h with
    | cons a b =>
      cases n with
      | zero => exact .cons a b
      | succ n => exact ih b n
theorem AnAll.rev {vs : List V} {ds : List PyData} (h : AnAll ms H vs ds) : AnAll ms H vs.reverse ds.reverse := by
  induction ds generalizing vs with
  | nil => cases h; exact .nil
  | cons d r ih =>
    cases h with
    | cons a b =>
      rw [List.reverse_cons, List.reverse_cons]
      exact (ih b).append (.cons a .nil)
theorem AnAll.get {vs : List V} {ds : List PyData} (h : AnAll ms H vs ds) {i : Nat} {v : V} (e : vs[i]? = some v) : ∃ d, ds[i]? = some d ∧ An ms H v d := by
  induction ds generalizing vs i with
  | nil => cases h; cases e
  | cons d r ih =>
    cases h with
    | cons a b =>
      cases i with
      | zero =>
        cases e
        exact ⟨d, rfl, a⟩
      | succ i => exact ih b e
/-- all at ms is tracked -/
def Has (ms : List Addr) (H : Hp) : Prop := ∀ b ∈ ms, H b ≠ none
theorem Has.fresh {p : Addr} (h : Has ms H) (n : H p = none) : p ∉ ms := fun q => h p q n
theorem Has.new {p : Addr} {o : HO} (h : Has ms H) : Has ms (upd H p o) := fun b q => by
  by_cases e : b = p
  · rw [e, upd_same]
    exact fun z => nomatch z
  · rw [upd_ne e]
    exact h b q
theorem Has.kp (h : Has ms H) (k : Kp ms' H H1) (hs : ∀ b ∈ ms', H1 b ≠ none) : Has ms H1 := fun b q => by
  by_cases m : b ∈ ms'
  · exact hs b m
  · cases e : H b with
    | none => exact absurd e (h b q)
    | some o =>
      rw [k.at_ b o e m]
      exact fun z => nomatch z
end
section
variable {X : Cx} {pins : List (Addr × Obj)} {σ : L2.St} {H : Hp} {s : Shared} {ms : List Addr}
theorem low (I : Inv X pins σ H s) (hs : ∃ mm, X.base.Ns sysModules mm) {a : Addr} {o : HO} (e : H a = some o) : a ≠ sysModules := by
  rintro rfl
  obtain ⟨mm, ob, es, ep, g, _⟩ := hs
  rw [(I.bs _ _ g).2] at e
  cases e
theorem key_reads (k : Key) (y : Value) (h : keyIs k y = true) : Reads s.heap y (kD k) [] := by
  rcases keyIs_shape h with ⟨i, t, rfl, rfl⟩ | ⟨x, t, rfl, rfl⟩
  · exact .int i t
  · exact .str x t
mutual
theorem An.reads (I : Inv X pins σ H s) (hs : ∃ mm, X.base.Ns sysModules mm) : ∀ {v : V} {u : Value} (d : PyData), An ms H v d → RelV v u → ∃ as, Reads s.heap u d as ∧ sysModules ∉ as
  | _, _, .none, h, r => by
    cases h
    cases r
    exact ⟨_, .none, List.not_mem_nil⟩
  | _, _, .bool b, h, r => by
    cases h
    cases r
    exact ⟨_, .bool b, List.not_mem_nil⟩
  | _, _, .int i, h, r => by
    cases h
    obtain ⟨t, rfl⟩ := r
    exact ⟨_, .int i t, List.not_mem_nil⟩
  | _, _, .str x, h, r => by
    cases h
    obtain ⟨t, rfl⟩ := r
    exact ⟨_, .str x t, List.not_mem_nil⟩
  | _, _, .list ds, h, r => by
    cases h with
    | @lst a xs _ e n hd =>
      cases r
      obtain ⟨_, its, m, rv, at0⟩ := (show ObjOk X.prog X.w H s.heap a (.lst xs) from I.hok a _ e)
      obtain ⟨as, q, nq⟩ := AnAll.reads I hs ds hd rv
      refine ⟨_, .list at0 rfl rfl q, fun z => ?_⟩
      rcases List.mem_cons.mp z with z | z
      · exact low I hs e z.symm
      · exact nq z
  | _, _, .tuple ds, h, r => by
    cases h with
    | @tup a xs _ e hd =>
      cases r
      obtain ⟨_, its, rv, o, h1, h2, n, h3⟩ := (show ObjOk X.prog X.w H s.heap a (.tup xs) from I.hok a _ e)
      obtain ⟨as, q, nq⟩ := AnAll.reads I hs ds hd rv
      exact ⟨_, .tuple h1 h2 h3 q, nq⟩
  | _, _, .dict ds, h, r => by
    cases h with
    | @dct a kvs _ e n hd =>
      cases r
      obtain ⟨_, lo, vs, rk, dd⟩ := (show ObjOk X.prog X.w H s.heap a (.dK kvs) from I.hok a _ e)
      obtain ⟨as, q, nq⟩ := AnKv.reads I hs ds hd rk
      refine ⟨_, PyProof.V.reads_dictOf (fun k y hk => key_reads k y hk) dd q, fun z => ?_⟩
      rcases List.mem_cons.mp z with z | z
      · exact low I hs e z.symm
      · exact nq z
theorem AnAll.reads (I : Inv X pins σ H s) (hs : ∃ mm, X.base.Ns sysModules mm) : ∀ {vs : List V} {us : List Value} (ds : List PyData), AnAll ms H vs ds → Vals vs us → ∃ as, ReadsAll s.heap us ds as ∧ sysModules ∉ as
  | _, _, [], h, r => by
    cases h
    cases r
    exact ⟨_, .nil, List.not_mem_nil⟩
  | _, _, d :: ds, h, r => by
    cases h with
    | cons h1 h2 =>
      cases r with
      | cons r1 r2 =>
        obtain ⟨as, q1, n1⟩ := An.reads I hs d h1 r1
        obtain ⟨bs, q2, n2⟩ := AnAll.reads I hs ds h2 r2
        exact ⟨_, .cons q1 q2, fun z => (List.mem_append.mp z).elim n1 n2⟩
theorem AnKv.reads (I : Inv X pins σ H s) (hs : ∃ mm, X.base.Ns sysModules mm) : ∀ {kvs : List (Key × V)} {vs : List (Key × Value)} (ds : List (PyData × PyData)), AnKv ms H kvs ds → KV kvs vs → ∃ as, PyProof.V.PairsRead s.heap kD vs ds as ∧ sysModules ∉ as
  | _, _, [], h, r => by
    cases h
    cases r
    exact ⟨_, .nil, List.not_mem_nil⟩
  | _, _, (y, d) :: ds, h, r => by
    cases h with
    | @cons k v kvs _ _ h1 h2 =>
      cases r with
      | @cons _ b _ _ r1 r2 =>
        obtain ⟨k2, u⟩ := b
        obtain ⟨e, r1⟩ := r1
        have e' : k = k2 := e
        subst e'
        obtain ⟨as, q1, n1⟩ := An.reads I hs d h1 r1
        obtain ⟨bs, q2, n2⟩ := AnKv.reads I hs ds h2 r2
        exact ⟨_, .cons q1 q2, fun z => (List.mem_append.mp z).elim n1 n2⟩
end
/-- repr of data, dicts among it -/
def rReprA (ms : List Addr) : List V → Hp → VK → Prop := fun xs H Q =>
  ∃ v d, xs = [v] ∧ An ms H v d ∧ fit d = true ∧ d.depth ≤ 100 ∧ wd d ≤ 1000000 ∧ Q (.str d.shown) H
theorem cr_reprA {k : Nat} (hs : ∃ mm, X.base.Ns sysModules mm) (hg : X.A.guards = some []) (hr : Room k X.A) : CallR X (.builtin "repr") (rReprA ms) := by
  intro pins s σ H xs us Q I r h
  obtain ⟨v, d, rfl, hd, hf, hp, hz, q⟩ := h
  obtain ⟨u, rfl, ru⟩ := vals1 r
  obtain ⟨as, rd, ns⟩ := An.reads I hs d hd ru
  obtain ⟨sh, ln⟩ := fit_told d hf
  have z : d.shown.length ≤ sizeLine := Nat.le_trans ln (Nat.le_trans hz (by decide))
  have room : X.A.units + (d.depth + 1) < cLine := by
    have := hr.un
    omega
  have fin : ∀ (h' : Heap) (tk : Nat) (t : Tok), (∀ b o, s.heap.get? b = some o → h'.get? b = some o) → EP X pins σ Q (.str d.shown t) { s with heap := h', toks := tk } :=
    fun h' tk t hk => ⟨.str d.shown, H, I.kept hk, ⟨t, rfl⟩, q⟩
  cases rd with
  | none => exact PySem.P.repr_of_none (fin s.heap _ _ fun _ _ e => e)
  | bool b => exact PySem.P.repr_of_bool (fin s.heap _ _ fun _ _ e => e)
  | int i t => exact PySem.P.repr_of_int (of_decide_eq_true sh) (fin s.heap _ _ fun _ _ e => e)
  | str x t => exact PySem.P.repr_of_str (fin s.heap _ _ fun _ _ e => e) z
  | list a b c e => exact repr_of_reads' (.list a b c e) sh (fun _ => ns) hg room (fun _ _ e => e) (fun h' u tk hk => fin h' tk u hk) z
  | tuple a b c e => exact repr_of_reads' (.tuple a b c e) sh (fun _ => ns) hg room (fun _ _ e => e) (fun h' u tk hk => fin h' tk u hk) z
  | dict a b c e f => exact repr_of_reads' (.dict a b c e f) sh (fun _ => ns) hg room (fun _ _ e => e) (fun h' u tk hk => fin h' tk u hk) z
end
/-! ### kinds -/
def isTup : PyData → Bool
  | .tuple _ => true
  | .none | .bool _ | .int _ | .list _ | .str _ | .dict _ => false
def isStr : PyData → Bool
  | .str _ => true
  | .none | .bool _ | .int _ | .list _ | .tuple _ | .dict _ => false
theorem An.tupK {ms : List Addr} {K : PySem.W.Frag} {H : Hp} {v : V} {d : PyData} (h : An ms H v d) : ∃ t, TyX K H v t ∧ PySem.W.kitOne K t (.type "tuple") = some (isTup d) := by
  cases h with
  | non => exact ⟨_, .base .non, kit_ty (r := false) (by decide +kernel)⟩
  | bl b => exact ⟨_, .base (.bl b), kit_ty (r := false) (by decide +kernel)⟩
  | int i => exact ⟨_, .base (.int i), kit_ty (r := false) (by decide +kernel)⟩
  | str x => exact ⟨_, .base (.str x), kit_ty (r := false) (by decide +kernel)⟩
  | lst e => exact ⟨_, .base (.lst e), kit_ty (r := false) (by decide +kernel)⟩
  | tup e => exact ⟨_, .base (.tup e), kit_ty (r := true) (by decide +kernel)⟩
  | dct e => exact ⟨_, .base (.dK e), kit_ty (r := false) (by decide +kernel)⟩
theorem An.strK {ms : List Addr} {K : PySem.W.Frag} {H : Hp} {v : V} {d : PyData} (h : An ms H v d) : ∃ t, TyX K H v t ∧ PySem.W.kitOne K t (.type "str") = some (isStr d) := by
  cases h with
  | non => exact ⟨_, .base .non, kit_ty (r := false) (by decide +kernel)⟩
  | bl b => exact ⟨_, .base (.bl b), kit_ty (r := false) (by decide +kernel)⟩
  | int i => exact ⟨_, .base (.int i), kit_ty (r := false) (by decide +kernel)⟩
  | str x => exact ⟨_, .base (.str x), kit_ty (r := true) (by decide +kernel)⟩
  | lst e => exact ⟨_, .base (.lst e), kit_ty (r := false) (by decide +kernel)⟩
  | tup e => exact ⟨_, .base (.tup e), kit_ty (r := false) (by decide +kernel)⟩
  | dct e => exact ⟨_, .base (.dK e), kit_ty (r := false) (by decide +kernel)⟩
theorem An.noneK {ms : List Addr} {H : Hp} {v : V} {d : PyData} (h : An ms H v d) : v = .non ↔ d = .none := by
  cases h <;> simp
theorem isi_tup {ms : List Addr} {K : PySem.W.Frag} {H : Hp} {v : V} {d : PyData} {Q : VK} (h : An ms H v d) (q : Q (.bl (isTup d)) H) : rIsi K [v, .ty "tuple"] H Q := by
  obtain ⟨t, a, b⟩ := h.tupK (K := K)
  exact ⟨v, .ty "tuple", t, .type "tuple", _, rfl, .ty "tuple", a, b, q⟩
theorem isi_str {ms : List Addr} {K : PySem.W.Frag} {H : Hp} {v : V} {d : PyData} {Q : VK} (h : An ms H v d) (q : Q (.bl (isStr d)) H) : rIsi K [v, .ty "str"] H Q := by
  obtain ⟨t, a, b⟩ := h.strK (K := K)
  exact ⟨v, .ty "str", t, .type "str", _, rfl, .ty "str", a, b, q⟩
end Ey
set_option maxHeartbeats 4000000
namespace Ey
open PySem PySem.Spec PyProof.Rows L2 PySem.SeqAt
/-! ### any data beside a text -/
def isThe (t : Str) : PyData → Bool
  | .str g => decide (g = t)
  | .none | .bool _ | .int _ | .list _ | .tuple _ | .dict _ => false
section
variable {A : Around} {s : Shared}
theorem rcNe_dict_str {l : Addr} {o : Obj} {es : Array DictEntry} {n : Nat} (b : Str) (u : Tok) (ho : s.heap.get? l = some o) (hc : o.cls = .type "dict") (hd : o.data = .dict es n) (hu : A.units < cLine) : RcNeAt A s (.ref l) (.str b u) true := fun prog w E Q h => by
  obtain ⟨cls, dd, data, sl⟩ := o
  simp only at hc hd
  subst hc hd
  exact rc_ne_decline_or (k := false) ⟨_, ho, rfl⟩ (typeIs_str s b u) (by decide) F.sub_str_dict F.slot_dict_ne F.slot_str_ne_refl
    (fun _ hq => call_meets F.slot_dict_ne ⟨_, ho, rfl⟩ F.entry_dict_ne (F.args_dict_ne_2 _ _) (dict_ne_declines_str l es n dd sl b u) ⟨ho, hq⟩)
    (fun _ hq => call_meets F.slot_str_ne_refl (typeIs_str s b u) F.entry_str_ne (F.args_str_ne_2 _ _) (str_ne_declines_dict b u l es n dd sl) ⟨ho, hq⟩)
    (fun _ hq => wpAny_of_eq (rfl : isSame (.ref l) (.str b u) = pure false) hq) (.inr hu) h
theorem rc_str_dict {l : Addr} {o : Obj} {es : Array DictEntry} {n : Nat} (b : Str) (u : Tok) (ho : s.heap.get? l = some o) (hc : o.cls = .type "dict") (hd : o.data = .dict es n) (hu : A.units < cLine) : RcAt A s (.str b u) (.ref l) false := fun prog w E Q h => by
  obtain ⟨cls, dd, data, sl⟩ := o
  simp only at hc hd
  subst hc hd
  exact rc_eq_decline_or (k := false) (typeIs_str s b u) ⟨_, ho, rfl⟩ (by decide) F.sub_dict_str F.slot_str_eq F.slot_dict_eq_refl
    (fun _ hq => call_meets F.slot_str_eq (typeIs_str s b u) F.entry_str_eq (F.args_str_eq_2 _ _) (str_eq_declines_dict b u l es n dd sl) ⟨ho, hq⟩)
    (fun _ hq => call_meets F.slot_dict_eq_refl ⟨_, ho, rfl⟩ F.entry_dict_eq (F.args_dict_eq_2 _ _) (dict_eq_declines_str l es n dd sl b u) ⟨ho, hq⟩)
    (fun _ hq => wpAny_of_eq (rfl : isSame (.str b u) (.ref l) = pure false) hq) (.inr hu) h
theorem eq_str_dict {l : Addr} {o : Obj} {es : Array DictEntry} {n : Nat} (b : Str) (u : Tok) (ho : s.heap.get? l = some o) (hc : o.cls = .type "dict") (hd : o.data = .dict es n) (hu : A.units < cLine) : EqAt A s (.str b u) (.ref l) false := fun prog w E Q h => by
  unfold eqBool
  refine wpAny_holding ?_
  refine wpAny_ite_split (fun hab => absurd (eq_of_beq hab) nofun) (fun _ => ?_)
  exact wpAny_bind (rc_str_dict b u ho hc hd hu prog w E _ (wpAny_truthy_bool h))
end
section
variable {X : Cx} {pins : List (Addr × Obj)} {σ : L2.St} {H : Hp} {s : Shared}
theorem dict_obj {a : Addr} {kvs : List (Key × V)} (I : Inv X pins σ H s) (e : H a = some (.dK kvs)) : ∃ (o : Obj) (es : Array DictEntry) (n : Nat), s.heap.get? a = some o ∧ o.cls = .type "dict" ∧ o.data = .dict es n := by
  obtain ⟨_, _, vs, _, o, es, ep, h1, h2, h3, _⟩ := (show ObjOk X.prog X.w H s.heap a (.dK kvs) from I.hok a _ e)
  exact ⟨o, es, ep, h1, h2.1, h3⟩
theorem tup_obj {a : Addr} {xs : List V} (I : Inv X pins σ H s) (e : H a = some (.tup xs)) : ∃ its : List Value, Vals xs its ∧ s.heap.IsTuple a its.toArray := by
  obtain ⟨_, its, r, t⟩ := (show ObjOk X.prog X.w H s.heap a (.tup xs) from I.hok a _ e)
  exact ⟨its, r, t⟩
theorem lst_obj {a : Addr} {xs : List V} (I : Inv X pins σ H s) (e : H a = some (.lst xs)) : ∃ its : List Value, Vals xs its ∧ s.heap.IsList a its.toArray := by
  obtain ⟨_, its, n, r, t⟩ := (show ObjOk X.prog X.w H s.heap a (.lst xs) from I.hok a _ e)
  exact ⟨its, r, ⟨_, t, rfl, n, rfl⟩⟩
/-- x != t, t a text -/
def rNeAn : R2 := fun x y H Q => ∃ ms d t, An ms H x d ∧ y = .str t ∧ Q (.bl (!isThe t d)) H
theorem op_neAn (hu : X.A.units < cLine) : OpR X (compareOp .NotEq) rNeAn := by
  intro pins s σ H x y v u Q I rx ry h
  obtain ⟨ms, d, t, hx, rfl, q⟩ := h
  obtain ⟨tk, rfl⟩ := ry
  have fin : ∀ b : Bool, (!isThe t d) = b → EP X pins σ Q (.bool b) s := fun b e => ⟨.bl b, H, I, rfl, e ▸ q⟩
  show wpAny _ _ (richCompare .NotEq v (.str t tk)) _ _ s
  cases hx with
  | non =>
    cases rx
    exact RcNeAt.none_str t tk _ _ _ _ (fin _ rfl)
  | bl b =>
    cases rx
    exact RcNeAt.bool_str b t tk _ _ _ _ (fin _ rfl)
  | int i =>
    obtain ⟨t2, rfl⟩ := rx
    exact RcNeAt.int_str i t2 t tk _ _ _ _ (fin _ rfl)
  | str g =>
    obtain ⟨t2, rfl⟩ := rx
    refine RcNeAt.str_str g t2 t tk _ _ _ _ (fin _ ?_)
    show (!decide (g = t)) = !(g == t)
    by_cases e : g = t
    · subst e
      simp
    · simp [e]
  | @lst a xs ds e n hd =>
    cases rx
    obtain ⟨its, r, p⟩ := lst_obj I e
    exact RcNeAt.list_str t tk p hu _ _ _ _ (fin _ rfl)
  | @tup a xs ds e hd =>
    cases rx
    obtain ⟨its, r, p⟩ := tup_obj I e
    exact RcNeAt.tuple_str t tk p hu _ _ _ _ (fin _ rfl)
  | @dct a kvs ds e n hd =>
    cases rx
    obtain ⟨o, es, ep, h1, h2, h3⟩ := dict_obj I e
    exact rcNe_dict_str t tk h1 h2 h3 hu _ _ _ _ (fin _ rfl)
/-- x in (t, ..), a tuple or list of texts -/
def rInAn (K : PySem.W.Frag) : R2 := fun x y H Q => ∃ (ms : List Addr) (d : PyData) (p : Addr) (ts : List Str), An ms H x d ∧ y = .ref p ∧ SqT K H p (ts.map V.str) ∧ Q (.bl (ts.any fun t => isThe t d)) H
theorem op_inAn (hu : X.A.units + 1 < cLine) : OpR X (compareOp .In) (rInAn X.K) := by
  intro pins s σ H x y v u Q I rx ry h
  obtain ⟨ms, d, p, ts, hx, rfl, hq, q⟩ := h
  cases ry
  obtain ⟨its, r, pl, hz⟩ := I.tuple hq
  let eU : Value → Bool := fun w => match w with
    | .str z _ => isThe z d
    | _ => false
  have ev : ∀ (ts : List Str) (us : List Value), Vals (ts.map V.str) us → us.any eU = ts.any fun t => isThe t d := by
    intro ts
    induction ts with
    | nil =>
      intro us h
      cases h
      rfl
    | cons t r ih =>
      intro us h
      cases h with
      | cons a b =>
        obtain ⟨tk, rfl⟩ := a
        rw [List.any_cons, List.any_cons, ih _ b]
  have each : ∀ (ts : List Str) (us : List Value), Vals (ts.map V.str) us → ∀ w ∈ us, ∃ z tk, w = .str z tk := by
    intro ts
    induction ts with
    | nil =>
      intro us h
      cases h
      exact fun w hw => absurd hw List.not_mem_nil
    | cons t r ih =>
      intro us h
      cases h with
      | cons a b =>
        obtain ⟨tk, rfl⟩ := a
        intro w hw
        rcases List.mem_cons.mp hw with rfl | hw
        · exact ⟨_, _, rfl⟩
        · exact ih _ b w hw
  refine SeqAt.in_tupleAt eU pl (fun w hw => ?_) ⟨.bl _, H, I, rfl, ?_⟩
  · obtain ⟨z, tk, rfl⟩ := each ts its r w (by simpa using hw)
    cases hx with
    | non =>
      cases rx
      exact EqAt.str_none z tk
    | bl b =>
      cases rx
      exact EqAt.str_bool z tk b
    | int i =>
      obtain ⟨t2, rfl⟩ := rx
      exact EqAt.str_int z tk i t2
    | str g =>
      obtain ⟨t2, rfl⟩ := rx
      have e : eU (.str z tk) = (z == g) := by
        show decide (g = z) = (z == g)
        by_cases e : g = z
        · subst e
          simp
        · have e2 : ¬ z = g := fun h => e h.symm
          simp [e, e2]
      rw [e]
      exact EqAt.str_str z tk g t2
    | @lst a xs ds e n hd =>
      cases rx
      obtain ⟨its, r, p⟩ := lst_obj I e
      exact EqAt.str_list z tk p (show X.A.units + 1 < cLine from hu)
    | @tup a xs ds e hd =>
      cases rx
      obtain ⟨its, r, p⟩ := tup_obj I e
      exact EqAt.str_tuple z tk p (show X.A.units + 1 < cLine from hu)
    | @dct a kvs ds e n hd =>
      cases rx
      obtain ⟨o, es, ep, h1, h2, h3⟩ := dict_obj I e
      exact eq_str_dict z tk h1 h2 h3 (show X.A.units + 1 < cLine from hu)
  · rw [show its.toArray.any eU = its.any eU by simp, ev ts its r]
    exact q
/-- t == (), t any tuple -/
def rEqE : R2 := fun x y H Q => ∃ a b xs, x = .ref a ∧ y = .ref b ∧ H a = some (.tup xs) ∧ H b = some (.tup []) ∧ Q (.bl xs.isEmpty) H
theorem op_eqE (hu : X.A.units + 64 < cLine) : OpR X (compareOp .Eq) rEqE := by
  intro pins s σ H x y v u Q I rx ry h
  obtain ⟨a, b, xs, rfl, rfl, h1, h2, q⟩ := h
  cases rx
  cases ry
  obtain ⟨its, r, p⟩ := tup_obj I h1
  obtain ⟨its2, r2, p2⟩ := tup_obj I h2
  cases r2
  refine PySem.W.eq_tuplesT (n := 1) (e := fun _ => true) p p2 (fun j h1 h2 => absurd h2 (by simp)) (by omega) ⟨.bl xs.isEmpty, H, I, ?_, q⟩
  cases r with
  | nil => rfl
  | cons _ _ => rfl

end
end Ey
set_option maxHeartbeats 4000000
namespace Ey
open PySem PySem.Spec L2
/-! ### a list of one's own as a pile, its top first -/
theorem pile_top (x : V) (us : List V) : ((x :: us).reverse)[(x :: us).reverse.length - 1]? = some x := by
  rw [List.reverse_cons, List.length_append]
  show (us.reverse ++ [x])[us.reverse.length + 1 - 1]? = some x
  rw [Nat.add_sub_cancel, List.getElem?_append_right (Nat.le_refl _), Nat.sub_self]
  rfl
theorem pile_pop (x : V) (us : List V) : ((x :: us).reverse).dropLast = us.reverse := by
  rw [List.reverse_cons]
  exact List.dropLast_concat
theorem pile_push (x : V) (us : List V) : us.reverse ++ [x] = (x :: us).reverse := (List.reverse_cons).symm
theorem Kp.own {ms : List Addr} {H H1 : Hp} {p : Addr} {o : HO} (k : Kp ms H H1) (n : H p = none) : Kp ms H (upd H1 p o) :=
  ⟨fun b u e h => by rw [upd_ne (ne_of_none e n)]; exact k.at_ b u e h, fun b xs e => by rw [upd_ne (ne_of_none e n)]; exact k.tup b xs e⟩
theorem tabg_kp {ms : List Addr} {H H1 : Hp} {P : Addr} (g : GxR.TabG H P) (k : Kp ms H H1) (n : P ∉ ms) : GxR.TabG H1 P := by
  obtain ⟨ps, h, t⟩ := g
  exact ⟨ps, k.at_ _ _ h n, t⟩
theorem tabg_upd {H : Hp} {P p : Addr} {o : HO} (g : GxR.TabG H P) (n : P ≠ p) : GxR.TabG (upd H p o) P := by
  obtain ⟨ps, h, t⟩ := g
  exact ⟨ps, by rw [upd_ne n]; exact h, t⟩
/-- H' is H but for the table at P -/
abbrev Tb (P : Addr) (H H' : Hp) : Prop := GxR.Tabbed P H H'
theorem tb_refl {P : Addr} {H : Hp} (h : GxR.TabG H P) : Tb P H H := ⟨h, fun _ _ => rfl⟩
theorem tb_kp {P : Addr} {H H1 : Hp} (g : GxR.TabG H P) (a : Tb P H H1) : Kp [P] H H1 := by
  refine ⟨fun b o e n => ?_, fun b xs e => ?_⟩
  · rw [a.2 b (fun q => n (by rw [q]; simp))]
    exact e
  · rw [a.2 b (fun q => ?_)]
    · exact e
    · obtain ⟨ps, h, _⟩ := g
      rw [q, h] at e
      cases e
/-- the tables of all defs that have generators -/
def TTs (Ts : List Addr) (H : Hp) : Prop := ∀ P ∈ Ts, GxR.TabG H P
theorem TTs.tab {Ts : List Addr} {H H1 : Hp} {P : Addr} (h : TTs Ts H) (hP : P ∈ Ts) (t : Tb P H H1) : TTs Ts H1 ∧ Kp Ts H H1 := by
  refine ⟨fun q hq => ?_, (tb_kp (h P hP) t).more fun x hx => by rw [List.mem_singleton.mp hx]; exact hP⟩
  by_cases e : q = P
  · rw [e]
    exact t.1
  · obtain ⟨ps, a, b⟩ := h q hq
    exact ⟨ps, (t.2 q e).trans a, b⟩
theorem TTs.kp {ms Ts : List Addr} {H H1 : Hp} (h : TTs Ts H) (k : Kp ms H H1) (n : ∀ P ∈ Ts, P ∉ ms) : TTs Ts H1 := fun P hP => tabg_kp (h P hP) k (n P hP)
theorem TTs.kp0 {Ts : List Addr} {H H1 : Hp} (h : TTs Ts H) (k : Kp [] H H1) : TTs Ts H1 := h.kp k fun _ _ => List.not_mem_nil
theorem TTs.ne {Ts : List Addr} {H : Hp} {P p : Addr} (h : TTs Ts H) (hP : P ∈ Ts) (n : H p = none) : P ≠ p := by
  obtain ⟨ps, e, _⟩ := h P hP
  exact ne_of_none e n
theorem TTs.nin {Ts : List Addr} {H : Hp} {p : Addr} (h : TTs Ts H) (n : H p = none) : p ∉ Ts := fun hp => h.ne hp n rfl
theorem TTs.nino {Ts : List Addr} {H : Hp} {p : Addr} {o : HO} (h : TTs Ts H) (e : H p = some o) (no : ∀ ps, o ≠ .tbl ps) : p ∉ Ts := fun hp => by
  obtain ⟨ps, e2, _⟩ := h p hp
  rw [e2] at e
  exact no ps (Option.some.inj e).symm
/-- all(..) over a tuple that stays -/
theorem all_tup {K : PySem.W.Frag} {a : Addr} {xs : List V} {te : TE} {Q : VK} {H1 : Hp} (Pv : Nat → Hp → Prop) (h0 : Pv 0 H1) (hl : ∀ i H, Pv i H → SqT K H a xs)
    (hs : ∀ i x H, xs[i]? = some x → Pv i H → te [some x] H fun y H3 => ∃ b, y = .bl b ∧ if b = true then Pv (i + 1) H3 else Q (.bl false) H3) (hd : ∀ H, Pv xs.length H → Q (.bl true) H) :
    ∃ (n0 : Nat) (W : Nat → Hp → Prop), W 0 H1 ∧ ∀ i H', W i H' → (i < n0 ∧ (Itt K a).go i H' ∧ ∀ v H'', (Itt K a).yld i H' v H'' → te [some v] H'' fun y H3 => ∃ b, y = .bl b ∧ if b = true then W (i + 1) H3 else Q (.bl false) H3) ∨ ((Itt K a).stop i H' ∧ Q (.bl true) H') := by
  refine ⟨xs.length, fun i H => i ≤ xs.length ∧ Pv i H, ⟨Nat.zero_le _, h0⟩, fun i H ⟨hi, p⟩ => ?_⟩
  have q := hl i H p
  by_cases lt : i < xs.length
  · refine .inl ⟨lt, ⟨xs, xs[i], q, List.getElem?_eq_getElem lt⟩, fun v H'' y => ?_⟩
    obtain ⟨e, y⟩ := y
    subst e
    have h := hs i v H'' (y xs q) p
    have e : (fun (y : V) (H3 : Hp) => ∃ b, y = .bl b ∧ if b = true then (i + 1 ≤ xs.length ∧ Pv (i + 1) H3) else Q (.bl false) H3) = fun y H3 => ∃ b, y = .bl b ∧ if b = true then Pv (i + 1) H3 else Q (.bl false) H3 := by
      funext y H3
      refine propext ⟨fun ⟨b, e, h⟩ => ⟨b, e, ?_⟩, fun ⟨b, e, h⟩ => ⟨b, e, ?_⟩⟩
      · cases b
        · exact h
        · rw [if_pos rfl] at h ⊢
          exact h.2
      · cases b
        · exact h
        · rw [if_pos rfl] at h ⊢
          exact ⟨lt, h⟩
    rw [e]
    exact h
  · have e : i = xs.length := by omega
    subst e
    exact .inr ⟨⟨xs, q, Nat.le_refl _⟩, hd H p⟩
/-- a tuple of the written part -/
def KTup (K : PySem.W.Frag) (a : Addr) (xs : List V) : Prop := ∃ (o : Obj) (its : Array Value) (n : Nat), K.lookup a = some o ∧ o.cls = .type "tuple" ∧ o.data = .seq its n ∧ its.size ≤ sizeLine ∧ Vals xs its.toList
theorem KTup.sqt {K : PySem.W.Frag} {a : Addr} {xs : List V} (h : KTup K a xs) (H : Hp) : SqT K H a xs := by
  obtain ⟨o, its, n, h1, h2, h3, h4, h5⟩ := h
  exact .inr ⟨o, its, n, h1, h2, h3, h4, h5⟩
/-- a dict of the written part: its keys are just these -/
def keyS (e : DictEntry) : Option Str := match e.key with
  | .str x _ => some x
  | _ => none
theorem no_key {K : PySem.W.Frag} {a : Addr} {o d : _} {es : Array DictEntry} {n : Nat} {sl : _} {ks : List Str} (h : K.lookup a = some ⟨o, d, .dict es n, sl⟩) (hk : es.toList.map keyS = ks.map some) {z : Str} (hz : z ∉ ks) : PySem.W.nsIn K a z = some none := by
  have all : ∀ e ∈ es.toList, ∃ x t, e.key = .str x t ∧ x ∈ ks := fun e he => by
    have m : keyS e ∈ ks.map some := hk ▸ List.mem_map.mpr ⟨e, he, rfl⟩
    obtain ⟨x, hx, ex⟩ := List.mem_map.mp m
    unfold keyS at ex
    split at ex
    · rename_i x' t' e'
      refine ⟨x', t', e', ?_⟩
      rw [← Option.some.inj ex]
      exact hx
    · cases ex
  unfold PySem.W.nsIn
  rw [h]
  have f : es.toList.find? (fun e => e.key.isStr z) = none := List.find?_eq_none.mpr fun e he q => by
    obtain ⟨x, t, e1, e2⟩ := all e he
    rw [e1] at q
    have : (x == z) = true := q
    rw [beq_iff_eq] at this
    exact hz (this ▸ e2)
  show (match es.toList.find? (fun e => e.key.isStr z) with
    | some e => some (some e.val)
    | none => if es.toList.any (fun e => e.refKey) then none else some none) = some none
  rw [f]
  have g : es.toList.any (fun e => e.refKey) = false := List.any_eq_false.mpr fun e he q => by
    obtain ⟨x, t, e1, e2⟩ := all e he
    unfold DictEntry.refKey at q
    rw [e1] at q
    cases q
  show (if es.toList.any (fun e => e.refKey) = true then none else some none) = some none
  rw [g]
  rfl
theorem fn_any {ι : Type} {P : Program} {w : World} {K : PySem.W.Frag} {mg : Str → Option Value} {base : Heap} {CX : CXT} {k : Nat} {f : Addr} {fd : FuncData} {ps : List Str} {sp : ι → Sp} (h : ∀ i, FnOk P w K mg base CX k f fd ps (sp i)) :
    FnOk P w K mg base CX k f fd ps (fun vs H Q E => ∃ i, sp i vs H Q E) :=
  ⟨fun vs H Q E ⟨i, q⟩ => (h i).len vs H Q E q, fun A outer s H args us vs Q E hr e b v ⟨i, q⟩ => (h i).run A outer s H args us vs Q E hr e b v q⟩
/-- repr of any data -/
def rReprE : List V → Hp → VK → Prop := fun xs H Q => ∃ ms, rReprA ms xs H Q
theorem cr_reprE {X : Cx} {k : Nat} (hs : ∃ mm, X.base.Ns sysModules mm) (hg : X.A.guards = some []) (hr : Room k X.A) : CallR X (.builtin "repr") rReprE := by
  intro pins s σ H xs us Q I r h
  obtain ⟨ms, h⟩ := h
  exact cr_reprA (ms := ms) hs hg hr pins s σ H xs us Q I r h
end Ey
set_option maxHeartbeats 4000000
namespace Ey
open PySem PySem.Calls PySem.Spec PyProof.Rows L2 HT
section
variable {prog : Program} {w : World} {A : Around} {E : Value → Shared → Prop} {s : Shared}
theorem ey_steps (n : Nat) : Builtin.Slice.slicePlaces ((n : Int) - 1) (-1) (-1) = n := by
  unfold Builtin.Slice.slicePlaces
  rw [if_neg (by decide)]
  by_cases hn : (n : Int) - 1 > -1
  · rw [if_pos hn]
    have q : (- -1 : Int) = 1 := by decide
    rw [q, Int.ediv_one]
    omega
  · rw [if_neg hn]
    omega
theorem ey_applied_rev {sl : Addr} {vl vu vs : Value} {n : Nat} {Q : Int × Int × Nat → Shared → Prop} (q : s.heap.IsSliceOf sl vl vu vs) (pl : IsPart vl none) (pu : IsPart vu none) (ps : IsPart vs (some (-1)))
    (h : Q ((n : Int) - 1, -1, n) s) : wpAny (model prog w) A (Builtin.Slice.sliceApplied (.ref sl) (pure (n : Int))) Q E s := by
  obtain ⟨ob, hob, hcl, hda⟩ := id q
  unfold Builtin.Slice.sliceApplied Builtin.Slice.sliceFields
  refine wpAny_bind (wpAny_bind (wpAny_field hob hda (x := vl) rfl (wpAny_bind (wpAny_field hob hda (x := vu) rfl (wpAny_bind (wpAny_field hob hda (x := vs) rfl (wpAny_pure ?_)))))))
  refine wpAny_bind (slicePart_ ps ?_)
  show wpAny _ _ (if ((-1 : Int) == 0) = true then _ else _) _ _ s
  rw [if_neg (by decide)]
  refine wpAny_bind (slicePart_ pl (wpAny_bind (slicePart_ pu (wpAny_bind (wpAny_pure ?_)))))
  show wpAny _ _ (pure ((n : Int) - 1, (-1 : Int), Builtin.Slice.slicePlaces ((n : Int) - 1) (-1) (-1))) _ _ s
  rw [ey_steps]
  exact wpAny_pure h
theorem ey_back (xs : Array Value) : ((List.range xs.size).filterMap fun (m : Nat) => xs[((xs.size : Int) - 1 + (m : Int) * -1).toNat]?).toArray = xs.toList.reverse.toArray := by
  congr 1
  refine List.ext_getElem? fun i => ?_
  have key : ∀ m, m < xs.size → xs[((xs.size : Int) - 1 + (m : Int) * -1).toNat]? = (xs.toList.reverse)[m]? := fun m hm => by
    have e : ((xs.size : Int) - 1 + (m : Int) * -1).toNat = xs.size - 1 - m := by omega
    rw [e, List.getElem?_reverse (by rw [Array.length_toList]; exact hm), Array.length_toList, Array.getElem?_toList]
  have all : ∀ l : List Nat, (∀ m ∈ l, m < xs.size) → (l.filterMap fun (m : Nat) => xs[((xs.size : Int) - 1 + (m : Int) * -1).toNat]?) = l.filterMap fun m => (xs.toList.reverse)[m]? := fun l => by
    induction l with
    | nil => intro _; rfl
    | cons a r ih =>
      intro h
      rw [List.filterMap_cons, List.filterMap_cons, key a (h a List.mem_cons_self), ih fun m hm => h m (List.mem_cons_of_mem _ hm)]
  rw [all _ fun m hm => List.mem_range.mp hm]
  have fin : ∀ ys : List Value, (List.range ys.length).filterMap (fun m => ys[m]?) = ys := fun ys => by
    induction ys with
    | nil => rfl
    | cons y r ih =>
      rw [List.length_cons, List.range_succ_eq_map, List.filterMap_cons]
      show y :: List.filterMap _ _ = _
      rw [List.filterMap_map]
      exact congrArg (List.cons y) ih
  have := fin xs.toList.reverse
  rw [List.length_reverse, Array.length_toList] at this
  rw [this]
theorem ey_tuple_rev {tp sl : Addr} {items : Array Value} {vl vu vs : Value} {Q : Value → Shared → Prop} (it : IsTup s.heap tp items) (q : s.heap.IsSliceOf sl vl vu vs) (pl : IsPart vl none) (pu : IsPart vu none) (ps : IsPart vs (some (-1)))
    (h : Q (.ref s.heap.objs.size) { s with heap := s.heap.push { cls := .type "tuple", data := .seq items.toList.reverse.toArray } })
    (hz : items.size ≤ sizeLine) : wpAny (model prog w) A (getItem (.ref tp) (.ref sl)) Q E s := by
  have fits : sizeOk (.seq items.toList.reverse.toArray) := by
    show items.toList.reverse.toArray.size ≤ sizeLine
    rw [List.size_toArray, List.length_reverse, Array.length_toList]
    exact hz
  obtain ⟨ob, hob, hcl, hda⟩ := id q
  have kind : s.TypeIs (.ref sl) "slice" := ⟨ob, hob, hcl⟩
  unfold getItem
  try with_reducible refine wpAny_holding ?_
  first | refine wpAny_bind (wpAny_pure ?_) | skip
  refine wpAny_bind (wpAny_sequenceKey it.typeIs (by decide) ?_)
  refine wpAny_bind (wpAny_callSpecial?_slot (name := Str.ofString "__getitem__") it.typeIs PyProof.Rows.slot_tuple_getitem (wpAny_call_entry PyProof.Rows.slot_tuple_getitem it.typeIs entry_tuple_getitem ?_ (args_tuple_getitem _ _)))
  show wpAny _ _ (Builtin.Tuple.tupleItemsOf (.ref tp) >>= _) _ _ s
  refine wpAny_bind (tupleItemsOf_ it ?_)
  refine wpAny_bind (wpAny_typeOf kind ?_)
  rw [if_pos (by decide)]
  refine wpAny_bind (ey_applied_rev q pl pu ps ?_)
  have off : ¬ ((((items.size : Int) - 1 == 0) && ((-1 : Int) == 1) && (items.size == items.size)) = true) := by
    rw [show ((-1 : Int) == 1) = false from rfl, Bool.and_false, Bool.false_and]
    exact Bool.false_ne_true
  show wpAny _ _ (if (((items.size : Int) - 1 == 0) && ((-1 : Int) == 1) && (items.size == items.size)) = true then _ else _) _ _ s
  rw [if_neg off, ey_back]
  first
    | exact wpAny_bind (m := Builtin.Tuple.tupleExact _) (wpAny_newObj_type (wpAny_pure ⟨_, rfl, wpAny_pure h⟩) fits)
    | exact wpAny_bind (m := Builtin.Tuple.tupleExact _) (wpAny_newObj_type (wpAny_bind (wpAny_pure (wpAny_pure ⟨_, rfl, wpAny_pure h⟩))) fits)
    | exact wpAny_bind (wpAny_bind (m := Builtin.Tuple.tupleExact _) (wpAny_newObj_type (wpAny_pure (wpAny_pure ⟨_, rfl, wpAny_pure h⟩)) fits))
    | exact wpAny_bind (wpAny_bind (m := Builtin.Tuple.tupleExact _) (wpAny_newObj_type (wpAny_pure ⟨_, rfl, wpAny_pure h⟩) fits))
end
section
variable {X : Cx}
/-- e[::-1], e a tuple or a text -/
def tRevA (K : PySem.W.Frag) (te : TE) : TE := fun σ H Q => te σ H fun x H1 => (∃ a xs, x = .ref a ∧ SqT K H1 a xs ∧ ∀ p, H1 p = none → Q (.ref p) (upd H1 p (.tup xs.reverse))) ∨ ∃ p : List Nat, x = .str (st p) ∧ p.length ≤ sizeLine ∧ Q (.str (st p.reverse)) H1
theorem sb_rev (p : List Nat) (u : Tok) : Txt.sliceBy (st p) none none (-1, u) = st p.reverse := by
  have e := step_rev_list (st p) u
  have e2 : (Txt.sliceBy (st p) none none (-1, u)) = st ((List.range p.length).map fun k => p.toArray.getD (p.length - 1 - k) 0) := by
    rw [st_of (Txt.sliceBy (st p) none none (-1, u)), e]
    rfl
  rw [e2]
  congr 1
  refine List.ext_getElem? fun i => ?_
  rw [List.getElem?_map]
  by_cases hi : i < p.length
  · rw [List.getElem?_range hi, List.getElem?_reverse hi]
    show some (p.toArray.getD (p.length - 1 - i) 0) = _
    rw [List.getElem?_eq_getElem (by omega)]
    congr 1
    simp [Array.getD, show p.length - 1 - i < p.length by omega]
  · rw [List.getElem?_eq_none (by rw [List.length_range]; omega), List.getElem?_eq_none (by rw [List.length_reverse]; omega)]
    rfl
theorem pe_revA {e : Expr} {te : TE} {k : Nat} {p1 p2 p3 pos : Pos} (he : PE X e te) : PE X (.Subscript e (.Slice none none (some (.UnaryOp .USub (.Constant (.int 1) k p1) p2)) p3) pos) (tRevA X.K te) := by
  refine ⟨fun pins s σ H Q I h => ?_⟩
  refine Subscript_ (thn (he.run pins s σ H _ I h) fun v s1 ⟨x, H1, I1, r1, q1⟩ => ?_)
  have step : PO X (some (.UnaryOp .USub (.Constant (.int 1) k p1) p2)) (tPart (tUn (rU fun i => .int (-i)) (tC (.int 1)))) := po_some (pe_un un_neg pe_int)
  refine wpAny_Slice (thn (po_none.run pins s1 σ H1 (fun o H2 => o = none ∧ H2 = H1) I1 ⟨rfl, rfl⟩) fun vl s2 ⟨lo, H2, I2, pl, ea, eb⟩ => ?_)
  subst ea eb
  refine thn (po_none.run pins s2 σ H2 (fun o H3 => o = none ∧ H3 = H2) I2 ⟨rfl, rfl⟩) fun vu s3 ⟨up, H3, I3, pu, ec, ed⟩ => ?_
  subst ec ed
  refine thn (step.run pins s3 σ H3 (fun o H4 => o = some (-1) ∧ H4 = H3) I3 ⟨1, rfl, -1, rfl, rfl, rfl⟩) fun vs s4 ⟨o, H4, I4, pst, ee, ef⟩ => ?_
  subst ee ef
  have I5 : Inv X pins σ H4 { s4 with heap := s4.heap.push { cls := .type "slice", data := .fields #[vl, vu, vs] } } := I4.kept (t' := s4.toks) fun b ob q => Heap.get?_push_of_some _ q
  rcases q1 with ⟨a, xs, ex, hx, q⟩ | ⟨p, ex, hz, q⟩
  · subst ex
    cases r1
    obtain ⟨its, r, it, hz⟩ := I5.tuple hx
    have hlen : its.toArray.size = xs.length := by rw [List.size_toArray]; exact r.length.symm
    show wpAny (model X.prog X.w) X.A (subscriptTail e (.Slice none none (some (.UnaryOp .USub (.Constant (.int 1) k p1) p2)) p3) (.ref a) (.ref s4.heap.objs.size)) (EP X pins σ Q) X.xe { s4 with heap := s4.heap.push { cls := .type "slice", data := .fields #[vl, vu, vs] } }
    refine tail_any (ops := [.ref a, .ref s4.heap.objs.size]) it.typeIs PyProof.Rows.slot_tuple_getitem.lookup ?_ (by with_unfolding_all rfl)
    refine ey_tuple_rev it (Heap.IsSliceOf.new _ vl vu vs) pl pu pst ?_ (by rw [hlen]; exact hz)
    refine ⟨.ref _, _, I5.laid (t' := s4.toks) (o := .tup xs.reverse) (fun b ob q => Heap.get?_push_of_some _ q) (Nat.le_refl _) ?_, rfl, q _ (I5.hok.fresh (Nat.le_refl _))⟩
    refine ⟨by rw [List.length_reverse]; exact hz, its.reverse, r.reverse, ?_⟩
    have := IsTup.new { s4 with heap := s4.heap.push { cls := .type "slice", data := .fields #[vl, vu, vs] } }.heap its.reverse.toArray
    simpa using this
  · subst ex
    obtain ⟨t, rfl⟩ := r1
    cases pl
    cases pu
    cases pst with
    | int _ u =>
      show wpAny (model X.prog X.w) X.A (subscriptTail e (.Slice none none (some (.UnaryOp .USub (.Constant (.int 1) k p1) p2)) p3) (.str (st p) t) (.ref s4.heap.objs.size)) (EP X pins σ Q) X.xe { s4 with heap := s4.heap.push { cls := .type "slice", data := .fields #[.none, .none, .int (-1) u] } }
      refine tail_any (ops := [.str (st p) t, .ref s4.heap.objs.size]) (typeIs_str _ _ _) F.slot_str_getitem.lookup ?_ (by with_unfolding_all rfl)
      refine wpAny_getItem_str_slice (l := none) (u := none) (st := some (-1, u)) ⟨_, Heap.get?_push_size _ rfl, rfl, rfl⟩ rfl ?_
      have made : sliceMade (st p) t none none (some (-1, u)) = .str (st p.reverse) := by
        rw [← sb_rev p u]
        rfl
      rw [made]
      refine ⟨?_, .str (st p.reverse), _, I5.tok _, ⟨_, rfl⟩, q⟩
      rw [st_len, List.length_reverse]
      exact hz
end
end Ey
set_option maxHeartbeats 4000000
namespace Ey
open PySem PySem.Spec L2
/-- a comprehension over a text -/
theorem lcStr {z : Str} {g : TG} {tests : TT} {each : TE} {slots : List Nat} {σ : L2.St} {H1 : Hp} {D : Addr} {Qd : Hp → Prop} (Pv : Nat → Hp → Prop) (h0 : Pv 0 (upd H1 D (.lst [])))
    (hs : ∀ i c H, z.cps.toList[i]? = some c → Pv i H → g (.str (st [c])) (wipe σ slots) H fun σ2 H2 => wipe σ2 slots = wipe σ slots ∧ tests σ2 H2 fun b H3 => if b = true then each σ2 H3 fun y H4 => ∃ acc, H4 D = some (.lst acc) ∧ acc.length < sizeLine ∧ Pv (i + 1) (upd H4 D (.lst (acc ++ [y]))) else Pv (i + 1) H3)
    (hd : ∀ H, Pv z.cps.toList.length H → Qd H) :
    ∃ W : Nat → Nat → Hp → Prop, (∃ m, W 0 m (upd H1 D (.lst []))) ∧ ∀ i m H, W i m H → ((Its z).stop i H ∧ Qd H) ∨ ((Its z).go i H ∧ ∃ Nx : Hp → Prop, (∀ H', Nx H' → ∃ m', m' < m ∧ W (i + 1) m' H') ∧ ∀ x H', (Its z).yld i H x H' → g x (wipe σ slots) H' fun σ2 H2 => wipe σ2 slots = wipe σ slots ∧ tests σ2 H2 fun b H3 => if b = true then each σ2 H3 fun y H4 => ∃ acc, H4 D = some (.lst acc) ∧ acc.length < sizeLine ∧ Nx (upd H4 D (.lst (acc ++ [y]))) else Nx H3) := by
  refine ⟨fun i m H => m = z.cps.size - i ∧ i ≤ z.cps.size ∧ Pv i H, ⟨_, rfl, Nat.zero_le _, h0⟩, fun i m H hw => ?_⟩
  obtain ⟨rfl, hi, p⟩ := hw
  by_cases lt : i < z.cps.size
  · refine .inr ⟨lt, Pv (i + 1), fun H' p' => ⟨z.cps.size - (i + 1), by omega, rfl, lt, p'⟩, fun v H' y => ?_⟩
    obtain ⟨rfl, c, hc, rfl⟩ := y
    exact hs i c _ (by rw [Array.getElem?_toList]; exact hc) p
  · have e : i = z.cps.size := by omega
    subst e
    exact .inl ⟨Nat.le_refl _, hd H (by rw [Array.length_toList]; exact p)⟩
theorem wd_get {ds : List PyData} {i : Nat} {d : PyData} (h : ds[i]? = some d) : wd d + 2 ≤ wdAll ds := by
  induction ds generalizing i with
  | nil => cases h
  | cons x r ih =>
    cases i with
    | zero =>
      have q : x = d := Option.some.inj h
      rw [q]
      show wd d + 2 ≤ wd d + 2 + wdAll r
      omega
    | succ i =>
      have := ih h
      show wd d + 2 ≤ wd x + 2 + wdAll r
      omega
theorem len_wd (ds : List PyData) : ds.length ≤ wdAll ds := by
  induction ds with
  | nil => exact Nat.le_refl _
  | cons x r ih =>
    show r.length + 1 ≤ wd x + 2 + wdAll r
    omega
theorem eqv_strs (ps : List Nat) : PyData.eqv (.list (ps.map fun c => .str (st [c]))) (.list []) = ps.isEmpty := by
  cases ps <;> rfl
theorem dp_signs {K : PySem.W.Frag} {H : Hp} : ∀ ps : List Nat, DpAll K H (ps.map fun c => V.str (st [c])) (ps.map fun c => .str (st [c]))
  | [] => .nil
  | c :: r => .cons (.str _) (dp_signs r)
theorem lay_signs : ∀ ps : List Nat, (∀ c ∈ ps, c < 1000) → PyData.canLayAll0 (ps.map fun c => .str (st [c])) = true ∧ PyData.depthAll (ps.map fun c => .str (st [c])) = 0
  | [], _ => ⟨rfl, rfl⟩
  | c :: r, h => by
    obtain ⟨a, b⟩ := lay_signs r fun x hx => h x (List.mem_cons_of_mem _ hx)
    refine ⟨?_, ?_⟩
    · show (PyData.canLay0 (.str (st [c])) && PyData.canLayAll0 (r.map fun c => .str (st [c]))) = true
      have q : PyData.canLay0 (.str (st [c])) = true := by
        have := h c List.mem_cons_self
        have e : (st [c]).cps = #[c] := rfl
        simp only [PyData.canLay0, PyData.strOk, e]
        simp
        omega
      rw [a, q]
      rfl
    · show max 0 (PyData.depthAll (r.map fun c => .str (st [c]))) = 0
      rw [b]
      rfl
theorem shaped_signs (ps : List Nat) (h : ∀ c ∈ ps, c < 1000) : SeqAt.shaped (.list (ps.map fun c => .str (st [c]))) = true := by
  obtain ⟨a, b⟩ := lay_signs ps h
  show (PyData.canLayAll0 (ps.map fun c => .str (st [c])) && decide (PyData.depthAll (ps.map fun c => .str (st [c])) + 1 ≤ 64)) = true
  rw [a, b]
  rfl
theorem isTag_alt (g : Str) (h1 : 1 ≤ g.length) (h2 : g.length ≤ 8) : isTag g = (g.cps.toList.filter fun c => !decide (c ∈ abc)).isEmpty := by
  rw [isTag, decide_eq_true h1, decide_eq_true h2]
  show (g.cps.toList.all fun c => decide (c ∈ abc)) = _
  generalize g.cps.toList = l
  induction l with
  | nil => rfl
  | cons a r ih =>
    rw [List.all_cons, List.filter_cons, ih]
    cases decide (a ∈ abc) <;> rfl
theorem take_filter {l : List Nat} {f : Nat → Bool} {i c : Nat} (h : l[i]? = some c) : (l.take (i + 1)).filter f = (l.take i).filter f ++ if f c = true then [c] else [] := by
  rw [List.take_add_one, h, List.filter_append]
  congr 1
  show List.filter f [c] = _
  rw [List.filter_cons]
  rfl
def wAny : Nat → Nat
  | 0 => 130
  | n + 1 => 3 * wAny n + 140
theorem wAny_ge : ∀ n, 130 ≤ wAny n
  | 0 => Nat.le_refl _
  | n + 1 => by
    have := wAny_ge n
    show 130 ≤ 3 * wAny n + 140
    omega
/-- what is told of a drawn value -/
structure Good (n w : Nat) (x : PyData) : Prop where
  f : fit x = true
  d : x.depth ≤ n
  w : wd x ≤ w
theorem Good.mono {n w n' w' : Nat} {x : PyData} (g : Good n w x) (h1 : n ≤ n') (h2 : w ≤ w') : Good n' w' x := ⟨g.f, Nat.le_trans g.d h1, Nat.le_trans g.w h2⟩
inductive GoodAll (n w : Nat) : List PyData → Prop
  | nil : GoodAll n w []
  | cons {x : PyData} {r : List PyData} : Good n w x → GoodAll n w r → GoodAll n w (x :: r)
theorem GoodAll.facts {n w : Nat} {ds : List PyData} (h : GoodAll n w ds) : fitAll ds = true ∧ PyData.depthAll ds ≤ n ∧ wdAll ds ≤ (w + 2) * ds.length := by
  induction h with
  | nil => exact ⟨rfl, Nat.zero_le _, Nat.zero_le _⟩
  | @cons x r g _ ih =>
    obtain ⟨a, b, c⟩ := ih
    refine ⟨?_, ?_, ?_⟩
    · show (fit x && fitAll r) = true
      rw [g.f, a]
      rfl
    · show max x.depth (PyData.depthAll r) ≤ n
      have := g.d
      omega
    · show wd x + 2 + wdAll r ≤ (w + 2) * (r.length + 1)
      have := g.w
      rw [Nat.mul_add]
      omega
theorem GoodAll.snoc {n w : Nat} {ds : List PyData} {x : PyData} (h : GoodAll n w ds) (g : Good n w x) : GoodAll n w (ds ++ [x]) := by
  induction h with
  | nil => exact .cons g .nil
  | cons a _ ih => exact .cons a ih
section
variable {ms ms' : List Addr} {H : Hp}
mutual
theorem An.mono (hs : ∀ x ∈ ms', x ∈ ms) : ∀ {v : V} (d : PyData), An ms H v d → An ms' H v d
  | _, .none, h => by cases h; exact .non
  | _, .bool b, h => by cases h; exact .bl b
  | _, .int i, h => by cases h; exact .int i
  | _, .str x, h => by cases h; exact .str x
  | _, .list ds, h => by
    cases h with
    | lst e n a => exact .lst e (fun q => n (hs _ q)) (AnAll.mono hs ds a)
  | _, .tuple ds, h => by
    cases h with
    | tup e a => exact .tup e (AnAll.mono hs ds a)
  | _, .dict ds, h => by
    cases h with
    | dct e n a => exact .dct e (fun q => n (hs _ q)) (AnKv.mono hs ds a)
theorem AnAll.mono (hs : ∀ x ∈ ms', x ∈ ms) : ∀ {vs : List V} (ds : List PyData), AnAll ms H vs ds → AnAll ms' H vs ds
  | _, [], h => by cases h; exact .nil
  | _, d :: r, h => by
    cases h with
    | cons a b => exact .cons (An.mono hs d a) (AnAll.mono hs r b)
theorem AnKv.mono (hs : ∀ x ∈ ms', x ∈ ms) : ∀ {vs : List (Key × V)} (ds : List (PyData × PyData)), AnKv ms H vs ds → AnKv ms' H vs ds
  | _, [], h => by cases h; exact .nil
  | _, (y, d) :: r, h => by
    cases h with
    | cons a b => exact .cons (An.mono hs d a) (AnKv.mono hs r b)
end
end
section
variable {X : Cx}
/-- t[lo:hi] of a tuple, as one case -/
def rCut : V → Option Int → Option Int → Hp → VK → Prop := fun x lo hi H Q => ∃ (a : Addr) (xs : List V), x = .ref a ∧ H a = some (.tup xs) ∧ ∀ (q : Addr) (H' : Hp), H' q = some (.tup (cutV xs lo hi)) → Kp [] H H' → Q (.ref q) H'
theorem sl_cut : SlR X rCut := by
  intro pins s σ H x v vl vu lo hi sl Q I rx hs pl pu h
  obtain ⟨a, xs, rfl, e, k⟩ := h
  refine sl_tupA pins s σ H _ v vl vu lo hi sl Q I rx hs pl pu ⟨a, xs, rfl, sqt_of e, fun w => k a H ?_ .refl, fun _ p np => k p _ upd_same (.new np)⟩
  have whole : cutV xs lo hi = xs := by
    unfold cutV
    rw [w.1, w.2, List.drop_zero, Nat.sub_zero, List.take_length]
  rw [whole]
  exact e
/-- t + u of tuples, as one case -/
def rCat2 : R2 := fun x y H Q => ∃ (a b : Addr) (xs ys : List V), x = .ref a ∧ y = .ref b ∧ H a = some (.tup xs) ∧ H b = some (.tup ys) ∧ xs.length + ys.length ≤ sizeLine ∧ ∀ (q : Addr) (H' : Hp), H' q = some (.tup (xs ++ ys)) → Kp [] H H' → Q (.ref q) H'
theorem op_cat2 : OpR X (binaryOp .Add) rCat2 := by
  intro pins s σ H x y v u Q I rx ry h
  obtain ⟨a, b, xs, ys, rfl, rfl, ea, eb, hz, k⟩ := h
  refine op_catA pins s σ H _ _ v u Q I rx ry ⟨a, b, xs, ys, rfl, rfl, sqt_of ea, sqt_of eb, hz, fun e => k b H ?_ .refl, fun _ e => k a H ?_ .refl, fun _ _ p np => k p _ upd_same (.new np)⟩
  · rw [e]
    exact eb
  · rw [e, List.append_nil]
    exact ea
theorem cut_take (xs : List V) (i : Nat) : cutV xs none (some (i : Int)) = xs.take i := by
  unfold cutV
  rw [HT.sIx_none, HT.sIx_nat, List.drop_zero, Nat.sub_zero, ← List.take_take, List.take_length]
theorem cut_drop (xs : List V) (i : Nat) : cutV xs (some (i : Int)) none = xs.drop i := by
  unfold cutV
  rw [HT.sIx_none, HT.sIx_nat]
  by_cases h : i ≤ xs.length
  · rw [Nat.min_eq_left h]
    exact List.take_of_length_le (by rw [List.length_drop]; exact Nat.le_refl _)
  · rw [Nat.min_eq_right (by omega), Nat.sub_self, List.take_zero, List.drop_of_length_le (by omega)]
theorem pe_nev {e : Expr} : PE X e (fun _ _ _ => False) := ⟨fun _ _ _ _ _ _ h => h.elim⟩
end
theorem goodAll_of {n w : Nat} : ∀ ds : List PyData, (∀ x ∈ ds, Good n w x) → GoodAll n w ds
  | [], _ => .nil
  | x :: r, h => .cons (h x List.mem_cons_self) (goodAll_of r fun y hy => h y (List.mem_cons_of_mem _ hy))
theorem two_good {n w : Nat} {x y : PyData} (a : Good n w x) (b : Good n w y) : Good (n + 1) (2 * w + 7) (.tuple [x, y]) := by
  refine ⟨?_, ?_, ?_⟩
  · show (fit x && (fit y && true)) = true
    rw [a.f, b.f]
    rfl
  · show max x.depth (max y.depth 0) + 1 ≤ n + 1
    have := a.d
    have := b.d
    omega
  · show wd x + 2 + (wd y + 2 + 0) + 3 ≤ 2 * w + 7
    have := a.w
    have := b.w
    omega
theorem bl_good (b : Bool) : Good 0 5 (.bool b) := ⟨rfl, Nat.le_refl _, Nat.le_refl _⟩
end Ey
set_option maxHeartbeats 4000000
namespace Ey
open PySem PySem.AutoSeq1
theorem extend_tuple (l : Addr) (items : Array Value) (n : Nat) (b : Addr) (items2 : Array Value) (n2 : Nat) (dd : Option Addr) (sl : Array (Option Value)) (hs0 : ¬(!items.isEmpty && Builtin.List.listTooLong (items.size + items2.size)) = true) (hs1 : items.size ≤ sizeLine) (hs2 : items.size + items2.size ≤ sizeLine + 1) :
    Meets (Builtin.«list.extend» ⟨[.ref l, .ref b], []⟩) (fun _ R s => s.heap.get? l = some { cls := .type "list", dict := none, data := .seq items n, slots := #[] } ∧ s.heap.get? b = some { cls := .type "tuple", dict := dd, data := .seq items2 n2, slots := sl } ∧ R (.ok (.ret Value.none)) { s with heap := s.heap.update l (Obj.mapSeq fun x => x ++ items2), toks := s.toks }) :=
  .of_wp fun prog w A R s h => by
    obtain ⟨hp, g, d, tk, os⟩ := s; obtain ⟨hl, hb, h⟩ := h; have f1 := idx_int; have f2 := sub_tuple_tuple; have f3 := sub_list_list; have f4 := sub_tuple_list; have f5 := sub_list_tuple;
    have hz' : (items ++ items2).size ≤ sizeLine + 1 := by rw [Array.size_append]; exact hs2
    wp_walk using (wpAny_updateSeq hl rfl (hz := hs1) (_hz' := hz')), wpAny_loadPart' hl, wpAny_loadPart' hb; exact ⟨_, rfl, h⟩
end Ey
namespace Ey
open PySem PySem.Spec PyProof.Rows L2
section
variable {X : Cx}
def rExtendT : V → List V → Hp → VK → Prop := fun x vs H Q => ∃ l b xs zs, x = .ref l ∧ vs = [.ref b] ∧ H l = some (.lst xs) ∧ H b = some (.tup zs) ∧ xs.length + zs.length ≤ sizeLine ∧ Q .non (upd H l (.lst (xs ++ zs)))
theorem mt_extendT : MtM X "list.extend" rExtendT := by
  intro pins s σ H x vs v us Q I rx rv h
  obtain ⟨l, b, xs, zs, rfl, rfl, hH, hB, hz, q⟩ := h
  cases rx
  obtain ⟨u, rfl, ru⟩ := rv.one
  cases ru
  obtain ⟨z, its, n, r, hl, e⟩ := I.lstM hH
  obtain ⟨_, its2, r2, ⟨cls, dd, data, sl⟩, e2, hc, n2, hd⟩ := (show ObjOk X.prog X.w H s.heap b (.tup zs) from I.hok b _ hB)
  simp only at hc hd
  subst hc hd
  have hl2 := r2.length
  have hsz : its.toArray.size + its2.toArray.size ≤ sizeLine := by rw [List.size_toArray, List.size_toArray]; omega
  have hlong : ¬ (!its.toArray.isEmpty && Builtin.List.listTooLong (its.toArray.size + its2.toArray.size)) = true := by
    rw [notLongL hsz, Bool.and_false]
    exact Bool.false_ne_true
  refine call_meets PySem.F.slot_list_extend ⟨_, e, rfl⟩ PySem.F.entry_list_extend (PySem.F.args_list_extend_2 _ _)
    (extend_tuple l its.toArray n b its2.toArray n2 dd sl hlong (by rw [List.size_toArray]; omega) (by omega)) ⟨e, e2, ?_⟩
  refine ⟨.non, _, I.lset (its' := its ++ its2) hH e (by simp) (r.append r2) ?_, rfl, q⟩
  rw [List.length_append]
  omega
end
end Ey
set_option maxHeartbeats 4000000
namespace Ey
open PySem PySem.Spec L2 PyProof.Rows
open Sem (wp)
theorem meets_enumerate_newT {v : Value} {o : Obj} {H : Heap → Prop} (B : Begins v o H) :
    Meets (Builtin.«enumerate.__new__» ⟨[.type "enumerate", v], []⟩) (fun _ R s => H s.heap ∧
      R (.ok (.ret (.ref (s.heap.push o).objs.size))) { s with heap := (s.heap.push o).push { cls := .type "enumerate", data := .fields #[.none, .bool false, .ref s.heap.objs.size, rawInt 0, .none, .none] } }) :=
  .of_wp fun prog w A R s h => by
    obtain ⟨hp, g, d, tk, os⟩ := s; obtain ⟨h1, h⟩ := h
    have hsub := sub_enumerate
    have q1 : ∀ {A' : Around} {E : Value → Shared → Prop} {Q : Value → Shared → Prop}, Q (.ref hp.objs.size) ⟨hp.push o, g, d, tk, os⟩ → wpAny (model prog w) A' (pyIter v) Q E ⟨hp, g, d, tk, os⟩ :=
      fun q => B.iter prog w _ _ ⟨hp, g, d, tk, os⟩ _ h1 q
    wp_walk using q1
    refine wpAny_stack_any fun st => wpAny_pure ?_
    split
    · rename_i c _ _ _ _ _
      cases (c == Value.type "enumerate")
      · wp_walk using q1
        exact ⟨_, rfl, h⟩
      · wp_walk using q1
        exact ⟨_, rfl, h⟩
    · wp_walk using q1
      exact ⟨_, rfl, h⟩
section
variable {prog : Program} {w : World} {A : Around} {E : Value → Shared → Prop} {s : Shared}
theorem enum_begins1 {v : Value} {o : Obj} {H : Heap → Prop} {Q : Value → Shared → Prop} (B : Begins v o H) (h1 : H s.heap)
    (h : ∀ h', IsEnum h' (s.heap.objs.size + 1) s.heap.objs.size 0 .none → h'.get? s.heap.objs.size = some o → h'.objs.size = s.heap.objs.size + 2 →
      (∀ b o, s.heap.get? b = some o → h'.get? b = some o) → Q (.ref (s.heap.objs.size + 1)) { s with heap := h' }) :
    wpAny (model prog w) A (call (.type "enumerate") [v]) Q E s := by
  refine callType_new F.called_enumerate (by decide) (F.typeCall_enumerate_1 _) (F.newCall_enumerate_1 _) (fun obj => F.args_object_init_2 obj _) F.entry_enumerate_new
    (meets_enumerate_newT B) ⟨h1, ?_⟩
  have hz : (s.heap.push o).objs.size = s.heap.objs.size + 1 := Heap.size_push ..
  show _ ∧ _
  rw [hz]
  have he : IsEnum ((s.heap.push o).push { cls := .type "enumerate", data := .fields #[.none, .bool false, .ref s.heap.objs.size, rawInt 0, .none, .none] }) (s.heap.objs.size + 1) s.heap.objs.size 0 .none := by
    have := Heap.get?_push_size (s.heap.push o) (o := { cls := .type "enumerate", data := .fields #[.none, .bool false, .ref s.heap.objs.size, rawInt 0, .none, .none] }) rfl
    rw [hz] at this; exact this
  refine ⟨⟨_, he, rfl⟩, h _ he (Heap.get?_push_of_some _ (Heap.get?_push_size _ B.free)) (by rw [Heap.size_push, hz]) fun b o x => Heap.get?_push_of_some _ (Heap.get?_push_of_some _ x)⟩
end
section
variable {prog : Program} {w : World} {A : Around} {E : Value → Shared → Prop} {s : Shared}
theorem enum_endT {e it t : Addr} {items : Array Value} {j : Nat} {i : Int} {old : Value} {Q : Option Value → Shared → Prop} (hh : A.handled = none)
    (he : IsEnum s.heap e it i old) (hit : s.heap.IsTupleIter it t j) (ht : s.heap.IsTuple t items) (hx : items[j]? = none)
    (hQ : ∀ h', Heap.ExtBut it s.heap h' → Q none { s with heap := h' }) : wpAny (model prog w) A (pyNext (.ref e)) Q E s := by
  have hT : s.TypeIs (.ref e) "enumerate" := ⟨_, he, rfl⟩
  unfold pyNext
  refine wpAny_bind (wpAny_attempt (wpAny_callSpecial?_slot (name := Str.ofString "__next__") hT F.slot_enumerate_next
    (wpAny_call_entry F.slot_enumerate_next hT F.entry_enumerate_next ?_ (F.args_enumerate_next_1 _))))
  show wpAny _ _ (field (.ref e) 2 >>= _) _ _ _
  refine wpAny_bind (wpAny_field he rfl (x := .ref it) rfl ?_)
  refine wpAny_bind (wpAny_nextOf_tuple_end hh hit ht hx fun h' x he' hx' => ?_)
  obtain ⟨o, ho, hc⟩ := hx'
  refine wpAny_bind (wpAny_isInstance (T := "StopIteration") (b := true) ⟨o, ho, hc⟩ isSubtype_stop ?_)
  exact wpAny_pure (hQ _ he')
end
/-- the tuple at a, each item in a new pair -/
def Itet (K : PySem.W.Frag) (a : Addr) : It :=
  ⟨fun i H => ∃ (xs : List V) (x : V), SqT K H a xs ∧ xs[i]? = some x, fun i H v H' => ∃ T x, v = .ref T ∧ H T = none ∧ H' = upd H T (.tup [.int (i : Nat), x]) ∧ ∀ xs, SqT K H a xs → xs[i]? = some x, fun i H => ∃ xs : List V, SqT K H a xs ∧ xs.length ≤ i⟩
theorem turn_enumT {P : Program} {w : World} {K : PySem.W.Frag} {elts : List Expr} {kk : Nat} {tpos : Pos} (a e it : Addr) :
    Turn P w K (.Tuple elts kk tpos) (Itet K a) [e, it] e (fun i h => (∃ old, IsEnum h e it ((i : Nat) : Int) old) ∧ h.IsTupleIter it a i ∧ e ≠ it) where
  mem := by simp
  obj := fun i h st b hb => by
    obtain ⟨⟨old, he⟩, ⟨o, ho, hc, hd⟩, _⟩ := st
    have e' : b = e ∨ b = it := by simpa using hb
    rcases e' with z | z
    · rw [z]; exact ⟨_, he, fun v q => nomatch q⟩
    · rw [z]; exact ⟨o, ho, fun v q => by rw [hd] at q; cases q⟩
  keep := fun i h h' st k => let ⟨⟨old, he⟩, hi, hne⟩ := st; ⟨⟨old, k e (by simp) _ he⟩, hi.at fun o q => k it (by simp) o q, hne⟩
  item := by
    intro X hP hw hK hc i pins s σ H E I hf st hg
    subst hP hw hK
    obtain ⟨⟨old, he⟩, hit, hne⟩ := st
    obtain ⟨xs, x, hq, hx⟩ := hg
    obtain ⟨its, rv, p, hz⟩ := I.tuple hq
    obtain ⟨u, hu, ru⟩ := rv.get hx
    have hel : e < s.heap.objs.size := Heap.lt_size he
    have hil : it < s.heap.objs.size := by obtain ⟨_, q, _⟩ := hit; exact Heap.lt_size q
    have hai : a ≠ it := by
      intro z
      subst z
      obtain ⟨o, q, c, _⟩ := hit
      obtain ⟨o2, q2, c2, _⟩ := (show s.heap.IsTuple a its.toArray from p)
      rw [q] at q2
      cases q2
      rw [c] at c2
      injection c2 with c3
      exact absurd c3 (by decide)
    have hae : a ≠ e := by
      intro z
      subst z
      obtain ⟨o2, q2, c2, _⟩ := (show s.heap.IsTuple a its.toArray from p)
      rw [he] at q2
      cases q2
      injection c2 with c3
      exact absurd c3 (by decide)
    have D := Draws.tuple (prog := X.prog) (w := X.w) (A := X.A.in1) (I.ok.hd hc) it a hai its.toArray
    have hlt : i < its.toArray.size := by
      have := (List.getElem?_eq_some_iff.mp hu).1
      simpa using this
    refine wpAny_pyNext_enum_itemD D he ⟨hit, p⟩ hlt hne (by simp [hne, hae.symm]) fun u' h' tk hP ho hst hT hsz hk => ?_
    have eu : u' = u := by
      have q1 : its.toArray[i]? = some u' := hP
      have q2 : its.toArray[i]? = some u := by simpa using hu
      rw [q1] at q2
      exact Option.some.inj q2
    subst eu
    have hit' := hst.1
    refine ⟨_, rfl, wpAny_letOwnedTupleGo_enum (s := { s with heap := h', toks := tk + 1 }) ho fun h'' he' sb => ?_⟩
    have hT2 : h''.get? s.heap.objs.size = some { cls := .type "tuple", data := .seq #[.int i tk, u'] } := (sb.2 _ (Nat.ne_of_gt hel)).trans hT
    have new : ObjOk X.prog X.w (upd H s.heap.objs.size (.tup [.int (i : Nat), x])) h'' s.heap.objs.size (.tup [.int (i : Nat), x]) :=
      ⟨by show 2 ≤ sizeLine; decide, [.int i tk, u'], .cons ⟨_, rfl⟩ (.cons ru .nil), ⟨_, hT2, rfl, _, rfl⟩⟩
    have I1 : Inv X pins σ (upd H s.heap.objs.size (.tup [.int (i : Nat), x])) { s with heap := h'', toks := tk + 1 } :=
      I.turnedNew (ch := [e, it]) (fun b ob hb q => (sb.2 b (fun z => hb (by simp [z]))).trans (hk b ob (fun z => hb (by simp [z])) (fun z => hb (by simp [z])) q)) hf (Nat.le_refl _) new
    refine ⟨.ref s.heap.objs.size, _, I1, rfl, ⟨_, x, rfl, I.hok.fresh (Nat.le_refl _), rfl, fun ys hy => by rw [I.tuple_inj hy hq]; exact hx⟩, ⟨⟨u', ?_⟩, hit'.at fun o q => (sb.2 it (Ne.symm hne)).trans q, hne⟩, fun b hb => ?_⟩
    · have e1 : ((i + 1 : Nat) : Int) = (i : Int) + 1 := by omega
      rw [e1]; exact he'
    · have hb' : b < s.heap.objs.size := by
        have e' : b = e ∨ b = it := by simpa using hb
        rcases e' with z | z
        · rw [z]; exact hel
        · rw [z]; exact hil
      rw [upd_ne (Nat.ne_of_lt hb')]
      exact (hf b hb).1
  done := by
    intro X hP hw hK hc i pins s σ H E I hf st hg
    subst hP hw hK
    obtain ⟨⟨old, he⟩, hit, hne⟩ := st
    obtain ⟨xs, hq, hx⟩ := hg
    obtain ⟨its, rv, p, hz⟩ := I.tuple hq
    obtain ⟨f0, f1, f2, f3, f4, f5⟩ := hf it (by simp)
    have hl := rv.length
    exact enum_endT (I.ok.hd hc) he hit p (by simp; omega) fun h' eb => ⟨rfl, I.turned (t' := s.toks) (fun b o hb q => eb b o hb q) f0 f1 f3 f4 f5⟩
  self := fun A i s Q E st h => let ⟨⟨_, he⟩, _⟩ := st; wpAny_pyIter_enum he h
def iEnumT (K : PySem.W.Frag) (ta : TA) : TI := fun σ H R => ta σ H fun vs H1 => ∃ a xs, vs = [.ref a] ∧ SqT K H1 a xs ∧ R (Itet K a) H1
theorem pi_enumT {X : Cx} {e : Expr} {ta : TA} {p pos tpos : Pos} {elts : List Expr} {kk : Nat} (hg : Gl X "enumerate") (hm : X.mg "enumerate" = none) (ha : PA X [e] ta) (hs : starEach [e] X.env = [(false, eval e X.env)] := by rfl) :
    PI X (.Tuple elts kk tpos) (.Call (.Name "enumerate" p) [e] [] pos) (iEnumT X.K ta) := by
  refine ⟨fun pins s σ H R I h => ?_⟩
  refine Call_ (ld_blt I hg hm boot_enumerate (PyProof.Rows.callWith_type1 (thn (ha.run pos pins s σ H _ I h) fun us s1 ⟨vs, H1, I1, r1, q1⟩ => ?_) hs rfl))
  obtain ⟨a, xs, ex, hq, q⟩ := q1
  subst ex
  cases r1 with
  | cons r rr =>
    cases rr
    cases r
    obtain ⟨its, rv, p', hz⟩ := I1.tuple hq
    refine enum_begins1 (begins_tuple a its.toArray) p' fun h' he hit hsz hk => wpAny_pyIter_enum he ?_
    have I2 : Inv X pins σ H1 { s1 with heap := h' } := I1.kept (t' := s1.toks) hk
    refine ⟨s1.heap.objs.size + 1, [s1.heap.objs.size + 1, s1.heap.objs.size], _, _, H1, rfl, I2, turn_enumT a (s1.heap.objs.size + 1) s1.heap.objs.size, ⟨⟨.none, he⟩, ⟨_, hit, rfl, rfl⟩, Nat.succ_ne_self _⟩, fun b hb => ?_, q⟩
    have e' : b = s1.heap.objs.size + 1 ∨ b = s1.heap.objs.size := by simpa using hb
    have hle : s1.heap.objs.size ≤ b := by
      rcases e' with z | z
      · rw [z]; exact Nat.le_add_right _ _
      · rw [z]; exact Nat.le_refl _
    exact I1.fpOk hle (I1.hok.fresh hle)
end Ey
set_option maxHeartbeats 4000000
namespace Ey
open PySem PySem.Spec PyProof.Rows L2 PySem.SeqAt
section
variable {X : Cx}
/-- t != (), t any tuple -/
def rNeE : R2 := fun x y H Q => ∃ a b xs, x = .ref a ∧ y = .ref b ∧ H a = some (.tup xs) ∧ H b = some (.tup []) ∧ Q (.bl (!xs.isEmpty)) H
theorem op_neE (hu : X.A.units + 64 < cLine) : OpR X (compareOp .NotEq) rNeE := by
  intro pins s σ H x y v u Q I rx ry h
  obtain ⟨a, b, xs, rfl, rfl, h1, h2, q⟩ := h
  cases rx
  cases ry
  obtain ⟨its, r, p⟩ := tup_obj I h1
  obtain ⟨its2, r2, p2⟩ := tup_obj I h2
  cases r2
  refine RcNeAt.tuples (e := fun _ => true) p p2 (by omega) (fun j h1 h2 => absurd h2 (by simp)) _ _ _ _ ⟨.bl (!xs.isEmpty), H, I, ?_, q⟩
  cases r with
  | nil => rfl
  | cons _ _ => rfl
/-- xs != [], xs any list -/
def rNeEL : R2 := fun x y H Q => ∃ a b xs, x = .ref a ∧ y = .ref b ∧ H a = some (.lst xs) ∧ H b = some (.lst []) ∧ Q (.bl (!xs.isEmpty)) H
theorem op_neEL (hu : X.A.units + 64 < cLine) : OpR X (compareOp .NotEq) rNeEL := by
  intro pins s σ H x y v u Q I rx ry h
  obtain ⟨a, b, xs, rfl, rfl, h1, h2, q⟩ := h
  cases rx
  cases ry
  obtain ⟨its, r, p⟩ := lst_obj I h1
  obtain ⟨its2, r2, p2⟩ := lst_obj I h2
  cases r2
  cases r with
  | nil => exact RcNeAt.lists (e := fun _ => true) p p2 rfl (by omega) (fun j h1 h2 => absurd h2 (by simp)) _ _ _ _ ⟨.bl false, H, I, rfl, q⟩
  | cons _ _ => exact RcNeAt.lists_lengths p p2 (by simp) (by omega) _ _ _ _ ⟨.bl true, H, I, rfl, q⟩
end
end Ey
set_option maxHeartbeats 4000000
namespace Ey
open PySem PySem.Spec L2
open PySem.Builtin.Str PySem.StrLaws
theorem sub_one (s : List Nat) (c a : Nat) : subAt (st s) (st [c]) a = true ↔ s[a]? = some c := by
  unfold subAt
  have e : ((st s).cps.extract a (a + (st [c]).length)) = ((s.drop a).take 1).toArray := by
    apply Array.ext'
    show (s.toArray.extract a (a + 1)).toList = ((s.drop a).take 1)
    rw [Array.toList_extract]
    simp [List.extract]
  rw [e]
  show (((s.drop a).take 1).toArray == #[c]) = true ↔ _
  rw [beq_iff_eq]
  constructor
  · intro h
    have h2 : (s.drop a).take 1 = [c] := by
      have := congrArg Array.toList h
      simpa using this
    have h3 : ((s.drop a).take 1)[0]? = some c := by rw [h2]; rfl
    rw [List.getElem?_take, if_pos (by decide), List.getElem?_drop] at h3
    exact h3
  · intro h
    obtain ⟨ha, e⟩ := List.getElem?_eq_some_iff.mp h
    rw [List.drop_eq_getElem_cons ha, e]
    rfl
/-- the first c from i on -/
theorem index_one (s : List Nat) (c : Nat) {i j : Nat} (hij : i ≤ j) (hj : s[j]? = some c) (hn : ∀ k, i ≤ k → k < j → ¬ s[k]? = some c) : Txt.indexFrom (st s) (st [c]) (i : Int) = some j := by
  have hjl : j < s.length := (List.getElem?_eq_some_iff.mp hj).1
  have el : (st s).length = s.length := st_len s
  unfold Txt.indexFrom
  have ef : fromIndex (st s).length (i : Int) = i := by
    unfold fromIndex
    rw [if_neg (by omega)]
    omega
  rw [ef, occ_eq]
  have at_iff : ∀ a, At (st s) (st [c]) (st s).length a ↔ s[a]? = some c := fun a => by
    constructor
    · exact fun h => (sub_one s c a).mp h.2
    · intro h
      have ha : a < s.length := (List.getElem?_eq_some_iff.mp h).1
      exact ⟨by rw [el]; show a + 1 ≤ s.length; omega, (sub_one s c a).mpr h⟩
  have hmem : j ∈ List.range' i ((st s).length + 1 - i) := by
    rw [el, List.mem_range'_1]
    omega
  rcases occ_first (st s) (st [c]) (st s).length 1 (Nat.le_refl _) (List.range' i ((st s).length + 1 - i)) i (fun k hk => (List.mem_range'_1.mp hk).1) with ⟨_, h⟩ | ⟨pre, a, post, e, h0, ha, hp⟩
  · exact absurd ((at_iff j).mpr hj) (h j hmem)
  · have haj : a = j := by
      have sorted : (List.range' i ((st s).length + 1 - i)).Pairwise (· < ·) := List.pairwise_lt_range'
      rw [e] at hmem sorted
      have hai : i ≤ a := (List.mem_range'_1.mp (e ▸ (by simp : a ∈ pre ++ a :: post))).1
      rcases List.mem_append.mp hmem with hm | hm
      · exact absurd ((at_iff j).mpr hj) (hp j hm)
      · rcases List.mem_cons.mp hm with hm | hm
        · exact hm.symm
        · have h1 := (List.pairwise_append.mp sorted).2.1
          have h2 := (List.pairwise_cons.mp h1).1 j hm
          exact absurd ((at_iff a).mp ha) (hn a hai h2)
    rw [← haj, List.head?_eq_getElem?]
    generalize (forIn (List.range' i ((st s).length + 1 - i)) ((#[] : Array Nat), i) (occBody (st s) (st [c]) (st s).length 1)).run.fst = arr at h0
    simpa using h0
section
variable {X : Cx}
/-- x == t, x None, a tuple or a text -/
def rEqAn : R2 := fun x y H Q => ∃ t, y = .str t ∧ ((x = .non ∧ Q (.bl false) H) ∨ (∃ a xs, x = .ref a ∧ H a = some (.tup xs) ∧ Q (.bl false) H) ∨ (∃ g, x = .str g ∧ Q (.bl (g == t)) H))
theorem op_eqAn (hu : X.A.units < cLine) : OpR X (compareOp .Eq) rEqAn := by
  intro pins s σ H x y v u Q I rx ry h
  obtain ⟨t, rfl, h⟩ := h
  obtain ⟨tk, rfl⟩ := ry
  show wpAny _ _ (richCompare .Eq v (.str t tk)) _ _ s
  rcases h with ⟨rfl, q⟩ | ⟨a, xs, rfl, e, q⟩ | ⟨g, rfl, q⟩
  · cases rx
    exact SeqAt.RcAt.none_str t tk _ _ _ _ ⟨.bl false, H, I, rfl, q⟩
  · cases rx
    obtain ⟨its, r, p⟩ := tup_obj I e
    exact SeqAt.RcAt.tuple_str t tk p hu _ _ _ _ ⟨.bl false, H, I, rfl, q⟩
  · obtain ⟨t2, rfl⟩ := rx
    exact SeqAt.RcAt.str_str g t2 t tk _ _ _ _ ⟨.bl _, H, I, rfl, q⟩
end
end Ey
set_option maxHeartbeats 4000000
namespace PySem
namespace OwE
open PySem PySem.Spec PySem.Calls PyProof.Rows PySem.W
/-! ### isinstance of a caught own exception that has a dict -/
section
variable {prog : Program} {w : World} {A : Around} {E : Value → Shared → Prop} {s : Shared} {K : Frag} {e D : Addr} {oE : Obj} {dE : Option Obj}
/-- what the class says of its own __class__ -/
structure SaysC (K : Frag) (D : Addr) : Prop where
  ga : findIn K (.ref D) "__getattribute__" = some (some (.builtin "BaseException.__getattribute__"))
  gg : findIn K (.ref D) "__getattr__" = some none
  sb : subIn K (.ref D) (.type "BaseException") = some true
  hd : hasDictIn K D = true
  cl : findIn K (.ref D) "__class__" = some (some (.builtin "object.__class__"))
  sp : specialIn K (.builtin "object.__class__") "__get__" = some (some (.builtin "getset_descriptor.__get__"))
  tk : takesIn K (.builtin "object.__class__") = some true
  mo : mroIn K D (.type "object") = some true
theorem SaysC.found (S : SaysC K D) : findObj K D dE "__class__" = some (.bind (.builtin "getset_descriptor.__get__") (.builtin "object.__class__")) := by
  obtain ⟨cd, hc, _⟩ := any_some S.hd
  unfold findObj
  rw [hc, Option.bind_some, S.cl, Option.bind_some]
  simp [S.sp, S.tk]
theorem asked_class {Q : Option Value → Shared → Prop} (S : SaysC K D) (hK : K.In s.heap) (hI : InstAt s.heap e oE D dE) (hq : Q (some (.ref D)) { s with toks := s.toks + 1 }) : wpAny (model prog w) A (getAttr? (.ref e) "__class__") Q E s := by
  have hf := S.found (dE := dE)
  obtain ⟨hp, gg, dd, tt, oo⟩ := s
  have hT := hI.type (M := model prog w)
  have hA := looks_findIn (M := model prog w) hK S.ga
  have hB := looks_findIn (M := model prog w) hK S.gg
  have hC := looks_find (M := model prog w) hK hI hf
  have hS : Looks (model prog w) hp (isInstance (.ref e) (.type "BaseException")) true := hT.andThen (looks_subIn hK S.sb)
  have n0 : (false && onTheHeap (Value.builtin "BaseException.__getattribute__")) = false := rfl
  have n2 : (Value.builtin "BaseException.__getattribute__" == Value.builtin "object.__getattribute__") = false := by decide +kernel
  have n1 : (onTheHeap (Value.ref D) && Value.builtin "BaseException.__getattribute__" == Value.builtin "object.__getattribute__") = false := by
    rw [n2]
    rfl
  unfold getAttr?
  unfold getAttrBy? getAttrBy
  refine wpAny_bind (wpAny_mkText (wpAny_bind (wpAny_attempt (wpAny_holding (wpAny_bind (hT.at (wpAny_bind (hA.at ?_))))))))
  show wpAny _ _ (if (onTheHeap (Value.ref D) && Value.builtin "BaseException.__getattribute__" == Value.builtin "object.__getattribute__") = true then _ else _) _ _ _
  rw [n1, if_neg Bool.false_ne_true]
  unfold getAttrByItsOwn
  unfold hookBefore
  refine wpAny_bind ?_
  rw [if_pos (show (onTheHeap (Value.ref D)) = true from rfl)]
  refine hB.at ?_
  refine wpAny_bind (wpAny_attempt ?_)
  refine wpAny_holding ?_
  unfold callGetattribute
  rw [n0, if_neg Bool.false_ne_true]
  unfold boundAndCalled
  rw [PySem.F.excAttr_ValueError.ga.bind (.ref e)]
  refine wpAny_bind (wpAny_pure ?_)
  show wpAny _ _ (call (.builtin "BaseException.__getattribute__") [.ref e, .str "__class__" tt]) _ _ _
  refine wpAny_call ?_
  refine codeAny_call_builtin PySem.F.excAttr_ValueError.ga.plain PySem.F.entry_bexc_ga ?_
  refine @check_slot (model prog w) _ _ ⟨hp, gg, dd, tt + 1, oo⟩ "BaseException.__getattribute__" "BaseException" "__getattribute__" (.ref e) [.str "__class__" tt] [] _ (by decide +kernel) (by decide +kernel) hS (PySem.F.args_bexc_ga (.ref e) (.str "__class__" tt)) ?_
  unfold Builtin.«object.__getattribute__»
  refine wpAny_bind (wpAny_of_eq (a := ((Value.ref e : Value), [Value.str "__class__" tt])) (by first | rfl | (simp only [slotArgs]; rfl)) ?_)
  refine wpAny_bind (wpAny_pure (wpAny_bind (hT.at (wpAny_bind (hC.at ?_)))))
  show wpAny _ _ (holding [Value.builtin "object.__class__"] (call (.builtin "getset_descriptor.__get__") [.builtin "object.__class__", .ref e, .ref D]) >>= ret) _ _ _
  refine wpAny_bind (wpAny_holding (wpAny_call (class_get (s := ⟨hp, gg, dd, tt + 1, oo⟩) (ox := oE) (od := dE) hK hI S.mo ?_)))
  refine wpAny_pure ?_
  show wpAny _ _ (handedOut (.ref D)) _ _ _
  rw [handedOut_of (v := Value.ref D) rfl]
  first
    | exact wpAny_pure (wpAny_pure hq)
    | exact wpAny_pure hq
    | exact wpAny_pure (wpAny_bind (wpAny_pure (wpAny_pure hq)))
theorem kitx (S : SaysC K D) : KitX K (.ref e) (.ref D) (fun h => InstAt h e oE D dE) where
  ty := fun _ _ _ hI => hI.type
  it := fun _ _ hK _ => by
    obtain ⟨cd, hc, _⟩ := any_some S.hd
    unfold clsIn at hc
    split at hc
    · rename_i c' d' cd' sl' ho
      intro A' Q' E' s' k q
      unfold isType
      unfold loadHead
      exact wpAny_bind (wpAny_loadPart (k _ _ (hK _ _ ho)) (wpAny_pure q))
    · cases hc
  ne := fun h tp dd its n sl hK htp => by
    obtain ⟨cd, hc, _⟩ := any_some S.hd
    refine Bool.eq_false_iff.mpr fun q => ?_
    have hh : D = tp := Value.ref.inj (beq_iff_eq.mp q)
    subst hh
    unfold clsIn at hc
    split at hc
    · rename_i c' d' cd' sl' ho
      have z := (hK _ _ ho).symm.trans htp
      cases z
    · cases hc
  ca := fun hK hI k => asked_class S hK hI k
end
end OwE
end PySem
namespace L2
open PySem PySem.Spec PyProof.Rows
/-- isinstance(e, c), e the exception that the suite holds, its class D, its dict at dd -/
def rIsE2 (K : PySem.W.Frag) (D a : Addr) (cls : Value) (d : Option Addr) : List V → Hp → VK → Prop := fun xs H Q => cls = .ref D ∧ ∃ (dd : Addr) (fs : List (Str × V)), d = some dd ∧ H dd = some (.xd fs) ∧ rIsE K D a xs H Q
theorem call_isE2 {X : Cx} {a D : Addr} {oe : Obj} {pn : List (Addr × Obj)} {cls : Value} {d : Option Addr} (S : PySem.OwE.SaysC X.K D) (hz : Zc cls d oe) (hf : ∃ vs, oe.data = .fields vs) :
    CallR (X.suite a ((a, oe) :: pn)) (.builtin "isinstance") (rIsE2 X.K D a cls d) := by
  intro pins s σ H xs us Q I r h
  obtain ⟨ec, dd, fs, ed, hdd, c, cv, b, rfl, hcv, e, q⟩ := h
  subst ec
  subst ed
  cases r with
  | cons rx rr =>
    cases rr with
    | cons rt rr =>
      cases rr
      cases rx
      have ec := hcv _ rt
      subst ec
      obtain ⟨hget, _⟩ := I.pin (a, oe) (List.mem_append.mpr (.inl List.mem_cons_self))
      have hx : ObjOk X.prog X.w H s.heap dd (.xd fs) := I.hok dd _ hdd
      obtain ⟨mA, hns, _⟩ := hx
      obtain ⟨od, ho, _⟩ := lookIn_ns hns
      have J : PySem.W.InstAt s.heap a oe D (some od) := ⟨hget, hz.1, by unfold PySem.W.notCls; obtain ⟨vs, hd⟩ := hf; rw [hd] <;> rfl, by rw [hz.2]; exact ho⟩
      exact PySem.W.kia_one (PySem.OwE.kitx S) I.kIn J e (fun z => nomatch z) fun tk => ⟨.bl b, H, I.kept (t' := tk) fun _ _ z => z, rfl, q⟩
end L2
set_option maxHeartbeats 4000000
namespace Ey
open PySem PySem.Spec L2
def topS (i : Nat) : Stmt := PySem.Challenge.pw_eyesonly_k03_whole_texts_of_trees.main.body.getD i (.Pass ⟨0, 0, 0, 0⟩)
abbrev sDeck : Stmt := topS 18
abbrev sDraw : Stmt := topS 19
abbrev sPick : Stmt := topS 20
/-- what the module leaves of the built-in names -/
structure BI (mg : Str → Option Value) : Prop where
  int : mg "int" = none
  max : mg "max" = none
  list : mg "list" = none
  len : mg "len" = none
  range : mg "range" = none
  tuple : mg "tuple" = none
  sorted : mg "sorted" = none
  repr : mg "repr" = none
  isi : mg "isinstance" = none
  str : mg "str" = none
  all : mg "all" = none
  bool : mg "bool" = none
  enum : mg "enumerate" = none
/-! ### the deck -/
def kLeft : Key := .inr "left"
def kMix : Key := .inr "mixed"
def kDraw : Key := .inr "draws"
theorem kLM : ¬ kLeft = kMix := by decide +kernel
theorem kLD : ¬ kLeft = kDraw := by decide +kernel
theorem kMD : ¬ kMix = kDraw := by decide +kernel
def deckD (l : Addr) (m n : Int) : List (Key × V) := [(kLeft, .ref l), (kMix, .int m), (kDraw, .int n)]
section
variable (l : Addr) (m n : Int)
theorem deck_left : valV (deckD l m n) kLeft = some (.ref l) := valV_pos rfl
theorem deck_mix : valV (deckD l m n) kMix = some (.int m) := (valV_neg kLM).trans (valV_pos rfl)
theorem deck_draw : valV (deckD l m n) kDraw = some (.int n) := (valV_neg kLD).trans ((valV_neg kMD).trans (valV_pos rfl))
theorem put_mix (z : Int) : putK (deckD l m n) kMix (.int z) = deckD l z n := by
  have h : ((deckD l m n).any fun kv => decide (kv.1 = kMix)) = true := by rw [valV_any, deck_mix]; rfl
  unfold putK
  rw [if_pos h]
  have h2 : ¬ kDraw = kMix := fun e => kMD e.symm
  simp [deckD, kLM, h2]
theorem put_draw (z : Int) : putK (deckD l m n) kDraw (.int z) = deckD l m z := by
  have h : ((deckD l m n).any fun kv => decide (kv.1 = kDraw)) = true := by rw [valV_any, deck_draw]; rfl
  unfold putK
  rw [if_pos h]
  simp [deckD, kLD, kMD]
end
theorem merge_deck (l : Addr) (m n : Int) : mergeK [] (deckD l m n) = deckD l m n := by
  have e1 : putK ([] : List (Key × V)) kLeft (.ref l) = [(kLeft, .ref l)] := putK_new _ rfl
  have e2 : putK [(kLeft, V.ref l)] kMix (.int m) = [(kLeft, V.ref l), (kMix, .int m)] := putK_new _ (valV_neg kLM)
  have e3 : putK [(kLeft, V.ref l), (kMix, V.int m)] kDraw (.int n) = deckD l m n := putK_new _ ((valV_neg kLD).trans (valV_neg kMD))
  show putK (putK (putK [] kLeft (.ref l)) kMix (.int m)) kDraw (.int n) = _
  rw [e1, e2, e3]
theorem deck_sz (l : Addr) (m n : Int) : (deckD l m n).length < sizeLine := small1000 (by show 3 ≤ 1000; decide)
section
variable {H : Hp} {d l : Addr} {m n : Int}
theorem get_left (h : H d = some (.dK (deckD l m n))) : DGet H d (kV kLeft) (some (.ref l)) := deck_left l m n ▸ DGet.k h
theorem get_mix (h : H d = some (.dK (deckD l m n))) : DGet H d (kV kMix) (some (.int m)) := deck_mix l m n ▸ DGet.k h
theorem get_draw (h : H d = some (.dK (deckD l m n))) : DGet H d (kV kDraw) (some (.int n)) := deck_draw l m n ▸ DGet.k h
theorem set_mix (h : H d = some (.dK (deckD l m n))) (z : Int) : DPut H d (kV kMix) (.int z) (upd H d (.dK (deckD l z n))) := put_mix l m n z ▸ DPut.k h (deck_sz l m n)
theorem set_draw (h : H d = some (.dK (deckD l m n))) (z : Int) : DPut H d (kV kDraw) (.int z) (upd H d (.dK (deckD l m z))) := put_draw l m n z ▸ DPut.k h (deck_sz l m n)
end
structure DeckAt (H : Hp) (d l : Addr) : Prop where
  ex : ∃ (m n : Int) (ns : List Int), H d = some (.dK (deckD l m n)) ∧ H l = some (.lst (ns.map V.int)) ∧ ns.length ≤ 63
theorem DeckAt.ne {H : Hp} {d l : Addr} (D : DeckAt H d l) : d ≠ l := by
  obtain ⟨m, n, ns, h1, h2, _⟩ := D.ex
  exact ne_of h1 h2 (by intro z; cases z)
theorem DeckAt.kp {ms : List Addr} {H H1 : Hp} {d l : Addr} (D : DeckAt H d l) (k : Kp ms H H1) (nd : d ∉ ms) (nl : l ∉ ms) : DeckAt H1 d l := by
  obtain ⟨m, n, ns, h1, h2, h3⟩ := D.ex
  exact ⟨m, n, ns, k.at_ _ _ h1 nd, k.at_ _ _ h2 nl, h3⟩
def spDraw : Sp := fun vs H Q _ => ∃ (d l : Addr) (many : Int), vs = [.ref d, .int many] ∧ DeckAt H d l ∧ 0 < many ∧ many < 1073741824 ∧
  ∀ (r : Int) (H' : Hp), 0 ≤ r → r < many → DeckAt H' d l → Kp [d, l] H H' → Q (.int r) H'
section
variable {P : Program} {w : World} {K : PySem.W.Frag} {mg : Str → Option Value} {base : Heap}
theorem scDraw : FnScope ["_law_deck_here", "_law_many", "_law_cell", "_law_figure"] ["_law_deck_here", "_law_many"] (defScope sDraw) := ⟨rfl, rfl, rfl, by decide +kernel, rfl, by decide +kernel, by decide +kernel⟩
theorem fmod_lt {i j : Int} (h : 0 < j) : 0 ≤ i.fmod j ∧ i.fmod j < j := ⟨Int.fmod_nonneg_of_pos _ h, Int.fmod_lt_of_pos _ h⟩
theorem fdiv_ne : (2147483647 : Int) ≠ 0 := by decide
theorem lt64 {i : Int} (h0 : 0 ≤ i) (h1 : i < 2147483647) : -(2 ^ 64) < i ∧ i < 2 ^ 64 := by
  constructor
  · exact Int.lt_of_lt_of_le (by decide) h0
  · exact Int.lt_trans h1 (by decide)
theorem eqv_nil (ns : List Int) : PyData.eqv (.list (ns.map PyData.int)) (.list []) = ns.isEmpty := by
  cases ns <;> rfl
theorem dp_ints {K : PySem.W.Frag} {H : Hp} : ∀ ns : List Int, DpAll K H (ns.map V.int) (ns.map PyData.int)
  | [] => .nil
  | n :: r => .cons (.int n) (dp_ints r)
theorem lay_ints : ∀ ns : List Int, PyData.canLayAll0 (ns.map PyData.int) = true ∧ PyData.depthAll (ns.map PyData.int) = 0
  | [] => ⟨rfl, rfl⟩
  | n :: r => by
    obtain ⟨a, b⟩ := lay_ints r
    refine ⟨?_, ?_⟩
    · show (PyData.canLay0 (.int n) && PyData.canLayAll0 (r.map PyData.int)) = true
      rw [a]
      rfl
    · show max 0 (PyData.depthAll (r.map PyData.int)) = 0
      rw [b]
      rfl
theorem shaped_ints (ns : List Int) : SeqAt.shaped (.list (ns.map PyData.int)) = true := by
  obtain ⟨a, b⟩ := lay_ints ns
  show (PyData.canLayAll0 (ns.map PyData.int) && decide (PyData.depthAll (ns.map PyData.int) + 1 ≤ 64)) = true
  rw [a, b]
  rfl
theorem ok_draw {f : Addr} {fd : FuncData} (F : Fun K "_law_draw" "_law_draw" sDraw f fd) (B : BI mg) : FnOk P w K mg base CX0 1 f fd ["_law_deck_here", "_law_many"] spDraw := by
  refine F.ok scDraw (fun vs H Q E h => ?_) (fun cdv A outer s H vs Q E hr h => ?_)
  · obtain ⟨d, l, many, rfl, _⟩ := h
    rfl
  · obtain ⟨d, l, many, rfl, D, m0, m1, k⟩ := h
    have hu := hu_of hr
    have mne : many ≠ 0 := by omega
    -- the tail: figure, figure, figure, return
    obtain ⟨tt, dt, rt⟩ : ∃ tt, PSs (cxOf CX0 P w K mg base ["_law_deck_here", "_law_many", "_law_cell", "_law_figure"] "_law_draw" (defScope sDraw) f cdv A outer s H E).nox ((defBody sDraw).drop 2) tt ∧
        ∀ (H2 : Hp) (y : Option V), DeckAt H2 d l → Kp [d, l] H H2 → tt { nx := fun _ H' => Q .non H', rt := Q } [some (.ref d), some (.int many), y, none] H2 := by
      refine ⟨_, pss_cons (ps_set (i := 3) scDraw.nd rfl (.inl rfl) (pe_op op_modN (pe_callTy call_int1 (by rfl) B.int (by decide +kernel) (pa_cons (pe_op op_add (pe_dget hu (pv 0) pe_str (fun _ _ => rfl)) (pe_op op_mul pe_int (pe_dget hu (pv 0) pe_str (fun _ _ => rfl)))) pa_nil)) pe_int))
        (pss_cons (ps_set (i := 3) scDraw.nd rfl (.inl rfl) (pe_op op_modN (pe_callTy call_int1 (by rfl) B.int (by decide +kernel) (pa_cons (pe_op op_add (pe_op op_add (pe_op op_mul (pv 3) (pv 3)) (pe_op op_mul pe_int (pe_dget hu (pv 0) pe_str (fun _ _ => rfl)))) pe_int) pa_nil)) pe_int))
        (pss_cons (ps_set (i := 3) scDraw.nd rfl (.inl rfl) (pe_op op_modN (pe_callTy call_int1 (by rfl) B.int (by decide +kernel) (pa_cons (pe_op op_add (pe_op op_mul (pv 3) pe_int) pe_int) pa_nil)) pe_int))
        (pss_one (ps_ret (pe_op op_modN (pe_callTy call_int1 (by rfl) B.int (by decide +kernel) (pa_cons (pe_op op_fdivN (pv 3) pe_int) pa_nil)) (pv 1)))))), fun H2 y D2 k2 => ?_⟩
      obtain ⟨m, n, ns, hd, hl, hn⟩ := id D2
      refine ⟨_, rfl, d, _, rfl, get_mix hd, _, rfl, d, _, rfl, get_draw hd, _, _, rfl, rfl, .inl ⟨by decide, by decide⟩, _, _, rfl, rfl, .inl ⟨_, rfl, ?_⟩⟩
      refine ⟨_, _, rfl, rfl, (by decide : (2147483647 : Int) ≠ 0), ?_⟩
      have b1 := fmod_lt (i := m + 31337 * n) (j := 2147483647) (by decide)
      refine ⟨_, rfl, _, rfl, _, _, rfl, rfl, .inl (lt64 b1.1 b1.2), _, rfl, d, _, rfl, get_draw hd, _, _, rfl, rfl, .inl ⟨by decide, by decide⟩, _, _, rfl, rfl, _, _, rfl, rfl, .inl ⟨_, rfl, ?_⟩⟩
      refine ⟨_, _, rfl, rfl, (by decide : (2147483629 : Int) ≠ 0), ?_⟩
      have b2 := fmod_lt (i := (m + 31337 * n).fmod 2147483647 * (m + 31337 * n).fmod 2147483647 + 48271 * n + 47) (j := 2147483629) (by decide)
      refine ⟨_, rfl, _, _, rfl, rfl, .inl (lt64 b2.1 (Int.lt_trans b2.2 (by decide : (2147483629 : Int) < 2147483647))), _, _, rfl, rfl, .inl ⟨_, rfl, ?_⟩⟩
      refine ⟨_, _, rfl, rfl, (by decide : (2147483563 : Int) ≠ 0), ?_⟩
      refine ⟨_, rfl, _, _, rfl, rfl, (⟨by decide, by decide⟩ : (64 : Int) ≠ 0 ∧ (64 : Int).natAbs < 1073741824), .inl ⟨_, rfl, _, rfl, _, _, rfl, rfl, mne, ?_⟩⟩
      have b3 := fun i : Int => fmod_lt (i := i) m0
      exact k _ H2 (b3 _).1 (b3 _).2 D2 k2
    refine ⟨_, pss_cons (ps_dput hu (pv 0) pe_str (pe_op op_add (pe_dget hu (pv 0) pe_str (fun _ _ => rfl)) pe_int) rfl)
      (pss_cons (ps_if (pt_cmpR (op_neD hr.units) (pe_dget hu (pv 0) pe_str (fun _ _ => rfl)) (pe_lst pa_nil) (nomark _))
        (pss_cons (ps_set (i := 2) scDraw.nd rfl (.inl rfl) (pe_bm0 PySem.F.plainAttrs_list PySem.F.slot_list_pop PySem.F.type_list_pop mt_pop (pe_dget hu (pv 0) pe_str (fun _ _ => rfl))))
        (pss_cons (ps_if (pt_cmpR op_ge (pv 2) (pe_op op_pow pe_int pe_int) (nomark _))
          (pss_cons (ps_expr (pe_bm PySem.F.plainAttrs_list PySem.F.slot_list_append PySem.F.type_list_append mt_append (pe_dget hu (pv 0) pe_str (fun _ _ => rfl))
            (pa_cons (pe_op op_fdivN (pv 2) (pe_callB (call_max2 rfl) (by rfl) B.max (by decide +kernel) (pa_cons pe_int (pa_cons (pv 1) pa_nil)))) pa_nil)))
          (pss_one (ps_ret (pe_op op_modN (pe_callTy call_int1 (by rfl) B.int (by decide +kernel) (pa_cons (pv 2) pa_nil)) (pv 1))))) pss_nil)
        (pss_one (ps_dput hu (pv 0) pe_str (pe_op op_modN (pe_callTy call_int1 (by rfl) B.int (by decide +kernel) (pa_cons (pe_op op_add (pe_op op_add (pe_op op_mul (pe_dget hu (pv 0) pe_str (fun _ _ => rfl)) pe_int)
          (pe_op op_modN (pe_callTy call_int1 (by rfl) B.int (by decide +kernel) (pa_cons (pv 2) pa_nil)) pe_int)) pe_int) pa_nil)) pe_int) rfl)))) pss_nil)
      dt), ?_⟩
    obtain ⟨m, n, ns, hd, hl, hn⟩ := D.ex
    have ndl := D.ne
    -- deck['draws'] = deck['draws'] + 1
    refine ⟨_, rfl, d, _, rfl, get_draw hd, _, _, rfl, rfl, _, rfl, d, _, rfl, set_draw hd _, ?_⟩
    have kd : Kp [d, l] H (upd H d (.dK (deckD l m (n + 1)))) := .put (by simp) hd (fun xs z => by cases z)
    have hd1 : (upd H d (.dK (deckD l m (n + 1)))) d = some (.dK (deckD l m (n + 1))) := upd_same
    have hl1 : (upd H d (.dK (deckD l m (n + 1)))) l = some (.lst (ns.map V.int)) := by rw [upd_ne ndl.symm]; exact hl
    generalize upd H d (.dK (deckD l m (n + 1))) = H1 at kd hd1 hl1
    -- if deck['left'] != []
    refine ⟨_, rfl, d, _, rfl, get_left hd1, Nat.zero_le _, fun p np => ⟨.list (ns.map PyData.int), .list [], .lst (sql_of (by rw [upd_ne (ne_of_none hl1 np)]; exact hl1)) (dp_ints ns), .lst (sql_of upd_same) .nil, shaped_ints ns, rfl, ?_⟩⟩
    rw [eqv_nil]
    have kp : Kp [d, l] H (upd H1 p (.lst [])) := kd.trans (.new np)
    have hd2 : (upd H1 p (.lst [])) d = some (.dK (deckD l m (n + 1))) := by rw [upd_ne (ne_of_none hd1 np)]; exact hd1
    have hl2 : (upd H1 p (.lst [])) l = some (.lst (ns.map V.int)) := by rw [upd_ne (ne_of_none hl1 np)]; exact hl1
    generalize upd H1 p (.lst []) = H2 at kp hd2 hl2
    refine ⟨_, rfl, ?_⟩
    cases e : ns.isEmpty with
    | true =>
      refine iteF ?_
      exact rt H2 _ ⟨_, _, _, hd2, hl2, hn⟩ kp
    | false =>
      refine iteT ?_
      -- cell = deck['left'].pop()
      obtain ⟨ini, z, rfl⟩ : ∃ ini z, ns = ini ++ [z] := by
        refine ⟨ns.dropLast, ns.getLast (fun q => by rw [q] at e; cases e), (List.dropLast_concat_getLast _).symm⟩
      have lst : ((ini ++ [z]).map V.int)[((ini ++ [z]).map V.int).length - 1]? = some (.int z) := by
        rw [List.map_append, List.length_append]
        show (ini.map V.int ++ [V.int z])[(ini.map V.int).length + 1 - 1]? = _
        rw [Nat.add_sub_cancel, List.getElem?_append_right (Nat.le_refl _), Nat.sub_self]
        rfl
      have dr : ((ini ++ [z]).map V.int).dropLast = ini.map V.int := by
        rw [List.map_append]
        exact List.dropLast_concat
      rw [List.length_append] at hn
      have hn' : ini.length + 1 ≤ 63 := hn
      refine ⟨_, rfl, d, _, rfl, get_left hd2, .inl ⟨rfl, _, sql_of hl2⟩, l, _, _, rfl, rfl, hl2, lst, ?_⟩
      rw [dr]
      have k3 : Kp [d, l] H (upd H2 l (.lst (ini.map V.int))) := kp.trans (.put (by simp) hl2 (fun xs z => by cases z))
      have hd3 : (upd H2 l (.lst (ini.map V.int))) d = some (.dK (deckD l m (n + 1))) := by rw [upd_ne ndl]; exact hd2
      have hl3 : (upd H2 l (.lst (ini.map V.int))) l = some (.lst (ini.map V.int)) := upd_same
      generalize upd H2 l (.lst (ini.map V.int)) = H3 at k3 hd3 hl3
      -- if cell >= 10 ** 18
      refine ⟨_, rfl, _, _, rfl, rfl, (⟨by decide, by decide, by decide⟩ : (0 : Int) ≤ 18 ∧ (18 : Int) ≤ 1000000 ∧ (10 : Int).natAbs < 2 ^ 64), _, _, rfl, rfl, _, rfl, ite2 (fun _ => ?_) (fun _ => ?_)⟩
      · -- append, return
        refine ⟨_, rfl, d, _, rfl, get_left hd3, .inl ⟨rfl, _, sql_of hl3⟩, _, rfl, _, rfl, _, _, rfl, _, _, rfl, rfl, ?_, ?_⟩
        · show (if many > 2 then many else 2) ≠ 0 ∧ (if many > 2 then many else 2).natAbs < 1073741824
          split <;> omega
        · refine ⟨l, _, _, rfl, rfl, hl3, ?_, ?_⟩
          · rw [List.length_map]
            exact small1000 (by omega)
          · refine ⟨_, rfl, .inl ⟨_, rfl, _, rfl, _, _, rfl, rfl, mne, ?_⟩⟩
            have b3 := fun i : Int => fmod_lt (i := i) m0
            refine k _ _ (b3 _).1 (b3 _).2 ⟨m, n + 1, ini ++ [z.fdiv (if many > 2 then many else 2)], ?_, ?_, ?_⟩ (k3.trans (.put (by simp) hl3 (fun xs z => by cases z)))
            · rw [upd_ne ndl]
              exact hd3
            · rw [upd_same, List.map_append]
              rfl
            · rw [List.length_append]
              show ini.length + 1 ≤ 63
              omega
      · refine ⟨_, rfl, d, _, rfl, get_mix hd3, _, _, rfl, rfl, .inr ⟨by decide, by decide⟩, _, rfl, .inl ⟨_, rfl, _, _, rfl, rfl, (by decide : (2147483629 : Int) ≠ 0), _, _, rfl, rfl, _, _, rfl, rfl, .inl ⟨_, rfl, ?_⟩⟩⟩
        refine ⟨_, _, rfl, rfl, (by decide : (2147483587 : Int) ≠ 0), _, rfl, d, _, rfl, set_mix hd3 _, ?_⟩
        refine rt _ _ ⟨_, _, ini, upd_same, ?_, by omega⟩ (k3.trans (.put (by simp) hd3 (fun xs z => by cases z)))
        rw [upd_ne ndl.symm]
        exact hl3
theorem cut63 (xs : List V) (h : xs.length ≤ 63) : cutV xs none (some 63) = xs := by
  unfold cutV
  rw [HT.sIx_none, show HT.sIx xs.length xs.length (some 63) = min 63 xs.length from HT.sIx_nat _ _ 63, Nat.min_eq_right h]
  show List.take xs.length xs = xs
  exact List.take_length
theorem scDeck : FnScope ["_law_script", "_law_seed", "_law_mixed", "_law_cell"] ["_law_script", "_law_seed"] (defScope sDeck) := ⟨rfl, rfl, rfl, by decide +kernel, rfl, by decide +kernel, by decide +kernel⟩
def spDeck (K : PySem.W.Frag) : Sp := fun vs H Q _ => ∃ (a : Addr) (ns : List Int) (seed : Int), vs = [.ref a, .int seed] ∧ SqL K H a (ns.map V.int) ∧ ns.length ≤ 63 ∧
  ∀ (d l : Addr) (H' : Hp), DeckAt H' d l → Kp [] H H' → H d = none → H l = none → Q (.ref d) H'
theorem ok_deck {f : Addr} {fd : FuncData} (F : Fun K "_law_deck" "_law_deck" sDeck f fd) (B : BI mg) : FnOk P w K mg base CX0 1 f fd ["_law_script", "_law_seed"] (spDeck K) := by
  refine F.ok scDeck (fun vs H Q E h => ?_) (fun cdv A outer s H vs Q E hr h => ?_)
  · obtain ⟨a, ns, seed, rfl, _⟩ := h
    rfl
  · obtain ⟨a, ns, seed, rfl, hS, hn, k⟩ := h
    refine ⟨_, pss_cons (ps_set (i := 2) scDeck.nd rfl (.inl rfl) (pv 1))
      (pss_cons (ps_for PassesOwn.never rfl (pi_list (pe_slice sl_list (pv 0) po_none (po_some pe_int))) (pg_name (i := 3) scDeck.nd rfl (.inl rfl))
        (pss_one (ps_set (i := 2) scDeck.nd rfl (.inl rfl) (pe_op op_modN (pe_callTy call_int1 (by rfl) B.int (by decide +kernel) (pa_cons (pe_op op_add (pe_op op_add (pe_op op_mul (pv 2) pe_int)
          (pe_op op_modN (pe_callTy call_int1 (by rfl) B.int (by decide +kernel) (pa_cons (pv 3) pa_nil)) pe_int)) pe_int) pa_nil)) pe_int))))
      (pss_one (ps_ret (pe_disp (pps_cons pe_str (pe_revL (pe_callTy call_list_of (by rfl) B.list (by decide +kernel) (pa_cons (pe_slice sl_list (pv 0) po_none (po_some pe_int)) pa_nil)))
        (pps_cons pe_str (pv 2) (pps_cons pe_str pe_int pps_nil))) (by rfl) (by rfl) (fun z => by cases z) (by decide))))), ?_⟩
    have hl63 : (ns.map V.int).length ≤ 63 := by rw [List.length_map]; exact hn
    refine ⟨_, rfl, _, rfl, 63, rfl, a, ns.map V.int, rfl, hS, fun c nc => ?_⟩
    rw [cut63 _ hl63]
    have k0 : Kp [] H (upd H c (.lst (ns.map V.int))) := .new nc
    refine ⟨c, rfl, ⟨_, sql_of upd_same⟩, for_list (K := K) (a := c) (xs := ns.map V.int) (fun i σ H2 => ∃ (m : Int) (y : Option V), σ = [some (.ref a), some (.int seed), some (.int m), y] ∧ Kp [] H H2 ∧ SqL K H2 c (ns.map V.int))
      ⟨seed, none, rfl, k0, sql_of upd_same⟩ (fun i σ H2 _ ⟨_, _, _, _, q⟩ => q) ?_ ?_⟩
    · rintro i x σ H2 hi ⟨m, y, rfl, k2, hc⟩
      obtain ⟨z, rfl⟩ : ∃ z, x = V.int z := by
        rw [List.getElem?_map] at hi
        obtain ⟨z, _, e⟩ := Option.map_eq_some_iff.mp hi
        exact ⟨z, e.symm⟩
      refine ⟨_, rfl, _, _, rfl, rfl, .inr ⟨by decide, by decide⟩, _, rfl, .inl ⟨_, rfl, _, _, rfl, rfl, (by decide : (2147483629 : Int) ≠ 0), _, _, rfl, rfl, _, _, rfl, rfl, .inl ⟨_, rfl, ?_⟩⟩⟩
      exact ⟨_, _, rfl, rfl, (by decide : (2147483563 : Int) ≠ 0), _, _, rfl, k2, hc⟩
    · rintro σ H2 ⟨m, y, rfl, k2, hc⟩
      intro d nd
      have kd : Kp [] H2 (upd H2 d (.dK [])) := .new nd
      have hdd : (upd H2 d (.dK [])) d = some (.dK []) := upd_same
      generalize upd H2 d (.dK []) = H3 at kd hdd
      have hS3 : SqL K H3 a (ns.map V.int) := (k2.trans kd).lst List.not_mem_nil hS
      refine ⟨_, rfl, 63, rfl, a, ns.map V.int, rfl, hS3, fun e ne => ?_⟩
      rw [cut63 _ hl63]
      refine ⟨e, _, rfl, .inl (sql_of upd_same), fun g ng => ?_⟩
      refine ⟨g, _, rfl, sql_of upd_same, fun l nl => ?_⟩
      have k5 : Kp [] H3 (upd (upd (upd H3 e (.lst (ns.map V.int))) g (.lst (ns.map V.int))) l (.lst (ns.map V.int).reverse)) := (Kp.new ne).trans ((Kp.new ng).trans (Kp.new nl))
      have hl5 : (upd (upd (upd H3 e (.lst (ns.map V.int))) g (.lst (ns.map V.int))) l (.lst (ns.map V.int).reverse)) l = some (.lst (ns.map V.int).reverse) := upd_same
      have nl3 : H3 l = none := ((Kp.new (ms := []) ne).trans (Kp.new ng)).free nl List.not_mem_nil
      generalize upd (upd (upd H3 e (.lst (ns.map V.int))) g (.lst (ns.map V.int))) l (.lst (ns.map V.int).reverse) = H4 at k5 hl5
      have hd4 : H4 d = some (.dK []) := k5.at_ _ _ hdd List.not_mem_nil
      refine ⟨_, rfl, hd4, deckD l m 0, rfl, by show 3 ≤ 15; decide, ?_⟩
      rw [merge_deck]
      have ndl : d ≠ l := ne_of hd4 hl5 (by intro z; cases z)
      refine k d l _ ⟨m, 0, ns.reverse, upd_same, ?_, by rw [List.length_reverse]; exact hn⟩ ?_ (k2.free nd List.not_mem_nil) ((k2.trans kd).free nl3 List.not_mem_nil)
      · rw [upd_ne ndl.symm, hl5, List.map_reverse]
      · refine ⟨fun b o e1 _ => ?_, fun b xs e1 => ?_⟩
        · have nb : b ≠ d := ne_of_none e1 (k2.free nd List.not_mem_nil)
          rw [upd_ne nb]
          exact k5.at_ _ _ (kd.at_ _ _ (k2.at_ _ _ e1 List.not_mem_nil) List.not_mem_nil) List.not_mem_nil
        · have nb : b ≠ d := ne_of_none e1 (k2.free nd List.not_mem_nil)
          rw [upd_ne nb]
          exact k5.tup _ _ (kd.tup _ _ (k2.tup _ _ e1))
theorem scPick : FnScope ["_law_deck_here", "_law_some"] ["_law_deck_here", "_law_some"] (defScope sPick) := ⟨rfl, rfl, rfl, by decide +kernel, rfl, by decide +kernel, by decide +kernel⟩
def spPick (K : PySem.W.Frag) : Sp := fun vs H Q _ => ∃ (d l a : Addr) (xs : List V), vs = [.ref d, .ref a] ∧ DeckAt H d l ∧ SqL K H a xs ∧ xs ≠ [] ∧ xs.length ≤ 1000000 ∧ a ≠ d ∧ a ≠ l ∧
  ∀ (x : V) (H' : Hp), x ∈ xs → DeckAt H' d l → Kp [d, l] H H' → Q x H'
/-- a def of the module, as callers need it -/
structure Df (K : PySem.W.Frag) (mg : Str → Option Value) (x : Str) (st : Stmt) (ps : List Str) (f : Addr) (fd : FuncData) : Prop where
  F : Fun K x x st f fd
  b : Binds K fd ps []
  g : mg x = some (.ref f)
theorem ok_pick {f fD : Addr} {fd fdD : FuncData} (F : Fun K "_law_pick" "_law_pick" sPick f fd) (B : BI mg) (D : Df K mg "_law_draw" sDraw ["_law_deck_here", "_law_many"] fD fdD) : FnOk P w K mg base CX0 2 f fd ["_law_deck_here", "_law_some"] (spPick K) := by
  refine F.ok scPick (fun vs H Q E h => ?_) (fun cdv A outer s H vs Q E hr h => ?_)
  · obtain ⟨d, l, a, xs, rfl, _⟩ := h
    rfl
  · obtain ⟨d, l, a, xs, rfl, DA, hS, hne, hlen, had, hal, k⟩ := h
    refine ⟨_, pss_one (ps_ret (pe_ix ix_list (pv 1) (pe_call (ok_draw D.F B) hr (by rfl) D.g D.F.kp D.b .nil pass0 (pa_cons (pv 0) (pa_cons (pe_callB call_len_seq (by rfl) B.len PySem.boot_len (pa_cons (pv 1) pa_nil)) pa_nil))) (fun _ _ => rfl))), ?_⟩
    have hpos : 0 < xs.length := List.length_pos_iff.mpr hne
    refine ⟨_, rfl, _, rfl, _, rfl, a, xs, rfl, .inl hS, d, l, _, rfl, DA, by omega, by omega, fun r H' r0 r1 D' kp => ?_⟩
    have hn : a ∉ [d, l] := by simp [had, hal]
    obtain ⟨i, rfl⟩ : ∃ i : Nat, r = (i : Int) := ⟨r.toNat, by omega⟩
    have hi : i < xs.length := by omega
    refine ⟨a, xs, _, xs[i], rfl, rfl, kp.lst hn hS, ?_, ?_⟩
    · exact atI_nat (List.getElem?_eq_getElem hi)
    · exact k _ H' (List.getElem_mem hi) D' kp
end
end Ey
set_option maxHeartbeats 4000000
namespace Ey
open PySem PySem.Spec L2
abbrev sTags : Stmt := topS 24
abbrev sTree : Stmt := topS 25
abbrev sChain : Stmt := topS 26
abbrev sLPlaces : Stmt := topS 22
def tagL : List Str := ["a", "jkqvwz", "c", "if", "else", "abcdefgh", "z", "has", "yes", "and"]
theorem tagL_ok : ∀ g ∈ tagL, isTag g = true := by decide +kernel
/-- a def without parameters, as callers need it -/
structure Facts (K : PySem.W.Frag) (mg : Str → Option Value) (fD fP fT : Addr) (dD dP dT : FuncData) : Prop where
  B : BI mg
  draw : Df K mg "_law_draw" sDraw ["_law_deck_here", "_law_many"] fD dD
  pick : Df K mg "_law_pick" sPick ["_law_deck_here", "_law_some"] fP dP
  tags : Df K mg "_law_tags" sTags [] fT dT
section
variable {P : Program} {w : World} {K : PySem.W.Frag} {mg : Str → Option Value} {base : Heap}
theorem scTags : FnScope [] [] (defScope sTags) := ⟨rfl, rfl, rfl, by decide +kernel, rfl, by decide +kernel, by decide +kernel⟩
def spTags : Sp := fun vs H Q _ => vs = [] ∧ ∀ p, H p = none → Q (.ref p) (upd H p (.lst (tagL.map V.str)))
theorem ok_tags {f : Addr} {fd : FuncData} (F : Fun K "_law_tags" "_law_tags" sTags f fd) : FnOk P w K mg base CX0 1 f fd [] spTags := by
  refine F.ok scTags (fun vs H Q E h => ?_) (fun cdv A outer s H vs Q E hr h => ?_)
  · obtain ⟨rfl, _⟩ := h
    rfl
  · obtain ⟨rfl, k⟩ := h
    refine ⟨_, pss_one (ps_ret (pe_lst (pa_cons pe_str (pa_cons pe_str (pa_cons pe_str (pa_cons pe_str (pa_cons pe_str (pa_cons pe_str (pa_cons pe_str (pa_cons pe_str (pa_cons pe_str (pa_cons pe_str pa_nil)))))))))))), ?_⟩
    exact ⟨by show 10 ≤ sizeLine; decide, fun p np => k p np⟩
/-! ### drawn trees -/
def boxD (n : Nat) : List (Key × V) := [(kLeft, .int n)]
def BoxAt (H : Hp) (b : Addr) (n : Nat) : Prop := H b = some (.dK (boxD n))
theorem put_box (n : Nat) (z : Int) : putK (boxD n) kLeft (.int z) = [(kLeft, .int z)] := by
  unfold putK
  rw [if_pos (by rw [valV_any, show valV (boxD n) kLeft = some (.int n) from valV_pos rfl]; rfl)]
  simp [boxD]
theorem get_box {H : Hp} {b : Addr} {n : Nat} (h : BoxAt H b n) : DGet H b (kV kLeft) (some (.int n)) := (show valV (boxD n) kLeft = some (.int n) from valV_pos rfl) ▸ DGet.k h
theorem set_box {H : Hp} {b : Addr} {n m : Nat} {z : Int} (h : BoxAt H b n) (e : z = (m : Int)) : DPut H b (kV kLeft) (.int z) (upd H b (.dK (boxD m))) := by
  have q := DPut.k (k := kLeft) (v := .int z) h (small1000 (show 1 ≤ 1000 by decide))
  rw [put_box, e] at q
  rw [e]
  exact q
theorem BoxAt.ned {H : Hp} {b d l : Addr} {n : Nat} (h : BoxAt H b n) (D : DeckAt H d l) : b ≠ d ∧ b ≠ l := by
  obtain ⟨m, k, ns, h1, h2, _⟩ := D.ex
  exact ⟨ne_of h h1 (by intro z; injection z with z; injection z with _ z; cases z), ne_of h h2 (by intro z; cases z)⟩
theorem BoxAt.kp {ms : List Addr} {H H1 : Hp} {b : Addr} {n : Nat} (h : BoxAt H b n) (k : Kp ms H H1) (nb : b ∉ ms) : BoxAt H1 b n := k.at_ _ _ h nb
def spTree (deep : Nat) : Sp := fun vs H Q _ => ∃ (d l b : Addr) (n : Nat), vs = [.ref d, .ref b, .int deep] ∧ DeckAt H d l ∧ BoxAt H b n ∧
  ∀ (v : V) (t : Tr) (m : Nat) (H' : Hp), TreeAt H' v t → t.ok → t.sz + m ≤ n → t.ht ≤ deep → BoxAt H' b m → DeckAt H' d l → Kp [d, l, b] H H' → Q v H'
theorem scTree : FnScope ["_law_deck_here", "_law_box", "_law_deep", "_law_tag", "_law_first", "_law_one", "_law_other"] ["_law_deck_here", "_law_box", "_law_deep"] (defScope sTree) := ⟨rfl, rfl, rfl, by decide +kernel, rfl, by decide +kernel, by decide +kernel⟩
variable {fD fP fT : Addr} {dD dP dT : FuncData}
theorem sub3 {d l b : Addr} : ∀ x ∈ [d, l], x ∈ [d, l, b] := by simp
theorem ok_tree {f : Addr} {fd : FuncData} (Fa : Facts K mg fD fP fT dD dP dT) (Ft : Df K mg "_law_drawn_tree" sTree ["_law_deck_here", "_law_box", "_law_deep"] f fd) :
    ∀ deep : Nat, FnOk P w K mg base CX0 (deep + 3) f fd ["_law_deck_here", "_law_box", "_law_deep"] (spTree deep)
  | 0 => by
    refine Ft.F.ok scTree (fun vs H Q E h => ?_) (fun cdv A outer s H vs Q E hr h => ?_)
    · obtain ⟨d, l, b, n, rfl, _⟩ := h
      rfl
    · obtain ⟨d, l, b, n, rfl, D, hb, k⟩ := h
      have hu := hu_of hr
      refine ⟨_, pss_cons (ps_if (PW.pt (pw_or (pt_cmpR op_eq (pe_dget hu (pv 1) pe_str (fun _ _ => rfl)) pe_int (nomark _)) (pw_or (pt_cmpR op_eq (pv 2) pe_int (nomark _)) (pw_or1
          (pt_cmpR op_lt (pe_call (ok_draw Fa.draw.F Fa.B) (hr.mono (by decide)) (by rfl) Fa.draw.g Fa.draw.F.kp Fa.draw.b .nil pass0 (pa_cons (pv 0) (pa_cons pe_int pa_nil))) pe_int (nomark _)))))) (pss_one (ps_ret pe_non)) pss_nil)
        (pss_cons ps_never (pss_cons ps_never (pss_cons ps_never (pss_cons ps_never (pss_one ps_never))))), ?_⟩
      have fin : Q .non H := k .non .nil n H .nil trivial (by simp [Tr.sz]) (Nat.le_refl _) hb D .refl
      refine ⟨_, rfl, b, _, rfl, get_box hb, rfl, _, rfl, ite2 (fun _ => iteT fin) (fun _ => ?_)⟩
      refine ⟨_, rfl, rfl, _, rfl, ite2 (fun _ => iteT fin) (fun q => ?_)⟩
      exact absurd (decide_eq_true rfl) q
  | deep + 1 => by
    have ih := ok_tree Fa Ft deep
    refine Ft.F.ok scTree (fun vs H Q E h => ?_) (fun cdv A outer s H vs Q E hr h => ?_)
    · obtain ⟨d, l, b, n, rfl, _⟩ := h
      rfl
    · obtain ⟨d, l, b, n, rfl, D, hb, k⟩ := h
      have hu := hu_of hr
      have hr1 := hr.mono (show 1 ≤ deep + 3 by omega)
      have hr2 := hr.mono (show 2 ≤ deep + 3 by omega)
      refine ⟨_, pss_cons (ps_if (PW.pt (pw_or (pt_cmpR op_eq (pe_dget hu (pv 1) pe_str (fun _ _ => rfl)) pe_int (nomark _)) (pw_or (pt_cmpR op_eq (pv 2) pe_int (nomark _)) (pw_or1
          (pt_cmpR op_lt (pe_call (ok_draw Fa.draw.F Fa.B) hr1 (by rfl) Fa.draw.g Fa.draw.F.kp Fa.draw.b .nil pass0 (pa_cons (pv 0) (pa_cons pe_int pa_nil))) pe_int (nomark _)))))) (pss_one (ps_ret pe_non)) pss_nil)
        (pss_cons (ps_dput hu (pv 1) pe_str (pe_op op_sub (pe_dget hu (pv 1) pe_str (fun _ _ => rfl)) pe_int) rfl)
        (pss_cons (ps_par (i := 3) (j := 4) (by rfl) scTree.nd rfl rfl (by decide) rfl rfl
          (pa_cons (pe_call (ok_pick Fa.pick.F Fa.B Fa.draw) hr2 (by rfl) Fa.pick.g Fa.pick.F.kp Fa.pick.b .nil pass0 (pa_cons (pv 0) (pa_cons (pe_call0 (ok_tags Fa.tags.F) hr1 (by rfl) Fa.tags.g Fa.tags.F.kp Fa.tags.b .nil pass0) pa_nil)))
          (pa_cons (pe_cmpR op_eq (pe_call (ok_draw Fa.draw.F Fa.B) hr1 (by rfl) Fa.draw.g Fa.draw.F.kp Fa.draw.b .nil pass0 (pa_cons (pv 0) (pa_cons pe_int pa_nil))) pe_int (nomark _)) pa_nil)) (by rfl))
        (pss_cons (ps_set (i := 5) scTree.nd rfl (.inl rfl) (pe_call ih hr (by rfl) Ft.g Ft.F.kp Ft.b .nil pass0 (pa_cons (pv 0) (pa_cons (pv 1) (pa_cons (pe_op op_sub (pv 2) pe_int) pa_nil)))))
        (pss_cons (ps_set (i := 6) scTree.nd rfl (.inl rfl) (pe_call ih hr (by rfl) Ft.g Ft.F.kp Ft.b .nil pass0 (pa_cons (pv 0) (pa_cons (pv 1) (pa_cons (pe_op op_sub (pv 2) pe_int) pa_nil)))))
        (pss_one (ps_ret (pe_ifExp (pt_val (pv 4)) (pe_tup (pa_cons (pv 3) (pa_cons (pv 5) (pa_cons (pv 6) pa_nil)))) (pe_tup (pa_cons (pv 3) (pa_cons (pv 6) (pa_cons (pv 5) pa_nil))))))))))), ?_⟩
      -- the first test
      refine ⟨_, rfl, b, _, rfl, get_box hb, rfl, _, rfl, ite2 (fun _ => iteT (k .non .nil n H .nil trivial (by simp [Tr.sz]) (Nat.zero_le _) hb D .refl)) (fun q0 => ?_)⟩
      have hn : n ≠ 0 := fun e => q0 (decide_eq_true (by rw [e]; rfl))
      refine ⟨_, rfl, rfl, _, rfl, ite2 (fun q => ?_) (fun _ => ?_)⟩
      · have := V.int.inj (of_decide_eq_true q)
        omega
      refine ⟨_, rfl, d, l, 7, rfl, D, by decide, by decide, fun r H1 r0 r1 D1 k1 => ⟨_, _, rfl, rfl, _, rfl, ?_⟩⟩
      have hbd := hb.ned D
      have hb1 : BoxAt H1 b n := hb.kp k1 (by simp [hbd.1, hbd.2])
      have k1' : Kp [d, l, b] H H1 := k1.more sub3
      refine ite2 (fun _ => ?_) (fun _ => ?_)
      · exact k .non .nil n H1 .nil trivial (by simp [Tr.sz]) (Nat.zero_le _) hb1 D1 k1'
      -- box['left'] = box['left'] - 1
      obtain ⟨m, rfl⟩ : ∃ m, n = m + 1 := ⟨n - 1, by omega⟩
      refine ⟨_, rfl, b, _, rfl, get_box hb1, _, _, rfl, rfl, _, rfl, b, _, rfl, set_box (m := m) hb1 (by omega), ?_⟩
      have hb2 : BoxAt (upd H1 b (.dK (boxD m))) b m := upd_same
      have D2 : DeckAt (upd H1 b (.dK (boxD m))) d l := D1.kp (ms := [b]) (.put (by simp) hb1 (fun xs z => by cases z)) (by simp [hbd.1.symm]) (by simp [hbd.2.symm])
      have k2 : Kp [d, l, b] H (upd H1 b (.dK (boxD m))) := k1'.trans (.put (by simp) hb1 (fun xs z => by cases z))
      generalize upd H1 b (.dK (boxD m)) = H2 at hb2 D2 k2
      -- tag, first
      refine ⟨_, rfl, rfl, fun p np => ?_⟩
      obtain ⟨m1, n1, ns, e1, e2, e3⟩ := id D2
      have D3 : DeckAt (upd H2 p (.lst (tagL.map V.str))) d l := D2.kp (.new np) (ms := []) List.not_mem_nil List.not_mem_nil
      refine ⟨d, l, p, _, rfl, D3, sql_of upd_same, by decide, by show 10 ≤ 1000000; decide, (ne_of_none e1 np).symm, (ne_of_none e2 np).symm, fun x H4 hx D4 k4 => ?_⟩
      obtain ⟨g, hg, rfl⟩ := List.mem_map.mp hx
      have k4' : Kp [d, l, b] H H4 := k2.trans ((Kp.new np).trans (k4.more sub3))
      refine ⟨_, rfl, d, l, 2, rfl, D4, by decide, by decide, fun r' H5 _ _ D5 k5 => ⟨rfl, _, _, rfl, ?_⟩⟩
      have k5' : Kp [d, l, b] H H5 := k4'.trans (k5.more sub3)
      have hb5 : BoxAt H5 b m := by
        refine (((hb2.kp (.new np) (ms := []) List.not_mem_nil).kp k4 ?_).kp k5 ?_) <;> simp [hbd.1, hbd.2]
      -- one, other
      refine ⟨_, rfl, _, rfl, _, rfl, _, _, rfl, rfl, d, l, b, m, by simp, D5, hb5, fun v1 t1 m1' H6 T1 o1 s1 h1 hb6 D6 k6 => ?_⟩
      refine ⟨_, rfl, _, rfl, _, rfl, _, _, rfl, rfl, d, l, b, m1', by simp, D6, hb6, fun v2 t2 m2' H7 T2 o2 s2 h2 hb7 D7 k7 => ?_⟩
      have T1' : TreeAt H7 v1 t1 := T1.kp k7
      have k7' : Kp [d, l, b] H H7 := k5'.trans (k6.trans k7)
      refine ⟨_, rfl, _, rfl, ite2 (fun _ => ?_) (fun _ => ?_)⟩
      · refine ⟨_, rfl, _, rfl, _, rfl, by show 3 ≤ sizeLine; decide, fun q nq => ?_⟩
        have kq : Kp [d, l, b] H7 (upd H7 q (.tup [.str g, v1, v2])) := .new nq
        refine k _ (.nd g t1 t2) m2' _ (.nd upd_same (T1'.kp kq) (T2.kp kq)) ⟨tagL_ok g hg, o1, o2⟩ (by simp only [Tr.sz]; omega) (by simp only [Tr.ht]; omega) ?_ ?_ (k7'.trans kq)
        · exact hb7.kp (.new nq) (ms := []) List.not_mem_nil
        · exact D7.kp (.new nq) (ms := []) List.not_mem_nil List.not_mem_nil
      · refine ⟨_, rfl, _, rfl, _, rfl, by show 3 ≤ sizeLine; decide, fun q nq => ?_⟩
        have kq : Kp [d, l, b] H7 (upd H7 q (.tup [.str g, v2, v1])) := .new nq
        refine k _ (.nd g t2 t1) m2' _ (.nd upd_same (T2.kp kq) (T1'.kp kq)) ⟨tagL_ok g hg, o2, o1⟩ (by simp only [Tr.sz]; omega) (by simp only [Tr.ht]; omega) ?_ ?_ (k7'.trans kq)
        · exact hb7.kp (.new nq) (ms := []) List.not_mem_nil
        · exact D7.kp (.new nq) (ms := []) List.not_mem_nil List.not_mem_nil
end
end Ey
set_option maxHeartbeats 4000000
namespace Ey
open PySem PySem.Spec L2
theorem s_l : (Str.ofString "l") = st [108] := by decide +kernel
theorem s_r : (Str.ofString "r") = st [114] := by decide +kernel
theorem s_e : (Str.ofString "") = st [] := by decide +kernel
theorem cut_last (p : List Nat) : cutS (st p) none (some (-1)) = st p.dropLast := by
  unfold cutS
  rw [HT.sIx_none]
  have e : HT.sIx (st p).length (st p).length (some (-1)) = p.length - 1 := by
    show (if (-1 : Int) < 0 then (-1 + ((st p).length : Int)).toNat else min (-1 : Int).toNat (st p).length) = p.length - 1
    rw [if_pos (by decide), st_len]
    omega
  rw [e, st_list, List.dropLast_eq_take]
  rfl
theorem cut_to (p : List Nat) (n : Nat) : cutS (st p) none (some (n : Int)) = st (p.take n) := by
  unfold cutS
  rw [HT.sIx_none, HT.sIx_nat, st_list, st_len]
  show st (List.take (min n p.length - 0) p) = _
  congr 1
  rw [Nat.sub_zero, ← List.take_take, List.take_length]
section
variable {P : Program} {w : World} {K : PySem.W.Frag} {mg : Str → Option Value} {base : Heap} {fD fP fT : Addr} {dD dP dT : FuncData}
/-! ### chains -/
theorem scChain : FnScope ["_law_deck_here", "_law_many", "_law_tree", "_law_turn", "_law_tag"] ["_law_deck_here", "_law_many"] (defScope sChain) := ⟨rfl, rfl, rfl, by decide +kernel, rfl, by decide +kernel, by decide +kernel⟩
def spChain : Sp := fun vs H Q _ => ∃ (d l : Addr) (many : Nat), vs = [.ref d, .int many] ∧ DeckAt H d l ∧ many ≤ 100 ∧
  ∀ (v : V) (t : Tr) (H' : Hp), TreeAt H' v t → t.ok → t.sz ≤ many → DeckAt H' d l → Kp [d, l] H H' → Q v H'
theorem ok_chain {f : Addr} {fd : FuncData} (Fa : Facts K mg fD fP fT dD dP dT) (F : Fun K "_law_chain" "_law_chain" sChain f fd) : FnOk P w K mg base CX0 3 f fd ["_law_deck_here", "_law_many"] spChain := by
  refine F.ok scChain (fun vs H Q E h => ?_) (fun cdv A outer s H vs Q E hr h => ?_)
  · obtain ⟨d, l, many, rfl, _⟩ := h
    rfl
  · obtain ⟨d, l, many, rfl, D, hm, k⟩ := h
    have hr1 := hr.mono (show 1 ≤ 2 by decide)
    refine ⟨_, pss_cons (ps_set (i := 2) scChain.nd rfl (.inl rfl) pe_non)
      (pss_cons (ps_for PassesOwn.never rfl (pi_range1 (by rfl) Fa.B.range (pa_cons (pv 1) pa_nil)) (pg_name (i := 3) scChain.nd rfl (.inl rfl))
        (pss_cons (ps_set (i := 4) scChain.nd rfl (.inl rfl) (pe_call (ok_pick Fa.pick.F Fa.B Fa.draw) hr (by rfl) Fa.pick.g Fa.pick.F.kp Fa.pick.b .nil pass0 (pa_cons (pv 0) (pa_cons (pe_call0 (ok_tags Fa.tags.F) hr1 (by rfl) Fa.tags.g Fa.tags.F.kp Fa.tags.b .nil pass0) pa_nil))))
        (pss_one (ps_set (i := 2) scChain.nd rfl (.inl rfl) (pe_ifExp (pt_cmpR op_eq (pe_call (ok_draw Fa.draw.F Fa.B) hr1 (by rfl) Fa.draw.g Fa.draw.F.kp Fa.draw.b .nil pass0 (pa_cons (pv 0) (pa_cons pe_int pa_nil))) pe_int (nomark _))
          (pe_tup (pa_cons (pv 4) (pa_cons (pv 2) (pa_cons pe_non pa_nil)))) (pe_tup (pa_cons (pv 4) (pa_cons pe_non (pa_cons (pv 2) pa_nil)))))))))
      (pss_one (ps_ret (pv 2)))), ?_⟩
    refine ⟨_, rfl, many, rfl, by omega, by omega, ?_⟩
    rw [Int.toNat_natCast]
    refine for_range (lo := 0) (n := many) (fun i σ H2 => ∃ (v : V) (t : Tr) (y z : Option V), σ = [some (.ref d), some (.int many), some v, y, z] ∧ TreeAt H2 v t ∧ t.ok ∧ t.sz ≤ i ∧ DeckAt H2 d l ∧ Kp [d, l] H H2)
      ⟨.non, .nil, none, none, rfl, .nil, trivial, Nat.le_refl _, D, .refl⟩ ?_ ?_
    · rintro i σ H2 hi ⟨v, t, y, z, rfl, T, o, sz, D2, k2⟩
      refine ⟨_, rfl, rfl, fun p np => ?_⟩
      obtain ⟨m1, n1, ns, e1, e2, e3⟩ := id D2
      have D3 : DeckAt (upd H2 p (.lst (tagL.map V.str))) d l := D2.kp (.new np) (ms := []) List.not_mem_nil List.not_mem_nil
      refine ⟨d, l, p, _, rfl, D3, sql_of upd_same, by decide, by show 10 ≤ 1000000; decide, (ne_of_none e1 np).symm, (ne_of_none e2 np).symm, fun x H4 hx D4 k4 => ?_⟩
      obtain ⟨g, hg, rfl⟩ := List.mem_map.mp hx
      refine ⟨_, rfl, d, l, 2, rfl, D4, by decide, by decide, fun r' H5 _ _ D5 k5 => ⟨rfl, _, rfl, ?_⟩⟩
      have k5' : Kp [d, l] H2 H5 := (Kp.new np).trans (k4.trans k5)
      have T5 := T.kp k5'
      refine ite2 (fun _ => ?_) (fun _ => ?_)
      · refine ⟨_, rfl, _, rfl, by show 3 ≤ sizeLine; decide, fun q nq => ?_⟩
        have kq : Kp [d, l] H5 (upd H5 q (.tup [.str g, v, .non])) := .new nq
        exact ⟨_, .nd g t .nil, _, _, rfl, .nd upd_same (T5.kp kq) .nil, ⟨tagL_ok g hg, o, trivial⟩, by simp only [Tr.sz]; omega, D5.kp (.new nq) (ms := []) List.not_mem_nil List.not_mem_nil, k2.trans (k5'.trans kq)⟩
      · refine ⟨_, rfl, _, rfl, by show 3 ≤ sizeLine; decide, fun q nq => ?_⟩
        have kq : Kp [d, l] H5 (upd H5 q (.tup [.str g, .non, v])) := .new nq
        exact ⟨_, .nd g .nil t, _, _, rfl, .nd upd_same .nil (T5.kp kq), ⟨tagL_ok g hg, trivial, o⟩, by simp only [Tr.sz]; omega, D5.kp (.new nq) (ms := []) List.not_mem_nil List.not_mem_nil, k2.trans (k5'.trans kq)⟩
    · rintro σ H2 ⟨v, t, y, z, rfl, T, o, sz, D2, k2⟩
      exact ⟨_, rfl, k v t H2 T o sz D2 k2⟩
/-! ### places by recursion -/
theorem scLPlaces : FnScope ["_law_tree", "_law_ahead"] ["_law_tree", "_law_ahead"] (defScope sLPlaces) := ⟨rfl, rfl, rfl, by decide +kernel, rfl, by decide +kernel, by decide +kernel⟩
def plV (a : List Nat) (t : Tr) : List V := (pl t).map fun q => V.str (st (a ++ q))
theorem plV_nil (a : List Nat) : plV a .nil = [V.str (st a)] := by
  show [V.str (st (a ++ []))] = _
  rw [List.append_nil]
theorem plV_nd (a : List Nat) (g : Str) (l r : Tr) : plV a (.nd g l r) = V.str (st a) :: (plV (a ++ [108]) l ++ plV (a ++ [114]) r) := by
  simp [plV, pl]
  rfl
theorem plV_len (a : List Nat) (t : Tr) : (plV a t).length = 2 * t.sz + 1 := by rw [plV, List.length_map, pl_len]
def spLPlaces (n : Nat) : Sp := fun vs H Q _ => ∃ (v : V) (t : Tr) (a : List Nat), vs = [v, .str (st a)] ∧ TreeAt H v t ∧ t.ht ≤ n ∧ t.sz ≤ 20000 ∧ a.length + n ≤ 1000 ∧
  ∀ (p : Addr) (H' : Hp), Kp [] H H' → H p = none → H' p = some (.lst (plV a t)) → Q (.ref p) H'
theorem ok_lplaces {f : Addr} {fd : FuncData} (Df0 : Df K mg "_law_places" sLPlaces ["_law_tree", "_law_ahead"] f fd) : ∀ n : Nat, FnOk P w K mg base CX0 (n + 1) f fd ["_law_tree", "_law_ahead"] (spLPlaces n)
  | 0 => by
    refine Df0.F.ok scLPlaces (fun vs H Q E h => ?_) (fun cdv A outer s H vs Q E hr h => ?_)
    · obtain ⟨v, t, a, rfl, _⟩ := h
      rfl
    · obtain ⟨v, t, a, rfl, T, ht, _, _, k⟩ := h
      refine ⟨_, pss_cons (ps_if (pt_cmpR op_isN (pv 0) pe_non (nomark _)) (pss_one (ps_ret (pe_lst (pa_cons (pv 1) pa_nil)))) pss_nil) (pss_one ps_never), ?_⟩
      cases T with
      | nd e _ _ => simp [Tr.ht] at ht
      | nil =>
        refine ⟨_, rfl, rfl, _, rfl, iteT ?_⟩
        refine ⟨_, rfl, by show 1 ≤ sizeLine; decide, fun p np => ?_⟩
        exact k p _ (.new np) np (by rw [upd_same, plV_nil])
  | n + 1 => by
    have ih := ok_lplaces Df0 n
    refine Df0.F.ok scLPlaces (fun vs H Q E h => ?_) (fun cdv A outer s H vs Q E hr h => ?_)
    · obtain ⟨v, t, a, rfl, _⟩ := h
      rfl
    · obtain ⟨v, t, a, rfl, T, ht, sz, al, k⟩ := h
      refine ⟨_, pss_cons (ps_if (pt_cmpR op_isN (pv 0) pe_non (nomark _)) (pss_one (ps_ret (pe_lst (pa_cons (pv 1) pa_nil)))) pss_nil)
        (pss_one (ps_ret (pe_op op_cat (pe_op op_cat (pe_lst (pa_cons (pv 1) pa_nil))
          (pe_call ih hr (by rfl) Df0.g Df0.F.kp Df0.b .nil pass0 (pa_cons (pe_ix ix_tup (pv 0) pe_int (fun _ _ => rfl)) (pa_cons (pe_op op_add_str (pv 1) pe_str) pa_nil))))
          (pe_call ih hr (by rfl) Df0.g Df0.F.kp Df0.b .nil pass0 (pa_cons (pe_ix ix_tup (pv 0) pe_int (fun _ _ => rfl)) (pa_cons (pe_op op_add_str (pv 1) pe_str) pa_nil)))))), ?_⟩
      cases T with
      | nil =>
        refine ⟨_, rfl, rfl, _, rfl, iteT ?_⟩
        refine ⟨_, rfl, by show 1 ≤ sizeLine; decide, fun p np => ?_⟩
        exact k p _ (.new np) np (by rw [upd_same, plV_nil])
      | @nd x g tl tr v1 v2 e T1 T2 =>
        simp only [Tr.ht] at ht
        simp only [Tr.sz] at sz
        refine ⟨_, rfl, rfl, _, rfl, iteF ?_⟩
        refine ⟨_, rfl, by show 1 ≤ sizeLine; decide, fun p np => ?_⟩
        have kp : Kp [] H (upd H p (.lst [V.str (st a)])) := .new np
        have hp : (upd H p (.lst [V.str (st a)])) p = some (.lst [V.str (st a)]) := upd_same
        generalize upd H p (.lst [V.str (st a)]) = H1 at kp hp
        refine ⟨_, rfl, x, _, _, _, rfl, rfl, sqt_of (kp.tup _ _ e), atI_nat (j := 1) rfl, _, rfl, _, _, rfl, rfl, ?_, ?_⟩
        · rw [st_len]
          show a.length + 1 ≤ sizeLine
          exact Nat.le_of_lt (small1000 (by omega))
        rw [s_l, st_app]
        refine ⟨v1, tl, a ++ [108], rfl, T1.kp kp, by omega, by omega, by rw [List.length_append]; show a.length + 1 + n ≤ 1000; omega, fun p1 H2 k2 n1 e1 => ?_⟩
        refine ⟨p, p1, _, _, rfl, rfl, k2.at_ _ _ hp List.not_mem_nil, e1, ?_, fun p2 n2 => ?_⟩
        · rw [plV_len]
          show 1 + _ ≤ sizeLine
          exact Nat.le_trans (show 1 + (2 * tl.sz + 1) ≤ 100000 by omega) (by decide)
        have k3 : Kp [] H (upd H2 p2 (.lst ([V.str (st a)] ++ plV (a ++ [108]) tl))) := kp.trans (k2.trans (.new n2))
        have hp2 : (upd H2 p2 (.lst ([V.str (st a)] ++ plV (a ++ [108]) tl))) p2 = some (.lst ([V.str (st a)] ++ plV (a ++ [108]) tl)) := upd_same
        generalize upd H2 p2 (.lst ([V.str (st a)] ++ plV (a ++ [108]) tl)) = H3 at k3 hp2
        refine ⟨_, rfl, x, _, _, _, rfl, rfl, sqt_of (k3.tup _ _ e), atI_nat (j := 2) rfl, _, rfl, _, _, rfl, rfl, ?_, ?_⟩
        · rw [st_len]
          show a.length + 1 ≤ sizeLine
          exact Nat.le_of_lt (small1000 (by omega))
        rw [s_r, st_app]
        refine ⟨v2, tr, a ++ [114], rfl, T2.kp k3, by omega, by omega, by rw [List.length_append]; show a.length + 1 + n ≤ 1000; omega, fun p4 H4 k4 n4 e4 => ?_⟩
        refine ⟨p2, p4, _, _, rfl, rfl, k4.at_ _ _ hp2 List.not_mem_nil, e4, ?_, fun p5 n5 => ?_⟩
        · rw [List.length_append, plV_len, plV_len]
          show 1 + _ + _ ≤ sizeLine
          exact Nat.le_trans (show 1 + (2 * tl.sz + 1) + (2 * tr.sz + 1) ≤ 100000 by omega) (by decide)
        have k5 : Kp [] H (upd H4 p5 (.lst ([V.str (st a)] ++ plV (a ++ [108]) tl ++ plV (a ++ [114]) tr))) := k3.trans (k4.trans (.new n5))
        refine k p5 _ k5 ((k3.trans k4).free n5 List.not_mem_nil) ?_
        rw [upd_same, plV_nd]
        rfl
end
end Ey
set_option maxHeartbeats 4000000
namespace Ey
open PySem PySem.Spec L2
abbrev sIsTag : Stmt := topS 9
abbrev sIsTree : Stmt := topS 10
abbrev sCheck : Stmt := topS 11
abbrev sHas : Stmt := topS 12
abbrev sPartAt : Stmt := topS 13
abbrev sLPart : Stmt := topS 23
theorem tb_trans {P : Addr} {H H1 H2 : Hp} (a : Tb P H H1) (b : Tb P H1 H2) : Tb P H H2 := ⟨b.1, fun c n => (b.2 c n).trans (a.2 c n)⟩
section
variable {Pr : Program} {w : World} {K : PySem.W.Frag} {mg : Str → Option Value} {base : Heap}
def spTag (P : Addr) : Sp := fun vs H Q _ => ∃ g : Str, vs = [.str g] ∧ g.length ≤ sizeLine ∧ GxR.TabG H P ∧ ∀ H', Tb P H H' → Q (.bl (isTag g)) H'
theorem scTag : FnScope ["thing"] ["thing"] (defScope sIsTag) := ⟨rfl, rfl, rfl, by decide +kernel, rfl, by decide +kernel, by decide +kernel⟩
theorem abc_is : (Str.ofString "abcdefghijklmnopqrstuvwxyz").cps.toList = abc := by decide +kernel
/-- a def whose code object stands at c, its table at P -/
structure DfT (K : PySem.W.Frag) (mg : Str → Option Value) (x : Str) (st : Stmt) (ps : List Str) (f : Addr) (fd : FuncData) (c : Addr) : Prop extends Df K mg x st ps f fd where
  ex : ∃ (oc : Value) (od : Option Addr) (kV doc pm : Value) (an : Option Addr) (ct : Value) (osl : Array (Option Value)),
    fd = PySem.W.fnOf x x (defArgs st) (defBody st) (defScope st) .none kV doc pm an (.ref c) ct ∧ K.lookup f = some ⟨oc, od, .func fd, osl⟩ ∧ PySem.W.codeIn K (.ref c) x = true
theorem ok_tag {f c P : Addr} {fd : FuncData} {tL tT : Tok} (D : DfT K mg "is_tag" sIsTag ["thing"] f fd c) (B : BI mg) (TB : GxR.TabB base mg c P) (M : base.Ns mainGlobals mg)
    (mL : mg "LETTERS" = some (.str "abcdefghijklmnopqrstuvwxyz" tL)) (mT : mg "TAG_LENGTH" = some (.int 8 tT)) : FnOk Pr w K mg base CX0 1 f fd ["thing"] (spTag P) := by
  obtain ⟨oc, od, kV, doc, pm, an, ct, osl, rfl, lk, code⟩ := D.ex
  refine fn_of lk code scTag (fun vs H Q E h => ?_) (fun A outer s H vs Q E hr h => ?_)
  · obtain ⟨g, rfl, _⟩ := h
    rfl
  · obtain ⟨g, rfl, hg, hT, k⟩ := h
    refine ⟨_, pss_one (ps_ret (pe_and (pe_callB call_isi (by rfl) B.isi (by decide +kernel) (pa_cons (pv 0) (pa_cons (pe_bltn (v := .ty "str") (by rfl) B.str (by decide +kernel) rfl) pa_nil)))
      (pe_and (pe_chain op_le op_le pe_int (pe_callB call_len_str (by rfl) B.len PySem.boot_len (pa_cons (pv 0) pa_nil)) (pe_glob (v := .int 8) (by rfl) mT ⟨_, rfl⟩))
        (pe_one (pe_allG (P := P) (c := c) hr (by rfl) B.all (by decide +kernel) TB rfl ⟨rfl, rfl, by decide +kernel, rfl, rfl, (by intro y hy e; exfalso; revert y; decide +kernel)⟩ (pv 0) (elt_inG rfl rfl rfl rfl M mL) (fun _ => rfl)))))), ?_⟩
    refine ⟨_, rfl, .str g, .ty "str", .type "str", .type "str", true, rfl, .ty "str", .base (.str g), kit_ty (by decide +kernel), true, rfl, iteT ?_⟩
    have fin : ∀ b, isTag g = b → Q (.bl b) H := fun b e => by
      rw [← e]
      exact k H (tb_refl hT)
    refine ⟨_, rfl, _, rfl, hg, _, _, rfl, rfl, _, rfl, ?_⟩
    by_cases h1 : 1 ≤ g.length
    · rw [decide_eq_true (show (1 : Int) ≤ (g.length : Int) by omega)]
      refine iteT ⟨_, _, rfl, rfl, _, rfl, ?_⟩
      by_cases h2 : g.length ≤ 8
      · rw [decide_eq_true (show (g.length : Int) ≤ 8 by omega)]
        refine iteT ⟨_, rfl, g, rfl, hT, fun H2 h => ?_⟩
        have q := k H2 h
        rw [isTag, decide_eq_true h1, decide_eq_true h2] at q
        rw [abc_is]
        exact q
      · rw [decide_eq_false (show ¬ (g.length : Int) ≤ 8 by omega)]
        refine iteF (fin _ ?_)
        rw [isTag, decide_eq_false h2, Bool.and_false]
        rfl
    · rw [decide_eq_false (show ¬ (1 : Int) ≤ (g.length : Int) by omega)]
      refine iteF ⟨_, rfl, iteF (fin _ ?_)⟩
      rw [isTag, decide_eq_false h1]
      rfl
end
end Ey
set_option maxHeartbeats 4000000
namespace Ey
open PySem PySem.Spec L2
/-! ### a list of one's own as a pile, its top first -/
/-- what a pile of trees weighs -/
def wt : List Tr → Nat
  | [] => 0
  | t :: r => 2 * t.sz + 1 + wt r
inductive PileAt (H : Hp) : List V → List Tr → Prop where
  | nil : PileAt H [] []
  | cons {v : V} {t : Tr} {us : List V} {ts : List Tr} : TreeAt H v t → t.ok → PileAt H us ts → PileAt H (v :: us) (t :: ts)
theorem PileAt.kp {ms : List Addr} {H H1 : Hp} {us : List V} {ts : List Tr} (k : Kp ms H H1) (h : PileAt H us ts) : PileAt H1 us ts := by
  induction h with
  | nil => exact .nil
  | cons a b _ ih => exact .cons (a.kp k) b ih
theorem PileAt.len {H : Hp} {us : List V} {ts : List Tr} (h : PileAt H us ts) : us.length ≤ wt ts := by
  induction h with
  | nil => exact Nat.le_refl _
  | cons a b _ ih =>
    simp only [List.length_cons, wt]
    omega
section
variable {Pr : Program} {w : World} {K : PySem.W.Frag} {mg : Str → Option Value} {base : Heap}
/-- what the program's defs lean on -/
structure PF (K : PySem.W.Frag) (mg : Str → Option Value) (fT cT : Addr) (dT : FuncData) : Prop where
  B : BI mg
  tag : DfT K mg "is_tag" sIsTag ["thing"] fT dT cT
  lett : ∃ t, mg "LETTERS" = some (.str "abcdefghijklmnopqrstuvwxyz" t)
  tlen : ∃ t, mg "TAG_LENGTH" = some (.int 8 t)
/-- what holds of the base -/
structure BF (base : Heap) (mg : Str → Option Value) (c P : Addr) : Prop where
  TB : GxR.TabB base mg c P
  M : base.Ns mainGlobals mg
variable {fT cT P : Addr} {dT : FuncData}
theorem go_tag (A : PF K mg fT cT dT) (b : BF base mg cT P) : FnOk Pr w K mg base CX0 1 fT dT ["thing"] (spTag P) := by
  obtain ⟨t1, h1⟩ := A.lett
  obtain ⟨t2, h2⟩ := A.tlen
  exact ok_tag A.tag A.B b.TB b.M h1 h2
theorem scIsTree : FnScope ["thing", "waiting", "part"] ["thing"] (defScope sIsTree) := ⟨rfl, rfl, rfl, by decide +kernel, rfl, by decide +kernel, by decide +kernel⟩
def spIsTree (P : Addr) : Sp := fun vs H Q _ => ∃ (v : V) (t : Tr), vs = [v] ∧ TreeAt H v t ∧ t.ok ∧ t.sz ≤ 1000 ∧ GxR.TabG H P ∧
  ∀ H', GxR.TabG H' P → Kp [P] H H' → Q (.bl true) H'
theorem ok_isTree {f : Addr} {fd : FuncData} (F : Fun K "is_tree" "is_tree" sIsTree f fd) (A : PF K mg fT cT dT) (b : BF base mg cT P) : FnOk Pr w K mg base CX0 2 f fd ["thing"] (spIsTree P) := by
  refine F.ok scIsTree (fun vs H Q E h => ?_) (fun cdv Ar outer s H vs Q E hr h => ?_)
  · obtain ⟨v, t, rfl, _⟩ := h
    rfl
  · obtain ⟨v, t, rfl, T, ok, sz, g, k⟩ := h
    refine ⟨_, pss_cons (ps_set (i := 1) scIsTree.nd rfl (.inl rfl) (pe_lst (pa_cons (pv 0) pa_nil)))
      (pss_cons (ps_while PassesOwn.never (pt_truth (pv 1) (by intro _; rfl))
        (pss_cons (ps_set (i := 2) scIsTree.nd rfl (.inl rfl) (pe_bm0 PySem.F.plainAttrs_list PySem.F.slot_list_pop PySem.F.type_list_pop mt_pop (pv 1)))
        (pss_cons (ps_if (pt_cmpR op_isN (pv 2) pe_non (nomark _)) (pss_one ps_continue) pss_nil)
        (pss_cons (ps_if (PW.pt (pw_or (pt_not (pt_val (pe_callB call_isi (by rfl) A.B.isi (by decide +kernel) (pa_cons (pv 2) (pa_cons (pe_bltn (v := .ty "tuple") (by rfl) A.B.tuple (by decide +kernel) rfl) pa_nil)))))
            (pw_or (pt_cmpR op_ne (pe_callB call_len_seq (by rfl) A.B.len PySem.boot_len (pa_cons (pv 2) pa_nil)) pe_int (nomark _))
            (pw_or1 (pt_not (pt_val (pe_call (go_tag A b) hr (by rfl) A.tag.g A.tag.F.kp A.tag.b .nil pass0 (pa_cons (pe_ix ix_tup (pv 2) pe_int (fun _ _ => rfl)) pa_nil))))))))
          (pss_one (ps_ret pe_bl)) pss_nil)
        (pss_cons (ps_expr (pe_bm PySem.F.plainAttrs_list PySem.F.slot_list_append PySem.F.type_list_append mt_append (pv 1) (pa_cons (pe_ix ix_tup (pv 2) pe_int (fun _ _ => rfl)) pa_nil)))
        (pss_one (ps_expr (pe_bm PySem.F.plainAttrs_list PySem.F.slot_list_append PySem.F.type_list_append mt_append (pv 1) (pa_cons (pe_ix ix_tup (pv 2) pe_int (fun _ _ => rfl)) pa_nil)))))))))
      (pss_one (ps_ret pe_bl))), ?_⟩
    refine ⟨_, rfl, by show 1 ≤ sizeLine; decide, fun wl nw => ?_⟩
    have nPw : P ≠ wl := by
      obtain ⟨ps, e, _⟩ := g
      exact ne_of_none e nw
    refine ⟨fun m σ H2 => ∃ (us : List V) (ts : List Tr) (y : Option V), σ = [some v, some (.ref wl), y] ∧ H2 wl = some (.lst us.reverse) ∧ PileAt H2 us ts ∧ m = wt ts ∧ wt ts ≤ 2001 ∧ GxR.TabG H2 P ∧ Kp [P] H H2,
      ⟨_, [v], [t], none, rfl, upd_same, .cons (T.kp (.new nw) (ms := [])) ok .nil, rfl, by simp only [wt]; omega, tabg_upd g nPw, .new nw⟩, fun m σ H2 hw => ?_⟩
    obtain ⟨us, ts, y, rfl, hl, hp, rfl, hm, g2, k2⟩ := hw
    refine ⟨_, rfl, _, .inl ⟨_, sql_of hl, rfl⟩, ?_⟩
    cases hp with
    | nil =>
      refine iteF ?_
      exact k H2 g2 k2
    | @cons x t1 us ts T1 o1 hp =>
      have e0 : (!((x :: us).reverse).isEmpty) = true := by simp
      rw [e0]
      refine iteT ⟨fun σ' H' => ∃ m', m' < wt (t1 :: ts) ∧ ∃ (us : List V) (ts : List Tr) (y : Option V), σ' = [some v, some (.ref wl), y] ∧ H' wl = some (.lst us.reverse) ∧ PileAt H' us ts ∧ m' = wt ts ∧ wt ts ≤ 2001 ∧ GxR.TabG H' P ∧ Kp [P] H H', fun _ _ h => h, ?_⟩
      -- part = waiting.pop()
      refine ⟨_, rfl, .inl ⟨rfl, _, sql_of hl⟩, wl, _, x, rfl, rfl, hl, pile_top x us, ?_⟩
      rw [pile_pop]
      have k3 : Kp [P] H (upd H2 wl (.lst us.reverse)) := k2.own nw
      have hl3 : (upd H2 wl (.lst us.reverse)) wl = some (.lst us.reverse) := upd_same
      have g3 : GxR.TabG (upd H2 wl (.lst us.reverse)) P := tabg_upd g2 nPw
      have kk : Kp [wl] H2 (upd H2 wl (.lst us.reverse)) := .put (by simp) hl (fun xs z => by cases z)
      have T3 := T1.kp kk
      have hp3 := hp.kp kk
      generalize upd H2 wl (.lst us.reverse) = H3 at k3 hl3 g3 T3 hp3
      simp only [wt] at hm
      cases T3 with
      | nil =>
        refine ⟨_, rfl, rfl, _, rfl, iteT ?_⟩
        exact ⟨_, by simp only [wt]; omega, us, ts, _, rfl, hl3, hp3, rfl, by omega, g3, k3⟩
      | @nd a tg tl tr v1 v2 e T31 T32 =>
        obtain ⟨og, ol, or'⟩ := o1
        simp only [Tr.sz] at hm
        refine ⟨_, rfl, rfl, _, rfl, iteF ?_⟩
        refine ⟨_, rfl, .ref a, .ty "tuple", .type "tuple", .type "tuple", true, rfl, .ty "tuple", .base (.tup e), kit_ty (by decide +kernel), _, rfl, iteF ?_⟩
        refine ⟨_, rfl, a, _, rfl, .inr (sqt_of e), rfl, _, rfl, iteF ?_⟩
        refine ⟨_, rfl, a, _, _, _, rfl, rfl, sqt_of e, atI_nat (j := 0) rfl, tg, rfl, ?_, g3, fun H4 tb4 => ?_⟩
        · exact Nat.le_trans (tag_len og) (by decide)
        rw [og]
        refine ⟨_, rfl, iteF ?_⟩
        have k4 : Kp [P] H3 H4 := tb_kp g3 tb4
        have e4 := k4.tup _ _ e
        have hl4 : H4 wl = some (.lst us.reverse) := k4.at_ _ _ hl3 (by simp [nPw.symm])
        -- append, append
        refine ⟨_, rfl, .inl ⟨rfl, _, sql_of hl4⟩, _, rfl, a, _, _, _, rfl, rfl, sqt_of e4, atI_nat (j := 1) rfl, wl, _, v1, rfl, rfl, hl4, ?_, ?_⟩
        · rw [List.length_reverse]
          have := hp3.len
          exact Nat.lt_of_le_of_lt (show us.length ≤ 2001 by omega) (by decide)
        rw [pile_push]
        have hl5 : (upd H4 wl (.lst (v1 :: us).reverse)) wl = some (.lst (v1 :: us).reverse) := upd_same
        have k5 : Kp [wl] H4 (upd H4 wl (.lst (v1 :: us).reverse)) := .put (by simp) hl4 (fun xs z => by cases z)
        have g5 : GxR.TabG (upd H4 wl (.lst (v1 :: us).reverse)) P := tabg_upd tb4.1 nPw
        have kH5 : Kp [P] H (upd H4 wl (.lst (v1 :: us).reverse)) := (k3.trans k4).own nw
        generalize upd H4 wl (.lst (v1 :: us).reverse) = H5 at hl5 k5 g5 kH5
        refine ⟨_, rfl, .inl ⟨rfl, _, sql_of hl5⟩, _, rfl, a, _, _, _, rfl, rfl, sqt_of (k5.tup _ _ e4), atI_nat (j := 2) rfl, wl, _, v2, rfl, rfl, hl5, ?_, ?_⟩
        · rw [List.length_reverse]
          have := hp3.len
          exact Nat.lt_of_le_of_lt (show us.length + 1 ≤ 2002 by omega) (by decide)
        rw [pile_push]
        have k6 : Kp [wl] H5 (upd H5 wl (.lst (v2 :: v1 :: us).reverse)) := .put (by simp) hl5 (fun xs z => by cases z)
        refine ⟨_, by simp only [wt, Tr.sz]; omega, v2 :: v1 :: us, tr :: tl :: ts, _, rfl, upd_same, .cons (((T32.kp k4).kp k5).kp k6) or' (.cons (((T31.kp k4).kp k5).kp k6) ol (((hp3.kp k4).kp k5).kp k6)), rfl, by simp only [wt]; omega, tabg_upd g5 nPw, kH5.own nw⟩
end
end Ey
set_option maxHeartbeats 4000000
namespace Ey
open PySem PySem.Spec L2
/-! ### what stands where -/
def ps (t : Tr) : List (List Nat × Tr) := (pl t).map fun p => (p, pt t p)
def ahead (a : List Nat) (x : List Nat × Tr) : List Nat × Tr := (a ++ x.1, x.2)
theorem ps_nd (g : Str) (l r : Tr) : ps (.nd g l r) = ([], .nd g l r) :: ((ps l).map (ahead [108]) ++ (ps r).map (ahead [114])) := by
  simp only [ps, pl, List.map_cons, List.map_append, List.map_map]
  congr 1
theorem ps_fst (t : Tr) : (ps t).map (·.1) = pl t := by
  rw [ps, List.map_map]
  exact List.map_id _
theorem ps_len (t : Tr) : (ps t).length = 2 * t.sz + 1 := by rw [ps, List.length_map, pl_len]
/-- what a pile of pairs stands for -/
def flat : List (List Nat × Tr) → List (List Nat × Tr)
  | [] => []
  | (p, t) :: r => (ps t).map (ahead p) ++ flat r
theorem ahead_two (a b : List Nat) : (ahead a ∘ ahead b) = ahead (a ++ b) := by
  funext x
  simp [ahead]
theorem flat_nil (p : List Nat) (r : List (List Nat × Tr)) : flat ((p, .nil) :: r) = (p, .nil) :: flat r := by
  simp [flat, ps, pl, ahead, pt]
theorem flat_nd (p : List Nat) (g : Str) (l t : Tr) (r : List (List Nat × Tr)) : flat ((p, .nd g l t) :: r) = (p, .nd g l t) :: flat ((p ++ [108], l) :: (p ++ [114], t) :: r) := by
  simp only [flat, ps_nd, List.map_cons, List.map_append, List.map_map, ahead_two]
  simp [ahead]
inductive PairsAt (H : Hp) : List V → List (List Nat × Tr) → Prop where
  | nil : PairsAt H [] []
  | cons {a : Addr} {v : V} {p : List Nat} {t : Tr} {us : List V} {qs : List (List Nat × Tr)} : H a = some (.tup [.str (st p), v]) → TreeAt H v t → PairsAt H us qs → PairsAt H (.ref a :: us) ((p, t) :: qs)
theorem PairsAt.kp {ms : List Addr} {H H1 : Hp} {us : List V} {qs : List (List Nat × Tr)} (k : Kp ms H H1) (h : PairsAt H us qs) : PairsAt H1 us qs := by
  induction h with
  | nil => exact .nil
  | cons a b _ ih => exact .cons (k.tup _ _ a) (b.kp k) ih
theorem PairsAt.len {H : Hp} {us : List V} {qs : List (List Nat × Tr)} (h : PairsAt H us qs) : us.length ≤ (flat qs).length := by
  induction h with
  | nil => exact Nat.le_refl _
  | @cons a v p t us qs _ _ _ ih =>
    simp only [List.length_cons, flat, List.length_append, List.length_map, ps_len]
    omega
/-- the entries of a dict, by places and parts -/
inductive KvAt (H : Hp) : List (Key × V) → List (List Nat × Tr) → Prop where
  | nil : KvAt H [] []
  | cons {v : V} {p : List Nat} {t : Tr} {kvs : List (Key × V)} {qs : List (List Nat × Tr)} : TreeAt H v t → KvAt H kvs qs → KvAt H ((.inr (st p), v) :: kvs) ((p, t) :: qs)
theorem KvAt.kp {ms : List Addr} {H H1 : Hp} {kvs : List (Key × V)} {qs : List (List Nat × Tr)} (k : Kp ms H H1) (h : KvAt H kvs qs) : KvAt H1 kvs qs := by
  induction h with
  | nil => exact .nil
  | cons a _ ih => exact .cons (a.kp k) ih
theorem KvAt.snoc {H : Hp} {kvs : List (Key × V)} {qs : List (List Nat × Tr)} {v : V} {p : List Nat} {t : Tr} (h : KvAt H kvs qs) (T : TreeAt H v t) : KvAt H (kvs ++ [(.inr (st p), v)]) (qs ++ [(p, t)]) := by
  induction h with
  | nil => exact .cons T .nil
  | cons a _ ih => exact .cons a ih
theorem KvAt.len {H : Hp} {kvs : List (Key × V)} {qs : List (List Nat × Tr)} (h : KvAt H kvs qs) : kvs.length = qs.length := by
  induction h with
  | nil => rfl
  | cons _ _ ih => simp [ih]
theorem KvAt.keys {H : Hp} {kvs : List (Key × V)} {qs : List (List Nat × Tr)} (h : KvAt H kvs qs) : (kvs.map fun kv => kV kv.1) = qs.map fun q => V.str (st q.1) := by
  induction h with
  | nil => rfl
  | cons _ _ ih => exact congrArg (List.cons _) ih
theorem KvAt.no {H : Hp} {kvs : List (Key × V)} {qs : List (List Nat × Tr)} {p : List Nat} (h : KvAt H kvs qs) (n : p ∉ qs.map (·.1)) : valV kvs (.inr (st p)) = none := by
  induction h with
  | nil => exact valV_nil
  | @cons v q t kvs qs _ _ ih =>
    simp only [List.map_cons, List.mem_cons, not_or] at n
    refine (valV_neg fun e => ?_).trans (ih n.2)
    exact n.1 (st_inj (Sum.inr.inj e)).symm
section
variable {Pr : Program} {w : World} {K : PySem.W.Frag} {mg : Str → Option Value} {base : Heap} {fT cT P : Addr} {dT : FuncData}
/-! ### check_tree -/
theorem scCheck : FnScope ["tree"] ["tree"] (defScope sCheck) := ⟨rfl, rfl, rfl, by decide +kernel, rfl, by decide +kernel, by decide +kernel⟩
def spCheck (P : Addr) : Sp := fun vs H Q _ => ∃ (v : V) (t : Tr), vs = [v] ∧ TreeAt H v t ∧ t.ok ∧ t.sz ≤ 1000 ∧ GxR.TabG H P ∧
  ∀ H', GxR.TabG H' P → Kp [P] H H' → Q .non H'
theorem ok_check {f f1 : Addr} {fd d1 : FuncData} (F : Fun K "check_tree" "check_tree" sCheck f fd) (D1 : Df K mg "is_tree" sIsTree ["thing"] f1 d1) (A : PF K mg fT cT dT) (b : BF base mg cT P) : FnOk Pr w K mg base CX0 3 f fd ["tree"] (spCheck P) := by
  refine F.ok scCheck (fun vs H Q E h => ?_) (fun cdv Ar outer s H vs Q E hr h => ?_)
  · obtain ⟨v, t, rfl, _⟩ := h
    rfl
  · obtain ⟨v, t, rfl, T, ok, sz, g, k⟩ := h
    refine ⟨_, pss_one (ps_if (pt_not (pt_val (pe_call (ok_isTree D1.F A b) hr (by rfl) D1.g D1.F.kp D1.b .nil pass0 (pa_cons (pv 0) pa_nil)))) (pss_one ps_never) pss_nil), ?_⟩
    exact ⟨_, rfl, v, t, rfl, T, ok, sz, g, fun H' g' k' => ⟨true, rfl, iteF (k H' g' k')⟩⟩
/-! ### standing -/
end
end Ey
set_option maxHeartbeats 4000000
namespace Ey
open PySem PySem.Spec L2
/-! ### f(k = v, ..), the parameters told from the last one to the first -/
def gRev {α : Type} (us ws : List α) : List α := match us with
  | [] => ws.reverse
  | _ :: _ => []
theorem vals_rev {xs : List V} {us : List Value} (h : Vals xs us) : Vals xs.reverse us.reverse := by
  induction h with
  | nil => exact .nil
  | cons a _ ih =>
    rw [List.reverse_cons, List.reverse_cons]
    exact ih.append (.cons a .nil)
theorem kb_rev {K : PySem.W.Frag} {fd : FuncData} {ps ks : List Str} (hp : ps ≠ []) (h : ∀ ws : List Value, ws.length = ps.length → bindArgs fd ⟨[], ks.zip ws⟩ = pure (ps.zip ws.reverse)) : KBinds K fd ps ks gRev gRev := by
  refine ⟨fun s us ws _ hl => ?_, fun {vs us zs ws} r1 r2 => ?_⟩
  · cases us with
    | nil => exact .of_eq (h ws (by rw [← hl]; exact (List.length_reverse).symm))
    | cons a r => exact absurd hl (by intro e; exact hp (List.length_eq_zero_iff.mp e.symm))
  · cases r1 with
    | nil => exact vals_rev r2
    | cons _ _ => exact .nil
theorem Fun.revs {K : PySem.W.Frag} {x qual : Str} {st : Stmt} {f : Addr} {fd : FuncData} {ps ks : List Str} (F : Fun K x qual st f fd) (hp : ps ≠ [])
    (h : ∀ (kV doc pm : Value) (an : Option Addr) (cdv ct : Value) (ws : List Value), ws.length = ps.length → bindArgs (PySem.W.fnOf x qual (defArgs st) (defBody st) (defScope st) .none kV doc pm an cdv ct) ⟨[], ks.zip ws⟩ = pure (ps.zip ws.reverse)) : KBinds K fd ps ks gRev gRev := by
  obtain ⟨oc, od, kV, doc, pm, an, cdv, ct, osl, rfl, lk, _⟩ := F.ex
  exact kb_rev hp (h kV doc pm an cdv ct)
section
variable {X : Cx} {CX : CXT} {k : Nat} {f : Addr} {fd : FuncData} {qs ks : List Str} {sp : Sp} {E : XK} {x : Str} {p pos : Pos} {kws : List Keyword} {tk : TA} {g : List Value → List Value → List Value} {gV : List V → List V → List V}
theorem pe_callK0 (F : FnOk X.prog X.w X.K X.mg X.base CX k f fd qs sp) (hr : Room k X.A) (hg : Gl X x) (hm : X.mg x = some (.ref f)) (hk : PySem.W.keepIn X.K (.ref f) = true) (hb : KBinds X.K fd qs ks g gV) (hx : Passes CX X E) (hkw : PK X kws tk)
    (hall : (backToKw pos (keywordEach kws X.env)).all (·.1.isSome) = true := by rfl) (hks : (backToKw pos (keywordEach kws X.env)).filterMap (·.1) = ks := by rfl) (hdb : (x == ("__debug__" : Str)) = false := by decide)
    (hpl : ((backTo pos (starEach [] X.env)).any (·.1) || (backToKw pos (keywordEach kws X.env)).any (·.1.isNone)) = false := by rfl) :
    PE X (.Call (.Name x p) [] kws pos) (tCallK sp gV E tNil tk) := by
  refine ⟨fun pins s σ H Q I h => wpAny_Call_Name_kw (ld_glob I hg hm ?_ hdb)⟩
  refine PySem.W.callWith_KW0 (h₀ := X.base) I.ok.mod.kin hk hall ?_ hpl
  refine thn (hkw.run pos pins s σ H _ I h) fun ws s2 ⟨zs, H2, I2, rz, q2⟩ => ⟨I2.kIn, ?_⟩
  rw [hks]
  exact run_fnk (us := []) (vs := []) F hr hb hx I2 .nil rz q2
end
theorem drop_at {p : List Nat} {i c : Nat} (h : p[i]? = some c) : p.drop i = c :: p.drop (i + 1) := by
  obtain ⟨hi, e⟩ := List.getElem?_eq_some_iff.mp h
  rw [List.drop_eq_getElem_cons hi, e]
theorem dec_str {a b : Str} : (decide (V.str a = V.str b)) = decide (a = b) := by
  by_cases h : a = b
  · rw [decide_eq_true h, decide_eq_true (by rw [h])]
  · rw [decide_eq_false h, decide_eq_false (fun e => h (V.str.inj e))]
section
variable {Pr : Program} {w : World} {K : PySem.W.Frag} {mg : Str → Option Value} {base : Heap} {fT cT P : Addr} {dT : FuncData}
/-! ### the law's own part and led -/
theorem scLPart : FnScope ["_law_tree", "_law_place", "_law_letter"] ["_law_tree", "_law_place"] (defScope sLPart) := ⟨rfl, rfl, rfl, by decide +kernel, rfl, by decide +kernel, by decide +kernel⟩
def spLPart : Sp := fun vs H Q _ => ∃ (v : V) (t : Tr) (p : List Nat), vs = [v, .str (st p)] ∧ TreeAt H v t ∧ isP t p = true ∧ ∀ v', TreeAt H v' (pt t p) → Q v' H
theorem ok_lpart {f : Addr} {fd : FuncData} (F : Fun K "_law_part" "_law_part" sLPart f fd) : FnOk Pr w K mg base CX0 1 f fd ["_law_tree", "_law_place"] spLPart := by
  refine F.ok scLPart (fun vs H Q E h => ?_) (fun cdv Ar outer s H vs Q E hr h => ?_)
  · obtain ⟨v, t, p, rfl, _⟩ := h
    rfl
  · obtain ⟨v, t, p, rfl, T, hp, k⟩ := h
    refine ⟨_, pss_cons (ps_for PassesOwn.never rfl (pi_str (pv 1)) (pg_name (i := 2) scLPart.nd rfl (.inl rfl))
        (pss_one (ps_set (i := 0) scLPart.nd rfl (.inl rfl) (pe_ifExp (pt_cmpR op_eq (pv 2) pe_str (nomark _)) (pe_ix ix_tup (pv 0) pe_int (fun _ _ => rfl)) (pe_ix ix_tup (pv 0) pe_int (fun _ _ => rfl))))))
      (pss_one (ps_ret (pv 0))), ?_⟩
    refine ⟨_, rfl, st p, rfl, for_str (x := st p) (fun i σ H2 => ∃ (v' : V) (t' : Tr) (y : Option V), σ = [some v', some (.str (st p)), y] ∧ H2 = H ∧ TreeAt H v' t' ∧ isP t' (p.drop i) = true ∧ pt t' (p.drop i) = pt t p)
      ⟨v, t, none, rfl, rfl, T, hp, rfl⟩ ?_ ?_⟩
    · rintro i c σ H2 hi ⟨v', t', y, rfl, rfl, T', hp', e'⟩
      have hi' : p[i]? = some c := hi
      rw [drop_at hi'] at hp' e'
      cases T' with
      | nil => cases hp'
      | @nd a g l r w1 w2 e T1 T2 =>
        refine ⟨_, rfl, rfl, _, rfl, ?_⟩
        rw [dec_str, s_l]
        by_cases h1 : c = 108
        · subst h1
          rw [decide_eq_true rfl]
          exact iteT ⟨_, rfl, a, _, _, _, rfl, rfl, sqt_of e, atI_nat (j := 1) rfl, w1, l, _, rfl, rfl, T1, hp', e'⟩
        · rw [decide_eq_false (fun q => h1 (List.cons.inj (st_inj q)).1)]
          refine iteF ⟨_, rfl, a, _, _, _, rfl, rfl, sqt_of e, atI_nat (j := 2) rfl, w2, r, _, rfl, rfl, T2, ?_, ?_⟩
          · have hp2 : (if c = 108 then isP l (p.drop (i + 1)) else if c = 114 then isP r (p.drop (i + 1)) else false) = true := hp'
            rw [if_neg h1] at hp2
            split at hp2
            · exact hp2
            · cases hp2
          · have e2 : (if c = 108 then pt l (p.drop (i + 1)) else pt r (p.drop (i + 1))) = pt t p := e'
            rw [if_neg h1] at e2
            exact e2
    · rintro σ H2 ⟨v', t', y, rfl, rfl, T', _, e'⟩
      rw [st_list, List.drop_length, pt_nil] at e'
      exact ⟨_, rfl, k v' (e' ▸ T')⟩
end
/-- the dict of positions, the tuple of ways -/
structure PosF (K : PySem.W.Frag) (w : World) (mg : Str → Option Value) (d : Addr) : Prop where
  g : mg "POSITIONS" = some (.ref d)
  D : ∃ es n, KDict K w d es n
  l : ∃ t, PySem.W.nsIn K d "l" = some (some (.int 1 t))
  r : ∃ t, PySem.W.nsIn K d "r" = some (some (.int 2 t))
theorem PosF.dl {K : PySem.W.Frag} {w : World} {mg : Str → Option Value} {d : Addr} (p : PosF K w mg d) : KDct K w d (st [108]) (.int 1) := by
  obtain ⟨es, n, D⟩ := p.D
  obtain ⟨t, h⟩ := p.l
  exact ⟨es, n, _, D.at_, D.lit, s_l ▸ h, ⟨t, rfl⟩⟩
theorem PosF.dr {K : PySem.W.Frag} {w : World} {mg : Str → Option Value} {d : Addr} (p : PosF K w mg d) : KDct K w d (st [114]) (.int 2) := by
  obtain ⟨es, n, D⟩ := p.D
  obtain ⟨t, h⟩ := p.r
  exact ⟨es, n, _, D.at_, D.lit, s_r ▸ h, ⟨t, rfl⟩⟩
theorem isP_step {t : Tr} {c : Nat} {r : List Nat} (h : isP t (c :: r) = true) : ∃ g l m, t = .nd g l m ∧ ((c = 108 ∧ isP l r = true) ∨ (c = 114 ∧ isP m r = true)) := by
  cases t with
  | nil => cases h
  | nd g l m =>
    refine ⟨g, l, m, rfl, ?_⟩
    have h2 : (if c = 108 then isP l r else if c = 114 then isP m r else false) = true := h
    by_cases h1 : c = 108
    · rw [if_pos h1] at h2
      exact .inl ⟨h1, h2⟩
    · rw [if_neg h1] at h2
      split at h2
      · exact .inr ⟨by assumption, h2⟩
      · cases h2
section
variable {Pr : Program} {w : World} {K : PySem.W.Frag} {mg : Str → Option Value} {base : Heap} {fT cT P dP aW : Addr} {dT : FuncData}
/-! ### has_place -/
theorem scHas : FnScope ["tree", "thing", "part", "letter"] ["tree", "thing"] (defScope sHas) := ⟨rfl, rfl, rfl, by decide +kernel, rfl, by decide +kernel, by decide +kernel⟩
def spHas : Sp := fun vs H Q _ => ∃ (v : V) (t : Tr) (p : List Nat), vs = [v, .str (st p)] ∧ TreeAt H v t ∧ isP t p = true ∧ Q (.bl true) H
theorem ok_has {f : Addr} {fd : FuncData} (F : Fun K "has_place" "has_place" sHas f fd) (B : BI mg) (Po : PosF K w mg dP) : FnOk Pr w K mg base CX0 1 f fd ["tree", "thing"] spHas := by
  refine F.ok scHas (fun vs H Q E h => ?_) (fun cdv Ar outer s H vs Q E hr h => ?_)
  · obtain ⟨v, t, p, rfl, _⟩ := h
    rfl
  · obtain ⟨v, t, p, rfl, T, hp, k⟩ := h
    obtain ⟨es, n, D⟩ := Po.D
    refine ⟨_, pss_cons (ps_if (pt_not (pt_val (pe_callB call_isi (by rfl) B.isi (by decide +kernel) (pa_cons (pv 1) (pa_cons (pe_bltn (v := .ty "str") (by rfl) B.str (by decide +kernel) rfl) pa_nil))))) (pss_one (ps_ret pe_bl)) pss_nil)
      (pss_cons (ps_set (i := 2) scHas.nd rfl (.inl rfl) (pv 0))
      (pss_cons (ps_for PassesOwn.never rfl (pi_str (pv 1)) (pg_name (i := 3) scHas.nd rfl (.inl rfl))
        (pss_cons (ps_if (PW.pt (pw_or (pt_cmpR op_isN (pv 2) pe_non (nomark _)) (pw_or1 (pt_cmpR (op_notIn_kd D) (pv 3) (pe_glob (v := .ref dP) (by rfl) Po.g rfl) (by rfl))))) (pss_one (ps_ret pe_bl)) pss_nil)
        (pss_one (ps_set (i := 2) scHas.nd rfl (.inl rfl) (pe_ix ix_tup (pv 2) (pe_ix ix_kdict (pe_glob (v := .ref dP) (by rfl) Po.g rfl) (pv 3) (fun _ _ => rfl)) (fun _ _ => rfl))))))
      (pss_one (ps_ret pe_bl)))), ?_⟩
    refine ⟨_, rfl, .str (st p), .ty "str", .type "str", .type "str", true, rfl, .ty "str", .base (.str _), kit_ty (by decide +kernel), true, rfl, iteF ?_⟩
    refine ⟨_, rfl, _, rfl, st p, rfl, for_str (x := st p) (fun i σ H2 => ∃ (v' : V) (t' : Tr) (y : Option V), σ = [some v, some (.str (st p)), some v', y] ∧ H2 = H ∧ TreeAt H v' t' ∧ isP t' (p.drop i) = true)
      ⟨v, t, none, rfl, rfl, T, hp⟩ ?_ ?_⟩
    · rintro i c σ H2 hi ⟨v', t', y, rfl, rfl, T', hp'⟩
      have hi' : p[i]? = some c := hi
      rw [drop_at hi'] at hp'
      obtain ⟨g, l, m, rfl, hc⟩ := isP_step hp'
      cases T' with
      | @nd a _ _ _ x1 x2 e T1 T2 =>
        refine ⟨_, rfl, rfl, false, rfl, iteF ?_⟩
        rcases hc with ⟨rfl, hq⟩ | ⟨rfl, hq⟩
        · obtain ⟨t1, h1⟩ := Po.l
          refine ⟨_, rfl, st [108], _, rfl, rfl, s_l ▸ h1, false, rfl, iteF ?_⟩
          exact ⟨_, rfl, _, rfl, dP, st [108], .int 1, rfl, rfl, Po.dl, a, _, _, _, rfl, rfl, sqt_of e, atI_nat (j := 1) rfl, x1, l, _, rfl, rfl, T1, hq⟩
        · obtain ⟨t1, h1⟩ := Po.r
          refine ⟨_, rfl, st [114], _, rfl, rfl, s_r ▸ h1, false, rfl, iteF ?_⟩
          exact ⟨_, rfl, _, rfl, dP, st [114], .int 2, rfl, rfl, Po.dr, a, _, _, _, rfl, rfl, sqt_of e, atI_nat (j := 2) rfl, x2, m, _, rfl, rfl, T2, hq⟩
    · rintro σ H2 ⟨v', t', y, rfl, rfl, T', _⟩
      exact k
/-! ### part_at -/
theorem scPartAt : FnScope ["tree", "place", "part", "letter"] ["tree", "place"] (defScope sPartAt) := ⟨rfl, rfl, rfl, by decide +kernel, rfl, by decide +kernel, by decide +kernel⟩
def spPartAt (P : Addr) : Sp := fun vs H Q _ => ∃ (v : V) (t : Tr) (p : List Nat), vs = [v, .str (st p)] ∧ TreeAt H v t ∧ t.ok ∧ t.sz ≤ 1000 ∧ isP t p = true ∧ GxR.TabG H P ∧
  ∀ (v' : V) (H' : Hp), TreeAt H' v' (pt t p) → GxR.TabG H' P → Kp [P] H H' → Q v' H'
/-- the program's defs on trees, as callers need them -/
structure Prog (K : PySem.W.Frag) (w : World) (mg : Str → Option Value) (fT cT dP f1 f2 f5 f6 : Addr) (dT d1 d2 d5 d6 : FuncData) : Prop where
  A : PF K mg fT cT dT
  po : PosF K w mg dP
  isTree : Df K mg "is_tree" sIsTree ["thing"] f1 d1
  check : Df K mg "check_tree" sCheck ["tree"] f2 d2
  has : Df K mg "has_place" sHas ["tree", "thing"] f5 d5
  partAt : Df K mg "part_at" sPartAt ["tree", "place"] f6 d6
variable {f1 f2 f5 f6 : Addr} {d1 d2 d5 d6 : FuncData}
theorem ok_partAt (G : Prog K w mg fT cT dP f1 f2 f5 f6 dT d1 d2 d5 d6) (b : BF base mg cT P) : FnOk Pr w K mg base CX0 4 f6 d6 ["tree", "place"] (spPartAt P) := by
  refine G.partAt.F.ok scPartAt (fun vs H Q E h => ?_) (fun cdv Ar outer s H vs Q E hr h => ?_)
  · obtain ⟨v, t, p, rfl, _⟩ := h
    rfl
  · obtain ⟨v, t, p, rfl, T, ok, sz, hp, g, k⟩ := h
    refine ⟨_, pss_cons (ps_expr (pe_call (ok_check G.check.F G.isTree G.A b) hr (by rfl) G.check.g G.check.F.kp G.check.b .nil pass0 (pa_cons (pv 0) pa_nil)))
      (pss_cons (ps_if (pt_not (pt_val (pe_call (ok_has G.has.F G.A.B G.po) (hr.mono (by decide)) (by rfl) G.has.g G.has.F.kp G.has.b .nil pass0 (pa_cons (pv 0) (pa_cons (pv 1) pa_nil))))) (pss_one ps_never) pss_nil)
      (pss_cons (ps_set (i := 2) scPartAt.nd rfl (.inl rfl) (pv 0))
      (pss_cons (ps_for PassesOwn.never rfl (pi_str (pv 1)) (pg_name (i := 3) scPartAt.nd rfl (.inl rfl))
        (pss_one (ps_set (i := 2) scPartAt.nd rfl (.inl rfl) (pe_ix ix_tup (pv 2) (pe_ix ix_kdict (pe_glob (v := .ref dP) (by rfl) G.po.g rfl) (pv 3) (fun _ _ => rfl)) (fun _ _ => rfl)))))
      (pss_one (ps_ret (pv 2)))))), ?_⟩
    refine ⟨_, rfl, v, t, rfl, T, ok, sz, g, fun H1 g1 k1 => ?_⟩
    have T1 := T.kp k1
    refine ⟨_, rfl, _, rfl, v, t, p, rfl, T1, hp, true, rfl, iteF ?_⟩
    refine ⟨_, rfl, _, rfl, st p, rfl, for_str (x := st p) (fun i σ H2 => ∃ (v' : V) (t' : Tr) (y : Option V), σ = [some v, some (.str (st p)), some v', y] ∧ H2 = H1 ∧ TreeAt H1 v' t' ∧ isP t' (p.drop i) = true ∧ pt t' (p.drop i) = pt t p)
      ⟨v, t, none, rfl, rfl, T1, hp, rfl⟩ ?_ ?_⟩
    · rintro i c σ H2 hi ⟨v', t', y, rfl, rfl, T', hp', e'⟩
      have hi' : p[i]? = some c := hi
      rw [drop_at hi'] at hp' e'
      obtain ⟨g', l, m, rfl, hc⟩ := isP_step hp'
      cases T' with
      | @nd a _ _ _ x1 x2 e T1 T2 =>
        rcases hc with ⟨rfl, hq⟩ | ⟨rfl, hq⟩
        · exact ⟨_, rfl, _, rfl, dP, st [108], .int 1, rfl, rfl, G.po.dl, a, _, _, _, rfl, rfl, sqt_of e, atI_nat (j := 1) rfl, x1, l, _, rfl, rfl, T1, hq, e'⟩
        · exact ⟨_, rfl, _, rfl, dP, st [114], .int 2, rfl, rfl, G.po.dr, a, _, _, _, rfl, rfl, sqt_of e, atI_nat (j := 2) rfl, x2, m, _, rfl, rfl, T2, hq, e'⟩
    · rintro σ H2 ⟨v', t', y, rfl, rfl, T', _, e'⟩
      rw [st_list, List.drop_length, pt_nil] at e'
      exact ⟨_, rfl, k v' H2 (e' ▸ T') g1 k1⟩
end
end Ey
set_option maxHeartbeats 4000000
namespace Ey
open PySem PySem.Spec L2
abbrev sWritten : Stmt := topS 14
abbrev sLText : Stmt := topS 27
/-! ### a tree's text -/
def txt : Tr → List Nat
  | .nil => [45]
  | .nd g l r => g.cps.toList ++ if (l.full || r.full) = true then [40] ++ txt l ++ [44] ++ txt r ++ [41] else []
theorem g_st (g : Str) : st g.cps.toList = g := by
  show Str.mk _ = g
  rw [Array.toArray_toList]
theorem txt_len : ∀ t : Tr, t.ok → (txt t).length ≤ 13 * t.sz + 1
  | .nil, _ => Nat.le_refl _
  | .nd g l r, h => by
    have hg := tag_len h.1
    have h1 := txt_len l h.2.1
    have h2 := txt_len r h.2.2
    have e : g.cps.toList.length = g.length := by
      rw [Array.length_toList]
      rfl
    have hs : (Tr.nd g l r).sz = l.sz + r.sz + 1 := by simp only [Tr.sz]
    unfold txt
    rw [List.length_append, hs]
    by_cases hf : (l.full || r.full) = true
    · rw [if_pos hf]
      simp only [List.length_append, List.length_cons, List.length_nil]
      omega
    · rw [if_neg hf]
      simp only [List.length_nil]
      omega
theorem s_minus : (Str.ofString "-") = st [45] := by decide +kernel
theorem s_open : (Str.ofString "(") = st [40] := by decide +kernel
theorem s_comma : (Str.ofString ",") = st [44] := by decide +kernel
theorem s_close : (Str.ofString ")") = st [41] := by decide +kernel
section
variable {Pr : Program} {w : World} {K : PySem.W.Frag} {mg : Str → Option Value} {base : Heap} {f0 : Addr} {d0 : FuncData}
theorem scLText : FnScope ["_law_tree"] ["_law_tree"] (defScope sLText) := ⟨rfl, rfl, rfl, by decide +kernel, rfl, by decide +kernel, by decide +kernel⟩
def spLText (n : Nat) : Sp := fun vs H Q _ => ∃ (v : V) (t : Tr), vs = [v] ∧ TreeAt H v t ∧ t.ok ∧ t.ht < n ∧ t.sz ≤ 1000 ∧ Q (.str (st (txt t))) H
theorem ok_ltext (D0 : Df K mg "_law_tree_text" sLText ["_law_tree"] f0 d0) : ∀ n : Nat, FnOk Pr w K mg base CX0 (n + 1) f0 d0 ["_law_tree"] (spLText n)
  | 0 => by
    refine D0.F.ok scLText (fun vs H Q E h => ?_) (fun cdv Ar outer s H vs Q E hr h => ?_)
    · obtain ⟨v, t, rfl, _⟩ := h
      rfl
    · obtain ⟨v, t, rfl, _, _, hd, _⟩ := h
      exact absurd hd (Nat.not_lt_zero _)
  | n + 1 => by
    have ih := ok_ltext D0 n
    refine D0.F.ok scLText (fun vs H Q E h => ?_) (fun cdv Ar outer s H vs Q E hr h => ?_)
    · obtain ⟨v, t, rfl, _⟩ := h
      rfl
    · obtain ⟨v, t, rfl, T, ok, hd, hz, k⟩ := h
      refine ⟨_, pss_cons (ps_if (pt_cmpR op_isN (pv 0) pe_non (nomark _)) (pss_one (ps_ret pe_str)) pss_nil)
        (pss_cons (ps_if (PW.pt (pw_and (pt_cmpR op_isN (pe_ix ix_tup (pv 0) pe_int (fun _ _ => rfl)) pe_non (nomark _)) (pw_and1 (pt_cmpR op_isN (pe_ix ix_tup (pv 0) pe_int (fun _ _ => rfl)) pe_non (nomark _))))) (pss_one (ps_ret (pe_ix ix_tup (pv 0) pe_int (fun _ _ => rfl)))) pss_nil)
        (pss_one (ps_ret (pe_op op_add_str (pe_op op_add_str (pe_op op_add_str (pe_op op_add_str (pe_op op_add_str (pe_ix ix_tup (pv 0) pe_int (fun _ _ => rfl)) pe_str)
          (pe_call ih hr (by rfl) D0.g D0.F.kp D0.b .nil pass0 (pa_cons (pe_ix ix_tup (pv 0) pe_int (fun _ _ => rfl)) pa_nil))) pe_str)
          (pe_call ih hr (by rfl) D0.g D0.F.kp D0.b .nil pass0 (pa_cons (pe_ix ix_tup (pv 0) pe_int (fun _ _ => rfl)) pa_nil))) pe_str)))), ?_⟩
      cases T with
      | nil =>
        refine ⟨_, rfl, rfl, _, rfl, iteT ?_⟩
        show Q (.str "-") H
        rw [s_minus]
        exact k
      | @nd a g l r v1 v2 e T1 T2 =>
        obtain ⟨og, ol, or'⟩ := ok
        simp only [Tr.ht] at hd
        simp only [Tr.sz] at hz
        have b1 := txt_len l ol
        have b2 := txt_len r or'
        have gl := tag_len og
        have ge : (st g.cps.toList).length ≤ 8 := by rw [g_st]; exact gl
        have hfull : ∀ bb, (l.full || r.full) = bb → txt (.nd g l r) = g.cps.toList ++ if bb = true then [40] ++ txt l ++ [44] ++ txt r ++ [41] else [] := fun bb e => by
          rw [← e]
          rfl
        have big : (l.full || r.full) = true → Q (.str (st (g.cps.toList ++ ([40] ++ txt l ++ [44] ++ txt r ++ [41])))) H := fun e => by
          rw [hfull _ e, if_pos rfl] at k
          exact k
        have rest : (l.full || r.full) = true → (tRet (tOp (fun x y H Q => ∃ i j, x = V.str i ∧ y = V.str j ∧ i.length + j.length ≤ sizeLine ∧ Q (V.str (i ++ j)) H) (tOp (fun x y H Q => ∃ i j, x = V.str i ∧ y = V.str j ∧ i.length + j.length ≤ sizeLine ∧ Q (V.str (i ++ j)) H) (tOp (fun x y H Q => ∃ i j, x = V.str i ∧ y = V.str j ∧ i.length + j.length ≤ sizeLine ∧ Q (V.str (i ++ j)) H) (tOp (fun x y H Q => ∃ i j, x = V.str i ∧ y = V.str j ∧ i.length + j.length ≤ sizeLine ∧ Q (V.str (i ++ j)) H) (tOp (fun x y H Q => ∃ i j, x = V.str i ∧ y = V.str j ∧ i.length + j.length ≤ sizeLine ∧ Q (V.str (i ++ j)) H) (tOp (rIxT K) (tVar 0) (tC (.int 0))) (tC (.str "("))) (tCall (spLText n) [] E0 (tCons (tOp (rIxT K) (tVar 0) (tC (.int 1))) tNil))) (tC (.str ","))) (tCall (spLText n) [] E0 (tCons (tOp (rIxT K) (tVar 0) (tC (.int 2))) tNil))) (tC (.str ")")))) { nx := fun _ H' => Q .non H', rt := Q } [some (.ref a)] H := fun e2 => by
          refine ⟨_, rfl, a, _, _, _, rfl, rfl, sqt_of e, atI_nat (j := 0) rfl, g, _, rfl, rfl, ?_, ?_⟩
          · exact Nat.le_trans (show g.length + 1 ≤ 9 by omega) (by decide)
          refine ⟨_, rfl, a, _, _, _, rfl, rfl, sqt_of e, atI_nat (j := 1) rfl, v1, l, rfl, T1, ol, by omega, by omega, _, _, rfl, rfl, ?_, ?_⟩
          · rw [len_app, st_len]
            exact Nat.le_trans (show g.length + 1 + (txt l).length ≤ 20000 by omega) (by decide)
          refine ⟨_, _, rfl, rfl, ?_, ?_⟩
          · rw [len_app, len_app, st_len]
            exact Nat.le_trans (show g.length + 1 + (txt l).length + 1 ≤ 20000 by omega) (by decide)
          refine ⟨_, rfl, a, _, _, _, rfl, rfl, sqt_of e, atI_nat (j := 2) rfl, v2, r, rfl, T2, or', by omega, by omega, _, _, rfl, rfl, ?_, ?_⟩
          · rw [len_app, len_app, len_app, st_len, st_len]
            exact Nat.le_trans (show g.length + 1 + (txt l).length + 1 + (txt r).length ≤ 40000 by omega) (by decide)
          refine ⟨_, _, rfl, rfl, ?_, ?_⟩
          · rw [len_app, len_app, len_app, len_app, st_len, st_len]
            exact Nat.le_trans (show g.length + 1 + (txt l).length + 1 + (txt r).length + 1 ≤ 40000 by omega) (by decide)
          show Q (.str (((((g ++ "(") ++ st (txt l)) ++ ",") ++ st (txt r)) ++ ")")) H
          have q := big e2
          rw [s_open, s_comma, s_close, ← g_st g, st_app, st_app, st_app, st_app, st_app]
          have ee : g.cps.toList ++ ([40] ++ txt l ++ [44] ++ txt r ++ [41]) = g.cps.toList ++ [40] ++ txt l ++ [44] ++ txt r ++ [41] := by simp
          rw [ee] at q
          exact q
        refine ⟨_, rfl, rfl, _, rfl, iteF ?_⟩
        refine ⟨_, rfl, a, _, _, v1, rfl, rfl, sqt_of e, atI_nat (j := 1) rfl, rfl, _, rfl, ?_⟩
        rw [T1.non]
        cases f1 : l.full with
        | true => exact iteF (rest (by rw [f1]; rfl))
        | false =>
          refine iteT ⟨_, rfl, a, _, _, v2, rfl, rfl, sqt_of e, atI_nat (j := 2) rfl, rfl, _, rfl, ?_⟩
          rw [T2.non]
          cases f2 : r.full with
          | true => exact iteF (rest (by rw [f1, f2]; rfl))
          | false =>
            refine iteT ⟨_, rfl, a, _, _, _, rfl, rfl, sqt_of e, atI_nat (j := 0) rfl, ?_⟩
            have e3 : txt (.nd g l r) = g.cps.toList := by
              rw [hfull false (by rw [f1, f2]; rfl)]
              simp
            rw [e3, g_st] at k
            exact k
end
end Ey
set_option maxHeartbeats 4000000
namespace Ey
open PySem PySem.Spec L2
theorem glue_any : ∀ (l : List Str) (a : Array Nat), List.foldl (fun (acc : Array Nat) (p : Str) => acc ++ (Str.ofString "").cps ++ p.cps) a l = a ++ (l.flatMap fun p => p.cps.toList).toArray
  | [], a => by simp
  | x :: r, a => by
    rw [List.foldl_cons, glue_any r]
    have e : (Str.ofString "").cps = #[] := by decide +kernel
    rw [e]
    exact Array.ext' (by simp)
theorem join_any (l : List Str) : Txt.join "" l = st (l.flatMap fun p => p.cps.toList) := by
  unfold Txt.join Builtin.Str.glued
  cases l with
  | nil => rfl
  | cons x r =>
    have := glue_any r x.cps
    show Str.mk (List.foldl _ x.cps r) = st ((x :: r).flatMap fun p => p.cps.toList)
    rw [this]
    show Str.mk _ = Str.mk _
    congr 1
    simp
/-- what waits: trees and texts -/
inductive WtAt (H : Hp) : List V → List (Tr ⊕ List Nat) → Prop
  | nil : WtAt H [] []
  | tree {v : V} {t : Tr} {us : List V} {ts : List (Tr ⊕ List Nat)} : TreeAt H v t → t.ok → WtAt H us ts → WtAt H (v :: us) (.inl t :: ts)
  | text {p : List Nat} {us : List V} {ts : List (Tr ⊕ List Nat)} : WtAt H us ts → WtAt H (.str (st p) :: us) (.inr p :: ts)
theorem WtAt.kp {ms : List Addr} {H H1 : Hp} {us : List V} {ts : List (Tr ⊕ List Nat)} (k : Kp ms H H1) (h : WtAt H us ts) : WtAt H1 us ts := by
  induction h with
  | nil => exact .nil
  | tree T o _ ih => exact .tree (T.kp k) o ih
  | text _ ih => exact .text ih
def wOf : Tr → Nat
  | .nil => 1
  | .nd _ l r => wOf l + wOf r + 4
def wAll : List (Tr ⊕ List Nat) → Nat
  | [] => 0
  | .inl t :: r => wOf t + wAll r
  | .inr _ :: r => 1 + wAll r
def outOf : List (Tr ⊕ List Nat) → List Nat
  | [] => []
  | .inl t :: r => txt t ++ outOf r
  | .inr p :: r => p ++ outOf r
theorem wOf_sz : ∀ t : Tr, wOf t ≤ 6 * t.sz + 1
  | .nil => Nat.le_refl _
  | .nd g l r => by
    have h1 := wOf_sz l
    have h2 := wOf_sz r
    simp only [wOf, Tr.sz]
    omega
theorem wOf_pos : ∀ t : Tr, 1 ≤ wOf t
  | .nil => Nat.le_refl _
  | .nd g l r => by
    simp only [wOf]
    omega
theorem WtAt.len {H : Hp} {us : List V} {ts : List (Tr ⊕ List Nat)} (h : WtAt H us ts) : us.length ≤ wAll ts := by
  induction h with
  | nil => exact Nat.le_refl _
  | @tree v t us ts T o _ ih =>
    have := wOf_pos t
    simp only [wAll, List.length_cons]
    omega
  | text _ ih =>
    simp only [wAll, List.length_cons]
    omega
section
variable {Pr : Program} {w : World} {K : PySem.W.Frag} {mg : Str → Option Value} {base : Heap} {fT cT P dP : Addr} {dT : FuncData} {f1 f2 f5 f6 : Addr} {d1 d2 d5 d6 : FuncData} {fW : Addr} {dW : FuncData}
def WInv (v : V) (pl wl P : Addr) (t : Tr) (H1 : Hp) (m : Nat) (σ : L2.St) (H' : Hp) : Prop :=
  ∃ (us : List V) (ts : List (Tr ⊕ List Nat)) (ys : List Str) (y3 y4 y5 y6 : Option V), σ = [some v, some (.ref pl), some (.ref wl), y3, y4, y5, y6] ∧ H' wl = some (.lst us.reverse) ∧ H' pl = some (.lst (ys.map V.str)) ∧ WtAt H' us ts ∧ m = wAll ts ∧ wAll ts + ys.length ≤ 6001 ∧ (ys.flatMap fun p => p.cps.toList) ++ outOf ts = txt t ∧ GxR.TabG H' P ∧ Kp [] H1 H'
theorem sum_flat (ys : List Str) : (ys.map fun x => x.length).sum = (ys.flatMap fun p => p.cps.toList).length := by
  induction ys with
  | nil => rfl
  | cons y r ih =>
    rw [List.map_cons, List.sum_cons, ih, List.flatMap_cons, List.length_append, Array.length_toList]
    rfl
abbrev NW : List Str := ["tree", "pieces", "waiting", "part", "tag", "left", "right"]
theorem scWritten : FnScope NW ["tree"] (defScope sWritten) := ⟨rfl, rfl, rfl, by decide +kernel, rfl, by decide +kernel, by decide +kernel⟩
def spWritten (P : Addr) : Sp := fun vs H Q _ => ∃ (v : V) (t : Tr), vs = [v] ∧ TreeAt H v t ∧ t.ok ∧ t.sz ≤ 1000 ∧ GxR.TabG H P ∧
  ∀ H', GxR.TabG H' P → Kp [P] H H' → Q (.str (st (txt t))) H'
theorem ok_written (G : Prog K w mg fT cT dP f1 f2 f5 f6 dT d1 d2 d5 d6) (b : BF base mg cT P) (F : Fun K "tree_written" "tree_written" sWritten fW dW) : FnOk Pr w K mg base CX0 4 fW dW ["tree"] (spWritten P) := by
  have B := G.A.B
  refine F.ok scWritten (fun vs H Q E h => ?_) (fun cdv Ar outer s H vs Q E hr h => ?_)
  · obtain ⟨v, t, rfl, _⟩ := h
    rfl
  · obtain ⟨v, t, rfl, T, ok, sz, g, k⟩ := h
    refine ⟨_, pss_cons (ps_expr (pe_call (ok_check G.check.F G.isTree G.A b) hr (by rfl) G.check.g G.check.F.kp G.check.b .nil pass0 (pa_cons (pv 0) pa_nil)))
      (pss_cons (ps_set (i := 1) scWritten.nd rfl (.inl rfl) (pe_lst pa_nil))
      (pss_cons (ps_set (i := 2) scWritten.nd rfl (.inl rfl) (pe_lst (pa_cons (pv 0) pa_nil)))
      (pss_cons (ps_while PassesOwn.never (pt_truth (pv 2) (by intro _; rfl))
        (pss_cons (ps_set (i := 3) scWritten.nd rfl (.inl rfl) (pe_bm0 PySem.F.plainAttrs_list PySem.F.slot_list_pop PySem.F.type_list_pop mt_pop (pv 2)))
        (pss_one (ps_if (pt_cmpR op_isN (pv 3) pe_non (nomark _))
          (pss_one (ps_expr (pe_bm PySem.F.plainAttrs_list PySem.F.slot_list_append PySem.F.type_list_append mt_append (pv 1) (pa_cons pe_str pa_nil))))
          (pss_one (ps_if (pt_val (pe_callB call_isi (by rfl) B.isi (by decide +kernel) (pa_cons (pv 3) (pa_cons (pe_bltn (v := .ty "str") (by rfl) B.str (by decide +kernel) rfl) pa_nil))))
            (pss_one (ps_expr (pe_bm PySem.F.plainAttrs_list PySem.F.slot_list_append PySem.F.type_list_append mt_append (pv 1) (pa_cons (pv 3) pa_nil))))
            (pss_cons (ps_asg (pv 3) (pg_tup (n := 3) rfl (pgs_cons (pg_name (i := 4) scWritten.nd rfl (.inl rfl)) (pgs_cons (pg_name (i := 5) scWritten.nd rfl (.inl rfl)) (pgs_cons (pg_name (i := 6) scWritten.nd rfl (.inl rfl)) pgs_nil)))))
            (pss_cons (ps_expr (pe_bm PySem.F.plainAttrs_list PySem.F.slot_list_append PySem.F.type_list_append mt_append (pv 1) (pa_cons (pv 4) pa_nil)))
            (pss_one (ps_if (PW.pt (pw_or (pt_cmpR op_notN (pv 5) pe_non (nomark _)) (pw_or1 (pt_cmpR op_notN (pv 6) pe_non (nomark _)))))
              (pss_one (ps_expr (pe_bm PySem.F.plainAttrs_list PySem.F.slot_list_extend PySem.F.type_list_extend mt_extend (pv 2) (pa_cons (pe_lst (pa_cons pe_str (pa_cons (pv 6) (pa_cons pe_str (pa_cons (pv 5) (pa_cons pe_str pa_nil)))))) pa_nil)))) pss_nil))))))))))
      (pss_one (ps_ret (pe_join pe_str (pv 1))))))), ?_⟩
    refine ⟨_, rfl, v, t, rfl, T, ok, sz, g, fun H1 g1 k1 => ?_⟩
    have T1 := T.kp k1
    refine ⟨Nat.zero_le _, fun pl np => ?_⟩
    have kp2 : Kp [] H1 (upd H1 pl (.lst [])) := .new np
    have ep2 : (upd H1 pl (.lst [])) pl = some (.lst []) := upd_same
    have g2 := tabg_kp g1 kp2 List.not_mem_nil
    have nPl : P ≠ pl := by
      obtain ⟨ps, e, _⟩ := g1
      exact ne_of_none e np
    generalize upd H1 pl (.lst []) = H2 at kp2 ep2 g2
    refine ⟨_, rfl, by show 1 ≤ sizeLine; decide, fun wl nw => ?_⟩
    have k3 : Kp [] H2 (upd H2 wl (.lst [v])) := .new nw
    have ew3 : (upd H2 wl (.lst [v])) wl = some (.lst [v]) := upd_same
    have ep3 := k3.at_ _ _ ep2 List.not_mem_nil
    have g3 := tabg_kp g2 k3 List.not_mem_nil
    have nPw : P ≠ wl := by
      obtain ⟨ps, e, _⟩ := g2
      exact ne_of_none e nw
    have npw : pl ≠ wl := ne_of_none ep2 nw
    generalize upd H2 wl (.lst [v]) = H3 at k3 ew3 ep3 g3
    have k13 : Kp [] H1 H3 := kp2.trans k3
    have h1p : H1 pl = none := np
    have h1w : H1 wl = none := kp2.free nw List.not_mem_nil
    refine ⟨WInv v pl wl P t H1,
      ⟨_, [v], [.inl t], [], _, _, _, _, rfl, ew3, ep3, .tree (T1.kp k13) ok .nil, rfl, ?_, ?_, g3, k13⟩, fun m σ H4 hw => ?_⟩
    · have := wOf_sz t
      show wOf t + 0 + 0 ≤ 6001
      omega
    · show [] ++ (txt t ++ []) = txt t
      simp
    obtain ⟨us, ts, ys, y3, y4, y5, y6, rfl, ew, ep, hW, rfl, hm, ho, g4, k4⟩ := hw
    refine ⟨_, rfl, _, .inl ⟨_, sql_of ew, rfl⟩, ?_⟩
    have append : ∀ (H5 : Hp) (us : List V) (ts : List (Tr ⊕ List Nat)) (z : Str) (y3 y4 y5 y6 : Option V), H5 wl = some (.lst us.reverse) → H5 pl = some (.lst (ys.map V.str)) → WtAt H5 us ts → wAll ts + (ys.length + 1) ≤ 6001 → (ys.flatMap fun p => p.cps.toList) ++ (z.cps.toList ++ outOf ts) = txt t → GxR.TabG H5 P → Kp [] H1 H5 →
        WInv v pl wl P t H1 (wAll ts) [some v, some (.ref pl), some (.ref wl), y3, y4, y5, y6] (upd H5 pl (.lst (ys.map V.str ++ [.str z]))) := by
      intro H5 us ts z y3 y4 y5 y6 a1 a2 a3 a4 a5 a6 a7
      have kk : Kp [pl] H5 (upd H5 pl (.lst (ys.map V.str ++ [.str z]))) := .put (by simp) a2 (fun _ z => by cases z)
      refine ⟨us, ts, ys ++ [z], _, _, _, _, rfl, kk.at_ _ _ a1 (by simp [npw.symm]), ?_, a3.kp kk, rfl, by rw [List.length_append]; exact a4, ?_, tabg_upd a6 nPl, a7.own h1p⟩
      · rw [upd_same, List.map_append]
        rfl
      · rw [List.flatMap_append, ← a5]
        simp
    have small : ys.length < sizeLine := Nat.lt_of_le_of_lt (show ys.length ≤ 6001 by omega) (by decide)
    have popped : ∀ (x : V) (us : List V) (ts : List (Tr ⊕ List Nat)), WtAt H4 us ts → H4 wl = some (.lst (x :: us).reverse) → (upd H4 wl (.lst us.reverse)) wl = some (.lst us.reverse) ∧ (upd H4 wl (.lst us.reverse)) pl = some (.lst (ys.map V.str)) ∧ WtAt (upd H4 wl (.lst us.reverse)) us ts ∧ GxR.TabG (upd H4 wl (.lst us.reverse)) P ∧ Kp [] H1 (upd H4 wl (.lst us.reverse)) ∧ Kp [wl] H4 (upd H4 wl (.lst us.reverse)) := by
      intro x us ts a1 a2
      have kk : Kp [wl] H4 (upd H4 wl (.lst us.reverse)) := .put (by simp) a2 (fun _ z => by cases z)
      exact ⟨upd_same, kk.at_ _ _ ep (by simp [npw]), a1.kp kk, tabg_upd g4 nPw, k4.own h1w, kk⟩
    cases hW with
    | nil =>
      refine iteF ?_
      have e : (ys.flatMap fun p => p.cps.toList) = txt t := by
        rw [← ho]
        show _ = _ ++ []
        simp
      refine ⟨⟨_, rfl⟩, _, rfl, _, pl, ys, rfl, rfl, .inl (sql_of ep), ?_, ?_⟩
      · rw [sum_flat, e, show (Str.ofString "").length = 0 by decide +kernel]
        have := txt_len t ok
        omega
      · rw [join_any, e]
        exact k H4 g4 (k1.trans (k4.more (by simp)))
    | @text p us ts hW =>
      have e0 : (!((V.str (st p) :: us).reverse).isEmpty) = true := by simp
      rw [e0]
      simp only [wAll] at hm
      refine iteT ⟨fun σ' H' => ∃ m', m' < wAll (.inr p :: ts) ∧ WInv v pl wl P t H1 m' σ' H', fun _ _ h => h, ?_⟩
      refine ⟨_, rfl, .inl ⟨rfl, _, sql_of ew⟩, wl, _, _, rfl, rfl, ew, pile_top _ us, ?_⟩
      rw [pile_pop]
      obtain ⟨ew5, ep5, hW5, g5, k5, kk⟩ := popped _ us ts hW ew
      generalize upd H4 wl (.lst us.reverse) = H5 at ew5 ep5 hW5 g5 k5
      refine ⟨_, rfl, rfl, _, rfl, iteF ?_⟩
      refine ⟨_, rfl, .str (st p), .ty "str", .type "str", .type "str", true, rfl, .ty "str", .base (.str _), kit_ty (by decide +kernel), _, rfl, iteT ?_⟩
      refine ⟨_, rfl, .inl ⟨rfl, _, sql_of ep5⟩, _, rfl, pl, _, _, rfl, rfl, ep5, by rw [List.length_map]; exact small, ?_⟩
      refine ⟨wAll ts, by simp only [wAll]; omega, append H5 us ts (st p) _ _ _ _ ew5 ep5 hW5 (by omega) ?_ g5 k5⟩
      rw [← ho]
      rfl
    | @tree x t1 us ts Tx ox hW =>
      have e0 : (!((x :: us).reverse).isEmpty) = true := by simp
      rw [e0]
      simp only [wAll] at hm
      refine iteT ⟨fun σ' H' => ∃ m', m' < wAll (.inl t1 :: ts) ∧ WInv v pl wl P t H1 m' σ' H', fun _ _ h => h, ?_⟩
      refine ⟨_, rfl, .inl ⟨rfl, _, sql_of ew⟩, wl, _, _, rfl, rfl, ew, pile_top _ us, ?_⟩
      rw [pile_pop]
      obtain ⟨ew5, ep5, hW5, g5, k5, kk⟩ := popped _ us ts hW ew
      have T5 := Tx.kp kk
      generalize upd H4 wl (.lst us.reverse) = H5 at ew5 ep5 hW5 g5 k5 T5
      have lU := hW5.len
      cases T5 with
      | nil =>
        refine ⟨_, rfl, rfl, _, rfl, iteT ?_⟩
        simp only [wOf] at hm
        refine ⟨_, rfl, .inl ⟨rfl, _, sql_of ep5⟩, pl, _, _, rfl, rfl, ep5, by rw [List.length_map]; exact small, ?_⟩
        refine ⟨wAll ts, by simp only [wAll, wOf]; omega, append H5 us ts "-" _ _ _ _ ew5 ep5 hW5 (by omega) ?_ g5 k5⟩
        rw [← ho, s_minus]
        rfl
      | @nd a tg tl tr v1 v2 e T51 T52 =>
        obtain ⟨og, ol, or'⟩ := ox
        simp only [wOf] at hm
        refine ⟨_, rfl, rfl, _, rfl, iteF ?_⟩
        refine ⟨_, rfl, .ref a, .ty "str", .type "tuple", .type "str", false, rfl, .ty "str", .base (.tup e), kit_ty (by decide +kernel), _, rfl, iteF ?_⟩
        refine ⟨_, rfl, a, _, rfl, sqt_of e, rfl, _, _, rfl, _, _, rfl, _, _, rfl, rfl, ?_⟩
        refine ⟨_, rfl, .inl ⟨rfl, _, sql_of ep5⟩, _, rfl, pl, _, _, rfl, rfl, ep5, by rw [List.length_map]; exact small, ?_⟩
        have kp6 : Kp [pl] H5 (upd H5 pl (.lst (ys.map V.str ++ [.str tg]))) := .put (by simp) ep5 (fun _ z => by cases z)
        have fullE : ∀ bb, (tl.full || tr.full) = bb → (ys.flatMap fun p => p.cps.toList) ++ ((tg.cps.toList ++ if bb = true then [40] ++ txt tl ++ [44] ++ txt tr ++ [41] else []) ++ outOf ts) = txt t := fun bb e => by
          rw [← ho, ← e]
          rfl
        have ext : (tl.full || tr.full) = true → ∀ (y4 y5 y6 : Option V) (p : Addr), (upd H5 pl (.lst (ys.map V.str ++ [.str tg]))) p = none →
            WInv v pl wl P t H1 (wAll (.inr [40] :: .inl tl :: .inr [44] :: .inl tr :: .inr [41] :: ts)) [some v, some (.ref pl), some (.ref wl), some (.ref a), y4, y5, y6] (upd (upd (upd H5 pl (.lst (ys.map V.str ++ [.str tg]))) p (.lst [.str ")", v2, .str ",", v1, .str "("])) wl (.lst (us.reverse ++ [.str ")", v2, .str ",", v1, .str "("]))) := by
          intro ef y4 y5 y6 p np6
          have kn : Kp [] (upd H5 pl (.lst (ys.map V.str ++ [.str tg]))) (upd (upd H5 pl (.lst (ys.map V.str ++ [.str tg]))) p (.lst [.str ")", v2, .str ",", v1, .str "("])) := .new np6
          have ew7 := kn.at_ _ _ (kp6.at_ _ _ ew5 (by simp [npw.symm])) (by simp)
          have ep7 := kn.at_ _ _ (upd_same : (upd H5 pl (.lst (ys.map V.str ++ [.str tg]))) pl = _) (by simp)
          have g7 := tabg_kp (tabg_upd (o := .lst (ys.map V.str ++ [.str tg])) g5 nPl) kn List.not_mem_nil
          have k7 : Kp [] H1 _ := (k5.own (o := .lst (ys.map V.str ++ [.str tg])) h1p).trans kn
          have T71 := (T51.kp kp6).kp kn
          have T72 := (T52.kp kp6).kp kn
          have hW7 := (hW5.kp kp6).kp kn
          generalize upd (upd H5 pl (.lst (ys.map V.str ++ [.str tg]))) p (.lst [.str ")", v2, .str ",", v1, .str "("]) = H7 at ew7 ep7 g7 k7 T71 T72 hW7
          have kw : Kp [wl] H7 (upd H7 wl (.lst (us.reverse ++ [.str ")", v2, .str ",", v1, .str "("]))) := .put (by simp) ew7 (fun _ z => by cases z)
          have q := fullE true ef
          rw [if_pos rfl] at q
          refine ⟨.str (st [40]) :: v1 :: .str (st [44]) :: v2 :: .str (st [41]) :: us, _, ys ++ [tg], _, _, _, _, rfl, ?_, ?_, .text (.tree (T71.kp kw) ol (.text (.tree (T72.kp kw) or' (.text (hW7.kp kw))))), rfl, ?_, ?_, tabg_upd g7 nPw, k7.own h1w⟩
          · rw [upd_same, s_close, s_comma, s_open]
            simp
          · rw [kw.at_ _ _ ep7 (by simp [npw]), List.map_append]
            rfl
          · rw [List.length_append]
            simp only [wAll, List.length_cons, List.length_nil]
            omega
          · rw [← q, List.flatMap_append]
            simp only [outOf]
            simp
        have w1 := wOf_pos tl
        have w2 := wOf_pos tr
        have notN : ∀ {H : Hp} {v : V} {t : Tr}, TreeAt H v t → (!decide (v = .non)) = t.full := fun h => by
          rw [h.non, Bool.not_not]
        refine ⟨_, rfl, rfl, _, rfl, ?_⟩
        rw [notN T51]
        have go : (tl.full || tr.full) = true → ∀ (y4 y5 y6 : Option V) (p : Addr), (upd H5 pl (.lst (ys.map V.str ++ [.str tg]))) p = none → ∃ m', m' < wAll (.inl (Tr.nd tg tl tr) :: ts) ∧ WInv v pl wl P t H1 m' [some v, some (.ref pl), some (.ref wl), some (.ref a), y4, y5, y6] (upd (upd (upd H5 pl (.lst (ys.map V.str ++ [.str tg]))) p (.lst [.str ")", v2, .str ",", v1, .str "("])) wl (.lst (us.reverse ++ [.str ")", v2, .str ",", v1, .str "("]))) :=
          fun ef y4 y5 y6 p np6 => ⟨_, by simp only [wAll, wOf]; omega, ext ef y4 y5 y6 p np6⟩
        have sz5 : us.reverse.length + 5 ≤ sizeLine := by
          rw [List.length_reverse]
          exact Nat.le_trans (show us.length + 5 ≤ 7000 by omega) (by decide)
        have ew6 := kp6.at_ _ _ ew5 (by simp [npw.symm])
        have more : (tl.full || tr.full) = true → ∀ (y4 : Option V) (p : Addr), (upd H5 pl (.lst (ys.map V.str ++ [.str tg]))) p = none → (upd (upd H5 pl (.lst (ys.map V.str ++ [.str tg]))) p (.lst [.str ")", v2, .str ",", v1, .str "("])) wl = some (.lst us.reverse) := fun _ _ p np6 => (Kp.new (ms := []) np6).at_ _ _ ew6 (by simp)
        cases f1 : tl.full with
        | true =>
          have ef : (tl.full || tr.full) = true := by rw [f1]; rfl
          refine iteT ⟨_, rfl, .inl ⟨rfl, _, sql_of ew6⟩, _, rfl, _, rfl, by show 5 ≤ sizeLine; decide, fun p np6 => ⟨wl, p, us.reverse, _, rfl, rfl, more ef none p np6, upd_same, sz5, go ef _ _ _ p np6⟩⟩
        | false =>
          refine iteF ⟨_, rfl, rfl, _, rfl, ?_⟩
          rw [notN T52]
          cases f2 : tr.full with
          | true =>
            have ef : (tl.full || tr.full) = true := by rw [f2, Bool.or_true]
            exact iteT ⟨_, rfl, .inl ⟨rfl, _, sql_of ew6⟩, _, rfl, _, rfl, by show 5 ≤ sizeLine; decide, fun p np6 => ⟨wl, p, us.reverse, _, rfl, rfl, more ef none p np6, upd_same, sz5, go ef _ _ _ p np6⟩⟩
          | false =>
            have q := fullE false (by rw [f1, f2]; rfl)
            refine iteF ⟨wAll ts, by simp only [wAll, wOf]; omega, append H5 us ts tg _ _ _ _ ew5 ep5 hW5 (by omega) ?_ g5 k5⟩
            rw [← q]
            simp
end
end Ey
set_option maxHeartbeats 4000000
namespace Ey
open PySem PySem.Spec L2
/-! ### reading a text, as told -/
inductive Rd
  | bad (at_ : Nat)
  | good (t : Tr) (at_ : Nat)
def tagAt (s : List Nat) (i : Nat) : List Nat := ((s.drop i).take 8).takeWhile fun c => decide (c ∈ abc)
def rdM (s : List Nat) : Nat → Nat → Bool → Rd
  | 0, i, _ => .bad i
  | n + 1, i, nd =>
    match s[i]? with
    | none => .bad i
    | some c =>
      if c = 45 then (if nd = true then .bad i else .good .nil (i + 1))
      else if (tagAt s i).isEmpty = true then .bad i
      else if s[i + (tagAt s i).length]? = some 40 then
        match rdM s n (i + (tagAt s i).length + 1) false with
        | .bad p => .bad p
        | .good l p =>
          if s[p]? = some 44 then
            match rdM s n (p + 1) (!l.full) with
            | .bad q => .bad q
            | .good r q => if s[q]? = some 41 then .good (.nd (st (tagAt s i)) l r) (q + 1) else .bad q
          else .bad p
      else .good (.nd (st (tagAt s i)) .nil .nil) (i + (tagAt s i).length)
theorem rdM_gt (s : List Nat) : ∀ (n i : Nat) (nd : Bool) (t : Tr) (p : Nat), rdM s n i nd = .good t p → i < p
  | 0, i, nd, t, p, h => by cases h
  | n + 1, i, nd, t, p, h => by
    unfold rdM at h
    split at h
    · cases h
    · split at h
      · split at h
        · cases h
        · cases h
          omega
      · split at h
        · cases h
        · rename_i hne
          have hpos : 1 ≤ (tagAt s i).length := by
            cases hh : tagAt s i with
            | nil => rw [hh] at hne; exact absurd rfl hne
            | cons _ _ => exact Nat.succ_le_succ (Nat.zero_le _)
          split at h
          · split at h
            · cases h
            · rename_i l p1 h1
              have g1 := rdM_gt s n _ _ _ _ h1
              split at h
              · split at h
                · cases h
                · rename_i r q h2
                  have g2 := rdM_gt s n _ _ _ _ h2
                  split at h
                  · cases h
                    omega
                  · cases h
              · cases h
          · cases h
            omega
theorem count_drop {s : List Nat} {i j : Nat} (h : i ≤ j) : (s.drop j).count 40 ≤ (s.drop i).count 40 := by
  have e : s.drop j = (s.drop i).drop (j - i) := by
    rw [List.drop_drop]
    congr 1
    omega
  rw [e]
  exact (List.drop_sublist _ _).count_le 40
theorem count_hit {s : List Nat} {i : Nat} (h : s[i]? = some 40) : (s.drop (i + 1)).count 40 + 1 = (s.drop i).count 40 := by
  obtain ⟨hi, e⟩ := List.getElem?_eq_some_iff.mp h
  rw [List.drop_eq_getElem_cons hi, e, List.count_cons_self]
/-- a tag that is read is a tag -/
theorem tagAt_abc (s : List Nat) (i : Nat) : ∀ c ∈ tagAt s i, c ∈ abc := fun c hc => by
  have : ∀ (l : List Nat), ∀ c ∈ l.takeWhile (fun c => decide (c ∈ abc)), c ∈ abc := by
    intro l
    induction l with
    | nil => intro c hc; cases hc
    | cons a r ih =>
      intro c hc
      rw [List.takeWhile_cons] at hc
      by_cases ha : a ∈ abc
      · rw [if_pos (decide_eq_true ha)] at hc
        rcases List.mem_cons.mp hc with rfl | hc
        · exact ha
        · exact ih c hc
      · rw [if_neg (by simpa using ha)] at hc
        cases hc
  exact this _ c hc
theorem tagAt_len (s : List Nat) (i : Nat) : (tagAt s i).length ≤ 8 := by
  have h1 : (tagAt s i).length ≤ ((s.drop i).take 8).length := (List.takeWhile_sublist _).length_le
  rw [List.length_take] at h1
  omega
theorem tw_in {p : Nat → Bool} : ∀ (l : List Nat) (k : Nat), k < (l.takeWhile p).length → ∃ c, l[k]? = some c ∧ p c = true
  | [], k, h => absurd h (Nat.not_lt_zero _)
  | a :: r, k, h => by
    rw [List.takeWhile_cons] at h
    by_cases ha : p a = true
    · rw [if_pos ha] at h
      cases k with
      | zero => exact ⟨a, rfl, ha⟩
      | succ k => exact tw_in r k (Nat.lt_of_succ_lt_succ h)
    · rw [if_neg ha] at h
      exact absurd h (Nat.not_lt_zero _)
theorem tw_end {p : Nat → Bool} : ∀ (l : List Nat) (c : Nat), l[(l.takeWhile p).length]? = some c → p c = false
  | [], c, h => by cases h
  | a :: r, c, h => by
    rw [List.takeWhile_cons] at h
    by_cases ha : p a = true
    · rw [if_pos ha] at h
      exact tw_end r c h
    · rw [if_neg ha] at h
      cases h
      simpa using ha
theorem tw_take {p : Nat → Bool} : ∀ (l : List Nat), l.takeWhile p = l.take (l.takeWhile p).length
  | [] => rfl
  | a :: r => by
    rw [List.takeWhile_cons]
    by_cases ha : p a = true
    · rw [if_pos ha, List.length_cons, List.take_succ_cons, ← tw_take r]
    · rw [if_neg ha]
      rfl
theorem tag_in {s : List Nat} {i k : Nat} (h : k < (tagAt s i).length) : k < 8 ∧ ∃ c, s[i + k]? = some c ∧ c ∈ abc := by
  have h8 := tagAt_len s i
  obtain ⟨c, e, hc⟩ := tw_in ((s.drop i).take 8) k h
  refine ⟨by omega, c, ?_, of_decide_eq_true hc⟩
  rw [List.getElem?_take, if_pos (by omega), List.getElem?_drop] at e
  exact e
theorem tag_end {s : List Nat} {i : Nat} (h : (tagAt s i).length < 8) {c : Nat} (e : s[i + (tagAt s i).length]? = some c) : ¬ c ∈ abc := by
  have := tw_end (p := fun c => decide (c ∈ abc)) ((s.drop i).take 8) c (by
    rw [List.getElem?_take]
    show (if (tagAt s i).length < 8 then (s.drop i)[(tagAt s i).length]? else none) = some c
    rw [if_pos h, List.getElem?_drop]
    exact e)
  exact of_decide_eq_false this
theorem tag_take (s : List Nat) (i : Nat) : tagAt s i = (s.drop i).take (tagAt s i).length := by
  have h8 := tagAt_len s i
  have e : tagAt s i = ((s.drop i).take 8).take (tagAt s i).length := tw_take (p := fun c => decide (c ∈ abc)) ((s.drop i).take 8)
  rw [List.take_take, Nat.min_eq_left h8] at e
  exact e
theorem cut_both (s : List Nat) {i j : Nat} (h1 : i ≤ j) (h2 : j ≤ s.length) : cutS (st s) (some (i : Int)) (some (j : Int)) = st ((s.drop i).take (j - i)) := by
  have el : (st s).length = s.length := st_len s
  show Str.mk _ = Str.mk _
  rw [el, HT.sIx_nat, HT.sIx_nat, Nat.min_eq_left h2, Nat.min_eq_left (by omega)]
  rfl
theorem cut_tag {s : List Nat} {i : Nat} (h : i + (tagAt s i).length ≤ s.length) : cutS (st s) (some (i : Int)) (some ((i + (tagAt s i).length : Nat) : Int)) = st (tagAt s i) := by
  rw [cut_both s (by omega) h, Nat.add_sub_cancel_left, ← tag_take]
theorem tag_fits {s : List Nat} {i : Nat} (h : i ≤ s.length) : i + (tagAt s i).length ≤ s.length := by
  have h1 : (tagAt s i).length ≤ ((s.drop i).take 8).length := (List.takeWhile_sublist _).length_le
  rw [List.length_take, List.length_drop] at h1
  omega
end Ey
set_option maxHeartbeats 4000000
namespace Ey
open PySem PySem.Spec L2
abbrev sLRead : Stmt := topS 28
def RdAt (H : Hp) (q : Addr) : Rd → Prop
  | .bad p => H q = some (.tup [.str "wrong", .int (p : Nat)])
  | .good t p => ∃ v, H q = some (.tup [v, .int (p : Nat)]) ∧ TreeAt H v t
theorem rdM_le (s : List Nat) : ∀ (n i : Nat) (nd : Bool) (t : Tr) (p : Nat), rdM s n i nd = .good t p → p ≤ s.length
  | 0, i, nd, t, p, h => by cases h
  | n + 1, i, nd, t, p, h => by
    unfold rdM at h
    split at h
    · cases h
    · rename_i c hc
      have hil : i < s.length := (List.getElem?_eq_some_iff.mp hc).1
      split at h
      · split at h
        · cases h
        · cases h
          omega
      · split at h
        · cases h
        · split at h
          · split at h
            · cases h
            · split at h
              · split at h
                · cases h
                · split at h
                  · rename_i h41
                    cases h
                    exact (List.getElem?_eq_some_iff.mp h41).1
                  · cases h
              · cases h
          · cases h
            exact tag_fits (Nat.le_of_lt hil)
section
variable {Pr : Program} {w : World} {K : PySem.W.Frag} {mg : Str → Option Value} {base : Heap} {f0 : Addr} {d0 : FuncData}
abbrev NR : List Str := ["_law_text", "_law_at", "_law_is_node", "_law_start", "_law_left", "_law_right"]
theorem scLRead : FnScope NR ["_law_text", "_law_at", "_law_is_node"] (defScope sLRead) := ⟨rfl, rfl, rfl, by decide +kernel, rfl, by decide +kernel, by decide +kernel⟩
def spRead (n : Nat) : Sp := fun vs H Q _ => ∃ (s : List Nat) (i : Nat) (nd : Bool), vs = [.str (st s), .int (i : Nat), .bl nd] ∧ i ≤ s.length ∧ s.length ≤ 100000 ∧ (s.drop i).count 40 < n ∧
  ∀ (q : Addr) (H' : Hp), RdAt H' q (rdM s n i nd) → Kp [] H H' → Q (.ref q) H'
theorem ok_lread (D0 : Df K mg "_law_read_tree" sLRead ["_law_text", "_law_at", "_law_is_node"] f0 d0) (B : BI mg) : ∀ n : Nat, FnOk Pr w K mg base CX0 (n + 1) f0 d0 ["_law_text", "_law_at", "_law_is_node"] (spRead n)
  | 0 => by
    refine D0.F.ok scLRead (fun vs H Q E h => ?_) (fun cdv Ar outer s H vs Q E hr h => ?_)
    · obtain ⟨s, i, nd, rfl, _⟩ := h
      rfl
    · obtain ⟨s, i, nd, rfl, _, _, hd, _⟩ := h
      exact absurd hd (Nat.not_lt_zero _)
  | n + 1 => by
    have ih := ok_lread D0 B n
    refine D0.F.ok scLRead (fun vs H Q E h => ?_) (fun cdv Ar outer s0 H vs Q E hr h => ?_)
    · obtain ⟨s, i, nd, rfl, _⟩ := h
      rfl
    · obtain ⟨s, i, nd, rfl, hi, hl, hc, k⟩ := h
      have hu1 : (cxOf CX0 Pr w K mg base NR "_law_read_tree" (defScope sLRead) f0 cdv Ar outer s0 H E).nox.A.units < cLine := Nat.lt_of_le_of_lt (Nat.le_add_right _ 64) hr.units
      have el : (st s).length = s.length := st_len s
      have hgs : (st s).length ≤ sizeLine := by
        rw [el]
        exact Nat.le_trans hl (by decide)
      have tf := tag_fits hi
      have t8 := tagAt_len s i
      have sgn : ∀ (c d : Nat), V.str (Str.mk #[c]) = V.str (st [d]) → c = d := fun c d h => (List.cons.inj (st_inj (V.str.inj h))).1
      obtain ⟨tt, dt, rt⟩ : ∃ tt, PSs (cxOf CX0 Pr w K mg base NR "_law_read_tree" (defScope sLRead) f0 cdv Ar outer s0 H E).nox ((defBody sLRead).drop 4) tt ∧
          ∀ (c : Nat), s[i]? = some c → ¬ c = 45 → tt { nx := fun _ H' => Q .non H', rt := Q } [some (.str (st s)), some (.int ((i + (tagAt s i).length : Nat) : Int)), some (.bl nd), some (.int (i : Nat)), none, none] H := by
        refine ⟨_, (pss_cons (ps_if (pt_cmpR op_eq (pv 1) (pv 3) (nomark _)) (pss_one (ps_ret (pe_tup (pa_cons pe_str (pa_cons (pv 1) pa_nil))))) pss_nil) (pss_cons (ps_if (PW.pt (pw_or (pt_cmpR op_eq (pv 1) (pe_callB call_len_str (by rfl) B.len PySem.boot_len (pa_cons (pv 0) pa_nil)) (nomark _)) (pw_or1 (pt_cmpR op_ne (pe_ix ix_str (pv 0) (pv 1) (fun _ _ => rfl)) pe_str (nomark _))))) (pss_one (ps_ret (pe_tup (pa_cons (pe_tup (pa_cons (pe_slice sl_str (pv 0) (po_some (pv 3)) (po_some (pv 1))) (pa_cons pe_non (pa_cons pe_non pa_nil)))) (pa_cons (pv 1) pa_nil))))) pss_nil) (pss_cons (ps_set (i := 4) scLRead.nd rfl (.inl rfl) (pe_call ih hr (by rfl) D0.g D0.F.kp D0.b .nil pass0 (pa_cons (pv 0) (pa_cons (pe_op op_add (pv 1) pe_int) (pa_cons pe_bl pa_nil))))) (pss_cons (ps_if (pt_cmpR (op_eqAn hu1) (pe_ix ix_tup (pv 4) pe_int (fun _ _ => rfl)) pe_str (nomark _)) (pss_one (ps_ret (pv 4))) pss_nil) (pss_cons (ps_set (i := 1) scLRead.nd rfl (.inl rfl) (pe_ix ix_tup (pv 4) pe_int (fun _ _ => rfl))) (pss_cons (ps_if (PW.pt (pw_or (pt_cmpR op_eq (pv 1) (pe_callB call_len_str (by rfl) B.len PySem.boot_len (pa_cons (pv 0) pa_nil)) (nomark _)) (pw_or1 (pt_cmpR op_ne (pe_ix ix_str (pv 0) (pv 1) (fun _ _ => rfl)) pe_str (nomark _))))) (pss_one (ps_ret (pe_tup (pa_cons pe_str (pa_cons (pv 1) pa_nil))))) pss_nil) (pss_cons (ps_set (i := 5) scLRead.nd rfl (.inl rfl) (pe_call ih hr (by rfl) D0.g D0.F.kp D0.b .nil pass0 (pa_cons (pv 0) (pa_cons (pe_op op_add (pv 1) pe_int) (pa_cons (pe_cmpR op_isN (pe_ix ix_tup (pv 4) pe_int (fun _ _ => rfl)) pe_non (nomark _)) pa_nil))))) (pss_cons (ps_if (pt_cmpR (op_eqAn hu1) (pe_ix ix_tup (pv 5) pe_int (fun _ _ => rfl)) pe_str (nomark _)) (pss_one (ps_ret (pv 5))) pss_nil) (pss_cons (ps_set (i := 1) scLRead.nd rfl (.inl rfl) (pe_ix ix_tup (pv 5) pe_int (fun _ _ => rfl))) (pss_cons (ps_if (PW.pt (pw_or (pt_cmpR op_eq (pv 1) (pe_callB call_len_str (by rfl) B.len PySem.boot_len (pa_cons (pv 0) pa_nil)) (nomark _)) (pw_or1 (pt_cmpR op_ne (pe_ix ix_str (pv 0) (pv 1) (fun _ _ => rfl)) pe_str (nomark _))))) (pss_one (ps_ret (pe_tup (pa_cons pe_str (pa_cons (pv 1) pa_nil))))) pss_nil) (pss_one (ps_ret (pe_tup (pa_cons (pe_tup (pa_cons (pe_slice sl_str (pv 0) (po_some (pv 3)) (po_some (pe_bmS PySem.F.plainAttrs_str PySem.F.slot_str_index PySem.F.type_str_index (mt_indexFromX rfl LamX.takes0) (pv 0) (pa_cons pe_str (pa_cons (pv 3) pa_nil))))) (pa_cons (pe_ix ix_tup (pv 4) pe_int (fun _ _ => rfl)) (pa_cons (pe_ix ix_tup (pv 5) pe_int (fun _ _ => rfl)) pa_nil)))) (pa_cons (pe_op op_add (pv 1) pe_int) pa_nil))))))))))))))), ?_⟩
        intro c hci hc45
        have hR : rdM s (n + 1) i nd = if (tagAt s i).isEmpty = true then .bad i
            else if s[i + (tagAt s i).length]? = some 40 then
              match rdM s n (i + (tagAt s i).length + 1) false with
              | .bad p => .bad p
              | .good l p =>
                if s[p]? = some 44 then
                  match rdM s n (p + 1) (!l.full) with
                  | .bad q => .bad q
                  | .good r q => if s[q]? = some 41 then .good (.nd (st (tagAt s i)) l r) (q + 1) else .bad q
                else .bad p
            else .good (.nd (st (tagAt s i)) .nil .nil) (i + (tagAt s i).length) := by
          conv => lhs; unfold rdM
          simp only [hci, if_neg hc45]
          all_goals rfl
        rw [hR] at k
        clear hR
        have wrong : ∀ (H1 : Hp) (j : Nat), Kp [] H H1 → (∀ (q : Addr) (H' : Hp), RdAt H' q (.bad j) → Kp [] H H' → Q (.ref q) H') → ∀ q, H1 q = none → Q (.ref q) (upd H1 q (.tup [.str "wrong", .int (j : Nat)])) := fun H1 j k1 kk q nq => kk q _ upd_same (k1.trans (.new nq))
        -- is the sign at j another one?
        have sign : ∀ (j d : Nat), j ≤ s.length → s[j]? = some d ∨ (j = s.length ∧ ¬ s[j]? = some d) ∨ (j < s.length ∧ ∃ c, s[j]? = some c ∧ ¬ c = d) := by
          intro j d hj
          by_cases h : s[j]? = some d
          · exact .inl h
          · by_cases h2 : j = s.length
            · exact .inr (.inl ⟨h2, h⟩)
            · have h3 : j < s.length := by omega
              exact .inr (.inr ⟨h3, s[j], List.getElem?_eq_getElem h3, fun e => h (by rw [List.getElem?_eq_getElem h3, e])⟩)
        have eqL : ∀ j : Nat, j = s.length → decide (V.int (j : Nat) = V.int ((st s).length : Nat)) = true := fun j h => decide_eq_true (by rw [el, h])
        have neL : ∀ j : Nat, j < s.length → ¬ decide (V.int (j : Nat) = V.int ((st s).length : Nat)) = true := fun j h q => by
          have := V.int.inj (of_decide_eq_true q)
          rw [el] at this
          omega
        refine ⟨_, rfl, _, rfl, rfl, _, rfl, ite2 (fun q => ?_) (fun q => ?_)⟩
        · have e0 : (tagAt s i).length = 0 := by
            have := V.int.inj (of_decide_eq_true q)
            omega
          have e1 : (tagAt s i).isEmpty = true := List.isEmpty_iff.mpr (List.length_eq_zero_iff.mp e0)
          rw [if_pos e1] at k
          have e2 : i + (tagAt s i).length = i := by omega
          rw [e2]
          exact ⟨_, rfl, by show 2 ≤ sizeLine; decide, wrong H i .refl k⟩
        have hpos : 1 ≤ (tagAt s i).length := by
          cases h : (tagAt s i).length with
          | zero => exact absurd (decide_eq_true (by rw [h]; rfl)) q
          | succ _ => exact Nat.succ_le_succ (Nat.zero_le _)
        have e1 : ¬ (tagAt s i).isEmpty = true := fun h => by
          rw [List.isEmpty_iff.mp h] at hpos
          cases hpos
        rw [if_neg e1] at k
        have cut := cut_tag tf
        have leaf : (∀ (q : Addr) (H' : Hp), RdAt H' q (.good (.nd (st (tagAt s i)) .nil .nil) (i + (tagAt s i).length)) → Kp [] H H' → Q (.ref q) H') → ∀ q1, H q1 = none → ∀ q2, (upd H q1 (.tup [.str (cutS (st s) (some (i : Int)) (some ((i + (tagAt s i).length : Nat) : Int))), .non, .non])) q2 = none → Q (.ref q2) (upd (upd H q1 (.tup [.str (cutS (st s) (some (i : Int)) (some ((i + (tagAt s i).length : Nat) : Int))), .non, .non])) q2 (.tup [.ref q1, .int ((i + (tagAt s i).length : Nat) : Int)])) := by
          intro kk q1 n1 q2 n2
          have k1 : Kp [] H (upd H q1 (.tup [.str (cutS (st s) (some (i : Int)) (some ((i + (tagAt s i).length : Nat) : Int))), .non, .non])) := .new n1
          refine kk q2 _ ⟨.ref q1, upd_same, .nd ((Kp.new (ms := []) n2).tup _ _ (cut ▸ upd_same)) .nil .nil⟩ (k1.trans (.new n2))
        rcases sign (i + (tagAt s i).length) 40 tf with h40 | ⟨hE, h40⟩ | ⟨hL, c', hc', hne⟩
        · rw [if_pos h40] at k
          have hE : i + (tagAt s i).length < s.length := (List.getElem?_eq_some_iff.mp h40).1
          have same : ∀ (d : Nat) (z : Str), z = st [d] → ¬ (!decide (V.str (Str.mk #[d]) = V.str z)) = true := fun d z h q => by
            rw [decide_eq_true (show V.str (Str.mk #[d]) = V.str z by rw [h]; rfl)] at q
            cases q
          have other : ∀ (c d : Nat) (z : Str), z = st [d] → ¬ c = d → ¬ ¬ (!decide (V.str (Str.mk #[c]) = V.str z)) = true := fun c d z h n q => by
            rw [decide_eq_false (fun e => n (sgn c d (h ▸ e)))] at q
            exact q rfl
          have notW : ∀ {Hx : Hp} {v : V} {t : Tr} {P : Prop} {R : Str → Prop}, TreeAt Hx v t → P → (v = .non ∧ P) ∨ (∃ a xs, v = .ref a ∧ Hx a = some (.tup xs) ∧ P) ∨ (∃ g, v = .str g ∧ R g) := fun T q => by
            cases T with
            | nil => exact .inl ⟨rfl, q⟩
            | nd e _ _ => exact .inr (.inl ⟨_, _, rfl, e, q⟩)
          have isW : ((Str.ofString "wrong") == (Str.ofString "wrong")) = true := by decide +kernel
          have c1 := count_hit h40
          have c2 := count_drop (s := s) (show i ≤ i + (tagAt s i).length by omega)
          have idx : Txt.indexFrom (st s) "(" (i : Int) = some (i + (tagAt s i).length) := by
            rw [s_open]
            refine index_one s 40 (by omega) h40 fun j h1 h2 h3 => ?_
            obtain ⟨_, c', hc', hca⟩ := tag_in (s := s) (i := i) (k := j - i) (by omega)
            rw [show i + (j - i) = j by omega, h3] at hc'
            cases hc'
            exact absurd hca (by decide +kernel)
          refine ⟨_, rfl, _, rfl, _, rfl, hgs, rfl, _, rfl, ite2 (fun q => absurd q (neL _ hE)) (fun _ => ?_)⟩
          refine ⟨_, rfl, _, rfl, st s, _, 40, rfl, rfl, hgs, atI_nat h40, rfl, _, rfl, ite2 (fun q => absurd q (same 40 _ s_open)) (fun _ => ?_)⟩
          refine ⟨_, rfl, _, rfl, _, _, rfl, rfl, s, i + (tagAt s i).length + 1, false, rfl, hE, hl, by omega, fun q1 H1 r1 k1 => ?_⟩
          generalize eL : rdM s n (i + (tagAt s i).length + 1) false = RL at r1 k
          cases RL with
          | bad p =>
            exact ⟨_, rfl, q1, _, _, _, rfl, rfl, sqt_of r1, atI_nat (j := 0) rfl, _, rfl, .inr (.inr ⟨_, rfl, _, rfl, ite2 (fun _ => ⟨_, rfl, k q1 H1 r1 k1⟩) (fun q => absurd isW q)⟩)⟩
          | good l p =>
            obtain ⟨v, r1, T⟩ := r1
            have hp := rdM_le s _ _ _ _ _ eL
            have hg := rdM_gt s _ _ _ _ _ eL
            refine ⟨_, rfl, q1, _, _, v, rfl, rfl, sqt_of r1, atI_nat (j := 0) rfl, _, rfl, notW T ⟨_, rfl, iteF ?_⟩⟩
            refine ⟨_, rfl, q1, _, _, _, rfl, rfl, sqt_of r1, atI_nat (j := 1) rfl, ?_⟩
            simp only at k
            rcases sign p 44 hp with h44 | ⟨hE2, h44⟩ | ⟨hL2, c', hc', hne⟩
            · rw [if_pos h44] at k
              have hpl : p < s.length := (List.getElem?_eq_some_iff.mp h44).1
              refine ⟨_, rfl, _, rfl, _, rfl, hgs, rfl, _, rfl, ite2 (fun q => absurd q (neL _ hpl)) (fun _ => ?_)⟩
              refine ⟨_, rfl, _, rfl, st s, _, 44, rfl, rfl, hgs, atI_nat h44, rfl, _, rfl, ite2 (fun q => absurd q (same 44 _ s_comma)) (fun _ => ?_)⟩
              have c3 := count_drop (s := s) (show i + (tagAt s i).length + 1 ≤ p + 1 by omega)
              refine ⟨_, rfl, _, rfl, _, _, rfl, rfl, _, rfl, q1, _, _, v, rfl, rfl, sqt_of r1, atI_nat (j := 0) rfl, rfl, s, p + 1, decide (v = .non), rfl, hpl, hl, by omega, fun q2 H2 r2 k2 => ?_⟩
              rw [T.non] at r2
              have k12 := k1.trans k2
              have r1' := k2.tup _ _ r1
              have T' := T.kp k2
              generalize eR : rdM s n (p + 1) (!l.full) = RR at r2 k
              cases RR with
              | bad p2 =>
                exact ⟨_, rfl, q2, _, _, _, rfl, rfl, sqt_of r2, atI_nat (j := 0) rfl, _, rfl, .inr (.inr ⟨_, rfl, _, rfl, ite2 (fun _ => ⟨_, rfl, k q2 H2 r2 k12⟩) (fun q => absurd isW q)⟩)⟩
              | good r p2 =>
                obtain ⟨v2, r2, T2⟩ := r2
                have hp2 := rdM_le s _ _ _ _ _ eR
                refine ⟨_, rfl, q2, _, _, v2, rfl, rfl, sqt_of r2, atI_nat (j := 0) rfl, _, rfl, notW T2 ⟨_, rfl, iteF ?_⟩⟩
                refine ⟨_, rfl, q2, _, _, _, rfl, rfl, sqt_of r2, atI_nat (j := 1) rfl, ?_⟩
                simp only at k
                rcases sign p2 41 hp2 with h41 | ⟨hE3, h41⟩ | ⟨hL3, c'', hc'', hne2⟩
                · rw [if_pos h41] at k
                  have hpl2 : p2 < s.length := (List.getElem?_eq_some_iff.mp h41).1
                  refine ⟨_, rfl, _, rfl, _, rfl, hgs, rfl, _, rfl, ite2 (fun q => absurd q (neL _ hpl2)) (fun _ => ?_)⟩
                  refine ⟨_, rfl, _, rfl, st s, _, 41, rfl, rfl, hgs, atI_nat h41, rfl, _, rfl, ite2 (fun q => absurd q (same 41 _ s_close)) (fun _ => ?_)⟩
                  refine ⟨_, rfl, _, rfl, _, rfl, _, rfl, rfl, _, rfl, st s, _, _, rfl, rfl, fun kk hk => ?_, fun hk => ?_⟩
                  · rw [idx] at hk
                    cases hk
                    refine ⟨_, rfl, st s, rfl, hgs, _, rfl, q1, _, _, v, rfl, rfl, sqt_of r1', atI_nat (j := 0) rfl, _, rfl, q2, _, _, v2, rfl, rfl, sqt_of r2, atI_nat (j := 0) rfl, by show 3 ≤ sizeLine; decide, fun q3 n3 => ?_⟩
                    rw [cut]
                    have k3 : Kp [] H2 (upd H2 q3 (.tup [.str (st (tagAt s i)), v, v2])) := .new n3
                    refine ⟨_, rfl, _, _, rfl, rfl, by show 2 ≤ sizeLine; decide, fun q4 n4 => ?_⟩
                    exact k q4 _ ⟨.ref q3, upd_same, (TreeAt.nd upd_same (T'.kp k3) (T2.kp k3)).kp (Kp.new (ms := []) n4)⟩ (k12.trans (k3.trans (.new n4)))
                  · rw [idx] at hk
                    cases hk
                · rw [if_neg h41] at k
                  refine ⟨_, rfl, _, rfl, _, rfl, hgs, rfl, _, rfl, ite2 (fun _ => iteT ?_) (fun q => absurd (eqL _ hE3) q)⟩
                  exact ⟨_, rfl, by show 2 ≤ sizeLine; decide, wrong H2 p2 k12 k⟩
                · rw [if_neg (fun h => hne2 (Option.some.inj (hc''.symm.trans h)))] at k
                  refine ⟨_, rfl, _, rfl, _, rfl, hgs, rfl, _, rfl, ite2 (fun q => absurd q (neL _ hL3)) (fun _ => ?_)⟩
                  refine ⟨_, rfl, _, rfl, st s, _, c'', rfl, rfl, hgs, atI_nat hc'', rfl, _, rfl, ite2 (fun _ => ?_) (fun q => absurd q (other _ 41 _ s_close hne2))⟩
                  exact ⟨_, rfl, by show 2 ≤ sizeLine; decide, wrong H2 p2 k12 k⟩
            · rw [if_neg h44] at k
              refine ⟨_, rfl, _, rfl, _, rfl, hgs, rfl, _, rfl, ite2 (fun _ => iteT ?_) (fun q => absurd (eqL _ hE2) q)⟩
              exact ⟨_, rfl, by show 2 ≤ sizeLine; decide, wrong H1 p k1 k⟩
            · rw [if_neg (fun h => hne (Option.some.inj (hc'.symm.trans h)))] at k
              refine ⟨_, rfl, _, rfl, _, rfl, hgs, rfl, _, rfl, ite2 (fun q => absurd q (neL _ hL2)) (fun _ => ?_)⟩
              refine ⟨_, rfl, _, rfl, st s, _, c', rfl, rfl, hgs, atI_nat hc', rfl, _, rfl, ite2 (fun _ => ?_) (fun q => absurd q (other _ 44 _ s_comma hne))⟩
              exact ⟨_, rfl, by show 2 ≤ sizeLine; decide, wrong H1 p k1 k⟩
        · rw [if_neg h40] at k
          refine ⟨_, rfl, _, rfl, _, rfl, hgs, rfl, _, rfl, ite2 (fun _ => iteT ?_) (fun q => absurd (eqL _ hE) q)⟩
          exact ⟨_, rfl, _, rfl, _, rfl, _, rfl, _, rfl, st s, rfl, hgs, by show 3 ≤ sizeLine; decide, fun q1 n1 => ⟨_, rfl, by show 2 ≤ sizeLine; decide, fun q2 n2 => leaf k q1 n1 q2 n2⟩⟩
        · rw [if_neg (fun h => hne (Option.some.inj (hc'.symm.trans h)))] at k
          refine ⟨_, rfl, _, rfl, _, rfl, hgs, rfl, _, rfl, ite2 (fun q => absurd q (neL _ hL)) (fun _ => ?_)⟩
          refine ⟨_, rfl, _, rfl, st s, _, c', rfl, rfl, hgs, atI_nat hc', rfl, _, rfl, ite2 (fun _ => ?_) (fun q => absurd ?_ q)⟩
          · exact ⟨_, rfl, _, rfl, _, rfl, _, rfl, _, rfl, st s, rfl, hgs, by show 3 ≤ sizeLine; decide, fun q1 n1 => ⟨_, rfl, by show 2 ≤ sizeLine; decide, fun q2 n2 => leaf k q1 n1 q2 n2⟩⟩
          · rw [decide_eq_false (fun e => hne (sgn c' 40 (s_open ▸ e)))]
            rfl
      refine ⟨_, (pss_cons (ps_if (pt_cmpR op_eq (pv 1) (pe_callB call_len_str (by rfl) B.len PySem.boot_len (pa_cons (pv 0) pa_nil)) (nomark _)) (pss_one (ps_ret (pe_tup (pa_cons pe_str (pa_cons (pv 1) pa_nil))))) pss_nil) (pss_cons (ps_if (pt_cmpR op_eq (pe_ix ix_str (pv 0) (pv 1) (fun _ _ => rfl)) pe_str (nomark _)) (pss_one (ps_ret (pe_ifExp (pt_val (pv 2)) (pe_tup (pa_cons pe_str (pa_cons (pv 1) pa_nil))) (pe_tup (pa_cons pe_non (pa_cons (pe_op op_add (pv 1) pe_int) pa_nil)))))) pss_nil) (pss_cons (ps_set (i := 3) scLRead.nd rfl (.inl rfl) (pv 1)) (pss_cons (ps_while PassesOwn.never (PW.pt (pw_and (pt_cmpR op_lt (pv 1) (pe_callB call_len_str (by rfl) B.len PySem.boot_len (pa_cons (pv 0) pa_nil)) (nomark _)) (pw_and (pt_cmpR op_lt (pv 1) (pe_op op_add (pv 3) pe_int) (nomark _)) (pw_and1 (pt_cmpR op_in_sign (pe_ix ix_str (pv 0) (pv 1) (fun _ _ => rfl)) pe_str (by rfl)))))) (pss_one (ps_set (i := 1) scLRead.nd rfl (.inl rfl) (pe_op op_add (pv 1) pe_int)))) dt)))), ?_⟩
      refine ⟨_, rfl, _, rfl, _, rfl, hgs, rfl, _, rfl, ite2 (fun q => ?_) (fun q => ?_)⟩
      · have e : (i : Int) = ((st s).length : Int) := V.int.inj (of_decide_eq_true q)
        have e2 : s[i]? = none := List.getElem?_eq_none (by rw [← el]; omega)
        refine ⟨_, rfl, by show 2 ≤ sizeLine; decide, fun q nq => k q _ ?_ (.new nq)⟩
        have hR : rdM s (n + 1) i nd = .bad i := by simp only [rdM, e2]
        rw [hR]
        exact upd_same
      · have hil : i < s.length := by
          have : ¬ (i : Int) = ((st s).length : Int) := fun e => q (decide_eq_true (by rw [e]))
          rw [el] at this
          omega
        have hci : s[i]? = some s[i] := List.getElem?_eq_getElem hil
        generalize s[i] = c at hci
        refine ⟨_, rfl, _, rfl, st s, _, c, rfl, rfl, hgs, atI_nat hci, rfl, _, rfl, ite2 (fun q2 => ?_) (fun q2 => ?_)⟩
        · have e45 : c = 45 := sgn c 45 (s_minus ▸ of_decide_eq_true q2)
          have hR : rdM s (n + 1) i nd = if nd = true then .bad i else .good .nil (i + 1) := by simp only [rdM, hci, if_pos e45]
          rw [hR] at k
          refine ⟨_, rfl, nd, rfl, ?_⟩
          cases nd with
          | true => exact iteT ⟨_, rfl, by show 2 ≤ sizeLine; decide, fun q nq => k q _ upd_same (.new nq)⟩
          | false => exact iteF ⟨_, rfl, _, _, rfl, rfl, by show 2 ≤ sizeLine; decide, fun q nq => k q _ ⟨.non, upd_same, .nil⟩ (.new nq)⟩
        · have n45 : ¬ c = 45 := fun e => q2 (decide_eq_true (by rw [e, s_minus]; rfl))
          refine ⟨_, rfl, ?_⟩
          refine ⟨fun m σ H' => ∃ k', k' ≤ (tagAt s i).length ∧ m = (tagAt s i).length - k' ∧ σ = [some (.str (st s)), some (.int ((i + k' : Nat) : Int)), some (.bl nd), some (.int (i : Nat)), none, none] ∧ H' = H,
            ⟨_, 0, Nat.zero_le _, rfl, rfl, rfl⟩, fun m σ H' hw => ?_⟩
          obtain ⟨k', hk, rfl, rfl, rfl⟩ := hw
          by_cases hlt : k' < (tagAt s i).length
          · obtain ⟨k8, c', hc', hca⟩ := tag_in hlt
            have hl' : i + k' < s.length := (List.getElem?_eq_some_iff.mp hc').1
            refine ⟨_, rfl, _, rfl, _, rfl, hgs, _, _, rfl, rfl, _, rfl, ite2 (fun _ => ?_) (fun q3 => absurd (decide_eq_true (by rw [el]; omega)) q3)⟩
            refine ⟨_, rfl, _, rfl, _, _, rfl, rfl, _, _, rfl, rfl, _, rfl, ite2 (fun _ => ?_) (fun q3 => absurd (decide_eq_true (by omega)) q3)⟩
            refine ⟨_, rfl, _, rfl, st s, _, c', rfl, rfl, hgs, atI_nat hc', c', _, rfl, rfl, _, rfl, ?_⟩
            rw [abc_is, decide_eq_true hca]
            refine iteT ⟨fun σ' H'' => ∃ m', m' < (tagAt s i).length - k' ∧ ∃ k2, k2 ≤ (tagAt s i).length ∧ m' = (tagAt s i).length - k2 ∧ σ' = [some (.str (st s)), some (.int ((i + k2 : Nat) : Int)), some (.bl nd), some (.int (i : Nat)), none, none] ∧ H'' = H', fun _ _ h => h, ?_⟩
            refine ⟨_, rfl, _, _, rfl, rfl, (tagAt s i).length - (k' + 1), by omega, k' + 1, hlt, rfl, ?_, rfl⟩
            rfl
          · have ek : k' = (tagAt s i).length := by omega
            subst ek
            refine ⟨_, rfl, _, rfl, _, rfl, hgs, _, _, rfl, rfl, _, rfl, ite2 (fun q3 => ?_) (fun _ => iteF (rt c hci n45))⟩
            refine ⟨_, rfl, _, rfl, _, _, rfl, rfl, _, _, rfl, rfl, _, rfl, ite2 (fun q4 => ?_) (fun _ => iteF (rt c hci n45))⟩
            have h5 : i + (tagAt s i).length < s.length := by
              have := of_decide_eq_true q3
              rw [el] at this
              omega
            have h6 : (tagAt s i).length < 8 := by
              have := of_decide_eq_true q4
              omega
            have hce : s[i + (tagAt s i).length]? = some s[i + (tagAt s i).length] := List.getElem?_eq_getElem h5
            have hna := tag_end h6 hce
            refine ⟨_, rfl, _, rfl, st s, _, _, rfl, rfl, hgs, atI_nat hce, _, _, rfl, rfl, _, rfl, ?_⟩
            rw [abc_is, decide_eq_false hna]
            exact iteF (rt c hci n45)
end
end Ey
set_option maxHeartbeats 4000000
namespace Ey
open PySem PySem.Spec L2
abbrev sLOf : Stmt := topS 29
/-- the whole text read; nodes nested less than n deep -/
def ofM (s : List Nat) (n : Nat) : Rd := match rdM s n 0 false with
  | .bad p => .bad p
  | .good t p => if p = s.length then .good t p else .bad p
def OfAt (H : Hp) (q : Addr) : Rd → Prop
  | .bad p => H q = some (.tup [.str "wrong", .int (p : Nat)])
  | .good t _ => ∃ v, H q = some (.tup [.str "tree", v]) ∧ TreeAt H v t
section
variable {Pr : Program} {w : World} {K : PySem.W.Frag} {mg : Str → Option Value} {base : Heap} {f0 f1 : Addr} {d0 d1 : FuncData}
theorem scLOf : FnScope ["_law_text", "_law_near"] ["_law_text"] (defScope sLOf) := ⟨rfl, rfl, rfl, by decide +kernel, rfl, by decide +kernel, by decide +kernel⟩
def spOf (n : Nat) : Sp := fun vs H Q _ => ∃ (s : List Nat), vs = [.str (st s)] ∧ s.length ≤ 100000 ∧ s.count 40 < n ∧
  ∀ (q : Addr) (H' : Hp), OfAt H' q (ofM s n) → Kp [] H H' → Q (.ref q) H'
theorem ok_lof (n : Nat) (D0 : Df K mg "_law_read_tree" sLRead ["_law_text", "_law_at", "_law_is_node"] f0 d0) (F : Fun K "_law_tree_of" "_law_tree_of" sLOf f1 d1) (B : BI mg) : FnOk Pr w K mg base CX0 (n + 2) f1 d1 ["_law_text"] (spOf n) := by
  refine F.ok scLOf (fun vs H Q E h => ?_) (fun cdv Ar outer s0 H vs Q E hr h => ?_)
  · obtain ⟨s, rfl, _⟩ := h
    rfl
  · obtain ⟨s, rfl, hl, hc, k⟩ := h
    have hu1 : (cxOf CX0 Pr w K mg base ["_law_text", "_law_near"] "_law_tree_of" (defScope sLOf) f1 cdv Ar outer s0 H E).nox.A.units < cLine := Nat.lt_of_le_of_lt (Nat.le_add_right _ 64) hr.units
    refine ⟨_, pss_cons (ps_set (i := 1) scLOf.nd rfl (.inl rfl) (pe_call (ok_lread D0 B n) hr (by rfl) D0.g D0.F.kp D0.b .nil pass0 (pa_cons (pv 0) (pa_cons pe_int (pa_cons pe_bl pa_nil)))))
      (pss_cons (ps_if (pt_cmpR (op_eqAn hu1) (pe_ix ix_tup (pv 1) pe_int (fun _ _ => rfl)) pe_str (nomark _)) (pss_one (ps_ret (pv 1))) pss_nil)
      (pss_one (ps_ret (pe_ifExp (pt_cmpR op_eq (pe_ix ix_tup (pv 1) pe_int (fun _ _ => rfl)) (pe_callB call_len_str (by rfl) B.len PySem.boot_len (pa_cons (pv 0) pa_nil)) (nomark _))
        (pe_tup (pa_cons pe_str (pa_cons (pe_ix ix_tup (pv 1) pe_int (fun _ _ => rfl)) pa_nil))) (pe_tup (pa_cons pe_str (pa_cons (pe_ix ix_tup (pv 1) pe_int (fun _ _ => rfl)) pa_nil))))))), ?_⟩
    have el : (st s).length = s.length := st_len s
    have hgs : (st s).length ≤ sizeLine := by
      rw [el]
      exact Nat.le_trans hl (by decide)
    have isW : ((Str.ofString "wrong") == (Str.ofString "wrong")) = true := by decide +kernel
    refine ⟨_, rfl, s, 0, false, rfl, Nat.zero_le _, hl, hc, fun q1 H1 r1 k1 => ?_⟩
    have hO : ofM s n = match rdM s n 0 false with
      | .bad p => .bad p
      | .good t p => if p = s.length then .good t p else .bad p := rfl
    rw [hO] at k
    generalize rdM s n 0 false = R at r1 k
    cases R with
    | bad p => exact ⟨_, rfl, q1, _, _, _, rfl, rfl, sqt_of r1, atI_nat (j := 0) rfl, _, rfl, .inr (.inr ⟨_, rfl, _, rfl, ite2 (fun _ => ⟨_, rfl, k q1 H1 r1 k1⟩) (fun q => absurd isW q)⟩)⟩
    | good t p =>
      obtain ⟨v, r1, T⟩ := r1
      have notW : ∀ {P : Prop} {R : Str → Prop}, P → (v = .non ∧ P) ∨ (∃ a xs, v = .ref a ∧ H1 a = some (.tup xs) ∧ P) ∨ (∃ g, v = .str g ∧ R g) := fun q => by
        cases T with
        | nil => exact .inl ⟨rfl, q⟩
        | nd e _ _ => exact .inr (.inl ⟨_, _, rfl, e, q⟩)
      refine ⟨_, rfl, q1, _, _, v, rfl, rfl, sqt_of r1, atI_nat (j := 0) rfl, _, rfl, notW ⟨_, rfl, iteF ?_⟩⟩
      refine ⟨_, rfl, q1, _, _, _, rfl, rfl, sqt_of r1, atI_nat (j := 1) rfl, _, rfl, _, rfl, hgs, rfl, _, rfl, ite2 (fun q => ?_) (fun q => ?_)⟩
      · have e : p = s.length := by
          have := V.int.inj (of_decide_eq_true q)
          rw [el] at this
          omega
        simp only [if_pos e] at k
        refine ⟨_, rfl, q1, _, _, v, rfl, rfl, sqt_of r1, atI_nat (j := 0) rfl, by show 2 ≤ sizeLine; decide, fun q2 n2 => ?_⟩
        exact k q2 _ ⟨v, upd_same, T.kp (Kp.new (ms := []) n2)⟩ (k1.trans (.new n2))
      · have e : ¬ p = s.length := fun e => q (decide_eq_true (by rw [el, e]))
        simp only [if_neg e] at k
        refine ⟨_, rfl, q1, _, _, _, rfl, rfl, sqt_of r1, atI_nat (j := 1) rfl, by show 2 ≤ sizeLine; decide, fun q2 n2 => ?_⟩
        exact k q2 _ upd_same (k1.trans (.new n2))
end
end Ey
set_option maxHeartbeats 4000000
namespace Ey
open PySem PySem.Spec L2
/-! ### the reader's stack -/
/-- an open node: its tag, its left part once it is read -/
abbrev Op := List Nat × Option Tr
def closeR (s : List Nat) (g : List Nat) (l : Tr) (f : Rd → Rd) : Rd → Rd
  | .bad q => .bad q
  | .good r q => if s[q]? = some 41 then f (.good (.nd (st g) l r) (q + 1)) else .bad q
/-- what becomes of an answer with these nodes open, the last one first -/
def kont (s : List Nat) (n : Nat) : List Op → Rd → Rd
  | [], r => r
  | (g, some l) :: k, r => closeR s g l (kont s n k) r
  | (g, none) :: k, r => match r with
    | .bad p => .bad p
    | .good l p => if s[p]? = some 44 then closeR s g l (kont s n k) (rdM s n (p + 1) (!l.full)) else .bad p
theorem kont_bad (s : List Nat) (n p : Nat) : ∀ k : List Op, kont s n k (.bad p) = .bad p
  | [] => rfl
  | (_, some _) :: _ => rfl
  | (_, none) :: _ => rfl
def ndOf : List Op → Bool
  | (_, some l) :: _ => !l.full
  | _ => false
theorem rdM_fuel (s : List Nat) : ∀ (n m i : Nat) (nd : Bool), (s.drop i).count 40 < n → (s.drop i).count 40 < m → rdM s n i nd = rdM s m i nd
  | 0, m, i, nd, h, _ => absurd h (Nat.not_lt_zero _)
  | n + 1, 0, i, nd, _, h => absurd h (Nat.not_lt_zero _)
  | n + 1, m + 1, i, nd, h1, h2 => by
    unfold rdM
    cases hc : s[i]? with
    | none => rfl
    | some c =>
      dsimp only
      by_cases h45 : c = 45
      · rw [if_pos h45, if_pos h45]
      · rw [if_neg h45, if_neg h45]
        by_cases he : (tagAt s i).isEmpty = true
        · rw [if_pos he, if_pos he]
        · rw [if_neg he, if_neg he]
          by_cases h40 : s[i + (tagAt s i).length]? = some 40
          · rw [if_pos h40, if_pos h40]
            have q1 := count_hit h40
            have q2 := count_drop (s := s) (i := i) (j := i + (tagAt s i).length) (by omega)
            rw [rdM_fuel s n m (i + (tagAt s i).length + 1) false (by omega) (by omega)]
            cases hr : rdM s m (i + (tagAt s i).length + 1) false with
            | bad p => rfl
            | good l p =>
              dsimp only
              have g1 := rdM_gt s m _ _ _ _ hr
              have q3 := count_drop (s := s) (i := i + (tagAt s i).length + 1) (j := p + 1) (by omega)
              rw [rdM_fuel s n m (p + 1) (!l.full) (by omega) (by omega)]
          · rw [if_neg h40, if_neg h40]
/-- enough for any place of s -/
def top (s : List Nat) : Nat := s.count 40 + 1
theorem top_lt (s : List Nat) (i : Nat) : (s.drop i).count 40 < top s := by
  have := count_drop (s := s) (i := 0) (j := i) (Nat.zero_le _)
  rw [List.drop_zero] at this
  exact Nat.lt_succ_of_le this
section
variable {s : List Nat} {i : Nat} {nd : Bool} {k : List Op}
theorem rd_end (h : s[i]? = none) : rdM s (top s) i nd = .bad i := by
  unfold top rdM
  rw [h]
theorem rd_minus (h : s[i]? = some 45) : rdM s (top s) i false = .good .nil (i + 1) := by
  unfold top rdM
  rw [h]
  rfl
theorem tag_none_45 (h : s[i]? = some 45) : (tagAt s i).isEmpty = true := by
  cases e : tagAt s i with
  | nil => rfl
  | cons a r =>
    obtain ⟨_, c, hc, hm⟩ := tag_in (s := s) (i := i) (k := 0) (by rw [e]; exact Nat.succ_pos _)
    rw [Nat.add_zero, h] at hc
    cases hc
    exact absurd hm (by decide)
theorem tag_none_end (h : s[i]? = none) : (tagAt s i).isEmpty = true := by
  cases e : tagAt s i with
  | nil => rfl
  | cons a r =>
    obtain ⟨_, c, hc, hm⟩ := tag_in (s := s) (i := i) (k := 0) (by rw [e]; exact Nat.succ_pos _)
    rw [Nat.add_zero, h] at hc
    cases hc
/-- no tag, and no sign of the empty tree that may stand here -/
theorem rd_none (h : s[i]? = some 45 → nd = true) (he : (tagAt s i).isEmpty = true) : rdM s (top s) i nd = .bad i := by
  cases hc : s[i]? with
  | none => exact rd_end hc
  | some c =>
    unfold top rdM
    rw [hc]
    dsimp only
    by_cases h45 : c = 45
    · rw [if_pos h45, if_pos (h (by rw [hc, h45]))]
    · rw [if_neg h45, if_pos he]
theorem rd_leaf (he : (tagAt s i).isEmpty = false) (h40 : ¬ s[i + (tagAt s i).length]? = some 40) : rdM s (top s) i nd = .good (.nd (st (tagAt s i)) .nil .nil) (i + (tagAt s i).length) := by
  cases hc : s[i]? with
  | none => rw [tag_none_end hc] at he; cases he
  | some c =>
    have h45 : ¬ c = 45 := fun e => by
      rw [e] at hc
      rw [tag_none_45 hc] at he
      cases he
    unfold top rdM
    rw [hc]
    dsimp only
    rw [if_neg h45, he, if_neg Bool.false_ne_true, if_neg h40]
theorem rd_open (he : (tagAt s i).isEmpty = false) (h40 : s[i + (tagAt s i).length]? = some 40) : kont s (top s) k (rdM s (top s) i nd) = kont s (top s) ((tagAt s i, none) :: k) (rdM s (top s) (i + (tagAt s i).length + 1) false) := by
  cases hc : s[i]? with
  | none => rw [tag_none_end hc] at he; cases he
  | some c =>
    have h45 : ¬ c = 45 := fun e => by
      rw [e] at hc
      rw [tag_none_45 hc] at he
      cases he
    have q1 := count_hit h40
    have q2 := top_lt s (i + (tagAt s i).length)
    have e1 : rdM s (s.count 40) (i + (tagAt s i).length + 1) false = rdM s (top s) (i + (tagAt s i).length + 1) false := rdM_fuel s _ _ _ _ (by unfold top at q2; omega) (top_lt s _)
    have e0 : rdM s (top s) i nd = match rdM s (s.count 40) (i + (tagAt s i).length + 1) false with
        | .bad p => .bad p
        | .good l p => if s[p]? = some 44 then
            match rdM s (s.count 40) (p + 1) (!l.full) with
            | .bad q => .bad q
            | .good r q => if s[q]? = some 41 then .good (.nd (st (tagAt s i)) l r) (q + 1) else .bad q
          else .bad p := by
      show rdM s (s.count 40 + 1) i nd = _
      conv => lhs; unfold rdM
      rw [hc]
      dsimp only
      rw [if_neg h45, he, if_neg Bool.false_ne_true, if_pos h40]
      all_goals rfl
    rw [e0, e1]
    cases hr : rdM s (top s) (i + (tagAt s i).length + 1) false with
    | bad p => exact kont_bad _ _ _ _
    | good l p =>
      have g1 := rdM_gt s _ _ _ _ _ hr
      dsimp only
      show _ = (if s[p]? = some 44 then closeR s (tagAt s i) l (kont s (top s) k) (rdM s (top s) (p + 1) (!l.full)) else .bad p)
      by_cases h44 : s[p]? = some 44
      · rw [if_pos h44, if_pos h44]
        have q3 := count_drop (s := s) (i := i + (tagAt s i).length + 1) (j := p + 1) (by omega)
        rw [rdM_fuel s (s.count 40) (top s) (p + 1) (!l.full) (by unfold top at q2; omega) (top_lt s _)]
        cases hr2 : rdM s (top s) (p + 1) (!l.full) with
        | bad q => exact kont_bad _ _ _ _
        | good r q =>
          show kont s (top s) k (if s[q]? = some 41 then .good (.nd (st (tagAt s i)) l r) (q + 1) else .bad q) = (if s[q]? = some 41 then kont s (top s) k (.good (.nd (st (tagAt s i)) l r) (q + 1)) else .bad q)
          by_cases h41 : s[q]? = some 41
          · rw [if_pos h41, if_pos h41]
          · rw [if_neg h41, if_neg h41]
            exact kont_bad _ _ _ _
      · rw [if_neg h44, if_neg h44]
        exact kont_bad _ _ _ _
end
/-- the answer of a whole text, told of the reader's own fuel -/
theorem of_top {s : List Nat} {n : Nat} (h : s.count 40 < n) : ofM s n = match rdM s (top s) 0 false with
    | .bad p => .bad p
    | .good t p => if p = s.length then .good t p else .bad p := by
  have e : rdM s n 0 false = rdM s (top s) 0 false := rdM_fuel s _ _ _ _ (by rw [List.drop_zero]; exact h) (top_lt s 0)
  unfold ofM
  rw [e]
  all_goals rfl
end Ey
set_option maxHeartbeats 4000000
namespace Ey
open PySem PySem.Spec L2
abbrev sBentT : Stmt := topS 31
theorem cut_from (p : List Nat) (n : Nat) : cutS (st p) (some (n : Int)) none = st (p.drop n) := by
  unfold cutS
  rw [HT.sIx_none, HT.sIx_nat, st_list, st_len]
  show st (List.take (p.length - min n p.length) (p.drop (min n p.length))) = _
  congr 1
  by_cases h : n ≤ p.length
  · rw [Nat.min_eq_left h, ← List.length_drop, List.take_length]
  · rw [Nat.min_eq_right (by omega), List.drop_of_length_le (Nat.le_refl _), List.drop_of_length_le (by omega), List.take_nil]
def signL : List Str := ["-", "(", ")", ",", "a", "{", "A", " ", "1", "abcdefghi", "(-,-)", "a(", "\n", "~"]
theorem signL_ok : ∀ g ∈ signL, (g.cps.toList.all fun c => decide (c < 1000)) = true ∧ g.cps.toList.length ≤ 9 ∧ g.cps.toList.count 40 ≤ 1 := by decide +kernel
/-- what is told of a bent text -/
structure BtOk (s s' : List Nat) : Prop where
  low : ∀ c ∈ s', c < 1000
  len : s'.length ≤ s.length + 10
  cnt : s'.count 40 ≤ s.count 40 + 1
section
variable {Pr : Program} {w : World} {K : PySem.W.Frag} {mg : Str → Option Value} {base : Heap} {fD fP fT f1 : Addr} {dD dP dT d1 : FuncData}
abbrev NBt : List Str := ["_law_deck_here", "_law_text", "_law_at", "_law_way", "_law_sign"]
theorem scBentT : FnScope NBt ["_law_deck_here", "_law_text"] (defScope sBentT) := ⟨rfl, rfl, rfl, by decide +kernel, rfl, by decide +kernel, by decide +kernel⟩
def spBentT : Sp := fun vs H Q _ => ∃ (d l : Addr) (s : List Nat), vs = [.ref d, .str (st s)] ∧ DeckAt H d l ∧ (∀ c ∈ s, c < 1000) ∧ s.length ≤ 10000 ∧
  ∀ (s' : List Nat) (H' : Hp), BtOk s s' → DeckAt H' d l → Kp [d, l] H H' → Q (.str (st s')) H'
theorem ok_bentT (Fa : Facts K mg fD fP fT dD dP dT) (F : Fun K "_law_bent_text" "_law_bent_text" sBentT f1 d1) : FnOk Pr w K mg base CX0 3 f1 d1 ["_law_deck_here", "_law_text"] spBentT := by
  have B := Fa.B
  refine F.ok scBentT (fun vs H Q E h => ?_) (fun cdv Ar outer s0 H vs Q E hr h => ?_)
  · obtain ⟨d, l, s, rfl, _⟩ := h
    rfl
  · obtain ⟨d, l, s, rfl, D0, low, hl, k⟩ := h
    have hr1 := hr.mono (show 1 ≤ 2 by decide)
    refine ⟨_, pss_cons (ps_par (i := 2) (j := 3) (by rfl) scBentT.nd rfl rfl (by decide) rfl rfl
        (pa_cons (pe_call (ok_draw Fa.draw.F B) hr1 (by rfl) Fa.draw.g Fa.draw.F.kp Fa.draw.b .nil pass0 (pa_cons (pv 0) (pa_cons (pe_op op_add (pe_callB call_len_str (by rfl) B.len PySem.boot_len (pa_cons (pv 1) pa_nil)) pe_int) pa_nil)))
        (pa_cons (pe_call (ok_draw Fa.draw.F B) hr1 (by rfl) Fa.draw.g Fa.draw.F.kp Fa.draw.b .nil pass0 (pa_cons (pv 0) (pa_cons pe_int pa_nil))) pa_nil)) (by rfl))
      (pss_cons (ps_set (i := 4) scBentT.nd rfl (.inl rfl) (pe_call (ok_pick Fa.pick.F B Fa.draw) hr (by rfl) Fa.pick.g Fa.pick.F.kp Fa.pick.b .nil pass0 (pa_cons (pv 0) (pa_cons (pe_lst
        (pa_cons pe_str (pa_cons pe_str (pa_cons pe_str (pa_cons pe_str (pa_cons pe_str (pa_cons pe_str (pa_cons pe_str (pa_cons pe_str (pa_cons pe_str (pa_cons pe_str (pa_cons pe_str (pa_cons pe_str (pa_cons pe_str (pa_cons pe_str pa_nil))))))))))))))) pa_nil))))
      (pss_cons (ps_if (pt_cmpR op_eq (pv 3) pe_int (nomark _)) (pss_one (ps_ret (pe_op op_add_str (pe_slice sl_str (pv 1) po_none (po_some (pv 2))) (pe_slice sl_str (pv 1) (po_some (pe_op op_add (pv 2) pe_int)) po_none)))) pss_nil)
      (pss_cons (ps_if (pt_cmpR op_eq (pv 3) pe_int (nomark _)) (pss_one (ps_ret (pe_op op_add_str (pe_op op_add_str (pe_slice sl_str (pv 1) po_none (po_some (pv 2))) (pv 4)) (pe_slice sl_str (pv 1) (po_some (pe_op op_add (pv 2) pe_int)) po_none)))) pss_nil)
      (pss_cons (ps_if (pt_cmpR op_eq (pv 3) pe_int (nomark _)) (pss_one (ps_ret (pe_slice sl_str (pv 1) po_none (po_some (pv 2))))) pss_nil)
      (pss_cons (ps_if (pt_cmpR op_eq (pv 3) pe_int (nomark _)) (pss_one (ps_ret (pe_op op_add_str (pe_slice sl_str (pv 1) po_none (po_some (pv 2))) (pe_slice sl_str (pv 1) (po_some (pe_callB (call_max2 rfl) (by rfl) B.max (by decide +kernel) (pa_cons pe_int (pa_cons (pe_op op_sub (pv 2) pe_int) pa_nil)))) po_none)))) pss_nil)
      (pss_one (ps_ret (pe_op op_add_str (pe_op op_add_str (pe_slice sl_str (pv 1) po_none (po_some (pv 2))) (pv 4)) (pe_slice sl_str (pv 1) (po_some (pv 2)) po_none))))))))), ?_⟩
    have el : (st s).length = s.length := st_len s
    have hgs : (st s).length ≤ sizeLine := by
      rw [el]
      exact Nat.le_trans hl (by decide)
    refine ⟨_, rfl, _, rfl, _, rfl, hgs, _, _, rfl, rfl, d, l, _, rfl, D0, by omega, by omega, fun j H1 j0 j1 D1 k1 => ?_⟩
    obtain ⟨i, rfl⟩ : ∃ i : Nat, j = (i : Int) := ⟨j.toNat, by omega⟩
    have hi : i ≤ s.length := by omega
    refine ⟨_, rfl, d, l, 6, rfl, D1, by decide, by decide, fun wy H2 _ _ D2 k2 => ⟨_, _, rfl, ?_⟩⟩
    refine ⟨_, rfl, by show 14 ≤ sizeLine; decide, fun p np => ?_⟩
    obtain ⟨m1, n1, ns, e1, e2, e3⟩ := id D2
    have D3 : DeckAt (upd H2 p (.lst (signL.map V.str))) d l := D2.kp (.new np) (ms := []) List.not_mem_nil List.not_mem_nil
    refine ⟨d, l, p, signL.map V.str, rfl, D3, sql_of upd_same, by simp [signL], by show 14 ≤ 1000000; decide, (ne_of_none e1 np).symm, (ne_of_none e2 np).symm, fun x H4 hx D4 k4 => ?_⟩
    obtain ⟨g, hg, rfl⟩ := List.mem_map.mp hx
    obtain ⟨g1, g2, g3⟩ := signL_ok g hg
    have k04 : Kp [d, l] H H4 := k1.trans (k2.trans ((Kp.new np).trans k4))
    have fin := fun s' (h : BtOk s s') => k s' H4 h D4 k04
    have hsplit : (s.take i).count 40 + (s.drop i).count 40 = s.count 40 := by
      rw [← List.count_append, List.take_append_drop]
    have lowT : ∀ n, ∀ c ∈ s.take n, c < 1000 := fun n c hc => low c (List.mem_of_mem_take hc)
    have lowD : ∀ n, ∀ c ∈ s.drop n, c < 1000 := fun n c hc => low c (List.mem_of_mem_drop hc)
    have lowG : ∀ c ∈ g.cps.toList, c < 1000 := fun c hc => of_decide_eq_true (List.all_eq_true.mp g1 c hc)
    have lt : (s.take i).length = i := by rw [List.length_take]; omega
    have gle : g.length = g.cps.toList.length := by
      rw [Array.length_toList]
      rfl
    have gs : g = st g.cps.toList := (g_st g).symm
    have sz1 : ∀ n, (st (s.take n)).length ≤ 10000 := fun n => by rw [st_len, List.length_take]; omega
    have sz2 : ∀ n, (st (s.drop n)).length ≤ 10000 := fun n => by rw [st_len, List.length_drop]; omega
    have c1 : ∀ n, i ≤ n → (s.drop n).count 40 ≤ (s.drop i).count 40 := fun n h => count_drop h
    refine ⟨_, rfl, rfl, _, rfl, ite2 (fun _ => ?_) (fun _ => ?_)⟩
    · refine ⟨_, rfl, _, rfl, _, rfl, st s, rfl, hgs, ?_⟩
      rw [cut_to]
      refine ⟨_, rfl, _, rfl, _, _, rfl, rfl, ((i + 1 : Nat) : Int), rfl, st s, rfl, hgs, ?_⟩
      rw [cut_from]
      refine ⟨_, _, rfl, rfl, Nat.le_trans (Nat.add_le_add (sz1 _) (sz2 _)) (by decide), ?_⟩
      rw [st_app]
      refine fin _ ⟨fun c hc => (List.mem_append.mp hc).elim (lowT _ c) (lowD _ c), ?_, ?_⟩
      · rw [List.length_append, List.length_drop, lt]
        omega
      · rw [List.count_append]
        have := c1 (i + 1) (by omega)
        omega
    refine ⟨_, rfl, rfl, _, rfl, ite2 (fun _ => ?_) (fun _ => ?_)⟩
    · refine ⟨_, rfl, _, rfl, _, rfl, st s, rfl, hgs, ?_⟩
      rw [cut_to]
      refine ⟨_, rfl, _, _, rfl, rfl, Nat.le_trans (Nat.add_le_add (sz1 _) (show g.length ≤ 9 by omega)) (by decide), ?_⟩
      refine ⟨_, rfl, _, rfl, _, _, rfl, rfl, ((i + 1 : Nat) : Int), rfl, st s, rfl, hgs, ?_⟩
      rw [cut_from, gs, st_app]
      refine ⟨_, _, rfl, rfl, ?_, ?_⟩
      · rw [st_len, st_len, List.length_append, List.length_drop, lt]
        exact Nat.le_trans (show _ ≤ 30000 by omega) (by decide)
      rw [st_app]
      refine fin _ ⟨fun c hc => (List.mem_append.mp hc).elim (fun h => (List.mem_append.mp h).elim (lowT _ c) (lowG c)) (lowD _ c), ?_, ?_⟩
      · rw [List.length_append, List.length_append, List.length_drop, lt]
        omega
      · rw [List.count_append, List.count_append]
        have := c1 (i + 1) (by omega)
        omega
    refine ⟨_, rfl, rfl, _, rfl, ite2 (fun _ => ?_) (fun _ => ?_)⟩
    · refine ⟨_, rfl, _, rfl, _, rfl, st s, rfl, hgs, ?_⟩
      rw [cut_to]
      refine fin _ ⟨lowT _, by rw [lt]; omega, by omega⟩
    refine ⟨_, rfl, rfl, _, rfl, ite2 (fun _ => ?_) (fun _ => ?_)⟩
    · refine ⟨_, rfl, _, rfl, _, rfl, st s, rfl, hgs, ?_⟩
      rw [cut_to]
      refine ⟨_, rfl, _, rfl, _, _, rfl, rfl, 0, (i : Int) - 1, rfl, ((i - 1 : Nat) : Int), ?_, st s, rfl, hgs, ?_⟩
      · by_cases h : (i : Int) - 1 > 0
        · rw [if_pos h, show (i : Int) - 1 = ((i - 1 : Nat) : Int) by omega]
        · rw [if_neg h, show ((i - 1 : Nat) : Int) = 0 by omega]
      rw [cut_from]
      refine ⟨_, _, rfl, rfl, Nat.le_trans (Nat.add_le_add (sz1 _) (sz2 _)) (by decide), ?_⟩
      rw [st_app]
      have c2 : (s.drop (i - 1)).count 40 ≤ (s.drop i).count 40 + 1 := by
        by_cases h0 : i = 0
        · rw [h0]
          exact Nat.le_succ _
        · have e : s.drop (i - 1) = s[i - 1]'(by omega) :: s.drop i := by
            rw [List.drop_eq_getElem_cons (show i - 1 < s.length by omega), show i - 1 + 1 = i by omega]
          rw [e, List.count_cons]
          split <;> omega
      refine fin _ ⟨fun c hc => (List.mem_append.mp hc).elim (lowT _ c) (lowD _ c), ?_, ?_⟩
      · rw [List.length_append, List.length_drop, lt]
        omega
      · rw [List.count_append]
        omega
    · refine ⟨_, rfl, _, rfl, _, rfl, st s, rfl, hgs, ?_⟩
      rw [cut_to]
      refine ⟨_, rfl, _, _, rfl, rfl, Nat.le_trans (Nat.add_le_add (sz1 _) (show g.length ≤ 9 by omega)) (by decide), ?_⟩
      refine ⟨_, rfl, _, rfl, _, rfl, st s, rfl, hgs, ?_⟩
      rw [cut_from, gs, st_app]
      refine ⟨_, _, rfl, rfl, ?_, ?_⟩
      · rw [st_len, st_len, List.length_append, List.length_drop, lt]
        exact Nat.le_trans (show _ ≤ 30000 by omega) (by decide)
      rw [st_app]
      refine fin _ ⟨fun c hc => (List.mem_append.mp hc).elim (fun h => (List.mem_append.mp h).elim (lowT _ c) (lowG c)) (lowD _ c), ?_, ?_⟩
      · rw [List.length_append, List.length_append, List.length_drop, lt]
        omega
      · rw [List.count_append, List.count_append]
        omega
end
end Ey
set_option maxHeartbeats 4000000
namespace Ey
open PySem PySem.Spec L2
abbrev sAny : Stmt := topS 21
/-- what the drawing leans on -/
structure LH (K : PySem.W.Frag) (mg : Str → Option Value) (A : Nat → Addr) (D : Nat → FuncData) : Prop where
  B : BI mg
  draw : Df K mg "_law_draw" sDraw ["_law_deck_here", "_law_many"] (A 19) (D 19)
  pick : Df K mg "_law_pick" sPick ["_law_deck_here", "_law_some"] (A 20) (D 20)
  any : Df K mg "_law_any" sAny ["_law_deck_here", "_law_deep"] (A 21) (D 21)
theorem dep_mem {x : PyData} : ∀ {ds : List PyData}, x ∈ ds → x.depth ≤ PyData.depthAll ds
  | y :: r, hx => by
    show x.depth ≤ max y.depth (PyData.depthAll r)
    rcases List.mem_cons.mp hx with rfl | hx
    · omega
    · have := dep_mem hx
      omega
mutual
def fitJ (B : Nat) : PyData → Bool
  | .none | .bool _ => true
  | .int i => decide (i.natAbs < B)
  | .str x => x.cps.toList.all fun c => decide (c < 1000)
  | .list ds | .tuple ds => fitJAll B ds
  | .dict kvs => fitJKv B kvs
def fitJAll (B : Nat) : List PyData → Bool
  | [] => true
  | x :: r => fitJ B x && fitJAll B r
def fitJKv (B : Nat) : List (PyData × PyData) → Bool
  | [] => true
  | (k, v) :: r => (fitJ B k && fitJ B v) && fitJKv B r
end
mutual
theorem fitJ_le {B C : Nat} (h : B ≤ C) : ∀ d : PyData, fitJ B d = true → fitJ C d = true
  | .none, _ => rfl
  | .bool _, _ => rfl
  | .int i, e => by
    have q : i.natAbs < B := of_decide_eq_true e
    exact decide_eq_true (Nat.lt_of_lt_of_le q h)
  | .str x, e => e
  | .list ds, e => fitJAll_le h ds e
  | .tuple ds, e => fitJAll_le h ds e
  | .dict ds, e => fitJKv_le h ds e
theorem fitJAll_le {B C : Nat} (h : B ≤ C) : ∀ d : List PyData, fitJAll B d = true → fitJAll C d = true
  | [], _ => rfl
  | x :: r, e => by
    have q : (fitJ B x && fitJAll B r) = true := e
    rw [Bool.and_eq_true] at q
    show (fitJ C x && fitJAll C r) = true
    rw [fitJ_le h x q.1, fitJAll_le h r q.2]
    rfl
theorem fitJKv_le {B C : Nat} (h : B ≤ C) : ∀ d : List (PyData × PyData), fitJKv B d = true → fitJKv C d = true
  | [], _ => rfl
  | (k, v) :: r, e => by
    have q : ((fitJ B k && fitJ B v) && fitJKv B r) = true := e
    rw [Bool.and_eq_true, Bool.and_eq_true] at q
    show ((fitJ C k && fitJ C v) && fitJKv C r) = true
    rw [fitJ_le h k q.1.1, fitJ_le h v q.1.2, fitJKv_le h r q.2]
    rfl
end
mutual
theorem fitJ_is : ∀ d : PyData, fitJ (10 ^ 40) d = fit d
  | .none => rfl
  | .bool _ => rfl
  | .int i => rfl
  | .str x => rfl
  | .list ds => fitJAll_is ds
  | .tuple ds => fitJAll_is ds
  | .dict ds => fitJKv_is ds
theorem fitJAll_is : ∀ d : List PyData, fitJAll (10 ^ 40) d = fitAll d
  | [] => rfl
  | x :: r => by
    show (fitJ _ x && fitJAll _ r) = (fit x && fitAll r)
    rw [fitJ_is x, fitJAll_is r]
theorem fitJKv_is : ∀ d : List (PyData × PyData), fitJKv (10 ^ 40) d = fitKv d
  | [] => rfl
  | (k, v) :: r => by
    show ((fitJ _ k && fitJ _ v) && fitJKv _ r) = ((fit k && fit v) && fitKv r)
    rw [fitJ_is k, fitJ_is v, fitJKv_is r]
end
theorem fitJ_mem {B : Nat} {x : PyData} : ∀ {ds : List PyData}, fitJAll B ds = true → x ∈ ds → fitJ B x = true
  | y :: r, h, hx => by
    have h2 : (fitJ B y && fitJAll B r) = true := h
    rw [Bool.and_eq_true] at h2
    rcases List.mem_cons.mp hx with rfl | hx
    · exact h2.1
    · exact fitJ_mem h2.2 hx
theorem fitJ_all {B : Nat} : ∀ {ds : List PyData}, (∀ x ∈ ds, fitJ B x = true) → fitJAll B ds = true
  | [], _ => rfl
  | y :: r, h => by
    show (fitJ B y && fitJAll B r) = true
    rw [h y (by simp), fitJ_all fun x hx => h x (List.mem_cons_of_mem _ hx)]
    rfl
structure GoodJ (B n w : Nat) (x : PyData) : Prop where
  f : fitJ B x = true
  d : x.depth ≤ n
  w : wd x ≤ w
theorem GoodJ.mono {B C n w n' w' : Nat} {x : PyData} (g : GoodJ B n w x) (h0 : B ≤ C) (h1 : n ≤ n') (h2 : w ≤ w') : GoodJ C n' w' x := ⟨fitJ_le h0 x g.f, Nat.le_trans g.d h1, Nat.le_trans g.w h2⟩
theorem GoodJ.good {B n w : Nat} {x : PyData} (g : GoodJ B n w x) (h0 : B ≤ 10 ^ 40) : Good n w x := ⟨fitJ_is x ▸ fitJ_le h0 x g.f, g.d, g.w⟩
inductive GoodJAll (B n w : Nat) : List PyData → Prop
  | nil : GoodJAll B n w []
  | cons {x : PyData} {r : List PyData} : GoodJ B n w x → GoodJAll B n w r → GoodJAll B n w (x :: r)
theorem GoodJAll.facts {B n w : Nat} {ds : List PyData} (h : GoodJAll B n w ds) : fitJAll B ds = true ∧ PyData.depthAll ds ≤ n ∧ wdAll ds ≤ (w + 2) * ds.length := by
  induction h with
  | nil => exact ⟨rfl, Nat.zero_le _, Nat.zero_le _⟩
  | @cons x r g _ ih =>
    obtain ⟨a, b, c⟩ := ih
    refine ⟨?_, ?_, ?_⟩
    · show (fitJ B x && fitJAll B r) = true
      rw [g.f, a]
      rfl
    · show max x.depth (PyData.depthAll r) ≤ n
      have := g.d
      omega
    · show wd x + 2 + wdAll r ≤ (w + 2) * (r.length + 1)
      have := g.w
      rw [Nat.mul_add]
      omega
theorem GoodJAll.snoc {B n w : Nat} {ds : List PyData} {x : PyData} (h : GoodJAll B n w ds) (g : GoodJ B n w x) : GoodJAll B n w (ds ++ [x]) := by
  induction h with
  | nil => exact .cons g .nil
  | cons a _ ih => exact .cons a ih
def wJ : Nat → Nat
  | 0 => 140
  | n + 1 => 3 * wJ n + 150
theorem wJ_ge : ∀ n, 140 ≤ wJ n
  | 0 => Nat.le_refl _
  | n + 1 => by
    have := wJ_ge n
    show 140 ≤ 3 * wJ n + 150
    omega
/-- the deck, and what else is not data -/
structure Frame (ms : List Addr) (d l : Addr) (H : Hp) : Prop where
  dk : DeckAt H d l
  dm : d ∈ ms
  lm : l ∈ ms
  has : Has ms H
theorem Frame.sub {ms : List Addr} {d l : Addr} {H : Hp} (F : Frame ms d l H) : ∀ x ∈ [d, l], x ∈ ms := fun x hx => by
  rcases List.mem_cons.mp hx with rfl | hx
  · exact F.dm
  · rw [List.mem_singleton.mp hx]
    exact F.lm
theorem DeckAt.some_ {d l : Addr} {H : Hp} (D : DeckAt H d l) : ∀ b ∈ [d, l], H b ≠ none := fun b hb => by
  obtain ⟨m, n, ns, h1, h2, _⟩ := D.ex
  rcases List.mem_cons.mp hb with rfl | hb
  · rw [h1]
    exact fun z => nomatch z
  · rw [List.mem_singleton.mp hb, h2]
    exact fun z => nomatch z
theorem Frame.go {ms : List Addr} {d l : Addr} {H H1 : Hp} (F : Frame ms d l H) (k : Kp [d, l] H H1) (D : DeckAt H1 d l) : Frame ms d l H1 := ⟨D, F.dm, F.lm, F.has.kp k D.some_⟩
theorem Frame.kp0 {ms : List Addr} {d l : Addr} {H H1 : Hp} (F : Frame ms d l H) (k : Kp [] H H1) : Frame ms d l H1 := ⟨F.dk.kp k List.not_mem_nil List.not_mem_nil, F.dm, F.lm, F.has.kp k fun b hb => absurd hb List.not_mem_nil⟩
theorem Frame.new {ms : List Addr} {d l p : Addr} {H : Hp} {o : HO} (F : Frame ms d l H) (n : H p = none) : Frame ms d l (upd H p o) := F.kp0 (.new n)
theorem Frame.ne {ms : List Addr} {d l p : Addr} {H : Hp} (F : Frame ms d l H) (n : H p = none) : p ≠ d ∧ p ≠ l :=
  ⟨fun e => F.has d F.dm (e ▸ n), fun e => F.has l F.lm (e ▸ n)⟩
def kKey : Key := .inr "key"
def kOne : Key := .inl 1
theorem merge_two (x y : V) : mergeK [] [(kKey, x), (kOne, y)] = [(kKey, x), (kOne, y)] := by
  have e1 : putK ([] : List (Key × V)) kKey x = [(kKey, x)] := putK_new _ rfl
  have e2 : putK [(kKey, x)] kOne y = [(kKey, x), (kOne, y)] := putK_new _ (valV_neg (by intro z; cases z))
  show putK (putK [] kKey x) kOne y = _
  rw [e1, e2]
def spAny (n : Nat) : Sp := fun vs H Q _ => ∃ (d l : Addr) (ms : List Addr) (deep : Nat), vs = [.ref d, .int deep] ∧ deep < n ∧ Frame ms d l H ∧
  ∀ (v : V) (x : PyData) (H' : Hp), An ms H' v x → GoodJ (10 ^ 29 + 1) (2 * deep + 2) (wJ deep) x → Frame ms d l H' → Kp [d, l] H H' → Q v H'
section
variable {Pr : Program} {w : World} {K : PySem.W.Frag} {mg : Str → Option Value} {base : Heap} {A : Nat → Addr} {D : Nat → FuncData}
def NA : List Str := ["_law_deck_here", "_law_deep", "_law_way", "_law_some", "_law_turn"]
theorem scAny : FnScope NA ["_law_deck_here", "_law_deep"] (defScope sAny) := ⟨rfl, rfl, rfl, by decide +kernel, rfl, by decide +kernel, by decide +kernel⟩
theorem ok_any (Fa : LH K mg A D) (D0 : Df K mg "_law_any" sAny ["_law_deck_here", "_law_deep"] (A 21) (D 21)) : ∀ n : Nat, FnOk Pr w K mg base CX0 (n + 2) (A 21) (D 21) ["_law_deck_here", "_law_deep"] (spAny n)
  | 0 => by
    refine D0.F.ok scAny (fun vs H Q E h => ?_) (fun cdv Ar outer s H vs Q E hr h => ?_)
    · obtain ⟨d, l, ms, deep, rfl, _⟩ := h
      rfl
    · obtain ⟨d, l, ms, deep, rfl, hd, _⟩ := h
      exact absurd hd (Nat.not_lt_zero _)
  | n + 1 => by
    have ih := ok_any Fa D0 n
    refine D0.F.ok scAny (fun vs H Q E h => ?_) (fun cdv Ar outer s H vs Q E hr h => ?_)
    · obtain ⟨d, l, ms, deep, rfl, _⟩ := h
      rfl
    · obtain ⟨d, l, ms, deep, rfl, hdn, Fr, k⟩ := h
      have hr2 := hr.mono (show 2 ≤ n + 2 by omega)
      have hr1 := hr.mono (show 1 ≤ n + 2 by omega)
      have w0 := wJ_ge deep
      obtain ⟨tt, dt, rt⟩ : ∃ tt, PSs (cxOf CX0 Pr w K mg base NA "_law_any" (defScope sAny) (A 21) cdv Ar outer s H E).nox ((defBody sAny).drop 5) tt ∧
          ∀ (H3 : Hp) (D : Addr) (xs : List V) (ds : List PyData) (y : Option V) (r : Int), H3 D = some (.lst xs) → AnAll ms H3 xs ds → D ∉ ms → fitJAll (10 ^ 29 + 1) ds = true → PyData.depthAll ds ≤ 2 * deep → wdAll ds + 136 ≤ wJ deep → ds.length ≤ 3 → Frame ms d l H3 → Kp [d, l] H H3 →
          tt { nx := fun _ H' => Q .non H', rt := Q } [some (.ref d), some (.int deep), some (.int r), some (.ref D), y] H3 := by
        refine ⟨_, pss_cons (ps_if (pt_cmpR op_eq (pv 2) pe_int (nomark _)) (pss_one (ps_ret (pv 3))) pss_nil)
          (pss_one (ps_ret (pe_ifExp (pt_cmpR op_eq (pv 2) pe_int (nomark _)) (pe_disp (pps_cons pe_str (pv 3) (pps_cons pe_int (pe_callB call_len_seq (by rfl) Fa.B.len PySem.boot_len (pa_cons (pv 3) pa_nil)) pps_nil)) (by rfl) (by rfl) (fun z => by cases z) (by decide))
            (pe_callTy call_tuple_of (by rfl) Fa.B.tuple (by decide +kernel) (pa_cons (pv 3) pa_nil))))), ?_⟩
        intro H3 D xs ds y r hD hA nD hf hdp hw hln F3 k3
        have lx := hA.length
        refine ⟨_, rfl, rfl, _, rfl, ite2 (fun _ => ?_) (fun _ => ?_)⟩
        · refine ⟨_, rfl, ?_⟩
          exact k _ (.list ds) H3 (.lst hD nD hA) ⟨hf, by show PyData.depthAll ds + 1 ≤ 2 * deep + 2; omega, by show wdAll ds + 3 ≤ wJ deep; omega⟩ F3 k3
        refine ⟨_, rfl, rfl, _, rfl, ite2 (fun _ => ?_) (fun _ => ?_)⟩
        · intro q nq
          have hDq : D ≠ q := ne_of_none hD nq
          have kq0 : Kp [] H3 (upd H3 q (.dK [])) := .new nq
          refine ⟨_, rfl, _, rfl, D, xs, rfl, .inl (sql_of (by rw [upd_ne hDq]; exact hD)), upd_same, [(kKey, .ref D), (kOne, .int xs.length)], rfl, by show 2 ≤ 15; decide, ?_⟩
          rw [merge_two, upd_upd]
          have kq : Kp [] H3 (upd H3 q (.dK [(kKey, .ref D), (kOne, .int xs.length)])) := .new nq
          refine k _ (.dict [(kD kKey, .list ds), (kD kOne, .int xs.length)]) _ (.dct upd_same (F3.has.fresh nq) (.cons (.lst (by rw [upd_ne hDq]; exact hD) nD (hA.kp kq (by simp) ds)) (.cons (.int _) .nil))) ⟨?_, ?_, ?_⟩ (F3.new nq) (k3.trans (.new nq))
          · have q1 : fitJ (10 ^ 29 + 1) (kD kKey) = true := by decide +kernel
            have q2 : fitJ (10 ^ 29 + 1) (kD kOne) = true := by decide +kernel
            have q3 : fitJ (10 ^ 29 + 1) (.int (xs.length : Int)) = true := by
              rw [lx]
              rcases (show ds.length = 0 ∨ ds.length = 1 ∨ ds.length = 2 ∨ ds.length = 3 by omega) with e | e | e | e <;> rw [e] <;> decide +kernel
            show ((fitJ (10 ^ 29 + 1) (kD kKey) && fitJAll (10 ^ 29 + 1) ds) && ((fitJ (10 ^ 29 + 1) (kD kOne) && fitJ (10 ^ 29 + 1) (.int (xs.length : Int))) && true)) = true
            rw [q1, q2, q3, hf]
            rfl
          · show max (max 0 (PyData.depthAll ds + 1)) (max (max 0 0) 0) + 1 ≤ 2 * deep + 2
            omega
          · have q1 : wd (kD kKey) = 32 := by decide +kernel
            show wd (kD kKey) + (wdAll ds + 3) + 4 + (45 + 45 + 4 + 0) + 3 ≤ wJ deep
            omega
        · refine ⟨_, rfl, D, _, rfl, .inl ⟨sql_of hD, fun q nq => ?_⟩⟩
          have kq : Kp [] H3 (upd H3 q (.tup xs)) := .new nq
          exact k _ (.tuple ds) _ (.tup upd_same (hA.kp kq (by simp) ds)) ⟨hf, by show PyData.depthAll ds + 1 ≤ 2 * deep + 2; omega, by show wdAll ds + 3 ≤ wJ deep; omega⟩ (F3.new nq) (k3.trans (.new nq))
      refine ⟨_, pss_cons (ps_set (i := 2) scAny.nd rfl (.inl rfl) (pe_call (ok_draw Fa.draw.F Fa.B) hr1 (by rfl) Fa.draw.g Fa.draw.F.kp Fa.draw.b .nil pass0 (pa_cons (pv 0) (pa_cons pe_int pa_nil))))
        (pss_cons (ps_if (pt_cmpR op_lt (pv 2) pe_int (nomark _)) (pss_one (ps_ret (pe_call (ok_pick Fa.pick.F Fa.B Fa.draw) hr2 (by rfl) Fa.pick.g Fa.pick.F.kp Fa.pick.b .nil pass0 (pa_cons (pv 0) (pa_cons (pe_lst (pa_cons pe_int (pa_cons pe_int (pa_cons (pe_un un_neg pe_int) (pa_cons pe_int (pa_cons (pe_op op_pow pe_int pe_int) (pa_cons (pe_un un_neg (pe_op op_pow pe_int pe_int)) (pa_cons pe_int (pa_cons pe_int pa_nil))))))))) pa_nil))))) pss_nil)
        (pss_cons (ps_if (pt_cmpR op_lt (pv 2) pe_int (nomark _)) (pss_one (ps_ret (pe_call (ok_pick Fa.pick.F Fa.B Fa.draw) hr2 (by rfl) Fa.pick.g Fa.pick.F.kp Fa.pick.b .nil pass0 (pa_cons (pv 0) (pa_cons (pe_lst (pa_cons pe_str (pa_cons pe_str (pa_cons pe_str (pa_cons pe_str (pa_cons pe_str (pa_cons pe_str pa_nil))))))) pa_nil))))) pss_nil)
        (pss_cons (ps_if (pt_cmpR op_eq (pv 2) pe_int (nomark _)) (pss_one (ps_ret (pe_call (ok_pick Fa.pick.F Fa.B Fa.draw) hr2 (by rfl) Fa.pick.g Fa.pick.F.kp Fa.pick.b .nil pass0 (pa_cons (pv 0) (pa_cons (pe_lst (pa_cons pe_bl (pa_cons pe_bl (pa_cons pe_non pa_nil)))) pa_nil))))) pss_nil)
        (pss_cons (ps_set (i := 3) scAny.nd rfl (.inl rfl) (pe_ifExp (pt_cmpR op_gt (pv 1) pe_int (nomark _))
          (pe_lc (own := [("_law_turn", 4)]) (g := gName 4) (tt := tYes) rfl scAny.nd (pi_range1 (by rfl) Fa.B.range (pa_cons (pe_call (ok_draw Fa.draw.F Fa.B) hr1 (by rfl) Fa.draw.g Fa.draw.F.kp Fa.draw.b .nil pass0 (pa_cons (pv 0) (pa_cons pe_int pa_nil))) pa_nil))
            (blkOk_by (N := NA) (sc := defScope sAny) (by decide +kernel)) (fun _ _ _ _ _ => pg_name (i := 4) scAny.nd rfl (Or.inl rfl)) (fun _ _ _ _ _ => pts_nil)
            (fun _ _ _ _ _ => pe_call ih hr (by rfl) D0.g D0.F.kp D0.b .nil pass0 (pa_cons (pv 0) (pa_cons (pe_op op_sub (pv 1) pe_int) pa_nil))))
          (pe_lst pa_nil)))
        dt)))), ?_⟩
      have leaf : ∀ (v : V) (x : PyData) (H1 : Hp), An ms H1 v x → fitJ (10 ^ 29 + 1) x = true → x.depth = 0 → wd x ≤ 130 → DeckAt H1 d l → Kp [d, l] H H1 → Q v H1 := fun v x H1 a b c e D1 k1 =>
        k v x H1 a ⟨b, by omega, by omega⟩ (Fr.go k1 D1) k1
      refine ⟨_, rfl, d, l, 10, rfl, Fr.dk, by decide, by decide, fun r H1 r0 r1 D1 k1 => ?_⟩
      have F1 := Fr.go k1 D1
      refine ⟨_, rfl, _, _, rfl, rfl, _, rfl, ite2 (fun _ => ?_) (fun _ => ?_)⟩
      · refine ⟨_, rfl, 1, rfl, _, _, rfl, rfl, (⟨by decide, by decide, by decide⟩ : (0 : Int) ≤ 29 ∧ (29 : Int) ≤ 1000000 ∧ (10 : Int).natAbs < 2 ^ 64), _, _, rfl, rfl, (⟨by decide, by decide, by decide⟩ : (0 : Int) ≤ 20 ∧ (20 : Int) ≤ 1000000 ∧ (10 : Int).natAbs < 2 ^ 64), _, rfl, by show 8 ≤ sizeLine; decide, fun p np => ?_⟩
        have n1 := F1.ne np
        have F2 := F1.new (o := .lst [.int 0, .int 1, .int (-1), .int 7, .int (10 ^ (29 : Int).toNat), .int (-(10 ^ (20 : Int).toNat)), .int 2, .int 5]) np
        refine ⟨d, l, p, _, rfl, F2.dk, sql_of upd_same, by simp, by show 8 ≤ 1000000; decide, n1.1, n1.2, fun x H4 hx D4 k4 => ?_⟩
        have k4' : Kp [d, l] H H4 := k1.trans ((Kp.new np).trans k4)
        simp only [List.mem_cons, List.not_mem_nil, or_false] at hx
        rcases hx with rfl | rfl | rfl | rfl | rfl | rfl | rfl | rfl
        all_goals exact leaf _ _ H4 (.int _) (by decide +kernel) rfl (by show 45 ≤ 130; decide) D4 k4'
      refine ⟨_, rfl, _, _, rfl, rfl, _, rfl, ite2 (fun _ => ?_) (fun _ => ?_)⟩
      · refine ⟨_, rfl, by show 6 ≤ sizeLine; decide, fun p np => ?_⟩
        have n1 := F1.ne np
        refine ⟨d, l, p, _, rfl, (F1.new np).dk, sql_of upd_same, by simp, by show 6 ≤ 1000000; decide, n1.1, n1.2, fun x H4 hx D4 k4 => ?_⟩
        have k4' : Kp [d, l] H H4 := k1.trans ((Kp.new np).trans k4)
        simp only [List.mem_cons, List.not_mem_nil, or_false] at hx
        rcases hx with rfl | rfl | rfl | rfl | rfl | rfl
        all_goals exact leaf _ _ H4 (.str _) (by decide +kernel) rfl (by decide +kernel) D4 k4'
      refine ⟨_, rfl, rfl, _, rfl, ite2 (fun _ => ?_) (fun _ => ?_)⟩
      · refine ⟨_, rfl, by show 3 ≤ sizeLine; decide, fun p np => ?_⟩
        have n1 := F1.ne np
        refine ⟨d, l, p, _, rfl, (F1.new np).dk, sql_of upd_same, by simp, by show 3 ≤ 1000000; decide, n1.1, n1.2, fun x H4 hx D4 k4 => ?_⟩
        have k4' : Kp [d, l] H H4 := k1.trans ((Kp.new np).trans k4)
        simp only [List.mem_cons, List.not_mem_nil, or_false] at hx
        rcases hx with rfl | rfl | rfl
        · exact leaf _ _ H4 (.bl true) rfl rfl (by show 5 ≤ 130; decide) D4 k4'
        · exact leaf _ _ H4 (.bl false) rfl rfl (by show 5 ≤ 130; decide) D4 k4'
        · exact leaf _ _ H4 .non rfl rfl (by show 4 ≤ 130; decide) D4 k4'
      refine ⟨_, rfl, _, _, rfl, rfl, _, rfl, ite2 (fun q => ?_) (fun _ => ?_)⟩
      · have hd0 : 0 < deep := by
          have := of_decide_eq_true q
          omega
        refine ⟨_, rfl, d, l, 4, rfl, D1, by decide, by decide, fun c H2 c0 c1 D2 k2 => ?_⟩
        have F2 := F1.go k2 D2
        obtain ⟨m, rfl⟩ : ∃ m : Nat, c = (m : Int) := ⟨c.toNat, by omega⟩
        refine ⟨m, rfl, by omega, by omega, ?_⟩
        rw [Int.toNat_natCast]
        intro D nD
        have nDm := F2.has.fresh nD
        refine lc_range (lo := 0) (n := m) (fun i H => ∃ (xs : List V) (ds : List PyData), H D = some (.lst xs) ∧ AnAll (D :: ms) H xs ds ∧ GoodJAll (10 ^ 29 + 1) (2 * (deep - 1) + 2) (wJ (deep - 1)) ds ∧ ds.length = i ∧ Frame ms d l H ∧ Kp [d, l] H2 H)
          ⟨[], [], upd_same, .nil, .nil, rfl, F2.new nD, .new nD⟩ ?_ ?_
        · rintro i H5 hi ⟨xs, ds, hD, hA, hG, hl, F5, k5⟩
          have hDd : D ≠ d := fun e => nDm (e ▸ F2.dm)
          have hDl : D ≠ l := fun e => nDm (e ▸ F2.lm)
          have FD : Frame (D :: ms) d l H5 := ⟨F5.dk, List.mem_cons_of_mem _ F5.dm, List.mem_cons_of_mem _ F5.lm, fun b hb => by
            rcases List.mem_cons.mp hb with rfl | hb
            · rw [hD]
              exact fun z => nomatch z
            · exact F5.has b hb⟩
          refine ⟨rfl, _, rfl, _, rfl, _, _, rfl, rfl, d, l, D :: ms, deep - 1, ?_, by omega, FD, fun v x H6 hx gx F6 k6 => ?_⟩
          · show [V.ref d, V.int ((deep : Int) - 1)] = _
            rw [show (deep : Int) - 1 = ((deep - 1 : Nat) : Int) by omega]
          have hD6 : H6 D = some (.lst xs) := k6.at_ _ _ hD (by simp [hDd, hDl])
          have kD : Kp [D] H6 (upd H6 D (.lst (xs ++ [v]))) := .put (by simp) hD6 (fun _ z => by cases z)
          refine ⟨xs, hD6, ?_, xs ++ [v], ds ++ [x], upd_same, ?_, hG.snoc gx, by rw [List.length_append, hl]; rfl, ?_, ?_⟩
          · have := hA.length
            exact Nat.lt_of_le_of_lt (show xs.length ≤ 3 by omega) (by decide)
          · exact ((hA.kp k6 FD.sub ds).kp kD (by simp) ds).append (.cons (hx.kp kD (by simp) x) .nil)
          · have F6' : Frame ms d l H6 := F5.go k6 F6.dk
            refine ⟨F6'.dk.kp kD (by simp [hDd.symm]) (by simp [hDl.symm]), F6'.dm, F6'.lm, F6'.has.kp kD fun b hb => ?_⟩
            rw [List.mem_singleton.mp hb, upd_same]
            exact fun z => nomatch z
          · exact (k5.trans k6).own nD
        · rintro H5 ⟨xs, ds, hD, hA, hG, hl, F5, k5⟩
          obtain ⟨g1, g2, g3⟩ := hG.facts
          have e : wJ deep = 3 * wJ (deep - 1) + 150 := by
            obtain ⟨z, rfl⟩ : ∃ z, deep = z + 1 := ⟨deep - 1, by omega⟩
            rfl
          have h3 : (wJ (deep - 1) + 2) * ds.length ≤ (wJ (deep - 1) + 2) * 3 := Nat.mul_le_mul_left _ (by omega)
          exact rt H5 D xs ds _ r hD (hA.mono (fun x hx => List.mem_cons_of_mem _ hx) ds) nDm g1 (by omega) (by omega) (by omega) F5 (k1.trans (k2.trans k5))
      · refine ⟨by show 0 ≤ sizeLine; decide, fun D nD => ?_⟩
        exact rt _ D [] [] _ r upd_same .nil (F1.has.fresh nD) rfl (Nat.zero_le _) (by show 0 + 136 ≤ wJ deep; omega) (by decide) (F1.new nD) (k1.trans (.new nD))
end
end Ey
set_option maxHeartbeats 4000000
namespace Ey
open PySem PySem.Spec L2
/-! ### the reader as an object -/
abbrev sTR (j : Nat) : Stmt := inClass (topS 15) j
theorem lk_here {k : Str} {v : V} {r : List (Str × V)} : List.lookup k ((k, v) :: r) = some v := by
  have e : (k == k) = true := beq_self_eq_true k
  simp only [List.lookup, e]
theorem lk_past {k g : Str} {v : V} {r : List (Str × V)} (h : (k == g) = false) : List.lookup k ((g, v) :: r) = List.lookup k r := by
  simp only [List.lookup, h]
theorem put_here {f : Str} {v x : V} {r : List (Str × V)} : putF f v ((f, x) :: r) = (f, v) :: r := if_pos rfl
theorem put_past {f g : Str} {v x : V} {r : List (Str × V)} (h : ¬ g = f) : putF f v ((g, x) :: r) = (g, x) :: putF f v r := if_neg h
/-- the reader's attributes -/
def rF (s : List Nat) (i : Nat) (a : Addr) (v : V) : List (Str × V) := [("text", .str (st s)), ("at", .int (i : Nat)), ("opened", .ref a), ("tree", v)]
section
variable {s : List Nat} {i : Nat} {a : Addr} {v : V}
theorem rF_text : (rF s i a v).lookup ("text" : Str) = some (.str (st s)) := lk_here
theorem rF_at : (rF s i a v).lookup ("at" : Str) = some (.int (i : Nat)) := (lk_past (by decide +kernel)).trans lk_here
theorem rF_opened : (rF s i a v).lookup ("opened" : Str) = some (.ref a) := (lk_past (by decide +kernel)).trans ((lk_past (by decide +kernel)).trans lk_here)
theorem rF_tree : (rF s i a v).lookup ("tree" : Str) = some v := (lk_past (by decide +kernel)).trans ((lk_past (by decide +kernel)).trans ((lk_past (by decide +kernel)).trans lk_here))
theorem rF_none {m : Str} (h1 : (m == ("text" : Str)) = false := by decide +kernel) (h2 : (m == ("at" : Str)) = false := by decide +kernel) (h3 : (m == ("opened" : Str)) = false := by decide +kernel) (h4 : (m == ("tree" : Str)) = false := by decide +kernel) : (rF s i a v).lookup m = none :=
  (lk_past h1).trans ((lk_past h2).trans ((lk_past h3).trans ((lk_past h4).trans rfl)))
theorem rF_putAt {z : Int} {j : Nat} (h : z = (j : Int)) : putF "at" (.int z) (rF s i a v) = rF s j a v := by
  subst h
  exact (put_past (by decide +kernel)).trans (congrArg _ put_here)
theorem rF_put1 {j : Nat} : putF "at" (.int ((j : Int) + 1)) (rF s i a v) = rF s (j + 1) a v := rF_putAt (j := j + 1) rfl
theorem rF_putTree {w : V} : putF "tree" w (rF s i a v) = rF s i a w := (put_past (by decide +kernel)).trans (congrArg _ ((put_past (by decide +kernel)).trans (congrArg _ ((put_past (by decide +kernel)).trans (congrArg _ put_here)))))
theorem rF_sz : (rF s i a v).length < 1000 := by show 4 < 1000; decide
end
/-- what the module has of the reader: its class at C, the error's class at CB -/
structure TF (K : PySem.W.Frag) (mg : Str → Option Value) (C CB fB : Addr) : Prop where
  B : BI mg
  cl : Cls K C
  nText : NoAttr K C "text"
  nAt : NoAttr K C "at"
  nOpened : NoAttr K C "opened"
  nTree : NoAttr K C "tree"
  bt : PySem.BadTextX.BadTextTxt K mg CB fB
  lett : ∃ t, mg "LETTERS" = some (.str "abcdefghijklmnopqrstuvwxyz" t)
  tlen : ∃ t, mg "TAG_LENGTH" = some (.int 8 t)
/-- a method of the reader -/
structure Mt (K : PySem.W.Frag) (C : Addr) (m q : Str) (s : Stmt) (ps : List Str) (f : Addr) (fd : FuncData) : Prop where
  F : Fun K m q s f fd
  b : Binds K fd ps []
  m : Meth K C m f
theorem cut_one {s : List Nat} {i : Nat} (h : i ≤ s.length) (c : Nat) : decide (V.str (cutS (st s) (some (i : Int)) (some ((i : Int) + 1))) = V.str (st [c])) = decide (s[i]? = some c) := by
  have el : (st s).length = s.length := st_len s
  by_cases hi : i < s.length
  · have e : cutS (st s) (some (i : Int)) (some ((i : Int) + 1)) = st [s[i]] := by
      have q := cut_both s (i := i) (j := i + 1) (by omega) hi
      rw [Nat.add_sub_cancel_left, List.drop_eq_getElem_cons hi, List.take_succ_cons, List.take_zero] at q
      exact q
    rw [e, List.getElem?_eq_getElem hi]
    refine decide_eq_decide.mpr ⟨fun q => ?_, fun q => ?_⟩
    · rw [(List.cons.inj (st_inj (V.str.inj q))).1]
    · rw [Option.some.inj q]
  · have e : i = s.length := by omega
    have z : cutS (st s) (some (i : Int)) (some ((i : Int) + 1)) = st [] := by
      show Str.mk _ = Str.mk _
      rw [el, HT.sIx_nat, show ((i : Int) + 1) = ((i + 1 : Nat) : Int) from rfl, HT.sIx_nat, Nat.min_eq_right (show s.length ≤ i by omega), Nat.min_eq_right (show s.length ≤ i + 1 by omega), Nat.sub_self]
      rfl
    rw [z, List.getElem?_eq_none (by omega)]
    refine decide_eq_decide.mpr ⟨fun q => ?_, fun q => by cases q⟩
    have := st_inj (V.str.inj q)
    cases this
section
variable {Pr : Program} {w : World} {K : PySem.W.Frag} {mg : Str → Option Value} {base : Heap} {C CB fB f0 f1 f2 f3 : Addr} {d0 d1 d2 d3 : FuncData}
theorem scComes : FnScope ["self", "sign"] ["self", "sign"] (defScope (sTR 1)) := ⟨rfl, rfl, rfl, by decide +kernel, rfl, by decide +kernel, by decide +kernel⟩
def spComes (C : Addr) (s : List Nat) : Sp := fun vs H Q _ => ∃ (p a dx : Addr) (v : V) (i c : Nat), vs = [.ref p, .str (st [c])] ∧ H p = some (.ins C dx (rF s i a v)) ∧ i ≤ s.length ∧ s.length ≤ 100000 ∧ Q (.bl (decide (s[i]? = some c))) H
theorem ok_comes (T : TF K mg C CB fB) (F : Fun K "comes" "TreeReader.comes" (sTR 1) f0 d0) (s : List Nat) : FnOk Pr w K mg base CX0 1 f0 d0 ["self", "sign"] (spComes C s) := by
  refine F.ok scComes (fun vs H Q E h => ?_) (fun cdv Ar outer s0 H vs Q E hr h => ?_)
  · obtain ⟨p, a, dx, v, i, c, rfl, _⟩ := h
    rfl
  · obtain ⟨p, a, dx, v, i, c, rfl, hp, hi, hl, k⟩ := h
    refine ⟨_, pss_one (ps_ret (pe_cmpR op_eq (pe_slice sl_str (pe_fld (pv 0) rfl) (po_some (pe_fld (pv 0) rfl)) (po_some (pe_op op_add (pe_fld (pv 0) rfl) pe_int))) (pv 1) (nomark _))), ?_⟩
    have el : (st s).length = s.length := st_len s
    have hgs : (st s).length ≤ sizeLine := by
      rw [el]
      exact Nat.le_trans hl (by decide)
    refine ⟨_, rfl, p, C, dx, _, _, rfl, hp, T.cl, T.nText, rF_text, _, rfl, p, C, dx, _, _, rfl, hp, T.cl, T.nAt, rF_at, _, rfl, _, rfl, p, C, dx, _, _, rfl, hp, T.cl, T.nAt, rF_at, _, _, rfl, rfl, _, rfl, _, rfl, hgs, _, rfl, rfl, ?_⟩
    rw [cut_one hi c]
    exact k
theorem scTake : FnScope ["self", "sign"] ["self", "sign"] (defScope (sTR 2)) := ⟨rfl, rfl, rfl, by decide +kernel, rfl, by decide +kernel, by decide +kernel⟩
def spTake (C CB : Addr) (s : List Nat) : Sp := fun vs H Q E => ∃ (p a dx : Addr) (v : V) (i c : Nat), vs = [.ref p, .str (st [c])] ∧ H p = some (.ins C dx (rF s i a v)) ∧ i ≤ s.length ∧ s.length ≤ 100000 ∧
  (s[i]? = some c → Q .non (upd H p (.ins C dx (rF s (i + 1) a v)))) ∧ (¬ s[i]? = some c → ∀ d, H d = none → E (.ref CB) (some d) (upd H d (.xd [("at", .int (i : Nat))])))
theorem ok_take (T : TF K mg C CB fB) (D0 : Mt K C "comes" "TreeReader.comes" (sTR 1) ["self", "sign"] f0 d0) (F : Fun K "take" "TreeReader.take" (sTR 2) f1 d1) (s : List Nat) : FnOk Pr w K mg base (L2.CX Pr w) 3 f1 d1 ["self", "sign"] (spTake C CB s) := by
  refine F.okX scTake (fun vs H Q E h => ?_) (fun cdv Ar outer s0 H vs Q E hr h => ?_)
  · obtain ⟨p, a, dx, v, i, c, rfl, _⟩ := h
    rfl
  · obtain ⟨p, a, dx, v, i, c, rfl, hp, hi, hl, kS, kE⟩ := h
    have hr1 : Room 1 _ := hr.mono (by decide)
    refine ⟨_, pss_cons (ps_if (pt_not (pt_val (pe_meth (pv 0) T.cl D0.m (ok_comes T D0.F s) hr1 D0.b .nil pass0 (by exact (pa_cons (pv 1) pa_nil)))))
        (pss_one (ps_raiseBadText rfl T.bt hr (takes_of rfl rfl rfl rfl) (by exact (pa_cons (pe_fld (pv 0) rfl) pa_nil)))) pss_nil)
      (pss_one (ps_fldaug (pv 0) pe_int in_add)), ?_⟩
    refine ⟨_, rfl, p, dx, _, rfl, hp, rF_none, _, rfl, p, a, dx, v, i, c, rfl, hp, hi, hl, _, rfl, ?_⟩
    by_cases h : s[i]? = some c
    · rw [decide_eq_true h]
      refine iteF ⟨_, rfl, p, C, dx, _, _, rfl, hp, T.cl, T.nAt, rF_at, _, _, rfl, rfl, dx, _, hp, rF_sz, ?_⟩
      rw [rF_put1]
      exact kS h
    · rw [decide_eq_false h]
      refine iteT ⟨_, rfl, p, C, dx, _, _, rfl, hp, T.cl, T.nAt, rF_at, _, rfl, fun d hd => kE h d hd⟩
theorem scTagR : FnScope ["self", "end", "tag"] ["self"] (defScope (sTR 3)) := ⟨rfl, rfl, rfl, by decide +kernel, rfl, by decide +kernel, by decide +kernel⟩
def spTagR (C CB : Addr) (s : List Nat) : Sp := fun vs H Q E => ∃ (p a dx : Addr) (v : V) (i : Nat), vs = [.ref p] ∧ H p = some (.ins C dx (rF s i a v)) ∧ i ≤ s.length ∧ s.length ≤ 100000 ∧
  ((tagAt s i).isEmpty = false → Q (.str (st (tagAt s i))) (upd H p (.ins C dx (rF s (i + (tagAt s i).length) a v)))) ∧ ((tagAt s i).isEmpty = true → ∀ d, H d = none → E (.ref CB) (some d) (upd H d (.xd [("at", .int (i : Nat))])))
theorem ok_tagR (T : TF K mg C CB fB) (F : Fun K "take_tag" "TreeReader.take_tag" (sTR 3) f2 d2) (s : List Nat) : FnOk Pr w K mg base (L2.CX Pr w) 3 f2 d2 ["self"] (spTagR C CB s) := by
  obtain ⟨t1, hL⟩ := T.lett
  obtain ⟨t2, hT⟩ := T.tlen
  refine F.okX scTagR (fun vs H Q E h => ?_) (fun cdv Ar outer s0 H vs Q E hr h => ?_)
  · obtain ⟨p, a, dx, v, i, rfl, _⟩ := h
    rfl
  · obtain ⟨p, a, dx, v, i, rfl, hp, hi, hl, kS, kE⟩ := h
    have el : (st s).length = s.length := st_len s
    have hgs : (st s).length ≤ sizeLine := by
      rw [el]
      exact Nat.le_trans hl (by decide)
    have tf := tag_fits hi
    have t8 := tagAt_len s i
    obtain ⟨tt, dt, rt⟩ : ∃ tt, PSs (cxOf (L2.CX Pr w) Pr w K mg base ["self", "end", "tag"] "TreeReader.take_tag" (defScope (sTR 3)) f2 cdv Ar outer s0 H E) ((defBody (sTR 3)).drop 2) tt ∧
        tt { nx := fun _ H' => Q .non H', rt := Q } [some (.ref p), some (.int ((i + (tagAt s i).length : Nat) : Int)), none] H := by
      refine ⟨_, pss_cons (ps_if (pt_cmpR op_eq (pv 1) (pe_fld (pv 0) rfl) (nomark _)) (pss_one (ps_raiseBadText rfl T.bt hr (takes_of rfl rfl rfl rfl) (by exact (pa_cons (pe_fld (pv 0) rfl) pa_nil)))) pss_nil)
        (pss_cons (ps_set (i := 2) scTagR.nd rfl (.inl rfl) (pe_slice sl_str (pe_fld (pv 0) rfl) (po_some (pe_fld (pv 0) rfl)) (po_some (pv 1))))
        (pss_cons (ps_fld (pv 0) (pv 1) rfl) (pss_one (ps_ret (pv 2))))), ?_⟩
      refine ⟨_, rfl, _, rfl, p, C, dx, _, _, rfl, hp, T.cl, T.nAt, rF_at, rfl, _, rfl, ite2 (fun q => ?_) (fun q => ?_)⟩
      · have e0 : (tagAt s i).length = 0 := by
          have := V.int.inj (of_decide_eq_true q)
          omega
        have e1 : (tagAt s i).isEmpty = true := List.isEmpty_iff.mpr (List.length_eq_zero_iff.mp e0)
        exact ⟨_, rfl, p, C, dx, _, _, rfl, hp, T.cl, T.nAt, rF_at, _, rfl, fun d hd => kE e1 d hd⟩
      · have e1 : (tagAt s i).isEmpty = false := by
          cases h : tagAt s i with
          | nil => exact absurd (decide_eq_true (by rw [h]; rfl)) q
          | cons _ _ => rfl
        refine ⟨_, rfl, p, C, dx, _, _, rfl, hp, T.cl, T.nText, rF_text, _, rfl, p, C, dx, _, _, rfl, hp, T.cl, T.nAt, rF_at, _, rfl, _, rfl, _, rfl, _, rfl, hgs, ?_⟩
        rw [cut_tag tf]
        refine ⟨_, rfl, _, rfl, p, C, dx, _, rfl, hp, T.cl, T.nAt, rF_sz, ?_⟩
        rw [rF_putAt (j := i + (tagAt s i).length) rfl]
        exact ⟨_, rfl, kS e1⟩
    refine ⟨_, pss_cons (ps_set (i := 1) scTagR.nd rfl (.inl rfl) (pe_fld (pv 0) rfl))
      (pss_cons (ps_while (passes_of rfl) (PW.pt (pw_and (pt_cmpR op_lt (pv 1) (pe_callB call_len_str (by rfl) T.B.len PySem.boot_len (pa_cons (pe_fld (pv 0) rfl) pa_nil)) (nomark _))
        (pw_and (pt_cmpR op_lt (pe_op op_sub (pv 1) (pe_fld (pv 0) rfl)) (pe_glob (v := .int 8) (by rfl) hT ⟨_, rfl⟩) (nomark _))
        (pw_and1 (pt_cmpR op_in_sign (pe_ix ix_str (pe_fld (pv 0) rfl) (pv 1) (fun _ _ => rfl)) (pe_glob (v := .str "abcdefghijklmnopqrstuvwxyz") (by rfl) hL ⟨_, rfl⟩) (by rfl))))))
        (pss_one (ps_aug (i := 1) scTagR.nd rfl (.inl rfl) pe_int ip_add))) dt), ?_⟩
    refine ⟨_, rfl, p, C, dx, _, _, rfl, hp, T.cl, T.nAt, rF_at, ?_⟩
    refine ⟨fun m σ H' => ∃ k', k' ≤ (tagAt s i).length ∧ m = (tagAt s i).length - k' ∧ σ = [some (.ref p), some (.int ((i + k' : Nat) : Int)), none] ∧ H' = H,
      ⟨_, 0, Nat.zero_le _, rfl, rfl, rfl⟩, fun m σ H' hw => ?_⟩
    obtain ⟨k', hk, rfl, rfl, rfl⟩ := hw
    by_cases hlt : k' < (tagAt s i).length
    · obtain ⟨k8, c', hc', hca⟩ := tag_in hlt
      have hl' : i + k' < s.length := (List.getElem?_eq_some_iff.mp hc').1
      refine ⟨_, rfl, _, rfl, p, C, dx, _, _, rfl, hp, T.cl, T.nText, rF_text, _, rfl, hgs, _, _, rfl, rfl, _, rfl, ite2 (fun _ => ?_) (fun q3 => absurd (decide_eq_true (by rw [el]; omega)) q3)⟩
      refine ⟨_, rfl, _, rfl, p, C, dx, _, _, rfl, hp, T.cl, T.nAt, rF_at, _, _, rfl, rfl, _, _, rfl, rfl, _, rfl, ite2 (fun _ => ?_) (fun q3 => absurd (decide_eq_true (by omega)) q3)⟩
      refine ⟨_, rfl, p, C, dx, _, _, rfl, hp, T.cl, T.nText, rF_text, _, rfl, st s, _, c', rfl, rfl, hgs, atI_nat hc', c', _, rfl, rfl, _, rfl, ?_⟩
      rw [abc_is, decide_eq_true hca]
      refine iteT ⟨fun σ' H'' => ∃ m', m' < (tagAt s i).length - k' ∧ ∃ k2, k2 ≤ (tagAt s i).length ∧ m' = (tagAt s i).length - k2 ∧ σ' = [some (.ref p), some (.int ((i + k2 : Nat) : Int)), none] ∧ H'' = H', fun _ _ h => h, ?_⟩
      refine ⟨_, rfl, _, _, rfl, rfl, (tagAt s i).length - (k' + 1), by omega, k' + 1, hlt, rfl, ?_, rfl⟩
      rfl
    · have ek : k' = (tagAt s i).length := by omega
      subst ek
      refine ⟨_, rfl, _, rfl, p, C, dx, _, _, rfl, hp, T.cl, T.nText, rF_text, _, rfl, hgs, _, _, rfl, rfl, _, rfl, ite2 (fun q3 => ?_) (fun _ => iteF rt)⟩
      refine ⟨_, rfl, _, rfl, p, C, dx, _, _, rfl, hp, T.cl, T.nAt, rF_at, _, _, rfl, rfl, _, _, rfl, rfl, _, rfl, ite2 (fun q4 => ?_) (fun _ => iteF rt)⟩
      have h5 : i + (tagAt s i).length < s.length := by
        have := of_decide_eq_true q3
        rw [el] at this
        omega
      have h6 : (tagAt s i).length < 8 := by
        have := of_decide_eq_true q4
        omega
      have hce : s[i + (tagAt s i).length]? = some s[i + (tagAt s i).length] := List.getElem?_eq_getElem h5
      have hna := tag_end h6 hce
      refine ⟨_, rfl, p, C, dx, _, _, rfl, hp, T.cl, T.nText, rF_text, _, rfl, st s, _, _, rfl, rfl, hgs, atI_nat hce, _, _, rfl, rfl, _, rfl, ?_⟩
      rw [abc_is, decide_eq_false hna]
      exact iteF rt
end
end Ey
set_option maxHeartbeats 4000000
namespace Ey
open PySem PySem.Spec L2
/-! ### the reader's state -/
inductive OpsAt (H : Hp) : List Addr → List Op → Prop where
  | nil : OpsAt H [] []
  | one {b : Addr} {bs : List Addr} {g : List Nat} {k : List Op} : H b = some (.lst [.str (st g)]) → isTag (st g) = true → OpsAt H bs k → OpsAt H (b :: bs) ((g, none) :: k)
  | two {b : Addr} {bs : List Addr} {g : List Nat} {l : Tr} {v : V} {k : List Op} : H b = some (.lst [.str (st g), v]) → isTag (st g) = true → TreeAt H v l → l.ok → OpsAt H bs k → OpsAt H (b :: bs) ((g, some l) :: k)
theorem OpsAt.keep {ms : List Addr} {H H1 : Hp} {bs : List Addr} {k : List Op} (q : Kp ms H H1) (h : OpsAt H bs k) (n : ∀ b ∈ bs, b ∉ ms) : OpsAt H1 bs k := by
  induction h with
  | nil => exact .nil
  | one e o _ ih => exact .one (q.at_ _ _ e (n _ List.mem_cons_self)) o (ih fun b hb => n b (List.mem_cons_of_mem _ hb))
  | two e o T ok _ ih => exact .two (q.at_ _ _ e (n _ List.mem_cons_self)) o (T.kp q) ok (ih fun b hb => n b (List.mem_cons_of_mem _ hb))
theorem OpsAt.len {H : Hp} {bs : List Addr} {k : List Op} (h : OpsAt H bs k) : bs.length = k.length := by
  induction h with
  | nil => rfl
  | one _ _ _ ih => rw [List.length_cons, List.length_cons, ih]
  | two _ _ _ _ _ ih => rw [List.length_cons, List.length_cons, ih]
/-- the nodes with a text of their own for the parts -/
def opn : Tr → Nat
  | .nil => 0
  | .nd _ l r => if (l.full || r.full) = true then 1 + opn l + opn r else 0
theorem ht_opn : ∀ t : Tr, t.ht ≤ opn t + 1
  | .nil => Nat.zero_le _
  | .nd g l r => by
    have a := ht_opn l
    have b := ht_opn r
    show max l.ht r.ht + 1 ≤ (if (l.full || r.full) = true then 1 + opn l + opn r else 0) + 1
    split
    · omega
    · rename_i h
      cases l with
      | nil => cases r with
        | nil => decide
        | nd _ _ _ => exact absurd rfl h
      | nd _ _ _ => exact absurd rfl h
theorem opn_nd (g : Str) (l r : Tr) : opn (.nd g l r) ≤ 1 + opn l + opn r := by
  show (if (l.full || r.full) = true then 1 + opn l + opn r else 0) ≤ _
  split <;> omega
def wK : List Op → Nat
  | [] => 0
  | (_, none) :: k => 1 + wK k
  | (_, some l) :: k => 1 + opn l + wK k
theorem wK_len : ∀ k : List Op, k.length ≤ wK k
  | [] => Nat.le_refl _
  | (_, none) :: k => by
    have := wK_len k
    simp only [List.length_cons, wK]
    omega
  | (_, some l) :: k => by
    have := wK_len k
    simp only [List.length_cons, wK]
    omega
/-- how often "(" is among the first i signs -/
def cO (s : List Nat) (i : Nat) : Nat := (s.take i).count 40
theorem cO_le {s : List Nat} {i j : Nat} (h : i ≤ j) : cO s i ≤ cO s j := by
  have e : s.take i = (s.take j).take i := by rw [List.take_take, Nat.min_eq_left h]
  unfold cO
  rw [e]
  exact (List.take_sublist _ _).count_le 40
theorem cO_hit {s : List Nat} {i : Nat} (h : s[i]? = some 40) : cO s (i + 1) = cO s i + 1 := by
  unfold cO
  rw [List.take_add_one, h, List.count_append]
  rfl
theorem cO_all (s : List Nat) (i : Nat) : cO s i ≤ s.count 40 := (List.take_sublist _ _).count_le 40
theorem tagAt_is {s : List Nat} {i : Nat} (h : (tagAt s i).isEmpty = false) : isTag (st (tagAt s i)) = true := by
  have el : (st (tagAt s i)).length = (tagAt s i).length := st_len _
  have l8 := tagAt_len s i
  have l1 : 1 ≤ (tagAt s i).length := by
    cases e : tagAt s i with
    | nil => rw [e] at h; cases h
    | cons _ _ => exact Nat.succ_le_succ (Nat.zero_le _)
  have ha := tagAt_abc s i
  have ec : (st (tagAt s i)).cps.toList = tagAt s i := by
    show (tagAt s i).toArray.toList = _
    simp
  show (decide (1 ≤ (st (tagAt s i)).length) && decide ((st (tagAt s i)).length ≤ 8) && (st (tagAt s i)).cps.toList.all fun c => decide (c ∈ abc)) = true
  rw [el, ec, decide_eq_true l1, decide_eq_true l8, Bool.true_and, Bool.true_and, List.all_eq_true]
  exact fun c hc => decide_eq_true (ha c hc)
structure RO (C : Addr) (s : List Nat) (H : Hp) (p a dx : Addr) (bs : List Addr) (k : List Op) (i : Nat) (v : V) : Prop where
  ins : H p = some (.ins C dx (rF s i a v))
  lst : H a = some (.lst (bs.map V.ref).reverse)
  ops : OpsAt H bs k
  nd : (a :: bs).Nodup
  il : i ≤ s.length
  hl : s.length ≤ 100000
  wk : wK k ≤ cO s i
  c58 : s.count 40 ≤ 58
section
variable {C : Addr} {s : List Nat} {H H' : Hp} {p a dx : Addr} {bs : List Addr} {k : List Op} {i : Nat} {v : V}
theorem RO.pa (R : RO C s H p a dx bs k i v) : p ≠ a := ne_of R.ins R.lst (by intro z; cases z)
theorem RO.pb (R : RO C s H p a dx bs k i v) : ∀ b ∈ bs, b ≠ p := by
  have : ∀ (bs : List Addr) (k : List Op), OpsAt H bs k → ∀ b ∈ bs, b ≠ p := by
    intro bs k h
    induction h with
    | nil => intro b hb; cases hb
    | one e _ _ ih =>
      intro b hb
      rcases List.mem_cons.mp hb with rfl | hb
      · exact ne_of e R.ins (by intro z; cases z)
      · exact ih b hb
    | two e _ _ _ _ ih =>
      intro b hb
      rcases List.mem_cons.mp hb with rfl | hb
      · exact ne_of e R.ins (by intro z; cases z)
      · exact ih b hb
  exact this _ _ R.ops
theorem RO.sz (R : RO C s H p a dx bs k i v) : bs.length ≤ 58 := by
  have h1 := R.ops.len
  have h2 := wK_len k
  have h3 := R.wk
  have h4 := cO_all s i
  have h5 := R.c58
  omega
theorem RO.lt (R : RO C s H p a dx bs k i v) : ((bs.map V.ref).reverse).length < sizeLine := by
  have := R.sz
  rw [List.length_reverse, List.length_map]
  exact Nat.lt_of_le_of_lt this (by decide)
/-- other attributes -/
theorem RO.upd_p (R : RO C s H p a dx bs k i v) (j : Nat) (w : V) (hj : j ≤ s.length) (hij : i ≤ j) : RO C s (upd H p (.ins C dx (rF s j a w))) p a dx bs k j w where
  ins := upd_same
  lst := by rw [upd_ne R.pa.symm]; exact R.lst
  ops := R.ops.keep (ms := [p]) (.put (by simp) R.ins (fun _ z => by cases z)) (fun b hb => by simp [R.pb b hb])
  nd := R.nd
  il := hj
  hl := R.hl
  wk := Nat.le_trans R.wk (cO_le hij)
  c58 := R.c58
theorem RO.kpp (R : RO C s H p a dx bs k i v) (o : HO) : Kp (p :: a :: bs) H (upd H p o) := .put (by simp) R.ins (fun _ z => by cases z)
theorem RO.new (R : RO C s H p a dx bs k i v) {q : Addr} (o : HO) (hq : H q = none) : RO C s (upd H q o) p a dx bs k i v := by
  have kn : Kp [] H (upd H q o) := .new hq
  exact ⟨kn.at_ _ _ R.ins (by simp), kn.at_ _ _ R.lst (by simp), R.ops.keep kn (fun _ _ => by simp), R.nd, R.il, R.hl, R.wk, R.c58⟩
end
theorem last_at {b : Addr} {bs : List Addr} : atI ((b :: bs).map V.ref).reverse (-1) = some (.ref b) := by
  have e : ((b :: bs).map V.ref).reverse = (bs.map V.ref).reverse ++ [V.ref b] := by simp
  rw [e]
  have l : ((bs.map V.ref).reverse ++ [V.ref b]).length = bs.length + 1 := by simp
  have j : ixN (bs.length + 1) (-1) = some bs.length := by
    unfold ixN
    rw [if_neg (by decide), if_pos (by omega)]
    congr 1
    omega
  unfold atI
  rw [l, j]
  show ((bs.map V.ref).reverse ++ [V.ref b])[bs.length]? = _
  rw [List.getElem?_append_right (by simp)]
  simp
theorem td_lay : ∀ t : Tr, t.ok → PyData.canLay0 (td t) = true
  | .nil, _ => rfl
  | .nd g l r, h => by
    have q : PyData.canLay0 (.str g) = true := by
      have a := tag_signs h.1
      simp only [PyData.canLay0, PyData.strOk, Array.all_eq_true', decide_eq_true_eq]
      intro c hc
      have a2 := h.1
      simp only [isTag, Bool.and_eq_true, List.all_eq_true, decide_eq_true_eq] at a2
      have := a2.2 c (by simpa using hc)
      simp only [abc, List.mem_cons, List.not_mem_nil, or_false] at this
      omega
    show (PyData.canLay0 (.str g) && (PyData.canLay0 (td l) && (PyData.canLay0 (td r) && true))) = true
    rw [q, td_lay l h.2.1, td_lay r h.2.2]
    rfl
theorem kp_own_all {ms bs : List Addr} {H H1 H2 : Hp} (k1 : Kp ms H H1) (k2 : Kp (ms ++ bs) H1 H2) (f : ∀ b ∈ bs, H b = none) : Kp ms H H2 := by
  refine ⟨fun b o e n => k2.at_ _ _ (k1.at_ _ _ e n) fun q => ?_, fun b xs e => k2.tup _ _ (k1.tup _ _ e)⟩
  rcases List.mem_append.mp q with q | q
  · exact n q
  · rw [f b q] at e
    cases e
end Ey
set_option maxHeartbeats 4000000
namespace Ey
open PySem PySem.Spec L2
section
variable {Pr : Program} {w : World} {K : PySem.W.Frag} {mg : Str → Option Value} {base : Heap} {C CB fB f0 f1 f2 f3 : Addr} {d0 d1 d2 d3 : FuncData}
theorem scBegin : FnScope ["self", "right_of_empty", "tag"] ["self"] (defScope (sTR 4)) := ⟨rfl, rfl, rfl, by decide +kernel, rfl, by decide +kernel, by decide +kernel⟩
def spBegin (C CB : Addr) (s : List Nat) : Sp := fun vs H Q E => ∃ (p a dx : Addr) (bs : List Addr) (k : List Op) (i : Nat) (v : V), vs = [.ref p] ∧ RO C s H p a dx bs k i v ∧
  (∀ (j : Nat) (v' : V) (t : Tr) (H' : Hp), i < j → RO C s H' p a dx bs k j v' → TreeAt H' v' t → t.ok → wK k + opn t ≤ cO s j → kont s (top s) k (rdM s (top s) i (ndOf k)) = kont s (top s) k (.good t j) → Kp (p :: a :: bs) H H' → Q (.bl true) H') ∧
  (∀ (j : Nat) (b : Addr) (k' : List Op) (v' : V) (H' : Hp), i < j → H b = none → RO C s H' p a dx (b :: bs) k' j v' → kont s (top s) k (rdM s (top s) i (ndOf k)) = kont s (top s) k' (rdM s (top s) j (ndOf k')) → Kp (p :: a :: bs) H H' → Q (.bl false) H') ∧
  (∀ (d : Addr) (H' : Hp), kont s (top s) k (rdM s (top s) i (ndOf k)) = .bad i → H' d = some (.xd [("at", .int (i : Nat))]) → Kp (p :: a :: bs) H H' → E (.ref CB) (some d) H')
theorem shaped_one {x : PyData} (h : PyData.canLay0 x = true) (d : x.depth ≤ 62) : SeqAt.shaped (.list [x]) = true := by
  show (PyData.canLayAll0 [x] && decide (PyData.depthAll [x] + 1 ≤ 64)) = true
  have e1 : PyData.canLayAll0 [x] = true := by
    show (PyData.canLay0 x && true) = true
    rw [h]
    rfl
  have e2 : PyData.depthAll [x] = max x.depth 0 := rfl
  rw [e1, decide_eq_true (by omega)]
  rfl
theorem ok_begin (T : TF K mg C CB fB) (D0 : Mt K C "comes" "TreeReader.comes" (sTR 1) ["self", "sign"] f0 d0) (D2 : Mt K C "take_tag" "TreeReader.take_tag" (sTR 3) ["self"] f2 d2) (F : Fun K "begin" "TreeReader.begin" (sTR 4) f3 d3) (s : List Nat) :
    FnOk Pr w K mg base (L2.CX Pr w) 4 f3 d3 ["self"] (spBegin C CB s) := by
  refine F.okX scBegin (fun vs H Q E h => ?_) (fun cdv Ar outer s0 H vs Q E hr h => ?_)
  · obtain ⟨p, a, dx, bs, k, i, v, rfl, _⟩ := h
    rfl
  · obtain ⟨p, a, dx, bs, k, i, v, rfl, R, kT, kF, kE⟩ := h
    have hr1 : Room 1 _ := hr.mono (by decide)
    have g1 : FnOk Pr w K mg base CX0 1 f0 d0 ["self", "sign"] (spComes C s) := ok_comes T D0.F s
    have g3 : FnOk Pr w K mg base (L2.CX Pr w) 3 f2 d2 ["self"] (spTagR C CB s) := ok_tagR T D2.F s
    -- from take_tag on
    obtain ⟨t2, dt2, rt2⟩ : ∃ tt, PSs (cxOf (L2.CX Pr w) Pr w K mg base ["self", "right_of_empty", "tag"] "TreeReader.begin" (defScope (sTR 4)) f3 cdv Ar outer s0 H E) ((defBody (sTR 4)).drop 2) tt ∧
        ∀ (H1 : Hp) (x : V), RO C s H1 p a dx bs k i v → Kp (p :: a :: bs) H H1 → (∀ b, H1 b = none → H b = none) → (s[i]? = some 45 → ndOf k = true) → tt { nx := fun _ H' => Q .non H', rt := Q } [some (.ref p), some x, none] H1 := by
      refine ⟨_, pss_cons (ps_set (i := 2) scBegin.nd rfl (.inl rfl) (pe_meth0 (E := E) (pv 0) T.cl D2.m g3 hr D2.b .nil (passes_call (takes_of rfl rfl rfl rfl) (fun _ _ _ _ h => h))))
        (pss_cons (ps_if (pt_val (pe_meth (pv 0) T.cl D0.m g1 hr1 D0.b .nil pass0 (by exact (pa_cons pe_str pa_nil))))
          (pss_cons (ps_fldaug (pv 0) pe_int in_add) (pss_cons (ps_expr (pe_bm PySem.F.plainAttrs_list PySem.F.slot_list_append PySem.F.type_list_append mt_append (pe_fld (pv 0) rfl) (pa_cons (pe_lst (pa_cons (pv 2) pa_nil)) pa_nil))) (pss_one (ps_ret pe_bl)))) pss_nil)
        (pss_cons (ps_fld (pv 0) (pe_tup (pa_cons (pv 2) (pa_cons pe_non (pa_cons pe_non pa_nil)))) rfl) (pss_one (ps_ret pe_bl)))), ?_⟩
      intro H1 x R1 k1 fr h45
      refine ⟨_, rfl, p, dx, _, rfl, R1.ins, rF_none, p, a, dx, v, i, rfl, R1.ins, R1.il, R1.hl, fun he => ?_, fun he d hd => ?_⟩
      · have tf := tag_fits R1.il
        have l1 : 1 ≤ (tagAt s i).length := by
          cases e : tagAt s i with
          | nil => rw [e] at he; cases he
          | cons _ _ => exact Nat.succ_le_succ (Nat.zero_le _)
        have R2 := R1.upd_p (i + (tagAt s i).length) v tf (by omega)
        have k2 := k1.trans (R1.kpp (.ins C dx (rF s (i + (tagAt s i).length) a v)))
        have fr2 : ∀ b, (upd H1 p (.ins C dx (rF s (i + (tagAt s i).length) a v))) b = none → H b = none := fun b hb => by
          refine fr b ?_
          by_cases e : b = p
          · rw [e, upd_same] at hb
            cases hb
          · rw [upd_ne e] at hb
            exact hb
        generalize upd H1 p (.ins C dx (rF s (i + (tagAt s i).length) a v)) = H2 at R2 k2 fr2
        refine ⟨_, rfl, p, dx, _, rfl, R2.ins, rF_none, p, a, dx, v, _, 40, by rw [s_open]; rfl, R2.ins, R2.il, R2.hl, _, rfl, ?_⟩
        by_cases h40 : s[i + (tagAt s i).length]? = some 40
        · rw [decide_eq_true h40]
          have hlt : i + (tagAt s i).length < s.length := (List.getElem?_eq_some_iff.mp h40).1
          refine iteT ⟨_, rfl, p, C, dx, _, _, rfl, R2.ins, T.cl, T.nAt, rF_at, _, _, rfl, rfl, dx, _, R2.ins, rF_sz, ?_⟩
          rw [rF_put1]
          have R3 := R2.upd_p (i + (tagAt s i).length + 1) v hlt (by omega)
          have k3 := k2.trans (R2.kpp (.ins C dx (rF s (i + (tagAt s i).length + 1) a v)))
          have fr3 : ∀ b, (upd H2 p (.ins C dx (rF s (i + (tagAt s i).length + 1) a v))) b = none → H b = none := fun b hb => by
            refine fr2 b ?_
            by_cases e : b = p
            · rw [e, upd_same] at hb
              cases hb
            · rw [upd_ne e] at hb
              exact hb
          generalize upd H2 p (.ins C dx (rF s (i + (tagAt s i).length + 1) a v)) = H3 at R3 k3 fr3
          refine ⟨_, rfl, p, C, dx, _, _, rfl, R3.ins, T.cl, T.nOpened, rF_opened, .inl ⟨rfl, _, sql_of R3.lst⟩, _, rfl, by show 1 ≤ sizeLine; decide, fun b nb => ?_⟩
          have R4 := R3.new (.lst [.str (st (tagAt s i))]) nb
          have k4 := k3.trans (Kp.new (ms := p :: a :: bs) (o := .lst [.str (st (tagAt s i))]) nb)
          have eb : (upd H3 b (.lst [.str (st (tagAt s i))])) b = some (.lst [.str (st (tagAt s i))]) := upd_same
          have nbp : b ≠ p := (ne_of_none R3.ins nb).symm
          have nba : b ≠ a := (ne_of_none R3.lst nb).symm
          have nbb : b ∉ bs := fun hb => by
            have : ∀ (bs : List Addr) (k : List Op), OpsAt H3 bs k → b ∈ bs → False := by
              intro bs k h
              induction h with
              | nil => intro hb; cases hb
              | one e _ _ ih =>
                intro hb
                rcases List.mem_cons.mp hb with rfl | hb
                · rw [nb] at e; cases e
                · exact ih hb
              | two e _ _ _ _ ih =>
                intro hb
                rcases List.mem_cons.mp hb with rfl | hb
                · rw [nb] at e; cases e
                · exact ih hb
            exact this _ _ R3.ops hb
          have fb := fr3 b nb
          generalize upd H3 b (.lst [.str (st (tagAt s i))]) = H4 at R4 k4 eb
          refine ⟨a, _, _, rfl, rfl, R4.lst, R4.lt, ?_⟩
          have kk : Kp [a] H4 (upd H4 a (.lst ((bs.map V.ref).reverse ++ [.ref b]))) := .put (by simp) R4.lst (fun _ z => by cases z)
          have na : ∀ b ∈ bs, b ∉ [a] := fun b hb q => (List.nodup_cons.mp R4.nd).1 (by rw [← List.mem_singleton.mp q]; exact hb)
          refine kF _ b ((tagAt s i, none) :: k) v _ (by omega) fb ⟨kk.at_ _ _ R4.ins (by simp [R4.pa]), ?_, .one (kk.at_ _ _ eb (by simp [nba])) (tagAt_is he) (R4.ops.keep kk na), ?_, R4.il, R4.hl, ?_, R4.c58⟩ (rd_open he h40) (k4.trans (.put (by simp) R4.lst (fun _ z => by cases z)))
          · rw [upd_same]
            simp
          · refine List.nodup_cons.mpr ⟨?_, List.nodup_cons.mpr ⟨nbb, (List.nodup_cons.mp R4.nd).2⟩⟩
            intro q
            rcases List.mem_cons.mp q with q | q
            · exact nba q.symm
            · exact (List.nodup_cons.mp R4.nd).1 q
          · have w1 := R1.wk
            have w2 := cO_le (s := s) (i := i) (j := i + (tagAt s i).length) (by omega)
            have w3 := cO_hit h40
            show 1 + wK k ≤ _
            omega
        · rw [decide_eq_false h40]
          refine iteF ⟨_, rfl, by show 3 ≤ sizeLine; decide, fun q nq => ⟨_, rfl, p, C, dx, _, rfl, (R2.new _ nq).ins, T.cl, T.nTree, rF_sz, ?_⟩⟩
          rw [rF_putTree]
          have R3 := R2.new (.tup [.str (st (tagAt s i)), .non, .non]) nq
          have k3 := k2.trans (Kp.new (ms := p :: a :: bs) (o := .tup [.str (st (tagAt s i)), .non, .non]) nq)
          have eq3 : (upd H2 q (.tup [.str (st (tagAt s i)), .non, .non])) q = some (.tup [.str (st (tagAt s i)), .non, .non]) := upd_same
          generalize upd H2 q (.tup [.str (st (tagAt s i)), .non, .non]) = H3 at R3 k3 eq3
          have R4 := R3.upd_p (i + (tagAt s i).length) (.ref q) tf (Nat.le_refl _)
          have kk := R3.kpp (.ins C dx (rF s (i + (tagAt s i).length) a (.ref q)))
          refine kT _ (.ref q) (.nd (st (tagAt s i)) .nil .nil) _ (by omega) R4 ((TreeAt.nd eq3 .nil .nil).kp kk) ⟨tagAt_is he, trivial, trivial⟩ ?_ ?_ (k3.trans kk)
          · have w1 := R1.wk
            have w2 := cO_le (s := s) (i := i) (j := i + (tagAt s i).length) (by omega)
            show wK k + 0 ≤ _
            omega
          · rw [rd_leaf he h40]
      · refine kE d _ ?_ upd_same (k1.trans (.new hd))
        rw [rd_none h45 he]
        exact kont_bad _ _ _ _
    -- behind the first row
    obtain ⟨tt, dt, rt⟩ : ∃ tt, PSs (cxOf (L2.CX Pr w) Pr w K mg base ["self", "right_of_empty", "tag"] "TreeReader.begin" (defScope (sTR 4)) f3 cdv Ar outer s0 H E) ((defBody (sTR 4)).drop 1) tt ∧
        ∀ (H1 : Hp) (x : V), RO C s H1 p a dx bs k i v → Kp (p :: a :: bs) H H1 → (∀ b, H1 b = none → H b = none) → TruV K x H1 (ndOf k) → tt { nx := fun _ H' => Q .non H', rt := Q } [some (.ref p), some x, none] H1 := by
      refine ⟨_, pss_cons (ps_if (PW.pt (pw_and (pt_val (pe_meth (pv 0) T.cl D0.m g1 hr1 D0.b .nil pass0 (by exact (pa_cons pe_str pa_nil)))) (pw_and1 (pt_not (pt_truth (pv 1) (by intro _; rfl))))))
          (pss_cons (ps_fldaug (pv 0) pe_int in_add) (pss_cons (ps_fld (pv 0) pe_non rfl) (pss_one (ps_ret pe_bl)))) pss_nil) dt2, ?_⟩
      intro H1 x R1 k1 fr hT
      refine ⟨_, rfl, p, dx, _, rfl, R1.ins, rF_none, p, a, dx, v, i, 45, by rw [s_minus]; rfl, R1.ins, R1.il, R1.hl, _, rfl, ?_⟩
      by_cases h45 : s[i]? = some 45
      · rw [decide_eq_true h45]
        refine iteT ⟨_, rfl, _, hT, ?_⟩
        cases hn : ndOf k with
        | true => exact iteF (rt2 H1 x R1 k1 fr (fun _ => hn))
        | false =>
          have hlt : i < s.length := (List.getElem?_eq_some_iff.mp h45).1
          refine iteT ⟨_, rfl, p, C, dx, _, _, rfl, R1.ins, T.cl, T.nAt, rF_at, _, _, rfl, rfl, dx, _, R1.ins, rF_sz, ?_⟩
          rw [rF_put1]
          have R2 := R1.upd_p (i + 1) v hlt (by omega)
          have k2 := k1.trans (R1.kpp (.ins C dx (rF s (i + 1) a v)))
          generalize upd H1 p (.ins C dx (rF s (i + 1) a v)) = H2 at R2 k2
          refine ⟨_, rfl, p, C, dx, _, rfl, R2.ins, T.cl, T.nTree, rF_sz, ?_⟩
          rw [rF_putTree]
          refine kT (i + 1) .non .nil _ (by omega) (R2.upd_p (i + 1) .non hlt (Nat.le_refl _)) .nil trivial ?_ ?_ (k2.trans (R2.kpp _))
          · have w1 := R1.wk
            have w2 := cO_le (s := s) (i := i) (j := i + 1) (by omega)
            show wK k + 0 ≤ _
            omega
          · rw [hn, rd_minus h45]
      · rw [decide_eq_false h45]
        exact iteF (rt2 H1 x R1 k1 fr (fun q => absurd q h45))
    refine ⟨_, pss_cons (ps_set (i := 1) scBegin.nd rfl (.inl rfl) (pe_andT (pe_fld (pv 0) rfl) (pe_one (pe_cmpR (op_eqD hr.units) (pe_slice sl_list (pe_ix ix_list (pe_fld (pv 0) rfl) (pe_un un_neg pe_int) (fun _ _ => rfl)) (po_some pe_int) po_none) (pe_lst (pa_cons pe_non pa_nil)) (nomark _))))) dt, ?_⟩
    refine ⟨_, rfl, p, C, dx, _, _, rfl, R.ins, T.cl, T.nOpened, rF_opened, _, .inl ⟨_, sql_of R.lst, rfl⟩, ?_⟩
    have cmp : ∀ (b : Addr) (bs' : List Addr) (xs : List V) (ys : List PyData), bs = b :: bs' → H b = some (.lst xs) → DpAll K H (cutV xs (some 1) none) ys → (∀ H1, Kp [] H H1 → DpAll K H1 (cutV xs (some 1) none) ys) → SeqAt.shaped (.list ys) = true → PyData.eqv (.list ys) (.list [.none]) = ndOf k → True := fun _ _ _ _ _ _ _ _ _ _ => trivial
    clear cmp
    have oc := R.ops
    have RR := R
    cases oc with
    | nil =>
      refine iteF ?_
      exact rt H (.ref a) R .refl (fun _ h => h) (.inl ⟨_, sql_of R.lst, rfl⟩)
    | @one b bs' g k' eb og ho =>
      have e0 : (!(((b :: bs').map V.ref).reverse).isEmpty) = true := by simp
      rw [e0]
      refine iteT ⟨_, rfl, p, C, dx, _, _, rfl, R.ins, T.cl, T.nOpened, rF_opened, 1, rfl, a, _, _, .ref b, rfl, rfl, sql_of R.lst, last_at, 1, rfl, b, _, rfl, sql_of eb, fun c nc => ?_⟩
      refine ⟨by show 1 ≤ sizeLine; decide, fun e ne => ?_⟩
      have R1 := (R.new (.lst (cutV [V.str (st g)] (some 1) none)) nc)
      have R2 := R1.new (.lst [.non]) ne
      have k2 : Kp (p :: a :: b :: bs') H (upd (upd H c (.lst (cutV [V.str (st g)] (some 1) none))) e (.lst [.non])) := (Kp.new nc).trans (.new ne)
      have kn : Kp [] H (upd (upd H c (.lst (cutV [V.str (st g)] (some 1) none))) e (.lst [.non])) := (Kp.new nc).trans (.new ne)
      have ec : (upd (upd H c (.lst (cutV [V.str (st g)] (some 1) none))) e (.lst [.non])) c = some (.lst []) := by
        rw [upd_ne (ne_of_none (H := upd H c (.lst (cutV [V.str (st g)] (some 1) none))) upd_same ne), upd_same]
        rfl
      have ee : (upd (upd H c (.lst (cutV [V.str (st g)] (some 1) none))) e (.lst [.non])) e = some (.lst [.non]) := upd_same
      generalize upd (upd H c (.lst (cutV [V.str (st g)] (some 1) none))) e (.lst [.non]) = H2 at R2 k2 kn ec ee
      refine ⟨.list [], .list [.none], .lst (sql_of ec) .nil, .lst (sql_of ee) (.cons .non .nil), rfl, rfl, ?_⟩
      exact rt H2 _ R2 k2 (fun q hq => kn.free hq List.not_mem_nil) rfl
    | @two b bs' g l vl k' eb og TL ol ho =>
      have e0 : (!(((b :: bs').map V.ref).reverse).isEmpty) = true := by simp
      rw [e0]
      refine iteT ⟨_, rfl, p, C, dx, _, _, rfl, R.ins, T.cl, T.nOpened, rF_opened, 1, rfl, a, _, _, .ref b, rfl, rfl, sql_of R.lst, last_at, 1, rfl, b, _, rfl, sql_of eb, fun c nc => ?_⟩
      refine ⟨by show 1 ≤ sizeLine; decide, fun e ne => ?_⟩
      have R1 := (R.new (.lst (cutV [V.str (st g), vl] (some 1) none)) nc)
      have R2 := R1.new (.lst [.non]) ne
      have k2 : Kp (p :: a :: b :: bs') H (upd (upd H c (.lst (cutV [V.str (st g), vl] (some 1) none))) e (.lst [.non])) := (Kp.new nc).trans (.new ne)
      have kn : Kp [] H (upd (upd H c (.lst (cutV [V.str (st g), vl] (some 1) none))) e (.lst [.non])) := (Kp.new nc).trans (.new ne)
      have ec : (upd (upd H c (.lst (cutV [V.str (st g), vl] (some 1) none))) e (.lst [.non])) c = some (.lst [vl]) := by
        rw [upd_ne (ne_of_none (H := upd H c (.lst (cutV [V.str (st g), vl] (some 1) none))) upd_same ne), upd_same]
        rfl
      have ee : (upd (upd H c (.lst (cutV [V.str (st g), vl] (some 1) none))) e (.lst [.non])) e = some (.lst [.non]) := upd_same
      have T2 := TL.kp kn
      generalize upd (upd H c (.lst (cutV [V.str (st g), vl] (some 1) none))) e (.lst [.non]) = H2 at R2 k2 kn ec ee T2
      have dep : (td l).depth ≤ 62 := by
        have h1 := td_depth l
        have h2 := ht_opn l
        have h3 := R.wk
        have h4 := cO_all s i
        have h5 := R.c58
        have h6 : wK ((g, some l) :: k') = 1 + opn l + wK k' := rfl
        omega
      refine ⟨.list [td l], .list [.none], .lst (sql_of ec) (.cons T2.dp .nil), .lst (sql_of ee) (.cons .non .nil), shaped_one (td_lay l ol) dep, rfl, ?_⟩
      have ev : PyData.eqv (.list [td l]) (.list [.none]) = !l.full := by cases l <;> rfl
      rw [ev]
      exact rt H2 _ R2 k2 (fun q hq => kn.free hq List.not_mem_nil) rfl
end
end Ey
set_option maxHeartbeats 4000000
namespace Ey
open PySem PySem.Spec L2
section
variable {Pr : Program} {w : World} {K : PySem.W.Frag} {mg : Str → Option Value} {base : Heap} {C CB fB f0 f1 f2 f3 : Addr} {d0 d1 d2 d3 : FuncData}
theorem scFinish : FnScope ["self", "tag", "left"] ["self"] (defScope (sTR 5)) := ⟨rfl, rfl, rfl, by decide +kernel, rfl, by decide +kernel, by decide +kernel⟩
def spFinish (C CB : Addr) (s : List Nat) : Sp := fun vs H Q E => ∃ (p a dx : Addr) (bs : List Addr) (k : List Op) (i : Nat) (v : V) (t : Tr), vs = [.ref p] ∧ RO C s H p a dx bs k i v ∧ TreeAt H v t ∧ t.ok ∧ wK k + opn t ≤ cO s i ∧
  (∀ (j : Nat) (v' : V) (t' : Tr) (H' : Hp), i ≤ j → RO C s H' p a dx [] [] j v' → TreeAt H' v' t' → t'.ok → kont s (top s) k (.good t i) = .good t' j → Kp (p :: a :: bs) H H' → Q (.bl true) H') ∧
  (∀ (j : Nat) (bs' : List Addr) (k' : List Op) (v' : V) (H' : Hp), i ≤ j → (∀ b ∈ bs', b ∈ bs) → RO C s H' p a dx bs' k' j v' → kont s (top s) k (.good t i) = kont s (top s) k' (rdM s (top s) j (ndOf k')) → Kp (p :: a :: bs) H H' → Q (.bl false) H') ∧
  (∀ (d : Addr) (q : Nat) (H' : Hp), kont s (top s) k (.good t i) = .bad q → H' d = some (.xd [("at", .int (q : Nat))]) → Kp (p :: a :: bs) H H' → E (.ref CB) (some d) H')
theorem ok_finish (T : TF K mg C CB fB) (D0 : Mt K C "comes" "TreeReader.comes" (sTR 1) ["self", "sign"] f0 d0) (D1 : Mt K C "take" "TreeReader.take" (sTR 2) ["self", "sign"] f1 d1) (F : Fun K "finish" "TreeReader.finish" (sTR 5) f3 d3) (s : List Nat) :
    FnOk Pr w K mg base (L2.CX Pr w) 4 f3 d3 ["self"] (spFinish C CB s) := by
  refine F.okX scFinish (fun vs H Q E h => ?_) (fun cdv Ar outer s0 H vs Q E hr h => ?_)
  · obtain ⟨p, a, dx, bs, k, i, v, t, rfl, _⟩ := h
    rfl
  · obtain ⟨p, a, dx, bs, k, i, v, t, rfl, R, TT, tok, wt0, kT, kF, kE⟩ := h
    have g3 : FnOk Pr w K mg base (L2.CX Pr w) 3 f1 d1 ["self", "sign"] (spTake C CB s) := ok_take T D0 D1.F s
    obtain ⟨tt, dt, rt⟩ : ∃ tt, PSs (cxOf (L2.CX Pr w) Pr w K mg base ["self", "tag", "left"] "TreeReader.finish" (defScope (sTR 5)) f3 cdv Ar outer s0 H E) ((defBody (sTR 5)).drop 1) tt ∧
        ∀ (H1 : Hp) (y1 y2 : Option V) (bs1 : List Addr) (k1 : List Op) (j : Nat) (v1 : V) (t1 : Tr), RO C s H1 p a dx bs1 k1 j v1 → TreeAt H1 v1 t1 → t1.ok → wK k1 + opn t1 ≤ cO s j → i ≤ j → (∀ b ∈ bs1, b ∈ bs) → kont s (top s) k (.good t i) = kont s (top s) k1 (.good t1 j) → Kp (p :: a :: bs) H H1 →
          (k1 = [] ∨ ∃ g k2, k1 = (g, none) :: k2) → tt { nx := fun _ H' => Q .non H', rt := Q } [some (.ref p), y1, y2] H1 := by
      refine ⟨_, pss_cons (ps_if (pt_not (pt_truth (pe_fld (pv 0) rfl) (by intro _; rfl))) (pss_one (ps_ret pe_bl)) pss_nil)
        (pss_cons (ps_expr (pe_meth (E := E) (pv 0) T.cl D1.m g3 hr D1.b .nil (passes_call (takes_of rfl rfl rfl rfl) (fun _ _ _ _ h => h)) (by exact (pa_cons pe_str pa_nil))))
        (pss_cons (ps_expr (pe_bm PySem.F.plainAttrs_list PySem.F.slot_list_append PySem.F.type_list_append mt_append (pe_ix ix_list (pe_fld (pv 0) rfl) (pe_un un_neg pe_int) (fun _ _ => rfl)) (pa_cons (pe_fld (pv 0) rfl) pa_nil)))
        (pss_one (ps_ret pe_bl)))), ?_⟩
      intro H1 y1 y2 bs1 k1 j v1 t1 R1 T1 o1 w1 hij sub hk kp hform
      have oc := R1.ops
      refine ⟨_, rfl, p, C, dx, _, _, rfl, R1.ins, T.cl, T.nOpened, rF_opened, _, .inl ⟨_, sql_of R1.lst, rfl⟩, ?_⟩
      cases oc with
      | nil => exact iteT (kT j v1 t1 H1 hij R1 T1 o1 hk kp)
      | @two b bs' g l vl k' eb og TL ol ho =>
        rcases hform with z | ⟨_, _, z⟩ <;> cases z
      | @one b bs' g k' eb og ho =>
        have e0 : (!(!(((b :: bs').map V.ref).reverse).isEmpty)) = false := by simp
        rw [e0]
        refine iteF ⟨_, rfl, p, dx, _, rfl, R1.ins, rF_none, p, a, dx, v1, j, 44, by rw [s_comma]; rfl, R1.ins, R1.il, R1.hl, fun h44 => ?_, fun n44 d hd => ?_⟩
        · have hlt : j < s.length := (List.getElem?_eq_some_iff.mp h44).1
          have R2 := R1.upd_p (j + 1) v1 hlt (by omega)
          have kk2 := R1.kpp (.ins C dx (rF s (j + 1) a v1))
          have T2 := T1.kp kk2
          have kp2 : Kp (p :: a :: bs) H (upd H1 p (.ins C dx (rF s (j + 1) a v1))) := kp.trans (.put (by simp) R1.ins (fun _ z => by cases z))
          have eb2 : (upd H1 p (.ins C dx (rF s (j + 1) a v1))) b = some (.lst [.str (st g)]) := by
            rw [upd_ne (R1.pb b List.mem_cons_self)]
            exact eb
          have ho2 : OpsAt (upd H1 p (.ins C dx (rF s (j + 1) a v1))) bs' k' := ho.keep (ms := [p]) (.put (by simp) R1.ins (fun _ z => by cases z)) (fun b hb => by simp [R1.pb b (List.mem_cons_of_mem _ hb)])
          generalize upd H1 p (.ins C dx (rF s (j + 1) a v1)) = H2 at R2 T2 kp2 eb2 ho2
          refine ⟨_, rfl, p, C, dx, _, _, rfl, R2.ins, T.cl, T.nOpened, rF_opened, 1, rfl, a, _, _, .ref b, rfl, rfl, sql_of R2.lst, last_at, .inl ⟨rfl, _, sql_of eb2⟩, _, rfl, p, C, dx, _, _, rfl, R2.ins, T.cl, T.nTree, rF_tree, b, _, _, rfl, rfl, eb2, by show 1 < sizeLine; decide, ?_⟩
          have kk : Kp [b] H2 (upd H2 b (.lst ([.str (st g)] ++ [v1]))) := .put (by simp) eb2 (fun _ z => by cases z)
          have nba : a ≠ b := fun q => (List.nodup_cons.mp R2.nd).1 (by rw [q]; exact List.mem_cons_self)
          have nbb : ∀ x ∈ bs', x ∉ [b] := fun x hx q => (List.nodup_cons.mp (List.nodup_cons.mp R2.nd).2).1 (by rw [← List.mem_singleton.mp q]; exact hx)
          refine kF (j + 1) (b :: bs') ((g, some t1) :: k') v1 _ (by omega) sub ⟨kk.at_ _ _ R2.ins (by simp [(R2.pb b List.mem_cons_self).symm]), kk.at_ _ _ R2.lst (by simp [nba]), .two (by rw [upd_same]; rfl) og (T2.kp kk) o1 (ho2.keep kk nbb), R2.nd, R2.il, R2.hl, ?_, R2.c58⟩ ?_ (kp2.trans (.put (by simp [sub b List.mem_cons_self]) eb2 (fun _ z => by cases z)))
          · have w3 := cO_le (s := s) (i := j) (j := j + 1) (by omega)
            simp only [wK] at w1 ⊢
            omega
          · rw [hk]
            show (if s[j]? = some 44 then closeR s g t1 (kont s (top s) k') (rdM s (top s) (j + 1) (!t1.full)) else .bad j) = _
            rw [if_pos h44]
            rfl
        · refine kE d j _ ?_ upd_same (kp.trans (.new hd))
          rw [hk]
          show (if s[j]? = some 44 then closeR s g t1 (kont s (top s) k') (rdM s (top s) (j + 1) (!t1.full)) else .bad j) = _
          rw [if_neg n44]
    refine ⟨_, pss_cons (ps_while (passes_of rfl) (PW.pt (pw_and (pt_truth (pe_fld (pv 0) rfl) (by intro _; rfl)) (pw_and1 (pt_cmpR op_eq (pe_callB call_len_seq (by rfl) T.B.len PySem.boot_len (pa_cons (pe_ix ix_list (pe_fld (pv 0) rfl) (pe_un un_neg pe_int) (fun _ _ => rfl)) pa_nil)) pe_int (nomark _)))))
        (pss_cons (ps_expr (pe_meth (E := E) (pv 0) T.cl D1.m g3 hr D1.b .nil (passes_call (takes_of rfl rfl rfl rfl) (fun _ _ _ _ h => h)) (by exact (pa_cons pe_str pa_nil))))
        (pss_cons (ps_asg (pe_bm0 PySem.F.plainAttrs_list PySem.F.slot_list_pop PySem.F.type_list_pop mt_pop (pe_fld (pv 0) rfl)) (pg_lst (n := 2) rfl (pgs_cons (pg_name (i := 1) scFinish.nd rfl (.inl rfl)) (pgs_cons (pg_name (i := 2) scFinish.nd rfl (.inl rfl)) pgs_nil))))
        (pss_one (ps_fld (pv 0) (pe_tup (pa_cons (pv 1) (pa_cons (pv 2) (pa_cons (pe_fld (pv 0) rfl) pa_nil)))) rfl))))) dt, ?_⟩
    refine ⟨fun m σ H1 => ∃ (y1 y2 : Option V) (bs1 : List Addr) (k1 : List Op) (j : Nat) (v1 : V) (t1 : Tr), σ = [some (.ref p), y1, y2] ∧ m = k1.length ∧ RO C s H1 p a dx bs1 k1 j v1 ∧ TreeAt H1 v1 t1 ∧ t1.ok ∧ wK k1 + opn t1 ≤ cO s j ∧ i ≤ j ∧ (∀ b ∈ bs1, b ∈ bs) ∧ kont s (top s) k (.good t i) = kont s (top s) k1 (.good t1 j) ∧ Kp (p :: a :: bs) H H1,
      ⟨_, none, none, bs, k, i, v, t, rfl, rfl, R, TT, tok, wt0, Nat.le_refl _, fun _ h => h, rfl, .refl⟩, fun m σ H1 hw => ?_⟩
    obtain ⟨y1, y2, bs1, k1, j, v1, t1, rfl, rfl, R1, T1, o1, w1, hij, sub, hk, kp⟩ := hw
    have oc := R1.ops
    refine ⟨_, rfl, p, C, dx, _, _, rfl, R1.ins, T.cl, T.nOpened, rF_opened, _, .inl ⟨_, sql_of R1.lst, rfl⟩, ?_⟩
    cases oc with
    | nil => exact iteF (rt H1 y1 y2 [] [] j v1 t1 R1 T1 o1 w1 hij sub hk kp (.inl rfl))
    | @one b bs' g k' eb og ho =>
      have e0 : (!(((b :: bs').map V.ref).reverse).isEmpty) = true := by simp
      rw [e0]
      refine iteT ⟨_, rfl, p, C, dx, _, _, rfl, R1.ins, T.cl, T.nOpened, rF_opened, 1, rfl, a, _, _, .ref b, rfl, rfl, sql_of R1.lst, last_at, b, _, rfl, .inl (sql_of eb), rfl, _, rfl, iteF ?_⟩
      exact rt H1 y1 y2 _ _ j v1 t1 R1 T1 o1 w1 hij sub hk kp (.inr ⟨_, _, rfl⟩)
    | @two b bs' g l vl k' eb og TL ol ho =>
      have e0 : (!(((b :: bs').map V.ref).reverse).isEmpty) = true := by simp
      rw [e0]
      refine iteT ⟨_, rfl, p, C, dx, _, _, rfl, R1.ins, T.cl, T.nOpened, rF_opened, 1, rfl, a, _, _, .ref b, rfl, rfl, sql_of R1.lst, last_at, b, _, rfl, .inl (sql_of eb), rfl, _, rfl, iteT ?_⟩
      refine ⟨fun σ' H' => ∃ m', m' < ((g, some l) :: k').length ∧ ∃ (y1 y2 : Option V) (bs1 : List Addr) (k1 : List Op) (j : Nat) (v1 : V) (t1 : Tr), σ' = [some (.ref p), y1, y2] ∧ m' = k1.length ∧ RO C s H' p a dx bs1 k1 j v1 ∧ TreeAt H' v1 t1 ∧ t1.ok ∧ wK k1 + opn t1 ≤ cO s j ∧ i ≤ j ∧ (∀ b ∈ bs1, b ∈ bs) ∧ kont s (top s) k (.good t i) = kont s (top s) k1 (.good t1 j) ∧ Kp (p :: a :: bs) H H', fun _ _ h => h, ?_⟩
      have hkk : kont s (top s) k (.good t i) = if s[j]? = some 41 then kont s (top s) k' (.good (.nd (st g) l t1) (j + 1)) else .bad j := hk
      refine ⟨_, rfl, p, dx, _, rfl, R1.ins, rF_none, p, a, dx, v1, j, 41, by rw [s_close]; rfl, R1.ins, R1.il, R1.hl, fun h41 => ?_, fun n41 d hd => ?_⟩
      · have hlt : j < s.length := (List.getElem?_eq_some_iff.mp h41).1
        rw [if_pos h41] at hkk
        have R2 := R1.upd_p (j + 1) v1 hlt (by omega)
        have kk2 := R1.kpp (.ins C dx (rF s (j + 1) a v1))
        have T2 := T1.kp kk2
        have TL2 := TL.kp kk2
        have kp2 : Kp (p :: a :: bs) H (upd H1 p (.ins C dx (rF s (j + 1) a v1))) := kp.trans (.put (by simp) R1.ins (fun _ z => by cases z))
        have eb2 : (upd H1 p (.ins C dx (rF s (j + 1) a v1))) b = some (.lst [.str (st g), vl]) := by
          rw [upd_ne (R1.pb b List.mem_cons_self)]
          exact eb
        have ho2 : OpsAt (upd H1 p (.ins C dx (rF s (j + 1) a v1))) bs' k' := ho.keep (ms := [p]) (.put (by simp) R1.ins (fun _ z => by cases z)) (fun b hb => by simp [R1.pb b (List.mem_cons_of_mem _ hb)])
        generalize upd H1 p (.ins C dx (rF s (j + 1) a v1)) = H2 at R2 T2 TL2 kp2 eb2 ho2
        refine ⟨_, rfl, p, C, dx, _, _, rfl, R2.ins, T.cl, T.nOpened, rF_opened, .inl ⟨rfl, _, sql_of R2.lst⟩, a, _, .ref b, rfl, rfl, R2.lst, pile_top (.ref b) (bs'.map V.ref), ?_⟩
        have pp : (((b :: bs').map V.ref).reverse).dropLast = (bs'.map V.ref).reverse := pile_pop (.ref b) (bs'.map V.ref)
        rw [pp]
        have nba : a ≠ b := fun q => (List.nodup_cons.mp R2.nd).1 (by rw [q]; exact List.mem_cons_self)
        have nab : ∀ x ∈ bs', x ∉ [a] := fun x hx q => (List.nodup_cons.mp R2.nd).1 (by rw [← List.mem_singleton.mp q]; exact List.mem_cons_of_mem _ hx)
        have kk : Kp [a] H2 (upd H2 a (.lst (bs'.map V.ref).reverse)) := .put (by simp) R2.lst (fun _ z => by cases z)
        have nd' : (a :: bs').Nodup := List.nodup_cons.mpr ⟨fun q => (List.nodup_cons.mp R2.nd).1 (List.mem_cons_of_mem _ q), (List.nodup_cons.mp (List.nodup_cons.mp R2.nd).2).2⟩
        have w3 := cO_le (s := s) (i := j) (j := j + 1) (by omega)
        have w4 : wK k' + opn (.nd (st g) l t1) ≤ cO s (j + 1) := by
          have := opn_nd (st g) l t1
          simp only [wK] at w1
          omega
        have R3 : RO C s (upd H2 a (.lst (bs'.map V.ref).reverse)) p a dx bs' k' (j + 1) v1 := ⟨kk.at_ _ _ R2.ins (by simp [R2.pa]), upd_same, ho2.keep kk nab, nd', R2.il, R2.hl, by omega, R2.c58⟩
        have eb3 := kk.at_ _ _ eb2 (by simp [nba.symm])
        have T3 := T2.kp kk
        have TL3 := TL2.kp kk
        have kp3 : Kp (p :: a :: bs) H (upd H2 a (.lst (bs'.map V.ref).reverse)) := kp2.trans (.put (by simp) R2.lst (fun _ z => by cases z))
        generalize upd H2 a (.lst (bs'.map V.ref).reverse) = H3 at R3 eb3 T3 TL3 kp3
        refine ⟨b, _, rfl, sql_of eb3, rfl, _, _, rfl, _, _, rfl, rfl, ?_⟩
        refine ⟨_, rfl, _, rfl, _, rfl, p, C, dx, _, _, rfl, R3.ins, T.cl, T.nTree, rF_tree, by show 3 ≤ sizeLine; decide, fun q nq => ?_⟩
        have R4 := R3.new (.tup [.str (st g), vl, v1]) nq
        have eq4 : (upd H3 q (.tup [.str (st g), vl, v1])) q = some (.tup [.str (st g), vl, v1]) := upd_same
        have kn : Kp [] H3 (upd H3 q (.tup [.str (st g), vl, v1])) := .new nq
        have T4 := T3.kp kn
        have TL4 := TL3.kp kn
        have kp4 := kp3.trans (kn.more (by simp))
        generalize upd H3 q (.tup [.str (st g), vl, v1]) = H4 at R4 eq4 T4 TL4 kp4
        refine ⟨_, rfl, p, C, dx, _, rfl, R4.ins, T.cl, T.nTree, rF_sz, ?_⟩
        rw [rF_putTree]
        have kk5 := R4.kpp (.ins C dx (rF s (j + 1) a (.ref q)))
        refine ⟨k'.length, Nat.lt_succ_self _, _, _, bs', k', j + 1, .ref q, .nd (st g) l t1, rfl, rfl, R4.upd_p (j + 1) (.ref q) R4.il (Nat.le_refl _), (TreeAt.nd eq4 TL4 T4).kp kk5, ⟨og, ol, o1⟩, w4, by omega, fun x hx => sub x (List.mem_cons_of_mem _ hx), hkk, kp4.trans (.put (by simp) R4.ins (fun _ z => by cases z))⟩
      · rw [if_neg n41] at hkk
        exact kE d j _ hkk upd_same (kp.trans (.new hd))
theorem scWhole : FnScope ["self", "finished"] ["self"] (defScope (sTR 6)) := ⟨rfl, rfl, rfl, by decide +kernel, rfl, by decide +kernel, by decide +kernel⟩
/-- the answer of a whole text -/
def ofT (s : List Nat) : Rd := match rdM s (top s) 0 false with
  | .bad p => .bad p
  | .good t p => if p = s.length then .good t p else .bad p
def spWhole (C CB : Addr) (s : List Nat) : Sp := fun vs H Q E => ∃ (p a dx : Addr) (v : V), vs = [.ref p] ∧ RO C s H p a dx [] [] 0 v ∧
  (∀ (j : Nat) (v' : V) (t' : Tr) (H' : Hp), ofT s = .good t' j → TreeAt H' v' t' → t'.ok → Kp [p, a] H H' → Q v' H') ∧
  (∀ (d : Addr) (q : Nat) (H' : Hp), ofT s = .bad q → H' d = some (.xd [("at", .int (q : Nat))]) → Kp [p, a] H H' → E (.ref CB) (some d) H')
variable {f4 : Addr} {d4 : FuncData}
theorem ok_whole (T : TF K mg C CB fB) (D0 : Mt K C "comes" "TreeReader.comes" (sTR 1) ["self", "sign"] f0 d0) (D1 : Mt K C "take" "TreeReader.take" (sTR 2) ["self", "sign"] f1 d1) (D2 : Mt K C "take_tag" "TreeReader.take_tag" (sTR 3) ["self"] f2 d2)
    {f5 : Addr} {d5 : FuncData} (D4 : Mt K C "begin" "TreeReader.begin" (sTR 4) ["self"] f4 d4) (D5 : Mt K C "finish" "TreeReader.finish" (sTR 5) ["self"] f5 d5) (F : Fun K "whole" "TreeReader.whole" (sTR 6) f3 d3) (s : List Nat) :
    FnOk Pr w K mg base (L2.CX Pr w) 5 f3 d3 ["self"] (spWhole C CB s) := by
  refine F.okX scWhole (fun vs H Q E h => ?_) (fun cdv Ar outer s0 H vs Q E hr h => ?_)
  · obtain ⟨p, a, dx, v, rfl, _⟩ := h
    rfl
  · obtain ⟨p, a, dx, v, rfl, R, kT, kE⟩ := h
    have g4 : FnOk Pr w K mg base (L2.CX Pr w) 4 f4 d4 ["self"] (spBegin C CB s) := ok_begin T D0 D2 D4.F s
    have g5 : FnOk Pr w K mg base (L2.CX Pr w) 4 f5 d5 ["self"] (spFinish C CB s) := ok_finish T D0 D1 D5.F s
    have el : (st s).length = s.length := st_len s
    have hgs : (st s).length ≤ sizeLine := by
      rw [el]
      exact Nat.le_trans R.hl (by decide)
    refine ⟨_, pss_cons (ps_set (i := 1) scWhole.nd rfl (.inl rfl) pe_bl)
      (pss_cons (ps_while (passes_of rfl) (pt_not (pt_val (pv 1))) (pss_one (ps_set (i := 1) scWhole.nd rfl (.inl rfl)
        (pe_and (pe_meth0 (E := E) (pv 0) T.cl D4.m g4 hr D4.b .nil (passes_call (takes_of rfl rfl rfl rfl) (fun _ _ _ _ h => h)))
          (pe_one (pe_meth0 (E := E) (pv 0) T.cl D5.m g5 hr D5.b .nil (passes_call (takes_of rfl rfl rfl rfl) (fun _ _ _ _ h => h))))))))
      (pss_cons (ps_if (pt_cmpR op_lt (pe_fld (pv 0) rfl) (pe_callB call_len_str (by rfl) T.B.len PySem.boot_len (pa_cons (pe_fld (pv 0) rfl) pa_nil)) (nomark _)) (pss_one (ps_raiseBadText rfl T.bt hr (takes_of rfl rfl rfl rfl) (by exact (pa_cons (pe_fld (pv 0) rfl) pa_nil)))) pss_nil)
      (pss_one (ps_ret (pe_fld (pv 0) rfl))))), ?_⟩
    have toT : ∀ (q : Nat), rdM s (top s) 0 false = .bad q → ofT s = .bad q := fun q e => by unfold ofT; rw [e]
    refine ⟨fun m σ H1 => ∃ (bs : List Addr) (k : List Op) (i : Nat) (v1 : V), RO C s H1 p a dx bs k i v1 ∧ (∀ b ∈ bs, H b = none) ∧ Kp [p, a] H H1 ∧
        ((σ = [some (.ref p), some (.bl false)] ∧ m = s.length - i + 1 ∧ rdM s (top s) 0 false = kont s (top s) k (rdM s (top s) i (ndOf k))) ∨
         (σ = [some (.ref p), some (.bl true)] ∧ m = 0 ∧ ∃ t, TreeAt H1 v1 t ∧ t.ok ∧ rdM s (top s) 0 false = .good t i)),
      ⟨_, [], [], 0, v, R, (fun _ h => by cases h), .refl, .inl ⟨rfl, rfl, rfl⟩⟩, fun m σ H1 hw => ?_⟩
    obtain ⟨bs, k, i, v1, R1, fr, kp, hw⟩ := hw
    rcases hw with ⟨rfl, rfl, hk⟩ | ⟨rfl, rfl, t, T1, o1, hk⟩
    · refine ⟨_, rfl, _, rfl, iteT ⟨fun σ' H' => ∃ m', m' < s.length - i + 1 ∧ ∃ (bs : List Addr) (k : List Op) (i : Nat) (v1 : V), RO C s H' p a dx bs k i v1 ∧ (∀ b ∈ bs, H b = none) ∧ Kp [p, a] H H' ∧
        ((σ' = [some (.ref p), some (.bl false)] ∧ m' = s.length - i + 1 ∧ rdM s (top s) 0 false = kont s (top s) k (rdM s (top s) i (ndOf k))) ∨
         (σ' = [some (.ref p), some (.bl true)] ∧ m' = 0 ∧ ∃ t, TreeAt H' v1 t ∧ t.ok ∧ rdM s (top s) 0 false = .good t i)), fun _ _ h => h, ?_⟩⟩
      have go : ∀ {H2 : Hp}, Kp (p :: a :: bs) H1 H2 → Kp [p, a] H H2 := fun q => kp_own_all (ms := [p, a]) kp q fr
      refine ⟨_, rfl, p, dx, _, rfl, R1.ins, rF_none, p, a, dx, bs, k, i, v1, rfl, R1, fun j v2 t2 H2 hij R2 T2 o2 w2 e2 k2 => ?_, fun j b k2' v2 H2 hij hb R2 e2 k2 => ?_, fun d H2 e2 hd k2 => ?_⟩
      · refine ⟨_, rfl, iteT ⟨_, rfl, p, dx, _, rfl, R2.ins, rF_none, p, a, dx, bs, k, j, v2, t2, rfl, R2, T2, o2, w2, fun j3 v3 t3 H3 hij3 R3 T3 o3 e3 k3 => ?_, fun j3 bs3 k3' v3 H3 hij3 sub R3 e3 k3 => ?_, fun d q H3 e3 hd k3 => ?_⟩⟩
        · exact ⟨0, Nat.succ_pos _, [], [], j3, v3, R3, (fun _ h => by cases h), go (k2.trans k3), .inr ⟨rfl, rfl, t3, T3, o3, by rw [hk, e2, e3]⟩⟩
        · have := R3.il
          exact ⟨_, by omega, bs3, k3', j3, v3, R3, fun b hb => fr b (sub b hb), go (k2.trans k3), .inl ⟨rfl, rfl, by rw [hk, e2, e3]⟩⟩
        · exact kE d q H3 (toT q (by rw [hk, e2, e3])) hd (go (k2.trans k3))
      · have := R2.il
        refine ⟨_, rfl, iteF ⟨_, by omega, b :: bs, k2', j, v2, R2, fun b' hb' => ?_, go k2, .inl ⟨rfl, rfl, by rw [hk, e2]⟩⟩⟩
        rcases List.mem_cons.mp hb' with rfl | hb'
        · exact kp.free hb (by simp [(ne_of_none R1.ins hb).symm, (ne_of_none R1.lst hb).symm])
        · exact fr b' hb'
      · exact kE d i H2 (toT i (by rw [hk, e2])) hd (go k2)
    · refine ⟨_, rfl, _, rfl, iteF ?_⟩
      refine ⟨_, rfl, p, C, dx, _, _, rfl, R1.ins, T.cl, T.nAt, rF_at, _, rfl, p, C, dx, _, _, rfl, R1.ins, T.cl, T.nText, rF_text, _, rfl, hgs, _, _, rfl, rfl, _, rfl, ite2 (fun q => ?_) (fun q => ?_)⟩
      · have hlt : i < s.length := by
          have := of_decide_eq_true q
          rw [el] at this
          omega
        refine ⟨_, rfl, p, C, dx, _, _, rfl, R1.ins, T.cl, T.nAt, rF_at, _, rfl, fun d hd => kE d i _ ?_ upd_same (kp.trans (.new hd))⟩
        unfold ofT
        rw [hk]
        show (if i = s.length then Rd.good t i else .bad i) = .bad i
        rw [if_neg (by omega)]
      · have hil : i = s.length := by
          have h1 := R1.il
          have h2 : ¬ (i : Int) < ((st s).length : Int) := fun h => q (decide_eq_true h)
          rw [el] at h2
          omega
        refine ⟨_, rfl, p, C, dx, _, _, rfl, R1.ins, T.cl, T.nTree, rF_tree, kT i v1 t H1 ?_ T1 o1 kp⟩
        unfold ofT
        rw [hk]
        show (if i = s.length then Rd.good t i else .bad i) = .good t i
        rw [if_pos hil]
end
end Ey
set_option maxHeartbeats 4000000
namespace Ey
open PySem PySem.Spec L2
/-! ### f(k = v, ..), the parameters told from the last one to the first -/
def gRv {α : Type} (us ws : List α) : List α := match us with
  | [] => ws.reverse
  | _ :: _ => []
theorem vals_rv {xs : List V} {us : List Value} (h : Vals xs us) : Vals xs.reverse us.reverse := by
  induction h with
  | nil => exact .nil
  | cons a _ ih =>
    rw [List.reverse_cons, List.reverse_cons]
    exact ih.append (.cons a .nil)
theorem kb_rv {K : PySem.W.Frag} {fd : FuncData} {ps ks : List Str} (hp : ps ≠ []) (h : ∀ ws : List Value, ws.length = ps.length → bindArgs fd ⟨[], ks.zip ws⟩ = pure (ps.zip ws.reverse)) : KBinds K fd ps ks gRv gRv := by
  refine ⟨fun s us ws _ hl => ?_, fun {vs us zs ws} r1 r2 => ?_⟩
  · cases us with
    | nil => exact .of_eq (h ws (by rw [← hl]; exact (List.length_reverse).symm))
    | cons a r => exact absurd hl (by intro e; exact hp (List.length_eq_zero_iff.mp e.symm))
  · cases r1 with
    | nil => exact vals_rv r2
    | cons _ _ => exact .nil
theorem Fun.rvs {K : PySem.W.Frag} {x qual : Str} {st : Stmt} {f : Addr} {fd : FuncData} {ps ks : List Str} (F : Fun K x qual st f fd) (hp : ps ≠ [])
    (h : ∀ (kV doc pm : Value) (an : Option Addr) (cdv ct : Value) (ws : List Value), ws.length = ps.length → bindArgs (PySem.W.fnOf x qual (defArgs st) (defBody st) (defScope st) .none kV doc pm an cdv ct) ⟨[], ks.zip ws⟩ = pure (ps.zip ws.reverse)) : KBinds K fd ps ks gRv gRv := by
  obtain ⟨oc, od, kV, doc, pm, an, cdv, ct, osl, rfl, lk, _⟩ := F.ex
  exact kb_rv hp (h kV doc pm an cdv ct)
section
variable {X : Cx} {CX : CXT} {k : Nat} {f : Addr} {fd : FuncData} {qs ks : List Str} {sp : Sp} {E : XK} {x : Str} {p pos : Pos} {kws : List Keyword} {tk : TA} {g : List Value → List Value → List Value} {gV : List V → List V → List V}
theorem pe_callKR (F : FnOk X.prog X.w X.K X.mg X.base CX k f fd qs sp) (hr : Room k X.A) (hg : Gl X x) (hm : X.mg x = some (.ref f)) (hk : PySem.W.keepIn X.K (.ref f) = true) (hb : KBinds X.K fd qs ks g gV) (hx : Passes CX X E) (hkw : PK X kws tk)
    (hall : (backToKw pos (keywordEach kws X.env)).all (·.1.isSome) = true := by rfl) (hks : (backToKw pos (keywordEach kws X.env)).filterMap (·.1) = ks := by rfl) (hdb : (x == ("__debug__" : Str)) = false := by decide)
    (hpl : ((backTo pos (starEach [] X.env)).any (·.1) || (backToKw pos (keywordEach kws X.env)).any (·.1.isNone)) = false := by rfl) :
    PE X (.Call (.Name x p) [] kws pos) (tCallK sp gV E tNil tk) := by
  refine ⟨fun pins s σ H Q I h => wpAny_Call_Name_kw (ld_glob I hg hm ?_ hdb)⟩
  refine PySem.W.callWith_KW0 (h₀ := X.base) I.ok.mod.kin hk hall ?_ hpl
  refine thn (hkw.run pos pins s σ H _ I h) fun ws s2 ⟨zs, H2, I2, rz, q2⟩ => ⟨I2.kIn, ?_⟩
  rw [hks]
  exact run_fnk (us := []) (vs := []) F hr hb hx I2 .nil rz q2
/-- the same within a try: what it lets out is wished for at the slots as they stand -/
def tCallKS (sp : Sp) (gV : List V → List V → List V) (E : St → XK) (tk : TA) : TE := fun σ H Q => tk σ H fun zs H1 => sp (gV [] zs) H1 Q (E σ)
theorem pe_callKS {E : St → XK} (F : FnOk X.prog X.w X.K X.mg X.base CX k f fd qs sp) (hr : Room k X.A) (hg : Gl X x) (hm : X.mg x = some (.ref f)) (hk : PySem.W.keepIn X.K (.ref f) = true) (hb : KBinds X.K fd qs ks g gV) (hx : ∀ σ, PassesAt CX X σ (E σ)) (hkw : PK X kws tk)
    (hall : (backToKw pos (keywordEach kws X.env)).all (·.1.isSome) = true := by rfl) (hks : (backToKw pos (keywordEach kws X.env)).filterMap (·.1) = ks := by rfl) (hdb : (x == ("__debug__" : Str)) = false := by decide)
    (hpl : ((backTo pos (starEach [] X.env)).any (·.1) || (backToKw pos (keywordEach kws X.env)).any (·.1.isNone)) = false := by rfl) :
    PE X (.Call (.Name x p) [] kws pos) (tCallKS sp gV E tk) := by
  refine ⟨fun pins s σ H Q I h => wpAny_Call_Name_kw (ld_glob I hg hm ?_ hdb)⟩
  refine PySem.W.callWith_KW0 (h₀ := X.base) I.ok.mod.kin hk hall ?_ hpl
  refine thn (hkw.run pos pins s σ H _ I h) fun ws s2 ⟨zs, H2, I2, rz, q2⟩ => ⟨I2.kIn, ?_⟩
  rw [hks]
  have r2 : Vals (gV [] zs) (g [] ws) := hb.rel .nil rz
  have hl : (g [] ws).length = qs.length := by rw [← r2.length]; exact F.len _ _ _ _ q2
  refine wpAny_call (codeAny_mono (F.run X.A X.stack s2 H2 ⟨[], ks.zip ws⟩ (g [] ws) (gV [] zs) Q (E σ) hr I2.env0 (hb.to s2 [] ws I2.kIn hl) r2 q2) fun r s' hq => ?_)
  cases r with
  | error e => exact hx σ pins H2 s2 e s' I2 hq
  | ok fl =>
    cases fl with
    | ret u => exact I2.after hq
    | next => exact False.elim hq
    | brk => exact False.elim hq
    | cont => exact False.elim hq
end
abbrev sRead : Stmt := topS 16
abbrev sTold : Stmt := topS 30
section
variable {Pr : Program} {w : World} {K : PySem.W.Frag} {mg : Str → Option Value} {base : Heap} {C CB fB f0 f1 f2 f3 f4 f5 f6 : Addr} {d0 d1 d2 d3 d4 d5 d6 : FuncData}
theorem scInitR : FnScope ["self", "text"] ["self", "text"] (defScope (sTR 0)) := ⟨rfl, rfl, rfl, by decide +kernel, rfl, by decide +kernel, by decide +kernel⟩
def spInitR (C : Addr) (s : List Nat) : Sp := fun vs H Q _ => ∃ (p dx : Addr), vs = [.ref p, .str (st s)] ∧ H p = some (.ins C dx []) ∧ s.length ≤ 100000 ∧ s.count 40 ≤ 58 ∧
  ∀ (a : Addr) (H' : Hp), RO C s H' p a dx [] [] 0 .non → H a = none → Kp [p] H H' → Q .non H'
theorem ok_initR (T : TF K mg C CB fB) (F : Fun K "__init__" "TreeReader.__init__" (sTR 0) f0 d0) (s : List Nat) : FnOk Pr w K mg base CX0 1 f0 d0 ["self", "text"] (spInitR C s) := by
  refine F.ok scInitR (fun vs H Q E h => ?_) (fun cdv Ar outer s0 H vs Q E hr h => ?_)
  · obtain ⟨p, dx, rfl, _⟩ := h
    rfl
  · obtain ⟨p, dx, rfl, hp, hl, hc, k⟩ := h
    refine ⟨_, pss_cons (ps_fld (pv 0) (pv 1) rfl) (pss_cons (ps_fld (pv 0) pe_int rfl) (pss_cons (ps_fld (pv 0) (pe_lst pa_nil) rfl) (pss_one (ps_fld (pv 0) pe_non rfl)))), ?_⟩
    refine ⟨_, rfl, _, rfl, p, C, dx, _, rfl, hp, T.cl, T.nText, (by show 0 < 1000; decide), ?_⟩
    refine ⟨_, rfl, p, C, dx, _, rfl, upd_same, T.cl, T.nAt, (by show 1 < 1000; decide), ?_⟩
    have e2 : putF "at" (V.int 0) (putF "text" (V.str (st s)) []) = ([("text", .str (st s)), ("at", .int 0)] : List (Str × V)) := (put_past (by decide +kernel)).trans rfl
    rw [e2]
    have k2 : Kp [p] H (upd (upd H p (.ins C dx (putF "text" (.str (st s)) []))) p (.ins C dx [("text", .str (st s)), ("at", .int 0)])) := (Kp.put (by simp) hp (fun _ z => by cases z)).trans (.put (by simp) upd_same (fun _ z => by cases z))
    have h2 : (upd (upd H p (.ins C dx (putF "text" (.str (st s)) []))) p (.ins C dx [("text", .str (st s)), ("at", .int 0)])) p = some (.ins C dx [("text", .str (st s)), ("at", .int 0)]) := upd_same
    generalize upd (upd H p (.ins C dx (putF "text" (.str (st s)) []))) p (.ins C dx [("text", .str (st s)), ("at", .int 0)]) = H2 at k2 h2
    refine ⟨Nat.zero_le _, fun a na => ?_⟩
    have npa : p ≠ a := ne_of_none h2 na
    have fa : H a = none := k2.free na (by simp [npa.symm])
    have h3 : (upd H2 a (.lst [])) p = some (.ins C dx [("text", .str (st s)), ("at", .int 0)]) := by rw [upd_ne npa]; exact h2
    have a3 : (upd H2 a (.lst [])) a = some (.lst []) := upd_same
    have k3 : Kp [p] H (upd H2 a (.lst [])) := k2.trans (.new na)
    generalize upd H2 a (.lst []) = H3 at h3 a3 k3
    refine ⟨_, rfl, p, C, dx, _, rfl, h3, T.cl, T.nOpened, (by show 2 < 1000; decide), ?_⟩
    refine ⟨_, rfl, p, C, dx, _, rfl, upd_same, T.cl, T.nTree, ?_, ?_⟩
    · rw [put_past (by decide +kernel), put_past (by decide +kernel)]
      show 3 < 1000
      decide
    have e4 : putF "tree" V.non (putF "opened" (V.ref a) ([("text", .str (st s)), ("at", .int 0)] : List (Str × V))) = rF s 0 a .non := by
      rw [put_past (by decide +kernel), put_past (by decide +kernel), put_past (by decide +kernel), put_past (by decide +kernel)]
      exact congrArg _ (congrArg _ ((put_past (by decide +kernel)).trans rfl))
    rw [e4]
    refine k a _ ⟨upd_same, ?_, .nil, by simp, Nat.zero_le _, hl, Nat.zero_le _, hc⟩ fa (k3.trans ((Kp.put (by simp) h3 (fun _ z => by cases z)).trans (.put (by simp) upd_same (fun _ z => by cases z))))
    rw [upd_ne npa.symm, upd_ne npa.symm]
    exact a3
/-- all of the reader -/
structure RdF (K : PySem.W.Frag) (mg : Str → Option Value) (C CB fB : Addr) (R : Nat → Addr) (Q : Nat → FuncData) (fI : Addr) (dI : FuncData) : Prop where
  T : TF K mg C CB fB
  gC : mg "TreeReader" = some (.ref C)
  mkr : Mk K C fI
  init : Fun K "__init__" "TreeReader.__init__" (sTR 0) fI dI
  bI : Binds K dI ["self", "text"] []
  comes : Mt K C "comes" "TreeReader.comes" (sTR 1) ["self", "sign"] (R 1) (Q 1)
  take : Mt K C "take" "TreeReader.take" (sTR 2) ["self", "sign"] (R 2) (Q 2)
  tag : Mt K C "take_tag" "TreeReader.take_tag" (sTR 3) ["self"] (R 3) (Q 3)
  begin_ : Mt K C "begin" "TreeReader.begin" (sTR 4) ["self"] (R 4) (Q 4)
  finish : Mt K C "finish" "TreeReader.finish" (sTR 5) ["self"] (R 5) (Q 5)
  whole : Mt K C "whole" "TreeReader.whole" (sTR 6) ["self"] (R 6) (Q 6)
  read : Df K mg "tree_read" sRead ["text"] (R 7) (Q 7)
  kRead : KBinds K (Q 7) ["text"] ["text"] gRv gRv
variable {R : Nat → Addr} {QQ : Nat → FuncData} {fI : Addr} {dI : FuncData}
/-- what is said of an answer -/
def spReadT (CB : Addr) : Sp := fun vs H Q E => ∃ (x : V) (ms : List Addr) (y : PyData), vs = [x] ∧ An ms H x y ∧
  ((isStr y = false ∧ ∀ (d : Addr) (H' : Hp), H' d = some (.xd [("at", .int (-1))]) → Kp [] H H' → E (.ref CB) (some d) H') ∨
   ∃ s : List Nat, x = .str (st s) ∧ s.length ≤ 100000 ∧ s.count 40 ≤ 58 ∧
    (∀ (j : Nat) (v' : V) (t' : Tr) (H' : Hp), ofT s = .good t' j → TreeAt H' v' t' → t'.ok → Kp [] H H' → Q v' H') ∧
    (∀ (d : Addr) (q : Nat) (H' : Hp), ofT s = .bad q → H' d = some (.xd [("at", .int (q : Nat))]) → Kp [] H H' → E (.ref CB) (some d) H'))
theorem scRead : FnScope ["text"] ["text"] (defScope sRead) := ⟨rfl, rfl, rfl, by decide +kernel, rfl, by decide +kernel, by decide +kernel⟩
theorem ok_read (G : RdF K mg C CB fB R QQ fI dI) : FnOk Pr w K mg base (L2.CX Pr w) 6 (R 7) (QQ 7) ["text"] (spReadT CB) := by
  have T := G.T
  refine G.read.F.okX scRead (fun vs H Q E h => ?_) (fun cdv Ar outer s0 H vs Q E hr h => ?_)
  · obtain ⟨x, ms, y, rfl, _⟩ := h
    rfl
  · obtain ⟨x, ms, y, rfl, hA, hc⟩ := h
    have hr1 : Room 2 _ := hr.mono (by decide)
    have split : (isStr y = false ∧ ∀ (d : Addr) (H' : Hp), H' d = some (.xd [("at", .int (-1))]) → Kp [] H H' → E (.ref CB) (some d) H') ∨
      (isStr y = true ∧ ∃ s : List Nat, x = .str (st s) ∧ s.length ≤ 100000 ∧ s.count 40 ≤ 58 ∧
        (∀ (j : Nat) (v' : V) (t' : Tr) (H' : Hp), ofT s = .good t' j → TreeAt H' v' t' → t'.ok → Kp [] H H' → Q v' H') ∧
        (∀ (d : Addr) (q : Nat) (H' : Hp), ofT s = .bad q → H' d = some (.xd [("at", .int (q : Nat))]) → Kp [] H H' → E (.ref CB) (some d) H')) := by
      rcases hc with h | ⟨s, rfl, h⟩
      · exact .inl h
      · refine .inr ⟨?_, s, rfl, h⟩
        cases hA
        rfl
    clear hc
    rcases split with ⟨hy, kE⟩ | ⟨hy, s, rfl, hl, h58, kS, kE⟩
    · have gI : FnOk Pr w K mg base CX0 1 fI dI ["self", "text"] (spInitR C []) := ok_initR T G.init []
      have gW : FnOk Pr w K mg base (L2.CX Pr w) 5 (R 6) (QQ 6) ["self"] (spWhole C CB []) := ok_whole T G.comes G.take G.tag G.begin_ G.finish G.whole.F []
      refine ⟨_, pss_cons (ps_if (pt_not (pt_val (pe_callB call_isi (by rfl) T.B.isi (by decide +kernel) (pa_cons (pv 0) (pa_cons (pe_bltn (v := .ty "str") (by rfl) T.B.str (by decide +kernel) rfl) pa_nil)))))
          (pss_one (ps_raiseBadText rfl T.bt hr (takes_of rfl rfl rfl rfl) (by exact (pa_cons (pe_un un_neg pe_int) pa_nil)))) pss_nil)
        (pss_one (ps_ret (pe_meth0 (E := E) (pe_make G.mkr gI hr1 rfl G.gC G.bI .nil pass0 (by exact (pa_cons (pv 0) pa_nil))) T.cl G.whole.m gW hr G.whole.b .nil (passes_call (takes_of rfl rfl rfl rfl) (fun _ _ _ _ h => h))))), ?_⟩
      obtain ⟨tx, ta, tb⟩ := hA.strK (K := K)
      refine ⟨_, rfl, x, .ty "str", tx, .type "str", _, rfl, .ty "str", ta, tb, _, rfl, ?_⟩
      rw [hy]
      exact iteT ⟨1, rfl, _, rfl, fun d hd => kE d _ upd_same (.new hd)⟩
    · have gI : FnOk Pr w K mg base CX0 1 fI dI ["self", "text"] (spInitR C s) := ok_initR T G.init s
      have gW : FnOk Pr w K mg base (L2.CX Pr w) 5 (R 6) (QQ 6) ["self"] (spWhole C CB s) := ok_whole T G.comes G.take G.tag G.begin_ G.finish G.whole.F s
      refine ⟨_, pss_cons (ps_if (pt_not (pt_val (pe_callB call_isi (by rfl) T.B.isi (by decide +kernel) (pa_cons (pv 0) (pa_cons (pe_bltn (v := .ty "str") (by rfl) T.B.str (by decide +kernel) rfl) pa_nil)))))
          (pss_one (ps_raiseBadText rfl T.bt hr (takes_of rfl rfl rfl rfl) (by exact (pa_cons (pe_un un_neg pe_int) pa_nil)))) pss_nil)
        (pss_one (ps_ret (pe_meth0 (E := E) (pe_make G.mkr gI hr1 rfl G.gC G.bI .nil pass0 (by exact (pa_cons (pv 0) pa_nil))) T.cl G.whole.m gW hr G.whole.b .nil (passes_call (takes_of rfl rfl rfl rfl) (fun _ _ _ _ h => h))))), ?_⟩
      obtain ⟨tx, ta, tb⟩ := hA.strK (K := K)
      refine ⟨_, rfl, _, .ty "str", tx, .type "str", _, rfl, .ty "str", ta, tb, _, rfl, ?_⟩
      rw [hy]
      refine iteF ⟨_, rfl, fun p dx np ndx ne => ⟨p, dx, rfl, upd_same, hl, h58, fun a H1 RO1 fa k1 => ⟨rfl, ?_⟩⟩⟩
      have kn : Kp [] H (upd (upd H dx (.own p)) p (.ins C dx [])) := (Kp.new ndx).trans (.new (by rw [upd_ne ne.symm]; exact np))
      have fa0 : H a = none := kn.free fa List.not_mem_nil
      have k01 : Kp [] H H1 := kp_own_all (ms := []) kn k1 (fun b hb => by rw [List.mem_singleton.mp hb]; exact np)
      have out : ∀ {H2 : Hp}, Kp [p, a] H1 H2 → Kp [] H H2 := fun k2 => kp_own_all (ms := []) k01 k2 (fun b hb => by
        rcases List.mem_cons.mp hb with rfl | hb
        · exact np
        · rw [List.mem_singleton.mp hb]
          exact fa0)
      refine ⟨p, dx, _, rfl, RO1.ins, rF_none, p, a, dx, .non, rfl, RO1, fun j v' t' H2 e1 e2 e3 k2 => kS j v' t' H2 e1 e2 e3 (out k2), fun d q H2 e1 e2 k2 => kE d q H2 e1 e2 (out k2)⟩
end
end Ey
set_option maxHeartbeats 4000000
namespace Ey
open PySem PySem.Spec L2
section
variable {Pr : Program} {w : World} {K : PySem.W.Frag} {mg : Str → Option Value} {base : Heap} {C CB fB CE fI f1 : Addr} {dI d1 : FuncData} {R : Nat → Addr} {QQ : Nat → FuncData}
theorem scTold : FnScope ["_law_text", "_law_way", "e"] ["_law_text", "_law_way"] (defScope sTold) := ⟨rfl, rfl, rfl, by decide +kernel, rfl, by decide +kernel, by decide +kernel⟩
/-- the error's class among the others -/
structure XF (K : PySem.W.Frag) (mg : Str → Option Value) (CB CE : Addr) : Prop where
  gE : mg "EyesError" = some (.ref CE)
  says : PySem.OwE.SaysC K CB
  kit : PySem.W.kitOne K (.ref CB) (.ref CE) = some true
def spTold : Sp := fun vs H Q _ => ∃ (x : V) (ms : List Addr) (y : PyData) (way : Int), vs = [x, .int way] ∧ An ms H x y ∧
  ((isStr y = false ∧ ∀ (q : Addr) (H' : Hp), H' q = some (.tup [.str "wrong", .int (-1)]) → Kp [] H H' → Q (.ref q) H') ∨
   ∃ s : List Nat, x = .str (st s) ∧ s.length ≤ 100000 ∧ s.count 40 ≤ 58 ∧
    ∀ (q : Addr) (H' : Hp), OfAt H' q (ofT s) → (∀ t j, ofT s = .good t j → t.ok) → Kp [] H H' → Q (.ref q) H')
theorem ok_told (G : RdF K mg C CB fB R QQ fI dI) (X : XF K mg CB CE) (F : Fun K "_law_told" "_law_told" sTold f1 d1) : FnOk Pr w K mg base CX0 7 f1 d1 ["_law_text", "_law_way"] spTold := by
  have T := G.T
  refine F.ok scTold (fun vs H Q E h => ?_) (fun cdv Ar outer s0 H vs Q E hr h => ?_)
  · obtain ⟨x, ms, y, way, rfl, _⟩ := h
    rfl
  · obtain ⟨x, ms, y, way, rfl, hA, hc⟩ := h
    have g6 : FnOk Pr w K mg base (L2.CX Pr w) 6 (R 7) (QQ 7) ["text"] (spReadT CB) := ok_read G
    refine ⟨_, pss_one (ps_try_as (i := 2) (Wout := fun _ _ _ _ => False) rfl rfl scTold.nd rfl rfl ⟨rfl, by decide, Or.inl T.bt.gC⟩ takes0
        (fun W pn xe tk _ => pss_one (ps_ret (pe_tup (pa_cons pe_str (pa_cons (pe_ifExp (pt_cmpR op_eq (pv 1) pe_int (nomark _))
          (pe_callS g6 hr (by rfl) G.read.g G.read.F.kp G.read.b (fun σ => passAt tk σ) (by exact (pa_cons (pv 0) pa_nil)))
          (pe_callKS g6 hr (by rfl) G.read.g G.read.F.kp G.kRead (fun σ => passAt tk σ) (by exact (pk_cons (pv 0) pk_nil)))) pa_nil)))))
        (fun a oe cls d pn hz hf => pss_one (ps_ret (pe_ifExp (pt_val (pe_callB (call_isE2 X.says hz hf) (by rfl) T.B.isi (by decide +kernel) (pa_cons (pv 2) (pa_cons (pe_glob (v := .ref CE) (by rfl) X.gE rfl) pa_nil))))
          (pe_tup (pa_cons pe_str (pa_cons (pe_byBadText T.bt hz hf (pv 2)) pa_nil))) (pe_tup (pa_cons pe_str (pa_cons pe_non pa_nil))))))), ?_⟩
    have main : ∀ (Q' : VK) (E' : XK), (∀ (v' : V) (H' : Hp), (∀ z : Addr, H' z = none → Q (.ref z) (upd H' z (.tup [.str "tree", v']))) → Q' v' H') →
        (∀ (d : Addr) (q : Int) (H' : Hp), H' d = some (.xd [("at", .int q)]) → (∀ z : Addr, H' z = none → Q (.ref z) (upd H' z (.tup [.str "wrong", .int q]))) → E' (.ref CB) (some d) H') → spReadT CB [x] H Q' E' := by
      intro Q' E' fQ fE
      refine ⟨x, ms, y, rfl, hA, ?_⟩
      rcases hc with ⟨hy, k⟩ | ⟨s, rfl, hl, h58, k⟩
      · exact .inl ⟨hy, fun d H' hd k1 => fE d (-1) H' hd fun z nz => k z _ upd_same (k1.trans (.new nz))⟩
      · refine .inr ⟨s, rfl, hl, h58, fun j v' t' H' e hT ho k1 => fQ v' H' fun z nz => ?_, fun d q H' e hd k1 => fE d q H' hd fun z nz => ?_⟩
        · refine k z _ ?_ (fun t j' e' => by rw [e] at e'; cases e'; exact ho) (k1.trans (.new nz))
          rw [e]
          exact ⟨v', upd_same, hT.kp (Kp.new (ms := []) nz)⟩
        · refine k z _ ?_ (fun t j' e' => by rw [e] at e'; cases e') (k1.trans (.new nz))
          rw [e]
          exact upd_same
    refine ⟨_, rfl, rfl, _, rfl, ite2 (fun _ => ⟨_, rfl, ?_⟩) (fun _ => ⟨_, rfl, ?_⟩)⟩
    · refine main _ _ (fun v' H' f => ⟨by show 2 ≤ sizeLine; decide, f⟩) (fun d q H' hd f => ⟨true, T.bt.te, fun _ a ha => ?_, fun q => nomatch q⟩)
      exact ⟨_, rfl, rfl, d, _, rfl, hd, .ref CE, .ref CE, true, rfl, fun u r => r, X.kit, _, rfl, iteT ⟨_, rfl, rfl, rfl, d, _, rfl, hd, by show 2 ≤ sizeLine; decide, f⟩⟩
    · refine main _ _ (fun v' H' f => ⟨by show 2 ≤ sizeLine; decide, f⟩) (fun d q H' hd f => ⟨true, T.bt.te, fun _ a ha => ?_, fun q => nomatch q⟩)
      exact ⟨_, rfl, rfl, d, _, rfl, hd, .ref CE, .ref CE, true, rfl, fun u r => r, X.kit, _, rfl, iteT ⟨_, rfl, rfl, rfl, d, _, rfl, hd, by show 2 ≤ sizeLine; decide, f⟩⟩
end
end Ey
set_option maxHeartbeats 4000000
namespace Ey
open PySem PySem.Spec L2
/-! ### the text of a tree is read as the tree -/
theorem at_mid {s a b : List Nat} {c i : Nat} (h : s = a ++ c :: b) (hi : i = a.length) : s[i]? = some c := by
  subst h
  subst hi
  rw [List.getElem?_append_right (Nat.le_refl _), Nat.sub_self]
  rfl
theorem tag_at {s pre g post : List Nat} (hs : s = pre ++ (g ++ post)) (hg : ∀ c ∈ g, c ∈ abc) (l : g.length ≤ 8) (hp : ∀ c, post.head? = some c → ¬ c ∈ abc) : tagAt s pre.length = g := by
  unfold tagAt
  rw [hs, List.drop_left, List.take_append, List.take_of_length_le l, List.takeWhile_append_of_pos (fun c hc => decide_eq_true (hg c hc))]
  have e : List.takeWhile (fun c => decide (c ∈ abc)) (post.take (8 - g.length)) = [] := by
    cases post with
    | nil => simp
    | cons c r =>
      cases h8 : 8 - g.length with
      | zero => rfl
      | succ k =>
        rw [List.take_succ_cons, List.takeWhile_cons, if_neg (by simpa using hp c rfl)]
  rw [e, List.append_nil]
theorem tag_parts {g : Str} (h : isTag g = true) : 1 ≤ g.cps.toList.length ∧ g.cps.toList.length ≤ 8 ∧ ∀ c ∈ g.cps.toList, c ∈ abc := by
  simp only [isTag, Bool.and_eq_true, List.all_eq_true, decide_eq_true_eq] at h
  have e : g.cps.toList.length = g.length := by
    rw [Array.length_toList]
    rfl
  rw [e]
  exact ⟨h.1.1, h.1.2, h.2⟩
theorem rd_txt : ∀ (t : Tr), t.ok → ∀ (s pre post : List Nat) (k : List Op) (nd : Bool), s = pre ++ (txt t ++ post) → (∀ c, post.head? = some c → c = 41 ∨ c = 44) → (nd = true → t.full = true) →
    kont s (top s) k (rdM s (top s) pre.length nd) = kont s (top s) k (.good t (pre.length + (txt t).length))
  | .nil, _, s, pre, post, k, nd, hs, hp, hn => by
    have e : nd = false := by
      cases nd with
      | false => rfl
      | true => exact absurd (hn rfl) (by decide)
    subst e
    rw [rd_minus (at_mid (b := post) hs rfl)]
    rfl
  | .nd g l r, ok, s, pre, post, k, nd, hs, hp, hn => by
    obtain ⟨l1, l8, ha⟩ := tag_parts ok.1
    have he : ∀ gl : List Nat, gl = g.cps.toList → gl.isEmpty = false := fun gl e => by
      cases gl with
      | nil => rw [← e] at l1; cases l1
      | cons _ _ => rfl
    by_cases hf : (l.full || r.full) = true
    · have et : txt (.nd g l r) = g.cps.toList ++ ([40] ++ txt l ++ [44] ++ txt r ++ [41]) := by
        conv => lhs; unfold txt
        rw [if_pos hf]
      have hs1 : s = pre ++ (g.cps.toList ++ (40 :: (txt l ++ (44 :: (txt r ++ (41 :: post)))))) := by
        rw [hs, et]
        simp
      have tg : tagAt s pre.length = g.cps.toList := tag_at hs1 ha l8 (fun c hc => by cases hc; decide)
      have h40 : s[pre.length + (tagAt s pre.length).length]? = some 40 := by
        rw [tg]
        refine at_mid (a := pre ++ g.cps.toList) (b := txt l ++ (44 :: (txt r ++ (41 :: post)))) ?_ (by simp)
        rw [hs1]
        simp
      rw [rd_open (by rw [tg]; exact he _ rfl) h40, tg]
      have q1 := rd_txt l ok.2.1 s (pre ++ g.cps.toList ++ [40]) (44 :: (txt r ++ (41 :: post))) ((g.cps.toList, none) :: k) false (by rw [hs1]; simp) (fun c hc => by cases hc; exact .inr rfl) (fun z => by cases z)
      have n1 : (pre ++ g.cps.toList ++ [40]).length = pre.length + g.cps.toList.length + 1 := by simp; omega
      rw [n1] at q1
      rw [q1]
      have h44 : s[pre.length + g.cps.toList.length + 1 + (txt l).length]? = some 44 := by
        refine at_mid (a := pre ++ g.cps.toList ++ [40] ++ txt l) (b := txt r ++ (41 :: post)) ?_ (by simp; omega)
        rw [hs1]
        simp
      have s1 : kont s (top s) ((g.cps.toList, none) :: k) (.good l (pre.length + g.cps.toList.length + 1 + (txt l).length)) = kont s (top s) ((g.cps.toList, some l) :: k) (rdM s (top s) (pre.length + g.cps.toList.length + 1 + (txt l).length + 1) (!l.full)) := by
        show (if s[_]? = some 44 then _ else _) = _
        rw [if_pos h44]
        rfl
      rw [s1]
      have q2 := rd_txt r ok.2.2 s (pre ++ g.cps.toList ++ [40] ++ txt l ++ [44]) (41 :: post) ((g.cps.toList, some l) :: k) (!l.full) (by rw [hs1]; simp) (fun c hc => by cases hc; exact .inl rfl) (fun z => by
        cases h : l.full with
        | true => rw [h] at z; cases z
        | false => rw [h] at hf; exact hf)
      have n2 : (pre ++ g.cps.toList ++ [40] ++ txt l ++ [44]).length = pre.length + g.cps.toList.length + 1 + (txt l).length + 1 := by simp; omega
      rw [n2] at q2
      rw [q2]
      have h41 : s[pre.length + g.cps.toList.length + 1 + (txt l).length + 1 + (txt r).length]? = some 41 := by
        refine at_mid (a := pre ++ g.cps.toList ++ [40] ++ txt l ++ [44] ++ txt r) (b := post) ?_ (by simp; omega)
        rw [hs1]
        simp
      show (if s[_]? = some 41 then kont s (top s) k (.good (.nd (st g.cps.toList) l r) _) else _) = _
      rw [if_pos h41, g_st, et]
      congr 2
      simp
      omega
    · have et : txt (.nd g l r) = g.cps.toList := by
        conv => lhs; unfold txt
        rw [if_neg hf, List.append_nil]
      have hs1 : s = pre ++ (g.cps.toList ++ post) := by rw [hs, et]
      have tg : tagAt s pre.length = g.cps.toList := tag_at hs1 ha l8 (fun c hc => by rcases hp c hc with rfl | rfl <;> decide)
      have h40 : ¬ s[pre.length + (tagAt s pre.length).length]? = some 40 := by
        rw [tg]
        intro h
        cases post with
        | nil =>
          rw [hs1, List.append_nil, List.getElem?_eq_none (by simp)] at h
          cases h
        | cons c b =>
          rw [at_mid (a := pre ++ g.cps.toList) (b := b) (c := c) (by rw [hs1]; simp) (by simp)] at h
          cases h
          rcases hp 40 rfl with z | z <;> cases z
      rw [rd_leaf (by rw [tg]; exact he _ rfl) h40, tg, g_st, et]
      have el : l = .nil := by cases l with
        | nil => rfl
        | nd _ _ _ => exact absurd rfl hf
      have er : r = .nil := by cases r with
        | nil => rfl
        | nd _ _ _ => exact absurd (by show (l.full || true) = true; rw [Bool.or_true]) hf
      rw [el, er]
theorem ofT_txt {t : Tr} (ok : t.ok) : ofT (txt t) = .good t (txt t).length := by
  have q := rd_txt t ok (txt t) [] [] [] false (by simp) (fun c hc => by cases hc) (fun z => by cases z)
  have q2 : rdM (txt t) (top (txt t)) 0 false = .good t (txt t).length := by
    have q3 : rdM (txt t) (top (txt t)) 0 false = .good t (0 + (txt t).length) := q
    rw [Nat.zero_add] at q3
    exact q3
  unfold ofT
  rw [q2]
  show (if (txt t).length = (txt t).length then Rd.good t (txt t).length else _) = _
  rw [if_pos rfl]
theorem ofM_T {s : List Nat} {n : Nat} (h : s.count 40 < n) : ofM s n = ofT s := (of_top h).trans (by unfold ofT; rfl)
theorem abc40 : ∀ g : List Nat, (∀ c ∈ g, c ∈ abc) → g.count 40 = 0 := fun g h => List.count_eq_zero.mpr fun z => absurd (h 40 z) (by decide)
theorem txt_cnt : ∀ t : Tr, t.ok → (txt t).count 40 ≤ t.sz
  | .nil, _ => by decide
  | .nd g l r, ok => by
    obtain ⟨_, _, ha⟩ := tag_parts ok.1
    have q0 := abc40 _ ha
    have q1 := txt_cnt l ok.2.1
    have q2 := txt_cnt r ok.2.2
    have hs : (Tr.nd g l r).sz = l.sz + r.sz + 1 := by simp only [Tr.sz]
    unfold txt
    rw [List.count_append, q0, hs]
    split
    · rw [List.count_append, List.count_append, List.count_append, List.count_append]
      have e1 : List.count 40 [40] = 1 := rfl
      have e2 : List.count 40 [44] = 0 := rfl
      have e3 : List.count 40 [41] = 0 := rfl
      omega
    · show 0 + 0 ≤ _
      omega
theorem txt_low : ∀ t : Tr, t.ok → ∀ c ∈ txt t, c < 1000
  | .nil, _, c, hc => by
    have : c = 45 := List.mem_singleton.mp hc
    omega
  | .nd g l r, ok, c, hc => by
    obtain ⟨_, _, ha⟩ := tag_parts ok.1
    have q1 := txt_low l ok.2.1
    have q2 := txt_low r ok.2.2
    unfold txt at hc
    rcases List.mem_append.mp hc with hc | hc
    · have := ha c hc
      simp only [abc, List.mem_cons, List.not_mem_nil, or_false] at this
      omega
    · split at hc
      · simp only [List.mem_append, List.mem_cons, List.not_mem_nil, or_false] at hc
        rcases hc with (((rfl | hc) | rfl) | hc) | rfl
        · decide
        · exact q1 c hc
        · decide
        · exact q2 c hc
        · decide
      · cases hc
/-- how large a tree can be that is read -/
theorem rdM_sz (s : List Nat) : ∀ (n i : Nat) (nd : Bool) (t : Tr) (p : Nat), rdM s n i nd = .good t p → i + t.sz ≤ p ∧ t.ht ≤ n
  | 0, i, nd, t, p, h => by cases h
  | n + 1, i, nd, t, p, h => by
    unfold rdM at h
    split at h
    · cases h
    · split at h
      · split at h
        · cases h
        · cases h
          exact ⟨Nat.le_succ _, Nat.zero_le _⟩
      · split at h
        · cases h
        · rename_i hne
          have hpos : 1 ≤ (tagAt s i).length := by
            cases hh : tagAt s i with
            | nil => rw [hh] at hne; exact absurd rfl hne
            | cons _ _ => exact Nat.succ_le_succ (Nat.zero_le _)
          split at h
          · split at h
            · cases h
            · rename_i l p1 h1
              have g1 := rdM_sz s n _ _ _ _ h1
              split at h
              · split at h
                · cases h
                · rename_i r q h2
                  have g2 := rdM_sz s n _ _ _ _ h2
                  split at h
                  · cases h
                    simp only [Tr.sz, Tr.ht]
                    omega
                  · cases h
              · cases h
          · cases h
            simp only [Tr.sz, Tr.ht]
            omega
theorem ofT_sz {s : List Nat} {t : Tr} {j : Nat} (h : ofT s = .good t j) : t.sz ≤ s.length ∧ t.ht ≤ s.count 40 + 1 := by
  unfold ofT at h
  cases hr : rdM s (top s) 0 false with
  | bad p => rw [hr] at h; cases h
  | good t' p =>
    rw [hr] at h
    have q := rdM_sz s _ _ _ _ _ hr
    have z : (if p = s.length then Rd.good t' p else .bad p) = .good t j := h
    by_cases e : p = s.length
    · rw [if_pos e] at z
      cases z
      exact ⟨by omega, q.2⟩
    · rw [if_neg e] at z
      cases z
theorem ofT_bad {s : List Nat} {j : Nat} (h : ofT s = .bad j) : True := trivial
end Ey
set_option maxHeartbeats 4000000
namespace Ey
open PySem PySem.Spec L2
abbrev sLaw : Stmt := topS 32
abbrev noSt : Stmt := .Pass ⟨0, 0, 0, 0⟩
/-- the body of a for -/
def fb : Stmt → List Stmt
  | .For _ _ b _ _ => b
  | _ => []
abbrev NL : List Str := ["_law_script", "_law_deck_here", "_law_turn", "_law_tree", "_law_text", "_law_place", "_law_again", "_law_near", "_law_more", "_law_due", "_law_thing"]
theorem scLaw : FnScope NL ["_law_script"] (defScope sLaw) := ⟨rfl, rfl, rfl, by decide +kernel, rfl, by decide +kernel, by decide +kernel⟩
/-- all that the law leans on -/
structure LA (K : PySem.W.Frag) (w : World) (mg : Str → Option Value) (A : Nat → Addr) (D : Nat → FuncData) (cT dP C CB fB CE fI : Addr) (dI : FuncData) (R : Nat → Addr) (QQ : Nat → FuncData) : Prop extends LH K mg A D where
  deck : Df K mg "_law_deck" sDeck ["_law_script", "_law_seed"] (A 18) (D 18)
  lplaces : Df K mg "_law_places" sLPlaces ["_law_tree", "_law_ahead"] (A 22) (D 22)
  lpart : Df K mg "_law_part" sLPart ["_law_tree", "_law_place"] (A 23) (D 23)
  tags : Df K mg "_law_tags" sTags [] (A 24) (D 24)
  tree : Df K mg "_law_drawn_tree" sTree ["_law_deck_here", "_law_box", "_law_deep"] (A 25) (D 25)
  chain : Df K mg "_law_chain" sChain ["_law_deck_here", "_law_many"] (A 26) (D 26)
  ltext : Df K mg "_law_tree_text" sLText ["_law_tree"] (A 27) (D 27)
  lread : Df K mg "_law_read_tree" sLRead ["_law_text", "_law_at", "_law_is_node"] (A 28) (D 28)
  lof : Df K mg "_law_tree_of" sLOf ["_law_text"] (A 29) (D 29)
  told : Df K mg "_law_told" sTold ["_law_text", "_law_way"] (A 30) (D 30)
  bent : Df K mg "_law_bent_text" sBentT ["_law_deck_here", "_law_text"] (A 31) (D 31)
  G : Prog K w mg (A 9) cT dP (A 10) (A 11) (A 12) (A 13) (D 9) (D 10) (D 11) (D 12) (D 13)
  written : Df K mg "tree_written" sWritten ["tree"] (A 14) (D 14)
  kWr : KBinds K (D 14) ["tree"] ["tree"] gRv gRv
  rd : RdF K mg C CB fB R QQ fI dI
  x : XF K mg CB CE
/-- what stands all through the law -/
structure LI (d l P : Addr) (H : Hp) : Prop where
  fr : Frame [d, l, P] d l H
  tg : GxR.TabG H P
theorem LI.nd {d l P : Addr} {H : Hp} (h : LI d l P H) : P ≠ d ∧ P ≠ l := by
  obtain ⟨m, n, ns, h1, h2, _⟩ := h.fr.dk.ex
  obtain ⟨ps, e, _⟩ := h.tg
  exact ⟨ne_of e h1 (by intro z; cases z), ne_of e h2 (by intro z; cases z)⟩
/-- a call of the program -/
theorem LI.prog {d l P : Addr} {H H1 : Hp} (h : LI d l P H) (k : Kp [P] H H1) (g : GxR.TabG H1 P) : LI d l P H1 := by
  refine ⟨⟨h.fr.dk.kp k (by simp [h.nd.1.symm]) (by simp [h.nd.2.symm]), h.fr.dm, h.fr.lm, h.fr.has.kp k fun b hb => ?_⟩, g⟩
  obtain ⟨ps, e, _⟩ := g
  rw [List.mem_singleton.mp hb, e]
  exact fun z => nomatch z
/-- a call of the law's own -/
theorem LI.own {d l P : Addr} {H H1 : Hp} (h : LI d l P H) (k : Kp [d, l] H H1) (D : DeckAt H1 d l) : LI d l P H1 :=
  ⟨h.fr.go k D, tabg_kp h.tg k (by simp [h.nd.1, h.nd.2])⟩
theorem LI.kp0 {d l P : Addr} {H H1 : Hp} (h : LI d l P H) (k : Kp [] H H1) : LI d l P H1 := ⟨h.fr.kp0 k, tabg_kp h.tg k List.not_mem_nil⟩
theorem LI.new {d l P p : Addr} {H : Hp} {o : HO} (h : LI d l P H) (n : H p = none) : LI d l P (upd H p o) := h.kp0 (.new n)
theorem re_an {ms : List Addr} {n w : Nat} {H : Hp} {v : V} {d : PyData} {Q : VK} (h : An ms H v d) (g : Good n w d) (hn : n ≤ 100) (hw : w ≤ 1000000) (q : Q (.str d.shown) H) : rReprE [v] H Q :=
  ⟨ms, v, d, rfl, h, g.f, Nat.le_trans g.d hn, Nat.le_trans g.w hw, q⟩
/-! ### answers as data -/
def rdD : Rd → PyData
  | .bad p => .tuple [.str "wrong", .int (p : Nat)]
  | .good t _ => .tuple [.str "tree", td t]
theorem OfAt.an {ms : List Addr} {H : Hp} {q : Addr} {r : Rd} (h : OfAt H q r) : An ms H (.ref q) (rdD r) := by
  cases r with
  | bad p => exact .tup h (.cons (.str _) (.cons (.int _) .nil))
  | good t p =>
    obtain ⟨v, e, T⟩ := h
    exact .tup e (.cons (.str _) (.cons T.an .nil))
theorem rdM_bad (s : List Nat) : ∀ (n i : Nat) (nd : Bool) (p : Nat), i ≤ s.length → rdM s n i nd = .bad p → p ≤ s.length
  | 0, i, nd, p, hi, h => by cases h; exact hi
  | n + 1, i, nd, p, hi, h => by
    unfold rdM at h
    split at h
    · cases h
      exact hi
    · split at h
      · split at h
        · cases h
          exact hi
        · cases h
      · split at h
        · cases h
          exact hi
        · split at h
          · rename_i h40
            have q := (List.getElem?_eq_some_iff.mp h40).1
            split at h
            · rename_i p1 h1
              cases h
              exact rdM_bad s n _ _ _ (by omega) h1
            · rename_i l p1 h1
              have g1 := rdM_le s n _ _ _ _ h1
              split at h
              · rename_i h44
                have q2 := (List.getElem?_eq_some_iff.mp h44).1
                split at h
                · rename_i p2 h2
                  cases h
                  exact rdM_bad s n _ _ _ (by omega) h2
                · rename_i r p2 h2
                  have g2 := rdM_le s n _ _ _ _ h2
                  split at h
                  · cases h
                  · cases h
                    exact g2
              · cases h
                exact g1
          · cases h
theorem ofT_badle {s : List Nat} {q : Nat} (h : ofT s = .bad q) : q ≤ s.length := by
  unfold ofT at h
  cases hr : rdM s (top s) 0 false with
  | bad p =>
    rw [hr] at h
    cases h
    exact rdM_bad s _ _ _ _ (Nat.zero_le _) hr
  | good t' p =>
    rw [hr] at h
    have z : (if p = s.length then Rd.good t' p else .bad p) = .bad q := h
    by_cases e : p = s.length
    · rw [if_pos e] at z
      cases z
    · rw [if_neg e] at z
      cases z
      exact rdM_le s _ _ _ _ _ hr
theorem good_rd {s : List Nat} (hl : s.length ≤ 5000) (hc : s.count 40 ≤ 58) (ok : ∀ t j, ofT s = .good t j → t.ok) : Good 62 600000 (rdD (ofT s)) := by
  cases e : ofT s with
  | bad q =>
    have hq := ofT_badle e
    refine ⟨?_, by show 0 + 1 ≤ 62; decide, ?_⟩
    · show (fit (.str "wrong") && (fit (.int ((q : Nat) : Int)) && true)) = true
      have e1 : fit (.str "wrong") = true := by decide +kernel
      have e2 : fit (.int ((q : Nat) : Int)) = true := decide_eq_true (by rw [Int.natAbs_natCast]; exact Nat.lt_of_le_of_lt (show q ≤ 5000 by omega) (by decide))
      rw [e1, e2]
      rfl
    · have e1 : wd (.str "wrong") = 52 := by decide +kernel
      show wd (.str "wrong") + 2 + (45 + 2 + 0) + 3 ≤ 600000
      rw [e1]
      decide
  | good t j =>
    have o := ok t j e
    have q := ofT_sz e
    refine ⟨?_, ?_, ?_⟩
    · show (fit (.str "tree") && (fit (td t) && true)) = true
      have e1 : fit (.str "tree") = true := by decide +kernel
      rw [e1, td_fit t o]
      rfl
    · show max 0 (max (td t).depth 0) + 1 ≤ 62
      have := td_depth t
      omega
    · have e1 : wd (.str "tree") = 42 := by decide +kernel
      have := td_wd t o
      show wd (.str "tree") + 2 + (wd (td t) + 2 + 0) + 3 ≤ 600000
      rw [e1]
      omega
section
variable {Pr : Program} {w : World} {K : PySem.W.Frag} {mg : Str → Option Value} {base : Heap} {A : Nat → Addr} {D : Nat → FuncData} {cT dP C CB fB CE fI P : Addr} {dI : FuncData} {R : Nat → Addr} {QQ : Nat → FuncData}
abbrev XL (Pr : Program) (w : World) (K : PySem.W.Frag) (mg : Str → Option Value) (base : Heap) (f : Addr) (cdv : Value) (s : Shared) (H0 : Hp) : Cx := (cxOf CX0 Pr w K mg base NL "law" (defScope sLaw) f cdv callerA [] s H0 E0).nox
abbrev B1 : List Stmt := fb ((defBody sLaw).getD 1 noSt)
abbrev B6 : List Stmt := fb (B1.getD 6 noSt)
theorem LA.fa (L : LA K w mg A D cT dP C CB fB CE fI dI R QQ) : Facts K mg (A 19) (A 20) (A 24) (D 19) (D 20) (D 24) := ⟨L.B, L.draw, L.pick, L.tags⟩
/-- a text bent, read and told -/
theorem near_piece (L : LA K w mg A D cT dP C CB fB CE fI dI R QQ) (hsm : ∃ mm, base.Ns sysModules mm) (f : Addr) (cdv : Value) (s0 : Shared) (H0 : Hp) (hr : Room 80 (XL Pr w K mg base f cdv s0 H0).A) :
    ∃ tt, PSs (XL Pr w K mg base f cdv s0 H0) B6 tt ∧ ∀ (E : Ends) (H2 : Hp) (d l : Addr) (s : List Nat) (z : Int) (x0 x2 x3 x5 x7 x8 x9 x10 : Option V),
      LI d l P H2 → (∀ c ∈ s, c < 1000) → s.length ≤ 2000 → s.count 40 ≤ 50 →
      (∀ (y7 y8 y9 : Option V) (H3 : Hp), LI d l P H3 → Kp [d, l] H2 H3 → E.nx [x0, some (.ref d), x2, x3, some (.str (st s)), x5, some (.int z), y7, y8, y9, x10] H3) →
      tt E [x0, some (.ref d), x2, x3, some (.str (st s)), x5, some (.int z), x7, x8, x9, x10] H2 := by
  have B := L.B
  have hr1 := hr.mono (show 1 ≤ 80 by decide)
  have hr2 := hr.mono (show 2 ≤ 80 by decide)
  have hr3 := hr.mono (show 3 ≤ 80 by decide)
  refine ⟨_, pss_cons (ps_set (i := 7) scLaw.nd rfl (.inl rfl) (pv 4))
    (pss_cons (ps_for PassesOwn.never rfl (pi_range1 (by rfl) B.range (pa_cons (pe_call (ok_pick L.pick.F B L.draw) hr2 (by rfl) L.pick.g L.pick.F.kp L.pick.b .nil pass0 (pa_cons (pv 1) (pa_cons (pe_lst (pa_cons pe_int (pa_cons pe_int (pa_cons pe_int (pa_cons pe_int pa_nil))))) pa_nil))) pa_nil)) (pg_name (i := 8) scLaw.nd rfl (.inl rfl))
      (pss_one (ps_set (i := 7) scLaw.nd rfl (.inl rfl) (pe_call (ok_bentT L.fa L.bent.F) hr3 (by rfl) L.bent.g L.bent.F.kp L.bent.b .nil pass0 (pa_cons (pv 1) (pa_cons (pv 7) pa_nil))))))
    (pss_cons (ps_set (i := 9) scLaw.nd rfl (.inl rfl) (pe_call (ok_lof 60 L.lread L.lof.F B) (hr.mono (by decide)) (by rfl) L.lof.g L.lof.F.kp L.lof.b .nil pass0 (pa_cons (pv 7) pa_nil)))
    (pss_one (ps_if (pt_cmpR op_ne (pe_callB (cr_reprE hsm rfl hr) (by rfl) B.repr (by decide +kernel) (pa_cons (pe_call (ok_told L.rd L.x L.told.F) (hr.mono (by decide)) (by rfl) L.told.g L.told.F.kp L.told.b .nil pass0 (pa_cons (pv 7) (pa_cons (pe_op op_modN (pe_callTy call_int1 (by rfl) B.int (by decide +kernel) (pa_cons (pv 6) pa_nil)) pe_int) pa_nil))) pa_nil))
        (pe_callB (cr_reprE hsm rfl hr) (by rfl) B.repr (by decide +kernel) (pa_cons (pv 9) pa_nil)) (nomark _)) (pss_one (ps_ret pe_bl)) pss_nil)))), ?_⟩
  intro E H2 d l s z x0 x2 x3 x5 x7 x8 x9 x10 I2 low hl hc k
  refine ⟨_, rfl, _, rfl, by show 4 ≤ sizeLine; decide, fun p np => ?_⟩
  have I3 := I2.new (o := .lst [.int 1, .int 1, .int 2, .int 3]) np
  have k3 : Kp [d, l] H2 (upd H2 p (.lst [.int 1, .int 1, .int 2, .int 3])) := .new np
  have np1 := I2.fr.ne np
  refine ⟨d, l, p, _, rfl, I3.fr.dk, sql_of upd_same, by simp, by show 4 ≤ 1000000; decide, np1.1, np1.2, fun x H4 hx D4 k4 => ?_⟩
  have I4 := I3.own k4 D4
  have kk4 := k3.trans k4
  obtain ⟨m, rfl, hm⟩ : ∃ m : Nat, x = .int (m : Nat) ∧ m ≤ 3 := by
    simp only [List.mem_cons, List.not_mem_nil, or_false] at hx
    rcases hx with rfl | rfl | rfl | rfl
    · exact ⟨1, rfl, by decide⟩
    · exact ⟨1, rfl, by decide⟩
    · exact ⟨2, rfl, by decide⟩
    · exact ⟨3, rfl, by decide⟩
  refine ⟨_, rfl, by omega, by omega, ?_⟩
  rw [Int.toNat_natCast]
  refine for_range (lo := 0) (n := m) (fun i σ H => ∃ (s' : List Nat) (y8 : Option V), σ = [x0, some (.ref d), x2, x3, some (.str (st s)), x5, some (.int z), some (.str (st s')), y8, x9, x10] ∧ LI d l P H ∧ Kp [d, l] H2 H ∧ (∀ c ∈ s', c < 1000) ∧ s'.length ≤ s.length + 10 * i ∧ s'.count 40 ≤ s.count 40 + i)
    ⟨s, _, rfl, I4, kk4, low, Nat.le_refl _, Nat.le_refl _⟩ ?_ ?_
  · rintro i σ H5 hi ⟨s', y8, rfl, I5, k5, low5, l5, c5⟩
    refine ⟨_, rfl, _, rfl, d, l, s', rfl, I5.fr.dk, low5, by omega, fun s2 H6 bt D6 k6 => ?_⟩
    have h1 := bt.len
    have h2 := bt.cnt
    exact ⟨s2, _, rfl, I5.own k6 D6, k5.trans k6, bt.low, by omega, by omega⟩
  · rintro σ H5 ⟨s', y8, rfl, I5, k5, low5, l5, c5⟩
    refine ⟨_, rfl, s', rfl, by omega, by omega, fun q1 H6 of1 k6 => ?_⟩
    rw [ofM_T (show s'.count 40 < 60 by omega)] at of1
    have I6 := I5.kp0 k6
    refine ⟨_, rfl, _, rfl, .inl ⟨_, rfl, _, _, rfl, rfl, (by decide : (2 : Int) ≠ 0), ?_⟩⟩
    refine ⟨_, [d, l, P], .str (st s'), _, rfl, .str _, .inr ⟨s', rfl, by omega, by omega, fun q2 H7 of2 ok7 k7 => ?_⟩⟩
    have I7 := I6.kp0 k7
    have g := good_rd (s := s') (by omega) (by omega) ok7
    refine re_an (ms := [d, l, P]) of2.an g (by decide) (by decide) ?_
    have of1' : An [d, l, P] H7 (.ref q1) (rdD (ofT s')) := of1.an.kp k7 (fun _ h => by cases h)
    refine ⟨_, rfl, re_an of1' g (by decide) (by decide) ⟨rfl, _, rfl, iteNS rfl ?_⟩⟩
    exact k _ _ _ H7 I7 (k5.trans ((k6.trans k7).more (by simp)))
end
end Ey
set_option maxHeartbeats 4000000
namespace Ey
open PySem PySem.Spec L2
theorem good_pair {n w : Nat} {x y : PyData} (a : Good n w x) (b : Good n w y) : Good (n + 1) (2 * w + 7) (.tuple [x, y]) := by
  refine ⟨?_, ?_, ?_⟩
  · show (fit x && (fit y && true)) = true
    rw [a.f, b.f]
    rfl
  · show max x.depth (max y.depth 0) + 1 ≤ n + 1
    have := a.d
    have := b.d
    omega
  · show wd x + 2 + (wd y + 2 + 0) + 3 ≤ 2 * w + 7
    have := a.w
    have := b.w
    omega
theorem good_st {s : List Nat} (low : ∀ c ∈ s, c < 1000) (hl : s.length ≤ 2000) : Good 0 20002 (.str (st s)) := by
  refine ⟨?_, Nat.le_refl _, ?_⟩
  · show ((st s).cps.toList.all fun c => decide (c < 1000)) = true
    rw [List.all_eq_true]
    intro c hc
    exact decide_eq_true (low c (by
      have e : (st s).cps.toList = s := by
        show s.toArray.toList = s
        simp
      rw [e] at hc
      exact hc))
  · show 10 * (st s).length + 2 ≤ 20002
    rw [st_len]
    omega
theorem good_td {t : Tr} (ok : t.ok) (sz : t.sz ≤ 40) : Good 41 20002 (td t) := by
  refine ⟨td_fit t ok, ?_, ?_⟩
  · have := td_depth t
    have := ht_sz t
    omega
  · have := td_wd t ok
    omega
theorem pt_part : ∀ (t : Tr) (p : List Nat), t.ok → (pt t p).ok ∧ (pt t p).sz ≤ t.sz
  | t, [], o => by rw [pt_nil]; exact ⟨o, Nat.le_refl _⟩
  | .nil, _ :: _, _ => ⟨trivial, Nat.le_refl _⟩
  | .nd g l r, c :: p, o => by
    have q1 := pt_part l p o.2.1
    have q2 := pt_part r p o.2.2
    have hs : (Tr.nd g l r).sz = l.sz + r.sz + 1 := by simp only [Tr.sz]
    show (if c = 108 then pt l p else pt r p).ok ∧ (if c = 108 then pt l p else pt r p).sz ≤ (Tr.nd g l r).sz
    rw [hs]
    split
    · exact ⟨q1.1, by omega⟩
    · exact ⟨q2.1, by omega⟩
section
variable {Pr : Program} {w : World} {K : PySem.W.Frag} {mg : Str → Option Value} {base : Heap} {A : Nat → Addr} {D : Nat → FuncData} {cT dP C CB fB CE fI P : Addr} {dI : FuncData} {R : Nat → Addr} {QQ : Nat → FuncData}
theorem any_x {M : List Addr} {H : Hp} {xs : List V} (h : ∀ x ∈ xs, ∃ y, An M H x y) {x : V} (hx : x ∈ xs) : ∃ y, An M H x y := h x hx
/-- a value that is no text, read -/
theorem thing_piece (L : LA K w mg A D cT dP C CB fB CE fI dI R QQ) (hsm : ∃ mm, base.Ns sysModules mm) (f : Addr) (cdv : Value) (s0 : Shared) (H0 : Hp) (hr : Room 80 (XL Pr w K mg base f cdv s0 H0).A) :
    ∃ tt, PSs (XL Pr w K mg base f cdv s0 H0) (B1.drop 7) tt ∧ ∀ (E : Ends) (H2 : Hp) (d l : Addr) (v : V) (t : Tr) (s : List Nat) (x0 x2 x5 x6 x7 x8 x9 x10 : Option V),
      LI d l P H2 → TreeAt H2 v t →
      (∀ (y10 : Option V) (H3 : Hp), LI d l P H3 → E.nx [x0, some (.ref d), x2, some v, some (.str (st s)), x5, x6, x7, x8, x9, y10] H3) →
      tt E [x0, some (.ref d), x2, some v, some (.str (st s)), x5, x6, x7, x8, x9, x10] H2 := by
  have B := L.B
  have hr2 := hr.mono (show 2 ≤ 80 by decide)
  refine ⟨_, pss_cons (ps_set (i := 10) scLaw.nd rfl (.inl rfl) (pe_call (ok_pick L.pick.F B L.draw) hr2 (by rfl) L.pick.g L.pick.F.kp L.pick.b .nil pass0 (pa_cons (pv 1) (pa_cons (pe_lst
      (pa_cons pe_non (pa_cons pe_int (pa_cons pe_bl (pa_cons (pe_lst (pa_cons (pv 4) pa_nil)) (pa_cons (pe_tup pa_nil) (pa_cons (pv 3) (pa_cons pe_dnewK (pa_cons (pe_call (ok_any L.toLH L.any 3) (hr.mono (by decide)) (by rfl) L.any.g L.any.F.kp L.any.b .nil pass0 (pa_cons (pv 1) (pa_cons pe_int pa_nil))) pa_nil))))))))) pa_nil))))
    (pss_one (ps_if (PW.pt (pw_and (pt_not (pt_val (pe_callB call_isi (by rfl) B.isi (by decide +kernel) (pa_cons (pv 10) (pa_cons (pe_bltn (v := .ty "str") (by rfl) B.str (by decide +kernel) rfl) pa_nil)))))
        (pw_and1 (pt_cmpR op_ne (pe_callB (cr_reprE hsm rfl hr) (by rfl) B.repr (by decide +kernel) (pa_cons (pe_call (ok_told L.rd L.x L.told.F) (hr.mono (by decide)) (by rfl) L.told.g L.told.F.kp L.told.b .nil pass0 (pa_cons (pv 10) (pa_cons pe_int pa_nil))) pa_nil))
          (pe_callB (cr_reprE hsm rfl hr) (by rfl) B.repr (by decide +kernel) (pa_cons (pe_tup (pa_cons pe_str (pa_cons (pe_un un_neg pe_int) pa_nil))) pa_nil)) (nomark _))))) (pss_one (ps_ret pe_bl)) pss_nil)), ?_⟩
  intro E H2 d l v t s x0 x2 x5 x6 x7 x8 x9 x10 I2 T k
  refine ⟨_, rfl, _, rfl, by show 1 ≤ sizeLine; decide, fun p1 n1 => ?_⟩
  have f1 := I2.fr.has.fresh n1
  have I3 := I2.new (o := .lst [.str (st s)]) n1
  have k3 : Kp [] H2 (upd H2 p1 (.lst [.str (st s)])) := .new n1
  have e1 : (upd H2 p1 (.lst [.str (st s)])) p1 = some (.lst [.str (st s)]) := upd_same
  generalize upd H2 p1 (.lst [.str (st s)]) = H3 at I3 k3 e1
  refine ⟨Nat.zero_le _, fun p2 n2 => ?_⟩
  have I4 := I3.new (o := .tup []) n2
  have k4 : Kp [] H3 (upd H3 p2 (.tup [])) := .new n2
  have e2 : (upd H3 p2 (.tup [])) p2 = some (.tup []) := upd_same
  generalize upd H3 p2 (.tup []) = H4 at I4 k4 e2
  refine ⟨_, rfl, fun p3 n3 => ?_⟩
  have f3 := I4.fr.has.fresh n3
  have I5 := I4.new (o := .dK []) n3
  have k5 : Kp [] H4 (upd H4 p3 (.dK [])) := .new n3
  have e3 : (upd H4 p3 (.dK [])) p3 = some (.dK []) := upd_same
  generalize upd H4 p3 (.dK []) = H5 at I5 k5 e3
  refine ⟨_, rfl, d, l, [d, l, P], 2, rfl, by decide, I5.fr, fun va ya H6 an6 _ F6 k6 => ?_⟩
  have I6 := I5.own k6 F6.dk
  have sub2 : ∀ x ∈ [d, l], x ∈ [d, l, P] := fun x hx => by
    rcases List.mem_cons.mp hx with rfl | hx
    · simp
    · rw [List.mem_singleton.mp hx]
      simp
  have a0 : An [d, l, P] H6 (.ref p1) (.list [.str (st s)]) := (((An.lst e1 f1 (.cons (.str _) .nil)).kp k4 (fun _ h => by cases h)).kp k5 (fun _ h => by cases h)).kp k6 sub2
  have a1 : An [d, l, P] H6 (.ref p2) (.tuple []) := .tup (k6.tup _ _ (k5.tup _ _ e2)) .nil
  have a2 : An [d, l, P] H6 v (td t) := ((((T.kp k3).kp k4).kp k5).kp k6).an
  have a3 : An [d, l, P] H6 (.ref p3) (.dict []) := (An.dct e3 f3 .nil).kp k6 sub2
  refine ⟨by show 8 ≤ sizeLine; decide, fun p4 n4 => ?_⟩
  have I7 := I6.new (o := .lst [.non, .int 0, .bl true, .ref p1, .ref p2, v, .ref p3, va]) n4
  have k7 : Kp [] H6 (upd H6 p4 (.lst [.non, .int 0, .bl true, .ref p1, .ref p2, v, .ref p3, va])) := .new n4
  have np4 := I6.fr.ne n4
  refine ⟨d, l, p4, _, rfl, I7.fr.dk, sql_of upd_same, by simp, by show 8 ≤ 1000000; decide, np4.1, np4.2, fun x H8 hx D8 k8 => ?_⟩
  have I8 := I7.own k8 D8
  obtain ⟨y, hy⟩ : ∃ y, An [d, l, P] H8 x y := by
    have go : ∀ {u : V} (q : PyData), An [d, l, P] H6 u q → ∃ y, An [d, l, P] H8 u y := fun q h => ⟨_, (h.kp k7 (fun _ h => by cases h)).kp k8 sub2⟩
    simp only [List.mem_cons, List.not_mem_nil, or_false] at hx
    rcases hx with rfl | rfl | rfl | rfl | rfl | rfl | rfl | rfl
    · exact ⟨_, .non⟩
    · exact ⟨_, .int 0⟩
    · exact ⟨_, .bl true⟩
    · exact go _ a0
    · exact go _ a1
    · exact go _ a2
    · exact go _ a3
    · exact go _ an6
  obtain ⟨tx, ta, tb⟩ := hy.strK (K := K)
  refine ⟨_, rfl, x, .ty "str", tx, .type "str", _, rfl, .ty "str", ta, tb, _, rfl, ?_⟩
  cases hs : isStr y with
  | true => exact iteF (k _ H8 I8)
  | false =>
    refine iteT ⟨_, rfl, x, [d, l, P], y, 1, rfl, hy, .inl ⟨hs, fun q H9 e9 k9 => ?_⟩⟩
    have I9 := I8.kp0 k9
    have g : Good 1 200 (.tuple [.str "wrong", .int (-1)]) := ⟨by decide +kernel, by decide, by decide +kernel⟩
    refine re_an (ms := [d, l, P]) (.tup e9 (.cons (.str _) (.cons (.int _) .nil))) g (by decide) (by decide) ?_
    refine ⟨1, rfl, by show 2 ≤ sizeLine; decide, fun q2 n2 => re_an (ms := [d, l, P]) (.tup upd_same (.cons (.str _) (.cons (.int _) .nil))) g (by decide) (by decide) ⟨rfl, _, rfl, iteNS rfl ?_⟩⟩
    exact k _ _ (I9.new n2)
end
end Ey
set_option maxHeartbeats 4000000
namespace Ey
open PySem PySem.Spec L2
section
variable {Pr : Program} {w : World} {K : PySem.W.Frag} {mg : Str → Option Value} {base : Heap} {A : Nat → Addr} {D : Nat → FuncData} {cT dP C CB fB CE fI P : Addr} {dI : FuncData} {R : Nat → Addr} {QQ : Nat → FuncData}
theorem plV_in {t : Tr} {x : V} (h : x ∈ plV [] t) : ∃ p, isP t p = true ∧ x = .str (st p) := by
  obtain ⟨p, hp, rfl⟩ := List.mem_map.mp h
  exact ⟨p, (isP_iff t p).mpr hp, rfl⟩
/-- a turn behind the drawing of its tree -/
theorem body_piece (L : LA K w mg A D cT dP C CB fB CE fI dI R QQ) (b : BF base mg cT P) (hsm : ∃ mm, base.Ns sysModules mm) (f : Addr) (cdv : Value) (s0 : Shared) (H0 : Hp) (hr : Room 80 (XL Pr w K mg base f cdv s0 H0).A) :
    ∃ tt, PSs (XL Pr w K mg base f cdv s0 H0) (B1.drop 1) tt ∧ ∀ (E : Ends) (H2 : Hp) (d l : Addr) (v : V) (t : Tr) (x0 x2 x4 x5 x6 x7 x8 x9 x10 : Option V),
      LI d l P H2 → TreeAt H2 v t → t.ok → t.sz ≤ 40 →
      (∀ (x4 x5 x6 x7 x8 x9 x10 : Option V) (H3 : Hp), LI d l P H3 → E.nx [x0, some (.ref d), x2, some v, x4, x5, x6, x7, x8, x9, x10] H3) →
      tt E [x0, some (.ref d), x2, some v, x4, x5, x6, x7, x8, x9, x10] H2 := by
  have B := L.B
  have hr1 := hr.mono (show 1 ≤ 80 by decide)
  have hr2 := hr.mono (show 2 ≤ 80 by decide)
  have hr4 := hr.mono (show 4 ≤ 80 by decide)
  have hr6 := hr.mono (show 6 ≤ 80 by decide)
  obtain ⟨tn, dn, rn⟩ := near_piece (Pr := Pr) L hsm f cdv s0 H0 hr
  obtain ⟨th, dh, rh⟩ := thing_piece (Pr := Pr) L hsm f cdv s0 H0 hr
  have gw : FnOk Pr w K mg base CX0 4 (A 14) (D 14) ["tree"] (spWritten P) := ok_written L.G b L.written.F
  have gr : FnOk Pr w K mg base (L2.CX Pr w) 6 (R 7) (QQ 7) ["text"] (spReadT CB) := ok_read L.rd
  refine ⟨_, pss_cons (ps_set (i := 4) scLaw.nd rfl (.inl rfl) (pe_call (ok_ltext L.ltext 50) (hr.mono (by decide)) (by rfl) L.ltext.g L.ltext.F.kp L.ltext.b .nil pass0 (pa_cons (pv 3) pa_nil)))
    (pss_cons (ps_if (PW.pt (pw_or
        (pt_cmpR op_ne (pe_callB (cr_reprE hsm rfl hr) (by rfl) B.repr (by decide +kernel) (pa_cons (pe_tup (pa_cons (pe_call gw hr4 (by rfl) L.written.g L.written.F.kp L.written.b .nil pass0 (pa_cons (pv 3) pa_nil)) (pa_cons (pe_callKR gw hr4 (by rfl) L.written.g L.written.F.kp L.kWr pass0 (pk_cons (pv 3) pk_nil)) pa_nil))) pa_nil))
          (pe_callB (cr_reprE hsm rfl hr) (by rfl) B.repr (by decide +kernel) (pa_cons (pe_tup (pa_cons (pv 4) (pa_cons (pv 4) pa_nil))) pa_nil)) (nomark _))
        (pw_or1 (pt_cmpR op_ne (pe_callB (cr_reprE hsm rfl hr) (by rfl) B.repr (by decide +kernel) (pa_cons (pe_call (ok_lof 60 L.lread L.lof.F B) (hr.mono (by decide)) (by rfl) L.lof.g L.lof.F.kp L.lof.b .nil pass0 (pa_cons (pv 4) pa_nil)) pa_nil))
          (pe_callB (cr_reprE hsm rfl hr) (by rfl) B.repr (by decide +kernel) (pa_cons (pe_tup (pa_cons pe_str (pa_cons (pv 3) pa_nil))) pa_nil)) (nomark _))))) (pss_one (ps_ret pe_bl)) pss_nil)
    (pss_cons (ps_if (pt_cmpR op_ne (pe_callB (cr_reprE hsm rfl hr) (by rfl) B.repr (by decide +kernel) (pa_cons (pe_tup (pa_cons (pe_call gr hr6 (by rfl) L.rd.read.g L.rd.read.F.kp L.rd.read.b .nil passL (pa_cons (pv 4) pa_nil)) (pa_cons (pe_callKR gr hr6 (by rfl) L.rd.read.g L.rd.read.F.kp L.rd.kRead passL (pk_cons (pv 4) pk_nil)) pa_nil))) pa_nil))
          (pe_callB (cr_reprE hsm rfl hr) (by rfl) B.repr (by decide +kernel) (pa_cons (pe_tup (pa_cons (pv 3) (pa_cons (pv 3) pa_nil))) pa_nil)) (nomark _)) (pss_one (ps_ret pe_bl)) pss_nil)
    (pss_cons (ps_set (i := 5) scLaw.nd rfl (.inl rfl) (pe_call (ok_pick L.pick.F B L.draw) hr2 (by rfl) L.pick.g L.pick.F.kp L.pick.b .nil pass0 (pa_cons (pv 1) (pa_cons (pe_call (ok_lplaces L.lplaces 50) (hr.mono (by decide)) (by rfl) L.lplaces.g L.lplaces.F.kp L.lplaces.b .nil pass0 (pa_cons (pv 3) (pa_cons pe_str pa_nil))) pa_nil))))
    (pss_cons (ps_if (pt_cmpR op_ne (pe_callB (cr_reprE hsm rfl hr) (by rfl) B.repr (by decide +kernel) (pa_cons (pe_call gw hr4 (by rfl) L.written.g L.written.F.kp L.written.b .nil pass0 (pa_cons (pe_call (ok_partAt L.G b) hr4 (by rfl) L.G.partAt.g L.G.partAt.F.kp L.G.partAt.b .nil pass0 (pa_cons (pv 3) (pa_cons (pv 5) pa_nil))) pa_nil)) pa_nil))
          (pe_callB (cr_reprE hsm rfl hr) (by rfl) B.repr (by decide +kernel) (pa_cons (pe_call (ok_ltext L.ltext 50) (hr.mono (by decide)) (by rfl) L.ltext.g L.ltext.F.kp L.ltext.b .nil pass0 (pa_cons (pe_call (ok_lpart L.lpart.F) hr1 (by rfl) L.lpart.g L.lpart.F.kp L.lpart.b .nil pass0 (pa_cons (pv 3) (pa_cons (pv 5) pa_nil))) pa_nil)) pa_nil)) (nomark _)) (pss_one (ps_ret pe_bl)) pss_nil)
    (pss_cons (ps_for PassesOwn.never rfl (pi_range1 (by rfl) B.range (pa_cons pe_int pa_nil)) (pg_name (i := 6) scLaw.nd rfl (.inl rfl)) dn) dh))))), ?_⟩
  intro E H2 d l v t x0 x2 x4 x5 x6 x7 x8 x9 x10 I2 T ok sz k
  have sz1 : t.sz ≤ 1000 := Nat.le_trans sz (by decide)
  have htl : t.ht ≤ 40 := Nat.le_trans (ht_sz t) sz
  have tl : (txt t).length ≤ 2000 := by
    have := txt_len t ok
    omega
  have tc : (txt t).count 40 ≤ 40 := Nat.le_trans (txt_cnt t ok) sz
  have tlow := txt_low t ok
  have gtx : Good 0 20002 (.str (st (txt t))) := good_st tlow tl
  have gtt : Good 1 50000 (.tuple [.str (st (txt t)), .str (st (txt t))]) := (good_pair gtx gtx).mono (Nat.le_refl _) (by decide)
  have gtr : Good 42 50000 (.tuple [td t, td t]) := (good_pair (good_td ok sz) (good_td ok sz)).mono (Nat.le_refl _) (by decide)
  let M := [d, l, P]
  have subN : ∀ x ∈ ([] : List Addr), x ∈ M := fun _ h => by cases h
  -- text
  refine ⟨_, rfl, v, t, rfl, T, ok, by omega, sz1, ?_⟩
  -- written twice
  refine ⟨_, rfl, v, t, rfl, T, ok, sz1, I2.tg, fun H3 g3 k3 => ?_⟩
  have I3 := I2.prog k3 g3
  have T3 := T.kp k3
  refine ⟨_, rfl, v, t, rfl, T3, ok, sz1, I3.tg, fun H4 g4 k4 => ?_⟩
  have I4 := I3.prog k4 g4
  have T4 := T3.kp k4
  refine ⟨by show 2 ≤ sizeLine; decide, fun q1 n1 => re_an (ms := M) (.tup upd_same (.cons (.str _) (.cons (.str _) .nil))) gtt (by decide) (by decide) ?_⟩
  have I5 := I4.new (o := .tup [.str (st (txt t)), .str (st (txt t))]) n1
  have T5 := T4.kp (Kp.new (ms := []) (o := .tup [.str (st (txt t)), .str (st (txt t))]) n1)
  generalize upd H4 q1 (.tup [.str (st (txt t)), .str (st (txt t))]) = H5 at I5 T5
  refine ⟨_, rfl, _, rfl, by show 2 ≤ sizeLine; decide, fun q2 n2 => re_an (ms := M) (.tup upd_same (.cons (.str _) (.cons (.str _) .nil))) gtt (by decide) (by decide) ⟨rfl, _, rfl, iteNS rfl ?_⟩⟩
  have I6 := I5.new (o := .tup [.str (st (txt t)), .str (st (txt t))]) n2
  have T6 := T5.kp (Kp.new (ms := []) (o := .tup [.str (st (txt t)), .str (st (txt t))]) n2)
  generalize upd H5 q2 (.tup [.str (st (txt t)), .str (st (txt t))]) = H6 at I6 T6
  -- the law's own reading
  refine ⟨_, rfl, txt t, rfl, by omega, by omega, fun q3 H7 of3 k7 => ?_⟩
  have I7 := I6.kp0 k7
  have T7 := T6.kp k7
  rw [ofM_T (show (txt t).count 40 < 60 by omega)] at of3
  have g3' := good_rd (s := txt t) (by omega) (by omega) (fun t' j e => by rw [ofT_txt ok] at e; cases e; exact ok)
  refine re_an (ms := M) of3.an g3' (by decide) (by decide) ?_
  rw [ofT_txt ok] at g3' ⊢
  refine ⟨_, rfl, by show 2 ≤ sizeLine; decide, fun q4 n4 => re_an (ms := M) (d := rdD (.good t (txt t).length)) (.tup upd_same (.cons (.str _) (.cons (T7.kp (Kp.new (ms := []) n4)).an .nil))) g3' (by decide) (by decide) ⟨rfl, _, rfl, iteNS rfl ?_⟩⟩
  have I8 := I7.new (o := .tup [.str "tree", v]) n4
  have T8 := T7.kp (Kp.new (ms := []) (o := .tup [.str "tree", v]) n4)
  generalize upd H7 q4 (.tup [.str "tree", v]) = H8 at I8 T8
  -- tree_read
  have notBad : ∀ {q : Nat} {X : Prop}, ofT (txt t) = .bad q → X := fun e => by rw [ofT_txt ok] at e; cases e
  refine ⟨_, rfl, _, M, .str (st (txt t)), rfl, .str _, .inr ⟨txt t, rfl, by omega, by omega, fun j v1 t1 H9 e1 T1 _ k9 => ?_, fun _ _ _ e _ _ => notBad e⟩⟩
  have et : t1 = t := by rw [ofT_txt ok] at e1; cases e1; rfl
  rw [et] at T1
  have I9 := I8.kp0 k9
  have T9 := T8.kp k9
  refine ⟨_, rfl, _, M, .str (st (txt t)), rfl, .str _, .inr ⟨txt t, rfl, by omega, by omega, fun j2 v2 t2 H10 e2 T2 _ k10 => ?_, fun _ _ _ e _ _ => notBad e⟩⟩
  have et2 : t2 = t := by rw [ofT_txt ok] at e2; cases e2; rfl
  rw [et2] at T2
  have I10 := I9.kp0 k10
  have T10 := T9.kp k10
  have T1' := T1.kp k10
  refine ⟨by show 2 ≤ sizeLine; decide, fun q5 n5 => re_an (ms := M) (d := .tuple [td t, td t]) (.tup upd_same (.cons (T1'.kp (Kp.new (ms := []) n5)).an (.cons (T2.kp (Kp.new (ms := []) n5)).an .nil))) gtr (by decide) (by decide) ?_⟩
  have I11 := I10.new (o := .tup [v1, v2]) n5
  have T11 := T10.kp (Kp.new (ms := []) (o := .tup [v1, v2]) n5)
  generalize upd H10 q5 (.tup [v1, v2]) = H11 at I11 T11
  refine ⟨_, rfl, _, rfl, by show 2 ≤ sizeLine; decide, fun q6 n6 => re_an (ms := M) (d := .tuple [td t, td t]) (.tup upd_same (.cons (T11.kp (Kp.new (ms := []) n6)).an (.cons (T11.kp (Kp.new (ms := []) n6)).an .nil))) gtr (by decide) (by decide) ⟨rfl, _, rfl, iteNS rfl ?_⟩⟩
  have I12 := I11.new (o := .tup [v, v]) n6
  have T12 := T11.kp (Kp.new (ms := []) (o := .tup [v, v]) n6)
  generalize upd H11 q6 (.tup [v, v]) = H12 at I12 T12
  -- a place
  refine ⟨_, rfl, _, rfl, v, t, [], by rw [s_e]; rfl, T12, by omega, by omega, by decide, fun q7 H13 k13 n7 h13 => ?_⟩
  have I13 := I12.kp0 k13
  have T13 := T12.kp k13
  have nq7 := I12.fr.ne n7
  refine ⟨d, l, q7, plV [] t, rfl, I13.fr.dk, sql_of h13, ?_, ?_, nq7.1, nq7.2, fun x H14 hx D14 k14 => ?_⟩
  · intro e
    have := plV_len [] t
    rw [e] at this
    cases this
  · rw [plV_len]
    omega
  obtain ⟨p, hp, rfl⟩ := plV_in hx
  have I14 := I13.own k14 D14
  have T14 := T13.kp k14
  obtain ⟨okp, szp⟩ := pt_part t p ok
  have gpx : Good 0 20002 (.str (st (txt (pt t p)))) := good_st (txt_low _ okp) (by have := txt_len _ okp; omega)
  have htp : (pt t p).ht ≤ 40 := Nat.le_trans (ht_sz _) (by omega)
  refine ⟨_, rfl, _, rfl, v, t, p, rfl, T14, ok, sz1, hp, I14.tg, fun v3 H15 T3' g15 k15 => ?_⟩
  have I15 := I14.prog k15 g15
  have T15 := T14.kp k15
  refine ⟨v3, _, rfl, T3', okp, by omega, I15.tg, fun H16 g16 k16 => re_an (ms := M) (.str _) gpx (by decide) (by decide) ?_⟩
  have I16 := I15.prog k16 g16
  have T16 := T15.kp k16
  refine ⟨_, rfl, _, rfl, v, t, p, rfl, T16, hp, fun v4 T4' => ⟨v4, _, rfl, T4', okp, by omega, by omega, re_an (ms := M) (.str _) gpx (by decide) (by decide) ⟨rfl, _, rfl, iteNS rfl ?_⟩⟩⟩
  -- bent texts
  refine ⟨4, rfl, by decide, by decide, ?_⟩
  refine for_range (lo := 0) (n := 4) (fun i σ H => ∃ (y6 y7 y8 y9 : Option V), σ = [x0, some (.ref d), x2, some v, some (.str (st (txt t))), some (.str (st p)), y6, y7, y8, y9, x10] ∧ LI d l P H ∧ TreeAt H v t)
    ⟨_, _, _, _, rfl, I16, T16⟩ ?_ ?_
  · rintro i σ H hi ⟨y6, y7, y8, y9, rfl, I, TT⟩
    refine rn _ H d l (txt t) _ x0 x2 (some v) (some (.str (st p))) _ _ _ x10 I tlow tl (by omega) fun z7 z8 z9 H' I' k' => ?_
    exact ⟨_, _, _, _, rfl, I', TT.kp k'⟩
  · rintro σ H ⟨y6, y7, y8, y9, rfl, I, TT⟩
    exact rh E H d l v t (txt t) x0 x2 _ _ _ _ _ x10 I TT fun y10 H' I' => k _ _ _ _ _ _ _ H' I'
def spLaw (K : PySem.W.Frag) (P : Addr) : Sp := fun vs H Q _ => ∃ (a : Addr) (ns : List Int), vs = [.ref a] ∧ SqL K H a (ns.map V.int) ∧ ns.length ≤ 63 ∧ GxR.TabG H P ∧ ∀ H', Q (.bl true) H'
theorem ok_law {f : Addr} {fd : FuncData} (F : Fun K "law" "law" sLaw f fd) (L : LA K w mg A D cT dP C CB fB CE fI dI R QQ) (b : BF base mg cT P) (hsm : ∃ mm, base.Ns sysModules mm) : LawOk Pr w K mg base f fd "_law_script" (spLaw K P) := by
  refine law_ok (k := 80) F scLaw ⟨rfl, by decide, by decide⟩ fun cdv s H v Q hr h => ?_
  obtain ⟨a, ns, e, hS, hn, g, k⟩ := h
  cases e
  have B := L.B
  obtain ⟨tb, db, rb⟩ := body_piece (Pr := Pr) L b hsm f cdv s H hr
  have hr1 := hr.mono (show 1 ≤ 80 by decide)
  refine ⟨_, pss_cons (ps_set (i := 1) scLaw.nd rfl (.inl rfl) (pe_call (ok_deck L.deck.F B) hr1 (by rfl) L.deck.g L.deck.F.kp L.deck.b .nil pass0 (pa_cons (pv 0) (pa_cons pe_int pa_nil))))
    (pss_cons (ps_for PassesOwn.never rfl (pi_range1 (by rfl) B.range (pa_cons pe_int pa_nil)) (pg_name (i := 2) scLaw.nd rfl (.inl rfl))
      (pss_cons (ps_set (i := 3) scLaw.nd rfl (.inl rfl) (pe_ifExp (pt_cmpR op_gt (pv 2) pe_int (nomark _))
        (pe_call (ok_tree L.fa L.tree 8) (hr.mono (by decide)) (by rfl) L.tree.g L.tree.F.kp L.tree.b .nil pass0 (pa_cons (pv 1) (pa_cons (pe_disp (pps_cons pe_str pe_int pps_nil) (by rfl) (by rfl) (fun z => by cases z) (by decide)) (pa_cons pe_int pa_nil))))
        (pe_call (ok_chain L.fa L.chain.F) (hr.mono (by decide)) (by rfl) L.chain.g L.chain.F.kp L.chain.b .nil pass0 (pa_cons (pv 1) (pa_cons (pe_call (ok_draw L.draw.F B) hr1 (by rfl) L.draw.g L.draw.F.kp L.draw.b .nil pass0 (pa_cons (pv 1) (pa_cons pe_int pa_nil))) pa_nil)))))
      db))
    (pss_one (ps_ret pe_bl))), ?_⟩
  refine ⟨_, rfl, a, ns, _, rfl, hS, hn, fun d l H1 D1 k1 _ _ => ?_⟩
  have g1 := tabg_kp g k1 List.not_mem_nil
  have hasAll : Has [d, l, P] H1 := by
    intro x hx
    obtain ⟨m, n, ms, h1, h2, _⟩ := D1.ex
    obtain ⟨ps, e, _⟩ := g1
    simp only [List.mem_cons, List.not_mem_nil, or_false] at hx
    rcases hx with rfl | rfl | rfl
    · rw [h1]; exact fun z => nomatch z
    · rw [h2]; exact fun z => nomatch z
    · rw [e]; exact fun z => nomatch z
  have I1 : LI d l P H1 := ⟨⟨D1, by simp, by simp, hasAll⟩, g1⟩
  refine ⟨4, rfl, by decide, by decide, ?_⟩
  refine for_range (lo := 0) (n := 4) (fun i σ H => ∃ (x2 x3 x4 x5 x6 x7 x8 x9 x10 : Option V), σ = [some (.ref a), some (.ref d), x2, x3, x4, x5, x6, x7, x8, x9, x10] ∧ LI d l P H)
    ⟨_, _, _, _, _, _, _, _, _, rfl, I1⟩ ?_ ?_
  · rintro i σ H2 hi ⟨x2, x3, x4, x5, x6, x7, x8, x9, x10, rfl, I⟩
    refine ⟨_, rfl, _, _, rfl, rfl, _, rfl, ite2 (fun _ => ?_) (fun _ => ?_)⟩
    · -- a drawn tree
      refine ⟨_, rfl, fun p np => ⟨upd_same, [(kLeft, .int 24)], rfl, by show 1 ≤ 15; decide, ?_⟩⟩
      have em : mergeK [] [(kLeft, V.int 24)] = boxD 24 := by
        show putK ([] : List (Key × V)) kLeft (V.int 24) = _
        rw [putK_new _ (show valV ([] : List (Key × V)) kLeft = none from rfl)]
        rfl
      rw [em, upd_upd]
      have Ip : LI d l P (upd H2 p (.dK (boxD 24))) := I.new np
      have kp0 : Kp [d, l] H2 (upd H2 p (.dK (boxD 24))) := .new np
      refine ⟨d, l, p, 24, rfl, Ip.fr.dk, upd_same, fun v t m H3 T o sz _ _ D3 k3 => ?_⟩
      have k03 : Kp [d, l] H2 H3 := kp_own_all (ms := [d, l]) (bs := [p]) kp0 k3 (fun b hb => by rw [List.mem_singleton.mp hb]; exact np)
      refine rb _ H3 d l v t _ _ _ _ _ _ _ _ _ (I.own k03 D3) T o (by omega) fun y4 y5 y6 y7 y8 y9 y10 H4 I4 => ?_
      exact ⟨_, _, _, _, _, _, _, _, _, rfl, I4⟩
    · -- a chain
      refine ⟨_, rfl, _, rfl, d, l, 37, rfl, I.fr.dk, by decide, by decide, fun r H3 r0 r1 D3 k3 => ?_⟩
      have I3 := I.own k3 D3
      obtain ⟨m, rfl⟩ : ∃ m : Nat, r = (m : Int) := ⟨r.toNat, by omega⟩
      refine ⟨d, l, m, rfl, D3, by omega, fun v t H4 T o sz D4 k4 => ?_⟩
      refine rb _ H4 d l v t _ _ _ _ _ _ _ _ _ (I3.own k4 D4) T o (by omega) fun y4 y5 y6 y7 y8 y9 y10 H5 I5 => ?_
      exact ⟨_, _, _, _, _, _, _, _, _, rfl, I5⟩
  · rintro σ H2 ⟨x2, x3, x4, x5, x6, x7, x8, x9, x10, rfl, I⟩
    exact k H2
end
end Ey
/-! ### the end -/
namespace Ey
open PySem PySem.Spec L2
/-- what the head tells of one def -/
structure DfK (K : PySem.W.Frag) (x : Str) (st : Stmt) (f : Addr) (oc kV dc pm cd ct : Value) (od an : Option Addr) (sl : Array (Option Value)) : Prop where
  a : PySem.W.nsIn K mainGlobals x = some (some (.ref f))
  l : K.lookup f = some ⟨oc, od, .func (PySem.W.fnOf x x (defArgs st) (defBody st) (defScope st) .none kV dc pm an cd ct), sl⟩
  c : PySem.W.codeIn K cd x = true
  k : PySem.W.keepIn K (.ref f) = true
theorem DfK.df {K : PySem.W.Frag} {x : Str} {st : Stmt} {f : Addr} {oc kV dc pm cd ct : Value} {od an : Option Addr} {sl : Array (Option Value)} {mg : Str → Option Value} {h : Heap} {ps : List Str} (e : DfK K x st f oc kV dc pm cd ct od an sl) (X : K.In h) (G : h.Ns mainGlobals mg)
    (hb : ∀ (kV doc pm : Value) (an : Option Addr) (cdv ct : Value) (us : List Value), us.length = ps.length → bindArgs (PySem.W.fnOf x x (defArgs st) (defBody st) (defScope st) .none kV doc pm an cdv ct) ⟨us, []⟩ = pure (ps.zip us)) :
    Df K mg x st ps f (PySem.W.fnOf x x (defArgs st) (defBody st) (defScope st) .none kV dc pm an cd ct) :=
  ⟨fun_mk e.l e.c e.k, (fun_mk e.l e.c e.k).binds hb, PySem.W.mg_of X G e.a⟩


/-- what the head tells of one method -/
structure MtK (K : PySem.W.Frag) (C : Addr) (m q : Str) (st : Stmt) (f : Addr) (oc kV dc pm cd ct : Value) (od an : Option Addr) (sl : Array (Option Value)) : Prop where
  a : PySem.W.findIn K (.ref C) m = some (some (.ref f))
  i : PySem.W.isFn K (.ref f) = true
  l : K.lookup f = some ⟨oc, od, .func (PySem.W.fnOf m q (defArgs st) (defBody st) (defScope st) .none kV dc pm an cd ct), sl⟩
  c : PySem.W.codeIn K cd q = true
  k : PySem.W.keepIn K (.ref f) = true
theorem MtK.mt {K : PySem.W.Frag} {C : Addr} {m q : Str} {st : Stmt} {f : Addr} {oc kV dc pm cd ct : Value} {od an : Option Addr} {sl : Array (Option Value)} {ps : List Str} (e : MtK K C m q st f oc kV dc pm cd ct od an sl)
    (hb : ∀ (kV doc pm : Value) (an : Option Addr) (cdv ct : Value) (us : List Value), us.length = ps.length → bindArgs (PySem.W.fnOf m q (defArgs st) (defBody st) (defScope st) .none kV doc pm an cdv ct) ⟨us, []⟩ = pure (ps.zip us)) :
    Mt K C m q st ps f (PySem.W.fnOf m q (defArgs st) (defBody st) (defScope st) .none kV dc pm an cd ct) :=
  ⟨fun_mk e.l e.c e.k, (fun_mk e.l e.c e.k).binds hb, ⟨e.a, e.i, e.k⟩⟩
abbrev sBT : Stmt := inClass (topS 4) 0

set_option maxHeartbeats 8000000 in
theorem all_mk {P : Program} {q : Program} {lo : List Str} {mean : ExcName → Option Value} {w : World} {K : PySem.W.Frag} {h : Heap} {mg mb : Str → Option Value} {fa : Addr} (X : K.In h) (T : PyProof.Rows.Top q lo mean mg mb h) (hfa : mg "law" = some (.ref fa))
    {c0 P0 dP C CB CE fB : Addr} {dr0 : DefRec} {es : Array DictEntry} {nP : Nat} {tL tT t1 t2 : Tok}
    {f9 f10 f11 f12 f13 f14 f16 f18 f19 f20 f21 f22 f23 f24 f25 f26 f27 f28 f29 f30 f31 f32 g0 g1 g2 g3 g4 g5 g6 : Addr}
    {oc9 kV9 dc9 pm9 ct9 oc10 kV10 dc10 pm10 ct10 cd10 oc11 kV11 dc11 pm11 ct11 cd11 oc12 kV12 dc12 pm12 ct12 cd12 oc13 kV13 dc13 pm13 ct13 cd13 oc14 kV14 dc14 pm14 ct14 cd14 oc16 kV16 dc16 pm16 ct16 cd16 oc18 kV18 dc18 pm18 ct18 cd18 oc19 kV19 dc19 pm19 ct19 cd19 oc20 kV20 dc20 pm20 ct20 cd20 oc21 kV21 dc21 pm21 ct21 cd21 oc22 kV22 dc22 pm22 ct22 cd22 oc23 kV23 dc23 pm23 ct23 cd23 oc24 kV24 dc24 pm24 ct24 cd24 oc25 kV25 dc25 pm25 ct25 cd25 oc26 kV26 dc26 pm26 ct26 cd26 oc27 kV27 dc27 pm27 ct27 cd27 oc28 kV28 dc28 pm28 ct28 cd28 oc29 kV29 dc29 pm29 ct29 cd29 oc30 kV30 dc30 pm30 ct30 cd30 oc31 kV31 dc31 pm31 ct31 cd31 oc32 kV32 dc32 pm32 ct32 cd32 : Value}
    {ocm0 kVm0 dcm0 pmm0 ctm0 cdm0 ocm1 kVm1 dcm1 pmm1 ctm1 cdm1 ocm2 kVm2 dcm2 pmm2 ctm2 cdm2 ocm3 kVm3 dcm3 pmm3 ctm3 cdm3 ocm4 kVm4 dcm4 pmm4 ctm4 cdm4 ocm5 kVm5 dcm5 pmm5 ctm5 cdm5 ocm6 kVm6 dcm6 pmm6 ctm6 cdm6 : Value}
    {od9 an9 od10 an10 od11 an11 od12 an12 od13 an13 od14 an14 od16 an16 od18 an18 od19 an19 od20 an20 od21 an21 od22 an22 od23 an23 od24 an24 od25 an25 od26 an26 od27 an27 od28 an28 od29 an29 od30 an30 od31 an31 od32 an32 odm0 anm0 odm1 anm1 odm2 anm2 odm3 anm3 odm4 anm4 odm5 anm5 odm6 anm6 odB anB : Option Addr}
    {sl9 sl10 sl11 sl12 sl13 sl14 sl16 sl18 sl19 sl20 sl21 sl22 sl23 sl24 sl25 sl26 sl27 sl28 sl29 sl30 sl31 sl32 slm0 slm1 slm2 slm3 slm4 slm5 slm6 slB : Array (Option Value)}
    {nmB qB : Str} {NB : Addr} {bsB : List Value} {snB : List Str} {subB : List Value} {abB : Bool} {colB : Option Bool} {ddB : Option Addr} {mB0 mB1 mB2 mB3 mB5 : Option Value} {ocB dcB pmB cdB ctB : Value}
    (e9 : DfK K "is_tag" sIsTag f9 oc9 kV9 dc9 pm9 (.ref c0) ct9 od9 an9 sl9)
    (e10 : DfK K "is_tree" sIsTree f10 oc10 kV10 dc10 pm10 cd10 ct10 od10 an10 sl10)
    (e11 : DfK K "check_tree" sCheck f11 oc11 kV11 dc11 pm11 cd11 ct11 od11 an11 sl11)
    (e12 : DfK K "has_place" sHas f12 oc12 kV12 dc12 pm12 cd12 ct12 od12 an12 sl12)
    (e13 : DfK K "part_at" sPartAt f13 oc13 kV13 dc13 pm13 cd13 ct13 od13 an13 sl13)
    (e14 : DfK K "tree_written" sWritten f14 oc14 kV14 dc14 pm14 cd14 ct14 od14 an14 sl14)
    (e16 : DfK K "tree_read" sRead f16 oc16 kV16 dc16 pm16 cd16 ct16 od16 an16 sl16)
    (e18 : DfK K "_law_deck" sDeck f18 oc18 kV18 dc18 pm18 cd18 ct18 od18 an18 sl18)
    (e19 : DfK K "_law_draw" sDraw f19 oc19 kV19 dc19 pm19 cd19 ct19 od19 an19 sl19)
    (e20 : DfK K "_law_pick" sPick f20 oc20 kV20 dc20 pm20 cd20 ct20 od20 an20 sl20)
    (e21 : DfK K "_law_any" sAny f21 oc21 kV21 dc21 pm21 cd21 ct21 od21 an21 sl21)
    (e22 : DfK K "_law_places" sLPlaces f22 oc22 kV22 dc22 pm22 cd22 ct22 od22 an22 sl22)
    (e23 : DfK K "_law_part" sLPart f23 oc23 kV23 dc23 pm23 cd23 ct23 od23 an23 sl23)
    (e24 : DfK K "_law_tags" sTags f24 oc24 kV24 dc24 pm24 cd24 ct24 od24 an24 sl24)
    (e25 : DfK K "_law_drawn_tree" sTree f25 oc25 kV25 dc25 pm25 cd25 ct25 od25 an25 sl25)
    (e26 : DfK K "_law_chain" sChain f26 oc26 kV26 dc26 pm26 cd26 ct26 od26 an26 sl26)
    (e27 : DfK K "_law_tree_text" sLText f27 oc27 kV27 dc27 pm27 cd27 ct27 od27 an27 sl27)
    (e28 : DfK K "_law_read_tree" sLRead f28 oc28 kV28 dc28 pm28 cd28 ct28 od28 an28 sl28)
    (e29 : DfK K "_law_tree_of" sLOf f29 oc29 kV29 dc29 pm29 cd29 ct29 od29 an29 sl29)
    (e30 : DfK K "_law_told" sTold f30 oc30 kV30 dc30 pm30 cd30 ct30 od30 an30 sl30)
    (e31 : DfK K "_law_bent_text" sBentT f31 oc31 kV31 dc31 pm31 cd31 ct31 od31 an31 sl31)
    (e32 : DfK K "law" sLaw f32 oc32 kV32 dc32 pm32 cd32 ct32 od32 an32 sl32)
    (m0 : MtK K C "__init__" "TreeReader.__init__" (sTR 0) g0 ocm0 kVm0 dcm0 pmm0 cdm0 ctm0 odm0 anm0 slm0)
    (m1 : MtK K C "comes" "TreeReader.comes" (sTR 1) g1 ocm1 kVm1 dcm1 pmm1 cdm1 ctm1 odm1 anm1 slm1)
    (m2 : MtK K C "take" "TreeReader.take" (sTR 2) g2 ocm2 kVm2 dcm2 pmm2 cdm2 ctm2 odm2 anm2 slm2)
    (m3 : MtK K C "take_tag" "TreeReader.take_tag" (sTR 3) g3 ocm3 kVm3 dcm3 pmm3 cdm3 ctm3 odm3 anm3 slm3)
    (m4 : MtK K C "begin" "TreeReader.begin" (sTR 4) g4 ocm4 kVm4 dcm4 pmm4 cdm4 ctm4 odm4 anm4 slm4)
    (m5 : MtK K C "finish" "TreeReader.finish" (sTR 5) g5 ocm5 kVm5 dcm5 pmm5 cdm5 ctm5 odm5 anm5 slm5)
    (m6 : MtK K C "whole" "TreeReader.whole" (sTR 6) g6 ocm6 kVm6 dcm6 pmm6 cdm6 ctm6 odm6 anm6 slm6)
    (z_int : PySem.W.nsIn K mainGlobals "int" = some none)
    (z_max : PySem.W.nsIn K mainGlobals "max" = some none)
    (z_list : PySem.W.nsIn K mainGlobals "list" = some none)
    (z_len : PySem.W.nsIn K mainGlobals "len" = some none)
    (z_range : PySem.W.nsIn K mainGlobals "range" = some none)
    (z_tuple : PySem.W.nsIn K mainGlobals "tuple" = some none)
    (z_sorted : PySem.W.nsIn K mainGlobals "sorted" = some none)
    (z_repr : PySem.W.nsIn K mainGlobals "repr" = some none)
    (z_isi : PySem.W.nsIn K mainGlobals "isinstance" = some none)
    (z_str : PySem.W.nsIn K mainGlobals "str" = some none)
    (z_all : PySem.W.nsIn K mainGlobals "all" = some none)
    (z_bool : PySem.W.nsIn K mainGlobals "bool" = some none)
    (z_enum : PySem.W.nsIn K mainGlobals "enumerate" = some none)
    (tb0 : PySem.W.tabIn K "is_tag" = some (c0, P0)) (rc0 : (PyProof.Rows.recsOf q).find? (fun e => e.name == ("is_tag" : Str)) = some dr0) (nT0 : K.lookup P0 = none)
    (gL : PySem.W.nsIn K mainGlobals "LETTERS" = some (some (.str "abcdefghijklmnopqrstuvwxyz" tL))) (gT : PySem.W.nsIn K mainGlobals "TAG_LENGTH" = some (some (.int 8 tT)))
    (gP : PySem.W.nsIn K mainGlobals "POSITIONS" = some (some (.ref dP))) (lP : K.lookup dP = some ⟨.type "dict", none, .dict es nP, #[]⟩) (kP : PySem.W.KeysLit w.params es.toList) (sP : (dP == sysModules) = false)
    (p1 : PySem.W.nsIn K dP "l" = some (some (.int 1 t1))) (p2 : PySem.W.nsIn K dP "r" = some (some (.int 2 t2)))
    (aC : PySem.W.nsIn K mainGlobals "TreeReader" = some (some (.ref C))) (pgC : PySem.W.plainGet K C Str.empty = true) (hdC : PySem.W.hasDictIn K C = true) (poC : PySem.W.plainOver K C = true) (saC : PySem.W.findIn K (.ref C) "__setattr__" = some (some (.builtin "object.__setattr__"))) (mkC : PySem.W.makesIn K C = true) (kcC : PySem.W.keepIn K (.ref C) = true)
    (n_text : PySem.W.findIn K (.ref C) "text" = some none) (n_at : PySem.W.findIn K (.ref C) "at" = some none) (n_opened : PySem.W.findIn K (.ref C) "opened" = some none) (n_tree : PySem.W.findIn K (.ref C) "tree" = some none)
    (aB : PySem.W.nsIn K mainGlobals "BadText" = some (some (.ref CB))) (aE : PySem.W.nsIn K mainGlobals "EyesError" = some (some (.ref CE)))
    (xB : K.lookup CB = some (excClassObj nmB qB CB NB bsB [.ref CE, .type "Exception", .type "BaseException", .type "object"] true snB subB abB colB ddB mB0 mB1 mB2 mB3 mB5 "Exception.__new__"))
    (saB : PySem.W.findIn K (.ref CB) "__setattr__" = some (some (.builtin "object.__setattr__"))) (gaB : PySem.W.findIn K (.ref CB) "__getattribute__" = some (some (.builtin "BaseException.__getattribute__"))) (ggB : PySem.W.findIn K (.ref CB) "__getattr__" = some none) (nbB : PySem.W.findIn K (.ref CB) "at" = some none)
    (a1B : PySem.W.findIn K (.ref CB) "__init__" = some (some (.ref fB))) (t1B : PySem.W.typeIn K (.ref fB) = some (.type "function"))
    (l1B : K.lookup fB = some ⟨ocB, odB, .func (PySem.W.fnOf "__init__" "BadText.__init__" (defArgs sBT) (defBody sBT) (defScope sBT) .none .none dcB pmB anB cdB ctB), slB⟩) (c1B : PySem.W.codeIn K cdB "BadText.__init__" = true)
    (kB : PySem.W.keepIn K (.ref CB) = true) (eB : PySem.W.subIn K (.ref CB) (.type "BaseException") = some true) (tB : PySem.W.typeIn K (.ref CB) = some (.type "type")) (hB : PySem.W.hasDictIn K CB = true) (iB : PySem.W.isClsIn K CB = true) (sB : PySem.W.subIn K (.ref CB) (.ref CB) = some true)
    (clB : PySem.W.findIn K (.ref CB) "__class__" = some (some (.builtin "object.__class__"))) (spB : PySem.W.specialIn K (.builtin "object.__class__") "__get__" = some (some (.builtin "getset_descriptor.__get__"))) (tkB : PySem.W.takesIn K (.builtin "object.__class__") = some true) (moB : PySem.W.mroIn K CB (.type "object") = some true) (kitB : PySem.W.kitOne K (.ref CB) (.ref CE) = some true) :
    ∃ (fd : FuncData) (cs : List (Addr × Addr)) (sp : Sp), Tabs K h cs ∧ (∀ (s : Shared) (u : Value), BindsTo s fd ⟨[u], []⟩ [("_law_script", u)]) ∧
      (∀ (H : Hp) (a : Addr) (ns : List Int), ns.length ≤ 63 → (∀ p ∈ cs, H p.2 = some (.tbl #[])) → SqL K H a (ns.map V.int) → sp [.ref a] H (fun v _ => v = .bl true) E0) ∧
      ∀ base : Heap, K.In base → base.Ns mainGlobals mg → (∀ p ∈ cs, GxR.TabB base mg p.1 p.2) → (∃ mm, base.Ns sysModules mm) → LawOk P w K mg base fa fd "_law_script" sp := by
  have G := T.g
  have e := hfa.symm.trans (PySem.W.mg_of X G e32.a)
  cases e
  obtain ⟨hd0, tq0⟩ := PySem.W.tab_of T X rc0 tb0
  have B : BI mg := ⟨PySem.W.mg_none_of X G z_int, PySem.W.mg_none_of X G z_max, PySem.W.mg_none_of X G z_list, PySem.W.mg_none_of X G z_len, PySem.W.mg_none_of X G z_range, PySem.W.mg_none_of X G z_tuple, PySem.W.mg_none_of X G z_sorted, PySem.W.mg_none_of X G z_repr, PySem.W.mg_none_of X G z_isi, PySem.W.mg_none_of X G z_str, PySem.W.mg_none_of X G z_all, PySem.W.mg_none_of X G z_bool, PySem.W.mg_none_of X G z_enum⟩
  have D9 := e9.df (ps := ["thing"]) X G fun _ _ _ _ _ _ us hl => match us, hl with | [_], _ => rfl
  have D10 := e10.df (ps := ["thing"]) X G fun _ _ _ _ _ _ us hl => match us, hl with | [_], _ => rfl
  have D11 := e11.df (ps := ["tree"]) X G fun _ _ _ _ _ _ us hl => match us, hl with | [_], _ => rfl
  have D12 := e12.df (ps := ["tree", "thing"]) X G fun _ _ _ _ _ _ us hl => match us, hl with | [_, _], _ => rfl
  have D13 := e13.df (ps := ["tree", "place"]) X G fun _ _ _ _ _ _ us hl => match us, hl with | [_, _], _ => rfl
  have D14 := e14.df (ps := ["tree"]) X G fun _ _ _ _ _ _ us hl => match us, hl with | [_], _ => rfl
  have D16 := e16.df (ps := ["text"]) X G fun _ _ _ _ _ _ us hl => match us, hl with | [_], _ => rfl
  have D18 := e18.df (ps := ["_law_script", "_law_seed"]) X G fun _ _ _ _ _ _ us hl => match us, hl with | [_, _], _ => rfl
  have D19 := e19.df (ps := ["_law_deck_here", "_law_many"]) X G fun _ _ _ _ _ _ us hl => match us, hl with | [_, _], _ => rfl
  have D20 := e20.df (ps := ["_law_deck_here", "_law_some"]) X G fun _ _ _ _ _ _ us hl => match us, hl with | [_, _], _ => rfl
  have D21 := e21.df (ps := ["_law_deck_here", "_law_deep"]) X G fun _ _ _ _ _ _ us hl => match us, hl with | [_, _], _ => rfl
  have D22 := e22.df (ps := ["_law_tree", "_law_ahead"]) X G fun _ _ _ _ _ _ us hl => match us, hl with | [_, _], _ => rfl
  have D23 := e23.df (ps := ["_law_tree", "_law_place"]) X G fun _ _ _ _ _ _ us hl => match us, hl with | [_, _], _ => rfl
  have D24 := e24.df (ps := []) X G fun _ _ _ _ _ _ us hl => match us, hl with | [], _ => rfl
  have D25 := e25.df (ps := ["_law_deck_here", "_law_box", "_law_deep"]) X G fun _ _ _ _ _ _ us hl => match us, hl with | [_, _, _], _ => rfl
  have D26 := e26.df (ps := ["_law_deck_here", "_law_many"]) X G fun _ _ _ _ _ _ us hl => match us, hl with | [_, _], _ => rfl
  have D27 := e27.df (ps := ["_law_tree"]) X G fun _ _ _ _ _ _ us hl => match us, hl with | [_], _ => rfl
  have D28 := e28.df (ps := ["_law_text", "_law_at", "_law_is_node"]) X G fun _ _ _ _ _ _ us hl => match us, hl with | [_, _, _], _ => rfl
  have D29 := e29.df (ps := ["_law_text"]) X G fun _ _ _ _ _ _ us hl => match us, hl with | [_], _ => rfl
  have D30 := e30.df (ps := ["_law_text", "_law_way"]) X G fun _ _ _ _ _ _ us hl => match us, hl with | [_, _], _ => rfl
  have D31 := e31.df (ps := ["_law_deck_here", "_law_text"]) X G fun _ _ _ _ _ _ us hl => match us, hl with | [_, _], _ => rfl
  have D32 := e32.df (ps := ["_law_script"]) X G fun _ _ _ _ _ _ us hl => match us, hl with | [_], _ => rfl
  have M0 := m0.mt (ps := ["self", "text"]) fun _ _ _ _ _ _ us hl => match us, hl with | [_, _], _ => rfl
  have M1 := m1.mt (ps := ["self", "sign"]) fun _ _ _ _ _ _ us hl => match us, hl with | [_, _], _ => rfl
  have M2 := m2.mt (ps := ["self", "sign"]) fun _ _ _ _ _ _ us hl => match us, hl with | [_, _], _ => rfl
  have M3 := m3.mt (ps := ["self"]) fun _ _ _ _ _ _ us hl => match us, hl with | [_], _ => rfl
  have M4 := m4.mt (ps := ["self"]) fun _ _ _ _ _ _ us hl => match us, hl with | [_], _ => rfl
  have M5 := m5.mt (ps := ["self"]) fun _ _ _ _ _ _ us hl => match us, hl with | [_], _ => rfl
  have M6 := m6.mt (ps := ["self"]) fun _ _ _ _ _ _ us hl => match us, hl with | [_], _ => rfl
  have DT : DfT K mg "is_tag" sIsTag ["thing"] f9 _ c0 := ⟨D9, _, _, _, _, _, _, _, _, rfl, e9.l, e9.c⟩
  have A0 : PF K mg f9 c0 _ := ⟨B, DT, ⟨tL, PySem.W.mg_of X G gL⟩, ⟨tT, PySem.W.mg_of X G gT⟩⟩
  have Po : PosF K w mg dP := ⟨PySem.W.mg_of X G gP, ⟨es, nP, lP, kP, sP⟩, ⟨t1, p1⟩, ⟨t2, p2⟩⟩
  have Pg : Prog K w mg f9 c0 dP f10 f11 f12 f13 _ _ _ _ _ := ⟨A0, Po, D10, D11, D12, D13⟩
  have bt : PySem.BadTextX.BadTextTxt K mg CB fB :=
    { gC := PySem.W.mg_of X G aB, cls := ⟨nmB, qB, NB, bsB, _, snB, subB, abB, colB, ddB, mB0, mB1, mB2, mB3, mB5, xB, rfl⟩, sa := saB, ga := gaB, gg := ggB, noN := nbB, iC := a1B, tC := t1B, kC := kB, exC := eB, tyC := tB, hdC := hB, te := PySem.W.exm_ref eB hB tB sB,
      fn := ⟨ocB, odB, dcB, pmB, anB, cdB, ctB, slB, _, _, _, _, _, _, l1B, c1B⟩ }
  have TFx : TF K mg C CB fB := ⟨B, ⟨pgC, hdC, poC, saC⟩, n_text, n_at, n_opened, n_tree, bt, ⟨tL, PySem.W.mg_of X G gL⟩, ⟨tT, PySem.W.mg_of X G gT⟩⟩
  have XFx : XF K mg CB CE := ⟨PySem.W.mg_of X G aE, ⟨gaB, ggB, eB, hB, clB, spB, tkB, moB⟩, kitB⟩
  let AA : Nat → Addr := fun i => match i with
    | 9 => f9
    | 10 => f10
    | 11 => f11
    | 12 => f12
    | 13 => f13
    | 14 => f14
    | 16 => f16
    | 18 => f18
    | 19 => f19
    | 20 => f20
    | 21 => f21
    | 22 => f22
    | 23 => f23
    | 24 => f24
    | 25 => f25
    | 26 => f26
    | 27 => f27
    | 28 => f28
    | 29 => f29
    | 30 => f30
    | 31 => f31
    | _ => 0
  let DD : Nat → FuncData := fun i => match i with
    | 9 => PySem.W.fnOf "is_tag" "is_tag" (defArgs sIsTag) (defBody sIsTag) (defScope sIsTag) .none kV9 dc9 pm9 an9 (.ref c0) ct9
    | 10 => PySem.W.fnOf "is_tree" "is_tree" (defArgs sIsTree) (defBody sIsTree) (defScope sIsTree) .none kV10 dc10 pm10 an10 cd10 ct10
    | 11 => PySem.W.fnOf "check_tree" "check_tree" (defArgs sCheck) (defBody sCheck) (defScope sCheck) .none kV11 dc11 pm11 an11 cd11 ct11
    | 12 => PySem.W.fnOf "has_place" "has_place" (defArgs sHas) (defBody sHas) (defScope sHas) .none kV12 dc12 pm12 an12 cd12 ct12
    | 13 => PySem.W.fnOf "part_at" "part_at" (defArgs sPartAt) (defBody sPartAt) (defScope sPartAt) .none kV13 dc13 pm13 an13 cd13 ct13
    | 14 => PySem.W.fnOf "tree_written" "tree_written" (defArgs sWritten) (defBody sWritten) (defScope sWritten) .none kV14 dc14 pm14 an14 cd14 ct14
    | 16 => PySem.W.fnOf "tree_read" "tree_read" (defArgs sRead) (defBody sRead) (defScope sRead) .none kV16 dc16 pm16 an16 cd16 ct16
    | 18 => PySem.W.fnOf "_law_deck" "_law_deck" (defArgs sDeck) (defBody sDeck) (defScope sDeck) .none kV18 dc18 pm18 an18 cd18 ct18
    | 19 => PySem.W.fnOf "_law_draw" "_law_draw" (defArgs sDraw) (defBody sDraw) (defScope sDraw) .none kV19 dc19 pm19 an19 cd19 ct19
    | 20 => PySem.W.fnOf "_law_pick" "_law_pick" (defArgs sPick) (defBody sPick) (defScope sPick) .none kV20 dc20 pm20 an20 cd20 ct20
    | 21 => PySem.W.fnOf "_law_any" "_law_any" (defArgs sAny) (defBody sAny) (defScope sAny) .none kV21 dc21 pm21 an21 cd21 ct21
    | 22 => PySem.W.fnOf "_law_places" "_law_places" (defArgs sLPlaces) (defBody sLPlaces) (defScope sLPlaces) .none kV22 dc22 pm22 an22 cd22 ct22
    | 23 => PySem.W.fnOf "_law_part" "_law_part" (defArgs sLPart) (defBody sLPart) (defScope sLPart) .none kV23 dc23 pm23 an23 cd23 ct23
    | 24 => PySem.W.fnOf "_law_tags" "_law_tags" (defArgs sTags) (defBody sTags) (defScope sTags) .none kV24 dc24 pm24 an24 cd24 ct24
    | 25 => PySem.W.fnOf "_law_drawn_tree" "_law_drawn_tree" (defArgs sTree) (defBody sTree) (defScope sTree) .none kV25 dc25 pm25 an25 cd25 ct25
    | 26 => PySem.W.fnOf "_law_chain" "_law_chain" (defArgs sChain) (defBody sChain) (defScope sChain) .none kV26 dc26 pm26 an26 cd26 ct26
    | 27 => PySem.W.fnOf "_law_tree_text" "_law_tree_text" (defArgs sLText) (defBody sLText) (defScope sLText) .none kV27 dc27 pm27 an27 cd27 ct27
    | 28 => PySem.W.fnOf "_law_read_tree" "_law_read_tree" (defArgs sLRead) (defBody sLRead) (defScope sLRead) .none kV28 dc28 pm28 an28 cd28 ct28
    | 29 => PySem.W.fnOf "_law_tree_of" "_law_tree_of" (defArgs sLOf) (defBody sLOf) (defScope sLOf) .none kV29 dc29 pm29 an29 cd29 ct29
    | 30 => PySem.W.fnOf "_law_told" "_law_told" (defArgs sTold) (defBody sTold) (defScope sTold) .none kV30 dc30 pm30 an30 cd30 ct30
    | 31 => PySem.W.fnOf "_law_bent_text" "_law_bent_text" (defArgs sBentT) (defBody sBentT) (defScope sBentT) .none kV31 dc31 pm31 an31 cd31 ct31
    | _ => PySem.W.fnOf "law" "law" (defArgs sLaw) (defBody sLaw) (defScope sLaw) .none kV32 dc32 pm32 an32 cd32 ct32
  let RR : Nat → Addr := fun i => match i with
    | 1 => g1
    | 2 => g2
    | 3 => g3
    | 4 => g4
    | 5 => g5
    | 6 => g6
    | _ => f16
  let QQ : Nat → FuncData := fun i => match i with
    | 1 => PySem.W.fnOf "comes" "TreeReader.comes" (defArgs (sTR 1)) (defBody (sTR 1)) (defScope (sTR 1)) .none kVm1 dcm1 pmm1 anm1 cdm1 ctm1
    | 2 => PySem.W.fnOf "take" "TreeReader.take" (defArgs (sTR 2)) (defBody (sTR 2)) (defScope (sTR 2)) .none kVm2 dcm2 pmm2 anm2 cdm2 ctm2
    | 3 => PySem.W.fnOf "take_tag" "TreeReader.take_tag" (defArgs (sTR 3)) (defBody (sTR 3)) (defScope (sTR 3)) .none kVm3 dcm3 pmm3 anm3 cdm3 ctm3
    | 4 => PySem.W.fnOf "begin" "TreeReader.begin" (defArgs (sTR 4)) (defBody (sTR 4)) (defScope (sTR 4)) .none kVm4 dcm4 pmm4 anm4 cdm4 ctm4
    | 5 => PySem.W.fnOf "finish" "TreeReader.finish" (defArgs (sTR 5)) (defBody (sTR 5)) (defScope (sTR 5)) .none kVm5 dcm5 pmm5 anm5 cdm5 ctm5
    | 6 => PySem.W.fnOf "whole" "TreeReader.whole" (defArgs (sTR 6)) (defBody (sTR 6)) (defScope (sTR 6)) .none kVm6 dcm6 pmm6 anm6 cdm6 ctm6
    | _ => PySem.W.fnOf "tree_read" "tree_read" (defArgs sRead) (defBody sRead) (defScope sRead) .none kV16 dc16 pm16 an16 cd16 ct16
  have kRd : KBinds K (QQ 7) ["text"] ["text"] gRv gRv := Ey.Fun.rvs D16.F (by simp) fun _ _ _ _ _ _ us hl => match us, hl with | [_], _ => rfl
  have kWr : KBinds K (DD 14) ["tree"] ["tree"] gRv gRv := Ey.Fun.rvs D14.F (by simp) fun _ _ _ _ _ _ us hl => match us, hl with | [_], _ => rfl
  have rdf : RdF K mg C CB fB RR QQ g0 (PySem.W.fnOf "__init__" "TreeReader.__init__" (defArgs (sTR 0)) (defBody (sTR 0)) (defScope (sTR 0)) .none kVm0 dcm0 pmm0 anm0 cdm0 ctm0) := { T := TFx, gC := PySem.W.mg_of X G aC, mkr := ⟨mkC, m0.a, m0.i, kcC⟩, init := M0.F, bI := M0.b, comes := M1, take := M2, tag := M3, begin_ := M4, finish := M5, whole := M6, read := D16, kRead := kRd }
  have LHx : LH K mg AA DD := ⟨B, D19, D20, D21⟩
  have L : LA K w mg AA DD c0 dP C CB fB CE g0 _ RR QQ := { toLH := LHx, deck := D18, lplaces := D22, lpart := D23, tags := D24, tree := D25, chain := D26, ltext := D27, lread := D28, lof := D29, told := D30, bent := D31, G := Pg, written := D14, kWr := kWr, rd := rdf, x := XFx }
  refine ⟨_, [(c0, P0)], spLaw K P0, ⟨fun p hp => ?_, fun p hp => ?_, fun p hp => ?_⟩, fun s u => .of_eq rfl, fun H a ns hn hT hS => ?_, fun base KB MB TB hs => ok_law D32.F L ⟨TB _ (List.mem_singleton.mpr rfl), MB⟩ hs⟩
  · cases List.mem_singleton.mp hp
    exact tq0
  · cases List.mem_singleton.mp hp
    exact nT0
  · cases List.mem_singleton.mp hp
    exact hd0
  · exact ⟨a, ns, rfl, hS, hn, ⟨#[], hT _ (List.mem_singleton.mpr rfl), trivial⟩, fun _ => rfl⟩
end Ey
open PySem PySem.W PyProof.Rows
set_option maxRecDepth 100000 in
set_option maxHeartbeats 0 in
theorem PySem.Challenge.cw_eyesonly_k03_whole_texts_of_trees_holds : PySem.Challenge.rw_eyesonly_k03_whole_texts_of_trees.Holds := by
  w_on; o_law; k_head; (case hw => w_witness2)
  k_fill
  refine Ey.walk_law (l := PySem.Challenge.rw_eyesonly_k03_whole_texts_of_trees) (x := "_law_script") (by decide +kernel) rfl (by decide) rfl (fun w h Y => PySem.W.kIn_of Y) ?F
  case F =>
    intro w mg fa h lo mean mb KX T hmg
    refine' Ey.all_mk (w := w) KX T hmg ⟨?a9, ?l9, ?c9, ?k9⟩ ⟨?a10, ?l10, ?c10, ?k10⟩ ⟨?a11, ?l11, ?c11, ?k11⟩ ⟨?a12, ?l12, ?c12, ?k12⟩ ⟨?a13, ?l13, ?c13, ?k13⟩ ⟨?a14, ?l14, ?c14, ?k14⟩ ⟨?a16, ?l16, ?c16, ?k16⟩ ⟨?a18, ?l18, ?c18, ?k18⟩ ⟨?a19, ?l19, ?c19, ?k19⟩ ⟨?a20, ?l20, ?c20, ?k20⟩ ⟨?a21, ?l21, ?c21, ?k21⟩ ⟨?a22, ?l22, ?c22, ?k22⟩ ⟨?a23, ?l23, ?c23, ?k23⟩ ⟨?a24, ?l24, ?c24, ?k24⟩ ⟨?a25, ?l25, ?c25, ?k25⟩ ⟨?a26, ?l26, ?c26, ?k26⟩ ⟨?a27, ?l27, ?c27, ?k27⟩ ⟨?a28, ?l28, ?c28, ?k28⟩ ⟨?a29, ?l29, ?c29, ?k29⟩ ⟨?a30, ?l30, ?c30, ?k30⟩ ⟨?a31, ?l31, ?c31, ?k31⟩ ⟨?a32, ?l32, ?c32, ?k32⟩ ⟨?am0, ?im0, ?lm0, ?cm0, ?km0⟩ ⟨?am1, ?im1, ?lm1, ?cm1, ?km1⟩ ⟨?am2, ?im2, ?lm2, ?cm2, ?km2⟩ ⟨?am3, ?im3, ?lm3, ?cm3, ?km3⟩ ⟨?am4, ?im4, ?lm4, ?cm4, ?km4⟩ ⟨?am5, ?im5, ?lm5, ?cm5, ?km5⟩ ⟨?am6, ?im6, ?lm6, ?cm6, ?km6⟩ ?zint ?zmax ?zlist ?zlen ?zrange ?ztuple ?zsorted ?zrepr ?zisi ?zstr ?zall ?zbool ?zenum ?tb0 ?rc0 ?nT0 ?gL ?gT ?gP ?lP ?kP ?sP ?p1 ?p2 ?aC ?pgC ?hdC ?poC ?saC ?mkC ?kcC ?nText ?nAt ?nOpened ?nTree ?aB ?aE ?xB ?saB ?gaB ?ggB ?nbB ?a1B ?t1B ?l1B ?c1B ?kB ?eB ?tB ?hB ?iB ?sB ?clB ?spB ?tkB ?moB ?kitB
    (case a9 => k_is); (case l9 => k_is); (case c9 => k_is); (case k9 => k_is)
    (case a10 => k_is); (case l10 => k_is); (case c10 => k_is); (case k10 => k_is)
    (case a11 => k_is); (case l11 => k_is); (case c11 => k_is); (case k11 => k_is)
    (case a12 => k_is); (case l12 => k_is); (case c12 => k_is); (case k12 => k_is)
    (case a13 => k_is); (case l13 => k_is); (case c13 => k_is); (case k13 => k_is)
    (case a14 => k_is); (case l14 => k_is); (case c14 => k_is); (case k14 => k_is)
    (case a16 => k_is); (case l16 => k_is); (case c16 => k_is); (case k16 => k_is)
    (case a18 => k_is); (case l18 => k_is); (case c18 => k_is); (case k18 => k_is)
    (case a19 => k_is); (case l19 => k_is); (case c19 => k_is); (case k19 => k_is)
    (case a20 => k_is); (case l20 => k_is); (case c20 => k_is); (case k20 => k_is)
    (case a21 => k_is); (case l21 => k_is); (case c21 => k_is); (case k21 => k_is)
    (case a22 => k_is); (case l22 => k_is); (case c22 => k_is); (case k22 => k_is)
    (case a23 => k_is); (case l23 => k_is); (case c23 => k_is); (case k23 => k_is)
    (case a24 => k_is); (case l24 => k_is); (case c24 => k_is); (case k24 => k_is)
    (case a25 => k_is); (case l25 => k_is); (case c25 => k_is); (case k25 => k_is)
    (case a26 => k_is); (case l26 => k_is); (case c26 => k_is); (case k26 => k_is)
    (case a27 => k_is); (case l27 => k_is); (case c27 => k_is); (case k27 => k_is)
    (case a28 => k_is); (case l28 => k_is); (case c28 => k_is); (case k28 => k_is)
    (case a29 => k_is); (case l29 => k_is); (case c29 => k_is); (case k29 => k_is)
    (case a30 => k_is); (case l30 => k_is); (case c30 => k_is); (case k30 => k_is)
    (case a31 => k_is); (case l31 => k_is); (case c31 => k_is); (case k31 => k_is)
    (case a32 => k_is); (case l32 => k_is); (case c32 => k_is); (case k32 => k_is)
    (case aC => k_is)
    (case am0 => k_is); (case im0 => k_is); (case lm0 => k_is); (case cm0 => k_is); (case km0 => k_is)
    (case am1 => k_is); (case im1 => k_is); (case lm1 => k_is); (case cm1 => k_is); (case km1 => k_is)
    (case am2 => k_is); (case im2 => k_is); (case lm2 => k_is); (case cm2 => k_is); (case km2 => k_is)
    (case am3 => k_is); (case im3 => k_is); (case lm3 => k_is); (case cm3 => k_is); (case km3 => k_is)
    (case am4 => k_is); (case im4 => k_is); (case lm4 => k_is); (case cm4 => k_is); (case km4 => k_is)
    (case am5 => k_is); (case im5 => k_is); (case lm5 => k_is); (case cm5 => k_is); (case km5 => k_is)
    (case am6 => k_is); (case im6 => k_is); (case lm6 => k_is); (case cm6 => k_is); (case km6 => k_is)
    (case zint => k_is); (case zmax => k_is); (case zlist => k_is); (case zlen => k_is); (case zrange => k_is); (case ztuple => k_is); (case zsorted => k_is); (case zrepr => k_is); (case zisi => k_is); (case zstr => k_is); (case zall => k_is); (case zbool => k_is); (case zenum => k_is)
    (case tb0 => rfl)
    (case rc0 => rfl)
    (case nT0 => rfl)
    (case gL => k_is); (case gT => k_is); (case gP => k_is); (case lP => k_is)
    (case kP => exact ⟨⟨_, _, rfl, rfl⟩, ⟨_, _, rfl, rfl⟩, trivial⟩)
    (case sP => decide)
    (case p1 => k_is); (case p2 => k_is)
    (case pgC => k_is); (case hdC => k_is); (case poC => k_is); (case saC => k_is); (case mkC => k_is); (case kcC => k_is); (case nText => k_is); (case nAt => k_is); (case nOpened => k_is); (case nTree => k_is)
    (case aB => k_is); (case aE => k_is)
    (case xB => k_is)
    (case saB => k_is); (case gaB => k_is); (case ggB => k_is); (case nbB => k_is); (case a1B => k_is); (case t1B => k_is); (case l1B => k_is); (case c1B => k_is); (case kB => k_is); (case eB => k_is); (case tB => k_is); (case hB => k_is); (case iB => k_is)
    (case sB => first | rfl | k_is)
    (case clB => first | k_is | rfl | decide +kernel); (case spB => first | k_is | rfl | decide +kernel); (case tkB => first | k_is | rfl | decide +kernel); (case moB => first | k_is | rfl | decide +kernel)
    (case kitB => first | k_is | rfl | decide +kernel)
