import PyProof.Rows.All
import Wide.All
import OpenK.AllK
import Wide.FinOn
import PyProof.ReprRoads
import KE.KSortAny
import PyProof.Rows.SortShellAny
import HandS.ForMost
import HandS.IsInst
import HandS.AnyAll
import HandS.EndTab
import HandS.HeadWalk
import HandS.WrittenGet
import PyProof.TupleOfGen
import HandS.Conv
import HandS.StrMore
import HandS.Style
import PyProof.RowDictHeap
import HandS.More
import PyProof.Rows.StrRev
import HandS.TupAny
import HandS.TupMul
import PySem.Challenge.RW_eyesonly_k01_trees_and_places_of_any_val
set_option Elab.async false
set_option linter.all false
set_option maxRecDepth 100000
set_option maxHeartbeats 4000000
namespace Ey
open PySem PySem.Spec PyProof.Rows L2
/-! ### repr of data -/
mutual
theorem dp_plain {K : PySem.W.Frag} {H : Hp} : ∀ (d : PyData) (v : V), Dp K H v d → d.hasDict = false
  | .none, _, _ => rfl
  | .bool _, _, _ => rfl
  | .int _, _, _ => rfl
  | .str _, _, _ => rfl
  | .list ds, _, h => by
    cases h with
    | lst _ q => exact dp_plains ds _ q
  | .tuple ds, _, h => by
    cases h with
    | tup _ q => exact dp_plains ds _ q
  | .dict _, _, h => by cases h
theorem dp_plains {K : PySem.W.Frag} {H : Hp} : ∀ (ds : List PyData) (vs : List V), DpAll K H vs ds → PyData.hasDictAll ds = false
  | [], _, _ => rfl
  | d :: r, _, h => by
    cases h with
    | cons a b =>
      show (d.hasDict || PyData.hasDictAll r) = false
      rw [dp_plain d _ a, dp_plains r _ b]
      rfl
end
def rRepr (K : PySem.W.Frag) : List V → Hp → VK → Prop := fun xs H Q =>
  ∃ v d, xs = [v] ∧ Dp K H v d ∧ d.showable = true ∧ d.depth ≤ 100 ∧ d.shown.length ≤ sizeLine ∧ Q (.str d.shown) H
section
variable {X : Cx} {k : Nat}
theorem cr_repr (hg : X.A.guards = some []) (hr : Room k X.A) : CallR X (.builtin "repr") (rRepr X.K) := by
  intro pins s σ H xs us Q I r h
  obtain ⟨v, d, rfl, hd, hs, hp, hz, q⟩ := h
  obtain ⟨u, rfl, ru⟩ := vals1 r
  obtain ⟨as, rd⟩ := Dp.reads I d v u hd ru
  have nd := dp_plain d v hd
  have room : X.A.units + (d.depth + 1) < cLine := by
    have := hr.un
    omega
  have fin : ∀ (h' : Heap) (tk : Nat) (t : Tok), (∀ b o, s.heap.get? b = some o → h'.get? b = some o) → EP X pins σ Q (.str d.shown t) { s with heap := h', toks := tk } :=
    fun h' tk t hk => ⟨.str d.shown, H, I.kept hk, ⟨t, rfl⟩, q⟩
  cases rd with
  | none => exact PySem.P.repr_of_none (fin s.heap _ _ fun _ _ e => e)
  | bool b => exact PySem.P.repr_of_bool (fin s.heap _ _ fun _ _ e => e)
  | int i t => exact PySem.P.repr_of_int (of_decide_eq_true hs) (fin s.heap _ _ fun _ _ e => e)
  | str x t => exact PySem.P.repr_of_str (fin s.heap _ _ fun _ _ e => e) hz
  | list a b c e => exact repr_of_reads' (.list a b c e) hs (PyData.noDict_hsm nd) hg room (fun _ _ e => e) (fun h' u tk hk => fin h' tk u hk) hz
  | tuple a b c e => exact repr_of_reads' (.tuple a b c e) hs (PyData.noDict_hsm nd) hg room (fun _ _ e => e) (fun h' u tk hk => fin h' tk u hk) hz
  | dict a b c e f => cases nd
/-! ### sorted of texts, at any length -/
def rSortT (K : PySem.W.Frag) : List V → Hp → VK → Prop := fun vs H Q => ∃ (a : Addr) (xs : List Str), vs = [V.ref a] ∧ SqL K H a (xs.map V.str) ∧ xs.length ≤ sizeLine ∧
  ∀ (ys : List Str) (p : Addr), ys.Perm xs → sortedS ys = true → H p = none → Q (.ref p) (upd H p (.lst (ys.map V.str)))
theorem cr_sortT : CallR X (.builtin "sorted") (rSortT X.K) := by
  intro pins s σ H vs us Q I r h
  obtain ⟨a, xs, rfl, hs, hl, q⟩ := h
  obtain ⟨its, rv, pl, _⟩ := I.list hs
  rw [Vals.ref1 r]
  have n0 := rv.length
  rw [List.length_map] at n0
  refine PyProof.Rows.sorted_strsAny pl.isList rv.strs (by rw [← n0]; exact hl) fun out ys h1 h2 h3 => ?_
  obtain ⟨ep, at'⟩ := PyProof.Rows.sortedAll_at s.heap its out
  have n1 : (ys.map V.str).length ≤ sizeLine := by rw [List.length_map, h2.length_eq]; exact hl
  refine ⟨.ref _, upd H (s.heap.objs.size + 1) (.lst (ys.map V.str)), ?_, rfl, q ys _ h2 h3 (I.hok.fresh (Nat.le_succ _))⟩
  exact I.laid (t' := s.toks) (fun _ _ => PyProof.Rows.sortedAll_old) (Nat.le_succ _) ⟨n1, out.toList, ep, vals_of_strs h1, at'⟩
end
end Ey
set_option maxHeartbeats 2000000
namespace Ey
open PySem PySem.Spec PyProof.Rows L2 GxR
/-! ### all(test of sign for sign in text), where the test reads a name of the module -/
/-- the test, in the generator's own frame: the module stands as it stood -/
def EltG (X : Cx) (sc : Scope) (x : Str) (elt : Expr) (pb : Nat → Bool) : Prop :=
  ∀ (ge : Env) (B : Around) (F' : Value → Shared → Prop) (c : Nat) (t : Tok) (z : Shared) (m : Str → Option Value), ge.scope = sc → ge.globals = X.env.globals →
    (∀ b o, X.base.get? b = some o → z.heap.get? b = some o) → z.heap.Ns ge.locals m → m x = some (.str ⟨#[c]⟩ t) →
    wpAny (model X.prog X.w) B (eval elt ge) (fun y z' => y = .bool (pb c) ∧ Keeps z z') F' z
section
variable {X : Cx} {pins : List (Addr × Obj)} {σ : L2.St} {H : Hp} {s : Shared}
theorem gen_glob {c P : Addr} {elt iter : Expr} {x : Str} {px gp : Pos} {sc : Scope} {pb : Nat → Bool} {te : TE} {k : Nat} {Q' : Value → Shared → Prop} {R : Str → Hp → Prop}
    (hr : Room k X.A) (TB : TabB X.base X.mg c P) (hco : X.env.code = .ref c) (S : GenS X.env sc x) (hi : PE X iter te) (hel : EltG X sc x elt pb)
    (hs : ∀ v, genFold iter X.env v = pure v) (I : Inv X pins σ H s) (h : te σ H fun v H1 => ∃ a : Str, v = .str a ∧ TabG H1 P ∧ R a H1)
    (hQ : ∀ a H1 g s5, R a H1 → Ready X pins σ H1 P a pb g s5 → Q' (.ref g) s5) :
    wpAny (model X.prog X.w) X.A (eval (.GeneratorExp elt [⟨.Name x px, iter, [], 0⟩] sc gp) X.env) Q' X.xe s := by
  refine wpAny_GeneratorExp_walksQ hr.hd S.co (closure_ok S.free) S.cell S.dot S.loc S.kind (Nat.lt_of_le_of_lt (by omega) hr.dp) ?_ hs
  refine thn (hi.run pins s σ H _ I h) fun xv sA ⟨v, H1, J, rv, q⟩ => ?_
  obtain ⟨a, rfl, ⟨ps, tP, tok⟩, q⟩ := q
  obtain ⟨t, rfl⟩ := _root_.id rv
  refine wpAny_pyIter_str fun ob St W start => ?_
  have gP : sA.heap.get? P = some { cls := .none, data := .fields ps } := J.hok P _ tP
  have ltP : P < sA.heap.objs.size := Heap.lt_size gP
  have gP2 : (sA.heap.push ob).get? P = some { cls := .none, data := .fields ps } := Heap.get?_push_of_some _ gP
  have head : PySem.W.CodeHd (sA.heap.push ob) c P := TB.code.keeps fun b u e => Heap.get?_push_of_some _ (J.bk b u e)
  have noL : (sA.heap.push ob).NoLimit := J.nolimit.push ob
  have go : ∀ (code : Value) (hN : Heap) (tk : Nat) (qs : Array Value), Heap.ExtBut P (sA.heap.push ob) hN → (sA.heap.push ob).objs.size ≤ hN.objs.size → hN.get? P = some { cls := .none, data := .fields qs } → (∃ more, qs = ps ++ more) → TriplesOk qs.toList →
      wpAny (model X.prog X.w) X.A (builtinsFor X.env.globals X.env.builtins) (fun bi sB =>
        ∃ Ia fp wr n₀ Pf St₀ pz F, Value.ref sA.heap.objs.size = .ref Ia ∧ (∀ B : Around, B.handled = none → Walks X.prog X.w B Ia fp wr n₀ Pf St₀) ∧ St₀ 0 sB.heap ∧ (∀ b ∈ fp, b < sB.heap.objs.size) ∧ sB.heap.NoLimit ∧ cStatics ∉ wr ∧
          (∀ hf : Heap, (∀ b o, sB.heap.get? b = some o → hf.get? b = some o) →
            QuietGen X.prog X.w (genEnv sc (cloFrom X.env.cells sc.names []) sB.heap.objs.size code bi X.env) x [] elt (List.range sB.heap.objs.size) wr Pf pz F hf) ∧
          (∀ g hG tg gs, gs.bare = true → sB.heap.objs.size < g → hG.objs.size = g + 1 → (∀ b o, sB.heap.get? b = some o → hG.get? b = some o) →
            WalksS X.prog X.w X.A.in4 g (g :: sB.heap.objs.size :: List.range sB.heap.objs.size) (sB.heap.objs.size :: wr) (GenOnlyQ sB.gens.size) (passing pz n₀ 0).length
              (fun j y => ∃ i, (passing pz n₀ 0)[j]? = some i ∧ F i y) (GenAt X.prog X.w X.A.in4 g sB.gens.size sB.heap.objs.size (List.range sB.heap.objs.size) wr pz n₀ F) →
            GenAt X.prog X.w X.A.in4 g sB.gens.size sB.heap.objs.size (List.range sB.heap.objs.size) wr pz n₀ F 0 { sB with gens := sB.gens.push gs, toks := tg, heap := hG } →
            Q' (.ref g) { sB with gens := sB.gens.push gs, toks := tg, heap := hG })) X.xe { sA with heap := hN, toks := tk } := by
    intro code hN tk qs ext hsz gPN more okN
    obtain ⟨bm, obm, e1, e2, e3, e4, e5, e6, e7, e8⟩ := TB.bm
    have ncP : cStatics ≠ P := fun e => by
      obtain ⟨_, ns, _⟩ := J.nolimit
      obtain ⟨o', es, ep, g', d', _⟩ := ns
      rw [e, gP] at g'
      cases g'
      cases d'
    have ltC : cStatics < sA.heap.objs.size := let ⟨_, ns, _⟩ := J.nolimit; ns.lt
    have szA : (sA.heap.push ob).objs.size = sA.heap.objs.size + 1 := Heap.size_push ..
    have stay : ∀ b u, b ≠ P → sA.heap.get? b = some u → hN.get? b = some u := fun b u nb e => ext b u nb (Heap.get?_push_of_some _ e)
    have old : ∀ b u, X.base.get? b = some u → hN.get? b = some u ∧ b < sA.heap.objs.size := fun b u e => by
      obtain ⟨e1, e2⟩ := J.bs b u e
      refine ⟨stay b u (fun z => ?_) e1, Heap.lt_size e1⟩
      rw [z, tP] at e2
      cases e2
    refine wpAny_builtinsFor (m := X.mg) (by rw [J.ok.glob]; exact ((J.mod.glob.keeps J.bk).push ob).extBut ext TB.gP) e1 e2 (stay _ _ e4 (J.bk _ _ e5)) e6 e7 e8 ?_
    refine ⟨sA.heap.objs.size, [sA.heap.objs.size], [sA.heap.objs.size], a.cps.size, SignAt a, St, (fun _ => true), (fun i y => ∃ cc, a.cps[i]? = some cc ∧ y = .bool (pb cc)), rfl, W, ?_, ?_, noL.extBut ext ncP, ?_, ?_, ?_⟩
    · refine (W X.A hr.hd).frame _ _ _ start fun b hb u e => ext b u (fun z => ?_) e
      have hb' : b = sA.heap.objs.size := List.mem_singleton.mp hb
      exact Nat.ne_of_lt ltP (z.symm.trans hb')
    · intro b hb
      have hb' : b = sA.heap.objs.size := List.mem_singleton.mp hb
      rw [hb']
      show sA.heap.objs.size < hN.objs.size
      omega
    · intro z
      have z' : cStatics = sA.heap.objs.size := List.mem_singleton.mp z
      exact Nat.ne_of_lt ltC z'
    · intro hf sub
      refine ⟨fun B F' i v z m hB hv hn hm hk => ?_, fun B F' i v z m hB hv hp hn hm hk => ?_⟩
      · simp only [List.forIn_nil]
        exact wpAny_pure ⟨rfl, keeps_refl _⟩
      · obtain ⟨cc, u, hcc, rfl⟩ := hv
        refine wpAny_mono (hel _ B F' cc u z m rfl rfl (fun b o e => ?_) hn hm) (fun y z' r => ⟨⟨cc, hcc, r.1⟩, r.2⟩) fun _ _ e => e
        obtain ⟨e1, e2⟩ := old b o e
        refine hk b (List.mem_range.mpr (Heap.lt_size e1)) (fun w => ?_) o (sub b o e1)
        have w' : b = sA.heap.objs.size := List.mem_singleton.mp w
        exact Nat.ne_of_lt e2 w'
    · intro g hG tg gs bare ltg szg keepg Wg atg
      simp only [GxR.passing_true, List.length_range] at Wg
      refine hQ a H1 g _ q ⟨_, _, _, _, _, Wg.in4_1, atg, ?_, fun s' mv => ?_⟩
      · intro j y sj Qj Ej hy hj
        obtain ⟨i, ij, cc, hcc, rfl⟩ := hy
        obtain ⟨lj, ej⟩ := List.getElem?_eq_some_iff.mp ij
        rw [List.getElem_range] at ej
        subst ej
        have sign : a.cps.toList[j]? = some cc := (Array.getElem?_toList).trans hcc
        have hj' : Qj (trF pb a.cps.toList j) sj := hj
        rw [trF_some sign] at hj'
        exact wpAny_truthy_bool hj'
      · obtain ⟨mo, em⟩ := more
        have nw : ∀ b u, sA.heap.get? b = some u → b ∉ hN.objs.size :: [sA.heap.objs.size] := fun b u e z => by
          have l := Heap.lt_size e
          rcases List.mem_cons.mp z with z | z
          · rw [z] at l
            have l2 : (hN.objs.size : Nat) < sA.heap.objs.size := l
            omega
          · exact Nat.ne_of_lt l (List.mem_singleton.mp z)
        have L := inv_tab (more := mo) (h' := s'.heap) (g' := s'.gens) (d' := s'.drawn) (t' := s'.toks) J tP (fun b u nb e => mv.heap b u (nw b u e) (keepg b u (stay b u nb e)))
          (by rw [← em]; exact mv.heap P _ (nw P _ gP) (keepg P _ gPN)) (AllBare.movedS (J.bare.push bare) mv)
        rw [sh_eta sA s' mv.os] at L
        refine ⟨upd H1 P (.tbl (ps ++ mo)), ⟨⟨ps ++ mo, upd_same, ?_⟩, fun b nb => upd_ne nb⟩, L⟩
        rw [← em]
        exact okN
  refine ⟨noL, ?_⟩
  cases am : codeAmong gp ps.toList with
  | none =>
    refine wpAny_genexprCodeX hco (head.code gP2 tok) (head.tab gP2) am fun c' hN tk ext hge hlt hc' _ tab' _ => ?_
    obtain ⟨o1, vs, f1, tf, fl, tg, inF, tx, tt, op, _, _, _, _, _, _, _, _, _, tr, _⟩ := hc'
    exact go _ hN tk _ ext (Nat.le_trans hge (Nat.le_of_lt hlt)) tab'.2 ⟨_, rfl⟩ tr
  | some cv =>
    refine wpAny_genexprCode_hit hco (head.code gP2 tok) am ?_
    exact go cv (sA.heap.push ob) sA.toks ps (Heap.ExtBut.refl _ _) (Nat.le_refl _) gP2 ⟨#[], by simp⟩ tok
theorem pe_allG {c P : Addr} {elt iter : Expr} {x : Str} {px p pos gp : Pos} {sc : Scope} {pb : Nat → Bool} {te : TE} {k : Nat}
    (hr : Room k X.A) (hg : Gl X "all") (hm : X.mg "all" = none) (hb : bootBuiltins "all" = some (.builtin "all")) (TB : TabB X.base X.mg c P) (hco : X.env.code = .ref c) (S : GenS X.env sc x) (hi : PE X iter te) (hel : EltG X sc x elt pb)
    (hs : ∀ v, genFold iter X.env v = pure v)
    (he : starEach [.GeneratorExp elt [⟨.Name x px, iter, [], 0⟩] sc gp] X.env = (false, eval (.GeneratorExp elt [⟨.Name x px, iter, [], 0⟩] sc gp) X.env) :: starEach [] X.env := by rfl) :
    PE X (.Call (.Name "all" p) [.GeneratorExp elt [⟨.Name x px, iter, [], 0⟩] sc gp] [] pos) (tAllS P pb te) := by
  refine ⟨fun pins s σ H Q I h => wpAny_Call_Name_kw (ld_blt I hg hm hb ?_)⟩
  refine PyProof.Rows.callWith_builtin1 ?_ he (by rfl)
  rw [he]
  show wpAny _ _ (spliced ((false, eval (.GeneratorExp elt [⟨.Name x px, iter, [], 0⟩] sc gp) X.env) :: backTo pos (starEach [] X.env))) _ _ s
  refine Calls.spliced_cons (gen_glob (R := fun a H1 => ∀ H2, Tabbed P H1 H2 → Q (.bl (a.cps.toList.all pb)) H2) hr TB hco S hi hel hs I h fun a H1 g s5 hR rdy => ?_)
  obtain ⟨fp, wr, G, F, St, W, st0, tru, inv⟩ := rdy
  refine Calls.spliced_nil (call_all_walkS (W.self 0 _ _ _ st0 ⟨g, fp, wr, G, _, F, St, _, rfl, W, st0, tru, fun s' mv => ?_⟩))
  obtain ⟨H2, hT, L⟩ := inv s' mv
  refine ⟨.bl _, H2, L, rfl, ?_⟩
  rw [all_signs a pb]
  exact hR H2 hT
/-- sign in NAME, NAME a text of the module -/
theorem elt_inG {sc : Scope} {x y : Str} {T : Str} {p1 p2 p3 : Pos} {tk : Tok} (hk : sc.kind = .function) (hl : sc.names.lookup x = some .local) (hy : sc.names.lookup y = some .globalImplicit) (hG : X.env.globals = mainGlobals) (M : X.base.Ns mainGlobals X.mg) (hm : X.mg y = some (.str T tk))
    (hd : (x == ("__debug__" : Str)) = false := by decide) (hd2 : (y == ("__debug__" : Str)) = false := by decide) :
    EltG X sc x (.Compare (.Name x p1) [.In] [.Name y p2] p3) (fun c => decide (c ∈ T.cps.toList)) := by
  intro ge B F' c t z m h1 h2 h3 h4 h5
  have k1 : ge.scope.kind = .function := by rw [h1]; exact hk
  refine wpAny_Compare1 (wpAny_Name (wpAny_loadName_local k1 (show ge.scope.names.lookup x = some .local by rw [h1]; exact hl) h4 h5 ?_) hd)
  refine Calls.Name_function_global k1 (show ge.scope.names.lookup y = some .globalImplicit by rw [h1]; exact hy) (Calls.loadGlobal_global (by rw [h2, hG]; exact M.keeps h3) hm ?_) hd2
  refine PyProof.Rows.in_str ?_
  refine ⟨congrArg Value.bool ?_, keeps_refl _⟩
  exact PySem.StrLaws.found_one T c
end
end Ey
set_option maxHeartbeats 2000000
namespace Ey
open PySem PySem.Spec PyProof.Rows L2 GxR
/-! ### a law's own call: nothing is under way around it, so that repr is told of data -/
def LawOk (P : Program) (w : World) (K : PySem.W.Frag) (mg : Str → Option Value) (base : Heap) (f : Addr) (fd : FuncData) (x : Str) (sp : Sp) : Prop :=
  ∀ (s : Shared) (H : Hp) (u : Value) (v : V) (Q : VK), Env0 P w K mg base callerA [] s H → BindsTo s fd ⟨[u], []⟩ [(x, u)] → RelV v u → sp [v] H Q E0 →
    codeAny (model P w) callerA (.call (.ref f) ⟨[u], []⟩) (CR CX0 [] P w H s Q E0) s
section
variable {P : Program} {w : World} {K : PySem.W.Frag} {mg : Str → Option Value} {base : Heap}
theorem law_ok {x qual p : Str} {st : Stmt} {f : Addr} {fd : FuncData} {N : List Str} {k : Nat} {sp : Sp} (F : Fun K x qual st f fd) (S : FnScope N [p] (defScope st)) (hr : Room (k + 1) callerA)
    (body : ∀ (cdv : Value) (s : Shared) (H : Hp) (v : V) (Q : VK), Room k (callerA.deeper (envOfC qual (defScope st) s.heap.objs.size f cdv)) → sp [v] H Q E0 →
      ∃ t, PSs (cxOf CX0 P w K mg base N qual (defScope st) f cdv callerA [] s H E0).nox (defBody st) t ∧ t { nx := fun _ H' => Q .non H', rt := Q } (start N [v]) H) :
    LawOk P w K mg base f fd p sp := by
  obtain ⟨oc, od, kV, doc, pm, an, cdv, ct, osl, rfl, lk, code⟩ := F.ex
  intro s H u v Q e0 hb rv hsp
  have inK : K.In s.heap := e0.mod.kin.keeps fun b o e => (e0.bs b o e).1
  have noL : s.heap.NoLimit := e0.mod.nolimit.keeps fun b o e => (e0.bs b o e).1
  have kinds : ∀ y ∈ [p].zip [u], (defScope st).names.lookup y.1 = some .local ∨ ((defScope st).names.lookup y.1 = some .cell ∧ ((cellsFrom (s.heap.objs.size + 1) (defScope st).names []).lookup y.1).isSome = true) := fun ⟨n, z⟩ hy => by
    rcases S.par n (List.of_mem_zip hy).1 with q | q
    · exact .inl q
    · exact .inr ⟨q, PySem.W.cellsFrom_some _ _ _ (.inl q)⟩
  refine codeAny_call_function (Nat.lt_of_le_of_lt (by omega) hr.dp) (inK _ _ lk) rfl S.co S.gen rfl (PySem.W.codeRec_of inK code) (hb _ _ _ _ ?_)
  refine wpAny_newFunctionEnv_cells (binds := [p].zip [u]) S.kind kinds fun env he s1 xc => ?_
  subst he
  refine ⟨noL.keeps xc.toInCall.keep, codeAny_func ?_⟩
  obtain ⟨t, dv, rd⟩ := body cdv s H v Q (hr.deeper _) hsp
  have I := inv_start (CX := CX0) (E := E0) (P := P) (w := w) (K := K) (mg := mg) (base := base) (N := N) (ps := [p]) (A := callerA) (vs := [v]) (us := [u]) S rfl e0 rfl (.cons rv .nil) xc
  refine wpAny_mono (dv.nox.run [] s1 (start N [v]) H _ I rd) (fun fl s' hs => ?_) fun e s' hs => hs
  cases fl with
  | next =>
    obtain ⟨σ', H', J, q⟩ := hs
    exact ⟨V.non, H', J.os, J.bare, J.base, J.hok, rfl, q⟩
  | ret z =>
    obtain ⟨y, σ', H', J, ry, q⟩ := hs
    exact ⟨y, H', J.os, J.bare, J.base, J.hok, ry, q⟩
  | brk =>
    obtain ⟨_, _, _, q⟩ := hs
    exact q.elim
  | cont =>
    obtain ⟨_, _, _, q⟩ := hs
    exact q.elim
end
end Ey
set_option maxHeartbeats 2000000
namespace Ey
open PySem PySem.Spec PyProof.Rows L2 GxR
/-- the tables cs stand empty in h, outside the written part -/
structure Tabs (K : PySem.W.Frag) (h : Heap) (cs : List (Addr × Addr)) : Prop where
  at_ : ∀ p ∈ cs, h.get? p.2 = some { cls := .none, data := .fields #[] }
  out : ∀ p ∈ cs, K.lookup p.2 = none
  hd : ∀ p ∈ cs, PySem.W.CodeHd h p.1 p.2
/-- what a heap says of the module's own builtins -/
def BMain (mg : Str → Option Value) (h : Heap) : Prop :=
  ∃ (bm : Addr) (ob : Obj), mg "__builtins__" = some (.ref bm) ∧ bm ≠ builtinsNs ∧ h.get? bm = some ob ∧ ob.cls = .type "module" ∧ ob.dict = some builtinsNs ∧ ob.data = .plain
section
variable {P : Program} {w : World} {K : PySem.W.Frag} {mg mb : Str → Option Value}
/-- the script at a, the tables cs: what is tracked ahead of the law -/
def start0 (K : PySem.W.Frag) (a : Addr) (o : Obj) (ns : List Int) (cs : List (Addr × Addr)) : Hp := fun b =>
  if b ∈ cs.map (·.2) then some (.tbl #[]) else if b = a ∧ K.lookup a = none then some (.frz o (.lst (ns.map V.int))) else none
theorem call_law {f a : Addr} {cs : List (Addr × Addr)} {fd : FuncData} {x : Str} {sp : Sp} {z : Shared} {vs : List Value} {ns : List Int}
    (KX : K.In z.heap) (hns : z.heap.Ns mainGlobals mg) (hb : z.heap.Ns builtinsNs mb) (hbb : ∀ x : Str, x ≠ "__name__" → mb x = bootBuiltins x) (lim : z.heap.NoLimit) (hsm : ∃ mm, z.heap.Ns sysModules mm) (hg : z.gens = #[])
    (T : Tabs K z.heap cs) (hbm : BMain mg z.heap) (ha : z.heap.get? a = some { cls := .type "list", data := .seq vs.toArray }) (hi : IntsAre vs ns) (hl : ns.length ≤ sizeLine)
    (F : ∀ base : Heap, K.In base → base.Ns mainGlobals mg → (∀ p ∈ cs, TabB base mg p.1 p.2) → (∃ mm, base.Ns sysModules mm) → LawOk P w K mg base f fd x sp) (hbind : ∀ (s : Shared) (u : Value), BindsTo s fd ⟨[u], []⟩ [(x, u)])
    (hsp : ∀ H : Hp, (∀ p ∈ cs, H p.2 = some (.tbl #[])) → SqL K H a (ns.map V.int) → sp [.ref a] H (fun v _ => v = .bl true) E0) :
    codeAny (model P w) callerA (.call (.ref f) ⟨[.ref a], []⟩) (fun r s' => r = .ok (.ret (.bool true)) ∧ OldK z.heap s'.heap ∧ s'.os = z.os ∧ AllBare s'.gens) z := by
  have rv := vals_ints hi
  have nV : vs.length = ns.length := hi.length
  have tabAt : ∀ b : Addr, b ∈ cs.map (·.2) → z.heap.get? b = some { cls := .none, data := .fields #[] } ∧ K.lookup b = none := fun b m => by
    obtain ⟨p, hp, rfl⟩ := List.mem_map.mp m
    exact ⟨T.at_ p hp, T.out p hp⟩
  have aT : a ∉ cs.map (·.2) := fun m => by
    have e := (tabAt a m).1
    rw [ha] at e
    injection e with e
    have e' : Data.seq vs.toArray _ = Data.fields #[] := congrArg Obj.data e
    cases e'
  let H : Hp := start0 K a { cls := .type "list", data := .seq vs.toArray } ns cs
  have HT : ∀ p ∈ cs, H p.2 = some (.tbl #[]) := fun p hp => if_pos (List.mem_map.mpr ⟨p, hp, rfl⟩)
  have Hcase : ∀ b, H b = none ∨ (b ∈ cs.map (·.2) ∧ H b = some (.tbl #[])) ∨ (b = a ∧ K.lookup a = none ∧ H b = some (.frz { cls := .type "list", data := .seq vs.toArray } (.lst (ns.map V.int)))) := fun b => by
    by_cases h1 : b ∈ cs.map (·.2)
    · exact .inr (.inl ⟨h1, if_pos h1⟩)
    · by_cases h2 : b = a ∧ K.lookup a = none
      · exact .inr (.inr ⟨h2.1, h2.2, (if_neg h1).trans (if_pos h2)⟩)
      · exact .inl ((if_neg h1).trans (if_neg h2))
  have HS : SqL K H a (ns.map V.int) := by
    cases hk : K.lookup a with
    | some o =>
      have e := KX a o hk
      rw [ha] at e
      injection e with e
      subst e
      exact .inr ⟨_, vs.toArray, _, hk, rfl, rfl, rfl, by rw [List.size_toArray, nV]; exact hl, by simpa using rv⟩
    | none => exact .inl (.inr ⟨_, (if_neg aT).trans (if_pos ⟨rfl, hk⟩)⟩)
  have HO : HOk P w H z.heap := fun b u e => by
    rcases Hcase b with q | ⟨m, q⟩ | ⟨m, _, q⟩
    · rw [q] at e
      cases e
    · rw [q] at e
      cases e
      exact (tabAt b m).1
    · rw [q] at e
      cases e
      subst m
      exact ⟨ha, by rw [List.length_map]; exact hl, vs, _, rv, ha⟩
  -- what is neither the script nor a table stands in the base
  have inB : ∀ {b : Addr} {o : Obj}, z.heap.get? b = some o → (∀ xs n, o.data ≠ .seq xs n) → o.data ≠ .fields #[] → (hidT z.heap H).get? b = some o := fun {b o} e h1 h2 => by
    refine hidT_get e ?_
    rcases Hcase b with q | ⟨m, q⟩ | ⟨m, _, q⟩
    · exact q
    · rw [(tabAt b m).1] at e
      injection e with e
      subst e
      exact absurd rfl h2
    · subst m
      rw [ha] at e
      injection e with e
      subst e
      exact absurd rfl (h1 _ _)
  have nsB : ∀ {b : Addr} {m : Str → Option Value}, z.heap.Ns b m → (hidT z.heap H).Ns b m := fun {b m} ⟨o, es, ep, e, d, r⟩ =>
    ⟨o, es, ep, inB e (fun xs n q => by rw [d] at q; cases q) (fun q => by rw [d] at q; cases q), d, r⟩
  have KB : K.In (hidT z.heap H) := fun b o e => by
    refine hidT_get (KX b o e) ?_
    rcases Hcase b with q | ⟨m, q⟩ | ⟨m, n, q⟩
    · exact q
    · rw [(tabAt b m).2] at e
      cases e
    · subst m
      rw [n] at e
      cases e
  have M : L2.Mod K mg (hidT z.heap H) := ⟨KB, nsB hns, ⟨mb, nsB hb, hbb⟩, let ⟨mc, h1, h2⟩ := lim; ⟨mc, nsB h1, h2⟩⟩
  have TB : ∀ p ∈ cs, TabB (hidT z.heap H) mg p.1 p.2 := fun p hp => by
    have pT := T.at_ p hp
    refine ⟨?_, ?_, fun q => ?_⟩
    · obtain ⟨o, us, fi, tf, fl, tg, nf, tx, tt, e1, r1, r2, r3, rest⟩ := T.hd p hp
      refine ⟨o, us, fi, tf, fl, tg, nf, tx, tt, inB e1 (fun xs n q => ?_) (fun q => ?_), r1, r2, r3, rest⟩
      · rw [r2] at q
        cases q
      · rw [r2] at q
        cases q
        simp at r3
    · obtain ⟨bm, ob, b1, b2, b3, b4, b5, b6⟩ := hbm
      refine ⟨bm, ob, b1, b2, fun q => ?_, fun q => ?_, inB b3 (fun xs n q => ?_) (fun q => ?_), b4, b5, b6⟩
      · obtain ⟨o, es, ep, e, d, _⟩ := hns
        rw [q, e] at b3
        injection b3 with b3
        subst b3
        rw [d] at b6
        cases b6
      · rw [q, pT] at b3
        injection b3 with b3
        subst b3
        cases b6
      · rw [b6] at q
        cases q
      · rw [b6] at q
        cases q
    · obtain ⟨o, es, ep, e, d, _⟩ := hns
      rw [q, pT] at e
      injection e with e
      subst e
      cases d
  have e0 : Env0 P w K mg (hidT z.heap H) callerA [] z H := ⟨rfl, M, fun b o e => of_hidT e, Nat.le_of_eq (hidT_size _ _), trivial, fun b m => absurd m List.not_mem_nil, HO, .of_eq hg⟩
  refine codeAny_mono (F _ KB (nsB hns) TB (let ⟨mm, q⟩ := hsm; ⟨mm, nsB q⟩) z H (.ref a) (.ref a) _ e0 (hbind z _) rfl (hsp H HT HS)) fun r s' h => ?_
  cases r with
  | error e => exact h.elim
  | ok fl =>
    cases fl with
    | next => exact h.elim
    | brk => exact h.elim
    | cont => exact h.elim
    | ret u =>
      obtain ⟨v, H', os, bare, un, ok', r', q⟩ := h
      have q' : v = .bl true := q
      subst q'
      obtain rfl : u = Value.bool true := r'
      have keep : ∀ b o, b ∉ cs.map (·.2) → z.heap.get? b = some o → s'.heap.get? b = some o := fun b o nb e => by
        rcases Hcase b with q | ⟨m, q⟩ | ⟨m, _, q⟩
        · exact un.keep b o e q List.not_mem_nil List.not_mem_nil
        · exact absurd m nb
        · have e1 := (HO b _ q).1
          rw [e] at e1
          injection e1 with e1
          subst e1
          exact (ok' b _ (un.frzs b _ _ q)).1
      have grown : ∀ b, b ∈ cs.map (·.2) → ∃ more : Array Value, s'.heap.get? b = some { cls := .none, data := .fields more } := fun b m => by
        obtain ⟨p, hp, rfl⟩ := List.mem_map.mp m
        obtain ⟨more, q⟩ := un.tbls p.2 #[] (HT p hp)
        exact ⟨_, ok' p.2 _ q⟩
      refine ⟨rfl, ⟨fun b o e => ?_, fun b o e => ?_⟩, os, bare⟩
      · by_cases m : b ∈ cs.map (·.2)
        · obtain ⟨more, g⟩ := grown b m
          obtain ⟨p, hp, rfl⟩ := List.mem_map.mp m
          rw [T.at_ p hp] at e
          injection e with e
          subst e
          exact .inr (.inl ⟨((T.hd p hp).tab (T.at_ p hp)).isCodeTable, rfl, #[], more, rfl, by rw [Array.empty_append]; exact g⟩)
        · exact .inl (keep b o m e)
      · by_cases m : b ∈ cs.map (·.2)
        · obtain ⟨more, g⟩ := grown b m
          exact ⟨_, g⟩
        · exact ⟨o, keep b o m e⟩
end
/-- the goal that k_head leaves, from the law's promise at any base -/
theorem walk_law {l : PySem.W.OpenLaw} {n : Nat} {q : Program} {loose : List Str} {XP : (Str → Option Value) → Heap → Prop} {YP : World → Heap → Prop} {d : DefRec} {K : Params → PySem.W.Frag} {x : Str}
    (hi0 : PyProof.Rows.importsNone q = true) (hn : l.most = some n) (hn2 : n ≤ sizeLine) (hdf : d.params.defaults = []) (hY : ∀ (w : World) (h : Heap), YP w h → (K w.params).In h)
    (F : ∀ (w : World) (mg : Str → Option Value) (f : Addr) (h : Heap) (lo : List Str) (mean : ExcName → Option Value) (mb : Str → Option Value), (K w.params).In h → PyProof.Rows.Top q lo mean mg mb h → mg d.name = some (.ref f) →
      ∃ (fd : FuncData) (cs : List (Addr × Addr)) (sp : Sp), Tabs (K w.params) h cs ∧ (∀ (s : Shared) (u : Value), BindsTo s fd ⟨[u], []⟩ [(x, u)]) ∧
        (∀ (H : Hp) (a : Addr) (ns : List Int), ns.length ≤ n → (∀ p ∈ cs, H p.2 = some (.tbl #[])) → SqL (K w.params) H a (ns.map V.int) → sp [.ref a] H (fun v _ => v = .bl true) E0) ∧
        ∀ base : Heap, (K w.params).In base → base.Ns mainGlobals mg → (∀ p ∈ cs, TabB base mg p.1 p.2) → (∃ mm, base.Ns sysModules mm) → LawOk l.prog w (K w.params) mg base f fd x sp) :
    PySem.W.WalkO q loose XP YP l.row.toRowW d [] (fun f vs => PySem.call f vs) := by
  refine Att.attach_call hn hdf fun w s₀ z mg mb f o pm cd doc a vs ns G Y ho hd hcd hmg hobj hi hlen hg => ?_
  obtain ⟨fd, cs, sp, T, hb, hsp, hF⟩ := F w mg f _ _ _ _ (hY w _ Y) G.T hmg
  exact call_law (hY w _ Y) G.T.g G.T.b G.T.builtins G.T.nolimit (let ⟨mm, q, _⟩ := (G.T.seer hi0).mods; ⟨mm, q⟩) hg T G.T.bmain hobj hi (Nat.le_trans hlen hn2) hF hb fun H h1 h2 => hsp H a ns hlen h1 h2
end Ey
set_option maxHeartbeats 2000000
namespace PySem.W
open PySem PySem.Calls PyProof.Rows PyProof.V PySem.Spec Builtin
section
variable {prog : Program} {w : World} {A : Around} {E : Value → Shared → Prop} {s : Shared} {T : String} {r d : Addr} {n : Nat} {P : Nat → Value → Prop} {OK : Heap → Prop}
/-- what a source yields, collected -/
theorem ey_collect {Q : List Value → Shared → Prop} (K : KdlSrc prog w T r d n P OK) (hh : A.handled = none) (hok : OK s.heap) (hn : n ≤ sizeLine)
    (hQ : ∀ h' tk (acc : Array Value), (∀ b o, s.heap.get? b = some o → h'.get? b = some o) → ItemsOf P acc n → Q acc.toList { s with heap := h', toks := tk }) :
    wpAny (model prog w) A (collect (.ref r)) Q E s := by
  unfold collect
  refine wpAny_bind (wpAny_runValue (codeAny_builtin PySem.F.entry_proto_collect ?_))
  rw [Around.under_plainId PySem.F.plain_proto_collect _]
  show wpAny _ A.in1 (newList [] >>= fun l => again (.builtin "list.__iadd__" ⟨[l, .ref r], []⟩)) _ _ s
  refine wpAny_bind (wpAny_newObj_type (wpAny_pure ⟨plainId_quiet PySem.F.plain_list_iadd _, codeAny_builtin PySem.F.entry_list_iadd ?_⟩))
  rw [Around.under_plainId PySem.F.plain_list_iadd _]
  show wpAny _ A.in1 (Builtin.List.listExtendWith (.ref s.heap.objs.size) (.ref r) (.ref s.heap.objs.size)) _ _ _
  have at0 : (s.heap.push { cls := .type "list", data := .seq ([] : List Value).toArray }).get? s.heap.objs.size = some { cls := .type "list", data := .seq #[] 0 } := Heap.get?_push_size _ rfl
  have lt := K.there _ hok
  have ok1 : OK (s.heap.push { cls := .type "list", data := .seq ([] : List Value).toArray }) := K.keep _ _ hok fun b _ o e => Heap.get?_push_of_some _ e
  have fin : ∀ (h' : Heap) (tk : Nat) (acc : Array Value) (c : Nat), (∀ b o, s.heap.get? b = some o → h'.get? b = some o) → h'.get? s.heap.objs.size = some { cls := .type "list", dict := none, data := .seq acc c, slots := #[] } → ItemsOf P acc n →
      wpAny (model prog w) A (match Value.ref s.heap.objs.size with
      | Value.ref a => do
        match (← load a).data with
          | Data.seq xs _ => pure xs.toList
          | _ => unsupported "internal:collect"
      | _ => unsupported "internal:collect") Q E { s with heap := h', toks := tk } := fun h' tk acc c hk at1 it => by
    show wpAny _ A (load s.heap.objs.size >>= _) _ _ _
    exact wpAny_bind (wpAny_load at1 (wpAny_pure (hQ h' tk acc hk it)))
  refine wpAny_mono (kdl_extend (A := A) (s := { s with heap := s.heap.push { cls := .type "list", data := .seq ([] : List Value).toArray } })
    (R := fun q s' => q = .ok (.ret (.ref s.heap.objs.size)) ∧ ∃ (h' : Heap) (tk : Nat) (acc : Array Value) (c : Nat), s' = { s with heap := h', toks := tk } ∧ (∀ b o, s.heap.get? b = some o → h'.get? b = some o) ∧ h'.get? s.heap.objs.size = some { cls := .type "list", dict := none, data := .seq acc c, slots := #[] } ∧ ItemsOf P acc n)
    K hh ok1 s.heap.objs.size (Nat.ne_of_gt lt.1) (Nat.ne_of_gt lt.2) (.ref s.heap.objs.size) 0 at0 (fun h' tk acc c hk at1 it => ⟨rfl, h', tk, acc, c, rfl, fun b o e => hk b o (Nat.ne_of_lt (Heap.lt_size e)) (Heap.get?_push_of_some _ e), at1, it⟩) hn) (fun q s' h => ?_) (fun e s' h => ?_)
  · cases q with
    | done f =>
      obtain ⟨e, h', tk, acc, c, rfl, hk, at1, it⟩ := h
      cases e
      exact fin h' tk acc c hk at1 it
    | again c' =>
      refine ⟨h.1, codeAny_mono h.2 fun q s2 hq => ?_⟩
      obtain ⟨rfl, h', tk, acc, c, rfl, hk, at1, it⟩ := hq
      exact fin h' tk acc c hk at1 it
  · exact absurd h.1 (by simp)
/-- tuple(of it) -/
theorem ey_tuple_new {Q₁ : Value → Shared → Prop} (K : KdlSrc prog w "dict" r d n P OK) (hh : A.handled = none) (hok : OK s.heap) (hn : n ≤ sizeLine)
    (h : ∀ (h' : Heap) (tk : Nat) (acc : Array Value), (∀ b o, s.heap.get? b = some o → h'.get? b = some o) → ItemsOf P acc n → Q₁ (.ref h'.objs.size) { s with heap := h'.push { cls := .type "tuple", data := .seq acc }, toks := tk }) :
    codeAny (model prog w) A (.call (.builtin "tuple.__new__") ⟨[.type "tuple", .ref r], []⟩) (wants Q₁ E) s := by
  refine codeAny_of_tree ?_
  show wpAny _ A.in1 (do checkBuiltinCall "tuple.__new__" ⟨[.type "tuple", .ref r], []⟩; again (.builtin "tuple.__new__" ⟨[.type "tuple", .ref r], []⟩)) _ _ s
  refine wpAny_bind (wpAny_of_eq (PySem.F.newCall_tuple_1 _) (wpAny_pure ⟨plainId_quiet PySem.F.plain_tuple_new _, codeAny_builtin PySem.F.entry_tuple_new ?_⟩))
  rw [Around.under_plainId PySem.F.plain_tuple_new _]
  have sub1 := sub_tuple_self
  have init1 := init_tuple_lookup
  have made1 := madeHere_tuple
  have ty1 := K.type s hok
  wp_walk using wpAny_typeOf ty1, ey_collect (A := A.in1) K hh hok hn
  intro h' tk acc hk it
  show wpAny _ _ (Builtin.Tuple.tupleExact acc.toList.toArray >>= fun v => ret v) _ _ _
  unfold Builtin.Tuple.tupleExact
  refine wpAny_bind (wpAny_newObj_type ?_ (by show acc.toList.toArray.size ≤ sizeLine; rw [Array.toArray_toList, it.1]; exact hn))
  refine wpAny_pure ?_
  rw [Array.toArray_toList]
  exact h h' tk acc hk it
theorem ey_tuple {Q : Value → Shared → Prop} (K : KdlSrc prog w "dict" r d n P OK) (hh : A.handled = none) (hok : OK s.heap) (hn : n ≤ sizeLine)
    (h : ∀ (h' : Heap) (tk : Nat) (acc : Array Value), (∀ b o, s.heap.get? b = some o → h'.get? b = some o) → ItemsOf P acc n → Q (.ref h'.objs.size) { s with heap := h'.push { cls := .type "tuple", data := .seq acc }, toks := tk }) :
    wpAny (model prog w) A (call (.type "tuple") [.ref r]) Q E s := by
  refine callType_codes (Q₁ := fun o z => z.TypeIs o "tuple" ∧ Q o z) PySem.F.called_tuple (PySem.F.typeCall_tuple_1 _) PySem.F.entry_object_init
    (ey_tuple_new (A := A.in1) K hh hok hn fun h' tk acc hk it => ⟨⟨_, Heap.get?_push_size _ rfl, rfl⟩, h h' tk acc hk it⟩) fun o z hz => ?_
  exact ⟨hz.1, PySem.F.args_object_init_2 o _, object_init_meets PySem.F.called_tuple.init.lookup PySem.F.called_tuple.made (by decide) prog w A.in1 _ z ⟨hz.1, rfl, hz.2⟩⟩
end
end PySem.W
namespace Ey
open PySem PySem.Spec PyProof.Rows L2
/-- tuple(d), d a dict: its keys -/
def rTupD : List V → Hp → VK → Prop := fun xs H Q => ∃ p kvs, xs = [.ref p] ∧ H p = some (.dK kvs) ∧ ∀ q, H q = none → Q (.ref q) (upd H q (.tup (kvs.map fun kv => kV kv.1)))
theorem call_tupD {X : Cx} (hc : X.calm = true) : CallR X (.type "tuple") rTupD := by
  intro pins s σ H xs us Q I r h
  obtain ⟨p, kvs, rfl, hk, q⟩ := h
  obtain ⟨u, rfl, rx⟩ := vals1 r
  obtain rfl : u = Value.ref p := rx
  obtain ⟨z, lo, vs, rk, hd⟩ := (show ObjOk X.prog X.w H s.heap p (.dK kvs) from I.hok p _ hk)
  obtain ⟨ep, at0⟩ := hd.dictAt
  have nl : kvs.length = vs.length := Paired.length rk
  refine PySem.W.ey_tuple (PySem.W.kdl_dict (knd := mixKind X.prog X.w) (kvs := vs) (ep := ep) lo) (I.ok.hd hc) at0 (by rw [← nl]; exact z) fun h' tk acc keep it => ?_
  have I1 : Inv X pins σ H { s with heap := h', toks := tk } := I.kept keep
  refine ⟨.ref h'.objs.size, upd H h'.objs.size (.tup (kvs.map fun kv => kV kv.1)), I1.laid (t' := tk) (fun b o e => Heap.get?_push_of_some _ e) (Nat.le_refl _) (show ObjOk X.prog X.w _ _ _ (.tup _) from ⟨?_, acc.toList, ?_, ?_⟩), rfl, q _ (I1.hok.fresh (Nat.le_refl _))⟩
  · rw [List.length_map]
    exact z
  · have nA : acc.toList.length = acc.size := by simp
    refine vals_of_at (by rw [List.length_map, nA, it.1, nl]) fun j x v h1 h2 => ?_
    obtain ⟨k, y, e, ki⟩ := it.2 j v (by rw [← Array.getElem?_toList]; exact h2)
    have e1 : (kvs.map (·.1))[j]? = some k := by
      rw [KV.keys rk, List.getElem?_map, e]
      rfl
    rw [List.getElem?_map] at h1 e1
    cases g : kvs[j]? with
    | none =>
      rw [g] at e1
      cases e1
    | some kv =>
      rw [g] at e1 h1
      injection e1 with e1
      injection h1 with h1
      have e2 : kv.1 = k := e1
      rw [← h1]
      show L2.RelV (kV kv.1) v
      rw [e2]
      exact keyIs_rel ki
  · have := IsTup.new h' acc
    rw [Array.toArray_toList]
    exact this
end Ey
/-! Trees, places: the mathematics. -/
namespace Ey
open PySem PySem.Spec PyProof.Rows
/-! ### texts as lists of signs -/
def st (p : List Nat) : Str := ⟨p.toArray⟩
theorem st_inj {p q : List Nat} (h : st p = st q) : p = q := by
  have h2 : p.toArray = q.toArray := congrArg Str.cps h
  simpa using h2
theorem st_app (p q : List Nat) : st p ++ st q = st (p ++ q) := by
  show (⟨p.toArray ++ q.toArray⟩ : Str) = ⟨(p ++ q).toArray⟩
  rw [List.append_toArray]
theorem st_len (p : List Nat) : (st p).length = p.length := rfl
theorem st_list (p : List Nat) : (st p).cps.toList = p := rfl
theorem st_of (x : Str) : x = st x.cps.toList := by
  cases x
  rfl
theorem st_ne {p q : List Nat} (h : p ≠ q) : st p ≠ st q := fun e => h (st_inj e)
/-! ### trees -/
inductive Tr where
  | nil
  | nd (tag : Str) (l r : Tr)
def abc : List Nat := [97, 98, 99, 100, 101, 102, 103, 104, 105, 106, 107, 108, 109, 110, 111, 112, 113, 114, 115, 116, 117, 118, 119, 120, 121, 122]
def isTag (x : Str) : Bool := decide (1 ≤ x.length) && decide (x.length ≤ 8) && x.cps.toList.all fun c => decide (c ∈ abc)
def Tr.ok : Tr → Prop
  | .nil => True
  | .nd g l r => isTag g = true ∧ l.ok ∧ r.ok
def Tr.sz : Tr → Nat
  | .nil => 0
  | .nd _ l r => l.sz + r.sz + 1
def Tr.ht : Tr → Nat
  | .nil => 0
  | .nd _ l r => max l.ht r.ht + 1
def Tr.full : Tr → Bool
  | .nil => false
  | .nd _ _ _ => true
def pl : Tr → List (List Nat)
  | .nil => [[]]
  | .nd _ l r => [] :: ((pl l).map (108 :: ·) ++ (pl r).map (114 :: ·))
def pt : Tr → List Nat → Tr
  | t, [] => t
  | .nil, _ :: _ => .nil
  | .nd _ l r, c :: p => if c = 108 then pt l p else pt r p
def isP : Tr → List Nat → Bool
  | _, [] => true
  | .nil, _ :: _ => false
  | .nd _ l r, c :: p => if c = 108 then isP l p else if c = 114 then isP r p else false
theorem pt_nil (t : Tr) : pt t [] = t := by cases t <;> rfl
theorem isP_nil (t : Tr) : isP t [] = true := by cases t <;> rfl
theorem isP_iff : ∀ (t : Tr) (p : List Nat), isP t p = true ↔ p ∈ pl t
  | .nil, [] => by simp [pl, isP]
  | .nil, c :: p => by simp [pl, isP]
  | .nd g l r, [] => by simp [pl, isP]
  | .nd g l r, c :: p => by
    have il := isP_iff l p
    have ir := isP_iff r p
    have e : (c :: p) ∈ pl (.nd g l r) ↔ (c = 108 ∧ p ∈ pl l) ∨ (c = 114 ∧ p ∈ pl r) := by
      simp only [pl, List.mem_cons, List.mem_append, List.mem_map, reduceCtorEq, false_or]
      constructor
      · rintro (⟨q, hq, e⟩ | ⟨q, hq, e⟩)
        · cases e
          exact .inl ⟨rfl, hq⟩
        · cases e
          exact .inr ⟨rfl, hq⟩
      · rintro (⟨rfl, h⟩ | ⟨rfl, h⟩)
        · exact .inl ⟨p, h, rfl⟩
        · exact .inr ⟨p, h, rfl⟩
    rw [e, ← il, ← ir]
    show (if c = 108 then isP l p else if c = 114 then isP r p else false) = true ↔ _
    by_cases h1 : c = 108
    · subst h1
      simp
    · by_cases h2 : c = 114
      · subst h2
        simp
      · simp [h1, h2]
theorem pl_len : ∀ t : Tr, (pl t).length = 2 * t.sz + 1
  | .nil => rfl
  | .nd g l r => by
    simp only [pl, List.length_cons, List.length_append, List.length_map, pl_len l, pl_len r, Tr.sz]
    omega
theorem pl_ht : ∀ (t : Tr) (p : List Nat), p ∈ pl t → p.length ≤ t.ht
  | .nil, p, h => by
    simp only [pl, List.mem_singleton] at h
    subst h
    exact Nat.zero_le _
  | .nd g l r, p, h => by
    simp only [pl, List.mem_cons, List.mem_append, List.mem_map] at h
    rcases h with rfl | ⟨q, hq, rfl⟩ | ⟨q, hq, rfl⟩
    · exact Nat.zero_le _
    · have := pl_ht l q hq
      simp only [List.length_cons, Tr.ht]
      omega
    · have := pl_ht r q hq
      simp only [List.length_cons, Tr.ht]
      omega
theorem ht_sz : ∀ t : Tr, t.ht ≤ t.sz
  | .nil => Nat.le_refl _
  | .nd g l r => by
    have a := ht_sz l
    have b := ht_sz r
    simp only [Tr.ht, Tr.sz]
    omega
theorem pl_ne (t : Tr) : pl t ≠ [] := by cases t <;> simp [pl]
theorem pl_head (t : Tr) : (pl t)[0]? = some [] := by cases t <;> rfl
theorem pl_signs : ∀ (t : Tr) (p : List Nat), p ∈ pl t → ∀ c ∈ p, c = 108 ∨ c = 114
  | .nil, p, h => by
    simp only [pl, List.mem_singleton] at h
    subst h
    exact fun c hc => absurd hc List.not_mem_nil
  | .nd g l r, p, h => by
    simp only [pl, List.mem_cons, List.mem_append, List.mem_map] at h
    rcases h with rfl | ⟨q, hq, rfl⟩ | ⟨q, hq, rfl⟩
    · exact fun c hc => absurd hc List.not_mem_nil
    · intro c hc
      rcases List.mem_cons.mp hc with e | e
      · exact .inl e
      · exact pl_signs l q hq c e
    · intro c hc
      rcases List.mem_cons.mp hc with e | e
      · exact .inr e
      · exact pl_signs r q hq c e
/-! ### the order -/
def ltL (a b : List Nat) : Prop := ltCps a b = true
theorem ltL_cons {c : Nat} {a b : List Nat} : ltL (c :: a) (c :: b) ↔ ltL a b := by simp [ltL, ltCps]
theorem ltL_nil {c : Nat} {a : List Nat} : ltL [] (c :: a) := rfl
theorem ltL_lt {c d : Nat} {a b : List Nat} (h : c < d) : ltL (c :: a) (d :: b) := by simp [ltL, ltCps, h]
theorem ltL_irr : ∀ a : List Nat, ¬ ltL a a
  | [] => by simp [ltL, ltCps]
  | c :: a => by
    rw [ltL_cons]
    exact ltL_irr a
theorem ltL_trans : ∀ {a b c : List Nat}, ltL a b → ltL b c → ltL a c
  | [], [], _, h, _ => absurd h (ltL_irr [])
  | [], _ :: _, [], _, h => by simp [ltL, ltCps] at h
  | [], _ :: _, _ :: _, _, _ => rfl
  | _ :: _, [], _, h, _ => by simp [ltL, ltCps] at h
  | _ :: _, _ :: _, [], _, h => by simp [ltL, ltCps] at h
  | x :: a, y :: b, z :: c, h1, h2 => by
    simp only [ltL, ltCps, Bool.or_eq_true, decide_eq_true_eq, Bool.and_eq_true, beq_iff_eq] at h1 h2 ⊢
    rcases h1 with h1 | ⟨rfl, h1⟩
    · rcases h2 with h2 | ⟨rfl, h2⟩
      · exact .inl (Nat.lt_trans h1 h2)
      · exact .inl h1
    · rcases h2 with h2 | ⟨rfl, h2⟩
      · exact .inl h2
      · exact .inr ⟨rfl, ltL_trans h1 h2⟩
theorem ltL_tri : ∀ a b : List Nat, ltL a b ∨ a = b ∨ ltL b a
  | [], [] => .inr (.inl rfl)
  | [], _ :: _ => .inl rfl
  | _ :: _, [] => .inr (.inr rfl)
  | x :: a, y :: b => by
    rcases Nat.lt_trichotomy x y with h | rfl | h
    · exact .inl (ltL_lt h)
    · rcases ltL_tri a b with h | rfl | h
      · exact .inl (ltL_cons.mpr h)
      · exact .inr (.inl rfl)
      · exact .inr (.inr (ltL_cons.mpr h))
    · exact .inr (.inr (ltL_lt h))
theorem pl_up : ∀ t : Tr, (pl t).Pairwise ltL
  | .nil => by simp [pl]
  | .nd g l r => by
    simp only [pl, List.pairwise_cons, List.pairwise_append, List.pairwise_map]
    refine ⟨fun p hp => ?_, (pl_up l).imp fun h => ltL_cons.mpr h, (pl_up r).imp fun h => ltL_cons.mpr h, fun a ha b hb => ?_⟩
    · simp only [List.mem_append, List.mem_map] at hp
      rcases hp with ⟨q, _, rfl⟩ | ⟨q, _, rfl⟩
      · exact rfl
      · exact rfl
    · simp only [List.mem_map] at ha hb
      obtain ⟨p, _, rfl⟩ := ha
      obtain ⟨q, _, rfl⟩ := hb
      exact ltL_lt (by decide)
theorem pl_nodup (t : Tr) : (pl t).Nodup := (pl_up t).imp fun {a b} h e => by
  subst e
  exact ltL_irr _ h
/-- what sorted hands back, of texts that are all unlike -/
theorem rising_pw : ∀ (l : List Str) (p : Str), risingS p l = true → (p :: l).Pairwise fun a b => ¬ ltL b.cps.toList a.cps.toList
  | [], p, _ => by simp
  | x :: r, p, h => by
    simp only [risingS, Bool.and_eq_true, Bool.not_eq_true'] at h
    have ih := rising_pw r x h.2
    have h1 : ¬ ltL x.cps.toList p.cps.toList := by
      intro e
      rw [ltL, h.1] at e
      cases e
    rw [List.pairwise_cons]
    refine ⟨fun y hy => ?_, ih⟩
    rcases List.mem_cons.mp hy with rfl | hy
    · exact h1
    · have h2 := (List.pairwise_cons.mp ih).1 y hy
      intro e
      rcases ltL_tri x.cps.toList p.cps.toList with q | q | q
      · exact h1 q
      · rw [← q] at e
        exact h2 e
      · exact h2 (ltL_trans e q)
theorem sorted_is {l : List Str} {ps : List (List Nat)} (h : l.Perm (ps.map st)) (hs : sortedS l = true) (hp : ps.Pairwise ltL) : l = ps.map st := by
  have pw : l.Pairwise fun a b => ¬ ltL b.cps.toList a.cps.toList := by
    cases l with
    | nil => simp
    | cons x r => exact rising_pw r x hs
  have pw2 : (ps.map st).Pairwise fun a b => ¬ ltL b.cps.toList a.cps.toList := by
    rw [List.pairwise_map]
    exact hp.imp fun {a b} h e => ltL_irr _ (ltL_trans h e)
  refine List.Perm.eq_of_pairwise (fun a b _ _ h1 h2 => ?_) pw pw2 h
  rcases ltL_tri a.cps.toList b.cps.toList with q | q | q
  · exact absurd q h2
  · rw [st_of a, st_of b, q]
  · exact absurd q h1
/-! ### the next place -/
def stripR (p : List Nat) : List Nat := (p.reverse.dropWhile fun c => c == 114).reverse
def nxt (full : Bool) (p : List Nat) : Option (List Nat) :=
  if full = true then some (p ++ [108]) else if stripR p = [] then none else some ((stripR p).dropLast ++ [114])
theorem dropWhile_snoc (f : Nat → Bool) (a : List Nat) (c : Nat) : (a ++ [c]).dropWhile f = if a.dropWhile f = [] then [c].dropWhile f else a.dropWhile f ++ [c] := by
  induction a with
  | nil => simp
  | cons x a ih =>
    rw [List.cons_append]
    by_cases h : f x = true
    · rw [List.dropWhile_cons_of_pos h, List.dropWhile_cons_of_pos h]
      exact ih
    · rw [List.dropWhile_cons_of_neg h, List.dropWhile_cons_of_neg h]
      simp
theorem stripR_cons (c : Nat) (p : List Nat) : stripR (c :: p) = if stripR p = [] then (if c = 114 then [] else [c]) else c :: stripR p := by
  unfold stripR
  rw [List.reverse_cons, dropWhile_snoc]
  by_cases h : (p.reverse.dropWhile fun c => c == 114) = []
  · rw [if_pos h, if_pos (by rw [h]; rfl)]
    by_cases hc : c = 114
    · simp [hc]
    · simp [hc]
  · rw [if_neg h, if_neg (by rw [List.reverse_eq_nil_iff]; exact h)]
    simp
theorem nxt_cons {f : Bool} {c : Nat} {p q : List Nat} (h : nxt f p = some q) : nxt f (c :: p) = some (c :: q) := by
  unfold nxt at h ⊢
  by_cases hf : f = true
  · rw [if_pos hf] at h ⊢
    cases h
    rfl
  · rw [if_neg hf] at h ⊢
    by_cases hp : stripR p = []
    · rw [if_pos hp] at h
      cases h
    · rw [if_neg hp] at h
      injection h with h
      have e : stripR (c :: p) = c :: stripR p := by rw [stripR_cons, if_neg hp]
      rw [e, if_neg (by simp), ← h, List.dropLast_cons_of_ne_nil hp]
      rfl
theorem nxt_last {f : Bool} {p : List Nat} (h : nxt f p = none) : nxt f (108 :: p) = some [114] ∧ nxt f (114 :: p) = none := by
  unfold nxt at h ⊢
  by_cases hf : f = true
  · rw [if_pos hf] at h
    cases h
  · rw [if_neg hf] at h
    by_cases hp : stripR p = []
    · rw [if_neg hf, if_neg hf, stripR_cons, stripR_cons, if_pos hp, if_pos hp]
      simp
    · rw [if_neg hp] at h
      cases h
theorem nxt_pl : ∀ (t : Tr) (i : Nat) (p : List Nat), (pl t)[i]? = some p → nxt (pt t p).full p = (pl t)[i + 1]?
  | .nil, i, p, h => by
    cases i with
    | zero =>
      cases h
      rfl
    | succ i => simp [pl] at h
  | .nd g l r, i, p, h => by
    cases i with
    | zero =>
      have e : p = [] := by
        simp only [pl, List.getElem?_cons_zero] at h
        exact (Option.some.inj h).symm
      subst e
      have e2 : (pl (.nd g l r))[0 + 1]? = some [108] := by
        have hl := pl_head l
        simp only [pl, List.getElem?_cons_succ]
        rw [List.getElem?_append_left (by rw [List.length_map]; exact List.length_pos_iff.mpr (pl_ne l)), List.getElem?_map, hl]
        rfl
      rw [e2]
      rfl
    | succ i =>
      simp only [pl, List.getElem?_cons_succ] at h ⊢
      by_cases hi : i < (pl l).length
      · rw [List.getElem?_append_left (by rw [List.length_map]; exact hi), List.getElem?_map] at h
        obtain ⟨q, hq, rfl⟩ := Option.map_eq_some_iff.mp h
        have ih := nxt_pl l i q hq
        have ef : pt (.nd g l r) (108 :: q) = pt l q := by show (if 108 = 108 then _ else _) = _; rw [if_pos rfl]
        rw [ef]
        by_cases hn : i + 1 < (pl l).length
        · rw [List.getElem?_append_left (by rw [List.length_map]; exact hn), List.getElem?_map]
          rw [List.getElem?_eq_getElem hn] at ih ⊢
          exact nxt_cons ih
        · have en : i + 1 = (pl l).length := by omega
          rw [List.getElem?_eq_none (by omega)] at ih
          rw [List.getElem?_append_right (by rw [List.length_map]; omega), List.length_map, en, Nat.sub_self, List.getElem?_map, pl_head r]
          exact (nxt_last ih).1
      · rw [List.getElem?_append_right (by rw [List.length_map]; omega), List.length_map, List.getElem?_map] at h
        obtain ⟨q, hq, rfl⟩ := Option.map_eq_some_iff.mp h
        have ih := nxt_pl r (i - (pl l).length) q hq
        have ef : pt (.nd g l r) (114 :: q) = pt r q := by show (if 114 = 108 then _ else _) = _; rw [if_neg (by decide)]
        rw [ef, List.getElem?_append_right (by rw [List.length_map]; omega), List.length_map, List.getElem?_map]
        have en : i + 1 - (pl l).length = i - (pl l).length + 1 := by omega
        rw [en]
        cases hr : (pl r)[i - (pl l).length + 1]? with
        | none =>
          rw [hr] at ih
          exact (nxt_last ih).2
        | some z =>
          rw [hr] at ih
          exact nxt_cons ih
/-! ### the places below a place -/
theorem below : ∀ (t : Tr) (p : List Nat), isP t p = true → (pl t).filter (fun q => decide (q.take p.length = p)) = (pl (pt t p)).map (p ++ ·)
  | t, [], _ => by
    rw [pt_nil]
    simp
  | .nil, c :: p, h => by cases h
  | .nd g l r, c :: p, h => by
    simp only [pl, List.filter_cons, List.filter_append, List.filter_map]
    have e0 : decide (([] : List Nat).take (c :: p).length = c :: p) = false := by simp
    rw [if_neg (by rw [e0]; exact Bool.false_ne_true)]
    by_cases h1 : c = 108
    · subst h1
      have hp : isP l p = true := h
      have ih := below l p hp
      have ea : ((fun q => decide (q.take (108 :: p).length = 108 :: p)) ∘ (108 :: ·)) = fun q : List Nat => decide (q.take p.length = p) := by
        funext q
        simp
      have eb : (pl r).filter ((fun q => decide (q.take (108 :: p).length = 108 :: p)) ∘ (114 :: ·)) = [] := by
        rw [List.filter_eq_nil_iff]
        intro q _
        simp
      rw [ea, eb, ih]
      show _ = (pl (if 108 = 108 then pt l p else pt r p)).map _
      rw [if_pos rfl]
      simp
    · by_cases h2 : c = 114
      · subst h2
        have hp : isP r p = true := h
        have ih := below r p hp
        have ea : ((fun q => decide (q.take (114 :: p).length = 114 :: p)) ∘ (114 :: ·)) = fun q : List Nat => decide (q.take p.length = p) := by
          funext q
          simp
        have eb : (pl l).filter ((fun q => decide (q.take (114 :: p).length = 114 :: p)) ∘ (108 :: ·)) = [] := by
          rw [List.filter_eq_nil_iff]
          intro q _
          simp
        rw [ea, eb, ih]
        show _ = (pl (if 114 = 108 then pt l p else pt r p)).map _
        rw [if_neg (by decide)]
        simp
      · have : isP (.nd g l r) (c :: p) = false := by
          show (if c = 108 then isP l p else if c = 114 then isP r p else false) = false
          rw [if_neg h1, if_neg h2]
        rw [this] at h
        cases h
end Ey
namespace Ey
open PySem PySem.Spec L2
theorem dw_drop (f : Nat → Bool) : ∀ l : List Nat, l.dropWhile f = l.drop (l.takeWhile f).length
  | [] => rfl
  | a :: l => by
    cases h : f a
    · simp [List.dropWhile_cons, List.takeWhile_cons, h]
    · simp [List.dropWhile_cons, List.takeWhile_cons, h, dw_drop f l]
theorem stripR_take (p : List Nat) : stripR p = p.take (p.length - (p.reverse.takeWhile fun c => c == 114).length) := by
  have hle : (p.reverse.takeWhile fun c => c == 114).length ≤ p.length := by
    have := (List.takeWhile_sublist (fun c => c == 114) (l := p.reverse)).length_le
    rwa [List.length_reverse] at this
  unfold stripR
  rw [dw_drop, ← List.reverse_reverse (p.take _), List.reverse_take]
  have e : p.length - (p.length - (p.reverse.takeWhile fun c => c == 114).length) = (p.reverse.takeWhile fun c => c == 114).length := by omega
  rw [e]
theorem rstrip_st (p : List Nat) : Txt.rstripChars (st p) (st [114]) = st (stripR p) := by
  have e1 : (st [114]).cps.contains = fun c => c == 114 := by
    funext c
    show (#[114] : Array Nat).contains c = (c == 114)
    simp [Array.contains]
  have e3 := stripR_take p
  have lo : stripLo (st [114]).cps.contains false (st p) = 0 := rfl
  have hi : stripHi (st [114]).cps.contains true (st p) 0 = p.length - (p.reverse.takeWhile fun c => c == 114).length := by
    rw [e1]
    rfl
  unfold Txt.rstripChars Txt.stripBy stripSame stripped
  rw [lo, hi]
  have ex : Builtin.Str.strSub (st p) 0 (p.length - (p.reverse.takeWhile fun c => c == 114).length) = st (stripR p) := by
    rw [e3]
    show (⟨p.toArray.extract 0 _⟩ : Str) = ⟨_⟩
    simp
  rw [ex]
  split
  · rename_i h
    simp only [Bool.and_eq_true, beq_iff_eq] at h
    rw [e3, h.2]
    show st p = st (p.take p.length)
    rw [List.take_length]
  · rfl
theorem for_str {x : Str} {g : TG} {tb : TS} {D : Ends} {σ : St} {H : Hp} (Pv : Nat → St → Hp → Prop) (h0 : Pv 0 σ H)
    (hs : ∀ i c σ H, x.cps.toList[i]? = some c → Pv i σ H → g (.str (st [c])) σ H fun σ2 H2 => tb { D with nx := Pv (i + 1), ct := Pv (i + 1), bk := D.nx } σ2 H2)
    (hd : ∀ σ H, Pv x.cps.toList.length σ H → D.nx σ H) :
    ∃ W : Nat → Nat → St → Hp → Prop, (∃ m, W 0 m σ H) ∧ ∀ i m σ H, W i m σ H →
      ((Its x).stop i H ∧ D.nx σ H) ∨ ((Its x).go i H ∧ ∃ N : St → Hp → Prop, (∀ σ' H', N σ' H' → ∃ m', m' < m ∧ W (i + 1) m' σ' H') ∧ ∀ v H', (Its x).yld i H v H' → g v σ H' fun σ2 H2 => tb { D with nx := N, ct := N, bk := D.nx } σ2 H2) := by
  refine ⟨fun i m σ H => m = x.cps.size - i ∧ i ≤ x.cps.size ∧ Pv i σ H, ⟨_, rfl, Nat.zero_le _, h0⟩, fun i m σ H hw => ?_⟩
  obtain ⟨rfl, hi, p⟩ := hw
  by_cases lt : i < x.cps.size
  · refine .inr ⟨lt, Pv (i + 1), fun σ' H' p' => ⟨x.cps.size - (i + 1), by omega, rfl, lt, p'⟩, fun v H' y => ?_⟩
    obtain ⟨rfl, c, hc, rfl⟩ := y
    exact hs i c σ _ (by rw [Array.getElem?_toList]; exact hc) p
  · have e : i = x.cps.size := by omega
    subst e
    exact .inl ⟨Nat.le_refl _, hd σ H (by rw [Array.length_toList]; exact p)⟩
end Ey
namespace Ey
open PySem PySem.Spec L2
/-! ### heaps -/
/-- all that was tracked is as it was, but what stands at ms; tuples never change -/
structure Kp (ms : List Addr) (H H' : Hp) : Prop where
  at_ : ∀ b o, H b = some o → b ∉ ms → H' b = some o
  tup : ∀ b xs, H b = some (.tup xs) → H' b = some (.tup xs)
section
variable {ms : List Addr} {H H' H1 H2 : Hp}
theorem Kp.refl : Kp ms H H := ⟨fun _ _ e _ => e, fun _ _ e => e⟩
theorem Kp.trans (a : Kp ms H H1) (b : Kp ms H1 H2) : Kp ms H H2 := ⟨fun c o e n => b.at_ c o (a.at_ c o e n) n, fun c xs e => b.tup c xs (a.tup c xs e)⟩
theorem Kp.more {ms' : List Addr} (a : Kp ms H H1) (h : ∀ x ∈ ms, x ∈ ms') : Kp ms' H H1 := ⟨fun c o e n => a.at_ c o e fun q => n (h c q), a.tup⟩
theorem Kp.new {p : Addr} {o : HO} (h : H p = none) : Kp ms H (upd H p o) :=
  ⟨fun c u e _ => by rw [upd_ne (ne_of_none e h)]; exact e, fun c xs e => by rw [upd_ne (ne_of_none e h)]; exact e⟩
theorem Kp.put {p : Addr} {o u : HO} (hm : p ∈ ms) (h : H p = some u) (nt : ∀ xs, u ≠ .tup xs) : Kp ms H (upd H p o) := by
  refine ⟨fun c v e n => ?_, fun c xs e => ?_⟩
  · rw [upd_ne (fun q => n (by rw [q]; exact hm))]
    exact e
  · rw [upd_ne (fun q => ?_)]
    · exact e
    · rw [q, h] at e
      exact nt xs (Option.some.inj e)
theorem Kp.same (s : Same H H1) : Kp ms H H1 := ⟨fun c o e _ => s c o e, fun c xs e => s c _ e⟩
theorem Kp.free (a : Kp ms H H1) {p : Addr} (h : H1 p = none) (n : p ∉ ms) : H p = none := by
  cases q : H p with
  | none => rfl
  | some o =>
    rw [a.at_ p o q n] at h
    cases h
theorem Kp.lst {K : PySem.W.Frag} {a : Addr} {xs : List V} (k : Kp ms H H1) (n : a ∉ ms) (h : SqL K H a xs) : SqL K H1 a xs := by
  rcases h with (h | ⟨o, h⟩) | h
  · exact .inl (.inl (k.at_ _ _ h n))
  · exact .inl (.inr ⟨o, k.at_ _ _ h n⟩)
  · exact .inr h
end
/-! ### trees in the heap -/
inductive TreeAt (H : Hp) : V → Tr → Prop where
  | nil : TreeAt H .non .nil
  | nd {a : Addr} {g : Str} {l r : Tr} {v w : V} : H a = some (.tup [.str g, v, w]) → TreeAt H v l → TreeAt H w r → TreeAt H (.ref a) (.nd g l r)
theorem TreeAt.kp {ms : List Addr} {H H1 : Hp} {v : V} {t : Tr} (k : Kp ms H H1) (h : TreeAt H v t) : TreeAt H1 v t := by
  induction h with
  | nil => exact .nil
  | nd e _ _ ih1 ih2 => exact .nd (k.tup _ _ e) ih1 ih2
theorem TreeAt.non {H : Hp} {v : V} {t : Tr} (h : TreeAt H v t) : decide (v = .non) = !t.full := by
  cases h <;> rfl
theorem sqt_of {K : PySem.W.Frag} {H : Hp} {a : Addr} {xs : List V} (h : H a = some (.tup xs)) : SqT K H a xs := .inl (.inl h)
theorem sql_of {K : PySem.W.Frag} {H : Hp} {a : Addr} {xs : List V} (h : H a = some (.lst xs)) : SqL K H a xs := .inl (.inl h)
/-- a tree as data -/
def td : Tr → PyData
  | .nil => .none
  | .nd g l r => .tuple [.str g, td l, td r]
theorem TreeAt.dp {K : PySem.W.Frag} {H : Hp} {v : V} {t : Tr} (h : TreeAt H v t) : Dp K H v (td t) := by
  induction h with
  | nil => exact .non
  | nd e _ _ ih1 ih2 => exact .tup (sqt_of e) (.cons (.str _) (.cons ih1 (.cons ih2 .nil)))
theorem td_show : ∀ t : Tr, (td t).showable = true
  | .nil => rfl
  | .nd g l r => by
    show (true && ((td l).showable && ((td r).showable && true))) = true
    rw [td_show l, td_show r]
    rfl
theorem td_depth : ∀ t : Tr, (td t).depth ≤ 1 + t.ht
  | .nil => by decide
  | .nd g l r => by
    have a := td_depth l
    have b := td_depth r
    simp only [td, PyData.depth, PyData.depthAll, Tr.ht]
    omega
theorem tag_signs {g : Str} (h : isTag g = true) : ∀ c ∈ g.cps.toList, c < 16 ^ 8 := fun c hc => by
  simp only [isTag, Bool.and_eq_true, List.all_eq_true, decide_eq_true_eq] at h
  have := h.2 c hc
  simp only [abc, List.mem_cons, List.not_mem_nil, or_false] at this
  omega
theorem tag_len {g : Str} (h : isTag g = true) : g.length ≤ 8 := by
  simp only [isTag, Bool.and_eq_true, decide_eq_true_eq] at h
  exact h.1.2
theorem len_app (a b : Str) : (a ++ b).length = a.length + b.length := by
  show (a.cps ++ b.cps).size = _
  rw [Array.size_append]
  rfl
theorem td_len : ∀ t : Tr, t.ok → (td t).shown.length ≤ 100 * t.sz + 4
  | .nil, _ => by decide +kernel
  | .nd g l r, h => by
    obtain ⟨hg, hl, hr⟩ := h
    have a := td_len l hl
    have b := td_len r hr
    have c := StrLaws.reprText_len g (tag_signs hg)
    have d := tag_len hg
    have e : (td (.nd g l r)).shown.length ≤ (reprText g).length + (td l).shown.length + (td r).shown.length + 6 := by
      show (tupleText [reprText g, (td l).shown, (td r).shown]).length ≤ _
      unfold tupleText
      rw [len_app, len_app]
      simp only [Str.join, len_app]
      have q1 : (", " : Str).length = 2 := by decide +kernel
      have q2 : ("(" : Str).length = 1 := by decide +kernel
      have q3 : (Str.ofString (if (([reprText g, (td l).shown, (td r).shown] : List Str).length == 1) = true then ",)" else ")")).length = 1 := by
        show (Str.ofString (if ((3 : Nat) == 1) = true then ",)" else ")")).length = 1
        decide +kernel
      rw [q1, q2]
      omega
    simp only [Tr.sz]
    omega
end Ey
set_option maxHeartbeats 4000000
namespace Ey
open PySem PySem.Spec L2
def topS (i : Nat) : Stmt := PySem.Challenge.pw_eyesonly_k01_trees_and_places_of_any_val.main.body.getD i (.Pass ⟨0, 0, 0, 0⟩)
abbrev sDeck : Stmt := topS 15
abbrev sDraw : Stmt := topS 16
abbrev sPick : Stmt := topS 17
/-- what the module leaves of the built-in names -/
structure BI (mg : Str → Option Value) : Prop where
  int : mg "int" = none
  max : mg "max" = none
  list : mg "list" = none
  len : mg "len" = none
  range : mg "range" = none
  tuple : mg "tuple" = none
  sorted : mg "sorted" = none
  repr : mg "repr" = none
  isi : mg "isinstance" = none
  str : mg "str" = none
  all : mg "all" = none
/-! ### the deck -/
def kLeft : Key := .inr "left"
def kMix : Key := .inr "mixed"
def kDraw : Key := .inr "draws"
theorem kLM : ¬ kLeft = kMix := by decide +kernel
theorem kLD : ¬ kLeft = kDraw := by decide +kernel
theorem kMD : ¬ kMix = kDraw := by decide +kernel
def deckD (l : Addr) (m n : Int) : List (Key × V) := [(kLeft, .ref l), (kMix, .int m), (kDraw, .int n)]
section
variable (l : Addr) (m n : Int)
theorem deck_left : valV (deckD l m n) kLeft = some (.ref l) := valV_pos rfl
theorem deck_mix : valV (deckD l m n) kMix = some (.int m) := (valV_neg kLM).trans (valV_pos rfl)
theorem deck_draw : valV (deckD l m n) kDraw = some (.int n) := (valV_neg kLD).trans ((valV_neg kMD).trans (valV_pos rfl))
theorem put_mix (z : Int) : putK (deckD l m n) kMix (.int z) = deckD l z n := by
  have h : ((deckD l m n).any fun kv => decide (kv.1 = kMix)) = true := by rw [valV_any, deck_mix]; rfl
  unfold putK
  rw [if_pos h]
  have h2 : ¬ kDraw = kMix := fun e => kMD e.symm
  simp [deckD, kLM, h2]
theorem put_draw (z : Int) : putK (deckD l m n) kDraw (.int z) = deckD l m z := by
  have h : ((deckD l m n).any fun kv => decide (kv.1 = kDraw)) = true := by rw [valV_any, deck_draw]; rfl
  unfold putK
  rw [if_pos h]
  simp [deckD, kLD, kMD]
end
theorem merge_deck (l : Addr) (m n : Int) : mergeK [] (deckD l m n) = deckD l m n := by
  have e1 : putK ([] : List (Key × V)) kLeft (.ref l) = [(kLeft, .ref l)] := putK_new _ rfl
  have e2 : putK [(kLeft, V.ref l)] kMix (.int m) = [(kLeft, V.ref l), (kMix, .int m)] := putK_new _ (valV_neg kLM)
  have e3 : putK [(kLeft, V.ref l), (kMix, V.int m)] kDraw (.int n) = deckD l m n := putK_new _ ((valV_neg kLD).trans (valV_neg kMD))
  show putK (putK (putK [] kLeft (.ref l)) kMix (.int m)) kDraw (.int n) = _
  rw [e1, e2, e3]
theorem deck_sz (l : Addr) (m n : Int) : (deckD l m n).length < sizeLine := small1000 (by show 3 ≤ 1000; decide)
section
variable {H : Hp} {d l : Addr} {m n : Int}
theorem get_left (h : H d = some (.dK (deckD l m n))) : DGet H d (kV kLeft) (some (.ref l)) := deck_left l m n ▸ DGet.k h
theorem get_mix (h : H d = some (.dK (deckD l m n))) : DGet H d (kV kMix) (some (.int m)) := deck_mix l m n ▸ DGet.k h
theorem get_draw (h : H d = some (.dK (deckD l m n))) : DGet H d (kV kDraw) (some (.int n)) := deck_draw l m n ▸ DGet.k h
theorem set_mix (h : H d = some (.dK (deckD l m n))) (z : Int) : DPut H d (kV kMix) (.int z) (upd H d (.dK (deckD l z n))) := put_mix l m n z ▸ DPut.k h (deck_sz l m n)
theorem set_draw (h : H d = some (.dK (deckD l m n))) (z : Int) : DPut H d (kV kDraw) (.int z) (upd H d (.dK (deckD l m z))) := put_draw l m n z ▸ DPut.k h (deck_sz l m n)
end
structure DeckAt (H : Hp) (d l : Addr) : Prop where
  ex : ∃ (m n : Int) (ns : List Int), H d = some (.dK (deckD l m n)) ∧ H l = some (.lst (ns.map V.int)) ∧ ns.length ≤ 63
theorem DeckAt.ne {H : Hp} {d l : Addr} (D : DeckAt H d l) : d ≠ l := by
  obtain ⟨m, n, ns, h1, h2, _⟩ := D.ex
  exact ne_of h1 h2 (by intro z; cases z)
theorem DeckAt.kp {ms : List Addr} {H H1 : Hp} {d l : Addr} (D : DeckAt H d l) (k : Kp ms H H1) (nd : d ∉ ms) (nl : l ∉ ms) : DeckAt H1 d l := by
  obtain ⟨m, n, ns, h1, h2, h3⟩ := D.ex
  exact ⟨m, n, ns, k.at_ _ _ h1 nd, k.at_ _ _ h2 nl, h3⟩
def spDraw : Sp := fun vs H Q _ => ∃ (d l : Addr) (many : Int), vs = [.ref d, .int many] ∧ DeckAt H d l ∧ 0 < many ∧ many < 1073741824 ∧
  ∀ (r : Int) (H' : Hp), 0 ≤ r → r < many → DeckAt H' d l → Kp [d, l] H H' → Q (.int r) H'
section
variable {P : Program} {w : World} {K : PySem.W.Frag} {mg : Str → Option Value} {base : Heap}
theorem scDraw : FnScope ["_law_deck_here", "_law_many", "_law_cell", "_law_figure"] ["_law_deck_here", "_law_many"] (defScope sDraw) := ⟨rfl, rfl, rfl, by decide +kernel, rfl, by decide +kernel, by decide +kernel⟩
theorem fmod_lt {i j : Int} (h : 0 < j) : 0 ≤ i.fmod j ∧ i.fmod j < j := ⟨Int.fmod_nonneg_of_pos _ h, Int.fmod_lt_of_pos _ h⟩
theorem fdiv_ne : (2147483647 : Int) ≠ 0 := by decide
theorem lt64 {i : Int} (h0 : 0 ≤ i) (h1 : i < 2147483647) : -(2 ^ 64) < i ∧ i < 2 ^ 64 := by
  constructor
  · exact Int.lt_of_lt_of_le (by decide) h0
  · exact Int.lt_trans h1 (by decide)
theorem eqv_nil (ns : List Int) : PyData.eqv (.list (ns.map PyData.int)) (.list []) = ns.isEmpty := by
  cases ns <;> rfl
theorem dp_ints {K : PySem.W.Frag} {H : Hp} : ∀ ns : List Int, DpAll K H (ns.map V.int) (ns.map PyData.int)
  | [] => .nil
  | n :: r => .cons (.int n) (dp_ints r)
theorem lay_ints : ∀ ns : List Int, PyData.canLayAll0 (ns.map PyData.int) = true ∧ PyData.depthAll (ns.map PyData.int) = 0
  | [] => ⟨rfl, rfl⟩
  | n :: r => by
    obtain ⟨a, b⟩ := lay_ints r
    refine ⟨?_, ?_⟩
    · show (PyData.canLay0 (.int n) && PyData.canLayAll0 (r.map PyData.int)) = true
      rw [a]
      rfl
    · show max 0 (PyData.depthAll (r.map PyData.int)) = 0
      rw [b]
      rfl
theorem shaped_ints (ns : List Int) : SeqAt.shaped (.list (ns.map PyData.int)) = true := by
  obtain ⟨a, b⟩ := lay_ints ns
  show (PyData.canLayAll0 (ns.map PyData.int) && decide (PyData.depthAll (ns.map PyData.int) + 1 ≤ 64)) = true
  rw [a, b]
  rfl
theorem ok_draw {f : Addr} {fd : FuncData} (F : Fun K "_law_draw" "_law_draw" sDraw f fd) (B : BI mg) : FnOk P w K mg base CX0 1 f fd ["_law_deck_here", "_law_many"] spDraw := by
  refine F.ok scDraw (fun vs H Q E h => ?_) (fun cdv A outer s H vs Q E hr h => ?_)
  · obtain ⟨d, l, many, rfl, _⟩ := h
    rfl
  · obtain ⟨d, l, many, rfl, D, m0, m1, k⟩ := h
    have hu := hu_of hr
    have mne : many ≠ 0 := by omega
    -- the tail: figure, figure, figure, return
    obtain ⟨tt, dt, rt⟩ : ∃ tt, PSs (cxOf CX0 P w K mg base ["_law_deck_here", "_law_many", "_law_cell", "_law_figure"] "_law_draw" (defScope sDraw) f cdv A outer s H E).nox ((defBody sDraw).drop 2) tt ∧
        ∀ (H2 : Hp) (y : Option V), DeckAt H2 d l → Kp [d, l] H H2 → tt { nx := fun _ H' => Q .non H', rt := Q } [some (.ref d), some (.int many), y, none] H2 := by
      refine ⟨_, pss_cons (ps_set (i := 3) scDraw.nd rfl (.inl rfl) (pe_op op_modN (pe_callTy call_int1 (by rfl) B.int (by decide +kernel) (pa_cons (pe_op op_add (pe_dget hu (pv 0) pe_str (fun _ _ => rfl)) (pe_op op_mul pe_int (pe_dget hu (pv 0) pe_str (fun _ _ => rfl)))) pa_nil)) pe_int))
        (pss_cons (ps_set (i := 3) scDraw.nd rfl (.inl rfl) (pe_op op_modN (pe_callTy call_int1 (by rfl) B.int (by decide +kernel) (pa_cons (pe_op op_add (pe_op op_add (pe_op op_mul (pv 3) (pv 3)) (pe_op op_mul pe_int (pe_dget hu (pv 0) pe_str (fun _ _ => rfl)))) pe_int) pa_nil)) pe_int))
        (pss_cons (ps_set (i := 3) scDraw.nd rfl (.inl rfl) (pe_op op_modN (pe_callTy call_int1 (by rfl) B.int (by decide +kernel) (pa_cons (pe_op op_add (pe_op op_mul (pv 3) pe_int) pe_int) pa_nil)) pe_int))
        (pss_one (ps_ret (pe_op op_modN (pe_callTy call_int1 (by rfl) B.int (by decide +kernel) (pa_cons (pe_op op_fdivN (pv 3) pe_int) pa_nil)) (pv 1)))))), fun H2 y D2 k2 => ?_⟩
      obtain ⟨m, n, ns, hd, hl, hn⟩ := id D2
      refine ⟨_, rfl, d, _, rfl, get_mix hd, _, rfl, d, _, rfl, get_draw hd, _, _, rfl, rfl, .inl ⟨by decide, by decide⟩, _, _, rfl, rfl, .inl ⟨_, rfl, ?_⟩⟩
      refine ⟨_, _, rfl, rfl, (by decide : (2147483647 : Int) ≠ 0), ?_⟩
      have b1 := fmod_lt (i := m + 31337 * n) (j := 2147483647) (by decide)
      refine ⟨_, rfl, _, rfl, _, _, rfl, rfl, .inl (lt64 b1.1 b1.2), _, rfl, d, _, rfl, get_draw hd, _, _, rfl, rfl, .inl ⟨by decide, by decide⟩, _, _, rfl, rfl, _, _, rfl, rfl, .inl ⟨_, rfl, ?_⟩⟩
      refine ⟨_, _, rfl, rfl, (by decide : (2147483629 : Int) ≠ 0), ?_⟩
      have b2 := fmod_lt (i := (m + 31337 * n).fmod 2147483647 * (m + 31337 * n).fmod 2147483647 + 48271 * n + 47) (j := 2147483629) (by decide)
      refine ⟨_, rfl, _, _, rfl, rfl, .inl (lt64 b2.1 (Int.lt_trans b2.2 (by decide : (2147483629 : Int) < 2147483647))), _, _, rfl, rfl, .inl ⟨_, rfl, ?_⟩⟩
      refine ⟨_, _, rfl, rfl, (by decide : (2147483563 : Int) ≠ 0), ?_⟩
      refine ⟨_, rfl, _, _, rfl, rfl, (⟨by decide, by decide⟩ : (64 : Int) ≠ 0 ∧ (64 : Int).natAbs < 1073741824), .inl ⟨_, rfl, _, rfl, _, _, rfl, rfl, mne, ?_⟩⟩
      have b3 := fun i : Int => fmod_lt (i := i) m0
      exact k _ H2 (b3 _).1 (b3 _).2 D2 k2
    refine ⟨_, pss_cons (ps_dput hu (pv 0) pe_str (pe_op op_add (pe_dget hu (pv 0) pe_str (fun _ _ => rfl)) pe_int) rfl)
      (pss_cons (ps_if (pt_cmpR (op_neD hr.units) (pe_dget hu (pv 0) pe_str (fun _ _ => rfl)) (pe_lst pa_nil) (nomark _))
        (pss_cons (ps_set (i := 2) scDraw.nd rfl (.inl rfl) (pe_bm0 PySem.F.plainAttrs_list PySem.F.slot_list_pop PySem.F.type_list_pop mt_pop (pe_dget hu (pv 0) pe_str (fun _ _ => rfl))))
        (pss_cons (ps_if (pt_cmpR op_ge (pv 2) (pe_op op_pow pe_int pe_int) (nomark _))
          (pss_cons (ps_expr (pe_bm PySem.F.plainAttrs_list PySem.F.slot_list_append PySem.F.type_list_append mt_append (pe_dget hu (pv 0) pe_str (fun _ _ => rfl))
            (pa_cons (pe_op op_fdivN (pv 2) (pe_callB (call_max2 rfl) (by rfl) B.max (by decide +kernel) (pa_cons pe_int (pa_cons (pv 1) pa_nil)))) pa_nil)))
          (pss_one (ps_ret (pe_op op_modN (pe_callTy call_int1 (by rfl) B.int (by decide +kernel) (pa_cons (pv 2) pa_nil)) (pv 1))))) pss_nil)
        (pss_one (ps_dput hu (pv 0) pe_str (pe_op op_modN (pe_callTy call_int1 (by rfl) B.int (by decide +kernel) (pa_cons (pe_op op_add (pe_op op_add (pe_op op_mul (pe_dget hu (pv 0) pe_str (fun _ _ => rfl)) pe_int)
          (pe_op op_modN (pe_callTy call_int1 (by rfl) B.int (by decide +kernel) (pa_cons (pv 2) pa_nil)) pe_int)) pe_int) pa_nil)) pe_int) rfl)))) pss_nil)
      dt), ?_⟩
    obtain ⟨m, n, ns, hd, hl, hn⟩ := D.ex
    have ndl := D.ne
    -- deck['draws'] = deck['draws'] + 1
    refine ⟨_, rfl, d, _, rfl, get_draw hd, _, _, rfl, rfl, _, rfl, d, _, rfl, set_draw hd _, ?_⟩
    have kd : Kp [d, l] H (upd H d (.dK (deckD l m (n + 1)))) := .put (by simp) hd (fun xs z => by cases z)
    have hd1 : (upd H d (.dK (deckD l m (n + 1)))) d = some (.dK (deckD l m (n + 1))) := upd_same
    have hl1 : (upd H d (.dK (deckD l m (n + 1)))) l = some (.lst (ns.map V.int)) := by rw [upd_ne ndl.symm]; exact hl
    generalize upd H d (.dK (deckD l m (n + 1))) = H1 at kd hd1 hl1
    -- if deck['left'] != []
    refine ⟨_, rfl, d, _, rfl, get_left hd1, Nat.zero_le _, fun p np => ⟨.list (ns.map PyData.int), .list [], .lst (sql_of (by rw [upd_ne (ne_of_none hl1 np)]; exact hl1)) (dp_ints ns), .lst (sql_of upd_same) .nil, shaped_ints ns, rfl, ?_⟩⟩
    rw [eqv_nil]
    have kp : Kp [d, l] H (upd H1 p (.lst [])) := kd.trans (.new np)
    have hd2 : (upd H1 p (.lst [])) d = some (.dK (deckD l m (n + 1))) := by rw [upd_ne (ne_of_none hd1 np)]; exact hd1
    have hl2 : (upd H1 p (.lst [])) l = some (.lst (ns.map V.int)) := by rw [upd_ne (ne_of_none hl1 np)]; exact hl1
    generalize upd H1 p (.lst []) = H2 at kp hd2 hl2
    refine ⟨_, rfl, ?_⟩
    cases e : ns.isEmpty with
    | true =>
      refine iteF ?_
      exact rt H2 _ ⟨_, _, _, hd2, hl2, hn⟩ kp
    | false =>
      refine iteT ?_
      -- cell = deck['left'].pop()
      obtain ⟨ini, z, rfl⟩ : ∃ ini z, ns = ini ++ [z] := by
        refine ⟨ns.dropLast, ns.getLast (fun q => by rw [q] at e; cases e), (List.dropLast_concat_getLast _).symm⟩
      have lst : ((ini ++ [z]).map V.int)[((ini ++ [z]).map V.int).length - 1]? = some (.int z) := by
        rw [List.map_append, List.length_append]
        show (ini.map V.int ++ [V.int z])[(ini.map V.int).length + 1 - 1]? = _
        rw [Nat.add_sub_cancel, List.getElem?_append_right (Nat.le_refl _), Nat.sub_self]
        rfl
      have dr : ((ini ++ [z]).map V.int).dropLast = ini.map V.int := by
        rw [List.map_append]
        exact List.dropLast_concat
      rw [List.length_append] at hn
      have hn' : ini.length + 1 ≤ 63 := hn
      refine ⟨_, rfl, d, _, rfl, get_left hd2, .inl ⟨rfl, _, sql_of hl2⟩, l, _, _, rfl, rfl, hl2, lst, ?_⟩
      rw [dr]
      have k3 : Kp [d, l] H (upd H2 l (.lst (ini.map V.int))) := kp.trans (.put (by simp) hl2 (fun xs z => by cases z))
      have hd3 : (upd H2 l (.lst (ini.map V.int))) d = some (.dK (deckD l m (n + 1))) := by rw [upd_ne ndl]; exact hd2
      have hl3 : (upd H2 l (.lst (ini.map V.int))) l = some (.lst (ini.map V.int)) := upd_same
      generalize upd H2 l (.lst (ini.map V.int)) = H3 at k3 hd3 hl3
      -- if cell >= 10 ** 18
      refine ⟨_, rfl, _, _, rfl, rfl, (⟨by decide, by decide, by decide⟩ : (0 : Int) ≤ 18 ∧ (18 : Int) ≤ 1000000 ∧ (10 : Int).natAbs < 2 ^ 64), _, _, rfl, rfl, _, rfl, ite2 (fun _ => ?_) (fun _ => ?_)⟩
      · -- append, return
        refine ⟨_, rfl, d, _, rfl, get_left hd3, .inl ⟨rfl, _, sql_of hl3⟩, _, rfl, _, rfl, _, _, rfl, _, _, rfl, rfl, ?_, ?_⟩
        · show (if many > 2 then many else 2) ≠ 0 ∧ (if many > 2 then many else 2).natAbs < 1073741824
          split <;> omega
        · refine ⟨l, _, _, rfl, rfl, hl3, ?_, ?_⟩
          · rw [List.length_map]
            exact small1000 (by omega)
          · refine ⟨_, rfl, .inl ⟨_, rfl, _, rfl, _, _, rfl, rfl, mne, ?_⟩⟩
            have b3 := fun i : Int => fmod_lt (i := i) m0
            refine k _ _ (b3 _).1 (b3 _).2 ⟨m, n + 1, ini ++ [z.fdiv (if many > 2 then many else 2)], ?_, ?_, ?_⟩ (k3.trans (.put (by simp) hl3 (fun xs z => by cases z)))
            · rw [upd_ne ndl]
              exact hd3
            · rw [upd_same, List.map_append]
              rfl
            · rw [List.length_append]
              show ini.length + 1 ≤ 63
              omega
      · refine ⟨_, rfl, d, _, rfl, get_mix hd3, _, _, rfl, rfl, .inr ⟨by decide, by decide⟩, _, rfl, .inl ⟨_, rfl, _, _, rfl, rfl, (by decide : (2147483629 : Int) ≠ 0), _, _, rfl, rfl, _, _, rfl, rfl, .inl ⟨_, rfl, ?_⟩⟩⟩
        refine ⟨_, _, rfl, rfl, (by decide : (2147483587 : Int) ≠ 0), _, rfl, d, _, rfl, set_mix hd3 _, ?_⟩
        refine rt _ _ ⟨_, _, ini, upd_same, ?_, by omega⟩ (k3.trans (.put (by simp) hd3 (fun xs z => by cases z)))
        rw [upd_ne ndl.symm]
        exact hl3
theorem cut63 (xs : List V) (h : xs.length ≤ 63) : cutV xs none (some 63) = xs := by
  unfold cutV
  rw [HT.sIx_none, show HT.sIx xs.length xs.length (some 63) = min 63 xs.length from HT.sIx_nat _ _ 63, Nat.min_eq_right h]
  show List.take xs.length xs = xs
  exact List.take_length
theorem scDeck : FnScope ["_law_script", "_law_seed", "_law_mixed", "_law_cell"] ["_law_script", "_law_seed"] (defScope sDeck) := ⟨rfl, rfl, rfl, by decide +kernel, rfl, by decide +kernel, by decide +kernel⟩
def spDeck (K : PySem.W.Frag) : Sp := fun vs H Q _ => ∃ (a : Addr) (ns : List Int) (seed : Int), vs = [.ref a, .int seed] ∧ SqL K H a (ns.map V.int) ∧ ns.length ≤ 63 ∧
  ∀ (d l : Addr) (H' : Hp), DeckAt H' d l → Kp [] H H' → H d = none → H l = none → Q (.ref d) H'
theorem ok_deck {f : Addr} {fd : FuncData} (F : Fun K "_law_deck" "_law_deck" sDeck f fd) (B : BI mg) : FnOk P w K mg base CX0 1 f fd ["_law_script", "_law_seed"] (spDeck K) := by
  refine F.ok scDeck (fun vs H Q E h => ?_) (fun cdv A outer s H vs Q E hr h => ?_)
  · obtain ⟨a, ns, seed, rfl, _⟩ := h
    rfl
  · obtain ⟨a, ns, seed, rfl, hS, hn, k⟩ := h
    refine ⟨_, pss_cons (ps_set (i := 2) scDeck.nd rfl (.inl rfl) (pv 1))
      (pss_cons (ps_for PassesOwn.never rfl (pi_list (pe_slice sl_list (pv 0) po_none (po_some pe_int))) (pg_name (i := 3) scDeck.nd rfl (.inl rfl))
        (pss_one (ps_set (i := 2) scDeck.nd rfl (.inl rfl) (pe_op op_modN (pe_callTy call_int1 (by rfl) B.int (by decide +kernel) (pa_cons (pe_op op_add (pe_op op_add (pe_op op_mul (pv 2) pe_int)
          (pe_op op_modN (pe_callTy call_int1 (by rfl) B.int (by decide +kernel) (pa_cons (pv 3) pa_nil)) pe_int)) pe_int) pa_nil)) pe_int))))
      (pss_one (ps_ret (pe_disp (pps_cons pe_str (pe_revL (pe_callTy call_list_of (by rfl) B.list (by decide +kernel) (pa_cons (pe_slice sl_list (pv 0) po_none (po_some pe_int)) pa_nil)))
        (pps_cons pe_str (pv 2) (pps_cons pe_str pe_int pps_nil))) (by rfl) (by rfl) (fun z => by cases z) (by decide))))), ?_⟩
    have hl63 : (ns.map V.int).length ≤ 63 := by rw [List.length_map]; exact hn
    refine ⟨_, rfl, _, rfl, 63, rfl, a, ns.map V.int, rfl, hS, fun c nc => ?_⟩
    rw [cut63 _ hl63]
    have k0 : Kp [] H (upd H c (.lst (ns.map V.int))) := .new nc
    refine ⟨c, rfl, ⟨_, sql_of upd_same⟩, for_list (K := K) (a := c) (xs := ns.map V.int) (fun i σ H2 => ∃ (m : Int) (y : Option V), σ = [some (.ref a), some (.int seed), some (.int m), y] ∧ Kp [] H H2 ∧ SqL K H2 c (ns.map V.int))
      ⟨seed, none, rfl, k0, sql_of upd_same⟩ (fun i σ H2 _ ⟨_, _, _, _, q⟩ => q) ?_ ?_⟩
    · rintro i x σ H2 hi ⟨m, y, rfl, k2, hc⟩
      obtain ⟨z, rfl⟩ : ∃ z, x = V.int z := by
        rw [List.getElem?_map] at hi
        obtain ⟨z, _, e⟩ := Option.map_eq_some_iff.mp hi
        exact ⟨z, e.symm⟩
      refine ⟨_, rfl, _, _, rfl, rfl, .inr ⟨by decide, by decide⟩, _, rfl, .inl ⟨_, rfl, _, _, rfl, rfl, (by decide : (2147483629 : Int) ≠ 0), _, _, rfl, rfl, _, _, rfl, rfl, .inl ⟨_, rfl, ?_⟩⟩⟩
      exact ⟨_, _, rfl, rfl, (by decide : (2147483563 : Int) ≠ 0), _, _, rfl, k2, hc⟩
    · rintro σ H2 ⟨m, y, rfl, k2, hc⟩
      intro d nd
      have kd : Kp [] H2 (upd H2 d (.dK [])) := .new nd
      have hdd : (upd H2 d (.dK [])) d = some (.dK []) := upd_same
      generalize upd H2 d (.dK []) = H3 at kd hdd
      have hS3 : SqL K H3 a (ns.map V.int) := (k2.trans kd).lst List.not_mem_nil hS
      refine ⟨_, rfl, 63, rfl, a, ns.map V.int, rfl, hS3, fun e ne => ?_⟩
      rw [cut63 _ hl63]
      refine ⟨e, _, rfl, .inl (sql_of upd_same), fun g ng => ?_⟩
      refine ⟨g, _, rfl, sql_of upd_same, fun l nl => ?_⟩
      have k5 : Kp [] H3 (upd (upd (upd H3 e (.lst (ns.map V.int))) g (.lst (ns.map V.int))) l (.lst (ns.map V.int).reverse)) := (Kp.new ne).trans ((Kp.new ng).trans (Kp.new nl))
      have hl5 : (upd (upd (upd H3 e (.lst (ns.map V.int))) g (.lst (ns.map V.int))) l (.lst (ns.map V.int).reverse)) l = some (.lst (ns.map V.int).reverse) := upd_same
      have nl3 : H3 l = none := ((Kp.new (ms := []) ne).trans (Kp.new ng)).free nl List.not_mem_nil
      generalize upd (upd (upd H3 e (.lst (ns.map V.int))) g (.lst (ns.map V.int))) l (.lst (ns.map V.int).reverse) = H4 at k5 hl5
      have hd4 : H4 d = some (.dK []) := k5.at_ _ _ hdd List.not_mem_nil
      refine ⟨_, rfl, hd4, deckD l m 0, rfl, by show 3 ≤ 15; decide, ?_⟩
      rw [merge_deck]
      have ndl : d ≠ l := ne_of hd4 hl5 (by intro z; cases z)
      refine k d l _ ⟨m, 0, ns.reverse, upd_same, ?_, by rw [List.length_reverse]; exact hn⟩ ?_ (k2.free nd List.not_mem_nil) ((k2.trans kd).free nl3 List.not_mem_nil)
      · rw [upd_ne ndl.symm, hl5, List.map_reverse]
      · refine ⟨fun b o e1 _ => ?_, fun b xs e1 => ?_⟩
        · have nb : b ≠ d := ne_of_none e1 (k2.free nd List.not_mem_nil)
          rw [upd_ne nb]
          exact k5.at_ _ _ (kd.at_ _ _ (k2.at_ _ _ e1 List.not_mem_nil) List.not_mem_nil) List.not_mem_nil
        · have nb : b ≠ d := ne_of_none e1 (k2.free nd List.not_mem_nil)
          rw [upd_ne nb]
          exact k5.tup _ _ (kd.tup _ _ (k2.tup _ _ e1))
theorem scPick : FnScope ["_law_deck_here", "_law_some"] ["_law_deck_here", "_law_some"] (defScope sPick) := ⟨rfl, rfl, rfl, by decide +kernel, rfl, by decide +kernel, by decide +kernel⟩
def spPick (K : PySem.W.Frag) : Sp := fun vs H Q _ => ∃ (d l a : Addr) (xs : List V), vs = [.ref d, .ref a] ∧ DeckAt H d l ∧ SqL K H a xs ∧ xs ≠ [] ∧ xs.length ≤ 1000 ∧ a ≠ d ∧ a ≠ l ∧
  ∀ (x : V) (H' : Hp), x ∈ xs → DeckAt H' d l → Kp [d, l] H H' → Q x H'
/-- a def of the module, as callers need it -/
structure Df (K : PySem.W.Frag) (mg : Str → Option Value) (x : Str) (st : Stmt) (ps : List Str) (f : Addr) (fd : FuncData) : Prop where
  F : Fun K x x st f fd
  b : Binds K fd ps []
  g : mg x = some (.ref f)
theorem ok_pick {f fD : Addr} {fd fdD : FuncData} (F : Fun K "_law_pick" "_law_pick" sPick f fd) (B : BI mg) (D : Df K mg "_law_draw" sDraw ["_law_deck_here", "_law_many"] fD fdD) : FnOk P w K mg base CX0 2 f fd ["_law_deck_here", "_law_some"] (spPick K) := by
  refine F.ok scPick (fun vs H Q E h => ?_) (fun cdv A outer s H vs Q E hr h => ?_)
  · obtain ⟨d, l, a, xs, rfl, _⟩ := h
    rfl
  · obtain ⟨d, l, a, xs, rfl, DA, hS, hne, hlen, had, hal, k⟩ := h
    refine ⟨_, pss_one (ps_ret (pe_ix ix_list (pv 1) (pe_call (ok_draw D.F B) hr (by rfl) D.g D.F.kp D.b .nil pass0 (pa_cons (pv 0) (pa_cons (pe_callB call_len_seq (by rfl) B.len PySem.boot_len (pa_cons (pv 1) pa_nil)) pa_nil))) (fun _ _ => rfl))), ?_⟩
    have hpos : 0 < xs.length := List.length_pos_iff.mpr hne
    refine ⟨_, rfl, _, rfl, _, rfl, a, xs, rfl, .inl hS, d, l, _, rfl, DA, by omega, by omega, fun r H' r0 r1 D' kp => ?_⟩
    have hn : a ∉ [d, l] := by simp [had, hal]
    obtain ⟨i, rfl⟩ : ∃ i : Nat, r = (i : Int) := ⟨r.toNat, by omega⟩
    have hi : i < xs.length := by omega
    refine ⟨a, xs, _, xs[i], rfl, rfl, kp.lst hn hS, ?_, ?_⟩
    · exact atI_nat (List.getElem?_eq_getElem hi)
    · exact k _ H' (List.getElem_mem hi) D' kp
end
end Ey
set_option maxHeartbeats 4000000
namespace Ey
open PySem PySem.Spec L2
abbrev sTags : Stmt := topS 25
abbrev sTree : Stmt := topS 26
abbrev sChain : Stmt := topS 27
abbrev sLPlaces : Stmt := topS 24
def tagL : List Str := ["a", "jkqvwz", "c", "if", "else", "abcdefgh", "z", "has", "yes", "and"]
theorem tagL_ok : ∀ g ∈ tagL, isTag g = true := by decide +kernel
/-- a def without parameters, as callers need it -/
structure Facts (K : PySem.W.Frag) (mg : Str → Option Value) (fD fP fT : Addr) (dD dP dT : FuncData) : Prop where
  B : BI mg
  draw : Df K mg "_law_draw" sDraw ["_law_deck_here", "_law_many"] fD dD
  pick : Df K mg "_law_pick" sPick ["_law_deck_here", "_law_some"] fP dP
  tags : Df K mg "_law_tags" sTags [] fT dT
section
variable {P : Program} {w : World} {K : PySem.W.Frag} {mg : Str → Option Value} {base : Heap}
theorem scTags : FnScope [] [] (defScope sTags) := ⟨rfl, rfl, rfl, by decide +kernel, rfl, by decide +kernel, by decide +kernel⟩
def spTags : Sp := fun vs H Q _ => vs = [] ∧ ∀ p, H p = none → Q (.ref p) (upd H p (.lst (tagL.map V.str)))
theorem ok_tags {f : Addr} {fd : FuncData} (F : Fun K "_law_tags" "_law_tags" sTags f fd) : FnOk P w K mg base CX0 1 f fd [] spTags := by
  refine F.ok scTags (fun vs H Q E h => ?_) (fun cdv A outer s H vs Q E hr h => ?_)
  · obtain ⟨rfl, _⟩ := h
    rfl
  · obtain ⟨rfl, k⟩ := h
    refine ⟨_, pss_one (ps_ret (pe_lst (pa_cons pe_str (pa_cons pe_str (pa_cons pe_str (pa_cons pe_str (pa_cons pe_str (pa_cons pe_str (pa_cons pe_str (pa_cons pe_str (pa_cons pe_str (pa_cons pe_str pa_nil)))))))))))), ?_⟩
    exact ⟨by show 10 ≤ sizeLine; decide, fun p np => k p np⟩
/-! ### drawn trees -/
def boxD (n : Nat) : List (Key × V) := [(kLeft, .int n)]
def BoxAt (H : Hp) (b : Addr) (n : Nat) : Prop := H b = some (.dK (boxD n))
theorem put_box (n : Nat) (z : Int) : putK (boxD n) kLeft (.int z) = [(kLeft, .int z)] := by
  unfold putK
  rw [if_pos (by rw [valV_any, show valV (boxD n) kLeft = some (.int n) from valV_pos rfl]; rfl)]
  simp [boxD]
theorem get_box {H : Hp} {b : Addr} {n : Nat} (h : BoxAt H b n) : DGet H b (kV kLeft) (some (.int n)) := (show valV (boxD n) kLeft = some (.int n) from valV_pos rfl) ▸ DGet.k h
theorem set_box {H : Hp} {b : Addr} {n m : Nat} {z : Int} (h : BoxAt H b n) (e : z = (m : Int)) : DPut H b (kV kLeft) (.int z) (upd H b (.dK (boxD m))) := by
  have q := DPut.k (k := kLeft) (v := .int z) h (small1000 (show 1 ≤ 1000 by decide))
  rw [put_box, e] at q
  rw [e]
  exact q
theorem BoxAt.ned {H : Hp} {b d l : Addr} {n : Nat} (h : BoxAt H b n) (D : DeckAt H d l) : b ≠ d ∧ b ≠ l := by
  obtain ⟨m, k, ns, h1, h2, _⟩ := D.ex
  exact ⟨ne_of h h1 (by intro z; injection z with z; injection z with _ z; cases z), ne_of h h2 (by intro z; cases z)⟩
theorem BoxAt.kp {ms : List Addr} {H H1 : Hp} {b : Addr} {n : Nat} (h : BoxAt H b n) (k : Kp ms H H1) (nb : b ∉ ms) : BoxAt H1 b n := k.at_ _ _ h nb
def spTree (deep : Nat) : Sp := fun vs H Q _ => ∃ (d l b : Addr) (n : Nat), vs = [.ref d, .ref b, .int deep] ∧ DeckAt H d l ∧ BoxAt H b n ∧
  ∀ (v : V) (t : Tr) (m : Nat) (H' : Hp), TreeAt H' v t → t.ok → t.sz + m ≤ n → t.ht ≤ deep → BoxAt H' b m → DeckAt H' d l → Kp [d, l, b] H H' → Q v H'
theorem scTree : FnScope ["_law_deck_here", "_law_box", "_law_deep", "_law_tag", "_law_first", "_law_one", "_law_other"] ["_law_deck_here", "_law_box", "_law_deep"] (defScope sTree) := ⟨rfl, rfl, rfl, by decide +kernel, rfl, by decide +kernel, by decide +kernel⟩
variable {fD fP fT : Addr} {dD dP dT : FuncData}
theorem sub3 {d l b : Addr} : ∀ x ∈ [d, l], x ∈ [d, l, b] := by simp
theorem ok_tree {f : Addr} {fd : FuncData} (Fa : Facts K mg fD fP fT dD dP dT) (Ft : Df K mg "_law_drawn_tree" sTree ["_law_deck_here", "_law_box", "_law_deep"] f fd) :
    ∀ deep : Nat, FnOk P w K mg base CX0 (deep + 3) f fd ["_law_deck_here", "_law_box", "_law_deep"] (spTree deep)
  | 0 => by
    refine Ft.F.ok scTree (fun vs H Q E h => ?_) (fun cdv A outer s H vs Q E hr h => ?_)
    · obtain ⟨d, l, b, n, rfl, _⟩ := h
      rfl
    · obtain ⟨d, l, b, n, rfl, D, hb, k⟩ := h
      have hu := hu_of hr
      refine ⟨_, pss_cons (ps_if (PW.pt (pw_or (pt_cmpR op_eq (pe_dget hu (pv 1) pe_str (fun _ _ => rfl)) pe_int (nomark _)) (pw_or (pt_cmpR op_eq (pv 2) pe_int (nomark _)) (pw_or1
          (pt_cmpR op_lt (pe_call (ok_draw Fa.draw.F Fa.B) (hr.mono (by decide)) (by rfl) Fa.draw.g Fa.draw.F.kp Fa.draw.b .nil pass0 (pa_cons (pv 0) (pa_cons pe_int pa_nil))) pe_int (nomark _)))))) (pss_one (ps_ret pe_non)) pss_nil)
        (pss_cons ps_never (pss_cons ps_never (pss_cons ps_never (pss_cons ps_never (pss_one ps_never))))), ?_⟩
      have fin : Q .non H := k .non .nil n H .nil trivial (by simp [Tr.sz]) (Nat.le_refl _) hb D .refl
      refine ⟨_, rfl, b, _, rfl, get_box hb, rfl, _, rfl, ite2 (fun _ => iteT fin) (fun _ => ?_)⟩
      refine ⟨_, rfl, rfl, _, rfl, ite2 (fun _ => iteT fin) (fun q => ?_)⟩
      exact absurd (decide_eq_true rfl) q
  | deep + 1 => by
    have ih := ok_tree Fa Ft deep
    refine Ft.F.ok scTree (fun vs H Q E h => ?_) (fun cdv A outer s H vs Q E hr h => ?_)
    · obtain ⟨d, l, b, n, rfl, _⟩ := h
      rfl
    · obtain ⟨d, l, b, n, rfl, D, hb, k⟩ := h
      have hu := hu_of hr
      have hr1 := hr.mono (show 1 ≤ deep + 3 by omega)
      have hr2 := hr.mono (show 2 ≤ deep + 3 by omega)
      refine ⟨_, pss_cons (ps_if (PW.pt (pw_or (pt_cmpR op_eq (pe_dget hu (pv 1) pe_str (fun _ _ => rfl)) pe_int (nomark _)) (pw_or (pt_cmpR op_eq (pv 2) pe_int (nomark _)) (pw_or1
          (pt_cmpR op_lt (pe_call (ok_draw Fa.draw.F Fa.B) hr1 (by rfl) Fa.draw.g Fa.draw.F.kp Fa.draw.b .nil pass0 (pa_cons (pv 0) (pa_cons pe_int pa_nil))) pe_int (nomark _)))))) (pss_one (ps_ret pe_non)) pss_nil)
        (pss_cons (ps_dput hu (pv 1) pe_str (pe_op op_sub (pe_dget hu (pv 1) pe_str (fun _ _ => rfl)) pe_int) rfl)
        (pss_cons (ps_par (i := 3) (j := 4) (by rfl) scTree.nd rfl rfl (by decide) rfl rfl
          (pa_cons (pe_call (ok_pick Fa.pick.F Fa.B Fa.draw) hr2 (by rfl) Fa.pick.g Fa.pick.F.kp Fa.pick.b .nil pass0 (pa_cons (pv 0) (pa_cons (pe_call0 (ok_tags Fa.tags.F) hr1 (by rfl) Fa.tags.g Fa.tags.F.kp Fa.tags.b .nil pass0) pa_nil)))
          (pa_cons (pe_cmpR op_eq (pe_call (ok_draw Fa.draw.F Fa.B) hr1 (by rfl) Fa.draw.g Fa.draw.F.kp Fa.draw.b .nil pass0 (pa_cons (pv 0) (pa_cons pe_int pa_nil))) pe_int (nomark _)) pa_nil)) (by rfl))
        (pss_cons (ps_set (i := 5) scTree.nd rfl (.inl rfl) (pe_call ih hr (by rfl) Ft.g Ft.F.kp Ft.b .nil pass0 (pa_cons (pv 0) (pa_cons (pv 1) (pa_cons (pe_op op_sub (pv 2) pe_int) pa_nil)))))
        (pss_cons (ps_set (i := 6) scTree.nd rfl (.inl rfl) (pe_call ih hr (by rfl) Ft.g Ft.F.kp Ft.b .nil pass0 (pa_cons (pv 0) (pa_cons (pv 1) (pa_cons (pe_op op_sub (pv 2) pe_int) pa_nil)))))
        (pss_one (ps_ret (pe_ifExp (pt_val (pv 4)) (pe_tup (pa_cons (pv 3) (pa_cons (pv 5) (pa_cons (pv 6) pa_nil)))) (pe_tup (pa_cons (pv 3) (pa_cons (pv 6) (pa_cons (pv 5) pa_nil))))))))))), ?_⟩
      -- the first test
      refine ⟨_, rfl, b, _, rfl, get_box hb, rfl, _, rfl, ite2 (fun _ => iteT (k .non .nil n H .nil trivial (by simp [Tr.sz]) (Nat.zero_le _) hb D .refl)) (fun q0 => ?_)⟩
      have hn : n ≠ 0 := fun e => q0 (decide_eq_true (by rw [e]; rfl))
      refine ⟨_, rfl, rfl, _, rfl, ite2 (fun q => ?_) (fun _ => ?_)⟩
      · have := V.int.inj (of_decide_eq_true q)
        omega
      refine ⟨_, rfl, d, l, 7, rfl, D, by decide, by decide, fun r H1 r0 r1 D1 k1 => ⟨_, _, rfl, rfl, _, rfl, ?_⟩⟩
      have hbd := hb.ned D
      have hb1 : BoxAt H1 b n := hb.kp k1 (by simp [hbd.1, hbd.2])
      have k1' : Kp [d, l, b] H H1 := k1.more sub3
      refine ite2 (fun _ => ?_) (fun _ => ?_)
      · exact k .non .nil n H1 .nil trivial (by simp [Tr.sz]) (Nat.zero_le _) hb1 D1 k1'
      -- box['left'] = box['left'] - 1
      obtain ⟨m, rfl⟩ : ∃ m, n = m + 1 := ⟨n - 1, by omega⟩
      refine ⟨_, rfl, b, _, rfl, get_box hb1, _, _, rfl, rfl, _, rfl, b, _, rfl, set_box (m := m) hb1 (by omega), ?_⟩
      have hb2 : BoxAt (upd H1 b (.dK (boxD m))) b m := upd_same
      have D2 : DeckAt (upd H1 b (.dK (boxD m))) d l := D1.kp (ms := [b]) (.put (by simp) hb1 (fun xs z => by cases z)) (by simp [hbd.1.symm]) (by simp [hbd.2.symm])
      have k2 : Kp [d, l, b] H (upd H1 b (.dK (boxD m))) := k1'.trans (.put (by simp) hb1 (fun xs z => by cases z))
      generalize upd H1 b (.dK (boxD m)) = H2 at hb2 D2 k2
      -- tag, first
      refine ⟨_, rfl, rfl, fun p np => ?_⟩
      obtain ⟨m1, n1, ns, e1, e2, e3⟩ := id D2
      have D3 : DeckAt (upd H2 p (.lst (tagL.map V.str))) d l := D2.kp (.new np) (ms := []) List.not_mem_nil List.not_mem_nil
      refine ⟨d, l, p, _, rfl, D3, sql_of upd_same, by decide, by show 10 ≤ 1000; decide, (ne_of_none e1 np).symm, (ne_of_none e2 np).symm, fun x H4 hx D4 k4 => ?_⟩
      obtain ⟨g, hg, rfl⟩ := List.mem_map.mp hx
      have k4' : Kp [d, l, b] H H4 := k2.trans ((Kp.new np).trans (k4.more sub3))
      refine ⟨_, rfl, d, l, 2, rfl, D4, by decide, by decide, fun r' H5 _ _ D5 k5 => ⟨rfl, _, _, rfl, ?_⟩⟩
      have k5' : Kp [d, l, b] H H5 := k4'.trans (k5.more sub3)
      have hb5 : BoxAt H5 b m := by
        refine (((hb2.kp (.new np) (ms := []) List.not_mem_nil).kp k4 ?_).kp k5 ?_) <;> simp [hbd.1, hbd.2]
      -- one, other
      refine ⟨_, rfl, _, rfl, _, rfl, _, _, rfl, rfl, d, l, b, m, by simp, D5, hb5, fun v1 t1 m1' H6 T1 o1 s1 h1 hb6 D6 k6 => ?_⟩
      refine ⟨_, rfl, _, rfl, _, rfl, _, _, rfl, rfl, d, l, b, m1', by simp, D6, hb6, fun v2 t2 m2' H7 T2 o2 s2 h2 hb7 D7 k7 => ?_⟩
      have T1' : TreeAt H7 v1 t1 := T1.kp k7
      have k7' : Kp [d, l, b] H H7 := k5'.trans (k6.trans k7)
      refine ⟨_, rfl, _, rfl, ite2 (fun _ => ?_) (fun _ => ?_)⟩
      · refine ⟨_, rfl, _, rfl, _, rfl, by show 3 ≤ sizeLine; decide, fun q nq => ?_⟩
        have kq : Kp [d, l, b] H7 (upd H7 q (.tup [.str g, v1, v2])) := .new nq
        refine k _ (.nd g t1 t2) m2' _ (.nd upd_same (T1'.kp kq) (T2.kp kq)) ⟨tagL_ok g hg, o1, o2⟩ (by simp only [Tr.sz]; omega) (by simp only [Tr.ht]; omega) ?_ ?_ (k7'.trans kq)
        · exact hb7.kp (.new nq) (ms := []) List.not_mem_nil
        · exact D7.kp (.new nq) (ms := []) List.not_mem_nil List.not_mem_nil
      · refine ⟨_, rfl, _, rfl, _, rfl, by show 3 ≤ sizeLine; decide, fun q nq => ?_⟩
        have kq : Kp [d, l, b] H7 (upd H7 q (.tup [.str g, v2, v1])) := .new nq
        refine k _ (.nd g t2 t1) m2' _ (.nd upd_same (T2.kp kq) (T1'.kp kq)) ⟨tagL_ok g hg, o2, o1⟩ (by simp only [Tr.sz]; omega) (by simp only [Tr.ht]; omega) ?_ ?_ (k7'.trans kq)
        · exact hb7.kp (.new nq) (ms := []) List.not_mem_nil
        · exact D7.kp (.new nq) (ms := []) List.not_mem_nil List.not_mem_nil
end
end Ey
set_option maxHeartbeats 4000000
namespace Ey
open PySem PySem.Spec L2
theorem s_l : (Str.ofString "l") = st [108] := by decide +kernel
theorem s_r : (Str.ofString "r") = st [114] := by decide +kernel
theorem s_e : (Str.ofString "") = st [] := by decide +kernel
theorem cut_last (p : List Nat) : cutS (st p) none (some (-1)) = st p.dropLast := by
  unfold cutS
  rw [HT.sIx_none]
  have e : HT.sIx (st p).length (st p).length (some (-1)) = p.length - 1 := by
    show (if (-1 : Int) < 0 then (-1 + ((st p).length : Int)).toNat else min (-1 : Int).toNat (st p).length) = p.length - 1
    rw [if_pos (by decide), st_len]
    omega
  rw [e, st_list, List.dropLast_eq_take]
  rfl
theorem cut_to (p : List Nat) (n : Nat) : cutS (st p) none (some (n : Int)) = st (p.take n) := by
  unfold cutS
  rw [HT.sIx_none, HT.sIx_nat, st_list, st_len]
  show st (List.take (min n p.length - 0) p) = _
  congr 1
  rw [Nat.sub_zero, ← List.take_take, List.take_length]
section
variable {P : Program} {w : World} {K : PySem.W.Frag} {mg : Str → Option Value} {base : Heap} {fD fP fT : Addr} {dD dP dT : FuncData}
/-! ### chains -/
theorem scChain : FnScope ["_law_deck_here", "_law_many", "_law_tree", "_law_turn", "_law_tag"] ["_law_deck_here", "_law_many"] (defScope sChain) := ⟨rfl, rfl, rfl, by decide +kernel, rfl, by decide +kernel, by decide +kernel⟩
def spChain : Sp := fun vs H Q _ => ∃ (d l : Addr) (many : Nat), vs = [.ref d, .int many] ∧ DeckAt H d l ∧ many ≤ 100 ∧
  ∀ (v : V) (t : Tr) (H' : Hp), TreeAt H' v t → t.ok → t.sz ≤ many → DeckAt H' d l → Kp [d, l] H H' → Q v H'
theorem ok_chain {f : Addr} {fd : FuncData} (Fa : Facts K mg fD fP fT dD dP dT) (F : Fun K "_law_chain" "_law_chain" sChain f fd) : FnOk P w K mg base CX0 3 f fd ["_law_deck_here", "_law_many"] spChain := by
  refine F.ok scChain (fun vs H Q E h => ?_) (fun cdv A outer s H vs Q E hr h => ?_)
  · obtain ⟨d, l, many, rfl, _⟩ := h
    rfl
  · obtain ⟨d, l, many, rfl, D, hm, k⟩ := h
    have hr1 := hr.mono (show 1 ≤ 2 by decide)
    refine ⟨_, pss_cons (ps_set (i := 2) scChain.nd rfl (.inl rfl) pe_non)
      (pss_cons (ps_for PassesOwn.never rfl (pi_range1 (by rfl) Fa.B.range (pa_cons (pv 1) pa_nil)) (pg_name (i := 3) scChain.nd rfl (.inl rfl))
        (pss_cons (ps_set (i := 4) scChain.nd rfl (.inl rfl) (pe_call (ok_pick Fa.pick.F Fa.B Fa.draw) hr (by rfl) Fa.pick.g Fa.pick.F.kp Fa.pick.b .nil pass0 (pa_cons (pv 0) (pa_cons (pe_call0 (ok_tags Fa.tags.F) hr1 (by rfl) Fa.tags.g Fa.tags.F.kp Fa.tags.b .nil pass0) pa_nil))))
        (pss_one (ps_set (i := 2) scChain.nd rfl (.inl rfl) (pe_ifExp (pt_cmpR op_eq (pe_call (ok_draw Fa.draw.F Fa.B) hr1 (by rfl) Fa.draw.g Fa.draw.F.kp Fa.draw.b .nil pass0 (pa_cons (pv 0) (pa_cons pe_int pa_nil))) pe_int (nomark _))
          (pe_tup (pa_cons (pv 4) (pa_cons (pv 2) (pa_cons pe_non pa_nil)))) (pe_tup (pa_cons (pv 4) (pa_cons pe_non (pa_cons (pv 2) pa_nil)))))))))
      (pss_one (ps_ret (pv 2)))), ?_⟩
    refine ⟨_, rfl, many, rfl, by omega, by omega, ?_⟩
    rw [Int.toNat_natCast]
    refine for_range (lo := 0) (n := many) (fun i σ H2 => ∃ (v : V) (t : Tr) (y z : Option V), σ = [some (.ref d), some (.int many), some v, y, z] ∧ TreeAt H2 v t ∧ t.ok ∧ t.sz ≤ i ∧ DeckAt H2 d l ∧ Kp [d, l] H H2)
      ⟨.non, .nil, none, none, rfl, .nil, trivial, Nat.le_refl _, D, .refl⟩ ?_ ?_
    · rintro i σ H2 hi ⟨v, t, y, z, rfl, T, o, sz, D2, k2⟩
      refine ⟨_, rfl, rfl, fun p np => ?_⟩
      obtain ⟨m1, n1, ns, e1, e2, e3⟩ := id D2
      have D3 : DeckAt (upd H2 p (.lst (tagL.map V.str))) d l := D2.kp (.new np) (ms := []) List.not_mem_nil List.not_mem_nil
      refine ⟨d, l, p, _, rfl, D3, sql_of upd_same, by decide, by show 10 ≤ 1000; decide, (ne_of_none e1 np).symm, (ne_of_none e2 np).symm, fun x H4 hx D4 k4 => ?_⟩
      obtain ⟨g, hg, rfl⟩ := List.mem_map.mp hx
      refine ⟨_, rfl, d, l, 2, rfl, D4, by decide, by decide, fun r' H5 _ _ D5 k5 => ⟨rfl, _, rfl, ?_⟩⟩
      have k5' : Kp [d, l] H2 H5 := (Kp.new np).trans (k4.trans k5)
      have T5 := T.kp k5'
      refine ite2 (fun _ => ?_) (fun _ => ?_)
      · refine ⟨_, rfl, _, rfl, by show 3 ≤ sizeLine; decide, fun q nq => ?_⟩
        have kq : Kp [d, l] H5 (upd H5 q (.tup [.str g, v, .non])) := .new nq
        exact ⟨_, .nd g t .nil, _, _, rfl, .nd upd_same (T5.kp kq) .nil, ⟨tagL_ok g hg, o, trivial⟩, by simp only [Tr.sz]; omega, D5.kp (.new nq) (ms := []) List.not_mem_nil List.not_mem_nil, k2.trans (k5'.trans kq)⟩
      · refine ⟨_, rfl, _, rfl, by show 3 ≤ sizeLine; decide, fun q nq => ?_⟩
        have kq : Kp [d, l] H5 (upd H5 q (.tup [.str g, .non, v])) := .new nq
        exact ⟨_, .nd g .nil t, _, _, rfl, .nd upd_same .nil (T5.kp kq), ⟨tagL_ok g hg, trivial, o⟩, by simp only [Tr.sz]; omega, D5.kp (.new nq) (ms := []) List.not_mem_nil List.not_mem_nil, k2.trans (k5'.trans kq)⟩
    · rintro σ H2 ⟨v, t, y, z, rfl, T, o, sz, D2, k2⟩
      exact ⟨_, rfl, k v t H2 T o sz D2 k2⟩
/-! ### places by recursion -/
theorem scLPlaces : FnScope ["_law_tree", "_law_ahead"] ["_law_tree", "_law_ahead"] (defScope sLPlaces) := ⟨rfl, rfl, rfl, by decide +kernel, rfl, by decide +kernel, by decide +kernel⟩
def plV (a : List Nat) (t : Tr) : List V := (pl t).map fun q => V.str (st (a ++ q))
theorem plV_nil (a : List Nat) : plV a .nil = [V.str (st a)] := by
  show [V.str (st (a ++ []))] = _
  rw [List.append_nil]
theorem plV_nd (a : List Nat) (g : Str) (l r : Tr) : plV a (.nd g l r) = V.str (st a) :: (plV (a ++ [108]) l ++ plV (a ++ [114]) r) := by
  simp [plV, pl]
  rfl
theorem plV_len (a : List Nat) (t : Tr) : (plV a t).length = 2 * t.sz + 1 := by rw [plV, List.length_map, pl_len]
def spLPlaces (n : Nat) : Sp := fun vs H Q _ => ∃ (v : V) (t : Tr) (a : List Nat), vs = [v, .str (st a)] ∧ TreeAt H v t ∧ t.ht ≤ n ∧ t.sz ≤ 20000 ∧ a.length + n ≤ 1000 ∧
  ∀ (p : Addr) (H' : Hp), Kp [] H H' → H p = none → H' p = some (.lst (plV a t)) → Q (.ref p) H'
theorem ok_lplaces {f : Addr} {fd : FuncData} (Df0 : Df K mg "_law_places" sLPlaces ["_law_tree", "_law_ahead"] f fd) : ∀ n : Nat, FnOk P w K mg base CX0 (n + 1) f fd ["_law_tree", "_law_ahead"] (spLPlaces n)
  | 0 => by
    refine Df0.F.ok scLPlaces (fun vs H Q E h => ?_) (fun cdv A outer s H vs Q E hr h => ?_)
    · obtain ⟨v, t, a, rfl, _⟩ := h
      rfl
    · obtain ⟨v, t, a, rfl, T, ht, _, _, k⟩ := h
      refine ⟨_, pss_cons (ps_if (pt_cmpR op_isN (pv 0) pe_non (nomark _)) (pss_one (ps_ret (pe_lst (pa_cons (pv 1) pa_nil)))) pss_nil) (pss_one ps_never), ?_⟩
      cases T with
      | nd e _ _ => simp [Tr.ht] at ht
      | nil =>
        refine ⟨_, rfl, rfl, _, rfl, iteT ?_⟩
        refine ⟨_, rfl, by show 1 ≤ sizeLine; decide, fun p np => ?_⟩
        exact k p _ (.new np) np (by rw [upd_same, plV_nil])
  | n + 1 => by
    have ih := ok_lplaces Df0 n
    refine Df0.F.ok scLPlaces (fun vs H Q E h => ?_) (fun cdv A outer s H vs Q E hr h => ?_)
    · obtain ⟨v, t, a, rfl, _⟩ := h
      rfl
    · obtain ⟨v, t, a, rfl, T, ht, sz, al, k⟩ := h
      refine ⟨_, pss_cons (ps_if (pt_cmpR op_isN (pv 0) pe_non (nomark _)) (pss_one (ps_ret (pe_lst (pa_cons (pv 1) pa_nil)))) pss_nil)
        (pss_one (ps_ret (pe_op op_cat (pe_op op_cat (pe_lst (pa_cons (pv 1) pa_nil))
          (pe_call ih hr (by rfl) Df0.g Df0.F.kp Df0.b .nil pass0 (pa_cons (pe_ix ix_tup (pv 0) pe_int (fun _ _ => rfl)) (pa_cons (pe_op op_add_str (pv 1) pe_str) pa_nil))))
          (pe_call ih hr (by rfl) Df0.g Df0.F.kp Df0.b .nil pass0 (pa_cons (pe_ix ix_tup (pv 0) pe_int (fun _ _ => rfl)) (pa_cons (pe_op op_add_str (pv 1) pe_str) pa_nil)))))), ?_⟩
      cases T with
      | nil =>
        refine ⟨_, rfl, rfl, _, rfl, iteT ?_⟩
        refine ⟨_, rfl, by show 1 ≤ sizeLine; decide, fun p np => ?_⟩
        exact k p _ (.new np) np (by rw [upd_same, plV_nil])
      | @nd x g tl tr v1 v2 e T1 T2 =>
        simp only [Tr.ht] at ht
        simp only [Tr.sz] at sz
        refine ⟨_, rfl, rfl, _, rfl, iteF ?_⟩
        refine ⟨_, rfl, by show 1 ≤ sizeLine; decide, fun p np => ?_⟩
        have kp : Kp [] H (upd H p (.lst [V.str (st a)])) := .new np
        have hp : (upd H p (.lst [V.str (st a)])) p = some (.lst [V.str (st a)]) := upd_same
        generalize upd H p (.lst [V.str (st a)]) = H1 at kp hp
        refine ⟨_, rfl, x, _, _, _, rfl, rfl, sqt_of (kp.tup _ _ e), atI_nat (j := 1) rfl, _, rfl, _, _, rfl, rfl, ?_, ?_⟩
        · rw [st_len]
          show a.length + 1 ≤ sizeLine
          exact Nat.le_of_lt (small1000 (by omega))
        rw [s_l, st_app]
        refine ⟨v1, tl, a ++ [108], rfl, T1.kp kp, by omega, by omega, by rw [List.length_append]; show a.length + 1 + n ≤ 1000; omega, fun p1 H2 k2 n1 e1 => ?_⟩
        refine ⟨p, p1, _, _, rfl, rfl, k2.at_ _ _ hp List.not_mem_nil, e1, ?_, fun p2 n2 => ?_⟩
        · rw [plV_len]
          show 1 + _ ≤ sizeLine
          exact Nat.le_trans (show 1 + (2 * tl.sz + 1) ≤ 100000 by omega) (by decide)
        have k3 : Kp [] H (upd H2 p2 (.lst ([V.str (st a)] ++ plV (a ++ [108]) tl))) := kp.trans (k2.trans (.new n2))
        have hp2 : (upd H2 p2 (.lst ([V.str (st a)] ++ plV (a ++ [108]) tl))) p2 = some (.lst ([V.str (st a)] ++ plV (a ++ [108]) tl)) := upd_same
        generalize upd H2 p2 (.lst ([V.str (st a)] ++ plV (a ++ [108]) tl)) = H3 at k3 hp2
        refine ⟨_, rfl, x, _, _, _, rfl, rfl, sqt_of (k3.tup _ _ e), atI_nat (j := 2) rfl, _, rfl, _, _, rfl, rfl, ?_, ?_⟩
        · rw [st_len]
          show a.length + 1 ≤ sizeLine
          exact Nat.le_of_lt (small1000 (by omega))
        rw [s_r, st_app]
        refine ⟨v2, tr, a ++ [114], rfl, T2.kp k3, by omega, by omega, by rw [List.length_append]; show a.length + 1 + n ≤ 1000; omega, fun p4 H4 k4 n4 e4 => ?_⟩
        refine ⟨p2, p4, _, _, rfl, rfl, k4.at_ _ _ hp2 List.not_mem_nil, e4, ?_, fun p5 n5 => ?_⟩
        · rw [List.length_append, plV_len, plV_len]
          show 1 + _ + _ ≤ sizeLine
          exact Nat.le_trans (show 1 + (2 * tl.sz + 1) + (2 * tr.sz + 1) ≤ 100000 by omega) (by decide)
        have k5 : Kp [] H (upd H4 p5 (.lst ([V.str (st a)] ++ plV (a ++ [108]) tl ++ plV (a ++ [114]) tr))) := k3.trans (k4.trans (.new n5))
        refine k p5 _ k5 ((k3.trans k4).free n5 List.not_mem_nil) ?_
        rw [upd_same, plV_nd]
        rfl
end
end Ey
set_option maxHeartbeats 4000000
namespace Ey
open PySem PySem.Spec L2
abbrev sIsTag : Stmt := topS 7
abbrev sIsTree : Stmt := topS 8
abbrev sCheck : Stmt := topS 9
abbrev sStand : Stmt := topS 10
abbrev sPlaces : Stmt := topS 11
abbrev sHas : Stmt := topS 12
/-- H' is H but for the table at P -/
abbrev Tb (P : Addr) (H H' : Hp) : Prop := GxR.Tabbed P H H'
theorem tb_refl {P : Addr} {H : Hp} (h : GxR.TabG H P) : Tb P H H := ⟨h, fun _ _ => rfl⟩
theorem tb_trans {P : Addr} {H H1 H2 : Hp} (a : Tb P H H1) (b : Tb P H1 H2) : Tb P H H2 := ⟨b.1, fun c n => (b.2 c n).trans (a.2 c n)⟩
theorem tb_kp {P : Addr} {H H1 : Hp} (g : GxR.TabG H P) (a : Tb P H H1) : Kp [P] H H1 := by
  refine ⟨fun b o e n => ?_, fun b xs e => ?_⟩
  · rw [a.2 b (fun q => n (by rw [q]; simp))]
    exact e
  · rw [a.2 b (fun q => ?_)]
    · exact e
    · obtain ⟨ps, h, _⟩ := g
      rw [q, h] at e
      cases e
section
variable {Pr : Program} {w : World} {K : PySem.W.Frag} {mg : Str → Option Value} {base : Heap}
def spTag (P : Addr) : Sp := fun vs H Q _ => ∃ g : Str, vs = [.str g] ∧ g.length ≤ sizeLine ∧ GxR.TabG H P ∧ ∀ H', Tb P H H' → Q (.bl (isTag g)) H'
theorem scTag : FnScope ["thing"] ["thing"] (defScope sIsTag) := ⟨rfl, rfl, rfl, by decide +kernel, rfl, by decide +kernel, by decide +kernel⟩
theorem abc_is : (Str.ofString "abcdefghijklmnopqrstuvwxyz").cps.toList = abc := by decide +kernel
/-- a def whose code object stands at c, its table at P -/
structure DfT (K : PySem.W.Frag) (mg : Str → Option Value) (x : Str) (st : Stmt) (ps : List Str) (f : Addr) (fd : FuncData) (c : Addr) : Prop extends Df K mg x st ps f fd where
  ex : ∃ (oc : Value) (od : Option Addr) (kV doc pm : Value) (an : Option Addr) (ct : Value) (osl : Array (Option Value)),
    fd = PySem.W.fnOf x x (defArgs st) (defBody st) (defScope st) .none kV doc pm an (.ref c) ct ∧ K.lookup f = some ⟨oc, od, .func fd, osl⟩ ∧ PySem.W.codeIn K (.ref c) x = true
theorem ok_tag {f c P : Addr} {fd : FuncData} {tL tT : Tok} (D : DfT K mg "is_tag" sIsTag ["thing"] f fd c) (B : BI mg) (TB : GxR.TabB base mg c P) (M : base.Ns mainGlobals mg)
    (mL : mg "LETTERS" = some (.str "abcdefghijklmnopqrstuvwxyz" tL)) (mT : mg "TAG_LENGTH" = some (.int 8 tT)) : FnOk Pr w K mg base CX0 1 f fd ["thing"] (spTag P) := by
  obtain ⟨oc, od, kV, doc, pm, an, ct, osl, rfl, lk, code⟩ := D.ex
  refine fn_of lk code scTag (fun vs H Q E h => ?_) (fun A outer s H vs Q E hr h => ?_)
  · obtain ⟨g, rfl, _⟩ := h
    rfl
  · obtain ⟨g, rfl, hg, hT, k⟩ := h
    refine ⟨_, pss_one (ps_ret (pe_and (pe_callB call_isi (by rfl) B.isi (by decide +kernel) (pa_cons (pv 0) (pa_cons (pe_bltn (v := .ty "str") (by rfl) B.str (by decide +kernel) rfl) pa_nil)))
      (pe_and (pe_chain op_le op_le pe_int (pe_callB call_len_str (by rfl) B.len PySem.boot_len (pa_cons (pv 0) pa_nil)) (pe_glob (v := .int 8) (by rfl) mT ⟨_, rfl⟩))
        (pe_one (pe_allG (P := P) (c := c) hr (by rfl) B.all (by decide +kernel) TB rfl ⟨rfl, rfl, by decide +kernel, rfl, rfl, (by intro y hy e; exfalso; revert y; decide +kernel)⟩ (pv 0) (elt_inG rfl rfl rfl rfl M mL) (fun _ => rfl)))))), ?_⟩
    refine ⟨_, rfl, .str g, .ty "str", .type "str", .type "str", true, rfl, .ty "str", .base (.str g), kit_ty (by decide +kernel), true, rfl, iteT ?_⟩
    have fin : ∀ b, isTag g = b → Q (.bl b) H := fun b e => by
      rw [← e]
      exact k H (tb_refl hT)
    refine ⟨_, rfl, _, rfl, hg, _, _, rfl, rfl, _, rfl, ?_⟩
    by_cases h1 : 1 ≤ g.length
    · rw [decide_eq_true (show (1 : Int) ≤ (g.length : Int) by omega)]
      refine iteT ⟨_, _, rfl, rfl, _, rfl, ?_⟩
      by_cases h2 : g.length ≤ 8
      · rw [decide_eq_true (show (g.length : Int) ≤ 8 by omega)]
        refine iteT ⟨_, rfl, g, rfl, hT, fun H2 h => ?_⟩
        have q := k H2 h
        rw [isTag, decide_eq_true h1, decide_eq_true h2] at q
        rw [abc_is]
        exact q
      · rw [decide_eq_false (show ¬ (g.length : Int) ≤ 8 by omega)]
        refine iteF (fin _ ?_)
        rw [isTag, decide_eq_false h2, Bool.and_false]
        rfl
    · rw [decide_eq_false (show ¬ (1 : Int) ≤ (g.length : Int) by omega)]
      refine iteF ⟨_, rfl, iteF (fin _ ?_)⟩
      rw [isTag, decide_eq_false h1]
      rfl
end
end Ey
set_option maxHeartbeats 4000000
namespace Ey
open PySem PySem.Spec L2
/-! ### a list of one's own as a pile, its top first -/
theorem pile_top (x : V) (us : List V) : ((x :: us).reverse)[(x :: us).reverse.length - 1]? = some x := by
  rw [List.reverse_cons, List.length_append]
  show (us.reverse ++ [x])[us.reverse.length + 1 - 1]? = some x
  rw [Nat.add_sub_cancel, List.getElem?_append_right (Nat.le_refl _), Nat.sub_self]
  rfl
theorem pile_pop (x : V) (us : List V) : ((x :: us).reverse).dropLast = us.reverse := by
  rw [List.reverse_cons]
  exact List.dropLast_concat
theorem pile_push (x : V) (us : List V) : us.reverse ++ [x] = (x :: us).reverse := (List.reverse_cons).symm
theorem Kp.own {ms : List Addr} {H H1 : Hp} {p : Addr} {o : HO} (k : Kp ms H H1) (n : H p = none) : Kp ms H (upd H1 p o) :=
  ⟨fun b u e h => by rw [upd_ne (ne_of_none e n)]; exact k.at_ b u e h, fun b xs e => by rw [upd_ne (ne_of_none e n)]; exact k.tup b xs e⟩
theorem tabg_kp {ms : List Addr} {H H1 : Hp} {P : Addr} (g : GxR.TabG H P) (k : Kp ms H H1) (n : P ∉ ms) : GxR.TabG H1 P := by
  obtain ⟨ps, h, t⟩ := g
  exact ⟨ps, k.at_ _ _ h n, t⟩
theorem tabg_upd {H : Hp} {P p : Addr} {o : HO} (g : GxR.TabG H P) (n : P ≠ p) : GxR.TabG (upd H p o) P := by
  obtain ⟨ps, h, t⟩ := g
  exact ⟨ps, by rw [upd_ne n]; exact h, t⟩
/-- what a pile of trees weighs -/
def wt : List Tr → Nat
  | [] => 0
  | t :: r => 2 * t.sz + 1 + wt r
inductive PileAt (H : Hp) : List V → List Tr → Prop where
  | nil : PileAt H [] []
  | cons {v : V} {t : Tr} {us : List V} {ts : List Tr} : TreeAt H v t → t.ok → PileAt H us ts → PileAt H (v :: us) (t :: ts)
theorem PileAt.kp {ms : List Addr} {H H1 : Hp} {us : List V} {ts : List Tr} (k : Kp ms H H1) (h : PileAt H us ts) : PileAt H1 us ts := by
  induction h with
  | nil => exact .nil
  | cons a b _ ih => exact .cons (a.kp k) b ih
theorem PileAt.len {H : Hp} {us : List V} {ts : List Tr} (h : PileAt H us ts) : us.length ≤ wt ts := by
  induction h with
  | nil => exact Nat.le_refl _
  | cons a b _ ih =>
    simp only [List.length_cons, wt]
    omega
section
variable {Pr : Program} {w : World} {K : PySem.W.Frag} {mg : Str → Option Value} {base : Heap}
/-- what the program's defs lean on -/
structure PF (K : PySem.W.Frag) (mg : Str → Option Value) (fT cT : Addr) (dT : FuncData) : Prop where
  B : BI mg
  tag : DfT K mg "is_tag" sIsTag ["thing"] fT dT cT
  lett : ∃ t, mg "LETTERS" = some (.str "abcdefghijklmnopqrstuvwxyz" t)
  tlen : ∃ t, mg "TAG_LENGTH" = some (.int 8 t)
/-- what holds of the base -/
structure BF (base : Heap) (mg : Str → Option Value) (c P : Addr) : Prop where
  TB : GxR.TabB base mg c P
  M : base.Ns mainGlobals mg
variable {fT cT P : Addr} {dT : FuncData}
theorem go_tag (A : PF K mg fT cT dT) (b : BF base mg cT P) : FnOk Pr w K mg base CX0 1 fT dT ["thing"] (spTag P) := by
  obtain ⟨t1, h1⟩ := A.lett
  obtain ⟨t2, h2⟩ := A.tlen
  exact ok_tag A.tag A.B b.TB b.M h1 h2
theorem scIsTree : FnScope ["thing", "waiting", "part"] ["thing"] (defScope sIsTree) := ⟨rfl, rfl, rfl, by decide +kernel, rfl, by decide +kernel, by decide +kernel⟩
def spIsTree (P : Addr) : Sp := fun vs H Q _ => ∃ (v : V) (t : Tr), vs = [v] ∧ TreeAt H v t ∧ t.ok ∧ t.sz ≤ 1000 ∧ GxR.TabG H P ∧
  ∀ H', GxR.TabG H' P → Kp [P] H H' → Q (.bl true) H'
theorem ok_isTree {f : Addr} {fd : FuncData} (F : Fun K "is_tree" "is_tree" sIsTree f fd) (A : PF K mg fT cT dT) (b : BF base mg cT P) : FnOk Pr w K mg base CX0 2 f fd ["thing"] (spIsTree P) := by
  refine F.ok scIsTree (fun vs H Q E h => ?_) (fun cdv Ar outer s H vs Q E hr h => ?_)
  · obtain ⟨v, t, rfl, _⟩ := h
    rfl
  · obtain ⟨v, t, rfl, T, ok, sz, g, k⟩ := h
    refine ⟨_, pss_cons (ps_set (i := 1) scIsTree.nd rfl (.inl rfl) (pe_lst (pa_cons (pv 0) pa_nil)))
      (pss_cons (ps_while PassesOwn.never (pt_truth (pv 1) (by intro _; rfl))
        (pss_cons (ps_set (i := 2) scIsTree.nd rfl (.inl rfl) (pe_bm0 PySem.F.plainAttrs_list PySem.F.slot_list_pop PySem.F.type_list_pop mt_pop (pv 1)))
        (pss_cons (ps_if (pt_cmpR op_isN (pv 2) pe_non (nomark _)) (pss_one ps_continue) pss_nil)
        (pss_cons (ps_if (PW.pt (pw_or (pt_not (pt_val (pe_callB call_isi (by rfl) A.B.isi (by decide +kernel) (pa_cons (pv 2) (pa_cons (pe_bltn (v := .ty "tuple") (by rfl) A.B.tuple (by decide +kernel) rfl) pa_nil)))))
            (pw_or (pt_cmpR op_ne (pe_callB call_len_seq (by rfl) A.B.len PySem.boot_len (pa_cons (pv 2) pa_nil)) pe_int (nomark _))
            (pw_or1 (pt_not (pt_val (pe_call (go_tag A b) hr (by rfl) A.tag.g A.tag.F.kp A.tag.b .nil pass0 (pa_cons (pe_ix ix_tup (pv 2) pe_int (fun _ _ => rfl)) pa_nil))))))))
          (pss_one (ps_ret pe_bl)) pss_nil)
        (pss_cons (ps_expr (pe_bm PySem.F.plainAttrs_list PySem.F.slot_list_append PySem.F.type_list_append mt_append (pv 1) (pa_cons (pe_ix ix_tup (pv 2) pe_int (fun _ _ => rfl)) pa_nil)))
        (pss_one (ps_expr (pe_bm PySem.F.plainAttrs_list PySem.F.slot_list_append PySem.F.type_list_append mt_append (pv 1) (pa_cons (pe_ix ix_tup (pv 2) pe_int (fun _ _ => rfl)) pa_nil)))))))))
      (pss_one (ps_ret pe_bl))), ?_⟩
    refine ⟨_, rfl, by show 1 ≤ sizeLine; decide, fun wl nw => ?_⟩
    have nPw : P ≠ wl := by
      obtain ⟨ps, e, _⟩ := g
      exact ne_of_none e nw
    refine ⟨fun m σ H2 => ∃ (us : List V) (ts : List Tr) (y : Option V), σ = [some v, some (.ref wl), y] ∧ H2 wl = some (.lst us.reverse) ∧ PileAt H2 us ts ∧ m = wt ts ∧ wt ts ≤ 2001 ∧ GxR.TabG H2 P ∧ Kp [P] H H2,
      ⟨_, [v], [t], none, rfl, upd_same, .cons (T.kp (.new nw) (ms := [])) ok .nil, rfl, by simp only [wt]; omega, tabg_upd g nPw, .new nw⟩, fun m σ H2 hw => ?_⟩
    obtain ⟨us, ts, y, rfl, hl, hp, rfl, hm, g2, k2⟩ := hw
    refine ⟨_, rfl, _, .inl ⟨_, sql_of hl, rfl⟩, ?_⟩
    cases hp with
    | nil =>
      refine iteF ?_
      exact k H2 g2 k2
    | @cons x t1 us ts T1 o1 hp =>
      have e0 : (!((x :: us).reverse).isEmpty) = true := by simp
      rw [e0]
      refine iteT ⟨fun σ' H' => ∃ m', m' < wt (t1 :: ts) ∧ ∃ (us : List V) (ts : List Tr) (y : Option V), σ' = [some v, some (.ref wl), y] ∧ H' wl = some (.lst us.reverse) ∧ PileAt H' us ts ∧ m' = wt ts ∧ wt ts ≤ 2001 ∧ GxR.TabG H' P ∧ Kp [P] H H', fun _ _ h => h, ?_⟩
      -- part = waiting.pop()
      refine ⟨_, rfl, .inl ⟨rfl, _, sql_of hl⟩, wl, _, x, rfl, rfl, hl, pile_top x us, ?_⟩
      rw [pile_pop]
      have k3 : Kp [P] H (upd H2 wl (.lst us.reverse)) := k2.own nw
      have hl3 : (upd H2 wl (.lst us.reverse)) wl = some (.lst us.reverse) := upd_same
      have g3 : GxR.TabG (upd H2 wl (.lst us.reverse)) P := tabg_upd g2 nPw
      have kk : Kp [wl] H2 (upd H2 wl (.lst us.reverse)) := .put (by simp) hl (fun xs z => by cases z)
      have T3 := T1.kp kk
      have hp3 := hp.kp kk
      generalize upd H2 wl (.lst us.reverse) = H3 at k3 hl3 g3 T3 hp3
      simp only [wt] at hm
      cases T3 with
      | nil =>
        refine ⟨_, rfl, rfl, _, rfl, iteT ?_⟩
        exact ⟨_, by simp only [wt]; omega, us, ts, _, rfl, hl3, hp3, rfl, by omega, g3, k3⟩
      | @nd a tg tl tr v1 v2 e T31 T32 =>
        obtain ⟨og, ol, or'⟩ := o1
        simp only [Tr.sz] at hm
        refine ⟨_, rfl, rfl, _, rfl, iteF ?_⟩
        refine ⟨_, rfl, .ref a, .ty "tuple", .type "tuple", .type "tuple", true, rfl, .ty "tuple", .base (.tup e), kit_ty (by decide +kernel), _, rfl, iteF ?_⟩
        refine ⟨_, rfl, a, _, rfl, .inr (sqt_of e), rfl, _, rfl, iteF ?_⟩
        refine ⟨_, rfl, a, _, _, _, rfl, rfl, sqt_of e, atI_nat (j := 0) rfl, tg, rfl, ?_, g3, fun H4 tb4 => ?_⟩
        · exact Nat.le_trans (tag_len og) (by decide)
        rw [og]
        refine ⟨_, rfl, iteF ?_⟩
        have k4 : Kp [P] H3 H4 := tb_kp g3 tb4
        have e4 := k4.tup _ _ e
        have hl4 : H4 wl = some (.lst us.reverse) := k4.at_ _ _ hl3 (by simp [nPw.symm])
        -- append, append
        refine ⟨_, rfl, .inl ⟨rfl, _, sql_of hl4⟩, _, rfl, a, _, _, _, rfl, rfl, sqt_of e4, atI_nat (j := 1) rfl, wl, _, v1, rfl, rfl, hl4, ?_, ?_⟩
        · rw [List.length_reverse]
          have := hp3.len
          exact Nat.lt_of_le_of_lt (show us.length ≤ 2001 by omega) (by decide)
        rw [pile_push]
        have hl5 : (upd H4 wl (.lst (v1 :: us).reverse)) wl = some (.lst (v1 :: us).reverse) := upd_same
        have k5 : Kp [wl] H4 (upd H4 wl (.lst (v1 :: us).reverse)) := .put (by simp) hl4 (fun xs z => by cases z)
        have g5 : GxR.TabG (upd H4 wl (.lst (v1 :: us).reverse)) P := tabg_upd tb4.1 nPw
        have kH5 : Kp [P] H (upd H4 wl (.lst (v1 :: us).reverse)) := (k3.trans k4).own nw
        generalize upd H4 wl (.lst (v1 :: us).reverse) = H5 at hl5 k5 g5 kH5
        refine ⟨_, rfl, .inl ⟨rfl, _, sql_of hl5⟩, _, rfl, a, _, _, _, rfl, rfl, sqt_of (k5.tup _ _ e4), atI_nat (j := 2) rfl, wl, _, v2, rfl, rfl, hl5, ?_, ?_⟩
        · rw [List.length_reverse]
          have := hp3.len
          exact Nat.lt_of_le_of_lt (show us.length + 1 ≤ 2002 by omega) (by decide)
        rw [pile_push]
        have k6 : Kp [wl] H5 (upd H5 wl (.lst (v2 :: v1 :: us).reverse)) := .put (by simp) hl5 (fun xs z => by cases z)
        refine ⟨_, by simp only [wt, Tr.sz]; omega, v2 :: v1 :: us, tr :: tl :: ts, _, rfl, upd_same, .cons (((T32.kp k4).kp k5).kp k6) or' (.cons (((T31.kp k4).kp k5).kp k6) ol (((hp3.kp k4).kp k5).kp k6)), rfl, by simp only [wt]; omega, tabg_upd g5 nPw, kH5.own nw⟩
end
end Ey
set_option maxHeartbeats 4000000
namespace Ey
open PySem PySem.Spec L2
/-! ### what stands where -/
def ps (t : Tr) : List (List Nat × Tr) := (pl t).map fun p => (p, pt t p)
def ahead (a : List Nat) (x : List Nat × Tr) : List Nat × Tr := (a ++ x.1, x.2)
theorem ps_nd (g : Str) (l r : Tr) : ps (.nd g l r) = ([], .nd g l r) :: ((ps l).map (ahead [108]) ++ (ps r).map (ahead [114])) := by
  simp only [ps, pl, List.map_cons, List.map_append, List.map_map]
  congr 1
theorem ps_fst (t : Tr) : (ps t).map (·.1) = pl t := by
  rw [ps, List.map_map]
  exact List.map_id _
theorem ps_len (t : Tr) : (ps t).length = 2 * t.sz + 1 := by rw [ps, List.length_map, pl_len]
/-- what a pile of pairs stands for -/
def flat : List (List Nat × Tr) → List (List Nat × Tr)
  | [] => []
  | (p, t) :: r => (ps t).map (ahead p) ++ flat r
theorem ahead_two (a b : List Nat) : (ahead a ∘ ahead b) = ahead (a ++ b) := by
  funext x
  simp [ahead]
theorem flat_nil (p : List Nat) (r : List (List Nat × Tr)) : flat ((p, .nil) :: r) = (p, .nil) :: flat r := by
  simp [flat, ps, pl, ahead, pt]
theorem flat_nd (p : List Nat) (g : Str) (l t : Tr) (r : List (List Nat × Tr)) : flat ((p, .nd g l t) :: r) = (p, .nd g l t) :: flat ((p ++ [108], l) :: (p ++ [114], t) :: r) := by
  simp only [flat, ps_nd, List.map_cons, List.map_append, List.map_map, ahead_two]
  simp [ahead]
inductive PairsAt (H : Hp) : List V → List (List Nat × Tr) → Prop where
  | nil : PairsAt H [] []
  | cons {a : Addr} {v : V} {p : List Nat} {t : Tr} {us : List V} {qs : List (List Nat × Tr)} : H a = some (.tup [.str (st p), v]) → TreeAt H v t → PairsAt H us qs → PairsAt H (.ref a :: us) ((p, t) :: qs)
theorem PairsAt.kp {ms : List Addr} {H H1 : Hp} {us : List V} {qs : List (List Nat × Tr)} (k : Kp ms H H1) (h : PairsAt H us qs) : PairsAt H1 us qs := by
  induction h with
  | nil => exact .nil
  | cons a b _ ih => exact .cons (k.tup _ _ a) (b.kp k) ih
theorem PairsAt.len {H : Hp} {us : List V} {qs : List (List Nat × Tr)} (h : PairsAt H us qs) : us.length ≤ (flat qs).length := by
  induction h with
  | nil => exact Nat.le_refl _
  | @cons a v p t us qs _ _ _ ih =>
    simp only [List.length_cons, flat, List.length_append, List.length_map, ps_len]
    omega
/-- the entries of a dict, by places and parts -/
inductive KvAt (H : Hp) : List (Key × V) → List (List Nat × Tr) → Prop where
  | nil : KvAt H [] []
  | cons {v : V} {p : List Nat} {t : Tr} {kvs : List (Key × V)} {qs : List (List Nat × Tr)} : TreeAt H v t → KvAt H kvs qs → KvAt H ((.inr (st p), v) :: kvs) ((p, t) :: qs)
theorem KvAt.kp {ms : List Addr} {H H1 : Hp} {kvs : List (Key × V)} {qs : List (List Nat × Tr)} (k : Kp ms H H1) (h : KvAt H kvs qs) : KvAt H1 kvs qs := by
  induction h with
  | nil => exact .nil
  | cons a _ ih => exact .cons (a.kp k) ih
theorem KvAt.snoc {H : Hp} {kvs : List (Key × V)} {qs : List (List Nat × Tr)} {v : V} {p : List Nat} {t : Tr} (h : KvAt H kvs qs) (T : TreeAt H v t) : KvAt H (kvs ++ [(.inr (st p), v)]) (qs ++ [(p, t)]) := by
  induction h with
  | nil => exact .cons T .nil
  | cons a _ ih => exact .cons a ih
theorem KvAt.len {H : Hp} {kvs : List (Key × V)} {qs : List (List Nat × Tr)} (h : KvAt H kvs qs) : kvs.length = qs.length := by
  induction h with
  | nil => rfl
  | cons _ _ ih => simp [ih]
theorem KvAt.keys {H : Hp} {kvs : List (Key × V)} {qs : List (List Nat × Tr)} (h : KvAt H kvs qs) : (kvs.map fun kv => kV kv.1) = qs.map fun q => V.str (st q.1) := by
  induction h with
  | nil => rfl
  | cons _ _ ih => exact congrArg (List.cons _) ih
theorem KvAt.no {H : Hp} {kvs : List (Key × V)} {qs : List (List Nat × Tr)} {p : List Nat} (h : KvAt H kvs qs) (n : p ∉ qs.map (·.1)) : valV kvs (.inr (st p)) = none := by
  induction h with
  | nil => exact valV_nil
  | @cons v q t kvs qs _ _ ih =>
    simp only [List.map_cons, List.mem_cons, not_or] at n
    refine (valV_neg fun e => ?_).trans (ih n.2)
    exact n.1 (st_inj (Sum.inr.inj e)).symm
section
variable {Pr : Program} {w : World} {K : PySem.W.Frag} {mg : Str → Option Value} {base : Heap} {fT cT P : Addr} {dT : FuncData}
/-! ### check_tree -/
theorem scCheck : FnScope ["tree"] ["tree"] (defScope sCheck) := ⟨rfl, rfl, rfl, by decide +kernel, rfl, by decide +kernel, by decide +kernel⟩
def spCheck (P : Addr) : Sp := fun vs H Q _ => ∃ (v : V) (t : Tr), vs = [v] ∧ TreeAt H v t ∧ t.ok ∧ t.sz ≤ 1000 ∧ GxR.TabG H P ∧
  ∀ H', GxR.TabG H' P → Kp [P] H H' → Q .non H'
theorem ok_check {f f1 : Addr} {fd d1 : FuncData} (F : Fun K "check_tree" "check_tree" sCheck f fd) (D1 : Df K mg "is_tree" sIsTree ["thing"] f1 d1) (A : PF K mg fT cT dT) (b : BF base mg cT P) : FnOk Pr w K mg base CX0 3 f fd ["tree"] (spCheck P) := by
  refine F.ok scCheck (fun vs H Q E h => ?_) (fun cdv Ar outer s H vs Q E hr h => ?_)
  · obtain ⟨v, t, rfl, _⟩ := h
    rfl
  · obtain ⟨v, t, rfl, T, ok, sz, g, k⟩ := h
    refine ⟨_, pss_one (ps_if (pt_not (pt_val (pe_call (ok_isTree D1.F A b) hr (by rfl) D1.g D1.F.kp D1.b .nil pass0 (pa_cons (pv 0) pa_nil)))) (pss_one ps_never) pss_nil), ?_⟩
    exact ⟨_, rfl, v, t, rfl, T, ok, sz, g, fun H' g' k' => ⟨true, rfl, iteF (k H' g' k')⟩⟩
/-! ### standing -/
theorem scStand : FnScope ["tree", "found", "waiting", "place", "part"] ["tree"] (defScope sStand) := ⟨rfl, rfl, rfl, by decide +kernel, rfl, by decide +kernel, by decide +kernel⟩
def spStand : Sp := fun vs H Q _ => ∃ (v : V) (t : Tr), vs = [v] ∧ TreeAt H v t ∧ t.sz ≤ 1000 ∧
  ∀ (d : Addr) (kvs : List (Key × V)) (H' : Hp), H d = none → H' d = some (.dK kvs) → KvAt H' kvs (ps t) → Kp [] H H' → Q (.ref d) H'
theorem ok_stand {f : Addr} {fd : FuncData} (F : Fun K "standing" "standing" sStand f fd) : FnOk Pr w K mg base CX0 1 f fd ["tree"] spStand := by
  refine F.ok scStand (fun vs H Q E h => ?_) (fun cdv Ar outer s H vs Q E hr h => ?_)
  · obtain ⟨v, t, rfl, _⟩ := h
    rfl
  · obtain ⟨v, t, rfl, T, sz, k⟩ := h
    have hu := hu_of hr
    refine ⟨_, pss_cons (ps_set (i := 1) scStand.nd rfl (.inl rfl) pe_dnewK)
      (pss_cons (ps_set (i := 2) scStand.nd rfl (.inl rfl) (pe_lst (pa_cons (pe_tup (pa_cons pe_str (pa_cons (pv 0) pa_nil))) pa_nil)))
      (pss_cons (ps_while PassesOwn.never (pt_truth (pv 2) (by intro _; rfl))
        (pss_cons (ps_asg (pe_bm0 PySem.F.plainAttrs_list PySem.F.slot_list_pop PySem.F.type_list_pop mt_pop (pv 2)) (pg_tup (by rfl) (pgs_cons (pg_name (i := 3) scStand.nd rfl (.inl rfl)) (pgs_cons (pg_name (i := 4) scStand.nd rfl (.inl rfl)) pgs_nil))))
        (pss_cons (ps_dput hu (pv 1) (pv 3) (pv 4) rfl)
        (pss_one (ps_if (pt_cmpR op_notN (pv 4) pe_non (nomark _))
          (pss_cons (ps_expr (pe_bm PySem.F.plainAttrs_list PySem.F.slot_list_append PySem.F.type_list_append mt_append (pv 2) (pa_cons (pe_tup (pa_cons (pe_op op_add_str (pv 3) pe_str) (pa_cons (pe_ix ix_tup (pv 4) pe_int (fun _ _ => rfl)) pa_nil))) pa_nil)))
          (pss_one (ps_expr (pe_bm PySem.F.plainAttrs_list PySem.F.slot_list_append PySem.F.type_list_append mt_append (pv 2) (pa_cons (pe_tup (pa_cons (pe_op op_add_str (pv 3) pe_str) (pa_cons (pe_ix ix_tup (pv 4) pe_int (fun _ _ => rfl)) pa_nil))) pa_nil))))) pss_nil)))))
      (pss_one (ps_ret (pv 1))))), ?_⟩
    intro d nd
    have kd : Kp [] H (upd H d (.dK [])) := .new nd
    have hd : (upd H d (.dK [])) d = some (.dK []) := upd_same
    have T0 := T.kp kd
    generalize upd H d (.dK []) = H1 at kd hd T0
    refine ⟨_, rfl, by show 2 ≤ sizeLine; decide, fun a na => ?_⟩
    have ka : Kp [] H1 (upd H1 a (.tup [.str "", v])) := .new na
    have ha : (upd H1 a (.tup [.str "", v])) a = some (.tup [.str "", v]) := upd_same
    have hd1 := ka.at_ _ _ hd List.not_mem_nil
    have T1 := T0.kp ka
    generalize upd H1 a (.tup [.str "", v]) = H2 at ka ha hd1 T1
    refine ⟨by show 1 ≤ sizeLine; decide, fun wl nw => ?_⟩
    have nwH : H wl = none := (kd.trans ka).free nw List.not_mem_nil
    have hdw : d ≠ wl := ne_of_none hd1 nw
    have kw : Kp [] H2 (upd H2 wl (.lst [.ref a])) := .new nw
    refine ⟨fun m σ H3 => ∃ (us : List V) (qs done : List (List Nat × Tr)) (kvs : List (Key × V)) (y z : Option V), σ = [some v, some (.ref d), some (.ref wl), y, z] ∧ H3 d = some (.dK kvs) ∧ H3 wl = some (.lst us.reverse) ∧ PairsAt H3 us qs ∧ KvAt H3 kvs done ∧ done ++ flat qs = ps t ∧ m = (flat qs).length ∧ Kp [] H H3,
      ⟨_, [.ref a], [([], t)], [], [], none, none, rfl, kw.at_ _ _ hd1 List.not_mem_nil, upd_same, .cons (kw.tup _ _ (s_e ▸ ha)) (T1.kp kw) .nil, .nil, ?_, rfl, kd.trans (ka.trans kw)⟩, fun m σ H3 hw => ?_⟩
    · show [] ++ ((ps t).map (ahead []) ++ []) = ps t
      rw [List.nil_append, List.append_nil]
      exact List.map_id _
    obtain ⟨us, qs, done, kvs, y, z, rfl, hd3, hl3, hp, hk, hall, rfl, k3⟩ := hw
    refine ⟨_, rfl, _, .inl ⟨_, sql_of hl3, rfl⟩, ?_⟩
    cases hp with
    | nil =>
      refine iteF ⟨_, rfl, ?_⟩
      rw [flat, List.append_nil] at hall
      rw [hall] at hk
      exact k d kvs H3 nd hd3 hk k3
    | @cons b v1 p t1 us qs hb T3 hp =>
      have e0 : (!((V.ref b :: us).reverse).isEmpty) = true := by simp
      rw [e0]
      refine iteT ⟨fun σ' H' => ∃ m', m' < (flat ((p, t1) :: qs)).length ∧ ∃ (us : List V) (qs done : List (List Nat × Tr)) (kvs : List (Key × V)) (y z : Option V), σ' = [some v, some (.ref d), some (.ref wl), y, z] ∧ H' d = some (.dK kvs) ∧ H' wl = some (.lst us.reverse) ∧ PairsAt H' us qs ∧ KvAt H' kvs done ∧ done ++ flat qs = ps t ∧ m' = (flat qs).length ∧ Kp [] H H', fun _ _ h => h, ?_⟩
      refine ⟨_, rfl, .inl ⟨rfl, _, sql_of hl3⟩, wl, _, _, rfl, rfl, hl3, pile_top _ us, ?_⟩
      rw [pile_pop]
      have kk : Kp [wl] H3 (upd H3 wl (.lst us.reverse)) := .put (by simp) hl3 (fun xs z => by cases z)
      have hl4 : (upd H3 wl (.lst us.reverse)) wl = some (.lst us.reverse) := upd_same
      have k4 : Kp [] H (upd H3 wl (.lst us.reverse)) := k3.own nwH
      have hd4 := kk.at_ _ _ hd3 (by simp [hdw])
      have hb4 := kk.tup _ _ hb
      have T4 := T3.kp kk
      have hp4 := hp.kp kk
      have hk4 := hk.kp kk
      generalize upd H3 wl (.lst us.reverse) = H4 at kk hl4 k4 hd4 hb4 T4 hp4 hk4
      -- place, part
      refine ⟨b, _, rfl, sqt_of hb4, rfl, _, _, rfl, _, _, rfl, rfl, ?_⟩
      -- found[place] = part
      have hnd : (ps t).length ≤ 2001 := by rw [ps_len]; omega
      have hcnt : done.length + (flat ((p, t1) :: qs)).length = (ps t).length := by rw [← hall, List.length_append]
      have pos : 1 ≤ (flat ((p, t1) :: qs)).length := by
        simp only [flat, List.length_append, List.length_map, ps_len]
        omega
      have hin : ∃ rest, flat ((p, t1) :: qs) = (p, t1) :: rest := by
        cases t1 with
        | nil => exact ⟨_, flat_nil p qs⟩
        | nd g l r => exact ⟨_, flat_nd p g l r qs⟩
      have hpn : p ∉ done.map (·.1) := by
        obtain ⟨rest, er⟩ := hin
        have nd0 := pl_nodup t
        rw [← ps_fst, ← hall, er, List.map_append, List.map_cons] at nd0
        intro hm
        exact (List.nodup_append.mp nd0).2.2 p hm p (List.mem_cons_self) rfl
      have hplen : p.length ≤ 1000 := by
        obtain ⟨rest, er⟩ := hin
        have : p ∈ pl t := by
          rw [← ps_fst, ← hall, er]
          simp
        exact Nat.le_trans (pl_ht t p this) (Nat.le_trans (ht_sz t) sz)
      have hval : valV kvs (.inr (st p)) = none := hk4.no hpn
      refine ⟨_, rfl, _, rfl, _, rfl, d, _, rfl, DPut.k (k := .inr (st p)) hd4 (Nat.lt_of_le_of_lt (show kvs.length ≤ 2001 by rw [hk4.len]; omega) (by decide)), ?_⟩
      rw [putK_new _ hval]
      have k5 : Kp [d] H4 (upd H4 d (.dK (kvs ++ [(.inr (st p), v1)]))) := .put (by simp) hd4 (fun xs z => by cases z)
      have hd5 : (upd H4 d (.dK (kvs ++ [(.inr (st p), v1)]))) d = some (.dK (kvs ++ [(.inr (st p), v1)])) := upd_same
      have kH5 : Kp [] H (upd H4 d (.dK (kvs ++ [(.inr (st p), v1)]))) := k4.own nd
      have hl5 := k5.at_ _ _ hl4 (by simp [hdw.symm])
      have T5 := T4.kp k5
      have hp5 := hp4.kp k5
      have hk5 : KvAt _ _ (done ++ [(p, t1)]) := (hk4.kp k5).snoc T5
      generalize upd H4 d (.dK (kvs ++ [(.inr (st p), v1)])) = H5 at k5 hd5 kH5 hl5 T5 hp5 hk5
      cases T5 with
      | nil =>
        refine ⟨_, rfl, rfl, _, rfl, iteF ?_⟩
        rw [flat_nil] at hall hcnt
        exact ⟨(flat qs).length, by rw [flat_nil]; simp, us, qs, done ++ [(p, .nil)], _, _, _, rfl, hd5, hl5, hp5, hk5, by rw [List.append_assoc]; exact hall, rfl, kH5⟩
      | @nd x g l r w1 w2 e T51 T52 =>
        refine ⟨_, rfl, rfl, _, rfl, iteT ?_⟩
        have hul : us.length ≤ 2001 := by
          have := hp5.len
          simp only [flat, List.length_append] at hcnt
          omega
        refine ⟨_, rfl, .inl ⟨rfl, _, sql_of hl5⟩, _, rfl, _, _, rfl, rfl, ?_, _, rfl, x, _, _, _, rfl, rfl, sqt_of e, atI_nat (j := 2) rfl, by show 2 ≤ sizeLine; decide, fun q1 n1 => ?_⟩
        · rw [st_len]
          show p.length + 1 ≤ sizeLine
          exact Nat.le_trans (show p.length + 1 ≤ 1001 by omega) (by decide)
        rw [s_r, st_app]
        have k6 : Kp [] H5 (upd H5 q1 (.tup [.str (st (p ++ [114])), w2])) := .new n1
        have hq1 : (upd H5 q1 (.tup [.str (st (p ++ [114])), w2])) q1 = some (.tup [.str (st (p ++ [114])), w2]) := upd_same
        have hl6 := k6.at_ _ _ hl5 List.not_mem_nil
        have hd6 := k6.at_ _ _ hd5 List.not_mem_nil
        generalize upd H5 q1 (.tup [.str (st (p ++ [114])), w2]) = H6 at k6 hq1 hl6 hd6
        refine ⟨wl, _, _, rfl, rfl, hl6, ?_, ?_⟩
        · rw [List.length_reverse]
          exact Nat.lt_of_le_of_lt hul (by decide)
        rw [pile_push]
        have k7 : Kp [wl] H6 (upd H6 wl (.lst (.ref q1 :: us).reverse)) := .put (by simp) hl6 (fun xs z => by cases z)
        have hl7 : (upd H6 wl (.lst (.ref q1 :: us).reverse)) wl = some (.lst (.ref q1 :: us).reverse) := upd_same
        have kH7 : Kp [] H (upd H6 wl (.lst (.ref q1 :: us).reverse)) := (kH5.trans k6).own nwH
        have hd7 := k7.at_ _ _ hd6 (by simp [hdw])
        generalize upd H6 wl (.lst (.ref q1 :: us).reverse) = H7 at k7 hl7 kH7 hd7
        have e7 := k7.tup _ _ (k6.tup _ _ e)
        refine ⟨_, rfl, .inl ⟨rfl, _, sql_of hl7⟩, _, rfl, _, _, rfl, rfl, ?_, _, rfl, x, _, _, _, rfl, rfl, sqt_of e7, atI_nat (j := 1) rfl, by show 2 ≤ sizeLine; decide, fun q2 n2 => ?_⟩
        · rw [st_len]
          show p.length + 1 ≤ sizeLine
          exact Nat.le_trans (show p.length + 1 ≤ 1001 by omega) (by decide)
        rw [s_l, st_app]
        have k8 : Kp [] H7 (upd H7 q2 (.tup [.str (st (p ++ [108])), w1])) := .new n2
        have hq2 : (upd H7 q2 (.tup [.str (st (p ++ [108])), w1])) q2 = some (.tup [.str (st (p ++ [108])), w1]) := upd_same
        have hl8 := k8.at_ _ _ hl7 List.not_mem_nil
        have hd8 := k8.at_ _ _ hd7 List.not_mem_nil
        generalize upd H7 q2 (.tup [.str (st (p ++ [108])), w1]) = H8 at k8 hq2 hl8 hd8
        refine ⟨wl, _, _, rfl, rfl, hl8, ?_, ?_⟩
        · rw [List.length_reverse]
          exact Nat.lt_of_le_of_lt (show us.length + 1 ≤ 2002 by omega) (by decide)
        rw [pile_push]
        have k9 : Kp [wl] H8 (upd H8 wl (.lst (.ref q2 :: .ref q1 :: us).reverse)) := .put (by simp) hl8 (fun xs z => by cases z)
        have k59 : Kp [wl] H5 (upd H8 wl (.lst (.ref q2 :: .ref q1 :: us).reverse)) := (k6.more (by simp)).trans (k7.trans ((k8.more (by simp)).trans k9))
        rw [flat_nd] at hall hcnt
        refine ⟨(flat ((p ++ [108], l) :: (p ++ [114], r) :: qs)).length, by rw [flat_nd]; simp, _, (p ++ [108], l) :: (p ++ [114], r) :: qs, done ++ [(p, .nd g l r)], _, _, _, rfl, k9.at_ _ _ hd8 (by simp [hdw]), upd_same, .cons (k9.tup _ _ hq2) (T51.kp k59) (.cons (k9.tup _ _ (k8.tup _ _ (k7.tup _ _ hq1))) (T52.kp k59) (hp5.kp k59)), hk5.kp k59, ?_, rfl, (kH7.trans k8).own nwH⟩
        rw [List.append_assoc]
        exact hall
end
end Ey
set_option maxHeartbeats 4000000
namespace Ey
open PySem PySem.Spec PyProof.Rows L2
/-! ### data: what is a tree, what may be told -/
def isTagD : PyData → Bool
  | .str g => isTag g
  | .none | .bool _ | .int _ | .list _ | .tuple _ | .dict _ => false
def tri : List PyData → List Bool → Bool
  | [x, _, _], [_, b, c] => isTagD x && (b && c)
  | _, _ => false
def intL : List Int := [0, 1, 2, 3, 5, 7, -1, 100000000000000000000000000000, -100000000000000000000]
mutual
def isT : PyData → Bool
  | .none => true
  | .tuple ds => tri ds (isTs ds)
  | .bool _ | .int _ | .str _ | .list _ | .dict _ => false
def isTs : List PyData → List Bool
  | [] => []
  | x :: r => isT x :: isTs r
end
mutual
def fit : PyData → Bool
  | .none | .bool _ => true
  | .int i => decide (i ∈ intL)
  | .str x => x.cps.toList.all fun c => decide (c < 1000)
  | .list ds | .tuple ds => fitAll ds
  | .dict kvs => fitKv kvs
def fitAll : List PyData → Bool
  | [] => true
  | x :: r => fit x && fitAll r
def fitKv : List (PyData × PyData) → Bool
  | [] => true
  | (k, v) :: r => (fit k && fit v) && fitKv r
end
mutual
def wd : PyData → Nat
  | .none => 4
  | .bool _ => 5
  | .int _ => 40
  | .str x => 10 * x.length + 2
  | .list ds | .tuple ds => wdAll ds + 3
  | .dict kvs => wdKv kvs + 3
def wdAll : List PyData → Nat
  | [] => 0
  | x :: r => wd x + 2 + wdAll r
def wdKv : List (PyData × PyData) → Nat
  | [] => 0
  | (k, v) :: r => wd k + wd v + 4 + wdKv r
end
theorem intL_ok : ∀ i ∈ intL, i.natAbs.log2 < 1920 ∧ (PyData.shown (.int i)).length ≤ 40 := by decide +kernel
theorem lenD (ts : List Str) : (listText ts).length ≤ piled ts + 2 := by
  have q1 : ("[" : Str).length = 1 := by decide +kernel
  have q2 : ("]" : Str).length = 1 := by decide +kernel
  unfold listText
  rw [len_app, q2]
  cases ts with
  | nil =>
    show (textFrom 0 "[" []).length + 1 ≤ _
    unfold textFrom
    rw [q1]
    omega
  | cons t r =>
    show (textFrom 1 (("[" : Str) ++ Str.ofString "" ++ t) r).length + 1 ≤ piled (t :: r) + 2
    have e : (Str.ofString "").length = 0 := by decide +kernel
    rw [textFrom_length_pos r 1 _ (by decide), len_app, len_app, q1, e, piled_cons]
    omega
theorem joinD (ts : List Str) : (Str.join ", " ts).length ≤ piled ts := by
  cases ts with
  | nil => exact Nat.zero_le _
  | cons t r =>
    have := join_length_add (t :: r) (by simp)
    omega
theorem lenT (ts : List Str) : (tupleText ts).length ≤ piled ts + 3 := by
  have q1 : ("(" : Str).length = 1 := by decide +kernel
  have q2 : (Str.ofString ",)").length = 2 := by decide +kernel
  have q3 : (Str.ofString ")").length = 1 := by decide +kernel
  have q : (Str.ofString (if (ts.length == 1) = true then ",)" else ")")).length ≤ 2 := by
    split
    · rw [q2]
      exact Nat.le_refl _
    · rw [q3]
      decide
  have := joinD ts
  unfold tupleText
  rw [len_app, len_app, q1]
  omega
theorem lenK (ts : List Str) : (dictText ts).length ≤ piled ts + 3 := by
  have q1 : ("{" : Str).length = 1 := by decide +kernel
  have q2 : ("}" : Str).length = 1 := by decide +kernel
  have := joinD ts
  unfold dictText
  rw [len_app, len_app, q1, q2]
  omega
mutual
theorem fit_told : ∀ d : PyData, fit d = true → d.showable = true ∧ d.shown.length ≤ wd d
  | .none, _ => ⟨rfl, by show ("None" : Str).length ≤ 4; decide +kernel⟩
  | .bool b, _ => ⟨rfl, by
      show (PyData.shown (.bool b)).length ≤ 5
      cases b <;> decide +kernel⟩
  | .int i, h => by
    have a := intL_ok i (of_decide_eq_true h)
    exact ⟨decide_eq_true a.1, a.2⟩
  | .str x, h => by
    refine ⟨rfl, StrLaws.reprText_len x fun c hc => ?_⟩
    have h2 : (x.cps.toList.all fun c => decide (c < 1000)) = true := h
    exact Nat.lt_of_lt_of_le (of_decide_eq_true (List.all_eq_true.mp h2 c hc)) (by decide)
  | .list ds, h => by
    obtain ⟨a, b⟩ := fit_tolds ds h
    exact ⟨a, Nat.le_trans (lenD _) (by show piled (PyData.shownAll ds) + 2 ≤ wdAll ds + 3; omega)⟩
  | .tuple ds, h => by
    obtain ⟨a, b⟩ := fit_tolds ds h
    exact ⟨a, Nat.le_trans (lenT _) (by show piled (PyData.shownAll ds) + 3 ≤ wdAll ds + 3; omega)⟩
  | .dict kvs, h => by
    obtain ⟨a, b⟩ := fit_toldKv kvs h
    exact ⟨a, Nat.le_trans (lenK _) (by show piled (PyData.shownKv kvs) + 3 ≤ wdKv kvs + 3; omega)⟩
theorem fit_tolds : ∀ ds : List PyData, fitAll ds = true → PyData.showableAll ds = true ∧ piled (PyData.shownAll ds) ≤ wdAll ds
  | [], _ => ⟨rfl, Nat.le_refl _⟩
  | x :: r, h => by
    have h2 : (fit x && fitAll r) = true := h
    rw [Bool.and_eq_true] at h2
    obtain ⟨a, b⟩ := fit_told x h2.1
    obtain ⟨c, d⟩ := fit_tolds r h2.2
    refine ⟨?_, ?_⟩
    · show (x.showable && PyData.showableAll r) = true
      rw [a, c]
      rfl
    · show piled (x.shown :: PyData.shownAll r) ≤ wd x + 2 + wdAll r
      rw [piled_cons]
      omega
theorem fit_toldKv : ∀ kvs : List (PyData × PyData), fitKv kvs = true → PyData.showableKv kvs = true ∧ piled (PyData.shownKv kvs) ≤ wdKv kvs
  | [], _ => ⟨rfl, Nat.le_refl _⟩
  | (k, v) :: r, h => by
    have h2 : ((fit k && fit v) && fitKv r) = true := h
    rw [Bool.and_eq_true, Bool.and_eq_true] at h2
    obtain ⟨a, b⟩ := fit_told k h2.1.1
    obtain ⟨a2, b2⟩ := fit_told v h2.1.2
    obtain ⟨c, d⟩ := fit_toldKv r h2.2
    refine ⟨?_, ?_⟩
    · show (k.showable && v.showable && PyData.showableKv r) = true
      rw [a, a2, c]
      rfl
    · show piled ((k.shown ++ ": " ++ v.shown) :: PyData.shownKv r) ≤ wd k + wd v + 4 + wdKv r
      have q : (Str.ofString ": ").length = 2 := by decide +kernel
      rw [piled_cons, len_app, len_app, q]
      omega
end
/-! ### trees as data -/
theorem td_isT : ∀ t : Tr, t.ok → isT (td t) = true
  | .nil, _ => rfl
  | .nd g l r, h => by
    show (isTag g && (isT (td l) && isT (td r))) = true
    rw [h.1, td_isT l h.2.1, td_isT r h.2.2]
    rfl
theorem tag_low {g : Str} (h : isTag g = true) : ∀ c ∈ g.cps.toList, c < 1000 := fun c hc => by
  simp only [isTag, Bool.and_eq_true, List.all_eq_true, decide_eq_true_eq] at h
  have := h.2 c hc
  simp only [abc, List.mem_cons, List.not_mem_nil, or_false] at this
  omega
theorem td_fit : ∀ t : Tr, t.ok → fit (td t) = true
  | .nil, _ => rfl
  | .nd g l r, h => by
    have a : (g.cps.toList.all fun c => decide (c < 1000)) = true := List.all_eq_true.mpr fun c hc => decide_eq_true (tag_low h.1 c hc)
    show ((g.cps.toList.all fun c => decide (c < 1000)) && (fit (td l) && (fit (td r) && true))) = true
    rw [a, td_fit l h.2.1, td_fit r h.2.2]
    rfl
theorem td_wd : ∀ t : Tr, t.ok → wd (td t) ≤ 100 * t.sz + 4
  | .nil, _ => Nat.le_refl _
  | .nd g l r, h => by
    have a := td_wd l h.2.1
    have b := td_wd r h.2.2
    have c := tag_len h.1
    show (10 * g.length + 2) + 2 + (wd (td l) + 2 + (wd (td r) + 2 + 0)) + 3 ≤ 100 * (l.sz + r.sz + 1) + 4
    omega
theorem sz_wd : ∀ t : Tr, t.sz ≤ wd (td t)
  | .nil => Nat.zero_le _
  | .nd g l r => by
    have a := sz_wd l
    have b := sz_wd r
    show l.sz + r.sz + 1 ≤ (10 * g.length + 2) + 2 + (wd (td l) + 2 + (wd (td r) + 2 + 0)) + 3
    omega
theorem ht_depth : ∀ t : Tr, t.ht ≤ (td t).depth
  | .nil => Nat.le_refl _
  | .nd g l r => by
    have a := ht_depth l
    have b := ht_depth r
    show max l.ht r.ht + 1 ≤ max 0 (max (td l).depth (max (td r).depth 0)) + 1
    omega
mutual
theorem isT_td : ∀ d : PyData, isT d = true → ∃ t : Tr, t.ok ∧ td t = d
  | .none, _ => ⟨.nil, trivial, rfl⟩
  | .bool _, h => by cases h
  | .int _, h => by cases h
  | .str _, h => by cases h
  | .list _, h => by cases h
  | .dict _, h => by cases h
  | .tuple ds, h => isTs_td ds h
theorem isTs_td : ∀ ds : List PyData, tri ds (isTs ds) = true → ∃ t : Tr, t.ok ∧ td t = .tuple ds
  | [], h => by cases h
  | [_], h => by cases h
  | [_, _], h => by cases h
  | _ :: _ :: _ :: _ :: _, h => by cases h
  | [x, a, b], h => by
    have h2 : (isTagD x && (isT a && isT b)) = true := h
    rw [Bool.and_eq_true, Bool.and_eq_true] at h2
    obtain ⟨l, ol, el⟩ := isT_td a h2.2.1
    obtain ⟨r, or', er⟩ := isT_td b h2.2.2
    cases x with
    | str g => exact ⟨.nd g l r, ⟨h2.1, ol, or'⟩, by rw [td, el, er]⟩
    | none => cases h2.1
    | bool _ => cases h2.1
    | int _ => cases h2.1
    | list _ => cases h2.1
    | tuple _ => cases h2.1
    | dict _ => cases h2.1
end
/-! ### data in the heap, none of its lists and dicts at ms -/
def kD : Key → PyData
  | .inl i => .int i
  | .inr x => .str x
mutual
inductive An (ms : List Addr) (H : Hp) : V → PyData → Prop
  | non : An ms H .non .none
  | bl (b : Bool) : An ms H (.bl b) (.bool b)
  | int (i : Int) : An ms H (.int i) (.int i)
  | str (x : Str) : An ms H (.str x) (.str x)
  | lst {a : Addr} {xs : List V} {ds : List PyData} : H a = some (.lst xs) → a ∉ ms → AnAll ms H xs ds → An ms H (.ref a) (.list ds)
  | tup {a : Addr} {xs : List V} {ds : List PyData} : H a = some (.tup xs) → AnAll ms H xs ds → An ms H (.ref a) (.tuple ds)
  | dct {a : Addr} {kvs : List (Key × V)} {ds : List (PyData × PyData)} : H a = some (.dK kvs) → a ∉ ms → AnKv ms H kvs ds → An ms H (.ref a) (.dict ds)
inductive AnAll (ms : List Addr) (H : Hp) : List V → List PyData → Prop
  | nil : AnAll ms H [] []
  | cons {v : V} {vs : List V} {d : PyData} {ds : List PyData} : An ms H v d → AnAll ms H vs ds → AnAll ms H (v :: vs) (d :: ds)
inductive AnKv (ms : List Addr) (H : Hp) : List (Key × V) → List (PyData × PyData) → Prop
  | nil : AnKv ms H [] []
  | cons {k : Key} {v : V} {kvs : List (Key × V)} {d : PyData} {ds : List (PyData × PyData)} : An ms H v d → AnKv ms H kvs ds → AnKv ms H ((k, v) :: kvs) ((kD k, d) :: ds)
end
section
variable {ms ms' : List Addr} {H H1 : Hp}
mutual
theorem An.kp (k : Kp ms' H H1) (hs : ∀ x ∈ ms', x ∈ ms) : ∀ {v : V} (d : PyData), An ms H v d → An ms H1 v d
  | _, .none, h => by cases h; exact .non
  | _, .bool b, h => by cases h; exact .bl b
  | _, .int i, h => by cases h; exact .int i
  | _, .str x, h => by cases h; exact .str x
  | _, .list ds, h => by
    cases h with
    | lst e n a => exact .lst (k.at_ _ _ e fun q => n (hs _ q)) n (AnAll.kp k hs ds a)
  | _, .tuple ds, h => by
    cases h with
    | tup e a => exact .tup (k.tup _ _ e) (AnAll.kp k hs ds a)
  | _, .dict ds, h => by
    cases h with
    | dct e n a => exact .dct (k.at_ _ _ e fun q => n (hs _ q)) n (AnKv.kp k hs ds a)
theorem AnAll.kp (k : Kp ms' H H1) (hs : ∀ x ∈ ms', x ∈ ms) : ∀ {vs : List V} (ds : List PyData), AnAll ms H vs ds → AnAll ms H1 vs ds
  | _, [], h => by cases h; exact .nil
  | _, d :: r, h => by
    cases h with
    | cons a b => exact .cons (An.kp k hs d a) (AnAll.kp k hs r b)
theorem AnKv.kp (k : Kp ms' H H1) (hs : ∀ x ∈ ms', x ∈ ms) : ∀ {vs : List (Key × V)} (ds : List (PyData × PyData)), AnKv ms H vs ds → AnKv ms H1 vs ds
  | _, [], h => by cases h; exact .nil
  | _, (y, d) :: r, h => by
    cases h with
    | cons a b => exact .cons (An.kp k hs d a) (AnKv.kp k hs r b)
end
theorem TreeAt.an {v : V} {t : Tr} (h : TreeAt H v t) : An ms H v (td t) := by
  induction h with
  | nil => exact .non
  | nd e _ _ ih1 ih2 => exact .tup e (.cons (.str _) (.cons ih1 (.cons ih2 .nil)))
theorem An.tree : ∀ (t : Tr) {v : V}, An ms H v (td t) → TreeAt H v t
  | .nil, _, h => by cases h; exact .nil
  | .nd g l r, _, h => by
    cases h with
    | tup e a =>
      cases a with
      | cons a1 a =>
        cases a1
        cases a with
        | cons a2 a =>
          cases a with
          | cons a3 a =>
            cases a
            exact .nd e (An.tree l a2) (An.tree r a3)
theorem AnAll.append {vs ws : List V} {ds es : List PyData} (h : AnAll ms H vs ds) (g : AnAll ms H ws es) : AnAll ms H (vs ++ ws) (ds ++ es) := by
  induction ds generalizing vs with
  | nil => cases h; exact g
  | cons d r ih =>
    cases h with
    | cons a b => exact .cons a (ih b)
theorem AnAll.length {vs : List V} {ds : List PyData} (h : AnAll ms H vs ds) : vs.length = ds.length := by
  induction ds generalizing vs with
  | nil => cases h; rfl
  | cons d r ih =>
    cases h with
    | cons a b => rw [List.length_cons, List.length_cons, ih b]
theorem AnAll.take {vs : List V} {ds : List PyData} (h : AnAll ms H vs ds) (n : Nat) : AnAll ms H (vs.take n) (ds.take n) := by
  induction ds generalizing vs n with
  | nil =>
    cases h
    rw [List.take_nil, List.take_nil]
    exact .nil
  | cons d r ih =>
    cases h with
    | cons a b =>
      cases n with
      | zero => exact .nil
      | succ n => exact .cons a (ih b n)
theorem AnAll.drop {vs : List V} {ds : List PyData} (h : AnAll ms H vs ds) (n : Nat) : AnAll ms H (vs.drop n) (ds.drop n) := by
  induction ds generalizing vs n with
  | nil =>
    cases h
    rw [List.drop_nil, List.drop_nil]
    exact .nil
  | cons d r ih =>
    cases h with
    | cons a b =>
      cases n with
      | zero => exact .cons a b
      | succ n => exact ih b n
theorem AnAll.rev {vs : List V} {ds : List PyData} (h : AnAll ms H vs ds) : AnAll ms H vs.reverse ds.reverse := by
  induction ds generalizing vs with
  | nil => cases h; exact .nil
  | cons d r ih =>
    cases h with
    | cons a b =>
      rw [List.reverse_cons, List.reverse_cons]
      exact (ih b).append (.cons a .nil)
theorem AnAll.get {vs : List V} {ds : List PyData} (h : AnAll ms H vs ds) {i : Nat} {v : V} (e : vs[i]? = some v) : ∃ d, ds[i]? = some d ∧ An ms H v d := by
  induction ds generalizing vs i with
  | nil => cases h; cases e
  | cons d r ih =>
    cases h with
    | cons a b =>
      cases i with
      | zero =>
        cases e
        exact ⟨d, rfl, a⟩
      | succ i => exact ih b e
/-- all at ms is tracked -/
def Has (ms : List Addr) (H : Hp) : Prop := ∀ b ∈ ms, H b ≠ none
theorem Has.fresh {p : Addr} (h : Has ms H) (n : H p = none) : p ∉ ms := fun q => h p q n
theorem Has.new {p : Addr} {o : HO} (h : Has ms H) : Has ms (upd H p o) := fun b q => by
  by_cases e : b = p
  · rw [e, upd_same]
    exact fun z => nomatch z
  · rw [upd_ne e]
    exact h b q
theorem Has.kp (h : Has ms H) (k : Kp ms' H H1) (hs : ∀ b ∈ ms', H1 b ≠ none) : Has ms H1 := fun b q => by
  by_cases m : b ∈ ms'
  · exact hs b m
  · cases e : H b with
    | none => exact absurd e (h b q)
    | some o =>
      rw [k.at_ b o e m]
      exact fun z => nomatch z
end
end Ey
set_option maxHeartbeats 4000000
namespace Ey
open PySem PySem.Spec PyProof.Rows L2
section
variable {X : Cx} {pins : List (Addr × Obj)} {σ : L2.St} {H : Hp} {s : Shared} {ms : List Addr}
theorem low (I : Inv X pins σ H s) (hs : ∃ mm, X.base.Ns sysModules mm) {a : Addr} {o : HO} (e : H a = some o) : a ≠ sysModules := by
  rintro rfl
  obtain ⟨mm, ob, es, ep, g, _⟩ := hs
  rw [(I.bs _ _ g).2] at e
  cases e
theorem key_reads (k : Key) (y : Value) (h : keyIs k y = true) : Reads s.heap y (kD k) [] := by
  rcases keyIs_shape h with ⟨i, t, rfl, rfl⟩ | ⟨x, t, rfl, rfl⟩
  · exact .int i t
  · exact .str x t
mutual
theorem An.reads (I : Inv X pins σ H s) (hs : ∃ mm, X.base.Ns sysModules mm) : ∀ {v : V} {u : Value} (d : PyData), An ms H v d → RelV v u → ∃ as, Reads s.heap u d as ∧ sysModules ∉ as
  | _, _, .none, h, r => by
    cases h
    cases r
    exact ⟨_, .none, List.not_mem_nil⟩
  | _, _, .bool b, h, r => by
    cases h
    cases r
    exact ⟨_, .bool b, List.not_mem_nil⟩
  | _, _, .int i, h, r => by
    cases h
    obtain ⟨t, rfl⟩ := r
    exact ⟨_, .int i t, List.not_mem_nil⟩
  | _, _, .str x, h, r => by
    cases h
    obtain ⟨t, rfl⟩ := r
    exact ⟨_, .str x t, List.not_mem_nil⟩
  | _, _, .list ds, h, r => by
    cases h with
    | @lst a xs _ e n hd =>
      cases r
      obtain ⟨_, its, m, rv, at0⟩ := (show ObjOk X.prog X.w H s.heap a (.lst xs) from I.hok a _ e)
      obtain ⟨as, q, nq⟩ := AnAll.reads I hs ds hd rv
      refine ⟨_, .list at0 rfl rfl q, fun z => ?_⟩
      rcases List.mem_cons.mp z with z | z
      · exact low I hs e z.symm
      · exact nq z
  | _, _, .tuple ds, h, r => by
    cases h with
    | @tup a xs _ e hd =>
      cases r
      obtain ⟨_, its, rv, o, h1, h2, n, h3⟩ := (show ObjOk X.prog X.w H s.heap a (.tup xs) from I.hok a _ e)
      obtain ⟨as, q, nq⟩ := AnAll.reads I hs ds hd rv
      exact ⟨_, .tuple h1 h2 h3 q, nq⟩
  | _, _, .dict ds, h, r => by
    cases h with
    | @dct a kvs _ e n hd =>
      cases r
      obtain ⟨_, lo, vs, rk, dd⟩ := (show ObjOk X.prog X.w H s.heap a (.dK kvs) from I.hok a _ e)
      obtain ⟨as, q, nq⟩ := AnKv.reads I hs ds hd rk
      refine ⟨_, PyProof.V.reads_dictOf (fun k y hk => key_reads k y hk) dd q, fun z => ?_⟩
      rcases List.mem_cons.mp z with z | z
      · exact low I hs e z.symm
      · exact nq z
theorem AnAll.reads (I : Inv X pins σ H s) (hs : ∃ mm, X.base.Ns sysModules mm) : ∀ {vs : List V} {us : List Value} (ds : List PyData), AnAll ms H vs ds → Vals vs us → ∃ as, ReadsAll s.heap us ds as ∧ sysModules ∉ as
  | _, _, [], h, r => by
    cases h
    cases r
    exact ⟨_, .nil, List.not_mem_nil⟩
  | _, _, d :: ds, h, r => by
    cases h with
    | cons h1 h2 =>
      cases r with
      | cons r1 r2 =>
        obtain ⟨as, q1, n1⟩ := An.reads I hs d h1 r1
        obtain ⟨bs, q2, n2⟩ := AnAll.reads I hs ds h2 r2
        exact ⟨_, .cons q1 q2, fun z => (List.mem_append.mp z).elim n1 n2⟩
theorem AnKv.reads (I : Inv X pins σ H s) (hs : ∃ mm, X.base.Ns sysModules mm) : ∀ {kvs : List (Key × V)} {vs : List (Key × Value)} (ds : List (PyData × PyData)), AnKv ms H kvs ds → KV kvs vs → ∃ as, PyProof.V.PairsRead s.heap kD vs ds as ∧ sysModules ∉ as
  | _, _, [], h, r => by
    cases h
    cases r
    exact ⟨_, .nil, List.not_mem_nil⟩
  | _, _, (y, d) :: ds, h, r => by
    cases h with
    | @cons k v kvs _ _ h1 h2 =>
      cases r with
      | @cons _ b _ _ r1 r2 =>
        obtain ⟨k2, u⟩ := b
        obtain ⟨e, r1⟩ := r1
        have e' : k = k2 := e
        subst e'
        obtain ⟨as, q1, n1⟩ := An.reads I hs d h1 r1
        obtain ⟨bs, q2, n2⟩ := AnKv.reads I hs ds h2 r2
        exact ⟨_, .cons q1 q2, fun z => (List.mem_append.mp z).elim n1 n2⟩
end
/-- repr of data, dicts among it -/
def rReprA (ms : List Addr) : List V → Hp → VK → Prop := fun xs H Q =>
  ∃ v d, xs = [v] ∧ An ms H v d ∧ fit d = true ∧ d.depth ≤ 100 ∧ wd d ≤ 1000000 ∧ Q (.str d.shown) H
theorem cr_reprA {k : Nat} (hs : ∃ mm, X.base.Ns sysModules mm) (hg : X.A.guards = some []) (hr : Room k X.A) : CallR X (.builtin "repr") (rReprA ms) := by
  intro pins s σ H xs us Q I r h
  obtain ⟨v, d, rfl, hd, hf, hp, hz, q⟩ := h
  obtain ⟨u, rfl, ru⟩ := vals1 r
  obtain ⟨as, rd, ns⟩ := An.reads I hs d hd ru
  obtain ⟨sh, ln⟩ := fit_told d hf
  have z : d.shown.length ≤ sizeLine := Nat.le_trans ln (Nat.le_trans hz (by decide))
  have room : X.A.units + (d.depth + 1) < cLine := by
    have := hr.un
    omega
  have fin : ∀ (h' : Heap) (tk : Nat) (t : Tok), (∀ b o, s.heap.get? b = some o → h'.get? b = some o) → EP X pins σ Q (.str d.shown t) { s with heap := h', toks := tk } :=
    fun h' tk t hk => ⟨.str d.shown, H, I.kept hk, ⟨t, rfl⟩, q⟩
  cases rd with
  | none => exact PySem.P.repr_of_none (fin s.heap _ _ fun _ _ e => e)
  | bool b => exact PySem.P.repr_of_bool (fin s.heap _ _ fun _ _ e => e)
  | int i t => exact PySem.P.repr_of_int (of_decide_eq_true sh) (fin s.heap _ _ fun _ _ e => e)
  | str x t => exact PySem.P.repr_of_str (fin s.heap _ _ fun _ _ e => e) z
  | list a b c e => exact repr_of_reads' (.list a b c e) sh (fun _ => ns) hg room (fun _ _ e => e) (fun h' u tk hk => fin h' tk u hk) z
  | tuple a b c e => exact repr_of_reads' (.tuple a b c e) sh (fun _ => ns) hg room (fun _ _ e => e) (fun h' u tk hk => fin h' tk u hk) z
  | dict a b c e f => exact repr_of_reads' (.dict a b c e f) sh (fun _ => ns) hg room (fun _ _ e => e) (fun h' u tk hk => fin h' tk u hk) z
end
/-! ### kinds -/
def isTup : PyData → Bool
  | .tuple _ => true
  | .none | .bool _ | .int _ | .list _ | .str _ | .dict _ => false
def isStr : PyData → Bool
  | .str _ => true
  | .none | .bool _ | .int _ | .list _ | .tuple _ | .dict _ => false
theorem An.tupK {ms : List Addr} {K : PySem.W.Frag} {H : Hp} {v : V} {d : PyData} (h : An ms H v d) : ∃ t, TyX K H v t ∧ PySem.W.kitOne K t (.type "tuple") = some (isTup d) := by
  cases h with
  | non => exact ⟨_, .base .non, kit_ty (r := false) (by decide +kernel)⟩
  | bl b => exact ⟨_, .base (.bl b), kit_ty (r := false) (by decide +kernel)⟩
  | int i => exact ⟨_, .base (.int i), kit_ty (r := false) (by decide +kernel)⟩
  | str x => exact ⟨_, .base (.str x), kit_ty (r := false) (by decide +kernel)⟩
  | lst e => exact ⟨_, .base (.lst e), kit_ty (r := false) (by decide +kernel)⟩
  | tup e => exact ⟨_, .base (.tup e), kit_ty (r := true) (by decide +kernel)⟩
  | dct e => exact ⟨_, .base (.dK e), kit_ty (r := false) (by decide +kernel)⟩
theorem An.strK {ms : List Addr} {K : PySem.W.Frag} {H : Hp} {v : V} {d : PyData} (h : An ms H v d) : ∃ t, TyX K H v t ∧ PySem.W.kitOne K t (.type "str") = some (isStr d) := by
  cases h with
  | non => exact ⟨_, .base .non, kit_ty (r := false) (by decide +kernel)⟩
  | bl b => exact ⟨_, .base (.bl b), kit_ty (r := false) (by decide +kernel)⟩
  | int i => exact ⟨_, .base (.int i), kit_ty (r := false) (by decide +kernel)⟩
  | str x => exact ⟨_, .base (.str x), kit_ty (r := true) (by decide +kernel)⟩
  | lst e => exact ⟨_, .base (.lst e), kit_ty (r := false) (by decide +kernel)⟩
  | tup e => exact ⟨_, .base (.tup e), kit_ty (r := false) (by decide +kernel)⟩
  | dct e => exact ⟨_, .base (.dK e), kit_ty (r := false) (by decide +kernel)⟩
theorem An.noneK {ms : List Addr} {H : Hp} {v : V} {d : PyData} (h : An ms H v d) : v = .non ↔ d = .none := by
  cases h <;> simp
theorem isi_tup {ms : List Addr} {K : PySem.W.Frag} {H : Hp} {v : V} {d : PyData} {Q : VK} (h : An ms H v d) (q : Q (.bl (isTup d)) H) : rIsi K [v, .ty "tuple"] H Q := by
  obtain ⟨t, a, b⟩ := h.tupK (K := K)
  exact ⟨v, .ty "tuple", t, .type "tuple", _, rfl, .ty "tuple", a, b, q⟩
theorem isi_str {ms : List Addr} {K : PySem.W.Frag} {H : Hp} {v : V} {d : PyData} {Q : VK} (h : An ms H v d) (q : Q (.bl (isStr d)) H) : rIsi K [v, .ty "str"] H Q := by
  obtain ⟨t, a, b⟩ := h.strK (K := K)
  exact ⟨v, .ty "str", t, .type "str", _, rfl, .ty "str", a, b, q⟩
end Ey
set_option maxHeartbeats 4000000
namespace Ey
open PySem PySem.Spec L2
section
variable {Pr : Program} {w : World} {K : PySem.W.Frag} {mg : Str → Option Value} {base : Heap} {ms : List Addr} {fT cT P : Addr} {dT : FuncData}
theorem wd_get {ds : List PyData} {i : Nat} {d : PyData} (h : ds[i]? = some d) : wd d + 2 ≤ wdAll ds := by
  induction ds generalizing i with
  | nil => cases h
  | cons x r ih =>
    cases i with
    | zero =>
      have q : x = d := Option.some.inj h
      rw [q]
      show wd d + 2 ≤ wd d + 2 + wdAll r
      omega
    | succ i =>
      have := ih h
      show wd d + 2 ≤ wd x + 2 + wdAll r
      omega
theorem len_wd (ds : List PyData) : ds.length ≤ wdAll ds := by
  induction ds with
  | nil => exact Nat.le_refl _
  | cons x r ih =>
    show r.length + 1 ≤ wd x + 2 + wdAll r
    omega
/-! ### is_tag of any value -/
def spTagA (ms : List Addr) (P : Addr) : Sp := fun vs H Q _ => ∃ (v : V) (d : PyData), vs = [v] ∧ An ms H v d ∧ wd d ≤ 1000000 ∧ GxR.TabG H P ∧ ∀ H', Tb P H H' → Q (.bl (isTagD d)) H'
theorem ok_tagA (A : PF K mg fT cT dT) (b : BF base mg cT P) : FnOk Pr w K mg base CX0 1 fT dT ["thing"] (spTagA ms P) := by
  obtain ⟨tL, mL⟩ := A.lett
  obtain ⟨tT, mT⟩ := A.tlen
  have B := A.B
  obtain ⟨oc, od, kV, doc, pm, an, ct, osl, rfl, lk, code⟩ := A.tag.ex
  refine fn_of lk code scTag (fun vs H Q E h => ?_) (fun A outer s H vs Q E hr h => ?_)
  · obtain ⟨v, d, rfl, _⟩ := h
    rfl
  · obtain ⟨v, d, rfl, hv, hz, hT, k⟩ := h
    refine ⟨_, pss_one (ps_ret (pe_and (pe_callB call_isi (by rfl) B.isi (by decide +kernel) (pa_cons (pv 0) (pa_cons (pe_bltn (v := .ty "str") (by rfl) B.str (by decide +kernel) rfl) pa_nil)))
      (pe_and (pe_chain op_le op_le pe_int (pe_callB call_len_str (by rfl) B.len PySem.boot_len (pa_cons (pv 0) pa_nil)) (pe_glob (v := .int 8) (by rfl) mT ⟨_, rfl⟩))
        (pe_one (pe_allG (P := P) (c := cT) hr (by rfl) B.all (by decide +kernel) b.TB rfl ⟨rfl, rfl, by decide +kernel, rfl, rfl, (by intro y hy e; exfalso; revert y; decide +kernel)⟩ (pv 0) (elt_inG rfl rfl rfl rfl b.M mL) (fun _ => rfl)))))), ?_⟩
    have kH := k H (tb_refl hT)
    obtain ⟨ty, hty, kty⟩ := hv.strK (K := K)
    refine ⟨_, rfl, _, .ty "str", ty, .type "str", _, rfl, .ty "str", hty, kty, ?_⟩
    cases hv with
    | non => exact ⟨false, rfl, iteF kH⟩
    | bl b => exact ⟨false, rfl, iteF kH⟩
    | int i => exact ⟨false, rfl, iteF kH⟩
    | lst e => exact ⟨false, rfl, iteF kH⟩
    | tup e => exact ⟨false, rfl, iteF kH⟩
    | dct e => exact ⟨false, rfl, iteF kH⟩
    | str g =>
      refine ⟨true, rfl, iteT ?_⟩
      have hg : g.length ≤ sizeLine := by
        have h1 : 10 * g.length + 2 ≤ 1000000 := hz
        exact Nat.le_trans (show g.length ≤ 1000000 by omega) (by decide)
      have fin : ∀ b, isTag g = b → Q (.bl b) H := fun b e => by
        rw [← e]
        exact kH
      refine ⟨_, rfl, _, rfl, hg, _, _, rfl, rfl, _, rfl, ?_⟩
      by_cases h1 : 1 ≤ g.length
      · rw [decide_eq_true (show (1 : Int) ≤ (g.length : Int) by omega)]
        refine iteT ⟨_, _, rfl, rfl, _, rfl, ?_⟩
        by_cases h2 : g.length ≤ 8
        · rw [decide_eq_true (show (g.length : Int) ≤ 8 by omega)]
          refine iteT ⟨_, rfl, g, rfl, hT, fun H2 h => ?_⟩
          have q : Q (.bl (isTag g)) H2 := k H2 h
          rw [isTag, decide_eq_true h1, decide_eq_true h2] at q
          rw [abc_is]
          exact q
        · rw [decide_eq_false (show ¬ (g.length : Int) ≤ 8 by omega)]
          refine iteF (fin _ ?_)
          rw [isTag, decide_eq_false h2, Bool.and_false]
          rfl
      · rw [decide_eq_false (show ¬ (1 : Int) ≤ (g.length : Int) by omega)]
        refine iteF ⟨_, rfl, iteF (fin _ ?_)⟩
        rw [isTag, decide_eq_false h1]
        rfl
/-! ### is_tree of any value -/
theorem all_tri {ds : List PyData} (h : ds.length ≠ 3) : tri ds (isTs ds) = false := by
  match ds, h with
  | [], _ => rfl
  | [_], _ => rfl
  | [_, _], _ => rfl
  | [_, _, _], h => exact absurd rfl h
  | _ :: _ :: _ :: _ :: _, _ => rfl
def spIsTreeA (ms : List Addr) (P : Addr) : Sp := fun vs H Q _ => ∃ (v : V) (d : PyData), vs = [v] ∧ An ms H v d ∧ wd d ≤ 1000000 ∧ P ∈ ms ∧ GxR.TabG H P ∧ ∀ H', GxR.TabG H' P → Kp [P] H H' → Q (.bl (isT d)) H'
theorem ok_isTreeA {f : Addr} {fd : FuncData} (F : Fun K "is_tree" "is_tree" sIsTree f fd) (A : PF K mg fT cT dT) (b : BF base mg cT P) : FnOk Pr w K mg base CX0 2 f fd ["thing"] (spIsTreeA ms P) := by
  refine F.ok scIsTree (fun vs H Q E h => ?_) (fun cdv Ar outer s H vs Q E hr h => ?_)
  · obtain ⟨v, d, rfl, _⟩ := h
    rfl
  · obtain ⟨v, d, rfl, hv, hz, hP, g, k⟩ := h
    have sub : ∀ x ∈ [P], x ∈ ms := fun x hx => by
      rw [List.mem_singleton.mp hx]
      exact hP
    refine ⟨_, pss_cons (ps_set (i := 1) scIsTree.nd rfl (.inl rfl) (pe_lst (pa_cons (pv 0) pa_nil)))
      (pss_cons (ps_while PassesOwn.never (pt_truth (pv 1) (by intro _; rfl))
        (pss_cons (ps_set (i := 2) scIsTree.nd rfl (.inl rfl) (pe_bm0 PySem.F.plainAttrs_list PySem.F.slot_list_pop PySem.F.type_list_pop mt_pop (pv 1)))
        (pss_cons (ps_if (pt_cmpR op_isN (pv 2) pe_non (nomark _)) (pss_one ps_continue) pss_nil)
        (pss_cons (ps_if (PW.pt (pw_or (pt_not (pt_val (pe_callB call_isi (by rfl) A.B.isi (by decide +kernel) (pa_cons (pv 2) (pa_cons (pe_bltn (v := .ty "tuple") (by rfl) A.B.tuple (by decide +kernel) rfl) pa_nil)))))
            (pw_or (pt_cmpR op_ne (pe_callB call_len_seq (by rfl) A.B.len PySem.boot_len (pa_cons (pv 2) pa_nil)) pe_int (nomark _))
            (pw_or1 (pt_not (pt_val (pe_call (ok_tagA (ms := ms) A b) hr (by rfl) A.tag.g A.tag.F.kp A.tag.b .nil pass0 (pa_cons (pe_ix ix_tup (pv 2) pe_int (fun _ _ => rfl)) pa_nil))))))))
          (pss_one (ps_ret pe_bl)) pss_nil)
        (pss_cons (ps_expr (pe_bm PySem.F.plainAttrs_list PySem.F.slot_list_append PySem.F.type_list_append mt_append (pv 1) (pa_cons (pe_ix ix_tup (pv 2) pe_int (fun _ _ => rfl)) pa_nil)))
        (pss_one (ps_expr (pe_bm PySem.F.plainAttrs_list PySem.F.slot_list_append PySem.F.type_list_append mt_append (pv 1) (pa_cons (pe_ix ix_tup (pv 2) pe_int (fun _ _ => rfl)) pa_nil)))))))))
      (pss_one (ps_ret pe_bl))), ?_⟩
    refine ⟨_, rfl, by show 1 ≤ sizeLine; decide, fun wl nw => ?_⟩
    have nPw : P ≠ wl := by
      obtain ⟨ps, e, _⟩ := g
      exact ne_of_none e nw
    refine ⟨fun m σ H2 => ∃ (us : List V) (ds : List PyData) (y : Option V), σ = [some v, some (.ref wl), y] ∧ H2 wl = some (.lst us.reverse) ∧ AnAll ms H us ds ∧ m = wdAll ds ∧ wdAll ds ≤ wd d + 2 ∧ ds.all isT = isT d ∧ GxR.TabG H2 P ∧ Kp [P] H H2,
      ⟨_, [v], [d], none, rfl, upd_same, .cons hv .nil, rfl, Nat.le_refl _, by simp, tabg_upd g nPw, .new nw⟩, fun m σ H2 hw => ?_⟩
    obtain ⟨us, ds, y, rfl, hl, hp, rfl, hm, hall, g2, k2⟩ := hw
    refine ⟨_, rfl, _, .inl ⟨_, sql_of hl, rfl⟩, ?_⟩
    cases hp with
    | nil =>
      refine iteF ?_
      have e : isT d = true := hall.symm
      exact e ▸ k H2 g2 k2
    | @cons x us d1 ds hx hp =>
      have e0 : (!((x :: us).reverse).isEmpty) = true := by simp
      rw [e0]
      refine iteT ⟨fun σ' H' => ∃ m', m' < wdAll (d1 :: ds) ∧ ∃ (us : List V) (ds : List PyData) (y : Option V), σ' = [some v, some (.ref wl), y] ∧ H' wl = some (.lst us.reverse) ∧ AnAll ms H us ds ∧ m' = wdAll ds ∧ wdAll ds ≤ wd d + 2 ∧ ds.all isT = isT d ∧ GxR.TabG H' P ∧ Kp [P] H H', fun _ _ h => h, ?_⟩
      -- part = waiting.pop()
      refine ⟨_, rfl, .inl ⟨rfl, _, sql_of hl⟩, wl, _, x, rfl, rfl, hl, pile_top x us, ?_⟩
      rw [pile_pop]
      have k3 : Kp [P] H (upd H2 wl (.lst us.reverse)) := k2.own nw
      have hl3 : (upd H2 wl (.lst us.reverse)) wl = some (.lst us.reverse) := upd_same
      have g3 : GxR.TabG (upd H2 wl (.lst us.reverse)) P := tabg_upd g2 nPw
      generalize upd H2 wl (.lst us.reverse) = H3 at k3 hl3 g3
      have hm' : wd d1 + 2 + wdAll ds ≤ wd d + 2 := hm
      have hall' : (isT d1 && ds.all isT) = isT d := hall
      have h3 := hx.kp k3 sub d1
      have stop : isT d1 = false → ∀ H', GxR.TabG H' P → Kp [P] H H' → Q (.bl false) H' := fun e H' g' k' => by
        rw [e, Bool.false_and] at hall'
        exact hall' ▸ k H' g' k'
      have rest : ∀ (xs : List V) (es : List PyData) (a : Addr), H3 a = some (.tup xs) → AnAll ms H xs es → d1 = .tuple es → xs.length = 3 → True := fun _ _ _ _ _ _ _ => trivial
      obtain ⟨ty, hty, kty⟩ := h3.tupK (K := K)
      cases hx with
      | non =>
        refine ⟨_, rfl, rfl, _, rfl, iteT ?_⟩
        exact ⟨_, by show wdAll ds < wd .none + 2 + wdAll ds; omega, us, ds, _, rfl, hl3, hp, rfl, by omega, hall', g3, k3⟩
      | bl b =>
        refine ⟨_, rfl, rfl, _, rfl, iteF ?_⟩
        exact ⟨_, rfl, _, .ty "tuple", ty, .type "tuple", _, rfl, .ty "tuple", hty, kty, false, rfl, iteT (stop rfl H3 g3 k3)⟩
      | int i =>
        refine ⟨_, rfl, rfl, _, rfl, iteF ?_⟩
        exact ⟨_, rfl, _, .ty "tuple", ty, .type "tuple", _, rfl, .ty "tuple", hty, kty, false, rfl, iteT (stop rfl H3 g3 k3)⟩
      | str z =>
        refine ⟨_, rfl, rfl, _, rfl, iteF ?_⟩
        exact ⟨_, rfl, _, .ty "tuple", ty, .type "tuple", _, rfl, .ty "tuple", hty, kty, false, rfl, iteT (stop rfl H3 g3 k3)⟩
      | lst eo =>
        refine ⟨_, rfl, rfl, _, rfl, iteF ?_⟩
        exact ⟨_, rfl, _, .ty "tuple", ty, .type "tuple", _, rfl, .ty "tuple", hty, kty, false, rfl, iteT (stop rfl H3 g3 k3)⟩
      | dct eo =>
        refine ⟨_, rfl, rfl, _, rfl, iteF ?_⟩
        exact ⟨_, rfl, _, .ty "tuple", ty, .type "tuple", _, rfl, .ty "tuple", hty, kty, false, rfl, iteT (stop rfl H3 g3 k3)⟩
      | @tup a xs es eo hes =>
        have e := k3.tup _ _ eo
        have ln := hes.length
        refine ⟨_, rfl, rfl, _, rfl, iteF ?_⟩
        refine ⟨_, rfl, _, .ty "tuple", ty, .type "tuple", _, rfl, .ty "tuple", hty, kty, true, rfl, iteF ?_⟩
        refine ⟨_, rfl, a, _, rfl, .inr (sqt_of e), rfl, _, rfl, ?_⟩
        by_cases h3l : es.length = 3
        · match es, hes, h3l with
          | [c0, c1, c2], .cons (v := v0) a0 (.cons (v := v1) a1 (.cons (v := v2) a2 .nil)), _ =>
            refine iteF ?_
            have w0 : wd c0 + 2 + (wd c1 + 2 + (wd c2 + 2 + 0)) + 3 + 2 + wdAll ds ≤ wd d + 2 := hm'
            refine ⟨_, rfl, a, _, _, _, rfl, rfl, sqt_of e, atI_nat (j := 0) rfl, _, c0, rfl, a0.kp k3 sub c0, by omega, g3, fun H4 tb4 => ?_⟩
            have k34 : Kp [P] H3 H4 := tb_kp g3 tb4
            have k4 : Kp [P] H H4 := k3.trans k34
            cases et : isTagD c0 with
            | false =>
              refine ⟨false, rfl, iteT (stop ?_ H4 tb4.1 k4)⟩
              show (isTagD c0 && (isT c1 && isT c2)) = false
              rw [et]
              rfl
            | true =>
              refine ⟨true, rfl, iteF ?_⟩
              have e4 := k34.tup _ _ e
              have hl4 : H4 wl = some (.lst us.reverse) := k34.at_ _ _ hl3 (by simp [nPw.symm])
              have hlen := hp.length
              have hw := len_wd ds
              refine ⟨_, rfl, .inl ⟨rfl, _, sql_of hl4⟩, _, rfl, a, _, _, _, rfl, rfl, sqt_of e4, atI_nat (j := 1) rfl, wl, _, v1, rfl, rfl, hl4, ?_, ?_⟩
              · rw [List.length_reverse]
                exact Nat.lt_of_le_of_lt (show us.length ≤ 1000002 by omega) (by decide)
              rw [pile_push]
              have hl5 : (upd H4 wl (.lst (v1 :: us).reverse)) wl = some (.lst (v1 :: us).reverse) := upd_same
              have k5 : Kp [wl] H4 (upd H4 wl (.lst (v1 :: us).reverse)) := .put (by simp) hl4 (fun xs z => by cases z)
              have g5 : GxR.TabG (upd H4 wl (.lst (v1 :: us).reverse)) P := tabg_upd tb4.1 nPw
              have kH5 : Kp [P] H (upd H4 wl (.lst (v1 :: us).reverse)) := k4.own nw
              generalize upd H4 wl (.lst (v1 :: us).reverse) = H5 at hl5 k5 g5 kH5
              refine ⟨_, rfl, .inl ⟨rfl, _, sql_of hl5⟩, _, rfl, a, _, _, _, rfl, rfl, sqt_of (k5.tup _ _ e4), atI_nat (j := 2) rfl, wl, _, v2, rfl, rfl, hl5, ?_, ?_⟩
              · rw [List.length_reverse]
                exact Nat.lt_of_le_of_lt (show us.length + 1 ≤ 1000003 by omega) (by decide)
              rw [pile_push]
              refine ⟨_, ?_, v2 :: v1 :: us, c2 :: c1 :: ds, _, rfl, upd_same, .cons a2 (.cons a1 hp), rfl, ?_, ?_, tabg_upd g5 nPw, kH5.own nw⟩
              · show wd c2 + 2 + (wd c1 + 2 + wdAll ds) < wd c0 + 2 + (wd c1 + 2 + (wd c2 + 2 + 0)) + 3 + 2 + wdAll ds
                omega
              · show wd c2 + 2 + (wd c1 + 2 + wdAll ds) ≤ wd d + 2
                omega
              · have q : (isTagD c0 && (isT c1 && isT c2) && ds.all isT) = isT d := hall'
                rw [et, Bool.true_and] at q
                show (isT c2 && (isT c1 && ds.all isT)) = isT d
                rw [← q]
                cases isT c1 <;> cases isT c2 <;> rfl
        · refine ite2 (fun _ => ?_) (fun q => ?_)
          · exact stop (all_tri h3l) H3 g3 k3
          · have e1 : decide (V.int (xs.length : Int) = V.int 3) = false := decide_eq_false fun z => h3l (by
              have := V.int.inj z
              omega)
            rw [e1] at q
            exact absurd rfl q
end
end Ey
set_option maxHeartbeats 4000000
namespace Ey
open PySem PySem.Spec L2
/-- the dict of positions -/
structure PosF (K : PySem.W.Frag) (w : World) (mg : Str → Option Value) (d : Addr) : Prop where
  g : mg "POSITIONS" = some (.ref d)
  D : ∃ es n, KDict K w d es n
  l : ∃ t, PySem.W.nsIn K d "l" = some (some (.int 1 t))
  r : ∃ t, PySem.W.nsIn K d "r" = some (some (.int 2 t))
  x : PySem.W.nsIn K d "x" = some none
theorem PosF.dl {K : PySem.W.Frag} {w : World} {mg : Str → Option Value} {d : Addr} (p : PosF K w mg d) : KDct K w d (st [108]) (.int 1) := by
  obtain ⟨es, n, D⟩ := p.D
  obtain ⟨t, h⟩ := p.l
  exact ⟨es, n, _, D.at_, D.lit, s_l ▸ h, ⟨t, rfl⟩⟩
theorem PosF.dr {K : PySem.W.Frag} {w : World} {mg : Str → Option Value} {d : Addr} (p : PosF K w mg d) : KDct K w d (st [114]) (.int 2) := by
  obtain ⟨es, n, D⟩ := p.D
  obtain ⟨t, h⟩ := p.r
  exact ⟨es, n, _, D.at_, D.lit, s_r ▸ h, ⟨t, rfl⟩⟩
theorem drop_at {p : List Nat} {i c : Nat} (h : p[i]? = some c) : p.drop i = c :: p.drop (i + 1) := by
  obtain ⟨hi, e⟩ := List.getElem?_eq_some_iff.mp h
  rw [List.drop_eq_getElem_cons hi, e]
theorem s_x : (Str.ofString "x") = st [120] := by decide +kernel
/-- whether data is a place of a tree -/
def isPD (t : Tr) : PyData → Bool
  | .str g => isP t g.cps.toList
  | .none | .bool _ | .int _ | .list _ | .tuple _ | .dict _ => false
def lrx (d : PyData) : Prop := ∀ g, d = .str g → g.length ≤ 2000 ∧ ∀ c ∈ g.cps.toList, c = 108 ∨ c = 114 ∨ c = 120
abbrev sIsPlace : Stmt := topS 13
section
variable {Pr : Program} {w : World} {K : PySem.W.Frag} {mg : Str → Option Value} {base : Heap} {ms : List Addr} {fT cT P dP : Addr} {dT : FuncData}
/-! ### has_place -/
theorem scHas : FnScope ["tree", "thing", "part", "letter"] ["tree", "thing"] (defScope sHas) := ⟨rfl, rfl, rfl, by decide +kernel, rfl, by decide +kernel, by decide +kernel⟩
def spHasA (ms : List Addr) : Sp := fun vs H Q _ => ∃ (v x : V) (t : Tr) (d : PyData), vs = [v, x] ∧ TreeAt H v t ∧ An ms H x d ∧ lrx d ∧ Q (.bl (isPD t d)) H
theorem ok_hasA {f : Addr} {fd : FuncData} (F : Fun K "has_place" "has_place" sHas f fd) (B : BI mg) (Po : PosF K w mg dP) : FnOk Pr w K mg base CX0 1 f fd ["tree", "thing"] (spHasA ms) := by
  refine F.ok scHas (fun vs H Q E h => ?_) (fun cdv Ar outer s H vs Q E hr h => ?_)
  · obtain ⟨v, x, t, d, rfl, _⟩ := h
    rfl
  · obtain ⟨v, x, t, d, rfl, T, hx, hl, k⟩ := h
    obtain ⟨es, n, D⟩ := Po.D
    refine ⟨_, pss_cons (ps_if (pt_not (pt_val (pe_callB call_isi (by rfl) B.isi (by decide +kernel) (pa_cons (pv 1) (pa_cons (pe_bltn (v := .ty "str") (by rfl) B.str (by decide +kernel) rfl) pa_nil))))) (pss_one (ps_ret pe_bl)) pss_nil)
      (pss_cons (ps_set (i := 2) scHas.nd rfl (.inl rfl) (pv 0))
      (pss_cons (ps_for PassesOwn.never rfl (pi_str (pv 1)) (pg_name (i := 3) scHas.nd rfl (.inl rfl))
        (pss_cons (ps_if (PW.pt (pw_or (pt_cmpR op_isN (pv 2) pe_non (nomark _)) (pw_or1 (pt_cmpR (op_notIn_kd D) (pv 3) (pe_glob (v := .ref dP) (by rfl) Po.g rfl) (by rfl))))) (pss_one (ps_ret pe_bl)) pss_nil)
        (pss_one (ps_set (i := 2) scHas.nd rfl (.inl rfl) (pe_ix ix_tup (pv 2) (pe_ix ix_kdict (pe_glob (v := .ref dP) (by rfl) Po.g rfl) (pv 3) (fun _ _ => rfl)) (fun _ _ => rfl))))))
      (pss_one (ps_ret pe_bl)))), ?_⟩
    obtain ⟨ty, hty, kty⟩ := hx.strK (K := K)
    refine ⟨_, rfl, _, .ty "str", ty, .type "str", _, rfl, .ty "str", hty, kty, ?_⟩
    cases hx with
    | non => exact ⟨false, rfl, iteT k⟩
    | bl b => exact ⟨false, rfl, iteT k⟩
    | int i => exact ⟨false, rfl, iteT k⟩
    | lst e => exact ⟨false, rfl, iteT k⟩
    | tup e => exact ⟨false, rfl, iteT k⟩
    | dct e => exact ⟨false, rfl, iteT k⟩
    | str g =>
      refine ⟨true, rfl, iteF ?_⟩
      have hs := (hl g rfl).2
      refine ⟨_, rfl, _, rfl, g, rfl, for_str (x := g) (fun i σ H2 => ∃ (v' : V) (t' : Tr) (y : Option V), σ = [some v, some (.str g), some v', y] ∧ H2 = H ∧ TreeAt H v' t' ∧ isP t' (g.cps.toList.drop i) = isP t g.cps.toList)
        ⟨v, t, none, rfl, rfl, T, rfl⟩ ?_ ?_⟩
      · rintro i c σ H2 hi ⟨v', t', y, rfl, rfl, T', hp'⟩
        have hi' : g.cps.toList[i]? = some c := hi
        rw [drop_at hi'] at hp'
        have k' : ∀ b, isP t g.cps.toList = b → Q (.bl b) H2 := fun b e => e ▸ k
        cases T' with
        | nil =>
          refine ⟨_, rfl, rfl, true, rfl, iteT ?_⟩
          exact k' false hp'.symm
        | @nd a tg l m x1 x2 e T1 T2 =>
          refine ⟨_, rfl, rfl, false, rfl, iteF ?_⟩
          rcases hs c (List.mem_of_getElem? hi') with rfl | rfl | rfl
          · obtain ⟨t1, h1⟩ := Po.l
            refine ⟨_, rfl, st [108], _, rfl, rfl, s_l ▸ h1, false, rfl, iteF ?_⟩
            exact ⟨_, rfl, _, rfl, dP, st [108], .int 1, rfl, rfl, Po.dl, a, _, _, _, rfl, rfl, sqt_of e, atI_nat (j := 1) rfl, x1, l, _, rfl, rfl, T1, hp'⟩
          · obtain ⟨t1, h1⟩ := Po.r
            refine ⟨_, rfl, st [114], _, rfl, rfl, s_r ▸ h1, false, rfl, iteF ?_⟩
            exact ⟨_, rfl, _, rfl, dP, st [114], .int 2, rfl, rfl, Po.dr, a, _, _, _, rfl, rfl, sqt_of e, atI_nat (j := 2) rfl, x2, m, _, rfl, rfl, T2, hp'⟩
          · refine ⟨_, rfl, st [120], _, rfl, rfl, s_x ▸ Po.x, true, rfl, iteT ?_⟩
            exact k' false hp'.symm
      · rintro σ H2 ⟨v', t', y, rfl, rfl, T', hp'⟩
        rw [List.drop_length, isP_nil] at hp'
        have k' : ∀ b, isP t g.cps.toList = b → Q (.bl b) H2 := fun b e => e ▸ k
        exact k' true hp'.symm
/-- the program's defs, as callers need them -/
structure Prog (K : PySem.W.Frag) (w : World) (mg : Str → Option Value) (fT cT dP f1 f2 f3 f4 f5 f6 : Addr) (dT d1 d2 d3 d4 d5 d6 : FuncData) : Prop where
  A : PF K mg fT cT dT
  po : PosF K w mg dP
  isTree : Df K mg "is_tree" sIsTree ["thing"] f1 d1
  check : Df K mg "check_tree" sCheck ["tree"] f2 d2
  stand : Df K mg "standing" sStand ["tree"] f3 d3
  places : Df K mg "places" sPlaces ["tree"] f4 d4
  has : Df K mg "has_place" sHas ["tree", "thing"] f5 d5
  isPlace : Df K mg "is_place" sIsPlace ["tree", "thing"] f6 d6
variable {f1 f2 f3 f4 f5 f6 : Addr} {d1 d2 d3 d4 d5 d6 : FuncData}
/-! ### places -/
theorem scPlaces : FnScope ["tree"] ["tree"] (defScope sPlaces) := ⟨rfl, rfl, rfl, by decide +kernel, rfl, by decide +kernel, by decide +kernel⟩
def spPlaces (P : Addr) : Sp := fun vs H Q _ => ∃ (v : V) (t : Tr), vs = [v] ∧ TreeAt H v t ∧ t.ok ∧ t.sz ≤ 1000 ∧ GxR.TabG H P ∧
  ∀ (q : Addr) (H' : Hp), H q = none → H' q = some (.tup ((pl t).map fun p => V.str (st p))) → GxR.TabG H' P → Kp [P] H H' → Q (.ref q) H'
theorem ok_places (G : Prog K w mg fT cT dP f1 f2 f3 f4 f5 f6 dT d1 d2 d3 d4 d5 d6) (b : BF base mg cT P) : FnOk Pr w K mg base CX0 4 f4 d4 ["tree"] (spPlaces P) := by
  refine G.places.F.ok scPlaces (fun vs H Q E h => ?_) (fun cdv Ar outer s H vs Q E hr h => ?_)
  · obtain ⟨v, t, rfl, _⟩ := h
    rfl
  · obtain ⟨v, t, rfl, T, ok, sz, g, k⟩ := h
    refine ⟨_, pss_cons (ps_expr (pe_call (ok_check G.check.F G.isTree G.A b) hr (by rfl) G.check.g G.check.F.kp G.check.b .nil pass0 (pa_cons (pv 0) pa_nil)))
      (pss_one (ps_ret (pe_callTy (call_tupD rfl) (by rfl) G.A.B.tuple (by decide +kernel) (pa_cons (pe_call (ok_stand G.stand.F) (hr.mono (by decide)) (by rfl) G.stand.g G.stand.F.kp G.stand.b .nil pass0 (pa_cons (pv 0) pa_nil)) pa_nil)))), ?_⟩
    refine ⟨_, rfl, v, t, rfl, T, ok, sz, g, fun H1 g1 k1 => ?_⟩
    refine ⟨_, rfl, v, t, rfl, T.kp k1, sz, fun d kvs H2 nd hd hk k2 => ?_⟩
    refine ⟨d, kvs, rfl, hd, fun q nq => ?_⟩
    have nPd : P ∉ ([] : List Addr) := List.not_mem_nil
    have g2 : GxR.TabG H2 P := tabg_kp g1 k2 nPd
    have nPq : P ≠ q := by
      obtain ⟨ps', e, _⟩ := g2
      exact ne_of_none e nq
    have k3 : Kp [P] H (upd H2 q (.tup (kvs.map fun kv => kV kv.1))) := k1.trans ((k2.more (by simp)).trans (.new nq))
    refine k q _ ((k1.trans (k2.more (by simp))).free nq (by simp [nPq.symm])) ?_ (tabg_upd g2 nPq) k3
    rw [upd_same, hk.keys, ← ps_fst, List.map_map]
    rfl
/-! ### is_place -/
theorem scIsPlace : FnScope ["tree", "thing"] ["tree", "thing"] (defScope sIsPlace) := ⟨rfl, rfl, rfl, by decide +kernel, rfl, by decide +kernel, by decide +kernel⟩
def spIsPlace (ms : List Addr) (P : Addr) : Sp := fun vs H Q _ => ∃ (v x : V) (t : Tr) (d : PyData), vs = [v, x] ∧ TreeAt H v t ∧ t.ok ∧ t.sz ≤ 1000 ∧ An ms H x d ∧ lrx d ∧ P ∈ ms ∧ GxR.TabG H P ∧
  ∀ (H' : Hp), GxR.TabG H' P → Kp [P] H H' → Q (.bl (isPD t d)) H'
theorem ok_isPlace (G : Prog K w mg fT cT dP f1 f2 f3 f4 f5 f6 dT d1 d2 d3 d4 d5 d6) (b : BF base mg cT P) : FnOk Pr w K mg base CX0 4 f6 d6 ["tree", "thing"] (spIsPlace ms P) := by
  refine G.isPlace.F.ok scIsPlace (fun vs H Q E h => ?_) (fun cdv Ar outer s H vs Q E hr h => ?_)
  · obtain ⟨v, x, t, d, rfl, _⟩ := h
    rfl
  · obtain ⟨v, x, t, d, rfl, T, ok, sz, hx, hl, hP, g, k⟩ := h
    refine ⟨_, pss_cons (ps_expr (pe_call (ok_check G.check.F G.isTree G.A b) hr (by rfl) G.check.g G.check.F.kp G.check.b .nil pass0 (pa_cons (pv 0) pa_nil)))
      (pss_one (ps_ret (pe_call (ok_hasA (ms := ms) G.has.F G.A.B G.po) (hr.mono (by decide)) (by rfl) G.has.g G.has.F.kp G.has.b .nil pass0 (pa_cons (pv 0) (pa_cons (pv 1) pa_nil))))), ?_⟩
    refine ⟨_, rfl, v, t, rfl, T, ok, sz, g, fun H1 g1 k1 => ?_⟩
    refine ⟨_, rfl, _, rfl, v, x, t, d, rfl, T.kp k1, hx.kp k1 (fun y hy => ?_) d, hl, k H1 g1 k1⟩
    rw [List.mem_singleton.mp hy]
    exact hP
end
end Ey
set_option maxHeartbeats 4000000
namespace Ey
open PySem PySem.Calls PySem.Spec PyProof.Rows L2 HT
section
variable {prog : Program} {w : World} {A : Around} {E : Value → Shared → Prop} {s : Shared}
theorem ey_steps (n : Nat) : Builtin.Slice.slicePlaces ((n : Int) - 1) (-1) (-1) = n := by
  unfold Builtin.Slice.slicePlaces
  rw [if_neg (by decide)]
  by_cases hn : (n : Int) - 1 > -1
  · rw [if_pos hn]
    have q : (- -1 : Int) = 1 := by decide
    rw [q, Int.ediv_one]
    omega
  · rw [if_neg hn]
    omega
theorem ey_applied_rev {sl : Addr} {vl vu vs : Value} {n : Nat} {Q : Int × Int × Nat → Shared → Prop} (q : s.heap.IsSliceOf sl vl vu vs) (pl : IsPart vl none) (pu : IsPart vu none) (ps : IsPart vs (some (-1)))
    (h : Q ((n : Int) - 1, -1, n) s) : wpAny (model prog w) A (Builtin.Slice.sliceApplied (.ref sl) (pure (n : Int))) Q E s := by
  obtain ⟨ob, hob, hcl, hda⟩ := id q
  unfold Builtin.Slice.sliceApplied Builtin.Slice.sliceFields
  refine wpAny_bind (wpAny_bind (wpAny_field hob hda (x := vl) rfl (wpAny_bind (wpAny_field hob hda (x := vu) rfl (wpAny_bind (wpAny_field hob hda (x := vs) rfl (wpAny_pure ?_)))))))
  refine wpAny_bind (slicePart_ ps ?_)
  show wpAny _ _ (if ((-1 : Int) == 0) = true then _ else _) _ _ s
  rw [if_neg (by decide)]
  refine wpAny_bind (slicePart_ pl (wpAny_bind (slicePart_ pu (wpAny_bind (wpAny_pure ?_)))))
  show wpAny _ _ (pure ((n : Int) - 1, (-1 : Int), Builtin.Slice.slicePlaces ((n : Int) - 1) (-1) (-1))) _ _ s
  rw [ey_steps]
  exact wpAny_pure h
theorem ey_back (xs : Array Value) : ((List.range xs.size).filterMap fun (m : Nat) => xs[((xs.size : Int) - 1 + (m : Int) * -1).toNat]?).toArray = xs.toList.reverse.toArray := by
  congr 1
  refine List.ext_getElem? fun i => ?_
  have key : ∀ m, m < xs.size → xs[((xs.size : Int) - 1 + (m : Int) * -1).toNat]? = (xs.toList.reverse)[m]? := fun m hm => by
    have e : ((xs.size : Int) - 1 + (m : Int) * -1).toNat = xs.size - 1 - m := by omega
    rw [e, List.getElem?_reverse (by rw [Array.length_toList]; exact hm), Array.length_toList, Array.getElem?_toList]
  have all : ∀ l : List Nat, (∀ m ∈ l, m < xs.size) → (l.filterMap fun (m : Nat) => xs[((xs.size : Int) - 1 + (m : Int) * -1).toNat]?) = l.filterMap fun m => (xs.toList.reverse)[m]? := fun l => by
    induction l with
    | nil => intro _; rfl
    | cons a r ih =>
      intro h
      rw [List.filterMap_cons, List.filterMap_cons, key a (h a List.mem_cons_self), ih fun m hm => h m (List.mem_cons_of_mem _ hm)]
  rw [all _ fun m hm => List.mem_range.mp hm]
  have fin : ∀ ys : List Value, (List.range ys.length).filterMap (fun m => ys[m]?) = ys := fun ys => by
    induction ys with
    | nil => rfl
    | cons y r ih =>
      rw [List.length_cons, List.range_succ_eq_map, List.filterMap_cons]
      show y :: List.filterMap _ _ = _
      rw [List.filterMap_map]
      exact congrArg (List.cons y) ih
  have := fin xs.toList.reverse
  rw [List.length_reverse, Array.length_toList] at this
  rw [this]
theorem ey_tuple_rev {tp sl : Addr} {items : Array Value} {vl vu vs : Value} {Q : Value → Shared → Prop} (it : IsTup s.heap tp items) (q : s.heap.IsSliceOf sl vl vu vs) (pl : IsPart vl none) (pu : IsPart vu none) (ps : IsPart vs (some (-1)))
    (h : Q (.ref s.heap.objs.size) { s with heap := s.heap.push { cls := .type "tuple", data := .seq items.toList.reverse.toArray } })
    (hz : items.size ≤ sizeLine) : wpAny (model prog w) A (getItem (.ref tp) (.ref sl)) Q E s := by
  have fits : sizeOk (.seq items.toList.reverse.toArray) := by
    show items.toList.reverse.toArray.size ≤ sizeLine
    rw [List.size_toArray, List.length_reverse, Array.length_toList]
    exact hz
  obtain ⟨ob, hob, hcl, hda⟩ := id q
  have kind : s.TypeIs (.ref sl) "slice" := ⟨ob, hob, hcl⟩
  unfold getItem
  try with_reducible refine wpAny_holding ?_
  first | refine wpAny_bind (wpAny_pure ?_) | skip
  refine wpAny_bind (wpAny_sequenceKey it.typeIs (by decide) ?_)
  refine wpAny_bind (wpAny_callSpecial?_slot (name := Str.ofString "__getitem__") it.typeIs PyProof.Rows.slot_tuple_getitem (wpAny_call_entry PyProof.Rows.slot_tuple_getitem it.typeIs entry_tuple_getitem ?_ (args_tuple_getitem _ _)))
  show wpAny _ _ (Builtin.Tuple.tupleItemsOf (.ref tp) >>= _) _ _ s
  refine wpAny_bind (tupleItemsOf_ it ?_)
  refine wpAny_bind (wpAny_typeOf kind ?_)
  rw [if_pos (by decide)]
  refine wpAny_bind (ey_applied_rev q pl pu ps ?_)
  have off : ¬ ((((items.size : Int) - 1 == 0) && ((-1 : Int) == 1) && (items.size == items.size)) = true) := by
    rw [show ((-1 : Int) == 1) = false from rfl, Bool.and_false, Bool.false_and]
    exact Bool.false_ne_true
  show wpAny _ _ (if (((items.size : Int) - 1 == 0) && ((-1 : Int) == 1) && (items.size == items.size)) = true then _ else _) _ _ s
  rw [if_neg off, ey_back]
  first
    | exact wpAny_bind (m := Builtin.Tuple.tupleExact _) (wpAny_newObj_type (wpAny_pure ⟨_, rfl, wpAny_pure h⟩) fits)
    | exact wpAny_bind (m := Builtin.Tuple.tupleExact _) (wpAny_newObj_type (wpAny_bind (wpAny_pure (wpAny_pure ⟨_, rfl, wpAny_pure h⟩))) fits)
    | exact wpAny_bind (wpAny_bind (m := Builtin.Tuple.tupleExact _) (wpAny_newObj_type (wpAny_pure (wpAny_pure ⟨_, rfl, wpAny_pure h⟩)) fits))
    | exact wpAny_bind (wpAny_bind (m := Builtin.Tuple.tupleExact _) (wpAny_newObj_type (wpAny_pure ⟨_, rfl, wpAny_pure h⟩) fits))
end
section
variable {X : Cx}
/-- e[::-1], e a tuple or a text -/
def tRevA (K : PySem.W.Frag) (te : TE) : TE := fun σ H Q => te σ H fun x H1 => (∃ a xs, x = .ref a ∧ SqT K H1 a xs ∧ ∀ p, H1 p = none → Q (.ref p) (upd H1 p (.tup xs.reverse))) ∨ ∃ p : List Nat, x = .str (st p) ∧ p.length ≤ sizeLine ∧ Q (.str (st p.reverse)) H1
theorem sb_rev (p : List Nat) (u : Tok) : Txt.sliceBy (st p) none none (-1, u) = st p.reverse := by
  have e := step_rev_list (st p) u
  have e2 : (Txt.sliceBy (st p) none none (-1, u)) = st ((List.range p.length).map fun k => p.toArray.getD (p.length - 1 - k) 0) := by
    rw [st_of (Txt.sliceBy (st p) none none (-1, u)), e]
    rfl
  rw [e2]
  congr 1
  refine List.ext_getElem? fun i => ?_
  rw [List.getElem?_map]
  by_cases hi : i < p.length
  · rw [List.getElem?_range hi, List.getElem?_reverse hi]
    show some (p.toArray.getD (p.length - 1 - i) 0) = _
    rw [List.getElem?_eq_getElem (by omega)]
    congr 1
    simp [Array.getD, show p.length - 1 - i < p.length by omega]
  · rw [List.getElem?_eq_none (by rw [List.length_range]; omega), List.getElem?_eq_none (by rw [List.length_reverse]; omega)]
    rfl
theorem pe_revA {e : Expr} {te : TE} {k : Nat} {p1 p2 p3 pos : Pos} (he : PE X e te) : PE X (.Subscript e (.Slice none none (some (.UnaryOp .USub (.Constant (.int 1) k p1) p2)) p3) pos) (tRevA X.K te) := by
  refine ⟨fun pins s σ H Q I h => ?_⟩
  refine Subscript_ (thn (he.run pins s σ H _ I h) fun v s1 ⟨x, H1, I1, r1, q1⟩ => ?_)
  have step : PO X (some (.UnaryOp .USub (.Constant (.int 1) k p1) p2)) (tPart (tUn (rU fun i => .int (-i)) (tC (.int 1)))) := po_some (pe_un un_neg pe_int)
  refine wpAny_Slice (thn (po_none.run pins s1 σ H1 (fun o H2 => o = none ∧ H2 = H1) I1 ⟨rfl, rfl⟩) fun vl s2 ⟨lo, H2, I2, pl, ea, eb⟩ => ?_)
  subst ea eb
  refine thn (po_none.run pins s2 σ H2 (fun o H3 => o = none ∧ H3 = H2) I2 ⟨rfl, rfl⟩) fun vu s3 ⟨up, H3, I3, pu, ec, ed⟩ => ?_
  subst ec ed
  refine thn (step.run pins s3 σ H3 (fun o H4 => o = some (-1) ∧ H4 = H3) I3 ⟨1, rfl, -1, rfl, rfl, rfl⟩) fun vs s4 ⟨o, H4, I4, pst, ee, ef⟩ => ?_
  subst ee ef
  have I5 : Inv X pins σ H4 { s4 with heap := s4.heap.push { cls := .type "slice", data := .fields #[vl, vu, vs] } } := I4.kept (t' := s4.toks) fun b ob q => Heap.get?_push_of_some _ q
  rcases q1 with ⟨a, xs, ex, hx, q⟩ | ⟨p, ex, hz, q⟩
  · subst ex
    cases r1
    obtain ⟨its, r, it, hz⟩ := I5.tuple hx
    have hlen : its.toArray.size = xs.length := by rw [List.size_toArray]; exact r.length.symm
    show wpAny (model X.prog X.w) X.A (subscriptTail e (.Slice none none (some (.UnaryOp .USub (.Constant (.int 1) k p1) p2)) p3) (.ref a) (.ref s4.heap.objs.size)) (EP X pins σ Q) X.xe { s4 with heap := s4.heap.push { cls := .type "slice", data := .fields #[vl, vu, vs] } }
    refine tail_any (ops := [.ref a, .ref s4.heap.objs.size]) it.typeIs PyProof.Rows.slot_tuple_getitem.lookup ?_ (by with_unfolding_all rfl)
    refine ey_tuple_rev it (Heap.IsSliceOf.new _ vl vu vs) pl pu pst ?_ (by rw [hlen]; exact hz)
    refine ⟨.ref _, _, I5.laid (t' := s4.toks) (o := .tup xs.reverse) (fun b ob q => Heap.get?_push_of_some _ q) (Nat.le_refl _) ?_, rfl, q _ (I5.hok.fresh (Nat.le_refl _))⟩
    refine ⟨by rw [List.length_reverse]; exact hz, its.reverse, r.reverse, ?_⟩
    have := IsTup.new { s4 with heap := s4.heap.push { cls := .type "slice", data := .fields #[vl, vu, vs] } }.heap its.reverse.toArray
    simpa using this
  · subst ex
    obtain ⟨t, rfl⟩ := r1
    cases pl
    cases pu
    cases pst with
    | int _ u =>
      show wpAny (model X.prog X.w) X.A (subscriptTail e (.Slice none none (some (.UnaryOp .USub (.Constant (.int 1) k p1) p2)) p3) (.str (st p) t) (.ref s4.heap.objs.size)) (EP X pins σ Q) X.xe { s4 with heap := s4.heap.push { cls := .type "slice", data := .fields #[.none, .none, .int (-1) u] } }
      refine tail_any (ops := [.str (st p) t, .ref s4.heap.objs.size]) (typeIs_str _ _ _) F.slot_str_getitem.lookup ?_ (by with_unfolding_all rfl)
      refine wpAny_getItem_str_slice (l := none) (u := none) (st := some (-1, u)) ⟨_, Heap.get?_push_size _ rfl, rfl, rfl⟩ rfl ?_
      have made : sliceMade (st p) t none none (some (-1, u)) = .str (st p.reverse) := by
        rw [← sb_rev p u]
        rfl
      rw [made]
      refine ⟨?_, .str (st p.reverse), _, I5.tok _, ⟨_, rfl⟩, q⟩
      rw [st_len, List.length_reverse]
      exact hz
end
end Ey
set_option maxHeartbeats 4000000
namespace Ey
open PySem PySem.Spec L2
/-- a comprehension over a text -/
theorem lcStr {z : Str} {g : TG} {tests : TT} {each : TE} {slots : List Nat} {σ : L2.St} {H1 : Hp} {D : Addr} {Qd : Hp → Prop} (Pv : Nat → Hp → Prop) (h0 : Pv 0 (upd H1 D (.lst [])))
    (hs : ∀ i c H, z.cps.toList[i]? = some c → Pv i H → g (.str (st [c])) (wipe σ slots) H fun σ2 H2 => wipe σ2 slots = wipe σ slots ∧ tests σ2 H2 fun b H3 => if b = true then each σ2 H3 fun y H4 => ∃ acc, H4 D = some (.lst acc) ∧ acc.length < sizeLine ∧ Pv (i + 1) (upd H4 D (.lst (acc ++ [y]))) else Pv (i + 1) H3)
    (hd : ∀ H, Pv z.cps.toList.length H → Qd H) :
    ∃ W : Nat → Nat → Hp → Prop, (∃ m, W 0 m (upd H1 D (.lst []))) ∧ ∀ i m H, W i m H → ((Its z).stop i H ∧ Qd H) ∨ ((Its z).go i H ∧ ∃ Nx : Hp → Prop, (∀ H', Nx H' → ∃ m', m' < m ∧ W (i + 1) m' H') ∧ ∀ x H', (Its z).yld i H x H' → g x (wipe σ slots) H' fun σ2 H2 => wipe σ2 slots = wipe σ slots ∧ tests σ2 H2 fun b H3 => if b = true then each σ2 H3 fun y H4 => ∃ acc, H4 D = some (.lst acc) ∧ acc.length < sizeLine ∧ Nx (upd H4 D (.lst (acc ++ [y]))) else Nx H3) := by
  refine ⟨fun i m H => m = z.cps.size - i ∧ i ≤ z.cps.size ∧ Pv i H, ⟨_, rfl, Nat.zero_le _, h0⟩, fun i m H hw => ?_⟩
  obtain ⟨rfl, hi, p⟩ := hw
  by_cases lt : i < z.cps.size
  · refine .inr ⟨lt, Pv (i + 1), fun H' p' => ⟨z.cps.size - (i + 1), by omega, rfl, lt, p'⟩, fun v H' y => ?_⟩
    obtain ⟨rfl, c, hc, rfl⟩ := y
    exact hs i c _ (by rw [Array.getElem?_toList]; exact hc) p
  · have e : i = z.cps.size := by omega
    subst e
    exact .inl ⟨Nat.le_refl _, hd H (by rw [Array.length_toList]; exact p)⟩
abbrev sLIsTag : Stmt := topS 22
abbrev sLIsTree : Stmt := topS 23
section
variable {Pr : Program} {w : World} {K : PySem.W.Frag} {mg : Str → Option Value} {base : Heap} {ms : List Addr}
theorem scLIsTag : FnScope ["_law_thing", "_law_x"] ["_law_thing"] (defScope sLIsTag) := ⟨rfl, rfl, rfl, by decide +kernel, rfl, by decide +kernel, by decide +kernel⟩
def spLIsTag (ms : List Addr) : Sp := fun vs H Q _ => ∃ (v : V) (d : PyData), vs = [v] ∧ An ms H v d ∧ fit d = true ∧ wd d ≤ 1000000 ∧ ∀ H', Kp [] H H' → Q (.bl (isTagD d)) H'
theorem eqv_strs (ps : List Nat) : PyData.eqv (.list (ps.map fun c => .str (st [c]))) (.list []) = ps.isEmpty := by
  cases ps <;> rfl
theorem dp_signs {K : PySem.W.Frag} {H : Hp} : ∀ ps : List Nat, DpAll K H (ps.map fun c => V.str (st [c])) (ps.map fun c => .str (st [c]))
  | [] => .nil
  | c :: r => .cons (.str _) (dp_signs r)
theorem lay_signs : ∀ ps : List Nat, (∀ c ∈ ps, c < 1000) → PyData.canLayAll0 (ps.map fun c => .str (st [c])) = true ∧ PyData.depthAll (ps.map fun c => .str (st [c])) = 0
  | [], _ => ⟨rfl, rfl⟩
  | c :: r, h => by
    obtain ⟨a, b⟩ := lay_signs r fun x hx => h x (List.mem_cons_of_mem _ hx)
    refine ⟨?_, ?_⟩
    · show (PyData.canLay0 (.str (st [c])) && PyData.canLayAll0 (r.map fun c => .str (st [c]))) = true
      have q : PyData.canLay0 (.str (st [c])) = true := by
        have := h c List.mem_cons_self
        have e : (st [c]).cps = #[c] := rfl
        simp only [PyData.canLay0, PyData.strOk, e]
        simp
        omega
      rw [a, q]
      rfl
    · show max 0 (PyData.depthAll (r.map fun c => .str (st [c]))) = 0
      rw [b]
      rfl
theorem shaped_signs (ps : List Nat) (h : ∀ c ∈ ps, c < 1000) : SeqAt.shaped (.list (ps.map fun c => .str (st [c]))) = true := by
  obtain ⟨a, b⟩ := lay_signs ps h
  show (PyData.canLayAll0 (ps.map fun c => .str (st [c])) && decide (PyData.depthAll (ps.map fun c => .str (st [c])) + 1 ≤ 64)) = true
  rw [a, b]
  rfl
theorem isTag_alt (g : Str) (h1 : 1 ≤ g.length) (h2 : g.length ≤ 8) : isTag g = (g.cps.toList.filter fun c => !decide (c ∈ abc)).isEmpty := by
  rw [isTag, decide_eq_true h1, decide_eq_true h2]
  show (g.cps.toList.all fun c => decide (c ∈ abc)) = _
  generalize g.cps.toList = l
  induction l with
  | nil => rfl
  | cons a r ih =>
    rw [List.all_cons, List.filter_cons, ih]
    cases decide (a ∈ abc) <;> rfl
theorem take_filter {l : List Nat} {f : Nat → Bool} {i c : Nat} (h : l[i]? = some c) : (l.take (i + 1)).filter f = (l.take i).filter f ++ if f c = true then [c] else [] := by
  rw [List.take_add_one, h, List.filter_append]
  congr 1
  show List.filter f [c] = _
  rw [List.filter_cons]
  rfl
theorem ok_lIsTag {f : Addr} {fd : FuncData} (F : Fun K "_law_is_tag" "_law_is_tag" sLIsTag f fd) (B : BI mg) : FnOk Pr w K mg base CX0 1 f fd ["_law_thing"] (spLIsTag ms) := by
  refine F.ok scLIsTag (fun vs H Q E h => ?_) (fun cdv Ar outer s H vs Q E hr h => ?_)
  · obtain ⟨v, d, rfl, _⟩ := h
    rfl
  · obtain ⟨v, d, rfl, hv, hf, hz, k⟩ := h
    refine ⟨_, pss_cons (ps_if (PW.pt (pw_or (pt_not (pt_val (pe_callB call_isi (by rfl) B.isi (by decide +kernel) (pa_cons (pv 0) (pa_cons (pe_bltn (v := .ty "str") (by rfl) B.str (by decide +kernel) rfl) pa_nil)))))
        (pw_or1 (pt_not (pt_chain op_lt op_lt pe_int (pe_callB call_len_str (by rfl) B.len PySem.boot_len (pa_cons (pv 0) pa_nil)) pe_int))))) (pss_one (ps_ret pe_bl)) pss_nil)
      (pss_one (ps_ret (pe_cmpR (op_eqD hr.units) (pe_lc (own := [("_law_x", 1)]) (g := gName 1) rfl scLIsTag.nd (pi_str (pv 0)) (blkOk_by (N := ["_law_thing", "_law_x"]) (sc := defScope sLIsTag) (by decide +kernel)) (fun _ _ _ _ _ => pg_name (i := 1) scLIsTag.nd rfl (Or.inl rfl))
        (fun _ _ _ _ _ => pts_one (pt_cmpR op_notIn_str (pv 1) pe_str (by rfl))) (fun _ _ _ _ _ => pv 1)) (pe_lst pa_nil) (nomark _)))), ?_⟩
    have kH := k H .refl
    obtain ⟨ty, hty, kty⟩ := hv.strK (K := K)
    refine ⟨_, rfl, _, .ty "str", ty, .type "str", _, rfl, .ty "str", hty, kty, ?_⟩
    cases hv with
    | non => exact ⟨false, rfl, iteT kH⟩
    | bl b => exact ⟨false, rfl, iteT kH⟩
    | int i => exact ⟨false, rfl, iteT kH⟩
    | lst e => exact ⟨false, rfl, iteT kH⟩
    | tup e => exact ⟨false, rfl, iteT kH⟩
    | dct e => exact ⟨false, rfl, iteT kH⟩
    | str g =>
      refine ⟨true, rfl, iteF ?_⟩
      have hg : g.length ≤ 1000000 := by
        have h1 : 10 * g.length + 2 ≤ 1000000 := hz
        omega
      have hgs : g.length ≤ sizeLine := Nat.le_trans hg (by decide)
      have fin : ∀ b, isTag g = b → Q (.bl b) H := fun b e => by
        rw [← e]
        exact kH
      refine ⟨_, rfl, _, rfl, hgs, ?_⟩
      refine ⟨_, _, rfl, rfl, _, rfl, ?_⟩
      by_cases h1 : 1 ≤ g.length
      · rw [decide_eq_true (show (0 : Int) < (g.length : Int) by omega)]
        refine iteT ⟨_, _, rfl, rfl, _, rfl, ?_⟩
        by_cases h2 : g.length ≤ 8
        · rw [decide_eq_true (show (g.length : Int) < 9 by omega)]
          refine iteF ⟨_, rfl, g, rfl, fun D nD => ?_⟩
          refine lcStr (z := g) (fun i H2 => H2 D = some (.lst (((g.cps.toList.take i).filter fun c => !decide (c ∈ abc)).map fun c => V.str (st [c]))) ∧ Kp [] H H2)
            ⟨upd_same, .new nD⟩ ?_ ?_
          · rintro i c H2 hi ⟨hD, kH⟩
            refine ⟨rfl, _, rfl, _, _, rfl, rfl, _, rfl, ?_⟩
            have fo : (!(Builtin.Str.occurrences (Str.ofString "abcdefghijklmnopqrstuvwxyz") (st [c]) 0 (Str.ofString "abcdefghijklmnopqrstuvwxyz").length 1).isEmpty) = decide (c ∈ abc) := by
              rw [← abc_is]
              exact PySem.StrLaws.found_one _ c
            have tf := take_filter (f := fun c => !decide (c ∈ abc)) hi
            rw [fo]
            cases e : decide (c ∈ abc) with
            | true =>
              refine iteF ⟨?_, kH⟩
              rw [tf, e, if_neg (by simp), List.append_nil]
              exact hD
            | false =>
              refine iteT ⟨_, rfl, _, hD, ?_, ?_, kH.own nD⟩
              · rw [List.length_map]
                have a := List.length_filter_le (fun c => !decide (c ∈ abc)) (g.cps.toList.take i)
                rw [List.length_take] at a
                have b : g.cps.toList.length = g.length := by rw [Array.length_toList]; rfl
                exact Nat.lt_of_le_of_lt (show _ ≤ 8 by omega) (by decide)
              · rw [upd_same, tf, e, List.map_append]
                rfl
          rintro H3 ⟨hD, k3⟩
          rw [List.take_length] at hD
          have low3 : ∀ c ∈ g.cps.toList.filter (fun c => !decide (c ∈ abc)), c < 1000 := fun c hc => by
            have a : (g.cps.toList.all fun c => decide (c < 1000)) = true := hf
            exact of_decide_eq_true (List.all_eq_true.mp a c (List.mem_filter.mp hc).1)
          refine ⟨Nat.zero_le _, fun p np => ⟨.list ((g.cps.toList.filter fun c => !decide (c ∈ abc)).map fun c => .str (st [c])), .list [], .lst (sql_of ?_) (dp_signs _), .lst (sql_of upd_same) .nil, shaped_signs _ low3, rfl, ?_⟩⟩
          · rw [upd_ne (ne_of_none hD np)]
            exact hD
          rw [eqv_strs, ← isTag_alt g h1 h2]
          exact k _ (k3.trans (.new np))
        · rw [decide_eq_false (show ¬ (g.length : Int) < 9 by omega)]
          refine iteT (fin _ ?_)
          rw [isTag, decide_eq_false h2, Bool.and_false]
          rfl
      · rw [decide_eq_false (show ¬ (0 : Int) < (g.length : Int) by omega)]
        refine iteF ⟨false, rfl, iteT (fin _ ?_)⟩
        rw [isTag, decide_eq_false h1]
        rfl
/-! ### the law's own is_tree -/
theorem scLIsTree : FnScope ["_law_thing"] ["_law_thing"] (defScope sLIsTree) := ⟨rfl, rfl, rfl, by decide +kernel, rfl, by decide +kernel, by decide +kernel⟩
def spLIsTree (ms : List Addr) (n : Nat) : Sp := fun vs H Q _ => ∃ (v : V) (d : PyData), vs = [v] ∧ An ms H v d ∧ fit d = true ∧ wd d ≤ 1000000 ∧ d.depth ≤ n ∧ ∀ H', Kp [] H H' → Q (.bl (isT d)) H'
variable {f1 : Addr} {d1 : FuncData}
theorem ok_lIsTree {f : Addr} {fd : FuncData} (D0 : Df K mg "_law_is_tree" sLIsTree ["_law_thing"] f fd) (D1 : Df K mg "_law_is_tag" sLIsTag ["_law_thing"] f1 d1) (B : BI mg) : ∀ n : Nat, FnOk Pr w K mg base CX0 (n + 2) f fd ["_law_thing"] (spLIsTree ms n)
  | 0 => by
    refine D0.F.ok scLIsTree (fun vs H Q E h => ?_) (fun cdv Ar outer s H vs Q E hr h => ?_)
    · obtain ⟨v, d, rfl, _⟩ := h
      rfl
    · obtain ⟨v, d, rfl, hv, hf, hz, hd, k⟩ := h
      refine ⟨_, pss_cons (ps_if (pt_cmpR op_isN (pv 0) pe_non (nomark _)) (pss_one (ps_ret pe_bl)) pss_nil)
        (pss_cons (ps_if (PW.pt (pw_or (pt_not (pt_val (pe_callB call_isi (by rfl) B.isi (by decide +kernel) (pa_cons (pv 0) (pa_cons (pe_bltn (v := .ty "tuple") (by rfl) B.tuple (by decide +kernel) rfl) pa_nil)))))
            (pw_or (pt_cmpR op_ne (pe_callB call_len_seq (by rfl) B.len PySem.boot_len (pa_cons (pv 0) pa_nil)) pe_int (nomark _))
            (pw_or1 (pt_not (pt_val (pe_call (ok_lIsTag (ms := ms) D1.F B) hr (by rfl) D1.g D1.F.kp D1.b .nil pass0 (pa_cons (pe_ix ix_tup (pv 0) pe_int (fun _ _ => rfl)) pa_nil)))))))) (pss_one (ps_ret pe_bl)) pss_nil) (pss_one ps_never)), ?_⟩
      have kH := k H .refl
      obtain ⟨ty, hty, kty⟩ := hv.tupK (K := K)
      cases hv with
      | non => exact ⟨_, rfl, rfl, _, rfl, iteT kH⟩
      | bl b => exact ⟨_, rfl, rfl, _, rfl, iteF ⟨_, rfl, _, .ty "tuple", ty, .type "tuple", _, rfl, .ty "tuple", hty, kty, false, rfl, iteT kH⟩⟩
      | int i => exact ⟨_, rfl, rfl, _, rfl, iteF ⟨_, rfl, _, .ty "tuple", ty, .type "tuple", _, rfl, .ty "tuple", hty, kty, false, rfl, iteT kH⟩⟩
      | str z => exact ⟨_, rfl, rfl, _, rfl, iteF ⟨_, rfl, _, .ty "tuple", ty, .type "tuple", _, rfl, .ty "tuple", hty, kty, false, rfl, iteT kH⟩⟩
      | lst eo => exact absurd hd (Nat.not_succ_le_zero _)
      | dct eo => exact absurd hd (Nat.not_succ_le_zero _)
      | tup eo => exact absurd hd (Nat.not_succ_le_zero _)
  | n + 1 => by
    have ih := ok_lIsTree D0 D1 B n
    refine D0.F.ok scLIsTree (fun vs H Q E h => ?_) (fun cdv Ar outer s H vs Q E hr h => ?_)
    · obtain ⟨v, d, rfl, _⟩ := h
      rfl
    · obtain ⟨v, d, rfl, hv, hf, hz, hd, k⟩ := h
      refine ⟨_, pss_cons (ps_if (pt_cmpR op_isN (pv 0) pe_non (nomark _)) (pss_one (ps_ret pe_bl)) pss_nil)
        (pss_cons (ps_if (PW.pt (pw_or (pt_not (pt_val (pe_callB call_isi (by rfl) B.isi (by decide +kernel) (pa_cons (pv 0) (pa_cons (pe_bltn (v := .ty "tuple") (by rfl) B.tuple (by decide +kernel) rfl) pa_nil)))))
            (pw_or (pt_cmpR op_ne (pe_callB call_len_seq (by rfl) B.len PySem.boot_len (pa_cons (pv 0) pa_nil)) pe_int (nomark _))
            (pw_or1 (pt_not (pt_val (pe_call (ok_lIsTag (ms := ms) D1.F B) (hr.mono (by omega)) (by rfl) D1.g D1.F.kp D1.b .nil pass0 (pa_cons (pe_ix ix_tup (pv 0) pe_int (fun _ _ => rfl)) pa_nil)))))))) (pss_one (ps_ret pe_bl)) pss_nil)
        (pss_one (ps_ret (pe_and (pe_call ih hr (by rfl) D0.g D0.F.kp D0.b .nil pass0 (pa_cons (pe_ix ix_tup (pv 0) pe_int (fun _ _ => rfl)) pa_nil))
          (pe_one (pe_call ih hr (by rfl) D0.g D0.F.kp D0.b .nil pass0 (pa_cons (pe_ix ix_tup (pv 0) pe_int (fun _ _ => rfl)) pa_nil))))))), ?_⟩
      have kH := k H .refl
      obtain ⟨ty, hty, kty⟩ := hv.tupK (K := K)
      cases hv with
      | non => exact ⟨_, rfl, rfl, _, rfl, iteT kH⟩
      | bl b => exact ⟨_, rfl, rfl, _, rfl, iteF ⟨_, rfl, _, .ty "tuple", ty, .type "tuple", _, rfl, .ty "tuple", hty, kty, false, rfl, iteT kH⟩⟩
      | int i => exact ⟨_, rfl, rfl, _, rfl, iteF ⟨_, rfl, _, .ty "tuple", ty, .type "tuple", _, rfl, .ty "tuple", hty, kty, false, rfl, iteT kH⟩⟩
      | str z => exact ⟨_, rfl, rfl, _, rfl, iteF ⟨_, rfl, _, .ty "tuple", ty, .type "tuple", _, rfl, .ty "tuple", hty, kty, false, rfl, iteT kH⟩⟩
      | lst eo => exact ⟨_, rfl, rfl, _, rfl, iteF ⟨_, rfl, _, .ty "tuple", ty, .type "tuple", _, rfl, .ty "tuple", hty, kty, false, rfl, iteT kH⟩⟩
      | dct eo => exact ⟨_, rfl, rfl, _, rfl, iteF ⟨_, rfl, _, .ty "tuple", ty, .type "tuple", _, rfl, .ty "tuple", hty, kty, false, rfl, iteT kH⟩⟩
      | @tup a xs es e hes =>
        have ln := hes.length
        refine ⟨_, rfl, rfl, _, rfl, iteF ⟨_, rfl, _, .ty "tuple", ty, .type "tuple", _, rfl, .ty "tuple", hty, kty, true, rfl, iteF ?_⟩⟩
        refine ⟨_, rfl, a, _, rfl, .inr (sqt_of e), rfl, _, rfl, ?_⟩
        by_cases h3l : es.length = 3
        · match es, hes, h3l with
          | [c0, c1, c2], .cons (v := v0) a0 (.cons (v := v1) a1 (.cons (v := v2) a2 .nil)), _ =>
            refine iteF ?_
            have w0 : wd c0 + 2 + (wd c1 + 2 + (wd c2 + 2 + 0)) + 3 ≤ 1000000 := hz
            have f0 : (fit c0 && (fit c1 && (fit c2 && true))) = true := hf
            have dd : max c0.depth (max c1.depth (max c2.depth 0)) + 1 ≤ n + 1 := hd
            simp only [Bool.and_eq_true] at f0
            obtain ⟨q0, q1, q2, _⟩ := f0
            refine ⟨_, rfl, a, _, _, _, rfl, rfl, sqt_of e, atI_nat (j := 0) rfl, _, c0, rfl, a0, q0, by omega, fun H4 k4 => ?_⟩
            have goal0 : isT (.tuple [c0, c1, c2]) = (isTagD c0 && (isT c1 && isT c2)) := rfl
            rw [goal0] at k
            cases et : isTagD c0 with
            | false =>
              rw [et] at k
              exact ⟨false, rfl, iteT (k H4 k4)⟩
            | true =>
              rw [et, Bool.true_and] at k
              refine ⟨true, rfl, iteF ?_⟩
              refine ⟨_, rfl, a, _, _, _, rfl, rfl, sqt_of (k4.tup _ _ e), atI_nat (j := 1) rfl, v1, c1, rfl, a1.kp k4 (by simp) c1, q1, by omega, by omega, fun H5 k5 => ?_⟩
              have k45 := k4.trans k5
              cases e1 : isT c1 with
              | false =>
                rw [e1] at k
                exact ⟨false, rfl, iteF (k H5 k45)⟩
              | true =>
                rw [e1, Bool.true_and] at k
                refine ⟨true, rfl, iteT ?_⟩
                exact ⟨_, rfl, a, _, _, _, rfl, rfl, sqt_of (k45.tup _ _ e), atI_nat (j := 2) rfl, v2, c2, rfl, a2.kp k45 (by simp) c2, q2, by omega, by omega, fun H6 k6 => k H6 (k45.trans k6)⟩
        · refine ite2 (fun _ => ?_) (fun q => ?_)
          · have e1 : isT (.tuple es) = false := all_tri h3l
            rw [e1] at kH
            exact kH
          · have e1 : decide (V.int (xs.length : Int) = V.int 3) = false := decide_eq_false fun z => h3l (by
              have := V.int.inj z
              omega)
            rw [e1] at q
            exact absurd rfl q
end
end Ey
set_option maxHeartbeats 4000000
namespace Ey
open PySem PySem.Spec L2
abbrev sAny : Stmt := topS 19
abbrev sInstead : Stmt := topS 20
def wAny : Nat → Nat
  | 0 => 130
  | n + 1 => 3 * wAny n + 140
theorem wAny_ge : ∀ n, 130 ≤ wAny n
  | 0 => Nat.le_refl _
  | n + 1 => by
    have := wAny_ge n
    show 130 ≤ 3 * wAny n + 140
    omega
/-- what is told of a drawn value -/
structure Good (n w : Nat) (x : PyData) : Prop where
  f : fit x = true
  d : x.depth ≤ n
  w : wd x ≤ w
theorem Good.mono {n w n' w' : Nat} {x : PyData} (g : Good n w x) (h1 : n ≤ n') (h2 : w ≤ w') : Good n' w' x := ⟨g.f, Nat.le_trans g.d h1, Nat.le_trans g.w h2⟩
inductive GoodAll (n w : Nat) : List PyData → Prop
  | nil : GoodAll n w []
  | cons {x : PyData} {r : List PyData} : Good n w x → GoodAll n w r → GoodAll n w (x :: r)
theorem GoodAll.facts {n w : Nat} {ds : List PyData} (h : GoodAll n w ds) : fitAll ds = true ∧ PyData.depthAll ds ≤ n ∧ wdAll ds ≤ (w + 2) * ds.length := by
  induction h with
  | nil => exact ⟨rfl, Nat.zero_le _, Nat.zero_le _⟩
  | @cons x r g _ ih =>
    obtain ⟨a, b, c⟩ := ih
    refine ⟨?_, ?_, ?_⟩
    · show (fit x && fitAll r) = true
      rw [g.f, a]
      rfl
    · show max x.depth (PyData.depthAll r) ≤ n
      have := g.d
      omega
    · show wd x + 2 + wdAll r ≤ (w + 2) * (r.length + 1)
      have := g.w
      rw [Nat.mul_add]
      omega
theorem GoodAll.snoc {n w : Nat} {ds : List PyData} {x : PyData} (h : GoodAll n w ds) (g : Good n w x) : GoodAll n w (ds ++ [x]) := by
  induction h with
  | nil => exact .cons g .nil
  | cons a _ ih => exact .cons a ih
section
variable {ms ms' : List Addr} {H : Hp}
mutual
theorem An.mono (hs : ∀ x ∈ ms', x ∈ ms) : ∀ {v : V} (d : PyData), An ms H v d → An ms' H v d
  | _, .none, h => by cases h; exact .non
  | _, .bool b, h => by cases h; exact .bl b
  | _, .int i, h => by cases h; exact .int i
  | _, .str x, h => by cases h; exact .str x
  | _, .list ds, h => by
    cases h with
    | lst e n a => exact .lst e (fun q => n (hs _ q)) (AnAll.mono hs ds a)
  | _, .tuple ds, h => by
    cases h with
    | tup e a => exact .tup e (AnAll.mono hs ds a)
  | _, .dict ds, h => by
    cases h with
    | dct e n a => exact .dct e (fun q => n (hs _ q)) (AnKv.mono hs ds a)
theorem AnAll.mono (hs : ∀ x ∈ ms', x ∈ ms) : ∀ {vs : List V} (ds : List PyData), AnAll ms H vs ds → AnAll ms' H vs ds
  | _, [], h => by cases h; exact .nil
  | _, d :: r, h => by
    cases h with
    | cons a b => exact .cons (An.mono hs d a) (AnAll.mono hs r b)
theorem AnKv.mono (hs : ∀ x ∈ ms', x ∈ ms) : ∀ {vs : List (Key × V)} (ds : List (PyData × PyData)), AnKv ms H vs ds → AnKv ms' H vs ds
  | _, [], h => by cases h; exact .nil
  | _, (y, d) :: r, h => by
    cases h with
    | cons a b => exact .cons (An.mono hs d a) (AnKv.mono hs r b)
end
end
/-- the deck, and what else is not data -/
structure Frame (ms : List Addr) (d l : Addr) (H : Hp) : Prop where
  dk : DeckAt H d l
  dm : d ∈ ms
  lm : l ∈ ms
  has : Has ms H
theorem Frame.sub {ms : List Addr} {d l : Addr} {H : Hp} (F : Frame ms d l H) : ∀ x ∈ [d, l], x ∈ ms := fun x hx => by
  rcases List.mem_cons.mp hx with rfl | hx
  · exact F.dm
  · rw [List.mem_singleton.mp hx]
    exact F.lm
theorem DeckAt.some_ {d l : Addr} {H : Hp} (D : DeckAt H d l) : ∀ b ∈ [d, l], H b ≠ none := fun b hb => by
  obtain ⟨m, n, ns, h1, h2, _⟩ := D.ex
  rcases List.mem_cons.mp hb with rfl | hb
  · rw [h1]
    exact fun z => nomatch z
  · rw [List.mem_singleton.mp hb, h2]
    exact fun z => nomatch z
theorem Frame.go {ms : List Addr} {d l : Addr} {H H1 : Hp} (F : Frame ms d l H) (k : Kp [d, l] H H1) (D : DeckAt H1 d l) : Frame ms d l H1 := ⟨D, F.dm, F.lm, F.has.kp k D.some_⟩
theorem Frame.kp0 {ms : List Addr} {d l : Addr} {H H1 : Hp} (F : Frame ms d l H) (k : Kp [] H H1) : Frame ms d l H1 := ⟨F.dk.kp k List.not_mem_nil List.not_mem_nil, F.dm, F.lm, F.has.kp k fun b hb => absurd hb List.not_mem_nil⟩
theorem Frame.new {ms : List Addr} {d l p : Addr} {H : Hp} {o : HO} (F : Frame ms d l H) (n : H p = none) : Frame ms d l (upd H p o) := F.kp0 (.new n)
theorem Frame.ne {ms : List Addr} {d l p : Addr} {H : Hp} (F : Frame ms d l H) (n : H p = none) : p ≠ d ∧ p ≠ l :=
  ⟨fun e => F.has d F.dm (e ▸ n), fun e => F.has l F.lm (e ▸ n)⟩
def kKey : Key := .inr "key"
def kOne : Key := .inl 1
theorem merge_two (x y : V) : mergeK [] [(kKey, x), (kOne, y)] = [(kKey, x), (kOne, y)] := by
  have e1 : putK ([] : List (Key × V)) kKey x = [(kKey, x)] := putK_new _ rfl
  have e2 : putK [(kKey, x)] kOne y = [(kKey, x), (kOne, y)] := putK_new _ (valV_neg (by intro z; cases z))
  show putK (putK [] kKey x) kOne y = _
  rw [e1, e2]
def spAny (n : Nat) : Sp := fun vs H Q _ => ∃ (d l : Addr) (ms : List Addr) (deep : Nat), vs = [.ref d, .int deep] ∧ deep < n ∧ Frame ms d l H ∧
  ∀ (v : V) (x : PyData) (H' : Hp), An ms H' v x → Good (2 * deep + 2) (wAny deep) x → Frame ms d l H' → Kp [d, l] H H' → Q v H'
section
variable {Pr : Program} {w : World} {K : PySem.W.Frag} {mg : Str → Option Value} {base : Heap} {fD fP fT : Addr} {dD dP dT : FuncData}
def NA : List Str := ["_law_deck_here", "_law_deep", "_law_way", "_law_some", "_law_turn"]
theorem scAny : FnScope NA ["_law_deck_here", "_law_deep"] (defScope sAny) := ⟨rfl, rfl, rfl, by decide +kernel, rfl, by decide +kernel, by decide +kernel⟩
theorem ok_any {f : Addr} {fd : FuncData} (Fa : Facts K mg fD fP fT dD dP dT) (D0 : Df K mg "_law_any" sAny ["_law_deck_here", "_law_deep"] f fd) : ∀ n : Nat, FnOk Pr w K mg base CX0 (n + 2) f fd ["_law_deck_here", "_law_deep"] (spAny n)
  | 0 => by
    refine D0.F.ok scAny (fun vs H Q E h => ?_) (fun cdv Ar outer s H vs Q E hr h => ?_)
    · obtain ⟨d, l, ms, deep, rfl, _⟩ := h
      rfl
    · obtain ⟨d, l, ms, deep, rfl, hd, _⟩ := h
      exact absurd hd (Nat.not_lt_zero _)
  | n + 1 => by
    have ih := ok_any Fa D0 n
    refine D0.F.ok scAny (fun vs H Q E h => ?_) (fun cdv Ar outer s H vs Q E hr h => ?_)
    · obtain ⟨d, l, ms, deep, rfl, _⟩ := h
      rfl
    · obtain ⟨d, l, ms, deep, rfl, hdn, Fr, k⟩ := h
      have hr2 := hr.mono (show 2 ≤ n + 2 by omega)
      have hr1 := hr.mono (show 1 ≤ n + 2 by omega)
      have w0 := wAny_ge deep
      obtain ⟨tt, dt, rt⟩ : ∃ tt, PSs (cxOf CX0 Pr w K mg base NA "_law_any" (defScope sAny) f cdv Ar outer s H E).nox ((defBody sAny).drop 5) tt ∧
          ∀ (H3 : Hp) (D : Addr) (xs : List V) (ds : List PyData) (y : Option V) (r : Int), H3 D = some (.lst xs) → AnAll ms H3 xs ds → D ∉ ms → fitAll ds = true → PyData.depthAll ds ≤ 2 * deep → wdAll ds + 130 ≤ wAny deep → ds.length ≤ 3 → Frame ms d l H3 → Kp [d, l] H H3 →
          tt { nx := fun _ H' => Q .non H', rt := Q } [some (.ref d), some (.int deep), some (.int r), some (.ref D), y] H3 := by
        refine ⟨_, pss_cons (ps_if (pt_cmpR op_eq (pv 2) pe_int (nomark _)) (pss_one (ps_ret (pv 3))) pss_nil)
          (pss_one (ps_ret (pe_ifExp (pt_cmpR op_eq (pv 2) pe_int (nomark _)) (pe_disp (pps_cons pe_str (pv 3) (pps_cons pe_int (pe_callB call_len_seq (by rfl) Fa.B.len PySem.boot_len (pa_cons (pv 3) pa_nil)) pps_nil)) (by rfl) (by rfl) (fun z => by cases z) (by decide))
            (pe_callTy call_tuple_of (by rfl) Fa.B.tuple (by decide +kernel) (pa_cons (pv 3) pa_nil))))), ?_⟩
        intro H3 D xs ds y r hD hA nD hf hdp hw hln F3 k3
        have lx := hA.length
        refine ⟨_, rfl, rfl, _, rfl, ite2 (fun _ => ?_) (fun _ => ?_)⟩
        · refine ⟨_, rfl, ?_⟩
          exact k _ (.list ds) H3 (.lst hD nD hA) ⟨hf, by show PyData.depthAll ds + 1 ≤ 2 * deep + 2; omega, by show wdAll ds + 3 ≤ wAny deep; omega⟩ F3 k3
        refine ⟨_, rfl, rfl, _, rfl, ite2 (fun _ => ?_) (fun _ => ?_)⟩
        · intro q nq
          have hDq : D ≠ q := ne_of_none hD nq
          have kq0 : Kp [] H3 (upd H3 q (.dK [])) := .new nq
          refine ⟨_, rfl, _, rfl, D, xs, rfl, .inl (sql_of (by rw [upd_ne hDq]; exact hD)), upd_same, [(kKey, .ref D), (kOne, .int xs.length)], rfl, by show 2 ≤ 15; decide, ?_⟩
          rw [merge_two, upd_upd]
          have kq : Kp [] H3 (upd H3 q (.dK [(kKey, .ref D), (kOne, .int xs.length)])) := .new nq
          refine k _ (.dict [(kD kKey, .list ds), (kD kOne, .int xs.length)]) _ (.dct upd_same (F3.has.fresh nq) (.cons (.lst (by rw [upd_ne hDq]; exact hD) nD (hA.kp kq (by simp) ds)) (.cons (.int _) .nil))) ⟨?_, ?_, ?_⟩ (F3.new nq) (k3.trans (.new nq))
          · have q1 : fit (kD kKey) = true := by decide +kernel
            have q2 : fit (kD kOne) = true := by decide +kernel
            have q3 : fit (.int (xs.length : Int)) = true := by
              rw [lx]
              rcases (show ds.length = 0 ∨ ds.length = 1 ∨ ds.length = 2 ∨ ds.length = 3 by omega) with e | e | e | e <;> rw [e] <;> decide +kernel
            show ((fit (kD kKey) && fitAll ds) && ((fit (kD kOne) && fit (.int (xs.length : Int))) && true)) = true
            rw [q1, q2, q3, hf]
            rfl
          · show max (max 0 (PyData.depthAll ds + 1)) (max (max 0 0) 0) + 1 ≤ 2 * deep + 2
            omega
          · have q1 : wd (kD kKey) = 32 := by decide +kernel
            show wd (kD kKey) + (wdAll ds + 3) + 4 + (40 + 40 + 4 + 0) + 3 ≤ wAny deep
            omega
        · refine ⟨_, rfl, D, _, rfl, .inl ⟨sql_of hD, fun q nq => ?_⟩⟩
          have kq : Kp [] H3 (upd H3 q (.tup xs)) := .new nq
          exact k _ (.tuple ds) _ (.tup upd_same (hA.kp kq (by simp) ds)) ⟨hf, by show PyData.depthAll ds + 1 ≤ 2 * deep + 2; omega, by show wdAll ds + 3 ≤ wAny deep; omega⟩ (F3.new nq) (k3.trans (.new nq))
      refine ⟨_, pss_cons (ps_set (i := 2) scAny.nd rfl (.inl rfl) (pe_call (ok_draw Fa.draw.F Fa.B) hr1 (by rfl) Fa.draw.g Fa.draw.F.kp Fa.draw.b .nil pass0 (pa_cons (pv 0) (pa_cons pe_int pa_nil))))
        (pss_cons (ps_if (pt_cmpR op_lt (pv 2) pe_int (nomark _)) (pss_one (ps_ret (pe_call (ok_pick Fa.pick.F Fa.B Fa.draw) hr2 (by rfl) Fa.pick.g Fa.pick.F.kp Fa.pick.b .nil pass0 (pa_cons (pv 0) (pa_cons (pe_lst (pa_cons pe_int (pa_cons pe_int (pa_cons (pe_un un_neg pe_int) (pa_cons pe_int (pa_cons (pe_op op_pow pe_int pe_int) (pa_cons (pe_un un_neg (pe_op op_pow pe_int pe_int)) (pa_cons pe_int (pa_cons pe_int pa_nil))))))))) pa_nil))))) pss_nil)
        (pss_cons (ps_if (pt_cmpR op_lt (pv 2) pe_int (nomark _)) (pss_one (ps_ret (pe_call (ok_pick Fa.pick.F Fa.B Fa.draw) hr2 (by rfl) Fa.pick.g Fa.pick.F.kp Fa.pick.b .nil pass0 (pa_cons (pv 0) (pa_cons (pe_lst (pa_cons pe_str (pa_cons pe_str (pa_cons pe_str (pa_cons pe_str (pa_cons pe_str (pa_cons pe_str pa_nil))))))) pa_nil))))) pss_nil)
        (pss_cons (ps_if (pt_cmpR op_eq (pv 2) pe_int (nomark _)) (pss_one (ps_ret (pe_call (ok_pick Fa.pick.F Fa.B Fa.draw) hr2 (by rfl) Fa.pick.g Fa.pick.F.kp Fa.pick.b .nil pass0 (pa_cons (pv 0) (pa_cons (pe_lst (pa_cons pe_bl (pa_cons pe_bl (pa_cons pe_non pa_nil)))) pa_nil))))) pss_nil)
        (pss_cons (ps_set (i := 3) scAny.nd rfl (.inl rfl) (pe_ifExp (pt_cmpR op_gt (pv 1) pe_int (nomark _))
          (pe_lc (own := [("_law_turn", 4)]) (g := gName 4) (tt := tYes) rfl scAny.nd (pi_range1 (by rfl) Fa.B.range (pa_cons (pe_call (ok_draw Fa.draw.F Fa.B) hr1 (by rfl) Fa.draw.g Fa.draw.F.kp Fa.draw.b .nil pass0 (pa_cons (pv 0) (pa_cons pe_int pa_nil))) pa_nil))
            (blkOk_by (N := NA) (sc := defScope sAny) (by decide +kernel)) (fun _ _ _ _ _ => pg_name (i := 4) scAny.nd rfl (Or.inl rfl)) (fun _ _ _ _ _ => pts_nil)
            (fun _ _ _ _ _ => pe_call ih hr (by rfl) D0.g D0.F.kp D0.b .nil pass0 (pa_cons (pv 0) (pa_cons (pe_op op_sub (pv 1) pe_int) pa_nil))))
          (pe_lst pa_nil)))
        dt)))), ?_⟩
      have leaf : ∀ (v : V) (x : PyData) (H1 : Hp), An ms H1 v x → fit x = true → x.depth = 0 → wd x ≤ 130 → DeckAt H1 d l → Kp [d, l] H H1 → Q v H1 := fun v x H1 a b c e D1 k1 =>
        k v x H1 a ⟨b, by omega, by omega⟩ (Fr.go k1 D1) k1
      refine ⟨_, rfl, d, l, 10, rfl, Fr.dk, by decide, by decide, fun r H1 r0 r1 D1 k1 => ?_⟩
      have F1 := Fr.go k1 D1
      refine ⟨_, rfl, _, _, rfl, rfl, _, rfl, ite2 (fun _ => ?_) (fun _ => ?_)⟩
      · refine ⟨_, rfl, 1, rfl, _, _, rfl, rfl, (⟨by decide, by decide, by decide⟩ : (0 : Int) ≤ 29 ∧ (29 : Int) ≤ 1000000 ∧ (10 : Int).natAbs < 2 ^ 64), _, _, rfl, rfl, (⟨by decide, by decide, by decide⟩ : (0 : Int) ≤ 20 ∧ (20 : Int) ≤ 1000000 ∧ (10 : Int).natAbs < 2 ^ 64), _, rfl, by show 8 ≤ sizeLine; decide, fun p np => ?_⟩
        have n1 := F1.ne np
        have F2 := F1.new (o := .lst [.int 0, .int 1, .int (-1), .int 7, .int (10 ^ (29 : Int).toNat), .int (-(10 ^ (20 : Int).toNat)), .int 2, .int 5]) np
        refine ⟨d, l, p, _, rfl, F2.dk, sql_of upd_same, by simp, by show 8 ≤ 1000; decide, n1.1, n1.2, fun x H4 hx D4 k4 => ?_⟩
        have k4' : Kp [d, l] H H4 := k1.trans ((Kp.new np).trans k4)
        simp only [List.mem_cons, List.not_mem_nil, or_false] at hx
        rcases hx with rfl | rfl | rfl | rfl | rfl | rfl | rfl | rfl
        all_goals exact leaf _ _ H4 (.int _) (by decide +kernel) rfl (by show 40 ≤ 130; decide) D4 k4'
      refine ⟨_, rfl, _, _, rfl, rfl, _, rfl, ite2 (fun _ => ?_) (fun _ => ?_)⟩
      · refine ⟨_, rfl, by show 6 ≤ sizeLine; decide, fun p np => ?_⟩
        have n1 := F1.ne np
        refine ⟨d, l, p, _, rfl, (F1.new np).dk, sql_of upd_same, by simp, by show 6 ≤ 1000; decide, n1.1, n1.2, fun x H4 hx D4 k4 => ?_⟩
        have k4' : Kp [d, l] H H4 := k1.trans ((Kp.new np).trans k4)
        simp only [List.mem_cons, List.not_mem_nil, or_false] at hx
        rcases hx with rfl | rfl | rfl | rfl | rfl | rfl
        all_goals exact leaf _ _ H4 (.str _) (by decide +kernel) rfl (by decide +kernel) D4 k4'
      refine ⟨_, rfl, rfl, _, rfl, ite2 (fun _ => ?_) (fun _ => ?_)⟩
      · refine ⟨_, rfl, by show 3 ≤ sizeLine; decide, fun p np => ?_⟩
        have n1 := F1.ne np
        refine ⟨d, l, p, _, rfl, (F1.new np).dk, sql_of upd_same, by simp, by show 3 ≤ 1000; decide, n1.1, n1.2, fun x H4 hx D4 k4 => ?_⟩
        have k4' : Kp [d, l] H H4 := k1.trans ((Kp.new np).trans k4)
        simp only [List.mem_cons, List.not_mem_nil, or_false] at hx
        rcases hx with rfl | rfl | rfl
        · exact leaf _ _ H4 (.bl true) rfl rfl (by show 5 ≤ 130; decide) D4 k4'
        · exact leaf _ _ H4 (.bl false) rfl rfl (by show 5 ≤ 130; decide) D4 k4'
        · exact leaf _ _ H4 .non rfl rfl (by show 4 ≤ 130; decide) D4 k4'
      refine ⟨_, rfl, _, _, rfl, rfl, _, rfl, ite2 (fun q => ?_) (fun _ => ?_)⟩
      · have hd0 : 0 < deep := by
          have := of_decide_eq_true q
          omega
        refine ⟨_, rfl, d, l, 4, rfl, D1, by decide, by decide, fun c H2 c0 c1 D2 k2 => ?_⟩
        have F2 := F1.go k2 D2
        obtain ⟨m, rfl⟩ : ∃ m : Nat, c = (m : Int) := ⟨c.toNat, by omega⟩
        refine ⟨m, rfl, by omega, by omega, ?_⟩
        rw [Int.toNat_natCast]
        intro D nD
        have nDm := F2.has.fresh nD
        refine lc_range (lo := 0) (n := m) (fun i H => ∃ (xs : List V) (ds : List PyData), H D = some (.lst xs) ∧ AnAll (D :: ms) H xs ds ∧ GoodAll (2 * (deep - 1) + 2) (wAny (deep - 1)) ds ∧ ds.length = i ∧ Frame ms d l H ∧ Kp [d, l] H2 H)
          ⟨[], [], upd_same, .nil, .nil, rfl, F2.new nD, .new nD⟩ ?_ ?_
        · rintro i H5 hi ⟨xs, ds, hD, hA, hG, hl, F5, k5⟩
          have hDd : D ≠ d := fun e => nDm (e ▸ F2.dm)
          have hDl : D ≠ l := fun e => nDm (e ▸ F2.lm)
          have FD : Frame (D :: ms) d l H5 := ⟨F5.dk, List.mem_cons_of_mem _ F5.dm, List.mem_cons_of_mem _ F5.lm, fun b hb => by
            rcases List.mem_cons.mp hb with rfl | hb
            · rw [hD]
              exact fun z => nomatch z
            · exact F5.has b hb⟩
          refine ⟨rfl, _, rfl, _, rfl, _, _, rfl, rfl, d, l, D :: ms, deep - 1, ?_, by omega, FD, fun v x H6 hx gx F6 k6 => ?_⟩
          · show [V.ref d, V.int ((deep : Int) - 1)] = _
            rw [show (deep : Int) - 1 = ((deep - 1 : Nat) : Int) by omega]
          have hD6 : H6 D = some (.lst xs) := k6.at_ _ _ hD (by simp [hDd, hDl])
          have kD : Kp [D] H6 (upd H6 D (.lst (xs ++ [v]))) := .put (by simp) hD6 (fun _ z => by cases z)
          refine ⟨xs, hD6, ?_, xs ++ [v], ds ++ [x], upd_same, ?_, hG.snoc gx, by rw [List.length_append, hl]; rfl, ?_, ?_⟩
          · have := hA.length
            exact Nat.lt_of_le_of_lt (show xs.length ≤ 3 by omega) (by decide)
          · exact ((hA.kp k6 FD.sub ds).kp kD (by simp) ds).append (.cons (hx.kp kD (by simp) x) .nil)
          · have F6' : Frame ms d l H6 := F5.go k6 F6.dk
            refine ⟨F6'.dk.kp kD (by simp [hDd.symm]) (by simp [hDl.symm]), F6'.dm, F6'.lm, F6'.has.kp kD fun b hb => ?_⟩
            rw [List.mem_singleton.mp hb, upd_same]
            exact fun z => nomatch z
          · exact (k5.trans k6).own nD
        · rintro H5 ⟨xs, ds, hD, hA, hG, hl, F5, k5⟩
          obtain ⟨g1, g2, g3⟩ := hG.facts
          have e : wAny deep = 3 * wAny (deep - 1) + 140 := by
            obtain ⟨z, rfl⟩ : ∃ z, deep = z + 1 := ⟨deep - 1, by omega⟩
            rfl
          have h3 : (wAny (deep - 1) + 2) * ds.length ≤ (wAny (deep - 1) + 2) * 3 := Nat.mul_le_mul_left _ (by omega)
          exact rt H5 D xs ds _ r hD (hA.mono (fun x hx => List.mem_cons_of_mem _ hx) ds) nDm g1 (by omega) (by omega) (by omega) F5 (k1.trans (k2.trans k5))
      · refine ⟨by show 0 ≤ sizeLine; decide, fun D nD => ?_⟩
        exact rt _ D [] [] _ r upd_same .nil (F1.has.fresh nD) rfl (Nat.zero_le _) (by show 0 + 130 ≤ wAny deep; omega) (by decide) (F1.new nD) (k1.trans (.new nD))
end
end Ey
set_option maxHeartbeats 4000000
namespace Ey
open PySem PySem.Spec L2
section
variable {X : Cx}
/-- t[lo:hi] of a tuple, as one case -/
def rCut : V → Option Int → Option Int → Hp → VK → Prop := fun x lo hi H Q => ∃ (a : Addr) (xs : List V), x = .ref a ∧ H a = some (.tup xs) ∧ ∀ (q : Addr) (H' : Hp), H' q = some (.tup (cutV xs lo hi)) → Kp [] H H' → Q (.ref q) H'
theorem sl_cut : SlR X rCut := by
  intro pins s σ H x v vl vu lo hi sl Q I rx hs pl pu h
  obtain ⟨a, xs, rfl, e, k⟩ := h
  refine sl_tupA pins s σ H _ v vl vu lo hi sl Q I rx hs pl pu ⟨a, xs, rfl, sqt_of e, fun w => k a H ?_ .refl, fun _ p np => k p _ upd_same (.new np)⟩
  have whole : cutV xs lo hi = xs := by
    unfold cutV
    rw [w.1, w.2, List.drop_zero, Nat.sub_zero, List.take_length]
  rw [whole]
  exact e
/-- t + u of tuples, as one case -/
def rCat2 : R2 := fun x y H Q => ∃ (a b : Addr) (xs ys : List V), x = .ref a ∧ y = .ref b ∧ H a = some (.tup xs) ∧ H b = some (.tup ys) ∧ xs.length + ys.length ≤ sizeLine ∧ ∀ (q : Addr) (H' : Hp), H' q = some (.tup (xs ++ ys)) → Kp [] H H' → Q (.ref q) H'
theorem op_cat2 : OpR X (binaryOp .Add) rCat2 := by
  intro pins s σ H x y v u Q I rx ry h
  obtain ⟨a, b, xs, ys, rfl, rfl, ea, eb, hz, k⟩ := h
  refine op_catA pins s σ H _ _ v u Q I rx ry ⟨a, b, xs, ys, rfl, rfl, sqt_of ea, sqt_of eb, hz, fun e => k b H ?_ .refl, fun _ e => k a H ?_ .refl, fun _ _ p np => k p _ upd_same (.new np)⟩
  · rw [e]
    exact eb
  · rw [e, List.append_nil]
    exact ea
theorem cut_take (xs : List V) (i : Nat) : cutV xs none (some (i : Int)) = xs.take i := by
  unfold cutV
  rw [HT.sIx_none, HT.sIx_nat, List.drop_zero, Nat.sub_zero, ← List.take_take, List.take_length]
theorem cut_drop (xs : List V) (i : Nat) : cutV xs (some (i : Int)) none = xs.drop i := by
  unfold cutV
  rw [HT.sIx_none, HT.sIx_nat]
  by_cases h : i ≤ xs.length
  · rw [Nat.min_eq_left h]
    exact List.take_of_length_le (by rw [List.length_drop]; exact Nat.le_refl _)
  · rw [Nat.min_eq_right (by omega), Nat.sub_self, List.take_zero, List.drop_of_length_le (by omega)]
theorem pe_nev {e : Expr} : PE X e (fun _ _ _ => False) := ⟨fun _ _ _ _ _ _ h => h.elim⟩
end
section
variable {Pr : Program} {w : World} {K : PySem.W.Frag} {mg : Str → Option Value} {base : Heap} {fD fP fT : Addr} {dD dP dT : FuncData}
/-! ### a tuple with another item -/
theorem scInstead : FnScope ["_law_some", "_law_at", "_law_item"] ["_law_some", "_law_at", "_law_item"] (defScope sInstead) := ⟨rfl, rfl, rfl, by decide +kernel, rfl, by decide +kernel, by decide +kernel⟩
def spInstead : Sp := fun vs H Q _ => ∃ (a : Addr) (xs : List V) (i : Nat) (v : V), vs = [.ref a, .int i, v] ∧ H a = some (.tup xs) ∧ xs.length ≤ 100 ∧
  ∀ (q : Addr) (H' : Hp), H' q = some (.tup (xs.take i ++ [v] ++ xs.drop (i + 1))) → Kp [] H H' → Q (.ref q) H'
theorem ok_instead {f : Addr} {fd : FuncData} (F : Fun K "_law_instead" "_law_instead" sInstead f fd) : FnOk Pr w K mg base CX0 1 f fd ["_law_some", "_law_at", "_law_item"] spInstead := by
  refine F.ok scInstead (fun vs H Q E h => ?_) (fun cdv Ar outer s H vs Q E hr h => ?_)
  · obtain ⟨a, xs, i, v, rfl, _⟩ := h
    rfl
  · obtain ⟨a, xs, i, v, rfl, e, hl, k⟩ := h
    refine ⟨_, pss_one (ps_ret (pe_op op_cat2 (pe_op op_cat2 (pe_slice sl_cut (pv 0) po_none (po_some (pv 1))) (pe_tup (pa_cons (pv 2) pa_nil))) (pe_slice sl_cut (pv 0) (po_some (pe_op op_add (pv 1) pe_int)) po_none))), ?_⟩
    refine ⟨_, rfl, _, rfl, _, rfl, a, xs, rfl, e, fun q1 H1 e1 k1 => ?_⟩
    rw [cut_take] at e1
    refine ⟨_, rfl, by show 1 ≤ sizeLine; decide, fun q2 n2 => ?_⟩
    have k2 : Kp [] H1 (upd H1 q2 (.tup [v])) := .new n2
    have e2 : (upd H1 q2 (.tup [v])) q2 = some (.tup [v]) := upd_same
    generalize upd H1 q2 (.tup [v]) = H2 at k2 e2
    have l1 : (xs.take i).length ≤ 100 := by rw [List.length_take]; omega
    refine ⟨q1, q2, _, _, rfl, rfl, k2.tup _ _ e1, e2, Nat.le_trans (show (xs.take i).length + 1 ≤ 101 by omega) (by decide), fun q3 H3 e3 k3 => ?_⟩
    have k13 := k1.trans (k2.trans k3)
    refine ⟨_, rfl, _, rfl, _, _, rfl, rfl, _, rfl, a, xs, rfl, k13.tup _ _ e, fun q4 H4 e4 k4 => ?_⟩
    have ei : ((i : Int) + 1) = ((i + 1 : Nat) : Int) := by omega
    rw [ei, cut_drop] at e4
    refine ⟨q3, q4, _, _, rfl, rfl, k4.tup _ _ e3, e4, ?_, fun q5 H5 e5 k5 => k q5 H5 e5 (k13.trans (k4.trans k5))⟩
    refine Nat.le_trans (show _ ≤ 201 from ?_) (by decide)
    rw [List.length_append, List.length_drop]
    show (xs.take i).length + 1 + (xs.length - (i + 1)) ≤ 201
    omega
/-! ### no integer -/
abbrev sInt : Stmt := topS 18
theorem scInt : FnScope ["_law_thing"] ["_law_thing"] (defScope sInt) := ⟨rfl, rfl, rfl, by decide +kernel, rfl, by decide +kernel, by decide +kernel⟩
def isNum : PyData → Bool
  | .int _ | .bool _ => true
  | .none | .str _ | .list _ | .tuple _ | .dict _ => false
def spInt (ms : List Addr) : Sp := fun vs H Q _ => ∃ (v : V) (d : PyData), vs = [v] ∧ An ms H v d ∧ isNum d = false ∧ Q (.bl false) H
theorem ok_int {ms : List Addr} {f : Addr} {fd : FuncData} (F : Fun K "_law_is_integer" "_law_is_integer" sInt f fd) (B : BI mg) : FnOk Pr w K mg base CX0 1 f fd ["_law_thing"] (spInt ms) := by
  refine F.ok scInt (fun vs H Q E h => ?_) (fun cdv Ar outer s H vs Q E hr h => ?_)
  · obtain ⟨v, d, rfl, _⟩ := h
    rfl
  · obtain ⟨v, d, rfl, hv, hn, k⟩ := h
    refine ⟨_, pss_one (ps_ret (pe_and (pe_callB call_isi (by rfl) B.isi (by decide +kernel) (pa_cons (pv 0) (pa_cons (pe_bltn (v := .ty "int") (by rfl) B.int (by decide +kernel) rfl) pa_nil))) (pe_one pe_nev))), ?_⟩
    cases hv with
    | non => exact ⟨_, rfl, _, .ty "int", _, .type "int", false, rfl, .ty "int", .base .non, kit_ty (by decide +kernel), false, rfl, iteF k⟩
    | bl b => cases hn
    | int i => cases hn
    | str x => exact ⟨_, rfl, _, .ty "int", _, .type "int", false, rfl, .ty "int", .base (.str x), kit_ty (by decide +kernel), false, rfl, iteF k⟩
    | lst e => exact ⟨_, rfl, _, .ty "int", _, .type "int", false, rfl, .ty "int", .base (.lst e), kit_ty (by decide +kernel), false, rfl, iteF k⟩
    | tup e => exact ⟨_, rfl, _, .ty "int", _, .type "int", false, rfl, .ty "int", .base (.tup e), kit_ty (by decide +kernel), false, rfl, iteF k⟩
    | dct e => exact ⟨_, rfl, _, .ty "int", _, .type "int", false, rfl, .ty "int", .base (.dK e), kit_ty (by decide +kernel), false, rfl, iteF k⟩
end
end Ey
set_option maxHeartbeats 4000000
namespace Ey
open PySem PySem.Spec L2
abbrev sBent : Stmt := topS 21
def fb : Stmt → List Stmt
  | .For _ _ b _ _ => b
  | _ => []
def ib : Stmt → List Stmt
  | .If _ b _ _ => b
  | _ => []
def noSt : Stmt := .Pass ⟨0, 0, 0, 0⟩
abbrev BB : List Stmt := ib ((defBody sBent).getD 0 noSt)
/-- a tree, or a tag -/
inductive Thing (H : Hp) : V → PyData → Prop where
  | tag (g : Str) : isTag g = true → Thing H (.str g) (.str g)
  | tree {v : V} (t : Tr) : TreeAt H v t → t.ok → Thing H v (td t)
theorem Thing.kp {ms : List Addr} {H H1 : Hp} {v : V} {x : PyData} (h : Thing H v x) (k : Kp ms H H1) : Thing H1 v x := by
  cases h with
  | tag g e => exact .tag g e
  | tree t T o => exact .tree t (T.kp k) o
theorem Thing.an {ms : List Addr} {H : Hp} {v : V} {x : PyData} (h : Thing H v x) : An ms H v x := by
  cases h with
  | tag g e => exact .str g
  | tree t T o => exact T.an
theorem tag_fit {g : Str} (h : isTag g = true) : fit (.str g) = true := List.all_eq_true.mpr fun c hc => decide_eq_true (tag_low h c hc)
theorem Thing.fit {H : Hp} {v : V} {x : PyData} (h : Thing H v x) : fit x = true := by
  cases h with
  | tag g e => exact tag_fit e
  | tree t T o => exact td_fit t o
theorem Thing.num {H : Hp} {v : V} {x : PyData} (h : Thing H v x) : isNum x = false := by
  cases h with
  | tag g e => rfl
  | tree t T o => cases t <;> rfl
/-- a node, by its parts -/
theorem Thing.parts {H : Hp} {v : V} {x : PyData} (h : Thing H v x) (ht : isTup x = true) : ∃ (a : Addr) (g : Str) (l r : Tr) (v1 v2 : V), v = .ref a ∧ x = td (.nd g l r) ∧ H a = some (.tup [.str g, v1, v2]) ∧ isTag g = true ∧ TreeAt H v1 l ∧ TreeAt H v2 r ∧ l.ok ∧ r.ok := by
  cases h with
  | tag g e => cases ht
  | tree t T o =>
    cases T with
    | nil => cases ht
    | nd e T1 T2 => exact ⟨_, _, _, _, _, _, rfl, rfl, e, o.1, T1, T2, o.2.1, o.2.2⟩
theorem td_lay : ∀ t : Tr, t.ok → PyData.canLay0 (td t) = true
  | .nil, _ => rfl
  | .nd g l r, h => by
    have q : PyData.canLay0 (.str g) = true := by
      have a := tag_low h.1
      simp only [PyData.canLay0, PyData.strOk, Array.all_eq_true', decide_eq_true_eq]
      intro c hc
      exact Nat.lt_of_lt_of_le (a c (by simpa using hc)) (by decide)
    show (PyData.canLay0 (.str g) && (PyData.canLay0 (td l) && (PyData.canLay0 (td r) && true))) = true
    rw [q, td_lay l h.2.1, td_lay r h.2.2]
    rfl
/-- a node with one part told otherwise -/
theorem swap_part {H : Hp} {g : Str} {l r : Tr} {v1 v2 : V} (tg : isTag g = true) (T1 : TreeAt H v1 l) (T2 : TreeAt H v2 r) (o1 : l.ok) (o2 : r.ok) {i : Nat} (hi : i < 3) :
    ∃ (vi : V) (xi : PyData), [V.str g, v1, v2][i]? = some vi ∧ Thing H vi xi ∧ xi.depth + 1 ≤ (td (.nd g l r)).depth ∧ wd xi ≤ wd (td (.nd g l r)) ∧
      ∀ (ms : List Addr) (H1 : Hp) (v' : V) (x' : PyData), TreeAt H1 v1 l → TreeAt H1 v2 r → An ms H1 v' x' → Good (xi.depth + 12) (2 * wd xi + 3000) x' →
        ∃ ys : List PyData, AnAll ms H1 ([V.str g, v1, v2].take i ++ [v'] ++ [V.str g, v1, v2].drop (i + 1)) ys ∧ Good ((td (.nd g l r)).depth + 12) (2 * wd (td (.nd g l r)) + 3000) (.tuple ys) := by
  have hx : (td (.nd g l r)).depth = max 0 (max (td l).depth (max (td r).depth 0)) + 1 := rfl
  have hw : wd (td (.nd g l r)) = wd (.str g) + 2 + (wd (td l) + 2 + (wd (td r) + 2 + 0)) + 3 := rfl
  have f0 := tag_fit tg
  have f1 := td_fit l o1
  have f2 := td_fit r o2
  have d0 : (PyData.str g).depth = 0 := rfl
  rw [hx, hw]
  rcases (show i = 0 ∨ i = 1 ∨ i = 2 by omega) with rfl | rfl | rfl
  · refine ⟨.str g, .str g, rfl, .tag g tg, by omega, by omega, fun ms H1 v' x' U1 U2 a G => ⟨[x', td l, td r], .cons a (.cons U1.an (.cons U2.an .nil)), ?_, ?_, ?_⟩⟩
    · show (fit x' && (fit (td l) && (fit (td r) && true))) = true
      rw [G.f, f1, f2]
      rfl
    · have := G.d
      show max x'.depth (max (td l).depth (max (td r).depth 0)) + 1 ≤ _
      omega
    · have := G.w
      show wd x' + 2 + (wd (td l) + 2 + (wd (td r) + 2 + 0)) + 3 ≤ _
      omega
  · refine ⟨v1, td l, rfl, .tree l T1 o1, by omega, by omega, fun ms H1 v' x' U1 U2 a G => ⟨[.str g, x', td r], .cons (.str g) (.cons a (.cons U2.an .nil)), ?_, ?_, ?_⟩⟩
    · show (fit (.str g) && (fit x' && (fit (td r) && true))) = true
      rw [G.f, f0, f2]
      rfl
    · have := G.d
      show max 0 (max x'.depth (max (td r).depth 0)) + 1 ≤ _
      omega
    · have := G.w
      show wd (.str g) + 2 + (wd x' + 2 + (wd (td r) + 2 + 0)) + 3 ≤ _
      omega
  · refine ⟨v2, td r, rfl, .tree r T2 o2, by omega, by omega, fun ms H1 v' x' U1 U2 a G => ⟨[.str g, td l, x'], .cons (.str g) (.cons U1.an (.cons a .nil)), ?_, ?_, ?_⟩⟩
    · show (fit (.str g) && (fit (td l) && (fit x' && true))) = true
      rw [G.f, f0, f1]
      rfl
    · have := G.d
      show max 0 (max (td l).depth (max x'.depth 0)) + 1 ≤ _
      omega
    · have := G.w
      show wd (.str g) + 2 + (wd (td l) + 2 + (wd x' + 2 + 0)) + 3 ≤ _
      omega
section
variable {Pr : Program} {w : World} {K : PySem.W.Frag} {mg : Str → Option Value} {base : Heap} {fD fP fT : Addr} {dD dP dT : FuncData}
/-- what the drawing of bent values leans on -/
structure BentF (K : PySem.W.Frag) (mg : Str → Option Value) (fD fP fT fA fI fN : Addr) (dD dP dT dA dI dN : FuncData) : Prop where
  Fa : Facts K mg fD fP fT dD dP dT
  any : Df K mg "_law_any" sAny ["_law_deck_here", "_law_deep"] fA dA
  ins : Df K mg "_law_instead" sInstead ["_law_some", "_law_at", "_law_item"] fI dI
  int : Df K mg "_law_is_integer" sInt ["_law_thing"] fN dN
variable {fA fI fN : Addr} {dA dI dN : FuncData}
theorem scBent : FnScope ["_law_deck_here", "_law_thing", "_law_deep", "_law_way", "_law_at"] ["_law_deck_here", "_law_thing", "_law_deep"] (defScope sBent) := ⟨rfl, rfl, rfl, by decide +kernel, rfl, by decide +kernel, by decide +kernel⟩
def spBent (n : Nat) : Sp := fun vs H Q _ => ∃ (d l : Addr) (ms : List Addr) (v : V) (x : PyData) (deep : Nat), vs = [.ref d, v, .int deep] ∧ deep < n ∧ Thing H v x ∧ x.depth ≤ 50 ∧ wd x ≤ 10000 ∧ Frame ms d l H ∧
  ∀ (v' : V) (x' : PyData) (H' : Hp), An ms H' v' x' → Good (x.depth + 12) (2 * wd x + 3000) x' → Frame ms d l H' → Kp [d, l] H H' → Q v' H'
theorem ok_bent {f : Addr} {fd : FuncData} (B : BentF K mg fD fP fT fA fI fN dD dP dT dA dI dN) (D0 : Df K mg "_law_bent" sBent ["_law_deck_here", "_law_thing", "_law_deep"] f fd) : ∀ n : Nat, FnOk Pr w K mg base CX0 (n + 5) f fd ["_law_deck_here", "_law_thing", "_law_deep"] (spBent n)
  | 0 => by
    refine D0.F.ok scBent (fun vs H Q E h => ?_) (fun cdv Ar outer s H vs Q E hr h => ?_)
    · obtain ⟨d, l, ms, v, x, deep, rfl, _⟩ := h
      rfl
    · obtain ⟨d, l, ms, v, x, deep, rfl, hd, _⟩ := h
      exact absurd hd (Nat.not_lt_zero _)
  | n + 1 => by
    have ih := ok_bent B D0 n
    have Fa := B.Fa
    refine D0.F.ok scBent (fun vs H Q E h => ?_) (fun cdv Ar outer s H vs Q E hr h => ?_)
    · obtain ⟨d, l, ms, v, x, deep, rfl, _⟩ := h
      rfl
    · obtain ⟨d, l, ms, v, x, deep, rfl, hdn, hT, hdx, hwx, Fr, k⟩ := h
      have hr5 := hr.mono (show 5 ≤ n + 5 by omega)
      have hr2 := hr.mono (show 2 ≤ n + 5 by omega)
      have hr1 := hr.mono (show 1 ≤ n + 5 by omega)
      -- what is done at the place itself
      obtain ⟨tt, dt, rt⟩ : ∃ tt, PSs (cxOf CX0 Pr w K mg base ["_law_deck_here", "_law_thing", "_law_deep", "_law_way", "_law_at"] "_law_bent" (defScope sBent) f cdv Ar outer s H E).nox BB tt ∧
          ∀ (D : Ends) (H3 : Hp) (y z : Option V), D.rt = Q → Thing H3 v x → Frame ms d l H3 → Kp [d, l] H H3 →
          tt D [some (.ref d), some v, some (.int deep), y, z] H3 := by
        refine ⟨_, pss_cons (ps_set (i := 3) scBent.nd rfl (.inl rfl) (pe_call (ok_draw Fa.draw.F Fa.B) hr1 (by rfl) Fa.draw.g Fa.draw.F.kp Fa.draw.b .nil pass0 (pa_cons (pv 0) (pa_cons pe_int pa_nil))))
          (pss_cons (ps_if (pt_val (pe_call (ok_int (ms := ms) B.int.F Fa.B) hr1 (by rfl) B.int.g B.int.F.kp B.int.b .nil pass0 (pa_cons (pv 1) pa_nil))) (pss_one ps_never) pss_nil)
          (pss_cons (ps_if (PW.pt (pw_or (pt_cmpR op_eq (pv 3) pe_int (nomark _)) (pw_or1 (pt_not (pt_val (pe_callB call_isi (by rfl) Fa.B.isi (by decide +kernel) (pa_cons (pv 1) (pa_cons (pe_bltn (v := .ty "tuple") (by rfl) Fa.B.tuple (by decide +kernel) rfl) pa_nil))))))))
            (pss_one (ps_ret (pe_call (ok_any Fa B.any 3) hr5 (by rfl) B.any.g B.any.F.kp B.any.b .nil pass0 (pa_cons (pv 0) (pa_cons pe_int pa_nil))))) pss_nil)
          (pss_cons (ps_if (pt_cmpR op_lt (pv 3) pe_int (nomark _)) (pss_one (ps_ret (pe_callTy call_list_of (by rfl) Fa.B.list (by decide +kernel) (pa_cons (pv 1) pa_nil)))) pss_nil)
          (pss_cons (ps_if (pt_cmpR op_lt (pv 3) pe_int (nomark _)) (pss_one (ps_ret (pe_op op_cat2 (pv 1) (pe_tup (pa_cons (pe_call (ok_pick Fa.pick.F Fa.B Fa.draw) hr2 (by rfl) Fa.pick.g Fa.pick.F.kp Fa.pick.b .nil pass0 (pa_cons (pv 0) (pa_cons (pe_lst (pa_cons (pe_tup pa_nil) (pa_cons pe_int (pa_cons pe_int (pa_cons (pe_tup (pa_cons pe_int pa_nil)) (pa_cons pe_non (pa_cons pe_bl pa_nil))))))) pa_nil))) pa_nil))))) pss_nil)
          (pss_cons (ps_if (pt_cmpR op_lt (pv 3) pe_int (nomark _)) (pss_one (ps_ret (pe_revA (pv 1)))) pss_nil)
          (pss_cons (ps_if (pt_cmpR op_lt (pv 3) pe_int (nomark _)) (pss_one (ps_ret (pe_op op_cat2 (pv 1) (pe_slice sl_cut (pv 1) po_none (po_some pe_int))))) pss_nil)
          (pss_one (ps_ret (pe_ifExp (pt_cmpR op_lt (pv 3) pe_int (nomark _)) (pe_slice sl_cut (pv 1) (po_some pe_int) po_none) (pe_tup (pa_cons (pv 1) pa_nil))))))))))), ?_⟩
        intro D H3 y z eD hT3 F3 k3
        subst eD
        refine ⟨_, rfl, d, l, 14, rfl, F3.dk, by decide, by decide, fun r H4 r0 r1 D4 k4 => ?_⟩
        have F4 := F3.go k4 D4
        have hT4 := hT3.kp k4
        have k34 := k3.trans k4
        refine ⟨_, rfl, v, x, rfl, hT4.an, hT4.num, false, rfl, iteF ?_⟩
        have anyEnd : ∀ (v' : V) (x' : PyData) (H5 : Hp), An ms H5 v' x' → Good (2 * 2 + 2) (wAny 2) x' → Frame ms d l H5 → Kp [d, l] H4 H5 → D.rt v' H5 := fun v' x' H5 a g F5 k5 => by
          have e2 : wAny 2 = 1730 := rfl
          exact k v' x' H5 a (g.mono (by omega) (by omega)) F5 (k34.trans k5)
        refine ⟨_, rfl, rfl, _, rfl, ite2 (fun _ => ?_) (fun _ => ?_)⟩
        · exact ⟨_, rfl, d, l, ms, 2, rfl, by decide, F4, anyEnd⟩
        obtain ⟨ty, hty, kty⟩ := (hT4.an (ms := ms)).tupK (K := K)
        refine ⟨_, rfl, _, .ty "tuple", ty, .type "tuple", _, rfl, .ty "tuple", hty, kty, _, rfl, ?_⟩
        cases e : isTup x with
        | false =>
          refine iteT ?_
          exact ⟨_, rfl, d, l, ms, 2, rfl, by decide, F4, anyEnd⟩
        | true =>
          refine iteF ?_
          obtain ⟨a, g, tl, tr, v1, v2, rfl, rfl, ea, tg, T1, T2, o1, o2⟩ := hT4.parts e
          have hx : (td (.nd g tl tr)).depth = max 0 (max (td tl).depth (max (td tr).depth 0)) + 1 := rfl
          have hw : wd (td (.nd g tl tr)) = wd (.str g) + 2 + (wd (td tl) + 2 + (wd (td tr) + 2 + 0)) + 3 := rfl
          have f0 := tag_fit tg
          have f1 := td_fit tl o1
          have f2 := td_fit tr o2
          have hP : AnAll ms H4 [V.str g, v1, v2] [.str g, td tl, td tr] := .cons (.str g) (.cons T1.an (.cons T2.an .nil))
          rw [hx, hw] at k
          refine ⟨_, rfl, _, _, rfl, rfl, _, rfl, ite2 (fun _ => ?_) (fun _ => ?_)⟩
          · refine ⟨_, rfl, a, _, rfl, .inr (sqt_of ea), fun q nq => ?_⟩
            have kq : Kp [] H4 (upd H4 q (.lst [V.str g, v1, v2])) := .new nq
            refine k _ (.list [.str g, td tl, td tr]) _ (.lst upd_same (F4.has.fresh nq) (hP.kp kq (by simp) _)) ⟨?_, ?_, ?_⟩ (F4.new nq) (k34.trans (.new nq))
            · show (fit (.str g) && (fit (td tl) && (fit (td tr) && true))) = true
              rw [f0, f1, f2]
              rfl
            · show max 0 (max (td tl).depth (max (td tr).depth 0)) + 1 ≤ _
              omega
            · show wd (.str g) + 2 + (wd (td tl) + 2 + (wd (td tr) + 2 + 0)) + 3 ≤ _
              omega
          refine ⟨_, rfl, _, _, rfl, rfl, _, rfl, ite2 (fun _ => ?_) (fun _ => ?_)⟩
          · refine ⟨_, rfl, _, rfl, Nat.zero_le _, fun p1 n1 => ⟨by show 1 ≤ sizeLine; decide, fun p2 n2 => ⟨by show 6 ≤ sizeLine; decide, fun p3 n3 => ?_⟩⟩⟩
            have F5 := F4.new (o := .tup []) n1
            have F6 := F5.new (o := .tup [.int 0]) n2
            have ne3 := F6.ne n3
            have F7 := F6.new (o := .lst [.ref p1, .int 0, .int 1, .ref p2, .non, .bl true]) n3
            have q1 : (upd (upd H4 p1 (.tup [])) p2 (.tup [.int 0])) p1 = some (.tup []) := (Kp.new (ms := []) n2).tup _ _ upd_same
            have q2 : (upd (upd H4 p1 (.tup [])) p2 (.tup [.int 0])) p2 = some (.tup [.int 0]) := upd_same
            have k47 : Kp [d, l] H4 (upd (upd (upd H4 p1 (.tup [])) p2 (.tup [.int 0])) p3 (.lst [.ref p1, .int 0, .int 1, .ref p2, .non, .bl true])) := (Kp.new n1).trans ((Kp.new n2).trans (.new n3))
            refine ⟨d, l, p3, _, rfl, F7.dk, sql_of upd_same, by simp, by show 6 ≤ 1000; decide, ne3.1, ne3.2, fun y' H8 hy D8 k8 => ?_⟩
            have F8 := F7.go k8 D8
            have k48 := k47.trans k8
            have q1' := k8.tup _ _ ((Kp.new (ms := []) (o := .lst [.ref p1, .int 0, .int 1, .ref p2, .non, .bl true]) n3).tup _ _ q1)
            have q2' := k8.tup _ _ ((Kp.new (ms := []) (o := .lst [.ref p1, .int 0, .int 1, .ref p2, .non, .bl true]) n3).tup _ _ q2)
            obtain ⟨xd, ay, gy⟩ : ∃ xd, An ms H8 y' xd ∧ Good 1 60 xd := by
              simp only [List.mem_cons, List.not_mem_nil, or_false] at hy
              rcases hy with rfl | rfl | rfl | rfl | rfl | rfl
              · exact ⟨.tuple [], .tup q1' .nil, rfl, Nat.le_refl _, by show 0 + 3 ≤ 60; decide⟩
              · exact ⟨.int 0, .int 0, by decide +kernel, Nat.zero_le _, by show 40 ≤ 60; decide⟩
              · exact ⟨.int 1, .int 1, by decide +kernel, Nat.zero_le _, by show 40 ≤ 60; decide⟩
              · exact ⟨.tuple [.int 0], .tup q2' (.cons (.int 0) .nil), by decide +kernel, Nat.le_refl _, by show 40 + 2 + 0 + 3 ≤ 60; decide⟩
              · exact ⟨.none, .non, rfl, Nat.zero_le _, by show 4 ≤ 60; decide⟩
              · exact ⟨.bool true, .bl true, rfl, Nat.zero_le _, by show 5 ≤ 60; decide⟩
            refine ⟨by show 1 ≤ sizeLine; decide, fun p4 n4 => ?_⟩
            have kp4 : Kp [] H8 (upd H8 p4 (.tup [y'])) := .new n4
            refine ⟨a, p4, _, _, rfl, rfl, kp4.tup _ _ (k48.tup _ _ ea), upd_same, by show 3 + 1 ≤ sizeLine; decide, fun q H9 e9 k9 => ?_⟩
            have k89 := kp4.trans k9
            have gd := gy.d
            have gw := gy.w
            refine k _ (.tuple ([.str g, td tl, td tr] ++ [xd])) _ (.tup e9 (AnAll.append ((hP.kp k48 F4.sub _).kp k89 (by simp) _) (.cons (ay.kp k89 (by simp) _) .nil))) ⟨?_, ?_, ?_⟩ (F8.kp0 k89) (k34.trans (k48.trans (k89.more (by simp))))
            · show (fit (.str g) && (fit (td tl) && (fit (td tr) && (fit xd && true)))) = true
              rw [f0, f1, f2, gy.f]
              rfl
            · show max 0 (max (td tl).depth (max (td tr).depth (max xd.depth 0))) + 1 ≤ _
              omega
            · show wd (.str g) + 2 + (wd (td tl) + 2 + (wd (td tr) + 2 + (wd xd + 2 + 0))) + 3 ≤ _
              omega
          refine ⟨_, rfl, _, _, rfl, rfl, _, rfl, ite2 (fun _ => ?_) (fun _ => ?_)⟩
          · refine ⟨_, rfl, .inl ⟨a, _, rfl, sqt_of ea, fun q nq => ?_⟩⟩
            have kq : Kp [] H4 (upd H4 q (.tup [V.str g, v1, v2].reverse)) := .new nq
            refine k _ (.tuple [td tr, td tl, .str g]) _ (.tup upd_same ((AnAll.kp kq (by simp) _ hP).rev)) ⟨?_, ?_, ?_⟩ (F4.new nq) (k34.trans (.new nq))
            · show (fit (td tr) && (fit (td tl) && (fit (.str g) && true))) = true
              rw [f0, f1, f2]
              rfl
            · show max (td tr).depth (max (td tl).depth (max 0 0)) + 1 ≤ _
              omega
            · show wd (td tr) + 2 + (wd (td tl) + 2 + (wd (.str g) + 2 + 0)) + 3 ≤ _
              omega
          refine ⟨_, rfl, _, _, rfl, rfl, _, rfl, ite2 (fun _ => ?_) (fun _ => ?_)⟩
          · refine ⟨_, rfl, _, rfl, 1, rfl, a, _, rfl, ea, fun q1 H5 e5 k5 => ?_⟩
            have c1 : cutV [V.str g, v1, v2] none (some 1) = [V.str g] := cut_take _ 1
            rw [c1] at e5
            refine ⟨a, q1, _, _, rfl, rfl, k5.tup _ _ ea, e5, by show 3 + 1 ≤ sizeLine; decide, fun q H6 e6 k6 => ?_⟩
            have k46 := k5.trans k6
            refine k _ (.tuple ([.str g, td tl, td tr] ++ [.str g])) _ (.tup e6 ((hP.kp k46 (by simp) _).append (.cons (.str g) .nil))) ⟨?_, ?_, ?_⟩ (F4.kp0 k46) (k34.trans (k46.more (by simp)))
            · show (fit (.str g) && (fit (td tl) && (fit (td tr) && (fit (.str g) && true)))) = true
              rw [f0, f1, f2]
              rfl
            · show max 0 (max (td tl).depth (max (td tr).depth (max 0 0))) + 1 ≤ _
              omega
            · show wd (.str g) + 2 + (wd (td tl) + 2 + (wd (td tr) + 2 + (wd (.str g) + 2 + 0))) + 3 ≤ _
              omega
          refine ⟨_, rfl, _, _, rfl, rfl, _, rfl, ite2 (fun _ => ?_) (fun _ => ?_)⟩
          · refine ⟨_, rfl, 1, rfl, a, _, rfl, ea, fun q1 H5 e5 k5 => ?_⟩
            have c1 : cutV [V.str g, v1, v2] (some 1) none = [v1, v2] := cut_drop _ 1
            rw [c1] at e5
            refine k _ (.tuple [td tl, td tr]) _ (.tup e5 ((AnAll.cons T1.an (.cons T2.an .nil) : AnAll ms H4 [v1, v2] [td tl, td tr]).kp k5 (by simp) _)) ⟨?_, ?_, ?_⟩ (F4.kp0 k5) (k34.trans (k5.more (by simp)))
            · show (fit (td tl) && (fit (td tr) && true)) = true
              rw [f1, f2]
              rfl
            · show max (td tl).depth (max (td tr).depth 0) + 1 ≤ _
              omega
            · show wd (td tl) + 2 + (wd (td tr) + 2 + 0) + 3 ≤ _
              omega
          · refine ⟨_, rfl, by show 1 ≤ sizeLine; decide, fun q nq => ?_⟩
            have kq : Kp [] H4 (upd H4 q (.tup [.ref a])) := .new nq
            refine k _ (.tuple [.tuple [.str g, td tl, td tr]]) _ (.tup upd_same (.cons (.tup (kq.tup _ _ ea) (hP.kp kq (by simp) _)) .nil)) ⟨?_, ?_, ?_⟩ (F4.new nq) (k34.trans (.new nq))
            · show ((fit (.str g) && (fit (td tl) && (fit (td tr) && true))) && true) = true
              rw [f0, f1, f2]
              rfl
            · show max (max 0 (max (td tl).depth (max (td tr).depth 0)) + 1) 0 + 1 ≤ _
              omega
            · show (wd (.str g) + 2 + (wd (td tl) + 2 + (wd (td tr) + 2 + 0)) + 3) + 2 + 0 + 3 ≤ _
              omega
      refine ⟨_, pss_cons (ps_if (PW.pt (pw_or (pt_not (pt_val (pe_callB call_isi (by rfl) Fa.B.isi (by decide +kernel) (pa_cons (pv 1) (pa_cons (pe_bltn (v := .ty "tuple") (by rfl) Fa.B.tuple (by decide +kernel) rfl) pa_nil)))))
          (pw_or (pt_cmpR (op_eqD hr.units) (pv 1) (pe_tup pa_nil) (nomark _)) (pw_or (pt_cmpR op_eq (pv 2) pe_int (nomark _)) (pw_or1 (pt_cmpR op_eq (pe_call (ok_draw Fa.draw.F Fa.B) hr1 (by rfl) Fa.draw.g Fa.draw.F.kp Fa.draw.b .nil pass0 (pa_cons (pv 0) (pa_cons pe_int pa_nil))) pe_int (nomark _))))))) dt pss_nil)
        (pss_cons (ps_set (i := 4) scBent.nd rfl (.inl rfl) (pe_call (ok_draw Fa.draw.F Fa.B) hr1 (by rfl) Fa.draw.g Fa.draw.F.kp Fa.draw.b .nil pass0 (pa_cons (pv 0) (pa_cons (pe_callB call_len_seq (by rfl) Fa.B.len PySem.boot_len (pa_cons (pv 1) pa_nil)) pa_nil))))
        (pss_one (ps_ret (pe_call (ok_instead B.ins.F) hr1 (by rfl) B.ins.g B.ins.F.kp B.ins.b .nil pass0 (pa_cons (pv 1) (pa_cons (pv 4) (pa_cons (pe_call ih hr (by rfl) D0.g D0.F.kp D0.b .nil pass0 (pa_cons (pv 0) (pa_cons (pe_ix ix_tup (pv 1) (pv 4) (fun _ _ => rfl)) (pa_cons (pe_op op_sub (pv 2) pe_int) pa_nil)))) pa_nil))))))), ?_⟩
      obtain ⟨ty, hty, kty⟩ := (hT.an (ms := ms)).tupK (K := K)
      refine ⟨_, rfl, _, .ty "tuple", ty, .type "tuple", _, rfl, .ty "tuple", hty, kty, _, rfl, ?_⟩
      cases e : isTup x with
      | false =>
        refine iteT ?_
        exact rt _ H none none rfl hT Fr .refl
      | true =>
        refine iteF ?_
        refine ⟨_, rfl, Nat.zero_le _, fun p np => ?_⟩
        have kp : Kp [] H (upd H p (.tup [])) := .new np
        have F1 := Fr.new (o := .tup []) np
        have hT1 := hT.kp kp
        have ep : (upd H p (.tup [])) p = some (.tup []) := upd_same
        have kp1 : Kp [d, l] H (upd H p (.tup [])) := .new np
        generalize upd H p (.tup []) = H1 at kp F1 hT1 ep kp1
        obtain ⟨a, g, tl, tr, v1, v2, rfl, rfl, ea, tg, T1, T2, o1, o2⟩ := hT1.parts e
        have TT : TreeAt H1 (.ref a) (.nd g tl tr) := .nd ea T1 T2
        have sh : SeqAt.shaped (td (.nd g tl tr)) = true := by
          show (PyData.canLay0 (td (.nd g tl tr)) && decide ((td (.nd g tl tr)).depth ≤ 64)) = true
          rw [td_lay (.nd g tl tr) ⟨tg, o1, o2⟩, decide_eq_true (by omega)]
          rfl
        refine ⟨td (.nd g tl tr), .tuple [], TT.dp, .tup (sqt_of ep) .nil, sh, rfl, _, rfl, ?_⟩
        have eq0 : PyData.eqv (td (.nd g tl tr)) (.tuple []) = false := rfl
        rw [eq0]
        refine iteF ?_
        refine ⟨_, rfl, rfl, _, rfl, ite2 (fun _ => ?_) (fun q0 => ?_)⟩
        · exact rt _ H1 none none rfl hT1 F1 kp1
        refine ⟨_, rfl, d, l, 5, rfl, F1.dk, by decide, by decide, fun r H2 r0 r1 D2 k2 => ⟨rfl, _, rfl, ite2 (fun _ => ?_) (fun _ => ?_)⟩⟩
        · exact rt _ H2 none none rfl (hT1.kp k2) (F1.go k2 D2) (kp1.trans k2)
        have F2 := F1.go k2 D2
        have e2 := k2.tup _ _ ea
        refine ⟨_, rfl, _, rfl, a, _, rfl, .inr (sqt_of e2), d, l, _, rfl, D2, by show (0 : Int) < 3; decide, by show (3 : Int) < 1073741824; decide, fun at' H3 a0 a1 D3 k3 => ?_⟩
        have F3 := F2.go k3 D3
        have e3 := k3.tup _ _ e2
        obtain ⟨i, rfl⟩ : ∃ i : Nat, at' = (i : Int) := ⟨at'.toNat, by omega⟩
        have hi : i < 3 := by
          have : (i : Int) < 3 := a1
          omega
        have U1 := (T1.kp k2).kp k3
        have U2 := (T2.kp k2).kp k3
        obtain ⟨vi, xi, ei, hTi, hdi, hwi, hsw⟩ := swap_part tg U1 U2 o1 o2 hi
        have hd0 : 0 < deep := by
          cases deep with
          | zero => exact absurd (decide_eq_true rfl) q0
          | succ z => exact Nat.succ_pos z
        refine ⟨_, rfl, _, rfl, _, rfl, _, rfl, _, rfl, a, _, _, vi, rfl, rfl, sqt_of e3, atI_nat ei, _, rfl, _, _, rfl, rfl, d, l, ms, vi, xi, deep - 1, ?_, by omega, hTi, by omega, by omega, F3, fun v' x' H4 ax gx F4 k4 => ?_⟩
        · show [V.ref d, vi, V.int ((deep : Int) - 1)] = _
          rw [show (deep : Int) - 1 = ((deep - 1 : Nat) : Int) by omega]
        have e4 := k4.tup _ _ e3
        refine ⟨a, _, i, v', rfl, e4, by show 3 ≤ 100; decide, fun q H5 e5 k5 => ?_⟩
        have k45 := k4.trans (k5.more (ms' := [d, l]) (by simp))
        obtain ⟨ys, hys, gys⟩ := hsw ms H5 v' x' (U1.kp k45) (U2.kp k45) (ax.kp k5 (by simp) _) gx
        exact k _ (.tuple ys) _ (.tup e5 hys) gys (F4.kp0 k5) (kp1.trans (k2.trans (k3.trans k45)))
end
end Ey
set_option maxHeartbeats 4000000
namespace Ey
open PySem PySem.Spec L2
abbrev sSpoilt : Stmt := topS 28
def badL : List Str := ["name", "left", "call", "has", "if", "x", "top", "", "0", "either", "fun", "place", "truth", "X", "yes", "not", "same", "abcdefghi", "a1", "a\n"]
theorem badL_ok : ∀ g ∈ badL, fit (.str g) = true ∧ wd (.str g) ≤ 100 := by decide +kernel
section
variable {Pr : Program} {w : World} {K : PySem.W.Frag} {mg : Str → Option Value} {base : Heap} {fD fP fT : Addr} {dD dP dT : FuncData} {fA fI fN fB : Addr} {dA dI dN dB : FuncData}
abbrev NS : List Str := ["_law_deck_here", "_law_thing", "_law_at"]
theorem scSpoilt : FnScope NS ["_law_deck_here", "_law_thing"] (defScope sSpoilt) := ⟨rfl, rfl, rfl, by decide +kernel, rfl, by decide +kernel, by decide +kernel⟩
def spSpoilt (n : Nat) : Sp := fun vs H Q _ => ∃ (d l : Addr) (ms : List Addr) (v : V) (x : PyData), vs = [.ref d, v] ∧ x.depth < n ∧ Thing H v x ∧ x.depth ≤ 50 ∧ wd x ≤ 10000 ∧ Frame ms d l H ∧
  ∀ (v' : V) (x' : PyData) (H' : Hp), An ms H' v' x' → Good (x.depth + 12) (2 * wd x + 3000) x' → Frame ms d l H' → Kp [d, l] H H' → Q v' H'
theorem ok_spoilt {f : Addr} {fd : FuncData} (B : BentF K mg fD fP fT fA fI fN dD dP dT dA dI dN) (DB : Df K mg "_law_bent" sBent ["_law_deck_here", "_law_thing", "_law_deep"] fB dB) (D0 : Df K mg "_law_spoilt" sSpoilt ["_law_deck_here", "_law_thing"] f fd) : ∀ n : Nat, FnOk Pr w K mg base CX0 (n + 7) f fd ["_law_deck_here", "_law_thing"] (spSpoilt n)
  | 0 => by
    refine D0.F.ok scSpoilt (fun vs H Q E h => ?_) (fun cdv Ar outer s H vs Q E hr h => ?_)
    · obtain ⟨d, l, ms, v, x, rfl, _⟩ := h
      rfl
    · obtain ⟨d, l, ms, v, x, rfl, hd, _⟩ := h
      exact absurd hd (Nat.not_lt_zero _)
  | n + 1 => by
    have ih := ok_spoilt B DB D0 n
    have Fa := B.Fa
    refine D0.F.ok scSpoilt (fun vs H Q E h => ?_) (fun cdv Ar outer s H vs Q E hr h => ?_)
    · obtain ⟨d, l, ms, v, x, rfl, _⟩ := h
      rfl
    · obtain ⟨d, l, ms, v, x, rfl, hdn, hT, hdx, hwx, Fr, k⟩ := h
      have hr7 := hr.mono (show 7 ≤ n + 7 by omega)
      have hr2 := hr.mono (show 2 ≤ n + 7 by omega)
      have hr1 := hr.mono (show 1 ≤ n + 7 by omega)
      obtain ⟨tt, dt, rt⟩ : ∃ tt, PSs (cxOf CX0 Pr w K mg base NS "_law_spoilt" (defScope sSpoilt) f cdv Ar outer s H E).nox ((defBody sSpoilt).drop 1) tt ∧
          ∀ (H1 : Hp) (z : Option V), Thing H1 v x → Frame ms d l H1 → Kp [d, l] H H1 → tt { nx := fun _ H' => Q .non H', rt := Q } [some (.ref d), some v, z] H1 := by
        refine ⟨_, pss_cons (ps_if (PW.pt (pw_or (pt_not (pt_val (pe_callB call_isi (by rfl) Fa.B.isi (by decide +kernel) (pa_cons (pv 1) (pa_cons (pe_bltn (v := .ty "tuple") (by rfl) Fa.B.tuple (by decide +kernel) rfl) pa_nil)))))
            (pw_or (pt_cmpR (op_eqD hr.units) (pv 1) (pe_tup pa_nil) (nomark _)) (pw_or1 (pt_cmpR op_eq (pe_call (ok_draw Fa.draw.F Fa.B) hr1 (by rfl) Fa.draw.g Fa.draw.F.kp Fa.draw.b .nil pass0 (pa_cons (pv 0) (pa_cons pe_int pa_nil))) pe_int (nomark _))))))
            (pss_one (ps_ret (pe_call (ok_bent B DB 2) hr7 (by rfl) DB.g DB.F.kp DB.b .nil pass0 (pa_cons (pv 0) (pa_cons (pv 1) (pa_cons pe_int pa_nil)))))) pss_nil)
          (pss_cons (ps_set (i := 2) scSpoilt.nd rfl (.inl rfl) (pe_call (ok_draw Fa.draw.F Fa.B) hr1 (by rfl) Fa.draw.g Fa.draw.F.kp Fa.draw.b .nil pass0 (pa_cons (pv 0) (pa_cons (pe_callB call_len_seq (by rfl) Fa.B.len PySem.boot_len (pa_cons (pv 1) pa_nil)) pa_nil))))
          (pss_one (ps_ret (pe_call (ok_instead B.ins.F) hr1 (by rfl) B.ins.g B.ins.F.kp B.ins.b .nil pass0 (pa_cons (pv 1) (pa_cons (pv 2) (pa_cons (pe_call ih hr (by rfl) D0.g D0.F.kp D0.b .nil pass0 (pa_cons (pv 0) (pa_cons (pe_ix ix_tup (pv 1) (pv 2) (fun _ _ => rfl)) pa_nil))) pa_nil))))))), ?_⟩
        intro H0 z hT0 F0 k0
        have bent : ∀ (H3 : Hp), Thing H3 v x → Frame ms d l H3 → Kp [d, l] H H3 → spBent 2 [.ref d, v, .int 1] H3 Q E0 := fun H3 hT3 F3 k3 =>
          ⟨d, l, ms, v, x, 1, rfl, by decide, hT3, hdx, hwx, F3, fun v' x' H4 a g F4 k4 => k v' x' H4 a g F4 (k3.trans k4)⟩
        obtain ⟨ty, hty, kty⟩ := (hT0.an (ms := ms)).tupK (K := K)
        refine ⟨_, rfl, _, .ty "tuple", ty, .type "tuple", _, rfl, .ty "tuple", hty, kty, _, rfl, ?_⟩
        cases e : isTup x with
        | false =>
          refine iteT ?_
          exact ⟨_, rfl, _, rfl, bent H0 hT0 F0 k0⟩
        | true =>
          refine iteF ?_
          refine ⟨_, rfl, Nat.zero_le _, fun p np => ?_⟩
          have kp : Kp [] H0 (upd H0 p (.tup [])) := .new np
          have F1 := F0.new (o := .tup []) np
          have hT1 := hT0.kp kp
          have ep : (upd H0 p (.tup [])) p = some (.tup []) := upd_same
          have kp1 : Kp [d, l] H (upd H0 p (.tup [])) := k0.trans (.new np)
          generalize upd H0 p (.tup []) = H1 at kp F1 hT1 ep kp1
          obtain ⟨a, g, tl, tr, v1, v2, rfl, rfl, ea, tg, T1, T2, o1, o2⟩ := hT1.parts e
          have TT : TreeAt H1 (.ref a) (.nd g tl tr) := .nd ea T1 T2
          have sh : SeqAt.shaped (td (.nd g tl tr)) = true := by
            show (PyData.canLay0 (td (.nd g tl tr)) && decide ((td (.nd g tl tr)).depth ≤ 64)) = true
            rw [td_lay (.nd g tl tr) ⟨tg, o1, o2⟩, decide_eq_true (by omega)]
            rfl
          refine ⟨td (.nd g tl tr), .tuple [], TT.dp, .tup (sqt_of ep) .nil, sh, rfl, _, rfl, ?_⟩
          have eq0 : PyData.eqv (td (.nd g tl tr)) (.tuple []) = false := rfl
          rw [eq0]
          refine iteF ?_
          refine ⟨_, rfl, d, l, 6, rfl, F1.dk, by decide, by decide, fun r H2 r0 r1 D2 k2 => ⟨rfl, _, rfl, ite2 (fun _ => ?_) (fun _ => ?_)⟩⟩
          · exact ⟨_, rfl, _, rfl, bent H2 (hT1.kp k2) (F1.go k2 D2) (kp1.trans k2)⟩
          have F2 := F1.go k2 D2
          have e2 := k2.tup _ _ ea
          refine ⟨_, rfl, _, rfl, a, _, rfl, .inr (sqt_of e2), d, l, _, rfl, D2, by show (0 : Int) < 3; decide, by show (3 : Int) < 1073741824; decide, fun at' H3 a0 a1 D3 k3 => ?_⟩
          have F3 := F2.go k3 D3
          have e3 := k3.tup _ _ e2
          obtain ⟨i, rfl⟩ : ∃ i : Nat, at' = (i : Int) := ⟨at'.toNat, by omega⟩
          have hi : i < 3 := by
            have : (i : Int) < 3 := a1
            omega
          have U1 := (T1.kp k2).kp k3
          have U2 := (T2.kp k2).kp k3
          obtain ⟨vi, xi, ei, hTi, hdi, hwi, hsw⟩ := swap_part tg U1 U2 o1 o2 hi
          refine ⟨_, rfl, _, rfl, _, rfl, _, rfl, _, rfl, a, _, _, vi, rfl, rfl, sqt_of e3, atI_nat ei, d, l, ms, vi, xi, rfl, by omega, hTi, by omega, by omega, F3, fun v' x' H4 ax gx F4 k4 => ?_⟩
          have e4 := k4.tup _ _ e3
          refine ⟨a, _, i, v', rfl, e4, by show 3 ≤ 100; decide, fun q H5 e5 k5 => ?_⟩
          have k45 := k4.trans (k5.more (ms' := [d, l]) (by simp))
          obtain ⟨ys, hys, gys⟩ := hsw ms H5 v' x' (U1.kp k45) (U2.kp k45) (ax.kp k5 (by simp) _) gx
          exact k _ (.tuple ys) _ (.tup e5 hys) gys (F4.kp0 k5) (kp1.trans (k2.trans (k3.trans k45)))
      refine ⟨_, pss_cons (ps_if (PW.pt (pw_and (pt_val (pe_callB call_isi (by rfl) Fa.B.isi (by decide +kernel) (pa_cons (pv 1) (pa_cons (pe_bltn (v := .ty "str") (by rfl) Fa.B.str (by decide +kernel) rfl) pa_nil))))
          (pw_and1 (pt_cmpR op_gt (pe_call (ok_draw Fa.draw.F Fa.B) hr1 (by rfl) Fa.draw.g Fa.draw.F.kp Fa.draw.b .nil pass0 (pa_cons (pv 0) (pa_cons pe_int pa_nil))) pe_int (nomark _)))))
          (pss_one (ps_ret (pe_call (ok_pick Fa.pick.F Fa.B Fa.draw) hr2 (by rfl) Fa.pick.g Fa.pick.F.kp Fa.pick.b .nil pass0 (pa_cons (pv 0) (pa_cons (pe_lst (pa_cons pe_str (pa_cons pe_str (pa_cons pe_str (pa_cons pe_str (pa_cons pe_str (pa_cons pe_str (pa_cons pe_str (pa_cons pe_str (pa_cons pe_str (pa_cons pe_str (pa_cons pe_str (pa_cons pe_str (pa_cons pe_str (pa_cons pe_str (pa_cons pe_str (pa_cons pe_str (pa_cons pe_str (pa_cons pe_str (pa_cons pe_str (pa_cons pe_str pa_nil))))))))))))))))))))) pa_nil))))) pss_nil)
        dt, ?_⟩
      obtain ⟨ty, hty, kty⟩ := (hT.an (ms := ms)).strK (K := K)
      refine ⟨_, rfl, _, .ty "str", ty, .type "str", _, rfl, .ty "str", hty, kty, _, rfl, ?_⟩
      cases e : isStr x with
      | false =>
        refine iteF ?_
        exact rt H none hT Fr .refl
      | true =>
        refine iteT ?_
        refine ⟨_, rfl, d, l, 3, rfl, Fr.dk, by decide, by decide, fun r H1 r0 r1 D1 k1 => ⟨_, _, rfl, rfl, _, rfl, ite2 (fun _ => ?_) (fun _ => ?_)⟩⟩
        · refine ⟨_, rfl, by show 20 ≤ sizeLine; decide, fun p np => ?_⟩
          have F1 := Fr.go k1 D1
          have n1 := F1.ne np
          refine ⟨d, l, p, _, rfl, (F1.new np).dk, sql_of upd_same, by simp, by show 20 ≤ 1000; decide, n1.1, n1.2, fun y H4 hy D4 k4 => ?_⟩
          have k4' : Kp [d, l] H H4 := k1.trans ((Kp.new np).trans k4)
          obtain ⟨g, hg, rfl⟩ : ∃ g, g ∈ badL ∧ y = V.str g := by
            have e3 : y ∈ badL.map V.str := hy
            obtain ⟨g, hg, e4⟩ := List.mem_map.mp e3
            exact ⟨g, hg, e4.symm⟩
          obtain ⟨q1, q2⟩ := badL_ok g hg
          exact k _ _ H4 (.str g) ⟨q1, Nat.zero_le _, by omega⟩ (Fr.go k4' D4) k4'
        · exact rt H1 none (hT.kp k1) (Fr.go k1 D1) k1
end
end Ey
set_option maxHeartbeats 4000000
namespace Ey
open PySem PySem.Spec L2
abbrev sNear : Stmt := topS 29
theorem cut_one (p : List Nat) : cutS (st p) (some 1) none = st (p.drop 1) := by
  unfold cutS
  rw [HT.sIx_none]
  have e : HT.sIx (st p).length 0 (some 1) = min 1 p.length := HT.sIx_nat _ _ 1
  rw [e, st_list, st_len]
  cases p with
  | nil => rfl
  | cons c r =>
    have : min 1 (c :: r).length = 1 := by rw [List.length_cons]; omega
    rw [this]
    show st (List.take (r.length + 1 - 1) r) = st r
    rw [Nat.add_sub_cancel, List.take_length]
/-- texts near places -/
def Lx (q : List Nat) : Prop := q.length ≤ 50 ∧ ∀ c ∈ q, c = 108 ∨ c = 114 ∨ c = 120
theorem Lx.good {q : List Nat} (h : Lx q) : Good 0 502 (.str (st q)) := by
  refine ⟨List.all_eq_true.mpr fun c hc => decide_eq_true ?_, Nat.le_refl _, ?_⟩
  · have := h.2 c hc
    omega
  · show 10 * (st q).length + 2 ≤ 502
    rw [st_len]
    have := h.1
    omega
theorem Lx.lrx {q : List Nat} (h : Lx q) : lrx (.str (st q)) := fun g e => by
  cases e
  refine ⟨?_, h.2⟩
  rw [st_len]
  have := h.1
  omega
theorem lx_pl {t : Tr} (sz : t.sz ≤ 40) {p : List Nat} (h : p ∈ pl t) : p.length ≤ 40 ∧ ∀ c ∈ p, c = 108 ∨ c = 114 ∨ c = 120 :=
  ⟨Nat.le_trans (pl_ht t p h) (Nat.le_trans (ht_sz t) sz), fun c hc => (pl_signs t p h c hc).elim .inl fun e => .inr (.inl e)⟩
section
variable {Pr : Program} {w : World} {K : PySem.W.Frag} {mg : Str → Option Value} {base : Heap} {fD fP fT : Addr} {dD dP dT : FuncData}
theorem scNear : FnScope ["_law_deck_here", "_law_some", "_law_place"] ["_law_deck_here", "_law_some"] (defScope sNear) := ⟨rfl, rfl, rfl, by decide +kernel, rfl, by decide +kernel, by decide +kernel⟩
def spNear : Sp := fun vs H Q _ => ∃ (d l so : Addr) (ms : List Addr) (t : Tr), vs = [.ref d, .ref so] ∧ Frame ms d l H ∧ H so = some (.lst (plV [] t)) ∧ t.sz ≤ 40 ∧ so ≠ d ∧ so ≠ l ∧
  ∀ (v' : V) (x' : PyData) (H' : Hp), An ms H' v' x' → Good 1 600 x' → lrx x' → Frame ms d l H' → Kp [d, l] H H' → Q v' H'
theorem ok_near {f : Addr} {fd : FuncData} (Fa : Facts K mg fD fP fT dD dP dT) (F : Fun K "_law_near_place" "_law_near_place" sNear f fd) : FnOk Pr w K mg base CX0 3 f fd ["_law_deck_here", "_law_some"] spNear := by
  refine F.ok scNear (fun vs H Q E h => ?_) (fun cdv Ar outer s H vs Q E hr h => ?_)
  · obtain ⟨d, l, so, ms, t, rfl, _⟩ := h
    rfl
  · obtain ⟨d, l, so, ms, t, rfl, Fr, hso, sz, nd, nl, k⟩ := h
    refine ⟨_, pss_cons (ps_set (i := 2) scNear.nd rfl (.inl rfl) (pe_call (ok_pick Fa.pick.F Fa.B Fa.draw) hr (by rfl) Fa.pick.g Fa.pick.F.kp Fa.pick.b .nil pass0 (pa_cons (pv 0) (pa_cons (pv 1) pa_nil))))
      (pss_one (ps_ret (pe_call (ok_pick Fa.pick.F Fa.B Fa.draw) hr (by rfl) Fa.pick.g Fa.pick.F.kp Fa.pick.b .nil pass0 (pa_cons (pv 0) (pa_cons (pe_lst
        (pa_cons (pv 2) (pa_cons (pe_op op_add_str (pv 2) pe_str) (pa_cons (pe_op op_add_str (pv 2) pe_str) (pa_cons (pe_slice sl_str (pv 2) po_none (po_some (pe_un un_neg pe_int))) (pa_cons (pe_slice sl_str (pv 2) (po_some pe_int) po_none)
        (pa_cons (pe_op op_add_str (pv 2) pe_str) (pa_cons (pe_tup (pa_cons (pv 2) pa_nil)) (pa_cons pe_non (pa_cons pe_int (pa_cons (pe_revA (pv 2)) (pa_cons (pe_lst (pa_cons (pv 2) pa_nil)) (pa_cons pe_bl pa_nil))))))))))))) pa_nil))))), ?_⟩
    refine ⟨_, rfl, _, rfl, d, l, so, plV [] t, rfl, Fr.dk, sql_of hso, ?_, ?_, nd, nl, fun x H1 hx D1 k1 => ?_⟩
    · intro e
      have := plV_len [] t
      rw [e] at this
      simp at this
    · rw [plV_len]
      omega
    obtain ⟨p, hp, ex⟩ := List.mem_map.mp hx
    have ex' : x = V.str (st p) := ex.symm
    subst ex'
    obtain ⟨hl, hs⟩ := lx_pl sz hp
    have F1 := Fr.go k1 D1
    have sz0 : (st p).length ≤ sizeLine := by
      rw [st_len]
      exact Nat.le_trans hl (by decide)
    have sz1 : (st p).length + 1 ≤ sizeLine := by
      rw [st_len]
      exact Nat.le_trans (show p.length + 1 ≤ 41 by omega) (by decide)
    have more : ∀ c, c = 108 ∨ c = 114 ∨ c = 120 → Lx (p ++ [c]) := fun c hc => ⟨by rw [List.length_append]; show p.length + 1 ≤ 50; omega, fun y hy => (List.mem_append.mp hy).elim (hs y) fun q => by rw [List.mem_singleton.mp q]; exact hc⟩
    have L0 : Lx p := ⟨by omega, hs⟩
    refine ⟨_, rfl, _, rfl, _, rfl, _, _, rfl, rfl, sz1, _, rfl, _, _, rfl, rfl, sz1, _, rfl, _, rfl, _, rfl, _, rfl, sz0, _, rfl, _, rfl, _, rfl, sz0, _, rfl, _, _, rfl, rfl, sz1, _, rfl, by show 1 ≤ sizeLine; decide, fun p1 n1 => ?_⟩
    refine ⟨_, rfl, .inr ⟨p, rfl, sz0, _, rfl, by show 1 ≤ sizeLine; decide, fun p2 n2 => ⟨by show 12 ≤ sizeLine; decide, fun p3 n3 => ?_⟩⟩⟩
    have F2 := F1.new (o := .tup [.str (st p)]) n1
    have F3 := F2.new (o := .lst [.str (st p)]) n2
    have ne3 := F3.ne n3
    have F4 := F3.new (o := .lst [.str (st p), .str (st p ++ "l"), .str (st p ++ "r"), .str (cutS (st p) none (some (-1))), .str (cutS (st p) (some 1) none), .str (st p ++ "x"), .ref p1, .non, .int 0, .str (st p.reverse), .ref p2, .bl true]) n3
    have q1 : (upd (upd H1 p1 (.tup [.str (st p)])) p2 (.lst [.str (st p)])) p1 = some (.tup [.str (st p)]) := (Kp.new (ms := []) n2).tup _ _ upd_same
    have q2 : (upd (upd H1 p1 (.tup [.str (st p)])) p2 (.lst [.str (st p)])) p2 = some (.lst [.str (st p)]) := upd_same
    have m2 : p2 ∉ ms := F2.has.fresh n2
    have k13 : Kp [d, l] H1 (upd (upd H1 p1 (.tup [.str (st p)])) p2 (.lst [.str (st p)])) := (Kp.new n1).trans (.new n2)
    generalize upd (upd H1 p1 (.tup [.str (st p)])) p2 (.lst [.str (st p)]) = H3 at n3 F3 F4 q1 q2 k13 ne3 ⊢
    refine ⟨d, l, p3, _, rfl, F4.dk, sql_of upd_same, by simp, by show 12 ≤ 1000; decide, ne3.1, ne3.2, fun y H5 hy D5 k5 => ?_⟩
    have F5 := F4.go k5 D5
    have k35 : Kp [d, l] H3 H5 := (Kp.new n3).trans k5
    have k15 : Kp [d, l] H H5 := k1.trans (k13.trans k35)
    have strE : ∀ q, Lx q → Q (.str (st q)) H5 := fun q hq => k _ _ H5 (.str _) (hq.good.mono (by decide) (by decide)) hq.lrx F5 k15
    have w1 : wd (.str (st p)) ≤ 502 := L0.good.w
    have f1 : fit (.str (st p)) = true := L0.good.f
    simp only [List.mem_cons, List.not_mem_nil, or_false] at hy
    rcases hy with rfl | rfl | rfl | rfl | rfl | rfl | rfl | rfl | rfl | rfl | rfl | rfl
    · exact strE _ L0
    · rw [s_l, st_app]
      exact strE _ (more 108 (.inl rfl))
    · rw [s_r, st_app]
      exact strE _ (more 114 (.inr (.inl rfl)))
    · rw [cut_last]
      exact strE _ ⟨by rw [List.length_dropLast]; omega, fun c hc => hs c (List.dropLast_sublist p |>.subset hc)⟩
    · rw [cut_one]
      exact strE _ ⟨by rw [List.length_drop]; omega, fun c hc => hs c (List.mem_of_mem_drop hc)⟩
    · rw [s_x, st_app]
      exact strE _ (more 120 (.inr (.inr rfl)))
    · refine k _ (.tuple [.str (st p)]) H5 (.tup (k35.tup _ _ q1) (.cons (.str _) .nil)) ⟨?_, Nat.le_refl _, ?_⟩ (fun g e => by cases e) F5 k15
      · show (fit (.str (st p)) && true) = true
        rw [f1]
        rfl
      · show wd (.str (st p)) + 2 + 0 + 3 ≤ 600
        omega
    · exact k _ .none H5 .non ⟨rfl, Nat.zero_le _, by show 4 ≤ 600; decide⟩ (fun g e => by cases e) F5 k15
    · exact k _ (.int 0) H5 (.int 0) ⟨by decide +kernel, Nat.zero_le _, by show 40 ≤ 600; decide⟩ (fun g e => by cases e) F5 k15
    · exact strE _ ⟨by rw [List.length_reverse]; omega, fun c hc => hs c (List.mem_reverse.mp hc)⟩
    · have dm : p2 ∉ [d, l] := fun hq => m2 (F5.sub _ hq)
      refine k _ (.list [.str (st p)]) H5 (.lst (k35.at_ _ _ q2 dm) m2 (.cons (.str _) .nil)) ⟨?_, Nat.le_refl _, ?_⟩ (fun g e => by cases e) F5 k15
      · show (fit (.str (st p)) && true) = true
        rw [f1]
        rfl
      · show wd (.str (st p)) + 2 + 0 + 3 ≤ 600
        omega
    · exact k _ (.bool true) H5 (.bl true) ⟨rfl, Nat.zero_le _, by show 5 ≤ 600; decide⟩ (fun g e => by cases e) F5 k15
end
end Ey
set_option maxHeartbeats 4000000
namespace Ey
open PySem PySem.Spec L2
/-! ### f(k = v, ..), the parameters told from the last one to the first -/
def gRev {α : Type} (us ws : List α) : List α := match us with
  | [] => ws.reverse
  | _ :: _ => []
theorem vals_rev {xs : List V} {us : List Value} (h : Vals xs us) : Vals xs.reverse us.reverse := by
  induction h with
  | nil => exact .nil
  | cons a _ ih =>
    rw [List.reverse_cons, List.reverse_cons]
    exact ih.append (.cons a .nil)
theorem kb_rev {K : PySem.W.Frag} {fd : FuncData} {ps ks : List Str} (hp : ps ≠ []) (h : ∀ ws : List Value, ws.length = ps.length → bindArgs fd ⟨[], ks.zip ws⟩ = pure (ps.zip ws.reverse)) : KBinds K fd ps ks gRev gRev := by
  refine ⟨fun s us ws _ hl => ?_, fun {vs us zs ws} r1 r2 => ?_⟩
  · cases us with
    | nil => exact .of_eq (h ws (by rw [← hl]; exact (List.length_reverse).symm))
    | cons a r => exact absurd hl (by intro e; exact hp (List.length_eq_zero_iff.mp e.symm))
  · cases r1 with
    | nil => exact vals_rev r2
    | cons _ _ => exact .nil
theorem Fun.revs {K : PySem.W.Frag} {x qual : Str} {st : Stmt} {f : Addr} {fd : FuncData} {ps ks : List Str} (F : Fun K x qual st f fd) (hp : ps ≠ [])
    (h : ∀ (kV doc pm : Value) (an : Option Addr) (cdv ct : Value) (ws : List Value), ws.length = ps.length → bindArgs (PySem.W.fnOf x qual (defArgs st) (defBody st) (defScope st) .none kV doc pm an cdv ct) ⟨[], ks.zip ws⟩ = pure (ps.zip ws.reverse)) : KBinds K fd ps ks gRev gRev := by
  obtain ⟨oc, od, kV, doc, pm, an, cdv, ct, osl, rfl, lk, _⟩ := F.ex
  exact kb_rev hp (h kV doc pm an cdv ct)
section
variable {X : Cx} {CX : CXT} {k : Nat} {f : Addr} {fd : FuncData} {qs ks : List Str} {sp : Sp} {E : XK} {x : Str} {p pos : Pos} {kws : List Keyword} {tk : TA} {g : List Value → List Value → List Value} {gV : List V → List V → List V}
theorem pe_callK0 (F : FnOk X.prog X.w X.K X.mg X.base CX k f fd qs sp) (hr : Room k X.A) (hg : Gl X x) (hm : X.mg x = some (.ref f)) (hk : PySem.W.keepIn X.K (.ref f) = true) (hb : KBinds X.K fd qs ks g gV) (hx : Passes CX X E) (hkw : PK X kws tk)
    (hall : (backToKw pos (keywordEach kws X.env)).all (·.1.isSome) = true := by rfl) (hks : (backToKw pos (keywordEach kws X.env)).filterMap (·.1) = ks := by rfl) (hdb : (x == ("__debug__" : Str)) = false := by decide)
    (hpl : ((backTo pos (starEach [] X.env)).any (·.1) || (backToKw pos (keywordEach kws X.env)).any (·.1.isNone)) = false := by rfl) :
    PE X (.Call (.Name x p) [] kws pos) (tCallK sp gV E tNil tk) := by
  refine ⟨fun pins s σ H Q I h => wpAny_Call_Name_kw (ld_glob I hg hm ?_ hdb)⟩
  refine PySem.W.callWith_KW0 (h₀ := X.base) I.ok.mod.kin hk hall ?_ hpl
  refine thn (hkw.run pos pins s σ H _ I h) fun ws s2 ⟨zs, H2, I2, rz, q2⟩ => ⟨I2.kIn, ?_⟩
  rw [hks]
  exact run_fnk (us := []) (vs := []) F hr hb hx I2 .nil rz q2
end
theorem take_one {α : Type} {xs : List α} {i : Nat} {x : α} (h : xs[i]? = some x) : xs.take (i + 1) = xs.take i ++ [x] := by
  rw [List.take_add_one, h]
  rfl
theorem map_get {α β : Type} {f : α → β} {xs : List α} {i : Nat} {y : β} (h : (xs.map f)[i]? = some y) : ∃ x, xs[i]? = some x ∧ f x = y := by
  rw [List.getElem?_map] at h
  obtain ⟨x, h1, h2⟩ := Option.map_eq_some_iff.mp h
  exact ⟨x, h1, h2⟩

abbrev sLaw : Stmt := topS 30
abbrev B1 : List Stmt := fb ((defBody sLaw).getD 1 noSt)
abbrev B4 : List Stmt := fb (B1.getD 3 noSt)
abbrev NL : List Str := ["_law_script", "_law_deck_here", "_law_turn", "_law_tree", "_law_some", "_law_again", "_law_thing", "_law_text", "_law_due", "_law_place"]
theorem scLaw : FnScope NL ["_law_script"] (defScope sLaw) := ⟨rfl, rfl, rfl, by decide +kernel, rfl, by decide +kernel, by decide +kernel⟩
/-- all defs of the text, by their places -/
structure All (K : PySem.W.Frag) (w : World) (mg : Str → Option Value) (A : Nat → Addr) (D : Nat → FuncData) (c dP : Addr) : Prop where
  bf : BentF K mg (A 16) (A 17) (A 25) (A 19) (A 20) (A 18) (D 16) (D 17) (D 25) (D 19) (D 20) (D 18)
  deck : Df K mg "_law_deck" sDeck ["_law_script", "_law_seed"] (A 15) (D 15)
  bent : Df K mg "_law_bent" sBent ["_law_deck_here", "_law_thing", "_law_deep"] (A 21) (D 21)
  ltag : Df K mg "_law_is_tag" sLIsTag ["_law_thing"] (A 22) (D 22)
  ltree : Df K mg "_law_is_tree" sLIsTree ["_law_thing"] (A 23) (D 23)
  lplaces : Df K mg "_law_places" sLPlaces ["_law_tree", "_law_ahead"] (A 24) (D 24)
  tree : Df K mg "_law_drawn_tree" sTree ["_law_deck_here", "_law_box", "_law_deep"] (A 26) (D 26)
  chain : Df K mg "_law_chain" sChain ["_law_deck_here", "_law_many"] (A 27) (D 27)
  spoilt : Df K mg "_law_spoilt" sSpoilt ["_law_deck_here", "_law_thing"] (A 28) (D 28)
  near : Df K mg "_law_near_place" sNear ["_law_deck_here", "_law_some"] (A 29) (D 29)
  G : Prog K w mg (A 7) c dP (A 8) (A 9) (A 10) (A 11) (A 12) (A 13) (D 7) (D 8) (D 9) (D 10) (D 11) (D 12) (D 13)
  kPlaces : KBinds K (D 11) ["tree"] ["tree"] gRev gRev
  kTree : KBinds K (D 8) ["thing"] ["thing"] gRev gRev
  kPlace : KBinds K (D 13) ["tree", "thing"] ["thing", "tree"] gRev gRev
/-- what stands all through the law -/
structure LI (d l P : Addr) (H : Hp) : Prop where
  fr : Frame [d, l, P] d l H
  tg : GxR.TabG H P
theorem LI.nP {d l P : Addr} {H : Hp} (h : LI d l P H) : P ≠ d ∧ P ≠ l := by
  obtain ⟨m, n, ns, h1, h2, _⟩ := h.fr.dk.ex
  obtain ⟨ps, e, _⟩ := h.tg
  exact ⟨ne_of e h1 (by intro z; cases z), ne_of e h2 (by intro z; cases z)⟩
/-- a call of the program -/
theorem LI.prog {d l P : Addr} {H H1 : Hp} (h : LI d l P H) (k : Kp [P] H H1) (g : GxR.TabG H1 P) : LI d l P H1 := by
  refine ⟨⟨h.fr.dk.kp k (by simp [h.nP.1.symm]) (by simp [h.nP.2.symm]), h.fr.dm, h.fr.lm, h.fr.has.kp k fun b hb => ?_⟩, g⟩
  obtain ⟨ps, e, _⟩ := g
  rw [List.mem_singleton.mp hb, e]
  exact fun z => nomatch z
/-- a call of the law's own -/
theorem LI.own {d l P : Addr} {H H1 : Hp} (h : LI d l P H) (k : Kp [d, l] H H1) (D : DeckAt H1 d l) : LI d l P H1 := ⟨h.fr.go k D, tabg_kp h.tg k (by simp [h.nP.1, h.nP.2])⟩
theorem LI.kp0 {d l P : Addr} {H H1 : Hp} (h : LI d l P H) (k : Kp [] H H1) : LI d l P H1 := ⟨h.fr.kp0 k, tabg_kp h.tg k List.not_mem_nil⟩
theorem LI.new {d l P p : Addr} {H : Hp} {o : HO} (h : LI d l P H) (n : H p = none) : LI d l P (upd H p o) := h.kp0 (.new n)
theorem subP {d l P : Addr} : ∀ x ∈ [P], x ∈ [d, l, P] := by simp
theorem subD {d l P : Addr} : ∀ x ∈ [d, l], x ∈ [d, l, P] := by
  intro x hx
  simp only [List.mem_cons, List.not_mem_nil, or_false] at hx ⊢
  rcases hx with h | h
  · exact .inl h
  · exact .inr (.inl h)
/-- what stands while one tree is looked at -/
structure LS (d l P so : Addr) (v : V) (t : Tr) (H : Hp) : Prop where
  I : LI d l P H
  T : TreeAt H v t
  so_ : H so = some (.lst (plV [] t))
  nl : so ≠ l
theorem LS.nso {d l P so : Addr} {v : V} {t : Tr} {H : Hp} (h : LS d l P so v t H) : so ≠ d ∧ so ≠ P := by
  obtain ⟨m, n, ns, h1, h2, _⟩ := h.I.fr.dk.ex
  obtain ⟨ps, e, _⟩ := h.I.tg
  exact ⟨ne_of h.so_ h1 (by intro z; cases z), ne_of h.so_ e (by intro z; cases z)⟩
theorem LS.prog {d l P so : Addr} {v : V} {t : Tr} {H H1 : Hp} (h : LS d l P so v t H) (k : Kp [P] H H1) (g : GxR.TabG H1 P) : LS d l P so v t H1 :=
  ⟨h.I.prog k g, h.T.kp k, k.at_ _ _ h.so_ (by simp [h.nso.2]), h.nl⟩
theorem LS.own {d l P so : Addr} {v : V} {t : Tr} {H H1 : Hp} (h : LS d l P so v t H) (k : Kp [d, l] H H1) (D : DeckAt H1 d l) : LS d l P so v t H1 :=
  ⟨h.I.own k D, h.T.kp k, k.at_ _ _ h.so_ (by simp [h.nso.1, h.nl]), h.nl⟩
theorem LS.kp0 {d l P so : Addr} {v : V} {t : Tr} {H H1 : Hp} (h : LS d l P so v t H) (k : Kp [] H H1) : LS d l P so v t H1 :=
  ⟨h.I.kp0 k, h.T.kp k, k.at_ _ _ h.so_ List.not_mem_nil, h.nl⟩
theorem LS.new {d l P so p : Addr} {v : V} {t : Tr} {H : Hp} {o : HO} (h : LS d l P so v t H) (n : H p = none) : LS d l P so v t (upd H p o) := h.kp0 (.new n)
/-- a pair of two truths -/
theorem an_two {ms : List Addr} {H : Hp} {q : Addr} {b : Bool} (e : H q = some (.tup [.bl b, .bl b])) : An ms H (.ref q) (.tuple [.bool b, .bool b]) := .tup e (.cons (.bl b) (.cons (.bl b) .nil))
theorem fit_two (b : Bool) : fit (.tuple [.bool b, .bool b]) = true := rfl
theorem inV_pl (t : Tr) (g : Str) : inV (.str g) (plV [] t) = isP t g.cps.toList := by
  have e : inV (.str g) (plV [] t) = (pl t).any fun q => decide (st q = g) := by
    unfold inV plV
    rw [List.any_map]
    rfl
  rw [e, Bool.eq_iff_iff, isP_iff, List.any_eq_true]
  constructor
  · rintro ⟨q, hq, h⟩
    have h2 : st q = g := of_decide_eq_true h
    rw [← h2]
    exact hq
  · intro h
    exact ⟨_, h, decide_eq_true (st_of g).symm⟩
theorem flat_pl (t : Tr) : (plV [] t).all flatV = true := by
  unfold plV
  rw [List.all_map]
  exact List.all_eq_true.mpr fun _ _ => rfl
end Ey
set_option maxHeartbeats 4000000
namespace Ey
open PySem PySem.Spec L2
/-! ### promises told for any frame at once -/
def rReprE : List V → Hp → VK → Prop := fun xs H Q => ∃ ms, rReprA ms xs H Q
theorem cr_reprE {X : Cx} {k : Nat} (hs : ∃ mm, X.base.Ns sysModules mm) (hg : X.A.guards = some []) (hr : Room k X.A) : CallR X (.builtin "repr") rReprE := by
  intro pins s σ H xs us Q I r h
  obtain ⟨ms, h⟩ := h
  exact cr_reprA (ms := ms) hs hg hr pins s σ H xs us Q I r h
theorem re_an {ms : List Addr} {n w : Nat} {H : Hp} {v : V} {d : PyData} {Q : VK} (h : An ms H v d) (g : Good n w d) (hn : n ≤ 100) (hw : w ≤ 1000000) (q : Q (.str d.shown) H) : rReprE [v] H Q :=
  ⟨ms, v, d, rfl, h, g.f, Nat.le_trans g.d hn, Nat.le_trans g.w hw, q⟩
theorem fn_any {ι : Type} {P : Program} {w : World} {K : PySem.W.Frag} {mg : Str → Option Value} {base : Heap} {CX : CXT} {k : Nat} {f : Addr} {fd : FuncData} {ps : List Str} {sp : ι → Sp} (h : ∀ i, FnOk P w K mg base CX k f fd ps (sp i)) :
    FnOk P w K mg base CX k f fd ps (fun vs H Q E => ∃ i, sp i vs H Q E) :=
  ⟨fun vs H Q E ⟨i, q⟩ => (h i).len vs H Q E q, fun A outer s H args us vs Q E hr e b v ⟨i, q⟩ => (h i).run A outer s H args us vs Q E hr e b v q⟩
/-! ### the tuple of all places, as data -/
def plD (t : Tr) : PyData := .tuple ((pl t).map fun p => .str (st p))
theorem an_strs {ms : List Addr} {H : Hp} : ∀ ps : List (List Nat), AnAll ms H (ps.map fun p => V.str (st p)) (ps.map fun p => .str (st p))
  | [] => .nil
  | p :: r => .cons (.str _) (an_strs r)
theorem goodAll_of {n w : Nat} : ∀ ds : List PyData, (∀ x ∈ ds, Good n w x) → GoodAll n w ds
  | [], _ => .nil
  | x :: r, h => .cons (h x List.mem_cons_self) (goodAll_of r fun y hy => h y (List.mem_cons_of_mem _ hy))
theorem pl_good {t : Tr} (sz : t.sz ≤ 40) : Good 1 50000 (plD t) := by
  have g : GoodAll 0 502 ((pl t).map fun p => .str (st p)) := goodAll_of _ fun x hx => by
    obtain ⟨p, hp, rfl⟩ := List.mem_map.mp hx
    obtain ⟨a, b⟩ := lx_pl sz hp
    exact Lx.good ⟨by omega, b⟩
  obtain ⟨h1, h2, h3⟩ := g.facts
  rw [List.length_map, pl_len] at h3
  have h4 : (502 + 2) * (2 * t.sz + 1) ≤ 504 * 81 := Nat.mul_le_mul_left _ (by omega)
  refine ⟨h1, ?_, ?_⟩
  · show PyData.depthAll _ + 1 ≤ 1
    omega
  · show wdAll _ + 3 ≤ 50000
    omega
theorem two_good {n w : Nat} {x y : PyData} (a : Good n w x) (b : Good n w y) : Good (n + 1) (2 * w + 7) (.tuple [x, y]) := by
  refine ⟨?_, ?_, ?_⟩
  · show (fit x && (fit y && true)) = true
    rw [a.f, b.f]
    rfl
  · show max x.depth (max y.depth 0) + 1 ≤ n + 1
    have := a.d
    have := b.d
    omega
  · show wd x + 2 + (wd y + 2 + 0) + 3 ≤ 2 * w + 7
    have := a.w
    have := b.w
    omega
theorem bl_good (b : Bool) : Good 0 5 (.bool b) := ⟨rfl, Nat.le_refl _, Nat.le_refl _⟩
section
variable {Pr : Program} {w : World} {K : PySem.W.Frag} {mg : Str → Option Value} {base : Heap} {A : Nat → Addr} {D : Nat → FuncData} {c dP P : Addr}
/-- the law's own context -/
abbrev XL (Pr : Program) (w : World) (K : PySem.W.Frag) (mg : Str → Option Value) (base : Heap) (f : Addr) (cdv : Value) (s : Shared) (H0 : Hp) : Cx := (cxOf CX0 Pr w K mg base NL "law" (defScope sLaw) f cdv callerA [] s H0 E0).nox
abbrev SL (a d : Addr) (x2 : Option V) (v : V) (so : Addr) (x5 x6 x7 x8 x9 : Option V) : L2.St := [some (.ref a), some (.ref d), x2, some v, some (.ref so), x5, x6, x7, x8, x9]
abbrev PL (d l P : Addr) : List Addr := [d, l, P]
theorem fn_isPlace (L : All K w mg A D c dP) (b : BF base mg c P) : FnOk Pr w K mg base CX0 4 (A 13) (D 13) ["tree", "thing"] (fun vs H Q E => ∃ ms, spIsPlace ms P vs H Q E) := fn_any fun ms => ok_isPlace L.G b
theorem fn_isTree (L : All K w mg A D c dP) (b : BF base mg c P) : FnOk Pr w K mg base CX0 2 (A 8) (D 8) ["thing"] (fun vs H Q E => ∃ ms, spIsTreeA ms P vs H Q E) := fn_any fun ms => ok_isTreeA L.G.isTree.F L.G.A b
theorem fn_lIsTree (L : All K w mg A D c dP) : FnOk Pr w K mg base CX0 62 (A 23) (D 23) ["_law_thing"] (fun vs H Q E => ∃ ms, spLIsTree ms 60 vs H Q E) := fn_any fun ms => ok_lIsTree L.ltree L.ltag L.bf.Fa.B 60
/-- is_place, twice, of a value near a place -/
theorem near_end (L : All K w mg A D c dP) (b : BF base mg c P) (hsm : ∃ mm, base.Ns sysModules mm) (f : Addr) (cdv : Value) (s : Shared) (H0 : Hp) (hr : Room 62 (XL Pr w K mg base f cdv s H0).A) :
    ∃ tt, PSs (XL Pr w K mg base f cdv s H0) (B4.drop 2) tt ∧ ∀ (E : Ends) (H3 : Hp) (a d l so : Addr) (v x : V) (t : Tr) (dx : PyData) (x2 x5 x9 : Option V),
      LS d l P so v t H3 → t.ok → t.sz ≤ 40 → An (PL d l P) H3 x dx → Good 1 600 dx → lrx dx →
      (∀ (y6 y7 y8 y9 : Option V) (H3 : Hp), LS d l P so v t H3 → E.nx (SL a d x2 v so x5 y6 y7 y8 y9) H3) →
      tt E (SL a d x2 v so x5 (some x) (some (.str dx.shown)) (some (.bl (isPD t dx))) x9) H3 := by
  have B := L.bf.Fa.B
  refine ⟨_, pss_one (ps_if (PW.pt (pw_or (pt_cmpR op_ne
        (pe_callB (cr_reprE hsm rfl hr) (by rfl) B.repr (by decide +kernel) (pa_cons (pe_tup (pa_cons (pe_call (fn_isPlace L b) (hr.mono (by decide)) (by rfl) L.G.isPlace.g L.G.isPlace.F.kp L.G.isPlace.b .nil pass0 (pa_cons (pv 3) (pa_cons (pv 6) pa_nil)))
          (pa_cons (pe_callK0 (fn_isPlace L b) (hr.mono (by decide)) (by rfl) L.G.isPlace.g L.G.isPlace.F.kp L.kPlace pass0 (pk_cons (pv 6) (pk_cons (pv 3) pk_nil))) pa_nil))) pa_nil))
        (pe_callB (cr_reprE hsm rfl hr) (by rfl) B.repr (by decide +kernel) (pa_cons (pe_tup (pa_cons (pv 8) (pa_cons (pv 8) pa_nil))) pa_nil)) (nomark _))
      (pw_or1 (pt_cmpR op_ne (pe_callB (cr_reprE hsm rfl hr) (by rfl) B.repr (by decide +kernel) (pa_cons (pv 6) pa_nil)) (pv 7) (nomark _)))))
      (pss_one (ps_ret pe_bl)) pss_nil), ?_⟩
  intro E H3 a d l so v x t dx x2 x5 x9 S3 ok sz hx gx lx k
  have sz1 : t.sz ≤ 1000 := Nat.le_trans sz (by decide)
  have hP : P ∈ PL d l P := by simp
  have sub : ∀ y ∈ [P], y ∈ PL d l P := fun y hy => by
    rw [List.mem_singleton.mp hy]
    exact hP
  refine ⟨_, rfl, _, rfl, PL d l P, v, x, t, dx, rfl, S3.T, ok, sz1, hx, lx, hP, S3.I.tg, fun H4 g4 k4 => ?_⟩
  have S4 := S3.prog k4 g4
  have hx4 := hx.kp k4 sub dx
  refine ⟨_, rfl, _, rfl, PL d l P, v, x, t, dx, rfl, S4.T, ok, sz1, hx4, lx, hP, g4, fun H5 g5 k5 => ?_⟩
  have S5 := S4.prog k5 g5
  have hx5 := hx4.kp k5 sub dx
  refine ⟨by show 2 ≤ sizeLine; decide, fun q nq => ?_⟩
  have S6 := S5.new (o := .tup [.bl (isPD t dx), .bl (isPD t dx)]) nq
  have hx6 := hx5.kp (.new (ms := []) (o := .tup [.bl (isPD t dx), .bl (isPD t dx)]) nq) (by simp) dx
  refine re_an (ms := []) (an_two upd_same) (two_good (bl_good _) (bl_good _)) (by decide) (by decide) ?_
  refine ⟨_, rfl, _, rfl, by show 2 ≤ sizeLine; decide, fun q2 nq2 => ?_⟩
  have S7 := S6.new (o := .tup [.bl (isPD t dx), .bl (isPD t dx)]) nq2
  have hx7 := hx6.kp (.new (ms := []) (o := .tup [.bl (isPD t dx), .bl (isPD t dx)]) nq2) (by simp) dx
  refine re_an (ms := []) (an_two upd_same) (two_good (bl_good _) (bl_good _)) (by decide) (by decide) ?_
  refine ⟨rfl, _, rfl, iteNS rfl ?_⟩
  refine ⟨_, rfl, re_an hx7 gx (by decide) (by decide) ?_⟩
  refine ⟨_, rfl, rfl, _, rfl, iteNS rfl ?_⟩
  exact k _ _ _ _ _ S7
/-- one value near a place -/
theorem near_piece (L : All K w mg A D c dP) (b : BF base mg c P) (hsm : ∃ mm, base.Ns sysModules mm) (f : Addr) (cdv : Value) (s : Shared) (H0 : Hp) (hr : Room 62 (XL Pr w K mg base f cdv s H0).A) :
    ∃ tt, PSs (XL Pr w K mg base f cdv s H0) B4 tt ∧ ∀ (E : Ends) (H2 : Hp) (a d l so : Addr) (v : V) (t : Tr) (x2 x5 x6 x7 x8 x9 : Option V),
      LS d l P so v t H2 → t.ok → t.sz ≤ 40 →
      (∀ (y6 y7 y8 y9 : Option V) (H3 : Hp), LS d l P so v t H3 → E.nx (SL a d x2 v so x5 y6 y7 y8 y9) H3) →
      tt E (SL a d x2 v so x5 x6 x7 x8 x9) H2 := by
  have B := L.bf.Fa.B
  obtain ⟨tn, dn, rn⟩ := near_end (Pr := Pr) L b hsm f cdv s H0 hr
  refine ⟨_, pss_cons (ps_set (i := 6) scLaw.nd rfl (.inl rfl) (pe_call (ok_near L.bf.Fa L.near.F) (hr.mono (by decide)) (by rfl) L.near.g L.near.F.kp L.near.b .nil pass0 (pa_cons (pv 1) (pa_cons (pv 4) pa_nil))))
    (pss_cons (ps_par (i := 7) (j := 8) (by rfl) scLaw.nd rfl rfl (by decide) rfl rfl
      (pa_cons (pe_callB (cr_reprE hsm rfl hr) (by rfl) B.repr (by decide +kernel) (pa_cons (pv 6) pa_nil))
      (pa_cons (pe_and (pe_callB call_isi (by rfl) B.isi (by decide +kernel) (pa_cons (pv 6) (pa_cons (pe_bltn (v := .ty "str") (by rfl) B.str (by decide +kernel) rfl) pa_nil))) (pe_one (pe_cmpR op_in_seq (pv 6) (pv 4) (by rfl)))) pa_nil)) (by rfl))
    dn), ?_⟩
  intro E H2 a d l so v t x2 x5 x6 x7 x8 x9 S ok sz k
  refine ⟨_, rfl, _, rfl, d, l, so, PL d l P, t, rfl, S.I.fr, S.so_, sz, S.nso.1, S.nl, fun x dx H3 hx gx lx F3 k3 => ?_⟩
  have S3 := S.own k3 F3.dk
  refine ⟨_, rfl, re_an hx gx (by decide) (by decide) ?_⟩
  obtain ⟨ty, hty, kty⟩ := hx.strK (K := K)
  refine ⟨_, rfl, _, .ty "str", ty, .type "str", _, rfl, .ty "str", hty, kty, _, rfl, ?_⟩
  have fin := rn E H3 a d l so v x t dx x2 x5 x9 S3 ok sz hx gx lx k
  cases e : isStr dx with
  | false =>
    have e2 : isPD t dx = false := by
      cases dx <;> first | rfl | cases e
    rw [e2] at fin
    exact iteF ⟨_, _, rfl, fin⟩
  | true =>
    cases hx with
    | str g =>
      refine iteT ⟨_, rfl, _, rfl, so, plV [] t, rfl, .inl (sql_of S3.so_), rfl, flat_pl t, ?_⟩
      have e2 : isPD t (.str g) = inV (.str g) (plV [] t) := (inV_pl t g).symm
      rw [e2] at fin
      exact ⟨_, _, rfl, fin⟩
    | _ => cases e
end
end Ey
set_option maxHeartbeats 4000000
namespace Ey
open PySem PySem.Spec L2
section
variable {Pr : Program} {w : World} {K : PySem.W.Frag} {mg : Str → Option Value} {base : Heap} {A : Nat → Addr} {D : Nat → FuncData} {c dP P : Addr}
/-- is_tree, twice, of a value -/
theorem tree_end (L : All K w mg A D c dP) (b : BF base mg c P) (hsm : ∃ mm, base.Ns sysModules mm) (f : Addr) (cdv : Value) (s : Shared) (H0 : Hp) (hr : Room 62 (XL Pr w K mg base f cdv s H0).A) :
    ∃ tt, PSs (XL Pr w K mg base f cdv s H0) (B1.drop 8) tt ∧ ∀ (E : Ends) (H3 : Hp) (a d l so : Addr) (v x : V) (t : Tr) (dx : PyData) (x2 x5 x9 : Option V),
      LS d l P so v t H3 → An (PL d l P) H3 x dx → Good 60 20000 dx →
      (∀ (y6 y7 y8 y9 : Option V) (H3 : Hp), LS d l P so v t H3 → E.nx (SL a d x2 v so x5 y6 y7 y8 y9) H3) →
      tt E (SL a d x2 v so x5 (some x) (some (.str dx.shown)) (some (.bl (isT dx))) x9) H3 := by
  have B := L.bf.Fa.B
  refine ⟨_, pss_one (ps_if (PW.pt (pw_or (pt_cmpR op_ne
        (pe_callB (cr_reprE hsm rfl hr) (by rfl) B.repr (by decide +kernel) (pa_cons (pe_tup (pa_cons (pe_call (fn_isTree L b) (hr.mono (by decide)) (by rfl) L.G.isTree.g L.G.isTree.F.kp L.G.isTree.b .nil pass0 (pa_cons (pv 6) pa_nil))
          (pa_cons (pe_callK0 (fn_isTree L b) (hr.mono (by decide)) (by rfl) L.G.isTree.g L.G.isTree.F.kp L.kTree pass0 (pk_cons (pv 6) pk_nil)) pa_nil))) pa_nil))
        (pe_callB (cr_reprE hsm rfl hr) (by rfl) B.repr (by decide +kernel) (pa_cons (pe_tup (pa_cons (pv 8) (pa_cons (pv 8) pa_nil))) pa_nil)) (nomark _))
      (pw_or1 (pt_cmpR op_ne (pe_callB (cr_reprE hsm rfl hr) (by rfl) B.repr (by decide +kernel) (pa_cons (pv 6) pa_nil)) (pv 7) (nomark _)))))
      (pss_one (ps_ret pe_bl)) pss_nil), ?_⟩
  intro E H3 a d l so v x t dx x2 x5 x9 S3 hx gx k
  have hP : P ∈ PL d l P := by simp
  have hw : wd dx ≤ 1000000 := Nat.le_trans gx.w (by decide)
  have sub : ∀ y ∈ [P], y ∈ PL d l P := fun y hy => by
    rw [List.mem_singleton.mp hy]
    exact hP
  refine ⟨_, rfl, PL d l P, x, dx, rfl, hx, hw, hP, S3.I.tg, fun H4 g4 k4 => ?_⟩
  have S4 := S3.prog k4 g4
  have hx4 := hx.kp k4 sub dx
  refine ⟨_, rfl, PL d l P, x, dx, rfl, hx4, hw, hP, g4, fun H5 g5 k5 => ?_⟩
  have S5 := S4.prog k5 g5
  have hx5 := hx4.kp k5 sub dx
  refine ⟨by show 2 ≤ sizeLine; decide, fun q nq => ?_⟩
  have S6 := S5.new (o := .tup [.bl (isT dx), .bl (isT dx)]) nq
  have hx6 := hx5.kp (.new (ms := []) (o := .tup [.bl (isT dx), .bl (isT dx)]) nq) (by simp) dx
  refine re_an (ms := []) (an_two upd_same) (two_good (bl_good _) (bl_good _)) (by decide) (by decide) ?_
  refine ⟨_, rfl, _, rfl, by show 2 ≤ sizeLine; decide, fun q2 nq2 => ?_⟩
  have S7 := S6.new (o := .tup [.bl (isT dx), .bl (isT dx)]) nq2
  have hx7 := hx6.kp (.new (ms := []) (o := .tup [.bl (isT dx), .bl (isT dx)]) nq2) (by simp) dx
  refine re_an (ms := []) (an_two upd_same) (two_good (bl_good _) (bl_good _)) (by decide) (by decide) ?_
  refine ⟨rfl, _, rfl, iteNS rfl ?_⟩
  refine ⟨_, rfl, re_an hx7 gx (by decide) (by decide) ?_⟩
  refine ⟨_, rfl, rfl, _, rfl, iteNS rfl ?_⟩
  exact k _ _ _ _ _ S7
/-- a value, looked at -/
theorem look_piece (L : All K w mg A D c dP) (b : BF base mg c P) (hsm : ∃ mm, base.Ns sysModules mm) (f : Addr) (cdv : Value) (s : Shared) (H0 : Hp) (hr : Room 62 (XL Pr w K mg base f cdv s H0).A) :
    ∃ tt, PSs (XL Pr w K mg base f cdv s H0) (B1.drop 6) tt ∧ ∀ (E : Ends) (H3 : Hp) (a d l so : Addr) (v x : V) (t : Tr) (dx : PyData) (x2 x5 x7 x8 x9 : Option V),
      LS d l P so v t H3 → An (PL d l P) H3 x dx → Good 55 15000 dx →
      (∀ (y6 y7 y8 y9 : Option V) (H3 : Hp), LS d l P so v t H3 → E.nx (SL a d x2 v so x5 y6 y7 y8 y9) H3) →
      (∀ (y6 y7 y8 y9 : Option V) (H3 : Hp), LS d l P so v t H3 → E.ct (SL a d x2 v so x5 y6 y7 y8 y9) H3) →
      tt E (SL a d x2 v so x5 (some x) x7 x8 x9) H3 := by
  have B := L.bf.Fa.B
  obtain ⟨tn, dn, rn⟩ := tree_end (Pr := Pr) L b hsm f cdv s H0 hr
  refine ⟨_, pss_cons (ps_par (i := 7) (j := 8) (by rfl) scLaw.nd rfl rfl (by decide) rfl rfl
      (pa_cons (pe_callB (cr_reprE hsm rfl hr) (by rfl) B.repr (by decide +kernel) (pa_cons (pv 6) pa_nil))
      (pa_cons (pe_call (fn_lIsTree L) hr (by rfl) L.ltree.g L.ltree.F.kp L.ltree.b .nil pass0 (pa_cons (pv 6) pa_nil)) pa_nil)) (by rfl))
    (pss_cons (ps_if (PW.pt (pw_and (pt_val (pv 8)) (pw_and1 (pt_cmpR op_gt
        (pe_callB (cr_max (by rfl)) (by rfl) B.max (by decide +kernel) (pa_cons (pe_lc (own := [("_law_place", 9)]) (g := gName 9) (tt := tYes) rfl scLaw.nd
          (pi_list (pe_call (ok_lplaces L.lplaces 60) (hr.mono (by decide)) (by rfl) L.lplaces.g L.lplaces.F.kp L.lplaces.b .nil pass0 (pa_cons (pv 6) (pa_cons pe_str pa_nil))))
          (blkOk_by (N := NL) (sc := defScope sLaw) (by decide +kernel)) (fun _ _ _ _ _ => pg_name (i := 9) scLaw.nd rfl (Or.inl rfl)) (fun _ _ _ _ _ => pts_nil)
          (fun _ _ _ _ _ => pe_callB call_len_str (by rfl) B.len PySem.boot_len (pa_cons (pv 9) pa_nil))) pa_nil)) pe_int (nomark _)))))
      (pss_one ps_continue) pss_nil)
    dn), ?_⟩
  intro E H3 a d l so v x t dx x2 x5 x7 x8 x9 S3 hx gx kn kc
  have hw : wd dx ≤ 1000000 := Nat.le_trans gx.w (by decide)
  have gx' : Good 60 20000 dx := gx.mono (by decide) (by decide)
  refine ⟨_, rfl, re_an hx gx (by decide) (by decide) ?_⟩
  refine ⟨_, rfl, PL d l P, x, dx, rfl, hx, gx.f, hw, Nat.le_trans gx.d (by decide), fun H4 k4 => ?_⟩
  have S4 := S3.kp0 k4
  have hx4 := hx.kp k4 (by simp) dx
  refine ⟨_, _, rfl, ?_⟩
  have fin := fun (H5 : Hp) (S5 : LS d l P so v t H5) (h5 : An (PL d l P) H5 x dx) => rn E H5 a d l so v x t dx x2 x5 x9 S5 h5 gx' kn
  refine ⟨_, rfl, _, rfl, ?_⟩
  cases e : isT dx with
  | false =>
    rw [e] at fin
    exact iteF (fin H4 S4 hx4)
  | true =>
    rw [e] at fin
    refine iteT ?_
    obtain ⟨t1, o1, rfl⟩ := isT_td dx e
    have T1 := An.tree t1 hx4
    have hd := gx.d
    have hww := gx.w
    have h1 := ht_depth t1
    have h2 := sz_wd t1
    refine ⟨_, rfl, x, t1, [], by rw [s_e]; rfl, T1, by omega, by omega, by decide, fun p H5 k5 np hp => ?_⟩
    have S5 := S4.kp0 k5
    have hx5 := hx4.kp k5 (by simp) (td t1)
    refine ⟨p, rfl, ⟨_, sql_of hp⟩, fun Dl nD => ?_⟩
    have nDp : p ≠ Dl := ne_of_none hp nD
    refine lc_list (xs := plV [] t1) (fun i H => ∃ ns : List Int, H Dl = some (.lst (ns.map V.int)) ∧ ns.length = i ∧ Kp [] H5 H)
      ⟨[], upd_same, rfl, .new nD⟩ ?_ ?_ ?_
    · rintro i H hi ⟨ns, _, _, k6⟩
      exact sql_of (k6.at_ _ _ hp List.not_mem_nil)
    · rintro i y H hy ⟨ns, hD, hl, k6⟩
      obtain ⟨q, hq, rfl⟩ := map_get hy
      have hlen : (st q).length ≤ sizeLine := by
        rw [st_len]
        have := pl_ht t1 q (List.mem_of_getElem? hq)
        exact Nat.le_trans (show q.length ≤ 60 by omega) (by decide)
      have hi : i < (plV [] t1).length := (List.getElem?_eq_some_iff.mp hy).1
      have hs : (plV [] t1).length ≤ 40001 := by
        rw [plV_len]
        omega
      refine ⟨rfl, _, rfl, _, rfl, hlen, ns.map V.int, hD, ?_, ns ++ [((st q).length : Int)], ?_, by rw [List.length_append, hl]; rfl, k6.own nD⟩
      · rw [List.length_map, hl]
        exact Nat.lt_of_lt_of_le (show i < 40001 by omega) (by decide)
      · rw [upd_same, List.map_append]
        rfl
    · rintro H ⟨ns, hD, hl, k6⟩
      have S6 := S5.kp0 k6
      have hx6 := hx5.kp k6 (by simp) (td t1)
      refine ⟨Dl, ns, rfl, sql_of hD, ?_, fun m _ _ => ?_⟩
      · rw [hl, plV_len]
        omega
      · refine ⟨_, _, rfl, rfl, _, rfl, ite2 (fun _ => ?_) (fun _ => ?_)⟩
        · exact kc _ _ _ _ _ S6
        · exact fin H S6 hx6
end
end Ey
set_option maxHeartbeats 4000000
namespace Ey
open PySem PySem.Spec L2
theorem plV_str (t : Tr) : plV [] t = ((pl t).map st).map V.str := by
  rw [List.map_map]
  rfl
theorem an_pair {ms : List Addr} {H : Hp} {q m1 m2 : Addr} {t : Tr} (e : H q = some (.tup [.ref m1, .ref m2])) (h1 : H m1 = some (.tup ((pl t).map fun p => V.str (st p)))) (h2 : H m2 = some (.tup ((pl t).map fun p => V.str (st p)))) :
    An ms H (.ref q) (.tuple [plD t, plD t]) := .tup e (.cons (.tup h1 (an_strs _)) (.cons (.tup h2 (an_strs _)) .nil))
section
variable {Pr : Program} {w : World} {K : PySem.W.Frag} {mg : Str → Option Value} {base : Heap} {A : Nat → Addr} {D : Nat → FuncData} {c dP P : Addr}
/-- a turn behind the drawing of the value -/
theorem spoilt_piece (L : All K w mg A D c dP) (b : BF base mg c P) (hsm : ∃ mm, base.Ns sysModules mm) (f : Addr) (cdv : Value) (s : Shared) (H0 : Hp) (hr : Room 62 (XL Pr w K mg base f cdv s H0).A) :
    ∃ tt, PSs (XL Pr w K mg base f cdv s H0) (B1.drop 4) tt ∧ ∀ (E : Ends) (H3 : Hp) (a d l so : Addr) (v : V) (t : Tr) (x2 x5 x6 x7 x8 x9 : Option V),
      LS d l P so v t H3 → t.ok → t.sz ≤ 40 →
      (∀ (y6 y7 y8 y9 : Option V) (H3 : Hp), LS d l P so v t H3 → E.nx (SL a d x2 v so x5 y6 y7 y8 y9) H3) →
      (∀ (y6 y7 y8 y9 : Option V) (H3 : Hp), LS d l P so v t H3 → E.ct (SL a d x2 v so x5 y6 y7 y8 y9) H3) →
      tt E (SL a d x2 v so x5 x6 x7 x8 x9) H3 := by
  have B := L.bf.Fa.B
  obtain ⟨tn, dn, rn⟩ := look_piece (Pr := Pr) L b hsm f cdv s H0 hr
  have hr1 := hr.mono (show 1 ≤ 62 by decide)
  refine ⟨_, pss_cons (ps_set (i := 6) scLaw.nd rfl (.inl rfl) (pe_call (ok_spoilt L.bf L.bent L.spoilt 42) (hr.mono (by decide)) (by rfl) L.spoilt.g L.spoilt.F.kp L.spoilt.b .nil pass0 (pa_cons (pv 1) (pa_cons (pv 3) pa_nil))))
    (pss_cons (ps_if (pt_cmpR op_eq (pe_call (ok_draw L.bf.Fa.draw.F B) hr1 (by rfl) L.bf.Fa.draw.g L.bf.Fa.draw.F.kp L.bf.Fa.draw.b .nil pass0 (pa_cons (pv 1) (pa_cons pe_int pa_nil))) pe_int (nomark _))
      (pss_one (ps_set (i := 6) scLaw.nd rfl (.inl rfl) (pe_call (ok_pick L.bf.Fa.pick.F B L.bf.Fa.draw) (hr.mono (by decide)) (by rfl) L.bf.Fa.pick.g L.bf.Fa.pick.F.kp L.bf.Fa.pick.b .nil pass0 (pa_cons (pv 1) (pa_cons (pe_lst
        (pa_cons (pe_tup (pa_cons pe_str (pa_cons pe_non pa_nil)))
        (pa_cons (pe_lst (pa_cons pe_str (pa_cons pe_non (pa_cons pe_non pa_nil))))
        (pa_cons (pe_tup (pa_cons pe_str (pa_cons pe_non (pa_cons pe_non pa_nil))))
        (pa_cons (pe_tup (pa_cons pe_str (pa_cons pe_non (pa_cons pe_non pa_nil))))
        (pa_cons (pe_tup (pa_cons pe_str (pa_cons pe_non (pa_cons pe_non pa_nil))))
        (pa_cons (pe_tup (pa_cons pe_str (pa_cons pe_non (pa_cons pe_non (pa_cons pe_non pa_nil)))))
        (pa_cons (pe_tup (pa_cons pe_str (pa_cons pe_non (pa_cons pe_non pa_nil))))
        (pa_cons (pe_call (ok_any L.bf.Fa L.bf.any 4) (hr.mono (by decide)) (by rfl) L.bf.any.g L.bf.any.F.kp L.bf.any.b .nil pass0 (pa_cons (pv 1) (pa_cons pe_int pa_nil))) pa_nil))))))))) pa_nil))))) pss_nil)
    dn), ?_⟩
  intro E H3 a d l so v t x2 x5 x6 x7 x8 x9 S ok sz kn kc
  have hsz := ht_sz t
  have hdep := td_depth t
  have hwd := td_wd t ok
  have fin := fun (x : V) (dx : PyData) (H : Hp) (hx : An (PL d l P) H x dx) (gx : Good 55 15000 dx) (S' : LS d l P so v t H) => rn E H a d l so v x t dx x2 x5 x7 x8 x9 S' hx gx kn kc
  refine ⟨_, rfl, _, rfl, d, l, PL d l P, v, td t, rfl, by omega, .tree t S.T ok, by omega, by omega, S.I.fr, fun x dx H4 hx gx F4 k4 => ?_⟩
  have S4 := S.own k4 F4.dk
  refine ⟨_, rfl, d, l, 5, rfl, S4.I.fr.dk, by decide, by decide, fun r H5 r0 r1 D5 k5 => ⟨rfl, _, rfl, ite2 (fun _ => ?_) (fun _ => ?_)⟩⟩
  · have S5 := S4.own k5 D5
    refine ⟨_, rfl, by show 2 ≤ sizeLine; decide, fun p1 n1 => ?_⟩
    have a1 : An (PL d l P) (upd H5 p1 (.tup [.str "a", .non])) (.ref p1) (.tuple [.str "a", .none]) := .tup upd_same (.cons (.str _) (.cons .non .nil))
    have S6 := S5.new (o := .tup [.str "a", .non]) n1
    generalize upd H5 p1 (.tup [.str "a", .non]) = H6 at a1 S6
    refine ⟨by show 3 ≤ sizeLine; decide, fun p2 n2 => ?_⟩
    have a2 : An (PL d l P) (upd H6 p2 (.lst [.str "a", .non, .non])) (.ref p2) (.list [.str "a", .none, .none]) := .lst upd_same (S6.I.fr.has.fresh n2) (.cons (.str _) (.cons .non (.cons .non .nil)))
    have k7 : Kp [] H6 (upd H6 p2 (.lst [.str "a", .non, .non])) := .new n2
    have S7 := S6.kp0 k7
    have a1 := a1.kp k7 (by simp) _
    generalize upd H6 p2 (.lst [.str "a", .non, .non]) = H7 at a1 a2 S7
    refine ⟨by show 3 ≤ sizeLine; decide, fun p3 n3 => ?_⟩
    have a3 : An (PL d l P) (upd H7 p3 (.tup [.str "abcdefghi", .non, .non])) (.ref p3) (.tuple [.str "abcdefghi", .none, .none]) := .tup upd_same (.cons (.str _) (.cons .non (.cons .non .nil)))
    have k8 : Kp [] H7 (upd H7 p3 (.tup [.str "abcdefghi", .non, .non])) := .new n3
    have S8 := S7.kp0 k8
    have a1 := a1.kp k8 (by simp) _
    have a2 := a2.kp k8 (by simp) _
    generalize upd H7 p3 (.tup [.str "abcdefghi", .non, .non]) = H8 at a1 a2 a3 S8
    refine ⟨by show 3 ≤ sizeLine; decide, fun p4 n4 => ?_⟩
    have a4 : An (PL d l P) (upd H8 p4 (.tup [.str "A", .non, .non])) (.ref p4) (.tuple [.str "A", .none, .none]) := .tup upd_same (.cons (.str _) (.cons .non (.cons .non .nil)))
    have k9 : Kp [] H8 (upd H8 p4 (.tup [.str "A", .non, .non])) := .new n4
    have S9 := S8.kp0 k9
    have a1 := a1.kp k9 (by simp) _
    have a2 := a2.kp k9 (by simp) _
    have a3 := a3.kp k9 (by simp) _
    generalize upd H8 p4 (.tup [.str "A", .non, .non]) = H9 at a1 a2 a3 a4 S9
    refine ⟨by show 3 ≤ sizeLine; decide, fun p5 n5 => ?_⟩
    have a5 : An (PL d l P) (upd H9 p5 (.tup [.str "", .non, .non])) (.ref p5) (.tuple [.str "", .none, .none]) := .tup upd_same (.cons (.str _) (.cons .non (.cons .non .nil)))
    have k10 : Kp [] H9 (upd H9 p5 (.tup [.str "", .non, .non])) := .new n5
    have S10 := S9.kp0 k10
    have a1 := a1.kp k10 (by simp) _
    have a2 := a2.kp k10 (by simp) _
    have a3 := a3.kp k10 (by simp) _
    have a4 := a4.kp k10 (by simp) _
    generalize upd H9 p5 (.tup [.str "", .non, .non]) = H10 at a1 a2 a3 a4 a5 S10
    refine ⟨by show 4 ≤ sizeLine; decide, fun p6 n6 => ?_⟩
    have a6 : An (PL d l P) (upd H10 p6 (.tup [.str "a", .non, .non, .non])) (.ref p6) (.tuple [.str "a", .none, .none, .none]) := .tup upd_same (.cons (.str _) (.cons .non (.cons .non (.cons .non .nil))))
    have k11 : Kp [] H10 (upd H10 p6 (.tup [.str "a", .non, .non, .non])) := .new n6
    have S11 := S10.kp0 k11
    have a1 := a1.kp k11 (by simp) _
    have a2 := a2.kp k11 (by simp) _
    have a3 := a3.kp k11 (by simp) _
    have a4 := a4.kp k11 (by simp) _
    have a5 := a5.kp k11 (by simp) _
    generalize upd H10 p6 (.tup [.str "a", .non, .non, .non]) = H11 at a1 a2 a3 a4 a5 a6 S11
    refine ⟨by show 3 ≤ sizeLine; decide, fun p7 n7 => ?_⟩
    have a7 : An (PL d l P) (upd H11 p7 (.tup [.str "a\n", .non, .non])) (.ref p7) (.tuple [.str "a\n", .none, .none]) := .tup upd_same (.cons (.str _) (.cons .non (.cons .non .nil)))
    have k12 : Kp [] H11 (upd H11 p7 (.tup [.str "a\n", .non, .non])) := .new n7
    have S12 := S11.kp0 k12
    have a1 := a1.kp k12 (by simp) _
    have a2 := a2.kp k12 (by simp) _
    have a3 := a3.kp k12 (by simp) _
    have a4 := a4.kp k12 (by simp) _
    have a5 := a5.kp k12 (by simp) _
    have a6 := a6.kp k12 (by simp) _
    generalize upd H11 p7 (.tup [.str "a\n", .non, .non]) = H12 at a1 a2 a3 a4 a5 a6 a7 S12
    refine ⟨_, rfl, d, l, PL d l P, 3, rfl, by decide, S12.I.fr, fun u du H13 hu gu F13 k13 => ?_⟩
    have S13 := S12.own k13 F13.dk
    have sd : ∀ y ∈ [d, l], y ∈ PL d l P := subD
    refine ⟨by show 8 ≤ sizeLine; decide, fun p8 n8 => ?_⟩
    have k14 : Kp [d, l] H12 (upd H13 p8 (.lst [.ref p1, .ref p2, .ref p3, .ref p4, .ref p5, .ref p6, .ref p7, u])) := k13.trans (.new n8)
    have k14' : Kp [] H13 (upd H13 p8 (.lst [.ref p1, .ref p2, .ref p3, .ref p4, .ref p5, .ref p6, .ref p7, u])) := .new n8
    have S14 := S13.kp0 k14'
    have ne8 := S13.I.fr.ne n8
    refine ⟨d, l, p8, _, rfl, S14.I.fr.dk, sql_of upd_same, by simp, by show 8 ≤ 1000; decide, ne8.1, ne8.2, fun y H15 hy D15 k15 => ?_⟩
    have S15 := S14.own k15 D15
    have kk := k14.trans k15
    simp only [List.mem_cons, List.not_mem_nil, or_false] at hy
    rcases hy with rfl | rfl | rfl | rfl | rfl | rfl | rfl | rfl
    · exact fin _ _ H15 (a1.kp kk sd _) ⟨by decide +kernel, by decide +kernel, by decide +kernel⟩ S15
    · exact fin _ _ H15 (a2.kp kk sd _) ⟨by decide +kernel, by decide +kernel, by decide +kernel⟩ S15
    · exact fin _ _ H15 (a3.kp kk sd _) ⟨by decide +kernel, by decide +kernel, by decide +kernel⟩ S15
    · exact fin _ _ H15 (a4.kp kk sd _) ⟨by decide +kernel, by decide +kernel, by decide +kernel⟩ S15
    · exact fin _ _ H15 (a5.kp kk sd _) ⟨by decide +kernel, by decide +kernel, by decide +kernel⟩ S15
    · exact fin _ _ H15 (a6.kp kk sd _) ⟨by decide +kernel, by decide +kernel, by decide +kernel⟩ S15
    · exact fin _ _ H15 (a7.kp kk sd _) ⟨by decide +kernel, by decide +kernel, by decide +kernel⟩ S15
    · exact fin _ _ H15 ((hu.kp k14' (by simp) du).kp k15 sd du) (gu.mono (by decide) (by decide +kernel)) S15
  · have S5 := S4.own k5 D5
    refine fin x dx H5 (hx.kp k5 subD dx) (gx.mono (by omega) (by omega)) S5
/-- a turn behind the drawing of its tree -/
theorem tree_piece (L : All K w mg A D c dP) (b : BF base mg c P) (hsm : ∃ mm, base.Ns sysModules mm) (f : Addr) (cdv : Value) (s : Shared) (H0 : Hp) (hr : Room 62 (XL Pr w K mg base f cdv s H0).A) :
    ∃ tt, PSs (XL Pr w K mg base f cdv s H0) (B1.drop 1) tt ∧ ∀ (E : Ends) (H2 : Hp) (a d l : Addr) (v : V) (t : Tr) (x2 x4 x5 x6 x7 x8 x9 : Option V),
      LI d l P H2 → TreeAt H2 v t → t.ok → t.sz ≤ 40 →
      (∀ (x4 x5 x6 x7 x8 x9 : Option V) (H3 : Hp), LI d l P H3 → E.nx [some (.ref a), some (.ref d), x2, some v, x4, x5, x6, x7, x8, x9] H3) →
      (∀ (x4 x5 x6 x7 x8 x9 : Option V) (H3 : Hp), LI d l P H3 → E.ct [some (.ref a), some (.ref d), x2, some v, x4, x5, x6, x7, x8, x9] H3) →
      tt E [some (.ref a), some (.ref d), x2, some v, x4, x5, x6, x7, x8, x9] H2 := by
  have B := L.bf.Fa.B
  obtain ⟨tn, dn, rn⟩ := near_piece (Pr := Pr) L b hsm f cdv s H0 hr
  obtain ⟨tu, du, ru⟩ := spoilt_piece (Pr := Pr) L b hsm f cdv s H0 hr
  have hr4 := hr.mono (show 4 ≤ 62 by decide)
  refine ⟨_, pss_cons (ps_set (i := 4) scLaw.nd rfl (.inl rfl) (pe_callB cr_sortT (by rfl) B.sorted (by decide +kernel) (pa_cons (pe_call (ok_lplaces L.lplaces 40) (hr.mono (by decide)) (by rfl) L.lplaces.g L.lplaces.F.kp L.lplaces.b .nil pass0 (pa_cons (pv 3) (pa_cons pe_str pa_nil))) pa_nil)))
    (pss_cons (ps_if (PW.pt (pw_or (pt_cmpR op_ne
        (pe_callB (cr_reprE hsm rfl hr) (by rfl) B.repr (by decide +kernel) (pa_cons (pe_tup (pa_cons (pe_call (ok_places L.G b) hr4 (by rfl) L.G.places.g L.G.places.F.kp L.G.places.b .nil pass0 (pa_cons (pv 3) pa_nil))
          (pa_cons (pe_callK0 (ok_places L.G b) hr4 (by rfl) L.G.places.g L.G.places.F.kp L.kPlaces pass0 (pk_cons (pv 3) pk_nil)) pa_nil))) pa_nil))
        (pe_callB (cr_reprE hsm rfl hr) (by rfl) B.repr (by decide +kernel) (pa_cons (pe_op op_repT (pe_tup (pa_cons (pe_callTy call_tuple_of (by rfl) B.tuple (by decide +kernel) (pa_cons (pv 4) pa_nil)) pa_nil)) pe_int) pa_nil)) (nomark _))
      (pw_or1 (pt_cmpR op_notBl (pe_call (fn_isTree L b) (hr.mono (by decide)) (by rfl) L.G.isTree.g L.G.isTree.F.kp L.G.isTree.b .nil pass0 (pa_cons (pv 3) pa_nil)) pe_bl (nomark _)))))
      (pss_one (ps_ret pe_bl)) pss_nil)
    (pss_cons (ps_for PassesOwn.never rfl (pi_range1 (by rfl) B.range (pa_cons pe_int pa_nil)) (pg_name (i := 5) scLaw.nd rfl (.inl rfl)) dn)
    du)), ?_⟩
  intro E H2 a d l v t x2 x4 x5 x6 x7 x8 x9 I T ok sz kn kc
  have sz1 : t.sz ≤ 1000 := Nat.le_trans sz (by decide)
  have htl : t.ht ≤ 40 := Nat.le_trans (ht_sz t) sz
  have hwd := td_wd t ok
  refine ⟨_, rfl, v, t, [], by rw [s_e]; rfl, T, htl, by omega, by decide, fun q0 H3 k3 n3 h3 => ?_⟩
  have I3 : LI d l P H3 := I.kp0 k3
  rw [plV_str] at h3
  refine ⟨q0, (pl t).map st, rfl, sql_of h3, ?_, fun ys so hperm hsort nso => ?_⟩
  · rw [List.length_map, pl_len]
    exact Nat.le_trans (show 2 * t.sz + 1 ≤ 2001 by omega) (by decide)
  rw [sorted_is hperm hsort (pl_up t), ← plV_str]
  have nsl : so ≠ l := (I3.fr.ne nso).2
  have S4 : LS d l P so v t (upd H3 so (.lst (plV [] t))) := ⟨I3.new nso, (T.kp k3).kp (.new nso) (ms := []), upd_same, nsl⟩
  generalize upd H3 so (.lst (plV [] t)) = H4 at S4
  -- places, twice
  refine ⟨_, rfl, v, t, rfl, S4.T, ok, sz1, S4.I.tg, fun m1 H5 nm1 hm1 g5 k5 => ?_⟩
  have S5 := S4.prog k5 g5
  refine ⟨_, rfl, v, t, rfl, S5.T, ok, sz1, S5.I.tg, fun m2 H6 nm2 hm2 g6 k6 => ?_⟩
  have S6 := S5.prog k6 g6
  have hm1' := k6.tup _ _ hm1
  refine ⟨by show 2 ≤ sizeLine; decide, fun q1 nq1 => ?_⟩
  have k7 : Kp [] H6 (upd H6 q1 (.tup [.ref m1, .ref m2])) := .new nq1
  have S7 := S6.kp0 k7
  refine re_an (ms := []) (an_pair upd_same (k7.tup _ _ hm1') (k7.tup _ _ hm2)) (two_good (pl_good sz) (pl_good sz)) (by decide) (by decide) ?_
  generalize upd H6 q1 (.tup [.ref m1, .ref m2]) = H7 at S7
  refine ⟨_, rfl, so, _, rfl, .inl ⟨sql_of S7.so_, fun q2 nq2 => ?_⟩⟩
  have S8 := S7.new (o := .tup (plV [] t)) nq2
  have e2 : (upd H7 q2 (.tup (plV [] t))) q2 = some (.tup ((pl t).map fun p => V.str (st p))) := upd_same
  generalize upd H7 q2 (.tup (plV [] t)) = H8 at S8 e2
  refine ⟨by show 1 ≤ sizeLine; decide, fun q3 nq3 => ?_⟩
  have k9 : Kp [] H8 (upd H8 q3 (.tup [.ref q2])) := .new nq3
  have S9 := S8.kp0 k9
  have e9 := k9.tup _ _ e2
  have e3 : (upd H8 q3 (.tup [.ref q2])) q3 = some (.tup [.ref q2]) := upd_same
  generalize upd H8 q3 (.tup [.ref q2]) = H9 at S9 e9 e3
  refine ⟨q3, 2, [.ref q2], rfl, rfl, sqt_of e3, by simp, by decide, by decide, by show 1 ≤ 1000; decide, fun q4 nq4 => ?_⟩
  have k10 : Kp [] H9 (upd H9 q4 (.tup [.ref q2, .ref q2])) := .new nq4
  have S10 := S9.kp0 k10
  refine re_an (ms := []) (an_pair (m1 := q2) (m2 := q2) upd_same (k10.tup _ _ e9) (k10.tup _ _ e9)) (two_good (pl_good sz) (pl_good sz)) (by decide) (by decide) ?_
  refine ⟨rfl, _, rfl, iteNS rfl ?_⟩
  refine ⟨_, rfl, PL d l P, v, td t, rfl, S10.T.an, by omega, by simp, S10.I.tg, fun H11 g11 k11 => ?_⟩
  rw [td_isT t ok]
  have S11 := S10.prog k11 g11
  refine ⟨_, _, rfl, rfl, _, rfl, iteNS rfl ?_⟩
  -- four values near places
  refine ⟨4, rfl, by decide, by decide, ?_⟩
  refine for_range (lo := 0) (n := 4) (fun i σ H => ∃ (y5 y6 y7 y8 y9 : Option V), σ = SL a d x2 v so y5 y6 y7 y8 y9 ∧ LS d l P so v t H)
    ⟨_, _, _, _, _, rfl, S11⟩ ?_ ?_
  · rintro i σ H hi ⟨z5, z6, z7, z8, z9, rfl, S⟩
    refine rn _ H a d l so v t x2 _ z6 z7 z8 z9 S ok sz fun u6 u7 u8 u9 H9 S9 => ?_
    exact ⟨_, _, _, _, _, rfl, S9⟩
  · rintro σ H ⟨z5, z6, z7, z8, z9, rfl, S⟩
    exact ru E H a d l so v t x2 z5 z6 z7 z8 z9 S ok sz (fun y6 y7 y8 y9 H' S' => kn _ _ _ _ _ _ H' S'.I) (fun y6 y7 y8 y9 H' S' => kc _ _ _ _ _ _ H' S'.I)
end
end Ey
set_option maxHeartbeats 4000000
namespace Ey
open PySem PySem.Spec L2
theorem kp_cut {d l p : Addr} {H H1 : Hp} {o : HO} (k : Kp [d, l, p] (upd H p o) H1) (n : H p = none) : Kp [d, l] H H1 := by
  have e := fun (c : Addr) (u : HO) (q : H c = some u) => show (upd H p o) c = some u from (upd_ne (ne_of_none q n)).trans q
  refine ⟨fun c u q m => k.at_ c u (e c u q) fun z => ?_, fun c xs q => k.tup c xs (e c _ q)⟩
  simp only [List.mem_cons, List.not_mem_nil, or_false] at z m
  rcases z with z | z | z
  · exact m (.inl z)
  · exact m (.inr z)
  · exact ne_of_none q n z
section
variable {Pr : Program} {w : World} {K : PySem.W.Frag} {mg : Str → Option Value} {base : Heap} {A : Nat → Addr} {D : Nat → FuncData} {c dP P : Addr}
def spLaw (K : PySem.W.Frag) (P : Addr) : Sp := fun vs H Q _ => ∃ (a : Addr) (ns : List Int), vs = [.ref a] ∧ SqL K H a (ns.map V.int) ∧ ns.length ≤ 63 ∧ GxR.TabG H P ∧ ∀ H', Q (.bl true) H'
theorem ok_law {f : Addr} {fd : FuncData} (F : Fun K "law" "law" sLaw f fd) (L : All K w mg A D c dP) (b : BF base mg c P) (hsm : ∃ mm, base.Ns sysModules mm) : LawOk Pr w K mg base f fd "_law_script" (spLaw K P) := by
  have B := L.bf.Fa.B
  refine law_ok (k := 62) F scLaw ⟨rfl, by decide, by decide⟩ fun cdv s H v Q hr h => ?_
  obtain ⟨a, ns, e, hS, hn, g, k⟩ := h
  cases e
  obtain ⟨tb, db, rb⟩ := tree_piece (Pr := Pr) L b hsm f cdv s H hr
  have hr1 := hr.mono (show 1 ≤ 62 by decide)
  refine ⟨_, pss_cons (ps_set (i := 1) scLaw.nd rfl (.inl rfl) (pe_call (ok_deck L.deck.F B) hr1 (by rfl) L.deck.g L.deck.F.kp L.deck.b .nil pass0 (pa_cons (pv 0) (pa_cons pe_int pa_nil))))
    (pss_cons (ps_for PassesOwn.never rfl (pi_range1 (by rfl) B.range (pa_cons pe_int pa_nil)) (pg_name (i := 2) scLaw.nd rfl (.inl rfl))
      (pss_cons (ps_set (i := 3) scLaw.nd rfl (.inl rfl) (pe_ifExp (pt_cmpR op_gt (pe_call (ok_draw L.bf.Fa.draw.F B) hr1 (by rfl) L.bf.Fa.draw.g L.bf.Fa.draw.F.kp L.bf.Fa.draw.b .nil pass0 (pa_cons (pv 1) (pa_cons pe_int pa_nil))) pe_int (nomark _))
        (pe_call (ok_tree L.bf.Fa L.tree 8) (hr.mono (by decide)) (by rfl) L.tree.g L.tree.F.kp L.tree.b .nil pass0 (pa_cons (pv 1) (pa_cons (pe_disp (pps_cons pe_str pe_int pps_nil) (by rfl) (by rfl) (fun z => by cases z) (by decide)) (pa_cons pe_int pa_nil))))
        (pe_call (ok_chain L.bf.Fa L.chain.F) (hr.mono (by decide)) (by rfl) L.chain.g L.chain.F.kp L.chain.b .nil pass0 (pa_cons (pv 1) (pa_cons (pe_call (ok_draw L.bf.Fa.draw.F B) hr1 (by rfl) L.bf.Fa.draw.g L.bf.Fa.draw.F.kp L.bf.Fa.draw.b .nil pass0 (pa_cons (pv 1) (pa_cons pe_int pa_nil))) pa_nil)))))
      db))
    (pss_one (ps_ret pe_bl))), ?_⟩
  refine ⟨_, rfl, a, ns, _, rfl, hS, hn, fun d l H1 D1 k1 nd nl => ?_⟩
  have g1 : GxR.TabG H1 P := tabg_kp g k1 List.not_mem_nil
  have hasAll : Has (PL d l P) H1 := by
    intro x hx
    obtain ⟨ps, e, _⟩ := g1
    obtain ⟨m, n, ms, h1, h2, _⟩ := D1.ex
    simp only [PL, List.mem_cons, List.not_mem_nil, or_false] at hx
    rcases hx with rfl | rfl | rfl
    · rw [h1]
      exact fun z => nomatch z
    · rw [h2]
      exact fun z => nomatch z
    · rw [e]
      exact fun z => nomatch z
  have I1 : LI d l P H1 := ⟨⟨D1, by simp, by simp, hasAll⟩, g1⟩
  refine ⟨5, rfl, by decide, by decide, ?_⟩
  refine for_range (lo := 0) (n := 5) (fun i σ H => ∃ (x2 x3 x4 x5 x6 x7 x8 x9 : Option V), σ = [some (.ref a), some (.ref d), x2, x3, x4, x5, x6, x7, x8, x9] ∧ LI d l P H)
    ⟨_, _, _, _, _, _, _, _, rfl, I1⟩ ?_ ?_
  · rintro i σ H2 hi ⟨x2, x3, x4, x5, x6, x7, x8, x9, rfl, I⟩
    refine ⟨_, rfl, d, l, 5, rfl, I.fr.dk, by decide, by decide, fun r H3 r0 r1 D3 k3 => ?_⟩
    have I3 := I.own k3 D3
    refine ⟨_, _, rfl, rfl, _, rfl, ite2 (fun _ => ?_) (fun _ => ?_)⟩
    · -- a drawn tree
      refine ⟨_, rfl, fun p np => ⟨upd_same, [(kLeft, .int 24)], rfl, by show 1 ≤ 15; decide, ?_⟩⟩
      have em : mergeK [] [(kLeft, V.int 24)] = boxD 24 := by
        show putK ([] : List (Key × V)) kLeft (V.int 24) = _
        rw [putK_new _ (show valV ([] : List (Key × V)) kLeft = none from rfl)]
        rfl
      rw [em, upd_upd]
      have Ip : LI d l P (upd H3 p (.dK (boxD 24))) := I3.new np
      refine ⟨d, l, p, 24, rfl, Ip.fr.dk, upd_same, fun v t m H4 T o sz _ _ D4 k4 => ?_⟩
      refine rb _ H4 a d l v t _ _ _ _ _ _ _ (I3.own (kp_cut k4 np) D4) T o (by omega) (fun y4 y5 y6 y7 y8 y9 H5 I5 => ?_) (fun y4 y5 y6 y7 y8 y9 H5 I5 => ?_)
      · exact ⟨_, _, _, _, _, _, _, _, rfl, I5⟩
      · exact ⟨_, _, _, _, _, _, _, _, rfl, I5⟩
    · -- a chain
      refine ⟨_, rfl, _, rfl, d, l, 41, rfl, I3.fr.dk, by decide, by decide, fun r H4 r0 r1 D4 k4 => ?_⟩
      have I4 := I3.own k4 D4
      obtain ⟨m, rfl⟩ : ∃ m : Nat, r = (m : Int) := ⟨r.toNat, by omega⟩
      refine ⟨d, l, m, rfl, D4, by omega, fun v t H5 T o sz D5 k5 => ?_⟩
      refine rb _ H5 a d l v t _ _ _ _ _ _ _ (I4.own k5 D5) T o (by omega) (fun y4 y5 y6 y7 y8 y9 H6 I6 => ?_) (fun y4 y5 y6 y7 y8 y9 H6 I6 => ?_)
      · exact ⟨_, _, _, _, _, _, _, _, rfl, I6⟩
      · exact ⟨_, _, _, _, _, _, _, _, rfl, I6⟩
  · rintro σ H2 ⟨x2, x3, x4, x5, x6, x7, x8, x9, rfl, I⟩
    exact k H2
end
end Ey
/-! ### the end -/
namespace Ey
open PySem PySem.Spec L2
/-- what the head tells of one def -/
structure DfK (K : PySem.W.Frag) (x : Str) (st : Stmt) (f : Addr) (oc kV dc pm cd ct : Value) (od an : Option Addr) (sl : Array (Option Value)) : Prop where
  a : PySem.W.nsIn K mainGlobals x = some (some (.ref f))
  l : K.lookup f = some ⟨oc, od, .func (PySem.W.fnOf x x (defArgs st) (defBody st) (defScope st) .none kV dc pm an cd ct), sl⟩
  c : PySem.W.codeIn K cd x = true
  k : PySem.W.keepIn K (.ref f) = true
theorem DfK.df {K : PySem.W.Frag} {x : Str} {st : Stmt} {f : Addr} {oc kV dc pm cd ct : Value} {od an : Option Addr} {sl : Array (Option Value)} {mg : Str → Option Value} {h : Heap} {ps : List Str} (e : DfK K x st f oc kV dc pm cd ct od an sl) (X : K.In h) (G : h.Ns mainGlobals mg)
    (hb : ∀ (kV doc pm : Value) (an : Option Addr) (cdv ct : Value) (us : List Value), us.length = ps.length → bindArgs (PySem.W.fnOf x x (defArgs st) (defBody st) (defScope st) .none kV doc pm an cdv ct) ⟨us, []⟩ = pure (ps.zip us)) :
    Df K mg x st ps f (PySem.W.fnOf x x (defArgs st) (defBody st) (defScope st) .none kV dc pm an cd ct) :=
  ⟨fun_mk e.l e.c e.k, (fun_mk e.l e.c e.k).binds hb, PySem.W.mg_of X G e.a⟩

set_option maxHeartbeats 8000000 in
theorem all_mk {P : Program} {q : Program} {lo : List Str} {mean : ExcName → Option Value} {w : World} {K : PySem.W.Frag} {h : Heap} {mg mb : Str → Option Value} {fa : Addr} (X : K.In h) (T : PyProof.Rows.Top q lo mean mg mb h) (hfa : mg "law" = some (.ref fa))
    {c0 P0 dP : Addr} {dr : DefRec} {es : Array DictEntry} {nP : Nat} {tL tT t1 t2 : Tok}
    {f7 f8 f9 f10 f11 f12 f13 f15 f16 f17 f18 f19 f20 f21 f22 f23 f24 f25 f26 f27 f28 f29 f30 : Addr}
    {oc7 kV7 dc7 pm7 ct7 oc8 kV8 dc8 pm8 ct8 cd8 oc9 kV9 dc9 pm9 ct9 cd9 oc10 kV10 dc10 pm10 ct10 cd10 oc11 kV11 dc11 pm11 ct11 cd11 oc12 kV12 dc12 pm12 ct12 cd12 oc13 kV13 dc13 pm13 ct13 cd13 oc15 kV15 dc15 pm15 ct15 cd15 oc16 kV16 dc16 pm16 ct16 cd16 oc17 kV17 dc17 pm17 ct17 cd17 oc18 kV18 dc18 pm18 ct18 cd18 oc19 kV19 dc19 pm19 ct19 cd19 oc20 kV20 dc20 pm20 ct20 cd20 oc21 kV21 dc21 pm21 ct21 cd21 oc22 kV22 dc22 pm22 ct22 cd22 oc23 kV23 dc23 pm23 ct23 cd23 oc24 kV24 dc24 pm24 ct24 cd24 oc25 kV25 dc25 pm25 ct25 cd25 oc26 kV26 dc26 pm26 ct26 cd26 oc27 kV27 dc27 pm27 ct27 cd27 oc28 kV28 dc28 pm28 ct28 cd28 oc29 kV29 dc29 pm29 ct29 cd29 oc30 kV30 dc30 pm30 ct30 cd30 : Value}
    {od7 an7 od8 an8 od9 an9 od10 an10 od11 an11 od12 an12 od13 an13 od15 an15 od16 an16 od17 an17 od18 an18 od19 an19 od20 an20 od21 an21 od22 an22 od23 an23 od24 an24 od25 an25 od26 an26 od27 an27 od28 an28 od29 an29 od30 an30 : Option Addr}
    {sl7 sl8 sl9 sl10 sl11 sl12 sl13 sl15 sl16 sl17 sl18 sl19 sl20 sl21 sl22 sl23 sl24 sl25 sl26 sl27 sl28 sl29 sl30 : Array (Option Value)}
    (e7 : DfK K "is_tag" sIsTag f7 oc7 kV7 dc7 pm7 (.ref c0) ct7 od7 an7 sl7)
    (e8 : DfK K "is_tree" sIsTree f8 oc8 kV8 dc8 pm8 cd8 ct8 od8 an8 sl8)
    (e9 : DfK K "check_tree" sCheck f9 oc9 kV9 dc9 pm9 cd9 ct9 od9 an9 sl9)
    (e10 : DfK K "standing" sStand f10 oc10 kV10 dc10 pm10 cd10 ct10 od10 an10 sl10)
    (e11 : DfK K "places" sPlaces f11 oc11 kV11 dc11 pm11 cd11 ct11 od11 an11 sl11)
    (e12 : DfK K "has_place" sHas f12 oc12 kV12 dc12 pm12 cd12 ct12 od12 an12 sl12)
    (e13 : DfK K "is_place" sIsPlace f13 oc13 kV13 dc13 pm13 cd13 ct13 od13 an13 sl13)
    (e15 : DfK K "_law_deck" sDeck f15 oc15 kV15 dc15 pm15 cd15 ct15 od15 an15 sl15)
    (e16 : DfK K "_law_draw" sDraw f16 oc16 kV16 dc16 pm16 cd16 ct16 od16 an16 sl16)
    (e17 : DfK K "_law_pick" sPick f17 oc17 kV17 dc17 pm17 cd17 ct17 od17 an17 sl17)
    (e18 : DfK K "_law_is_integer" sInt f18 oc18 kV18 dc18 pm18 cd18 ct18 od18 an18 sl18)
    (e19 : DfK K "_law_any" sAny f19 oc19 kV19 dc19 pm19 cd19 ct19 od19 an19 sl19)
    (e20 : DfK K "_law_instead" sInstead f20 oc20 kV20 dc20 pm20 cd20 ct20 od20 an20 sl20)
    (e21 : DfK K "_law_bent" sBent f21 oc21 kV21 dc21 pm21 cd21 ct21 od21 an21 sl21)
    (e22 : DfK K "_law_is_tag" sLIsTag f22 oc22 kV22 dc22 pm22 cd22 ct22 od22 an22 sl22)
    (e23 : DfK K "_law_is_tree" sLIsTree f23 oc23 kV23 dc23 pm23 cd23 ct23 od23 an23 sl23)
    (e24 : DfK K "_law_places" sLPlaces f24 oc24 kV24 dc24 pm24 cd24 ct24 od24 an24 sl24)
    (e25 : DfK K "_law_tags" sTags f25 oc25 kV25 dc25 pm25 cd25 ct25 od25 an25 sl25)
    (e26 : DfK K "_law_drawn_tree" sTree f26 oc26 kV26 dc26 pm26 cd26 ct26 od26 an26 sl26)
    (e27 : DfK K "_law_chain" sChain f27 oc27 kV27 dc27 pm27 cd27 ct27 od27 an27 sl27)
    (e28 : DfK K "_law_spoilt" sSpoilt f28 oc28 kV28 dc28 pm28 cd28 ct28 od28 an28 sl28)
    (e29 : DfK K "_law_near_place" sNear f29 oc29 kV29 dc29 pm29 cd29 ct29 od29 an29 sl29)
    (e30 : DfK K "law" sLaw f30 oc30 kV30 dc30 pm30 cd30 ct30 od30 an30 sl30)
    (z_int : PySem.W.nsIn K mainGlobals "int" = some none)
    (z_max : PySem.W.nsIn K mainGlobals "max" = some none)
    (z_list : PySem.W.nsIn K mainGlobals "list" = some none)
    (z_len : PySem.W.nsIn K mainGlobals "len" = some none)
    (z_range : PySem.W.nsIn K mainGlobals "range" = some none)
    (z_tuple : PySem.W.nsIn K mainGlobals "tuple" = some none)
    (z_sorted : PySem.W.nsIn K mainGlobals "sorted" = some none)
    (z_repr : PySem.W.nsIn K mainGlobals "repr" = some none)
    (z_isi : PySem.W.nsIn K mainGlobals "isinstance" = some none)
    (z_str : PySem.W.nsIn K mainGlobals "str" = some none)
    (z_all : PySem.W.nsIn K mainGlobals "all" = some none)
    (tb : PySem.W.tabIn K "is_tag" = some (c0, P0)) (rc : (PyProof.Rows.recsOf q).find? (fun e => e.name == ("is_tag" : Str)) = some dr) (nT : K.lookup P0 = none)
    (gL : PySem.W.nsIn K mainGlobals "LETTERS" = some (some (.str "abcdefghijklmnopqrstuvwxyz" tL))) (gT : PySem.W.nsIn K mainGlobals "TAG_LENGTH" = some (some (.int 8 tT)))
    (gP : PySem.W.nsIn K mainGlobals "POSITIONS" = some (some (.ref dP))) (lP : K.lookup dP = some ⟨.type "dict", none, .dict es nP, #[]⟩) (kP : PySem.W.KeysLit w.params es.toList) (sP : (dP == sysModules) = false)
    (p1 : PySem.W.nsIn K dP "l" = some (some (.int 1 t1))) (p2 : PySem.W.nsIn K dP "r" = some (some (.int 2 t2))) (p3 : PySem.W.nsIn K dP "x" = some none) :
    ∃ (fd : FuncData) (cs : List (Addr × Addr)) (sp : Sp), Tabs K h cs ∧ (∀ (s : Shared) (u : Value), BindsTo s fd ⟨[u], []⟩ [("_law_script", u)]) ∧
      (∀ (H : Hp) (a : Addr) (ns : List Int), ns.length ≤ 63 → (∀ p ∈ cs, H p.2 = some (.tbl #[])) → SqL K H a (ns.map V.int) → sp [.ref a] H (fun v _ => v = .bl true) E0) ∧
      ∀ base : Heap, K.In base → base.Ns mainGlobals mg → (∀ p ∈ cs, GxR.TabB base mg p.1 p.2) → (∃ mm, base.Ns sysModules mm) → LawOk P w K mg base fa fd "_law_script" sp := by
  have G := T.g
  have e := hfa.symm.trans (PySem.W.mg_of X G e30.a)
  cases e
  obtain ⟨hd0, tb0⟩ := PySem.W.tab_of T X rc tb
  have B : BI mg := ⟨PySem.W.mg_none_of X G z_int, PySem.W.mg_none_of X G z_max, PySem.W.mg_none_of X G z_list, PySem.W.mg_none_of X G z_len, PySem.W.mg_none_of X G z_range, PySem.W.mg_none_of X G z_tuple, PySem.W.mg_none_of X G z_sorted, PySem.W.mg_none_of X G z_repr, PySem.W.mg_none_of X G z_isi, PySem.W.mg_none_of X G z_str, PySem.W.mg_none_of X G z_all⟩
  have D7 := e7.df (ps := ["thing"]) X G fun _ _ _ _ _ _ us hl => match us, hl with | [_], _ => rfl
  have D8 := e8.df (ps := ["thing"]) X G fun _ _ _ _ _ _ us hl => match us, hl with | [_], _ => rfl
  have D9 := e9.df (ps := ["tree"]) X G fun _ _ _ _ _ _ us hl => match us, hl with | [_], _ => rfl
  have D10 := e10.df (ps := ["tree"]) X G fun _ _ _ _ _ _ us hl => match us, hl with | [_], _ => rfl
  have D11 := e11.df (ps := ["tree"]) X G fun _ _ _ _ _ _ us hl => match us, hl with | [_], _ => rfl
  have D12 := e12.df (ps := ["tree", "thing"]) X G fun _ _ _ _ _ _ us hl => match us, hl with | [_, _], _ => rfl
  have D13 := e13.df (ps := ["tree", "thing"]) X G fun _ _ _ _ _ _ us hl => match us, hl with | [_, _], _ => rfl
  have D15 := e15.df (ps := ["_law_script", "_law_seed"]) X G fun _ _ _ _ _ _ us hl => match us, hl with | [_, _], _ => rfl
  have D16 := e16.df (ps := ["_law_deck_here", "_law_many"]) X G fun _ _ _ _ _ _ us hl => match us, hl with | [_, _], _ => rfl
  have D17 := e17.df (ps := ["_law_deck_here", "_law_some"]) X G fun _ _ _ _ _ _ us hl => match us, hl with | [_, _], _ => rfl
  have D18 := e18.df (ps := ["_law_thing"]) X G fun _ _ _ _ _ _ us hl => match us, hl with | [_], _ => rfl
  have D19 := e19.df (ps := ["_law_deck_here", "_law_deep"]) X G fun _ _ _ _ _ _ us hl => match us, hl with | [_, _], _ => rfl
  have D20 := e20.df (ps := ["_law_some", "_law_at", "_law_item"]) X G fun _ _ _ _ _ _ us hl => match us, hl with | [_, _, _], _ => rfl
  have D21 := e21.df (ps := ["_law_deck_here", "_law_thing", "_law_deep"]) X G fun _ _ _ _ _ _ us hl => match us, hl with | [_, _, _], _ => rfl
  have D22 := e22.df (ps := ["_law_thing"]) X G fun _ _ _ _ _ _ us hl => match us, hl with | [_], _ => rfl
  have D23 := e23.df (ps := ["_law_thing"]) X G fun _ _ _ _ _ _ us hl => match us, hl with | [_], _ => rfl
  have D24 := e24.df (ps := ["_law_tree", "_law_ahead"]) X G fun _ _ _ _ _ _ us hl => match us, hl with | [_, _], _ => rfl
  have D25 := e25.df (ps := []) X G fun _ _ _ _ _ _ us hl => match us, hl with | [], _ => rfl
  have D26 := e26.df (ps := ["_law_deck_here", "_law_box", "_law_deep"]) X G fun _ _ _ _ _ _ us hl => match us, hl with | [_, _, _], _ => rfl
  have D27 := e27.df (ps := ["_law_deck_here", "_law_many"]) X G fun _ _ _ _ _ _ us hl => match us, hl with | [_, _], _ => rfl
  have D28 := e28.df (ps := ["_law_deck_here", "_law_thing"]) X G fun _ _ _ _ _ _ us hl => match us, hl with | [_, _], _ => rfl
  have D29 := e29.df (ps := ["_law_deck_here", "_law_some"]) X G fun _ _ _ _ _ _ us hl => match us, hl with | [_, _], _ => rfl
  have D30 := e30.df (ps := ["_law_script"]) X G fun _ _ _ _ _ _ us hl => match us, hl with | [_], _ => rfl
  have DT : DfT K mg "is_tag" sIsTag ["thing"] f7 _ c0 := ⟨D7, _, _, _, _, _, _, _, _, rfl, e7.l, e7.c⟩
  have A0 : PF K mg f7 c0 _ := ⟨B, DT, ⟨tL, PySem.W.mg_of X G gL⟩, ⟨tT, PySem.W.mg_of X G gT⟩⟩
  have Po : PosF K w mg dP := ⟨PySem.W.mg_of X G gP, ⟨es, nP, lP, kP, sP⟩, ⟨t1, p1⟩, ⟨t2, p2⟩, p3⟩
  have Pg : Prog K w mg f7 c0 dP f8 f9 f10 f11 f12 f13 _ _ _ _ _ _ _ := ⟨A0, Po, D8, D9, D10, D11, D12, D13⟩
  have kPs : KBinds K _ ["tree"] ["tree"] gRev gRev := Ey.Fun.revs D11.F (by simp) fun _ _ _ _ _ _ us hl => match us, hl with | [_], _ => rfl
  have kTr : KBinds K _ ["thing"] ["thing"] gRev gRev := Ey.Fun.revs D8.F (by simp) fun _ _ _ _ _ _ us hl => match us, hl with | [_], _ => rfl
  have kPl : KBinds K _ ["tree", "thing"] ["thing", "tree"] gRev gRev := Ey.Fun.revs D13.F (by simp) fun _ _ _ _ _ _ us hl => match us, hl with | [_, _], _ => rfl
  let AA : Nat → Addr := fun i => match i with
    | 7 => f7
    | 8 => f8
    | 9 => f9
    | 10 => f10
    | 11 => f11
    | 12 => f12
    | 13 => f13
    | 15 => f15
    | 16 => f16
    | 17 => f17
    | 18 => f18
    | 19 => f19
    | 20 => f20
    | 21 => f21
    | 22 => f22
    | 23 => f23
    | 24 => f24
    | 25 => f25
    | 26 => f26
    | 27 => f27
    | 28 => f28
    | 29 => f29
    | _ => 0
  let DD : Nat → FuncData := fun i => match i with
    | 7 => PySem.W.fnOf "is_tag" "is_tag" (defArgs sIsTag) (defBody sIsTag) (defScope sIsTag) .none kV7 dc7 pm7 an7 (.ref c0) ct7
    | 8 => PySem.W.fnOf "is_tree" "is_tree" (defArgs sIsTree) (defBody sIsTree) (defScope sIsTree) .none kV8 dc8 pm8 an8 cd8 ct8
    | 9 => PySem.W.fnOf "check_tree" "check_tree" (defArgs sCheck) (defBody sCheck) (defScope sCheck) .none kV9 dc9 pm9 an9 cd9 ct9
    | 10 => PySem.W.fnOf "standing" "standing" (defArgs sStand) (defBody sStand) (defScope sStand) .none kV10 dc10 pm10 an10 cd10 ct10
    | 11 => PySem.W.fnOf "places" "places" (defArgs sPlaces) (defBody sPlaces) (defScope sPlaces) .none kV11 dc11 pm11 an11 cd11 ct11
    | 12 => PySem.W.fnOf "has_place" "has_place" (defArgs sHas) (defBody sHas) (defScope sHas) .none kV12 dc12 pm12 an12 cd12 ct12
    | 13 => PySem.W.fnOf "is_place" "is_place" (defArgs sIsPlace) (defBody sIsPlace) (defScope sIsPlace) .none kV13 dc13 pm13 an13 cd13 ct13
    | 15 => PySem.W.fnOf "_law_deck" "_law_deck" (defArgs sDeck) (defBody sDeck) (defScope sDeck) .none kV15 dc15 pm15 an15 cd15 ct15
    | 16 => PySem.W.fnOf "_law_draw" "_law_draw" (defArgs sDraw) (defBody sDraw) (defScope sDraw) .none kV16 dc16 pm16 an16 cd16 ct16
    | 17 => PySem.W.fnOf "_law_pick" "_law_pick" (defArgs sPick) (defBody sPick) (defScope sPick) .none kV17 dc17 pm17 an17 cd17 ct17
    | 18 => PySem.W.fnOf "_law_is_integer" "_law_is_integer" (defArgs sInt) (defBody sInt) (defScope sInt) .none kV18 dc18 pm18 an18 cd18 ct18
    | 19 => PySem.W.fnOf "_law_any" "_law_any" (defArgs sAny) (defBody sAny) (defScope sAny) .none kV19 dc19 pm19 an19 cd19 ct19
    | 20 => PySem.W.fnOf "_law_instead" "_law_instead" (defArgs sInstead) (defBody sInstead) (defScope sInstead) .none kV20 dc20 pm20 an20 cd20 ct20
    | 21 => PySem.W.fnOf "_law_bent" "_law_bent" (defArgs sBent) (defBody sBent) (defScope sBent) .none kV21 dc21 pm21 an21 cd21 ct21
    | 22 => PySem.W.fnOf "_law_is_tag" "_law_is_tag" (defArgs sLIsTag) (defBody sLIsTag) (defScope sLIsTag) .none kV22 dc22 pm22 an22 cd22 ct22
    | 23 => PySem.W.fnOf "_law_is_tree" "_law_is_tree" (defArgs sLIsTree) (defBody sLIsTree) (defScope sLIsTree) .none kV23 dc23 pm23 an23 cd23 ct23
    | 24 => PySem.W.fnOf "_law_places" "_law_places" (defArgs sLPlaces) (defBody sLPlaces) (defScope sLPlaces) .none kV24 dc24 pm24 an24 cd24 ct24
    | 25 => PySem.W.fnOf "_law_tags" "_law_tags" (defArgs sTags) (defBody sTags) (defScope sTags) .none kV25 dc25 pm25 an25 cd25 ct25
    | 26 => PySem.W.fnOf "_law_drawn_tree" "_law_drawn_tree" (defArgs sTree) (defBody sTree) (defScope sTree) .none kV26 dc26 pm26 an26 cd26 ct26
    | 27 => PySem.W.fnOf "_law_chain" "_law_chain" (defArgs sChain) (defBody sChain) (defScope sChain) .none kV27 dc27 pm27 an27 cd27 ct27
    | 28 => PySem.W.fnOf "_law_spoilt" "_law_spoilt" (defArgs sSpoilt) (defBody sSpoilt) (defScope sSpoilt) .none kV28 dc28 pm28 an28 cd28 ct28
    | 29 => PySem.W.fnOf "_law_near_place" "_law_near_place" (defArgs sNear) (defBody sNear) (defScope sNear) .none kV29 dc29 pm29 an29 cd29 ct29
    | _ => PySem.W.fnOf "law" "law" (defArgs sLaw) (defBody sLaw) (defScope sLaw) .none kV30 dc30 pm30 an30 cd30 ct30
  have L : All K w mg AA DD c0 dP := ⟨⟨⟨B, D16, D17, D25⟩, D19, D20, D18⟩, D15, D21, D22, D23, D24, D26, D27, D28, D29, Pg, kPs, kTr, kPl⟩
  refine ⟨_, [(c0, P0)], spLaw K P0, ⟨fun p hp => ?_, fun p hp => ?_, fun p hp => ?_⟩, fun s u => .of_eq rfl, fun H a ns hn hT hS => ?_, fun base KB MB TB hs => ok_law D30.F L ⟨TB _ (List.mem_singleton.mpr rfl), MB⟩ hs⟩
  · cases List.mem_singleton.mp hp
    exact tb0
  · cases List.mem_singleton.mp hp
    exact nT
  · cases List.mem_singleton.mp hp
    exact hd0
  · exact ⟨a, ns, rfl, hS, hn, ⟨#[], hT _ (List.mem_singleton.mpr rfl), trivial⟩, fun _ => rfl⟩
end Ey
open PySem PySem.W PyProof.Rows
set_option maxRecDepth 100000 in
set_option maxHeartbeats 0 in
theorem PySem.Challenge.cw_eyesonly_k01_trees_and_places_of_any_val_holds : PySem.Challenge.rw_eyesonly_k01_trees_and_places_of_any_val.Holds := by
  w_on; o_law; k_head; (case hw => w_witness2)
  k_fill
  refine Ey.walk_law (l := PySem.Challenge.rw_eyesonly_k01_trees_and_places_of_any_val) (x := "_law_script") (by decide +kernel) rfl (by decide) rfl (fun w h Y => PySem.W.kIn_of Y) ?F
  case F =>
    intro w mg fa h lo mean mb KX T hmg
    refine' Ey.all_mk (w := w) KX T hmg ⟨?a7, ?l7, ?c7, ?k7⟩ ⟨?a8, ?l8, ?c8, ?k8⟩ ⟨?a9, ?l9, ?c9, ?k9⟩ ⟨?a10, ?l10, ?c10, ?k10⟩ ⟨?a11, ?l11, ?c11, ?k11⟩ ⟨?a12, ?l12, ?c12, ?k12⟩ ⟨?a13, ?l13, ?c13, ?k13⟩ ⟨?a15, ?l15, ?c15, ?k15⟩ ⟨?a16, ?l16, ?c16, ?k16⟩ ⟨?a17, ?l17, ?c17, ?k17⟩ ⟨?a18, ?l18, ?c18, ?k18⟩ ⟨?a19, ?l19, ?c19, ?k19⟩ ⟨?a20, ?l20, ?c20, ?k20⟩ ⟨?a21, ?l21, ?c21, ?k21⟩ ⟨?a22, ?l22, ?c22, ?k22⟩ ⟨?a23, ?l23, ?c23, ?k23⟩ ⟨?a24, ?l24, ?c24, ?k24⟩ ⟨?a25, ?l25, ?c25, ?k25⟩ ⟨?a26, ?l26, ?c26, ?k26⟩ ⟨?a27, ?l27, ?c27, ?k27⟩ ⟨?a28, ?l28, ?c28, ?k28⟩ ⟨?a29, ?l29, ?c29, ?k29⟩ ⟨?a30, ?l30, ?c30, ?k30⟩ ?zint ?zmax ?zlist ?zlen ?zrange ?ztuple ?zsorted ?zrepr ?zisi ?zstr ?zall ?tb ?rc ?nT ?gL ?gT ?gP ?lP ?kP ?sP ?p1 ?p2 ?p3
    (case a7 => k_is); (case l7 => k_is); (case c7 => k_is); (case k7 => k_is)
    (case a8 => k_is); (case l8 => k_is); (case c8 => k_is); (case k8 => k_is)
    (case a9 => k_is); (case l9 => k_is); (case c9 => k_is); (case k9 => k_is)
    (case a10 => k_is); (case l10 => k_is); (case c10 => k_is); (case k10 => k_is)
    (case a11 => k_is); (case l11 => k_is); (case c11 => k_is); (case k11 => k_is)
    (case a12 => k_is); (case l12 => k_is); (case c12 => k_is); (case k12 => k_is)
    (case a13 => k_is); (case l13 => k_is); (case c13 => k_is); (case k13 => k_is)
    (case a15 => k_is); (case l15 => k_is); (case c15 => k_is); (case k15 => k_is)
    (case a16 => k_is); (case l16 => k_is); (case c16 => k_is); (case k16 => k_is)
    (case a17 => k_is); (case l17 => k_is); (case c17 => k_is); (case k17 => k_is)
    (case a18 => k_is); (case l18 => k_is); (case c18 => k_is); (case k18 => k_is)
    (case a19 => k_is); (case l19 => k_is); (case c19 => k_is); (case k19 => k_is)
    (case a20 => k_is); (case l20 => k_is); (case c20 => k_is); (case k20 => k_is)
    (case a21 => k_is); (case l21 => k_is); (case c21 => k_is); (case k21 => k_is)
    (case a22 => k_is); (case l22 => k_is); (case c22 => k_is); (case k22 => k_is)
    (case a23 => k_is); (case l23 => k_is); (case c23 => k_is); (case k23 => k_is)
    (case a24 => k_is); (case l24 => k_is); (case c24 => k_is); (case k24 => k_is)
    (case a25 => k_is); (case l25 => k_is); (case c25 => k_is); (case k25 => k_is)
    (case a26 => k_is); (case l26 => k_is); (case c26 => k_is); (case k26 => k_is)
    (case a27 => k_is); (case l27 => k_is); (case c27 => k_is); (case k27 => k_is)
    (case a28 => k_is); (case l28 => k_is); (case c28 => k_is); (case k28 => k_is)
    (case a29 => k_is); (case l29 => k_is); (case c29 => k_is); (case k29 => k_is)
    (case a30 => k_is); (case l30 => k_is); (case c30 => k_is); (case k30 => k_is)
    (case zint => k_is); (case zmax => k_is); (case zlist => k_is); (case zlen => k_is); (case zrange => k_is); (case ztuple => k_is); (case zsorted => k_is); (case zrepr => k_is); (case zisi => k_is); (case zstr => k_is); (case zall => k_is)
    (case tb => rfl)
    (case rc => rfl)
    (case nT => rfl)
    (case gL => k_is); (case gT => k_is); (case gP => k_is); (case lP => k_is)
    (case kP => exact ⟨⟨_, _, rfl, rfl⟩, ⟨_, _, rfl, rfl⟩, trivial⟩)
    (case sP => decide); (case p1 => k_is); (case p2 => k_is); (case p3 => k_is)
