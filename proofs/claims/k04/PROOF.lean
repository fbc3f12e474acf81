import PyProof.Rows.All
import Wide.All
import OpenK.AllK
import Wide.FinOn
import PyProof.ReprRoads
import KE.KSortAny
import PyProof.Rows.SortShellAny
import HandS.ForMost
import HandS.IsInst
import HandS.AnyAll
import HandS.EndTab
import HandS.HeadWalk
import HandS.WrittenGet
import PyProof.TupleOfGen
import HandS.Conv
import HandS.StrMore
import HandS.GenList
import PyProof.EqKinds
import PyProof.NeKinds
import PyProof.NeData
import PyProof.RowDictHeap
import PyProof.Rows.StrDigitsNeg
import PyProof.Rows.StrIntSpec
import KE.KEqNest
import PyProof.Rows.StrRev
import HandS.TupAny
import HandS.Comp
import HandS.Iter
import KE.GoesEnum
import HandS.Style
import HandS.More
import HandS.TupMul
import PySem.Challenge.RW_eyesonly_k04_names_terms_and_scripts_of
set_option Elab.async false
set_option linter.all false
set_option maxRecDepth 100000
set_option maxHeartbeats 4000000
namespace Ey
open PySem PySem.Spec PyProof.Rows L2
/-! ### repr of data -/
mutual
theorem dp_plain {K : PySem.W.Frag} {H : Hp} : ∀ (d : PyData) (v : V), Dp K H v d → d.hasDict = false
  | .none, _, _ => rfl
  | .bool _, _, _ => rfl
  | .int _, _, _ => rfl
  | .str _, _, _ => rfl
  | .list ds, _, h => by
    cases h with
    | lst _ q => exact dp_plains ds _ q
  | .tuple ds, _, h => by
    cases h with
    | tup _ q => exact dp_plains ds _ q
  | .dict _, _, h => by cases h
theorem dp_plains {K : PySem.W.Frag} {H : Hp} : ∀ (ds : List PyData) (vs : List V), DpAll K H vs ds → PyData.hasDictAll ds = false
  | [], _, _ => rfl
  | d :: r, _, h => by
    cases h with
    | cons a b =>
      show (d.hasDict || PyData.hasDictAll r) = false
      rw [dp_plain d _ a, dp_plains r _ b]
      rfl
end
def rRepr (K : PySem.W.Frag) : List V → Hp → VK → Prop := fun xs H Q =>
  ∃ v d, xs = [v] ∧ Dp K H v d ∧ d.showable = true ∧ d.depth ≤ 100 ∧ d.shown.length ≤ sizeLine ∧ Q (.str d.shown) H
section
variable {X : Cx} {k : Nat}
theorem cr_repr (hg : X.A.guards = some []) (hr : Room k X.A) : CallR X (.builtin "repr") (rRepr X.K) := by
  intro pins s σ H xs us Q I r h
  obtain ⟨v, d, rfl, hd, hs, hp, hz, q⟩ := h
  obtain ⟨u, rfl, ru⟩ := vals1 r
  obtain ⟨as, rd⟩ := Dp.reads I d v u hd ru
  have nd := dp_plain d v hd
  have room : X.A.units + (d.depth + 1) < cLine := by
    have := hr.un
    omega
  have fin : ∀ (h' : Heap) (tk : Nat) (t : Tok), (∀ b o, s.heap.get? b = some o → h'.get? b = some o) → EP X pins σ Q (.str d.shown t) { s with heap := h', toks := tk } :=
    fun h' tk t hk => ⟨.str d.shown, H, I.kept hk, ⟨t, rfl⟩, q⟩
  cases rd with
  | none => exact PySem.P.repr_of_none (fin s.heap _ _ fun _ _ e => e)
  | bool b => exact PySem.P.repr_of_bool (fin s.heap _ _ fun _ _ e => e)
  | int i t => exact PySem.P.repr_of_int (of_decide_eq_true hs) (fin s.heap _ _ fun _ _ e => e)
  | str x t => exact PySem.P.repr_of_str (fin s.heap _ _ fun _ _ e => e) hz
  | list a b c e => exact repr_of_reads' (.list a b c e) hs (PyData.noDict_hsm nd) hg room (fun _ _ e => e) (fun h' u tk hk => fin h' tk u hk) hz
  | tuple a b c e => exact repr_of_reads' (.tuple a b c e) hs (PyData.noDict_hsm nd) hg room (fun _ _ e => e) (fun h' u tk hk => fin h' tk u hk) hz
  | dict a b c e f => cases nd
/-! ### sorted of texts, at any length -/
def rSortT (K : PySem.W.Frag) : List V → Hp → VK → Prop := fun vs H Q => ∃ (a : Addr) (xs : List Str), vs = [V.ref a] ∧ SqL K H a (xs.map V.str) ∧ xs.length ≤ sizeLine ∧
  ∀ (ys : List Str) (p : Addr), ys.Perm xs → sortedS ys = true → H p = none → Q (.ref p) (upd H p (.lst (ys.map V.str)))
theorem cr_sortT : CallR X (.builtin "sorted") (rSortT X.K) := by
  intro pins s σ H vs us Q I r h
  obtain ⟨a, xs, rfl, hs, hl, q⟩ := h
  obtain ⟨its, rv, pl, _⟩ := I.list hs
  rw [Vals.ref1 r]
  have n0 := rv.length
  rw [List.length_map] at n0
  refine PyProof.Rows.sorted_strsAny pl.isList rv.strs (by rw [← n0]; exact hl) fun out ys h1 h2 h3 => ?_
  obtain ⟨ep, at'⟩ := PyProof.Rows.sortedAll_at s.heap its out
  have n1 : (ys.map V.str).length ≤ sizeLine := by rw [List.length_map, h2.length_eq]; exact hl
  refine ⟨.ref _, upd H (s.heap.objs.size + 1) (.lst (ys.map V.str)), ?_, rfl, q ys _ h2 h3 (I.hok.fresh (Nat.le_succ _))⟩
  exact I.laid (t' := s.toks) (fun _ _ => PyProof.Rows.sortedAll_old) (Nat.le_succ _) ⟨n1, out.toList, ep, vals_of_strs h1, at'⟩
end
end Ey
set_option maxHeartbeats 2000000
namespace Ey
open PySem PySem.Spec PyProof.Rows L2 GxR
/-! ### all(test of sign for sign in text), where the test reads a name of the module -/
/-- the test, in the generator's own frame: the module stands as it stood -/
def EltG (X : Cx) (sc : Scope) (x : Str) (elt : Expr) (pb : Nat → Bool) : Prop :=
  ∀ (ge : Env) (B : Around) (F' : Value → Shared → Prop) (c : Nat) (t : Tok) (z : Shared) (m : Str → Option Value), ge.scope = sc → ge.globals = X.env.globals →
    (∀ b o, X.base.get? b = some o → z.heap.get? b = some o) → z.heap.Ns ge.locals m → m x = some (.str ⟨#[c]⟩ t) →
    wpAny (model X.prog X.w) B (eval elt ge) (fun y z' => y = .bool (pb c) ∧ Keeps z z') F' z
section
variable {X : Cx} {pins : List (Addr × Obj)} {σ : L2.St} {H : Hp} {s : Shared}
theorem gen_glob {c P : Addr} {elt iter : Expr} {x : Str} {px gp : Pos} {sc : Scope} {pb : Nat → Bool} {te : TE} {k : Nat} {Q' : Value → Shared → Prop} {R : Str → Hp → Prop}
    (hr : Room k X.A) (TB : TabB X.base X.mg c P) (hco : X.env.code = .ref c) (S : GenS X.env sc x) (hi : PE X iter te) (hel : EltG X sc x elt pb)
    (hs : ∀ v, genFold iter X.env v = pure v) (I : Inv X pins σ H s) (h : te σ H fun v H1 => ∃ a : Str, v = .str a ∧ TabG H1 P ∧ R a H1)
    (hQ : ∀ a H1 g s5, R a H1 → Ready X pins σ H1 P a pb g s5 → Q' (.ref g) s5) :
    wpAny (model X.prog X.w) X.A (eval (.GeneratorExp elt [⟨.Name x px, iter, [], 0⟩] sc gp) X.env) Q' X.xe s := by
  refine wpAny_GeneratorExp_walksQ hr.hd S.co (closure_ok S.free) S.cell S.dot S.loc S.kind (Nat.lt_of_le_of_lt (by omega) hr.dp) ?_ hs
  refine thn (hi.run pins s σ H _ I h) fun xv sA ⟨v, H1, J, rv, q⟩ => ?_
  obtain ⟨a, rfl, ⟨ps, tP, tok⟩, q⟩ := q
  obtain ⟨t, rfl⟩ := _root_.id rv
  refine wpAny_pyIter_str fun ob St W start => ?_
  have gP : sA.heap.get? P = some { cls := .none, data := .fields ps } := J.hok P _ tP
  have ltP : P < sA.heap.objs.size := Heap.lt_size gP
  have gP2 : (sA.heap.push ob).get? P = some { cls := .none, data := .fields ps } := Heap.get?_push_of_some _ gP
  have head : PySem.W.CodeHd (sA.heap.push ob) c P := TB.code.keeps fun b u e => Heap.get?_push_of_some _ (J.bk b u e)
  have noL : (sA.heap.push ob).NoLimit := J.nolimit.push ob
  have go : ∀ (code : Value) (hN : Heap) (tk : Nat) (qs : Array Value), Heap.ExtBut P (sA.heap.push ob) hN → (sA.heap.push ob).objs.size ≤ hN.objs.size → hN.get? P = some { cls := .none, data := .fields qs } → (∃ more, qs = ps ++ more) → TriplesOk qs.toList →
      wpAny (model X.prog X.w) X.A (builtinsFor X.env.globals X.env.builtins) (fun bi sB =>
        ∃ Ia fp wr n₀ Pf St₀ pz F, Value.ref sA.heap.objs.size = .ref Ia ∧ (∀ B : Around, B.handled = none → Walks X.prog X.w B Ia fp wr n₀ Pf St₀) ∧ St₀ 0 sB.heap ∧ (∀ b ∈ fp, b < sB.heap.objs.size) ∧ sB.heap.NoLimit ∧ cStatics ∉ wr ∧
          (∀ hf : Heap, (∀ b o, sB.heap.get? b = some o → hf.get? b = some o) →
            QuietGen X.prog X.w (genEnv sc (cloFrom X.env.cells sc.names []) sB.heap.objs.size code bi X.env) x [] elt (List.range sB.heap.objs.size) wr Pf pz F hf) ∧
          (∀ g hG tg gs, gs.bare = true → sB.heap.objs.size < g → hG.objs.size = g + 1 → (∀ b o, sB.heap.get? b = some o → hG.get? b = some o) →
            WalksS X.prog X.w X.A.in4 g (g :: sB.heap.objs.size :: List.range sB.heap.objs.size) (sB.heap.objs.size :: wr) (GenOnlyQ sB.gens.size) (passing pz n₀ 0).length
              (fun j y => ∃ i, (passing pz n₀ 0)[j]? = some i ∧ F i y) (GenAt X.prog X.w X.A.in4 g sB.gens.size sB.heap.objs.size (List.range sB.heap.objs.size) wr pz n₀ F) →
            GenAt X.prog X.w X.A.in4 g sB.gens.size sB.heap.objs.size (List.range sB.heap.objs.size) wr pz n₀ F 0 { sB with gens := sB.gens.push gs, toks := tg, heap := hG } →
            Q' (.ref g) { sB with gens := sB.gens.push gs, toks := tg, heap := hG })) X.xe { sA with heap := hN, toks := tk } := by
    intro code hN tk qs ext hsz gPN more okN
    obtain ⟨bm, obm, e1, e2, e3, e4, e5, e6, e7, e8⟩ := TB.bm
    have ncP : cStatics ≠ P := fun e => by
      obtain ⟨_, ns, _⟩ := J.nolimit
      obtain ⟨o', es, ep, g', d', _⟩ := ns
      rw [e, gP] at g'
      cases g'
      cases d'
    have ltC : cStatics < sA.heap.objs.size := let ⟨_, ns, _⟩ := J.nolimit; ns.lt
    have szA : (sA.heap.push ob).objs.size = sA.heap.objs.size + 1 := Heap.size_push ..
    have stay : ∀ b u, b ≠ P → sA.heap.get? b = some u → hN.get? b = some u := fun b u nb e => ext b u nb (Heap.get?_push_of_some _ e)
    have old : ∀ b u, X.base.get? b = some u → hN.get? b = some u ∧ b < sA.heap.objs.size := fun b u e => by
      obtain ⟨e1, e2⟩ := J.bs b u e
      refine ⟨stay b u (fun z => ?_) e1, Heap.lt_size e1⟩
      rw [z, tP] at e2
      cases e2
    refine wpAny_builtinsFor (m := X.mg) (by rw [J.ok.glob]; exact ((J.mod.glob.keeps J.bk).push ob).extBut ext TB.gP) e1 e2 (stay _ _ e4 (J.bk _ _ e5)) e6 e7 e8 ?_
    refine ⟨sA.heap.objs.size, [sA.heap.objs.size], [sA.heap.objs.size], a.cps.size, SignAt a, St, (fun _ => true), (fun i y => ∃ cc, a.cps[i]? = some cc ∧ y = .bool (pb cc)), rfl, W, ?_, ?_, noL.extBut ext ncP, ?_, ?_, ?_⟩
    · refine (W X.A hr.hd).frame _ _ _ start fun b hb u e => ext b u (fun z => ?_) e
      have hb' : b = sA.heap.objs.size := List.mem_singleton.mp hb
      exact Nat.ne_of_lt ltP (z.symm.trans hb')
    · intro b hb
      have hb' : b = sA.heap.objs.size := List.mem_singleton.mp hb
      rw [hb']
      show sA.heap.objs.size < hN.objs.size
      omega
    · intro z
      have z' : cStatics = sA.heap.objs.size := List.mem_singleton.mp z
      exact Nat.ne_of_lt ltC z'
    · intro hf sub
      refine ⟨fun B F' i v z m hB hv hn hm hk => ?_, fun B F' i v z m hB hv hp hn hm hk => ?_⟩
      · simp only [List.forIn_nil]
        exact wpAny_pure ⟨rfl, keeps_refl _⟩
      · obtain ⟨cc, u, hcc, rfl⟩ := hv
        refine wpAny_mono (hel _ B F' cc u z m rfl rfl (fun b o e => ?_) hn hm) (fun y z' r => ⟨⟨cc, hcc, r.1⟩, r.2⟩) fun _ _ e => e
        obtain ⟨e1, e2⟩ := old b o e
        refine hk b (List.mem_range.mpr (Heap.lt_size e1)) (fun w => ?_) o (sub b o e1)
        have w' : b = sA.heap.objs.size := List.mem_singleton.mp w
        exact Nat.ne_of_lt e2 w'
    · intro g hG tg gs bare ltg szg keepg Wg atg
      simp only [GxR.passing_true, List.length_range] at Wg
      refine hQ a H1 g _ q ⟨_, _, _, _, _, Wg.in4_1, atg, ?_, fun s' mv => ?_⟩
      · intro j y sj Qj Ej hy hj
        obtain ⟨i, ij, cc, hcc, rfl⟩ := hy
        obtain ⟨lj, ej⟩ := List.getElem?_eq_some_iff.mp ij
        rw [List.getElem_range] at ej
        subst ej
        have sign : a.cps.toList[j]? = some cc := (Array.getElem?_toList).trans hcc
        have hj' : Qj (trF pb a.cps.toList j) sj := hj
        rw [trF_some sign] at hj'
        exact wpAny_truthy_bool hj'
      · obtain ⟨mo, em⟩ := more
        have nw : ∀ b u, sA.heap.get? b = some u → b ∉ hN.objs.size :: [sA.heap.objs.size] := fun b u e z => by
          have l := Heap.lt_size e
          rcases List.mem_cons.mp z with z | z
          · rw [z] at l
            have l2 : (hN.objs.size : Nat) < sA.heap.objs.size := l
            omega
          · exact Nat.ne_of_lt l (List.mem_singleton.mp z)
        have L := inv_tab (more := mo) (h' := s'.heap) (g' := s'.gens) (d' := s'.drawn) (t' := s'.toks) J tP (fun b u nb e => mv.heap b u (nw b u e) (keepg b u (stay b u nb e)))
          (by rw [← em]; exact mv.heap P _ (nw P _ gP) (keepg P _ gPN)) (AllBare.movedS (J.bare.push bare) mv)
        rw [sh_eta sA s' mv.os] at L
        refine ⟨upd H1 P (.tbl (ps ++ mo)), ⟨⟨ps ++ mo, upd_same, ?_⟩, fun b nb => upd_ne nb⟩, L⟩
        rw [← em]
        exact okN
  refine ⟨noL, ?_⟩
  cases am : codeAmong gp ps.toList with
  | none =>
    refine wpAny_genexprCodeX hco (head.code gP2 tok) (head.tab gP2) am fun c' hN tk ext hge hlt hc' _ tab' _ => ?_
    obtain ⟨o1, vs, f1, tf, fl, tg, inF, tx, tt, op, _, _, _, _, _, _, _, _, _, tr, _⟩ := hc'
    exact go _ hN tk _ ext (Nat.le_trans hge (Nat.le_of_lt hlt)) tab'.2 ⟨_, rfl⟩ tr
  | some cv =>
    refine wpAny_genexprCode_hit hco (head.code gP2 tok) am ?_
    exact go cv (sA.heap.push ob) sA.toks ps (Heap.ExtBut.refl _ _) (Nat.le_refl _) gP2 ⟨#[], by simp⟩ tok
theorem pe_allG {c P : Addr} {elt iter : Expr} {x : Str} {px p pos gp : Pos} {sc : Scope} {pb : Nat → Bool} {te : TE} {k : Nat}
    (hr : Room k X.A) (hg : Gl X "all") (hm : X.mg "all" = none) (hb : bootBuiltins "all" = some (.builtin "all")) (TB : TabB X.base X.mg c P) (hco : X.env.code = .ref c) (S : GenS X.env sc x) (hi : PE X iter te) (hel : EltG X sc x elt pb)
    (hs : ∀ v, genFold iter X.env v = pure v)
    (he : starEach [.GeneratorExp elt [⟨.Name x px, iter, [], 0⟩] sc gp] X.env = (false, eval (.GeneratorExp elt [⟨.Name x px, iter, [], 0⟩] sc gp) X.env) :: starEach [] X.env := by rfl) :
    PE X (.Call (.Name "all" p) [.GeneratorExp elt [⟨.Name x px, iter, [], 0⟩] sc gp] [] pos) (tAllS P pb te) := by
  refine ⟨fun pins s σ H Q I h => wpAny_Call_Name_kw (ld_blt I hg hm hb ?_)⟩
  refine PyProof.Rows.callWith_builtin1 ?_ he (by rfl)
  rw [he]
  show wpAny _ _ (spliced ((false, eval (.GeneratorExp elt [⟨.Name x px, iter, [], 0⟩] sc gp) X.env) :: backTo pos (starEach [] X.env))) _ _ s
  refine Calls.spliced_cons (gen_glob (R := fun a H1 => ∀ H2, Tabbed P H1 H2 → Q (.bl (a.cps.toList.all pb)) H2) hr TB hco S hi hel hs I h fun a H1 g s5 hR rdy => ?_)
  obtain ⟨fp, wr, G, F, St, W, st0, tru, inv⟩ := rdy
  refine Calls.spliced_nil (call_all_walkS (W.self 0 _ _ _ st0 ⟨g, fp, wr, G, _, F, St, _, rfl, W, st0, tru, fun s' mv => ?_⟩))
  obtain ⟨H2, hT, L⟩ := inv s' mv
  refine ⟨.bl _, H2, L, rfl, ?_⟩
  rw [all_signs a pb]
  exact hR H2 hT
/-- sign in NAME, NAME a text of the module -/
theorem elt_inG {sc : Scope} {x y : Str} {T : Str} {p1 p2 p3 : Pos} {tk : Tok} (hk : sc.kind = .function) (hl : sc.names.lookup x = some .local) (hy : sc.names.lookup y = some .globalImplicit) (hG : X.env.globals = mainGlobals) (M : X.base.Ns mainGlobals X.mg) (hm : X.mg y = some (.str T tk))
    (hd : (x == ("__debug__" : Str)) = false := by decide) (hd2 : (y == ("__debug__" : Str)) = false := by decide) :
    EltG X sc x (.Compare (.Name x p1) [.In] [.Name y p2] p3) (fun c => decide (c ∈ T.cps.toList)) := by
  intro ge B F' c t z m h1 h2 h3 h4 h5
  have k1 : ge.scope.kind = .function := by rw [h1]; exact hk
  refine wpAny_Compare1 (wpAny_Name (wpAny_loadName_local k1 (show ge.scope.names.lookup x = some .local by rw [h1]; exact hl) h4 h5 ?_) hd)
  refine Calls.Name_function_global k1 (show ge.scope.names.lookup y = some .globalImplicit by rw [h1]; exact hy) (Calls.loadGlobal_global (by rw [h2, hG]; exact M.keeps h3) hm ?_) hd2
  refine PyProof.Rows.in_str ?_
  refine ⟨congrArg Value.bool ?_, keeps_refl _⟩
  exact PySem.StrLaws.found_one T c
end
end Ey
set_option maxHeartbeats 2000000
namespace Ey
open PySem PySem.Spec PyProof.Rows L2 GxR
/-! ### a law's own call: nothing is under way around it, so that repr is told of data -/
def LawOk (P : Program) (w : World) (K : PySem.W.Frag) (mg : Str → Option Value) (base : Heap) (f : Addr) (fd : FuncData) (x : Str) (sp : Sp) : Prop :=
  ∀ (s : Shared) (H : Hp) (u : Value) (v : V) (Q : VK), Env0 P w K mg base callerA [] s H → BindsTo s fd ⟨[u], []⟩ [(x, u)] → RelV v u → sp [v] H Q E0 →
    codeAny (model P w) callerA (.call (.ref f) ⟨[u], []⟩) (CR CX0 [] P w H s Q E0) s
section
variable {P : Program} {w : World} {K : PySem.W.Frag} {mg : Str → Option Value} {base : Heap}
theorem law_ok {x qual p : Str} {st : Stmt} {f : Addr} {fd : FuncData} {N : List Str} {k : Nat} {sp : Sp} (F : Fun K x qual st f fd) (S : FnScope N [p] (defScope st)) (hr : Room (k + 1) callerA)
    (body : ∀ (cdv : Value) (s : Shared) (H : Hp) (v : V) (Q : VK), Room k (callerA.deeper (envOfC qual (defScope st) s.heap.objs.size f cdv)) → sp [v] H Q E0 →
      ∃ t, PSs (cxOf CX0 P w K mg base N qual (defScope st) f cdv callerA [] s H E0).nox (defBody st) t ∧ t { nx := fun _ H' => Q .non H', rt := Q } (start N [v]) H) :
    LawOk P w K mg base f fd p sp := by
  obtain ⟨oc, od, kV, doc, pm, an, cdv, ct, osl, rfl, lk, code⟩ := F.ex
  intro s H u v Q e0 hb rv hsp
  have inK : K.In s.heap := e0.mod.kin.keeps fun b o e => (e0.bs b o e).1
  have noL : s.heap.NoLimit := e0.mod.nolimit.keeps fun b o e => (e0.bs b o e).1
  have kinds : ∀ y ∈ [p].zip [u], (defScope st).names.lookup y.1 = some .local ∨ ((defScope st).names.lookup y.1 = some .cell ∧ ((cellsFrom (s.heap.objs.size + 1) (defScope st).names []).lookup y.1).isSome = true) := fun ⟨n, z⟩ hy => by
    rcases S.par n (List.of_mem_zip hy).1 with q | q
    · exact .inl q
    · exact .inr ⟨q, PySem.W.cellsFrom_some _ _ _ (.inl q)⟩
  refine codeAny_call_function (Nat.lt_of_le_of_lt (by omega) hr.dp) (inK _ _ lk) rfl S.co S.gen rfl (PySem.W.codeRec_of inK code) (hb _ _ _ _ ?_)
  refine wpAny_newFunctionEnv_cells (binds := [p].zip [u]) S.kind kinds fun env he s1 xc => ?_
  subst he
  refine ⟨noL.keeps xc.toInCall.keep, codeAny_func ?_⟩
  obtain ⟨t, dv, rd⟩ := body cdv s H v Q (hr.deeper _) hsp
  have I := inv_start (CX := CX0) (E := E0) (P := P) (w := w) (K := K) (mg := mg) (base := base) (N := N) (ps := [p]) (A := callerA) (vs := [v]) (us := [u]) S rfl e0 rfl (.cons rv .nil) xc
  refine wpAny_mono (dv.nox.run [] s1 (start N [v]) H _ I rd) (fun fl s' hs => ?_) fun e s' hs => hs
  cases fl with
  | next =>
    obtain ⟨σ', H', J, q⟩ := hs
    exact ⟨V.non, H', J.os, J.bare, J.base, J.hok, rfl, q⟩
  | ret z =>
    obtain ⟨y, σ', H', J, ry, q⟩ := hs
    exact ⟨y, H', J.os, J.bare, J.base, J.hok, ry, q⟩
  | brk =>
    obtain ⟨_, _, _, q⟩ := hs
    exact q.elim
  | cont =>
    obtain ⟨_, _, _, q⟩ := hs
    exact q.elim
end
end Ey
set_option maxHeartbeats 2000000
namespace Ey
open PySem PySem.Spec PyProof.Rows L2 GxR
/-- the tables cs stand empty in h, outside the written part -/
structure Tabs (K : PySem.W.Frag) (h : Heap) (cs : List (Addr × Addr)) : Prop where
  at_ : ∀ p ∈ cs, h.get? p.2 = some { cls := .none, data := .fields #[] }
  out : ∀ p ∈ cs, K.lookup p.2 = none
  hd : ∀ p ∈ cs, PySem.W.CodeHd h p.1 p.2
/-- what a heap says of the module's own builtins -/
def BMain (mg : Str → Option Value) (h : Heap) : Prop :=
  ∃ (bm : Addr) (ob : Obj), mg "__builtins__" = some (.ref bm) ∧ bm ≠ builtinsNs ∧ h.get? bm = some ob ∧ ob.cls = .type "module" ∧ ob.dict = some builtinsNs ∧ ob.data = .plain
section
variable {P : Program} {w : World} {K : PySem.W.Frag} {mg mb : Str → Option Value}
/-- the script at a, the tables cs: what is tracked ahead of the law -/
def start0 (K : PySem.W.Frag) (a : Addr) (o : Obj) (ns : List Int) (cs : List (Addr × Addr)) : Hp := fun b =>
  if b ∈ cs.map (·.2) then some (.tbl #[]) else if b = a ∧ K.lookup a = none then some (.frz o (.lst (ns.map V.int))) else none
theorem call_law {f a : Addr} {cs : List (Addr × Addr)} {fd : FuncData} {x : Str} {sp : Sp} {z : Shared} {vs : List Value} {ns : List Int}
    (KX : K.In z.heap) (hns : z.heap.Ns mainGlobals mg) (hb : z.heap.Ns builtinsNs mb) (hbb : ∀ x : Str, x ≠ "__name__" → mb x = bootBuiltins x) (lim : z.heap.NoLimit) (hsm : ∃ mm, z.heap.Ns sysModules mm) (hg : z.gens = #[])
    (T : Tabs K z.heap cs) (hbm : BMain mg z.heap) (ha : z.heap.get? a = some { cls := .type "list", data := .seq vs.toArray }) (hi : IntsAre vs ns) (hl : ns.length ≤ sizeLine)
    (F : ∀ base : Heap, K.In base → base.Ns mainGlobals mg → (∀ p ∈ cs, TabB base mg p.1 p.2) → (∃ mm, base.Ns sysModules mm) → LawOk P w K mg base f fd x sp) (hbind : ∀ (s : Shared) (u : Value), BindsTo s fd ⟨[u], []⟩ [(x, u)])
    (hsp : ∀ H : Hp, (∀ p ∈ cs, H p.2 = some (.tbl #[])) → SqL K H a (ns.map V.int) → sp [.ref a] H (fun v _ => v = .bl true) E0) :
    codeAny (model P w) callerA (.call (.ref f) ⟨[.ref a], []⟩) (fun r s' => r = .ok (.ret (.bool true)) ∧ OldK z.heap s'.heap ∧ s'.os = z.os ∧ AllBare s'.gens) z := by
  have rv := vals_ints hi
  have nV : vs.length = ns.length := hi.length
  have tabAt : ∀ b : Addr, b ∈ cs.map (·.2) → z.heap.get? b = some { cls := .none, data := .fields #[] } ∧ K.lookup b = none := fun b m => by
    obtain ⟨p, hp, rfl⟩ := List.mem_map.mp m
    exact ⟨T.at_ p hp, T.out p hp⟩
  have aT : a ∉ cs.map (·.2) := fun m => by
    have e := (tabAt a m).1
    rw [ha] at e
    injection e with e
    have e' : Data.seq vs.toArray _ = Data.fields #[] := congrArg Obj.data e
    cases e'
  let H : Hp := start0 K a { cls := .type "list", data := .seq vs.toArray } ns cs
  have HT : ∀ p ∈ cs, H p.2 = some (.tbl #[]) := fun p hp => if_pos (List.mem_map.mpr ⟨p, hp, rfl⟩)
  have Hcase : ∀ b, H b = none ∨ (b ∈ cs.map (·.2) ∧ H b = some (.tbl #[])) ∨ (b = a ∧ K.lookup a = none ∧ H b = some (.frz { cls := .type "list", data := .seq vs.toArray } (.lst (ns.map V.int)))) := fun b => by
    by_cases h1 : b ∈ cs.map (·.2)
    · exact .inr (.inl ⟨h1, if_pos h1⟩)
    · by_cases h2 : b = a ∧ K.lookup a = none
      · exact .inr (.inr ⟨h2.1, h2.2, (if_neg h1).trans (if_pos h2)⟩)
      · exact .inl ((if_neg h1).trans (if_neg h2))
  have HS : SqL K H a (ns.map V.int) := by
    cases hk : K.lookup a with
    | some o =>
      have e := KX a o hk
      rw [ha] at e
      injection e with e
      subst e
      exact .inr ⟨_, vs.toArray, _, hk, rfl, rfl, rfl, by rw [List.size_toArray, nV]; exact hl, by simpa using rv⟩
    | none => exact .inl (.inr ⟨_, (if_neg aT).trans (if_pos ⟨rfl, hk⟩)⟩)
  have HO : HOk P w H z.heap := fun b u e => by
    rcases Hcase b with q | ⟨m, q⟩ | ⟨m, _, q⟩
    · rw [q] at e
      cases e
    · rw [q] at e
      cases e
      exact (tabAt b m).1
    · rw [q] at e
      cases e
      subst m
      exact ⟨ha, by rw [List.length_map]; exact hl, vs, _, rv, ha⟩
  -- what is neither the script nor a table stands in the base
  have inB : ∀ {b : Addr} {o : Obj}, z.heap.get? b = some o → (∀ xs n, o.data ≠ .seq xs n) → o.data ≠ .fields #[] → (hidT z.heap H).get? b = some o := fun {b o} e h1 h2 => by
    refine hidT_get e ?_
    rcases Hcase b with q | ⟨m, q⟩ | ⟨m, _, q⟩
    · exact q
    · rw [(tabAt b m).1] at e
      injection e with e
      subst e
      exact absurd rfl h2
    · subst m
      rw [ha] at e
      injection e with e
      subst e
      exact absurd rfl (h1 _ _)
  have nsB : ∀ {b : Addr} {m : Str → Option Value}, z.heap.Ns b m → (hidT z.heap H).Ns b m := fun {b m} ⟨o, es, ep, e, d, r⟩ =>
    ⟨o, es, ep, inB e (fun xs n q => by rw [d] at q; cases q) (fun q => by rw [d] at q; cases q), d, r⟩
  have KB : K.In (hidT z.heap H) := fun b o e => by
    refine hidT_get (KX b o e) ?_
    rcases Hcase b with q | ⟨m, q⟩ | ⟨m, n, q⟩
    · exact q
    · rw [(tabAt b m).2] at e
      cases e
    · subst m
      rw [n] at e
      cases e
  have M : L2.Mod K mg (hidT z.heap H) := ⟨KB, nsB hns, ⟨mb, nsB hb, hbb⟩, let ⟨mc, h1, h2⟩ := lim; ⟨mc, nsB h1, h2⟩⟩
  have TB : ∀ p ∈ cs, TabB (hidT z.heap H) mg p.1 p.2 := fun p hp => by
    have pT := T.at_ p hp
    refine ⟨?_, ?_, fun q => ?_⟩
    · obtain ⟨o, us, fi, tf, fl, tg, nf, tx, tt, e1, r1, r2, r3, rest⟩ := T.hd p hp
      refine ⟨o, us, fi, tf, fl, tg, nf, tx, tt, inB e1 (fun xs n q => ?_) (fun q => ?_), r1, r2, r3, rest⟩
      · rw [r2] at q
        cases q
      · rw [r2] at q
        cases q
        simp at r3
    · obtain ⟨bm, ob, b1, b2, b3, b4, b5, b6⟩ := hbm
      refine ⟨bm, ob, b1, b2, fun q => ?_, fun q => ?_, inB b3 (fun xs n q => ?_) (fun q => ?_), b4, b5, b6⟩
      · obtain ⟨o, es, ep, e, d, _⟩ := hns
        rw [q, e] at b3
        injection b3 with b3
        subst b3
        rw [d] at b6
        cases b6
      · rw [q, pT] at b3
        injection b3 with b3
        subst b3
        cases b6
      · rw [b6] at q
        cases q
      · rw [b6] at q
        cases q
    · obtain ⟨o, es, ep, e, d, _⟩ := hns
      rw [q, pT] at e
      injection e with e
      subst e
      cases d
  have e0 : Env0 P w K mg (hidT z.heap H) callerA [] z H := ⟨rfl, M, fun b o e => of_hidT e, Nat.le_of_eq (hidT_size _ _), trivial, fun b m => absurd m List.not_mem_nil, HO, .of_eq hg⟩
  refine codeAny_mono (F _ KB (nsB hns) TB (let ⟨mm, q⟩ := hsm; ⟨mm, nsB q⟩) z H (.ref a) (.ref a) _ e0 (hbind z _) rfl (hsp H HT HS)) fun r s' h => ?_
  cases r with
  | error e => exact h.elim
  | ok fl =>
    cases fl with
    | next => exact h.elim
    | brk => exact h.elim
    | cont => exact h.elim
    | ret u =>
      obtain ⟨v, H', os, bare, un, ok', r', q⟩ := h
      have q' : v = .bl true := q
      subst q'
      obtain rfl : u = Value.bool true := r'
      have keep : ∀ b o, b ∉ cs.map (·.2) → z.heap.get? b = some o → s'.heap.get? b = some o := fun b o nb e => by
        rcases Hcase b with q | ⟨m, q⟩ | ⟨m, _, q⟩
        · exact un.keep b o e q List.not_mem_nil List.not_mem_nil
        · exact absurd m nb
        · have e1 := (HO b _ q).1
          rw [e] at e1
          injection e1 with e1
          subst e1
          exact (ok' b _ (un.frzs b _ _ q)).1
      have grown : ∀ b, b ∈ cs.map (·.2) → ∃ more : Array Value, s'.heap.get? b = some { cls := .none, data := .fields more } := fun b m => by
        obtain ⟨p, hp, rfl⟩ := List.mem_map.mp m
        obtain ⟨more, q⟩ := un.tbls p.2 #[] (HT p hp)
        exact ⟨_, ok' p.2 _ q⟩
      refine ⟨rfl, ⟨fun b o e => ?_, fun b o e => ?_⟩, os, bare⟩
      · by_cases m : b ∈ cs.map (·.2)
        · obtain ⟨more, g⟩ := grown b m
          obtain ⟨p, hp, rfl⟩ := List.mem_map.mp m
          rw [T.at_ p hp] at e
          injection e with e
          subst e
          exact .inr (.inl ⟨((T.hd p hp).tab (T.at_ p hp)).isCodeTable, rfl, #[], more, rfl, by rw [Array.empty_append]; exact g⟩)
        · exact .inl (keep b o m e)
      · by_cases m : b ∈ cs.map (·.2)
        · obtain ⟨more, g⟩ := grown b m
          exact ⟨_, g⟩
        · exact ⟨o, keep b o m e⟩
end
/-- the goal that k_head leaves, from the law's promise at any base -/
theorem walk_law {l : PySem.W.OpenLaw} {n : Nat} {q : Program} {loose : List Str} {XP : (Str → Option Value) → Heap → Prop} {YP : World → Heap → Prop} {d : DefRec} {K : Params → PySem.W.Frag} {x : Str}
    (hi0 : PyProof.Rows.importsNone q = true) (hn : l.most = some n) (hn2 : n ≤ sizeLine) (hdf : d.params.defaults = []) (hY : ∀ (w : World) (h : Heap), YP w h → (K w.params).In h)
    (F : ∀ (w : World) (mg : Str → Option Value) (f : Addr) (h : Heap) (lo : List Str) (mean : ExcName → Option Value) (mb : Str → Option Value), (K w.params).In h → PyProof.Rows.Top q lo mean mg mb h → mg d.name = some (.ref f) →
      ∃ (fd : FuncData) (cs : List (Addr × Addr)) (sp : Sp), Tabs (K w.params) h cs ∧ (∀ (s : Shared) (u : Value), BindsTo s fd ⟨[u], []⟩ [(x, u)]) ∧
        (∀ (H : Hp) (a : Addr) (ns : List Int), ns.length ≤ n → (∀ p ∈ cs, H p.2 = some (.tbl #[])) → SqL (K w.params) H a (ns.map V.int) → sp [.ref a] H (fun v _ => v = .bl true) E0) ∧
        ∀ base : Heap, (K w.params).In base → base.Ns mainGlobals mg → (∀ p ∈ cs, TabB base mg p.1 p.2) → (∃ mm, base.Ns sysModules mm) → LawOk l.prog w (K w.params) mg base f fd x sp) :
    PySem.W.WalkO q loose XP YP l.row.toRowW d [] (fun f vs => PySem.call f vs) := by
  refine Att.attach_call hn hdf fun w s₀ z mg mb f o pm cd doc a vs ns G Y ho hd hcd hmg hobj hi hlen hg => ?_
  obtain ⟨fd, cs, sp, T, hb, hsp, hF⟩ := F w mg f _ _ _ _ (hY w _ Y) G.T hmg
  exact call_law (hY w _ Y) G.T.g G.T.b G.T.builtins G.T.nolimit (let ⟨mm, q, _⟩ := (G.T.seer hi0).mods; ⟨mm, q⟩) hg T G.T.bmain hobj hi (Nat.le_trans hlen hn2) hF hb fun H h1 h2 => hsp H a ns hlen h1 h2
end Ey
set_option maxHeartbeats 2000000
namespace PySem.W
open PySem PySem.Calls PyProof.Rows PyProof.V PySem.Spec Builtin
section
variable {prog : Program} {w : World} {A : Around} {E : Value → Shared → Prop} {s : Shared} {T : String} {r d : Addr} {n : Nat} {P : Nat → Value → Prop} {OK : Heap → Prop}
/-- what a source yields, collected -/
theorem ey_collect {Q : List Value → Shared → Prop} (K : KdlSrc prog w T r d n P OK) (hh : A.handled = none) (hok : OK s.heap) (hn : n ≤ sizeLine)
    (hQ : ∀ h' tk (acc : Array Value), (∀ b o, s.heap.get? b = some o → h'.get? b = some o) → ItemsOf P acc n → Q acc.toList { s with heap := h', toks := tk }) :
    wpAny (model prog w) A (collect (.ref r)) Q E s := by
  unfold collect
  refine wpAny_bind (wpAny_runValue (codeAny_builtin PySem.F.entry_proto_collect ?_))
  rw [Around.under_plainId PySem.F.plain_proto_collect _]
  show wpAny _ A.in1 (newList [] >>= fun l => again (.builtin "list.__iadd__" ⟨[l, .ref r], []⟩)) _ _ s
  refine wpAny_bind (wpAny_newObj_type (wpAny_pure ⟨plainId_quiet PySem.F.plain_list_iadd _, codeAny_builtin PySem.F.entry_list_iadd ?_⟩))
  rw [Around.under_plainId PySem.F.plain_list_iadd _]
  show wpAny _ A.in1 (Builtin.List.listExtendWith (.ref s.heap.objs.size) (.ref r) (.ref s.heap.objs.size)) _ _ _
  have at0 : (s.heap.push { cls := .type "list", data := .seq ([] : List Value).toArray }).get? s.heap.objs.size = some { cls := .type "list", data := .seq #[] 0 } := Heap.get?_push_size _ rfl
  have lt := K.there _ hok
  have ok1 : OK (s.heap.push { cls := .type "list", data := .seq ([] : List Value).toArray }) := K.keep _ _ hok fun b _ o e => Heap.get?_push_of_some _ e
  have fin : ∀ (h' : Heap) (tk : Nat) (acc : Array Value) (c : Nat), (∀ b o, s.heap.get? b = some o → h'.get? b = some o) → h'.get? s.heap.objs.size = some { cls := .type "list", dict := none, data := .seq acc c, slots := #[] } → ItemsOf P acc n →
      wpAny (model prog w) A (match Value.ref s.heap.objs.size with
      | Value.ref a => do
        match (← load a).data with
          | Data.seq xs _ => pure xs.toList
          | _ => unsupported "internal:collect"
      | _ => unsupported "internal:collect") Q E { s with heap := h', toks := tk } := fun h' tk acc c hk at1 it => by
    show wpAny _ A (load s.heap.objs.size >>= _) _ _ _
    exact wpAny_bind (wpAny_load at1 (wpAny_pure (hQ h' tk acc hk it)))
  refine wpAny_mono (kdl_extend (A := A) (s := { s with heap := s.heap.push { cls := .type "list", data := .seq ([] : List Value).toArray } })
    (R := fun q s' => q = .ok (.ret (.ref s.heap.objs.size)) ∧ ∃ (h' : Heap) (tk : Nat) (acc : Array Value) (c : Nat), s' = { s with heap := h', toks := tk } ∧ (∀ b o, s.heap.get? b = some o → h'.get? b = some o) ∧ h'.get? s.heap.objs.size = some { cls := .type "list", dict := none, data := .seq acc c, slots := #[] } ∧ ItemsOf P acc n)
    K hh ok1 s.heap.objs.size (Nat.ne_of_gt lt.1) (Nat.ne_of_gt lt.2) (.ref s.heap.objs.size) 0 at0 (fun h' tk acc c hk at1 it => ⟨rfl, h', tk, acc, c, rfl, fun b o e => hk b o (Nat.ne_of_lt (Heap.lt_size e)) (Heap.get?_push_of_some _ e), at1, it⟩) hn) (fun q s' h => ?_) (fun e s' h => ?_)
  · cases q with
    | done f =>
      obtain ⟨e, h', tk, acc, c, rfl, hk, at1, it⟩ := h
      cases e
      exact fin h' tk acc c hk at1 it
    | again c' =>
      refine ⟨h.1, codeAny_mono h.2 fun q s2 hq => ?_⟩
      obtain ⟨rfl, h', tk, acc, c, rfl, hk, at1, it⟩ := hq
      exact fin h' tk acc c hk at1 it
  · exact absurd h.1 (by simp)
/-- tuple(of it) -/
theorem ey_tuple_new {Q₁ : Value → Shared → Prop} (K : KdlSrc prog w "dict" r d n P OK) (hh : A.handled = none) (hok : OK s.heap) (hn : n ≤ sizeLine)
    (h : ∀ (h' : Heap) (tk : Nat) (acc : Array Value), (∀ b o, s.heap.get? b = some o → h'.get? b = some o) → ItemsOf P acc n → Q₁ (.ref h'.objs.size) { s with heap := h'.push { cls := .type "tuple", data := .seq acc }, toks := tk }) :
    codeAny (model prog w) A (.call (.builtin "tuple.__new__") ⟨[.type "tuple", .ref r], []⟩) (wants Q₁ E) s := by
  refine codeAny_of_tree ?_
  show wpAny _ A.in1 (do checkBuiltinCall "tuple.__new__" ⟨[.type "tuple", .ref r], []⟩; again (.builtin "tuple.__new__" ⟨[.type "tuple", .ref r], []⟩)) _ _ s
  refine wpAny_bind (wpAny_of_eq (PySem.F.newCall_tuple_1 _) (wpAny_pure ⟨plainId_quiet PySem.F.plain_tuple_new _, codeAny_builtin PySem.F.entry_tuple_new ?_⟩))
  rw [Around.under_plainId PySem.F.plain_tuple_new _]
  have sub1 := sub_tuple_self
  have init1 := init_tuple_lookup
  have made1 := madeHere_tuple
  have ty1 := K.type s hok
  wp_walk using wpAny_typeOf ty1, ey_collect (A := A.in1) K hh hok hn
  intro h' tk acc hk it
  show wpAny _ _ (Builtin.Tuple.tupleExact acc.toList.toArray >>= fun v => ret v) _ _ _
  unfold Builtin.Tuple.tupleExact
  refine wpAny_bind (wpAny_newObj_type ?_ (by show acc.toList.toArray.size ≤ sizeLine; rw [Array.toArray_toList, it.1]; exact hn))
  refine wpAny_pure ?_
  rw [Array.toArray_toList]
  exact h h' tk acc hk it
theorem ey_tuple {Q : Value → Shared → Prop} (K : KdlSrc prog w "dict" r d n P OK) (hh : A.handled = none) (hok : OK s.heap) (hn : n ≤ sizeLine)
    (h : ∀ (h' : Heap) (tk : Nat) (acc : Array Value), (∀ b o, s.heap.get? b = some o → h'.get? b = some o) → ItemsOf P acc n → Q (.ref h'.objs.size) { s with heap := h'.push { cls := .type "tuple", data := .seq acc }, toks := tk }) :
    wpAny (model prog w) A (call (.type "tuple") [.ref r]) Q E s := by
  refine callType_codes (Q₁ := fun o z => z.TypeIs o "tuple" ∧ Q o z) PySem.F.called_tuple (PySem.F.typeCall_tuple_1 _) PySem.F.entry_object_init
    (ey_tuple_new (A := A.in1) K hh hok hn fun h' tk acc hk it => ⟨⟨_, Heap.get?_push_size _ rfl, rfl⟩, h h' tk acc hk it⟩) fun o z hz => ?_
  exact ⟨hz.1, PySem.F.args_object_init_2 o _, object_init_meets PySem.F.called_tuple.init.lookup PySem.F.called_tuple.made (by decide) prog w A.in1 _ z ⟨hz.1, rfl, hz.2⟩⟩
end
end PySem.W
namespace Ey
open PySem PySem.Spec PyProof.Rows L2
/-- tuple(d), d a dict: its keys -/
def rTupD : List V → Hp → VK → Prop := fun xs H Q => ∃ p kvs, xs = [.ref p] ∧ H p = some (.dK kvs) ∧ ∀ q, H q = none → Q (.ref q) (upd H q (.tup (kvs.map fun kv => kV kv.1)))
theorem call_tupD {X : Cx} (hc : X.calm = true) : CallR X (.type "tuple") rTupD := by
  intro pins s σ H xs us Q I r h
  obtain ⟨p, kvs, rfl, hk, q⟩ := h
  obtain ⟨u, rfl, rx⟩ := vals1 r
  obtain rfl : u = Value.ref p := rx
  obtain ⟨z, lo, vs, rk, hd⟩ := (show ObjOk X.prog X.w H s.heap p (.dK kvs) from I.hok p _ hk)
  obtain ⟨ep, at0⟩ := hd.dictAt
  have nl : kvs.length = vs.length := Paired.length rk
  refine PySem.W.ey_tuple (PySem.W.kdl_dict (knd := mixKind X.prog X.w) (kvs := vs) (ep := ep) lo) (I.ok.hd hc) at0 (by rw [← nl]; exact z) fun h' tk acc keep it => ?_
  have I1 : Inv X pins σ H { s with heap := h', toks := tk } := I.kept keep
  refine ⟨.ref h'.objs.size, upd H h'.objs.size (.tup (kvs.map fun kv => kV kv.1)), I1.laid (t' := tk) (fun b o e => Heap.get?_push_of_some _ e) (Nat.le_refl _) (show ObjOk X.prog X.w _ _ _ (.tup _) from ⟨?_, acc.toList, ?_, ?_⟩), rfl, q _ (I1.hok.fresh (Nat.le_refl _))⟩
  · rw [List.length_map]
    exact z
  · have nA : acc.toList.length = acc.size := by simp
    refine vals_of_at (by rw [List.length_map, nA, it.1, nl]) fun j x v h1 h2 => ?_
    obtain ⟨k, y, e, ki⟩ := it.2 j v (by rw [← Array.getElem?_toList]; exact h2)
    have e1 : (kvs.map (·.1))[j]? = some k := by
      rw [KV.keys rk, List.getElem?_map, e]
      rfl
    rw [List.getElem?_map] at h1 e1
    cases g : kvs[j]? with
    | none =>
      rw [g] at e1
      cases e1
    | some kv =>
      rw [g] at e1 h1
      injection e1 with e1
      injection h1 with h1
      have e2 : kv.1 = k := e1
      rw [← h1]
      show L2.RelV (kV kv.1) v
      rw [e2]
      exact keyIs_rel ki
  · have := IsTup.new h' acc
    rw [Array.toArray_toList]
    exact this
end Ey
/-! Trees, places: the mathematics. -/
namespace Ey
open PySem PySem.Spec PyProof.Rows
/-! ### texts as lists of signs -/
def st (p : List Nat) : Str := ⟨p.toArray⟩
theorem st_inj {p q : List Nat} (h : st p = st q) : p = q := by
  have h2 : p.toArray = q.toArray := congrArg Str.cps h
  simpa using h2
theorem st_app (p q : List Nat) : st p ++ st q = st (p ++ q) := by
  show (⟨p.toArray ++ q.toArray⟩ : Str) = ⟨(p ++ q).toArray⟩
  rw [List.append_toArray]
theorem st_len (p : List Nat) : (st p).length = p.length := rfl
theorem st_list (p : List Nat) : (st p).cps.toList = p := rfl
theorem st_of (x : Str) : x = st x.cps.toList := by
  cases x
  rfl
theorem st_ne {p q : List Nat} (h : p ≠ q) : st p ≠ st q := fun e => h (st_inj e)
/-! ### trees -/
inductive Tr where
  | nil
  | nd (tag : Str) (l r : Tr)
def abc : List Nat := [97, 98, 99, 100, 101, 102, 103, 104, 105, 106, 107, 108, 109, 110, 111, 112, 113, 114, 115, 116, 117, 118, 119, 120, 121, 122]
def isTag (x : Str) : Bool := decide (1 ≤ x.length) && decide (x.length ≤ 8) && x.cps.toList.all fun c => decide (c ∈ abc)
def Tr.ok : Tr → Prop
  | .nil => True
  | .nd g l r => isTag g = true ∧ l.ok ∧ r.ok
def Tr.sz : Tr → Nat
  | .nil => 0
  | .nd _ l r => l.sz + r.sz + 1
def Tr.ht : Tr → Nat
  | .nil => 0
  | .nd _ l r => max l.ht r.ht + 1
def Tr.full : Tr → Bool
  | .nil => false
  | .nd _ _ _ => true
def pl : Tr → List (List Nat)
  | .nil => [[]]
  | .nd _ l r => [] :: ((pl l).map (108 :: ·) ++ (pl r).map (114 :: ·))
def pt : Tr → List Nat → Tr
  | t, [] => t
  | .nil, _ :: _ => .nil
  | .nd _ l r, c :: p => if c = 108 then pt l p else pt r p
def isP : Tr → List Nat → Bool
  | _, [] => true
  | .nil, _ :: _ => false
  | .nd _ l r, c :: p => if c = 108 then isP l p else if c = 114 then isP r p else false
theorem pt_nil (t : Tr) : pt t [] = t := by cases t <;> rfl
theorem isP_nil (t : Tr) : isP t [] = true := by cases t <;> rfl
theorem isP_iff : ∀ (t : Tr) (p : List Nat), isP t p = true ↔ p ∈ pl t
  | .nil, [] => by simp [pl, isP]
  | .nil, c :: p => by simp [pl, isP]
  | .nd g l r, [] => by simp [pl, isP]
  | .nd g l r, c :: p => by
    have il := isP_iff l p
    have ir := isP_iff r p
    have e : (c :: p) ∈ pl (.nd g l r) ↔ (c = 108 ∧ p ∈ pl l) ∨ (c = 114 ∧ p ∈ pl r) := by
      simp only [pl, List.mem_cons, List.mem_append, List.mem_map, reduceCtorEq, false_or]
      constructor
      · rintro (⟨q, hq, e⟩ | ⟨q, hq, e⟩)
        · cases e
          exact .inl ⟨rfl, hq⟩
        · cases e
          exact .inr ⟨rfl, hq⟩
      · rintro (⟨rfl, h⟩ | ⟨rfl, h⟩)
        · exact .inl ⟨p, h, rfl⟩
        · exact .inr ⟨p, h, rfl⟩
    rw [e, ← il, ← ir]
    show (if c = 108 then isP l p else if c = 114 then isP r p else false) = true ↔ _
    by_cases h1 : c = 108
    · subst h1
      simp
    · by_cases h2 : c = 114
      · subst h2
        simp
      · simp [h1, h2]
theorem pl_len : ∀ t : Tr, (pl t).length = 2 * t.sz + 1
  | .nil => rfl
  | .nd g l r => by
    simp only [pl, List.length_cons, List.length_append, List.length_map, pl_len l, pl_len r, Tr.sz]
    omega
theorem pl_ht : ∀ (t : Tr) (p : List Nat), p ∈ pl t → p.length ≤ t.ht
  | .nil, p, h => by
    simp only [pl, List.mem_singleton] at h
    subst h
    exact Nat.zero_le _
  | .nd g l r, p, h => by
    simp only [pl, List.mem_cons, List.mem_append, List.mem_map] at h
    rcases h with rfl | ⟨q, hq, rfl⟩ | ⟨q, hq, rfl⟩
    · exact Nat.zero_le _
    · have := pl_ht l q hq
      simp only [List.length_cons, Tr.ht]
      omega
    · have := pl_ht r q hq
      simp only [List.length_cons, Tr.ht]
      omega
theorem ht_sz : ∀ t : Tr, t.ht ≤ t.sz
  | .nil => Nat.le_refl _
  | .nd g l r => by
    have a := ht_sz l
    have b := ht_sz r
    simp only [Tr.ht, Tr.sz]
    omega
theorem pl_ne (t : Tr) : pl t ≠ [] := by cases t <;> simp [pl]
theorem pl_head (t : Tr) : (pl t)[0]? = some [] := by cases t <;> rfl
theorem pl_signs : ∀ (t : Tr) (p : List Nat), p ∈ pl t → ∀ c ∈ p, c = 108 ∨ c = 114
  | .nil, p, h => by
    simp only [pl, List.mem_singleton] at h
    subst h
    exact fun c hc => absurd hc List.not_mem_nil
  | .nd g l r, p, h => by
    simp only [pl, List.mem_cons, List.mem_append, List.mem_map] at h
    rcases h with rfl | ⟨q, hq, rfl⟩ | ⟨q, hq, rfl⟩
    · exact fun c hc => absurd hc List.not_mem_nil
    · intro c hc
      rcases List.mem_cons.mp hc with e | e
      · exact .inl e
      · exact pl_signs l q hq c e
    · intro c hc
      rcases List.mem_cons.mp hc with e | e
      · exact .inr e
      · exact pl_signs r q hq c e
/-! ### the order -/
def ltL (a b : List Nat) : Prop := ltCps a b = true
theorem ltL_cons {c : Nat} {a b : List Nat} : ltL (c :: a) (c :: b) ↔ ltL a b := by simp [ltL, ltCps]
theorem ltL_nil {c : Nat} {a : List Nat} : ltL [] (c :: a) := rfl
theorem ltL_lt {c d : Nat} {a b : List Nat} (h : c < d) : ltL (c :: a) (d :: b) := by simp [ltL, ltCps, h]
theorem ltL_irr : ∀ a : List Nat, ¬ ltL a a
  | [] => by simp [ltL, ltCps]
  | c :: a => by
    rw [ltL_cons]
    exact ltL_irr a
theorem ltL_trans : ∀ {a b c : List Nat}, ltL a b → ltL b c → ltL a c
  | [], [], _, h, _ => absurd h (ltL_irr [])
  | [], _ :: _, [], _, h => by simp [ltL, ltCps] at h
  | [], _ :: _, _ :: _, _, _ => rfl
  | _ :: _, [], _, h, _ => by simp [ltL, ltCps] at h
  | _ :: _, _ :: _, [], _, h => by simp [ltL, ltCps] at h
  | x :: a, y :: b, z :: c, h1, h2 => by
    simp only [ltL, ltCps, Bool.or_eq_true, decide_eq_true_eq, Bool.and_eq_true, beq_iff_eq] at h1 h2 ⊢
    rcases h1 with h1 | ⟨rfl, h1⟩
    · rcases h2 with h2 | ⟨rfl, h2⟩
      · exact .inl (Nat.lt_trans h1 h2)
      · exact .inl h1
    · rcases h2 with h2 | ⟨rfl, h2⟩
      · exact .inl h2
      · exact .inr ⟨rfl, ltL_trans h1 h2⟩
theorem ltL_tri : ∀ a b : List Nat, ltL a b ∨ a = b ∨ ltL b a
  | [], [] => .inr (.inl rfl)
  | [], _ :: _ => .inl rfl
  | _ :: _, [] => .inr (.inr rfl)
  | x :: a, y :: b => by
    rcases Nat.lt_trichotomy x y with h | rfl | h
    · exact .inl (ltL_lt h)
    · rcases ltL_tri a b with h | rfl | h
      · exact .inl (ltL_cons.mpr h)
      · exact .inr (.inl rfl)
      · exact .inr (.inr (ltL_cons.mpr h))
    · exact .inr (.inr (ltL_lt h))
theorem pl_up : ∀ t : Tr, (pl t).Pairwise ltL
  | .nil => by simp [pl]
  | .nd g l r => by
    simp only [pl, List.pairwise_cons, List.pairwise_append, List.pairwise_map]
    refine ⟨fun p hp => ?_, (pl_up l).imp fun h => ltL_cons.mpr h, (pl_up r).imp fun h => ltL_cons.mpr h, fun a ha b hb => ?_⟩
    · simp only [List.mem_append, List.mem_map] at hp
      rcases hp with ⟨q, _, rfl⟩ | ⟨q, _, rfl⟩
      · exact rfl
      · exact rfl
    · simp only [List.mem_map] at ha hb
      obtain ⟨p, _, rfl⟩ := ha
      obtain ⟨q, _, rfl⟩ := hb
      exact ltL_lt (by decide)
theorem pl_nodup (t : Tr) : (pl t).Nodup := (pl_up t).imp fun {a b} h e => by
  subst e
  exact ltL_irr _ h
/-- what sorted hands back, of texts that are all unlike -/
theorem rising_pw : ∀ (l : List Str) (p : Str), risingS p l = true → (p :: l).Pairwise fun a b => ¬ ltL b.cps.toList a.cps.toList
  | [], p, _ => by simp
  | x :: r, p, h => by
    simp only [risingS, Bool.and_eq_true, Bool.not_eq_true'] at h
    have ih := rising_pw r x h.2
    have h1 : ¬ ltL x.cps.toList p.cps.toList := by
      intro e
      rw [ltL, h.1] at e
      cases e
    rw [List.pairwise_cons]
    refine ⟨fun y hy => ?_, ih⟩
    rcases List.mem_cons.mp hy with rfl | hy
    · exact h1
    · have h2 := (List.pairwise_cons.mp ih).1 y hy
      intro e
      rcases ltL_tri x.cps.toList p.cps.toList with q | q | q
      · exact h1 q
      · rw [← q] at e
        exact h2 e
      · exact h2 (ltL_trans e q)
theorem sorted_is {l : List Str} {ps : List (List Nat)} (h : l.Perm (ps.map st)) (hs : sortedS l = true) (hp : ps.Pairwise ltL) : l = ps.map st := by
  have pw : l.Pairwise fun a b => ¬ ltL b.cps.toList a.cps.toList := by
    cases l with
    | nil => simp
    | cons x r => exact rising_pw r x hs
  have pw2 : (ps.map st).Pairwise fun a b => ¬ ltL b.cps.toList a.cps.toList := by
    rw [List.pairwise_map]
    exact hp.imp fun {a b} h e => ltL_irr _ (ltL_trans h e)
  refine List.Perm.eq_of_pairwise (fun a b _ _ h1 h2 => ?_) pw pw2 h
  rcases ltL_tri a.cps.toList b.cps.toList with q | q | q
  · exact absurd q h2
  · rw [st_of a, st_of b, q]
  · exact absurd q h1
/-! ### the next place -/
def stripR (p : List Nat) : List Nat := (p.reverse.dropWhile fun c => c == 114).reverse
def nxt (full : Bool) (p : List Nat) : Option (List Nat) :=
  if full = true then some (p ++ [108]) else if stripR p = [] then none else some ((stripR p).dropLast ++ [114])
theorem dropWhile_snoc (f : Nat → Bool) (a : List Nat) (c : Nat) : (a ++ [c]).dropWhile f = if a.dropWhile f = [] then [c].dropWhile f else a.dropWhile f ++ [c] := by
  induction a with
  | nil => simp
  | cons x a ih =>
    rw [List.cons_append]
    by_cases h : f x = true
    · rw [List.dropWhile_cons_of_pos h, List.dropWhile_cons_of_pos h]
      exact ih
    · rw [List.dropWhile_cons_of_neg h, List.dropWhile_cons_of_neg h]
      simp
theorem stripR_cons (c : Nat) (p : List Nat) : stripR (c :: p) = if stripR p = [] then (if c = 114 then [] else [c]) else c :: stripR p := by
  unfold stripR
  rw [List.reverse_cons, dropWhile_snoc]
  by_cases h : (p.reverse.dropWhile fun c => c == 114) = []
  · rw [if_pos h, if_pos (by rw [h]; rfl)]
    by_cases hc : c = 114
    · simp [hc]
    · simp [hc]
  · rw [if_neg h, if_neg (by rw [List.reverse_eq_nil_iff]; exact h)]
    simp
theorem nxt_cons {f : Bool} {c : Nat} {p q : List Nat} (h : nxt f p = some q) : nxt f (c :: p) = some (c :: q) := by
  unfold nxt at h ⊢
  by_cases hf : f = true
  · rw [if_pos hf] at h ⊢
    cases h
    rfl
  · rw [if_neg hf] at h ⊢
    by_cases hp : stripR p = []
    · rw [if_pos hp] at h
      cases h
    · rw [if_neg hp] at h
      injection h with h
      have e : stripR (c :: p) = c :: stripR p := by rw [stripR_cons, if_neg hp]
      rw [e, if_neg (by simp), ← h, List.dropLast_cons_of_ne_nil hp]
      rfl
theorem nxt_last {f : Bool} {p : List Nat} (h : nxt f p = none) : nxt f (108 :: p) = some [114] ∧ nxt f (114 :: p) = none := by
  unfold nxt at h ⊢
  by_cases hf : f = true
  · rw [if_pos hf] at h
    cases h
  · rw [if_neg hf] at h
    by_cases hp : stripR p = []
    · rw [if_neg hf, if_neg hf, stripR_cons, stripR_cons, if_pos hp, if_pos hp]
      simp
    · rw [if_neg hp] at h
      cases h
theorem nxt_pl : ∀ (t : Tr) (i : Nat) (p : List Nat), (pl t)[i]? = some p → nxt (pt t p).full p = (pl t)[i + 1]?
  | .nil, i, p, h => by
    cases i with
    | zero =>
      cases h
      rfl
    | succ i => simp [pl] at h
  | .nd g l r, i, p, h => by
    cases i with
    | zero =>
      have e : p = [] := by
        simp only [pl, List.getElem?_cons_zero] at h
        exact (Option.some.inj h).symm
      subst e
      have e2 : (pl (.nd g l r))[0 + 1]? = some [108] := by
        have hl := pl_head l
        simp only [pl, List.getElem?_cons_succ]
        rw [List.getElem?_append_left (by rw [List.length_map]; exact List.length_pos_iff.mpr (pl_ne l)), List.getElem?_map, hl]
        rfl
      rw [e2]
      rfl
    | succ i =>
      simp only [pl, List.getElem?_cons_succ] at h ⊢
      by_cases hi : i < (pl l).length
      · rw [List.getElem?_append_left (by rw [List.length_map]; exact hi), List.getElem?_map] at h
        obtain ⟨q, hq, rfl⟩ := Option.map_eq_some_iff.mp h
        have ih := nxt_pl l i q hq
        have ef : pt (.nd g l r) (108 :: q) = pt l q := by show (if 108 = 108 then _ else _) = _; rw [if_pos rfl]
        rw [ef]
        by_cases hn : i + 1 < (pl l).length
        · rw [List.getElem?_append_left (by rw [List.length_map]; exact hn), List.getElem?_map]
          rw [List.getElem?_eq_getElem hn] at ih ⊢
          exact nxt_cons ih
        · have en : i + 1 = (pl l).length := by omega
          rw [List.getElem?_eq_none (by omega)] at ih
          rw [List.getElem?_append_right (by rw [List.length_map]; omega), List.length_map, en, Nat.sub_self, List.getElem?_map, pl_head r]
          exact (nxt_last ih).1
      · rw [List.getElem?_append_right (by rw [List.length_map]; omega), List.length_map, List.getElem?_map] at h
        obtain ⟨q, hq, rfl⟩ := Option.map_eq_some_iff.mp h
        have ih := nxt_pl r (i - (pl l).length) q hq
        have ef : pt (.nd g l r) (114 :: q) = pt r q := by show (if 114 = 108 then _ else _) = _; rw [if_neg (by decide)]
        rw [ef, List.getElem?_append_right (by rw [List.length_map]; omega), List.length_map, List.getElem?_map]
        have en : i + 1 - (pl l).length = i - (pl l).length + 1 := by omega
        rw [en]
        cases hr : (pl r)[i - (pl l).length + 1]? with
        | none =>
          rw [hr] at ih
          exact (nxt_last ih).2
        | some z =>
          rw [hr] at ih
          exact nxt_cons ih
/-! ### the places below a place -/
theorem below : ∀ (t : Tr) (p : List Nat), isP t p = true → (pl t).filter (fun q => decide (q.take p.length = p)) = (pl (pt t p)).map (p ++ ·)
  | t, [], _ => by
    rw [pt_nil]
    simp
  | .nil, c :: p, h => by cases h
  | .nd g l r, c :: p, h => by
    simp only [pl, List.filter_cons, List.filter_append, List.filter_map]
    have e0 : decide (([] : List Nat).take (c :: p).length = c :: p) = false := by simp
    rw [if_neg (by rw [e0]; exact Bool.false_ne_true)]
    by_cases h1 : c = 108
    · subst h1
      have hp : isP l p = true := h
      have ih := below l p hp
      have ea : ((fun q => decide (q.take (108 :: p).length = 108 :: p)) ∘ (108 :: ·)) = fun q : List Nat => decide (q.take p.length = p) := by
        funext q
        simp
      have eb : (pl r).filter ((fun q => decide (q.take (108 :: p).length = 108 :: p)) ∘ (114 :: ·)) = [] := by
        rw [List.filter_eq_nil_iff]
        intro q _
        simp
      rw [ea, eb, ih]
      show _ = (pl (if 108 = 108 then pt l p else pt r p)).map _
      rw [if_pos rfl]
      simp
    · by_cases h2 : c = 114
      · subst h2
        have hp : isP r p = true := h
        have ih := below r p hp
        have ea : ((fun q => decide (q.take (114 :: p).length = 114 :: p)) ∘ (114 :: ·)) = fun q : List Nat => decide (q.take p.length = p) := by
          funext q
          simp
        have eb : (pl l).filter ((fun q => decide (q.take (114 :: p).length = 114 :: p)) ∘ (108 :: ·)) = [] := by
          rw [List.filter_eq_nil_iff]
          intro q _
          simp
        rw [ea, eb, ih]
        show _ = (pl (if 114 = 108 then pt l p else pt r p)).map _
        rw [if_neg (by decide)]
        simp
      · have : isP (.nd g l r) (c :: p) = false := by
          show (if c = 108 then isP l p else if c = 114 then isP r p else false) = false
          rw [if_neg h1, if_neg h2]
        rw [this] at h
        cases h
end Ey
namespace Ey
open PySem PySem.Spec L2
theorem dw_drop (f : Nat → Bool) : ∀ l : List Nat, l.dropWhile f = l.drop (l.takeWhile f).length
  | [] => rfl
  | a :: l => by
    cases h : f a
    · simp [List.dropWhile_cons, List.takeWhile_cons, h]
    · simp [List.dropWhile_cons, List.takeWhile_cons, h, dw_drop f l]
theorem stripR_take (p : List Nat) : stripR p = p.take (p.length - (p.reverse.takeWhile fun c => c == 114).length) := by
  have hle : (p.reverse.takeWhile fun c => c == 114).length ≤ p.length := by
    have := (List.takeWhile_sublist (fun c => c == 114) (l := p.reverse)).length_le
    rwa [List.length_reverse] at this
  unfold stripR
  rw [dw_drop, ← List.reverse_reverse (p.take _), List.reverse_take]
  have e : p.length - (p.length - (p.reverse.takeWhile fun c => c == 114).length) = (p.reverse.takeWhile fun c => c == 114).length := by omega
  rw [e]
theorem rstrip_st (p : List Nat) : Txt.rstripChars (st p) (st [114]) = st (stripR p) := by
  have e1 : (st [114]).cps.contains = fun c => c == 114 := by
    funext c
    show (#[114] : Array Nat).contains c = (c == 114)
    simp [Array.contains]
  have e3 := stripR_take p
  have lo : stripLo (st [114]).cps.contains false (st p) = 0 := rfl
  have hi : stripHi (st [114]).cps.contains true (st p) 0 = p.length - (p.reverse.takeWhile fun c => c == 114).length := by
    rw [e1]
    rfl
  unfold Txt.rstripChars Txt.stripBy stripSame stripped
  rw [lo, hi]
  have ex : Builtin.Str.strSub (st p) 0 (p.length - (p.reverse.takeWhile fun c => c == 114).length) = st (stripR p) := by
    rw [e3]
    show (⟨p.toArray.extract 0 _⟩ : Str) = ⟨_⟩
    simp
  rw [ex]
  split
  · rename_i h
    simp only [Bool.and_eq_true, beq_iff_eq] at h
    rw [e3, h.2]
    show st p = st (p.take p.length)
    rw [List.take_length]
  · rfl
theorem for_str {x : Str} {g : TG} {tb : TS} {D : Ends} {σ : St} {H : Hp} (Pv : Nat → St → Hp → Prop) (h0 : Pv 0 σ H)
    (hs : ∀ i c σ H, x.cps.toList[i]? = some c → Pv i σ H → g (.str (st [c])) σ H fun σ2 H2 => tb { D with nx := Pv (i + 1), ct := Pv (i + 1), bk := D.nx } σ2 H2)
    (hd : ∀ σ H, Pv x.cps.toList.length σ H → D.nx σ H) :
    ∃ W : Nat → Nat → St → Hp → Prop, (∃ m, W 0 m σ H) ∧ ∀ i m σ H, W i m σ H →
      ((Its x).stop i H ∧ D.nx σ H) ∨ ((Its x).go i H ∧ ∃ N : St → Hp → Prop, (∀ σ' H', N σ' H' → ∃ m', m' < m ∧ W (i + 1) m' σ' H') ∧ ∀ v H', (Its x).yld i H v H' → g v σ H' fun σ2 H2 => tb { D with nx := N, ct := N, bk := D.nx } σ2 H2) := by
  refine ⟨fun i m σ H => m = x.cps.size - i ∧ i ≤ x.cps.size ∧ Pv i σ H, ⟨_, rfl, Nat.zero_le _, h0⟩, fun i m σ H hw => ?_⟩
  obtain ⟨rfl, hi, p⟩ := hw
  by_cases lt : i < x.cps.size
  · refine .inr ⟨lt, Pv (i + 1), fun σ' H' p' => ⟨x.cps.size - (i + 1), by omega, rfl, lt, p'⟩, fun v H' y => ?_⟩
    obtain ⟨rfl, c, hc, rfl⟩ := y
    exact hs i c σ _ (by rw [Array.getElem?_toList]; exact hc) p
  · have e : i = x.cps.size := by omega
    subst e
    exact .inl ⟨Nat.le_refl _, hd σ H (by rw [Array.length_toList]; exact p)⟩
end Ey
namespace Ey
open PySem PySem.Spec L2
/-! ### heaps -/
/-- all that was tracked is as it was, but what stands at ms; tuples never change -/
structure Kp (ms : List Addr) (H H' : Hp) : Prop where
  at_ : ∀ b o, H b = some o → b ∉ ms → H' b = some o
  tup : ∀ b xs, H b = some (.tup xs) → H' b = some (.tup xs)
section
variable {ms : List Addr} {H H' H1 H2 : Hp}
theorem Kp.refl : Kp ms H H := ⟨fun _ _ e _ => e, fun _ _ e => e⟩
theorem Kp.trans (a : Kp ms H H1) (b : Kp ms H1 H2) : Kp ms H H2 := ⟨fun c o e n => b.at_ c o (a.at_ c o e n) n, fun c xs e => b.tup c xs (a.tup c xs e)⟩
theorem Kp.more {ms' : List Addr} (a : Kp ms H H1) (h : ∀ x ∈ ms, x ∈ ms') : Kp ms' H H1 := ⟨fun c o e n => a.at_ c o e fun q => n (h c q), a.tup⟩
theorem Kp.new {p : Addr} {o : HO} (h : H p = none) : Kp ms H (upd H p o) :=
  ⟨fun c u e _ => by rw [upd_ne (ne_of_none e h)]; exact e, fun c xs e => by rw [upd_ne (ne_of_none e h)]; exact e⟩
theorem Kp.put {p : Addr} {o u : HO} (hm : p ∈ ms) (h : H p = some u) (nt : ∀ xs, u ≠ .tup xs) : Kp ms H (upd H p o) := by
  refine ⟨fun c v e n => ?_, fun c xs e => ?_⟩
  · rw [upd_ne (fun q => n (by rw [q]; exact hm))]
    exact e
  · rw [upd_ne (fun q => ?_)]
    · exact e
    · rw [q, h] at e
      exact nt xs (Option.some.inj e)
theorem Kp.same (s : Same H H1) : Kp ms H H1 := ⟨fun c o e _ => s c o e, fun c xs e => s c _ e⟩
theorem Kp.free (a : Kp ms H H1) {p : Addr} (h : H1 p = none) (n : p ∉ ms) : H p = none := by
  cases q : H p with
  | none => rfl
  | some o =>
    rw [a.at_ p o q n] at h
    cases h
theorem Kp.lst {K : PySem.W.Frag} {a : Addr} {xs : List V} (k : Kp ms H H1) (n : a ∉ ms) (h : SqL K H a xs) : SqL K H1 a xs := by
  rcases h with (h | ⟨o, h⟩) | h
  · exact .inl (.inl (k.at_ _ _ h n))
  · exact .inl (.inr ⟨o, k.at_ _ _ h n⟩)
  · exact .inr h
end
/-! ### trees in the heap -/
inductive TreeAt (H : Hp) : V → Tr → Prop where
  | nil : TreeAt H .non .nil
  | nd {a : Addr} {g : Str} {l r : Tr} {v w : V} : H a = some (.tup [.str g, v, w]) → TreeAt H v l → TreeAt H w r → TreeAt H (.ref a) (.nd g l r)
theorem TreeAt.kp {ms : List Addr} {H H1 : Hp} {v : V} {t : Tr} (k : Kp ms H H1) (h : TreeAt H v t) : TreeAt H1 v t := by
  induction h with
  | nil => exact .nil
  | nd e _ _ ih1 ih2 => exact .nd (k.tup _ _ e) ih1 ih2
theorem TreeAt.non {H : Hp} {v : V} {t : Tr} (h : TreeAt H v t) : decide (v = .non) = !t.full := by
  cases h <;> rfl
theorem sqt_of {K : PySem.W.Frag} {H : Hp} {a : Addr} {xs : List V} (h : H a = some (.tup xs)) : SqT K H a xs := .inl (.inl h)
theorem sql_of {K : PySem.W.Frag} {H : Hp} {a : Addr} {xs : List V} (h : H a = some (.lst xs)) : SqL K H a xs := .inl (.inl h)
/-- a tree as data -/
def td : Tr → PyData
  | .nil => .none
  | .nd g l r => .tuple [.str g, td l, td r]
theorem TreeAt.dp {K : PySem.W.Frag} {H : Hp} {v : V} {t : Tr} (h : TreeAt H v t) : Dp K H v (td t) := by
  induction h with
  | nil => exact .non
  | nd e _ _ ih1 ih2 => exact .tup (sqt_of e) (.cons (.str _) (.cons ih1 (.cons ih2 .nil)))
theorem td_show : ∀ t : Tr, (td t).showable = true
  | .nil => rfl
  | .nd g l r => by
    show (true && ((td l).showable && ((td r).showable && true))) = true
    rw [td_show l, td_show r]
    rfl
theorem td_depth : ∀ t : Tr, (td t).depth ≤ 1 + t.ht
  | .nil => by decide
  | .nd g l r => by
    have a := td_depth l
    have b := td_depth r
    simp only [td, PyData.depth, PyData.depthAll, Tr.ht]
    omega
theorem tag_signs {g : Str} (h : isTag g = true) : ∀ c ∈ g.cps.toList, c < 16 ^ 8 := fun c hc => by
  simp only [isTag, Bool.and_eq_true, List.all_eq_true, decide_eq_true_eq] at h
  have := h.2 c hc
  simp only [abc, List.mem_cons, List.not_mem_nil, or_false] at this
  omega
theorem tag_len {g : Str} (h : isTag g = true) : g.length ≤ 8 := by
  simp only [isTag, Bool.and_eq_true, decide_eq_true_eq] at h
  exact h.1.2
theorem len_app (a b : Str) : (a ++ b).length = a.length + b.length := by
  show (a.cps ++ b.cps).size = _
  rw [Array.size_append]
  rfl
theorem td_len : ∀ t : Tr, t.ok → (td t).shown.length ≤ 100 * t.sz + 4
  | .nil, _ => by decide +kernel
  | .nd g l r, h => by
    obtain ⟨hg, hl, hr⟩ := h
    have a := td_len l hl
    have b := td_len r hr
    have c := StrLaws.reprText_len g (tag_signs hg)
    have d := tag_len hg
    have e : (td (.nd g l r)).shown.length ≤ (reprText g).length + (td l).shown.length + (td r).shown.length + 6 := by
      show (tupleText [reprText g, (td l).shown, (td r).shown]).length ≤ _
      unfold tupleText
      rw [len_app, len_app]
      simp only [Str.join, len_app]
      have q1 : (", " : Str).length = 2 := by decide +kernel
      have q2 : ("(" : Str).length = 1 := by decide +kernel
      have q3 : (Str.ofString (if (([reprText g, (td l).shown, (td r).shown] : List Str).length == 1) = true then ",)" else ")")).length = 1 := by
        show (Str.ofString (if ((3 : Nat) == 1) = true then ",)" else ")")).length = 1
        decide +kernel
      rw [q1, q2]
      omega
    simp only [Tr.sz]
    omega
end Ey
set_option maxHeartbeats 2000000
namespace Ey
open PySem PySem.Spec PyProof.Rows L2 GxR
/-! ### all(e for x in it), e any expression that HandS can tell -/
/-- the generator's own frame -/
def gxOf (X : Cx) (A : Around) (s : Shared) (H : Hp) (ge : Env) (x : Str) (fp : List Addr) : Cx :=
  { X with A := A, N := [x], s_0 := s, H_0 := H, env := ge, outer := X.stack, stack := ge :: X.stack, ex := fp, fn := fun _ => false, calm := true, pn := [], xe := fun _ _ => False }
abbrev gcode (elt iter : Expr) (x : Str) (px : Pos) (sc : Scope) (gp : Pos) (it : Addr) (ge : Env) : Code := .compLoop (.GeneratorExp elt [⟨.Name x px, iter, [], 0⟩] sc gp) 0 (.ref it) .none ge
/-- the generator stands at turn i -/
structure GIn (Xg : Cx) (fp : List Addr) (tn : Nat → Heap → Prop) (ga : Addr) (go : Obj) (g : Nat) (W : Nat → Hp → Prop) (i : Nat) (s : Shared) : Prop where
  ex : ∃ (H : Hp) (y : Option V), Inv Xg [(ga, go)] [y] H s ∧ tn i s.heap ∧ (∀ b ∈ fp, FpOk Xg [(ga, go)] H b) ∧ W i H
  sz : g + 1 ≤ s.gens.size
/-- it is over -/
def GEd (Xg : Cx) (ga : Addr) (go : Obj) (Qe : Hp → Prop) (s : Shared) : Prop := ∃ (H : Hp) (y : Option V), Inv Xg [(ga, go)] [y] H s ∧ Qe H
def YG (GI : Nat → Shared → Prop) (GF : Shared → Prop) (n0 : Nat) : Protocol := fun m _ v s kap => ∃ b : Bool, v = .bool b ∧ (b = true → GI (n0 - m) s ∧ ∀ s'', GI (n0 - m) s'' → kap (.send .none) s'') ∧ (b = false → GF s)
def RG (GT : Shared → Prop) : GenEnd := fun _ _ r s => r = .ok .next ∧ GT s
section
variable {X : Cx} {A : Around} {sG : Shared} {HG : Hp} {ge : Env} {x : Str} {fp : List Addr} {tn : Nat → Heap → Prop} {ga it : Addr} {go : Obj} {g : Nat} {W : Nat → Hp → Prop} {Qf Qt : Hp → Prop} {J : It} {elt iter : Expr} {px gp : Pos} {sc : Scope} {te : TE} {n0 : Nat}
theorem seg_gloop (T : Turn X.prog X.w X.K (.Name x px) J fp it tn) (hx : ge.scope.names.lookup x = some .local) (hco : ge.scope.isCoroutine = false)
    (hel : PE (gxOf X (A.over (gcode elt iter x px sc gp it ge) []) sG HG ge x fp) elt te)
    (hW : ∀ i H, W i H → (i < n0 ∧ J.go i H ∧ ∀ v H', J.yld i H v H' → te [some v] H' fun y H3 => ∃ b, y = .bl b ∧ if b = true then W (i + 1) H3 else Qf H3) ∨ (J.stop i H ∧ Qt H)) :
    ∀ (k i : Nat) (s₀ s : Shared), n0 - i = k → GIn (gxOf X (A.over (gcode elt iter x px sc gp it ge) []) sG HG ge x fp) fp tn ga go g W i s →
      Seg (model X.prog X.w) A (RG (GEd (gxOf X (A.over (gcode elt iter x px sc gp it ge) []) sG HG ge x fp) ga go Qt))
        (YG (GIn (gxOf X (A.over (gcode elt iter x px sc gp it ge) []) sG HG ge x fp) fp tn ga go g W) (GEd (gxOf X (A.over (gcode elt iter x px sc gp it ge) []) sG HG ge x fp) ga go Qf) n0) (n0 - i) s₀
        (gcode elt iter x px sc gp it ge) ((model X.prog X.w).den (gcode elt iter x px sc gp it ge)) [] s := by
  generalize hXg : gxOf X (A.over (gcode elt iter x px sc gp it ge) []) sG HG ge x fp = Xg at *
  have eP : Xg.prog = X.prog := by rw [← hXg]; rfl
  have eW : Xg.w = X.w := by rw [← hXg]; rfl
  have eK : Xg.K = X.K := by rw [← hXg]; rfl
  have eC : Xg.calm = true := by rw [← hXg]; rfl
  have eA : Xg.A = A.over (gcode elt iter x px sc gp it ge) [] := by rw [← hXg]; rfl
  have eE : Xg.env = ge := by rw [← hXg]; rfl
  have eN : Xg.N = [x] := by rw [← hXg]; rfl
  have eX : Xg.xe = fun _ _ => False := by rw [← hXg]; rfl
  have ePn : Xg.pn = [] := by rw [← hXg]; rfl
  have stat : ∀ {pins : List (Addr × Obj)} {H H' : Hp}, (∀ b ∈ fp, FpOk Xg pins H b) → (∀ b ∈ fp, H' b = none) → ∀ b ∈ fp, FpOk Xg pins H' b := fun f2 hn b hb => ⟨hn b hb, (f2 b hb).2⟩
  intro k
  induction k with
  | zero =>
    intro i s₀ s hk gi
    obtain ⟨⟨H, y, I, st, fo, w⟩, sz⟩ := gi
    rcases hW i H w with ⟨lt, _⟩ | ⟨stop, qt⟩
    · omega
    show Seg _ A _ _ _ s₀ _ ((compTurn (.GeneratorExp elt [⟨.Name x px, iter, [], 0⟩] sc gp) 0 (.ref it) .none ge).onRaise (leaving ge)) [] s
    rw [compTurn_gen, Sem.onRaise_eq_wrap]
    refine seg_bind_wrap (wpAny_standAt ?_)
    refine seg_bind_wrap (eA ▸ wpAny_mono (T.done Xg eP eW eK eC i _ s [y] H (fun _ _ => False) I fo st stop) (fun r s1 ⟨hr, I1⟩ => ?_) fun _ _ e => e.elim)
    subst hr
    exact seg_end (.ok .next) ⟨rfl, H, y, I1, qt⟩
  | succ k ih =>
    intro i s₀ s hk gi
    obtain ⟨⟨H, y, I, st, fo, w⟩, sz⟩ := gi
    show Seg _ A _ _ _ s₀ _ ((compTurn (.GeneratorExp elt [⟨.Name x px, iter, [], 0⟩] sc gp) 0 (.ref it) .none ge).onRaise (leaving ge)) [] s
    rw [compTurn_gen, Sem.onRaise_eq_wrap]
    refine seg_bind_wrap (wpAny_standAt ?_)
    rcases hW i H w with ⟨lt, gg, step⟩ | ⟨stop, qt⟩
    · refine seg_bind_wrap (eA ▸ GenW.wpAny_gsz sz (wpAny_mono (T.item Xg eP eW eK eC i _ s [y] H (fun _ _ => False) I fo st gg) (fun r s1 ⟨u, hr, rest⟩ sz1 => ?_) fun _ _ e _ => e.elim))
      subst hr
      refine seg_bind_wrap (eA ▸ GenW.wpAny_gsz sz1 (wpAny_mono rest (fun _ s2 ⟨v, H2, I2, rv, yl, st2, fr2⟩ sz2 => ?_) fun _ _ e _ => e.elim))
      have fo2 := stat fo fr2
      have I2' := I2.pinned fo2 (T.obj _ _ st2)
      have pgn : PG Xg (.Name x px) (gName 0) := pg_name (by rw [eN]; simp) (by rw [eN]; rfl) (.inl (by rw [eE]; exact hx)) (.inr (by rw [eE]; exact hx))
      have run1 := pgn.run _ s2 [y] H2 v u (fun σ' H' => σ' = [some v] ∧ H' = H2) I2' rv ⟨rfl, rfl⟩
      rw [eE, eX] at run1
      refine seg_bind_wrap (eA ▸ GenW.wpAny_gsz sz2 (wpAny_mono (eP ▸ eW ▸ run1) (fun _ s3 ⟨σ3, H3, I3, e3, e4⟩ sz3 => ?_) fun _ _ e _ => e.elim))
      subst e3 e4
      simp only [List.forIn_nil]
      refine seg_bind_wrap (wpAny_pure ?_)
      rw [if_pos rfl]
      have hy : ∀ v, yieldOut ge v = yieldValue v := fun v => by simp only [yieldOut, hco, Bool.false_eq_true, if_false]
      simp only [hy]
      rw [Sem.bind_eq_wrap', Sem.bind_eq_wrap', Sem.wrap_wrap, Sem.wrap_wrap]
      have run2 := hel.run _ s3 [some v] H3 _ I3 (step v H3 yl)
      rw [eE, eX] at run2
      refine seg_wrap (eA ▸ GenW.wpAny_gsz sz3 (wpAny_mono (eP ▸ eW ▸ run2) (fun z s4 ⟨zv, H4, I4, rz, b, ez, q⟩ sz4 => ?_) fun _ _ e _ => e.elim))
      subst ez
      have ez' : z = .bool b := rz
      subst ez'
      have hn : n0 - i = (n0 - (i + 1)) + 1 := by omega
      have hm : n0 - (n0 - (i + 1)) = i + 1 := by omega
      rw [hn]
      have st4 : tn (i + 1) s4.heap := T.keep _ _ _ st2 fun b hb o e => (I4.pin (b, o) (List.mem_append_right _ (List.mem_append_right _ (mem_pinsAt hb e)))).1
      have fr4 : ∀ b ∈ fp, H4 b = none := fun b hb => by
        obtain ⟨o, e, d⟩ := T.obj _ _ st2 b hb
        exact (I4.pin (b, o) (List.mem_append_right _ (List.mem_append_right _ (mem_pinsAt hb e)))).2.1
      refine seg_at (seg_yield rfl rfl rfl ⟨b, rfl, fun hb => ?_, fun hb => ?_⟩)
      · rw [hb, if_pos rfl] at q
        rw [hm]
        exact ⟨⟨⟨H4, _, I4.unpinned, st4, stat fo fr4, q⟩, sz4⟩, fun s'' gi => seg_again rfl (ih (i + 1) s'' s'' (by omega) gi)⟩
      · rw [hb, if_neg Bool.false_ne_true] at q
        exact ⟨H4, _, I4.unpinned, q⟩
    · refine seg_bind_wrap (eA ▸ wpAny_mono (T.done Xg eP eW eK eC i _ s [y] H (fun _ _ => False) I fo st stop) (fun r s1 ⟨hr, I1⟩ => ?_) fun _ _ e => e.elim)
      subst hr
      exact seg_end (.ok .next) ⟨rfl, H, y, I1, qt⟩
/-- the generator as its consumer has it -/
def CSt (M : Model) (A : Around) (R : GenEnd) (Y : Protocol) (GI : Nat → Shared → Prop) (g n0 i : Nat) (s : Shared) : Prop :=
  GI i s ∧ ∃ gs, s.gens[g]? = some gs ∧ ∀ s'', GI i s'' → gs.Goes M A R Y (n0 - i) (.send .none) s''
theorem Inv.gens {Xg : Cx} {pins : List (Addr × Obj)} {σ : L2.St} {H : Hp} {s : Shared} {gs : Array GenState} (I : Inv Xg pins σ H s) (h : AllBare gs) : Inv Xg pins σ H { s with gens := gs } :=
  ⟨I.ok, I.os, h, I.base, I.loc, I.cell, I.free, I.freeC, I.pin, I.hok, I.len⟩
theorem GIn.set {Xg : Cx} {i : Nat} {s : Shared} {gs : GenState} (h : GIn Xg fp tn ga go g W i s) (hb : gs.bare = true) : GIn Xg fp tn ga go g W i (s.setGen g gs) := by
  obtain ⟨⟨H, y, I, st, fo, w⟩, sz⟩ := h
  refine ⟨⟨H, y, Inv.gens I (L2.allBare_setGen I.bare hb), st, fo, w⟩, ?_⟩
  rw [GenW.setGen_size]
  exact sz
theorem GEd.set {Xg : Cx} {s : Shared} {gs : GenState} {Qe : Hp → Prop} (h : GEd Xg ga go Qe s) (hb : gs.bare = true) : GEd Xg ga go Qe (s.setGen g gs) := by
  obtain ⟨H, y, I, q⟩ := h
  exact ⟨H, y, Inv.gens I (L2.allBare_setGen I.bare hb), q⟩
theorem gen_next {Xg : Cx} {E : Value → Shared → Prop} {s : Shared} {i : Nat} (hc : go.cls = .type "generator") (hd : ∃ nm qn, go.data = .fields #[.int g 0, nm, qn]) (hs : go.slots = #[]) (hh : A.handled = none) (hroom : A.depth < recursionLimit)
    (h : CSt (model X.prog X.w) A.in1 (RG (GEd Xg ga go Qt)) (YG (GIn Xg fp tn ga go g W) (GEd Xg ga go Qf) n0) (GIn Xg fp tn ga go g W) g n0 i s) :
    wpAny (model X.prog X.w) A (pyNext (.ref ga)) (fun r s' => (r = some (.bool true) ∧ i < n0 ∧ CSt (model X.prog X.w) A.in1 (RG (GEd Xg ga go Qt)) (YG (GIn Xg fp tn ga go g W) (GEd Xg ga go Qf) n0) (GIn Xg fp tn ga go g W) g n0 (i + 1) s') ∨
      (r = some (.bool false) ∧ GEd Xg ga go Qf s') ∨ (r = none ∧ GEd Xg ga go Qt s')) E s := by
  obtain ⟨gi, gs, hgs, hgo⟩ := h
  obtain ⟨nm, qn, hd⟩ := hd
  have hg : s.heap.IsGen ga g := by
    obtain ⟨⟨H, y, I, _⟩, _⟩ := gi
    exact ⟨go, nm, qn, (I.pin (ga, go) (List.mem_append_right _ (List.mem_singleton.mpr rfl))).1, hc, hd, hs⟩
  have hl : s.heap.NoLimit := by
    obtain ⟨⟨H, y, I, _⟩, _⟩ := gi
    exact I.nolimit
  refine wpAny_pyNext_genexpQ (P := fun _ _ s₁ => GEd Xg ga go Qt s₁) hh hl hroom hg hgs (hgo _ (gi.set rfl)) (fun v s₁ gs' hb hv => ?_) (fun s₁ hp h' hk => ?_)
  · obtain ⟨b, rfl, ht, hf⟩ := hv
    cases b with
    | false => exact .inr (.inl ⟨rfl, (hf rfl).set hb⟩)
    | true =>
      obtain ⟨g1, g2⟩ := ht rfl
      cases hn : n0 - i with
      | zero =>
        rw [hn] at g1 g2
        exact (g2 s₁ g1).elim
      | succ m =>
        rw [hn] at g1 g2
        have e : n0 - (m + 1 - 1) = i + 1 := by omega
        rw [e] at g1 g2
        refine .inl ⟨rfl, by omega, g1.set hb, gs', L2.setGen_at (Nat.lt_of_succ_le g1.sz), fun s'' gi'' => ?_⟩
        have e2 : n0 - (i + 1) = m := by omega
        rw [e2]
        exact g2 s'' gi''
  · obtain ⟨H, y, I, q⟩ := hp
    refine .inr (.inr ⟨rfl, H, y, ?_, q⟩)
    have I2 := Inv.gens (gs := (s₁.setGen g .finished).gens) I (L2.allBare_setGen I.bare rfl)
    exact I2.kept (t' := s₁.toks) hk
theorem all_loopX {Xg : Cx} {R : Result → Shared → Prop} (hc : go.cls = .type "generator") (hd : ∃ nm qn, go.data = .fields #[.int g 0, nm, qn]) (hs : go.slots = #[]) (hh : A.handled = none) (hroom : A.in1.depth < recursionLimit)
    (hT : ∀ s', GEd Xg ga go Qt s' → R (.ok (.ret (.bool true))) s') (hF : ∀ s', GEd Xg ga go Qf s' → R (.ok (.ret (.bool false))) s') : ∀ (k i : Nat) (s : Shared), n0 - i = k →
    CSt (model X.prog X.w) A.in1.in1 (RG (GEd Xg ga go Qt)) (YG (GIn Xg fp tn ga go g W) (GEd Xg ga go Qf) n0) (GIn Xg fp tn ga go g W) g n0 i s → codeAny (model X.prog X.w) A (.builtin "all.loop" ⟨[.ref ga], []⟩) R s := by
  intro k
  induction k with
  | zero =>
    intro i s hk cs
    refine codeAny_builtin F.entry_all_loop ?_
    rw [Around.under_plainId F.plain_all_loop _]
    show wpAny _ A.in1 (pyNext (.ref ga) >>= _) _ _ s
    refine wpAny_bind (wpAny_mono (gen_next hc hd hs hh hroom cs) (fun r s' h => ?_) fun _ _ e => e)
    rcases h with ⟨rfl, lt, _⟩ | ⟨rfl, q⟩ | ⟨rfl, q⟩
    · omega
    · refine wpAny_bind (wpAny_holding (wpAny_truthy_bool ?_))
      refine wpAny_bind (wpAny_letGo ?_)
      simp only [Bool.false_eq_true, if_false]
      exact wpAny_bind (wpAny_rule (wpAny_pure (hF s' q)))
    · exact wpAny_bind (wpAny_rule (wpAny_pure (hT s' q)))
  | succ k ih =>
    intro i s hk cs
    refine codeAny_builtin F.entry_all_loop ?_
    rw [Around.under_plainId F.plain_all_loop _]
    show wpAny _ A.in1 (pyNext (.ref ga) >>= _) _ _ s
    refine wpAny_bind (wpAny_mono (gen_next hc hd hs hh hroom cs) (fun r s' h => ?_) fun _ _ e => e)
    rcases h with ⟨rfl, lt, cs'⟩ | ⟨rfl, q⟩ | ⟨rfl, q⟩
    · refine wpAny_bind (wpAny_holding (wpAny_truthy_bool ?_))
      refine wpAny_bind (wpAny_letGo ?_)
      simp only [if_true]
      exact wpAny_pure ⟨plainId_quiet F.plain_all_loop _, ih (i + 1) s' (by omega) cs'⟩
    · refine wpAny_bind (wpAny_holding (wpAny_truthy_bool ?_))
      refine wpAny_bind (wpAny_letGo ?_)
      simp only [Bool.false_eq_true, if_false]
      exact wpAny_bind (wpAny_rule (wpAny_pure (hF s' q)))
    · exact wpAny_bind (wpAny_rule (wpAny_pure (hT s' q)))
end
end Ey
set_option maxHeartbeats 4000000
namespace Ey
open PySem PySem.Spec PyProof.Rows L2 GxR
section
variable {X : Cx} {pins : List (Addr × Obj)} {σ : L2.St} {H : Hp} {s : Shared}
/-- the generator's frame begins -/
theorem inv_gx {A : Around} {sc : Scope} {x : Str} {fp : List Addr} {code : Value} {h5 : Heap} {g5 : Array GenState} {t5 : Nat} {m : Str → Option Value} (I : Inv X pins σ H s)
    (hk : sc.kind = .function) (hc : ∀ y ∈ sc.names, y.2 ≠ .cell) (hf : ∀ y ∈ sc.names, y.2 ≠ .free) (hns : h5.Ns s.heap.objs.size m) (keep : ∀ b o, s.heap.get? b = some o → h5.get? b = some o) (bare : AllBare g5) (hh : A.handled = none)
    (fr : A.frames = some (genEnv sc [] s.heap.objs.size code builtinsNs X.env :: X.stack)) (ho : ∀ b ∈ fp, FpOk X pins H b ∧ b < s.heap.objs.size) :
    Inv (gxOf X A s H (genEnv sc [] s.heap.objs.size code builtinsNs X.env) x fp) [] [none] H { s with heap := h5, gens := g5, toks := t5 } := by
  have nofs : ∀ b ∈ fp, b ∉ frs X.stack := fun b hb z => by
    obtain ⟨⟨_, h1, h2, _⟩, _⟩ := ho b hb
    rcases List.mem_cons.mp (I.stkSub b z) with q | q
    · exact h1 q
    · exact h2 q
  refine ⟨⟨I.ok.mod, hk, I.ok.glob, rfl, Nat.le_refl _, fun y z c e _ => ?_, fun y hy => ?_, fun y c e _ => ?_, fun _ => hh, fr, .inr ⟨rfl, rfl⟩, fun b hb => ⟨Nat.ne_of_lt (ho b hb).2, fun y c e => ?_⟩, fun b o e => I.bs b o e, Nat.le_trans I.ok.bsz I.sz, fun b o e hb => ?_, fun b hb => nofs b hb, I.stack, I.stkFree⟩,
    rfl, bare, Un.kept keep, ⟨m, hns, fun i y v h1 h2 _ => ?_⟩, fun y c e => ?_, I.hok.fresh (Nat.le_refl _), fun y c e => ?_, fun p hp => ?_, I.hok.kept keep, rfl⟩
  · exact absurd e (by intro z; cases z)
  · have hy' : sc.names.lookup y = some .cell ∨ sc.names.lookup y = some .free := hy
    rcases hy' with q | q
    · exact absurd rfl (hc _ (PySem.mem_of_lookup q))
    · exact absurd rfl (hf _ (PySem.mem_of_lookup q))
  · exact absurd e (by intro z; cases z)
  · exact absurd e (by intro z; cases z)
  · obtain ⟨⟨_, _, _, h3, _⟩, _⟩ := ho b hb
    rcases h3 with q | q
    · exact I.ok.noex b o e q
    · exact Nat.lt_irrefl _ (Nat.lt_of_lt_of_le (Heap.lt_size e) (Nat.le_trans I.ok.bsz q))
  · cases i with
    | zero => cases h2
    | succ i => cases h2
  · exact absurd e (by intro z; cases z)
  · exact absurd e (by intro z; cases z)
  · exact absurd hp (by intro z; cases z)
/-- all(e for x in it): the table of the running def's code may have grown; then, item by item -/
def tAllX (P : Addr) (wi : TI) (te : TE) : TE := fun σ H Q => wi σ H fun J H1 => TabG H1 P ∧ ∀ H2, Tabbed P H1 H2 → ∃ (n0 : Nat) (W : Nat → Hp → Prop), W 0 H2 ∧
  ∀ i H', W i H' → (i < n0 ∧ J.go i H' ∧ ∀ v H'', J.yld i H' v H'' → te [some v] H'' fun y H3 => ∃ b, y = .bl b ∧ if b = true then W (i + 1) H3 else Q (.bl false) H3) ∨ (J.stop i H' ∧ Q (.bl true) H')
theorem pe_allX {c P : Addr} {elt iter : Expr} {x : Str} {px p pos gp : Pos} {sc : Scope} {wi : TI} {te : TE} {k : Nat}
    (hr : Room (k + 2) X.A) (hg : Gl X "all") (hm : X.mg "all" = none) (hb : bootBuiltins "all" = some (.builtin "all")) (TB : TabB X.base X.mg c P) (hco : X.env.code = .ref c) (S : GenS X.env sc x) (nf : ∀ y ∈ sc.names, y.2 ≠ .free)
    (hi : PI X (.Name x px) iter wi)
    (hel : ∀ (A : Around) (s : Shared) (H : Hp) (C : Addr) (code : Value) (fp : List Addr), Room k A → PE (gxOf X A s H (genEnv sc [] C code builtinsNs X.env) x fp) elt te)
    (hs : ∀ v, genFold iter X.env v = pure v) (hcl : cloFrom X.env.cells sc.names [] = [] := by rfl)
    (he : starEach [.GeneratorExp elt [⟨.Name x px, iter, [], 0⟩] sc gp] X.env = (false, eval (.GeneratorExp elt [⟨.Name x px, iter, [], 0⟩] sc gp) X.env) :: starEach [] X.env := by rfl) :
    PE X (.Call (.Name "all" p) [.GeneratorExp elt [⟨.Name x px, iter, [], 0⟩] sc gp] [] pos) (tAllX P wi te) := by
  refine ⟨fun pins s σ H Q I h => wpAny_Call_Name_kw (ld_blt I hg hm hb ?_)⟩
  refine PyProof.Rows.callWith_builtin1 ?_ he (by rfl)
  rw [he]
  show wpAny _ _ (spliced ((false, eval (.GeneratorExp elt [⟨.Name x px, iter, [], 0⟩] sc gp) X.env) :: backTo pos (starEach [] X.env))) _ _ s
  refine Calls.spliced_cons (wpAny_GeneratorExp_make S.co (cl := []) (hcl ▸ closure_ok S.free) S.cell S.dot S.kind (Nat.lt_of_le_of_lt (by omega) hr.dp) ?_ hs)
  refine thn (hi.run pins s σ H _ I h) fun v s1 h1 => thn h1 fun itv s2 h2 => ?_
  obtain ⟨it, fp, tn, J, H1, e, J1, T, st, fo, ⟨ps, tP, tok⟩, q⟩ := h2
  subst e
  have gP : s2.heap.get? P = some { cls := .none, data := .fields ps } := J1.hok P _ tP
  have head : PySem.W.CodeHd s2.heap c P := TB.code.keeps fun b u e => J1.bk b u e
  have ncP : cStatics ≠ P := fun e => by
    obtain ⟨_, ns, _⟩ := J1.nolimit
    obtain ⟨o', es, ep, g', d', _⟩ := ns
    rw [e, gP] at g'
    cases g'
    cases d'
  have fpP : ∀ b ∈ fp, b ≠ P := fun b hb z => by
    have := (fo b hb).1
    rw [z, tP] at this
    cases this
  refine ⟨J1.nolimit, ?_⟩
  have go : ∀ (code : Value) (hN : Heap) (tk : Nat) (qs : Array Value), Heap.ExtBut P s2.heap hN → hN.get? P = some { cls := .none, data := .fields qs } → (∃ more, qs = ps ++ more) → TriplesOk qs.toList →
      wpAny (model X.prog X.w) X.A (builtinsFor X.env.globals X.env.builtins) (fun bi s₄ =>
        ∀ h', h'.Ns s₄.heap.objs.size (fun y => if y = ".0" then some (.ref it) else none) → Heap.SameBut s₄.heap.objs.size (s₄.heap.push { cls := .type "frame", data := .dict #[] }) h' →
          wpAny (model X.prog X.w) X.A (spliced (backTo pos (starEach [] X.env))) (fun us s' => wpAny (model X.prog X.w) X.A (call (.builtin "all") (.ref h'.objs.size :: us)) (EP X pins σ Q) X.xe s') X.xe { s₄ with
            gens := s₄.gens.push (.fresh (.compStart (.GeneratorExp elt [⟨.Name x px, iter, [], 0⟩] sc gp) 0 (.ref it) .none (genEnv sc [] s₄.heap.objs.size code bi X.env))),
            toks := s₄.toks + 1 + 1 + 1,
            heap := h'.push { cls := .type "generator", data := .fields #[.int s₄.gens.size 0, .str "<genexpr>" (s₄.toks + 1), .str (X.env.qual ++ "<genexpr>") (s₄.toks + 1 + 1)] } }) X.xe { s2 with heap := hN, toks := tk } := by
    intro code hN tk qs ext gPN more okN
    obtain ⟨bm, obm, e1, e2, e3, e4, e5, e6, e7, e8⟩ := TB.bm
    have stay : ∀ b u, b ≠ P → s2.heap.get? b = some u → hN.get? b = some u := fun b u nb e => ext b u nb e
    obtain ⟨mo, em⟩ := more
    subst em
    have J2 : Inv X pins σ (upd H1 P (.tbl (ps ++ mo))) { s2 with heap := hN, toks := tk } := inv_tab (more := mo) (h' := hN) (g' := s2.gens) (d' := s2.drawn) (t' := tk) J1 tP stay gPN J1.bare
    refine wpAny_builtinsFor (m := X.mg) (by rw [J1.ok.glob]; exact (J1.mod.glob.keeps J1.bk).extBut ext TB.gP) e1 e2 (stay _ _ e4 (J1.bk _ _ e5)) e6 e7 e8 ?_
    intro h' hn' hs'
    refine Calls.spliced_nil ?_
    obtain ⟨n0, W, w0, hW⟩ := q (upd H1 P (.tbl (ps ++ mo))) ⟨⟨ps ++ mo, upd_same, okN⟩, fun b nb => upd_ne nb⟩
    have sz' : h'.objs.size = hN.objs.size + 1 := by
      rw [hs'.1, Heap.size_push]
    have keep' : ∀ b o, hN.get? b = some o → h'.get? b = some o := fun b o e => hs'.extBut b o (Nat.ne_of_lt (Heap.lt_size e)) (Heap.get?_push_of_some _ e)
    generalize hgo : ({ cls := .type "generator", data := .fields #[.int s2.gens.size 0, .str "<genexpr>" (tk + 1), .str (X.env.qual ++ "<genexpr>") (tk + 1 + 1)] } : Obj) = gob
    have gc : gob.cls = .type "generator" := by rw [← hgo]
    have gd : ∃ nm qn, gob.data = .fields #[.int s2.gens.size 0, nm, qn] := ⟨_, _, by rw [← hgo]⟩
    have gs : gob.slots = #[] := by rw [← hgo]
    show wpAny (model X.prog X.w) X.A (call (.builtin "all") [.ref h'.objs.size]) (EP X pins σ Q) X.xe { s2 with
            gens := s2.gens.push (.fresh (.compStart (.GeneratorExp elt [⟨.Name x px, iter, [], 0⟩] sc gp) 0 (.ref it) .none (genEnv sc [] hN.objs.size code builtinsNs X.env))),
            toks := tk + 1 + 1 + 1, heap := h'.push gob }
    have keep5 : ∀ b o, hN.get? b = some o → (h'.push gob).get? b = some o := fun b o e => Heap.get?_push_of_some _ (keep' b o e)
    have atG : (h'.push gob).get? h'.objs.size = some gob := Heap.get?_push_size _ (by
      obtain ⟨nm, qn, e⟩ := gd
      exact Obj.isFreed_of_fields e)
    -- the frame
    generalize hge : genEnv sc [] hN.objs.size code builtinsNs X.env = ge
    have fpl : ∀ b ∈ fp, b < hN.objs.size := fun b hb => by
      obtain ⟨o, e, _⟩ := T.obj _ _ st b hb
      exact Heap.lt_size (stay b o (fpP b hb) e)
    have foN : ∀ b ∈ fp, FpOk X pins (upd H1 P (.tbl (ps ++ mo))) b := fun b hb => ⟨by rw [upd_ne (fpP b hb)]; exact (fo b hb).1, (fo b hb).2⟩
    have stN : tn 0 (h'.push gob) := T.keep _ _ _ st fun b hb o e => keep5 b o (stay b o (fpP b hb) e)
    have hAh : (X.A.in1.in1.over (gcode elt iter x px sc gp it ge) []).handled = none := hr.hd
    have hAf : (X.A.in1.in1.over (gcode elt iter x px sc gp it ge) []).frames = some (ge :: X.stack) := by
      show pushEnvs (gcode elt iter x px sc gp it ge).envs (pushEnvs [] X.A.frames) = _
      rw [J1.ok.frames]
      rfl
    have IG0 := inv_gx (A := X.A.in1.in1.over (gcode elt iter x px sc gp it ge) []) (sc := sc) (x := x) (fp := fp) (code := code) (h5 := h'.push gob)
      (g5 := s2.gens.push (.fresh (.compStart (.GeneratorExp elt [⟨.Name x px, iter, [], 0⟩] sc gp) 0 (.ref it) .none ge))) (t5 := tk + 1 + 1 + 1) J2 S.kind S.cell nf (hn'.push gob) keep5 (AllBare.push J1.bare rfl) hAh (by rw [hAf, ← hge]) (fun b hb => ⟨foN b hb, fpl b hb⟩)
    rw [hge] at IG0
    generalize hXg : gxOf X (X.A.in1.in1.over (gcode elt iter x px sc gp it ge) []) { s2 with heap := hN, toks := tk } (upd H1 P (.tbl (ps ++ mo))) ge x fp = Xg at IG0
    have gne : ∀ b ∈ fp, h'.objs.size ≠ b := fun b hb => Nat.ne_of_gt (Nat.lt_trans (fpl b hb) (by omega))
    have fpXg : ∀ b ∈ fp, FpOk Xg [(h'.objs.size, gob)] (upd H1 P (.tbl (ps ++ mo))) b := fun b hb => by
      rw [← hXg]
      refine ⟨(foN b hb).1, ?_, fun z => ?_, .inl hb, fun y cc e => ?_, fun p hp => ?_⟩
      · show b ≠ ge.locals
        rw [← hge]
        exact Nat.ne_of_lt (fpl b hb)
      · obtain ⟨_, q1, q2, _⟩ := foN b hb
        rcases List.mem_cons.mp (J2.stkSub b z) with q | q
        · exact q1 q
        · exact q2 q
      · have e' : ge.cells.lookup y = some cc := e
        rw [← hge] at e'
        cases e'
      · have hp' : p ∈ [(h'.objs.size, gob)] := hp
        rw [List.mem_singleton.mp hp']
        exact gne b hb
    have IG : Inv Xg [(h'.objs.size, gob)] [none] (upd H1 P (.tbl (ps ++ mo))) { s2 with heap := h'.push gob, gens := s2.gens.push (.fresh (.compStart (.GeneratorExp elt [⟨.Name x px, iter, [], 0⟩] sc gp) 0 (.ref it) .none ge)), toks := tk + 1 + 1 + 1 } := by
      refine IG0.pins_of fun p hp => ?_
      rw [List.mem_singleton.mp hp]
      have big : hN.objs.size < h'.objs.size := by omega
      refine ⟨atG, J2.hok.fresh (Nat.le_of_lt big), ?_, ?_, fun v e => ?_⟩
      · rw [← hXg]
        show h'.objs.size ≠ ge.locals
        rw [← hge]
        exact Nat.ne_of_gt big
      · rw [← hXg]
        intro z
        rcases List.mem_cons.mp (J2.stkSub _ z) with q | q
        · have l := J2.lt
          rw [← q] at l
          exact absurd (Nat.lt_trans big l) (Nat.lt_irrefl _)
        · exact J2.nofs (Nat.le_of_lt big) q
      · obtain ⟨nm, qn, e2⟩ := gd
        have e' : gob.data = .cell v := e
        rw [e2] at e'
        cases e'
    have back : ∀ (b : Bool) (s' : Shared), GEd Xg h'.objs.size gob (Q (.bl b)) s' → EP X pins σ Q (.bool b) s' := fun b s' ⟨H', y, K, q⟩ => by
      rw [← hXg] at K
      exact ⟨.bl b, H', J2.call' (ch := fp) K.os K.base K.hok K.bare (fun c hc => ⟨(foN c hc).2.2.2.1, (foN c hc).2.1, (foN c hc).2.2.2.2.1, (foN c hc).2.2.2.2.2⟩), rfl, q⟩
    have loopS := seg_gloop (X := X) (A := X.A.in1.in1) (sG := { s2 with heap := hN, toks := tk }) (HG := upd H1 P (.tbl (ps ++ mo))) (ge := ge) (fp := fp) (tn := tn) (ga := h'.objs.size) (go := gob) (g := s2.gens.size) (W := W) (Qf := Q (.bl false)) (Qt := Q (.bl true))
      (gp := gp) (sc := sc) (elt := elt) (iter := iter) (n0 := n0) (te := te) T (by rw [← hge]; exact S.loc) (by rw [← hge]; exact S.co) (by
        rw [← hge]
        refine hel _ _ _ _ _ _ ⟨hr.hd, ?_, ?_⟩
        · have := hr.dp
          show X.A.depth + 0 + 1 + 3 * k + 5 < _
          omega
        · have := hr.un
          show X.A.units + 1 + 1 + 0 + 3 + 16 * k + 200 < _
          omega) hW
    rw [hXg] at loopS
    have GI0 : GIn Xg fp tn h'.objs.size gob s2.gens.size W 0 { s2 with heap := h'.push gob, gens := s2.gens.push (.fresh (.compStart (.GeneratorExp elt [⟨.Name x px, iter, [], 0⟩] sc gp) 0 (.ref it) .none ge)), toks := tk + 1 + 1 + 1 } :=
      ⟨⟨_, _, IG, stN, fpXg, w0⟩, by show s2.gens.size + 1 ≤ (s2.gens.push _).size; rw [Array.size_push]; exact Nat.le_refl _⟩
    refine call_function_tree F.kind_all F.plain_all F.entry_all (F.args_all1 _) ?_
    unfold Builtin.«all»
    refine wpAny_bind (m := oneArg "all" _) (wpAny_pure ?_)
    refine wpAny_bind (wpAny_pyIter_gen ⟨gob, _, _, atG, gc, gd.choose_spec.choose_spec, gs⟩ ?_)
    refine wpAny_pure ⟨plainId_quiet F.plain_all_loop _, all_loopX (X := X) (A := X.A) (R := fun r s' => match r with | .ok (.ret v) => EP X pins σ Q v s' | .ok _ => False | .error e => X.xe e s') (Xg := Xg) (Qf := Q (.bl false)) (Qt := Q (.bl true)) (W := W) (fp := fp) (tn := tn) (n0 := n0) gc gd gs hr.hd (Nat.lt_of_le_of_lt (by show X.A.depth ≤ X.A.depth + 3 * (k + 2) + 5; omega) hr.dp) (fun s' q => back true s' q) (fun s' q => back false s' q) n0 0 _ (Nat.sub_zero _) ⟨GI0, _, Array.getElem?_push_size .., fun s'' gi => ⟨rfl, ?_⟩⟩⟩
    have loop := loopS n0 0 s'' s'' (Nat.sub_zero _) gi
    obtain ⟨_, _, _, sti, _⟩ := gi.ex
    show Seg _ X.A.in1.in1 _ _ _ s'' _ ((compStart (.GeneratorExp elt [⟨.Name x px, iter, [], 0⟩] sc gp) 0 (.ref it) .none ge).onRaise (leaving ge)) [] s''
    unfold compStart
    rw [Sem.onRaise_eq_wrap]
    show Seg _ X.A.in1.in1 _ _ _ s'' _ ((ask >>= _).wrap _ _ _ _) [] s''
    refine seg_bind_wrap (wpAny_askSetting ?_)
    split
    · exact seg_again rfl loop
    · first
        | exact seg_bind_wrap (wpAny_rule (seg_bind_wrap (wpAny_standAt (seg_bind_wrap (T.self _ 0 _ _ _ sti (seg_again rfl loop))))))
        | (refine seg_bind_wrap (wpAny_rule ?_); show Seg _ X.A.in1.in1 _ _ _ s'' _ ((standAt iter.pos >>= _).wrap _ _ _ _) [] s''; exact seg_bind_wrap (wpAny_standAt (seg_bind_wrap (T.self _ 0 _ _ _ sti (seg_again rfl loop)))))
  cases am : codeAmong gp ps.toList with
  | none =>
    refine wpAny_genexprCodeX hco (head.code gP tok) (head.tab gP) am fun c' hN tk ext hge hlt hc' _ tab' _ => ?_
    obtain ⟨o1, vs, f1, tf, fl, tg, inF, tx, tt, op, _, _, _, _, _, _, _, _, _, tr, _⟩ := hc'
    exact go _ hN tk _ ext tab'.2 ⟨_, rfl⟩ tr
  | some cv =>
    refine wpAny_genexprCode_hit hco (head.code gP tok) am ?_
    exact go cv s2.heap s2.toks ps (Heap.ExtBut.refl _ _) gP ⟨#[], by simp⟩ tok
end
end Ey
set_option maxHeartbeats 4000000
namespace Ey
open PySem PySem.Spec PyProof.Rows L2 GxR PySem.SeqAt
open AutoSeq1 (wpAny_loadPart')
open MeetsSeq MeetsSeq2 MeetsSeq3
/-! ### a dict beside a text -/
theorem dict_eq_declines_str (l : Addr) (es : Array DictEntry) (n : Nat) (dd : Option Addr) (sl : Array (Option Value)) (b : Str) (u : Tok) :
    Meets (Builtin.«dict.__eq__» ⟨[.ref l, .str b u], []⟩) (fun _ R s => s.heap.get? l = some { cls := .type "dict", dict := dd, data := .dict es n, slots := sl } ∧ R (.ok (.ret .notImplemented)) s) :=
  .of_wp fun prog w A R s h => by obtain ⟨hp, g, d, tk, os⟩ := s; obtain ⟨hl, h⟩ := h; have f1 := F.sub_str_dict; wp_walk using wpAny_loadPart' hl, wpAny_load hl; exact ⟨_, rfl, h⟩
theorem dict_ne_declines_str (l : Addr) (es : Array DictEntry) (n : Nat) (dd : Option Addr) (sl : Array (Option Value)) (b : Str) (u : Tok) :
    Meets (Builtin.«dict.__ne__» ⟨[.ref l, .str b u], []⟩) (fun _ R s => s.heap.get? l = some { cls := .type "dict", dict := dd, data := .dict es n, slots := sl } ∧ R (.ok (.ret .notImplemented)) s) :=
  .of_wp fun prog w A R s h => by obtain ⟨hp, g, d, tk, os⟩ := s; obtain ⟨hl, h⟩ := h; have f1 := F.sub_str_dict; wp_walk using wpAny_loadPart' hl, wpAny_load hl; exact ⟨_, rfl, h⟩
theorem str_eq_declines_dict (b : Str) (u : Tok) (l : Addr) (es : Array DictEntry) (n : Nat) (dd : Option Addr) (sl : Array (Option Value)) :
    Meets (Builtin.«str.__eq__» ⟨[.str b u, .ref l], []⟩) (fun _ R s => s.heap.get? l = some { cls := .type "dict", dict := dd, data := .dict es n, slots := sl } ∧ R (.ok (.ret .notImplemented)) s) :=
  .of_wp fun prog w A R s h => by obtain ⟨hp, g, d, tk, os⟩ := s; obtain ⟨hl, h⟩ := h; wp_walk using wpAny_loadPart' hl, wpAny_load hl; exact ⟨_, rfl, h⟩
theorem str_ne_declines_dict (b : Str) (u : Tok) (l : Addr) (es : Array DictEntry) (n : Nat) (dd : Option Addr) (sl : Array (Option Value)) :
    Meets (Builtin.«str.__ne__» ⟨[.str b u, .ref l], []⟩) (fun _ R s => s.heap.get? l = some { cls := .type "dict", dict := dd, data := .dict es n, slots := sl } ∧ R (.ok (.ret .notImplemented)) s) :=
  .of_wp fun prog w A R s h => by obtain ⟨hp, g, d, tk, os⟩ := s; obtain ⟨hl, h⟩ := h; wp_walk using wpAny_loadPart' hl, wpAny_load hl; exact ⟨_, rfl, h⟩
end Ey
set_option maxHeartbeats 4000000
namespace Ey
open PySem PySem.Spec PyProof.Rows L2
/-! ### data: what is a tree, what may be told -/
def isTagD : PyData → Bool
  | .str g => isTag g
  | .none | .bool _ | .int _ | .list _ | .tuple _ | .dict _ => false
def tri : List PyData → List Bool → Bool
  | [x, _, _], [_, b, c] => isTagD x && (b && c)
  | _, _ => false
mutual
def isT : PyData → Bool
  | .none => true
  | .tuple ds => tri ds (isTs ds)
  | .bool _ | .int _ | .str _ | .list _ | .dict _ => false
def isTs : List PyData → List Bool
  | [] => []
  | x :: r => isT x :: isTs r
end
mutual
def fit : PyData → Bool
  | .none | .bool _ => true
  | .int i => decide (i.natAbs < 10 ^ 40)
  | .str x => x.cps.toList.all fun c => decide (c < 1000)
  | .list ds | .tuple ds => fitAll ds
  | .dict kvs => fitKv kvs
def fitAll : List PyData → Bool
  | [] => true
  | x :: r => fit x && fitAll r
def fitKv : List (PyData × PyData) → Bool
  | [] => true
  | (k, v) :: r => (fit k && fit v) && fitKv r
end
mutual
def wd : PyData → Nat
  | .none => 4
  | .bool _ => 5
  | .int _ => 45
  | .str x => 10 * x.length + 2
  | .list ds | .tuple ds => wdAll ds + 3
  | .dict kvs => wdKv kvs + 3
def wdAll : List PyData → Nat
  | [] => 0
  | x :: r => wd x + 2 + wdAll r
def wdKv : List (PyData × PyData) → Nat
  | [] => 0
  | (k, v) :: r => wd k + wd v + 4 + wdKv r
end
theorem nat_len {n : Nat} (h : n < 10 ^ 40) : (Str.ofString (toString (n : Int))).length ≤ 40 := by
  rw [ofString_len]
  show (Nat.repr n).length ≤ 40
  have e : (Nat.repr n).length = (Nat.toDigits 10 n).length := by
    unfold Nat.repr
    simp
  rw [e]
  exact digits10_le (by decide) h
theorem int_ok (i : Int) (h : i.natAbs < 10 ^ 40) : i.natAbs.log2 < 1920 ∧ (PyData.shown (.int i)).length ≤ 45 := by
  refine ⟨?_, ?_⟩
  · by_cases h0 : i.natAbs = 0
    · rw [h0]
      decide
    · rw [Nat.log2_lt h0]
      exact Nat.lt_trans h (by decide +kernel)
  · show (Str.ofString (toString i)).length ≤ 45
    by_cases hn : i < 0
    · rw [len_text_neg hn]
      obtain ⟨n, e⟩ : ∃ n : Nat, 0 - i = (n : Int) := ⟨(0 - i).toNat, by omega⟩
      rw [e]
      have := nat_len (n := n) (by omega)
      omega
    · obtain ⟨n, rfl⟩ : ∃ n : Nat, i = (n : Int) := ⟨i.toNat, by omega⟩
      have := nat_len (n := n) (by simpa using h)
      omega
theorem lenD (ts : List Str) : (listText ts).length ≤ piled ts + 2 := by
  have q1 : ("[" : Str).length = 1 := by decide +kernel
  have q2 : ("]" : Str).length = 1 := by decide +kernel
  unfold listText
  rw [len_app, q2]
  cases ts with
  | nil =>
    show (textFrom 0 "[" []).length + 1 ≤ _
    unfold textFrom
    rw [q1]
    omega
  | cons t r =>
    show (textFrom 1 (("[" : Str) ++ Str.ofString "" ++ t) r).length + 1 ≤ piled (t :: r) + 2
    have e : (Str.ofString "").length = 0 := by decide +kernel
    rw [textFrom_length_pos r 1 _ (by decide), len_app, len_app, q1, e, piled_cons]
    omega
theorem joinD (ts : List Str) : (Str.join ", " ts).length ≤ piled ts := by
  cases ts with
  | nil => exact Nat.zero_le _
  | cons t r =>
    have := join_length_add (t :: r) (by simp)
    omega
theorem lenT (ts : List Str) : (tupleText ts).length ≤ piled ts + 3 := by
  have q1 : ("(" : Str).length = 1 := by decide +kernel
  have q2 : (Str.ofString ",)").length = 2 := by decide +kernel
  have q3 : (Str.ofString ")").length = 1 := by decide +kernel
  have q : (Str.ofString (if (ts.length == 1) = true then ",)" else ")")).length ≤ 2 := by
    split
    · rw [q2]
      exact Nat.le_refl _
    · rw [q3]
      decide
  have := joinD ts
  unfold tupleText
  rw [len_app, len_app, q1]
  omega
theorem lenK (ts : List Str) : (dictText ts).length ≤ piled ts + 3 := by
  have q1 : ("{" : Str).length = 1 := by decide +kernel
  have q2 : ("}" : Str).length = 1 := by decide +kernel
  have := joinD ts
  unfold dictText
  rw [len_app, len_app, q1, q2]
  omega
mutual
theorem fit_told : ∀ d : PyData, fit d = true → d.showable = true ∧ d.shown.length ≤ wd d
  | .none, _ => ⟨rfl, by show ("None" : Str).length ≤ 4; decide +kernel⟩
  | .bool b, _ => ⟨rfl, by
      show (PyData.shown (.bool b)).length ≤ 5
      cases b <;> decide +kernel⟩
  | .int i, h => by
    have a := int_ok i (of_decide_eq_true h)
    exact ⟨decide_eq_true a.1, a.2⟩
  | .str x, h => by
    refine ⟨rfl, StrLaws.reprText_len x fun c hc => ?_⟩
    have h2 : (x.cps.toList.all fun c => decide (c < 1000)) = true := h
    exact Nat.lt_of_lt_of_le (of_decide_eq_true (List.all_eq_true.mp h2 c hc)) (by decide)
  | .list ds, h => by
    obtain ⟨a, b⟩ := fit_tolds ds h
    exact ⟨a, Nat.le_trans (lenD _) (by show piled (PyData.shownAll ds) + 2 ≤ wdAll ds + 3; omega)⟩
  | .tuple ds, h => by
    obtain ⟨a, b⟩ := fit_tolds ds h
    exact ⟨a, Nat.le_trans (lenT _) (by show piled (PyData.shownAll ds) + 3 ≤ wdAll ds + 3; omega)⟩
  | .dict kvs, h => by
    obtain ⟨a, b⟩ := fit_toldKv kvs h
    exact ⟨a, Nat.le_trans (lenK _) (by show piled (PyData.shownKv kvs) + 3 ≤ wdKv kvs + 3; omega)⟩
theorem fit_tolds : ∀ ds : List PyData, fitAll ds = true → PyData.showableAll ds = true ∧ piled (PyData.shownAll ds) ≤ wdAll ds
  | [], _ => ⟨rfl, Nat.le_refl _⟩
  | x :: r, h => by
    have h2 : (fit x && fitAll r) = true := h
    rw [Bool.and_eq_true] at h2
    obtain ⟨a, b⟩ := fit_told x h2.1
    obtain ⟨c, d⟩ := fit_tolds r h2.2
    refine ⟨?_, ?_⟩
    · show (x.showable && PyData.showableAll r) = true
      rw [a, c]
      rfl
    · show piled (x.shown :: PyData.shownAll r) ≤ wd x + 2 + wdAll r
      rw [piled_cons]
      omega
theorem fit_toldKv : ∀ kvs : List (PyData × PyData), fitKv kvs = true → PyData.showableKv kvs = true ∧ piled (PyData.shownKv kvs) ≤ wdKv kvs
  | [], _ => ⟨rfl, Nat.le_refl _⟩
  | (k, v) :: r, h => by
    have h2 : ((fit k && fit v) && fitKv r) = true := h
    rw [Bool.and_eq_true, Bool.and_eq_true] at h2
    obtain ⟨a, b⟩ := fit_told k h2.1.1
    obtain ⟨a2, b2⟩ := fit_told v h2.1.2
    obtain ⟨c, d⟩ := fit_toldKv r h2.2
    refine ⟨?_, ?_⟩
    · show (k.showable && v.showable && PyData.showableKv r) = true
      rw [a, a2, c]
      rfl
    · show piled ((k.shown ++ ": " ++ v.shown) :: PyData.shownKv r) ≤ wd k + wd v + 4 + wdKv r
      have q : (Str.ofString ": ").length = 2 := by decide +kernel
      rw [piled_cons, len_app, len_app, q]
      omega
end
/-! ### trees as data -/
theorem td_isT : ∀ t : Tr, t.ok → isT (td t) = true
  | .nil, _ => rfl
  | .nd g l r, h => by
    show (isTag g && (isT (td l) && isT (td r))) = true
    rw [h.1, td_isT l h.2.1, td_isT r h.2.2]
    rfl
theorem tag_low {g : Str} (h : isTag g = true) : ∀ c ∈ g.cps.toList, c < 1000 := fun c hc => by
  simp only [isTag, Bool.and_eq_true, List.all_eq_true, decide_eq_true_eq] at h
  have := h.2 c hc
  simp only [abc, List.mem_cons, List.not_mem_nil, or_false] at this
  omega
theorem td_fit : ∀ t : Tr, t.ok → fit (td t) = true
  | .nil, _ => rfl
  | .nd g l r, h => by
    have a : (g.cps.toList.all fun c => decide (c < 1000)) = true := List.all_eq_true.mpr fun c hc => decide_eq_true (tag_low h.1 c hc)
    show ((g.cps.toList.all fun c => decide (c < 1000)) && (fit (td l) && (fit (td r) && true))) = true
    rw [a, td_fit l h.2.1, td_fit r h.2.2]
    rfl
theorem td_wd : ∀ t : Tr, t.ok → wd (td t) ≤ 100 * t.sz + 4
  | .nil, _ => Nat.le_refl _
  | .nd g l r, h => by
    have a := td_wd l h.2.1
    have b := td_wd r h.2.2
    have c := tag_len h.1
    show (10 * g.length + 2) + 2 + (wd (td l) + 2 + (wd (td r) + 2 + 0)) + 3 ≤ 100 * (l.sz + r.sz + 1) + 4
    omega
theorem sz_wd : ∀ t : Tr, t.sz ≤ wd (td t)
  | .nil => Nat.zero_le _
  | .nd g l r => by
    have a := sz_wd l
    have b := sz_wd r
    show l.sz + r.sz + 1 ≤ (10 * g.length + 2) + 2 + (wd (td l) + 2 + (wd (td r) + 2 + 0)) + 3
    omega
theorem ht_depth : ∀ t : Tr, t.ht ≤ (td t).depth
  | .nil => Nat.le_refl _
  | .nd g l r => by
    have a := ht_depth l
    have b := ht_depth r
    show max l.ht r.ht + 1 ≤ max 0 (max (td l).depth (max (td r).depth 0)) + 1
    omega
mutual
theorem isT_td : ∀ d : PyData, isT d = true → ∃ t : Tr, t.ok ∧ td t = d
  | .none, _ => ⟨.nil, trivial, rfl⟩
  | .bool _, h => by cases h
  | .int _, h => by cases h
  | .str _, h => by cases h
  | .list _, h => by cases h
  | .dict _, h => by cases h
  | .tuple ds, h => isTs_td ds h
theorem isTs_td : ∀ ds : List PyData, tri ds (isTs ds) = true → ∃ t : Tr, t.ok ∧ td t = .tuple ds
  | [], h => by cases h
  | [_], h => by cases h
  | [_, _], h => by cases h
  | _ :: _ :: _ :: _ :: _, h => by cases h
  | [x, a, b], h => by
    have h2 : (isTagD x && (isT a && isT b)) = true := h
    rw [Bool.and_eq_true, Bool.and_eq_true] at h2
    obtain ⟨l, ol, el⟩ := isT_td a h2.2.1
    obtain ⟨r, or', er⟩ := isT_td b h2.2.2
    cases x with
    | str g => exact ⟨.nd g l r, ⟨h2.1, ol, or'⟩, by rw [td, el, er]⟩
    | none => cases h2.1
    | bool _ => cases h2.1
    | int _ => cases h2.1
    | list _ => cases h2.1
    | tuple _ => cases h2.1
    | dict _ => cases h2.1
end
/-! ### data in the heap, none of its lists and dicts at ms -/
def kD : Key → PyData
  | .inl i => .int i
  | .inr x => .str x
mutual
inductive An (ms : List Addr) (H : Hp) : V → PyData → Prop
  | non : An ms H .non .none
  | bl (b : Bool) : An ms H (.bl b) (.bool b)
  | int (i : Int) : An ms H (.int i) (.int i)
  | str (x : Str) : An ms H (.str x) (.str x)
  | lst {a : Addr} {xs : List V} {ds : List PyData} : H a = some (.lst xs) → a ∉ ms → AnAll ms H xs ds → An ms H (.ref a) (.list ds)
  | tup {a : Addr} {xs : List V} {ds : List PyData} : H a = some (.tup xs) → AnAll ms H xs ds → An ms H (.ref a) (.tuple ds)
  | dct {a : Addr} {kvs : List (Key × V)} {ds : List (PyData × PyData)} : H a = some (.dK kvs) → a ∉ ms → AnKv ms H kvs ds → An ms H (.ref a) (.dict ds)
inductive AnAll (ms : List Addr) (H : Hp) : List V → List PyData → Prop
  | nil : AnAll ms H [] []
  | cons {v : V} {vs : List V} {d : PyData} {ds : List PyData} : An ms H v d → AnAll ms H vs ds → AnAll ms H (v :: vs) (d :: ds)
inductive AnKv (ms : List Addr) (H : Hp) : List (Key × V) → List (PyData × PyData) → Prop
  | nil : AnKv ms H [] []
  | cons {k : Key} {v : V} {kvs : List (Key × V)} {d : PyData} {ds : List (PyData × PyData)} : An ms H v d → AnKv ms H kvs ds → AnKv ms H ((k, v) :: kvs) ((kD k, d) :: ds)
end
section
variable {ms ms' : List Addr} {H H1 : Hp}
mutual
theorem An.kp (k : Kp ms' H H1) (hs : ∀ x ∈ ms', x ∈ ms) : ∀ {v : V} (d : PyData), An ms H v d → An ms H1 v d
  | _, .none, h => by cases h; exact .non
  | _, .bool b, h => by cases h; exact .bl b
  | _, .int i, h => by cases h; exact .int i
  | _, .str x, h => by cases h; exact .str x
  | _, .list ds, h => by
    cases h with
    | lst e n a => exact .lst (k.at_ _ _ e fun q => n (hs _ q)) n (AnAll.kp k hs ds a)
  | _, .tuple ds, h => by
    cases h with
    | tup e a => exact .tup (k.tup _ _ e) (AnAll.kp k hs ds a)
  | _, .dict ds, h => by
    cases h with
    | dct e n a => exact .dct (k.at_ _ _ e fun q => n (hs _ q)) n (AnKv.kp k hs ds a)
theorem AnAll.kp (k : Kp ms' H H1) (hs : ∀ x ∈ ms', x ∈ ms) : ∀ {vs : List V} (ds : List PyData), AnAll ms H vs ds → AnAll ms H1 vs ds
  | _, [], h => by cases h; exact .nil
  | _, d :: r, h => by
    cases h with
    | cons a b => exact .cons (An.kp k hs d a) (AnAll.kp k hs r b)
theorem AnKv.kp (k : Kp ms' H H1) (hs : ∀ x ∈ ms', x ∈ ms) : ∀ {vs : List (Key × V)} (ds : List (PyData × PyData)), AnKv ms H vs ds → AnKv ms H1 vs ds
  | _, [], h => by cases h; exact .nil
  | _, (y, d) :: r, h => by
    cases h with
    | cons a b => exact .cons (An.kp k hs d a) (AnKv.kp k hs r b)
end
theorem TreeAt.an {v : V} {t : Tr} (h : TreeAt H v t) : An ms H v (td t) := by
  induction h with
  | nil => exact .non
  | nd e _ _ ih1 ih2 => exact .tup e (.cons (.str _) (.cons ih1 (.cons ih2 .nil)))
theorem An.tree : ∀ (t : Tr) {v : V}, An ms H v (td t) → TreeAt H v t
  | .nil, _, h => by cases h; exact .nil
  | .nd g l r, _, h => by
    cases h with
    | tup e a =>
      cases a with
      | cons a1 a =>
        cases a1
        cases a with
        | cons a2 a =>
          cases a with
          | cons a3 a =>
            cases a
            exact .nd e (An.tree l a2) (An.tree r a3)
theorem AnAll.append {vs ws : List V} {ds es : List PyData} (h : AnAll ms H vs ds) (g : AnAll ms H ws es) : AnAll ms H (vs ++ ws) (ds ++ es) := by
  induction ds generalizing vs with
  | nil => cases h; exact g
  | cons d r ih =>
    cases h with
    | cons a b => exact .cons a (ih b)
theorem AnAll.length {vs : List V} {ds : List PyData} (h : AnAll ms H vs ds) : vs.length = ds.length := by
  induction ds generalizing vs with
  | nil => cases h; rfl
  | cons d r ih =>
    cases h with
    | cons a b => rw [List.length_cons, List.length_cons, ih b]
theorem AnAll.take {vs : List V} {ds : List PyData} (h : AnAll ms H vs ds) (n : Nat) : AnAll ms H (vs.take n) (ds.take n) := by
  induction ds generalizing vs n with
  | nil =>
    cases h
    rw [List.take_nil, List.take_nil]
    exact .nil
  | cons d r ih =>
    cases h with
    | cons a b =>
      cases n with
      | zero => exact .nil
      | succ n => exact .cons a (ih b n)
theorem AnAll.drop {vs : List V} {ds : List PyData} (h : AnAll ms H vs ds) (n : Nat) : AnAll ms H (vs.drop n) (ds.drop n) := by
  induction ds generalizing vs n with
  | nil =>
    cases h
    rw [List.drop_nil, List.drop_nil]
    exact .nil
  | cons d r ih =>
    cases h with
    | cons a b =>
      cases n with
      | zero => exact .cons a b
      | succ n => exact ih b n
theorem AnAll.rev {vs : List V} {ds : List PyData} (h : AnAll ms H vs ds) : AnAll ms H vs.reverse ds.reverse := by
  induction ds generalizing vs with
  | nil => cases h; exact .nil
  | cons d r ih =>
    cases h with
    | cons a b =>
      rw [List.reverse_cons, List.reverse_cons]
      exact (ih b).append (.cons a .nil)
theorem AnAll.get {vs : List V} {ds : List PyData} (h : AnAll ms H vs ds) {i : Nat} {v : V} (e : vs[i]? = some v) : ∃ d, ds[i]? = some d ∧ An ms H v d := by
  induction ds generalizing vs i with
  | nil => cases h; cases e
  | cons d r ih =>
    cases h with
    | cons a b =>
      cases i with
      | zero =>
        cases e
        exact ⟨d, rfl, a⟩
      | succ i => exact ih b e
/-- all at ms is tracked -/
def Has (ms : List Addr) (H : Hp) : Prop := ∀ b ∈ ms, H b ≠ none
theorem Has.fresh {p : Addr} (h : Has ms H) (n : H p = none) : p ∉ ms := fun q => h p q n
theorem Has.new {p : Addr} {o : HO} (h : Has ms H) : Has ms (upd H p o) := fun b q => by
  by_cases e : b = p
  · rw [e, upd_same]
    exact fun z => nomatch z
  · rw [upd_ne e]
    exact h b q
theorem Has.kp (h : Has ms H) (k : Kp ms' H H1) (hs : ∀ b ∈ ms', H1 b ≠ none) : Has ms H1 := fun b q => by
  by_cases m : b ∈ ms'
  · exact hs b m
  · cases e : H b with
    | none => exact absurd e (h b q)
    | some o =>
      rw [k.at_ b o e m]
      exact fun z => nomatch z
end
section
variable {X : Cx} {pins : List (Addr × Obj)} {σ : L2.St} {H : Hp} {s : Shared} {ms : List Addr}
theorem low (I : Inv X pins σ H s) (hs : ∃ mm, X.base.Ns sysModules mm) {a : Addr} {o : HO} (e : H a = some o) : a ≠ sysModules := by
  rintro rfl
  obtain ⟨mm, ob, es, ep, g, _⟩ := hs
  rw [(I.bs _ _ g).2] at e
  cases e
theorem key_reads (k : Key) (y : Value) (h : keyIs k y = true) : Reads s.heap y (kD k) [] := by
  rcases keyIs_shape h with ⟨i, t, rfl, rfl⟩ | ⟨x, t, rfl, rfl⟩
  · exact .int i t
  · exact .str x t
mutual
theorem An.reads (I : Inv X pins σ H s) (hs : ∃ mm, X.base.Ns sysModules mm) : ∀ {v : V} {u : Value} (d : PyData), An ms H v d → RelV v u → ∃ as, Reads s.heap u d as ∧ sysModules ∉ as
  | _, _, .none, h, r => by
    cases h
    cases r
    exact ⟨_, .none, List.not_mem_nil⟩
  | _, _, .bool b, h, r => by
    cases h
    cases r
    exact ⟨_, .bool b, List.not_mem_nil⟩
  | _, _, .int i, h, r => by
    cases h
    obtain ⟨t, rfl⟩ := r
    exact ⟨_, .int i t, List.not_mem_nil⟩
  | _, _, .str x, h, r => by
    cases h
    obtain ⟨t, rfl⟩ := r
    exact ⟨_, .str x t, List.not_mem_nil⟩
  | _, _, .list ds, h, r => by
    cases h with
    | @lst a xs _ e n hd =>
      cases r
      obtain ⟨_, its, m, rv, at0⟩ := (show ObjOk X.prog X.w H s.heap a (.lst xs) from I.hok a _ e)
      obtain ⟨as, q, nq⟩ := AnAll.reads I hs ds hd rv
      refine ⟨_, .list at0 rfl rfl q, fun z => ?_⟩
      rcases List.mem_cons.mp z with z | z
      · exact low I hs e z.symm
      · exact nq z
  | _, _, .tuple ds, h, r => by
    cases h with
    | @tup a xs _ e hd =>
      cases r
      obtain ⟨_, its, rv, o, h1, h2, n, h3⟩ := (show ObjOk X.prog X.w H s.heap a (.tup xs) from I.hok a _ e)
      obtain ⟨as, q, nq⟩ := AnAll.reads I hs ds hd rv
      exact ⟨_, .tuple h1 h2 h3 q, nq⟩
  | _, _, .dict ds, h, r => by
    cases h with
    | @dct a kvs _ e n hd =>
      cases r
      obtain ⟨_, lo, vs, rk, dd⟩ := (show ObjOk X.prog X.w H s.heap a (.dK kvs) from I.hok a _ e)
      obtain ⟨as, q, nq⟩ := AnKv.reads I hs ds hd rk
      refine ⟨_, PyProof.V.reads_dictOf (fun k y hk => key_reads k y hk) dd q, fun z => ?_⟩
      rcases List.mem_cons.mp z with z | z
      · exact low I hs e z.symm
      · exact nq z
theorem AnAll.reads (I : Inv X pins σ H s) (hs : ∃ mm, X.base.Ns sysModules mm) : ∀ {vs : List V} {us : List Value} (ds : List PyData), AnAll ms H vs ds → Vals vs us → ∃ as, ReadsAll s.heap us ds as ∧ sysModules ∉ as
  | _, _, [], h, r => by
    cases h
    cases r
    exact ⟨_, .nil, List.not_mem_nil⟩
  | _, _, d :: ds, h, r => by
    cases h with
    | cons h1 h2 =>
      cases r with
      | cons r1 r2 =>
        obtain ⟨as, q1, n1⟩ := An.reads I hs d h1 r1
        obtain ⟨bs, q2, n2⟩ := AnAll.reads I hs ds h2 r2
        exact ⟨_, .cons q1 q2, fun z => (List.mem_append.mp z).elim n1 n2⟩
theorem AnKv.reads (I : Inv X pins σ H s) (hs : ∃ mm, X.base.Ns sysModules mm) : ∀ {kvs : List (Key × V)} {vs : List (Key × Value)} (ds : List (PyData × PyData)), AnKv ms H kvs ds → KV kvs vs → ∃ as, PyProof.V.PairsRead s.heap kD vs ds as ∧ sysModules ∉ as
  | _, _, [], h, r => by
    cases h
    cases r
    exact ⟨_, .nil, List.not_mem_nil⟩
  | _, _, (y, d) :: ds, h, r => by
    cases h with
    | @cons k v kvs _ _ h1 h2 =>
      cases r with
      | @cons _ b _ _ r1 r2 =>
        obtain ⟨k2, u⟩ := b
        obtain ⟨e, r1⟩ := r1
        have e' : k = k2 := e
        subst e'
        obtain ⟨as, q1, n1⟩ := An.reads I hs d h1 r1
        obtain ⟨bs, q2, n2⟩ := AnKv.reads I hs ds h2 r2
        exact ⟨_, .cons q1 q2, fun z => (List.mem_append.mp z).elim n1 n2⟩
end
/-- repr of data, dicts among it -/
def rReprA (ms : List Addr) : List V → Hp → VK → Prop := fun xs H Q =>
  ∃ v d, xs = [v] ∧ An ms H v d ∧ fit d = true ∧ d.depth ≤ 100 ∧ wd d ≤ 1000000 ∧ Q (.str d.shown) H
theorem cr_reprA {k : Nat} (hs : ∃ mm, X.base.Ns sysModules mm) (hg : X.A.guards = some []) (hr : Room k X.A) : CallR X (.builtin "repr") (rReprA ms) := by
  intro pins s σ H xs us Q I r h
  obtain ⟨v, d, rfl, hd, hf, hp, hz, q⟩ := h
  obtain ⟨u, rfl, ru⟩ := vals1 r
  obtain ⟨as, rd, ns⟩ := An.reads I hs d hd ru
  obtain ⟨sh, ln⟩ := fit_told d hf
  have z : d.shown.length ≤ sizeLine := Nat.le_trans ln (Nat.le_trans hz (by decide))
  have room : X.A.units + (d.depth + 1) < cLine := by
    have := hr.un
    omega
  have fin : ∀ (h' : Heap) (tk : Nat) (t : Tok), (∀ b o, s.heap.get? b = some o → h'.get? b = some o) → EP X pins σ Q (.str d.shown t) { s with heap := h', toks := tk } :=
    fun h' tk t hk => ⟨.str d.shown, H, I.kept hk, ⟨t, rfl⟩, q⟩
  cases rd with
  | none => exact PySem.P.repr_of_none (fin s.heap _ _ fun _ _ e => e)
  | bool b => exact PySem.P.repr_of_bool (fin s.heap _ _ fun _ _ e => e)
  | int i t => exact PySem.P.repr_of_int (of_decide_eq_true sh) (fin s.heap _ _ fun _ _ e => e)
  | str x t => exact PySem.P.repr_of_str (fin s.heap _ _ fun _ _ e => e) z
  | list a b c e => exact repr_of_reads' (.list a b c e) sh (fun _ => ns) hg room (fun _ _ e => e) (fun h' u tk hk => fin h' tk u hk) z
  | tuple a b c e => exact repr_of_reads' (.tuple a b c e) sh (fun _ => ns) hg room (fun _ _ e => e) (fun h' u tk hk => fin h' tk u hk) z
  | dict a b c e f => exact repr_of_reads' (.dict a b c e f) sh (fun _ => ns) hg room (fun _ _ e => e) (fun h' u tk hk => fin h' tk u hk) z
end
/-! ### kinds -/
def isTup : PyData → Bool
  | .tuple _ => true
  | .none | .bool _ | .int _ | .list _ | .str _ | .dict _ => false
def isStr : PyData → Bool
  | .str _ => true
  | .none | .bool _ | .int _ | .list _ | .tuple _ | .dict _ => false
theorem An.tupK {ms : List Addr} {K : PySem.W.Frag} {H : Hp} {v : V} {d : PyData} (h : An ms H v d) : ∃ t, TyX K H v t ∧ PySem.W.kitOne K t (.type "tuple") = some (isTup d) := by
  cases h with
  | non => exact ⟨_, .base .non, kit_ty (r := false) (by decide +kernel)⟩
  | bl b => exact ⟨_, .base (.bl b), kit_ty (r := false) (by decide +kernel)⟩
  | int i => exact ⟨_, .base (.int i), kit_ty (r := false) (by decide +kernel)⟩
  | str x => exact ⟨_, .base (.str x), kit_ty (r := false) (by decide +kernel)⟩
  | lst e => exact ⟨_, .base (.lst e), kit_ty (r := false) (by decide +kernel)⟩
  | tup e => exact ⟨_, .base (.tup e), kit_ty (r := true) (by decide +kernel)⟩
  | dct e => exact ⟨_, .base (.dK e), kit_ty (r := false) (by decide +kernel)⟩
theorem An.strK {ms : List Addr} {K : PySem.W.Frag} {H : Hp} {v : V} {d : PyData} (h : An ms H v d) : ∃ t, TyX K H v t ∧ PySem.W.kitOne K t (.type "str") = some (isStr d) := by
  cases h with
  | non => exact ⟨_, .base .non, kit_ty (r := false) (by decide +kernel)⟩
  | bl b => exact ⟨_, .base (.bl b), kit_ty (r := false) (by decide +kernel)⟩
  | int i => exact ⟨_, .base (.int i), kit_ty (r := false) (by decide +kernel)⟩
  | str x => exact ⟨_, .base (.str x), kit_ty (r := true) (by decide +kernel)⟩
  | lst e => exact ⟨_, .base (.lst e), kit_ty (r := false) (by decide +kernel)⟩
  | tup e => exact ⟨_, .base (.tup e), kit_ty (r := false) (by decide +kernel)⟩
  | dct e => exact ⟨_, .base (.dK e), kit_ty (r := false) (by decide +kernel)⟩
theorem An.noneK {ms : List Addr} {H : Hp} {v : V} {d : PyData} (h : An ms H v d) : v = .non ↔ d = .none := by
  cases h <;> simp
theorem isi_tup {ms : List Addr} {K : PySem.W.Frag} {H : Hp} {v : V} {d : PyData} {Q : VK} (h : An ms H v d) (q : Q (.bl (isTup d)) H) : rIsi K [v, .ty "tuple"] H Q := by
  obtain ⟨t, a, b⟩ := h.tupK (K := K)
  exact ⟨v, .ty "tuple", t, .type "tuple", _, rfl, .ty "tuple", a, b, q⟩
theorem isi_str {ms : List Addr} {K : PySem.W.Frag} {H : Hp} {v : V} {d : PyData} {Q : VK} (h : An ms H v d) (q : Q (.bl (isStr d)) H) : rIsi K [v, .ty "str"] H Q := by
  obtain ⟨t, a, b⟩ := h.strK (K := K)
  exact ⟨v, .ty "str", t, .type "str", _, rfl, .ty "str", a, b, q⟩
end Ey
set_option maxHeartbeats 4000000
namespace Ey
open PySem PySem.Spec PyProof.Rows L2 PySem.SeqAt
/-! ### any data beside a text -/
def isThe (t : Str) : PyData → Bool
  | .str g => decide (g = t)
  | .none | .bool _ | .int _ | .list _ | .tuple _ | .dict _ => false
section
variable {A : Around} {s : Shared}
theorem rcNe_dict_str {l : Addr} {o : Obj} {es : Array DictEntry} {n : Nat} (b : Str) (u : Tok) (ho : s.heap.get? l = some o) (hc : o.cls = .type "dict") (hd : o.data = .dict es n) (hu : A.units < cLine) : RcNeAt A s (.ref l) (.str b u) true := fun prog w E Q h => by
  obtain ⟨cls, dd, data, sl⟩ := o
  simp only at hc hd
  subst hc hd
  exact rc_ne_decline_or (k := false) ⟨_, ho, rfl⟩ (typeIs_str s b u) (by decide) F.sub_str_dict F.slot_dict_ne F.slot_str_ne_refl
    (fun _ hq => call_meets F.slot_dict_ne ⟨_, ho, rfl⟩ F.entry_dict_ne (F.args_dict_ne_2 _ _) (dict_ne_declines_str l es n dd sl b u) ⟨ho, hq⟩)
    (fun _ hq => call_meets F.slot_str_ne_refl (typeIs_str s b u) F.entry_str_ne (F.args_str_ne_2 _ _) (str_ne_declines_dict b u l es n dd sl) ⟨ho, hq⟩)
    (fun _ hq => wpAny_of_eq (rfl : isSame (.ref l) (.str b u) = pure false) hq) (.inr hu) h
theorem rc_str_dict {l : Addr} {o : Obj} {es : Array DictEntry} {n : Nat} (b : Str) (u : Tok) (ho : s.heap.get? l = some o) (hc : o.cls = .type "dict") (hd : o.data = .dict es n) (hu : A.units < cLine) : RcAt A s (.str b u) (.ref l) false := fun prog w E Q h => by
  obtain ⟨cls, dd, data, sl⟩ := o
  simp only at hc hd
  subst hc hd
  exact rc_eq_decline_or (k := false) (typeIs_str s b u) ⟨_, ho, rfl⟩ (by decide) F.sub_dict_str F.slot_str_eq F.slot_dict_eq_refl
    (fun _ hq => call_meets F.slot_str_eq (typeIs_str s b u) F.entry_str_eq (F.args_str_eq_2 _ _) (str_eq_declines_dict b u l es n dd sl) ⟨ho, hq⟩)
    (fun _ hq => call_meets F.slot_dict_eq_refl ⟨_, ho, rfl⟩ F.entry_dict_eq (F.args_dict_eq_2 _ _) (dict_eq_declines_str l es n dd sl b u) ⟨ho, hq⟩)
    (fun _ hq => wpAny_of_eq (rfl : isSame (.str b u) (.ref l) = pure false) hq) (.inr hu) h
theorem eq_str_dict {l : Addr} {o : Obj} {es : Array DictEntry} {n : Nat} (b : Str) (u : Tok) (ho : s.heap.get? l = some o) (hc : o.cls = .type "dict") (hd : o.data = .dict es n) (hu : A.units < cLine) : EqAt A s (.str b u) (.ref l) false := fun prog w E Q h => by
  unfold eqBool
  refine wpAny_holding ?_
  refine wpAny_ite_split (fun hab => absurd (eq_of_beq hab) nofun) (fun _ => ?_)
  exact wpAny_bind (rc_str_dict b u ho hc hd hu prog w E _ (wpAny_truthy_bool h))
end
section
variable {X : Cx} {pins : List (Addr × Obj)} {σ : L2.St} {H : Hp} {s : Shared}
theorem dict_obj {a : Addr} {kvs : List (Key × V)} (I : Inv X pins σ H s) (e : H a = some (.dK kvs)) : ∃ (o : Obj) (es : Array DictEntry) (n : Nat), s.heap.get? a = some o ∧ o.cls = .type "dict" ∧ o.data = .dict es n := by
  obtain ⟨_, _, vs, _, o, es, ep, h1, h2, h3, _⟩ := (show ObjOk X.prog X.w H s.heap a (.dK kvs) from I.hok a _ e)
  exact ⟨o, es, ep, h1, h2.1, h3⟩
theorem tup_obj {a : Addr} {xs : List V} (I : Inv X pins σ H s) (e : H a = some (.tup xs)) : ∃ its : List Value, Vals xs its ∧ s.heap.IsTuple a its.toArray := by
  obtain ⟨_, its, r, t⟩ := (show ObjOk X.prog X.w H s.heap a (.tup xs) from I.hok a _ e)
  exact ⟨its, r, t⟩
theorem lst_obj {a : Addr} {xs : List V} (I : Inv X pins σ H s) (e : H a = some (.lst xs)) : ∃ its : List Value, Vals xs its ∧ s.heap.IsList a its.toArray := by
  obtain ⟨_, its, n, r, t⟩ := (show ObjOk X.prog X.w H s.heap a (.lst xs) from I.hok a _ e)
  exact ⟨its, r, ⟨_, t, rfl, n, rfl⟩⟩
/-- x != t, t a text -/
def rNeAn : R2 := fun x y H Q => ∃ ms d t, An ms H x d ∧ y = .str t ∧ Q (.bl (!isThe t d)) H
theorem op_neAn (hu : X.A.units < cLine) : OpR X (compareOp .NotEq) rNeAn := by
  intro pins s σ H x y v u Q I rx ry h
  obtain ⟨ms, d, t, hx, rfl, q⟩ := h
  obtain ⟨tk, rfl⟩ := ry
  have fin : ∀ b : Bool, (!isThe t d) = b → EP X pins σ Q (.bool b) s := fun b e => ⟨.bl b, H, I, rfl, e ▸ q⟩
  show wpAny _ _ (richCompare .NotEq v (.str t tk)) _ _ s
  cases hx with
  | non =>
    cases rx
    exact RcNeAt.none_str t tk _ _ _ _ (fin _ rfl)
  | bl b =>
    cases rx
    exact RcNeAt.bool_str b t tk _ _ _ _ (fin _ rfl)
  | int i =>
    obtain ⟨t2, rfl⟩ := rx
    exact RcNeAt.int_str i t2 t tk _ _ _ _ (fin _ rfl)
  | str g =>
    obtain ⟨t2, rfl⟩ := rx
    refine RcNeAt.str_str g t2 t tk _ _ _ _ (fin _ ?_)
    show (!decide (g = t)) = !(g == t)
    by_cases e : g = t
    · subst e
      simp
    · simp [e]
  | @lst a xs ds e n hd =>
    cases rx
    obtain ⟨its, r, p⟩ := lst_obj I e
    exact RcNeAt.list_str t tk p hu _ _ _ _ (fin _ rfl)
  | @tup a xs ds e hd =>
    cases rx
    obtain ⟨its, r, p⟩ := tup_obj I e
    exact RcNeAt.tuple_str t tk p hu _ _ _ _ (fin _ rfl)
  | @dct a kvs ds e n hd =>
    cases rx
    obtain ⟨o, es, ep, h1, h2, h3⟩ := dict_obj I e
    exact rcNe_dict_str t tk h1 h2 h3 hu _ _ _ _ (fin _ rfl)
/-- x in (t, ..), a tuple or list of texts -/
def rInAn (K : PySem.W.Frag) : R2 := fun x y H Q => ∃ (ms : List Addr) (d : PyData) (p : Addr) (ts : List Str), An ms H x d ∧ y = .ref p ∧ SqT K H p (ts.map V.str) ∧ Q (.bl (ts.any fun t => isThe t d)) H
theorem op_inAn (hu : X.A.units + 1 < cLine) : OpR X (compareOp .In) (rInAn X.K) := by
  intro pins s σ H x y v u Q I rx ry h
  obtain ⟨ms, d, p, ts, hx, rfl, hq, q⟩ := h
  cases ry
  obtain ⟨its, r, pl, hz⟩ := I.tuple hq
  let eU : Value → Bool := fun w => match w with
    | .str z _ => isThe z d
    | _ => false
  have ev : ∀ (ts : List Str) (us : List Value), Vals (ts.map V.str) us → us.any eU = ts.any fun t => isThe t d := by
    intro ts
    induction ts with
    | nil =>
      intro us h
      cases h
      rfl
    | cons t r ih =>
      intro us h
      cases h with
      | cons a b =>
        obtain ⟨tk, rfl⟩ := a
        rw [List.any_cons, List.any_cons, ih _ b]
  have each : ∀ (ts : List Str) (us : List Value), Vals (ts.map V.str) us → ∀ w ∈ us, ∃ z tk, w = .str z tk := by
    intro ts
    induction ts with
    | nil =>
      intro us h
      cases h
      exact fun w hw => absurd hw List.not_mem_nil
    | cons t r ih =>
      intro us h
      cases h with
      | cons a b =>
        obtain ⟨tk, rfl⟩ := a
        intro w hw
        rcases List.mem_cons.mp hw with rfl | hw
        · exact ⟨_, _, rfl⟩
        · exact ih _ b w hw
  refine SeqAt.in_tupleAt eU pl (fun w hw => ?_) ⟨.bl _, H, I, rfl, ?_⟩
  · obtain ⟨z, tk, rfl⟩ := each ts its r w (by simpa using hw)
    cases hx with
    | non =>
      cases rx
      exact EqAt.str_none z tk
    | bl b =>
      cases rx
      exact EqAt.str_bool z tk b
    | int i =>
      obtain ⟨t2, rfl⟩ := rx
      exact EqAt.str_int z tk i t2
    | str g =>
      obtain ⟨t2, rfl⟩ := rx
      have e : eU (.str z tk) = (z == g) := by
        show decide (g = z) = (z == g)
        by_cases e : g = z
        · subst e
          simp
        · have e2 : ¬ z = g := fun h => e h.symm
          simp [e, e2]
      rw [e]
      exact EqAt.str_str z tk g t2
    | @lst a xs ds e n hd =>
      cases rx
      obtain ⟨its, r, p⟩ := lst_obj I e
      exact EqAt.str_list z tk p (show X.A.units + 1 < cLine from hu)
    | @tup a xs ds e hd =>
      cases rx
      obtain ⟨its, r, p⟩ := tup_obj I e
      exact EqAt.str_tuple z tk p (show X.A.units + 1 < cLine from hu)
    | @dct a kvs ds e n hd =>
      cases rx
      obtain ⟨o, es, ep, h1, h2, h3⟩ := dict_obj I e
      exact eq_str_dict z tk h1 h2 h3 (show X.A.units + 1 < cLine from hu)
  · rw [show its.toArray.any eU = its.any eU by simp, ev ts its r]
    exact q
/-- t == (), t any tuple -/
def rEqE : R2 := fun x y H Q => ∃ a b xs, x = .ref a ∧ y = .ref b ∧ H a = some (.tup xs) ∧ H b = some (.tup []) ∧ Q (.bl xs.isEmpty) H
theorem op_eqE (hu : X.A.units + 64 < cLine) : OpR X (compareOp .Eq) rEqE := by
  intro pins s σ H x y v u Q I rx ry h
  obtain ⟨a, b, xs, rfl, rfl, h1, h2, q⟩ := h
  cases rx
  cases ry
  obtain ⟨its, r, p⟩ := tup_obj I h1
  obtain ⟨its2, r2, p2⟩ := tup_obj I h2
  cases r2
  refine PySem.W.eq_tuplesT (n := 1) (e := fun _ => true) p p2 (fun j h1 h2 => absurd h2 (by simp)) (by omega) ⟨.bl xs.isEmpty, H, I, ?_, q⟩
  cases r with
  | nil => rfl
  | cons _ _ => rfl

end
end Ey
set_option maxHeartbeats 4000000
namespace Ey
open PySem PySem.Spec L2
/-! ### a list of one's own as a pile, its top first -/
theorem pile_top (x : V) (us : List V) : ((x :: us).reverse)[(x :: us).reverse.length - 1]? = some x := by
  rw [List.reverse_cons, List.length_append]
  show (us.reverse ++ [x])[us.reverse.length + 1 - 1]? = some x
  rw [Nat.add_sub_cancel, List.getElem?_append_right (Nat.le_refl _), Nat.sub_self]
  rfl
theorem pile_pop (x : V) (us : List V) : ((x :: us).reverse).dropLast = us.reverse := by
  rw [List.reverse_cons]
  exact List.dropLast_concat
theorem pile_push (x : V) (us : List V) : us.reverse ++ [x] = (x :: us).reverse := (List.reverse_cons).symm
theorem Kp.own {ms : List Addr} {H H1 : Hp} {p : Addr} {o : HO} (k : Kp ms H H1) (n : H p = none) : Kp ms H (upd H1 p o) :=
  ⟨fun b u e h => by rw [upd_ne (ne_of_none e n)]; exact k.at_ b u e h, fun b xs e => by rw [upd_ne (ne_of_none e n)]; exact k.tup b xs e⟩
theorem tabg_kp {ms : List Addr} {H H1 : Hp} {P : Addr} (g : GxR.TabG H P) (k : Kp ms H H1) (n : P ∉ ms) : GxR.TabG H1 P := by
  obtain ⟨ps, h, t⟩ := g
  exact ⟨ps, k.at_ _ _ h n, t⟩
theorem tabg_upd {H : Hp} {P p : Addr} {o : HO} (g : GxR.TabG H P) (n : P ≠ p) : GxR.TabG (upd H p o) P := by
  obtain ⟨ps, h, t⟩ := g
  exact ⟨ps, by rw [upd_ne n]; exact h, t⟩
/-- H' is H but for the table at P -/
abbrev Tb (P : Addr) (H H' : Hp) : Prop := GxR.Tabbed P H H'
theorem tb_refl {P : Addr} {H : Hp} (h : GxR.TabG H P) : Tb P H H := ⟨h, fun _ _ => rfl⟩
theorem tb_kp {P : Addr} {H H1 : Hp} (g : GxR.TabG H P) (a : Tb P H H1) : Kp [P] H H1 := by
  refine ⟨fun b o e n => ?_, fun b xs e => ?_⟩
  · rw [a.2 b (fun q => n (by rw [q]; simp))]
    exact e
  · rw [a.2 b (fun q => ?_)]
    · exact e
    · obtain ⟨ps, h, _⟩ := g
      rw [q, h] at e
      cases e
/-- the tables of all defs that have generators -/
def TTs (Ts : List Addr) (H : Hp) : Prop := ∀ P ∈ Ts, GxR.TabG H P
theorem TTs.tab {Ts : List Addr} {H H1 : Hp} {P : Addr} (h : TTs Ts H) (hP : P ∈ Ts) (t : Tb P H H1) : TTs Ts H1 ∧ Kp Ts H H1 := by
  refine ⟨fun q hq => ?_, (tb_kp (h P hP) t).more fun x hx => by rw [List.mem_singleton.mp hx]; exact hP⟩
  by_cases e : q = P
  · rw [e]
    exact t.1
  · obtain ⟨ps, a, b⟩ := h q hq
    exact ⟨ps, (t.2 q e).trans a, b⟩
theorem TTs.kp {ms Ts : List Addr} {H H1 : Hp} (h : TTs Ts H) (k : Kp ms H H1) (n : ∀ P ∈ Ts, P ∉ ms) : TTs Ts H1 := fun P hP => tabg_kp (h P hP) k (n P hP)
theorem TTs.kp0 {Ts : List Addr} {H H1 : Hp} (h : TTs Ts H) (k : Kp [] H H1) : TTs Ts H1 := h.kp k fun _ _ => List.not_mem_nil
theorem TTs.ne {Ts : List Addr} {H : Hp} {P p : Addr} (h : TTs Ts H) (hP : P ∈ Ts) (n : H p = none) : P ≠ p := by
  obtain ⟨ps, e, _⟩ := h P hP
  exact ne_of_none e n
theorem TTs.nin {Ts : List Addr} {H : Hp} {p : Addr} (h : TTs Ts H) (n : H p = none) : p ∉ Ts := fun hp => h.ne hp n rfl
theorem TTs.nino {Ts : List Addr} {H : Hp} {p : Addr} {o : HO} (h : TTs Ts H) (e : H p = some o) (no : ∀ ps, o ≠ .tbl ps) : p ∉ Ts := fun hp => by
  obtain ⟨ps, e2, _⟩ := h p hp
  rw [e2] at e
  exact no ps (Option.some.inj e).symm
/-- all(..) over a tuple that stays -/
theorem all_tup {K : PySem.W.Frag} {a : Addr} {xs : List V} {te : TE} {Q : VK} {H1 : Hp} (Pv : Nat → Hp → Prop) (h0 : Pv 0 H1) (hl : ∀ i H, Pv i H → SqT K H a xs)
    (hs : ∀ i x H, xs[i]? = some x → Pv i H → te [some x] H fun y H3 => ∃ b, y = .bl b ∧ if b = true then Pv (i + 1) H3 else Q (.bl false) H3) (hd : ∀ H, Pv xs.length H → Q (.bl true) H) :
    ∃ (n0 : Nat) (W : Nat → Hp → Prop), W 0 H1 ∧ ∀ i H', W i H' → (i < n0 ∧ (Itt K a).go i H' ∧ ∀ v H'', (Itt K a).yld i H' v H'' → te [some v] H'' fun y H3 => ∃ b, y = .bl b ∧ if b = true then W (i + 1) H3 else Q (.bl false) H3) ∨ ((Itt K a).stop i H' ∧ Q (.bl true) H') := by
  refine ⟨xs.length, fun i H => i ≤ xs.length ∧ Pv i H, ⟨Nat.zero_le _, h0⟩, fun i H ⟨hi, p⟩ => ?_⟩
  have q := hl i H p
  by_cases lt : i < xs.length
  · refine .inl ⟨lt, ⟨xs, xs[i], q, List.getElem?_eq_getElem lt⟩, fun v H'' y => ?_⟩
    obtain ⟨e, y⟩ := y
    subst e
    have h := hs i v H'' (y xs q) p
    have e : (fun (y : V) (H3 : Hp) => ∃ b, y = .bl b ∧ if b = true then (i + 1 ≤ xs.length ∧ Pv (i + 1) H3) else Q (.bl false) H3) = fun y H3 => ∃ b, y = .bl b ∧ if b = true then Pv (i + 1) H3 else Q (.bl false) H3 := by
      funext y H3
      refine propext ⟨fun ⟨b, e, h⟩ => ⟨b, e, ?_⟩, fun ⟨b, e, h⟩ => ⟨b, e, ?_⟩⟩
      · cases b
        · exact h
        · rw [if_pos rfl] at h ⊢
          exact h.2
      · cases b
        · exact h
        · rw [if_pos rfl] at h ⊢
          exact ⟨lt, h⟩
    rw [e]
    exact h
  · have e : i = xs.length := by omega
    subst e
    exact .inr ⟨⟨xs, q, Nat.le_refl _⟩, hd H p⟩
/-- a tuple of the written part -/
def KTup (K : PySem.W.Frag) (a : Addr) (xs : List V) : Prop := ∃ (o : Obj) (its : Array Value) (n : Nat), K.lookup a = some o ∧ o.cls = .type "tuple" ∧ o.data = .seq its n ∧ its.size ≤ sizeLine ∧ Vals xs its.toList
theorem KTup.sqt {K : PySem.W.Frag} {a : Addr} {xs : List V} (h : KTup K a xs) (H : Hp) : SqT K H a xs := by
  obtain ⟨o, its, n, h1, h2, h3, h4, h5⟩ := h
  exact .inr ⟨o, its, n, h1, h2, h3, h4, h5⟩
/-- a dict of the written part: its keys are just these -/
def keyS (e : DictEntry) : Option Str := match e.key with
  | .str x _ => some x
  | _ => none
theorem no_key {K : PySem.W.Frag} {a : Addr} {o d : _} {es : Array DictEntry} {n : Nat} {sl : _} {ks : List Str} (h : K.lookup a = some ⟨o, d, .dict es n, sl⟩) (hk : es.toList.map keyS = ks.map some) {z : Str} (hz : z ∉ ks) : PySem.W.nsIn K a z = some none := by
  have all : ∀ e ∈ es.toList, ∃ x t, e.key = .str x t ∧ x ∈ ks := fun e he => by
    have m : keyS e ∈ ks.map some := hk ▸ List.mem_map.mpr ⟨e, he, rfl⟩
    obtain ⟨x, hx, ex⟩ := List.mem_map.mp m
    unfold keyS at ex
    split at ex
    · rename_i x' t' e'
      refine ⟨x', t', e', ?_⟩
      rw [← Option.some.inj ex]
      exact hx
    · cases ex
  unfold PySem.W.nsIn
  rw [h]
  have f : es.toList.find? (fun e => e.key.isStr z) = none := List.find?_eq_none.mpr fun e he q => by
    obtain ⟨x, t, e1, e2⟩ := all e he
    rw [e1] at q
    have : (x == z) = true := q
    rw [beq_iff_eq] at this
    exact hz (this ▸ e2)
  show (match es.toList.find? (fun e => e.key.isStr z) with
    | some e => some (some e.val)
    | none => if es.toList.any (fun e => e.refKey) then none else some none) = some none
  rw [f]
  have g : es.toList.any (fun e => e.refKey) = false := List.any_eq_false.mpr fun e he q => by
    obtain ⟨x, t, e1, e2⟩ := all e he
    unfold DictEntry.refKey at q
    rw [e1] at q
    cases q
  show (if es.toList.any (fun e => e.refKey) = true then none else some none) = some none
  rw [g]
  rfl
theorem fn_any {ι : Type} {P : Program} {w : World} {K : PySem.W.Frag} {mg : Str → Option Value} {base : Heap} {CX : CXT} {k : Nat} {f : Addr} {fd : FuncData} {ps : List Str} {sp : ι → Sp} (h : ∀ i, FnOk P w K mg base CX k f fd ps (sp i)) :
    FnOk P w K mg base CX k f fd ps (fun vs H Q E => ∃ i, sp i vs H Q E) :=
  ⟨fun vs H Q E ⟨i, q⟩ => (h i).len vs H Q E q, fun A outer s H args us vs Q E hr e b v ⟨i, q⟩ => (h i).run A outer s H args us vs Q E hr e b v q⟩
/-- repr of any data -/
def rReprE : List V → Hp → VK → Prop := fun xs H Q => ∃ ms, rReprA ms xs H Q
theorem cr_reprE {X : Cx} {k : Nat} (hs : ∃ mm, X.base.Ns sysModules mm) (hg : X.A.guards = some []) (hr : Room k X.A) : CallR X (.builtin "repr") rReprE := by
  intro pins s σ H xs us Q I r h
  obtain ⟨ms, h⟩ := h
  exact cr_reprA (ms := ms) hs hg hr pins s σ H xs us Q I r h
end Ey
set_option maxHeartbeats 4000000
namespace Ey
open PySem PySem.Calls PySem.Spec PyProof.Rows L2 HT
section
variable {prog : Program} {w : World} {A : Around} {E : Value → Shared → Prop} {s : Shared}
theorem ey_steps (n : Nat) : Builtin.Slice.slicePlaces ((n : Int) - 1) (-1) (-1) = n := by
  unfold Builtin.Slice.slicePlaces
  rw [if_neg (by decide)]
  by_cases hn : (n : Int) - 1 > -1
  · rw [if_pos hn]
    have q : (- -1 : Int) = 1 := by decide
    rw [q, Int.ediv_one]
    omega
  · rw [if_neg hn]
    omega
theorem ey_applied_rev {sl : Addr} {vl vu vs : Value} {n : Nat} {Q : Int × Int × Nat → Shared → Prop} (q : s.heap.IsSliceOf sl vl vu vs) (pl : IsPart vl none) (pu : IsPart vu none) (ps : IsPart vs (some (-1)))
    (h : Q ((n : Int) - 1, -1, n) s) : wpAny (model prog w) A (Builtin.Slice.sliceApplied (.ref sl) (pure (n : Int))) Q E s := by
  obtain ⟨ob, hob, hcl, hda⟩ := id q
  unfold Builtin.Slice.sliceApplied Builtin.Slice.sliceFields
  refine wpAny_bind (wpAny_bind (wpAny_field hob hda (x := vl) rfl (wpAny_bind (wpAny_field hob hda (x := vu) rfl (wpAny_bind (wpAny_field hob hda (x := vs) rfl (wpAny_pure ?_)))))))
  refine wpAny_bind (slicePart_ ps ?_)
  show wpAny _ _ (if ((-1 : Int) == 0) = true then _ else _) _ _ s
  rw [if_neg (by decide)]
  refine wpAny_bind (slicePart_ pl (wpAny_bind (slicePart_ pu (wpAny_bind (wpAny_pure ?_)))))
  show wpAny _ _ (pure ((n : Int) - 1, (-1 : Int), Builtin.Slice.slicePlaces ((n : Int) - 1) (-1) (-1))) _ _ s
  rw [ey_steps]
  exact wpAny_pure h
theorem ey_back (xs : Array Value) : ((List.range xs.size).filterMap fun (m : Nat) => xs[((xs.size : Int) - 1 + (m : Int) * -1).toNat]?).toArray = xs.toList.reverse.toArray := by
  congr 1
  refine List.ext_getElem? fun i => ?_
  have key : ∀ m, m < xs.size → xs[((xs.size : Int) - 1 + (m : Int) * -1).toNat]? = (xs.toList.reverse)[m]? := fun m hm => by
    have e : ((xs.size : Int) - 1 + (m : Int) * -1).toNat = xs.size - 1 - m := by omega
    rw [e, List.getElem?_reverse (by rw [Array.length_toList]; exact hm), Array.length_toList, Array.getElem?_toList]
  have all : ∀ l : List Nat, (∀ m ∈ l, m < xs.size) → (l.filterMap fun (m : Nat) => xs[((xs.size : Int) - 1 + (m : Int) * -1).toNat]?) = l.filterMap fun m => (xs.toList.reverse)[m]? := fun l => by
    induction l with
    | nil => intro _; rfl
    | cons a r ih =>
      intro h
      rw [List.filterMap_cons, List.filterMap_cons, key a (h a List.mem_cons_self), ih fun m hm => h m (List.mem_cons_of_mem _ hm)]
  rw [all _ fun m hm => List.mem_range.mp hm]
  have fin : ∀ ys : List Value, (List.range ys.length).filterMap (fun m => ys[m]?) = ys := fun ys => by
    induction ys with
    | nil => rfl
    | cons y r ih =>
      rw [List.length_cons, List.range_succ_eq_map, List.filterMap_cons]
      show y :: List.filterMap _ _ = _
      rw [List.filterMap_map]
      exact congrArg (List.cons y) ih
  have := fin xs.toList.reverse
  rw [List.length_reverse, Array.length_toList] at this
  rw [this]
theorem ey_tuple_rev {tp sl : Addr} {items : Array Value} {vl vu vs : Value} {Q : Value → Shared → Prop} (it : IsTup s.heap tp items) (q : s.heap.IsSliceOf sl vl vu vs) (pl : IsPart vl none) (pu : IsPart vu none) (ps : IsPart vs (some (-1)))
    (h : Q (.ref s.heap.objs.size) { s with heap := s.heap.push { cls := .type "tuple", data := .seq items.toList.reverse.toArray } })
    (hz : items.size ≤ sizeLine) : wpAny (model prog w) A (getItem (.ref tp) (.ref sl)) Q E s := by
  have fits : sizeOk (.seq items.toList.reverse.toArray) := by
    show items.toList.reverse.toArray.size ≤ sizeLine
    rw [List.size_toArray, List.length_reverse, Array.length_toList]
    exact hz
  obtain ⟨ob, hob, hcl, hda⟩ := id q
  have kind : s.TypeIs (.ref sl) "slice" := ⟨ob, hob, hcl⟩
  unfold getItem
  try with_reducible refine wpAny_holding ?_
  first | refine wpAny_bind (wpAny_pure ?_) | skip
  refine wpAny_bind (wpAny_sequenceKey it.typeIs (by decide) ?_)
  refine wpAny_bind (wpAny_callSpecial?_slot (name := Str.ofString "__getitem__") it.typeIs PyProof.Rows.slot_tuple_getitem (wpAny_call_entry PyProof.Rows.slot_tuple_getitem it.typeIs entry_tuple_getitem ?_ (args_tuple_getitem _ _)))
  show wpAny _ _ (Builtin.Tuple.tupleItemsOf (.ref tp) >>= _) _ _ s
  refine wpAny_bind (tupleItemsOf_ it ?_)
  refine wpAny_bind (wpAny_typeOf kind ?_)
  rw [if_pos (by decide)]
  refine wpAny_bind (ey_applied_rev q pl pu ps ?_)
  have off : ¬ ((((items.size : Int) - 1 == 0) && ((-1 : Int) == 1) && (items.size == items.size)) = true) := by
    rw [show ((-1 : Int) == 1) = false from rfl, Bool.and_false, Bool.false_and]
    exact Bool.false_ne_true
  show wpAny _ _ (if (((items.size : Int) - 1 == 0) && ((-1 : Int) == 1) && (items.size == items.size)) = true then _ else _) _ _ s
  rw [if_neg off, ey_back]
  first
    | exact wpAny_bind (m := Builtin.Tuple.tupleExact _) (wpAny_newObj_type (wpAny_pure ⟨_, rfl, wpAny_pure h⟩) fits)
    | exact wpAny_bind (m := Builtin.Tuple.tupleExact _) (wpAny_newObj_type (wpAny_bind (wpAny_pure (wpAny_pure ⟨_, rfl, wpAny_pure h⟩))) fits)
    | exact wpAny_bind (wpAny_bind (m := Builtin.Tuple.tupleExact _) (wpAny_newObj_type (wpAny_pure (wpAny_pure ⟨_, rfl, wpAny_pure h⟩)) fits))
    | exact wpAny_bind (wpAny_bind (m := Builtin.Tuple.tupleExact _) (wpAny_newObj_type (wpAny_pure ⟨_, rfl, wpAny_pure h⟩) fits))
end
section
variable {X : Cx}
/-- e[::-1], e a tuple or a text -/
def tRevA (K : PySem.W.Frag) (te : TE) : TE := fun σ H Q => te σ H fun x H1 => (∃ a xs, x = .ref a ∧ SqT K H1 a xs ∧ ∀ p, H1 p = none → Q (.ref p) (upd H1 p (.tup xs.reverse))) ∨ ∃ p : List Nat, x = .str (st p) ∧ p.length ≤ sizeLine ∧ Q (.str (st p.reverse)) H1
theorem sb_rev (p : List Nat) (u : Tok) : Txt.sliceBy (st p) none none (-1, u) = st p.reverse := by
  have e := step_rev_list (st p) u
  have e2 : (Txt.sliceBy (st p) none none (-1, u)) = st ((List.range p.length).map fun k => p.toArray.getD (p.length - 1 - k) 0) := by
    rw [st_of (Txt.sliceBy (st p) none none (-1, u)), e]
    rfl
  rw [e2]
  congr 1
  refine List.ext_getElem? fun i => ?_
  rw [List.getElem?_map]
  by_cases hi : i < p.length
  · rw [List.getElem?_range hi, List.getElem?_reverse hi]
    show some (p.toArray.getD (p.length - 1 - i) 0) = _
    rw [List.getElem?_eq_getElem (by omega)]
    congr 1
    simp [Array.getD, show p.length - 1 - i < p.length by omega]
  · rw [List.getElem?_eq_none (by rw [List.length_range]; omega), List.getElem?_eq_none (by rw [List.length_reverse]; omega)]
    rfl
theorem pe_revA {e : Expr} {te : TE} {k : Nat} {p1 p2 p3 pos : Pos} (he : PE X e te) : PE X (.Subscript e (.Slice none none (some (.UnaryOp .USub (.Constant (.int 1) k p1) p2)) p3) pos) (tRevA X.K te) := by
  refine ⟨fun pins s σ H Q I h => ?_⟩
  refine Subscript_ (thn (he.run pins s σ H _ I h) fun v s1 ⟨x, H1, I1, r1, q1⟩ => ?_)
  have step : PO X (some (.UnaryOp .USub (.Constant (.int 1) k p1) p2)) (tPart (tUn (rU fun i => .int (-i)) (tC (.int 1)))) := po_some (pe_un un_neg pe_int)
  refine wpAny_Slice (thn (po_none.run pins s1 σ H1 (fun o H2 => o = none ∧ H2 = H1) I1 ⟨rfl, rfl⟩) fun vl s2 ⟨lo, H2, I2, pl, ea, eb⟩ => ?_)
  subst ea eb
  refine thn (po_none.run pins s2 σ H2 (fun o H3 => o = none ∧ H3 = H2) I2 ⟨rfl, rfl⟩) fun vu s3 ⟨up, H3, I3, pu, ec, ed⟩ => ?_
  subst ec ed
  refine thn (step.run pins s3 σ H3 (fun o H4 => o = some (-1) ∧ H4 = H3) I3 ⟨1, rfl, -1, rfl, rfl, rfl⟩) fun vs s4 ⟨o, H4, I4, pst, ee, ef⟩ => ?_
  subst ee ef
  have I5 : Inv X pins σ H4 { s4 with heap := s4.heap.push { cls := .type "slice", data := .fields #[vl, vu, vs] } } := I4.kept (t' := s4.toks) fun b ob q => Heap.get?_push_of_some _ q
  rcases q1 with ⟨a, xs, ex, hx, q⟩ | ⟨p, ex, hz, q⟩
  · subst ex
    cases r1
    obtain ⟨its, r, it, hz⟩ := I5.tuple hx
    have hlen : its.toArray.size = xs.length := by rw [List.size_toArray]; exact r.length.symm
    show wpAny (model X.prog X.w) X.A (subscriptTail e (.Slice none none (some (.UnaryOp .USub (.Constant (.int 1) k p1) p2)) p3) (.ref a) (.ref s4.heap.objs.size)) (EP X pins σ Q) X.xe { s4 with heap := s4.heap.push { cls := .type "slice", data := .fields #[vl, vu, vs] } }
    refine tail_any (ops := [.ref a, .ref s4.heap.objs.size]) it.typeIs PyProof.Rows.slot_tuple_getitem.lookup ?_ (by with_unfolding_all rfl)
    refine ey_tuple_rev it (Heap.IsSliceOf.new _ vl vu vs) pl pu pst ?_ (by rw [hlen]; exact hz)
    refine ⟨.ref _, _, I5.laid (t' := s4.toks) (o := .tup xs.reverse) (fun b ob q => Heap.get?_push_of_some _ q) (Nat.le_refl _) ?_, rfl, q _ (I5.hok.fresh (Nat.le_refl _))⟩
    refine ⟨by rw [List.length_reverse]; exact hz, its.reverse, r.reverse, ?_⟩
    have := IsTup.new { s4 with heap := s4.heap.push { cls := .type "slice", data := .fields #[vl, vu, vs] } }.heap its.reverse.toArray
    simpa using this
  · subst ex
    obtain ⟨t, rfl⟩ := r1
    cases pl
    cases pu
    cases pst with
    | int _ u =>
      show wpAny (model X.prog X.w) X.A (subscriptTail e (.Slice none none (some (.UnaryOp .USub (.Constant (.int 1) k p1) p2)) p3) (.str (st p) t) (.ref s4.heap.objs.size)) (EP X pins σ Q) X.xe { s4 with heap := s4.heap.push { cls := .type "slice", data := .fields #[.none, .none, .int (-1) u] } }
      refine tail_any (ops := [.str (st p) t, .ref s4.heap.objs.size]) (typeIs_str _ _ _) F.slot_str_getitem.lookup ?_ (by with_unfolding_all rfl)
      refine wpAny_getItem_str_slice (l := none) (u := none) (st := some (-1, u)) ⟨_, Heap.get?_push_size _ rfl, rfl, rfl⟩ rfl ?_
      have made : sliceMade (st p) t none none (some (-1, u)) = .str (st p.reverse) := by
        rw [← sb_rev p u]
        rfl
      rw [made]
      refine ⟨?_, .str (st p.reverse), _, I5.tok _, ⟨_, rfl⟩, q⟩
      rw [st_len, List.length_reverse]
      exact hz
end
end Ey
set_option maxHeartbeats 4000000
namespace Ey
open PySem PySem.Spec L2
/-- a comprehension over a text -/
theorem lcStr {z : Str} {g : TG} {tests : TT} {each : TE} {slots : List Nat} {σ : L2.St} {H1 : Hp} {D : Addr} {Qd : Hp → Prop} (Pv : Nat → Hp → Prop) (h0 : Pv 0 (upd H1 D (.lst [])))
    (hs : ∀ i c H, z.cps.toList[i]? = some c → Pv i H → g (.str (st [c])) (wipe σ slots) H fun σ2 H2 => wipe σ2 slots = wipe σ slots ∧ tests σ2 H2 fun b H3 => if b = true then each σ2 H3 fun y H4 => ∃ acc, H4 D = some (.lst acc) ∧ acc.length < sizeLine ∧ Pv (i + 1) (upd H4 D (.lst (acc ++ [y]))) else Pv (i + 1) H3)
    (hd : ∀ H, Pv z.cps.toList.length H → Qd H) :
    ∃ W : Nat → Nat → Hp → Prop, (∃ m, W 0 m (upd H1 D (.lst []))) ∧ ∀ i m H, W i m H → ((Its z).stop i H ∧ Qd H) ∨ ((Its z).go i H ∧ ∃ Nx : Hp → Prop, (∀ H', Nx H' → ∃ m', m' < m ∧ W (i + 1) m' H') ∧ ∀ x H', (Its z).yld i H x H' → g x (wipe σ slots) H' fun σ2 H2 => wipe σ2 slots = wipe σ slots ∧ tests σ2 H2 fun b H3 => if b = true then each σ2 H3 fun y H4 => ∃ acc, H4 D = some (.lst acc) ∧ acc.length < sizeLine ∧ Nx (upd H4 D (.lst (acc ++ [y]))) else Nx H3) := by
  refine ⟨fun i m H => m = z.cps.size - i ∧ i ≤ z.cps.size ∧ Pv i H, ⟨_, rfl, Nat.zero_le _, h0⟩, fun i m H hw => ?_⟩
  obtain ⟨rfl, hi, p⟩ := hw
  by_cases lt : i < z.cps.size
  · refine .inr ⟨lt, Pv (i + 1), fun H' p' => ⟨z.cps.size - (i + 1), by omega, rfl, lt, p'⟩, fun v H' y => ?_⟩
    obtain ⟨rfl, c, hc, rfl⟩ := y
    exact hs i c _ (by rw [Array.getElem?_toList]; exact hc) p
  · have e : i = z.cps.size := by omega
    subst e
    exact .inl ⟨Nat.le_refl _, hd H (by rw [Array.length_toList]; exact p)⟩
theorem wd_get {ds : List PyData} {i : Nat} {d : PyData} (h : ds[i]? = some d) : wd d + 2 ≤ wdAll ds := by
  induction ds generalizing i with
  | nil => cases h
  | cons x r ih =>
    cases i with
    | zero =>
      have q : x = d := Option.some.inj h
      rw [q]
      show wd d + 2 ≤ wd d + 2 + wdAll r
      omega
    | succ i =>
      have := ih h
      show wd d + 2 ≤ wd x + 2 + wdAll r
      omega
theorem len_wd (ds : List PyData) : ds.length ≤ wdAll ds := by
  induction ds with
  | nil => exact Nat.le_refl _
  | cons x r ih =>
    show r.length + 1 ≤ wd x + 2 + wdAll r
    omega
theorem eqv_strs (ps : List Nat) : PyData.eqv (.list (ps.map fun c => .str (st [c]))) (.list []) = ps.isEmpty := by
  cases ps <;> rfl
theorem dp_signs {K : PySem.W.Frag} {H : Hp} : ∀ ps : List Nat, DpAll K H (ps.map fun c => V.str (st [c])) (ps.map fun c => .str (st [c]))
  | [] => .nil
  | c :: r => .cons (.str _) (dp_signs r)
theorem lay_signs : ∀ ps : List Nat, (∀ c ∈ ps, c < 1000) → PyData.canLayAll0 (ps.map fun c => .str (st [c])) = true ∧ PyData.depthAll (ps.map fun c => .str (st [c])) = 0
  | [], _ => ⟨rfl, rfl⟩
  | c :: r, h => by
    obtain ⟨a, b⟩ := lay_signs r fun x hx => h x (List.mem_cons_of_mem _ hx)
    refine ⟨?_, ?_⟩
    · show (PyData.canLay0 (.str (st [c])) && PyData.canLayAll0 (r.map fun c => .str (st [c]))) = true
      have q : PyData.canLay0 (.str (st [c])) = true := by
        have := h c List.mem_cons_self
        have e : (st [c]).cps = #[c] := rfl
        simp only [PyData.canLay0, PyData.strOk, e]
        simp
        omega
      rw [a, q]
      rfl
    · show max 0 (PyData.depthAll (r.map fun c => .str (st [c]))) = 0
      rw [b]
      rfl
theorem shaped_signs (ps : List Nat) (h : ∀ c ∈ ps, c < 1000) : SeqAt.shaped (.list (ps.map fun c => .str (st [c]))) = true := by
  obtain ⟨a, b⟩ := lay_signs ps h
  show (PyData.canLayAll0 (ps.map fun c => .str (st [c])) && decide (PyData.depthAll (ps.map fun c => .str (st [c])) + 1 ≤ 64)) = true
  rw [a, b]
  rfl
theorem isTag_alt (g : Str) (h1 : 1 ≤ g.length) (h2 : g.length ≤ 8) : isTag g = (g.cps.toList.filter fun c => !decide (c ∈ abc)).isEmpty := by
  rw [isTag, decide_eq_true h1, decide_eq_true h2]
  show (g.cps.toList.all fun c => decide (c ∈ abc)) = _
  generalize g.cps.toList = l
  induction l with
  | nil => rfl
  | cons a r ih =>
    rw [List.all_cons, List.filter_cons, ih]
    cases decide (a ∈ abc) <;> rfl
theorem take_filter {l : List Nat} {f : Nat → Bool} {i c : Nat} (h : l[i]? = some c) : (l.take (i + 1)).filter f = (l.take i).filter f ++ if f c = true then [c] else [] := by
  rw [List.take_add_one, h, List.filter_append]
  congr 1
  show List.filter f [c] = _
  rw [List.filter_cons]
  rfl
def wAny : Nat → Nat
  | 0 => 130
  | n + 1 => 3 * wAny n + 140
theorem wAny_ge : ∀ n, 130 ≤ wAny n
  | 0 => Nat.le_refl _
  | n + 1 => by
    have := wAny_ge n
    show 130 ≤ 3 * wAny n + 140
    omega
/-- what is told of a drawn value -/
structure Good (n w : Nat) (x : PyData) : Prop where
  f : fit x = true
  d : x.depth ≤ n
  w : wd x ≤ w
theorem Good.mono {n w n' w' : Nat} {x : PyData} (g : Good n w x) (h1 : n ≤ n') (h2 : w ≤ w') : Good n' w' x := ⟨g.f, Nat.le_trans g.d h1, Nat.le_trans g.w h2⟩
inductive GoodAll (n w : Nat) : List PyData → Prop
  | nil : GoodAll n w []
  | cons {x : PyData} {r : List PyData} : Good n w x → GoodAll n w r → GoodAll n w (x :: r)
theorem GoodAll.facts {n w : Nat} {ds : List PyData} (h : GoodAll n w ds) : fitAll ds = true ∧ PyData.depthAll ds ≤ n ∧ wdAll ds ≤ (w + 2) * ds.length := by
  induction h with
  | nil => exact ⟨rfl, Nat.zero_le _, Nat.zero_le _⟩
  | @cons x r g _ ih =>
    obtain ⟨a, b, c⟩ := ih
    refine ⟨?_, ?_, ?_⟩
    · show (fit x && fitAll r) = true
      rw [g.f, a]
      rfl
    · show max x.depth (PyData.depthAll r) ≤ n
      have := g.d
      omega
    · show wd x + 2 + wdAll r ≤ (w + 2) * (r.length + 1)
      have := g.w
      rw [Nat.mul_add]
      omega
theorem GoodAll.snoc {n w : Nat} {ds : List PyData} {x : PyData} (h : GoodAll n w ds) (g : Good n w x) : GoodAll n w (ds ++ [x]) := by
  induction h with
  | nil => exact .cons g .nil
  | cons a _ ih => exact .cons a ih
section
variable {ms ms' : List Addr} {H : Hp}
mutual
theorem An.mono (hs : ∀ x ∈ ms', x ∈ ms) : ∀ {v : V} (d : PyData), An ms H v d → An ms' H v d
  | _, .none, h => by cases h; exact .non
  | _, .bool b, h => by cases h; exact .bl b
  | _, .int i, h => by cases h; exact .int i
  | _, .str x, h => by cases h; exact .str x
  | _, .list ds, h => by
    cases h with
    | lst e n a => exact .lst e (fun q => n (hs _ q)) (AnAll.mono hs ds a)
  | _, .tuple ds, h => by
    cases h with
    | tup e a => exact .tup e (AnAll.mono hs ds a)
  | _, .dict ds, h => by
    cases h with
    | dct e n a => exact .dct e (fun q => n (hs _ q)) (AnKv.mono hs ds a)
theorem AnAll.mono (hs : ∀ x ∈ ms', x ∈ ms) : ∀ {vs : List V} (ds : List PyData), AnAll ms H vs ds → AnAll ms' H vs ds
  | _, [], h => by cases h; exact .nil
  | _, d :: r, h => by
    cases h with
    | cons a b => exact .cons (An.mono hs d a) (AnAll.mono hs r b)
theorem AnKv.mono (hs : ∀ x ∈ ms', x ∈ ms) : ∀ {vs : List (Key × V)} (ds : List (PyData × PyData)), AnKv ms H vs ds → AnKv ms' H vs ds
  | _, [], h => by cases h; exact .nil
  | _, (y, d) :: r, h => by
    cases h with
    | cons a b => exact .cons (An.mono hs d a) (AnKv.mono hs r b)
end
end
section
variable {X : Cx}
/-- t[lo:hi] of a tuple, as one case -/
def rCut : V → Option Int → Option Int → Hp → VK → Prop := fun x lo hi H Q => ∃ (a : Addr) (xs : List V), x = .ref a ∧ H a = some (.tup xs) ∧ ∀ (q : Addr) (H' : Hp), H' q = some (.tup (cutV xs lo hi)) → Kp [] H H' → Q (.ref q) H'
theorem sl_cut : SlR X rCut := by
  intro pins s σ H x v vl vu lo hi sl Q I rx hs pl pu h
  obtain ⟨a, xs, rfl, e, k⟩ := h
  refine sl_tupA pins s σ H _ v vl vu lo hi sl Q I rx hs pl pu ⟨a, xs, rfl, sqt_of e, fun w => k a H ?_ .refl, fun _ p np => k p _ upd_same (.new np)⟩
  have whole : cutV xs lo hi = xs := by
    unfold cutV
    rw [w.1, w.2, List.drop_zero, Nat.sub_zero, List.take_length]
  rw [whole]
  exact e
/-- t + u of tuples, as one case -/
def rCat2 : R2 := fun x y H Q => ∃ (a b : Addr) (xs ys : List V), x = .ref a ∧ y = .ref b ∧ H a = some (.tup xs) ∧ H b = some (.tup ys) ∧ xs.length + ys.length ≤ sizeLine ∧ ∀ (q : Addr) (H' : Hp), H' q = some (.tup (xs ++ ys)) → Kp [] H H' → Q (.ref q) H'
theorem op_cat2 : OpR X (binaryOp .Add) rCat2 := by
  intro pins s σ H x y v u Q I rx ry h
  obtain ⟨a, b, xs, ys, rfl, rfl, ea, eb, hz, k⟩ := h
  refine op_catA pins s σ H _ _ v u Q I rx ry ⟨a, b, xs, ys, rfl, rfl, sqt_of ea, sqt_of eb, hz, fun e => k b H ?_ .refl, fun _ e => k a H ?_ .refl, fun _ _ p np => k p _ upd_same (.new np)⟩
  · rw [e]
    exact eb
  · rw [e, List.append_nil]
    exact ea
theorem cut_take (xs : List V) (i : Nat) : cutV xs none (some (i : Int)) = xs.take i := by
  unfold cutV
  rw [HT.sIx_none, HT.sIx_nat, List.drop_zero, Nat.sub_zero, ← List.take_take, List.take_length]
theorem cut_drop (xs : List V) (i : Nat) : cutV xs (some (i : Int)) none = xs.drop i := by
  unfold cutV
  rw [HT.sIx_none, HT.sIx_nat]
  by_cases h : i ≤ xs.length
  · rw [Nat.min_eq_left h]
    exact List.take_of_length_le (by rw [List.length_drop]; exact Nat.le_refl _)
  · rw [Nat.min_eq_right (by omega), Nat.sub_self, List.take_zero, List.drop_of_length_le (by omega)]
theorem pe_nev {e : Expr} : PE X e (fun _ _ _ => False) := ⟨fun _ _ _ _ _ _ h => h.elim⟩
end
theorem goodAll_of {n w : Nat} : ∀ ds : List PyData, (∀ x ∈ ds, Good n w x) → GoodAll n w ds
  | [], _ => .nil
  | x :: r, h => .cons (h x List.mem_cons_self) (goodAll_of r fun y hy => h y (List.mem_cons_of_mem _ hy))
theorem two_good {n w : Nat} {x y : PyData} (a : Good n w x) (b : Good n w y) : Good (n + 1) (2 * w + 7) (.tuple [x, y]) := by
  refine ⟨?_, ?_, ?_⟩
  · show (fit x && (fit y && true)) = true
    rw [a.f, b.f]
    rfl
  · show max x.depth (max y.depth 0) + 1 ≤ n + 1
    have := a.d
    have := b.d
    omega
  · show wd x + 2 + (wd y + 2 + 0) + 3 ≤ 2 * w + 7
    have := a.w
    have := b.w
    omega
theorem bl_good (b : Bool) : Good 0 5 (.bool b) := ⟨rfl, Nat.le_refl _, Nat.le_refl _⟩
end Ey
set_option maxHeartbeats 4000000
namespace Ey
open PySem PySem.AutoSeq1
theorem extend_tuple (l : Addr) (items : Array Value) (n : Nat) (b : Addr) (items2 : Array Value) (n2 : Nat) (dd : Option Addr) (sl : Array (Option Value)) (hs0 : ¬(!items.isEmpty && Builtin.List.listTooLong (items.size + items2.size)) = true) (hs1 : items.size ≤ sizeLine) (hs2 : items.size + items2.size ≤ sizeLine + 1) :
    Meets (Builtin.«list.extend» ⟨[.ref l, .ref b], []⟩) (fun _ R s => s.heap.get? l = some { cls := .type "list", dict := none, data := .seq items n, slots := #[] } ∧ s.heap.get? b = some { cls := .type "tuple", dict := dd, data := .seq items2 n2, slots := sl } ∧ R (.ok (.ret Value.none)) { s with heap := s.heap.update l (Obj.mapSeq fun x => x ++ items2), toks := s.toks }) :=
  .of_wp fun prog w A R s h => by
    obtain ⟨hp, g, d, tk, os⟩ := s; obtain ⟨hl, hb, h⟩ := h; have f1 := idx_int; have f2 := sub_tuple_tuple; have f3 := sub_list_list; have f4 := sub_tuple_list; have f5 := sub_list_tuple;
    have hz' : (items ++ items2).size ≤ sizeLine + 1 := by rw [Array.size_append]; exact hs2
    wp_walk using (wpAny_updateSeq hl rfl (hz := hs1) (_hz' := hz')), wpAny_loadPart' hl, wpAny_loadPart' hb; exact ⟨_, rfl, h⟩
end Ey
namespace Ey
open PySem PySem.Spec PyProof.Rows L2
section
variable {X : Cx}
def rExtendT : V → List V → Hp → VK → Prop := fun x vs H Q => ∃ l b xs zs, x = .ref l ∧ vs = [.ref b] ∧ H l = some (.lst xs) ∧ H b = some (.tup zs) ∧ xs.length + zs.length ≤ sizeLine ∧ Q .non (upd H l (.lst (xs ++ zs)))
theorem mt_extendT : MtM X "list.extend" rExtendT := by
  intro pins s σ H x vs v us Q I rx rv h
  obtain ⟨l, b, xs, zs, rfl, rfl, hH, hB, hz, q⟩ := h
  cases rx
  obtain ⟨u, rfl, ru⟩ := rv.one
  cases ru
  obtain ⟨z, its, n, r, hl, e⟩ := I.lstM hH
  obtain ⟨_, its2, r2, ⟨cls, dd, data, sl⟩, e2, hc, n2, hd⟩ := (show ObjOk X.prog X.w H s.heap b (.tup zs) from I.hok b _ hB)
  simp only at hc hd
  subst hc hd
  have hl2 := r2.length
  have hsz : its.toArray.size + its2.toArray.size ≤ sizeLine := by rw [List.size_toArray, List.size_toArray]; omega
  have hlong : ¬ (!its.toArray.isEmpty && Builtin.List.listTooLong (its.toArray.size + its2.toArray.size)) = true := by
    rw [notLongL hsz, Bool.and_false]
    exact Bool.false_ne_true
  refine call_meets PySem.F.slot_list_extend ⟨_, e, rfl⟩ PySem.F.entry_list_extend (PySem.F.args_list_extend_2 _ _)
    (extend_tuple l its.toArray n b its2.toArray n2 dd sl hlong (by rw [List.size_toArray]; omega) (by omega)) ⟨e, e2, ?_⟩
  refine ⟨.non, _, I.lset (its' := its ++ its2) hH e (by simp) (r.append r2) ?_, rfl, q⟩
  rw [List.length_append]
  omega
end
end Ey
set_option maxHeartbeats 4000000
namespace Ey
open PySem PySem.Spec L2 PyProof.Rows
open Sem (wp)
theorem meets_enumerate_newT {v : Value} {o : Obj} {H : Heap → Prop} (B : Begins v o H) :
    Meets (Builtin.«enumerate.__new__» ⟨[.type "enumerate", v], []⟩) (fun _ R s => H s.heap ∧
      R (.ok (.ret (.ref (s.heap.push o).objs.size))) { s with heap := (s.heap.push o).push { cls := .type "enumerate", data := .fields #[.none, .bool false, .ref s.heap.objs.size, rawInt 0, .none, .none] } }) :=
  .of_wp fun prog w A R s h => by
    obtain ⟨hp, g, d, tk, os⟩ := s; obtain ⟨h1, h⟩ := h
    have hsub := sub_enumerate
    have q1 : ∀ {A' : Around} {E : Value → Shared → Prop} {Q : Value → Shared → Prop}, Q (.ref hp.objs.size) ⟨hp.push o, g, d, tk, os⟩ → wpAny (model prog w) A' (pyIter v) Q E ⟨hp, g, d, tk, os⟩ :=
      fun q => B.iter prog w _ _ ⟨hp, g, d, tk, os⟩ _ h1 q
    wp_walk using q1
    refine wpAny_stack_any fun st => wpAny_pure ?_
    split
    · rename_i c _ _ _ _ _
      cases (c == Value.type "enumerate")
      · wp_walk using q1
        exact ⟨_, rfl, h⟩
      · wp_walk using q1
        exact ⟨_, rfl, h⟩
    · wp_walk using q1
      exact ⟨_, rfl, h⟩
section
variable {prog : Program} {w : World} {A : Around} {E : Value → Shared → Prop} {s : Shared}
theorem enum_begins1 {v : Value} {o : Obj} {H : Heap → Prop} {Q : Value → Shared → Prop} (B : Begins v o H) (h1 : H s.heap)
    (h : ∀ h', IsEnum h' (s.heap.objs.size + 1) s.heap.objs.size 0 .none → h'.get? s.heap.objs.size = some o → h'.objs.size = s.heap.objs.size + 2 →
      (∀ b o, s.heap.get? b = some o → h'.get? b = some o) → Q (.ref (s.heap.objs.size + 1)) { s with heap := h' }) :
    wpAny (model prog w) A (call (.type "enumerate") [v]) Q E s := by
  refine callType_new F.called_enumerate (by decide) (F.typeCall_enumerate_1 _) (F.newCall_enumerate_1 _) (fun obj => F.args_object_init_2 obj _) F.entry_enumerate_new
    (meets_enumerate_newT B) ⟨h1, ?_⟩
  have hz : (s.heap.push o).objs.size = s.heap.objs.size + 1 := Heap.size_push ..
  show _ ∧ _
  rw [hz]
  have he : IsEnum ((s.heap.push o).push { cls := .type "enumerate", data := .fields #[.none, .bool false, .ref s.heap.objs.size, rawInt 0, .none, .none] }) (s.heap.objs.size + 1) s.heap.objs.size 0 .none := by
    have := Heap.get?_push_size (s.heap.push o) (o := { cls := .type "enumerate", data := .fields #[.none, .bool false, .ref s.heap.objs.size, rawInt 0, .none, .none] }) rfl
    rw [hz] at this; exact this
  refine ⟨⟨_, he, rfl⟩, h _ he (Heap.get?_push_of_some _ (Heap.get?_push_size _ B.free)) (by rw [Heap.size_push, hz]) fun b o x => Heap.get?_push_of_some _ (Heap.get?_push_of_some _ x)⟩
end
section
variable {prog : Program} {w : World} {A : Around} {E : Value → Shared → Prop} {s : Shared}
theorem enum_endT {e it t : Addr} {items : Array Value} {j : Nat} {i : Int} {old : Value} {Q : Option Value → Shared → Prop} (hh : A.handled = none)
    (he : IsEnum s.heap e it i old) (hit : s.heap.IsTupleIter it t j) (ht : s.heap.IsTuple t items) (hx : items[j]? = none)
    (hQ : ∀ h', Heap.ExtBut it s.heap h' → Q none { s with heap := h' }) : wpAny (model prog w) A (pyNext (.ref e)) Q E s := by
  have hT : s.TypeIs (.ref e) "enumerate" := ⟨_, he, rfl⟩
  unfold pyNext
  refine wpAny_bind (wpAny_attempt (wpAny_callSpecial?_slot (name := Str.ofString "__next__") hT F.slot_enumerate_next
    (wpAny_call_entry F.slot_enumerate_next hT F.entry_enumerate_next ?_ (F.args_enumerate_next_1 _))))
  show wpAny _ _ (field (.ref e) 2 >>= _) _ _ _
  refine wpAny_bind (wpAny_field he rfl (x := .ref it) rfl ?_)
  refine wpAny_bind (wpAny_nextOf_tuple_end hh hit ht hx fun h' x he' hx' => ?_)
  obtain ⟨o, ho, hc⟩ := hx'
  refine wpAny_bind (wpAny_isInstance (T := "StopIteration") (b := true) ⟨o, ho, hc⟩ isSubtype_stop ?_)
  exact wpAny_pure (hQ _ he')
end
/-- the tuple at a, each item in a new pair -/
def Itet (K : PySem.W.Frag) (a : Addr) : It :=
  ⟨fun i H => ∃ (xs : List V) (x : V), SqT K H a xs ∧ xs[i]? = some x, fun i H v H' => ∃ T x, v = .ref T ∧ H T = none ∧ H' = upd H T (.tup [.int (i : Nat), x]) ∧ ∀ xs, SqT K H a xs → xs[i]? = some x, fun i H => ∃ xs : List V, SqT K H a xs ∧ xs.length ≤ i⟩
theorem turn_enumT {P : Program} {w : World} {K : PySem.W.Frag} {elts : List Expr} {kk : Nat} {tpos : Pos} (a e it : Addr) :
    Turn P w K (.Tuple elts kk tpos) (Itet K a) [e, it] e (fun i h => (∃ old, IsEnum h e it ((i : Nat) : Int) old) ∧ h.IsTupleIter it a i ∧ e ≠ it) where
  mem := by simp
  obj := fun i h st b hb => by
    obtain ⟨⟨old, he⟩, ⟨o, ho, hc, hd⟩, _⟩ := st
    have e' : b = e ∨ b = it := by simpa using hb
    rcases e' with z | z
    · rw [z]; exact ⟨_, he, fun v q => nomatch q⟩
    · rw [z]; exact ⟨o, ho, fun v q => by rw [hd] at q; cases q⟩
  keep := fun i h h' st k => let ⟨⟨old, he⟩, hi, hne⟩ := st; ⟨⟨old, k e (by simp) _ he⟩, hi.at fun o q => k it (by simp) o q, hne⟩
  item := by
    intro X hP hw hK hc i pins s σ H E I hf st hg
    subst hP hw hK
    obtain ⟨⟨old, he⟩, hit, hne⟩ := st
    obtain ⟨xs, x, hq, hx⟩ := hg
    obtain ⟨its, rv, p, hz⟩ := I.tuple hq
    obtain ⟨u, hu, ru⟩ := rv.get hx
    have hel : e < s.heap.objs.size := Heap.lt_size he
    have hil : it < s.heap.objs.size := by obtain ⟨_, q, _⟩ := hit; exact Heap.lt_size q
    have hai : a ≠ it := by
      intro z
      subst z
      obtain ⟨o, q, c, _⟩ := hit
      obtain ⟨o2, q2, c2, _⟩ := (show s.heap.IsTuple a its.toArray from p)
      rw [q] at q2
      cases q2
      rw [c] at c2
      injection c2 with c3
      exact absurd c3 (by decide)
    have hae : a ≠ e := by
      intro z
      subst z
      obtain ⟨o2, q2, c2, _⟩ := (show s.heap.IsTuple a its.toArray from p)
      rw [he] at q2
      cases q2
      injection c2 with c3
      exact absurd c3 (by decide)
    have D := Draws.tuple (prog := X.prog) (w := X.w) (A := X.A.in1) (I.ok.hd hc) it a hai its.toArray
    have hlt : i < its.toArray.size := by
      have := (List.getElem?_eq_some_iff.mp hu).1
      simpa using this
    refine wpAny_pyNext_enum_itemD D he ⟨hit, p⟩ hlt hne (by simp [hne, hae.symm]) fun u' h' tk hP ho hst hT hsz hk => ?_
    have eu : u' = u := by
      have q1 : its.toArray[i]? = some u' := hP
      have q2 : its.toArray[i]? = some u := by simpa using hu
      rw [q1] at q2
      exact Option.some.inj q2
    subst eu
    have hit' := hst.1
    refine ⟨_, rfl, wpAny_letOwnedTupleGo_enum (s := { s with heap := h', toks := tk + 1 }) ho fun h'' he' sb => ?_⟩
    have hT2 : h''.get? s.heap.objs.size = some { cls := .type "tuple", data := .seq #[.int i tk, u'] } := (sb.2 _ (Nat.ne_of_gt hel)).trans hT
    have new : ObjOk X.prog X.w (upd H s.heap.objs.size (.tup [.int (i : Nat), x])) h'' s.heap.objs.size (.tup [.int (i : Nat), x]) :=
      ⟨by show 2 ≤ sizeLine; decide, [.int i tk, u'], .cons ⟨_, rfl⟩ (.cons ru .nil), ⟨_, hT2, rfl, _, rfl⟩⟩
    have I1 : Inv X pins σ (upd H s.heap.objs.size (.tup [.int (i : Nat), x])) { s with heap := h'', toks := tk + 1 } :=
      I.turnedNew (ch := [e, it]) (fun b ob hb q => (sb.2 b (fun z => hb (by simp [z]))).trans (hk b ob (fun z => hb (by simp [z])) (fun z => hb (by simp [z])) q)) hf (Nat.le_refl _) new
    refine ⟨.ref s.heap.objs.size, _, I1, rfl, ⟨_, x, rfl, I.hok.fresh (Nat.le_refl _), rfl, fun ys hy => by rw [I.tuple_inj hy hq]; exact hx⟩, ⟨⟨u', ?_⟩, hit'.at fun o q => (sb.2 it (Ne.symm hne)).trans q, hne⟩, fun b hb => ?_⟩
    · have e1 : ((i + 1 : Nat) : Int) = (i : Int) + 1 := by omega
      rw [e1]; exact he'
    · have hb' : b < s.heap.objs.size := by
        have e' : b = e ∨ b = it := by simpa using hb
        rcases e' with z | z
        · rw [z]; exact hel
        · rw [z]; exact hil
      rw [upd_ne (Nat.ne_of_lt hb')]
      exact (hf b hb).1
  done := by
    intro X hP hw hK hc i pins s σ H E I hf st hg
    subst hP hw hK
    obtain ⟨⟨old, he⟩, hit, hne⟩ := st
    obtain ⟨xs, hq, hx⟩ := hg
    obtain ⟨its, rv, p, hz⟩ := I.tuple hq
    obtain ⟨f0, f1, f2, f3, f4, f5⟩ := hf it (by simp)
    have hl := rv.length
    exact enum_endT (I.ok.hd hc) he hit p (by simp; omega) fun h' eb => ⟨rfl, I.turned (t' := s.toks) (fun b o hb q => eb b o hb q) f0 f1 f3 f4 f5⟩
  self := fun A i s Q E st h => let ⟨⟨_, he⟩, _⟩ := st; wpAny_pyIter_enum he h
def iEnumT (K : PySem.W.Frag) (ta : TA) : TI := fun σ H R => ta σ H fun vs H1 => ∃ a xs, vs = [.ref a] ∧ SqT K H1 a xs ∧ R (Itet K a) H1
theorem pi_enumT {X : Cx} {e : Expr} {ta : TA} {p pos tpos : Pos} {elts : List Expr} {kk : Nat} (hg : Gl X "enumerate") (hm : X.mg "enumerate" = none) (ha : PA X [e] ta) (hs : starEach [e] X.env = [(false, eval e X.env)] := by rfl) :
    PI X (.Tuple elts kk tpos) (.Call (.Name "enumerate" p) [e] [] pos) (iEnumT X.K ta) := by
  refine ⟨fun pins s σ H R I h => ?_⟩
  refine Call_ (ld_blt I hg hm boot_enumerate (PyProof.Rows.callWith_type1 (thn (ha.run pos pins s σ H _ I h) fun us s1 ⟨vs, H1, I1, r1, q1⟩ => ?_) hs rfl))
  obtain ⟨a, xs, ex, hq, q⟩ := q1
  subst ex
  cases r1 with
  | cons r rr =>
    cases rr
    cases r
    obtain ⟨its, rv, p', hz⟩ := I1.tuple hq
    refine enum_begins1 (begins_tuple a its.toArray) p' fun h' he hit hsz hk => wpAny_pyIter_enum he ?_
    have I2 : Inv X pins σ H1 { s1 with heap := h' } := I1.kept (t' := s1.toks) hk
    refine ⟨s1.heap.objs.size + 1, [s1.heap.objs.size + 1, s1.heap.objs.size], _, _, H1, rfl, I2, turn_enumT a (s1.heap.objs.size + 1) s1.heap.objs.size, ⟨⟨.none, he⟩, ⟨_, hit, rfl, rfl⟩, Nat.succ_ne_self _⟩, fun b hb => ?_, q⟩
    have e' : b = s1.heap.objs.size + 1 ∨ b = s1.heap.objs.size := by simpa using hb
    have hle : s1.heap.objs.size ≤ b := by
      rcases e' with z | z
      · rw [z]; exact Nat.le_add_right _ _
      · rw [z]; exact Nat.le_refl _
    exact I1.fpOk hle (I1.hok.fresh hle)
end Ey
set_option maxHeartbeats 4000000
namespace Ey
open PySem PySem.Spec PyProof.Rows L2 PySem.SeqAt
section
variable {X : Cx}
/-- t != (), t any tuple -/
def rNeE : R2 := fun x y H Q => ∃ a b xs, x = .ref a ∧ y = .ref b ∧ H a = some (.tup xs) ∧ H b = some (.tup []) ∧ Q (.bl (!xs.isEmpty)) H
theorem op_neE (hu : X.A.units + 64 < cLine) : OpR X (compareOp .NotEq) rNeE := by
  intro pins s σ H x y v u Q I rx ry h
  obtain ⟨a, b, xs, rfl, rfl, h1, h2, q⟩ := h
  cases rx
  cases ry
  obtain ⟨its, r, p⟩ := tup_obj I h1
  obtain ⟨its2, r2, p2⟩ := tup_obj I h2
  cases r2
  refine RcNeAt.tuples (e := fun _ => true) p p2 (by omega) (fun j h1 h2 => absurd h2 (by simp)) _ _ _ _ ⟨.bl (!xs.isEmpty), H, I, ?_, q⟩
  cases r with
  | nil => rfl
  | cons _ _ => rfl
/-- xs != [], xs any list -/
def rNeEL : R2 := fun x y H Q => ∃ a b xs, x = .ref a ∧ y = .ref b ∧ H a = some (.lst xs) ∧ H b = some (.lst []) ∧ Q (.bl (!xs.isEmpty)) H
theorem op_neEL (hu : X.A.units + 64 < cLine) : OpR X (compareOp .NotEq) rNeEL := by
  intro pins s σ H x y v u Q I rx ry h
  obtain ⟨a, b, xs, rfl, rfl, h1, h2, q⟩ := h
  cases rx
  cases ry
  obtain ⟨its, r, p⟩ := lst_obj I h1
  obtain ⟨its2, r2, p2⟩ := lst_obj I h2
  cases r2
  cases r with
  | nil => exact RcNeAt.lists (e := fun _ => true) p p2 rfl (by omega) (fun j h1 h2 => absurd h2 (by simp)) _ _ _ _ ⟨.bl false, H, I, rfl, q⟩
  | cons _ _ => exact RcNeAt.lists_lengths p p2 (by simp) (by omega) _ _ _ _ ⟨.bl true, H, I, rfl, q⟩
end
end Ey
set_option maxHeartbeats 4000000
namespace Ey
open PySem PySem.Spec L2
def topS (i : Nat) : Stmt := PySem.Challenge.pw_eyesonly_k04_names_terms_and_scripts_of.main.body.getD i (.Pass ⟨0, 0, 0, 0⟩)
abbrev sDeck : Stmt := topS 18
abbrev sDraw : Stmt := topS 19
abbrev sPick : Stmt := topS 20
/-- what the module leaves of the built-in names -/
structure BI (mg : Str → Option Value) : Prop where
  int : mg "int" = none
  max : mg "max" = none
  list : mg "list" = none
  len : mg "len" = none
  range : mg "range" = none
  tuple : mg "tuple" = none
  sorted : mg "sorted" = none
  repr : mg "repr" = none
  isi : mg "isinstance" = none
  str : mg "str" = none
  all : mg "all" = none
  bool : mg "bool" = none
  enum : mg "enumerate" = none
/-! ### the deck -/
def kLeft : Key := .inr "left"
def kMix : Key := .inr "mixed"
def kDraw : Key := .inr "draws"
theorem kLM : ¬ kLeft = kMix := by decide +kernel
theorem kLD : ¬ kLeft = kDraw := by decide +kernel
theorem kMD : ¬ kMix = kDraw := by decide +kernel
def deckD (l : Addr) (m n : Int) : List (Key × V) := [(kLeft, .ref l), (kMix, .int m), (kDraw, .int n)]
section
variable (l : Addr) (m n : Int)
theorem deck_left : valV (deckD l m n) kLeft = some (.ref l) := valV_pos rfl
theorem deck_mix : valV (deckD l m n) kMix = some (.int m) := (valV_neg kLM).trans (valV_pos rfl)
theorem deck_draw : valV (deckD l m n) kDraw = some (.int n) := (valV_neg kLD).trans ((valV_neg kMD).trans (valV_pos rfl))
theorem put_mix (z : Int) : putK (deckD l m n) kMix (.int z) = deckD l z n := by
  have h : ((deckD l m n).any fun kv => decide (kv.1 = kMix)) = true := by rw [valV_any, deck_mix]; rfl
  unfold putK
  rw [if_pos h]
  have h2 : ¬ kDraw = kMix := fun e => kMD e.symm
  simp [deckD, kLM, h2]
theorem put_draw (z : Int) : putK (deckD l m n) kDraw (.int z) = deckD l m z := by
  have h : ((deckD l m n).any fun kv => decide (kv.1 = kDraw)) = true := by rw [valV_any, deck_draw]; rfl
  unfold putK
  rw [if_pos h]
  simp [deckD, kLD, kMD]
end
theorem merge_deck (l : Addr) (m n : Int) : mergeK [] (deckD l m n) = deckD l m n := by
  have e1 : putK ([] : List (Key × V)) kLeft (.ref l) = [(kLeft, .ref l)] := putK_new _ rfl
  have e2 : putK [(kLeft, V.ref l)] kMix (.int m) = [(kLeft, V.ref l), (kMix, .int m)] := putK_new _ (valV_neg kLM)
  have e3 : putK [(kLeft, V.ref l), (kMix, V.int m)] kDraw (.int n) = deckD l m n := putK_new _ ((valV_neg kLD).trans (valV_neg kMD))
  show putK (putK (putK [] kLeft (.ref l)) kMix (.int m)) kDraw (.int n) = _
  rw [e1, e2, e3]
theorem deck_sz (l : Addr) (m n : Int) : (deckD l m n).length < sizeLine := small1000 (by show 3 ≤ 1000; decide)
section
variable {H : Hp} {d l : Addr} {m n : Int}
theorem get_left (h : H d = some (.dK (deckD l m n))) : DGet H d (kV kLeft) (some (.ref l)) := deck_left l m n ▸ DGet.k h
theorem get_mix (h : H d = some (.dK (deckD l m n))) : DGet H d (kV kMix) (some (.int m)) := deck_mix l m n ▸ DGet.k h
theorem get_draw (h : H d = some (.dK (deckD l m n))) : DGet H d (kV kDraw) (some (.int n)) := deck_draw l m n ▸ DGet.k h
theorem set_mix (h : H d = some (.dK (deckD l m n))) (z : Int) : DPut H d (kV kMix) (.int z) (upd H d (.dK (deckD l z n))) := put_mix l m n z ▸ DPut.k h (deck_sz l m n)
theorem set_draw (h : H d = some (.dK (deckD l m n))) (z : Int) : DPut H d (kV kDraw) (.int z) (upd H d (.dK (deckD l m z))) := put_draw l m n z ▸ DPut.k h (deck_sz l m n)
end
structure DeckAt (H : Hp) (d l : Addr) : Prop where
  ex : ∃ (m n : Int) (ns : List Int), H d = some (.dK (deckD l m n)) ∧ H l = some (.lst (ns.map V.int)) ∧ ns.length ≤ 63
theorem DeckAt.ne {H : Hp} {d l : Addr} (D : DeckAt H d l) : d ≠ l := by
  obtain ⟨m, n, ns, h1, h2, _⟩ := D.ex
  exact ne_of h1 h2 (by intro z; cases z)
theorem DeckAt.kp {ms : List Addr} {H H1 : Hp} {d l : Addr} (D : DeckAt H d l) (k : Kp ms H H1) (nd : d ∉ ms) (nl : l ∉ ms) : DeckAt H1 d l := by
  obtain ⟨m, n, ns, h1, h2, h3⟩ := D.ex
  exact ⟨m, n, ns, k.at_ _ _ h1 nd, k.at_ _ _ h2 nl, h3⟩
def spDraw : Sp := fun vs H Q _ => ∃ (d l : Addr) (many : Int), vs = [.ref d, .int many] ∧ DeckAt H d l ∧ 0 < many ∧ many < 1073741824 ∧
  ∀ (r : Int) (H' : Hp), 0 ≤ r → r < many → DeckAt H' d l → Kp [d, l] H H' → Q (.int r) H'
section
variable {P : Program} {w : World} {K : PySem.W.Frag} {mg : Str → Option Value} {base : Heap}
theorem scDraw : FnScope ["_law_deck_here", "_law_many", "_law_cell", "_law_figure"] ["_law_deck_here", "_law_many"] (defScope sDraw) := ⟨rfl, rfl, rfl, by decide +kernel, rfl, by decide +kernel, by decide +kernel⟩
theorem fmod_lt {i j : Int} (h : 0 < j) : 0 ≤ i.fmod j ∧ i.fmod j < j := ⟨Int.fmod_nonneg_of_pos _ h, Int.fmod_lt_of_pos _ h⟩
theorem fdiv_ne : (2147483647 : Int) ≠ 0 := by decide
theorem lt64 {i : Int} (h0 : 0 ≤ i) (h1 : i < 2147483647) : -(2 ^ 64) < i ∧ i < 2 ^ 64 := by
  constructor
  · exact Int.lt_of_lt_of_le (by decide) h0
  · exact Int.lt_trans h1 (by decide)
theorem eqv_nil (ns : List Int) : PyData.eqv (.list (ns.map PyData.int)) (.list []) = ns.isEmpty := by
  cases ns <;> rfl
theorem dp_ints {K : PySem.W.Frag} {H : Hp} : ∀ ns : List Int, DpAll K H (ns.map V.int) (ns.map PyData.int)
  | [] => .nil
  | n :: r => .cons (.int n) (dp_ints r)
theorem lay_ints : ∀ ns : List Int, PyData.canLayAll0 (ns.map PyData.int) = true ∧ PyData.depthAll (ns.map PyData.int) = 0
  | [] => ⟨rfl, rfl⟩
  | n :: r => by
    obtain ⟨a, b⟩ := lay_ints r
    refine ⟨?_, ?_⟩
    · show (PyData.canLay0 (.int n) && PyData.canLayAll0 (r.map PyData.int)) = true
      rw [a]
      rfl
    · show max 0 (PyData.depthAll (r.map PyData.int)) = 0
      rw [b]
      rfl
theorem shaped_ints (ns : List Int) : SeqAt.shaped (.list (ns.map PyData.int)) = true := by
  obtain ⟨a, b⟩ := lay_ints ns
  show (PyData.canLayAll0 (ns.map PyData.int) && decide (PyData.depthAll (ns.map PyData.int) + 1 ≤ 64)) = true
  rw [a, b]
  rfl
theorem ok_draw {f : Addr} {fd : FuncData} (F : Fun K "_law_draw" "_law_draw" sDraw f fd) (B : BI mg) : FnOk P w K mg base CX0 1 f fd ["_law_deck_here", "_law_many"] spDraw := by
  refine F.ok scDraw (fun vs H Q E h => ?_) (fun cdv A outer s H vs Q E hr h => ?_)
  · obtain ⟨d, l, many, rfl, _⟩ := h
    rfl
  · obtain ⟨d, l, many, rfl, D, m0, m1, k⟩ := h
    have hu := hu_of hr
    have mne : many ≠ 0 := by omega
    -- the tail: figure, figure, figure, return
    obtain ⟨tt, dt, rt⟩ : ∃ tt, PSs (cxOf CX0 P w K mg base ["_law_deck_here", "_law_many", "_law_cell", "_law_figure"] "_law_draw" (defScope sDraw) f cdv A outer s H E).nox ((defBody sDraw).drop 2) tt ∧
        ∀ (H2 : Hp) (y : Option V), DeckAt H2 d l → Kp [d, l] H H2 → tt { nx := fun _ H' => Q .non H', rt := Q } [some (.ref d), some (.int many), y, none] H2 := by
      refine ⟨_, pss_cons (ps_set (i := 3) scDraw.nd rfl (.inl rfl) (pe_op op_modN (pe_callTy call_int1 (by rfl) B.int (by decide +kernel) (pa_cons (pe_op op_add (pe_dget hu (pv 0) pe_str (fun _ _ => rfl)) (pe_op op_mul pe_int (pe_dget hu (pv 0) pe_str (fun _ _ => rfl)))) pa_nil)) pe_int))
        (pss_cons (ps_set (i := 3) scDraw.nd rfl (.inl rfl) (pe_op op_modN (pe_callTy call_int1 (by rfl) B.int (by decide +kernel) (pa_cons (pe_op op_add (pe_op op_add (pe_op op_mul (pv 3) (pv 3)) (pe_op op_mul pe_int (pe_dget hu (pv 0) pe_str (fun _ _ => rfl)))) pe_int) pa_nil)) pe_int))
        (pss_cons (ps_set (i := 3) scDraw.nd rfl (.inl rfl) (pe_op op_modN (pe_callTy call_int1 (by rfl) B.int (by decide +kernel) (pa_cons (pe_op op_add (pe_op op_mul (pv 3) pe_int) pe_int) pa_nil)) pe_int))
        (pss_one (ps_ret (pe_op op_modN (pe_callTy call_int1 (by rfl) B.int (by decide +kernel) (pa_cons (pe_op op_fdivN (pv 3) pe_int) pa_nil)) (pv 1)))))), fun H2 y D2 k2 => ?_⟩
      obtain ⟨m, n, ns, hd, hl, hn⟩ := id D2
      refine ⟨_, rfl, d, _, rfl, get_mix hd, _, rfl, d, _, rfl, get_draw hd, _, _, rfl, rfl, .inl ⟨by decide, by decide⟩, _, _, rfl, rfl, .inl ⟨_, rfl, ?_⟩⟩
      refine ⟨_, _, rfl, rfl, (by decide : (2147483647 : Int) ≠ 0), ?_⟩
      have b1 := fmod_lt (i := m + 31337 * n) (j := 2147483647) (by decide)
      refine ⟨_, rfl, _, rfl, _, _, rfl, rfl, .inl (lt64 b1.1 b1.2), _, rfl, d, _, rfl, get_draw hd, _, _, rfl, rfl, .inl ⟨by decide, by decide⟩, _, _, rfl, rfl, _, _, rfl, rfl, .inl ⟨_, rfl, ?_⟩⟩
      refine ⟨_, _, rfl, rfl, (by decide : (2147483629 : Int) ≠ 0), ?_⟩
      have b2 := fmod_lt (i := (m + 31337 * n).fmod 2147483647 * (m + 31337 * n).fmod 2147483647 + 48271 * n + 47) (j := 2147483629) (by decide)
      refine ⟨_, rfl, _, _, rfl, rfl, .inl (lt64 b2.1 (Int.lt_trans b2.2 (by decide : (2147483629 : Int) < 2147483647))), _, _, rfl, rfl, .inl ⟨_, rfl, ?_⟩⟩
      refine ⟨_, _, rfl, rfl, (by decide : (2147483563 : Int) ≠ 0), ?_⟩
      refine ⟨_, rfl, _, _, rfl, rfl, (⟨by decide, by decide⟩ : (64 : Int) ≠ 0 ∧ (64 : Int).natAbs < 1073741824), .inl ⟨_, rfl, _, rfl, _, _, rfl, rfl, mne, ?_⟩⟩
      have b3 := fun i : Int => fmod_lt (i := i) m0
      exact k _ H2 (b3 _).1 (b3 _).2 D2 k2
    refine ⟨_, pss_cons (ps_dput hu (pv 0) pe_str (pe_op op_add (pe_dget hu (pv 0) pe_str (fun _ _ => rfl)) pe_int) rfl)
      (pss_cons (ps_if (pt_cmpR (op_neD hr.units) (pe_dget hu (pv 0) pe_str (fun _ _ => rfl)) (pe_lst pa_nil) (nomark _))
        (pss_cons (ps_set (i := 2) scDraw.nd rfl (.inl rfl) (pe_bm0 PySem.F.plainAttrs_list PySem.F.slot_list_pop PySem.F.type_list_pop mt_pop (pe_dget hu (pv 0) pe_str (fun _ _ => rfl))))
        (pss_cons (ps_if (pt_cmpR op_ge (pv 2) (pe_op op_pow pe_int pe_int) (nomark _))
          (pss_cons (ps_expr (pe_bm PySem.F.plainAttrs_list PySem.F.slot_list_append PySem.F.type_list_append mt_append (pe_dget hu (pv 0) pe_str (fun _ _ => rfl))
            (pa_cons (pe_op op_fdivN (pv 2) (pe_callB (call_max2 rfl) (by rfl) B.max (by decide +kernel) (pa_cons pe_int (pa_cons (pv 1) pa_nil)))) pa_nil)))
          (pss_one (ps_ret (pe_op op_modN (pe_callTy call_int1 (by rfl) B.int (by decide +kernel) (pa_cons (pv 2) pa_nil)) (pv 1))))) pss_nil)
        (pss_one (ps_dput hu (pv 0) pe_str (pe_op op_modN (pe_callTy call_int1 (by rfl) B.int (by decide +kernel) (pa_cons (pe_op op_add (pe_op op_add (pe_op op_mul (pe_dget hu (pv 0) pe_str (fun _ _ => rfl)) pe_int)
          (pe_op op_modN (pe_callTy call_int1 (by rfl) B.int (by decide +kernel) (pa_cons (pv 2) pa_nil)) pe_int)) pe_int) pa_nil)) pe_int) rfl)))) pss_nil)
      dt), ?_⟩
    obtain ⟨m, n, ns, hd, hl, hn⟩ := D.ex
    have ndl := D.ne
    -- deck['draws'] = deck['draws'] + 1
    refine ⟨_, rfl, d, _, rfl, get_draw hd, _, _, rfl, rfl, _, rfl, d, _, rfl, set_draw hd _, ?_⟩
    have kd : Kp [d, l] H (upd H d (.dK (deckD l m (n + 1)))) := .put (by simp) hd (fun xs z => by cases z)
    have hd1 : (upd H d (.dK (deckD l m (n + 1)))) d = some (.dK (deckD l m (n + 1))) := upd_same
    have hl1 : (upd H d (.dK (deckD l m (n + 1)))) l = some (.lst (ns.map V.int)) := by rw [upd_ne ndl.symm]; exact hl
    generalize upd H d (.dK (deckD l m (n + 1))) = H1 at kd hd1 hl1
    -- if deck['left'] != []
    refine ⟨_, rfl, d, _, rfl, get_left hd1, Nat.zero_le _, fun p np => ⟨.list (ns.map PyData.int), .list [], .lst (sql_of (by rw [upd_ne (ne_of_none hl1 np)]; exact hl1)) (dp_ints ns), .lst (sql_of upd_same) .nil, shaped_ints ns, rfl, ?_⟩⟩
    rw [eqv_nil]
    have kp : Kp [d, l] H (upd H1 p (.lst [])) := kd.trans (.new np)
    have hd2 : (upd H1 p (.lst [])) d = some (.dK (deckD l m (n + 1))) := by rw [upd_ne (ne_of_none hd1 np)]; exact hd1
    have hl2 : (upd H1 p (.lst [])) l = some (.lst (ns.map V.int)) := by rw [upd_ne (ne_of_none hl1 np)]; exact hl1
    generalize upd H1 p (.lst []) = H2 at kp hd2 hl2
    refine ⟨_, rfl, ?_⟩
    cases e : ns.isEmpty with
    | true =>
      refine iteF ?_
      exact rt H2 _ ⟨_, _, _, hd2, hl2, hn⟩ kp
    | false =>
      refine iteT ?_
      -- cell = deck['left'].pop()
      obtain ⟨ini, z, rfl⟩ : ∃ ini z, ns = ini ++ [z] := by
        refine ⟨ns.dropLast, ns.getLast (fun q => by rw [q] at e; cases e), (List.dropLast_concat_getLast _).symm⟩
      have lst : ((ini ++ [z]).map V.int)[((ini ++ [z]).map V.int).length - 1]? = some (.int z) := by
        rw [List.map_append, List.length_append]
        show (ini.map V.int ++ [V.int z])[(ini.map V.int).length + 1 - 1]? = _
        rw [Nat.add_sub_cancel, List.getElem?_append_right (Nat.le_refl _), Nat.sub_self]
        rfl
      have dr : ((ini ++ [z]).map V.int).dropLast = ini.map V.int := by
        rw [List.map_append]
        exact List.dropLast_concat
      rw [List.length_append] at hn
      have hn' : ini.length + 1 ≤ 63 := hn
      refine ⟨_, rfl, d, _, rfl, get_left hd2, .inl ⟨rfl, _, sql_of hl2⟩, l, _, _, rfl, rfl, hl2, lst, ?_⟩
      rw [dr]
      have k3 : Kp [d, l] H (upd H2 l (.lst (ini.map V.int))) := kp.trans (.put (by simp) hl2 (fun xs z => by cases z))
      have hd3 : (upd H2 l (.lst (ini.map V.int))) d = some (.dK (deckD l m (n + 1))) := by rw [upd_ne ndl]; exact hd2
      have hl3 : (upd H2 l (.lst (ini.map V.int))) l = some (.lst (ini.map V.int)) := upd_same
      generalize upd H2 l (.lst (ini.map V.int)) = H3 at k3 hd3 hl3
      -- if cell >= 10 ** 18
      refine ⟨_, rfl, _, _, rfl, rfl, (⟨by decide, by decide, by decide⟩ : (0 : Int) ≤ 18 ∧ (18 : Int) ≤ 1000000 ∧ (10 : Int).natAbs < 2 ^ 64), _, _, rfl, rfl, _, rfl, ite2 (fun _ => ?_) (fun _ => ?_)⟩
      · -- append, return
        refine ⟨_, rfl, d, _, rfl, get_left hd3, .inl ⟨rfl, _, sql_of hl3⟩, _, rfl, _, rfl, _, _, rfl, _, _, rfl, rfl, ?_, ?_⟩
        · show (if many > 2 then many else 2) ≠ 0 ∧ (if many > 2 then many else 2).natAbs < 1073741824
          split <;> omega
        · refine ⟨l, _, _, rfl, rfl, hl3, ?_, ?_⟩
          · rw [List.length_map]
            exact small1000 (by omega)
          · refine ⟨_, rfl, .inl ⟨_, rfl, _, rfl, _, _, rfl, rfl, mne, ?_⟩⟩
            have b3 := fun i : Int => fmod_lt (i := i) m0
            refine k _ _ (b3 _).1 (b3 _).2 ⟨m, n + 1, ini ++ [z.fdiv (if many > 2 then many else 2)], ?_, ?_, ?_⟩ (k3.trans (.put (by simp) hl3 (fun xs z => by cases z)))
            · rw [upd_ne ndl]
              exact hd3
            · rw [upd_same, List.map_append]
              rfl
            · rw [List.length_append]
              show ini.length + 1 ≤ 63
              omega
      · refine ⟨_, rfl, d, _, rfl, get_mix hd3, _, _, rfl, rfl, .inr ⟨by decide, by decide⟩, _, rfl, .inl ⟨_, rfl, _, _, rfl, rfl, (by decide : (2147483629 : Int) ≠ 0), _, _, rfl, rfl, _, _, rfl, rfl, .inl ⟨_, rfl, ?_⟩⟩⟩
        refine ⟨_, _, rfl, rfl, (by decide : (2147483587 : Int) ≠ 0), _, rfl, d, _, rfl, set_mix hd3 _, ?_⟩
        refine rt _ _ ⟨_, _, ini, upd_same, ?_, by omega⟩ (k3.trans (.put (by simp) hd3 (fun xs z => by cases z)))
        rw [upd_ne ndl.symm]
        exact hl3
theorem cut63 (xs : List V) (h : xs.length ≤ 63) : cutV xs none (some 63) = xs := by
  unfold cutV
  rw [HT.sIx_none, show HT.sIx xs.length xs.length (some 63) = min 63 xs.length from HT.sIx_nat _ _ 63, Nat.min_eq_right h]
  show List.take xs.length xs = xs
  exact List.take_length
theorem scDeck : FnScope ["_law_script", "_law_seed", "_law_mixed", "_law_cell"] ["_law_script", "_law_seed"] (defScope sDeck) := ⟨rfl, rfl, rfl, by decide +kernel, rfl, by decide +kernel, by decide +kernel⟩
def spDeck (K : PySem.W.Frag) : Sp := fun vs H Q _ => ∃ (a : Addr) (ns : List Int) (seed : Int), vs = [.ref a, .int seed] ∧ SqL K H a (ns.map V.int) ∧ ns.length ≤ 63 ∧
  ∀ (d l : Addr) (H' : Hp), DeckAt H' d l → Kp [] H H' → H d = none → H l = none → Q (.ref d) H'
theorem ok_deck {f : Addr} {fd : FuncData} (F : Fun K "_law_deck" "_law_deck" sDeck f fd) (B : BI mg) : FnOk P w K mg base CX0 1 f fd ["_law_script", "_law_seed"] (spDeck K) := by
  refine F.ok scDeck (fun vs H Q E h => ?_) (fun cdv A outer s H vs Q E hr h => ?_)
  · obtain ⟨a, ns, seed, rfl, _⟩ := h
    rfl
  · obtain ⟨a, ns, seed, rfl, hS, hn, k⟩ := h
    refine ⟨_, pss_cons (ps_set (i := 2) scDeck.nd rfl (.inl rfl) (pv 1))
      (pss_cons (ps_for PassesOwn.never rfl (pi_list (pe_slice sl_list (pv 0) po_none (po_some pe_int))) (pg_name (i := 3) scDeck.nd rfl (.inl rfl))
        (pss_one (ps_set (i := 2) scDeck.nd rfl (.inl rfl) (pe_op op_modN (pe_callTy call_int1 (by rfl) B.int (by decide +kernel) (pa_cons (pe_op op_add (pe_op op_add (pe_op op_mul (pv 2) pe_int)
          (pe_op op_modN (pe_callTy call_int1 (by rfl) B.int (by decide +kernel) (pa_cons (pv 3) pa_nil)) pe_int)) pe_int) pa_nil)) pe_int))))
      (pss_one (ps_ret (pe_disp (pps_cons pe_str (pe_revL (pe_callTy call_list_of (by rfl) B.list (by decide +kernel) (pa_cons (pe_slice sl_list (pv 0) po_none (po_some pe_int)) pa_nil)))
        (pps_cons pe_str (pv 2) (pps_cons pe_str pe_int pps_nil))) (by rfl) (by rfl) (fun z => by cases z) (by decide))))), ?_⟩
    have hl63 : (ns.map V.int).length ≤ 63 := by rw [List.length_map]; exact hn
    refine ⟨_, rfl, _, rfl, 63, rfl, a, ns.map V.int, rfl, hS, fun c nc => ?_⟩
    rw [cut63 _ hl63]
    have k0 : Kp [] H (upd H c (.lst (ns.map V.int))) := .new nc
    refine ⟨c, rfl, ⟨_, sql_of upd_same⟩, for_list (K := K) (a := c) (xs := ns.map V.int) (fun i σ H2 => ∃ (m : Int) (y : Option V), σ = [some (.ref a), some (.int seed), some (.int m), y] ∧ Kp [] H H2 ∧ SqL K H2 c (ns.map V.int))
      ⟨seed, none, rfl, k0, sql_of upd_same⟩ (fun i σ H2 _ ⟨_, _, _, _, q⟩ => q) ?_ ?_⟩
    · rintro i x σ H2 hi ⟨m, y, rfl, k2, hc⟩
      obtain ⟨z, rfl⟩ : ∃ z, x = V.int z := by
        rw [List.getElem?_map] at hi
        obtain ⟨z, _, e⟩ := Option.map_eq_some_iff.mp hi
        exact ⟨z, e.symm⟩
      refine ⟨_, rfl, _, _, rfl, rfl, .inr ⟨by decide, by decide⟩, _, rfl, .inl ⟨_, rfl, _, _, rfl, rfl, (by decide : (2147483629 : Int) ≠ 0), _, _, rfl, rfl, _, _, rfl, rfl, .inl ⟨_, rfl, ?_⟩⟩⟩
      exact ⟨_, _, rfl, rfl, (by decide : (2147483563 : Int) ≠ 0), _, _, rfl, k2, hc⟩
    · rintro σ H2 ⟨m, y, rfl, k2, hc⟩
      intro d nd
      have kd : Kp [] H2 (upd H2 d (.dK [])) := .new nd
      have hdd : (upd H2 d (.dK [])) d = some (.dK []) := upd_same
      generalize upd H2 d (.dK []) = H3 at kd hdd
      have hS3 : SqL K H3 a (ns.map V.int) := (k2.trans kd).lst List.not_mem_nil hS
      refine ⟨_, rfl, 63, rfl, a, ns.map V.int, rfl, hS3, fun e ne => ?_⟩
      rw [cut63 _ hl63]
      refine ⟨e, _, rfl, .inl (sql_of upd_same), fun g ng => ?_⟩
      refine ⟨g, _, rfl, sql_of upd_same, fun l nl => ?_⟩
      have k5 : Kp [] H3 (upd (upd (upd H3 e (.lst (ns.map V.int))) g (.lst (ns.map V.int))) l (.lst (ns.map V.int).reverse)) := (Kp.new ne).trans ((Kp.new ng).trans (Kp.new nl))
      have hl5 : (upd (upd (upd H3 e (.lst (ns.map V.int))) g (.lst (ns.map V.int))) l (.lst (ns.map V.int).reverse)) l = some (.lst (ns.map V.int).reverse) := upd_same
      have nl3 : H3 l = none := ((Kp.new (ms := []) ne).trans (Kp.new ng)).free nl List.not_mem_nil
      generalize upd (upd (upd H3 e (.lst (ns.map V.int))) g (.lst (ns.map V.int))) l (.lst (ns.map V.int).reverse) = H4 at k5 hl5
      have hd4 : H4 d = some (.dK []) := k5.at_ _ _ hdd List.not_mem_nil
      refine ⟨_, rfl, hd4, deckD l m 0, rfl, by show 3 ≤ 15; decide, ?_⟩
      rw [merge_deck]
      have ndl : d ≠ l := ne_of hd4 hl5 (by intro z; cases z)
      refine k d l _ ⟨m, 0, ns.reverse, upd_same, ?_, by rw [List.length_reverse]; exact hn⟩ ?_ (k2.free nd List.not_mem_nil) ((k2.trans kd).free nl3 List.not_mem_nil)
      · rw [upd_ne ndl.symm, hl5, List.map_reverse]
      · refine ⟨fun b o e1 _ => ?_, fun b xs e1 => ?_⟩
        · have nb : b ≠ d := ne_of_none e1 (k2.free nd List.not_mem_nil)
          rw [upd_ne nb]
          exact k5.at_ _ _ (kd.at_ _ _ (k2.at_ _ _ e1 List.not_mem_nil) List.not_mem_nil) List.not_mem_nil
        · have nb : b ≠ d := ne_of_none e1 (k2.free nd List.not_mem_nil)
          rw [upd_ne nb]
          exact k5.tup _ _ (kd.tup _ _ (k2.tup _ _ e1))
theorem scPick : FnScope ["_law_deck_here", "_law_some"] ["_law_deck_here", "_law_some"] (defScope sPick) := ⟨rfl, rfl, rfl, by decide +kernel, rfl, by decide +kernel, by decide +kernel⟩
def spPick (K : PySem.W.Frag) : Sp := fun vs H Q _ => ∃ (d l a : Addr) (xs : List V), vs = [.ref d, .ref a] ∧ DeckAt H d l ∧ SqL K H a xs ∧ xs ≠ [] ∧ xs.length ≤ 1000000 ∧ a ≠ d ∧ a ≠ l ∧
  ∀ (x : V) (H' : Hp), x ∈ xs → DeckAt H' d l → Kp [d, l] H H' → Q x H'
/-- a def of the module, as callers need it -/
structure Df (K : PySem.W.Frag) (mg : Str → Option Value) (x : Str) (st : Stmt) (ps : List Str) (f : Addr) (fd : FuncData) : Prop where
  F : Fun K x x st f fd
  b : Binds K fd ps []
  g : mg x = some (.ref f)
theorem ok_pick {f fD : Addr} {fd fdD : FuncData} (F : Fun K "_law_pick" "_law_pick" sPick f fd) (B : BI mg) (D : Df K mg "_law_draw" sDraw ["_law_deck_here", "_law_many"] fD fdD) : FnOk P w K mg base CX0 2 f fd ["_law_deck_here", "_law_some"] (spPick K) := by
  refine F.ok scPick (fun vs H Q E h => ?_) (fun cdv A outer s H vs Q E hr h => ?_)
  · obtain ⟨d, l, a, xs, rfl, _⟩ := h
    rfl
  · obtain ⟨d, l, a, xs, rfl, DA, hS, hne, hlen, had, hal, k⟩ := h
    refine ⟨_, pss_one (ps_ret (pe_ix ix_list (pv 1) (pe_call (ok_draw D.F B) hr (by rfl) D.g D.F.kp D.b .nil pass0 (pa_cons (pv 0) (pa_cons (pe_callB call_len_seq (by rfl) B.len PySem.boot_len (pa_cons (pv 1) pa_nil)) pa_nil))) (fun _ _ => rfl))), ?_⟩
    have hpos : 0 < xs.length := List.length_pos_iff.mpr hne
    refine ⟨_, rfl, _, rfl, _, rfl, a, xs, rfl, .inl hS, d, l, _, rfl, DA, by omega, by omega, fun r H' r0 r1 D' kp => ?_⟩
    have hn : a ∉ [d, l] := by simp [had, hal]
    obtain ⟨i, rfl⟩ : ∃ i : Nat, r = (i : Int) := ⟨r.toNat, by omega⟩
    have hi : i < xs.length := by omega
    refine ⟨a, xs, _, xs[i], rfl, rfl, kp.lst hn hS, ?_, ?_⟩
    · exact atI_nat (List.getElem?_eq_getElem hi)
    · exact k _ H' (List.getElem_mem hi) D' kp
end
end Ey
set_option maxHeartbeats 4000000
namespace Ey
open PySem PySem.Spec L2
/-! ### names, terms, scripts as data -/
def wordsL : List Str := ["fun", "place", "truth", "if", "then", "else", "either", "not", "and", "or", "yes", "no", "top", "left", "right", "up", "has", "empty", "same"]
def nsT : Str := "abcdefghijklmnopqrstuvwxyz0123456789_"
def nsL : List Nat := nsT.cps.toList
theorem abc_is : (Str.ofString "abcdefghijklmnopqrstuvwxyz").cps.toList = abc := by decide +kernel
def head1 (l : List Nat) : Bool := match l with
  | c :: _ => decide (c ∈ abc)
  | [] => false
def isName (x : Str) : Bool := decide (1 ≤ x.length) && (decide (x.length ≤ 20) && (!(wordsL.any fun t => decide (t = x)) && (head1 x.cps.toList && x.cps.toList.all fun c => decide (c ∈ nsL))))
def isNameD : PyData → Bool
  | .str g => isName g
  | .none | .bool _ | .int _ | .list _ | .tuple _ | .dict _ => false
def tupD : PyData → List PyData
  | .tuple ds => ds
  | .none | .bool _ | .int _ | .str _ | .list _ | .dict _ => []
def kName : Str := "name"
def kHas : Str := "has"
def kCall : Str := "call"
def shapes : List (Str × Nat) := [("top", 0), ("yes", 0), ("no", 0), ("left", 1), ("right", 1), ("up", 1), ("empty", 1), ("not", 1), ("same", 2), ("and", 2), ("or", 2), ("either", 2), ("if", 3)]
def arity (w : Str) : Option Nat := (shapes.find? fun p => decide (p.1 = w)).map (·.2)
def hdN : List PyData → Bool
  | [x] => isNameD x
  | _ => false
def hdH : List PyData → Bool
  | [_, g] => isTagD g
  | _ => false
def hdC : List PyData → Bool
  | [f, t] => isNameD f && isTup t
  | _ => false
def hdA (r : List PyData) : Option Nat → Bool
  | some n => decide (r.length = n)
  | none => false
/-- the head of a term is right -/
def headedR (w : Str) (r : List PyData) : Bool :=
  if w = kName then hdN r
  else if w = kHas then hdH r
  else if w = kCall then hdC r
  else hdA r (arity w)
def headed : PyData → Bool
  | .tuple (.str w :: r) => headedR w r
  | _ => false
def partsR (w : Str) (r : List PyData) : List PyData :=
  if w = kName then []
  else if w = kHas then r.take 1
  else if w = kCall then tupD (r.getD 1 .none)
  else r
def partsD : PyData → List PyData
  | .tuple (.str w :: r) => partsR w r
  | _ => []
theorem wd_mem {x : PyData} : ∀ {ds : List PyData}, x ∈ ds → wd x + 2 ≤ wdAll ds
  | y :: r, h => by
    rcases List.mem_cons.mp h with rfl | h
    · show wd x + 2 ≤ wd x + 2 + wdAll r
      omega
    · have := wd_mem h
      show wd x + 2 ≤ wd y + 2 + wdAll r
      omega
theorem parts_wdAll (d : PyData) : wdAll (partsD d) ≤ wd d := by
  unfold partsD
  split
  · rename_i w r
    show wdAll (partsR w r) ≤ wd (.str w) + 2 + wdAll r + 3
    unfold partsR
    split
    · exact Nat.zero_le _
    · split
      · cases r with
        | nil => exact Nat.zero_le _
        | cons x r =>
          show wd x + 2 + 0 ≤ _ + 2 + (wd x + 2 + wdAll r) + 3
          omega
      · split
        · match r with
          | [] => exact Nat.zero_le _
          | [_] => exact Nat.zero_le _
          | x :: y :: r =>
            show wdAll (tupD y) ≤ _ + 2 + (wd x + 2 + (wd y + 2 + wdAll r)) + 3
            have : wdAll (tupD y) ≤ wd y := by
              cases y <;> first | exact Nat.zero_le _ | exact Nat.le_add_right _ _
            omega
        · omega
  · exact Nat.zero_le _
theorem parts_wd {d x : PyData} (h : x ∈ partsD d) : wd x < wd d := by
  have := wd_mem h
  have := parts_wdAll d
  omega
def isTerm (d : PyData) : Bool := headed d && (partsD d).attach.all fun x => isTerm x.1
termination_by wd d
decreasing_by exact parts_wd x.2
theorem isTerm_eq (d : PyData) : isTerm d = (headed d && (partsD d).all isTerm) := by
  rw [isTerm]
  congr 1
  have : ∀ (l : List PyData) , (l.attach.all fun x => isTerm x.1) = l.all isTerm := fun l => by
    rw [Bool.eq_iff_iff, List.all_eq_true, List.all_eq_true]
    constructor
    · intro h x hx
      exact h ⟨x, hx⟩ (List.mem_attach _ _)
    · intro h x _
      exact h x.1 x.2
  exact this _
def kFun : Str := "fun"
def kindsL : List Str := ["place", "truth"]
def isKindD (d : PyData) : Bool := kindsL.any fun t => isThe t d
def areNames : PyData → Bool
  | .tuple ds => ds.all isNameD
  | .none | .bool _ | .int _ | .str _ | .list _ | .dict _ => false
def isFunction : PyData → Bool
  | .tuple [a, b, c, d, e] => isThe kFun a && (isNameD b && (isKindD c && (areNames d && isTerm e)))
  | _ => false
def isScript : PyData → Bool
  | .tuple ds => ds.all isFunction
  | .none | .bool _ | .int _ | .str _ | .list _ | .dict _ => false
/-! ### the program -/
abbrev sIsTag : Stmt := topS 3
abbrev sIsName : Stmt := topS 10
abbrev sAreNames : Stmt := topS 11
abbrev sPartsOf : Stmt := topS 12
abbrev sIsHeaded : Stmt := topS 13
abbrev sIsTerm : Stmt := topS 14
abbrev sIsFunction : Stmt := topS 15
abbrev sIsScript : Stmt := topS 16
/-- a def whose code object stands at c, its table at P -/
structure DfT (K : PySem.W.Frag) (mg : Str → Option Value) (x : Str) (st : Stmt) (ps : List Str) (f : Addr) (fd : FuncData) (c : Addr) : Prop extends Df K mg x st ps f fd where
  ex : ∃ (oc : Value) (od : Option Addr) (kV doc pm : Value) (an : Option Addr) (ct : Value) (osl : Array (Option Value)),
    fd = PySem.W.fnOf x x (defArgs st) (defBody st) (defScope st) .none kV doc pm an (.ref c) ct ∧ K.lookup f = some ⟨oc, od, .func fd, osl⟩ ∧ PySem.W.codeIn K (.ref c) x = true
/-- where the program's things stand -/
structure Adr where
  A : Nat → Addr
  D : Nat → FuncData
  c0 : Addr
  P0 : Addr
  c1 : Addr
  P1 : Addr
  c2 : Addr
  P2 : Addr
  c3 : Addr
  P3 : Addr
  aW : Addr
  aK : Addr
  aS : Addr
abbrev Adr.Ts (a : Adr) : List Addr := [a.P0, a.P1, a.P2, a.P3]
structure PF (K : PySem.W.Frag) (w : World) (mg : Str → Option Value) (a : Adr) : Prop where
  B : BI mg
  tag : DfT K mg "is_tag" sIsTag ["thing"] (a.A 3) (a.D 3) a.c0
  name : DfT K mg "is_name" sIsName ["thing"] (a.A 10) (a.D 10) a.c1
  names : DfT K mg "are_names" sAreNames ["thing"] (a.A 11) (a.D 11) a.c2
  parts : Df K mg "parts_of" sPartsOf ["term"] (a.A 12) (a.D 12)
  headed : Df K mg "is_headed" sIsHeaded ["thing"] (a.A 13) (a.D 13)
  term : Df K mg "is_term" sIsTerm ["thing"] (a.A 14) (a.D 14)
  function : Df K mg "is_function" sIsFunction ["thing"] (a.A 15) (a.D 15)
  script : DfT K mg "is_script" sIsScript ["thing"] (a.A 16) (a.D 16) a.c3
  lett : ∃ t, mg "LETTERS" = some (.str "abcdefghijklmnopqrstuvwxyz" t)
  tlen : ∃ t, mg "TAG_LENGTH" = some (.int 8 t)
  sign : ∃ t, mg "NAME_SIGNS" = some (.str nsT t)
  nlen : ∃ t, mg "NAME_LENGTH" = some (.int 20 t)
  word : mg "WORDS" = some (.ref a.aW) ∧ KTup K a.aW (wordsL.map V.str)
  kind : mg "KINDS" = some (.ref a.aK) ∧ KTup K a.aK (kindsL.map V.str)
  shape : mg "PLAIN_SHAPES" = some (.ref a.aS)
  sD : ∃ es n, KDict K w a.aS es n ∧ es.toList.map keyS = (shapes.map (·.1)).map some
  sG : ∀ p ∈ shapes, ∃ t, PySem.W.nsIn K a.aS p.1 = some (some (.int (p.2 : Int) t))
structure BF (base : Heap) (mg : Str → Option Value) (a : Adr) : Prop where
  T0 : GxR.TabB base mg a.c0 a.P0
  T1 : GxR.TabB base mg a.c1 a.P1
  T2 : GxR.TabB base mg a.c2 a.P2
  T3 : GxR.TabB base mg a.c3 a.P3
  M : base.Ns mainGlobals mg
section
variable {Pr : Program} {w : World} {K : PySem.W.Frag} {mg : Str → Option Value} {base : Heap} {ms : List Addr} {a : Adr}
/-- a promise about any data -/
def spD (ms Ts : List Addr) (g : PyData → Bool) : Sp := fun vs H Q _ => ∃ (v : V) (d : PyData), vs = [v] ∧ An ms H v d ∧ wd d ≤ 1000000 ∧ TTs Ts H ∧ (∀ P ∈ Ts, P ∈ ms) ∧ ∀ H', TTs Ts H' → Kp Ts H H' → Q (.bl (g d)) H'
theorem scTag : FnScope ["thing"] ["thing"] (defScope sIsTag) := ⟨rfl, rfl, rfl, by decide +kernel, rfl, by decide +kernel, by decide +kernel⟩
theorem ok_tag (F : PF K w mg a) (b : BF base mg a) : FnOk Pr w K mg base CX0 1 (a.A 3) (a.D 3) ["thing"] (spD ms a.Ts isTagD) := by
  obtain ⟨tL, mL⟩ := F.lett
  obtain ⟨tT, mT⟩ := F.tlen
  have B := F.B
  obtain ⟨oc, od, kV, doc, pm, an, ct, osl, efd, lk, code⟩ := F.tag.ex
  rw [efd]
  rw [efd] at lk
  refine fn_of lk code scTag (fun vs H Q E h => ?_) (fun A outer s H vs Q E hr h => ?_)
  · obtain ⟨v, d, rfl, _⟩ := h
    rfl
  · obtain ⟨v, d, rfl, hv, hz, hT, hsub, k⟩ := h
    refine ⟨_, pss_one (ps_ret (pe_and (pe_callB call_isi (by rfl) B.isi (by decide +kernel) (pa_cons (pv 0) (pa_cons (pe_bltn (v := .ty "str") (by rfl) B.str (by decide +kernel) rfl) pa_nil)))
      (pe_and (pe_chain op_le op_le pe_int (pe_callB call_len_str (by rfl) B.len PySem.boot_len (pa_cons (pv 0) pa_nil)) (pe_glob (v := .int 8) (by rfl) mT ⟨_, rfl⟩))
        (pe_one (pe_allG (P := a.P0) (c := a.c0) hr (by rfl) B.all (by decide +kernel) b.T0 rfl ⟨rfl, rfl, by decide +kernel, rfl, rfl, (by intro y hy e; exfalso; revert y; decide +kernel)⟩ (pv 0) (elt_inG rfl rfl rfl rfl b.M mL) (fun _ => rfl)))))), ?_⟩
    have kH := k H hT .refl
    obtain ⟨ty, hty, kty⟩ := hv.strK (K := K)
    refine ⟨_, rfl, _, .ty "str", ty, .type "str", _, rfl, .ty "str", hty, kty, ?_⟩
    cases hv with
    | non => exact ⟨false, rfl, iteF kH⟩
    | bl b => exact ⟨false, rfl, iteF kH⟩
    | int i => exact ⟨false, rfl, iteF kH⟩
    | lst e => exact ⟨false, rfl, iteF kH⟩
    | tup e => exact ⟨false, rfl, iteF kH⟩
    | dct e => exact ⟨false, rfl, iteF kH⟩
    | str g =>
      refine ⟨true, rfl, iteT ?_⟩
      have hg : g.length ≤ sizeLine := by
        have h1 : 10 * g.length + 2 ≤ 1000000 := hz
        exact Nat.le_trans (show g.length ≤ 1000000 by omega) (by decide)
      have fin : ∀ b, isTag g = b → Q (.bl b) H := fun b e => by
        rw [← e]
        exact kH
      refine ⟨_, rfl, _, rfl, hg, _, _, rfl, rfl, _, rfl, ?_⟩
      by_cases h1 : 1 ≤ g.length
      · rw [decide_eq_true (show (1 : Int) ≤ (g.length : Int) by omega)]
        refine iteT ⟨_, _, rfl, rfl, _, rfl, ?_⟩
        by_cases h2 : g.length ≤ 8
        · rw [decide_eq_true (show (g.length : Int) ≤ 8 by omega)]
          refine iteT ⟨_, rfl, g, rfl, hT _ (by simp), fun H2 h => ?_⟩
          obtain ⟨g2, k2⟩ := hT.tab (by simp) h
          have q : Q (.bl (isTag g)) H2 := k H2 g2 k2
          rw [isTag, decide_eq_true h1, decide_eq_true h2] at q
          rw [abc_is]
          exact q
        · rw [decide_eq_false (show ¬ (g.length : Int) ≤ 8 by omega)]
          refine iteF (fin _ ?_)
          rw [isTag, decide_eq_false h2, Bool.and_false]
          rfl
      · rw [decide_eq_false (show ¬ (1 : Int) ≤ (g.length : Int) by omega)]
        refine iteF ⟨_, rfl, iteF (fin _ ?_)⟩
        rw [isTag, decide_eq_false h1]
        rfl
theorem inV_strs (g : Str) (ts : List Str) : inV (.str g) (ts.map V.str) = ts.any fun t => decide (t = g) := by
  unfold inV
  rw [List.any_map]
  rfl
theorem flat_strs (ts : List Str) : (ts.map V.str).all flatV = true := by
  rw [List.all_map]
  exact List.all_eq_true.mpr fun _ _ => rfl
/-! ### is_name -/
theorem scName : FnScope ["thing"] ["thing"] (defScope sIsName) := ⟨rfl, rfl, rfl, by decide +kernel, rfl, by decide +kernel, by decide +kernel⟩
theorem ok_name (F : PF K w mg a) (b : BF base mg a) : FnOk Pr w K mg base CX0 1 (a.A 10) (a.D 10) ["thing"] (spD ms a.Ts isNameD) := by
  obtain ⟨tL, mL⟩ := F.lett
  obtain ⟨tN, mN⟩ := F.sign
  obtain ⟨tT, mT⟩ := F.nlen
  have B := F.B
  obtain ⟨oc, od, kV, doc, pm, an, ct, osl, efd, lk, code⟩ := F.name.ex
  rw [efd]
  rw [efd] at lk
  refine fn_of lk code scName (fun vs H Q E h => ?_) (fun A outer s H vs Q E hr h => ?_)
  · obtain ⟨v, d, rfl, _⟩ := h
    rfl
  · obtain ⟨v, d, rfl, hv, hz, hT, hsub, k⟩ := h
    refine ⟨_, pss_cons (ps_if (PW.pt (pw_or (pt_not (pt_val (pe_callB call_isi (by rfl) B.isi (by decide +kernel) (pa_cons (pv 0) (pa_cons (pe_bltn (v := .ty "str") (by rfl) B.str (by decide +kernel) rfl) pa_nil)))))
        (pw_or (pt_not (pt_chain op_le op_le pe_int (pe_callB call_len_str (by rfl) B.len PySem.boot_len (pa_cons (pv 0) pa_nil)) (pe_glob (v := .int 20) (by rfl) mT ⟨_, rfl⟩)))
        (pw_or1 (pt_cmpR op_in_seq (pv 0) (pe_glob (v := .ref a.aW) (by rfl) F.word.1 rfl) (by rfl)))))) (pss_one (ps_ret pe_bl)) pss_nil)
      (pss_one (ps_ret (pe_and (pe_cmpR op_in_sign (pe_ix ix_str (pv 0) pe_int (fun _ _ => rfl)) (pe_glob (v := .str "abcdefghijklmnopqrstuvwxyz") (by rfl) mL ⟨_, rfl⟩) (by rfl))
        (pe_one (pe_allG (P := a.P1) (c := a.c1) hr (by rfl) B.all (by decide +kernel) b.T1 rfl ⟨rfl, rfl, by decide +kernel, rfl, rfl, (by intro y hy e; exfalso; revert y; decide +kernel)⟩ (pv 0) (elt_inG rfl rfl rfl rfl b.M mN) (fun _ => rfl)))))), ?_⟩
    have kH := k H hT .refl
    obtain ⟨ty, hty, kty⟩ := hv.strK (K := K)
    refine ⟨_, rfl, _, .ty "str", ty, .type "str", _, rfl, .ty "str", hty, kty, ?_⟩
    cases hv with
    | non => exact ⟨false, rfl, iteT kH⟩
    | bl b => exact ⟨false, rfl, iteT kH⟩
    | int i => exact ⟨false, rfl, iteT kH⟩
    | lst e => exact ⟨false, rfl, iteT kH⟩
    | tup e => exact ⟨false, rfl, iteT kH⟩
    | dct e => exact ⟨false, rfl, iteT kH⟩
    | str g =>
      refine ⟨true, rfl, iteF ?_⟩
      have hg : g.length ≤ sizeLine := by
        have h1 : 10 * g.length + 2 ≤ 1000000 := hz
        exact Nat.le_trans (show g.length ≤ 1000000 by omega) (by decide)
      have fin : ∀ b, isName g = b → Q (.bl b) H := fun b e => by
        rw [← e]
        exact kH
      refine ⟨_, rfl, _, rfl, hg, _, _, rfl, rfl, _, rfl, ?_⟩
      by_cases h1 : 1 ≤ g.length
      · rw [decide_eq_true (show (1 : Int) ≤ (g.length : Int) by omega)]
        refine iteT ⟨_, _, rfl, rfl, _, rfl, ?_⟩
        by_cases h2 : g.length ≤ 20
        · rw [decide_eq_true (show (g.length : Int) ≤ 20 by omega)]
          refine iteF ⟨_, rfl, _, _, rfl, .inr (F.word.2.sqt H), rfl, flat_strs _, _, rfl, ?_⟩
          rw [if_neg Bool.false_ne_true, inV_strs]
          cases e3 : wordsL.any fun t => decide (t = g) with
          | true =>
            refine iteT (fin _ ?_)
            rw [isName, e3]
            simp
          | false =>
            refine iteF ?_
            cases e4 : g.cps.toList with
            | nil =>
              have : g.cps.toList.length = 0 := by rw [e4]; rfl
              have q : g.length = 0 := by rw [← this, Array.length_toList]; rfl
              omega
            | cons c r =>
              refine ⟨_, rfl, g, 0, c, rfl, rfl, hg, by rw [e4]; exact atI_nat (j := 0) rfl, c, _, rfl, rfl, _, rfl, ?_⟩
              rw [abc_is]
              cases e5 : decide (c ∈ abc) with
              | false =>
                refine iteF (fin _ ?_)
                rw [isName, e4]
                show (_ && (_ && (_ && (decide (c ∈ abc) && _)))) = false
                rw [e5]
                simp
              | true =>
                refine iteT ⟨_, rfl, g, rfl, hT _ (by simp), fun H2 h => ?_⟩
                obtain ⟨g2, k2⟩ := hT.tab (by simp) h
                have q : Q (.bl (isName g)) H2 := k H2 g2 k2
                have e6 : isName g = g.cps.toList.all fun c => decide (c ∈ nsL) := by
                  rw [isName, decide_eq_true h1, decide_eq_true h2, e3, e4]
                  show (true && (true && (!false && (decide (c ∈ abc) && _)))) = _
                  rw [e5]
                  rfl
                rw [e6] at q
                exact q
        · rw [decide_eq_false (show ¬ (g.length : Int) ≤ 20 by omega)]
          refine iteT (fin _ ?_)
          rw [isName, decide_eq_false h2]
          simp
      · rw [decide_eq_false (show ¬ (1 : Int) ≤ (g.length : Int) by omega)]
        refine iteF ⟨_, rfl, iteT (fin _ ?_)⟩
        rw [isName, decide_eq_false h1]
        rfl
end
end Ey
set_option maxHeartbeats 4000000
namespace Ey
open PySem PySem.Spec L2
theorem take_all {α : Type} {f : α → Bool} {l : List α} {i : Nat} {x : α} (h : l[i]? = some x) : (l.take (i + 1)).all f = ((l.take i).all f && f x) := by
  rw [List.take_add_one, h, List.all_append]
  simp
theorem AnAll.at {ms : List Addr} {H : Hp} {vs : List V} {ds : List PyData} (h : AnAll ms H vs ds) {i : Nat} {v : V} (e : vs[i]? = some v) : ∃ d, ds[i]? = some d ∧ An ms H v d := h.get e
theorem AnAll.of_at {ms : List Addr} {H : Hp} {vs : List V} {ds : List PyData} (h : AnAll ms H vs ds) {i : Nat} {d : PyData} (e : ds[i]? = some d) : ∃ v, vs[i]? = some v ∧ An ms H v d := by
  have l := h.length
  have lt : i < vs.length := by
    have := (List.getElem?_eq_some_iff.mp e).1
    omega
  obtain ⟨d', e2, a⟩ := h.get (List.getElem?_eq_getElem lt)
  rw [e] at e2
  cases e2
  exact ⟨_, List.getElem?_eq_getElem lt, a⟩
section
variable {Pr : Program} {w : World} {K : PySem.W.Frag} {mg : Str → Option Value} {base : Heap} {ms : List Addr} {a : Adr}
/-! ### are_names -/
theorem scNames : FnScope ["thing"] ["thing"] (defScope sAreNames) := ⟨rfl, rfl, rfl, by decide +kernel, rfl, by decide +kernel, by decide +kernel⟩
theorem ok_names (F : PF K w mg a) (b : BF base mg a) : FnOk Pr w K mg base CX0 4 (a.A 11) (a.D 11) ["thing"] (spD ms a.Ts areNames) := by
  have B := F.B
  obtain ⟨oc, od, kV, doc, pm, an, ct, osl, efd, lk, code⟩ := F.names.ex
  rw [efd]
  rw [efd] at lk
  refine fn_of lk code scNames (fun vs H Q E h => ?_) (fun A outer s H vs Q E hr h => ?_)
  · obtain ⟨v, d, rfl, _⟩ := h
    rfl
  · obtain ⟨v, d, rfl, hv, hz, hT, hsub, k⟩ := h
    refine ⟨_, pss_one (ps_ret (pe_and (pe_callB call_isi (by rfl) B.isi (by decide +kernel) (pa_cons (pv 0) (pa_cons (pe_bltn (v := .ty "tuple") (by rfl) B.tuple (by decide +kernel) rfl) pa_nil)))
      (pe_one (pe_allX (k := 1) (P := a.P2) (c := a.c2) hr (by rfl) B.all (by decide +kernel) b.T2 rfl ⟨rfl, rfl, by decide +kernel, rfl, rfl, (by intro y hy e; exfalso; revert y; decide +kernel)⟩ (by decide +kernel) (pi_tup (pv 0))
        (fun A s H C code fp hr => pe_call (ok_name (ms := ms) F b) hr (by rfl) F.name.g F.name.F.kp F.name.b .nil pass0 (pa_cons (pv 0) pa_nil)) (fun _ => rfl))))), ?_⟩
    have kH := k H hT .refl
    obtain ⟨ty, hty, kty⟩ := hv.tupK (K := K)
    refine ⟨_, rfl, _, .ty "tuple", ty, .type "tuple", _, rfl, .ty "tuple", hty, kty, ?_⟩
    cases hv with
    | non => exact ⟨false, rfl, iteF kH⟩
    | bl b => exact ⟨false, rfl, iteF kH⟩
    | int i => exact ⟨false, rfl, iteF kH⟩
    | str g => exact ⟨false, rfl, iteF kH⟩
    | lst e => exact ⟨false, rfl, iteF kH⟩
    | dct e => exact ⟨false, rfl, iteF kH⟩
    | @tup t xs ds e hds =>
      refine ⟨true, rfl, iteT ⟨_, rfl, t, rfl, ⟨_, sqt_of e⟩, hT _ (by simp), fun H2 h2 => ?_⟩⟩
      obtain ⟨g2, k2⟩ := hT.tab (by simp) h2
      have hw : wdAll ds + 3 ≤ 1000000 := hz
      have ln := hds.length
      refine all_tup (fun i H' => TTs a.Ts H' ∧ Kp a.Ts H H' ∧ (ds.take i).all isNameD = true) ⟨g2, k2, rfl⟩ (fun i H' ⟨_, k', _⟩ => sqt_of (k'.tup _ _ e)) ?_ ?_
      · rintro i x H' hx ⟨g', k', q⟩
        obtain ⟨dx, e1, ax⟩ := hds.get hx
        have := wd_get e1
        refine ⟨_, rfl, x, dx, rfl, ax.kp k' hsub dx, by omega, g', hsub, fun H3 g3 k3 => ⟨_, rfl, ?_⟩⟩
        cases e2 : isNameD dx with
        | true =>
          refine iteT ⟨g3, k'.trans k3, ?_⟩
          rw [take_all e1, q, e2]
          rfl
        | false =>
          have e3 : areNames (.tuple ds) = false := List.all_eq_false.mpr ⟨dx, List.mem_of_getElem? e1, by rw [e2]; exact Bool.false_ne_true⟩
          rw [e3] at k
          exact iteF (k H3 g3 (k'.trans k3))
      · rintro H' ⟨g', k', q⟩
        rw [ln, List.take_length] at q
        have e3 : areNames (.tuple ds) = true := q
        rw [e3] at k
        exact k H' g' k'
/-! ### parts_of -/
theorem scParts : FnScope ["term", "word"] ["term"] (defScope sPartsOf) := ⟨rfl, rfl, rfl, by decide +kernel, rfl, by decide +kernel, by decide +kernel⟩
def spParts (ms : List Addr) : Sp := fun vs H Q _ => ∃ (v : V) (d : PyData) (H0 : Hp) (ms' : List Addr), vs = [v] ∧ An ms H0 v d ∧ Kp ms' H0 H ∧ headed d = true ∧ wd d ≤ 1000000 ∧
  ∀ (p : Addr) (xs : List V) (H' : Hp), H' p = some (.tup xs) → AnAll ms H0 xs (partsD d) → Kp [] H H' → Q (.ref p) H'
theorem nomark2 : True := trivial
theorem ok_parts (F : PF K w mg a) : FnOk Pr w K mg base CX0 1 (a.A 12) (a.D 12) ["term"] (spParts ms) := by
  refine F.parts.F.ok scParts (fun vs H Q E h => ?_) (fun cdv Ar outer s H vs Q E hr h => ?_)
  · obtain ⟨v, d, H0, ms', rfl, _⟩ := h
    rfl
  · obtain ⟨v, d, H0, ms', rfl, hv, k0, hh, hz, k⟩ := h
    refine ⟨_, pss_cons (ps_set (i := 1) scParts.nd rfl (.inl rfl) (pe_ix ix_tup (pv 0) pe_int (fun _ _ => rfl)))
      (pss_cons (ps_if (pt_cmpR op_eq (pv 1) pe_str (nomark _)) (pss_one (ps_ret (pe_tup pa_nil))) pss_nil)
      (pss_cons (ps_if (pt_cmpR op_eq (pv 1) pe_str (nomark _)) (pss_one (ps_ret (pe_tup (pa_cons (pe_ix ix_tup (pv 0) pe_int (fun _ _ => rfl)) pa_nil)))) pss_nil)
      (pss_cons (ps_if (pt_cmpR op_eq (pv 1) pe_str (nomark _)) (pss_one (ps_ret (pe_ix ix_tup (pv 0) pe_int (fun _ _ => rfl)))) pss_nil)
      (pss_one (ps_ret (pe_slice sl_cut (pv 0) (po_some pe_int) po_none)))))), ?_⟩
    unfold headed at hh
    split at hh
    · rename_i wd0 r
      cases hv with
      | @tup t xs _ e00 hds =>
        have e := k0.tup _ _ e00
        cases hds with
        | @cons v0 vs _ _ h0 hr0 =>
          cases h0
          have kw : ∀ (p : Addr) (xs : List V) (H' : Hp), H' p = some (.tup xs) → AnAll ms H0 xs (partsR wd0 r) → Kp [] H H' → Q (.ref p) H' := k
          refine ⟨_, rfl, t, _, _, _, rfl, rfl, sqt_of e, atI_nat (j := 0) rfl, ?_⟩
          refine ⟨_, rfl, rfl, _, rfl, ite2 (fun q => ?_) (fun q1 => ?_)⟩
          · have e1 : wd0 = kName := V.str.inj (of_decide_eq_true q)
            refine ⟨Nat.zero_le _, fun p np => kw p [] _ upd_same ?_ (.new np)⟩
            unfold partsR
            rw [if_pos e1]
            exact .nil
          have n1 : ¬ wd0 = kName := fun z => q1 (decide_eq_true (by rw [z]; rfl))
          refine ⟨_, rfl, rfl, _, rfl, ite2 (fun q => ?_) (fun q2 => ?_)⟩
          · have e2 : wd0 = kHas := V.str.inj (of_decide_eq_true q)
            unfold headedR at hh
            rw [if_neg n1, if_pos e2] at hh
            match r, hr0, hh with
            | [c1, c2], .cons (v := v1) a1 (.cons (v := v2) a2 .nil), _ =>
              refine ⟨_, rfl, t, _, _, _, rfl, rfl, sqt_of e, atI_nat (j := 1) rfl, by show 1 ≤ sizeLine; decide, fun p np => kw p [v1] _ upd_same ?_ (.new np)⟩
              unfold partsR
              rw [if_neg n1, if_pos e2]
              exact .cons a1 .nil
          have n2 : ¬ wd0 = kHas := fun z => q2 (decide_eq_true (by rw [z]; rfl))
          refine ⟨_, rfl, rfl, _, rfl, ite2 (fun q => ?_) (fun q3 => ?_)⟩
          · have e3 : wd0 = kCall := V.str.inj (of_decide_eq_true q)
            unfold headedR at hh
            rw [if_neg n1, if_neg n2, if_pos e3] at hh
            match r, hr0, hh with
            | [c1, c2], .cons (v := v1) a1 (.cons (v := v2) a2 .nil), hh =>
              have ht : isTup c2 = true := by
                have : (isNameD c1 && isTup c2) = true := hh
                exact (Bool.and_eq_true _ _ ▸ this).2
              cases a2 with
              | @tup t2 ys es e2 hes =>
                refine ⟨_, rfl, t, _, _, .ref t2, rfl, rfl, sqt_of e, atI_nat (j := 2) rfl, kw t2 ys H (k0.tup _ _ e2) ?_ .refl⟩
                unfold partsR
                rw [if_neg n1, if_neg n2, if_pos e3]
                exact hes
              | _ => cases ht
          have n3 : ¬ wd0 = kCall := fun z => q3 (decide_eq_true (by rw [z]; rfl))
          refine ⟨_, rfl, _, rfl, t, _, rfl, e, fun p H' ep kp => ?_⟩
          have ec : cutV (V.str wd0 :: vs) (some 1) none = vs := cut_drop (V.str wd0 :: vs) 1
          refine kw p vs H' (ec ▸ ep) ?_ kp
          unfold partsR
          rw [if_neg n1, if_neg n2, if_neg n3]
          exact hr0
    · cases hh
end
end Ey
set_option maxHeartbeats 4000000
namespace Ey
open PySem PySem.Spec L2
theorem dec_int (i j : Int) : decide (V.int i = V.int j) = decide (i = j) := by
  by_cases h : i = j
  · rw [decide_eq_true h, decide_eq_true (congrArg V.int h)]
  · rw [decide_eq_false h, decide_eq_false fun z => h (V.int.inj z)]
theorem arity_none {w : Str} (h : arity w = none) : w ∉ shapes.map (·.1) := fun hw => by
  obtain ⟨p, hp, e⟩ := List.mem_map.mp hw
  unfold arity at h
  rw [Option.map_eq_none_iff, List.find?_eq_none] at h
  exact h p hp (decide_eq_true e)
theorem arity_some {w : Str} {n : Nat} (h : arity w = some n) : ∃ p ∈ shapes, p.1 = w ∧ p.2 = n := by
  unfold arity at h
  obtain ⟨p, hp, e⟩ := Option.map_eq_some_iff.mp h
  exact ⟨p, List.mem_of_find?_eq_some hp, of_decide_eq_true (List.find?_some (p := fun q : Str × Nat => decide (q.1 = w)) hp), e⟩
section
variable {Pr : Program} {w : World} {K : PySem.W.Frag} {mg : Str → Option Value} {base : Heap} {ms : List Addr} {a : Adr}
/-! ### is_headed -/
theorem scHeaded : FnScope ["thing", "word"] ["thing"] (defScope sIsHeaded) := ⟨rfl, rfl, rfl, by decide +kernel, rfl, by decide +kernel, by decide +kernel⟩
theorem ok_headed (F : PF K w mg a) (b : BF base mg a) : FnOk Pr w K mg base CX0 2 (a.A 13) (a.D 13) ["thing"] (spD ms a.Ts headed) := by
  have B := F.B
  obtain ⟨es, n, D, hks⟩ := F.sD
  refine F.headed.F.ok scHeaded (fun vs H Q E h => ?_) (fun cdv Ar outer s H vs Q E hr h => ?_)
  · obtain ⟨v, d, rfl, _⟩ := h
    rfl
  · obtain ⟨v, d, rfl, hv, hz, hT, hsub, k⟩ := h
    refine ⟨_, pss_cons (ps_if (PW.pt (pw_or (pt_not (pt_val (pe_callB call_isi (by rfl) B.isi (by decide +kernel) (pa_cons (pv 0) (pa_cons (pe_bltn (v := .ty "tuple") (by rfl) B.tuple (by decide +kernel) rfl) pa_nil)))))
        (pw_or (pt_not (pt_truth (pv 0) (by intro _; rfl)))
        (pw_or1 (pt_not (pt_val (pe_callB call_isi (by rfl) B.isi (by decide +kernel) (pa_cons (pe_ix ix_tup (pv 0) pe_int (fun _ _ => rfl)) (pa_cons (pe_bltn (v := .ty "str") (by rfl) B.str (by decide +kernel) rfl) pa_nil))))))))) (pss_one (ps_ret pe_bl)) pss_nil)
      (pss_cons (ps_set (i := 1) scHeaded.nd rfl (.inl rfl) (pe_ix ix_tup (pv 0) pe_int (fun _ _ => rfl)))
      (pss_cons (ps_if (pt_cmpR op_eq (pv 1) pe_str (nomark _)) (pss_one (ps_ret (pe_and (pe_cmpR op_eq (pe_callB call_len_seq (by rfl) B.len PySem.boot_len (pa_cons (pv 0) pa_nil)) pe_int (nomark _))
          (pe_one (pe_call (ok_name (ms := ms) F b) hr (by rfl) F.name.g F.name.F.kp F.name.b .nil pass0 (pa_cons (pe_ix ix_tup (pv 0) pe_int (fun _ _ => rfl)) pa_nil)))))) pss_nil)
      (pss_cons (ps_if (pt_cmpR op_eq (pv 1) pe_str (nomark _)) (pss_one (ps_ret (pe_and (pe_cmpR op_eq (pe_callB call_len_seq (by rfl) B.len PySem.boot_len (pa_cons (pv 0) pa_nil)) pe_int (nomark _))
          (pe_one (pe_call (ok_tag (ms := ms) F b) hr (by rfl) F.tag.g F.tag.F.kp F.tag.b .nil pass0 (pa_cons (pe_ix ix_tup (pv 0) pe_int (fun _ _ => rfl)) pa_nil)))))) pss_nil)
      (pss_cons (ps_if (pt_cmpR op_eq (pv 1) pe_str (nomark _)) (pss_one (ps_ret (pe_and (pe_cmpR op_eq (pe_callB call_len_seq (by rfl) B.len PySem.boot_len (pa_cons (pv 0) pa_nil)) pe_int (nomark _))
          (pe_and (pe_call (ok_name (ms := ms) F b) hr (by rfl) F.name.g F.name.F.kp F.name.b .nil pass0 (pa_cons (pe_ix ix_tup (pv 0) pe_int (fun _ _ => rfl)) pa_nil))
          (pe_one (pe_callB call_isi (by rfl) B.isi (by decide +kernel) (pa_cons (pe_ix ix_tup (pv 0) pe_int (fun _ _ => rfl)) (pa_cons (pe_bltn (v := .ty "tuple") (by rfl) B.tuple (by decide +kernel) rfl) pa_nil)))))))) pss_nil)
      (pss_one (ps_ret (pe_and (pe_cmpR (op_in_kd D) (pv 1) (pe_glob (v := .ref a.aS) (by rfl) F.shape rfl) (by rfl))
        (pe_one (pe_cmpR op_eq (pe_callB call_len_seq (by rfl) B.len PySem.boot_len (pa_cons (pv 0) pa_nil)) (pe_op op_add pe_int (pe_ix ix_kdict (pe_glob (v := .ref a.aS) (by rfl) F.shape rfl) (pv 1) (fun _ _ => rfl))) (nomark _)))))))))), ?_⟩
    have kH := k H hT .refl
    obtain ⟨ty, hty, kty⟩ := hv.tupK (K := K)
    refine ⟨_, rfl, _, .ty "tuple", ty, .type "tuple", _, rfl, .ty "tuple", hty, kty, ?_⟩
    cases hv with
    | non => exact ⟨false, rfl, iteT kH⟩
    | bl b => exact ⟨false, rfl, iteT kH⟩
    | int i => exact ⟨false, rfl, iteT kH⟩
    | str g => exact ⟨false, rfl, iteT kH⟩
    | lst e => exact ⟨false, rfl, iteT kH⟩
    | dct e => exact ⟨false, rfl, iteT kH⟩
    | @tup t xs ds e hds =>
      refine ⟨true, rfl, iteF ?_⟩
      cases hds with
      | nil =>
        exact ⟨_, rfl, false, .inr (.inl ⟨_, sqt_of e, rfl⟩), iteT kH⟩
      | @cons v0 vs d0 r h0 hr0 =>
        refine ⟨_, rfl, true, .inr (.inl ⟨_, sqt_of e, rfl⟩), iteF ?_⟩
        obtain ⟨ty0, hty0, kty0⟩ := h0.strK (K := K)
        refine ⟨_, rfl, t, _, _, _, rfl, rfl, sqt_of e, atI_nat (j := 0) rfl, _, .ty "str", ty0, .type "str", _, rfl, .ty "str", hty0, kty0, ?_⟩
        cases h0 with
        | non => exact ⟨false, rfl, iteT kH⟩
        | bl b => exact ⟨false, rfl, iteT kH⟩
        | int i => exact ⟨false, rfl, iteT kH⟩
        | lst e => exact ⟨false, rfl, iteT kH⟩
        | dct e => exact ⟨false, rfl, iteT kH⟩
        | tup e => exact ⟨false, rfl, iteT kH⟩
        | str wd0 =>
          refine ⟨true, rfl, iteF ?_⟩
          have kw : ∀ H', TTs a.Ts H' → Kp a.Ts H H' → Q (.bl (headedR wd0 r)) H' := k
          have kB : ∀ bb H', headedR wd0 r = bb → TTs a.Ts H' → Kp a.Ts H H' → Q (.bl bb) H' := fun bb H' e' g' k' => e' ▸ kw H' g' k'
          have ln := hr0.length
          have hwr : wdAll r ≤ 1000000 := by
            have q : wd (.str wd0) + 2 + wdAll r + 3 ≤ 1000000 := hz
            omega
          have hl : ∀ m : Int, decide (V.int (((V.str wd0 :: vs).length : Nat) : Int) = V.int m) = decide ((r.length : Int) + 1 = m) := fun m => by
            rw [dec_int]
            have e1 : (((V.str wd0 :: vs).length : Nat) : Int) = (r.length : Int) + 1 := by
              rw [List.length_cons, ln]
              omega
            rw [e1]
          refine ⟨_, rfl, t, _, _, _, rfl, rfl, sqt_of e, atI_nat (j := 0) rfl, ?_⟩
          refine ⟨_, rfl, rfl, _, rfl, ite2 (fun q => ?_) (fun q1 => ?_)⟩
          · have e1 : wd0 = kName := V.str.inj (of_decide_eq_true q)
            have hh : headedR wd0 r = hdN r := by
              unfold headedR
              rw [if_pos e1]
            refine ⟨_, rfl, t, _, rfl, .inr (sqt_of e), rfl, _, rfl, ?_⟩
            rw [hl 2]
            match r, hr0, hh, kB, hwr with
            | [], _, hh, kB, _ => exact iteF (kB _ H hh hT .refl)
            | [x], .cons (v := v1) a1 .nil, hh, kB, hwr =>
              refine iteT ⟨_, rfl, t, _, _, _, rfl, rfl, sqt_of e, atI_nat (j := 1) rfl, v1, x, rfl, a1, ?_, hT, hsub, fun H' g' k' => kB _ H' hh g' k'⟩
              have : wd x + 2 + 0 ≤ 1000000 := hwr
              omega
            | x :: y :: r', _, hh, kB, _ =>
              rw [decide_eq_false (show ¬ (((x :: y :: r').length : Nat) : Int) + 1 = 2 by simp only [List.length_cons]; omega)]
              exact iteF (kB _ H hh hT .refl)
          have n1 : ¬ wd0 = kName := fun z => q1 (decide_eq_true (by rw [z]; rfl))
          refine ⟨_, rfl, rfl, _, rfl, ite2 (fun q => ?_) (fun q2 => ?_)⟩
          · have e2 : wd0 = kHas := V.str.inj (of_decide_eq_true q)
            have hh : headedR wd0 r = hdH r := by
              unfold headedR
              rw [if_neg n1, if_pos e2]
            refine ⟨_, rfl, t, _, rfl, .inr (sqt_of e), rfl, _, rfl, ?_⟩
            rw [hl 3]
            match r, hr0, hh, kB, hwr with
            | [], _, hh, kB, _ => exact iteF (kB _ H hh hT .refl)
            | [x], _, hh, kB, _ => exact iteF (kB _ H hh hT .refl)
            | [x, y], .cons (v := v1) a1 (.cons (v := v2) a2 .nil), hh, kB, hwr =>
              refine iteT ⟨_, rfl, t, _, _, _, rfl, rfl, sqt_of e, atI_nat (j := 2) rfl, v2, y, rfl, a2, ?_, hT, hsub, fun H' g' k' => kB _ H' hh g' k'⟩
              have : wd x + 2 + (wd y + 2 + 0) ≤ 1000000 := hwr
              omega
            | x :: y :: z :: r', _, hh, kB, _ =>
              rw [decide_eq_false (show ¬ (((x :: y :: z :: r').length : Nat) : Int) + 1 = 3 by simp only [List.length_cons]; omega)]
              exact iteF (kB _ H hh hT .refl)
          have n2 : ¬ wd0 = kHas := fun z => q2 (decide_eq_true (by rw [z]; rfl))
          refine ⟨_, rfl, rfl, _, rfl, ite2 (fun q => ?_) (fun q3 => ?_)⟩
          · have e3 : wd0 = kCall := V.str.inj (of_decide_eq_true q)
            have hh : headedR wd0 r = hdC r := by
              unfold headedR
              rw [if_neg n1, if_neg n2, if_pos e3]
            refine ⟨_, rfl, t, _, rfl, .inr (sqt_of e), rfl, _, rfl, ?_⟩
            rw [hl 3]
            match r, hr0, hh, kB, hwr with
            | [], _, hh, kB, _ => exact iteF (kB _ H hh hT .refl)
            | [x], _, hh, kB, _ => exact iteF (kB _ H hh hT .refl)
            | [x, y], .cons (v := v1) a1 (.cons (v := v2) a2 .nil), hh, kB, hwr =>
              refine iteT ⟨_, rfl, t, _, _, _, rfl, rfl, sqt_of e, atI_nat (j := 1) rfl, v1, x, rfl, a1, ?_, hT, hsub, fun H' g' k' => ?_⟩
              · have : wd x + 2 + (wd y + 2 + 0) ≤ 1000000 := hwr
                omega
              have hh' : headedR wd0 [x, y] = (isNameD x && isTup y) := hh
              cases en : isNameD x with
              | false =>
                rw [en] at hh'
                exact ⟨_, rfl, iteF (kB _ H' hh' g' k')⟩
              | true =>
                rw [en] at hh'
                obtain ⟨ty2, hty2, kty2⟩ := (a2.kp k' hsub y).tupK (K := K)
                exact ⟨_, rfl, iteT ⟨_, rfl, t, _, _, _, rfl, rfl, sqt_of (k'.tup _ _ e), atI_nat (j := 2) rfl, _, .ty "tuple", ty2, .type "tuple", _, rfl, .ty "tuple", hty2, kty2, kB _ H' hh' g' k'⟩⟩
            | x :: y :: z :: r', _, hh, kB, _ =>
              rw [decide_eq_false (show ¬ (((x :: y :: z :: r').length : Nat) : Int) + 1 = 3 by simp only [List.length_cons]; omega)]
              exact iteF (kB _ H hh hT .refl)
          have n3 : ¬ wd0 = kCall := fun z => q3 (decide_eq_true (by rw [z]; rfl))
          have hh : headedR wd0 r = hdA r (arity wd0) := by
            unfold headedR
            rw [if_neg n1, if_neg n2, if_neg n3]
          cases ea : arity wd0 with
          | none =>
            rw [ea] at hh
            exact ⟨_, rfl, wd0, none, rfl, rfl, no_key D.at_ hks (arity_none ea), false, rfl, iteF (kB _ H hh hT .refl)⟩
          | some m =>
            rw [ea] at hh
            obtain ⟨p, hp, ep, em⟩ := arity_some ea
            obtain ⟨tk, hg⟩ := F.sG p hp
            rw [ep, em] at hg
            refine ⟨_, rfl, wd0, some _, rfl, rfl, hg, true, rfl, iteT ?_⟩
            refine ⟨_, rfl, t, _, rfl, .inr (sqt_of e), _, rfl, a.aS, wd0, .int m, rfl, rfl, ⟨es, n, _, D.at_, D.lit, hg, ⟨tk, rfl⟩⟩, _, _, rfl, rfl, rfl, ?_⟩
            rw [hl]
            have e5 : decide ((r.length : Int) + 1 = 1 + (m : Int)) = decide (r.length = m) := by
              by_cases h : r.length = m
              · rw [decide_eq_true h, decide_eq_true (by omega)]
              · rw [decide_eq_false h, decide_eq_false (by omega)]
            rw [e5]
            exact kB _ H hh hT .refl
end
end Ey
set_option maxHeartbeats 4000000
namespace Ey
open PySem PySem.Spec L2
theorem wdAll_app (xs ys : List PyData) : wdAll (xs ++ ys) = wdAll xs + wdAll ys := by
  induction xs with
  | nil => exact (Nat.zero_add _).symm
  | cons x r ih =>
    show wd x + 2 + wdAll (r ++ ys) = wd x + 2 + wdAll r + wdAll ys
    rw [ih]
    omega
theorem wdAll_rev (xs : List PyData) : wdAll xs.reverse = wdAll xs := by
  induction xs with
  | nil => rfl
  | cons x r ih =>
    rw [List.reverse_cons, wdAll_app, ih]
    show wdAll r + (wd x + 2 + 0) = wd x + 2 + wdAll r
    omega
theorem len_wd2 (ds : List PyData) : 2 * ds.length ≤ wdAll ds := by
  induction ds with
  | nil => exact Nat.le_refl _
  | cons x r ih =>
    show 2 * (r.length + 1) ≤ wd x + 2 + wdAll r
    omega
theorem parts_lt {d : PyData} (h : headed d = true) : wdAll (partsD d) + 3 ≤ wd d := by
  unfold headed at h
  split at h
  · rename_i w r
    show wdAll (partsR w r) + 3 ≤ wd (.str w) + 2 + wdAll r + 3
    have := parts_wdAll (.tuple (.str w :: r))
    unfold partsR
    split
    · show 0 + 3 ≤ _
      omega
    · split
      · cases r with
        | nil =>
          show 0 + 3 ≤ _
          omega
        | cons x r =>
          show wd x + 2 + 0 + 3 ≤ _ + 2 + (wd x + 2 + wdAll r) + 3
          omega
      · split
        · match r with
          | [] =>
            show 0 + 3 ≤ _
            omega
          | [_] =>
            show 0 + 3 ≤ _
            omega
          | x :: y :: r =>
            show wdAll (tupD y) + 3 ≤ _ + 2 + (wd x + 2 + (wd y + 2 + wdAll r)) + 3
            have : wdAll (tupD y) ≤ wd y := by
              cases y <;> first | exact Nat.zero_le _ | exact Nat.le_add_right _ _
            omega
        · omega
  · cases h
section
variable {Pr : Program} {w : World} {K : PySem.W.Frag} {mg : Str → Option Value} {base : Heap} {ms : List Addr} {a : Adr}
/-! ### is_term -/
theorem scTerm : FnScope ["thing", "waiting", "term"] ["thing"] (defScope sIsTerm) := ⟨rfl, rfl, rfl, by decide +kernel, rfl, by decide +kernel, by decide +kernel⟩
theorem ok_term (F : PF K w mg a) (b : BF base mg a) : FnOk Pr w K mg base CX0 3 (a.A 14) (a.D 14) ["thing"] (spD ms a.Ts isTerm) := by
  have B := F.B
  refine F.term.F.ok scTerm (fun vs H Q E h => ?_) (fun cdv Ar outer s H vs Q E hr h => ?_)
  · obtain ⟨v, d, rfl, _⟩ := h
    rfl
  · obtain ⟨v, d, rfl, hv, hz, hT, hsub, k⟩ := h
    refine ⟨_, pss_cons (ps_set (i := 1) scTerm.nd rfl (.inl rfl) (pe_lst (pa_cons (pv 0) pa_nil)))
      (pss_cons (ps_while PassesOwn.never (pt_truth (pv 1) (by intro _; rfl))
        (pss_cons (ps_set (i := 2) scTerm.nd rfl (.inl rfl) (pe_bm0 PySem.F.plainAttrs_list PySem.F.slot_list_pop PySem.F.type_list_pop mt_pop (pv 1)))
        (pss_cons (ps_if (pt_not (pt_val (pe_call (ok_headed (ms := ms) F b) hr (by rfl) F.headed.g F.headed.F.kp F.headed.b .nil pass0 (pa_cons (pv 2) pa_nil)))) (pss_one (ps_ret pe_bl)) pss_nil)
        (pss_one (ps_expr (pe_bm PySem.F.plainAttrs_list PySem.F.slot_list_extend PySem.F.type_list_extend mt_extendT (pv 1)
          (pa_cons (pe_call (ok_parts (ms := ms) F) (hr.mono (by decide)) (by rfl) F.parts.g F.parts.F.kp F.parts.b .nil pass0 (pa_cons (pv 2) pa_nil)) pa_nil)))))))
      (pss_one (ps_ret pe_bl))), ?_⟩
    refine ⟨_, rfl, by show 1 ≤ sizeLine; decide, fun wl nw => ?_⟩
    have nT : wl ∉ a.Ts := hT.nin nw
    refine ⟨fun m σ H2 => ∃ (us : List V) (ds : List PyData) (y : Option V), σ = [some v, some (.ref wl), y] ∧ H2 wl = some (.lst us.reverse) ∧ AnAll ms H us ds ∧ m = wdAll ds ∧ wdAll ds ≤ wd d + 2 ∧ ds.all isTerm = isTerm d ∧ TTs a.Ts H2 ∧ Kp a.Ts H H2,
      ⟨_, [v], [d], none, rfl, upd_same, .cons hv .nil, rfl, Nat.le_refl _, by simp, hT.kp0 (.new nw), .new nw⟩, fun m σ H2 hw => ?_⟩
    obtain ⟨us, ds, y, rfl, hl, hp, rfl, hm, hall, g2, k2⟩ := hw
    refine ⟨_, rfl, _, .inl ⟨_, sql_of hl, rfl⟩, ?_⟩
    cases hp with
    | nil =>
      refine iteF ?_
      have e : isTerm d = true := hall.symm
      exact e ▸ k H2 g2 k2
    | @cons x us d1 ds hx hp =>
      have e0 : (!((x :: us).reverse).isEmpty) = true := by simp
      rw [e0]
      refine iteT ⟨fun σ' H' => ∃ m', m' < wdAll (d1 :: ds) ∧ ∃ (us : List V) (ds : List PyData) (y : Option V), σ' = [some v, some (.ref wl), y] ∧ H' wl = some (.lst us.reverse) ∧ AnAll ms H us ds ∧ m' = wdAll ds ∧ wdAll ds ≤ wd d + 2 ∧ ds.all isTerm = isTerm d ∧ TTs a.Ts H' ∧ Kp a.Ts H H', fun _ _ h => h, ?_⟩
      refine ⟨_, rfl, .inl ⟨rfl, _, sql_of hl⟩, wl, _, x, rfl, rfl, hl, pile_top x us, ?_⟩
      rw [pile_pop]
      have k3 : Kp a.Ts H (upd H2 wl (.lst us.reverse)) := k2.own nw
      have k23 : Kp [wl] H2 (upd H2 wl (.lst us.reverse)) := .put (by simp) hl (fun xs z => by cases z)
      have g3 : TTs a.Ts (upd H2 wl (.lst us.reverse)) := g2.kp k23 fun P hP => by
        rw [List.mem_singleton]
        rintro rfl
        exact nT hP
      have hl3 : (upd H2 wl (.lst us.reverse)) wl = some (.lst us.reverse) := upd_same
      generalize upd H2 wl (.lst us.reverse) = H3 at k3 hl3 g3
      have hm' : wd d1 + 2 + wdAll ds ≤ wd d + 2 := hm
      have hall' : (isTerm d1 && ds.all isTerm) = isTerm d := hall
      have h3 := hx.kp k3 hsub d1
      refine ⟨_, rfl, x, d1, rfl, h3, by omega, g3, hsub, fun H4 g4 k4 => ?_⟩
      have kH4 := k3.trans k4
      cases eh : headed d1 with
      | false =>
        have e1 : isTerm d1 = false := by rw [isTerm_eq, eh]; rfl
        rw [e1, Bool.false_and] at hall'
        rw [← hall'] at k
        exact ⟨false, rfl, iteT (k H4 g4 kH4)⟩
      | true =>
        refine ⟨true, rfl, iteF ?_⟩
        have hl4 : H4 wl = some (.lst us.reverse) := k4.at_ _ _ hl3 nT
        refine ⟨_, rfl, .inl ⟨rfl, _, sql_of hl4⟩, _, rfl, x, d1, H, a.Ts, rfl, hx, kH4, eh, by omega, fun p xs H5 ep ax k5 => ?_⟩
        have hl5 : H5 wl = some (.lst us.reverse) := k5.at_ _ _ hl4 List.not_mem_nil
        have lp := parts_lt eh
        have ln := ax.length
        have ln2 := hp.length
        have lw := len_wd2 ds
        have lw2 := len_wd2 (partsD d1)
        refine ⟨wl, p, us.reverse, xs, rfl, rfl, hl5, ep, ?_, ?_⟩
        · rw [List.length_reverse]
          exact Nat.le_trans (show us.length + xs.length ≤ 2000000 by omega) (by decide)
        have e5 : us.reverse ++ xs = (xs.reverse ++ us).reverse := by rw [List.reverse_append, List.reverse_reverse]
        rw [e5]
        refine ⟨wdAll ((partsD d1).reverse ++ ds), ?_, xs.reverse ++ us, (partsD d1).reverse ++ ds, _, rfl, upd_same, ax.rev.append hp, rfl, ?_, ?_, ?_, (kH4.trans (k5.more (by simp))).own nw⟩
        · rw [wdAll_app, wdAll_rev]
          show wdAll (partsD d1) + wdAll ds < wd d1 + 2 + wdAll ds
          omega
        · rw [wdAll_app, wdAll_rev]
          omega
        · rw [List.all_append, List.all_reverse, ← hall', isTerm_eq d1, eh, Bool.true_and]
        · exact (g4.kp0 k5).kp (.put (ms := [wl]) (by simp) hl5 (fun xs z => by cases z)) fun P hP => by
            rw [List.mem_singleton]
            rintro rfl
            exact nT hP
end
end Ey
set_option maxHeartbeats 4000000
namespace Ey
open PySem PySem.Spec L2
section
variable {Pr : Program} {w : World} {K : PySem.W.Frag} {mg : Str → Option Value} {base : Heap} {ms : List Addr} {a : Adr}
/-! ### is_function -/
theorem scFunction : FnScope ["thing"] ["thing"] (defScope sIsFunction) := ⟨rfl, rfl, rfl, by decide +kernel, rfl, by decide +kernel, by decide +kernel⟩
theorem fun_len {ds : List PyData} (h : ds.length ≠ 5) : isFunction (.tuple ds) = false := by
  match ds, h with
  | [], _ => rfl
  | [_], _ => rfl
  | [_, _], _ => rfl
  | [_, _, _], _ => rfl
  | [_, _, _, _], _ => rfl
  | [_, _, _, _, _], h => exact absurd rfl h
  | _ :: _ :: _ :: _ :: _ :: _ :: _, _ => rfl
theorem ok_function (F : PF K w mg a) (b : BF base mg a) : FnOk Pr w K mg base CX0 5 (a.A 15) (a.D 15) ["thing"] (spD ms a.Ts isFunction) := by
  have B := F.B
  refine F.function.F.ok scFunction (fun vs H Q E h => ?_) (fun cdv Ar outer s H vs Q E hr h => ?_)
  · obtain ⟨v, d, rfl, _⟩ := h
    rfl
  · obtain ⟨v, d, rfl, hv, hz, hT, hsub, k⟩ := h
    have hu1 : (cxOf CX0 Pr w K mg base ["thing"] "is_function" (defScope sIsFunction) (a.A 15) cdv Ar outer s H E).nox.A.units + 1 < cLine := Nat.lt_of_le_of_lt (Nat.add_le_add_left (by decide : 1 ≤ 64) _) hr.units
    refine ⟨_, pss_cons (ps_if (PW.pt (pw_or (pt_not (pt_val (pe_callB call_isi (by rfl) B.isi (by decide +kernel) (pa_cons (pv 0) (pa_cons (pe_bltn (v := .ty "tuple") (by rfl) B.tuple (by decide +kernel) rfl) pa_nil)))))
        (pw_or (pt_cmpR op_ne (pe_callB call_len_seq (by rfl) B.len PySem.boot_len (pa_cons (pv 0) pa_nil)) pe_int (nomark _))
        (pw_or1 (pt_cmpR (op_neAn (Nat.lt_of_succ_lt hu1)) (pe_ix ix_tup (pv 0) pe_int (fun _ _ => rfl)) pe_str (nomark _)))))) (pss_one (ps_ret pe_bl)) pss_nil)
      (pss_one (ps_ret (pe_and (pe_call (ok_name (ms := ms) F b) (hr.mono (by decide)) (by rfl) F.name.g F.name.F.kp F.name.b .nil pass0 (pa_cons (pe_ix ix_tup (pv 0) pe_int (fun _ _ => rfl)) pa_nil))
        (pe_and (pe_cmpR (op_inAn hu1) (pe_ix ix_tup (pv 0) pe_int (fun _ _ => rfl)) (pe_glob (v := .ref a.aK) (by rfl) F.kind.1 rfl) (by rfl))
        (pe_and (pe_call (ok_names (ms := ms) F b) hr (by rfl) F.names.g F.names.F.kp F.names.b .nil pass0 (pa_cons (pe_ix ix_tup (pv 0) pe_int (fun _ _ => rfl)) pa_nil))
        (pe_one (pe_call (ok_term (ms := ms) F b) (hr.mono (by decide)) (by rfl) F.term.g F.term.F.kp F.term.b .nil pass0 (pa_cons (pe_ix ix_tup (pv 0) pe_int (fun _ _ => rfl)) pa_nil)))))))), ?_⟩
    have kH := k H hT .refl
    obtain ⟨ty, hty, kty⟩ := hv.tupK (K := K)
    refine ⟨_, rfl, _, .ty "tuple", ty, .type "tuple", _, rfl, .ty "tuple", hty, kty, ?_⟩
    cases hv with
    | non => exact ⟨false, rfl, iteT kH⟩
    | bl b => exact ⟨false, rfl, iteT kH⟩
    | int i => exact ⟨false, rfl, iteT kH⟩
    | str g => exact ⟨false, rfl, iteT kH⟩
    | lst e => exact ⟨false, rfl, iteT kH⟩
    | dct e => exact ⟨false, rfl, iteT kH⟩
    | @tup t xs ds e hds =>
      refine ⟨true, rfl, iteF ?_⟩
      have ln := hds.length
      refine ⟨_, rfl, t, _, rfl, .inr (sqt_of e), rfl, _, rfl, ?_⟩
      rw [dec_int, ln]
      by_cases h5 : ds.length = 5
      · rw [decide_eq_true (show (ds.length : Int) = 5 by omega)]
        refine iteF ?_
        match ds, hds, hz, k, h5 with
        | [c0, c1, c2, c3, c4], .cons (v := v0) a0 (.cons (v := v1) a1 (.cons (v := v2) a2 (.cons (v := v3) a3 (.cons (v := v4) a4 .nil)))), hz, k, _ =>
          have hw : wd c0 + 2 + (wd c1 + 2 + (wd c2 + 2 + (wd c3 + 2 + (wd c4 + 2 + 0)))) + 3 ≤ 1000000 := hz
          have kB : ∀ bb H', (isThe kFun c0 && (isNameD c1 && (isKindD c2 && (areNames c3 && isTerm c4)))) = bb → TTs a.Ts H' → Kp a.Ts H H' → Q (.bl bb) H' := fun bb H' e' g' k' => e' ▸ k H' g' k'
          refine ⟨_, rfl, t, _, _, _, rfl, rfl, sqt_of e, atI_nat (j := 0) rfl, ms, c0, _, a0, rfl, _, rfl, ?_⟩
          cases e0 : isThe "fun" c0 with
          | false =>
            have e0' : isThe kFun c0 = false := e0
            exact iteT (kB _ H (by rw [e0']; rfl) hT .refl)
          | true =>
            have e0' : isThe kFun c0 = true := e0
            refine iteF ?_
            refine ⟨_, rfl, t, _, _, _, rfl, rfl, sqt_of e, atI_nat (j := 1) rfl, v1, c1, rfl, a1, by omega, hT, hsub, fun H1 g1 k1 => ⟨_, rfl, ?_⟩⟩
            cases e1 : isNameD c1 with
            | false => exact iteF (kB _ H1 (by rw [e0', e1]; rfl) g1 k1)
            | true =>
              refine iteT ⟨_, rfl, t, _, _, _, rfl, rfl, sqt_of (k1.tup _ _ e), atI_nat (j := 2) rfl, ms, c2, a.aK, kindsL, a2.kp k1 hsub c2, rfl, F.kind.2.sqt H1, _, rfl, ?_⟩
              show if isKindD c2 = true then _ else _
              cases e2 : isKindD c2 with
              | false => exact iteF (kB _ H1 (by rw [e0', e1, e2]; rfl) g1 k1)
              | true =>
                refine iteT ⟨_, rfl, t, _, _, _, rfl, rfl, sqt_of (k1.tup _ _ e), atI_nat (j := 3) rfl, v3, c3, rfl, a3.kp k1 hsub c3, by omega, g1, hsub, fun H2 g2 k2 => ⟨_, rfl, ?_⟩⟩
                have k12 := k1.trans k2
                cases e3 : areNames c3 with
                | false => exact iteF (kB _ H2 (by rw [e0', e1, e2, e3]; rfl) g2 k12)
                | true =>
                  refine iteT ⟨_, rfl, t, _, _, _, rfl, rfl, sqt_of (k12.tup _ _ e), atI_nat (j := 4) rfl, v4, c4, rfl, a4.kp k12 hsub c4, by omega, g2, hsub, fun H3 g3 k3 => ?_⟩
                  exact kB _ H3 (by rw [e0', e1, e2, e3]; rfl) g3 (k12.trans k3)
      · rw [decide_eq_false (show ¬ (ds.length : Int) = 5 by omega)]
        have e1 := fun_len h5
        rw [e1] at kH
        exact iteT kH
/-! ### is_script -/
theorem scScript : FnScope ["thing"] ["thing"] (defScope sIsScript) := ⟨rfl, rfl, rfl, by decide +kernel, rfl, by decide +kernel, by decide +kernel⟩
theorem ok_script (F : PF K w mg a) (b : BF base mg a) : FnOk Pr w K mg base CX0 8 (a.A 16) (a.D 16) ["thing"] (spD ms a.Ts isScript) := by
  have B := F.B
  obtain ⟨oc, od, kV, doc, pm, an, ct, osl, efd, lk, code⟩ := F.script.ex
  rw [efd]
  rw [efd] at lk
  refine fn_of lk code scScript (fun vs H Q E h => ?_) (fun A outer s H vs Q E hr h => ?_)
  · obtain ⟨v, d, rfl, _⟩ := h
    rfl
  · obtain ⟨v, d, rfl, hv, hz, hT, hsub, k⟩ := h
    refine ⟨_, pss_one (ps_ret (pe_and (pe_callB call_isi (by rfl) B.isi (by decide +kernel) (pa_cons (pv 0) (pa_cons (pe_bltn (v := .ty "tuple") (by rfl) B.tuple (by decide +kernel) rfl) pa_nil)))
      (pe_one (pe_allX (k := 5) (P := a.P3) (c := a.c3) hr (by rfl) B.all (by decide +kernel) b.T3 rfl ⟨rfl, rfl, by decide +kernel, rfl, rfl, (by intro y hy e; exfalso; revert y; decide +kernel)⟩ (by decide +kernel) (pi_tup (pv 0))
        (fun A s H C code fp hr => pe_call (ok_function (ms := ms) F b) hr (by rfl) F.function.g F.function.F.kp F.function.b .nil pass0 (pa_cons (pv 0) pa_nil)) (fun _ => rfl))))), ?_⟩
    have kH := k H hT .refl
    obtain ⟨ty, hty, kty⟩ := hv.tupK (K := K)
    refine ⟨_, rfl, _, .ty "tuple", ty, .type "tuple", _, rfl, .ty "tuple", hty, kty, ?_⟩
    cases hv with
    | non => exact ⟨false, rfl, iteF kH⟩
    | bl b => exact ⟨false, rfl, iteF kH⟩
    | int i => exact ⟨false, rfl, iteF kH⟩
    | str g => exact ⟨false, rfl, iteF kH⟩
    | lst e => exact ⟨false, rfl, iteF kH⟩
    | dct e => exact ⟨false, rfl, iteF kH⟩
    | @tup t xs ds e hds =>
      refine ⟨true, rfl, iteT ⟨_, rfl, t, rfl, ⟨_, sqt_of e⟩, hT _ (by simp), fun H2 h2 => ?_⟩⟩
      obtain ⟨g2, k2⟩ := hT.tab (by simp) h2
      have hw : wdAll ds + 3 ≤ 1000000 := hz
      have ln := hds.length
      refine all_tup (fun i H' => TTs a.Ts H' ∧ Kp a.Ts H H' ∧ (ds.take i).all isFunction = true) ⟨g2, k2, rfl⟩ (fun i H' ⟨_, k', _⟩ => sqt_of (k'.tup _ _ e)) ?_ ?_
      · rintro i x H' hx ⟨g', k', q⟩
        obtain ⟨dx, e1, ax⟩ := hds.get hx
        have := wd_get e1
        refine ⟨_, rfl, x, dx, rfl, ax.kp k' hsub dx, by omega, g', hsub, fun H3 g3 k3 => ⟨_, rfl, ?_⟩⟩
        cases e2 : isFunction dx with
        | true =>
          refine iteT ⟨g3, k'.trans k3, ?_⟩
          rw [take_all e1, q, e2]
          rfl
        | false =>
          have e3 : isScript (.tuple ds) = false := List.all_eq_false.mpr ⟨dx, List.mem_of_getElem? e1, by rw [e2]; exact Bool.false_ne_true⟩
          rw [e3] at k
          exact iteF (k H3 g3 (k'.trans k3))
      · rintro H' ⟨g', k', q⟩
        rw [ln, List.take_length] at q
        have e3 : isScript (.tuple ds) = true := q
        rw [e3] at k
        exact k H' g' k'
end
end Ey
set_option maxHeartbeats 4000000
namespace Ey
open PySem PySem.Spec L2
abbrev sLIsTag : Stmt := topS 25
abbrev sTags : Stmt := topS 26
abbrev sWords : Stmt := topS 27
abbrev sLIsName : Stmt := topS 28
abbrev sSides : Stmt := topS 29
section
variable {X : Cx}
/-- xs == [], xs any list -/
def rEqEL : R2 := fun x y H Q => ∃ a b xs, x = .ref a ∧ y = .ref b ∧ H a = some (.lst xs) ∧ H b = some (.lst []) ∧ Q (.bl xs.isEmpty) H
theorem op_eqEL (hu : X.A.units + 64 < cLine) : OpR X (compareOp .Eq) rEqEL := by
  intro pins s σ H x y v u Q I rx ry h
  obtain ⟨a, b, xs, rfl, rfl, h1, h2, q⟩ := h
  cases rx
  cases ry
  obtain ⟨its, r, p⟩ := lst_obj I h1
  obtain ⟨its2, r2, p2⟩ := lst_obj I h2
  cases r2
  cases r with
  | nil => exact PySem.W.eq_listsT (n := 1) (e := fun _ => true) p p2 rfl (fun j h1 h2 => absurd h2 (by simp)) (by omega) ⟨.bl true, H, I, rfl, q⟩
  | cons _ _ => exact SeqAt.RcAt.lists_lengths p p2 (by simp) (by omega) _ _ _ _ ⟨.bl false, H, I, rfl, q⟩
end
section
variable {Pr : Program} {w : World} {K : PySem.W.Frag} {mg : Str → Option Value} {base : Heap} {ms : List Addr}
theorem scLIsTag : FnScope ["_law_thing", "_law_x"] ["_law_thing"] (defScope sLIsTag) := ⟨rfl, rfl, rfl, by decide +kernel, rfl, by decide +kernel, by decide +kernel⟩
def spLIsTag (ms : List Addr) : Sp := fun vs H Q _ => ∃ (v : V) (d : PyData), vs = [v] ∧ An ms H v d ∧ fit d = true ∧ wd d ≤ 1000000 ∧ ∀ H', Kp [] H H' → Q (.bl (isTagD d)) H'
theorem ok_lIsTag {f : Addr} {fd : FuncData} (F : Fun K "_law_is_tag" "_law_is_tag" sLIsTag f fd) (B : BI mg) : FnOk Pr w K mg base CX0 1 f fd ["_law_thing"] (spLIsTag ms) := by
  refine F.ok scLIsTag (fun vs H Q E h => ?_) (fun cdv Ar outer s H vs Q E hr h => ?_)
  · obtain ⟨v, d, rfl, _⟩ := h
    rfl
  · obtain ⟨v, d, rfl, hv, hf, hz, k⟩ := h
    refine ⟨_, pss_cons (ps_if (PW.pt (pw_or (pt_not (pt_val (pe_callB call_isi (by rfl) B.isi (by decide +kernel) (pa_cons (pv 0) (pa_cons (pe_bltn (v := .ty "str") (by rfl) B.str (by decide +kernel) rfl) pa_nil)))))
        (pw_or1 (pt_not (pt_chain op_lt op_lt pe_int (pe_callB call_len_str (by rfl) B.len PySem.boot_len (pa_cons (pv 0) pa_nil)) pe_int))))) (pss_one (ps_ret pe_bl)) pss_nil)
      (pss_one (ps_ret (pe_cmpR (op_eqD hr.units) (pe_lc (own := [("_law_x", 1)]) (g := gName 1) rfl scLIsTag.nd (pi_str (pv 0)) (blkOk_by (N := ["_law_thing", "_law_x"]) (sc := defScope sLIsTag) (by decide +kernel)) (fun _ _ _ _ _ => pg_name (i := 1) scLIsTag.nd rfl (Or.inl rfl))
        (fun _ _ _ _ _ => pts_one (pt_cmpR op_notIn_str (pv 1) pe_str (by rfl))) (fun _ _ _ _ _ => pv 1)) (pe_lst pa_nil) (nomark _)))), ?_⟩
    have kH := k H .refl
    obtain ⟨ty, hty, kty⟩ := hv.strK (K := K)
    refine ⟨_, rfl, _, .ty "str", ty, .type "str", _, rfl, .ty "str", hty, kty, ?_⟩
    cases hv with
    | non => exact ⟨false, rfl, iteT kH⟩
    | bl b => exact ⟨false, rfl, iteT kH⟩
    | int i => exact ⟨false, rfl, iteT kH⟩
    | lst e => exact ⟨false, rfl, iteT kH⟩
    | tup e => exact ⟨false, rfl, iteT kH⟩
    | dct e => exact ⟨false, rfl, iteT kH⟩
    | str g =>
      refine ⟨true, rfl, iteF ?_⟩
      have hg : g.length ≤ 1000000 := by
        have h1 : 10 * g.length + 2 ≤ 1000000 := hz
        omega
      have hgs : g.length ≤ sizeLine := Nat.le_trans hg (by decide)
      have fin : ∀ b, isTag g = b → Q (.bl b) H := fun b e => by
        rw [← e]
        exact kH
      refine ⟨_, rfl, _, rfl, hgs, ?_⟩
      refine ⟨_, _, rfl, rfl, _, rfl, ?_⟩
      by_cases h1 : 1 ≤ g.length
      · rw [decide_eq_true (show (0 : Int) < (g.length : Int) by omega)]
        refine iteT ⟨_, _, rfl, rfl, _, rfl, ?_⟩
        by_cases h2 : g.length ≤ 8
        · rw [decide_eq_true (show (g.length : Int) < 9 by omega)]
          refine iteF ⟨_, rfl, g, rfl, fun D nD => ?_⟩
          refine lcStr (z := g) (fun i H2 => H2 D = some (.lst (((g.cps.toList.take i).filter fun c => !decide (c ∈ abc)).map fun c => V.str (st [c]))) ∧ Kp [] H H2)
            ⟨upd_same, .new nD⟩ ?_ ?_
          · rintro i c H2 hi ⟨hD, kH⟩
            refine ⟨rfl, _, rfl, _, _, rfl, rfl, _, rfl, ?_⟩
            have fo : (!(Builtin.Str.occurrences (Str.ofString "abcdefghijklmnopqrstuvwxyz") (st [c]) 0 (Str.ofString "abcdefghijklmnopqrstuvwxyz").length 1).isEmpty) = decide (c ∈ abc) := by
              rw [← abc_is]
              exact PySem.StrLaws.found_one _ c
            have tf := take_filter (f := fun c => !decide (c ∈ abc)) hi
            rw [fo]
            cases e : decide (c ∈ abc) with
            | true =>
              refine iteF ⟨?_, kH⟩
              rw [tf, e, if_neg (by simp), List.append_nil]
              exact hD
            | false =>
              refine iteT ⟨_, rfl, _, hD, ?_, ?_, kH.own nD⟩
              · rw [List.length_map]
                have a := List.length_filter_le (fun c => !decide (c ∈ abc)) (g.cps.toList.take i)
                rw [List.length_take] at a
                have b : g.cps.toList.length = g.length := by rw [Array.length_toList]; rfl
                exact Nat.lt_of_le_of_lt (show _ ≤ 8 by omega) (by decide)
              · rw [upd_same, tf, e, List.map_append]
                rfl
          rintro H3 ⟨hD, k3⟩
          rw [List.take_length] at hD
          have low3 : ∀ c ∈ g.cps.toList.filter (fun c => !decide (c ∈ abc)), c < 1000 := fun c hc => by
            have a : (g.cps.toList.all fun c => decide (c < 1000)) = true := hf
            exact of_decide_eq_true (List.all_eq_true.mp a c (List.mem_filter.mp hc).1)
          refine ⟨Nat.zero_le _, fun p np => ⟨.list ((g.cps.toList.filter fun c => !decide (c ∈ abc)).map fun c => .str (st [c])), .list [], .lst (sql_of ?_) (dp_signs _), .lst (sql_of upd_same) .nil, shaped_signs _ low3, rfl, ?_⟩⟩
          · rw [upd_ne (ne_of_none hD np)]
            exact hD
          rw [eqv_strs, ← isTag_alt g h1 h2]
          exact k _ (k3.trans (.new np))
        · rw [decide_eq_false (show ¬ (g.length : Int) < 9 by omega)]
          refine iteT (fin _ ?_)
          rw [isTag, decide_eq_false h2, Bool.and_false]
          rfl
      · rw [decide_eq_false (show ¬ (0 : Int) < (g.length : Int) by omega)]
        refine iteF ⟨false, rfl, iteT (fin _ ?_)⟩
        rw [isTag, decide_eq_false h1]
        rfl

/-! ### tags, words -/
def tagL : List Str := ["a", "jkqvwz", "c", "if", "else", "abcdefgh", "z", "has", "yes", "and"]
theorem tagL_ok : ∀ g ∈ tagL, isTag g = true := by decide +kernel
theorem scTags : FnScope [] [] (defScope sTags) := ⟨rfl, rfl, rfl, by decide +kernel, rfl, by decide +kernel, by decide +kernel⟩
def spStrs (ts : List Str) : Sp := fun vs H Q _ => vs = [] ∧ ∀ (p : Addr) (H' : Hp), H p = none → H' p = some (.lst (ts.map V.str)) → Kp [] H H' → Q (.ref p) H'
theorem ok_tags {f : Addr} {fd : FuncData} (F : Fun K "_law_tags" "_law_tags" sTags f fd) : FnOk Pr w K mg base CX0 1 f fd [] (spStrs tagL) := by
  refine F.ok scTags (fun vs H Q E h => ?_) (fun cdv A outer s H vs Q E hr h => ?_)
  · obtain ⟨rfl, _⟩ := h
    rfl
  · obtain ⟨rfl, k⟩ := h
    refine ⟨_, pss_one (ps_ret (pe_lst (pa_cons pe_str (pa_cons pe_str (pa_cons pe_str (pa_cons pe_str (pa_cons pe_str (pa_cons pe_str (pa_cons pe_str (pa_cons pe_str (pa_cons pe_str (pa_cons pe_str pa_nil)))))))))))), ?_⟩
    exact ⟨by show 10 ≤ sizeLine; decide, fun p np => k p _ np upd_same (.new np)⟩
theorem scWords : FnScope ["_law_found"] [] (defScope sWords) := ⟨rfl, rfl, rfl, by decide +kernel, rfl, by decide +kernel, by decide +kernel⟩
theorem ok_words {f : Addr} {fd : FuncData} (F : Fun K "_law_words" "_law_words" sWords f fd) : FnOk Pr w K mg base CX0 1 f fd [] (spStrs wordsL) := by
  refine F.ok scWords (fun vs H Q E h => ?_) (fun cdv A outer s H vs Q E hr h => ?_)
  · obtain ⟨rfl, _⟩ := h
    rfl
  · obtain ⟨rfl, k⟩ := h
    refine ⟨_, pss_cons (ps_set (i := 0) scWords.nd rfl (.inl rfl) (pe_lst (pa_cons pe_str (pa_cons pe_str (pa_cons pe_str (pa_cons pe_str (pa_cons pe_str (pa_cons pe_str (pa_cons pe_str (pa_cons pe_str (pa_cons pe_str (pa_cons pe_str (pa_cons pe_str (pa_cons pe_str (pa_cons pe_str (pa_cons pe_str (pa_cons pe_str (pa_cons pe_str pa_nil))))))))))))))))))
      (pss_one (ps_ret (pe_op op_cat (pv 0) (pe_lst (pa_cons pe_str (pa_cons pe_str (pa_cons pe_str pa_nil))))))), ?_⟩
    refine ⟨by show 16 ≤ sizeLine; decide, fun p np => ?_⟩
    have k1 : Kp [] H (upd H p (.lst (List.map V.str ["fun", "place", "truth", "if", "then", "else", "either", "not", "and", "or", "yes", "no", "top", "left", "right", "up"]))) := .new np
    refine ⟨_, rfl, by show 3 ≤ sizeLine; decide, fun q nq => ?_⟩
    have k2 := k1.trans (Kp.new (o := .lst [.str "has", .str "empty", .str "same"]) nq)
    have npq : p ≠ q := ne_of_none upd_same nq
    refine ⟨p, q, _, _, rfl, rfl, (by rw [upd_ne npq]; exact upd_same), upd_same, by show 16 + 3 ≤ sizeLine; decide, fun r nr => ?_⟩
    exact k r _ (k2.free nr List.not_mem_nil) upd_same (k2.trans (.new nr))
end
end Ey
set_option maxHeartbeats 4000000
namespace Ey
open PySem PySem.Spec L2
/-- what the law's own looks lean on -/
structure LF (K : PySem.W.Frag) (mg : Str → Option Value) (A : Nat → Addr) (D : Nat → FuncData) : Prop where
  B : BI mg
  tag : Df K mg "_law_is_tag" sLIsTag ["_law_thing"] (A 25) (D 25)
  tags : Df K mg "_law_tags" sTags [] (A 26) (D 26)
  words : Df K mg "_law_words" sWords [] (A 27) (D 27)
  name : Df K mg "_law_is_name" sLIsName ["_law_thing"] (A 28) (D 28)
  sides : Df K mg "_law_sides" sSides ["_law_term"] (A 29) (D 29)
section
variable {Pr : Program} {w : World} {K : PySem.W.Frag} {mg : Str → Option Value} {base : Heap} {ms : List Addr} {A : Nat → Addr} {D : Nat → FuncData}
/-- a promise about any data, of the law's own looks -/
def spL (ms : List Addr) (g : PyData → Bool) : Sp := fun vs H Q _ => ∃ (v : V) (d : PyData), vs = [v] ∧ An ms H v d ∧ fit d = true ∧ wd d ≤ 1000000 ∧ ∀ H', Kp [] H H' → Q (.bl (g d)) H'
theorem go_tag (L : LF K mg A D) : FnOk Pr w K mg base CX0 1 (A 25) (D 25) ["_law_thing"] (spL ms isTagD) := ok_lIsTag L.tag.F L.B
theorem all_sign (l : List Nat) (p : Nat → Bool) : (l.filter fun c => !p c).isEmpty = l.all p := by
  induction l with
  | nil => rfl
  | cons c r ih =>
    rw [List.filter_cons, List.all_cons, ← ih]
    cases p c <;> rfl
theorem scLName : FnScope ["_law_thing", "_law_x"] ["_law_thing"] (defScope sLIsName) := ⟨rfl, rfl, rfl, by decide +kernel, rfl, by decide +kernel, by decide +kernel⟩
theorem ok_lName (L : LF K mg A D) : FnOk Pr w K mg base CX0 2 (A 28) (D 28) ["_law_thing"] (spL ms isNameD) := by
  have B := L.B
  refine L.name.F.ok scLName (fun vs H Q E h => ?_) (fun cdv Ar outer s H vs Q E hr h => ?_)
  · obtain ⟨v, d, rfl, _⟩ := h
    rfl
  · obtain ⟨v, d, rfl, hv, hf, hz, k⟩ := h
    refine ⟨_, pss_cons (ps_if (PW.pt (pw_or (pt_not (pt_val (pe_callB call_isi (by rfl) B.isi (by decide +kernel) (pa_cons (pv 0) (pa_cons (pe_bltn (v := .ty "str") (by rfl) B.str (by decide +kernel) rfl) pa_nil)))))
        (pw_or (pt_not (pt_chain op_lt op_lt pe_int (pe_callB call_len_str (by rfl) B.len PySem.boot_len (pa_cons (pv 0) pa_nil)) pe_int))
        (pw_or1 (pt_cmpR op_notIn_sign (pe_ix ix_str (pv 0) pe_int (fun _ _ => rfl)) pe_str (by rfl)))))) (pss_one (ps_ret pe_bl)) pss_nil)
      (pss_one (ps_ret (pe_and (pe_cmpR op_notIn_seq (pv 0) (pe_call0 (ok_words L.words.F) (hr.mono (by decide)) (by rfl) L.words.g L.words.F.kp L.words.b .nil pass0) (by rfl))
        (pe_one (pe_cmpR (op_eqEL hr.units) (pe_lc (own := [("_law_x", 1)]) (g := gName 1) rfl scLName.nd (pi_str (pv 0)) (blkOk_by (N := ["_law_thing", "_law_x"]) (sc := defScope sLIsName) (by decide +kernel)) (fun _ _ _ _ _ => pg_name (i := 1) scLName.nd rfl (Or.inl rfl))
        (fun _ _ _ _ _ => pts_one (pt_cmpR op_notIn_sign (pv 1) pe_str (by rfl))) (fun _ _ _ _ _ => pv 1)) (pe_lst pa_nil) (nomark _)))))), ?_⟩
    have kH := k H .refl
    obtain ⟨ty, hty, kty⟩ := hv.strK (K := K)
    refine ⟨_, rfl, _, .ty "str", ty, .type "str", _, rfl, .ty "str", hty, kty, ?_⟩
    cases hv with
    | non => exact ⟨false, rfl, iteT kH⟩
    | bl b => exact ⟨false, rfl, iteT kH⟩
    | int i => exact ⟨false, rfl, iteT kH⟩
    | lst e => exact ⟨false, rfl, iteT kH⟩
    | tup e => exact ⟨false, rfl, iteT kH⟩
    | dct e => exact ⟨false, rfl, iteT kH⟩
    | str g =>
      refine ⟨true, rfl, iteF ?_⟩
      have hg : g.length ≤ 1000000 := by
        have h1 : 10 * g.length + 2 ≤ 1000000 := hz
        omega
      have hgs : g.length ≤ sizeLine := Nat.le_trans hg (by decide)
      have kB : ∀ bb H', isName g = bb → Kp [] H H' → Q (.bl bb) H' := fun bb H' e' k' => e' ▸ k H' k'
      refine ⟨_, rfl, _, rfl, hgs, ?_⟩
      refine ⟨_, _, rfl, rfl, _, rfl, ?_⟩
      by_cases h1 : 1 ≤ g.length
      · rw [decide_eq_true (show (0 : Int) < (g.length : Int) by omega)]
        refine iteT ⟨_, _, rfl, rfl, _, rfl, ?_⟩
        by_cases h2 : g.length ≤ 20
        · rw [decide_eq_true (show (g.length : Int) < 21 by omega)]
          refine iteF ?_
          cases e4 : g.cps.toList with
          | nil =>
            have : g.cps.toList.length = 0 := by rw [e4]; rfl
            have q : g.length = 0 := by rw [← this, Array.length_toList]; rfl
            omega
          | cons c r =>
            refine ⟨_, rfl, g, 0, c, rfl, rfl, hgs, by rw [e4]; exact atI_nat (j := 0) rfl, c, _, rfl, rfl, _, rfl, ?_⟩
            rw [abc_is]
            cases e5 : decide (c ∈ abc) with
            | false =>
              refine iteT (kB _ H ?_ .refl)
              rw [isName, e4]
              show (_ && (_ && (_ && (decide (c ∈ abc) && _)))) = false
              rw [e5]
              simp
            | true =>
              refine iteF ⟨_, rfl, rfl, fun p H1 np hp kp => ⟨p, _, rfl, .inl (sql_of hp), rfl, flat_strs _, _, rfl, ?_⟩⟩
              rw [if_pos rfl, inV_strs]
              cases e3 : wordsL.any fun t => decide (t = g) with
              | true =>
                refine iteF (kB _ H1 ?_ kp)
                rw [isName, e3]
                simp
              | false =>
                have e6 : isName g = g.cps.toList.all fun c => decide (c ∈ nsL) := by
                  rw [isName, decide_eq_true h1, decide_eq_true h2, e3, e4]
                  show (true && (true && (!false && (decide (c ∈ abc) && _)))) = _
                  rw [e5]
                  rfl
                refine iteT ⟨_, rfl, g, rfl, fun Dl nD => ?_⟩
                refine lcStr (z := g) (fun i H2 => H2 Dl = some (.lst (((g.cps.toList.take i).filter fun c => !decide (c ∈ nsL)).map fun c => V.str (st [c]))) ∧ Kp [] H1 H2)
                  ⟨upd_same, .new nD⟩ ?_ ?_
                · rintro i c H2 hi ⟨hD, kH⟩
                  refine ⟨rfl, _, rfl, c, _, rfl, rfl, _, rfl, ?_⟩
                  have tf := take_filter (f := fun c => !decide (c ∈ nsL)) hi
                  show if (!decide (c ∈ nsL)) = true then _ else _
                  cases e : decide (c ∈ nsL) with
                  | true =>
                    refine iteF ⟨?_, kH⟩
                    rw [tf, e, if_neg (by simp), List.append_nil]
                    exact hD
                  | false =>
                    refine iteT ⟨_, rfl, _, hD, ?_, ?_, kH.own nD⟩
                    · rw [List.length_map]
                      have a := List.length_filter_le (fun c => !decide (c ∈ nsL)) (g.cps.toList.take i)
                      rw [List.length_take] at a
                      have b : g.cps.toList.length = g.length := by rw [Array.length_toList]; rfl
                      exact Nat.lt_of_le_of_lt (show _ ≤ 20 by omega) (by decide)
                    · rw [upd_same, tf, e, List.map_append]
                      rfl
                · rintro H3 ⟨hD, k3⟩
                  rw [List.take_length] at hD
                  refine ⟨Nat.zero_le _, fun p2 np2 => ⟨Dl, p2, _, rfl, rfl, (upd_ne (ne_of_none hD np2)).trans hD, upd_same, ?_⟩⟩
                  · refine kB _ _ ?_ ((kp.trans k3).trans (.new np2))
                    rw [e6, List.isEmpty_map]
                    exact (all_sign _ _).symm
        · rw [decide_eq_false (show ¬ (g.length : Int) < 21 by omega)]
          refine iteT (kB _ H ?_ .refl)
          rw [isName, decide_eq_false h2]
          simp
      · rw [decide_eq_false (show ¬ (0 : Int) < (g.length : Int) by omega)]
        refine iteF ⟨_, rfl, iteT (kB _ H ?_ .refl)⟩
        rw [isName, decide_eq_false h1]
        rfl
end
end Ey
set_option maxHeartbeats 4000000
namespace Ey
open PySem PySem.Spec L2
abbrev sLIsTerm : Stmt := topS 30
def side1 : List Str := ["left", "right", "up", "empty", "not", "has"]
def side2 : List Str := ["same", "and", "or", "either"]
def plainW : List Str := ["top", "yes", "no", "left", "right", "up", "empty", "not", "same", "and", "or", "either", "if"]
def sidesN (w : Str) : List Int := if (side1.any fun t => decide (t = w)) = true then [1] else if (side2.any fun t => decide (t = w)) = true then [1, 2] else if w = "if" then [1, 2, 3] else []
theorem sides_is : ∀ p ∈ shapes, sidesN p.1 = (List.range p.2).map fun (i : Nat) => (i : Int) + 1 := by decide +kernel
theorem plain_is : plainW = shapes.map (·.1) := by decide +kernel
theorem plain_in {w : Str} : (plainW.any fun t => decide (t = w)) = (arity w).isSome := by
  rw [Bool.eq_iff_iff, List.any_eq_true, plain_is]
  constructor
  · rintro ⟨t, ht, e⟩
    obtain ⟨p, hp, rfl⟩ := List.mem_map.mp ht
    unfold arity
    rw [Option.isSome_map, List.find?_isSome]
    exact ⟨p, hp, e⟩
  · intro h
    obtain ⟨n, e⟩ := Option.isSome_iff_exists.mp h
    obtain ⟨p, hp, e1, e2⟩ := arity_some e
    exact ⟨p.1, List.mem_map.mpr ⟨p, hp, rfl⟩, decide_eq_true e1⟩
section
variable {Pr : Program} {w : World} {K : PySem.W.Frag} {mg : Str → Option Value} {base : Heap} {ms : List Addr} {A : Nat → Addr} {D : Nat → FuncData}
/-! ### sides -/
theorem scSides : FnScope ["_law_term", "_law_kind"] ["_law_term"] (defScope sSides) := ⟨rfl, rfl, rfl, by decide +kernel, rfl, by decide +kernel, by decide +kernel⟩
def spSides : Sp := fun vs H Q _ => ∃ (t : Addr) (g : Str) (xs : List V), vs = [.ref t] ∧ H t = some (.tup (.str g :: xs)) ∧ ∀ (p : Addr) (H' : Hp), H' p = some (.tup ((sidesN g).map V.int)) → Kp [] H H' → Q (.ref p) H'
theorem ok_sides (L : LF K mg A D) : FnOk Pr w K mg base CX0 1 (A 29) (D 29) ["_law_term"] spSides := by
  refine L.sides.F.ok scSides (fun vs H Q E h => ?_) (fun cdv Ar outer s H vs Q E hr h => ?_)
  · obtain ⟨t, g, xs, rfl, _⟩ := h
    rfl
  · obtain ⟨t, g, xs, rfl, e, k⟩ := h
    refine ⟨_, pss_cons (ps_set (i := 1) scSides.nd rfl (.inl rfl) (pe_ix ix_tup (pv 0) pe_int (fun _ _ => rfl)))
      (pss_cons (ps_if (pt_cmpR op_in_seq (pv 1) (pe_tup (pa_cons pe_str (pa_cons pe_str (pa_cons pe_str (pa_cons pe_str (pa_cons pe_str (pa_cons pe_str pa_nil))))))) (by rfl)) (pss_one (ps_ret (pe_tup (pa_cons pe_int pa_nil)))) pss_nil)
      (pss_cons (ps_if (pt_cmpR op_in_seq (pv 1) (pe_tup (pa_cons pe_str (pa_cons pe_str (pa_cons pe_str (pa_cons pe_str pa_nil))))) (by rfl)) (pss_one (ps_ret (pe_tup (pa_cons pe_int (pa_cons pe_int pa_nil))))) pss_nil)
      (pss_one (ps_ret (pe_ifExp (pt_cmpR op_eq (pv 1) pe_str (nomark _)) (pe_tup (pa_cons pe_int (pa_cons pe_int (pa_cons pe_int pa_nil)))) (pe_tup pa_nil)))))), ?_⟩
    refine ⟨_, rfl, t, _, _, _, rfl, rfl, sqt_of e, atI_nat (j := 0) rfl, ?_⟩
    refine ⟨_, rfl, by show 6 ≤ sizeLine; decide, fun p np => ⟨p, side1.map V.str, rfl, .inr (sqt_of upd_same), rfl, flat_strs _, _, rfl, ?_⟩⟩
    have k1 : Kp [] H (upd H p (.tup (side1.map V.str))) := .new np
    show if (if false = true then _ else inV (.str g) (side1.map V.str)) = true then _ else _
    rw [if_neg Bool.false_ne_true, inV_strs]
    have kk : ∀ (is : List Int) (p : Addr) (H' : Hp), sidesN g = is → H' p = some (.tup (is.map V.int)) → Kp [] H H' → Q (.ref p) H' := fun is p H' e1 e2 k' => k p H' (e1 ▸ e2) k'
    cases e1 : side1.any fun t => decide (t = g) with
    | true =>
      refine iteT ⟨by show 1 ≤ sizeLine; decide, fun q nq => kk [1] q _ ?_ upd_same (k1.trans (.new nq))⟩
      unfold sidesN
      rw [e1, if_pos rfl]
    | false =>
      refine iteF ⟨_, rfl, by show 4 ≤ sizeLine; decide, fun p2 np2 => ⟨p2, side2.map V.str, rfl, .inr (sqt_of upd_same), rfl, flat_strs _, _, rfl, ?_⟩⟩
      have k2 := k1.trans (Kp.new (o := .tup (side2.map V.str)) np2)
      show if (if false = true then _ else inV (.str g) (side2.map V.str)) = true then _ else _
      rw [if_neg Bool.false_ne_true, inV_strs]
      cases e2 : side2.any fun t => decide (t = g) with
      | true =>
        refine iteT ⟨by show 2 ≤ sizeLine; decide, fun q nq => kk [1, 2] q _ ?_ upd_same (k2.trans (.new nq))⟩
        unfold sidesN
        rw [e1, if_neg Bool.false_ne_true, e2, if_pos rfl]
      | false =>
        refine iteF ⟨_, rfl, rfl, _, rfl, ite2 (fun q => ?_) (fun q => ?_)⟩
        · refine ⟨by show 3 ≤ sizeLine; decide, fun q2 nq => kk [1, 2, 3] q2 _ ?_ upd_same (k2.trans (.new nq))⟩
          unfold sidesN
          rw [e1, if_neg Bool.false_ne_true, e2, if_neg Bool.false_ne_true, if_pos (V.str.inj (of_decide_eq_true q))]
        · refine ⟨by show 0 ≤ sizeLine; decide, fun q2 nq => kk [] q2 _ ?_ upd_same (k2.trans (.new nq))⟩
          unfold sidesN
          rw [e1, if_neg Bool.false_ne_true, e2, if_neg Bool.false_ne_true, if_neg fun z => q (decide_eq_true (by rw [z]))]
/-! ### the law's own is_term -/
def NT : List Str := ["_law_thing", "_law_kind", "_law_many", "_law_sides_here", "_law_it", "_law_at_here"]
theorem scLTerm : FnScope NT ["_law_thing"] (defScope sLIsTerm) := ⟨rfl, rfl, rfl, by decide +kernel, rfl, by decide +kernel, by decide +kernel⟩
def spLD (ms : List Addr) (n : Nat) (g : PyData → Bool) : Sp := fun vs H Q _ => ∃ (v : V) (d : PyData), vs = [v] ∧ An ms H v d ∧ fit d = true ∧ wd d ≤ 1000000 ∧ d.depth < n ∧ ∀ H', Kp [] H H' → Q (.bl (g d)) H'
theorem fit_mem {x : PyData} : ∀ {ds : List PyData}, fitAll ds = true → x ∈ ds → fit x = true
  | y :: r, h, hx => by
    have h2 : (fit y && fitAll r) = true := h
    rw [Bool.and_eq_true] at h2
    rcases List.mem_cons.mp hx with rfl | hx
    · exact h2.1
    · exact fit_mem h2.2 hx
theorem dep_mem {x : PyData} : ∀ {ds : List PyData}, x ∈ ds → x.depth ≤ PyData.depthAll ds
  | y :: r, hx => by
    show x.depth ≤ max y.depth (PyData.depthAll r)
    rcases List.mem_cons.mp hx with rfl | hx
    · omega
    · have := dep_mem hx
      omega
theorem ok_lTerm (L : LF K mg A D) (D0 : Df K mg "_law_is_term" sLIsTerm ["_law_thing"] (A 30) (D 30)) : ∀ n : Nat, FnOk Pr w K mg base CX0 (n + 2) (A 30) (D 30) ["_law_thing"] (spLD ms n isTerm)
  | 0 => by
    refine D0.F.ok scLTerm (fun vs H Q E h => ?_) (fun cdv Ar outer s H vs Q E hr h => ?_)
    · obtain ⟨v, d, rfl, _⟩ := h
      rfl
    · obtain ⟨v, d, rfl, _, _, _, hd, _⟩ := h
      exact absurd hd (Nat.not_lt_zero _)
  | n + 1 => by
    have ih := ok_lTerm L D0 n
    have B := L.B
    refine D0.F.ok scLTerm (fun vs H Q E h => ?_) (fun cdv Ar outer s H vs Q E hr h => ?_)
    · obtain ⟨v, d, rfl, _⟩ := h
      rfl
    · obtain ⟨v, d, rfl, hv, hf, hz, hd, k⟩ := h
      have hr2 := hr.mono (show 2 ≤ n + 2 by omega)
      have hr1 := hr.mono (show 1 ≤ n + 2 by omega)
      refine ⟨_, pss_cons (ps_if (PW.pt (pw_or (pt_not (pt_val (pe_callB call_isi (by rfl) B.isi (by decide +kernel) (pa_cons (pv 0) (pa_cons (pe_bltn (v := .ty "tuple") (by rfl) B.tuple (by decide +kernel) rfl) pa_nil)))))
          (pw_or (pt_cmpR (op_eqE hr.units) (pv 0) (pe_tup pa_nil) (nomark _))
          (pw_or1 (pt_not (pt_val (pe_callB call_isi (by rfl) B.isi (by decide +kernel) (pa_cons (pe_ix ix_tup (pv 0) pe_int (fun _ _ => rfl)) (pa_cons (pe_bltn (v := .ty "str") (by rfl) B.str (by decide +kernel) rfl) pa_nil))))))))) (pss_one (ps_ret pe_bl)) pss_nil)
        (pss_cons (ps_par (i := 1) (j := 2) (by rfl) scLTerm.nd rfl rfl (by decide) rfl rfl (pa_cons (pe_ix ix_tup (pv 0) pe_int (fun _ _ => rfl)) (pa_cons (pe_callB call_len_seq (by rfl) B.len PySem.boot_len (pa_cons (pv 0) pa_nil)) pa_nil)) (by rfl))
        (pss_cons (ps_if (pt_cmpR op_eq (pv 1) pe_str (nomark _)) (pss_one (ps_ret (pe_and (pe_cmpR op_eq (pv 2) pe_int (nomark _)) (pe_one (pe_call (ok_lName (ms := ms) L) hr2 (by rfl) L.name.g L.name.F.kp L.name.b .nil pass0 (pa_cons (pe_ix ix_tup (pv 0) pe_int (fun _ _ => rfl)) pa_nil)))))) pss_nil)
        (pss_cons (ps_if (pt_cmpR op_eq (pv 1) pe_str (nomark _))
            (pss_cons (ps_if (PW.pt (pw_or (pt_cmpR op_ne (pv 2) pe_int (nomark _)) (pw_or (pt_not (pt_val (pe_call (ok_lName (ms := ms) L) hr2 (by rfl) L.name.g L.name.F.kp L.name.b .nil pass0 (pa_cons (pe_ix ix_tup (pv 0) pe_int (fun _ _ => rfl)) pa_nil))))
                (pw_or1 (pt_not (pt_val (pe_callB call_isi (by rfl) B.isi (by decide +kernel) (pa_cons (pe_ix ix_tup (pv 0) pe_int (fun _ _ => rfl)) (pa_cons (pe_bltn (v := .ty "tuple") (by rfl) B.tuple (by decide +kernel) rfl) pa_nil))))))))) (pss_one (ps_ret pe_bl)) pss_nil)
            (pss_one (ps_ret (pe_cmpR (op_eqEL hr.units) (pe_lc (own := [("_law_it", 4)]) (g := gName 4) rfl scLTerm.nd (pi_tup (pe_ix ix_tup (pv 0) pe_int (fun _ _ => rfl))) (blkOk_by (N := NT) (sc := defScope sLIsTerm) (by decide +kernel)) (fun _ _ _ _ _ => pg_name (i := 4) scLTerm.nd rfl (Or.inl rfl))
              (fun _ _ _ _ _ => pts_one (pt_not (pt_val (pe_call ih hr (by rfl) D0.g D0.F.kp D0.b .nil pass0 (pa_cons (pv 4) pa_nil))))) (fun _ _ _ _ _ => pv 4)) (pe_lst pa_nil) (nomark _))))) pss_nil)
        (pss_cons (ps_if (pt_cmpR op_eq (pv 1) pe_str (nomark _)) (pss_one (ps_ret (pe_and (pe_cmpR op_eq (pv 2) pe_int (nomark _)) (pe_and (pe_call ih hr (by rfl) D0.g D0.F.kp D0.b .nil pass0 (pa_cons (pe_ix ix_tup (pv 0) pe_int (fun _ _ => rfl)) pa_nil))
            (pe_one (pe_call (go_tag (ms := ms) L) hr1 (by rfl) L.tag.g L.tag.F.kp L.tag.b .nil pass0 (pa_cons (pe_ix ix_tup (pv 0) pe_int (fun _ _ => rfl)) pa_nil))))))) pss_nil)
        (pss_cons (ps_if (pt_cmpR op_notIn_seq (pv 1) (pe_tup (pa_cons pe_str (pa_cons pe_str (pa_cons pe_str (pa_cons pe_str (pa_cons pe_str (pa_cons pe_str (pa_cons pe_str (pa_cons pe_str (pa_cons pe_str (pa_cons pe_str (pa_cons pe_str (pa_cons pe_str (pa_cons pe_str pa_nil)))))))))))))) (by rfl)) (pss_one (ps_ret pe_bl)) pss_nil)
        (pss_cons (ps_set (i := 3) scLTerm.nd rfl (.inl rfl) (pe_call (ok_sides L) hr1 (by rfl) L.sides.g L.sides.F.kp L.sides.b .nil pass0 (pa_cons (pv 0) pa_nil)))
        (pss_one (ps_ret (pe_and (pe_cmpR op_eq (pv 2) (pe_op op_add pe_int (pe_callB call_len_seq (by rfl) B.len PySem.boot_len (pa_cons (pv 3) pa_nil))) (nomark _))
          (pe_one (pe_cmpR (op_eqEL hr.units) (pe_lc (own := [("_law_at_here", 5)]) (g := gName 5) rfl scLTerm.nd (pi_tup (pv 3)) (blkOk_by (N := NT) (sc := defScope sLIsTerm) (by decide +kernel)) (fun _ _ _ _ _ => pg_name (i := 5) scLTerm.nd rfl (Or.inl rfl))
              (fun _ _ _ _ _ => pts_one (pt_not (pt_val (pe_call ih hr (by rfl) D0.g D0.F.kp D0.b .nil pass0 (pa_cons (pe_ix (r := rIxT K) ix_tup (pv 0) (pv 5) (fun _ _ => rfl)) pa_nil))))) (fun _ _ _ _ _ => pv 5)) (pe_lst pa_nil) (nomark _)))))))))))), ?_⟩
      have kB : ∀ bb H', isTerm d = bb → Kp [] H H' → Q (.bl bb) H' := fun bb H' e' k' => e' ▸ k H' k'
      have no : headed d = false → isTerm d = false := fun e => by rw [isTerm_eq, e]; rfl
      obtain ⟨ty, hty, kty⟩ := hv.tupK (K := K)
      refine ⟨_, rfl, _, .ty "tuple", ty, .type "tuple", _, rfl, .ty "tuple", hty, kty, ?_⟩
      cases hv with
      | non => exact ⟨false, rfl, iteT (kB _ H (no rfl) .refl)⟩
      | bl b => exact ⟨false, rfl, iteT (kB _ H (no rfl) .refl)⟩
      | int i => exact ⟨false, rfl, iteT (kB _ H (no rfl) .refl)⟩
      | str g => exact ⟨false, rfl, iteT (kB _ H (no rfl) .refl)⟩
      | lst e => exact ⟨false, rfl, iteT (kB _ H (no rfl) .refl)⟩
      | dct e => exact ⟨false, rfl, iteT (kB _ H (no rfl) .refl)⟩
      | @tup t xs ds e0 hds0 =>
        refine ⟨true, rfl, iteF ⟨_, rfl, Nat.zero_le _, fun p np => ?_⟩⟩
        have k1 : Kp [] H (upd H p (.tup [])) := .new np
        have e := k1.tup _ _ e0
        have hds := hds0.kp k1 (by simp) ds
        refine ⟨t, p, xs, rfl, rfl, e, upd_same, _, rfl, ?_⟩
        generalize upd H p (.tup []) = H1 at k1 e hds
        cases hds with
        | nil => exact iteT (kB _ H1 (no rfl) k1)
        | @cons v0 vs d0 r h0 hr0 =>
          refine iteF ?_
          obtain ⟨ty0, hty0, kty0⟩ := h0.strK (K := K)
          refine ⟨_, rfl, t, _, _, _, rfl, rfl, sqt_of e, atI_nat (j := 0) rfl, _, .ty "str", ty0, .type "str", _, rfl, .ty "str", hty0, kty0, ?_⟩
          cases h0 with
          | non => exact ⟨false, rfl, iteT (kB _ H1 (no rfl) k1)⟩
          | bl b => exact ⟨false, rfl, iteT (kB _ H1 (no rfl) k1)⟩
          | int i => exact ⟨false, rfl, iteT (kB _ H1 (no rfl) k1)⟩
          | lst e => exact ⟨false, rfl, iteT (kB _ H1 (no rfl) k1)⟩
          | dct e => exact ⟨false, rfl, iteT (kB _ H1 (no rfl) k1)⟩
          | tup e => exact ⟨false, rfl, iteT (kB _ H1 (no rfl) k1)⟩
          | str wd0 =>
            refine ⟨true, rfl, iteF ?_⟩
            have hT : isTerm (.tuple (.str wd0 :: r)) = (headedR wd0 r && (partsR wd0 r).all isTerm) := isTerm_eq _
            have ln := hr0.length
            have hfr : fitAll r = true := by
              have q : (fit (.str wd0) && fitAll r) = true := hf
              rw [Bool.and_eq_true] at q
              exact q.2
            have hwr : wdAll r ≤ 1000000 := by
              have q : wd (.str wd0) + 2 + wdAll r + 3 ≤ 1000000 := hz
              omega
            have hdr : ∀ x ∈ r, x.depth < n := fun x hx => by
              have q : max 0 (PyData.depthAll r) + 1 < n + 1 := hd
              have := dep_mem hx
              omega
            have hl : ∀ m : Int, decide (V.int (((V.str wd0 :: vs).length : Nat) : Int) = V.int m) = decide ((r.length : Int) + 1 = m) := fun m => by
              rw [dec_int]
              have e1 : (((V.str wd0 :: vs).length : Nat) : Int) = (r.length : Int) + 1 := by
                rw [List.length_cons, ln]
                omega
              rw [e1]
            refine ⟨_, rfl, t, _, _, _, rfl, rfl, sqt_of e, atI_nat (j := 0) rfl, _, rfl, t, _, rfl, .inr (sqt_of e), _, _, rfl, ?_⟩
            refine ⟨_, rfl, rfl, _, rfl, ite2 (fun q => ?_) (fun q1 => ?_)⟩
            · have e1 : wd0 = kName := V.str.inj (of_decide_eq_true q)
              have hh : isTerm (.tuple (.str wd0 :: r)) = hdN r := by
                rw [hT, headedR, partsR, if_pos e1, if_pos e1]
                exact Bool.and_true _
              refine ⟨_, rfl, rfl, _, rfl, ?_⟩
              rw [hl 2]
              match r, hr0, hh, kB, hwr, hfr with
              | [], _, hh, kB, _, _ => exact iteF (kB _ H1 hh k1)
              | [x], .cons (v := v1) a1 .nil, hh, kB, hwr, hfr =>
                refine iteT ⟨_, rfl, t, _, _, _, rfl, rfl, sqt_of e, atI_nat (j := 1) rfl, v1, x, rfl, a1, fit_mem hfr (by simp), ?_, fun H' k' => kB _ H' hh (k1.trans k')⟩
                have : wd x + 2 + 0 ≤ 1000000 := hwr
                omega
              | x :: y :: r', _, hh, kB, _, _ =>
                rw [decide_eq_false (show ¬ (((x :: y :: r').length : Nat) : Int) + 1 = 2 by simp only [List.length_cons]; omega)]
                exact iteF (kB _ H1 hh k1)
            have n1 : ¬ wd0 = kName := fun z => q1 (decide_eq_true (by rw [z]; rfl))
            refine ⟨_, rfl, rfl, _, rfl, ite2 (fun q => ?_) (fun q3 => ?_)⟩
            · have e3 : wd0 = kCall := V.str.inj (of_decide_eq_true q)
              have n2 : ¬ wd0 = kHas := by
                rw [e3]
                decide +kernel
              have hh : isTerm (.tuple (.str wd0 :: r)) = (hdC r && (tupD (r.getD 1 .none)).all isTerm) := by
                rw [hT, headedR, partsR, if_neg n1, if_neg n1, if_neg n2, if_neg n2, if_pos e3, if_pos e3]
              refine ⟨_, rfl, rfl, _, rfl, ?_⟩
              rw [hl 3]
              match r, hr0, hh, kB, hwr, hfr, hdr with
              | [], _, hh, kB, _, _, _ => exact iteT (kB _ H1 hh k1)
              | [x], _, hh, kB, _, _, _ => exact iteT (kB _ H1 hh k1)
              | x :: y :: z :: r', _, hh, kB, _, _, _ =>
                rw [decide_eq_false (show ¬ (((x :: y :: z :: r').length : Nat) : Int) + 1 = 3 by simp only [List.length_cons]; omega)]
                exact iteT (kB _ H1 hh k1)
              | [x, y], .cons (v := v1) a1 (.cons (v := v2) a2 .nil), hh, kB, hwr, hfr, hdr =>
                have hw2 : wd x + 2 + (wd y + 2 + 0) ≤ 1000000 := hwr
                refine iteF ⟨_, rfl, t, _, _, _, rfl, rfl, sqt_of e, atI_nat (j := 1) rfl, v1, x, rfl, a1, fit_mem hfr (by simp), by omega, fun H2 k2 => ⟨_, rfl, ?_⟩⟩
                have hh' : isTerm (.tuple [.str wd0, x, y]) = ((isNameD x && isTup y) && (tupD y).all isTerm) := hh
                have k12 := k1.trans k2
                cases en : isNameD x with
                | false =>
                  rw [en] at hh'
                  exact iteT (kB _ H2 hh' k12)
                | true =>
                  rw [en] at hh'
                  have a2' := a2.kp k2 (by simp) y
                  have e2 := k2.tup _ _ e
                  obtain ⟨ty2, hty2, kty2⟩ := a2'.tupK (K := K)
                  refine iteF ⟨_, rfl, t, _, _, _, rfl, rfl, sqt_of e2, atI_nat (j := 2) rfl, _, .ty "tuple", ty2, .type "tuple", _, rfl, .ty "tuple", hty2, kty2, _, rfl, ?_⟩
                  cases a2' with
                  | @tup t2 ys es e3 hes =>
                    refine iteF ?_
                    have ly := hes.length
                    have hwe : wdAll es + 3 ≤ 1000000 := by
                      have : wd (.tuple es) = wdAll es + 3 := rfl
                      omega
                    have hfe : fitAll es = true := fit_mem hfr (by simp : PyData.tuple es ∈ [x, PyData.tuple es])
                    have hde : ∀ z ∈ es, z.depth < n := fun z hz => by
                      have := hdr (.tuple es) (by simp)
                      have q : PyData.depthAll es + 1 < n := this
                      have := dep_mem hz
                      omega
                    have lw := len_wd2 es
                    refine ⟨_, rfl, t, _, _, _, rfl, rfl, sqt_of e2, atI_nat (j := 2) rfl, t2, rfl, ⟨_, sqt_of e3⟩, fun Dl nD => ?_⟩
                    refine lc_tup (xs := ys) (fun i H' => ∃ acc, H' Dl = some (.lst acc) ∧ acc.isEmpty = (es.take i).all isTerm ∧ acc.length ≤ i ∧ Kp [] H2 H')
                      ⟨[], upd_same, rfl, Nat.le_refl _, .new nD⟩ (fun i H' _ ⟨acc, _, _, _, k'⟩ => sqt_of (k'.tup _ _ e3)) ?_ ?_
                    · rintro i z H' hy ⟨acc, hD, he, hlen, k'⟩
                      obtain ⟨dz, e4, az⟩ := hes.get hy
                      have hmem := List.mem_of_getElem? e4
                      have := wd_mem hmem
                      have hi : i < ys.length := (List.getElem?_eq_some_iff.mp hy).1
                      refine ⟨rfl, _, rfl, z, dz, rfl, az.kp k' (by simp) dz, fit_mem hfe hmem, by omega, hde dz hmem, fun H3 k3 => ⟨_, rfl, ?_⟩⟩
                      have hD3 : H3 Dl = some (.lst acc) := k3.at_ _ _ hD List.not_mem_nil
                      cases et : isTerm dz with
                      | true =>
                        refine iteF ⟨acc, hD3, ?_, by omega, k'.trans k3⟩
                        rw [take_all e4, et, Bool.and_true, he]
                      | false =>
                        refine iteT ⟨_, rfl, acc, hD3, Nat.lt_of_le_of_lt (show acc.length ≤ 1000000 by omega) (by decide), acc ++ [z], upd_same, ?_, ?_, (k'.trans k3).own nD⟩
                        · rw [take_all e4, et, Bool.and_false]
                          simp
                        · rw [List.length_append]
                          show acc.length + 1 ≤ i + 1
                          omega
                    · rintro H' ⟨acc, hD, he, hlen, k'⟩
                      rw [ly, List.take_length] at he
                      refine ⟨Nat.zero_le _, fun p2 np2 => ⟨Dl, p2, _, rfl, rfl, (upd_ne (ne_of_none hD np2)).trans hD, upd_same, kB _ _ ?_ ((k12.trans k').trans (.new np2))⟩⟩
                      rw [hh', he]
                      rfl
                  | non => exact iteT (kB _ H2 (by rw [hh']; rfl) k12)
                  | bl b => exact iteT (kB _ H2 (by rw [hh']; rfl) k12)
                  | int i => exact iteT (kB _ H2 (by rw [hh']; rfl) k12)
                  | str g => exact iteT (kB _ H2 (by rw [hh']; rfl) k12)
                  | lst e _ _ => exact iteT (kB _ H2 (by rw [hh']; rfl) k12)
                  | dct e _ _ => exact iteT (kB _ H2 (by rw [hh']; rfl) k12)
            have n3 : ¬ wd0 = kCall := fun z => q3 (decide_eq_true (by rw [z]; rfl))
            refine ⟨_, rfl, rfl, _, rfl, ite2 (fun q => ?_) (fun q2 => ?_)⟩
            · have e2 : wd0 = kHas := V.str.inj (of_decide_eq_true q)
              have hh : isTerm (.tuple (.str wd0 :: r)) = (hdH r && (r.take 1).all isTerm) := by
                rw [hT, headedR, partsR, if_neg n1, if_neg n1, if_pos e2, if_pos e2]
              refine ⟨_, rfl, rfl, _, rfl, ?_⟩
              rw [hl 3]
              match r, hr0, hh, kB, hwr, hfr, hdr with
              | [], _, hh, kB, _, _, _ => exact iteF (kB _ H1 hh k1)
              | [x], _, hh, kB, _, _, _ => exact iteF (kB _ H1 hh k1)
              | x :: y :: z :: r', _, hh, kB, _, _, _ =>
                rw [decide_eq_false (show ¬ (((x :: y :: z :: r').length : Nat) : Int) + 1 = 3 by simp only [List.length_cons]; omega)]
                exact iteF (kB _ H1 hh k1)
              | [x, y], .cons (v := v1) a1 (.cons (v := v2) a2 .nil), hh, kB, hwr, hfr, hdr =>
                have hw2 : wd x + 2 + (wd y + 2 + 0) ≤ 1000000 := hwr
                have hh' : isTerm (.tuple [.str wd0, x, y]) = (isTagD y && (isTerm x && true)) := hh
                refine iteT ⟨_, rfl, t, _, _, _, rfl, rfl, sqt_of e, atI_nat (j := 1) rfl, v1, x, rfl, a1, fit_mem hfr (by simp), by omega, hdr x (by simp), fun H2 k2 => ⟨_, rfl, ?_⟩⟩
                have k12 := k1.trans k2
                cases ex : isTerm x with
                | false =>
                  refine iteF (kB _ H2 ?_ k12)
                  rw [hh', ex]
                  exact Bool.and_false _
                | true =>
                  refine iteT ⟨_, rfl, t, _, _, _, rfl, rfl, sqt_of (k2.tup _ _ e), atI_nat (j := 2) rfl, v2, y, rfl, a2.kp k2 (by simp) y, fit_mem hfr (by simp), by omega, fun H3 k3 => kB _ H3 ?_ (k12.trans k3)⟩
                  rw [hh', ex]
                  exact Bool.and_true _
            have n2 : ¬ wd0 = kHas := fun z => q2 (decide_eq_true (by rw [z]; rfl))
            have hh : isTerm (.tuple (.str wd0 :: r)) = (hdA r (arity wd0) && r.all isTerm) := by
              rw [hT, headedR, partsR, if_neg n1, if_neg n1, if_neg n2, if_neg n2, if_neg n3, if_neg n3]
            refine ⟨_, rfl, by show 13 ≤ sizeLine; decide, fun p2 np2 => ⟨p2, plainW.map V.str, rfl, .inr (sqt_of upd_same), rfl, flat_strs _, _, rfl, ?_⟩⟩
            have k12 := k1.trans (Kp.new (o := .tup (plainW.map V.str)) np2)
            have e2 := (Kp.new (ms := []) (o := .tup (plainW.map V.str)) np2).tup _ _ e
            have hr2' := hr0.kp (Kp.new (ms := []) (o := .tup (plainW.map V.str)) np2) (by simp) r
            show if (if true = true then !inV (.str wd0) (plainW.map V.str) else _) = true then _ else _
            rw [if_pos rfl, inV_strs, plain_in]
            cases ea : arity wd0 with
            | none =>
              rw [ea] at hh
              exact iteT (kB _ _ (by rw [hh]; rfl) k12)
            | some m =>
              rw [ea] at hh
              refine iteF ⟨_, rfl, t, wd0, vs, rfl, e2, fun p3 H3 hp3 k3 => ?_⟩
              obtain ⟨pp, hpp, ep, em⟩ := arity_some ea
              have hs : sidesN wd0 = (List.range m).map fun (i : Nat) => (i : Int) + 1 := by
                have := sides_is pp hpp
                rw [ep, em] at this
                exact this
              rw [hs] at hp3
              have k13 := k12.trans k3
              have e3 := k3.tup _ _ e2
              have hr3 := hr2'.kp k3 (by simp) r
              refine ⟨_, rfl, _, rfl, p3, _, rfl, .inr (sqt_of hp3), _, _, rfl, rfl, rfl, _, rfl, ?_⟩
              rw [hl]
              have hlen : ((((List.range m).map fun (i : Nat) => (i : Int) + 1).map V.int).length : Int) = (m : Int) := by simp
              rw [hlen]
              by_cases hm : r.length = m
              · rw [decide_eq_true (show (r.length : Int) + 1 = 1 + (m : Int) by omega)]
                have hh2 : isTerm (.tuple (.str wd0 :: r)) = r.all isTerm := by
                  rw [hh, hdA, decide_eq_true hm, Bool.true_and]
                refine iteT ⟨_, rfl, p3, rfl, ⟨_, sqt_of hp3⟩, fun Dl nD => ?_⟩
                have lr3 := hr3.length
                have lw := len_wd2 r
                refine lc_tup (xs := ((List.range m).map fun (i : Nat) => (i : Int) + 1).map V.int) (fun i H' => ∃ acc, H' Dl = some (.lst acc) ∧ acc.isEmpty = (r.take i).all isTerm ∧ acc.length ≤ i ∧ Kp [] H3 H')
                  ⟨[], upd_same, rfl, Nat.le_refl _, .new nD⟩ (fun i H' _ ⟨acc, _, _, _, k'⟩ => sqt_of (k'.tup _ _ hp3)) ?_ ?_
                · rintro i z H' hy ⟨acc, hD, he, hlen2, k'⟩
                  have hi : i < m := by
                    have := (List.getElem?_eq_some_iff.mp hy).1
                    simpa using this
                  have ez : z = V.int ((i : Int) + 1) := by
                    rw [List.map_map, List.getElem?_map, List.getElem?_range hi] at hy
                    exact (Option.some.inj hy).symm
                  subst ez
                  have hir : i < r.length := by omega
                  obtain ⟨vz, e4, az⟩ := hr3.of_at (List.getElem?_eq_getElem hir)
                  have hmem : r[i] ∈ r := List.getElem_mem hir
                  have := wd_mem hmem
                  have hix : (V.str wd0 :: vs)[i + 1]? = some vz := e4
                  refine ⟨rfl, _, rfl, _, rfl, t, _, ((i : Int) + 1), vz, rfl, rfl, sqt_of (k'.tup _ _ e3), ?_, vz, r[i], rfl, az.kp k' (by simp) _, fit_mem hfr hmem, by omega, hdr _ hmem, fun H4 k4 => ⟨_, rfl, ?_⟩⟩
                  · have := atI_nat (j := i + 1) hix
                    rw [show (((i + 1 : Nat) : Int)) = (i : Int) + 1 by omega] at this
                    exact this
                  have hD4 : H4 Dl = some (.lst acc) := k4.at_ _ _ hD List.not_mem_nil
                  have e5 : r[i]? = some r[i] := List.getElem?_eq_getElem hir
                  cases et : isTerm r[i] with
                  | true =>
                    refine iteF ⟨acc, hD4, ?_, by omega, k'.trans k4⟩
                    rw [take_all e5, et, Bool.and_true, he]
                  | false =>
                    refine iteT ⟨_, rfl, acc, hD4, Nat.lt_of_le_of_lt (show acc.length ≤ 1000000 by omega) (by decide), acc ++ [_], upd_same, ?_, ?_, (k'.trans k4).own nD⟩
                    · rw [take_all e5, et, Bool.and_false]
                      simp
                    · rw [List.length_append]
                      show acc.length + 1 ≤ i + 1
                      omega
                · rintro H' ⟨acc, hD, he, hlen2, k'⟩
                  have hle : (((List.range m).map fun (i : Nat) => (i : Int) + 1).map V.int).length = m := by simp
                  rw [hle, ← hm, List.take_length] at he
                  refine ⟨Nat.zero_le _, fun p4 np4 => ⟨Dl, p4, _, rfl, rfl, (upd_ne (ne_of_none hD np4)).trans hD, upd_same, kB _ _ ?_ ((k13.trans k').trans (.new np4))⟩⟩
                  rw [hh2, he]
              · rw [decide_eq_false (show ¬ (r.length : Int) + 1 = 1 + (m : Int) by omega)]
                refine iteF (kB _ H3 ?_ k13)
                rw [hh, hdA, decide_eq_false hm]
                rfl
end
end Ey
set_option maxHeartbeats 4000000
namespace Ey
open PySem PySem.Spec L2
abbrev sLIsFunction : Stmt := topS 31
abbrev sLIsScript : Stmt := topS 32
structure LG (K : PySem.W.Frag) (mg : Str → Option Value) (A : Nat → Addr) (D : Nat → FuncData) : Prop extends LF K mg A D where
  term : Df K mg "_law_is_term" sLIsTerm ["_law_thing"] (A 30) (D 30)
  function : Df K mg "_law_is_function" sLIsFunction ["_law_thing"] (A 31) (D 31)
  script : Df K mg "_law_is_script" sLIsScript ["_law_thing"] (A 32) (D 32)
section
variable {Pr : Program} {w : World} {K : PySem.W.Frag} {mg : Str → Option Value} {base : Heap} {ms : List Addr} {A : Nat → Addr} {D : Nat → FuncData}
theorem scLFunction : FnScope ["_law_thing", "_law_x"] ["_law_thing"] (defScope sLIsFunction) := ⟨rfl, rfl, rfl, by decide +kernel, rfl, by decide +kernel, by decide +kernel⟩
theorem kinds_any (g : Str) : isKindD (.str g) = kindsL.any fun t => decide (t = g) := by
  unfold isKindD
  congr 1
  funext t
  show decide (_ = _) = _
  rw [Bool.eq_iff_iff, decide_eq_true_eq, decide_eq_true_eq]
  exact eq_comm
theorem ok_lFunction (L : LG K mg A D) (n : Nat) : FnOk Pr w K mg base CX0 (n + 3) (A 31) (D 31) ["_law_thing"] (spLD ms n isFunction) := by
  have B := L.B
  refine L.function.F.ok scLFunction (fun vs H Q E h => ?_) (fun cdv Ar outer s H vs Q E hr h => ?_)
  · obtain ⟨v, d, rfl, _⟩ := h
    rfl
  · obtain ⟨v, d, rfl, hv, hf, hz, hd, k⟩ := h
    have hr2 := hr.mono (show 2 ≤ n + 2 by omega)
    refine ⟨_, pss_cons (ps_if (PW.pt (pw_or (pt_not (pt_val (pe_callB call_isi (by rfl) B.isi (by decide +kernel) (pa_cons (pv 0) (pa_cons (pe_bltn (v := .ty "tuple") (by rfl) B.tuple (by decide +kernel) rfl) pa_nil)))))
        (pw_or (pt_cmpR op_ne (pe_callB call_len_seq (by rfl) B.len PySem.boot_len (pa_cons (pv 0) pa_nil)) pe_int (nomark _))
        (pw_or (pt_not (pt_val (pe_callB call_isi (by rfl) B.isi (by decide +kernel) (pa_cons (pe_ix ix_tup (pv 0) pe_int (fun _ _ => rfl)) (pa_cons (pe_bltn (v := .ty "str") (by rfl) B.str (by decide +kernel) rfl) pa_nil)))))
        (pw_or (pt_cmpR op_ne (pe_ix ix_tup (pv 0) pe_int (fun _ _ => rfl)) pe_str (nomark _))
        (pw_or1 (pt_not (pt_val (pe_call (ok_lName (ms := ms) L.toLF) hr2 (by rfl) L.name.g L.name.F.kp L.name.b .nil pass0 (pa_cons (pe_ix ix_tup (pv 0) pe_int (fun _ _ => rfl)) pa_nil))))))))))
        (pss_one (ps_ret pe_bl)) pss_nil)
      (pss_cons (ps_if (PW.pt (pw_or (pt_not (pt_val (pe_callB call_isi (by rfl) B.isi (by decide +kernel) (pa_cons (pe_ix ix_tup (pv 0) pe_int (fun _ _ => rfl)) (pa_cons (pe_bltn (v := .ty "str") (by rfl) B.str (by decide +kernel) rfl) pa_nil)))))
        (pw_or (pt_cmpR op_notIn_seq (pe_ix ix_tup (pv 0) pe_int (fun _ _ => rfl)) (pe_tup (pa_cons pe_str (pa_cons pe_str pa_nil))) (by rfl))
        (pw_or1 (pt_not (pt_val (pe_callB call_isi (by rfl) B.isi (by decide +kernel) (pa_cons (pe_ix ix_tup (pv 0) pe_int (fun _ _ => rfl)) (pa_cons (pe_bltn (v := .ty "tuple") (by rfl) B.tuple (by decide +kernel) rfl) pa_nil)))))))))
        (pss_one (ps_ret pe_bl)) pss_nil)
      (pss_one (ps_ret (pe_and (pe_cmpR (op_eqEL hr.units) (pe_lc (own := [("_law_x", 1)]) (g := gName 1) rfl scLFunction.nd (pi_tup (pe_ix ix_tup (pv 0) pe_int (fun _ _ => rfl))) (blkOk_by (N := ["_law_thing", "_law_x"]) (sc := defScope sLIsFunction) (by decide +kernel)) (fun _ _ _ _ _ => pg_name (i := 1) scLFunction.nd rfl (Or.inl rfl))
            (fun _ _ _ _ _ => pts_one (pt_not (pt_val (pe_call (ok_lName (ms := ms) L.toLF) hr2 (by rfl) L.name.g L.name.F.kp L.name.b .nil pass0 (pa_cons (pv 1) pa_nil))))) (fun _ _ _ _ _ => pv 1)) (pe_lst pa_nil) (nomark _))
          (pe_one (pe_call (ok_lTerm (ms := ms) L.toLF L.term n) (hr.mono (by omega)) (by rfl) L.term.g L.term.F.kp L.term.b .nil pass0 (pa_cons (pe_ix ix_tup (pv 0) pe_int (fun _ _ => rfl)) pa_nil))))))), ?_⟩
    have kH := k H .refl
    obtain ⟨ty, hty, kty⟩ := hv.tupK (K := K)
    refine ⟨_, rfl, _, .ty "tuple", ty, .type "tuple", _, rfl, .ty "tuple", hty, kty, ?_⟩
    cases hv with
    | non => exact ⟨false, rfl, iteT kH⟩
    | bl b => exact ⟨false, rfl, iteT kH⟩
    | int i => exact ⟨false, rfl, iteT kH⟩
    | str g => exact ⟨false, rfl, iteT kH⟩
    | lst e => exact ⟨false, rfl, iteT kH⟩
    | dct e => exact ⟨false, rfl, iteT kH⟩
    | @tup t xs ds e hds =>
      refine ⟨true, rfl, iteF ?_⟩
      have ln := hds.length
      refine ⟨_, rfl, t, _, rfl, .inr (sqt_of e), rfl, _, rfl, ?_⟩
      rw [dec_int, ln]
      by_cases h5 : ds.length = 5
      · rw [decide_eq_true (show (ds.length : Int) = 5 by omega)]
        refine iteF ?_
        match ds, hds, hz, hf, hd, k, h5 with
        | [c0, c1, c2, c3, c4], .cons (v := v0) a0 (.cons (v := v1) a1 (.cons (v := v2) a2 (.cons (v := v3) a3 (.cons (v := v4) a4 .nil)))), hz, hf, hd, k, _ =>
          have hw : wd c0 + 2 + (wd c1 + 2 + (wd c2 + 2 + (wd c3 + 2 + (wd c4 + 2 + 0)))) + 3 ≤ 1000000 := hz
          have hff : fitAll [c0, c1, c2, c3, c4] = true := hf
          have hdd : ∀ x ∈ [c0, c1, c2, c3, c4], x.depth < n := fun x hx => by
            have q : PyData.depthAll [c0, c1, c2, c3, c4] + 1 < n := hd
            have := dep_mem hx
            omega
          have kB : ∀ bb H', (isThe kFun c0 && (isNameD c1 && (isKindD c2 && (areNames c3 && isTerm c4)))) = bb → Kp [] H H' → Q (.bl bb) H' := fun bb H' e' k' => e' ▸ k H' k'
          obtain ⟨ty0, hty0, kty0⟩ := a0.strK (K := K)
          refine ⟨_, rfl, t, _, _, _, rfl, rfl, sqt_of e, atI_nat (j := 0) rfl, _, .ty "str", ty0, .type "str", _, rfl, .ty "str", hty0, kty0, ?_⟩
          cases a0 with
          | non => exact ⟨false, rfl, iteT (kB _ H rfl .refl)⟩
          | bl b => exact ⟨false, rfl, iteT (kB _ H rfl .refl)⟩
          | int i => exact ⟨false, rfl, iteT (kB _ H rfl .refl)⟩
          | lst _ _ => exact ⟨false, rfl, iteT (kB _ H rfl .refl)⟩
          | tup _ _ => exact ⟨false, rfl, iteT (kB _ H rfl .refl)⟩
          | dct _ _ _ => exact ⟨false, rfl, iteT (kB _ H rfl .refl)⟩
          | str g0 =>
            refine ⟨true, rfl, iteF ?_⟩
            refine ⟨_, rfl, t, _, _, _, rfl, rfl, sqt_of e, atI_nat (j := 0) rfl, rfl, _, rfl, ?_⟩
            have e00 : isThe kFun (.str g0) = decide (V.str g0 = V.str "fun") := by
              show decide (_ = _) = _
              rw [Bool.eq_iff_iff, decide_eq_true_eq, decide_eq_true_eq]
              exact ⟨fun z => by rw [z]; rfl, fun z => V.str.inj z⟩
            rw [← e00]
            cases e0 : isThe kFun (.str g0) with
            | false => exact iteT (kB _ H (by rw [e0]; rfl) .refl)
            | true =>
              refine iteF ?_
              refine ⟨_, rfl, t, _, _, _, rfl, rfl, sqt_of e, atI_nat (j := 1) rfl, v1, c1, rfl, a1, fit_mem hff (by simp), by omega, fun H1 k1 => ⟨_, rfl, ?_⟩⟩
              cases e1 : isNameD c1 with
              | false => exact iteT (kB _ H1 (by rw [e0, e1]; rfl) k1)
              | true =>
                refine iteF ?_
                have e' := k1.tup _ _ e
                have a2' := a2.kp k1 (by simp) c2
                have a3' := a3.kp k1 (by simp) c3
                have a4' := a4.kp k1 (by simp) c4
                obtain ⟨ty2, hty2, kty2⟩ := a2'.strK (K := K)
                refine ⟨_, rfl, t, _, _, _, rfl, rfl, sqt_of e', atI_nat (j := 2) rfl, _, .ty "str", ty2, .type "str", _, rfl, .ty "str", hty2, kty2, ?_⟩
                cases a2' with
                | non => exact ⟨false, rfl, iteT (kB _ H1 (by rw [e0, e1]; rfl) k1)⟩
                | bl b => exact ⟨false, rfl, iteT (kB _ H1 (by rw [e0, e1]; rfl) k1)⟩
                | int i => exact ⟨false, rfl, iteT (kB _ H1 (by rw [e0, e1]; rfl) k1)⟩
                | lst _ _ => exact ⟨false, rfl, iteT (kB _ H1 (by rw [e0, e1]; rfl) k1)⟩
                | tup _ _ => exact ⟨false, rfl, iteT (kB _ H1 (by rw [e0, e1]; rfl) k1)⟩
                | dct _ _ _ => exact ⟨false, rfl, iteT (kB _ H1 (by rw [e0, e1]; rfl) k1)⟩
                | str g2 =>
                  refine ⟨true, rfl, iteF ?_⟩
                  refine ⟨_, rfl, t, _, _, _, rfl, rfl, sqt_of e', atI_nat (j := 2) rfl, by show 2 ≤ sizeLine; decide, fun p2 np2 => ⟨p2, kindsL.map V.str, rfl, .inr (sqt_of upd_same), rfl, flat_strs _, _, rfl, ?_⟩⟩
                  have k2 := Kp.new (ms := []) (o := .tup (kindsL.map V.str)) np2
                  have k12 := k1.trans k2
                  have e2' := k2.tup _ _ e'
                  have a3'' := a3'.kp k2 (by simp) c3
                  have a4'' := a4'.kp k2 (by simp) c4
                  show if (if true = true then !inV (.str g2) (kindsL.map V.str) else _) = true then _ else _
                  rw [if_pos rfl, inV_strs, ← kinds_any]
                  cases e2 : isKindD (.str g2) with
                  | false => exact iteT (kB _ _ (by rw [e0, e1, e2]; rfl) k12)
                  | true =>
                    refine iteF ?_
                    obtain ⟨ty3, hty3, kty3⟩ := a3''.tupK (K := K)
                    refine ⟨_, rfl, t, _, _, _, rfl, rfl, sqt_of e2', atI_nat (j := 3) rfl, _, .ty "tuple", ty3, .type "tuple", _, rfl, .ty "tuple", hty3, kty3, ?_⟩
                    cases a3'' with
                    | non => exact ⟨false, rfl, iteT (kB _ _ (by rw [e0, e1, e2]; rfl) k12)⟩
                    | bl b => exact ⟨false, rfl, iteT (kB _ _ (by rw [e0, e1, e2]; rfl) k12)⟩
                    | int i => exact ⟨false, rfl, iteT (kB _ _ (by rw [e0, e1, e2]; rfl) k12)⟩
                    | lst _ _ => exact ⟨false, rfl, iteT (kB _ _ (by rw [e0, e1, e2]; rfl) k12)⟩
                    | str _ => exact ⟨false, rfl, iteT (kB _ _ (by rw [e0, e1, e2]; rfl) k12)⟩
                    | dct _ _ _ => exact ⟨false, rfl, iteT (kB _ _ (by rw [e0, e1, e2]; rfl) k12)⟩
                    | @tup t2 ys es e3 hes =>
                      refine ⟨true, rfl, iteF ?_⟩
                      have ly := hes.length
                      have hwe : wdAll es + 3 ≤ 1000000 := by
                        have : wd (.tuple es) = wdAll es + 3 := rfl
                        omega
                      have hfe : fitAll es = true := fit_mem (x := .tuple es) hff (by simp)
                      have lw := len_wd2 es
                      refine ⟨_, rfl, t, _, _, _, rfl, rfl, sqt_of e2', atI_nat (j := 3) rfl, t2, rfl, ⟨_, sqt_of e3⟩, fun Dl nD => ?_⟩
                      refine lc_tup (xs := ys) (fun i H' => ∃ acc, H' Dl = some (.lst acc) ∧ acc.isEmpty = (es.take i).all isNameD ∧ acc.length ≤ i ∧ Kp [] _ H')
                        ⟨[], upd_same, rfl, Nat.le_refl _, .new nD⟩ (fun i H' _ ⟨acc, _, _, _, k'⟩ => sqt_of (k'.tup _ _ e3)) ?_ ?_
                      · rintro i z H' hy ⟨acc, hD, he, hlen, k'⟩
                        obtain ⟨dz, e4, az⟩ := hes.get hy
                        have hmem := List.mem_of_getElem? e4
                        have := wd_mem hmem
                        have hi : i < ys.length := (List.getElem?_eq_some_iff.mp hy).1
                        refine ⟨rfl, _, rfl, z, dz, rfl, az.kp k' (by simp) dz, fit_mem hfe hmem, by omega, fun H3 k3 => ⟨_, rfl, ?_⟩⟩
                        have hD3 : H3 Dl = some (.lst acc) := k3.at_ _ _ hD List.not_mem_nil
                        cases et : isNameD dz with
                        | true =>
                          refine iteF ⟨acc, hD3, ?_, by omega, k'.trans k3⟩
                          rw [take_all e4, et, Bool.and_true, he]
                        | false =>
                          refine iteT ⟨_, rfl, acc, hD3, Nat.lt_of_le_of_lt (show acc.length ≤ 1000000 by omega) (by decide), acc ++ [z], upd_same, ?_, ?_, (k'.trans k3).own nD⟩
                          · rw [take_all e4, et, Bool.and_false]
                            simp
                          · rw [List.length_append]
                            show acc.length + 1 ≤ i + 1
                            omega
                      · rintro H' ⟨acc, hD, he, hlen, k'⟩
                        rw [ly, List.take_length] at he
                        refine ⟨Nat.zero_le _, fun p4 np4 => ⟨Dl, p4, _, rfl, rfl, (upd_ne (ne_of_none hD np4)).trans hD, upd_same, ?_⟩⟩
                        have k4 := k'.trans (Kp.new (o := .lst []) np4)
                        refine ⟨_, rfl, ?_⟩
                        rw [he]
                        have hA : areNames (.tuple es) = es.all isNameD := rfl
                        cases e5 : es.all isNameD with
                        | false => exact iteF (kB _ _ (by rw [e0, e1, e2, hA, e5]; rfl) (k12.trans k4))
                        | true =>
                          refine iteT ⟨_, rfl, t, _, _, _, rfl, rfl, sqt_of (k4.tup _ _ e2'), atI_nat (j := 4) rfl, v4, c4, rfl, a4''.kp k4 (by simp) c4, fit_mem hff (by simp), by omega, hdd c4 (by simp), fun H5 k5 => kB _ H5 ?_ ((k12.trans k4).trans k5)⟩
                          rw [e0, e1, e2, hA, e5]
                          rfl
      · rw [decide_eq_false (show ¬ (ds.length : Int) = 5 by omega)]
        have e1 := fun_len h5
        rw [e1] at kH
        exact iteT kH
/-! ### is_script -/
theorem scLScript : FnScope ["_law_thing", "_law_it"] ["_law_thing"] (defScope sLIsScript) := ⟨rfl, rfl, rfl, by decide +kernel, rfl, by decide +kernel, by decide +kernel⟩
theorem ok_lScript (L : LG K mg A D) (n : Nat) : FnOk Pr w K mg base CX0 (n + 4) (A 32) (D 32) ["_law_thing"] (spLD ms n isScript) := by
  have B := L.B
  refine L.script.F.ok scLScript (fun vs H Q E h => ?_) (fun cdv Ar outer s H vs Q E hr h => ?_)
  · obtain ⟨v, d, rfl, _⟩ := h
    rfl
  · obtain ⟨v, d, rfl, hv, hf, hz, hd, k⟩ := h
    refine ⟨_, pss_one (ps_ret (pe_and (pe_callB call_isi (by rfl) B.isi (by decide +kernel) (pa_cons (pv 0) (pa_cons (pe_bltn (v := .ty "tuple") (by rfl) B.tuple (by decide +kernel) rfl) pa_nil)))
      (pe_one (pe_cmpR (op_eqEL hr.units) (pe_lc (own := [("_law_it", 1)]) (g := gName 1) rfl scLScript.nd (pi_tup (pv 0)) (blkOk_by (N := ["_law_thing", "_law_it"]) (sc := defScope sLIsScript) (by decide +kernel)) (fun _ _ _ _ _ => pg_name (i := 1) scLScript.nd rfl (Or.inl rfl))
            (fun _ _ _ _ _ => pts_one (pt_not (pt_val (pe_call (ok_lFunction (ms := ms) L n) hr (by rfl) L.function.g L.function.F.kp L.function.b .nil pass0 (pa_cons (pv 1) pa_nil))))) (fun _ _ _ _ _ => pv 1)) (pe_lst pa_nil) (nomark _))))), ?_⟩
    have kH := k H .refl
    obtain ⟨ty, hty, kty⟩ := hv.tupK (K := K)
    refine ⟨_, rfl, _, .ty "tuple", ty, .type "tuple", _, rfl, .ty "tuple", hty, kty, ?_⟩
    cases hv with
    | non => exact ⟨false, rfl, iteF kH⟩
    | bl b => exact ⟨false, rfl, iteF kH⟩
    | int i => exact ⟨false, rfl, iteF kH⟩
    | str g => exact ⟨false, rfl, iteF kH⟩
    | lst e => exact ⟨false, rfl, iteF kH⟩
    | dct e => exact ⟨false, rfl, iteF kH⟩
    | @tup t ys es e3 hes =>
      have ly := hes.length
      have hwe : wdAll es + 3 ≤ 1000000 := hz
      have lw := len_wd2 es
      refine ⟨true, rfl, iteT ⟨_, rfl, t, rfl, ⟨_, sqt_of e3⟩, fun Dl nD => ?_⟩⟩
      refine lc_tup (xs := ys) (fun i H' => ∃ acc, H' Dl = some (.lst acc) ∧ acc.isEmpty = (es.take i).all isFunction ∧ acc.length ≤ i ∧ Kp [] _ H')
        ⟨[], upd_same, rfl, Nat.le_refl _, .new nD⟩ (fun i H' _ ⟨acc, _, _, _, k'⟩ => sqt_of (k'.tup _ _ e3)) ?_ ?_
      · rintro i z H' hy ⟨acc, hD, he, hlen, k'⟩
        obtain ⟨dz, e4, az⟩ := hes.get hy
        have hmem := List.mem_of_getElem? e4
        have := wd_mem hmem
        have hdz : dz.depth < n := by
          have q : PyData.depthAll es + 1 < n := hd
          have := dep_mem hmem
          omega
        have hi : i < ys.length := (List.getElem?_eq_some_iff.mp hy).1
        refine ⟨rfl, _, rfl, z, dz, rfl, az.kp k' (by simp) dz, fit_mem hf hmem, by omega, hdz, fun H3 k3 => ⟨_, rfl, ?_⟩⟩
        have hD3 : H3 Dl = some (.lst acc) := k3.at_ _ _ hD List.not_mem_nil
        cases et : isFunction dz with
        | true =>
          refine iteF ⟨acc, hD3, ?_, by omega, k'.trans k3⟩
          rw [take_all e4, et, Bool.and_true, he]
        | false =>
          refine iteT ⟨_, rfl, acc, hD3, Nat.lt_of_le_of_lt (show acc.length ≤ 1000000 by omega) (by decide), acc ++ [z], upd_same, ?_, ?_, (k'.trans k3).own nD⟩
          · rw [take_all e4, et, Bool.and_false]
            simp
          · rw [List.length_append]
            show acc.length + 1 ≤ i + 1
            omega
      · rintro H' ⟨acc, hD, he, hlen, k'⟩
        rw [ly, List.take_length] at he
        refine ⟨Nat.zero_le _, fun p4 np4 => ⟨Dl, p4, _, rfl, rfl, (upd_ne (ne_of_none hD np4)).trans hD, upd_same, ?_⟩⟩
        rw [he]
        exact k _ (k'.trans (Kp.new (o := .lst []) np4))
end
end Ey
set_option maxHeartbeats 4000000
namespace Ey
open PySem PySem.Spec L2
abbrev sInt : Stmt := topS 21
abbrev sAny : Stmt := topS 22
abbrev sInstead : Stmt := topS 23
abbrev sBent : Stmt := topS 24
/-- what the drawing leans on -/
structure LH (K : PySem.W.Frag) (mg : Str → Option Value) (A : Nat → Addr) (D : Nat → FuncData) : Prop extends LG K mg A D where
  draw : Df K mg "_law_draw" sDraw ["_law_deck_here", "_law_many"] (A 19) (D 19)
  pick : Df K mg "_law_pick" sPick ["_law_deck_here", "_law_some"] (A 20) (D 20)
  int : Df K mg "_law_is_integer" sInt ["_law_thing"] (A 21) (D 21)
  any : Df K mg "_law_any" sAny ["_law_deck_here", "_law_deep"] (A 22) (D 22)
  ins : Df K mg "_law_instead" sInstead ["_law_some", "_law_at_here", "_law_item"] (A 23) (D 23)
mutual
def fitJ (B : Nat) : PyData → Bool
  | .none | .bool _ => true
  | .int i => decide (i.natAbs < B)
  | .str x => x.cps.toList.all fun c => decide (c < 1000)
  | .list ds | .tuple ds => fitJAll B ds
  | .dict kvs => fitJKv B kvs
def fitJAll (B : Nat) : List PyData → Bool
  | [] => true
  | x :: r => fitJ B x && fitJAll B r
def fitJKv (B : Nat) : List (PyData × PyData) → Bool
  | [] => true
  | (k, v) :: r => (fitJ B k && fitJ B v) && fitJKv B r
end
mutual
theorem fitJ_le {B C : Nat} (h : B ≤ C) : ∀ d : PyData, fitJ B d = true → fitJ C d = true
  | .none, _ => rfl
  | .bool _, _ => rfl
  | .int i, e => by
    have q : i.natAbs < B := of_decide_eq_true e
    exact decide_eq_true (Nat.lt_of_lt_of_le q h)
  | .str x, e => e
  | .list ds, e => fitJAll_le h ds e
  | .tuple ds, e => fitJAll_le h ds e
  | .dict ds, e => fitJKv_le h ds e
theorem fitJAll_le {B C : Nat} (h : B ≤ C) : ∀ d : List PyData, fitJAll B d = true → fitJAll C d = true
  | [], _ => rfl
  | x :: r, e => by
    have q : (fitJ B x && fitJAll B r) = true := e
    rw [Bool.and_eq_true] at q
    show (fitJ C x && fitJAll C r) = true
    rw [fitJ_le h x q.1, fitJAll_le h r q.2]
    rfl
theorem fitJKv_le {B C : Nat} (h : B ≤ C) : ∀ d : List (PyData × PyData), fitJKv B d = true → fitJKv C d = true
  | [], _ => rfl
  | (k, v) :: r, e => by
    have q : ((fitJ B k && fitJ B v) && fitJKv B r) = true := e
    rw [Bool.and_eq_true, Bool.and_eq_true] at q
    show ((fitJ C k && fitJ C v) && fitJKv C r) = true
    rw [fitJ_le h k q.1.1, fitJ_le h v q.1.2, fitJKv_le h r q.2]
    rfl
end
mutual
theorem fitJ_is : ∀ d : PyData, fitJ (10 ^ 40) d = fit d
  | .none => rfl
  | .bool _ => rfl
  | .int i => rfl
  | .str x => rfl
  | .list ds => fitJAll_is ds
  | .tuple ds => fitJAll_is ds
  | .dict ds => fitJKv_is ds
theorem fitJAll_is : ∀ d : List PyData, fitJAll (10 ^ 40) d = fitAll d
  | [] => rfl
  | x :: r => by
    show (fitJ _ x && fitJAll _ r) = (fit x && fitAll r)
    rw [fitJ_is x, fitJAll_is r]
theorem fitJKv_is : ∀ d : List (PyData × PyData), fitJKv (10 ^ 40) d = fitKv d
  | [] => rfl
  | (k, v) :: r => by
    show ((fitJ _ k && fitJ _ v) && fitJKv _ r) = ((fit k && fit v) && fitKv r)
    rw [fitJ_is k, fitJ_is v, fitJKv_is r]
end
theorem fitJ_mem {B : Nat} {x : PyData} : ∀ {ds : List PyData}, fitJAll B ds = true → x ∈ ds → fitJ B x = true
  | y :: r, h, hx => by
    have h2 : (fitJ B y && fitJAll B r) = true := h
    rw [Bool.and_eq_true] at h2
    rcases List.mem_cons.mp hx with rfl | hx
    · exact h2.1
    · exact fitJ_mem h2.2 hx
theorem fitJ_all {B : Nat} : ∀ {ds : List PyData}, (∀ x ∈ ds, fitJ B x = true) → fitJAll B ds = true
  | [], _ => rfl
  | y :: r, h => by
    show (fitJ B y && fitJAll B r) = true
    rw [h y (by simp), fitJ_all fun x hx => h x (List.mem_cons_of_mem _ hx)]
    rfl
structure GoodJ (B n w : Nat) (x : PyData) : Prop where
  f : fitJ B x = true
  d : x.depth ≤ n
  w : wd x ≤ w
theorem GoodJ.mono {B C n w n' w' : Nat} {x : PyData} (g : GoodJ B n w x) (h0 : B ≤ C) (h1 : n ≤ n') (h2 : w ≤ w') : GoodJ C n' w' x := ⟨fitJ_le h0 x g.f, Nat.le_trans g.d h1, Nat.le_trans g.w h2⟩
theorem GoodJ.good {B n w : Nat} {x : PyData} (g : GoodJ B n w x) (h0 : B ≤ 10 ^ 40) : Good n w x := ⟨fitJ_is x ▸ fitJ_le h0 x g.f, g.d, g.w⟩
inductive GoodJAll (B n w : Nat) : List PyData → Prop
  | nil : GoodJAll B n w []
  | cons {x : PyData} {r : List PyData} : GoodJ B n w x → GoodJAll B n w r → GoodJAll B n w (x :: r)
theorem GoodJAll.facts {B n w : Nat} {ds : List PyData} (h : GoodJAll B n w ds) : fitJAll B ds = true ∧ PyData.depthAll ds ≤ n ∧ wdAll ds ≤ (w + 2) * ds.length := by
  induction h with
  | nil => exact ⟨rfl, Nat.zero_le _, Nat.zero_le _⟩
  | @cons x r g _ ih =>
    obtain ⟨a, b, c⟩ := ih
    refine ⟨?_, ?_, ?_⟩
    · show (fitJ B x && fitJAll B r) = true
      rw [g.f, a]
      rfl
    · show max x.depth (PyData.depthAll r) ≤ n
      have := g.d
      omega
    · show wd x + 2 + wdAll r ≤ (w + 2) * (r.length + 1)
      have := g.w
      rw [Nat.mul_add]
      omega
theorem GoodJAll.snoc {B n w : Nat} {ds : List PyData} {x : PyData} (h : GoodJAll B n w ds) (g : GoodJ B n w x) : GoodJAll B n w (ds ++ [x]) := by
  induction h with
  | nil => exact .cons g .nil
  | cons a _ ih => exact .cons a ih
def wJ : Nat → Nat
  | 0 => 140
  | n + 1 => 3 * wJ n + 150
theorem wJ_ge : ∀ n, 140 ≤ wJ n
  | 0 => Nat.le_refl _
  | n + 1 => by
    have := wJ_ge n
    show 140 ≤ 3 * wJ n + 150
    omega
/-- the deck, and what else is not data -/
structure Frame (ms : List Addr) (d l : Addr) (H : Hp) : Prop where
  dk : DeckAt H d l
  dm : d ∈ ms
  lm : l ∈ ms
  has : Has ms H
theorem Frame.sub {ms : List Addr} {d l : Addr} {H : Hp} (F : Frame ms d l H) : ∀ x ∈ [d, l], x ∈ ms := fun x hx => by
  rcases List.mem_cons.mp hx with rfl | hx
  · exact F.dm
  · rw [List.mem_singleton.mp hx]
    exact F.lm
theorem DeckAt.some_ {d l : Addr} {H : Hp} (D : DeckAt H d l) : ∀ b ∈ [d, l], H b ≠ none := fun b hb => by
  obtain ⟨m, n, ns, h1, h2, _⟩ := D.ex
  rcases List.mem_cons.mp hb with rfl | hb
  · rw [h1]
    exact fun z => nomatch z
  · rw [List.mem_singleton.mp hb, h2]
    exact fun z => nomatch z
theorem Frame.go {ms : List Addr} {d l : Addr} {H H1 : Hp} (F : Frame ms d l H) (k : Kp [d, l] H H1) (D : DeckAt H1 d l) : Frame ms d l H1 := ⟨D, F.dm, F.lm, F.has.kp k D.some_⟩
theorem Frame.kp0 {ms : List Addr} {d l : Addr} {H H1 : Hp} (F : Frame ms d l H) (k : Kp [] H H1) : Frame ms d l H1 := ⟨F.dk.kp k List.not_mem_nil List.not_mem_nil, F.dm, F.lm, F.has.kp k fun b hb => absurd hb List.not_mem_nil⟩
theorem Frame.new {ms : List Addr} {d l p : Addr} {H : Hp} {o : HO} (F : Frame ms d l H) (n : H p = none) : Frame ms d l (upd H p o) := F.kp0 (.new n)
theorem Frame.ne {ms : List Addr} {d l p : Addr} {H : Hp} (F : Frame ms d l H) (n : H p = none) : p ≠ d ∧ p ≠ l :=
  ⟨fun e => F.has d F.dm (e ▸ n), fun e => F.has l F.lm (e ▸ n)⟩
def kKey : Key := .inr "key"
def kOne : Key := .inl 1
theorem merge_two (x y : V) : mergeK [] [(kKey, x), (kOne, y)] = [(kKey, x), (kOne, y)] := by
  have e1 : putK ([] : List (Key × V)) kKey x = [(kKey, x)] := putK_new _ rfl
  have e2 : putK [(kKey, x)] kOne y = [(kKey, x), (kOne, y)] := putK_new _ (valV_neg (by intro z; cases z))
  show putK (putK [] kKey x) kOne y = _
  rw [e1, e2]
def spAny (n : Nat) : Sp := fun vs H Q _ => ∃ (d l : Addr) (ms : List Addr) (deep : Nat), vs = [.ref d, .int deep] ∧ deep < n ∧ Frame ms d l H ∧
  ∀ (v : V) (x : PyData) (H' : Hp), An ms H' v x → GoodJ (10 ^ 29 + 1) (2 * deep + 2) (wJ deep) x → Frame ms d l H' → Kp [d, l] H H' → Q v H'
section
variable {Pr : Program} {w : World} {K : PySem.W.Frag} {mg : Str → Option Value} {base : Heap} {A : Nat → Addr} {D : Nat → FuncData}
def NA : List Str := ["_law_deck_here", "_law_deep", "_law_way", "_law_some", "_law_turn"]
theorem scAny : FnScope NA ["_law_deck_here", "_law_deep"] (defScope sAny) := ⟨rfl, rfl, rfl, by decide +kernel, rfl, by decide +kernel, by decide +kernel⟩
theorem ok_any (Fa : LH K mg A D) (D0 : Df K mg "_law_any" sAny ["_law_deck_here", "_law_deep"] (A 22) (D 22)) : ∀ n : Nat, FnOk Pr w K mg base CX0 (n + 2) (A 22) (D 22) ["_law_deck_here", "_law_deep"] (spAny n)
  | 0 => by
    refine D0.F.ok scAny (fun vs H Q E h => ?_) (fun cdv Ar outer s H vs Q E hr h => ?_)
    · obtain ⟨d, l, ms, deep, rfl, _⟩ := h
      rfl
    · obtain ⟨d, l, ms, deep, rfl, hd, _⟩ := h
      exact absurd hd (Nat.not_lt_zero _)
  | n + 1 => by
    have ih := ok_any Fa D0 n
    refine D0.F.ok scAny (fun vs H Q E h => ?_) (fun cdv Ar outer s H vs Q E hr h => ?_)
    · obtain ⟨d, l, ms, deep, rfl, _⟩ := h
      rfl
    · obtain ⟨d, l, ms, deep, rfl, hdn, Fr, k⟩ := h
      have hr2 := hr.mono (show 2 ≤ n + 2 by omega)
      have hr1 := hr.mono (show 1 ≤ n + 2 by omega)
      have w0 := wJ_ge deep
      obtain ⟨tt, dt, rt⟩ : ∃ tt, PSs (cxOf CX0 Pr w K mg base NA "_law_any" (defScope sAny) (A 22) cdv Ar outer s H E).nox ((defBody sAny).drop 5) tt ∧
          ∀ (H3 : Hp) (D : Addr) (xs : List V) (ds : List PyData) (y : Option V) (r : Int), H3 D = some (.lst xs) → AnAll ms H3 xs ds → D ∉ ms → fitJAll (10 ^ 29 + 1) ds = true → PyData.depthAll ds ≤ 2 * deep → wdAll ds + 136 ≤ wJ deep → ds.length ≤ 3 → Frame ms d l H3 → Kp [d, l] H H3 →
          tt { nx := fun _ H' => Q .non H', rt := Q } [some (.ref d), some (.int deep), some (.int r), some (.ref D), y] H3 := by
        refine ⟨_, pss_cons (ps_if (pt_cmpR op_eq (pv 2) pe_int (nomark _)) (pss_one (ps_ret (pv 3))) pss_nil)
          (pss_one (ps_ret (pe_ifExp (pt_cmpR op_eq (pv 2) pe_int (nomark _)) (pe_disp (pps_cons pe_str (pv 3) (pps_cons pe_int (pe_callB call_len_seq (by rfl) Fa.B.len PySem.boot_len (pa_cons (pv 3) pa_nil)) pps_nil)) (by rfl) (by rfl) (fun z => by cases z) (by decide))
            (pe_callTy call_tuple_of (by rfl) Fa.B.tuple (by decide +kernel) (pa_cons (pv 3) pa_nil))))), ?_⟩
        intro H3 D xs ds y r hD hA nD hf hdp hw hln F3 k3
        have lx := hA.length
        refine ⟨_, rfl, rfl, _, rfl, ite2 (fun _ => ?_) (fun _ => ?_)⟩
        · refine ⟨_, rfl, ?_⟩
          exact k _ (.list ds) H3 (.lst hD nD hA) ⟨hf, by show PyData.depthAll ds + 1 ≤ 2 * deep + 2; omega, by show wdAll ds + 3 ≤ wJ deep; omega⟩ F3 k3
        refine ⟨_, rfl, rfl, _, rfl, ite2 (fun _ => ?_) (fun _ => ?_)⟩
        · intro q nq
          have hDq : D ≠ q := ne_of_none hD nq
          have kq0 : Kp [] H3 (upd H3 q (.dK [])) := .new nq
          refine ⟨_, rfl, _, rfl, D, xs, rfl, .inl (sql_of (by rw [upd_ne hDq]; exact hD)), upd_same, [(kKey, .ref D), (kOne, .int xs.length)], rfl, by show 2 ≤ 15; decide, ?_⟩
          rw [merge_two, upd_upd]
          have kq : Kp [] H3 (upd H3 q (.dK [(kKey, .ref D), (kOne, .int xs.length)])) := .new nq
          refine k _ (.dict [(kD kKey, .list ds), (kD kOne, .int xs.length)]) _ (.dct upd_same (F3.has.fresh nq) (.cons (.lst (by rw [upd_ne hDq]; exact hD) nD (hA.kp kq (by simp) ds)) (.cons (.int _) .nil))) ⟨?_, ?_, ?_⟩ (F3.new nq) (k3.trans (.new nq))
          · have q1 : fitJ (10 ^ 29 + 1) (kD kKey) = true := by decide +kernel
            have q2 : fitJ (10 ^ 29 + 1) (kD kOne) = true := by decide +kernel
            have q3 : fitJ (10 ^ 29 + 1) (.int (xs.length : Int)) = true := by
              rw [lx]
              rcases (show ds.length = 0 ∨ ds.length = 1 ∨ ds.length = 2 ∨ ds.length = 3 by omega) with e | e | e | e <;> rw [e] <;> decide +kernel
            show ((fitJ (10 ^ 29 + 1) (kD kKey) && fitJAll (10 ^ 29 + 1) ds) && ((fitJ (10 ^ 29 + 1) (kD kOne) && fitJ (10 ^ 29 + 1) (.int (xs.length : Int))) && true)) = true
            rw [q1, q2, q3, hf]
            rfl
          · show max (max 0 (PyData.depthAll ds + 1)) (max (max 0 0) 0) + 1 ≤ 2 * deep + 2
            omega
          · have q1 : wd (kD kKey) = 32 := by decide +kernel
            show wd (kD kKey) + (wdAll ds + 3) + 4 + (45 + 45 + 4 + 0) + 3 ≤ wJ deep
            omega
        · refine ⟨_, rfl, D, _, rfl, .inl ⟨sql_of hD, fun q nq => ?_⟩⟩
          have kq : Kp [] H3 (upd H3 q (.tup xs)) := .new nq
          exact k _ (.tuple ds) _ (.tup upd_same (hA.kp kq (by simp) ds)) ⟨hf, by show PyData.depthAll ds + 1 ≤ 2 * deep + 2; omega, by show wdAll ds + 3 ≤ wJ deep; omega⟩ (F3.new nq) (k3.trans (.new nq))
      refine ⟨_, pss_cons (ps_set (i := 2) scAny.nd rfl (.inl rfl) (pe_call (ok_draw Fa.draw.F Fa.B) hr1 (by rfl) Fa.draw.g Fa.draw.F.kp Fa.draw.b .nil pass0 (pa_cons (pv 0) (pa_cons pe_int pa_nil))))
        (pss_cons (ps_if (pt_cmpR op_lt (pv 2) pe_int (nomark _)) (pss_one (ps_ret (pe_call (ok_pick Fa.pick.F Fa.B Fa.draw) hr2 (by rfl) Fa.pick.g Fa.pick.F.kp Fa.pick.b .nil pass0 (pa_cons (pv 0) (pa_cons (pe_lst (pa_cons pe_int (pa_cons pe_int (pa_cons (pe_un un_neg pe_int) (pa_cons pe_int (pa_cons (pe_op op_pow pe_int pe_int) (pa_cons (pe_un un_neg (pe_op op_pow pe_int pe_int)) (pa_cons pe_int (pa_cons pe_int pa_nil))))))))) pa_nil))))) pss_nil)
        (pss_cons (ps_if (pt_cmpR op_lt (pv 2) pe_int (nomark _)) (pss_one (ps_ret (pe_call (ok_pick Fa.pick.F Fa.B Fa.draw) hr2 (by rfl) Fa.pick.g Fa.pick.F.kp Fa.pick.b .nil pass0 (pa_cons (pv 0) (pa_cons (pe_lst (pa_cons pe_str (pa_cons pe_str (pa_cons pe_str (pa_cons pe_str (pa_cons pe_str (pa_cons pe_str pa_nil))))))) pa_nil))))) pss_nil)
        (pss_cons (ps_if (pt_cmpR op_eq (pv 2) pe_int (nomark _)) (pss_one (ps_ret (pe_call (ok_pick Fa.pick.F Fa.B Fa.draw) hr2 (by rfl) Fa.pick.g Fa.pick.F.kp Fa.pick.b .nil pass0 (pa_cons (pv 0) (pa_cons (pe_lst (pa_cons pe_bl (pa_cons pe_bl (pa_cons pe_non pa_nil)))) pa_nil))))) pss_nil)
        (pss_cons (ps_set (i := 3) scAny.nd rfl (.inl rfl) (pe_ifExp (pt_cmpR op_gt (pv 1) pe_int (nomark _))
          (pe_lc (own := [("_law_turn", 4)]) (g := gName 4) (tt := tYes) rfl scAny.nd (pi_range1 (by rfl) Fa.B.range (pa_cons (pe_call (ok_draw Fa.draw.F Fa.B) hr1 (by rfl) Fa.draw.g Fa.draw.F.kp Fa.draw.b .nil pass0 (pa_cons (pv 0) (pa_cons pe_int pa_nil))) pa_nil))
            (blkOk_by (N := NA) (sc := defScope sAny) (by decide +kernel)) (fun _ _ _ _ _ => pg_name (i := 4) scAny.nd rfl (Or.inl rfl)) (fun _ _ _ _ _ => pts_nil)
            (fun _ _ _ _ _ => pe_call ih hr (by rfl) D0.g D0.F.kp D0.b .nil pass0 (pa_cons (pv 0) (pa_cons (pe_op op_sub (pv 1) pe_int) pa_nil))))
          (pe_lst pa_nil)))
        dt)))), ?_⟩
      have leaf : ∀ (v : V) (x : PyData) (H1 : Hp), An ms H1 v x → fitJ (10 ^ 29 + 1) x = true → x.depth = 0 → wd x ≤ 130 → DeckAt H1 d l → Kp [d, l] H H1 → Q v H1 := fun v x H1 a b c e D1 k1 =>
        k v x H1 a ⟨b, by omega, by omega⟩ (Fr.go k1 D1) k1
      refine ⟨_, rfl, d, l, 10, rfl, Fr.dk, by decide, by decide, fun r H1 r0 r1 D1 k1 => ?_⟩
      have F1 := Fr.go k1 D1
      refine ⟨_, rfl, _, _, rfl, rfl, _, rfl, ite2 (fun _ => ?_) (fun _ => ?_)⟩
      · refine ⟨_, rfl, 1, rfl, _, _, rfl, rfl, (⟨by decide, by decide, by decide⟩ : (0 : Int) ≤ 29 ∧ (29 : Int) ≤ 1000000 ∧ (10 : Int).natAbs < 2 ^ 64), _, _, rfl, rfl, (⟨by decide, by decide, by decide⟩ : (0 : Int) ≤ 20 ∧ (20 : Int) ≤ 1000000 ∧ (10 : Int).natAbs < 2 ^ 64), _, rfl, by show 8 ≤ sizeLine; decide, fun p np => ?_⟩
        have n1 := F1.ne np
        have F2 := F1.new (o := .lst [.int 0, .int 1, .int (-1), .int 7, .int (10 ^ (29 : Int).toNat), .int (-(10 ^ (20 : Int).toNat)), .int 2, .int 5]) np
        refine ⟨d, l, p, _, rfl, F2.dk, sql_of upd_same, by simp, by show 8 ≤ 1000000; decide, n1.1, n1.2, fun x H4 hx D4 k4 => ?_⟩
        have k4' : Kp [d, l] H H4 := k1.trans ((Kp.new np).trans k4)
        simp only [List.mem_cons, List.not_mem_nil, or_false] at hx
        rcases hx with rfl | rfl | rfl | rfl | rfl | rfl | rfl | rfl
        all_goals exact leaf _ _ H4 (.int _) (by decide +kernel) rfl (by show 45 ≤ 130; decide) D4 k4'
      refine ⟨_, rfl, _, _, rfl, rfl, _, rfl, ite2 (fun _ => ?_) (fun _ => ?_)⟩
      · refine ⟨_, rfl, by show 6 ≤ sizeLine; decide, fun p np => ?_⟩
        have n1 := F1.ne np
        refine ⟨d, l, p, _, rfl, (F1.new np).dk, sql_of upd_same, by simp, by show 6 ≤ 1000000; decide, n1.1, n1.2, fun x H4 hx D4 k4 => ?_⟩
        have k4' : Kp [d, l] H H4 := k1.trans ((Kp.new np).trans k4)
        simp only [List.mem_cons, List.not_mem_nil, or_false] at hx
        rcases hx with rfl | rfl | rfl | rfl | rfl | rfl
        all_goals exact leaf _ _ H4 (.str _) (by decide +kernel) rfl (by decide +kernel) D4 k4'
      refine ⟨_, rfl, rfl, _, rfl, ite2 (fun _ => ?_) (fun _ => ?_)⟩
      · refine ⟨_, rfl, by show 3 ≤ sizeLine; decide, fun p np => ?_⟩
        have n1 := F1.ne np
        refine ⟨d, l, p, _, rfl, (F1.new np).dk, sql_of upd_same, by simp, by show 3 ≤ 1000000; decide, n1.1, n1.2, fun x H4 hx D4 k4 => ?_⟩
        have k4' : Kp [d, l] H H4 := k1.trans ((Kp.new np).trans k4)
        simp only [List.mem_cons, List.not_mem_nil, or_false] at hx
        rcases hx with rfl | rfl | rfl
        · exact leaf _ _ H4 (.bl true) rfl rfl (by show 5 ≤ 130; decide) D4 k4'
        · exact leaf _ _ H4 (.bl false) rfl rfl (by show 5 ≤ 130; decide) D4 k4'
        · exact leaf _ _ H4 .non rfl rfl (by show 4 ≤ 130; decide) D4 k4'
      refine ⟨_, rfl, _, _, rfl, rfl, _, rfl, ite2 (fun q => ?_) (fun _ => ?_)⟩
      · have hd0 : 0 < deep := by
          have := of_decide_eq_true q
          omega
        refine ⟨_, rfl, d, l, 4, rfl, D1, by decide, by decide, fun c H2 c0 c1 D2 k2 => ?_⟩
        have F2 := F1.go k2 D2
        obtain ⟨m, rfl⟩ : ∃ m : Nat, c = (m : Int) := ⟨c.toNat, by omega⟩
        refine ⟨m, rfl, by omega, by omega, ?_⟩
        rw [Int.toNat_natCast]
        intro D nD
        have nDm := F2.has.fresh nD
        refine lc_range (lo := 0) (n := m) (fun i H => ∃ (xs : List V) (ds : List PyData), H D = some (.lst xs) ∧ AnAll (D :: ms) H xs ds ∧ GoodJAll (10 ^ 29 + 1) (2 * (deep - 1) + 2) (wJ (deep - 1)) ds ∧ ds.length = i ∧ Frame ms d l H ∧ Kp [d, l] H2 H)
          ⟨[], [], upd_same, .nil, .nil, rfl, F2.new nD, .new nD⟩ ?_ ?_
        · rintro i H5 hi ⟨xs, ds, hD, hA, hG, hl, F5, k5⟩
          have hDd : D ≠ d := fun e => nDm (e ▸ F2.dm)
          have hDl : D ≠ l := fun e => nDm (e ▸ F2.lm)
          have FD : Frame (D :: ms) d l H5 := ⟨F5.dk, List.mem_cons_of_mem _ F5.dm, List.mem_cons_of_mem _ F5.lm, fun b hb => by
            rcases List.mem_cons.mp hb with rfl | hb
            · rw [hD]
              exact fun z => nomatch z
            · exact F5.has b hb⟩
          refine ⟨rfl, _, rfl, _, rfl, _, _, rfl, rfl, d, l, D :: ms, deep - 1, ?_, by omega, FD, fun v x H6 hx gx F6 k6 => ?_⟩
          · show [V.ref d, V.int ((deep : Int) - 1)] = _
            rw [show (deep : Int) - 1 = ((deep - 1 : Nat) : Int) by omega]
          have hD6 : H6 D = some (.lst xs) := k6.at_ _ _ hD (by simp [hDd, hDl])
          have kD : Kp [D] H6 (upd H6 D (.lst (xs ++ [v]))) := .put (by simp) hD6 (fun _ z => by cases z)
          refine ⟨xs, hD6, ?_, xs ++ [v], ds ++ [x], upd_same, ?_, hG.snoc gx, by rw [List.length_append, hl]; rfl, ?_, ?_⟩
          · have := hA.length
            exact Nat.lt_of_le_of_lt (show xs.length ≤ 3 by omega) (by decide)
          · exact ((hA.kp k6 FD.sub ds).kp kD (by simp) ds).append (.cons (hx.kp kD (by simp) x) .nil)
          · have F6' : Frame ms d l H6 := F5.go k6 F6.dk
            refine ⟨F6'.dk.kp kD (by simp [hDd.symm]) (by simp [hDl.symm]), F6'.dm, F6'.lm, F6'.has.kp kD fun b hb => ?_⟩
            rw [List.mem_singleton.mp hb, upd_same]
            exact fun z => nomatch z
          · exact (k5.trans k6).own nD
        · rintro H5 ⟨xs, ds, hD, hA, hG, hl, F5, k5⟩
          obtain ⟨g1, g2, g3⟩ := hG.facts
          have e : wJ deep = 3 * wJ (deep - 1) + 150 := by
            obtain ⟨z, rfl⟩ : ∃ z, deep = z + 1 := ⟨deep - 1, by omega⟩
            rfl
          have h3 : (wJ (deep - 1) + 2) * ds.length ≤ (wJ (deep - 1) + 2) * 3 := Nat.mul_le_mul_left _ (by omega)
          exact rt H5 D xs ds _ r hD (hA.mono (fun x hx => List.mem_cons_of_mem _ hx) ds) nDm g1 (by omega) (by omega) (by omega) F5 (k1.trans (k2.trans k5))
      · refine ⟨by show 0 ≤ sizeLine; decide, fun D nD => ?_⟩
        exact rt _ D [] [] _ r upd_same .nil (F1.has.fresh nD) rfl (Nat.zero_le _) (by show 0 + 136 ≤ wJ deep; omega) (by decide) (F1.new nD) (k1.trans (.new nD))
end
end Ey
set_option maxHeartbeats 4000000
namespace Ey
open PySem PySem.Spec L2
theorem nat_low (n : Nat) : ∀ c ∈ (toString n).toList, c.toNat < 1000 := by
  intro c hc
  have e : (toString n).toList = Nat.toDigits 10 n := by
    show (Nat.repr n).toList = _
    unfold Nat.repr
    simp
  rw [e] at hc
  have := Nat.isDigit_of_mem_toDigits (by decide) (by decide) hc
  unfold Char.isDigit at this
  simp only [Bool.and_eq_true, decide_eq_true_eq] at this
  have h2 : c.val.toNat ≤ 57 := this.2
  show c.val.toNat < 1000
  omega
theorem int_low (B : Nat) (i : Int) : fitJ B (.str (Str.ofString (toString i))) = true := by
  show ((Str.ofString (toString i)).cps.toList.all fun c => decide (c < 1000)) = true
  have e : (Str.ofString (toString i)).cps.toList = (toString i).toList.map Char.toNat := by
    rw [Str.ofString_eq_toList]
  rw [e, List.all_map, List.all_eq_true]
  intro c hc
  refine decide_eq_true ?_
  show c.toNat < 1000
  cases i with
  | ofNat n => exact nat_low n c hc
  | negSucc n =>
    have e2 : (toString (Int.negSucc n)).toList = '-' :: (toString (n + 1)).toList := by
      show ("-" ++ Nat.repr (n + 1)).toList = _
      rw [String.toList_append]
      rfl
    rw [e2] at hc
    rcases List.mem_cons.mp hc with rfl | hc
    · decide
    · exact nat_low _ c hc
section
variable {Pr : Program} {w : World} {K : PySem.W.Frag} {mg : Str → Option Value} {base : Heap} {A : Nat → Addr} {D : Nat → FuncData}
/-! ### a tuple with another item -/
theorem scInstead : FnScope ["_law_some", "_law_at_here", "_law_item"] ["_law_some", "_law_at_here", "_law_item"] (defScope sInstead) := ⟨rfl, rfl, rfl, by decide +kernel, rfl, by decide +kernel, by decide +kernel⟩
def spInstead : Sp := fun vs H Q _ => ∃ (a : Addr) (xs : List V) (i : Nat) (v : V), vs = [.ref a, .int i, v] ∧ H a = some (.tup xs) ∧ xs.length ≤ 400000 ∧
  ∀ (q : Addr) (H' : Hp), H' q = some (.tup (xs.take i ++ [v] ++ xs.drop (i + 1))) → Kp [] H H' → Q (.ref q) H'
theorem ok_instead (L : LH K mg A D) : FnOk Pr w K mg base CX0 1 (A 23) (D 23) ["_law_some", "_law_at_here", "_law_item"] spInstead := by
  refine L.ins.F.ok scInstead (fun vs H Q E h => ?_) (fun cdv Ar outer s H vs Q E hr h => ?_)
  · obtain ⟨a, xs, i, v, rfl, _⟩ := h
    rfl
  · obtain ⟨a, xs, i, v, rfl, e, hl, k⟩ := h
    refine ⟨_, pss_one (ps_ret (pe_op op_cat2 (pe_op op_cat2 (pe_slice sl_cut (pv 0) po_none (po_some (pv 1))) (pe_tup (pa_cons (pv 2) pa_nil))) (pe_slice sl_cut (pv 0) (po_some (pe_op op_add (pv 1) pe_int)) po_none))), ?_⟩
    refine ⟨_, rfl, _, rfl, _, rfl, a, xs, rfl, e, fun q1 H1 e1 k1 => ?_⟩
    rw [cut_take] at e1
    refine ⟨_, rfl, by show 1 ≤ sizeLine; decide, fun q2 n2 => ?_⟩
    have k2 : Kp [] H1 (upd H1 q2 (.tup [v])) := .new n2
    have e2 : (upd H1 q2 (.tup [v])) q2 = some (.tup [v]) := upd_same
    generalize upd H1 q2 (.tup [v]) = H2 at k2 e2
    have l1 : (xs.take i).length ≤ 400000 := by rw [List.length_take]; omega
    refine ⟨q1, q2, _, _, rfl, rfl, k2.tup _ _ e1, e2, Nat.le_trans (show (xs.take i).length + 1 ≤ 400001 by omega) (by decide), fun q3 H3 e3 k3 => ?_⟩
    have k13 := k1.trans (k2.trans k3)
    refine ⟨_, rfl, _, rfl, _, _, rfl, rfl, _, rfl, a, xs, rfl, k13.tup _ _ e, fun q4 H4 e4 k4 => ?_⟩
    have ei : ((i : Int) + 1) = ((i + 1 : Nat) : Int) := by omega
    rw [ei, cut_drop] at e4
    refine ⟨q3, q4, _, _, rfl, rfl, k4.tup _ _ e3, e4, ?_, fun q5 H5 e5 k5 => k q5 H5 e5 (k13.trans (k4.trans k5))⟩
    refine Nat.le_trans (show _ ≤ 800001 from ?_) (by decide)
    rw [List.length_append, List.length_drop]
    show (xs.take i).length + 1 + (xs.length - (i + 1)) ≤ 800001
    omega
/-! ### an integer -/
theorem scInt : FnScope ["_law_thing"] ["_law_thing"] (defScope sInt) := ⟨rfl, rfl, rfl, by decide +kernel, rfl, by decide +kernel, by decide +kernel⟩
def isIntD : PyData → Bool
  | .int _ => true
  | .none | .bool _ | .str _ | .list _ | .tuple _ | .dict _ => false
def spInt (ms : List Addr) : Sp := fun vs H Q _ => ∃ (v : V) (d : PyData), vs = [v] ∧ An ms H v d ∧ Q (.bl (isIntD d)) H
theorem ok_int {ms : List Addr} (L : LH K mg A D) : FnOk Pr w K mg base CX0 1 (A 21) (D 21) ["_law_thing"] (spInt ms) := by
  have B := L.B
  refine L.int.F.ok scInt (fun vs H Q E h => ?_) (fun cdv Ar outer s H vs Q E hr h => ?_)
  · obtain ⟨v, d, rfl, _⟩ := h
    rfl
  · obtain ⟨v, d, rfl, hv, k⟩ := h
    refine ⟨_, pss_one (ps_ret (pe_and (pe_callB call_isi (by rfl) B.isi (by decide +kernel) (pa_cons (pv 0) (pa_cons (pe_bltn (v := .ty "int") (by rfl) B.int (by decide +kernel) rfl) pa_nil)))
      (pe_one (pe_not (pe_callB call_isi (by rfl) B.isi (by decide +kernel) (pa_cons (pv 0) (pa_cons (pe_bltn (v := .ty "bool") (by rfl) B.bool (by decide +kernel) rfl) pa_nil))))))), ?_⟩
    cases hv with
    | non => exact ⟨_, rfl, _, .ty "int", _, .type "int", false, rfl, .ty "int", .base .non, kit_ty (by decide +kernel), false, rfl, iteF k⟩
    | bl b => exact ⟨_, rfl, _, .ty "int", _, .type "int", true, rfl, .ty "int", .base (.bl b), kit_ty (by decide +kernel), true, rfl, iteT ⟨_, rfl, _, .ty "bool", _, .type "bool", true, rfl, .ty "bool", .base (.bl b), kit_ty (by decide +kernel), _, rfl, k⟩⟩
    | int i => exact ⟨_, rfl, _, .ty "int", _, .type "int", true, rfl, .ty "int", .base (.int i), kit_ty (by decide +kernel), true, rfl, iteT ⟨_, rfl, _, .ty "bool", _, .type "bool", false, rfl, .ty "bool", .base (.int i), kit_ty (by decide +kernel), _, rfl, k⟩⟩
    | str x => exact ⟨_, rfl, _, .ty "int", _, .type "int", false, rfl, .ty "int", .base (.str x), kit_ty (by decide +kernel), false, rfl, iteF k⟩
    | lst e => exact ⟨_, rfl, _, .ty "int", _, .type "int", false, rfl, .ty "int", .base (.lst e), kit_ty (by decide +kernel), false, rfl, iteF k⟩
    | tup e => exact ⟨_, rfl, _, .ty "int", _, .type "int", false, rfl, .ty "int", .base (.tup e), kit_ty (by decide +kernel), false, rfl, iteF k⟩
    | dct e => exact ⟨_, rfl, _, .ty "int", _, .type "int", false, rfl, .ty "int", .base (.dK e), kit_ty (by decide +kernel), false, rfl, iteF k⟩
end
end Ey
set_option maxHeartbeats 4000000
namespace Ey
open PySem PySem.Spec L2
theorem fitJ_app (B : Nat) (b : List PyData) : ∀ a : List PyData, fitJAll B (a ++ b) = (fitJAll B a && fitJAll B b)
  | [] => rfl
  | x :: r => by
    show (fitJ B x && fitJAll B (r ++ b)) = ((fitJ B x && fitJAll B r) && fitJAll B b)
    rw [fitJ_app B b r, Bool.and_assoc]
theorem dep_app (b : List PyData) : ∀ a : List PyData, PyData.depthAll (a ++ b) = max (PyData.depthAll a) (PyData.depthAll b)
  | [] => by
    show PyData.depthAll b = max 0 (PyData.depthAll b)
    omega
  | x :: r => by
    show max x.depth (PyData.depthAll (r ++ b)) = max (max x.depth (PyData.depthAll r)) (PyData.depthAll b)
    rw [dep_app b r]
    omega
theorem wd_app (b : List PyData) : ∀ a : List PyData, wdAll (a ++ b) = wdAll a + wdAll b
  | [] => (Nat.zero_add _).symm
  | x :: r => by
    show wd x + 2 + wdAll (r ++ b) = wd x + 2 + wdAll r + wdAll b
    rw [wd_app b r]
    omega
theorem fitJ_rev (B : Nat) (a : List PyData) (h : fitJAll B a = true) : fitJAll B a.reverse = true := fitJ_all fun x hx => fitJ_mem h (List.mem_reverse.mp hx)
theorem dep_rev : ∀ a : List PyData, PyData.depthAll a.reverse = PyData.depthAll a
  | [] => rfl
  | x :: r => by
    rw [List.reverse_cons, dep_app, dep_rev r]
    show max (PyData.depthAll r) (max x.depth 0) = max x.depth (PyData.depthAll r)
    omega
theorem wd_rev : ∀ a : List PyData, wdAll a.reverse = wdAll a
  | [] => rfl
  | x :: r => by
    rw [List.reverse_cons, wd_app, wd_rev r]
    show wdAll r + (wd x + 2 + 0) = wd x + 2 + wdAll r
    omega
theorem cut_facts (B : Nat) (ds : List PyData) (n : Nat) (h : fitJAll B ds = true) : fitJAll B (ds.take n) = true ∧ fitJAll B (ds.drop n) = true ∧ PyData.depthAll (ds.take n) ≤ PyData.depthAll ds ∧ PyData.depthAll (ds.drop n) ≤ PyData.depthAll ds ∧ wdAll (ds.take n) + wdAll (ds.drop n) = wdAll ds := by
  have e := List.take_append_drop n ds
  have h1 := fitJ_app B (ds.drop n) (ds.take n)
  have h2 := dep_app (ds.drop n) (ds.take n)
  have h3 := wd_app (ds.drop n) (ds.take n)
  rw [e] at h1 h2 h3
  rw [h1, Bool.and_eq_true] at h
  refine ⟨h.1, h.2, ?_, ?_, h3.symm⟩ <;> rw [h2] <;> omega
/-- one part told otherwise -/
theorem swap_good {B C n w : Nat} {ds : List PyData} {i : Nat} {xi x' : PyData} (h : fitJAll B ds = true) (e : ds[i]? = some xi) (hBC : B ≤ C) (g : GoodJ C (xi.depth + n) (2 * wd xi + w) x') :
    GoodJ C ((PyData.tuple ds).depth + n) (2 * wd (.tuple ds) + w) (.tuple (ds.take i ++ [x'] ++ ds.drop (i + 1))) := by
  obtain ⟨a1, a2, a3, a4, a5⟩ := cut_facts B ds (i + 1) h
  obtain ⟨b1, b2, b3, b4, b5⟩ := cut_facts B ds i h
  have et : wdAll (ds.take (i + 1)) = wdAll (ds.take i) + (wd xi + 2 + 0) := by
    rw [List.take_add_one, e, wd_app]
    rfl
  have hm := dep_mem (List.mem_of_getElem? e)
  have hw := wd_mem (List.mem_of_getElem? e)
  have gd := g.d
  have gw := g.w
  have f2 := g.f
  refine ⟨?_, ?_, ?_⟩
  · show fitJAll C (ds.take i ++ [x'] ++ ds.drop (i + 1)) = true
    rw [fitJ_app, fitJ_app, fitJAll_le hBC _ b1, fitJAll_le hBC _ a2]
    show (true && (fitJ C x' && true)) && true = true
    rw [f2]
    rfl
  · show PyData.depthAll (ds.take i ++ [x'] ++ ds.drop (i + 1)) + 1 ≤ PyData.depthAll ds + 1 + n
    rw [dep_app, dep_app]
    show max (max (PyData.depthAll (ds.take i)) (max x'.depth 0)) (PyData.depthAll (ds.drop (i + 1))) + 1 ≤ _
    omega
  · show wdAll (ds.take i ++ [x'] ++ ds.drop (i + 1)) + 3 ≤ 2 * (wdAll ds + 3) + w
    rw [wd_app, wd_app]
    show wdAll (ds.take i) + (wd x' + 2 + 0) + wdAll (ds.drop (i + 1)) + 3 ≤ _
    omega
structure LB (K : PySem.W.Frag) (mg : Str → Option Value) (A : Nat → Addr) (D : Nat → FuncData) : Prop extends LH K mg A D where
  bent : Df K mg "_law_bent" sBent ["_law_deck_here", "_law_thing", "_law_deep"] (A 24) (D 24)
def fb : Stmt → List Stmt
  | .For _ _ b _ _ => b
  | _ => []
def ib : Stmt → List Stmt
  | .If _ b _ _ => b
  | _ => []
def noSt : Stmt := .Pass ⟨0, 0, 0, 0⟩
abbrev BB : List Stmt := ib ((defBody sBent).getD 0 noSt)
section
variable {Pr : Program} {w : World} {K : PySem.W.Frag} {mg : Str → Option Value} {base : Heap} {A : Nat → Addr} {D : Nat → FuncData}
abbrev NB : List Str := ["_law_deck_here", "_law_thing", "_law_deep", "_law_way", "_law_at_here"]
theorem scBent : FnScope NB ["_law_deck_here", "_law_thing", "_law_deep"] (defScope sBent) := ⟨rfl, rfl, rfl, by decide +kernel, rfl, by decide +kernel, by decide +kernel⟩
def spBent (n : Nat) : Sp := fun vs H Q _ => ∃ (d l : Addr) (ms : List Addr) (v : V) (x : PyData) (deep B : Nat), vs = [.ref d, v, .int deep] ∧ deep < n ∧ An ms H v x ∧ fitJ B x = true ∧ 10 ^ 30 ≤ B ∧ B ≤ 10 ^ 39 ∧ wd x ≤ 300000 ∧ Frame ms d l H ∧
  ∀ (v' : V) (x' : PyData) (H' : Hp), An ms H' v' x' → GoodJ (B + 5) (x.depth + 6) (2 * wd x + 6000) x' → Frame ms d l H' → Kp [d, l] H H' → Q v' H'
theorem ok_bent (L : LB K mg A D) : ∀ n : Nat, FnOk Pr w K mg base CX0 (n + 5) (A 24) (D 24) ["_law_deck_here", "_law_thing", "_law_deep"] (spBent n)
  | 0 => by
    refine L.bent.F.ok scBent (fun vs H Q E h => ?_) (fun cdv Ar outer s H vs Q E hr h => ?_)
    · obtain ⟨d, l, ms, v, x, deep, B, rfl, _⟩ := h
      rfl
    · obtain ⟨d, l, ms, v, x, deep, B, rfl, hd, _⟩ := h
      exact absurd hd (Nat.not_lt_zero _)
  | n + 1 => by
    have ih := ok_bent L n
    have LH := L.toLH
    have D0 := L.bent
    have Bt := L.B
    refine D0.F.ok scBent (fun vs H Q E h => ?_) (fun cdv Ar outer s H vs Q E hr h => ?_)
    · obtain ⟨d, l, ms, v, x, deep, B, rfl, _⟩ := h
      rfl
    · obtain ⟨d, l, ms, v, x, deep, B, rfl, hdn, hT, hfx, hB1, hB2, hwx, Fr, k⟩ := h
      have hr5 := hr.mono (show 5 ≤ n + 5 by omega)
      have hr2 := hr.mono (show 2 ≤ n + 5 by omega)
      have hr1 := hr.mono (show 1 ≤ n + 5 by omega)
      -- what is done at the place itself
      obtain ⟨tt, dt, rt⟩ : ∃ tt, PSs (cxOf CX0 Pr w K mg base NB "_law_bent" (defScope sBent) (A 24) cdv Ar outer s H E).nox BB tt ∧
          ∀ (De : Ends) (H3 : Hp) (y z : Option V), De.rt = Q → An ms H3 v x → Frame ms d l H3 → Kp [d, l] H H3 →
          tt De [some (.ref d), some v, some (.int deep), y, z] H3 := by
        refine ⟨_, pss_cons (ps_set (i := 3) scBent.nd rfl (.inl rfl) (pe_call (ok_draw L.draw.F Bt) hr1 (by rfl) L.draw.g L.draw.F.kp L.draw.b .nil pass0 (pa_cons (pv 0) (pa_cons pe_int pa_nil))))
          (pss_cons (ps_if (pt_val (pe_call (ok_int (ms := ms) LH) hr1 (by rfl) L.int.g L.int.F.kp L.int.b .nil pass0 (pa_cons (pv 1) pa_nil)))
            (pss_one (ps_ret (pe_call (ok_pick L.pick.F Bt L.draw) hr2 (by rfl) L.pick.g L.pick.F.kp L.pick.b .nil pass0 (pa_cons (pv 0) (pa_cons (pe_lst (pa_cons pe_int (pa_cons (pe_un un_neg (pv 1)) (pa_cons (pe_op op_sub (pv 1) pe_int) (pa_cons (pe_op op_add (pv 1) pe_int)
              (pa_cons (pe_callTy call_bool1 (by rfl) Bt.bool (by decide +kernel) (pa_cons (pv 1) pa_nil)) (pa_cons (pe_callTy call_str_int (by rfl) Bt.str (by decide +kernel) (pa_cons (pv 1) pa_nil)) (pa_cons (pe_tup (pa_cons (pv 1) pa_nil)) (pa_cons (pe_lst (pa_cons (pv 1) pa_nil)) (pa_cons pe_non (pa_cons (pe_op op_add (pv 1) pe_int) pa_nil))))))))))) pa_nil))))) pss_nil)
          (pss_cons (ps_if (PW.pt (pw_or (pt_cmpR op_eq (pv 3) pe_int (nomark _)) (pw_or1 (pt_not (pt_val (pe_callB call_isi (by rfl) Bt.isi (by decide +kernel) (pa_cons (pv 1) (pa_cons (pe_bltn (v := .ty "tuple") (by rfl) Bt.tuple (by decide +kernel) rfl) pa_nil))))))))
            (pss_one (ps_ret (pe_call (ok_any LH L.any 3) hr5 (by rfl) L.any.g L.any.F.kp L.any.b .nil pass0 (pa_cons (pv 0) (pa_cons pe_int pa_nil))))) pss_nil)
          (pss_cons (ps_if (pt_cmpR op_lt (pv 3) pe_int (nomark _)) (pss_one (ps_ret (pe_callTy call_list_of (by rfl) Bt.list (by decide +kernel) (pa_cons (pv 1) pa_nil)))) pss_nil)
          (pss_cons (ps_if (pt_cmpR op_lt (pv 3) pe_int (nomark _)) (pss_one (ps_ret (pe_op op_cat2 (pv 1) (pe_tup (pa_cons (pe_call (ok_pick L.pick.F Bt L.draw) hr2 (by rfl) L.pick.g L.pick.F.kp L.pick.b .nil pass0 (pa_cons (pv 0) (pa_cons (pe_lst (pa_cons (pe_tup pa_nil) (pa_cons pe_int (pa_cons pe_int (pa_cons (pe_tup (pa_cons pe_int pa_nil)) (pa_cons pe_non (pa_cons pe_bl pa_nil))))))) pa_nil))) pa_nil))))) pss_nil)
          (pss_cons (ps_if (pt_cmpR op_lt (pv 3) pe_int (nomark _)) (pss_one (ps_ret (pe_revA (pv 1)))) pss_nil)
          (pss_cons (ps_if (pt_cmpR op_lt (pv 3) pe_int (nomark _)) (pss_one (ps_ret (pe_op op_cat2 (pv 1) (pe_slice sl_cut (pv 1) po_none (po_some pe_int))))) pss_nil)
          (pss_one (ps_ret (pe_ifExp (pt_cmpR op_lt (pv 3) pe_int (nomark _)) (pe_slice sl_cut (pv 1) (po_some pe_int) po_none) (pe_tup (pa_cons (pv 1) pa_nil))))))))))), ?_⟩
        intro De H3 y z eD hT3 F3 k3
        subst eD
        refine ⟨_, rfl, d, l, 14, rfl, F3.dk, by decide, by decide, fun r H4 r0 r1 D4 k4 => ?_⟩
        have F4 := F3.go k4 D4
        have hT4 := hT3.kp k4 F3.sub x
        have k34 := k3.trans k4
        refine ⟨_, rfl, v, x, rfl, hT4, _, rfl, ?_⟩
        have anyEnd : ∀ (v' : V) (x' : PyData) (H5 : Hp), An ms H5 v' x' → GoodJ (10 ^ 29 + 1) (2 * 2 + 2) (wJ 2) x' → Frame ms d l H5 → Kp [d, l] H4 H5 → De.rt v' H5 := fun v' x' H5 a g F5 k5 => by
          have e2 : wJ 2 = 1860 := rfl
          exact k v' x' H5 a (g.mono (by omega) (by omega) (by omega)) F5 (k34.trans k5)
        cases ei : isIntD x with
        | true =>
          refine iteT ?_
          cases hT4 with
          | int i =>
            have hi : i.natAbs < B := of_decide_eq_true hfx
            have hlog := (int_ok i (Nat.lt_of_lt_of_le hi (Nat.le_trans hB2 (by decide)))).1
            have hlen := (int_ok i (Nat.lt_of_lt_of_le hi (Nat.le_trans hB2 (by decide)))).2
            have hsl : (Str.ofString (toString i)).length ≤ 45 := hlen
            have hfi : ∀ j : Int, j.natAbs < B + 5 → GoodJ (B + 5) ((PyData.int i).depth + 6) (2 * wd (.int i) + 6000) (.int j) := fun j hj => ⟨decide_eq_true hj, Nat.zero_le _, by show 45 ≤ 2 * 45 + 6000; decide⟩
            refine ⟨_, rfl, _, rfl, i, rfl, _, rfl, _, _, rfl, rfl, _, rfl, _, _, rfl, rfl, _, rfl, .inl ⟨i, rfl, _, rfl, i, rfl, hlog, _, rfl, by show 1 ≤ sizeLine; decide, fun p1 n1 => ⟨_, rfl, by show 1 ≤ sizeLine; decide, fun p2 n2 => ⟨_, rfl, _, _, rfl, rfl, by show 10 ≤ sizeLine; decide, fun p3 n3 => ?_⟩⟩⟩⟩
            have F5 := F4.new (o := .tup [.int i]) n1
            have F6 := F5.new (o := .lst [.int i]) n2
            have ne3 := F6.ne n3
            have np2 : p2 ∉ ms := F5.has.fresh n2
            have q1 : (upd (upd H4 p1 (.tup [.int i])) p2 (.lst [.int i])) p1 = some (.tup [.int i]) := (Kp.new (ms := []) n2).tup _ _ upd_same
            have q2 : (upd (upd H4 p1 (.tup [.int i])) p2 (.lst [.int i])) p2 = some (.lst [.int i]) := upd_same
            have ne2 := F5.ne n2
            have F7 := F6.new (o := .lst [.int 0, .int (-i), .int (i - 1), .int (i + 1), .bl (i != 0), .str (Str.ofString (toString i)), .ref p1, .ref p2, .non, .int (i + 4)]) n3
            have k6 := Kp.new (ms := []) (o := .lst [.int 0, .int (-i), .int (i - 1), .int (i + 1), .bl (i != 0), .str (Str.ofString (toString i)), .ref p1, .ref p2, .non, .int (i + 4)]) n3
            have k47 : Kp [d, l] H4 _ := (Kp.new (o := .tup [.int i]) n1).trans ((Kp.new (o := .lst [.int i]) n2).trans (.new (o := .lst [.int 0, .int (-i), .int (i - 1), .int (i + 1), .bl (i != 0), .str (Str.ofString (toString i)), .ref p1, .ref p2, .non, .int (i + 4)]) n3))
            refine ⟨d, l, p3, _, rfl, F7.dk, sql_of upd_same, by simp, by show 10 ≤ 1000000; decide, ne3.1, ne3.2, fun y' H8 hy D8 k8 => ?_⟩
            have F8 := F7.go k8 D8
            have q1' := k8.tup _ _ (k6.tup _ _ q1)
            have q2' := k8.at_ _ _ (k6.at_ _ _ q2 (by simp)) (by simp [ne2.1, ne2.2])
            obtain ⟨xd, ay, gy⟩ : ∃ xd, An ms H8 y' xd ∧ GoodJ (B + 5) ((PyData.int i).depth + 6) (2 * wd (.int i) + 6000) xd := by
              simp only [List.mem_cons, List.not_mem_nil, or_false] at hy
              rcases hy with rfl | rfl | rfl | rfl | rfl | rfl | rfl | rfl | rfl | rfl
              · exact ⟨_, .int _, hfi _ (by omega)⟩
              · exact ⟨_, .int _, hfi _ (by omega)⟩
              · exact ⟨_, .int _, hfi _ (by omega)⟩
              · exact ⟨_, .int _, hfi _ (by omega)⟩
              · exact ⟨_, .bl _, rfl, Nat.zero_le _, by show 5 ≤ 2 * 45 + 6000; decide⟩
              · exact ⟨_, .str _, int_low _ i, Nat.zero_le _, by show 10 * (Str.ofString (toString i)).length + 2 ≤ 2 * 45 + 6000; omega⟩
              · exact ⟨_, .tup q1' (.cons (.int i) .nil), by show (decide (i.natAbs < B + 5) && true) = true; rw [decide_eq_true (by omega)]; rfl, by show max 0 0 + 1 ≤ 0 + 6; omega, by show 45 + 2 + 0 + 3 ≤ 2 * 45 + 6000; decide⟩
              · exact ⟨_, .lst q2' np2 (.cons (.int i) .nil), by show (decide (i.natAbs < B + 5) && true) = true; rw [decide_eq_true (by omega)]; rfl, by show max 0 0 + 1 ≤ 0 + 6; omega, by show 45 + 2 + 0 + 3 ≤ 2 * 45 + 6000; decide⟩
              · exact ⟨_, .non, rfl, Nat.zero_le _, by show 4 ≤ 2 * 45 + 6000; decide⟩
              · exact ⟨_, .int _, hfi _ (by omega)⟩
            exact k _ _ H8 ay gy F8 (k34.trans (k47.trans k8))
          | non => cases ei
          | bl _ => cases ei
          | str _ => cases ei
          | lst _ _ _ => cases ei
          | tup _ _ => cases ei
          | dct _ _ _ => cases ei
        | false =>
        refine iteF ?_
        refine ⟨_, rfl, rfl, _, rfl, ite2 (fun _ => ?_) (fun _ => ?_)⟩
        · exact ⟨_, rfl, d, l, ms, 2, rfl, by decide, F4, anyEnd⟩
        obtain ⟨ty, hty, kty⟩ := hT4.tupK (K := K)
        refine ⟨_, rfl, _, .ty "tuple", ty, .type "tuple", _, rfl, .ty "tuple", hty, kty, _, rfl, ?_⟩
        cases hT4 with
        | non => exact iteT ⟨_, rfl, d, l, ms, 2, rfl, by decide, F4, anyEnd⟩
        | bl _ => exact iteT ⟨_, rfl, d, l, ms, 2, rfl, by decide, F4, anyEnd⟩
        | int _ => exact iteT ⟨_, rfl, d, l, ms, 2, rfl, by decide, F4, anyEnd⟩
        | str _ => exact iteT ⟨_, rfl, d, l, ms, 2, rfl, by decide, F4, anyEnd⟩
        | lst _ _ _ => exact iteT ⟨_, rfl, d, l, ms, 2, rfl, by decide, F4, anyEnd⟩
        | dct _ _ _ => exact iteT ⟨_, rfl, d, l, ms, 2, rfl, by decide, F4, anyEnd⟩
        | @tup a xs ds ea hP =>
          refine iteF ?_
          have lx := hP.length
          have ll := len_wd ds
          have hx : (PyData.tuple ds).depth = PyData.depthAll ds + 1 := rfl
          have hw : wd (.tuple ds) = wdAll ds + 3 := rfl
          have hfd : fitJAll B ds = true := hfx
          have hf5 : fitJAll (B + 5) ds = true := fitJAll_le (by omega) ds hfd
          have hz : xs.length ≤ 300000 := by omega
          rw [hx, hw] at k
          refine ⟨_, rfl, _, _, rfl, rfl, _, rfl, ite2 (fun _ => ?_) (fun _ => ?_)⟩
          · refine ⟨_, rfl, a, _, rfl, .inr (sqt_of ea), fun q nq => ?_⟩
            have kq : Kp [] H4 (upd H4 q (.lst xs)) := .new nq
            exact k _ (.list ds) _ (.lst upd_same (F4.has.fresh nq) (hP.kp kq (by simp) _)) ⟨hf5, by show PyData.depthAll ds + 1 ≤ _; omega, by show wdAll ds + 3 ≤ _; omega⟩ (F4.new nq) (k34.trans (.new nq))
          refine ⟨_, rfl, _, _, rfl, rfl, _, rfl, ite2 (fun _ => ?_) (fun _ => ?_)⟩
          · refine ⟨_, rfl, _, rfl, Nat.zero_le _, fun p1 n1 => ⟨by show 1 ≤ sizeLine; decide, fun p2 n2 => ⟨by show 6 ≤ sizeLine; decide, fun p3 n3 => ?_⟩⟩⟩
            have F5 := F4.new (o := .tup []) n1
            have F6 := F5.new (o := .tup [.int 0]) n2
            have ne3 := F6.ne n3
            have F7 := F6.new (o := .lst [.ref p1, .int 0, .int 1, .ref p2, .non, .bl true]) n3
            have q1 : (upd (upd H4 p1 (.tup [])) p2 (.tup [.int 0])) p1 = some (.tup []) := (Kp.new (ms := []) n2).tup _ _ upd_same
            have q2 : (upd (upd H4 p1 (.tup [])) p2 (.tup [.int 0])) p2 = some (.tup [.int 0]) := upd_same
            have k47 : Kp [d, l] H4 (upd (upd (upd H4 p1 (.tup [])) p2 (.tup [.int 0])) p3 (.lst [.ref p1, .int 0, .int 1, .ref p2, .non, .bl true])) := (Kp.new n1).trans ((Kp.new n2).trans (.new n3))
            refine ⟨d, l, p3, _, rfl, F7.dk, sql_of upd_same, by simp, by show 6 ≤ 1000000; decide, ne3.1, ne3.2, fun y' H8 hy D8 k8 => ?_⟩
            have F8 := F7.go k8 D8
            have k48 := k47.trans k8
            have q1' := k8.tup _ _ ((Kp.new (ms := []) (o := .lst [.ref p1, .int 0, .int 1, .ref p2, .non, .bl true]) n3).tup _ _ q1)
            have q2' := k8.tup _ _ ((Kp.new (ms := []) (o := .lst [.ref p1, .int 0, .int 1, .ref p2, .non, .bl true]) n3).tup _ _ q2)
            obtain ⟨xd, ay, gy⟩ : ∃ xd, An ms H8 y' xd ∧ GoodJ 2 1 60 xd := by
              simp only [List.mem_cons, List.not_mem_nil, or_false] at hy
              rcases hy with rfl | rfl | rfl | rfl | rfl | rfl
              · exact ⟨.tuple [], .tup q1' .nil, rfl, Nat.le_refl _, by show 0 + 3 ≤ 60; decide⟩
              · exact ⟨.int 0, .int 0, by decide +kernel, Nat.zero_le _, by show 45 ≤ 60; decide⟩
              · exact ⟨.int 1, .int 1, by decide +kernel, Nat.zero_le _, by show 45 ≤ 60; decide⟩
              · exact ⟨.tuple [.int 0], .tup q2' (.cons (.int 0) .nil), by decide +kernel, Nat.le_refl _, by show 45 + 2 + 0 + 3 ≤ 60; decide⟩
              · exact ⟨.none, .non, rfl, Nat.zero_le _, by show 4 ≤ 60; decide⟩
              · exact ⟨.bool true, .bl true, rfl, Nat.zero_le _, by show 5 ≤ 60; decide⟩
            refine ⟨by show 1 ≤ sizeLine; decide, fun p4 n4 => ?_⟩
            have kp4 : Kp [] H8 (upd H8 p4 (.tup [y'])) := .new n4
            refine ⟨a, p4, _, _, rfl, rfl, kp4.tup _ _ (k48.tup _ _ ea), upd_same, Nat.le_trans (show xs.length + 1 ≤ 300001 by omega) (by decide), fun q H9 e9 k9 => ?_⟩
            have k89 := kp4.trans k9
            have gd := gy.d
            have gw := gy.w
            have gf := fitJ_le (show 2 ≤ B + 5 by omega) _ gy.f
            refine k _ (.tuple (ds ++ [xd])) _ (.tup e9 (AnAll.append ((hP.kp k48 F4.sub _).kp k89 (by simp) _) (.cons (ay.kp k89 (by simp) _) .nil))) ⟨?_, ?_, ?_⟩ (F8.kp0 k89) (k34.trans (k48.trans (k89.more (by simp))))
            · show fitJAll (B + 5) (ds ++ [xd]) = true
              rw [fitJ_app, hf5]
              show (true && (fitJ (B + 5) xd && true)) = true
              rw [gf]
              rfl
            · show PyData.depthAll (ds ++ [xd]) + 1 ≤ _
              rw [dep_app]
              show max (PyData.depthAll ds) (max xd.depth 0) + 1 ≤ _
              omega
            · show wdAll (ds ++ [xd]) + 3 ≤ _
              rw [wd_app]
              show wdAll ds + (wd xd + 2 + 0) + 3 ≤ _
              omega
          refine ⟨_, rfl, _, _, rfl, rfl, _, rfl, ite2 (fun _ => ?_) (fun _ => ?_)⟩
          · refine ⟨_, rfl, .inl ⟨a, _, rfl, sqt_of ea, fun q nq => ?_⟩⟩
            have kq : Kp [] H4 (upd H4 q (.tup xs.reverse)) := .new nq
            refine k _ (.tuple ds.reverse) _ (.tup upd_same ((AnAll.kp kq (by simp) _ hP).rev)) ⟨fitJ_rev _ _ hf5, ?_, ?_⟩ (F4.new nq) (k34.trans (.new nq))
            · show PyData.depthAll ds.reverse + 1 ≤ _
              rw [dep_rev]
              omega
            · show wdAll ds.reverse + 3 ≤ _
              rw [wd_rev]
              omega
          refine ⟨_, rfl, _, _, rfl, rfl, _, rfl, ite2 (fun _ => ?_) (fun _ => ?_)⟩
          · refine ⟨_, rfl, _, rfl, 1, rfl, a, _, rfl, ea, fun q1 H5 e5 k5 => ?_⟩
            have c1 : cutV xs none (some 1) = xs.take 1 := cut_take _ 1
            rw [c1] at e5
            have lt : (xs.take 1).length ≤ 1 := by rw [List.length_take]; omega
            obtain ⟨b1, b2, b3, b4, b5⟩ := cut_facts _ ds 1 hf5
            refine ⟨a, q1, _, _, rfl, rfl, k5.tup _ _ ea, e5, Nat.le_trans (show xs.length + (xs.take 1).length ≤ 300001 by omega) (by decide), fun q H6 e6 k6 => ?_⟩
            have k46 := k5.trans k6
            refine k _ (.tuple (ds ++ ds.take 1)) _ (.tup e6 ((hP.kp k46 (by simp) _).append ((hP.kp k46 (by simp) _).take 1))) ⟨?_, ?_, ?_⟩ (F4.kp0 k46) (k34.trans (k46.more (by simp)))
            · show fitJAll (B + 5) (ds ++ ds.take 1) = true
              rw [fitJ_app, hf5, b1]
              rfl
            · show PyData.depthAll (ds ++ ds.take 1) + 1 ≤ _
              rw [dep_app]
              omega
            · show wdAll (ds ++ ds.take 1) + 3 ≤ _
              rw [wd_app]
              omega
          refine ⟨_, rfl, _, _, rfl, rfl, _, rfl, ite2 (fun _ => ?_) (fun _ => ?_)⟩
          · refine ⟨_, rfl, 1, rfl, a, _, rfl, ea, fun q1 H5 e5 k5 => ?_⟩
            have c1 : cutV xs (some 1) none = xs.drop 1 := cut_drop _ 1
            rw [c1] at e5
            obtain ⟨b1, b2, b3, b4, b5⟩ := cut_facts _ ds 1 hf5
            exact k _ (.tuple (ds.drop 1)) _ (.tup e5 ((hP.kp k5 (by simp) _).drop 1)) ⟨b2, by show PyData.depthAll (ds.drop 1) + 1 ≤ _; omega, by show wdAll (ds.drop 1) + 3 ≤ _; omega⟩ (F4.kp0 k5) (k34.trans (k5.more (by simp)))
          · refine ⟨_, rfl, by show 1 ≤ sizeLine; decide, fun q nq => ?_⟩
            have kq : Kp [] H4 (upd H4 q (.tup [.ref a])) := .new nq
            refine k _ (.tuple [.tuple ds]) _ (.tup upd_same (.cons (.tup (kq.tup _ _ ea) (hP.kp kq (by simp) _)) .nil)) ⟨?_, ?_, ?_⟩ (F4.new nq) (k34.trans (.new nq))
            · show (fitJAll (B + 5) ds && true) = true
              rw [hf5]
              rfl
            · show max (PyData.depthAll ds + 1) 0 + 1 ≤ _
              omega
            · show (wdAll ds + 3) + 2 + 0 + 3 ≤ _
              omega
      refine ⟨_, pss_cons (ps_if (PW.pt (pw_or (pt_not (pt_val (pe_callB call_isi (by rfl) Bt.isi (by decide +kernel) (pa_cons (pv 1) (pa_cons (pe_bltn (v := .ty "tuple") (by rfl) Bt.tuple (by decide +kernel) rfl) pa_nil)))))
          (pw_or (pt_cmpR (op_eqE hr.units) (pv 1) (pe_tup pa_nil) (nomark _)) (pw_or (pt_cmpR op_eq (pv 2) pe_int (nomark _)) (pw_or1 (pt_cmpR op_eq (pe_call (ok_draw L.draw.F Bt) hr1 (by rfl) L.draw.g L.draw.F.kp L.draw.b .nil pass0 (pa_cons (pv 0) (pa_cons pe_int pa_nil))) pe_int (nomark _))))))) dt pss_nil)
        (pss_cons (ps_set (i := 4) scBent.nd rfl (.inl rfl) (pe_call (ok_draw L.draw.F Bt) hr1 (by rfl) L.draw.g L.draw.F.kp L.draw.b .nil pass0 (pa_cons (pv 0) (pa_cons (pe_callB call_len_seq (by rfl) Bt.len PySem.boot_len (pa_cons (pv 1) pa_nil)) pa_nil))))
        (pss_one (ps_ret (pe_call (ok_instead LH) hr1 (by rfl) L.ins.g L.ins.F.kp L.ins.b .nil pass0 (pa_cons (pv 1) (pa_cons (pv 4) (pa_cons (pe_call ih hr (by rfl) D0.g D0.F.kp D0.b .nil pass0 (pa_cons (pv 0) (pa_cons (pe_ix ix_tup (pv 1) (pv 4) (fun _ _ => rfl)) (pa_cons (pe_op op_sub (pv 2) pe_int) pa_nil)))) pa_nil))))))), ?_⟩
      obtain ⟨ty, hty, kty⟩ := hT.tupK (K := K)
      refine ⟨_, rfl, _, .ty "tuple", ty, .type "tuple", _, rfl, .ty "tuple", hty, kty, _, rfl, ?_⟩
      cases e : isTup x with
      | false =>
        refine iteT ?_
        exact rt _ H none none rfl hT Fr .refl
      | true =>
        refine iteF ?_
        refine ⟨_, rfl, Nat.zero_le _, fun p np => ?_⟩
        have kp : Kp [] H (upd H p (.tup [])) := .new np
        have F1 := Fr.new (o := .tup []) np
        have hT1 := hT.kp kp (by simp) x
        have ep : (upd H p (.tup [])) p = some (.tup []) := upd_same
        have kp1 : Kp [d, l] H (upd H p (.tup [])) := .new np
        generalize upd H p (.tup []) = H1 at kp F1 hT1 ep kp1
        have hT1' := hT1
        cases hT1 with
        | non => cases e
        | bl _ => cases e
        | int _ => cases e
        | str _ => cases e
        | lst _ _ _ => cases e
        | dct _ _ _ => cases e
        | @tup a xs ds ea hP =>
          have lx := hP.length
          have ll := len_wd ds
          have hw : wd (.tuple ds) = wdAll ds + 3 := rfl
          have hfd : fitJAll B ds = true := hfx
          refine ⟨a, p, xs, rfl, rfl, ea, ep, _, rfl, ?_⟩
          cases ex : xs.isEmpty with
          | true => exact iteT (rt _ H1 none none rfl hT1' F1 kp1)
          | false =>
            refine iteF ?_
            have hpos : 0 < xs.length := by
              cases xs with
              | nil => cases ex
              | cons _ _ => exact Nat.succ_pos _
            refine ⟨_, rfl, rfl, _, rfl, ite2 (fun _ => ?_) (fun q0 => ?_)⟩
            · exact rt _ H1 none none rfl hT1' F1 kp1
            refine ⟨_, rfl, d, l, 5, rfl, F1.dk, by decide, by decide, fun r H2 r0 r1 D2 k2 => ⟨rfl, _, rfl, ite2 (fun _ => ?_) (fun _ => ?_)⟩⟩
            · exact rt _ H2 none none rfl (hT1'.kp k2 F1.sub _) (F1.go k2 D2) (kp1.trans k2)
            have F2 := F1.go k2 D2
            have e2 := k2.tup _ _ ea
            refine ⟨_, rfl, _, rfl, a, _, rfl, .inr (sqt_of e2), d, l, _, rfl, D2, by omega, by omega, fun at' H3 a0 a1 D3 k3 => ?_⟩
            have F3 := F2.go k3 D3
            have e3 := k3.tup _ _ e2
            obtain ⟨i, rfl⟩ : ∃ i : Nat, at' = (i : Int) := ⟨at'.toNat, by omega⟩
            have hi : i < xs.length := by omega
            have hP3 := (hP.kp k2 F1.sub ds).kp k3 F2.sub ds
            obtain ⟨xi, exi, axi⟩ := hP3.get (List.getElem?_eq_getElem hi)
            have hd0 : 0 < deep := by
              cases deep with
              | zero => exact absurd (decide_eq_true rfl) q0
              | succ z => exact Nat.succ_pos z
            have hmem := List.mem_of_getElem? exi
            have hwi := wd_mem hmem
            refine ⟨_, rfl, _, rfl, _, rfl, _, rfl, _, rfl, a, _, _, xs[i], rfl, rfl, sqt_of e3, atI_nat (List.getElem?_eq_getElem hi), _, rfl, _, _, rfl, rfl, d, l, ms, xs[i], xi, deep - 1, B, ?_, by omega, axi, fitJ_mem hfd hmem, hB1, hB2, by omega, F3, fun v' x' H4 ax gx F4 k4 => ?_⟩
            · show [V.ref d, xs[i], V.int ((deep : Int) - 1)] = _
              rw [show (deep : Int) - 1 = ((deep - 1 : Nat) : Int) by omega]
            have e4 := k4.tup _ _ e3
            refine ⟨a, _, i, v', rfl, e4, by omega, fun q H5 e5 k5 => ?_⟩
            have k45 := k4.trans (k5.more (ms' := [d, l]) (by simp))
            have hP5 := hP3.kp k45 F3.sub ds
            exact k _ (.tuple (ds.take i ++ [x'] ++ ds.drop (i + 1))) _ (.tup e5 (((hP5.take i).append (.cons (ax.kp k5 (by simp) _) .nil)).append (hP5.drop (i + 1)))) (swap_good hfd exi (by omega) gx) (F4.kp0 k5) (kp1.trans (k2.trans (k3.trans k45)))
end
end Ey
set_option maxHeartbeats 4000000
namespace Ey
open PySem PySem.Spec L2
abbrev sPool : Stmt := topS 33
abbrev sSpoilt : Stmt := topS 39
structure LS (K : PySem.W.Frag) (mg : Str → Option Value) (A : Nat → Addr) (D : Nat → FuncData) : Prop extends LB K mg A D where
  pool : Df K mg "_law_pool" sPool [] (A 33) (D 33)
  spoilt : Df K mg "_law_spoilt" sSpoilt ["_law_deck_here", "_law_thing"] (A 39) (D 39)
def badL : List Str := ["name", "left", "call", "has", "if", "x", "top", "", "0", "either", "fun", "place", "truth", "X", "yes", "not", "same", "abcdefghi", "a1", "a\n"]
theorem badL_ok : ∀ g ∈ badL, fitJ 1 (.str g) = true ∧ wd (.str g) ≤ 100 := by decide +kernel
def poolL : List Str := ["x", "y", "z", "a", "b2", "f", "g", "leaf", "some_1", "a2345678901234567890", "thenx", "if_", "tops", "name", "call", "q", "or0", "has1"]
theorem poolL_ok : ∀ g ∈ poolL, isName g = true := by decide +kernel
section
variable {Pr : Program} {w : World} {K : PySem.W.Frag} {mg : Str → Option Value} {base : Heap} {A : Nat → Addr} {D : Nat → FuncData}
theorem scPool : FnScope [] [] (defScope sPool) := ⟨rfl, rfl, rfl, by decide +kernel, rfl, by decide +kernel, by decide +kernel⟩
theorem ok_pool (L : LS K mg A D) : FnOk Pr w K mg base CX0 1 (A 33) (D 33) [] (spStrs poolL) := by
  refine L.pool.F.ok scPool (fun vs H Q E h => ?_) (fun cdv A outer s H vs Q E hr h => ?_)
  · obtain ⟨rfl, _⟩ := h
    rfl
  · obtain ⟨rfl, k⟩ := h
    refine ⟨_, pss_one (ps_ret (pe_lst (pa_cons pe_str (pa_cons pe_str (pa_cons pe_str (pa_cons pe_str (pa_cons pe_str (pa_cons pe_str (pa_cons pe_str (pa_cons pe_str (pa_cons pe_str (pa_cons pe_str (pa_cons pe_str (pa_cons pe_str (pa_cons pe_str (pa_cons pe_str (pa_cons pe_str (pa_cons pe_str (pa_cons pe_str (pa_cons pe_str pa_nil)))))))))))))))))))), ?_⟩
    exact ⟨by show 18 ≤ sizeLine; decide, fun p np => k p _ np upd_same (.new np)⟩
abbrev NS : List Str := ["_law_deck_here", "_law_thing", "_law_at_here"]
theorem scSpoilt : FnScope NS ["_law_deck_here", "_law_thing"] (defScope sSpoilt) := ⟨rfl, rfl, rfl, by decide +kernel, rfl, by decide +kernel, by decide +kernel⟩
def spSpoilt (n : Nat) : Sp := fun vs H Q _ => ∃ (d l : Addr) (ms : List Addr) (v : V) (x : PyData) (B : Nat), vs = [.ref d, v] ∧ x.depth < n ∧ An ms H v x ∧ fitJ B x = true ∧ 10 ^ 30 ≤ B ∧ B ≤ 10 ^ 39 ∧ wd x ≤ 300000 ∧ Frame ms d l H ∧
  ∀ (v' : V) (x' : PyData) (H' : Hp), An ms H' v' x' → GoodJ (B + 5) (x.depth + 6) (2 * wd x + 6000) x' → Frame ms d l H' → Kp [d, l] H H' → Q v' H'
theorem ok_spoilt (L : LS K mg A D) : ∀ n : Nat, FnOk Pr w K mg base CX0 (n + 7) (A 39) (D 39) ["_law_deck_here", "_law_thing"] (spSpoilt n)
  | 0 => by
    refine L.spoilt.F.ok scSpoilt (fun vs H Q E h => ?_) (fun cdv Ar outer s H vs Q E hr h => ?_)
    · obtain ⟨d, l, ms, v, x, B, rfl, _⟩ := h
      rfl
    · obtain ⟨d, l, ms, v, x, B, rfl, hd, _⟩ := h
      exact absurd hd (Nat.not_lt_zero _)
  | n + 1 => by
    have ih := ok_spoilt L n
    have D0 := L.spoilt
    have Bt := L.B
    refine D0.F.ok scSpoilt (fun vs H Q E h => ?_) (fun cdv Ar outer s H vs Q E hr h => ?_)
    · obtain ⟨d, l, ms, v, x, B, rfl, _⟩ := h
      rfl
    · obtain ⟨d, l, ms, v, x, B, rfl, hdn, hT, hfx, hB1, hB2, hwx, Fr, k⟩ := h
      have hr7 := hr.mono (show 7 ≤ n + 7 by omega)
      have hr2 := hr.mono (show 2 ≤ n + 7 by omega)
      have hr1 := hr.mono (show 1 ≤ n + 7 by omega)
      obtain ⟨tt, dt, rt⟩ : ∃ tt, PSs (cxOf CX0 Pr w K mg base NS "_law_spoilt" (defScope sSpoilt) (A 39) cdv Ar outer s H E).nox ((defBody sSpoilt).drop 1) tt ∧
          ∀ (H1 : Hp) (z : Option V), An ms H1 v x → Frame ms d l H1 → Kp [d, l] H H1 → tt { nx := fun _ H' => Q .non H', rt := Q } [some (.ref d), some v, z] H1 := by
        refine ⟨_, pss_cons (ps_if (PW.pt (pw_or (pt_not (pt_val (pe_callB call_isi (by rfl) Bt.isi (by decide +kernel) (pa_cons (pv 1) (pa_cons (pe_bltn (v := .ty "tuple") (by rfl) Bt.tuple (by decide +kernel) rfl) pa_nil)))))
            (pw_or (pt_cmpR (op_eqE hr.units) (pv 1) (pe_tup pa_nil) (nomark _)) (pw_or1 (pt_cmpR op_eq (pe_call (ok_draw L.draw.F Bt) hr1 (by rfl) L.draw.g L.draw.F.kp L.draw.b .nil pass0 (pa_cons (pv 0) (pa_cons pe_int pa_nil))) pe_int (nomark _))))))
            (pss_one (ps_ret (pe_call (ok_bent L.toLB 2) hr7 (by rfl) L.bent.g L.bent.F.kp L.bent.b .nil pass0 (pa_cons (pv 0) (pa_cons (pv 1) (pa_cons pe_int pa_nil)))))) pss_nil)
          (pss_cons (ps_set (i := 2) scSpoilt.nd rfl (.inl rfl) (pe_call (ok_draw L.draw.F Bt) hr1 (by rfl) L.draw.g L.draw.F.kp L.draw.b .nil pass0 (pa_cons (pv 0) (pa_cons (pe_callB call_len_seq (by rfl) Bt.len PySem.boot_len (pa_cons (pv 1) pa_nil)) pa_nil))))
          (pss_one (ps_ret (pe_call (ok_instead L.toLH) hr1 (by rfl) L.ins.g L.ins.F.kp L.ins.b .nil pass0 (pa_cons (pv 1) (pa_cons (pv 2) (pa_cons (pe_call ih hr (by rfl) D0.g D0.F.kp D0.b .nil pass0 (pa_cons (pv 0) (pa_cons (pe_ix ix_tup (pv 1) (pv 2) (fun _ _ => rfl)) pa_nil))) pa_nil))))))), ?_⟩
        intro H0 z hT0 F0 k0
        have bent : ∀ (H3 : Hp), An ms H3 v x → Frame ms d l H3 → Kp [d, l] H H3 → spBent 2 [.ref d, v, .int 1] H3 Q E0 := fun H3 hT3 F3 k3 =>
          ⟨d, l, ms, v, x, 1, B, rfl, by decide, hT3, hfx, hB1, hB2, hwx, F3, fun v' x' H4 a g F4 k4 => k v' x' H4 a g F4 (k3.trans k4)⟩
        obtain ⟨ty, hty, kty⟩ := hT0.tupK (K := K)
        refine ⟨_, rfl, _, .ty "tuple", ty, .type "tuple", _, rfl, .ty "tuple", hty, kty, _, rfl, ?_⟩
        cases e : isTup x with
        | false =>
          refine iteT ?_
          exact ⟨_, rfl, _, rfl, bent H0 hT0 F0 k0⟩
        | true =>
          refine iteF ?_
          refine ⟨_, rfl, Nat.zero_le _, fun p np => ?_⟩
          have kp : Kp [] H0 (upd H0 p (.tup [])) := .new np
          have F1 := F0.new (o := .tup []) np
          have hT1 := hT0.kp kp (by simp) x
          have ep : (upd H0 p (.tup [])) p = some (.tup []) := upd_same
          have kp1 : Kp [d, l] H (upd H0 p (.tup [])) := k0.trans (.new np)
          generalize upd H0 p (.tup []) = H1 at kp F1 hT1 ep kp1
          have hT1' := hT1
          cases hT1 with
          | non => cases e
          | bl _ => cases e
          | int _ => cases e
          | str _ => cases e
          | lst _ _ _ => cases e
          | dct _ _ _ => cases e
          | @tup a xs ds ea hP =>
            have lx := hP.length
            have ll := len_wd ds
            have hw : wd (.tuple ds) = wdAll ds + 3 := rfl
            have hfd : fitJAll B ds = true := hfx
            have hdd : (PyData.tuple ds).depth = PyData.depthAll ds + 1 := rfl
            refine ⟨a, p, xs, rfl, rfl, ea, ep, _, rfl, ?_⟩
            cases ex : xs.isEmpty with
            | true => exact iteT ⟨_, rfl, _, rfl, bent H1 hT1' F1 kp1⟩
            | false =>
              refine iteF ?_
              have hpos : 0 < xs.length := by
                cases xs with
                | nil => cases ex
                | cons _ _ => exact Nat.succ_pos _
              refine ⟨_, rfl, d, l, 6, rfl, F1.dk, by decide, by decide, fun r H2 r0 r1 D2 k2 => ⟨rfl, _, rfl, ite2 (fun _ => ?_) (fun _ => ?_)⟩⟩
              · exact ⟨_, rfl, _, rfl, bent H2 (hT1'.kp k2 F1.sub _) (F1.go k2 D2) (kp1.trans k2)⟩
              have F2 := F1.go k2 D2
              have e2 := k2.tup _ _ ea
              refine ⟨_, rfl, _, rfl, a, _, rfl, .inr (sqt_of e2), d, l, _, rfl, D2, by omega, by omega, fun at' H3 a0 a1 D3 k3 => ?_⟩
              have F3 := F2.go k3 D3
              have e3 := k3.tup _ _ e2
              obtain ⟨i, rfl⟩ : ∃ i : Nat, at' = (i : Int) := ⟨at'.toNat, by omega⟩
              have hi : i < xs.length := by omega
              have hP3 := (hP.kp k2 F1.sub ds).kp k3 F2.sub ds
              obtain ⟨xi, exi, axi⟩ := hP3.get (List.getElem?_eq_getElem hi)
              have hmem := List.mem_of_getElem? exi
              have hwi := wd_mem hmem
              have hdi := dep_mem hmem
              refine ⟨_, rfl, _, rfl, _, rfl, _, rfl, _, rfl, a, _, _, xs[i], rfl, rfl, sqt_of e3, atI_nat (List.getElem?_eq_getElem hi), d, l, ms, xs[i], xi, B, rfl, by omega, axi, fitJ_mem hfd hmem, hB1, hB2, by omega, F3, fun v' x' H4 ax gx F4 k4 => ?_⟩
              have e4 := k4.tup _ _ e3
              refine ⟨a, _, i, v', rfl, e4, by omega, fun q H5 e5 k5 => ?_⟩
              have k45 := k4.trans (k5.more (ms' := [d, l]) (by simp))
              have hP5 := hP3.kp k45 F3.sub ds
              exact k _ (.tuple (ds.take i ++ [x'] ++ ds.drop (i + 1))) _ (.tup e5 (((hP5.take i).append (.cons (ax.kp k5 (by simp) _) .nil)).append (hP5.drop (i + 1)))) (swap_good hfd exi (by omega) gx) (F4.kp0 k5) (kp1.trans (k2.trans (k3.trans k45)))
      refine ⟨_, pss_cons (ps_if (PW.pt (pw_and (pt_val (pe_callB call_isi (by rfl) Bt.isi (by decide +kernel) (pa_cons (pv 1) (pa_cons (pe_bltn (v := .ty "str") (by rfl) Bt.str (by decide +kernel) rfl) pa_nil))))
          (pw_and1 (pt_cmpR op_gt (pe_call (ok_draw L.draw.F Bt) hr1 (by rfl) L.draw.g L.draw.F.kp L.draw.b .nil pass0 (pa_cons (pv 0) (pa_cons pe_int pa_nil))) pe_int (nomark _)))))
          (pss_one (ps_ret (pe_call (ok_pick L.pick.F Bt L.draw) hr2 (by rfl) L.pick.g L.pick.F.kp L.pick.b .nil pass0 (pa_cons (pv 0) (pa_cons (pe_lst (pa_cons pe_str (pa_cons pe_str (pa_cons pe_str (pa_cons pe_str (pa_cons pe_str (pa_cons pe_str (pa_cons pe_str (pa_cons pe_str (pa_cons pe_str (pa_cons pe_str (pa_cons pe_str (pa_cons pe_str (pa_cons pe_str (pa_cons pe_str (pa_cons pe_str (pa_cons pe_str (pa_cons pe_str (pa_cons pe_str (pa_cons pe_str (pa_cons pe_str pa_nil))))))))))))))))))))) pa_nil))))) pss_nil)
        dt, ?_⟩
      obtain ⟨ty, hty, kty⟩ := hT.strK (K := K)
      refine ⟨_, rfl, _, .ty "str", ty, .type "str", _, rfl, .ty "str", hty, kty, _, rfl, ?_⟩
      cases e : isStr x with
      | false =>
        refine iteF ?_
        exact rt H none hT Fr .refl
      | true =>
        refine iteT ?_
        refine ⟨_, rfl, d, l, 3, rfl, Fr.dk, by decide, by decide, fun r H1 r0 r1 D1 k1 => ⟨_, _, rfl, rfl, _, rfl, ite2 (fun _ => ?_) (fun _ => ?_)⟩⟩
        · refine ⟨_, rfl, by show 20 ≤ sizeLine; decide, fun p np => ?_⟩
          have F1 := Fr.go k1 D1
          have n1 := F1.ne np
          refine ⟨d, l, p, _, rfl, (F1.new np).dk, sql_of upd_same, by simp, by show 20 ≤ 1000000; decide, n1.1, n1.2, fun y H4 hy D4 k4 => ?_⟩
          have k4' : Kp [d, l] H H4 := k1.trans ((Kp.new np).trans k4)
          obtain ⟨g, hg, rfl⟩ : ∃ g, g ∈ badL ∧ y = V.str g := by
            have e3 : y ∈ badL.map V.str := hy
            obtain ⟨g, hg, e4⟩ := List.mem_map.mp e3
            exact ⟨g, hg, e4.symm⟩
          obtain ⟨q1, q2⟩ := badL_ok g hg
          exact k _ _ H4 (.str g) ⟨fitJ_le (by omega) _ q1, Nat.zero_le _, by omega⟩ (Fr.go k4' D4) k4'
        · exact rt H1 none (hT.kp k1 Fr.sub x) (Fr.go k1 D1) k1
end
end Ey
set_option maxHeartbeats 4000000
namespace Ey
open PySem PySem.Spec L2
abbrev sString : Stmt := topS 40
structure LT (K : PySem.W.Frag) (mg : Str → Option Value) (A : Nat → Addr) (D : Nat → FuncData) : Prop extends LS K mg A D where
  string : Df K mg "_law_string" sString ["_law_deck_here"] (A 40) (D 40)
structure Lw (n : Nat) (g : Str) : Prop where
  low : ∀ c ∈ g.cps.toList, c < 1000
  len : g.length ≤ n
theorem Lw.fit {n : Nat} {g : Str} (h : Lw n g) : fitJ 1 (.str g) = true := List.all_eq_true.mpr fun c hc => decide_eq_true (h.low c hc)
theorem str_size (g : Str) : g.cps.toList.length = g.length := by
  rw [Array.length_toList]
  rfl
theorem Lw.cut {n : Nat} {g : Str} (h : Lw n g) (lo hi : Option Int) : Lw n (cutS g lo hi) := by
  refine ⟨fun c hc => ?_, ?_⟩
  · have e : (cutS g lo hi).cps.toList = List.take (HT.sIx g.length g.length hi - HT.sIx g.length 0 lo) (List.drop (HT.sIx g.length 0 lo) g.cps.toList) := rfl
    rw [e] at hc
    exact h.low c (List.mem_of_mem_drop (List.mem_of_mem_take hc))
  · have e : (cutS g lo hi).length = (List.take (HT.sIx g.length g.length hi - HT.sIx g.length 0 lo) (List.drop (HT.sIx g.length 0 lo) g.cps.toList)).length := by
      rw [← str_size]
      rfl
    have := str_size g
    have := h.len
    rw [e, List.length_take, List.length_drop]
    omega
theorem Lw.app {n m : Nat} {g k : Str} (h : Lw n g) (h2 : Lw m k) : Lw (n + m) (g ++ k) := by
  refine ⟨fun c hc => ?_, ?_⟩
  · have e : (g ++ k).cps.toList = g.cps.toList ++ k.cps.toList := Array.toList_append
    rw [e] at hc
    rcases List.mem_append.mp hc with hc | hc
    · exact h.low c hc
    · exact h2.low c hc
  · have a := h.len
    have b := h2.len
    rw [len_app]
    omega
theorem glue_one : ∀ (l : List Nat) (a : Array Nat), List.foldl (fun (acc : Array Nat) (p : Str) => acc ++ (Str.ofString "").cps ++ p.cps) a (l.map fun k => st [k]) = a ++ l.toArray
  | [], a => by simp
  | x :: r, a => by
    rw [List.map_cons, List.foldl_cons, glue_one r]
    have e : (Str.ofString "").cps = #[] := by decide +kernel
    rw [e]
    show a ++ #[] ++ #[x] ++ r.toArray = a ++ (x :: r).toArray
    simp
theorem join_st (l : List Nat) : Txt.join "" (l.map fun k => st [k]) = st l := by
  unfold Txt.join Builtin.Str.glued
  cases l with
  | nil => rfl
  | cons x r =>
    have := glue_one r #[x]
    show Str.mk (List.foldl _ #[x] (r.map fun k => st [k])) = st (x :: r)
    rw [this]
    show Str.mk _ = Str.mk _
    congr 1
    simp
theorem wp_ok : ∀ g ∈ wordsL ++ poolL, (g.cps.toList.all fun c => decide (c < 1000)) = true ∧ g.length ≤ 21 := by decide +kernel
def sgL : List Str := ["", "", "_", "1", "A", " ", "-", "s", "\n"]
theorem sg_ok : ∀ g ∈ sgL, (g.cps.toList.all fun c => decide (c < 1000)) = true ∧ g.length ≤ 21 := by decide +kernel
def abT : Str := "abcz019_qwertyuiop"
theorem ab_ok : abT.cps.toList.length = 18 ∧ ∀ c ∈ abT.cps.toList, c < 1000 := by decide +kernel
theorem lw_of {g : Str} (h : (g.cps.toList.all fun c => decide (c < 1000)) = true ∧ g.length ≤ 21) : Lw 21 g := ⟨fun c hc => of_decide_eq_true (List.all_eq_true.mp h.1 c hc), h.2⟩
def nL : List Nat := [1, 2, 5, 19, 20, 21, 0]
section
variable {Pr : Program} {w : World} {K : PySem.W.Frag} {mg : Str → Option Value} {base : Heap} {A : Nat → Addr} {D : Nat → FuncData}
abbrev NG : List Str := ["_law_deck_here", "_law_word", "_law_signs", "_law_at_here", "_law_sign", "_law_turn"]
theorem scString : FnScope NG ["_law_deck_here"] (defScope sString) := ⟨rfl, rfl, rfl, by decide +kernel, rfl, by decide +kernel, by decide +kernel⟩
def spString : Sp := fun vs H Q _ => ∃ (d l : Addr) (ms : List Addr), vs = [.ref d] ∧ Frame ms d l H ∧
  ∀ (g : Str) (H' : Hp), Lw 70 g → Frame ms d l H' → Kp [d, l] H H' → Q (.str g) H'
theorem ok_string (L : LT K mg A D) : FnOk Pr w K mg base CX0 3 (A 40) (D 40) ["_law_deck_here"] spString := by
  have Bt := L.B
  refine L.string.F.ok scString (fun vs H Q E h => ?_) (fun cdv Ar outer s H vs Q E hr h => ?_)
  · obtain ⟨d, l, ms, rfl, _⟩ := h
    rfl
  · obtain ⟨d, l, ms, rfl, Fr, k⟩ := h
    have hr1 := hr.mono (show 1 ≤ 2 by omega)
    obtain ⟨tt, dt, rt⟩ : ∃ tt, PSs (cxOf CX0 Pr w K mg base NG "_law_string" (defScope sString) (A 40) cdv Ar outer s H E).nox ((defBody sString).drop 2) tt ∧
        ∀ (H1 : Hp) (g : Str) (x2 x5 : Option V), Lw 21 g → Frame ms d l H1 → Kp [d, l] H H1 → tt { nx := fun _ H' => Q .non H', rt := Q } [some (.ref d), some (.str g), x2, none, none, x5] H1 := by
      refine ⟨_, pss_cons (ps_set (i := 3) scString.nd rfl (.inl rfl) (pe_call (ok_draw L.draw.F Bt) hr1 (by rfl) L.draw.g L.draw.F.kp L.draw.b .nil pass0 (pa_cons (pv 0) (pa_cons (pe_op op_add (pe_callB call_len_str (by rfl) Bt.len PySem.boot_len (pa_cons (pv 1) pa_nil)) pe_int) pa_nil))))
        (pss_cons (ps_set (i := 4) scString.nd rfl (.inl rfl) (pe_call (ok_pick L.pick.F Bt L.draw) hr (by rfl) L.pick.g L.pick.F.kp L.pick.b .nil pass0 (pa_cons (pv 0) (pa_cons (pe_lst (pa_cons pe_str (pa_cons pe_str (pa_cons pe_str (pa_cons pe_str (pa_cons pe_str (pa_cons pe_str (pa_cons pe_str (pa_cons pe_str (pa_cons pe_str pa_nil)))))))))) pa_nil))))
        (pss_one (ps_ret (pe_op op_add_str (pe_op op_add_str (pe_slice sl_str (pv 1) po_none (po_some (pv 3))) (pv 4)) (pe_slice sl_str (pv 1) (po_some (pv 3)) po_none))))), ?_⟩
      intro H1 g x2 x5 hg F1 k1
      have hgl := hg.len
      have hgs : g.length ≤ sizeLine := Nat.le_trans hgl (by decide)
      refine ⟨_, rfl, _, rfl, _, rfl, hgs, _, _, rfl, rfl, d, l, _, rfl, F1.dk, by omega, by omega, fun r H2 r0 r1 D2 k2 => ?_⟩
      have F2 := F1.go k2 D2
      refine ⟨_, rfl, by show 9 ≤ sizeLine; decide, fun p np => ?_⟩
      have n1 := F2.ne np
      refine ⟨d, l, p, _, rfl, (F2.new np).dk, sql_of upd_same, by simp, by show 9 ≤ 1000000; decide, n1.1, n1.2, fun y H4 hy D4 k4 => ?_⟩
      obtain ⟨z, hz, rfl⟩ : ∃ z, z ∈ sgL ∧ y = V.str z := by
        have e3 : y ∈ sgL.map V.str := hy
        obtain ⟨g, hg, e4⟩ := List.mem_map.mp e3
        exact ⟨g, hg, e4.symm⟩
      have hzl := lw_of (sg_ok z hz)
      have k4' : Kp [d, l] H1 H4 := k2.trans ((Kp.new np).trans k4)
      have c1 := hg.cut none (some r)
      have c2 := hg.cut (some r) none
      have c3 := c1.app hzl
      have c4 := c3.app c2
      have l1 := c1.len
      have l2 := c2.len
      have l3 := c3.len
      have l4 := c4.len
      have lz := hzl.len
      refine ⟨_, rfl, _, rfl, r, rfl, g, rfl, hgs, _, rfl, _, _, rfl, rfl, Nat.le_trans (m := 42) (by omega) (by decide), _, rfl, _, rfl, r, rfl, g, rfl, hgs, _, _, rfl, rfl, Nat.le_trans (m := 63) (by omega) (by decide), ?_⟩
      exact k _ H4 ⟨c4.low, by omega⟩ (F1.go k4' D4) (k1.trans k4')
    refine ⟨_, pss_cons (ps_set (i := 1) scString.nd rfl (.inl rfl) (pe_call (ok_pick L.pick.F Bt L.draw) hr (by rfl) L.pick.g L.pick.F.kp L.pick.b .nil pass0 (pa_cons (pv 0) (pa_cons (pe_op op_cat (pe_call0 (ok_words L.words.F) hr1 (by rfl) L.words.g L.words.F.kp L.words.b .nil pass0) (pe_call0 (ok_pool L.toLS) hr1 (by rfl) L.pool.g L.pool.F.kp L.pool.b .nil pass0)) pa_nil))))
      (pss_cons (ps_if (pt_cmpR op_eq (pe_call (ok_draw L.draw.F Bt) hr1 (by rfl) L.draw.g L.draw.F.kp L.draw.b .nil pass0 (pa_cons (pv 0) (pa_cons pe_int pa_nil))) pe_int (nomark _))
        (pss_cons (ps_set (i := 2) scString.nd rfl (.inr rfl) pe_str)
        (pss_one (ps_set (i := 1) scString.nd rfl (.inl rfl) (pe_join pe_str (pe_lc (own := [("_law_turn", 5)]) (g := gName 5) (tt := tYes) rfl scString.nd
          (pi_range1 (by rfl) Bt.range (pa_cons (pe_call (ok_pick L.pick.F Bt L.draw) hr (by rfl) L.pick.g L.pick.F.kp L.pick.b .nil pass0 (pa_cons (pv 0) (pa_cons (pe_lst (pa_cons pe_int (pa_cons pe_int (pa_cons pe_int (pa_cons pe_int (pa_cons pe_int (pa_cons pe_int (pa_cons pe_int pa_nil)))))))) pa_nil))) pa_nil))
            (blkOk_by (N := NG) (sc := defScope sString) (by decide +kernel)) (fun _ _ _ _ _ => pg_name (i := 5) scString.nd rfl (Or.inl rfl)) (fun _ _ _ _ _ => pts_nil)
            (fun _ _ _ _ _ => pe_ix ix_str (pv 2) (pe_call (ok_draw L.draw.F Bt) hr1 (by rfl) L.draw.g L.draw.F.kp L.draw.b .nil pass0 (pa_cons (pv 0) (pa_cons pe_int pa_nil))) (fun _ _ => rfl))))))) pss_nil)
      dt), ?_⟩
    refine ⟨_, rfl, rfl, fun p1 H1 np1 e1 k1 => ⟨rfl, fun p2 H2 np2 e2 k2 => ⟨p1, p2, _, _, rfl, rfl, k2.at_ _ _ e1 (by simp), e2, by show 19 + 18 ≤ sizeLine; decide, fun p3 np3 => ?_⟩⟩⟩
    have F2 := (Fr.kp0 k1).kp0 k2
    have n3 := F2.ne np3
    have k12 : Kp [d, l] H H2 := (k1.trans k2).more (by simp)
    refine ⟨d, l, p3, _, rfl, (F2.new np3).dk, sql_of upd_same, by simp [wordsL], by show 19 + 18 ≤ 1000000; decide, n3.1, n3.2, fun y H4 hy D4 k4 => ?_⟩
    have k24 : Kp [d, l] H2 H4 := (Kp.new np3).trans k4
    have F4 := F2.go k24 D4
    obtain ⟨g, hg, rfl⟩ : ∃ g, g ∈ wordsL ++ poolL ∧ y = V.str g := by
      rw [← List.map_append] at hy
      obtain ⟨g, hg, e4⟩ := List.mem_map.mp hy
      exact ⟨g, hg, e4.symm⟩
    have hgl := lw_of (wp_ok g hg)
    refine ⟨_, rfl, d, l, 3, rfl, F4.dk, by decide, by decide, fun r H5 r0 r1 D5 k5 => ?_⟩
    have F5 := F4.go k5 D5
    have k05 := k12.trans (k24.trans k5)
    refine ⟨rfl, _, rfl, ite2 (fun _ => ?_) (fun _ => ?_)⟩
    · refine ⟨⟨_, rfl⟩, _, rfl, by show 7 ≤ sizeLine; decide, fun p np => ?_⟩
      have n6 := F5.ne np
      have F6 := F5.new (o := .lst (nL.map fun (n : Nat) => V.int n)) np
      refine ⟨d, l, p, nL.map fun (n : Nat) => V.int n, rfl, F6.dk, sql_of upd_same, by simp [nL], by show 7 ≤ 1000000; decide, n6.1, n6.2, fun y H7 hy D7 k7 => ?_⟩
      have F7 := F6.go k7 D7
      have k57 : Kp [d, l] H5 H7 := (Kp.new np).trans k7
      obtain ⟨m, hm, rfl⟩ := List.mem_map.mp hy
      have hm2 : m ≤ 21 := (by decide : ∀ m ∈ nL, m ≤ 21) m hm
      refine ⟨(m : Int), rfl, by omega, by omega, ?_⟩
      rw [Int.toNat_natCast]
      intro Dl nD
      have nDm := F7.has.fresh nD
      have hDd : Dl ≠ d := fun e => nDm (e ▸ F7.dm)
      have hDl : Dl ≠ l := fun e => nDm (e ▸ F7.lm)
      refine lc_range (lo := 0) (n := m) (fun i H => ∃ (cs : List Nat), H Dl = some (.lst ((cs.map fun k => st [k]).map V.str)) ∧ (∀ c ∈ cs, c < 1000) ∧ cs.length = i ∧ Frame ms d l H ∧ Kp [d, l] H7 H)
        ⟨[], upd_same, (by simp), rfl, F7.new nD, .new nD⟩ ?_ ?_
      · rintro i H8 hi ⟨cs, hD, hcs, hl, F8, k8⟩
        refine ⟨rfl, _, rfl, _, rfl, d, l, 18, rfl, F8.dk, by decide, by decide, fun r H9 r0 r1 D9 k9 => ?_⟩
        obtain ⟨j, rfl⟩ : ∃ j : Nat, r = (j : Int) := ⟨r.toNat, by omega⟩
        have hj : j < abT.cps.toList.length := by rw [ab_ok.1]; omega
        have hD9 : H9 Dl = some (.lst ((cs.map fun k => st [k]).map V.str)) := k9.at_ _ _ hD (by simp [hDd, hDl])
        refine ⟨abT, j, abT.cps.toList[j], rfl, rfl, by decide +kernel, atI_nat (List.getElem?_eq_getElem hj), _, hD9, ?_, cs ++ [abT.cps.toList[j]], ?_, ?_, ?_, ?_, ?_⟩
        · rw [List.length_map, List.length_map, hl]
          exact Nat.lt_of_lt_of_le hi (Nat.le_trans hm2 (by decide))
        · rw [upd_same, List.map_append, List.map_append]
          rfl
        · intro c hc
          rcases List.mem_append.mp hc with hc | hc
          · exact hcs c hc
          · rw [List.mem_singleton.mp hc]
            exact ab_ok.2 _ (List.getElem_mem hj)
        · rw [List.length_append, hl]
          rfl
        · have kD : Kp [Dl] H9 (upd H9 Dl (.lst (((cs.map fun k => st [k]).map V.str) ++ [V.str (st [abT.cps.toList[j]])]))) := .put (by simp) hD9 (fun _ z => by cases z)
          have F9 := F8.go k9 D9
          exact ⟨F9.dk.kp kD (by simp [hDd.symm]) (by simp [hDl.symm]), F9.dm, F9.lm, F9.has.kp kD fun b hb => by
            rw [List.mem_singleton.mp hb]
            intro z
            rw [show (upd H9 Dl _) Dl = some _ from upd_same] at z
            cases z⟩
        · exact (k8.trans k9).own nD
      · rintro H8 ⟨cs, hD, hcs, hl, F8, k8⟩
        have es : ((cs.map fun k => st [k]).map fun x => x.length).sum = cs.length := by
          rw [List.map_map]
          clear hD hcs hl F8 k8
          induction cs with
          | nil => rfl
          | cons c r ih =>
            rw [List.map_cons, List.sum_cons, ih, List.length_cons]
            show 1 + r.length = r.length + 1
            omega
        have e0 : (Str.ofString "").length = 0 := by decide +kernel
        refine ⟨_, Dl, _, rfl, rfl, .inl (sql_of hD), ?_, ?_⟩
        · rw [es, e0]
          omega
        · rw [join_st]
          refine rt _ _ _ _ ⟨hcs, ?_⟩ F8 (k05.trans (k57.trans k8))
          rw [st_len]
          omega
    · exact rt _ g none none hgl F5 k05
end
end Ey
set_option maxHeartbeats 4000000
namespace Ey
open PySem PySem.Spec L2
abbrev sTPaths : Stmt := topS 36
abbrev sPaths : Stmt := topS 37
abbrev sAt : Stmt := topS 38
theorem for_enumT {K : PySem.W.Frag} {a : Addr} {xs : List V} {g : TG} {tb : TS} {D : Ends} {σ : St} {H : Hp} (Pv : Nat → St → Hp → Prop) (h0 : Pv 0 σ H) (hl : ∀ i σ H, i ≤ xs.length → Pv i σ H → SqT K H a xs)
    (hs : ∀ i x σ H T, xs[i]? = some x → H T = none → Pv i σ H → g (.ref T) σ (upd H T (.tup [.int (i : Nat), x])) fun σ2 H2 => tb { D with nx := Pv (i + 1), ct := Pv (i + 1), bk := D.nx } σ2 H2) (hd : ∀ σ H, Pv xs.length σ H → D.nx σ H) :
    ∃ W : Nat → Nat → St → Hp → Prop, (∃ m, W 0 m σ H) ∧ ∀ i m σ H, W i m σ H →
      ((Itet K a).stop i H ∧ D.nx σ H) ∨ ((Itet K a).go i H ∧ ∃ N : St → Hp → Prop, (∀ σ' H', N σ' H' → ∃ m', m' < m ∧ W (i + 1) m' σ' H') ∧ ∀ x H', (Itet K a).yld i H x H' → g x σ H' fun σ2 H2 => tb { D with nx := N, ct := N, bk := D.nx } σ2 H2) := by
  refine ⟨fun i m σ H => m = xs.length - i ∧ i ≤ xs.length ∧ Pv i σ H, ⟨xs.length, by simp, Nat.zero_le _, h0⟩, ?_⟩
  rintro i m σ H ⟨rfl, hi, p⟩
  have q := hl i σ H hi p
  by_cases hlt : i < xs.length
  · refine .inr ⟨⟨xs, xs[i], q, by simp [hlt]⟩, Pv (i + 1), fun σ' H' p' => ⟨xs.length - (i + 1), by omega, rfl, hlt, p'⟩, fun x H' y => ?_⟩
    obtain ⟨T, x', rfl, nT, e, y⟩ := y
    subst e
    exact hs i x' σ H T (y xs q) nT p
  · have e : i = xs.length := by omega
    subst e
    exact .inl ⟨⟨xs, q, Nat.le_refl _⟩, hd σ H p⟩
/-! ### a place in data -/
def atD : PyData → List Nat → Option PyData
  | d, [] => some d
  | .tuple ds, i :: r => match ds[i]? with
    | some x => atD x r
    | none => none
  | _, _ :: _ => none
theorem atD_app : ∀ (p q : List Nat) (d : PyData), atD d (p ++ q) = (atD d p).bind fun x => atD x q
  | [], q, d => by
    cases d <;> rfl
  | i :: r, q, d => by
    cases d with
    | tuple ds =>
      show (match ds[i]? with | some x => atD x (r ++ q) | none => none) = (match ds[i]? with | some x => atD x r | none => none).bind _
      cases ds[i]? with
      | none => rfl
      | some x => exact atD_app r q x
    | none => rfl
    | bool _ => rfl
    | int _ => rfl
    | str _ => rfl
    | list _ => rfl
    | dict _ => rfl
theorem atD_one {ds : List PyData} {i : Nat} {x : PyData} (h : ds[i]? = some x) : atD (.tuple ds) [i] = some x := by
  show (match ds[i]? with | some x => atD x [] | none => none) = some x
  rw [h]
  cases x <;> rfl
abbrev intsV (pp : List Nat) : List V := pp.map fun (i : Nat) => V.int i
def PathAt (root : PyData) (H : Hp) (y : V) : Prop := ∃ (r : Addr) (pp : List Nat), y = .ref r ∧ H r = some (.tup (intsV pp)) ∧ (atD root pp).isSome = true
theorem PathAt.kp {root : PyData} {ms : List Addr} {H H1 : Hp} {y : V} (h : PathAt root H y) (k : Kp ms H H1) : PathAt root H1 y :=
  let ⟨r, pp, e, q, s⟩ := h
  ⟨r, pp, e, k.tup _ _ q, s⟩
/-- the parts of a term that is no name and no call, by number -/
theorem sides_parts {w : Str} {r : List PyData} (h : headedR w r = true) (n1 : ¬ w = kName) (n3 : ¬ w = kCall) :
    ∃ m, sidesN w = ((List.range m).map fun (i : Nat) => (i : Int) + 1) ∧ m ≤ r.length ∧ partsR w r = r.take m := by
  by_cases n2 : w = kHas
  · subst n2
    refine ⟨1, by decide +kernel, ?_, ?_⟩
    · unfold headedR at h
      rw [if_neg n1, if_pos rfl] at h
      match r, h with
      | [_, _], _ => exact Nat.succ_le_succ (Nat.zero_le _)
    · unfold partsR
      rw [if_neg n1, if_pos rfl]
  · unfold headedR at h
    rw [if_neg n1, if_neg n2, if_neg n3] at h
    cases ea : arity w with
    | none =>
      rw [ea] at h
      cases h
    | some m =>
      rw [ea] at h
      have hm : r.length = m := of_decide_eq_true h
      obtain ⟨pp, hpp, ep, em⟩ := arity_some ea
      refine ⟨m, ?_, by omega, ?_⟩
      · have := sides_is pp hpp
        rw [ep, em] at this
        exact this
      · unfold partsR
        rw [if_neg n1, if_neg n2, if_neg n3, ← hm, List.take_length]
structure LP (K : PySem.W.Frag) (mg : Str → Option Value) (A : Nat → Addr) (D : Nat → FuncData) : Prop extends LT K mg A D where
  tpaths : Df K mg "_law_term_paths" sTPaths ["_law_term", "_law_path"] (A 36) (D 36)
  paths : Df K mg "_law_paths" sPaths ["_law_script"] (A 37) (D 37)
  at_ : Df K mg "_law_at" sAt ["_law_thing", "_law_path"] (A 38) (D 38)
section
variable {Pr : Program} {w : World} {K : PySem.W.Frag} {mg : Str → Option Value} {base : Heap} {A : Nat → Addr} {D : Nat → FuncData}
abbrev NTP : List Str := ["_law_term", "_law_path", "_law_found", "_law_k", "_law_it", "_law_at_here"]
theorem scTPaths : FnScope NTP ["_law_term", "_law_path"] (defScope sTPaths) := ⟨rfl, rfl, rfl, by decide +kernel, rfl, by decide +kernel, by decide +kernel⟩
def spTP (ms : List Addr) (root : PyData) (n : Nat) : Sp := fun vs H Q _ => ∃ (v : V) (t : PyData) (p : Addr) (pt : List Nat), vs = [v, .ref p] ∧ An ms H v t ∧ isTerm t = true ∧ wd t ≤ 20000 ∧ t.depth < n ∧ H p = some (.tup (intsV pt)) ∧ atD root pt = some t ∧ pt.length + 2 * t.depth ≤ 200 ∧
  ∀ (q : Addr) (ys : List V) (H' : Hp), H q = none → H' q = some (.lst ys) → (∀ y ∈ ys, PathAt root H' y) → ys.length ≤ wd t → ys ≠ [] → Kp [] H H' → Q (.ref q) H'
theorem ok_tpaths {ms : List Addr} {root : PyData} (L : LP K mg A D) : ∀ n : Nat, FnOk Pr w K mg base CX0 (n + 2) (A 36) (D 36) ["_law_term", "_law_path"] (spTP ms root n)
  | 0 => by
    refine L.tpaths.F.ok scTPaths (fun vs H Q E h => ?_) (fun cdv Ar outer s H vs Q E hr h => ?_)
    · obtain ⟨v, t, p, pt, rfl, _⟩ := h
      rfl
    · obtain ⟨v, t, p, pt, rfl, _, _, _, hd, _⟩ := h
      exact absurd hd (Nat.not_lt_zero _)
  | n + 1 => by
    have ih := ok_tpaths (ms := ms) (root := root) L n
    have Bt := L.B
    refine L.tpaths.F.ok scTPaths (fun vs H Q E h => ?_) (fun cdv Ar outer s H vs Q E hr h => ?_)
    · obtain ⟨v, t, p, pt, rfl, _⟩ := h
      rfl
    · obtain ⟨v, t, p, pt, rfl, hv, ht, hw, hd, hp, ha, hl, k⟩ := h
      have hr1 := hr.mono (show 1 ≤ n + 2 by omega)
      refine ⟨_, pss_cons (ps_set (i := 2) scTPaths.nd rfl (.inl rfl) (pe_lst (pa_cons (pv 1) pa_nil)))
        (pss_cons (ps_if (pt_cmpR op_eq (pe_ix ix_tup (pv 0) pe_int (fun _ _ => rfl)) pe_str (nomark _))
          (pss_one (ps_for PassesOwn.never rfl (pi_enumT (by rfl) Bt.enum (pa_cons (pe_ix ix_tup (pv 0) pe_int (fun _ _ => rfl)) pa_nil)) (pg_tup (n := 2) rfl (pgs_cons (pg_name (i := 3) scTPaths.nd rfl (.inl rfl)) (pgs_cons (pg_name (i := 4) scTPaths.nd rfl (.inl rfl)) pgs_nil)))
            (pss_one (ps_expr (pe_bm PySem.F.plainAttrs_list PySem.F.slot_list_extend PySem.F.type_list_extend mt_extend (pv 2)
              (pa_cons (pe_call ih hr (by rfl) L.tpaths.g L.tpaths.F.kp L.tpaths.b .nil pass0 (pa_cons (pv 4) (pa_cons (pe_op op_cat2 (pv 1) (pe_tup (pa_cons pe_int (pa_cons (pv 3) pa_nil)))) pa_nil))) pa_nil))))))
          (pss_one (ps_if (pt_cmpR op_ne (pe_ix ix_tup (pv 0) pe_int (fun _ _ => rfl)) pe_str (nomark _))
            (pss_one (ps_for PassesOwn.never rfl (pi_tup (pe_call (ok_sides L.toLF) hr1 (by rfl) L.sides.g L.sides.F.kp L.sides.b .nil pass0 (pa_cons (pv 0) pa_nil))) (pg_name (i := 5) scTPaths.nd rfl (.inl rfl))
              (pss_one (ps_expr (pe_bm PySem.F.plainAttrs_list PySem.F.slot_list_extend PySem.F.type_list_extend mt_extend (pv 2)
                (pa_cons (pe_call ih hr (by rfl) L.tpaths.g L.tpaths.F.kp L.tpaths.b .nil pass0 (pa_cons (pe_ix ix_tup (pv 0) (pv 5) (fun _ _ => rfl)) (pa_cons (pe_op op_cat2 (pv 1) (pe_tup (pa_cons (pv 5) pa_nil))) pa_nil))) pa_nil)))))) pss_nil)))
        (pss_one (ps_ret (pv 2)))), ?_⟩
      refine ⟨_, rfl, by show 1 ≤ sizeLine; decide, fun q nq => ?_⟩
      have k1 : Kp [] H (upd H q (.lst [.ref p])) := .new nq
      have eq1 : (upd H q (.lst [.ref p])) q = some (.lst [.ref p]) := upd_same
      have hP0 : ∀ y ∈ [V.ref p], PathAt root (upd H q (.lst [.ref p])) y := fun y hy => by
        rw [List.mem_singleton.mp hy]
        exact ⟨p, pt, rfl, k1.tup _ _ hp, by rw [ha]; rfl⟩
      generalize upd H q (.lst [.ref p]) = H1 at k1 eq1 hP0
      rw [isTerm_eq, Bool.and_eq_true] at ht
      obtain ⟨hh, hparts⟩ := ht
      unfold headed at hh
      split at hh
      · rename_i wd0 r
        cases hv with
        | @tup a xs _ e00 hds =>
          have e := k1.tup _ _ e00
          cases hds with
          | @cons v0 vs _ _ h0 hr0 =>
            cases h0
            have hdepth : (PyData.tuple (.str wd0 :: r)).depth = max 0 (PyData.depthAll r) + 1 := rfl
            have hwd : wd (.tuple (.str wd0 :: r)) = wd (.str wd0) + 2 + wdAll r + 3 := rfl
            have hpp : (partsR wd0 r).all isTerm = true := hparts
            have step : ∀ (H2 : Hp) (ys zs : List V) (q2 : Addr) (H3 : Hp), H2 q = some (.lst ys) → (∀ y ∈ ys, PathAt root H2 y) → ys ≠ [] → Kp [] H H2 → H2 q2 = none → H3 q2 = some (.lst zs) → (∀ y ∈ zs, PathAt root H3 y) → Kp [] H2 H3 →
                H3 q = some (.lst ys) ∧ (upd H3 q (.lst (ys ++ zs))) q = some (.lst (ys ++ zs)) ∧ (∀ y ∈ ys ++ zs, PathAt root (upd H3 q (.lst (ys ++ zs))) y) ∧ ys ++ zs ≠ [] ∧ Kp [] H (upd H3 q (.lst (ys ++ zs))) := by
              intro H2 ys zs q2 H3 h1 h2 h3 h4 h5 h6 h7 h8
              have e3 : H3 q = some (.lst ys) := h8.at_ _ _ h1 (by simp)
              have kq : Kp [q] H3 (upd H3 q (.lst (ys ++ zs))) := .put (by simp) e3 (fun _ z => by cases z)
              refine ⟨e3, upd_same, fun y hy => ?_, fun z => h3 (List.append_eq_nil_iff.mp z).1, (h4.trans h8).own nq⟩
              rcases List.mem_append.mp hy with hy | hy
              · exact ((h2 y hy).kp h8).kp kq
              · exact (h7 y hy).kp kq
            refine ⟨_, rfl, a, _, _, _, rfl, rfl, sqt_of e, atI_nat (j := 0) rfl, rfl, _, rfl, ite2 (fun qc => ?_) (fun qc => ?_)⟩
            · have ec : wd0 = kCall := V.str.inj (of_decide_eq_true qc)
              subst ec
              have hC : hdC r = true := hh
              match r, hr0, hC, hpp, hwd, hdepth, hw, k with
              | [c, y], .cons (v := v1) a1 (.cons (v := v2) a2 .nil), hC, hpp, hwd, hdepth, hw, k =>
                have hy : isTup y = true := by
                  have : (isNameD c && isTup y) = true := hC
                  exact (Bool.and_eq_true _ _ ▸ this).2
                cases a2 with
                | @tup t2 ws es e2 hes =>
                  have hpe : es.all isTerm = true := hpp
                  have he2 : H1 t2 = some (.tup ws) := k1.tup _ _ e2
                  have ln := hes.length
                  have le := len_wd es
                  have hwe : wd (.tuple es) = wdAll es + 3 := rfl
                  have hw2 : wdAll [c, PyData.tuple es] = wd c + 2 + (wdAll es + 3 + 2 + 0) := rfl
                  have hdd : PyData.depthAll [c, PyData.tuple es] = max c.depth (max (PyData.depthAll es + 1) 0) := rfl
                  refine ⟨_, rfl, a, _, _, _, rfl, rfl, sqt_of e, atI_nat (j := 2) rfl, t2, ws, rfl, sqt_of he2, ?_⟩
                  refine for_enumT (xs := ws) (fun i σ H' => ∃ (ys : List V) (x3 x4 x5 : Option V), σ = [some (.ref a), some (.ref p), some (.ref q), x3, x4, x5] ∧ H' q = some (.lst ys) ∧ (∀ y ∈ ys, PathAt root H' y) ∧ ys ≠ [] ∧ ys.length ≤ 1 + wdAll (es.take i) ∧ Kp [] H H')
                    ⟨_, _, _, _, rfl, eq1, hP0, by simp, Nat.le_refl _, k1⟩ (fun i σ H' _ ⟨_, _, _, _, _, _, _, _, _, k'⟩ => sqt_of (k'.tup _ _ e2)) ?_ ?_
                  · rintro i z σ H2 T hz nT ⟨ys, x3, x4, x5, rfl, hq2, hP2, hne, hlen, k2⟩
                    obtain ⟨x, ex, ax⟩ := hes.get hz
                    have hmem := List.mem_of_getElem? ex
                    have hxt : isTerm x = true := List.all_eq_true.mp hpe x hmem
                    have hxw := wd_get ex
                    have hxd := dep_mem hmem
                    refine ⟨T, _, rfl, sqt_of upd_same, rfl, _, _, rfl, _, _, rfl, rfl, ?_⟩
                    have kT : Kp [] H2 (upd H2 T (.tup [.int (i : Nat), z])) := .new nT
                    have hq3 := kT.at_ _ _ hq2 (by simp)
                    generalize upd H2 T (.tup [.int (i : Nat), z]) = H3 at kT hq3
                    refine ⟨_, rfl, .inl ⟨rfl, _, sql_of hq3⟩, _, rfl, _, rfl, _, rfl, by show 2 ≤ sizeLine; decide, fun p4 np4 => ?_⟩
                    have k4 : Kp [] H3 (upd H3 p4 (.tup [.int 2, .int (i : Nat)])) := .new np4
                    refine ⟨p, p4, _, _, rfl, rfl, k4.tup _ _ ((k2.trans kT).tup _ _ hp), upd_same, ?_, fun p5 H5 e5 k5 => ?_⟩
                    · rw [List.length_map]
                      exact Nat.le_trans (show pt.length + 2 ≤ 202 by omega) (by decide)
                    have kH5 := (k2.trans kT).trans (k4.trans k5)
                    have k25 := kT.trans (k4.trans k5)
                    have eI : intsV pt ++ [V.int 2, V.int (i : Nat)] = intsV (pt ++ [2, i]) := by simp [intsV]
                    rw [eI] at e5
                    have eA : atD root (pt ++ [2, i]) = some x := by
                      rw [atD_app, ha]
                      show atD (.tuple [.str kCall, c, .tuple es]) ([2] ++ [i]) = some x
                      rw [atD_app, atD_one (x := .tuple es) rfl]
                      exact atD_one ex
                    refine ⟨z, x, p5, pt ++ [2, i], rfl, ax.kp kH5 (by simp) x, hxt, by omega, by omega, e5, eA, ?_, fun q2 zs H6 n6 e6 hz6 hl6 hne6 k6 => ?_⟩
                    · rw [List.length_append]
                      show pt.length + 2 + 2 * x.depth ≤ 200
                      omega
                    have hq5 := k25.at_ _ _ hq2 (by simp)
                    obtain ⟨s1, s2, s3, s4, s5⟩ := step H5 ys zs q2 H6 hq5 (fun y hy => (hP2 y hy).kp k25) hne kH5 n6 e6 hz6 k6
                    have etk : wdAll (es.take (i + 1)) = wdAll (es.take i) + (wd x + 2 + 0) := by
                      rw [List.take_add_one, ex, wd_app]
                      rfl
                    have hcut := (cut_facts 0 [] 0 rfl)
                    have hle : wdAll (es.take i) ≤ wdAll es := by
                      have := wd_app (es.drop i) (es.take i)
                      rw [List.take_append_drop] at this
                      omega
                    refine ⟨q, q2, ys, zs, rfl, rfl, s1, e6, Nat.le_trans (show ys.length + zs.length ≤ 50000 by omega) (by decide), ys ++ zs, _, _, _, rfl, s2, s3, s4, ?_, s5⟩
                    rw [List.length_append, etk]
                    omega
                  · rintro σ H2 ⟨ys, x3, x4, x5, rfl, hq2, hP2, hne, hlen, k2⟩
                    rw [ln, List.take_length] at hlen
                    exact ⟨_, rfl, k q ys H2 nq hq2 hP2 (by omega) hne k2⟩
                | _ => cases hy
            · have n3 : ¬ wd0 = kCall := fun z => qc (decide_eq_true (by rw [z]; rfl))
              refine ⟨_, rfl, a, _, _, _, rfl, rfl, sqt_of e, atI_nat (j := 0) rfl, rfl, _, rfl, ite2 (fun qn => ?_) (fun qn => ?_)⟩
              · have n1 : ¬ wd0 = kName := fun z => by
                  subst z
                  exact absurd qn (by decide +kernel)
                obtain ⟨m, hsd, hm, hpr⟩ := sides_parts hh n1 n3
                rw [hpr] at hpp
                have lr := hr0.length
                have le := len_wd r
                refine ⟨_, rfl, a, wd0, vs, rfl, e, fun p3 H2 hp3 k2 => ?_⟩
                rw [hsd] at hp3
                have hq2 := k2.at_ _ _ eq1 (by simp)
                refine ⟨p3, rfl, ⟨_, sqt_of hp3⟩, ?_⟩
                refine for_tup (xs := ((List.range m).map fun (i : Nat) => (i : Int) + 1).map V.int) (fun i σ H' => ∃ (ys : List V) (x3 x4 x5 : Option V), σ = [some (.ref a), some (.ref p), some (.ref q), x3, x4, x5] ∧ H' q = some (.lst ys) ∧ (∀ y ∈ ys, PathAt root H' y) ∧ ys ≠ [] ∧ ys.length ≤ 1 + wdAll (r.take i) ∧ Kp [] H H' ∧ H' p3 = some (.tup (((List.range m).map fun (i : Nat) => (i : Int) + 1).map V.int)))
                  ⟨_, _, _, _, rfl, hq2, fun y hy => (hP0 y hy).kp k2, by simp, Nat.le_refl _, k1.trans k2, hp3⟩ (fun i σ H' _ ⟨_, _, _, _, _, _, _, _, _, _, e'⟩ => sqt_of e') ?_ ?_
                · rintro i z σ H2 hz ⟨ys, x3, x4, x5, rfl, hq2, hP2, hne, hlen, k2, hp3⟩
                  have hi : i < m := by
                    have := (List.getElem?_eq_some_iff.mp hz).1
                    simpa using this
                  have ez : z = V.int ((i : Int) + 1) := by
                    rw [List.map_map, List.getElem?_map, List.getElem?_range hi] at hz
                    exact (Option.some.inj hz).symm
                  subst ez
                  have hir : i < r.length := by omega
                  have ex : r[i]? = some r[i] := List.getElem?_eq_getElem hir
                  obtain ⟨vz, ev, ax⟩ := hr0.of_at ex
                  generalize hX : r[i] = x at ex ax
                  have hmem := List.mem_of_getElem? ex
                  have hxt : isTerm x = true := List.all_eq_true.mp hpp x (List.mem_of_getElem? (i := i) (by rw [List.getElem?_take, if_pos hi]; exact ex))
                  have hxw := wd_get ex
                  have hxd := dep_mem hmem
                  have hix : (V.str wd0 :: vs)[i + 1]? = some vz := ev
                  have hat : atI (V.str wd0 :: vs) ((i : Int) + 1) = some vz := by
                    have := atI_nat (j := i + 1) hix
                    rw [show (((i + 1 : Nat) : Int)) = (i : Int) + 1 by omega] at this
                    exact this
                  refine ⟨_, rfl, .inl ⟨rfl, _, sql_of hq2⟩, _, rfl, _, rfl, a, _, _, vz, rfl, rfl, sqt_of (k2.tup _ _ e00), hat, _, rfl, _, rfl, by show 1 ≤ sizeLine; decide, fun p4 np4 => ?_⟩
                  have k4 : Kp [] H2 (upd H2 p4 (.tup [.int ((i : Int) + 1)])) := .new np4
                  refine ⟨p, p4, _, _, rfl, rfl, k4.tup _ _ (k2.tup _ _ hp), upd_same, ?_, fun p5 H5 e5 k5 => ?_⟩
                  · rw [List.length_map]
                    exact Nat.le_trans (show pt.length + 1 ≤ 202 by omega) (by decide)
                  have kH5 := k2.trans (k4.trans k5)
                  have k25 := k4.trans k5
                  have eI : intsV pt ++ [V.int ((i : Int) + 1)] = intsV (pt ++ [i + 1]) := by simp [intsV]
                  rw [eI] at e5
                  have eA : atD root (pt ++ [i + 1]) = some x := by
                    rw [atD_app, ha]
                    exact atD_one (ds := .str wd0 :: r) (i := i + 1) ex
                  refine ⟨vz, x, p5, pt ++ [i + 1], rfl, ax.kp kH5 (by simp) x, hxt, by omega, by omega, e5, eA, ?_, fun q2 zs H6 n6 e6 hz6 hl6 hne6 k6 => ?_⟩
                  · rw [List.length_append]
                    show pt.length + 1 + 2 * x.depth ≤ 200
                    omega
                  have hq5 := k25.at_ _ _ hq2 (by simp)
                  obtain ⟨s1, s2, s3, s4, s5⟩ := step H5 ys zs q2 H6 hq5 (fun y hy => (hP2 y hy).kp k25) hne kH5 n6 e6 hz6 k6
                  have etk : wdAll (r.take (i + 1)) = wdAll (r.take i) + (wd x + 2 + 0) := by
                    rw [List.take_add_one, ex, wd_app]
                    rfl
                  have hle : wdAll (r.take i) ≤ wdAll r := by
                    have := wd_app (r.drop i) (r.take i)
                    rw [List.take_append_drop] at this
                    omega
                  have kq : Kp [q] H6 (upd H6 q (.lst (ys ++ zs))) := .put (by simp) s1 (fun _ z => by cases z)
                  refine ⟨q, q2, ys, zs, rfl, rfl, s1, e6, Nat.le_trans (show ys.length + zs.length ≤ 50000 by omega) (by decide), ys ++ zs, _, _, _, rfl, s2, s3, s4, ?_, s5, kq.tup _ _ (k6.tup _ _ (k25.tup _ _ hp3))⟩
                  rw [List.length_append, etk]
                  omega
                · rintro σ H2 ⟨ys, x3, x4, x5, rfl, hq2, hP2, hne, hlen, k2, hp3⟩
                  have hle : wdAll (r.take ((((List.range m).map fun (i : Nat) => (i : Int) + 1).map V.int).length)) ≤ wdAll r := by
                    have := wd_app (r.drop ((((List.range m).map fun (i : Nat) => (i : Int) + 1).map V.int).length)) (r.take ((((List.range m).map fun (i : Nat) => (i : Int) + 1).map V.int).length))
                    rw [List.take_append_drop] at this
                    omega
                  exact ⟨_, rfl, k q ys H2 nq hq2 hP2 (by omega) hne k2⟩
              · refine ⟨_, rfl, k q _ H1 nq eq1 hP0 (by show 1 ≤ _; omega) (by simp) k1⟩
      · cases hh
end
end Ey
set_option maxHeartbeats 4000000
namespace Ey
open PySem PySem.Spec L2
theorem fun_parts {d : PyData} (h : isFunction d = true) : ∃ c0 c1 c2 c3 c4, d = .tuple [c0, c1, c2, c3, c4] ∧ isThe kFun c0 = true ∧ isNameD c1 = true ∧ isKindD c2 = true ∧ areNames c3 = true ∧ isTerm c4 = true := by
  unfold isFunction at h
  split at h
  · rename_i c0 c1 c2 c3 c4
    simp only [Bool.and_eq_true] at h
    exact ⟨c0, c1, c2, c3, c4, rfl, h.1, h.2.1, h.2.2.1, h.2.2.2.1, h.2.2.2.2⟩
  · cases h
theorem map_some {α β : Type} {f : α → β} {xs : List α} {i : Nat} {y : β} (h : (xs.map f)[i]? = some y) : ∃ x, xs[i]? = some x ∧ f x = y := by
  rw [List.getElem?_map] at h
  cases e : xs[i]? with
  | none =>
    rw [e] at h
    cases h
  | some x =>
    rw [e] at h
    exact ⟨x, rfl, Option.some.inj h⟩
section
variable {Pr : Program} {w : World} {K : PySem.W.Frag} {mg : Str → Option Value} {base : Heap} {A : Nat → Addr} {D : Nat → FuncData}
theorem scPaths : FnScope ["_law_script", "_law_found", "_law_i", "_law_function"] ["_law_script"] (defScope sPaths) := ⟨rfl, rfl, rfl, by decide +kernel, rfl, by decide +kernel, by decide +kernel⟩
def spPaths (ms : List Addr) : Sp := fun vs H Q _ => ∃ (v : V) (ds : List PyData), vs = [v] ∧ An ms H v (.tuple ds) ∧ ds.all isFunction = true ∧ (∀ f ∈ ds, wd f ≤ 20000) ∧ wdAll ds ≤ 200000 ∧ PyData.depthAll ds ≤ 60 ∧
  ∀ (q : Addr) (ys : List V) (H' : Hp), H q = none → H' q = some (.lst ys) → (∀ y ∈ ys, PathAt (.tuple ds) H' y) → ys.length ≤ wdAll ds → Kp [] H H' → Q (.ref q) H'
theorem ok_paths {ms : List Addr} (L : LP K mg A D) : FnOk Pr w K mg base CX0 70 (A 37) (D 37) ["_law_script"] (spPaths ms) := by
  have Bt := L.B
  refine L.paths.F.ok scPaths (fun vs H Q E h => ?_) (fun cdv Ar outer s H vs Q E hr h => ?_)
  · obtain ⟨v, ds, rfl, _⟩ := h
    rfl
  · obtain ⟨v, ds, rfl, hv, hall, hws, hw, hd, k⟩ := h
    refine ⟨_, pss_cons (ps_set (i := 1) scPaths.nd rfl (.inl rfl) (pe_lst pa_nil))
      (pss_cons (ps_for PassesOwn.never rfl (pi_enumT (by rfl) Bt.enum (pa_cons (pv 0) pa_nil)) (pg_tup (n := 2) rfl (pgs_cons (pg_name (i := 2) scPaths.nd rfl (.inl rfl)) (pgs_cons (pg_name (i := 3) scPaths.nd rfl (.inl rfl)) pgs_nil)))
            (pss_one (ps_expr (pe_bm PySem.F.plainAttrs_list PySem.F.slot_list_extend PySem.F.type_list_extend mt_extend (pv 1)
              (pa_cons (pe_call (ok_tpaths (ms := ms) (root := .tuple ds) L 67) hr (by rfl) L.tpaths.g L.tpaths.F.kp L.tpaths.b .nil pass0 (pa_cons (pe_ix ix_tup (pv 3) pe_int (fun _ _ => rfl)) (pa_cons (pe_tup (pa_cons (pv 2) (pa_cons pe_int pa_nil))) pa_nil))) pa_nil)))))
        (pss_one (ps_ret (pv 1)))), ?_⟩
    refine ⟨Nat.zero_le _, fun q nq => ?_⟩
    have k1 : Kp [] H (upd H q (.lst [])) := .new nq
    have eq1 : (upd H q (.lst [])) q = some (.lst []) := upd_same
    generalize upd H q (.lst []) = H1 at k1 eq1
    have hv1 := hv
    cases hv with
    | @tup a xs _ e hes =>
      have ln := hes.length
      refine ⟨_, rfl, a, xs, rfl, sqt_of (k1.tup _ _ e), ?_⟩
      refine for_enumT (xs := xs) (fun i σ H' => ∃ (ys : List V) (x2 x3 : Option V), σ = [some (.ref a), some (.ref q), x2, x3] ∧ H' q = some (.lst ys) ∧ (∀ y ∈ ys, PathAt (.tuple ds) H' y) ∧ ys.length ≤ wdAll (ds.take i) ∧ Kp [] H H')
        ⟨_, _, _, rfl, eq1, by simp, Nat.le_refl _, k1⟩ (fun i σ H' _ ⟨_, _, _, _, _, _, _, k'⟩ => sqt_of (k'.tup _ _ e)) ?_ ?_
      · rintro i z σ H2 T hz nT ⟨ys, x2, x3, rfl, hq2, hP2, hlen, k2⟩
        obtain ⟨x, ex, ax⟩ := hes.get hz
        have hmem := List.mem_of_getElem? ex
        obtain ⟨c0, c1, c2, c3, c4, rfl, _, _, _, _, ht⟩ := fun_parts (List.all_eq_true.mp hall x hmem)
        have hxw := wd_get ex
        have hxd := dep_mem hmem
        have hxs := hws _ hmem
        have w4 : wd (PyData.tuple [c0, c1, c2, c3, c4]) = wd c0 + 2 + (wd c1 + 2 + (wd c2 + 2 + (wd c3 + 2 + (wd c4 + 2 + 0)))) + 3 := rfl
        have d4 : (PyData.tuple [c0, c1, c2, c3, c4]).depth = max c0.depth (max c1.depth (max c2.depth (max c3.depth (max c4.depth 0)))) + 1 := rfl
        refine ⟨T, _, rfl, sqt_of upd_same, rfl, _, _, rfl, _, _, rfl, rfl, ?_⟩
        have kT : Kp [] H2 (upd H2 T (.tup [.int (i : Nat), z])) := .new nT
        have hq3 := kT.at_ _ _ hq2 (by simp)
        generalize upd H2 T (.tup [.int (i : Nat), z]) = H3 at kT hq3
        have k3 := k2.trans kT
        cases ax with
        | @tup f fs _ ef hfs =>
          match fs, hfs, ef with
          | [v0, v1, v2, v3, v4], .cons _ (.cons _ (.cons _ (.cons _ (.cons a4 .nil)))), ef =>
            refine ⟨_, rfl, .inl ⟨rfl, _, sql_of hq3⟩, _, rfl, f, _, _, _, rfl, rfl, sqt_of (k3.tup _ _ ef), atI_nat (j := 4) rfl, _, rfl, by show 2 ≤ sizeLine; decide, fun p4 np4 => ?_⟩
            have k4 : Kp [] H3 (upd H3 p4 (.tup [.int (i : Nat), .int 4])) := .new np4
            have e4 : (upd H3 p4 (.tup [.int (i : Nat), .int 4])) p4 = some (.tup (intsV [i, 4])) := upd_same
            generalize upd H3 p4 (.tup [.int (i : Nat), .int 4]) = H4 at k4 e4
            have kH4 := k3.trans k4
            have k24 := kT.trans k4
            have eA : atD (.tuple ds) [i, 4] = some c4 := by
              show atD (.tuple ds) ([i] ++ [4]) = some c4
              rw [atD_app, atD_one ex]
              exact atD_one (ds := [c0, c1, c2, c3, c4]) (i := 4) (x := c4) rfl
            refine ⟨v4, c4, p4, [i, 4], rfl, a4.kp kH4 (by simp) c4, ht, by omega, by omega, e4, eA, ?_, fun q2 zs H6 n6 e6 hz6 hl6 hne6 k6 => ?_⟩
            · show 2 + 2 * c4.depth ≤ 200
              omega
            have hq4 := k24.at_ _ _ hq2 (by simp)
            have hq6 := k6.at_ _ _ hq4 (by simp)
            have etk : wdAll (ds.take (i + 1)) = wdAll (ds.take i) + (wd (PyData.tuple [c0, c1, c2, c3, c4]) + 2 + 0) := by
              rw [List.take_add_one, ex, wd_app]
              rfl
            have hle : wdAll (ds.take i) ≤ wdAll ds := by
              have := wd_app (ds.drop i) (ds.take i)
              rw [List.take_append_drop] at this
              omega
            have kq : Kp [q] H6 (upd H6 q (.lst (ys ++ zs))) := .put (by simp) hq6 (fun _ z => by cases z)
            refine ⟨q, q2, ys, zs, rfl, rfl, hq6, e6, Nat.le_trans (show ys.length + zs.length ≤ 300000 by omega) (by decide), ys ++ zs, _, _, rfl, upd_same, fun y hy => ?_, ?_, (kH4.trans k6).own nq⟩
            · rcases List.mem_append.mp hy with hy | hy
              · exact ((hP2 y hy).kp (k24.trans k6)).kp kq
              · exact (hz6 y hy).kp kq
            · rw [List.length_append, etk]
              omega
      · rintro σ H2 ⟨ys, x2, x3, rfl, hq2, hP2, hlen, k2⟩
        rw [ln, List.take_length] at hlen
        exact ⟨_, rfl, k q ys H2 nq hq2 hP2 hlen k2⟩
/-! ### at -/
theorem scAt : FnScope ["_law_thing", "_law_path", "_law_place"] ["_law_thing", "_law_path"] (defScope sAt) := ⟨rfl, rfl, rfl, by decide +kernel, rfl, by decide +kernel, by decide +kernel⟩
def spAt : Sp := fun vs H Q _ => ∃ (ms : List Addr) (v : V) (root : PyData) (p : Addr) (pp : List Nat), vs = [v, .ref p] ∧ An ms H v root ∧ H p = some (.tup (intsV pp)) ∧ (atD root pp).isSome = true ∧
  ∀ (v' : V) (t' : PyData), atD root pp = some t' → An ms H v' t' → Q v' H
theorem ok_at (L : LP K mg A D) : FnOk Pr w K mg base CX0 1 (A 38) (D 38) ["_law_thing", "_law_path"] spAt := by
  refine L.at_.F.ok scAt (fun vs H Q E h => ?_) (fun cdv Ar outer s H vs Q E hr h => ?_)
  · obtain ⟨ms, v, root, p, pp, rfl, _⟩ := h
    rfl
  · obtain ⟨ms, v, root, p, pp, rfl, hv, hp, ha, k⟩ := h
    refine ⟨_, pss_cons (ps_for PassesOwn.never rfl (pi_tup (pv 1)) (pg_name (i := 2) scAt.nd rfl (.inl rfl)) (pss_one (ps_set (i := 0) scAt.nd rfl (.inl rfl) (pe_ix ix_tup (pv 0) (pv 2) (fun _ _ => rfl))))) (pss_one (ps_ret (pv 0))), ?_⟩
    refine ⟨_, rfl, p, rfl, ⟨_, sqt_of hp⟩, ?_⟩
    refine for_tup (xs := intsV pp) (fun i σ H' => ∃ (v' : V) (t' : PyData) (x2 : Option V), σ = [some v', some (.ref p), x2] ∧ H' = H ∧ atD root (pp.take i) = some t' ∧ An ms H v' t')
      ⟨v, root, _, rfl, rfl, by cases root <;> rfl, hv⟩ (fun i σ H' _ ⟨_, _, _, _, e, _⟩ => by rw [e]; exact sqt_of hp) ?_ ?_
    · rintro i z σ H2 hz ⟨v', t', x2, rfl, rfl, e, a⟩
      obtain ⟨j, ej, rfl⟩ := map_some hz
      have et : pp.take (i + 1) = pp.take i ++ [j] := by
        rw [List.take_add_one, ej]
        rfl
      have eA : atD root (pp.take (i + 1)) = atD t' [j] := by
        rw [et, atD_app, e]
        rfl
      have hs : (atD t' [j]).isSome = true := by
        have h2 : pp = pp.take (i + 1) ++ pp.drop (i + 1) := (List.take_append_drop _ _).symm
        rw [h2, atD_app, eA] at ha
        cases h3 : atD t' [j] with
        | none =>
          rw [h3] at ha
          cases ha
        | some _ => rfl
      cases a with
      | @tup b xs ds eb hds =>
        cases ex : ds[j]? with
        | none =>
          have : atD (.tuple ds) [j] = none := by
            show (match ds[j]? with | some x => atD x [] | none => none) = none
            rw [ex]
          rw [this] at hs
          cases hs
        | some x =>
          obtain ⟨vx, evx, ax⟩ := hds.of_at ex
          refine ⟨_, rfl, _, rfl, b, xs, j, vx, rfl, rfl, sqt_of eb, atI_nat evx, vx, x, _, rfl, rfl, ?_, ax⟩
          rw [eA]
          exact atD_one ex
      | non => cases hs
      | bl _ => cases hs
      | int _ => cases hs
      | str _ => cases hs
      | lst _ _ _ => cases hs
      | dct _ _ _ => cases hs
    · rintro σ H2 ⟨v', t', x2, rfl, rfl, e, a⟩
      have el : (intsV pp).length = pp.length := List.length_map _
      rw [el, List.take_length] at e
      exact ⟨_, rfl, k v' t' e a⟩
end
end Ey
set_option maxHeartbeats 4000000
namespace Ey
open PySem PySem.Spec L2
abbrev sDTerm : Stmt := topS 34
def kKnown : Key := .inr "known"
def kChoice : Key := .inr "choice"
theorem kLK : ¬ kLeft = kKnown := by decide +kernel
theorem kLC : ¬ kLeft = kChoice := by decide +kernel
theorem kKC : ¬ kKnown = kChoice := by decide +kernel
def boxD (kn : Addr) (z : Int) (c : Bool) : List (Key × V) := [(kLeft, .int z), (kKnown, .ref kn), (kChoice, .bl c)]
def BoxAt (H : Hp) (b kn : Addr) (z : Int) (c : Bool) : Prop := H b = some (.dK (boxD kn z c))
section
variable {H : Hp} {b kn : Addr} {z : Int} {c : Bool}
theorem box_left : valV (boxD kn z c) kLeft = some (.int z) := valV_pos rfl
theorem box_known : valV (boxD kn z c) kKnown = some (.ref kn) := (valV_neg kLK).trans (valV_pos rfl)
theorem box_choice : valV (boxD kn z c) kChoice = some (.bl c) := (valV_neg kLC).trans ((valV_neg kKC).trans (valV_pos rfl))
theorem get_bleft (h : BoxAt H b kn z c) : DGet H b (kV kLeft) (some (.int z)) := (box_left (kn := kn) (z := z) (c := c)) ▸ DGet.k h
theorem get_bknown (h : BoxAt H b kn z c) : DGet H b (kV kKnown) (some (.ref kn)) := (box_known (kn := kn) (z := z) (c := c)) ▸ DGet.k h
theorem get_bchoice (h : BoxAt H b kn z c) : DGet H b (kV kChoice) (some (.bl c)) := (box_choice (kn := kn) (z := z) (c := c)) ▸ DGet.k h
theorem put_bleft (y : Int) : putK (boxD kn z c) kLeft (.int y) = boxD kn y c := by
  unfold putK
  rw [if_pos (by rw [valV_any, box_left]; rfl)]
  have e1 : ¬ kKnown = kLeft := fun h => kLK h.symm
  have e2 : ¬ kChoice = kLeft := fun h => kLC h.symm
  simp [boxD, e1, e2]
theorem set_bleft (h : BoxAt H b kn z c) (y : Int) : DPut H b (kV kLeft) (.int y) (upd H b (.dK (boxD kn y c))) := put_bleft (kn := kn) (z := z) (c := c) y ▸ DPut.k h (small1000 (show 3 ≤ 1000 by decide))
end
/-- a head of a function, as drawn -/
def HeadAt (H : Hp) (h : V) : Prop := ∃ (r : Addr) (f k : Str) (m : Nat), h = .ref r ∧ H r = some (.tup [.str f, .str k, .int m]) ∧ isName f = true ∧ m ≤ 3
theorem HeadAt.kp {ms : List Addr} {H H1 : Hp} {h : V} (a : HeadAt H h) (k : Kp ms H H1) : HeadAt H1 h :=
  let ⟨r, f, kd, m, e, q, i, j⟩ := a
  ⟨r, f, kd, m, e, k.tup _ _ q, i, j⟩
structure TC (d l b kn : Addr) (z : Int) (c : Bool) (hs : List V) (H : Hp) : Prop where
  dk : DeckAt H d l
  bx : BoxAt H b kn z c
  kl : H kn = some (.lst hs)
  nkl : kn ≠ l
  heads : ∀ h ∈ hs, HeadAt H h
  hlen : hs.length ≤ 100
section
variable {d l b kn : Addr} {z : Int} {c : Bool} {hs : List V} {H H1 : Hp}
theorem TC.bd (T : TC d l b kn z c hs H) : b ≠ d := by
  obtain ⟨m, k, ns, h1, h2, _⟩ := T.dk.ex
  exact ne_of T.bx h1 (by intro z; injection z with z; injection z with z _; injection z with _ z; cases z)
theorem TC.bl (T : TC d l b kn z c hs H) : b ≠ l := by
  obtain ⟨m, k, ns, h1, h2, _⟩ := T.dk.ex
  exact ne_of T.bx h2 (by intro z; cases z)
theorem TC.kd (T : TC d l b kn z c hs H) : kn ≠ d := by
  obtain ⟨m, k, ns, h1, h2, _⟩ := T.dk.ex
  exact ne_of T.kl h1 (by intro z; cases z)
theorem TC.kb (T : TC d l b kn z c hs H) : kn ≠ b := ne_of T.kl T.bx (by intro z; cases z)
theorem TC.go (T : TC d l b kn z c hs H) (k : Kp [d, l] H H1) (D : DeckAt H1 d l) : TC d l b kn z c hs H1 :=
  ⟨D, k.at_ _ _ T.bx (by simp [T.bd, T.bl]), k.at_ _ _ T.kl (by simp [T.kd, T.nkl]), T.nkl, fun h hh => (T.heads h hh).kp k, T.hlen⟩
theorem TC.kp0 (T : TC d l b kn z c hs H) (k : Kp [] H H1) : TC d l b kn z c hs H1 :=
  ⟨T.dk.kp k (by simp) (by simp), k.at_ _ _ T.bx (by simp), k.at_ _ _ T.kl (by simp), T.nkl, fun h hh => (T.heads h hh).kp k, T.hlen⟩
theorem TC.new (T : TC d l b kn z c hs H) {p : Addr} {o : HO} (n : H p = none) : TC d l b kn z c hs (upd H p o) := T.kp0 (.new n)
theorem TC.ne (T : TC d l b kn z c hs H) {p : Addr} (n : H p = none) : p ≠ d ∧ p ≠ l ∧ p ≠ b ∧ p ≠ kn := by
  obtain ⟨m, k, ns, h1, h2, _⟩ := T.dk.ex
  exact ⟨(ne_of_none h1 n).symm, (ne_of_none h2 n).symm, (ne_of_none T.bx n).symm, (ne_of_none T.kl n).symm⟩
theorem TC.left (T : TC d l b kn z c hs H) (y : Int) : TC d l b kn y c hs (upd H b (.dK (boxD kn y c))) ∧ Kp [d, l, b] H (upd H b (.dK (boxD kn y c))) := by
  have k : Kp [b] H (upd H b (.dK (boxD kn y c))) := .put (by simp) T.bx (fun xs z => by cases z)
  exact ⟨⟨T.dk.kp k (by simp [T.bd.symm]) (by simp [T.bl.symm]), upd_same, k.at_ _ _ T.kl (by simp [T.kb]), T.nkl, fun h hh => (T.heads h hh).kp k, T.hlen⟩, k.more (by simp)⟩
end
/-- data without lists, whatever is not data -/
def AnT (H : Hp) (v : V) (t : PyData) : Prop := ∀ ms, An ms H v t
def AnTs (H : Hp) (vs : List V) (ts : List PyData) : Prop := ∀ ms, AnAll ms H vs ts
theorem AnT.kp {ms : List Addr} {H H1 : Hp} {v : V} {t : PyData} (h : AnT H v t) (k : Kp ms H H1) : AnT H1 v t := fun m => ((h (ms ++ m)).kp k (fun x hx => List.mem_append_left _ hx) t).mono (fun x hx => List.mem_append_right _ hx) t
theorem AnTs.kp {ms : List Addr} {H H1 : Hp} {vs : List V} {ts : List PyData} (h : AnTs H vs ts) (k : Kp ms H H1) : AnTs H1 vs ts := fun m => ((h (ms ++ m)).kp k (fun x hx => List.mem_append_left _ hx) ts).mono (fun x hx => List.mem_append_right _ hx) ts
theorem dep_all {n : Nat} : ∀ {ds : List PyData}, (∀ x ∈ ds, x.depth ≤ n) → PyData.depthAll ds ≤ n
  | [], _ => Nat.zero_le _
  | y :: r, h => by
    have h1 := h y (by simp)
    have h2 := dep_all fun x hx => h x (List.mem_cons_of_mem _ hx)
    show max y.depth (PyData.depthAll r) ≤ n
    omega
/-- what is told of a drawn term -/
structure TermOk (deep : Nat) (z z' : Int) (t : PyData) : Prop where
  is : isTerm t = true
  f : fitJ 1 t = true
  d : t.depth ≤ 2 * deep + 1
  w : (wd t : Int) ≤ 280 * (z - z')
theorem term_plain {w : Str} {n : Nat} {r : List PyData} (hw : arity w = some n) : isTerm (.tuple (.str w :: r)) = (decide (r.length = n) && r.all isTerm) := by
  have n1 : ¬ w = kName := fun e => by
    rw [e, show arity kName = none by decide +kernel] at hw
    cases hw
  have n2 : ¬ w = kHas := fun e => by
    rw [e, show arity kHas = none by decide +kernel] at hw
    cases hw
  have n3 : ¬ w = kCall := fun e => by
    rw [e, show arity kCall = none by decide +kernel] at hw
    cases hw
  have e : isTerm (.tuple (.str w :: r)) = (headedR w r && (partsR w r).all isTerm) := isTerm_eq _
  rw [e, headedR, partsR, if_neg n1, if_neg n1, if_neg n2, if_neg n2, if_neg n3, if_neg n3, hw]
  rfl
theorem term_name (g : Str) : isTerm (.tuple [.str kName, .str g]) = isName g := by
  have e : isTerm (.tuple [.str kName, .str g]) = (isName g && true) := isTerm_eq _
  rw [e, Bool.and_true]
theorem term_has (t : PyData) (g : Str) : isTerm (.tuple [.str kHas, t, .str g]) = (isTag g && (isTerm t && true)) := isTerm_eq _
theorem term_call (f : Str) (es : List PyData) : isTerm (.tuple [.str kCall, .str f, .tuple es]) = ((isName f && true) && es.all isTerm) := isTerm_eq _
theorem node_ok {deep : Nat} {w : Str} {ts : List PyData} (hw : arity w = some ts.length) (hf : fitJ 1 (.str w) = true) (hd : 1 ≤ deep) (h : ∀ t ∈ ts, isTerm t = true ∧ fitJ 1 t = true ∧ t.depth ≤ 2 * (deep - 1) + 1) :
    isTerm (.tuple (.str w :: ts)) = true ∧ fitJAll 1 (.str w :: ts) = true ∧ PyData.depthAll (.str w :: ts) ≤ 2 * deep := by
  refine ⟨?_, ?_, ?_⟩
  · rw [term_plain hw, decide_eq_true rfl, Bool.true_and, List.all_eq_true]
    exact fun t ht => (h t ht).1
  · show (fitJ 1 (.str w) && fitJAll 1 ts) = true
    rw [hf, fitJ_all fun t ht => (h t ht).2.1]
    rfl
  · have := dep_all fun t ht => (h t ht).2.2
    show max 0 (PyData.depthAll ts) ≤ _
    omega
theorem low_str {g : Str} (h : (g.cps.toList.all fun c => decide (c < 1000)) = true) : fitJ 1 (.str g) = true := h
theorem name_low {g : Str} (h : isName g = true) : fitJ 1 (.str g) = true ∧ wd (.str g) ≤ 202 := by
  unfold isName at h
  simp only [Bool.and_eq_true, decide_eq_true_eq] at h
  refine ⟨List.all_eq_true.mpr fun c hc => decide_eq_true ?_, ?_⟩
  · have := List.all_eq_true.mp h.2.2.2.2 c hc
    have h2 : c ∈ nsL := of_decide_eq_true this
    exact (by decide +kernel : ∀ c ∈ nsL, c < 1000) c h2
  · show 10 * g.length + 2 ≤ 202
    omega
theorem tag_low2 {g : Str} (h : isTag g = true) : fitJ 1 (.str g) = true ∧ wd (.str g) ≤ 82 := by
  refine ⟨List.all_eq_true.mpr fun c hc => decide_eq_true (tag_low h c hc), ?_⟩
  have := tag_len h
  show 10 * g.length + 2 ≤ 82
  omega
section
variable {Pr : Program} {w : World} {K : PySem.W.Frag} {mg : Str → Option Value} {base : Heap} {A : Nat → Addr} {D : Nat → FuncData}
/-- a choice out of a tuple -/
def spPickT (K : PySem.W.Frag) : Sp := fun vs H Q _ => ∃ (d l a : Addr) (xs : List V), vs = [.ref d, .ref a] ∧ DeckAt H d l ∧ H a = some (.tup xs) ∧ xs ≠ [] ∧ xs.length ≤ 1000000 ∧
  ∀ (x : V) (H' : Hp), x ∈ xs → DeckAt H' d l → Kp [d, l] H H' → Q x H'
theorem ok_pickT (L : LP K mg A D) : FnOk Pr w K mg base CX0 2 (A 20) (D 20) ["_law_deck_here", "_law_some"] (spPickT K) := by
  refine L.pick.F.ok scPick (fun vs H Q E h => ?_) (fun cdv A outer s H vs Q E hr h => ?_)
  · obtain ⟨d, l, a, xs, rfl, _⟩ := h
    rfl
  · obtain ⟨d, l, a, xs, rfl, DA, hS, hne, hlen, k⟩ := h
    refine ⟨_, pss_one (ps_ret (pe_ix ix_tup (pv 1) (pe_call (ok_draw L.draw.F L.B) hr (by rfl) L.draw.g L.draw.F.kp L.draw.b .nil pass0 (pa_cons (pv 0) (pa_cons (pe_callB call_len_seq (by rfl) L.B.len PySem.boot_len (pa_cons (pv 1) pa_nil)) pa_nil))) (fun _ _ => rfl))), ?_⟩
    have hpos : 0 < xs.length := List.length_pos_iff.mpr hne
    refine ⟨_, rfl, _, rfl, _, rfl, a, xs, rfl, .inr (sqt_of hS), d, l, _, rfl, DA, by omega, by omega, fun r H' r0 r1 D' kp => ?_⟩
    obtain ⟨i, rfl⟩ : ∃ i : Nat, r = (i : Int) := ⟨r.toNat, by omega⟩
    have hi : i < xs.length := by omega
    refine ⟨a, xs, _, xs[i], rfl, rfl, sqt_of (kp.tup _ _ hS), ?_, ?_⟩
    · exact atI_nat (List.getElem?_eq_getElem hi)
    · exact k _ H' (List.getElem_mem hi) D' kp
structure LD (K : PySem.W.Frag) (mg : Str → Option Value) (A : Nat → Addr) (D : Nat → FuncData) : Prop extends LP K mg A D where
  dterm : Df K mg "_law_drawn_term" sDTerm ["_law_deck_here", "_law_box", "_law_kind", "_law_names", "_law_deep"] (A 34) (D 34)
abbrev ND : List Str := ["_law_deck_here", "_law_box", "_law_kind", "_law_names", "_law_deep", "_law_calls", "_law_way", "_law_near", "_law_called", "_law_it", "_law_turn"]
abbrev PD : List Str := ["_law_deck_here", "_law_box", "_law_kind", "_law_names", "_law_deep"]
theorem scDTerm : FnScope ND PD (defScope sDTerm) := ⟨rfl, rfl, rfl, by decide +kernel, rfl, by decide +kernel, by decide +kernel⟩
def spTerm (n : Nat) : Sp := fun vs H Q _ => ∃ (d l b kn : Addr) (z : Int) (c : Bool) (hs : List V) (kd : Str) (nt : Addr) (ns : List Str) (deep : Nat), vs = [.ref d, .ref b, .str kd, .ref nt, .int deep] ∧ deep < n ∧ TC d l b kn z c hs H ∧
  H nt = some (.tup (ns.map V.str)) ∧ (∀ g ∈ ns, isName g = true) ∧ ns.length ≤ 10 ∧
  ∀ (v : V) (t : PyData) (z' : Int) (H' : Hp), AnT H' v t → TermOk deep z z' t → z' ≤ z - 1 → (z - 1 ≤ z' ∨ 2 - 2 * z ≤ z') → TC d l b kn z' c hs H' → Kp [d, l, b] H H' → Q v H'
theorem ok_dterm (L : LD K mg A D) : ∀ n : Nat, FnOk Pr w K mg base CX0 (n + 3) (A 34) (D 34) PD (spTerm n)
  | 0 => by
    refine L.dterm.F.ok scDTerm (fun vs H Q E h => ?_) (fun cdv Ar outer s H vs Q E hr h => ?_)
    · obtain ⟨d, l, b, kn, z, c, hs, kd, nt, ns, deep, rfl, _⟩ := h
      rfl
    · obtain ⟨d, l, b, kn, z, c, hs, kd, nt, ns, deep, rfl, hd, _⟩ := h
      exact absurd hd (Nat.not_lt_zero _)
  | n + 1 => by
    have ih := ok_dterm L n
    have Bt := L.B
    have LT := L.dterm
    refine L.dterm.F.ok scDTerm (fun vs H Q E h => ?_) (fun cdv Ar outer s H vs Q E hr h => ?_)
    · obtain ⟨d, l, b, kn, z, c, hs, kd, nt, ns, deep, rfl, _⟩ := h
      rfl
    · obtain ⟨d, l, b, kn, z, c, hs, kd, nt, ns, deep, rfl, hdn, T0, hnt, hns, hnl, k⟩ := h
      have hu := hu_of hr
      have hr2 := hr.mono (show 2 ≤ n + 3 by omega)
      have hr1 := hr.mono (show 1 ≤ n + 3 by omega)
      have self : ∀ (z1 : Int) (H1 : Hp) (kd1 : Str) (Q1 : VK), 1 ≤ deep → TC d l b kn z1 c hs H1 → Kp [d, l, b] H H1 → (∀ (v : V) (t : PyData) (z2 : Int) (H2 : Hp), AnT H2 v t → TermOk (deep - 1) z1 z2 t → z2 ≤ z1 - 1 → (z1 - 1 ≤ z2 ∨ 2 - 2 * z1 ≤ z2) → TC d l b kn z2 c hs H2 → Kp [d, l, b] H1 H2 → Q1 v H2) →
          spTerm n [.ref d, .ref b, .str kd1, .ref nt, .int ((deep : Int) - 1)] H1 Q1 E0 := fun z1 H1 kd1 Q1 hd1 T1 k1 q =>
        ⟨d, l, b, kn, z1, c, hs, kd1, nt, ns, deep - 1, by rw [show (deep : Int) - 1 = ((deep - 1 : Nat) : Int) by omega], by omega, T1, k1.tup _ _ hnt, hns, hnl, q⟩
      have fin : ∀ (z' : Int) (H4 : Hp) (xs : List V) (ds : List PyData) (q : Addr), TC d l b kn z' c hs H4 → Kp [d, l, b] H H4 → AnTs H4 xs ds → H4 q = none → isTerm (.tuple ds) = true → fitJAll 1 ds = true → PyData.depthAll ds ≤ 2 * deep → ((wdAll ds + 3 : Nat) : Int) ≤ 280 * (z - z') → z' ≤ z - 1 → (z - 1 ≤ z' ∨ 2 - 2 * z ≤ z') → Q (.ref q) (upd H4 q (.tup xs)) := fun z' H4 xs ds q T4 k4 ax nq h1 h2 h3 h4 h5 h6 =>
        k _ (.tuple ds) z' _ (fun ms => .tup upd_same (ax.kp (Kp.new (ms := []) nq) ms)) ⟨h1, h2, Nat.succ_le_succ h3, h4⟩ h5 h6 (T4.new nq) (k4.trans (.new nq))
      -- a leaf
      obtain ⟨tL, dL, rL⟩ : ∃ tt, PSs (cxOf CX0 Pr w K mg base ND "_law_drawn_term" (defScope sDTerm) (A 34) cdv Ar outer s H E).nox (ib ((defBody sDTerm).getD 2 noSt)) tt ∧
          ∀ (De : Ends) (H3 : Hp) (x5 x6 x7 x8 x9 x10 : Option V), De.rt = Q → TC d l b kn (z - 1) c hs H3 → Kp [d, l, b] H H3 → tt De [some (.ref d), some (.ref b), some (.str kd), some (.ref nt), some (.int deep), x5, x6, x7, x8, x9, x10] H3 := by
        refine ⟨_, (pss_cons (ps_if (pt_cmpR op_eq (pv 2) pe_str (nomark _)) (pss_one (ps_ret (pe_tup (pa_cons (pe_call (ok_pick L.pick.F Bt L.draw) hr2 (by rfl) L.pick.g L.pick.F.kp L.pick.b .nil pass0 (pa_cons (pv 0) (pa_cons (pe_lst (pa_cons pe_str (pa_cons pe_str pa_nil))) pa_nil))) pa_nil)))) pss_nil) (pss_one (ps_ret (pe_ifExp (PW.pt (pw_and (pt_cmpR (op_neE hr.units) (pv 3) (pe_tup pa_nil) (nomark _)) (pw_and1 (pt_cmpR op_gt (pe_call (ok_draw L.draw.F Bt) hr1 (by rfl) L.draw.g L.draw.F.kp L.draw.b .nil pass0 (pa_cons (pv 0) (pa_cons pe_int pa_nil))) pe_int (nomark _))))) (pe_tup (pa_cons pe_str (pa_cons (pe_call (ok_pickT L.toLP) hr2 (by rfl) L.pick.g L.pick.F.kp L.pick.b .nil pass0 (pa_cons (pv 0) (pa_cons (pv 3) pa_nil))) pa_nil))) (pe_tup (pa_cons pe_str pa_nil)))))), ?_⟩
        intro De H3 x5 x6 x7 x8 x9 x10 eD T3 k3
        subst eD
        refine ⟨_, rfl, rfl, _, rfl, ite2 (fun _ => ?_) (fun _ => ?_)⟩
        · refine ⟨_, rfl, by show 2 ≤ sizeLine; decide, fun p np => ?_⟩
          have T4 := T3.new (o := .lst [.str "yes", .str "no"]) np
          have n4 := T3.ne np
          refine ⟨d, l, p, _, rfl, T4.dk, sql_of upd_same, by simp, by show 2 ≤ 1000000; decide, n4.1, n4.2.1, fun x H5 hx D5 k5 => ?_⟩
          obtain ⟨g, hg, rfl⟩ : ∃ g, g ∈ ["yes", "no"] ∧ x = V.str (Str.ofString g) := by
            simp only [List.mem_cons, List.not_mem_nil, or_false] at hx
            rcases hx with rfl | rfl
            · exact ⟨"yes", by simp, rfl⟩
            · exact ⟨"no", by simp, rfl⟩
          obtain ⟨ea, ef, ew⟩ := (by decide +kernel : ∀ g ∈ ["yes", "no"], arity (Str.ofString g) = some 0 ∧ fitJ 1 (.str (Str.ofString g)) = true ∧ wd (.str (Str.ofString g)) ≤ 100) g hg
          refine ⟨by show 1 ≤ sizeLine; decide, fun q nq => ?_⟩
          refine fin (z - 1) H5 _ [.str (Str.ofString g)] q (T4.go k5 D5) (k3.trans ((Kp.new np).trans (k5.more (by simp)))) (fun _ => .cons (.str _) .nil) nq ?_ ?_ (Nat.zero_le _) ?_ (by omega) (.inl (by omega))
          · rw [term_plain ea]
            rfl
          · show (fitJ 1 (.str (Str.ofString g)) && true) = true
            rw [ef]
            rfl
          · show ((wd (.str (Str.ofString g)) + 2 + 0 + 3 : Nat) : Int) ≤ _
            omega
        · have top : ∀ H5 : Hp, TC d l b kn (z - 1) c hs H5 → Kp [d, l, b] H H5 → ∀ q, H5 q = none → De.rt (.ref q) (upd H5 q (.tup [.str "top"])) := fun H5 T5 k5 q nq => by
            refine fin (z - 1) H5 _ [.str "top"] q T5 k5 (fun _ => .cons (.str _) .nil) nq (by decide +kernel) (by decide +kernel) (Nat.zero_le _) ?_ (by omega) (.inl (by omega))
            have : wdAll [.str "top"] = 34 := by decide +kernel
            rw [this]
            omega
          refine ⟨_, rfl, Nat.zero_le _, fun p np => ?_⟩
          have kp : Kp [] H3 (upd H3 p (.tup [])) := .new np
          have T4 := T3.new (o := .tup []) np
          have ep : (upd H3 p (.tup [])) p = some (.tup []) := upd_same
          have k4 : Kp [d, l, b] H (upd H3 p (.tup [])) := k3.trans (.new np)
          generalize upd H3 p (.tup []) = H4 at T4 ep k4
          have hn4 := k4.tup _ _ hnt
          refine ⟨nt, p, _, rfl, rfl, hn4, ep, _, rfl, ?_⟩
          cases hne : (ns.map V.str).isEmpty with
          | true =>
            refine iteF (iteF ?_)
            exact ⟨by show 1 ≤ sizeLine; decide, fun q nq => top H4 T4 k4 q nq⟩
          | false =>
            refine iteT ?_
            refine ⟨_, rfl, d, l, 4, rfl, T4.dk, by decide, by decide, fun r H5 r0 r1 D5 k5 => ⟨_, _, rfl, rfl, _, rfl, ite2 (fun _ => ?_) (fun _ => ?_)⟩⟩
            · have T5 := T4.go k5 D5
              have k5' : Kp [d, l, b] H H5 := k4.trans (k5.more (by simp))
              refine ⟨_, rfl, _, rfl, d, l, nt, _, rfl, T5.dk, k5'.tup _ _ hnt, (by intro z; rw [z] at hne; cases hne), by rw [List.length_map]; omega, fun x H6 hx D6 k6 => ?_⟩
              obtain ⟨g, hg, rfl⟩ := List.mem_map.mp hx
              have hgn := hns g hg
              obtain ⟨ef, ew⟩ := name_low hgn
              refine ⟨by show 2 ≤ sizeLine; decide, fun q nq => ?_⟩
              refine fin (z - 1) H6 _ [.str kName, .str g] q (T5.go k6 D6) (k5'.trans (k6.more (by simp))) (fun _ => .cons (.str _) (.cons (.str _) .nil)) nq (by rw [term_name, hgn]) ?_ (Nat.zero_le _) ?_ (by omega) (.inl (by omega))
              · show (fitJ 1 (.str kName) && (fitJ 1 (.str g) && true)) = true
                rw [ef, show fitJ 1 (.str kName) = true by decide +kernel]
                rfl
              · have e4 : wd (.str kName) = 42 := by decide +kernel
                show ((wd (.str kName) + 2 + (wd (.str g) + 2 + 0) + 3 : Nat) : Int) ≤ _
                omega
            · have T5 := T4.go k5 D5
              exact ⟨by show 1 ≤ sizeLine; decide, fun q nq => top H5 T5 (k4.trans (k5.more (by simp))) q nq⟩
      -- a choice, or two ways
      obtain ⟨tN, dN, rN⟩ : ∃ tt, PSs (cxOf CX0 Pr w K mg base ND "_law_drawn_term" (defScope sDTerm) (A 34) cdv Ar outer s H E).nox (ib ((defBody sDTerm).getD 4 noSt)) tt ∧
          ∀ (De : Ends) (H3 : Hp) (wy : Int) (x5 x7 x8 x9 x10 : Option V), De.rt = Q → 1 ≤ deep → 2 ≤ z → TC d l b kn (z - 1) c hs H3 → Kp [d, l, b] H H3 → tt De [some (.ref d), some (.ref b), some (.str kd), some (.ref nt), some (.int deep), x5, some (.int wy), x7, x8, x9, x10] H3 := by
        refine ⟨_, (pss_cons (ps_set (i := 7) scDTerm.nd rfl (.inl rfl) (pe_call ih hr (by rfl) LT.g LT.F.kp LT.b .nil pass0 (pa_cons (pv 0) (pa_cons (pv 1) (pa_cons (pv 2) (pa_cons (pv 3) (pa_cons (pe_op op_sub (pv 4) pe_int) pa_nil))))))) (pss_cons (ps_if (pt_cmpR op_eq (pv 6) pe_int (nomark _)) (pss_one (ps_ret (pe_tup (pa_cons pe_str (pa_cons (pv 7) (pa_cons (pe_call ih hr (by rfl) LT.g LT.F.kp LT.b .nil pass0 (pa_cons (pv 0) (pa_cons (pv 1) (pa_cons (pv 2) (pa_cons (pv 3) (pa_cons (pe_op op_sub (pv 4) pe_int) pa_nil)))))) pa_nil)))))) pss_nil) (pss_one (ps_ret (pe_tup (pa_cons pe_str (pa_cons (pe_call ih hr (by rfl) LT.g LT.F.kp LT.b .nil pass0 (pa_cons (pv 0) (pa_cons (pv 1) (pa_cons pe_str (pa_cons (pv 3) (pa_cons (pe_op op_sub (pv 4) pe_int) pa_nil)))))) (pa_cons (pv 7) (pa_cons (pe_call ih hr (by rfl) LT.g LT.F.kp LT.b .nil pass0 (pa_cons (pv 0) (pa_cons (pv 1) (pa_cons (pv 2) (pa_cons (pv 3) (pa_cons (pe_op op_sub (pv 4) pe_int) pa_nil)))))) pa_nil))))))))), ?_⟩
        intro De H3 wy x5 x7 x8 x9 x10 eD hd1 hz T3 k3
        subst eD
        refine ⟨_, rfl, _, rfl, _, rfl, _, rfl, _, rfl, _, _, rfl, rfl, self (z - 1) H3 kd _ hd1 T3 k3 fun v1 t1 z2 H4 a1 o1 b1 c1 T4 k4 => ?_⟩
        have k4' := k3.trans k4
        have w1 := o1.w
        refine ⟨_, rfl, rfl, _, rfl, ite2 (fun _ => ?_) (fun _ => ?_)⟩
        · refine ⟨_, rfl, _, rfl, _, rfl, _, rfl, _, rfl, _, rfl, _, _, rfl, rfl, self z2 H4 kd _ hd1 T4 k4' fun v2 t2 z3 H5 a2 o2 b2 c2 T5 k5 => ?_⟩
          have w2 := o2.w
          obtain ⟨n1, n2, n3⟩ := node_ok (deep := deep) (w := "either") (ts := [t1, t2]) (show arity _ = some 2 by decide +kernel) (by decide +kernel) hd1 (by
            intro t ht
            simp only [List.mem_cons, List.not_mem_nil, or_false] at ht
            rcases ht with rfl | rfl
            · exact ⟨o1.is, o1.f, o1.d⟩
            · exact ⟨o2.is, o2.f, o2.d⟩)
          refine ⟨by show 3 ≤ sizeLine; decide, fun q nq => ?_⟩
          refine fin z3 H5 _ [.str "either", t1, t2] q T5 (k4'.trans k5) (fun m => .cons (.str _) (.cons (a1.kp k5 m) (.cons (a2 m) .nil))) nq n1 n2 n3 ?_ (by omega) (by omega)
          have e4 : wd (.str "either") = 62 := by decide +kernel
          show ((wd (.str "either") + 2 + (wd t1 + 2 + (wd t2 + 2 + 0)) + 3 : Nat) : Int) ≤ _
          omega
        · refine ⟨_, rfl, _, rfl, _, rfl, _, rfl, _, _, rfl, rfl, self z2 H4 _ _ hd1 T4 k4' fun v2 t2 z3 H5 a2 o2 b2 c2 T5 k5 => ?_⟩
          have k5' := k4'.trans k5
          have w2 := o2.w
          refine ⟨_, rfl, _, rfl, _, rfl, _, rfl, _, rfl, _, rfl, _, _, rfl, rfl, self z3 H5 kd _ hd1 T5 k5' fun v3 t3 z4 H6 a3 o3 b3 c3 T6 k6 => ?_⟩
          have w3 := o3.w
          obtain ⟨n1, n2, n3⟩ := node_ok (deep := deep) (w := "if") (ts := [t2, t1, t3]) (show arity _ = some 3 by decide +kernel) (by decide +kernel) hd1 (by
            intro t ht
            simp only [List.mem_cons, List.not_mem_nil, or_false] at ht
            rcases ht with rfl | rfl | rfl
            · exact ⟨o2.is, o2.f, o2.d⟩
            · exact ⟨o1.is, o1.f, o1.d⟩
            · exact ⟨o3.is, o3.f, o3.d⟩)
          refine ⟨by show 4 ≤ sizeLine; decide, fun q nq => ?_⟩
          refine fin z4 H6 _ [.str "if", t2, t1, t3] q T6 (k5'.trans k6) (fun m => .cons (.str _) (.cons (a2.kp k6 m) (.cons ((a1.kp k5).kp k6 m) (.cons (a3 m) .nil)))) nq n1 n2 n3 ?_ (by omega) (by omega)
          have e4 : wd (.str "if") = 22 := by decide +kernel
          show ((wd (.str "if") + 2 + (wd t2 + 2 + (wd t1 + 2 + (wd t3 + 2 + 0))) + 3 : Nat) : Int) ≤ _
          omega
      -- the plain ways
      obtain ⟨t2', d2, r2⟩ : ∃ tt, PSs (cxOf CX0 Pr w K mg base ND "_law_drawn_term" (defScope sDTerm) (A 34) cdv Ar outer s H E).nox ((defBody sDTerm).drop 6) tt ∧
          ∀ (H3 : Hp) (wy : Int) (x5 x7 x8 x9 x10 : Option V), 1 ≤ deep → 2 ≤ z → TC d l b kn (z - 1) c hs H3 → Kp [d, l, b] H H3 → tt { nx := fun _ H' => Q .non H', rt := Q } [some (.ref d), some (.ref b), some (.str kd), some (.ref nt), some (.int deep), x5, some (.int wy), x7, x8, x9, x10] H3 := by
        refine ⟨_, (pss_cons (ps_if (pt_cmpR op_eq (pv 2) pe_str (nomark _)) (pss_one (ps_ret (pe_tup (pa_cons (pe_call (ok_pick L.pick.F Bt L.draw) hr2 (by rfl) L.pick.g L.pick.F.kp L.pick.b .nil pass0 (pa_cons (pv 0) (pa_cons (pe_lst (pa_cons pe_str (pa_cons pe_str (pa_cons pe_str pa_nil)))) pa_nil))) (pa_cons (pe_call ih hr (by rfl) LT.g LT.F.kp LT.b .nil pass0 (pa_cons (pv 0) (pa_cons (pv 1) (pa_cons (pv 2) (pa_cons (pv 3) (pa_cons (pe_op op_sub (pv 4) pe_int) pa_nil)))))) pa_nil))))) pss_nil) (pss_cons (ps_if (pt_cmpR op_lt (pv 6) pe_int (nomark _)) (pss_one (ps_ret (pe_tup (pa_cons (pe_call (ok_pick L.pick.F Bt L.draw) hr2 (by rfl) L.pick.g L.pick.F.kp L.pick.b .nil pass0 (pa_cons (pv 0) (pa_cons (pe_lst (pa_cons pe_str (pa_cons pe_str pa_nil))) pa_nil))) (pa_cons (pe_call ih hr (by rfl) LT.g LT.F.kp LT.b .nil pass0 (pa_cons (pv 0) (pa_cons (pv 1) (pa_cons (pv 2) (pa_cons (pv 3) (pa_cons (pe_op op_sub (pv 4) pe_int) pa_nil)))))) (pa_cons (pe_call ih hr (by rfl) LT.g LT.F.kp LT.b .nil pass0 (pa_cons (pv 0) (pa_cons (pv 1) (pa_cons (pv 2) (pa_cons (pv 3) (pa_cons (pe_op op_sub (pv 4) pe_int) pa_nil)))))) pa_nil)))))) pss_nil) (pss_cons (ps_if (pt_cmpR op_eq (pv 6) pe_int (nomark _)) (pss_one (ps_ret (pe_tup (pa_cons pe_str (pa_cons (pe_call ih hr (by rfl) LT.g LT.F.kp LT.b .nil pass0 (pa_cons (pv 0) (pa_cons (pv 1) (pa_cons (pv 2) (pa_cons (pv 3) (pa_cons (pe_op op_sub (pv 4) pe_int) pa_nil)))))) pa_nil))))) pss_nil) (pss_cons (ps_set (i := 7) scDTerm.nd rfl (.inl rfl) (pe_call ih hr (by rfl) LT.g LT.F.kp LT.b .nil pass0 (pa_cons (pv 0) (pa_cons (pv 1) (pa_cons pe_str (pa_cons (pv 3) (pa_cons (pe_op op_sub (pv 4) pe_int) pa_nil))))))) (pss_cons (ps_if (pt_cmpR op_eq (pv 6) pe_int (nomark _)) (pss_one (ps_ret (pe_tup (pa_cons pe_str (pa_cons (pv 7) (pa_cons (pe_call (ok_pick L.pick.F Bt L.draw) hr2 (by rfl) L.pick.g L.pick.F.kp L.pick.b .nil pass0 (pa_cons (pv 0) (pa_cons (pe_call0 (ok_tags L.tags.F) hr1 (by rfl) L.tags.g L.tags.F.kp L.tags.b .nil pass0) pa_nil))) pa_nil)))))) pss_nil) (pss_one (ps_ret (pe_ifExp (pt_cmpR op_eq (pv 6) pe_int (nomark _)) (pe_tup (pa_cons pe_str (pa_cons (pv 7) pa_nil))) (pe_tup (pa_cons pe_str (pa_cons (pv 7) (pa_cons (pe_call ih hr (by rfl) LT.g LT.F.kp LT.b .nil pass0 (pa_cons (pv 0) (pa_cons (pv 1) (pa_cons pe_str (pa_cons (pv 3) (pa_cons (pe_op op_sub (pv 4) pe_int) pa_nil)))))) pa_nil)))))))))))), ?_⟩
        intro H3 wy x5 x7 x8 x9 x10 hd1 hz T3 k3
        have one : ∀ (g : Str) (v : V) (t : PyData) (z2 : Int) (H5 : Hp) (q : Addr), arity g = some 1 → fitJ 1 (.str g) = true → wd (.str g) ≤ 100 → AnT H5 v t → TermOk (deep - 1) (z - 1) z2 t → z2 ≤ z - 1 - 1 → (z - 1 - 1 ≤ z2 ∨ 2 - 2 * (z - 1) ≤ z2) → TC d l b kn z2 c hs H5 → Kp [d, l, b] H H5 → H5 q = none → Q (.ref q) (upd H5 q (.tup [.str g, v])) := by
          intro g v t z2 H5 q ea ef ew a o b1 c1 T5 k5 nq
          have w1 := o.w
          obtain ⟨n1, n2, n3⟩ := node_ok (deep := deep) (w := g) (ts := [t]) ea ef hd1 (by
            intro t' ht
            rw [List.mem_singleton.mp ht]
            exact ⟨o.is, o.f, o.d⟩)
          refine fin z2 H5 _ [.str g, t] q T5 k5 (fun m => .cons (.str _) (.cons (a m) .nil)) nq n1 n2 n3 ?_ (by omega) (by omega)
          show ((wd (.str g) + 2 + (wd t + 2 + 0) + 3 : Nat) : Int) ≤ _
          omega
        have two : ∀ (g : Str) (v1 v2 : V) (t1 t2 : PyData) (z2 z3 : Int) (H5 : Hp) (q : Addr), arity g = some 2 → fitJ 1 (.str g) = true → wd (.str g) ≤ 100 → AnT H5 v1 t1 → AnT H5 v2 t2 → TermOk (deep - 1) (z - 1) z2 t1 → TermOk (deep - 1) z2 z3 t2 → z2 ≤ z - 1 - 1 → (z - 1 - 1 ≤ z2 ∨ 2 - 2 * (z - 1) ≤ z2) → z3 ≤ z2 - 1 → (z2 - 1 ≤ z3 ∨ 2 - 2 * z2 ≤ z3) → TC d l b kn z3 c hs H5 → Kp [d, l, b] H H5 → H5 q = none → Q (.ref q) (upd H5 q (.tup [.str g, v1, v2])) := by
          intro g v1 v2 t1 t2 z2 z3 H5 q ea ef ew a1 a2 o1 o2 b1 c1 b2 c2 T5 k5 nq
          have w1 := o1.w
          have w2 := o2.w
          obtain ⟨n1, n2, n3⟩ := node_ok (deep := deep) (w := g) (ts := [t1, t2]) ea ef hd1 (by
            intro t ht
            simp only [List.mem_cons, List.not_mem_nil, or_false] at ht
            rcases ht with rfl | rfl
            · exact ⟨o1.is, o1.f, o1.d⟩
            · exact ⟨o2.is, o2.f, o2.d⟩)
          refine fin z3 H5 _ [.str g, t1, t2] q T5 k5 (fun m => .cons (.str _) (.cons (a1 m) (.cons (a2 m) .nil))) nq n1 n2 n3 ?_ (by omega) (by omega)
          show ((wd (.str g) + 2 + (wd t1 + 2 + (wd t2 + 2 + 0)) + 3 : Nat) : Int) ≤ _
          omega
        refine ⟨_, rfl, rfl, _, rfl, ite2 (fun _ => ?_) (fun _ => ?_)⟩
        · refine ⟨_, rfl, by show 3 ≤ sizeLine; decide, fun p np => ?_⟩
          have T4 := T3.new (o := .lst [.str "left", .str "right", .str "up"]) np
          have n4 := T3.ne np
          refine ⟨d, l, p, _, rfl, T4.dk, sql_of upd_same, by simp, by show 3 ≤ 1000000; decide, n4.1, n4.2.1, fun x H5 hx D5 k5 => ?_⟩
          obtain ⟨g, hg, rfl⟩ : ∃ g, g ∈ ["left", "right", "up"] ∧ x = V.str (Str.ofString g) := by
            simp only [List.mem_cons, List.not_mem_nil, or_false] at hx
            rcases hx with rfl | rfl | rfl
            · exact ⟨"left", by simp, rfl⟩
            · exact ⟨"right", by simp, rfl⟩
            · exact ⟨"up", by simp, rfl⟩
          obtain ⟨ea, ef, ew⟩ := (by decide +kernel : ∀ g ∈ ["left", "right", "up"], arity (Str.ofString g) = some 1 ∧ fitJ 1 (.str (Str.ofString g)) = true ∧ wd (.str (Str.ofString g)) ≤ 100) g hg
          have T5 := T4.go k5 D5
          have k5' : Kp [d, l, b] H H5 := k3.trans ((Kp.new np).trans (k5.more (by simp)))
          refine ⟨_, rfl, _, rfl, _, rfl, _, rfl, _, rfl, _, _, rfl, rfl, self (z - 1) H5 kd _ hd1 T5 k5' fun v1 t1 z2 H6 a1 o1 b1 c1 T6 k6 => ⟨by show 2 ≤ sizeLine; decide, fun q nq => ?_⟩⟩
          exact one _ v1 t1 z2 H6 q ea ef ew a1 o1 b1 c1 T6 (k5'.trans k6) nq
        refine ⟨_, rfl, _, _, rfl, rfl, _, rfl, ite2 (fun _ => ?_) (fun _ => ?_)⟩
        · refine ⟨_, rfl, by show 2 ≤ sizeLine; decide, fun p np => ?_⟩
          have T4 := T3.new (o := .lst [.str "and", .str "or"]) np
          have n4 := T3.ne np
          refine ⟨d, l, p, _, rfl, T4.dk, sql_of upd_same, by simp, by show 2 ≤ 1000000; decide, n4.1, n4.2.1, fun x H5 hx D5 k5 => ?_⟩
          obtain ⟨g, hg, rfl⟩ : ∃ g, g ∈ ["and", "or"] ∧ x = V.str (Str.ofString g) := by
            simp only [List.mem_cons, List.not_mem_nil, or_false] at hx
            rcases hx with rfl | rfl
            · exact ⟨"and", by simp, rfl⟩
            · exact ⟨"or", by simp, rfl⟩
          obtain ⟨ea, ef, ew⟩ := (by decide +kernel : ∀ g ∈ ["and", "or"], arity (Str.ofString g) = some 2 ∧ fitJ 1 (.str (Str.ofString g)) = true ∧ wd (.str (Str.ofString g)) ≤ 100) g hg
          have T5 := T4.go k5 D5
          have k5' : Kp [d, l, b] H H5 := k3.trans ((Kp.new np).trans (k5.more (by simp)))
          refine ⟨_, rfl, _, rfl, _, rfl, _, rfl, _, rfl, _, _, rfl, rfl, self (z - 1) H5 kd _ hd1 T5 k5' fun v1 t1 z2 H6 a1 o1 b1 c1 T6 k6 => ?_⟩
          have k6' := k5'.trans k6
          refine ⟨_, rfl, _, rfl, _, rfl, _, rfl, _, rfl, _, _, rfl, rfl, self z2 H6 kd _ hd1 T6 k6' fun v2 t2 z3 H7 a2 o2 b2 c2 T7 k7 => ⟨by show 3 ≤ sizeLine; decide, fun q nq => ?_⟩⟩
          exact two _ v1 v2 t1 t2 z2 z3 H7 q ea ef ew (a1.kp k7) a2 o1 o2 b1 c1 b2 c2 T7 (k6'.trans k7) nq
        refine ⟨_, rfl, rfl, _, rfl, ite2 (fun _ => ?_) (fun _ => ?_)⟩
        · refine ⟨_, rfl, _, rfl, _, rfl, _, rfl, _, rfl, _, _, rfl, rfl, self (z - 1) H3 kd _ hd1 T3 k3 fun v1 t1 z2 H6 a1 o1 b1 c1 T6 k6 => ⟨by show 2 ≤ sizeLine; decide, fun q nq => ?_⟩⟩
          exact one "not" v1 t1 z2 H6 q (by decide +kernel) (by decide +kernel) (by decide +kernel) a1 o1 b1 c1 T6 (k3.trans k6) nq
        refine ⟨_, rfl, _, rfl, _, rfl, _, rfl, _, _, rfl, rfl, self (z - 1) H3 _ _ hd1 T3 k3 fun v1 t1 z2 H4 a1 o1 b1 c1 T4 k4 => ?_⟩
        have k4' := k3.trans k4
        refine ⟨_, rfl, rfl, _, rfl, ite2 (fun _ => ?_) (fun _ => ?_)⟩
        · refine ⟨_, rfl, _, rfl, rfl, fun p H5 np ep kp => ?_⟩
          have T5 := T4.kp0 kp
          have n4 := T4.ne np
          refine ⟨d, l, p, _, rfl, T5.dk, sql_of ep, by simp [tagL], by show 10 ≤ 1000000; decide, n4.1, n4.2.1, fun x H6 hx D6 k6 => ?_⟩
          obtain ⟨g, hg, rfl⟩ := List.mem_map.mp hx
          have hgt := tagL_ok g hg
          obtain ⟨ef, ew⟩ := tag_low2 hgt
          have k46 : Kp [d, l, b] H4 H6 := (kp.more (by simp)).trans (k6.more (by simp))
          have w1 := o1.w
          have e4 : wd (.str kHas) = 32 := by decide +kernel
          have e5 : fitJ 1 (.str kHas) = true := by decide +kernel
          have od := o1.d
          refine ⟨by show 3 ≤ sizeLine; decide, fun q nq => ?_⟩
          refine fin z2 H6 _ [.str kHas, t1, .str g] q (T5.go k6 D6) (k4'.trans k46) (fun m => .cons (.str _) (.cons (a1.kp k46 m) (.cons (.str _) .nil))) nq ?_ ?_ ?_ ?_ (by omega) (by omega)
          · rw [term_has, hgt, o1.is]
            rfl
          · show (fitJ 1 (.str kHas) && (fitJ 1 t1 && (fitJ 1 (.str g) && true))) = true
            rw [e5, o1.f, ef]
            rfl
          · show max 0 (max t1.depth (max 0 0)) ≤ _
            omega
          · show ((wd (.str kHas) + 2 + (wd t1 + 2 + (wd (.str g) + 2 + 0)) + 3 : Nat) : Int) ≤ _
            omega
        · refine ⟨_, rfl, rfl, _, rfl, ite2 (fun _ => ?_) (fun _ => ?_)⟩
          · refine ⟨_, rfl, by show 2 ≤ sizeLine; decide, fun q nq => ?_⟩
            exact one "empty" v1 t1 z2 H4 q (by decide +kernel) (by decide +kernel) (by decide +kernel) a1 o1 b1 c1 T4 k4' nq
          · refine ⟨_, rfl, _, rfl, _, rfl, _, rfl, _, rfl, _, _, rfl, rfl, self z2 H4 _ _ hd1 T4 k4' fun v2 t2 z3 H5 a2 o2 b2 c2 T5 k5 => ⟨by show 3 ≤ sizeLine; decide, fun q nq => ?_⟩⟩
            exact two "same" v1 v2 t1 t2 z2 z3 H5 q (by decide +kernel) (by decide +kernel) (by decide +kernel) (a1.kp k5) a2 o1 o2 b1 c1 b2 c2 T5 (k4'.trans k5) nq
      -- a call
      obtain ⟨tC, dC, rC⟩ : ∃ tt, PSs (cxOf CX0 Pr w K mg base ND "_law_drawn_term" (defScope sDTerm) (A 34) cdv Ar outer s H E).nox (ib ((defBody sDTerm).getD 5 noSt)) tt ∧
          ∀ (De : Ends) (H3 : Hp) (Dl : Addr) (cs : List V) (x6 x7 x8 x9 x10 : Option V), De.rt = Q → 1 ≤ deep → 2 ≤ z → H3 Dl = some (.lst cs) → (∀ x ∈ cs, x ∈ hs) → cs ≠ [] → cs.length ≤ 100 → Dl ≠ d → Dl ≠ l → TC d l b kn (z - 1) c hs H3 → Kp [d, l, b] H H3 → tt De [some (.ref d), some (.ref b), some (.str kd), some (.ref nt), some (.int deep), some (.ref Dl), x6, x7, x8, x9, x10] H3 := by
        refine ⟨_, (pss_cons (ps_set (i := 8) scDTerm.nd rfl (.inl rfl) (pe_call (ok_pick L.pick.F Bt L.draw) hr2 (by rfl) L.pick.g L.pick.F.kp L.pick.b .nil pass0 (pa_cons (pv 0) (pa_cons (pv 5) pa_nil)))) (pss_one (ps_ret (pe_tup (pa_cons pe_str (pa_cons (pe_ix ix_tup (pv 8) pe_int (fun _ _ => rfl)) (pa_cons (pe_callTy call_tuple_of (by rfl) Bt.tuple (by decide +kernel) (pa_cons (pe_lc (own := [("_law_turn", 10)]) (g := gName 10) (tt := tYes) rfl scDTerm.nd (pi_range1 (by rfl) Bt.range (pa_cons (pe_ix ix_tup (pv 8) pe_int (fun _ _ => rfl)) pa_nil)) (blkOk_by (N := ND) (sc := defScope sDTerm) (by decide +kernel)) (fun _ _ _ _ _ => pg_name (i := 10) scDTerm.nd rfl (Or.inl rfl)) (fun _ _ _ _ _ => pts_nil) (fun _ _ _ _ _ => (pe_call ih hr (by rfl) LT.g LT.F.kp LT.b .nil pass0 (pa_cons (pv 0) (pa_cons (pv 1) (pa_cons pe_str (pa_cons (pv 3) (pa_cons (pe_op op_sub (pv 4) pe_int) pa_nil)))))))) pa_nil)) pa_nil))))))), ?_⟩
        intro De H3 Dl cs x6 x7 x8 x9 x10 eD hd1 hz hDl hcs hne hcl nDd nDl T3 k3
        subst eD
        refine ⟨_, rfl, _, rfl, d, l, Dl, cs, rfl, T3.dk, sql_of hDl, hne, by omega, nDd, nDl, fun x H4 hx D4 k4 => ?_⟩
        have T4 := T3.go k4 D4
        have k4' : Kp [d, l, b] H H4 := k3.trans (k4.more (by simp))
        obtain ⟨r, f, kk, m, rfl, er, hf, hm⟩ := T4.heads x (hcs x hx)
        refine ⟨_, rfl, r, _, _, _, rfl, rfl, sqt_of er, atI_nat (j := 0) rfl, _, rfl, r, _, _, _, rfl, rfl, sqt_of er, atI_nat (j := 2) rfl, (m : Int), rfl, by omega, by omega, ?_⟩
        rw [Int.toNat_natCast]
        intro Dq nD
        have nq4 := T4.ne nD
        have hpre : ∀ i : Nat, i ≤ 3 → (2 : Int) * i ≤ 6 := fun i hi => by omega
        refine lc_range (lo := 0) (n := m) (fun i H' => ∃ (acc : List V) (ts : List PyData) (zi : Int), H' Dq = some (.lst acc) ∧ AnTs H' acc ts ∧ ts.length = i ∧ (∀ t ∈ ts, isTerm t = true ∧ fitJ 1 t = true ∧ t.depth ≤ 2 * (deep - 1) + 1) ∧ (wdAll ts : Int) ≤ 280 * (z - 1 - zi) + 2 * i ∧ zi ≤ z - 1 - i ∧ (z - 1 - i ≤ zi ∨ 3 - 2 * (z - 1) - i ≤ zi) ∧ TC d l b kn zi c hs H' ∧ Kp [d, l, b] H H')
          ⟨[], [], z - 1, upd_same, fun _ => .nil, rfl, by simp, by show ((0 : Nat) : Int) ≤ _; omega, by omega, by omega, T4.new nD, k4'.trans (.new nD)⟩ ?_ ?_
        · rintro i H5 hi ⟨acc, ts, zi, hD, hA, hl, hts, hw, hz1, hz2, T5, k5⟩
          refine ⟨rfl, _, rfl, _, rfl, _, rfl, _, rfl, _, _, rfl, rfl, self zi H5 _ _ hd1 T5 k5 fun v t z2 H6 a o b1 c1 T6 k6 => ?_⟩
          have hD6 : H6 Dq = some (.lst acc) := k6.at_ _ _ hD (by simp [nq4])
          have la := (hA []).length
          have kD : Kp [Dq] H6 (upd H6 Dq (.lst (acc ++ [v]))) := .put (by simp) hD6 (fun _ z => by cases z)
          have w1 := o.w
          refine ⟨acc, hD6, Nat.lt_of_le_of_lt (show acc.length ≤ 3 by omega) (by decide), acc ++ [v], ts ++ [t], z2, upd_same, fun ms => ((hA.kp k6).kp kD ms).append (.cons ((a.kp kD) ms) .nil), by rw [List.length_append, hl]; rfl, ?_, ?_, ?_, ?_, ?_, (k5.trans k6).own ?_⟩
          · intro t' ht
            rcases List.mem_append.mp ht with ht | ht
            · exact hts t' ht
            · rw [List.mem_singleton.mp ht]
              exact ⟨o.is, o.f, o.d⟩
          · rw [wd_app]
            show ((wdAll ts + (wd t + 2 + 0) : Nat) : Int) ≤ _
            omega
          · omega
          · omega
          · exact ⟨T6.dk.kp kD (by simp [nq4.1.symm]) (by simp [nq4.2.1.symm]), kD.at_ _ _ T6.bx (by simp [nq4.2.2.1.symm]), kD.at_ _ _ T6.kl (by simp [nq4.2.2.2.symm]), T6.nkl, fun h hh => (T6.heads h hh).kp kD, T6.hlen⟩
          · exact k4'.free nD (by simp [nq4])
        · rintro H5 ⟨acc, ts, zi, hD, hA, hl, hts, hw, hz1, hz2, T5, k5⟩
          obtain ⟨ef, ew⟩ := name_low hf
          refine ⟨Dq, _, rfl, .inl ⟨sql_of hD, fun q nq => ⟨by show 3 ≤ sizeLine; decide, fun q2 nq2 => ?_⟩⟩⟩
          have kq : Kp [] H5 (upd H5 q (.tup acc)) := .new nq
          have e4 : wd (.str kCall) = 42 := by decide +kernel
          have e5 : fitJ 1 (.str kCall) = true := by decide +kernel
          have dts := dep_all fun t ht => (hts t ht).2.2
          refine fin zi _ _ [.str kCall, .str f, .tuple ts] q2 (T5.new nq) (k5.trans (.new nq)) (fun ms => .cons (.str _) (.cons (.str _) (.cons (.tup upd_same ((hA.kp kq) ms)) .nil))) nq2 ?_ ?_ ?_ ?_ (by omega) (by omega)
          · rw [term_call, hf, List.all_eq_true.mpr fun t ht => (hts t ht).1]
            rfl
          · show (fitJ 1 (.str kCall) && (fitJ 1 (.str f) && (fitJAll 1 ts && true))) = true
            rw [e5, ef, fitJ_all fun t ht => (hts t ht).2.1]
            rfl
          · show max 0 (max 0 (max (PyData.depthAll ts + 1) 0)) ≤ _
            omega
          · show ((wd (.str kCall) + 2 + (wd (.str f) + 2 + (wdAll ts + 3 + 2 + 0)) + 3 : Nat) : Int) ≤ _
            omega
      obtain ⟨t1', d1, r1⟩ : ∃ tt, PSs (cxOf CX0 Pr w K mg base ND "_law_drawn_term" (defScope sDTerm) (A 34) cdv Ar outer s H E).nox ((defBody sDTerm).drop 5) tt ∧
          ∀ (H3 : Hp) (Dl : Addr) (cs : List V) (wy : Int) (x7 x8 x9 x10 : Option V), 1 ≤ deep → 2 ≤ z → H3 Dl = some (.lst cs) → (∀ x ∈ cs, x ∈ hs) → cs.length ≤ 100 → Dl ≠ d → Dl ≠ l → TC d l b kn (z - 1) c hs H3 → Kp [d, l, b] H H3 → tt { nx := fun _ H' => Q .non H', rt := Q } [some (.ref d), some (.ref b), some (.str kd), some (.ref nt), some (.int deep), some (.ref Dl), some (.int wy), x7, x8, x9, x10] H3 := by
        refine ⟨_, (pss_cons (ps_if (PW.pt (pw_and (pt_cmpR op_lt (pv 6) pe_int (nomark _)) (pw_and1 (pt_cmpR (op_neEL hr.units) (pv 5) (pe_lst pa_nil) (nomark _))))) dC pss_nil) d2), ?_⟩
        intro H3 Dl cs wy x7 x8 x9 x10 hd1 hz hDl hcs hcl nDd nDl T3 k3
        refine ⟨_, rfl, _, _, rfl, rfl, _, rfl, ite2 (fun _ => ?_) (fun _ => iteF (r2 H3 wy _ x7 x8 x9 x10 hd1 hz T3 k3))⟩
        refine ⟨_, rfl, Nat.zero_le _, fun p np => ?_⟩
        have kp : Kp [] H3 (upd H3 p (.lst [])) := .new np
        have T4 := T3.new (o := .lst []) np
        have ep : (upd H3 p (.lst [])) p = some (.lst []) := upd_same
        have k4 : Kp [d, l, b] H (upd H3 p (.lst [])) := k3.trans (.new np)
        generalize upd H3 p (.lst []) = H4 at kp T4 ep k4
        have hD4 := kp.at_ _ _ hDl (by simp)
        refine ⟨Dl, p, cs, rfl, rfl, hD4, ep, _, rfl, ?_⟩
        cases hc : cs.isEmpty with
        | true => exact iteF (r2 H4 wy _ x7 x8 x9 x10 hd1 hz T4 k4)
        | false =>
          refine iteT ?_
          exact rC _ H4 Dl cs _ x7 x8 x9 x10 rfl hd1 hz hD4 hcs (by intro z; rw [z] at hc; cases hc) hcl nDd nDl T4 k4
      refine ⟨_, (pss_cons (ps_dput hu (pv 1) pe_str (pe_op op_sub (pe_dget hu (pv 1) pe_str (fun _ _ => rfl)) pe_int) rfl) (pss_cons (ps_setLc (i := 5) (own := [("_law_it", 9)]) (g := gName 9) (by rfl) scDTerm.nd rfl rfl (sw_true rfl rfl rfl (by decide +kernel)) (pi_list (pe_dget hu (pv 1) pe_str (fun _ _ => rfl))) (blkOk_by (N := ND) (sc := defScope sDTerm) (by decide +kernel)) (fun _ _ _ _ _ => pg_name (i := 9) scDTerm.nd rfl (Or.inl rfl)) (fun _ _ _ _ _ => pts_one (pt_cmpR op_eq (pe_ix (r := rIxT K) ix_tup (pv 9) pe_int (fun _ _ => rfl)) (pv 2) (nomark _))) (fun _ _ _ _ _ => pv 9)) (pss_cons (ps_if (PW.pt (pw_or (pt_cmpR op_eq (pv 4) pe_int (nomark _)) (pw_or (pt_cmpR op_lt (pe_dget hu (pv 1) pe_str (fun _ _ => rfl)) pe_int (nomark _)) (pw_or1 (pt_cmpR op_eq (pe_call (ok_draw L.draw.F Bt) hr1 (by rfl) L.draw.g L.draw.F.kp L.draw.b .nil pass0 (pa_cons (pv 0) (pa_cons pe_int pa_nil))) pe_int (nomark _)))))) dL pss_nil) (pss_cons (ps_set (i := 6) scDTerm.nd rfl (.inl rfl) (pe_call (ok_draw L.draw.F Bt) hr1 (by rfl) L.draw.g L.draw.F.kp L.draw.b .nil pass0 (pa_cons (pv 0) (pa_cons pe_int pa_nil)))) (pss_cons (ps_if (PW.pt (pw_or (pt_cmpR op_eq (pv 6) pe_int (nomark _)) (pw_or1 (PW.pt (pw_and (pt_cmpR op_eq (pv 6) pe_int (nomark _)) (pw_and1 (pt_val (pe_dget hu (pv 1) pe_str (fun _ _ => rfl))))))))) dN pss_nil) d1))))), ?_⟩
      refine ⟨_, rfl, b, _, rfl, get_bleft T0.bx, _, _, rfl, rfl, _, rfl, b, _, rfl, set_bleft T0.bx (z - 1), ?_⟩
      obtain ⟨T1, k1⟩ := T0.left (z - 1)
      generalize upd H b (.dK (boxD kn (z - 1) c)) = H1 at T1 k1
      refine ⟨_, rfl, b, _, rfl, get_bknown T1.bx, kn, rfl, ⟨_, sql_of T1.kl⟩, fun Dl nD => ?_⟩
      have nq1 := T1.ne nD
      refine lc_list (xs := hs) (fun i H' => ∃ cs, H' Dl = some (.lst cs) ∧ (∀ x ∈ cs, x ∈ hs) ∧ cs.length ≤ i ∧ Kp [] H1 H')
        ⟨[], upd_same, by simp, Nat.le_refl _, .new nD⟩ (fun i H' _ ⟨_, _, _, _, k'⟩ => sql_of (T1.kp0 k').kl) ?_ ?_
      · rintro i x H2 hx ⟨cs, hD, hcs, hl, k2⟩
        have T2 := T1.kp0 k2
        have hmem := List.mem_of_getElem? hx
        have hi := (List.getElem?_eq_some_iff.mp hx).1
        have hh := T2.hlen
        obtain ⟨r, f, kk, m, rfl, er, hf, hm⟩ := T2.heads x hmem
        refine ⟨rfl, _, rfl, r, _, _, _, rfl, rfl, sqt_of er, atI_nat (j := 1) rfl, _, rfl, rfl, _, rfl, ite2 (fun _ => ?_) (fun _ => ?_)⟩
        · refine ⟨_, rfl, cs, hD, Nat.lt_of_le_of_lt (show cs.length ≤ 100 by omega) (by decide), cs ++ [.ref r], upd_same, ?_, ?_, k2.own nD⟩
          · intro y hy
            rcases List.mem_append.mp hy with hy | hy
            · exact hcs y hy
            · rw [List.mem_singleton.mp hy]
              exact hmem
          · rw [List.length_append]
            show cs.length + 1 ≤ i + 1
            omega
        · exact ⟨cs, hD, hcs, by omega, k2⟩
      rintro H2 ⟨cs, hD, hcs, hl, k2⟩
      have T2 := T1.kp0 k2
      have k2' : Kp [d, l, b] H H2 := k1.trans (k2.more (by simp))
      have hh := T2.hlen
      refine ⟨_, rfl, rfl, _, rfl, ite2 (fun _ => iteT (rL _ H2 _ _ _ _ _ _ rfl T2 k2')) (fun q0 => ?_)⟩
      have hd1 : 1 ≤ deep := by
        cases deep with
        | zero => exact absurd (decide_eq_true rfl) q0
        | succ y => exact Nat.succ_le_succ (Nat.zero_le _)
      refine ⟨_, rfl, b, _, rfl, get_bleft T2.bx, _, _, rfl, rfl, _, rfl, ite2 (fun _ => iteT (rL _ H2 _ _ _ _ _ _ rfl T2 k2')) (fun q1 => ?_)⟩
      have hz : 2 ≤ z := by
        have : ¬ z - 1 < 1 := fun e => q1 (decide_eq_true e)
        omega
      refine ⟨_, rfl, d, l, 7, rfl, T2.dk, by decide, by decide, fun r H3 r0 r1' D3 k3 => ⟨rfl, _, rfl, ?_⟩⟩
      have T3 := T2.go k3 D3
      have k3' : Kp [d, l, b] H H3 := k2'.trans (k3.more (by simp))
      have hD3 : H3 Dl = some (.lst cs) := k3.at_ _ _ hD (by simp [nq1])
      refine ite2 (fun _ => rL _ H3 _ _ _ _ _ _ rfl T3 k3') (fun _ => ?_)
      refine ⟨_, rfl, d, l, 10, rfl, T3.dk, by decide, by decide, fun wy H4 r0 r1' D4 k4 => ?_⟩
      have T4 := T3.go k4 D4
      have k4' : Kp [d, l, b] H H4 := k3'.trans (k4.more (by simp))
      have hD4 : H4 Dl = some (.lst cs) := k4.at_ _ _ hD3 (by simp [nq1])
      refine ⟨_, rfl, rfl, _, rfl, ite2 (fun _ => iteT (rN _ H4 wy _ _ _ _ _ rfl hd1 hz T4 k4')) (fun _ => ?_)⟩
      refine ⟨_, rfl, rfl, _, rfl, ite2 (fun _ => ?_) (fun _ => ?_)⟩
      · refine ⟨_, rfl, b, _, rfl, get_bchoice T4.bx, _, rfl, ?_⟩
        cases c with
        | true => exact iteT (rN _ H4 wy _ _ _ _ _ rfl hd1 hz T4 k4')
        | false => exact iteF (r1 H4 Dl cs wy _ _ _ _ hd1 hz hD4 hcs (by omega) nq1.1 nq1.2.1 T4 k4')
      · exact iteF (r1 H4 Dl cs wy _ _ _ _ hd1 hz hD4 hcs (by omega) nq1.1 nq1.2.1 T4 k4')
end
end Ey
set_option maxHeartbeats 4000000
namespace Ey
open PySem PySem.Spec L2
abbrev sProg : Stmt := topS 35
structure LQ (K : PySem.W.Frag) (mg : Str → Option Value) (A : Nat → Addr) (D : Nat → FuncData) : Prop extends LD K mg A D where
  prog : Df K mg "_law_drawn_program" sProg ["_law_deck_here", "_law_most", "_law_size"] (A 35) (D 35)
/-- a head as first drawn -/
def HdAt (H : Hp) (h : V) : Prop := ∃ (r : Addr) (f kd : Str) (nt : Addr) (ns : List Str), h = .ref r ∧ H r = some (.tup [.str f, .str kd, .ref nt]) ∧ H nt = some (.tup (ns.map V.str)) ∧ isName f = true ∧ kd ∈ kindsL ∧ (∀ g ∈ ns, isName g = true) ∧ ns.length ≤ 3
theorem HdAt.kp {ms : List Addr} {H H1 : Hp} {h : V} (a : HdAt H h) (k : Kp ms H H1) : HdAt H1 h :=
  let ⟨r, f, kd, nt, ns, e, q1, q2, i, j, l, m⟩ := a
  ⟨r, f, kd, nt, ns, e, k.tup _ _ q1, k.tup _ _ q2, i, j, l, m⟩
theorem erase_mem {ps : List Str} {i : Nat} (h : ∀ g ∈ ps, isName g = true) : ∀ g ∈ ps.eraseIdx i, isName g = true := fun g hg => h g ((List.eraseIdx_sublist ps i).subset hg)
theorem map_erase : ∀ (ps : List Str) (i : Nat), (ps.map V.str).eraseIdx i = (ps.eraseIdx i).map V.str
  | [], _ => rfl
  | _ :: _, 0 => rfl
  | x :: r, i + 1 => by
    show V.str x :: (r.map V.str).eraseIdx i = V.str x :: (r.eraseIdx i).map V.str
    rw [map_erase r i]
theorem merge_box (kn : Addr) (z : Int) (c : Bool) : mergeK [] (boxD kn z c) = boxD kn z c := by
  have e1 : putK ([] : List (Key × V)) kLeft (.int z) = [(kLeft, .int z)] := putK_new _ rfl
  have e2 : putK [(kLeft, V.int z)] kKnown (.ref kn) = [(kLeft, .int z), (kKnown, .ref kn)] := putK_new _ (valV_neg kLK)
  have e3 : putK [(kLeft, V.int z), (kKnown, .ref kn)] kChoice (.bl c) = boxD kn z c := putK_new _ ((valV_neg kLC).trans (valV_neg kKC))
  show putK (putK (putK [] kLeft _) kKnown _) kChoice _ = _
  rw [e1, e2, e3]
theorem kp_drop {d l b : Addr} {H H4 H5 : Hp} (k : Kp [d, l] H H4) (n : H b = none) (k2 : Kp [d, l, b] H4 H5) : Kp [d, l] H H5 := by
  refine ⟨fun c u q m => k2.at_ c u (k.at_ c u q m) fun z => ?_, fun c xs q => k2.tup c xs (k.tup c xs q)⟩
  simp only [List.mem_cons, List.not_mem_nil, or_false] at z m
  rcases z with z | z | z
  · exact m (.inl z)
  · exact m (.inr z)
  · rw [z, n] at q
    cases q
abbrev rLenQ (K : PySem.W.Frag) : List V → Hp → VK → Prop := fun xs H Q => ∃ p ys, xs = [V.ref p] ∧ (SqL K H p ys ∨ SqT K H p ys) ∧ Q (V.int ys.length) H
section
variable {Pr : Program} {w : World} {K : PySem.W.Frag} {mg : Str → Option Value} {base : Heap} {A : Nat → Addr} {D : Nat → FuncData}
abbrev NP : List Str := ["_law_deck_here", "_law_most", "_law_size", "_law_heads", "_law_left", "_law_turn", "_law_f", "_law_names", "_law_other", "_law_at_here", "_law_kind", "_law_known", "_law_found", "_law_is_choosing", "_law_box"]
theorem scProg : FnScope NP ["_law_deck_here", "_law_most", "_law_size"] (defScope sProg) := ⟨rfl, rfl, rfl, by decide +kernel, rfl, by decide +kernel, by decide +kernel⟩
def spProgram : Sp := fun vs H Q _ => ∃ (d l : Addr) (ms : List Addr), vs = [.ref d, .int 4, .int 14] ∧ Frame ms d l H ∧
  ∀ (v : V) (ds : List PyData) (H' : Hp), AnT H' v (.tuple ds) → ds.all isFunction = true → (∀ f ∈ ds, wd f ≤ 20000) → fitJAll 1 ds = true → PyData.depthAll ds ≤ 12 → (1 ≤ ds.length ∧ ds.length ≤ 4) → Frame ms d l H' → Kp [d, l] H H' → Q v H'
theorem ok_program (L : LQ K mg A D) : FnOk Pr w K mg base CX0 10 (A 35) (D 35) ["_law_deck_here", "_law_most", "_law_size"] spProgram := by
  have Bt := L.B
  refine L.prog.F.ok scProg (fun vs H Q E h => ?_) (fun cdv Ar outer s H vs Q E hr h => ?_)
  · obtain ⟨d, l, ms, rfl, _⟩ := h
    rfl
  · obtain ⟨d, l, ms, rfl, Fr, k⟩ := h
    have hr1 := hr.mono (show 1 ≤ 9 by decide)
    have hr2 := hr.mono (show 2 ≤ 9 by decide)
    have upF : ∀ (H1 : Hp) (p : Addr) (o u : HO), H p = none → H1 p = some u → (∀ xs, u ≠ .tup xs) → Frame ms d l H1 → Kp [d, l] H H1 → Frame ms d l (upd H1 p o) ∧ Kp [d, l] H (upd H1 p o) ∧ Kp [p] H1 (upd H1 p o) := by
      intro H1 p o u hp e nt F k1
      have kp : Kp [p] H1 (upd H1 p o) := .put (by simp) e nt
      have n := Fr.ne hp
      refine ⟨⟨F.dk.kp kp (by simp [n.1.symm]) (by simp [n.2.symm]), F.dm, F.lm, F.has.kp kp fun b hb => ?_⟩, k1.own hp, kp⟩
      rw [List.mem_singleton.mp hb]
      intro z
      rw [show (upd H1 p o) p = some o from upd_same] at z
      cases z
    have popped : ∀ (ps : List Str) (r : Int), 0 ≤ r → r < ps.length → ∃ (g : Str), seqIndex? r (ps.map V.str).length = some r.toNat ∧ (ps.map V.str)[r.toNat]? = some (.str g) ∧ g ∈ ps ∧ (ps.eraseIdx r.toNat).length + 1 = ps.length := by
      intro ps r h0 h1
      have hi : r.toNat < ps.length := by omega
      refine ⟨ps[r.toNat], ?_, ?_, List.getElem_mem hi, ?_⟩
      · rw [List.length_map]
        exact seqIndex_of h0 h1
      · rw [List.getElem?_map, List.getElem?_eq_getElem hi]
        rfl
      · rw [List.length_eraseIdx, if_pos hi]
        omega
    -- the last part
    obtain ⟨tR, dR, rR⟩ : ∃ tt, PSs (cxOf CX0 Pr w K mg base NP "_law_drawn_program" (defScope sProg) (A 35) cdv Ar outer s H E).nox ((defBody sProg).drop 2) tt ∧
        ∀ (H1 : Hp) (hd : Addr) (hs : List V) (x4 x5 x6 x7 x8 x9 x10 : Option V), H1 hd = some (.lst hs) → (∀ h ∈ hs, HdAt H1 h) → (1 ≤ hs.length ∧ hs.length ≤ 4) → hd ≠ d → hd ≠ l → Frame ms d l H1 → Kp [d, l] H H1 →
          tt { nx := fun _ H' => Q .non H', rt := Q } [some (.ref d), some (.int 4), some (.int 14), some (.ref hd), x4, x5, x6, x7, x8, x9, x10, none, none, none, none] H1 := by
      refine ⟨_, (pss_cons (ps_par (i := 11) (j := 12) (by rfl) scProg.nd rfl rfl (by decide) rfl rfl (pa_cons (pe_lc (own := [("_law_f", 6), ("_law_kind", 10), ("_law_names", 7)]) (g := gTup K 3 (gCons (gName 6) (gCons (gName 10) (gCons (gName 7) gNil)))) (tt := tYes) rfl scProg.nd (pi_list (pv 3)) (blkOk_by (N := NP) (sc := defScope sProg) (by decide +kernel)) (fun _ _ _ _ _ => pg_tup (n := 3) rfl (pgs_cons (pg_name (i := 6) scProg.nd rfl (Or.inl rfl)) (pgs_cons (pg_name (i := 10) scProg.nd rfl (Or.inl rfl)) (pgs_cons (pg_name (i := 7) scProg.nd rfl (Or.inl rfl)) pgs_nil)))) (fun _ _ _ _ _ => pts_nil) (fun _ _ _ _ _ => pe_tup (pa_cons (pv 6) (pa_cons (pv 10) (pa_cons (pe_callB (r := rLenQ K) call_len_seq (by rfl) Bt.len PySem.boot_len (pa_cons (pv 7) pa_nil)) pa_nil))))) (pa_cons (pe_lst pa_nil) pa_nil)) (by rfl)) (pss_cons (ps_set (i := 13) scProg.nd rfl (.inl rfl) (pe_cmpR op_eq (pe_call (ok_draw L.draw.F Bt) hr1 (by rfl) L.draw.g L.draw.F.kp L.draw.b .nil pass0 (pa_cons (pv 0) (pa_cons pe_int pa_nil))) pe_int (nomark _))) (pss_cons (ps_for PassesOwn.never rfl (pi_list (pv 3)) (pg_tup (n := 3) rfl (pgs_cons (pg_name (i := 6) scProg.nd rfl (.inl rfl)) (pgs_cons (pg_name (i := 10) scProg.nd rfl (.inl rfl)) (pgs_cons (pg_name (i := 7) scProg.nd rfl (.inl rfl)) pgs_nil)))) (pss_cons (ps_set (i := 14) scProg.nd rfl (.inl rfl) (pe_disp (pps_cons pe_str (pv 2) (pps_cons pe_str (pv 11) (pps_cons pe_str (pv 13) pps_nil))) (by rfl) (by rfl) (fun z => by cases z) (by decide))) (pss_one (ps_expr (pe_bm PySem.F.plainAttrs_list PySem.F.slot_list_append PySem.F.type_list_append mt_append (pv 12) (pa_cons (pe_tup (pa_cons pe_str (pa_cons (pv 6) (pa_cons (pv 10) (pa_cons (pv 7) (pa_cons (pe_call (ok_dterm L.toLD 6) (hr.mono (by decide)) (by rfl) L.dterm.g L.dterm.F.kp L.dterm.b .nil pass0 (pa_cons (pv 0) (pa_cons (pv 14) (pa_cons (pv 10) (pa_cons (pv 7) (pa_cons pe_int pa_nil)))))) pa_nil)))))) pa_nil)))))) (pss_one (ps_ret (pe_callTy call_tuple_of (by rfl) Bt.tuple (by decide +kernel) (pa_cons (pv 12) pa_nil))))))), ?_⟩
      intro H1 hd hs x4 x5 x6 x7 x8 x9 x10 ehd hhs hhl ndd ndl F1 k1
      refine ⟨_, rfl, hd, rfl, ⟨_, sql_of ehd⟩, fun Dk nk => ?_⟩
      have nk1 := F1.ne nk
      refine lc_list (xs := hs) (fun i H' => ∃ cs, H' Dk = some (.lst cs) ∧ (∀ x ∈ cs, HeadAt H' x) ∧ cs.length ≤ i ∧ Kp [] H1 H')
        ⟨[], upd_same, by simp, Nat.le_refl _, .new nk⟩ (fun i H' _ ⟨_, _, _, _, k'⟩ => sql_of (k'.at_ _ _ ehd (by simp))) ?_ ?_
      · rintro i x H2 hx ⟨cs, hD, hcs, hl, k2⟩
        have hi := (List.getElem?_eq_some_iff.mp hx).1
        obtain ⟨r, f, kd, nt, ns, rfl, er, ent, hf, hkd, hns, hnl⟩ := (hhs x (List.mem_of_getElem? hx)).kp k2
        refine ⟨r, _, rfl, sqt_of er, rfl, _, _, rfl, _, _, rfl, _, _, rfl, rfl, rfl, _, rfl, _, rfl, _, rfl, nt, _, rfl, .inr (sqt_of ent), by show 3 ≤ sizeLine; decide, fun q nq => ?_⟩
        have kq : Kp [] H2 (upd H2 q (.tup [.str f, .str kd, .int ((ns.map V.str).length : Nat)])) := .new nq
        have eq : (upd H2 q (.tup [.str f, .str kd, .int ((ns.map V.str).length : Nat)])) q = some (.tup [.str f, .str kd, .int ((ns.map V.str).length : Nat)]) := upd_same
        have hD2 := kq.at_ _ _ hD (by simp)
        refine ⟨cs, hD2, Nat.lt_of_le_of_lt (show cs.length ≤ 4 by omega) (by decide), cs ++ [.ref q], upd_same, ?_, ?_, (k2.trans kq).own nk⟩
        · have kD : Kp [Dk] (upd H2 q (.tup [.str f, .str kd, .int ((ns.map V.str).length : Nat)])) (upd (upd H2 q (.tup [.str f, .str kd, .int ((ns.map V.str).length : Nat)])) Dk (.lst (cs ++ [.ref q]))) := .put (by simp) hD2 (fun _ z => by cases z)
          intro y hy
          rcases List.mem_append.mp hy with hy | hy
          · exact ((hcs y hy).kp kq).kp kD
          · rw [List.mem_singleton.mp hy]
            exact ⟨q, f, kd, (ns.map V.str).length, rfl, kD.tup _ _ eq, hf, by rw [List.length_map]; omega⟩
        · rw [List.length_append]
          show cs.length + 1 ≤ i + 1
          omega
      rintro H2 ⟨cs, hD, hcs, hl, k2⟩
      refine ⟨Nat.zero_le _, fun fo nf => ⟨_, _, rfl, ?_⟩⟩
      have F2 := F1.kp0 k2
      have k02 : Kp [d, l] H H2 := k1.trans (k2.more (by simp))
      have nf2 := F2.ne nf
      have h0k : H Dk = none := k1.free nk (by simp [nk1.1, nk1.2])
      have h0f : H fo = none := k02.free nf (by simp [nf2.1, nf2.2])
      have dfk : fo ≠ Dk := (ne_of_none hD nf).symm
      have dfh : fo ≠ hd := (ne_of_none (k2.at_ _ _ ehd (by simp)) nf).symm
      have kf : Kp [] H2 (upd H2 fo (.lst [])) := .new nf
      have ef : (upd H2 fo (.lst [])) fo = some (.lst []) := upd_same
      have F3 := F2.new (o := .lst []) nf
      generalize upd H2 fo (.lst []) = H3 at kf ef F3
      have k03 : Kp [d, l] H H3 := k02.trans (kf.more (by simp))
      have k13 : Kp [] H1 H3 := k2.trans kf
      refine ⟨_, rfl, d, l, 2, rfl, F3.dk, by decide, by decide, fun r H4 r0 r1 D4 k4 => ⟨rfl, ?_⟩⟩
      have F4 := F3.go k4 D4
      have k04 := k03.trans k4
      have k14 : Kp [d, l] H1 H4 := (k13.more (by simp)).trans k4
      generalize decide (V.int r = V.int 0) = c
      have ehd4 := k14.at_ _ _ ehd (by simp [ndd, ndl])
      refine ⟨_, rfl, hd, rfl, ⟨_, sql_of ehd4⟩, ?_⟩
      refine for_list (K := K) (a := hd) (xs := hs) (fun i σ H' => ∃ (vs : List V) (ts : List PyData) (y6 y7 y10 y14 : Option V), σ = [some (.ref d), some (.int 4), some (.int 14), some (.ref hd), x4, x5, y6, y7, x8, x9, y10, some (.ref Dk), some (.ref fo), some (.bl c), y14] ∧
          H' fo = some (.lst vs) ∧ AnTs H' vs ts ∧ ts.length = i ∧ (∀ t ∈ ts, isFunction t = true ∧ fitJ 1 t = true ∧ t.depth ≤ 12 ∧ wd t ≤ 20000) ∧ Frame ms d l H' ∧ Kp [d, l] H H' ∧ H' hd = some (.lst hs) ∧ (∀ h ∈ hs, HdAt H' h) ∧ H' Dk = some (.lst cs) ∧ (∀ x ∈ cs, HeadAt H' x))
        ⟨[], [], _, _, _, _, rfl, k4.at_ _ _ ef (by simp [nf2.1, nf2.2]), fun _ => .nil, rfl, by simp, F4, k04, ehd4, fun h hh => (hhs h hh).kp k14, k4.at_ _ _ (kf.at_ _ _ hD (by simp)) (by simp [nk1.1, nk1.2]), fun x hx => ((hcs x hx).kp kf).kp k4⟩
        (fun i σ H' _ ⟨_, _, _, _, _, _, _, _, _, _, _, _, _, e, _⟩ => sql_of e) ?_ ?_
      · rintro i x σ H5 hx ⟨vs, ts, y6, y7, y10, y14, rfl, e1, hA, hl1, hts, F5, k05, e2, hh5, e3, hc5⟩
        have hi := (List.getElem?_eq_some_iff.mp hx).1
        obtain ⟨r', f, kd, nt, ns, rfl, er, ent, hf, hkd, hns, hnl⟩ := hh5 x (List.mem_of_getElem? hx)
        refine ⟨r', _, rfl, sqt_of er, rfl, _, _, rfl, _, _, rfl, _, _, rfl, rfl, ?_⟩
        intro bx nb
        refine ⟨_, rfl, _, rfl, _, rfl, upd_same, boxD Dk 14 c, rfl, by show 3 ≤ 15; decide, ?_⟩
        rw [merge_box, upd_upd]
        have nb5 := F5.ne nb
        have h0b : H bx = none := k05.free nb (by simp [nb5.1, nb5.2])
        have kb : Kp [] H5 (upd H5 bx (.dK (boxD Dk 14 c))) := .new nb
        have eb : BoxAt (upd H5 bx (.dK (boxD Dk 14 c))) bx Dk 14 c := upd_same
        have F6 := F5.new (o := .dK (boxD Dk 14 c)) nb
        have b1 : bx ≠ fo := (ne_of_none e1 nb).symm
        have b2 : bx ≠ hd := (ne_of_none e2 nb).symm
        have b3 : bx ≠ Dk := (ne_of_none e3 nb).symm
        generalize upd H5 bx (.dK (boxD Dk 14 c)) = H6 at kb eb F6
        have e1' := kb.at_ _ _ e1 (by simp)
        have T6 : TC d l bx Dk 14 c cs H6 := ⟨F6.dk, eb, kb.at_ _ _ e3 (by simp), nk1.2, fun y hy => (hc5 y hy).kp kb, by omega⟩
        refine ⟨_, rfl, .inl ⟨rfl, _, sql_of e1'⟩, _, rfl, _, rfl, _, rfl, _, rfl, _, rfl, _, rfl, _, rfl, d, l, bx, Dk, 14, c, cs, kd, nt, ns, 5, rfl, by decide, T6, kb.tup _ _ ent, hns, by omega, fun v t z' H7 a o q1 q2 T7 k7 => ?_⟩
        refine ⟨by show 5 ≤ sizeLine; decide, fun q nq => ?_⟩
        have k06 : Kp [d, l] H H6 := k05.trans (kb.more (by simp))
        have k07 := kp_drop k06 h0b k7
        have k57 : Kp [d, l, bx] H5 H7 := (kb.more (by simp)).trans k7
        have F7 : Frame ms d l H7 := ⟨T7.dk, Fr.dm, Fr.lm, F6.has.kp k7 fun y hy => by
          simp only [List.mem_cons, List.not_mem_nil, or_false] at hy
          rcases hy with rfl | rfl | rfl
          · exact T7.dk.some_ _ (by simp)
          · exact T7.dk.some_ _ (by simp)
          · rw [show H7 _ = some _ from T7.bx]
            exact fun z => nomatch z⟩
        have kq : Kp [] H7 (upd H7 q (.tup [.str "fun", .str f, .str kd, .ref nt, v])) := .new nq
        have eq : (upd H7 q (.tup [.str "fun", .str f, .str kd, .ref nt, v])) q = some (.tup [.str "fun", .str f, .str kd, .ref nt, v]) := upd_same
        have F8 := F7.new (o := .tup [.str "fun", .str f, .str kd, .ref nt, v]) nq
        generalize upd H7 q (.tup [.str "fun", .str f, .str kd, .ref nt, v]) = H8 at kq eq F8
        have k08 : Kp [d, l] H H8 := k07.trans (kq.more (by simp))
        have k58 : Kp [d, l, bx] H5 H8 := k57.trans (kq.more (by simp))
        have e1'' := k58.at_ _ _ e1 (by simp [nf2.1, nf2.2, b1.symm])
        obtain ⟨F9, k09, k89⟩ := upF H8 fo (.lst (vs ++ [.ref q])) _ h0f e1'' (fun _ z => by cases z) F8 k08
        have k59 := fun (c : Addr) (u : HO) (h1 : H5 c = some u) (n1 : c ∉ [d, l, bx]) (n2 : c ≠ fo) => k89.at_ _ _ (k58.at_ _ _ h1 n1) (by simp [n2])
        have lA := (hA []).length
        obtain ⟨fn1, fn2⟩ := name_low hf
        have kd1 : fitJ 1 (.str kd) = true ∧ wd (.str kd) ≤ 52 ∧ isKindD (.str kd) = true := (by decide +kernel : ∀ g ∈ kindsL, fitJ 1 (.str g) = true ∧ wd (.str g) ≤ 52 ∧ isKindD (.str g) = true) kd hkd
        have hnames : ∀ (ns : List Str), (∀ g ∈ ns, isName g = true) → (ns.map PyData.str).all isNameD = true ∧ fitJAll 1 (ns.map PyData.str) = true ∧ PyData.depthAll (ns.map PyData.str) = 0 ∧ wdAll (ns.map PyData.str) ≤ 204 * ns.length := by
          intro ns
          induction ns with
          | nil => exact fun _ => ⟨rfl, rfl, rfl, Nat.le_refl _⟩
          | cons g r ih =>
            intro h
            obtain ⟨i1, i2, i3, i4⟩ := ih fun x hx => h x (List.mem_cons_of_mem _ hx)
            have hg := h g (by simp)
            obtain ⟨g1, g2⟩ := name_low hg
            refine ⟨?_, ?_, ?_, ?_⟩
            · show (isName g && (r.map PyData.str).all isNameD) = true
              rw [hg, i1]
              rfl
            · show (fitJ 1 (.str g) && fitJAll 1 (r.map PyData.str)) = true
              rw [g1, i2]
              rfl
            · show max 0 (PyData.depthAll (r.map PyData.str)) = 0
              omega
            · show wd (.str g) + 2 + wdAll (r.map PyData.str) ≤ 204 * (r.length + 1)
              omega
        obtain ⟨m1, m2, m3, m4⟩ := hnames ns hns
        have anN : ∀ (ms : List Addr) (ns : List Str), AnAll ms H8 (ns.map V.str) (ns.map PyData.str) := by
          intro ms ns
          induction ns with
          | nil => exact .nil
          | cons g r ih => exact .cons (.str g) ih
        have wo := o.w
        have dO := o.d
        have new : AnT H8 (.ref q) (.tuple [.str kFun, .str f, .str kd, .tuple (ns.map PyData.str), t]) := fun ms => .tup eq (.cons (.str _) (.cons (.str _) (.cons (.str _) (.cons (.tup (kq.tup _ _ (k7.tup _ _ (kb.tup _ _ ent))) (anN ms ns)) (.cons (a.kp kq ms) .nil)))))
        refine ⟨fo, vs, _, rfl, rfl, e1'', Nat.lt_of_le_of_lt (show vs.length ≤ 4 by omega) (by decide), vs ++ [.ref q], ts ++ [.tuple [.str kFun, .str f, .str kd, .tuple (ns.map PyData.str), t]], _, _, _, _, rfl, upd_same, fun ms => (((hA.kp k58).kp k89) ms).append (.cons ((new.kp k89) ms) .nil), by rw [List.length_append, hl1]; rfl, ?_, F9, k09, k59 _ _ e2 (by simp [ndd, ndl, b2.symm]) dfh.symm, fun h hh => ((hh5 h hh).kp k58).kp k89, k59 _ _ e3 (by simp [nk1.1, nk1.2, b3.symm]) dfk.symm, fun y hy => ((hc5 y hy).kp k58).kp k89⟩
        intro t' ht
        rcases List.mem_append.mp ht with ht | ht
        · exact hts t' ht
        · rw [List.mem_singleton.mp ht]
          have e5 : fitJ 1 (.str kFun) = true := by decide +kernel
          have e6 : wd (.str kFun) = 32 := by decide +kernel
          have e7 : isThe kFun (.str kFun) = true := by decide +kernel
          refine ⟨?_, ?_, ?_, ?_⟩
          · show (isThe kFun (.str kFun) && (isName f && (isKindD (.str kd) && ((ns.map PyData.str).all isNameD && isTerm t)))) = true
            rw [e7, hf, kd1.2.2, m1, o.is]
            rfl
          · show (fitJ 1 (.str kFun) && (fitJ 1 (.str f) && (fitJ 1 (.str kd) && (fitJAll 1 (ns.map PyData.str) && (fitJ 1 t && true))))) = true
            rw [e5, fn1, kd1.1, m2, o.f]
            rfl
          · show max 0 (max 0 (max 0 (max (PyData.depthAll (ns.map PyData.str) + 1) (max t.depth 0)))) + 1 ≤ 12
            omega
          · show wd (.str kFun) + 2 + (wd (.str f) + 2 + (wd (.str kd) + 2 + ((wdAll (ns.map PyData.str) + 3) + 2 + (wd t + 2 + 0)))) + 3 ≤ 20000
            have := kd1.2.1
            omega
      · rintro σ H5 ⟨vs, ts, y6, y7, y10, y14, rfl, e1, hA, hl1, hts, F5, k05, e2, hh5, e3, hc5⟩
        refine ⟨_, rfl, fo, _, rfl, .inl ⟨sql_of e1, fun q nq => ?_⟩⟩
        have kq : Kp [] H5 (upd H5 q (.tup vs)) := .new nq
        exact k _ ts _ (fun ms => .tup upd_same ((hA.kp kq) ms)) (List.all_eq_true.mpr fun t ht => (hts t ht).1) (fun t ht => (hts t ht).2.2.2) (fitJ_all fun t ht => (hts t ht).2.1) (dep_all fun t ht => (hts t ht).2.2.1) (by omega) (F5.new nq) (k05.trans (.new nq))
    obtain ⟨tB, dB, rB⟩ : ∃ tt, PSs (cxOf CX0 Pr w K mg base NP "_law_drawn_program" (defScope sProg) (A 35) cdv Ar outer s H E).nox (fb ((defBody sProg).getD 1 noSt)) tt ∧
        ∀ (De : Ends) (H1 : Hp) (hd lf : Addr) (hs : List V) (ps : List Str) (i : Nat) (x6 x7 x8 x9 x10 : Option V), H1 hd = some (.lst hs) → (∀ h ∈ hs, HdAt H1 h) → hs.length = i → i < 4 → H1 lf = some (.lst (ps.map V.str)) → (∀ g ∈ ps, isName g = true) → (18 ≤ ps.length + i ∧ ps.length ≤ 18) → hd ≠ d → hd ≠ l → lf ≠ d → lf ≠ l → H hd = none → H lf = none → Frame ms d l H1 → Kp [d, l] H H1 →
          (∀ (H2 : Hp) (hs2 : List V) (ps2 : List Str) (y6 y7 y8 y9 y10 : Option V), H2 hd = some (.lst hs2) → (∀ h ∈ hs2, HdAt H2 h) → hs2.length = i + 1 → H2 lf = some (.lst (ps2.map V.str)) → (∀ g ∈ ps2, isName g = true) → (18 ≤ ps2.length + (i + 1) ∧ ps2.length ≤ 18) → Frame ms d l H2 → Kp [d, l] H H2 →
            De.nx [some (.ref d), some (.int 4), some (.int 14), some (.ref hd), some (.ref lf), some (.int i), y6, y7, y8, y9, y10, none, none, none, none] H2) →
          tt De [some (.ref d), some (.int 4), some (.int 14), some (.ref hd), some (.ref lf), some (.int i), x6, x7, x8, x9, x10, none, none, none, none] H1 := by
      refine ⟨_, (pss_one (ps_if (pt_cmpR op_lt (pv 5) (pv 1) (nomark _)) (pss_cons (ps_par3 (i := 6) (j := 7) (l := 8) rfl scProg.nd rfl rfl rfl (by decide) (by decide) (by decide) rfl rfl rfl (pa_cons (pe_bm PySem.F.plainAttrs_list PySem.F.slot_list_pop PySem.F.type_list_pop mt_popAt (pv 4) (pa_cons (pe_call (ok_draw L.draw.F Bt) hr1 (by rfl) L.draw.g L.draw.F.kp L.draw.b .nil pass0 (pa_cons (pv 0) (pa_cons (pe_callB call_len_seq (by rfl) Bt.len PySem.boot_len (pa_cons (pv 4) pa_nil)) pa_nil))) pa_nil)) (pa_cons (pe_lst pa_nil) (pa_cons (pe_call0 (ok_pool L.toLS) hr1 (by rfl) L.pool.g L.pool.F.kp L.pool.b .nil pass0) pa_nil))) (by rfl)) (pss_cons (ps_for PassesOwn.never rfl (pi_range1 (by rfl) Bt.range (pa_cons (pe_call (ok_pick L.pick.F Bt L.draw) hr2 (by rfl) L.pick.g L.pick.F.kp L.pick.b .nil pass0 (pa_cons (pv 0) (pa_cons (pe_lst (pa_cons pe_int (pa_cons pe_int (pa_cons pe_int (pa_cons pe_int (pa_cons pe_int pa_nil)))))) pa_nil))) pa_nil)) (pg_name (i := 9) scProg.nd rfl (.inl rfl)) (pss_one (ps_expr (pe_bm PySem.F.plainAttrs_list PySem.F.slot_list_append PySem.F.type_list_append mt_append (pv 7) (pa_cons (pe_bm PySem.F.plainAttrs_list PySem.F.slot_list_pop PySem.F.type_list_pop mt_popAt (pv 8) (pa_cons (pe_call (ok_draw L.draw.F Bt) hr1 (by rfl) L.draw.g L.draw.F.kp L.draw.b .nil pass0 (pa_cons (pv 0) (pa_cons (pe_callB call_len_seq (by rfl) Bt.len PySem.boot_len (pa_cons (pv 8) pa_nil)) pa_nil))) pa_nil)) pa_nil))))) (pss_one (ps_expr (pe_bm PySem.F.plainAttrs_list PySem.F.slot_list_append PySem.F.type_list_append mt_append (pv 3) (pa_cons (pe_tup (pa_cons (pv 6) (pa_cons (pe_call (ok_pick L.pick.F Bt L.draw) hr2 (by rfl) L.pick.g L.pick.F.kp L.pick.b .nil pass0 (pa_cons (pv 0) (pa_cons (pe_lst (pa_cons pe_str (pa_cons pe_str pa_nil))) pa_nil))) (pa_cons (pe_callTy call_tuple_of (by rfl) Bt.tuple (by decide +kernel) (pa_cons (pv 7) pa_nil)) pa_nil)))) pa_nil)))))) pss_nil)), ?_⟩
      intro De H1 hd lf hs ps i x6 x7 x8 x9 x10 ehd hhs hhl hi elf hps hpl n1 n2 n3 n4 h0d h0l F1 k1 q
      refine ⟨_, rfl, _, rfl, _, _, rfl, rfl, _, rfl, ite2 (fun hlt => ?_) (fun _ => ?_)⟩
      · have hi4 : i < 4 := by
          have : (i : Int) < 4 := of_decide_eq_true hlt
          omega
        have hpos : 0 < ps.length := by omega
        have h64 : ps.length ≤ 18 ∨ True := .inr trivial
        refine ⟨_, rfl, .inl ⟨rfl, _, sql_of elf⟩, _, rfl, _, rfl, lf, _, rfl, .inl (sql_of elf), d, l, _, rfl, F1.dk, ?_, ?_, fun r H2 r0 r1 D2 k2 => ?_⟩
        · rw [List.length_map]
          omega
        · rw [List.length_map]
          omega
        rw [List.length_map] at r1
        have F2 := F1.go k2 D2
        have k02 := k1.trans k2
        have elf2 := k2.at_ _ _ elf (by simp [n3, n4])
        have ehd2 := k2.at_ _ _ ehd (by simp [n1, n2])
        obtain ⟨f, hk, hy, hf, hlen⟩ := popped ps r r0 r1
        have nhl : hd ≠ lf := by
          intro z
          subst z
          rw [ehd] at elf
          injection elf with elf
          injection elf with elf
          cases hs with
          | nil =>
            have := congrArg List.length elf
            rw [List.length_map] at this
            simp at this
            omega
          | cons h0 hr =>
            obtain ⟨r0, _, _, _, _, e0, _⟩ := hhs h0 (by simp)
            cases ps with
            | nil => simp at hpos
            | cons p0 pr =>
              rw [e0] at elf
              injection elf with e1 _
              cases e1
        refine ⟨lf, _, r, _, _, rfl, rfl, elf2, by omega, by omega, hk, hy, ?_⟩
        rw [map_erase]
        obtain ⟨F3, k03, k23⟩ := upF H2 lf (.lst ((ps.eraseIdx r.toNat).map V.str)) _ h0l elf2 (fun _ z => by cases z) F2 k02
        have elf3 : (upd H2 lf (.lst ((ps.eraseIdx r.toNat).map V.str))) lf = some (.lst ((ps.eraseIdx r.toNat).map V.str)) := upd_same
        have ehd3 := k23.at_ _ _ ehd2 (by simp [nhl])
        have hh3 : ∀ h ∈ hs, HdAt (upd H2 lf (.lst ((ps.eraseIdx r.toNat).map V.str))) h := fun h hh => ((hhs h hh).kp k2).kp k23
        generalize upd H2 lf (.lst ((ps.eraseIdx r.toNat).map V.str)) = H3 at F3 k03 k23 elf3 ehd3 hh3
        refine ⟨Nat.zero_le _, fun nl nn => ⟨rfl, fun ot H5 no eo ko => ⟨_, _, _, rfl, ?_⟩⟩⟩
        have F4 := F3.new (o := .lst []) nn
        have k34 : Kp [] H3 (upd H3 nl (.lst [])) := .new nn
        have enl4 : (upd H3 nl (.lst [])) nl = some (.lst []) := upd_same
        have k04 : Kp [d, l] H (upd H3 nl (.lst [])) := k03.trans (.new nn)
        have nln := F3.ne nn
        have h0n : H nl = none := k03.free nn (by simp [nln.1, nln.2])
        have dn1 : nl ≠ hd := (ne_of_none ehd3 nn).symm
        have dn2 : nl ≠ lf := (ne_of_none elf3 nn).symm
        generalize upd H3 nl (.lst []) = H4 at F4 k34 enl4 k04 no ko
        have F5 := F4.kp0 ko
        have k05 : Kp [d, l] H H5 := k04.trans (ko.more (by simp))
        have otn := F4.ne no
        have h0o : H ot = none := k04.free no (by simp [otn.1, otn.2])
        have enl5 := ko.at_ _ _ enl4 (by simp)
        have ehd5 := ko.at_ _ _ (k34.at_ _ _ ehd3 (by simp)) (by simp)
        have elf5 := ko.at_ _ _ (k34.at_ _ _ elf3 (by simp)) (by simp)
        have do1 : ot ≠ hd := (ne_of_none (k34.at_ _ _ ehd3 (by simp)) no).symm
        have do2 : ot ≠ lf := (ne_of_none (k34.at_ _ _ elf3 (by simp)) no).symm
        have do3 : ot ≠ nl := (ne_of_none enl4 no).symm
        have hh5 : ∀ h ∈ hs, HdAt H5 h := fun h hh => ((hh3 h hh).kp k34).kp ko
        refine ⟨_, rfl, by show 5 ≤ sizeLine; decide, fun p np => ?_⟩
        have F6 := F5.new (o := .lst ([1, 2, 0, 1, 3].map fun (n : Nat) => V.int n)) np
        have k56 : Kp [] H5 (upd H5 p (.lst ([1, 2, 0, 1, 3].map fun (n : Nat) => V.int n))) := .new np
        have np6 := F5.ne np
        refine ⟨d, l, p, [1, 2, 0, 1, 3].map fun (n : Nat) => V.int n, rfl, F6.dk, sql_of upd_same, by simp, by show 5 ≤ 1000000; decide, np6.1, np6.2, fun y H7 hy7 D7 k7 => ?_⟩
        have F7 := F6.go k7 D7
        have k57 : Kp [d, l] H5 H7 := (Kp.new np).trans k7
        obtain ⟨m, hm, rfl⟩ := List.mem_map.mp hy7
        have hm3 : m ≤ 3 := (by decide : ∀ m ∈ [1, 2, 0, 1, 3], m ≤ 3) m hm
        refine ⟨(m : Int), rfl, by omega, by omega, ?_⟩
        rw [Int.toNat_natCast]
        refine for_range (lo := 0) (n := m) (fun j σ H' => ∃ (ns os : List Str) (y9 : Option V), σ = [some (.ref d), some (.int 4), some (.int 14), some (.ref hd), some (.ref lf), some (.int i), some (.str f), some (.ref nl), some (.ref ot), y9, x10, none, none, none, none] ∧
            H' nl = some (.lst (ns.map V.str)) ∧ (∀ g ∈ ns, isName g = true) ∧ ns.length ≤ j ∧ H' ot = some (.lst (os.map V.str)) ∧ (∀ g ∈ os, isName g = true) ∧ 18 ≤ os.length + j ∧ os.length ≤ 18 ∧ Frame ms d l H' ∧ Kp [d, l] H H' ∧ H' hd = some (.lst hs) ∧ H' lf = some (.lst ((ps.eraseIdx r.toNat).map V.str)) ∧ (∀ h ∈ hs, HdAt H' h))
          ⟨[], poolL, _, rfl, k57.at_ _ _ enl5 (by simp [nln.1, nln.2]), by simp, Nat.le_refl _, k57.at_ _ _ eo (by simp [otn.1, otn.2]), poolL_ok, by show 18 ≤ 18 + 0; decide, by show 18 ≤ 18; decide, F7, k05.trans k57, k57.at_ _ _ ehd5 (by simp [n1, n2]), k57.at_ _ _ elf5 (by simp [n3, n4]), fun h hh => (hh5 h hh).kp k57⟩ ?_ ?_
        · rintro j σ H8 hj ⟨ns, os, y9, rfl, e1, c1, l1, e2, c2, l2, l3, F8, k8, e3, e4, h5⟩
          refine ⟨_, rfl, .inl ⟨rfl, _, sql_of e1⟩, _, rfl, .inl ⟨rfl, _, sql_of e2⟩, _, rfl, _, rfl, ot, _, rfl, .inl (sql_of e2), d, l, _, rfl, F8.dk, ?_, ?_, fun r' H9 r0' r1' D9 k9 => ?_⟩
          · rw [List.length_map]
            omega
          · rw [List.length_map]
            omega
          rw [List.length_map] at r1'
          have F9 := F8.go k9 D9
          have k09 := k8.trans k9
          have e1' := k9.at_ _ _ e1 (by simp [nln.1, nln.2])
          have e2' := k9.at_ _ _ e2 (by simp [otn.1, otn.2])
          obtain ⟨g, hk', hy', hg, hlen'⟩ := popped os r' r0' r1'
          refine ⟨ot, _, r', _, _, rfl, rfl, e2', by omega, by omega, hk', hy', ?_⟩
          rw [map_erase]
          obtain ⟨F10, k010, k910⟩ := upF H9 ot (.lst ((os.eraseIdx r'.toNat).map V.str)) _ h0o e2' (fun _ z => by cases z) F9 k09
          have e1'' := k910.at_ _ _ e1' (by simp [do3.symm])
          have e2'' : (upd H9 ot (.lst ((os.eraseIdx r'.toNat).map V.str))) ot = some (.lst ((os.eraseIdx r'.toNat).map V.str)) := upd_same
          have e3'' := k910.at_ _ _ (k9.at_ _ _ e3 (by simp [n1, n2])) (by simp [do1.symm])
          have e4'' := k910.at_ _ _ (k9.at_ _ _ e4 (by simp [n3, n4])) (by simp [do2.symm])
          have h5'' : ∀ h ∈ hs, HdAt (upd H9 ot (.lst ((os.eraseIdx r'.toNat).map V.str))) h := fun h hh => ((h5 h hh).kp k9).kp k910
          generalize upd H9 ot (.lst ((os.eraseIdx r'.toNat).map V.str)) = H10 at F10 k010 k910 e1'' e2'' e3'' e4'' h5''
          obtain ⟨F11, k011, k1011⟩ := upF H10 nl (.lst (ns.map V.str ++ [.str g])) _ h0n e1'' (fun _ z => by cases z) F10 k010
          refine ⟨nl, _, _, rfl, rfl, e1'', ?_, ns ++ [g], os.eraseIdx r'.toNat, _, rfl, ?_, ?_, ?_, k1011.at_ _ _ e2'' (by simp [do3]), erase_mem c2, by omega, by omega, F11, k011, k1011.at_ _ _ e3'' (by simp [dn1.symm]), k1011.at_ _ _ e4'' (by simp [dn2.symm]), fun h hh => (h5'' h hh).kp k1011⟩
          · rw [List.length_map]
            exact Nat.lt_of_le_of_lt (show ns.length ≤ 3 by omega) (by decide)
          · rw [upd_same, List.map_append]
            rfl
          · intro x hx
            rcases List.mem_append.mp hx with hx | hx
            · exact c1 x hx
            · rw [List.mem_singleton.mp hx]
              exact c2 g hg
          · rw [List.length_append]
            show ns.length + 1 ≤ j + 1
            omega
        · rintro σ H8 ⟨ns, os, y9, rfl, e1, c1, l1, e2, c2, l2, l3, F8, k8, e3, e4, h5⟩
          refine ⟨_, rfl, .inl ⟨rfl, _, sql_of e3⟩, _, rfl, _, rfl, by show 2 ≤ sizeLine; decide, fun p' np' => ?_⟩
          have F9 := F8.new (o := .lst (kindsL.map V.str)) np'
          have np9 := F8.ne np'
          refine ⟨d, l, p', kindsL.map V.str, rfl, F9.dk, sql_of upd_same, by simp [kindsL], by show 2 ≤ 1000000; decide, np9.1, np9.2, fun y' H9 hy9 D9 k9 => ?_⟩
          have k89 : Kp [d, l] H8 H9 := (Kp.new np').trans k9
          have F9' := F8.go k89 D9
          obtain ⟨kd, hkd, rfl⟩ := List.mem_map.mp hy9
          have e1' := k89.at_ _ _ e1 (by simp [nln.1, nln.2])
          refine ⟨_, rfl, nl, _, rfl, .inl ⟨sql_of e1', fun nt nnt => ⟨by show 3 ≤ sizeLine; decide, fun q1 nq1 => ?_⟩⟩⟩
          have ka : Kp [] H9 (upd H9 nt (.tup (ns.map V.str))) := .new nnt
          have ea : (upd H9 nt (.tup (ns.map V.str))) nt = some (.tup (ns.map V.str)) := upd_same
          have Fa := F9'.new (o := .tup (ns.map V.str)) nnt
          generalize upd H9 nt (.tup (ns.map V.str)) = Ha at ka ea Fa nq1
          have kb : Kp [] Ha (upd Ha q1 (.tup [.str f, .str kd, .ref nt])) := .new nq1
          have eb : (upd Ha q1 (.tup [.str f, .str kd, .ref nt])) q1 = some (.tup [.str f, .str kd, .ref nt]) := upd_same
          have Fb := Fa.new (o := .tup [.str f, .str kd, .ref nt]) nq1
          have ea' := kb.tup _ _ ea
          generalize upd Ha q1 (.tup [.str f, .str kd, .ref nt]) = Hb at kb eb Fb ea'
          have k8b : Kp [d, l] H8 Hb := k89.trans ((ka.trans kb).more (by simp))
          have e3' := k8b.at_ _ _ e3 (by simp [n1, n2])
          obtain ⟨Fc, k0c, kbc⟩ := upF Hb hd (.lst (hs ++ [.ref q1])) _ h0d e3' (fun _ z => by cases z) Fb (k8.trans k8b)
          refine ⟨hd, hs, _, rfl, rfl, e3', Nat.lt_of_le_of_lt (show hs.length ≤ 4 by omega) (by decide), ?_⟩
          refine q _ (hs ++ [.ref q1]) (ps.eraseIdx r.toNat) _ _ _ _ _ upd_same ?_ ?_ (kbc.at_ _ _ (k8b.at_ _ _ e4 (by simp [n3, n4])) (by simp [nhl.symm])) (erase_mem hps) (by omega) Fc k0c
          · intro h hh
            rcases List.mem_append.mp hh with hh | hh
            · exact ((h5 h hh).kp k8b).kp kbc
            · rw [List.mem_singleton.mp hh]
              exact ⟨q1, f, kd, nt, ns, rfl, kbc.tup _ _ eb, kbc.tup _ _ ea', hps f hf, hkd, c1, by omega⟩
          · rw [List.length_append]
            show hs.length + 1 = i + 1
            omega
      · rename_i hge
        exact absurd (decide_eq_true (show (i : Int) < 4 by omega)) hge
    refine ⟨_, (pss_cons (ps_par (i := 3) (j := 4) (by rfl) scProg.nd rfl rfl (by decide) rfl rfl (pa_cons (pe_lst pa_nil) (pa_cons (pe_call0 (ok_pool L.toLS) hr1 (by rfl) L.pool.g L.pool.F.kp L.pool.b .nil pass0) pa_nil)) (by rfl)) (pss_cons (ps_for PassesOwn.never rfl (pi_range1 (by rfl) Bt.range (pa_cons (pe_call (ok_pick L.pick.F Bt L.draw) hr2 (by rfl) L.pick.g L.pick.F.kp L.pick.b .nil pass0 (pa_cons (pv 0) (pa_cons (pe_lst (pa_cons pe_int (pa_cons pe_int (pa_cons pe_int (pa_cons pe_int (pa_cons (pv 1) pa_nil)))))) pa_nil))) pa_nil)) (pg_name (i := 5) scProg.nd rfl (.inl rfl)) dB) dR)), ?_⟩
    refine ⟨Nat.zero_le _, fun hd nh => ⟨rfl, fun lf H2 nl el kl => ⟨_, _, rfl, ?_⟩⟩⟩
    have nhd := Fr.ne nh
    have F1 := Fr.new (o := .lst []) nh
    have k01 : Kp [] H (upd H hd (.lst [])) := .new nh
    have eh : (upd H hd (.lst [])) hd = some (.lst []) := upd_same
    generalize upd H hd (.lst []) = H1 at F1 k01 eh nl kl
    have nlf := F1.ne nl
    have F2 := F1.kp0 kl
    have eh2 := kl.at_ _ _ eh (by simp)
    have h0l : H lf = none := k01.free nl (by simp)
    have k02 : Kp [] H H2 := k01.trans kl
    refine ⟨_, rfl, _, rfl, by show 5 ≤ sizeLine; decide, fun p np => ?_⟩
    have F3 := F2.new (o := .lst ([1, 2, 3, 1, 4].map fun (n : Nat) => V.int n)) np
    have np2 := F2.ne np
    refine ⟨d, l, p, [1, 2, 3, 1, 4].map fun (n : Nat) => V.int n, rfl, F3.dk, sql_of upd_same, by simp, by show 5 ≤ 1000000; decide, np2.1, np2.2, fun y H4 hy D4 k4 => ?_⟩
    have F4 := F3.go k4 D4
    have k24 : Kp [d, l] H2 H4 := (Kp.new np).trans k4
    have k04 : Kp [d, l] H H4 := (k02.more (by simp)).trans k24
    obtain ⟨m, hm, rfl⟩ := List.mem_map.mp hy
    have hm4 : 1 ≤ m ∧ m ≤ 4 := (by decide : ∀ m ∈ [1, 2, 3, 1, 4], 1 ≤ m ∧ m ≤ 4) m hm
    refine ⟨(m : Int), rfl, by omega, by omega, ?_⟩
    rw [Int.toNat_natCast]
    refine for_range (lo := 0) (n := m) (fun i σ H' => ∃ (hs : List V) (ps : List Str) (x5 x6 x7 x8 x9 x10 : Option V), σ = [some (.ref d), some (.int 4), some (.int 14), some (.ref hd), some (.ref lf), x5, x6, x7, x8, x9, x10, none, none, none, none] ∧
        H' hd = some (.lst hs) ∧ (∀ h ∈ hs, HdAt H' h) ∧ hs.length = i ∧ H' lf = some (.lst (ps.map V.str)) ∧ (∀ g ∈ ps, isName g = true) ∧ (18 ≤ ps.length + i ∧ ps.length ≤ 18) ∧ Frame ms d l H' ∧ Kp [d, l] H H')
      ⟨[], poolL, _, _, _, _, _, _, rfl, k24.at_ _ _ eh2 (by simp [nhd.1, nhd.2]), by simp, rfl, k24.at_ _ _ el (by simp [nlf.1, nlf.2]), poolL_ok, ⟨by show 18 ≤ 18 + 0; decide, by show 18 ≤ 18; decide⟩, F4, k04⟩ ?_ ?_
    · rintro i σ H5 hi ⟨hs, ps, x5, x6, x7, x8, x9, x10, rfl, e1, h1, l1, e2, h2, l2, F5, k5⟩
      have ei : V.int (0 + (i : Int)) = V.int (i : Int) := by rw [Int.zero_add]
      rw [ei]
      exact rB _ H5 hd lf hs ps i x6 x7 x8 x9 x10 e1 h1 l1 (by omega) e2 h2 l2 nhd.1 nhd.2 nlf.1 nlf.2 nh h0l F5 k5 fun H6 hs2 ps2 y6 y7 y8 y9 y10 a1 a2 a3 a4 a5 a6 a7 a8 => ⟨hs2, ps2, _, y6, y7, y8, y9, y10, rfl, a1, a2, a3, a4, a5, a6, a7, a8⟩
    · rintro σ H5 ⟨hs, ps, x5, x6, x7, x8, x9, x10, rfl, e1, h1, l1, e2, h2, l2, F5, k5⟩
      exact rR H5 hd hs _ x5 x6 x7 x8 x9 x10 e1 h1 (by omega) nhd.1 nhd.2 F5 k5
end
end Ey
set_option maxHeartbeats 4000000
namespace Ey
open PySem PySem.Spec L2
abbrev sPart : Stmt := topS 41
structure LR (K : PySem.W.Frag) (mg : Str → Option Value) (A : Nat → Addr) (D : Nat → FuncData) : Prop extends LQ K mg A D where
  part : Df K mg "_law_some_part" sPart ["_law_deck_here", "_law_program"] (A 41) (D 41)
theorem atD_good {B : Nat} : ∀ (p : List Nat) (d x : PyData), atD d p = some x → fitJ B d = true → fitJ B x = true ∧ x.depth ≤ d.depth ∧ wd x ≤ wd d
  | [], d, x, h, hf => by
    have e : some d = some x := by
      rw [← h]
      cases d <;> rfl
    cases e
    exact ⟨hf, Nat.le_refl _, Nat.le_refl _⟩
  | i :: r, d, x, h, hf => by
    cases d with
    | tuple ds =>
      have h2 : (match ds[i]? with | some y => atD y r | none => none) = some x := h
      cases e : ds[i]? with
      | none =>
        rw [e] at h2
        cases h2
      | some y =>
        rw [e] at h2
        have hm := List.mem_of_getElem? e
        have hd := dep_mem hm
        have hw := wd_mem hm
        obtain ⟨a, b, c⟩ := atD_good r y x h2 (fitJ_mem (ds := ds) hf hm)
        have e1 : (PyData.tuple ds).depth = PyData.depthAll ds + 1 := rfl
        have e2 : wd (.tuple ds) = wdAll ds + 3 := rfl
        exact ⟨a, by omega, by omega⟩
    | none => cases h
    | bool _ => cases h
    | int _ => cases h
    | str _ => cases h
    | list _ => cases h
    | dict _ => cases h
section
variable {Pr : Program} {w : World} {K : PySem.W.Frag} {mg : Str → Option Value} {base : Heap} {A : Nat → Addr} {D : Nat → FuncData}
abbrev NPa : List Str := ["_law_deck_here", "_law_program", "_law_paths_here", "_law_thing", "_law_turn"]
theorem scPart : FnScope NPa ["_law_deck_here", "_law_program"] (defScope sPart) := ⟨rfl, rfl, rfl, by decide +kernel, rfl, by decide +kernel, by decide +kernel⟩
def spPart : Sp := fun vs H Q _ => ∃ (d l : Addr) (ms : List Addr) (v : V) (ds : List PyData), vs = [.ref d, v] ∧ Frame ms d l H ∧ An ms H v (.tuple ds) ∧ ds.all isFunction = true ∧ (∀ f ∈ ds, wd f ≤ 20000) ∧ fitJAll 1 ds = true ∧ PyData.depthAll ds ≤ 12 ∧ (1 ≤ ds.length ∧ ds.length ≤ 4) ∧
  ∀ (v' : V) (x' : PyData) (H' : Hp), An ms H' v' x' → GoodJ 1 40 85000 x' → Frame ms d l H' → Kp [d, l] H H' → Q v' H'
theorem fn_paths (L : LR K mg A D) : FnOk Pr w K mg base CX0 70 (A 37) (D 37) ["_law_script"] (fun vs H Q E => ∃ ms, spPaths ms vs H Q E) := fn_any fun ms => ok_paths (ms := ms) L.toLP
theorem fn_lTerm (L : LR K mg A D) (n : Nat) : FnOk Pr w K mg base CX0 (n + 2) (A 30) (D 30) ["_law_thing"] (fun vs H Q E => ∃ ms, spLD ms n isTerm vs H Q E) := fn_any fun ms => ok_lTerm (ms := ms) L.toLF L.term n
theorem wdAll_le (n : Nat) : ∀ ds : List PyData, (∀ f ∈ ds, wd f ≤ n) → wdAll ds ≤ (n + 2) * ds.length
  | [], _ => Nat.zero_le _
  | x :: r, h => by
    have h1 := h x (by simp)
    have h2 := wdAll_le n r fun y hy => h y (List.mem_cons_of_mem _ hy)
    show wd x + 2 + wdAll r ≤ (n + 2) * (r.length + 1)
    rw [Nat.mul_add]
    omega
theorem ok_part (L : LR K mg A D) : FnOk Pr w K mg base CX0 72 (A 41) (D 41) ["_law_deck_here", "_law_program"] spPart := by
  have Bt := L.B
  refine L.part.F.ok scPart (fun vs H Q E h => ?_) (fun cdv Ar outer s H vs Q E hr h => ?_)
  · obtain ⟨d, l, ms, v, ds, rfl, _⟩ := h
    rfl
  · obtain ⟨d, l, ms, v, ds, rfl, Fr, hv, hall, hws, hfit, hdep, hlen, k⟩ := h
    have hr1 := hr.mono (show 1 ≤ 71 by decide)
    have hr2 := hr.mono (show 2 ≤ 71 by decide)
    have hwa := wdAll_le 20000 ds hws
    have hwall : wdAll ds ≤ 80008 := by
      have : (20000 + 2) * ds.length ≤ 20002 * 4 := Nat.mul_le_mul_left _ hlen.2
      omega
    refine ⟨_, pss_cons (ps_set (i := 2) scPart.nd rfl (.inl rfl) (pe_op op_cat (pe_call (fn_paths L) (hr.mono (by decide)) (by rfl) L.paths.g L.paths.F.kp L.paths.b .nil pass0 (pa_cons (pv 1) pa_nil)) (pe_lst (pa_cons (pe_tup (pa_cons pe_int pa_nil)) pa_nil))))
      (pss_cons (ps_if (pt_cmpR op_eq (pe_call (ok_draw L.draw.F Bt) hr1 (by rfl) L.draw.g L.draw.F.kp L.draw.b .nil pass0 (pa_cons (pv 0) (pa_cons pe_int pa_nil))) pe_int (nomark _)) (pss_one (ps_ret (pv 1))) pss_nil)
      (pss_cons (ps_set (i := 3) scPart.nd rfl (.inl rfl) (pe_call (ok_at L.toLP) hr1 (by rfl) L.at_.g L.at_.F.kp L.at_.b .nil pass0 (pa_cons (pv 1) (pa_cons (pe_call (ok_pick L.pick.F Bt L.draw) hr2 (by rfl) L.pick.g L.pick.F.kp L.pick.b .nil pass0 (pa_cons (pv 0) (pa_cons (pv 2) pa_nil))) pa_nil))))
      (pss_cons (ps_for PassesOwn.never rfl (pi_range1 (by rfl) Bt.range (pa_cons (pe_ifExp (pt_val (pe_call (fn_lTerm L 60) (hr.mono (by decide)) (by rfl) L.term.g L.term.F.kp L.term.b .nil pass0 (pa_cons (pv 3) pa_nil)))
          (pe_call (ok_pick L.pick.F Bt L.draw) hr2 (by rfl) L.pick.g L.pick.F.kp L.pick.b .nil pass0 (pa_cons (pv 0) (pa_cons (pe_lst (pa_cons pe_int (pa_cons pe_int (pa_cons pe_int pa_nil)))) pa_nil))) pe_int) pa_nil)) (pg_name (i := 4) scPart.nd rfl (.inl rfl))
        (pss_one (ps_set (i := 3) scPart.nd rfl (.inl rfl) (pe_call (ok_pick L.pick.F Bt L.draw) hr2 (by rfl) L.pick.g L.pick.F.kp L.pick.b .nil pass0 (pa_cons (pv 0) (pa_cons (pe_lst
          (pa_cons (pe_tup (pa_cons pe_str (pa_cons (pv 3) pa_nil))) (pa_cons (pe_tup (pa_cons pe_str (pa_cons (pv 3) pa_nil))) (pa_cons (pe_tup (pa_cons pe_str (pa_cons (pe_tup (pa_cons pe_str pa_nil)) (pa_cons (pv 3) (pa_cons (pe_tup (pa_cons pe_str pa_nil)) pa_nil)))))
            (pa_cons (pe_tup (pa_cons pe_str (pa_cons pe_str (pa_cons (pe_tup (pa_cons (pv 3) pa_nil)) pa_nil)))) pa_nil))))) pa_nil))))))
      (pss_one (ps_ret (pv 3)))))), ?_⟩
    have hdr : (PyData.tuple ds).depth = PyData.depthAll ds + 1 := rfl
    have hwr : wd (.tuple ds) = wdAll ds + 3 := rfl
    refine ⟨_, rfl, ms, v, ds, rfl, hv, hall, hws, by omega, by omega, fun q ys H1 nq e1 hys hyl k1 => ?_⟩
    have F1 := Fr.kp0 k1
    refine ⟨by show 1 ≤ sizeLine; decide, fun p0 np0 => ⟨by show 1 ≤ sizeLine; decide, fun p1 np1 => ?_⟩⟩
    have ka : Kp [] H1 (upd H1 p0 (.tup [.int 0])) := .new np0
    have ea : (upd H1 p0 (.tup [.int 0])) p0 = some (.tup (intsV [0])) := upd_same
    have Fa := F1.new (o := .tup [.int 0]) np0
    generalize upd H1 p0 (.tup [.int 0]) = Ha at ka ea Fa np1
    have kb : Kp [] Ha (upd Ha p1 (.lst [.ref p0])) := .new np1
    have eb : (upd Ha p1 (.lst [.ref p0])) p1 = some (.lst [.ref p0]) := upd_same
    have Fb := Fa.new (o := .lst [.ref p0]) np1
    have ea' := kb.tup _ _ ea
    generalize upd Ha p1 (.lst [.ref p0]) = Hb at kb eb Fb ea'
    have k1b : Kp [] H1 Hb := ka.trans kb
    have k0b : Kp [] H Hb := k1.trans k1b
    refine ⟨q, p1, _, _, rfl, rfl, k1b.at_ _ _ e1 (by simp), eb, Nat.le_trans (show ys.length + 1 ≤ 100000 by omega) (by decide), fun p np => ?_⟩
    have hP : ∀ y ∈ ys ++ [V.ref p0], PathAt (.tuple ds) Hb y := by
      intro y hy
      rcases List.mem_append.mp hy with hy | hy
      · exact (hys y hy).kp k1b
      · rw [List.mem_singleton.mp hy]
        refine ⟨p0, [0], rfl, ea', ?_⟩
        cases ds with
        | nil => exact absurd hlen.1 (by simp)
        | cons x r =>
          rw [atD_one (ds := x :: r) (i := 0) (x := x) rfl]
          rfl
    have kc : Kp [] Hb (upd Hb p (.lst (ys ++ [.ref p0]))) := .new np
    have ec : (upd Hb p (.lst (ys ++ [.ref p0]))) p = some (.lst (ys ++ [.ref p0])) := upd_same
    have Fc := Fb.new (o := .lst (ys ++ [.ref p0])) np
    have npn := Fb.ne np
    generalize upd Hb p (.lst (ys ++ [.ref p0])) = Hc at kc ec Fc
    have k0c : Kp [] H Hc := k0b.trans kc
    refine ⟨_, rfl, d, l, 4, rfl, Fc.dk, by decide, by decide, fun r H2 r0 r1 D2 k2 => ⟨rfl, _, rfl, ?_⟩⟩
    have F2 := Fc.go k2 D2
    have k02 : Kp [d, l] H H2 := (k0c.more (by simp)).trans k2
    have hv2 := hv.kp k02 Fr.sub _
    refine ite2 (fun _ => ⟨_, rfl, k v _ H2 hv2 ⟨hfit, by omega, by omega⟩ F2 k02⟩) (fun _ => ?_)
    have ec2 := k2.at_ _ _ ec (by simp [npn.1, npn.2])
    refine ⟨_, rfl, _, rfl, _, rfl, d, l, p, _, rfl, F2.dk, sql_of ec2, by simp, by rw [List.length_append]; show ys.length + 1 ≤ 1000000; omega, npn.1, npn.2, fun y H3 hy D3 k3 => ?_⟩
    have F3 := F2.go k3 D3
    have k03 : Kp [d, l] H H3 := k02.trans k3
    obtain ⟨r', pp, rfl, er, hs⟩ := (hP y hy).kp (kc.more (ms' := [d, l]) (by simp) |>.trans (k2.trans k3))
    refine ⟨ms, v, .tuple ds, r', pp, rfl, hv.kp k03 Fr.sub _, er, hs, fun v' t' et av => ?_⟩
    obtain ⟨g1, g2, g3⟩ := atD_good (B := 1) pp _ _ et hfit
    have gf : fit t' = true := fitJ_is t' ▸ fitJ_le (by decide) t' g1
    refine ⟨_, rfl, ms, v', t', rfl, av, gf, by omega, by omega, fun H4 k4 => ⟨_, rfl, ite2 (fun _ => ?_) (fun _ => ?_)⟩⟩
    · have F4 := F3.kp0 k4
      have k04 : Kp [d, l] H H4 := k03.trans (k4.more (by simp))
      refine ⟨_, rfl, by show 3 ≤ sizeLine; decide, fun p3 np3 => ?_⟩
      have F5 := F4.new (o := .lst ([0, 0, 12].map fun (n : Nat) => V.int n)) np3
      have n3 := F4.ne np3
      refine ⟨d, l, p3, [0, 0, 12].map fun (n : Nat) => V.int n, rfl, F5.dk, sql_of upd_same, by simp, by show 3 ≤ 1000000; decide, n3.1, n3.2, fun y6 H6 hy6 D6 k6 => ?_⟩
      have F6 := F5.go k6 D6
      have k46 : Kp [d, l] H4 H6 := (Kp.new np3).trans k6
      obtain ⟨m, hm, rfl⟩ := List.mem_map.mp hy6
      have hm12 : m ≤ 12 := (by decide : ∀ m ∈ [0, 0, 12], m ≤ 12) m hm
      refine ⟨(m : Int), rfl, by omega, by omega, ?_⟩
      rw [Int.toNat_natCast]
      refine for_range (lo := 0) (n := m) (fun i σ H' => ∃ (v1 : V) (x1 : PyData) (y4 : Option V), σ = [some (.ref d), some v, some (.ref p), some v1, y4] ∧ An ms H' v1 x1 ∧ fitJ 1 x1 = true ∧ x1.depth ≤ 13 + 2 * i ∧ wd x1 ≤ 80100 + 120 * i ∧ Frame ms d l H' ∧ Kp [d, l] H H')
        ⟨v', t', _, rfl, (av.kp k4 (by simp) _).kp k46 F4.sub _, g1, by omega, by omega, F6, k04.trans k46⟩ ?_ ?_
      · rintro i σ H7 hi ⟨v1, x1, y4, rfl, ax, fx, dx, wx, F7, k07⟩
        refine ⟨_, rfl, _, rfl, by show 2 ≤ sizeLine; decide, fun a1 m1 => ⟨_, rfl, by show 2 ≤ sizeLine; decide, fun a2 m2 => ⟨by show 1 ≤ sizeLine; decide, fun a3 m3 => ⟨_, rfl, by show 1 ≤ sizeLine; decide, fun a4 m4 => ⟨by show 4 ≤ sizeLine; decide, fun a5 m5 => ⟨_, rfl, by show 1 ≤ sizeLine; decide, fun a6 m6 => ⟨by show 3 ≤ sizeLine; decide, fun a7 m7 => ⟨by show 4 ≤ sizeLine; decide, fun a8 m8 => ?_⟩⟩⟩⟩⟩⟩⟩⟩
        generalize h1 : upd H7 a1 (.tup [.str "left", v1]) = K1 at m2 m3 m4 m5 m6 m7 m8 ⊢
        have q1 : Kp [] H7 K1 ∧ K1 a1 = some (.tup [.str "left", v1]) := by
          rw [← h1]
          exact ⟨.new m1, upd_same⟩
        clear h1
        generalize h2 : upd K1 a2 (.tup [.str "not", v1]) = K2 at m3 m4 m5 m6 m7 m8 ⊢
        have q2 : Kp [] K1 K2 ∧ K2 a2 = some (.tup [.str "not", v1]) := by
          rw [← h2]
          exact ⟨.new m2, upd_same⟩
        clear h2
        generalize h3 : upd K2 a3 (.tup [.str "yes"]) = K3 at m4 m5 m6 m7 m8 ⊢
        have q3 : Kp [] K2 K3 ∧ K3 a3 = some (.tup [.str "yes"]) := by
          rw [← h3]
          exact ⟨.new m3, upd_same⟩
        clear h3
        generalize h4 : upd K3 a4 (.tup [.str "top"]) = K4 at m5 m6 m7 m8 ⊢
        have q4 : Kp [] K3 K4 ∧ K4 a4 = some (.tup [.str "top"]) := by
          rw [← h4]
          exact ⟨.new m4, upd_same⟩
        clear h4
        generalize h5 : upd K4 a5 (.tup [.str "if", .ref a3, v1, .ref a4]) = K5 at m6 m7 m8 ⊢
        have q5 : Kp [] K4 K5 ∧ K5 a5 = some (.tup [.str "if", .ref a3, v1, .ref a4]) := by
          rw [← h5]
          exact ⟨.new m5, upd_same⟩
        clear h5
        generalize h6 : upd K5 a6 (.tup [v1]) = K6 at m7 m8 ⊢
        have q6 : Kp [] K5 K6 ∧ K6 a6 = some (.tup [v1]) := by
          rw [← h6]
          exact ⟨.new m6, upd_same⟩
        clear h6
        generalize h7 : upd K6 a7 (.tup [.str "call", .str "f", .ref a6]) = K7 at m8 ⊢
        have q7 : Kp [] K6 K7 ∧ K7 a7 = some (.tup [.str "call", .str "f", .ref a6]) := by
          rw [← h7]
          exact ⟨.new m7, upd_same⟩
        clear h7
        have k67 := q7.1
        have k57 := q6.1.trans k67
        have k47 := q5.1.trans k57
        have k37 := q4.1.trans k47
        have k27 := q3.1.trans k37
        have k17 := q2.1.trans k27
        have k77 := q1.1.trans k17
        have F8 := F7.kp0 k77
        have F9 := F8.new (o := .lst [.ref a1, .ref a2, .ref a5, .ref a7]) m8
        have n8 := F8.ne m8
        refine ⟨d, l, a8, _, rfl, F9.dk, sql_of upd_same, by simp, by show 4 ≤ 1000000; decide, n8.1, n8.2, fun y9 H9 hy9 D9 k9 => ?_⟩
        have k89 : Kp [d, l] K7 H9 := (Kp.new m8).trans k9
        have F9' := F8.go k89 D9
        have k79 : Kp [d, l] H7 H9 := (k77.more (by simp)).trans k89
        have ax9 := ax.kp k79 F7.sub _
        simp only [List.mem_cons, List.not_mem_nil, or_false] at hy9
        have w1 : wd (.str "left") = 42 := by decide +kernel
        have w2 : wd (.str "not") = 32 := by decide +kernel
        have w3 : wd (.str "if") = 22 := by decide +kernel
        have w4 : wd (.tuple [.str "yes"]) = 37 := by decide +kernel
        have w5 : wd (.tuple [.str "top"]) = 37 := by decide +kernel
        have w6 : wd (.str "call") = 42 := by decide +kernel
        have w7 : wd (.str "f") = 12 := by decide +kernel
        have f1 : fitJ 1 (.str "left") = true := by decide +kernel
        have f2 : fitJ 1 (.str "not") = true := by decide +kernel
        have f3 : fitJ 1 (.str "if") = true := by decide +kernel
        have f4 : fitJ 1 (.tuple [.str "yes"]) = true := by decide +kernel
        have f5 : fitJ 1 (.tuple [.str "top"]) = true := by decide +kernel
        have f6 : fitJ 1 (.str "call") = true := by decide +kernel
        have f7 : fitJ 1 (.str "f") = true := by decide +kernel
        rcases hy9 with rfl | rfl | rfl | rfl
        · refine ⟨_, .tuple [.str "left", x1], _, rfl, .tup (k89.tup _ _ (k17.tup _ _ q1.2)) (.cons (.str _) (.cons ax9 .nil)), ?_, ?_, ?_, F9', k07.trans k79⟩
          · show (fitJ 1 (.str "left") && (fitJ 1 x1 && true)) = true
            rw [f1, fx]
            rfl
          · show max 0 (max x1.depth 0) + 1 ≤ _
            omega
          · show wd (.str "left") + 2 + (wd x1 + 2 + 0) + 3 ≤ _
            omega
        · refine ⟨_, .tuple [.str "not", x1], _, rfl, .tup (k89.tup _ _ (k27.tup _ _ q2.2)) (.cons (.str _) (.cons ax9 .nil)), ?_, ?_, ?_, F9', k07.trans k79⟩
          · show (fitJ 1 (.str "not") && (fitJ 1 x1 && true)) = true
            rw [f2, fx]
            rfl
          · show max 0 (max x1.depth 0) + 1 ≤ _
            omega
          · show wd (.str "not") + 2 + (wd x1 + 2 + 0) + 3 ≤ _
            omega
        · refine ⟨_, .tuple [.str "if", .tuple [.str "yes"], x1, .tuple [.str "top"]], _, rfl, .tup (k89.tup _ _ (k57.tup _ _ q5.2)) (.cons (.str _) (.cons (.tup (k89.tup _ _ (k37.tup _ _ q3.2)) (.cons (.str _) .nil)) (.cons ax9 (.cons (.tup (k89.tup _ _ (k47.tup _ _ q4.2)) (.cons (.str _) .nil)) .nil)))), ?_, ?_, ?_, F9', k07.trans k79⟩
          · show (fitJ 1 (.str "if") && (fitJ 1 (.tuple [.str "yes"]) && (fitJ 1 x1 && (fitJ 1 (.tuple [.str "top"]) && true)))) = true
            rw [f3, f4, f5, fx]
            rfl
          · show max 0 (max 1 (max x1.depth (max 1 0))) + 1 ≤ _
            omega
          · show wd (.str "if") + 2 + (wd (.tuple [.str "yes"]) + 2 + (wd x1 + 2 + (wd (.tuple [.str "top"]) + 2 + 0))) + 3 ≤ _
            omega
        · refine ⟨_, .tuple [.str "call", .str "f", .tuple [x1]], _, rfl, .tup (k89.tup _ _ q7.2) (.cons (.str _) (.cons (.str _) (.cons (.tup (k89.tup _ _ (k67.tup _ _ q6.2)) (.cons ax9 .nil)) .nil))), ?_, ?_, ?_, F9', k07.trans k79⟩
          · show (fitJ 1 (.str "call") && (fitJ 1 (.str "f") && ((fitJ 1 x1 && true) && true))) = true
            rw [f6, f7, fx]
            rfl
          · show max 0 (max 0 (max (max x1.depth 0 + 1) 0)) + 1 ≤ _
            omega
          · show wd (.str "call") + 2 + (wd (.str "f") + 2 + ((wd x1 + 2 + 0 + 3) + 2 + 0)) + 3 ≤ _
            omega
      · rintro σ H7 ⟨v1, x1, y4, rfl, ax, fx, dx, wx, F7, k07⟩
        exact ⟨_, rfl, k v1 x1 H7 ax ⟨fx, by omega, by omega⟩ F7 k07⟩
    · have F4 := F3.kp0 k4
      have k04 : Kp [d, l] H H4 := k03.trans (k4.more (by simp))
      refine ⟨0, rfl, by decide, by decide, ?_⟩
      refine for_range (lo := 0) (n := 0) (fun i σ H' => ∃ (y4 : Option V), σ = [some (.ref d), some v, some (.ref p), some v', y4] ∧ H' = H4)
        ⟨_, rfl, rfl⟩ (fun i σ H' hi _ => absurd hi (Nat.not_lt_zero _)) ?_
      rintro σ H7 ⟨y4, rfl, rfl⟩
      exact ⟨_, rfl, k v' t' _ (av.kp k4 (by simp) _) ⟨g1, by omega, by omega⟩ F4 k04⟩
end
end Ey
set_option maxHeartbeats 4000000
namespace Ey
open PySem PySem.Spec L2
/-! ### f(k = v, ..), the parameters told from the last one to the first -/
def gRev {α : Type} (us ws : List α) : List α := match us with
  | [] => ws.reverse
  | _ :: _ => []
theorem vals_rev {xs : List V} {us : List Value} (h : Vals xs us) : Vals xs.reverse us.reverse := by
  induction h with
  | nil => exact .nil
  | cons a _ ih =>
    rw [List.reverse_cons, List.reverse_cons]
    exact ih.append (.cons a .nil)
theorem kb_rev {K : PySem.W.Frag} {fd : FuncData} {ps ks : List Str} (hp : ps ≠ []) (h : ∀ ws : List Value, ws.length = ps.length → bindArgs fd ⟨[], ks.zip ws⟩ = pure (ps.zip ws.reverse)) : KBinds K fd ps ks gRev gRev := by
  refine ⟨fun s us ws _ hl => ?_, fun {vs us zs ws} r1 r2 => ?_⟩
  · cases us with
    | nil => exact .of_eq (h ws (by rw [← hl]; exact (List.length_reverse).symm))
    | cons a r => exact absurd hl (by intro e; exact hp (List.length_eq_zero_iff.mp e.symm))
  · cases r1 with
    | nil => exact vals_rev r2
    | cons _ _ => exact .nil
theorem Fun.revs {K : PySem.W.Frag} {x qual : Str} {st : Stmt} {f : Addr} {fd : FuncData} {ps ks : List Str} (F : Fun K x qual st f fd) (hp : ps ≠ [])
    (h : ∀ (kV doc pm : Value) (an : Option Addr) (cdv ct : Value) (ws : List Value), ws.length = ps.length → bindArgs (PySem.W.fnOf x qual (defArgs st) (defBody st) (defScope st) .none kV doc pm an cdv ct) ⟨[], ks.zip ws⟩ = pure (ps.zip ws.reverse)) : KBinds K fd ps ks gRev gRev := by
  obtain ⟨oc, od, kV, doc, pm, an, cdv, ct, osl, rfl, lk, _⟩ := F.ex
  exact kb_rev hp (h kV doc pm an cdv ct)
section
variable {X : Cx} {CX : CXT} {k : Nat} {f : Addr} {fd : FuncData} {qs ks : List Str} {sp : Sp} {E : XK} {x : Str} {p pos : Pos} {kws : List Keyword} {tk : TA} {g : List Value → List Value → List Value} {gV : List V → List V → List V}
theorem pe_callK0 (F : FnOk X.prog X.w X.K X.mg X.base CX k f fd qs sp) (hr : Room k X.A) (hg : Gl X x) (hm : X.mg x = some (.ref f)) (hk : PySem.W.keepIn X.K (.ref f) = true) (hb : KBinds X.K fd qs ks g gV) (hx : Passes CX X E) (hkw : PK X kws tk)
    (hall : (backToKw pos (keywordEach kws X.env)).all (·.1.isSome) = true := by rfl) (hks : (backToKw pos (keywordEach kws X.env)).filterMap (·.1) = ks := by rfl) (hdb : (x == ("__debug__" : Str)) = false := by decide)
    (hpl : ((backTo pos (starEach [] X.env)).any (·.1) || (backToKw pos (keywordEach kws X.env)).any (·.1.isNone)) = false := by rfl) :
    PE X (.Call (.Name x p) [] kws pos) (tCallK sp gV E tNil tk) := by
  refine ⟨fun pins s σ H Q I h => wpAny_Call_Name_kw (ld_glob I hg hm ?_ hdb)⟩
  refine PySem.W.callWith_KW0 (h₀ := X.base) I.ok.mod.kin hk hall ?_ hpl
  refine thn (hkw.run pos pins s σ H _ I h) fun ws s2 ⟨zs, H2, I2, rz, q2⟩ => ⟨I2.kIn, ?_⟩
  rw [hks]
  exact run_fnk (us := []) (vs := []) F hr hb hx I2 .nil rz q2
end

abbrev sLaw : Stmt := topS 42
abbrev NL : List Str := ["_law_script", "_law_deck_here", "_law_turn", "_law_thing", "_law_program", "_law_again", "_law_text", "_law_due"]
theorem scLaw : FnScope NL ["_law_script"] (defScope sLaw) := ⟨rfl, rfl, rfl, by decide +kernel, rfl, by decide +kernel, by decide +kernel⟩
structure LA (K : PySem.W.Frag) (w : World) (mg : Str → Option Value) (A : Nat → Addr) (D : Nat → FuncData) (a : Adr) : Prop extends LR K mg A D where
  deck : Df K mg "_law_deck" sDeck ["_law_script", "_law_seed"] (A 18) (D 18)
  F : PF K w mg a
  kName : KBinds K (a.D 10) ["thing"] ["thing"] gRev gRev
  kTerm : KBinds K (a.D 14) ["thing"] ["thing"] gRev gRev
  kScript : KBinds K (a.D 16) ["thing"] ["thing"] gRev gRev
/-- what stands all through the law -/
structure LI (d l : Addr) (Ts : List Addr) (H : Hp) : Prop where
  fr : Frame (d :: l :: Ts) d l H
  tg : TTs Ts H
theorem LI.nd {d l : Addr} {Ts : List Addr} {H : Hp} (h : LI d l Ts H) : d ∉ Ts ∧ l ∉ Ts := by
  obtain ⟨m, n, ns, h1, h2, _⟩ := h.fr.dk.ex
  exact ⟨h.tg.nino h1 (fun ps z => by cases z), h.tg.nino h2 (fun ps z => by cases z)⟩
theorem LI.sub {d l : Addr} {Ts : List Addr} : ∀ x ∈ Ts, x ∈ d :: l :: Ts := fun x hx => List.mem_cons_of_mem _ (List.mem_cons_of_mem _ hx)
theorem LI.prog {d l : Addr} {Ts : List Addr} {H H1 : Hp} (h : LI d l Ts H) (k : Kp Ts H H1) (g : TTs Ts H1) : LI d l Ts H1 := by
  refine ⟨⟨h.fr.dk.kp k h.nd.1 h.nd.2, h.fr.dm, h.fr.lm, h.fr.has.kp k fun b hb => ?_⟩, g⟩
  obtain ⟨ps, e, _⟩ := g b hb
  rw [e]
  exact fun z => nomatch z
theorem LI.own {d l : Addr} {Ts : List Addr} {H H1 : Hp} (h : LI d l Ts H) (k : Kp [d, l] H H1) (F : Frame (d :: l :: Ts) d l H1) : LI d l Ts H1 := ⟨F, h.tg.kp k fun P hP z => by
  simp only [List.mem_cons, List.not_mem_nil, or_false] at z
  rcases z with rfl | rfl
  · exact h.nd.1 hP
  · exact h.nd.2 hP⟩
theorem LI.kp0 {d l : Addr} {Ts : List Addr} {H H1 : Hp} (h : LI d l Ts H) (k : Kp [] H H1) : LI d l Ts H1 := ⟨h.fr.kp0 k, h.tg.kp0 k⟩
theorem LI.new {d l p : Addr} {Ts : List Addr} {H : Hp} {o : HO} (h : LI d l Ts H) (n : H p = none) : LI d l Ts (upd H p o) := h.kp0 (.new n)
theorem re_an {ms : List Addr} {n w : Nat} {H : Hp} {v : V} {d : PyData} {Q : VK} (h : An ms H v d) (g : Good n w d) (hn : n ≤ 100) (hw : w ≤ 1000000) (q : Q (.str d.shown) H) : rReprE [v] H Q :=
  ⟨ms, v, d, rfl, h, g.f, Nat.le_trans g.d hn, Nat.le_trans g.w hw, q⟩
def bls (bs : List Bool) : PyData := .tuple (bs.map PyData.bool)
theorem an_bls {ms : List Addr} {H : Hp} {q : Addr} (bs : List Bool) (e : H q = some (.tup (bs.map V.bl))) : An ms H (.ref q) (bls bs) := by
  refine .tup e ?_
  clear e
  induction bs with
  | nil => exact .nil
  | cons b r ih => exact .cons (.bl b) ih
theorem good_bls (bs : List Bool) (h : bs.length ≤ 10) : Good 1 100 (bls bs) := by
  have q : ∀ bs : List Bool, fitAll (bs.map PyData.bool) = true ∧ PyData.depthAll (bs.map PyData.bool) = 0 ∧ wdAll (bs.map PyData.bool) = 7 * bs.length := by
    intro bs
    induction bs with
    | nil => exact ⟨rfl, rfl, rfl⟩
    | cons b r ih =>
      refine ⟨?_, ?_, ?_⟩
      · show (true && fitAll (r.map PyData.bool)) = true
        rw [ih.1]
        rfl
      · show max 0 (PyData.depthAll (r.map PyData.bool)) = 0
        rw [ih.2.1]
        rfl
      · show 5 + 2 + wdAll (r.map PyData.bool) = 7 * (r.length + 1)
        rw [ih.2.2]
        omega
  obtain ⟨a, b, c⟩ := q bs
  refine ⟨a, ?_, ?_⟩
  · show PyData.depthAll (bs.map PyData.bool) + 1 ≤ 1
    omega
  · show wdAll (bs.map PyData.bool) + 3 ≤ 100
    omega
theorem re_bls {H : Hp} {q : Addr} {Q : VK} (bs : List Bool) (h : bs.length ≤ 10) (e : H q = some (.tup (bs.map V.bl))) (k : Q (.str (bls bs).shown) H) : rReprE [.ref q] H Q :=
  re_an (ms := []) (an_bls bs e) (good_bls bs h) (by decide) (by decide) k
def wI : Nat → Nat
  | 0 => 85000
  | n + 1 => 2 * wI n + 6000
section
variable {Pr : Program} {w : World} {K : PySem.W.Frag} {mg : Str → Option Value} {base : Heap} {A : Nat → Addr} {D : Nat → FuncData} {a : Adr}
theorem fn_lName (L : LA K w mg A D a) : FnOk Pr w K mg base CX0 2 (A 28) (D 28) ["_law_thing"] (fun vs H Q E => ∃ ms, spL ms isNameD vs H Q E) := fn_any fun ms => ok_lName (ms := ms) L.toLF
theorem fn_lScript (L : LA K w mg A D a) (n : Nat) : FnOk Pr w K mg base CX0 (n + 4) (A 32) (D 32) ["_law_thing"] (fun vs H Q E => ∃ ms, spLD ms n isScript vs H Q E) := fn_any fun ms => ok_lScript (ms := ms) L.toLG n
theorem fn_name (L : LA K w mg A D a) (b : BF base mg a) : FnOk Pr w K mg base CX0 1 (a.A 10) (a.D 10) ["thing"] (fun vs H Q E => ∃ ms, spD ms a.Ts isNameD vs H Q E) := fn_any fun ms => ok_name (ms := ms) L.F b
theorem fn_term (L : LA K w mg A D a) (b : BF base mg a) : FnOk Pr w K mg base CX0 3 (a.A 14) (a.D 14) ["thing"] (fun vs H Q E => ∃ ms, spD ms a.Ts isTerm vs H Q E) := fn_any fun ms => ok_term (ms := ms) L.F b
theorem fn_script (L : LA K w mg A D a) (b : BF base mg a) : FnOk Pr w K mg base CX0 8 (a.A 16) (a.D 16) ["thing"] (fun vs H Q E => ∃ ms, spD ms a.Ts isScript vs H Q E) := fn_any fun ms => ok_script (ms := ms) L.F b
abbrev XL (Pr : Program) (w : World) (K : PySem.W.Frag) (mg : Str → Option Value) (base : Heap) (f : Addr) (cdv : Value) (s : Shared) (H0 : Hp) : Cx := (cxOf CX0 Pr w K mg base NL "law" (defScope sLaw) f cdv callerA [] s H0 E0).nox
abbrev B1 : List Stmt := fb ((defBody sLaw).getD 1 noSt)
abbrev B4 : List Stmt := fb ((defBody sLaw).getD 4 noSt)
/-- a value, looked at -/
theorem look_piece (L : LA K w mg A D a) (b : BF base mg a) (hsm : ∃ mm, base.Ns sysModules mm) (f : Addr) (cdv : Value) (s : Shared) (H0 : Hp) (hr : Room 80 (XL Pr w K mg base f cdv s H0).A) :
    ∃ tt, PSs (XL Pr w K mg base f cdv s H0) (B4.drop 3) tt ∧ ∀ (E : Ends) (H3 : Hp) (d l : Addr) (v p x : V) (dx : PyData) (x2 x5 x6 x7 : Option V),
      LI d l a.Ts H3 → An (d :: l :: a.Ts) H3 x dx → Good 52 400000 dx →
      (∀ (y6 y7 : Option V) (H4 : Hp), LI d l a.Ts H4 → Kp (d :: l :: a.Ts) H3 H4 → E.nx [some v, some (.ref d), x2, some x, some p, x5, y6, y7] H4) →
      tt E [some v, some (.ref d), x2, some x, some p, x5, x6, x7] H3 := by
  have B := L.B
  have F := L.F
  have hr1 := hr.mono (show 1 ≤ 80 by decide)
  have hr2 := hr.mono (show 2 ≤ 80 by decide)
  have hr3 := hr.mono (show 3 ≤ 80 by decide)
  have hr8 := hr.mono (show 8 ≤ 80 by decide)
  refine ⟨_, (pss_cons (ps_par (i := 6) (j := 7) (by rfl) scLaw.nd rfl rfl (by decide) rfl rfl (pa_cons (pe_callB (cr_reprE hsm rfl hr) (by rfl) B.repr (by decide +kernel) (pa_cons (pv 3) pa_nil)) (pa_cons (pe_callB (cr_reprE hsm rfl hr) (by rfl) B.repr (by decide +kernel) (pa_cons (pe_tup (pa_cons (pe_call (fn_lName L) hr2 (by rfl) L.name.g L.name.F.kp L.name.b .nil pass0 (pa_cons (pv 3) pa_nil)) (pa_cons (pe_call (fn_lTerm L.toLR 60) (hr.mono (by decide)) (by rfl) L.term.g L.term.F.kp L.term.b .nil pass0 (pa_cons (pv 3) pa_nil)) (pa_cons (pe_call (fn_lScript L 60) (hr.mono (by decide)) (by rfl) L.script.g L.script.F.kp L.script.b .nil pass0 (pa_cons (pv 3) pa_nil)) pa_nil)))) pa_nil)) pa_nil)) (by rfl)) (pss_cons (ps_if (PW.pt (pw_or (pt_cmpR op_ne (pe_callB (cr_reprE hsm rfl hr) (by rfl) B.repr (by decide +kernel) (pa_cons (pe_tup (pa_cons (pe_call (fn_name L b) hr1 (by rfl) F.name.g F.name.F.kp F.name.b .nil pass0 (pa_cons (pv 3) pa_nil)) (pa_cons (pe_call (fn_term L b) hr3 (by rfl) F.term.g F.term.F.kp F.term.b .nil pass0 (pa_cons (pv 3) pa_nil)) (pa_cons (pe_call (fn_script L b) hr8 (by rfl) F.script.g F.script.F.kp F.script.b .nil pass0 (pa_cons (pv 3) pa_nil)) pa_nil)))) pa_nil)) (pv 7) (nomark _)) (pw_or1 (pt_cmpR op_ne (pe_callB (cr_reprE hsm rfl hr) (by rfl) B.repr (by decide +kernel) (pa_cons (pv 3) pa_nil)) (pv 6) (nomark _))))) (pss_one (ps_ret pe_bl)) pss_nil) (pss_one (ps_if (pt_cmpR op_ne (pe_callB (cr_reprE hsm rfl hr) (by rfl) B.repr (by decide +kernel) (pa_cons (pe_tup (pa_cons (pe_callK0 (fn_name L b) hr1 (by rfl) F.name.g F.name.F.kp L.kName pass0 (pk_cons (pv 3) pk_nil)) (pa_cons (pe_callK0 (fn_term L b) hr3 (by rfl) F.term.g F.term.F.kp L.kTerm pass0 (pk_cons (pv 3) pk_nil)) (pa_cons (pe_callK0 (fn_script L b) hr8 (by rfl) F.script.g F.script.F.kp L.kScript pass0 (pk_cons (pv 3) pk_nil)) pa_nil)))) pa_nil)) (pv 7) (nomark _)) (pss_one (ps_ret pe_bl)) pss_nil)))), ?_⟩
  intro E H3 d l v p x dx x2 x5 x6 x7 I3 hx gx k
  have hw : wd dx ≤ 1000000 := Nat.le_trans gx.w (by decide)
  have hd := gx.d
  let M := d :: l :: a.Ts
  have subT : ∀ y ∈ a.Ts, y ∈ M := LI.sub
  refine ⟨_, rfl, re_an hx gx (by decide) (by decide) ?_⟩
  refine ⟨_, rfl, M, x, dx, rfl, hx, gx.f, hw, fun H4 k4 => ?_⟩
  have I4 := I3.kp0 k4
  have hx4 := hx.kp k4 (by simp) dx
  refine ⟨_, rfl, M, x, dx, rfl, hx4, gx.f, hw, by omega, fun H5 k5 => ?_⟩
  have I5 := I4.kp0 k5
  have hx5 := hx4.kp k5 (by simp) dx
  refine ⟨_, rfl, M, x, dx, rfl, hx5, gx.f, hw, by omega, fun H6 k6 => ?_⟩
  have I6 := I5.kp0 k6
  have hx6 := hx5.kp k6 (by simp) dx
  refine ⟨by show 3 ≤ sizeLine; decide, fun q nq => re_bls [isNameD dx, isTerm dx, isScript dx] (by show 3 ≤ 10; decide) upd_same ⟨_, _, rfl, ?_⟩⟩
  have k7 : Kp [] H6 (upd H6 q (.tup ([isNameD dx, isTerm dx, isScript dx].map V.bl))) := .new nq
  have I7 := I6.kp0 k7
  have hx7 := hx6.kp k7 (by simp) dx
  have k37 : Kp [] H3 _ := k4.trans (k5.trans (k6.trans k7))
  show _
  generalize hg : upd H6 q (.tup ([isNameD dx, isTerm dx, isScript dx].map V.bl)) = H7 at k7 I7 hx7 k37
  refine ⟨_, rfl, M, x, dx, rfl, hg ▸ hx7, hw, hg ▸ I7.tg, subT, fun H8 g8 k8 => ?_⟩
  rw [show upd H6 q (.tup [V.bl (isNameD dx), V.bl (isTerm dx), V.bl (isScript dx)]) = H7 from hg] at k8
  have I8 := I7.prog k8 g8
  have hx8 := hx7.kp k8 subT dx
  refine ⟨_, rfl, M, x, dx, rfl, hx8, hw, g8, subT, fun H9 g9 k9 => ?_⟩
  have I9 := I8.prog k9 g9
  have hx9 := hx8.kp k9 subT dx
  refine ⟨_, rfl, M, x, dx, rfl, hx9, hw, g9, subT, fun H10 g10 k10 => ?_⟩
  have I10 := I9.prog k10 g10
  have hx10 := hx9.kp k10 subT dx
  refine ⟨by show 3 ≤ sizeLine; decide, fun q2 nq2 => re_bls [isNameD dx, isTerm dx, isScript dx] (by show 3 ≤ 10; decide) upd_same ⟨_, rfl, rfl, _, rfl, iteNS rfl ?_⟩⟩
  have k11 : Kp [] H10 (upd H10 q2 (.tup ([isNameD dx, isTerm dx, isScript dx].map V.bl))) := .new nq2
  have I11 := I10.kp0 k11
  have hx11 := hx10.kp k11 (by simp) dx
  have k311 : Kp M H3 _ := (k37.more (by simp)).trans ((k8.more subT).trans ((k9.more subT).trans ((k10.more subT).trans (k11.more (by simp)))))
  refine ⟨_, rfl, re_an hx11 gx (by decide) (by decide) ⟨_, rfl, rfl, _, rfl, iteNS rfl ?_⟩⟩
  refine ⟨_, rfl, M, x, dx, rfl, hx11, hw, I11.tg, subT, fun H12 g12 k12 => ?_⟩
  have I12 := I11.prog k12 g12
  have hx12 := hx11.kp k12 subT dx
  refine ⟨_, rfl, M, x, dx, rfl, hx12, hw, g12, subT, fun H13 g13 k13 => ?_⟩
  have I13 := I12.prog k13 g13
  have hx13 := hx12.kp k13 subT dx
  refine ⟨_, rfl, M, x, dx, rfl, hx13, hw, g13, subT, fun H14 g14 k14 => ?_⟩
  have I14 := I13.prog k14 g14
  refine ⟨by show 3 ≤ sizeLine; decide, fun q3 nq3 => re_bls [isNameD dx, isTerm dx, isScript dx] (by show 3 ≤ 10; decide) upd_same ⟨_, rfl, rfl, _, rfl, iteNS rfl ?_⟩⟩
  exact k _ _ _ (I14.new nq3) (k311.trans ((k12.more subT).trans ((k13.more subT).trans ((k14.more subT).trans (.new nq3)))))
end
end Ey
set_option maxHeartbeats 4000000
namespace Ey
open PySem PySem.Spec L2
section
variable {Pr : Program} {w : World} {K : PySem.W.Frag} {mg : Str → Option Value} {base : Heap} {A : Nat → Addr} {D : Nat → FuncData} {a : Adr}
def spLaw (K : PySem.W.Frag) (Ts : List Addr) : Sp := fun vs H Q _ => ∃ (c : Addr) (ns : List Int), vs = [.ref c] ∧ SqL K H c (ns.map V.int) ∧ ns.length ≤ 63 ∧ TTs Ts H ∧ ∀ H', Q (.bl true) H'
theorem ok_law {f : Addr} {fd : FuncData} (Fl : Fun K "law" "law" sLaw f fd) (L : LA K w mg A D a) (b : BF base mg a) (hsm : ∃ mm, base.Ns sysModules mm) : LawOk Pr w K mg base f fd "_law_script" (spLaw K a.Ts) := by
  have B := L.B
  have F := L.F
  refine law_ok (k := 80) Fl scLaw ⟨rfl, by decide, by decide⟩ fun cdv s H v Q hr h => ?_
  obtain ⟨c, ns, e, hS, hn, g, k⟩ := h
  cases e
  obtain ⟨tl, dl, rl⟩ := look_piece (Pr := Pr) L b hsm f cdv s H hr
  have hr1 := hr.mono (show 1 ≤ 80 by decide)
  have hr2 := hr.mono (show 2 ≤ 80 by decide)
  have hr3 := hr.mono (show 3 ≤ 80 by decide)
  have hr8 := hr.mono (show 8 ≤ 80 by decide)
  refine ⟨_, (pss_cons (ps_set (i := 1) scLaw.nd rfl (.inl rfl) (pe_call (ok_deck L.deck.F B) hr1 (by rfl) L.deck.g L.deck.F.kp L.deck.b .nil pass0 (pa_cons (pv 0) (pa_cons pe_int pa_nil)))) (pss_cons (ps_for PassesOwn.never rfl (pi_range1 (by rfl) B.range (pa_cons pe_int pa_nil)) (pg_name (i := 2) scLaw.nd rfl (.inl rfl)) (pss_cons (ps_set (i := 3) scLaw.nd rfl (.inl rfl) (pe_call (ok_string L.toLT) hr3 (by rfl) L.string.g L.string.F.kp L.string.b .nil pass0 (pa_cons (pv 1) pa_nil))) (pss_one (ps_if (pt_cmpR op_ne (pe_callB (cr_reprE hsm rfl hr) (by rfl) B.repr (by decide +kernel) (pa_cons (pe_tup (pa_cons (pe_call (fn_name L b) hr1 (by rfl) F.name.g F.name.F.kp F.name.b .nil pass0 (pa_cons (pv 3) pa_nil)) (pa_cons (pe_callK0 (fn_name L b) hr1 (by rfl) F.name.g F.name.F.kp L.kName pass0 (pk_cons (pv 3) pk_nil)) pa_nil))) pa_nil)) (pe_callB (cr_reprE hsm rfl hr) (by rfl) B.repr (by decide +kernel) (pa_cons (pe_op op_repT (pe_tup (pa_cons (pe_call (fn_lName L) hr2 (by rfl) L.name.g L.name.F.kp L.name.b .nil pass0 (pa_cons (pv 3) pa_nil)) pa_nil)) pe_int) pa_nil)) (nomark _)) (pss_one (ps_ret pe_bl)) pss_nil)))) (pss_cons (ps_set (i := 4) scLaw.nd rfl (.inl rfl) (pe_call (ok_program L.toLQ) (hr.mono (by decide)) (by rfl) L.prog.g L.prog.F.kp L.prog.b .nil pass0 (pa_cons (pv 1) (pa_cons pe_int (pa_cons pe_int pa_nil))))) (pss_cons (ps_if (pt_cmpR op_ne (pe_callB (cr_reprE hsm rfl hr) (by rfl) B.repr (by decide +kernel) (pa_cons (pe_tup (pa_cons (pe_call (fn_script L b) hr8 (by rfl) F.script.g F.script.F.kp F.script.b .nil pass0 (pa_cons (pe_tup pa_nil) pa_nil)) (pa_cons (pe_call (fn_script L b) hr8 (by rfl) F.script.g F.script.F.kp F.script.b .nil pass0 (pa_cons (pv 4) pa_nil)) (pa_cons (pe_call (fn_term L b) hr3 (by rfl) F.term.g F.term.F.kp F.term.b .nil pass0 (pa_cons (pe_tup pa_nil) pa_nil)) (pa_cons (pe_call (fn_name L b) hr1 (by rfl) F.name.g F.name.F.kp F.name.b .nil pass0 (pa_cons (pe_tup pa_nil) pa_nil)) pa_nil))))) pa_nil)) (pe_callB (cr_reprE hsm rfl hr) (by rfl) B.repr (by decide +kernel) (pa_cons (pe_tup (pa_cons pe_bl (pa_cons pe_bl (pa_cons pe_bl (pa_cons pe_bl pa_nil))))) pa_nil)) (nomark _)) (pss_one (ps_ret pe_bl)) pss_nil) (pss_cons (ps_for PassesOwn.never rfl (pi_range1 (by rfl) B.range (pa_cons pe_int pa_nil)) (pg_name (i := 2) scLaw.nd rfl (.inl rfl)) (pss_cons (ps_set (i := 3) scLaw.nd rfl (.inl rfl) (pe_call (ok_part L.toLR) (hr.mono (by decide)) (by rfl) L.part.g L.part.F.kp L.part.b .nil pass0 (pa_cons (pv 1) (pa_cons (pv 4) pa_nil)))) (pss_cons (ps_for PassesOwn.never rfl (pi_range1 (by rfl) B.range (pa_cons (pe_call (ok_pick L.pick.F B L.draw) hr2 (by rfl) L.pick.g L.pick.F.kp L.pick.b .nil pass0 (pa_cons (pv 1) (pa_cons (pe_lst (pa_cons pe_int (pa_cons pe_int (pa_cons pe_int (pa_cons pe_int pa_nil))))) pa_nil))) pa_nil)) (pg_name (i := 5) scLaw.nd rfl (.inl rfl)) (pss_one (ps_set (i := 3) scLaw.nd rfl (.inl rfl) (pe_call (ok_spoilt L.toLS 60) (hr.mono (by decide)) (by rfl) L.spoilt.g L.spoilt.F.kp L.spoilt.b .nil pass0 (pa_cons (pv 1) (pa_cons (pv 3) pa_nil)))))) (pss_cons (ps_if (pt_cmpR op_eq (pe_call (ok_draw L.draw.F B) hr1 (by rfl) L.draw.g L.draw.F.kp L.draw.b .nil pass0 (pa_cons (pv 1) (pa_cons pe_int pa_nil))) pe_int (nomark _)) (pss_one (ps_set (i := 3) scLaw.nd rfl (.inl rfl) (pe_call (ok_any L.toLH L.any 4) (hr.mono (by decide)) (by rfl) L.any.g L.any.F.kp L.any.b .nil pass0 (pa_cons (pv 1) (pa_cons pe_int pa_nil))))) pss_nil) dl)))) (pss_one (ps_ret pe_bl))))))), ?_⟩
  refine ⟨_, rfl, c, ns, _, rfl, hS, hn, fun d l H1 D1 k1 nd nl => ?_⟩
  have g1 : TTs a.Ts H1 := g.kp0 k1
  have hasAll : Has (d :: l :: a.Ts) H1 := by
    intro x hx
    obtain ⟨m, n, ms, h1, h2, _⟩ := D1.ex
    rcases List.mem_cons.mp hx with rfl | hx
    · rw [h1]
      exact fun z => nomatch z
    rcases List.mem_cons.mp hx with rfl | hx
    · rw [h2]
      exact fun z => nomatch z
    · obtain ⟨ps, e, _⟩ := g1 x hx
      rw [e]
      exact fun z => nomatch z
  have I1 : LI d l a.Ts H1 := ⟨⟨D1, by simp, by simp, hasAll⟩, g1⟩
  let M := d :: l :: a.Ts
  have subT : ∀ y ∈ a.Ts, y ∈ M := LI.sub
  refine ⟨6, rfl, by decide, by decide, ?_⟩
  refine for_range (lo := 0) (n := 6) (fun i σ H => ∃ (x2 x3 : Option V), σ = [some (.ref c), some (.ref d), x2, x3, none, none, none, none] ∧ LI d l a.Ts H)
    ⟨_, _, rfl, I1⟩ ?_ ?_
  · rintro i σ H2 hi ⟨x2, x3, rfl, I2⟩
    refine ⟨_, rfl, d, l, M, rfl, I2.fr, fun g H3 hg F3 k3 => ?_⟩
    have I3 := I2.own k3 F3
    have gf : fit (.str g) = true := fitJ_is (.str g) ▸ fitJ_le (by decide) (.str g) hg.fit
    have gw : wd (.str g) ≤ 1000000 := by
      have := hg.len
      show 10 * g.length + 2 ≤ 1000000
      omega
    refine ⟨_, rfl, M, _, .str g, rfl, .str g, gw, I3.tg, subT, fun H4 g4 k4 => ?_⟩
    have I4 := I3.prog k4 g4
    refine ⟨_, rfl, M, _, .str g, rfl, .str g, gw, I4.tg, subT, fun H5 g5 k5 => ?_⟩
    have I5 := I4.prog k5 g5
    refine ⟨by show 2 ≤ sizeLine; decide, fun q nq => re_bls [isNameD (.str g), isNameD (.str g)] (by show 2 ≤ 10; decide) upd_same ?_⟩
    have I6 := I5.new (o := .tup ([isNameD (.str g), isNameD (.str g)].map V.bl)) nq
    refine ⟨_, rfl, M, _, .str g, rfl, .str g, gf, gw, fun H7 k7 => ?_⟩
    have I7 := I6.kp0 k7
    refine ⟨by show 1 ≤ sizeLine; decide, fun q2 nq2 => ?_⟩
    have I8 := I7.new (o := .tup [.bl (isNameD (.str g))]) nq2
    refine ⟨q2, 2, _, rfl, rfl, sqt_of upd_same, by simp, by decide, by decide, by show 1 ≤ 1000; decide, fun q3 nq3 => ?_⟩
    refine re_bls [isNameD (.str g), isNameD (.str g)] (by show 2 ≤ 10; decide) upd_same ⟨rfl, _, rfl, iteNS rfl ?_⟩
    exact ⟨_, _, rfl, I8.new nq3⟩
  · rintro σ H2 ⟨x2, x3, rfl, I2⟩
    refine ⟨_, rfl, d, l, M, rfl, I2.fr, fun pv' ds H3 ap hall hws hfit hdep hlen F3 k3 => ?_⟩
    have I3 := I2.own k3 F3
    have hwa := wdAll_le 20000 ds hws
    have hwall : wdAll ds ≤ 80008 := by
      have : (20000 + 2) * ds.length ≤ 20002 * 4 := Nat.mul_le_mul_left _ hlen.2
      omega
    have hwp : wd (.tuple ds) ≤ 1000000 := by
      show wdAll ds + 3 ≤ 1000000
      omega
    have s1 : isScript (.tuple ds) = true := hall
    have s0 : isScript (.tuple []) = true := rfl
    have t0 : isTerm (.tuple []) = false := by
      rw [isTerm_eq]
      rfl
    have n0 : isNameD (.tuple []) = false := rfl
    refine ⟨Nat.zero_le _, fun p1 np1 => ⟨M, _, .tuple [], rfl, .tup upd_same .nil, by show 3 ≤ 1000000; decide, (I3.new np1).tg, subT, fun H4 g4 k4 => ?_⟩⟩
    have I4 := (I3.new np1).prog k4 g4
    have a4 := (ap.kp (Kp.new (ms := []) (o := .tup []) np1)).kp k4
    refine ⟨_, rfl, M, _, .tuple ds, rfl, a4 M, hwp, I4.tg, subT, fun H5 g5 k5 => ?_⟩
    have I5 := I4.prog k5 g5
    have a5 := a4.kp k5
    refine ⟨Nat.zero_le _, fun p2 np2 => ⟨M, _, .tuple [], rfl, .tup upd_same .nil, by show 3 ≤ 1000000; decide, (I5.new np2).tg, subT, fun H6 g6 k6 => ?_⟩⟩
    have I6 := (I5.new np2).prog k6 g6
    have a6 := (a5.kp (Kp.new (ms := []) (o := .tup []) np2)).kp k6
    refine ⟨Nat.zero_le _, fun p3 np3 => ⟨M, _, .tuple [], rfl, .tup upd_same .nil, by show 3 ≤ 1000000; decide, (I6.new np3).tg, subT, fun H7 g7 k7 => ?_⟩⟩
    have I7 := (I6.new np3).prog k7 g7
    have a7 := (a6.kp (Kp.new (ms := []) (o := .tup []) np3)).kp k7
    rw [s0, s1, t0, n0]
    refine ⟨by show 4 ≤ sizeLine; decide, fun q nq => re_bls [true, true, false, false] (by show 4 ≤ 10; decide) upd_same ?_⟩
    have I8 := I7.new (o := .tup ([true, true, false, false].map V.bl)) nq
    have a8 := a7.kp (Kp.new (ms := []) (o := .tup ([true, true, false, false].map V.bl)) nq)
    refine ⟨by show 4 ≤ sizeLine; decide, fun q2 nq2 => re_bls [true, true, false, false] (by show 4 ≤ 10; decide) upd_same ⟨rfl, _, rfl, iteNS rfl ?_⟩⟩
    have I9 := I8.new (o := .tup ([true, true, false, false].map V.bl)) nq2
    have a9 := a8.kp (Kp.new (ms := []) (o := .tup ([true, true, false, false].map V.bl)) nq2)
    refine ⟨8, rfl, by decide, by decide, ?_⟩
    refine for_range (lo := 0) (n := 8) (fun i σ H => ∃ (x2 x3 x5 x6 x7 : Option V), σ = [some (.ref c), some (.ref d), x2, x3, some pv', x5, x6, x7] ∧ LI d l a.Ts H ∧ AnT H pv' (.tuple ds))
      ⟨_, _, _, _, _, rfl, I9, a9⟩ ?_ ?_
    · rintro i σ Ha hi ⟨x2, x3, x5, x6, x7, rfl, Ia, aa⟩
      refine ⟨_, rfl, _, rfl, d, l, M, pv', ds, rfl, Ia.fr, aa M, hall, hws, hfit, hdep, hlen, fun v1 x1 Hb ab gb Fb kb => ?_⟩
      have Ib := Ia.own kb Fb
      have ap1 := aa.kp kb
      refine ⟨_, rfl, by show 4 ≤ sizeLine; decide, fun p np => ?_⟩
      have Ic := Ib.new (o := .lst ([0, 1, 1, 2].map fun (n : Nat) => V.int n)) np
      have nb := Ib.fr.ne np
      refine ⟨d, l, p, [0, 1, 1, 2].map fun (n : Nat) => V.int n, rfl, Ic.fr.dk, sql_of upd_same, by simp, by show 4 ≤ 1000000; decide, nb.1, nb.2, fun y Hd hy Dd kd => ?_⟩
      have kbd : Kp [d, l] Hb Hd := (Kp.new np).trans kd
      have Id := Ib.own kbd (Ib.fr.go kbd Dd)
      obtain ⟨m, hm, rfl⟩ := List.mem_map.mp hy
      have hm2 : m ≤ 2 := (by decide : ∀ m ∈ [0, 1, 1, 2], m ≤ 2) m hm
      refine ⟨(m : Int), rfl, by omega, by omega, ?_⟩
      rw [Int.toNat_natCast]
      refine for_range (lo := 0) (n := m) (fun j σ H => ∃ (v2 : V) (x2' : PyData) (y2 y5 : Option V), σ = [some (.ref c), some (.ref d), y2, some v2, some pv', y5, x6, x7] ∧ LI d l a.Ts H ∧ AnT H pv' (.tuple ds) ∧ An M H v2 x2' ∧ GoodJ (10 ^ 30 + 5 * j) (40 + 6 * j) (wI j) x2')
        ⟨v1, x1, _, _, rfl, Id, ap1.kp kbd, ab.kp kbd Ib.fr.sub _, gb.mono (by decide) (Nat.le_refl _) (Nat.le_refl _)⟩ ?_ ?_
      · rintro j σ He hj ⟨v2, x2', y2, y5, rfl, Ie, ae, axe, ge⟩
        have gw := ge.w
        have gd := ge.d
        have hw3 : wI j ≤ 300000 := by
          rcases (show j = 0 ∨ j = 1 by omega) with rfl | rfl
          · show 85000 ≤ 300000
            decide
          · show 2 * 85000 + 6000 ≤ 300000
            decide
        refine ⟨_, rfl, _, rfl, d, l, M, v2, x2', 10 ^ 30 + 5 * j, rfl, by omega, axe, ge.f, by omega, by omega, by omega, Ie.fr, fun v3 x3' Hf af gf Ff kf => ?_⟩
        refine ⟨v3, x3', _, _, rfl, Ie.own kf Ff, ae.kp kf, af, gf.mono (by omega) (by omega) ?_⟩
        show 2 * wd x2' + 6000 ≤ 2 * wI j + 6000
        omega
      · rintro σ He ⟨v2, x2', y2, y5, rfl, Ie, ae, axe, ge⟩
        have gg : Good 52 400000 x2' := by
          refine (ge.good (by omega)).mono (by omega) ?_
          rcases (show m = 0 ∨ m = 1 ∨ m = 2 by omega) with rfl | rfl | rfl
          · show 85000 ≤ 400000
            decide
          · show 2 * 85000 + 6000 ≤ 400000
            decide
          · show 2 * (2 * 85000 + 6000) + 6000 ≤ 400000
            decide
        refine ⟨_, rfl, d, l, 10, rfl, Ie.fr.dk, by decide, by decide, fun r Hf r0 r1 Df kf => ⟨rfl, _, rfl, ite2 (fun _ => ?_) (fun _ => ?_)⟩⟩
        · have If := Ie.own kf (Ie.fr.go kf Df)
          have af := ae.kp kf
          refine ⟨_, rfl, d, l, M, 3, rfl, by decide, If.fr, fun v3 x3' Hg ag gg2 Fg kg => ?_⟩
          have e3 : wJ 3 = 5730 := rfl
          exact rl _ Hg d l _ _ v3 x3' _ _ _ _ (If.own kg Fg) ag ((gg2.good (by decide)).mono (by decide) (by rw [e3]; decide)) fun y6 y7 Hh Ih kh => ⟨_, _, _, _, _, rfl, Ih, (af.kp kg).kp kh⟩
        · have If := Ie.own kf (Ie.fr.go kf Df)
          exact rl _ Hf d l _ _ v2 x2' _ _ _ _ If (axe.kp kf Ie.fr.sub _) gg fun y6 y7 Hh Ih kh => ⟨_, _, _, _, _, rfl, Ih, (ae.kp kf).kp kh⟩
    · rintro σ Ha ⟨x2, x3, x5, x6, x7, rfl, Ia, aa⟩
      exact k Ha
end
end Ey
/-! ### the end -/
namespace Ey
open PySem PySem.Spec L2
/-- what the head tells of one def -/
structure DfK (K : PySem.W.Frag) (x : Str) (st : Stmt) (f : Addr) (oc kV dc pm cd ct : Value) (od an : Option Addr) (sl : Array (Option Value)) : Prop where
  a : PySem.W.nsIn K mainGlobals x = some (some (.ref f))
  l : K.lookup f = some ⟨oc, od, .func (PySem.W.fnOf x x (defArgs st) (defBody st) (defScope st) .none kV dc pm an cd ct), sl⟩
  c : PySem.W.codeIn K cd x = true
  k : PySem.W.keepIn K (.ref f) = true
theorem DfK.df {K : PySem.W.Frag} {x : Str} {st : Stmt} {f : Addr} {oc kV dc pm cd ct : Value} {od an : Option Addr} {sl : Array (Option Value)} {mg : Str → Option Value} {h : Heap} {ps : List Str} (e : DfK K x st f oc kV dc pm cd ct od an sl) (X : K.In h) (G : h.Ns mainGlobals mg)
    (hb : ∀ (kV doc pm : Value) (an : Option Addr) (cdv ct : Value) (us : List Value), us.length = ps.length → bindArgs (PySem.W.fnOf x x (defArgs st) (defBody st) (defScope st) .none kV doc pm an cdv ct) ⟨us, []⟩ = pure (ps.zip us)) :
    Df K mg x st ps f (PySem.W.fnOf x x (defArgs st) (defBody st) (defScope st) .none kV dc pm an cd ct) :=
  ⟨fun_mk e.l e.c e.k, (fun_mk e.l e.c e.k).binds hb, PySem.W.mg_of X G e.a⟩


set_option maxHeartbeats 8000000 in
theorem all_mk {P : Program} {q : Program} {lo : List Str} {mean : ExcName → Option Value} {w : World} {K : PySem.W.Frag} {h : Heap} {mg mb : Str → Option Value} {fa : Addr} (X : K.In h) (T : PyProof.Rows.Top q lo mean mg mb h) (hfa : mg "law" = some (.ref fa))
    {c0 P0 c1 P1 c2 P2 c3 P3 aW aK aS : Addr} {dr0 dr1 dr2 dr3 : DefRec} {es : Array DictEntry} {nW nK nS : Nat} {itW itK : Array Value} {tL tT tN tM ts0 ts1 ts2 ts3 ts4 ts5 ts6 ts7 ts8 ts9 ts10 ts11 ts12 : Tok}
    {f3 f10 f11 f12 f13 f14 f15 f16 f18 f19 f20 f21 f22 f23 f24 f25 f26 f27 f28 f29 f30 f31 f32 f33 f34 f35 f36 f37 f38 f39 f40 f41 f42 : Addr}
    {oc3 kV3 dc3 pm3 ct3 oc10 kV10 dc10 pm10 ct10 oc11 kV11 dc11 pm11 ct11 oc12 kV12 dc12 pm12 ct12 cd12 oc13 kV13 dc13 pm13 ct13 cd13 oc14 kV14 dc14 pm14 ct14 cd14 oc15 kV15 dc15 pm15 ct15 cd15 oc16 kV16 dc16 pm16 ct16 oc18 kV18 dc18 pm18 ct18 cd18 oc19 kV19 dc19 pm19 ct19 cd19 oc20 kV20 dc20 pm20 ct20 cd20 oc21 kV21 dc21 pm21 ct21 cd21 oc22 kV22 dc22 pm22 ct22 cd22 oc23 kV23 dc23 pm23 ct23 cd23 oc24 kV24 dc24 pm24 ct24 cd24 oc25 kV25 dc25 pm25 ct25 cd25 oc26 kV26 dc26 pm26 ct26 cd26 oc27 kV27 dc27 pm27 ct27 cd27 oc28 kV28 dc28 pm28 ct28 cd28 oc29 kV29 dc29 pm29 ct29 cd29 oc30 kV30 dc30 pm30 ct30 cd30 oc31 kV31 dc31 pm31 ct31 cd31 oc32 kV32 dc32 pm32 ct32 cd32 oc33 kV33 dc33 pm33 ct33 cd33 oc34 kV34 dc34 pm34 ct34 cd34 oc35 kV35 dc35 pm35 ct35 cd35 oc36 kV36 dc36 pm36 ct36 cd36 oc37 kV37 dc37 pm37 ct37 cd37 oc38 kV38 dc38 pm38 ct38 cd38 oc39 kV39 dc39 pm39 ct39 cd39 oc40 kV40 dc40 pm40 ct40 cd40 oc41 kV41 dc41 pm41 ct41 cd41 oc42 kV42 dc42 pm42 ct42 cd42 : Value}
    {od3 an3 od10 an10 od11 an11 od12 an12 od13 an13 od14 an14 od15 an15 od16 an16 od18 an18 od19 an19 od20 an20 od21 an21 od22 an22 od23 an23 od24 an24 od25 an25 od26 an26 od27 an27 od28 an28 od29 an29 od30 an30 od31 an31 od32 an32 od33 an33 od34 an34 od35 an35 od36 an36 od37 an37 od38 an38 od39 an39 od40 an40 od41 an41 od42 an42 odW odK : Option Addr}
    {sl3 sl10 sl11 sl12 sl13 sl14 sl15 sl16 sl18 sl19 sl20 sl21 sl22 sl23 sl24 sl25 sl26 sl27 sl28 sl29 sl30 sl31 sl32 sl33 sl34 sl35 sl36 sl37 sl38 sl39 sl40 sl41 sl42 slW slK : Array (Option Value)}
    (e3 : DfK K "is_tag" sIsTag f3 oc3 kV3 dc3 pm3 (.ref c0) ct3 od3 an3 sl3)
    (e10 : DfK K "is_name" sIsName f10 oc10 kV10 dc10 pm10 (.ref c1) ct10 od10 an10 sl10)
    (e11 : DfK K "are_names" sAreNames f11 oc11 kV11 dc11 pm11 (.ref c2) ct11 od11 an11 sl11)
    (e12 : DfK K "parts_of" sPartsOf f12 oc12 kV12 dc12 pm12 cd12 ct12 od12 an12 sl12)
    (e13 : DfK K "is_headed" sIsHeaded f13 oc13 kV13 dc13 pm13 cd13 ct13 od13 an13 sl13)
    (e14 : DfK K "is_term" sIsTerm f14 oc14 kV14 dc14 pm14 cd14 ct14 od14 an14 sl14)
    (e15 : DfK K "is_function" sIsFunction f15 oc15 kV15 dc15 pm15 cd15 ct15 od15 an15 sl15)
    (e16 : DfK K "is_script" sIsScript f16 oc16 kV16 dc16 pm16 (.ref c3) ct16 od16 an16 sl16)
    (e18 : DfK K "_law_deck" sDeck f18 oc18 kV18 dc18 pm18 cd18 ct18 od18 an18 sl18)
    (e19 : DfK K "_law_draw" sDraw f19 oc19 kV19 dc19 pm19 cd19 ct19 od19 an19 sl19)
    (e20 : DfK K "_law_pick" sPick f20 oc20 kV20 dc20 pm20 cd20 ct20 od20 an20 sl20)
    (e21 : DfK K "_law_is_integer" sInt f21 oc21 kV21 dc21 pm21 cd21 ct21 od21 an21 sl21)
    (e22 : DfK K "_law_any" sAny f22 oc22 kV22 dc22 pm22 cd22 ct22 od22 an22 sl22)
    (e23 : DfK K "_law_instead" sInstead f23 oc23 kV23 dc23 pm23 cd23 ct23 od23 an23 sl23)
    (e24 : DfK K "_law_bent" sBent f24 oc24 kV24 dc24 pm24 cd24 ct24 od24 an24 sl24)
    (e25 : DfK K "_law_is_tag" sLIsTag f25 oc25 kV25 dc25 pm25 cd25 ct25 od25 an25 sl25)
    (e26 : DfK K "_law_tags" sTags f26 oc26 kV26 dc26 pm26 cd26 ct26 od26 an26 sl26)
    (e27 : DfK K "_law_words" sWords f27 oc27 kV27 dc27 pm27 cd27 ct27 od27 an27 sl27)
    (e28 : DfK K "_law_is_name" sLIsName f28 oc28 kV28 dc28 pm28 cd28 ct28 od28 an28 sl28)
    (e29 : DfK K "_law_sides" sSides f29 oc29 kV29 dc29 pm29 cd29 ct29 od29 an29 sl29)
    (e30 : DfK K "_law_is_term" sLIsTerm f30 oc30 kV30 dc30 pm30 cd30 ct30 od30 an30 sl30)
    (e31 : DfK K "_law_is_function" sLIsFunction f31 oc31 kV31 dc31 pm31 cd31 ct31 od31 an31 sl31)
    (e32 : DfK K "_law_is_script" sLIsScript f32 oc32 kV32 dc32 pm32 cd32 ct32 od32 an32 sl32)
    (e33 : DfK K "_law_pool" sPool f33 oc33 kV33 dc33 pm33 cd33 ct33 od33 an33 sl33)
    (e34 : DfK K "_law_drawn_term" sDTerm f34 oc34 kV34 dc34 pm34 cd34 ct34 od34 an34 sl34)
    (e35 : DfK K "_law_drawn_program" sProg f35 oc35 kV35 dc35 pm35 cd35 ct35 od35 an35 sl35)
    (e36 : DfK K "_law_term_paths" sTPaths f36 oc36 kV36 dc36 pm36 cd36 ct36 od36 an36 sl36)
    (e37 : DfK K "_law_paths" sPaths f37 oc37 kV37 dc37 pm37 cd37 ct37 od37 an37 sl37)
    (e38 : DfK K "_law_at" sAt f38 oc38 kV38 dc38 pm38 cd38 ct38 od38 an38 sl38)
    (e39 : DfK K "_law_spoilt" sSpoilt f39 oc39 kV39 dc39 pm39 cd39 ct39 od39 an39 sl39)
    (e40 : DfK K "_law_string" sString f40 oc40 kV40 dc40 pm40 cd40 ct40 od40 an40 sl40)
    (e41 : DfK K "_law_some_part" sPart f41 oc41 kV41 dc41 pm41 cd41 ct41 od41 an41 sl41)
    (e42 : DfK K "law" sLaw f42 oc42 kV42 dc42 pm42 cd42 ct42 od42 an42 sl42)
    (z_int : PySem.W.nsIn K mainGlobals "int" = some none)
    (z_max : PySem.W.nsIn K mainGlobals "max" = some none)
    (z_list : PySem.W.nsIn K mainGlobals "list" = some none)
    (z_len : PySem.W.nsIn K mainGlobals "len" = some none)
    (z_range : PySem.W.nsIn K mainGlobals "range" = some none)
    (z_tuple : PySem.W.nsIn K mainGlobals "tuple" = some none)
    (z_sorted : PySem.W.nsIn K mainGlobals "sorted" = some none)
    (z_repr : PySem.W.nsIn K mainGlobals "repr" = some none)
    (z_isi : PySem.W.nsIn K mainGlobals "isinstance" = some none)
    (z_str : PySem.W.nsIn K mainGlobals "str" = some none)
    (z_all : PySem.W.nsIn K mainGlobals "all" = some none)
    (z_bool : PySem.W.nsIn K mainGlobals "bool" = some none)
    (z_enum : PySem.W.nsIn K mainGlobals "enumerate" = some none)
    (tb0 : PySem.W.tabIn K "is_tag" = some (c0, P0)) (rc0 : (PyProof.Rows.recsOf q).find? (fun e => e.name == ("is_tag" : Str)) = some dr0) (nT0 : K.lookup P0 = none)
    (tb1 : PySem.W.tabIn K "is_name" = some (c1, P1)) (rc1 : (PyProof.Rows.recsOf q).find? (fun e => e.name == ("is_name" : Str)) = some dr1) (nT1 : K.lookup P1 = none)
    (tb2 : PySem.W.tabIn K "are_names" = some (c2, P2)) (rc2 : (PyProof.Rows.recsOf q).find? (fun e => e.name == ("are_names" : Str)) = some dr2) (nT2 : K.lookup P2 = none)
    (tb3 : PySem.W.tabIn K "is_script" = some (c3, P3)) (rc3 : (PyProof.Rows.recsOf q).find? (fun e => e.name == ("is_script" : Str)) = some dr3) (nT3 : K.lookup P3 = none)
    (gL : PySem.W.nsIn K mainGlobals "LETTERS" = some (some (.str "abcdefghijklmnopqrstuvwxyz" tL))) (gT : PySem.W.nsIn K mainGlobals "TAG_LENGTH" = some (some (.int 8 tT)))
    (gN : PySem.W.nsIn K mainGlobals "NAME_SIGNS" = some (some (.str "abcdefghijklmnopqrstuvwxyz0123456789_" tN))) (gM : PySem.W.nsIn K mainGlobals "NAME_LENGTH" = some (some (.int 20 tM)))
    (gW : PySem.W.nsIn K mainGlobals "WORDS" = some (some (.ref aW))) (lW : K.lookup aW = some ⟨.type "tuple", odW, .seq itW nW, slW⟩) (vW : Vals (wordsL.map V.str) itW.toList) (zW : itW.size ≤ sizeLine)
    (gK : PySem.W.nsIn K mainGlobals "KINDS" = some (some (.ref aK))) (lK : K.lookup aK = some ⟨.type "tuple", odK, .seq itK nK, slK⟩) (vK : Vals (kindsL.map V.str) itK.toList) (zK : itK.size ≤ sizeLine)
    (gS : PySem.W.nsIn K mainGlobals "PLAIN_SHAPES" = some (some (.ref aS))) (lS : K.lookup aS = some ⟨.type "dict", none, .dict es nS, #[]⟩) (kS : PySem.W.KeysLit w.params es.toList) (sS : (aS == sysModules) = false)
    (mS : es.toList.map keyS = (shapes.map (·.1)).map some) (sg0 : PySem.W.nsIn K aS "top" = some (some (.int 0 ts0))) (sg1 : PySem.W.nsIn K aS "yes" = some (some (.int 0 ts1))) (sg2 : PySem.W.nsIn K aS "no" = some (some (.int 0 ts2))) (sg3 : PySem.W.nsIn K aS "left" = some (some (.int 1 ts3))) (sg4 : PySem.W.nsIn K aS "right" = some (some (.int 1 ts4))) (sg5 : PySem.W.nsIn K aS "up" = some (some (.int 1 ts5))) (sg6 : PySem.W.nsIn K aS "empty" = some (some (.int 1 ts6))) (sg7 : PySem.W.nsIn K aS "not" = some (some (.int 1 ts7))) (sg8 : PySem.W.nsIn K aS "same" = some (some (.int 2 ts8))) (sg9 : PySem.W.nsIn K aS "and" = some (some (.int 2 ts9))) (sg10 : PySem.W.nsIn K aS "or" = some (some (.int 2 ts10))) (sg11 : PySem.W.nsIn K aS "either" = some (some (.int 2 ts11))) (sg12 : PySem.W.nsIn K aS "if" = some (some (.int 3 ts12))) :
    ∃ (fd : FuncData) (cs : List (Addr × Addr)) (sp : Sp), Tabs K h cs ∧ (∀ (s : Shared) (u : Value), BindsTo s fd ⟨[u], []⟩ [("_law_script", u)]) ∧
      (∀ (H : Hp) (a : Addr) (ns : List Int), ns.length ≤ 63 → (∀ p ∈ cs, H p.2 = some (.tbl #[])) → SqL K H a (ns.map V.int) → sp [.ref a] H (fun v _ => v = .bl true) E0) ∧
      ∀ base : Heap, K.In base → base.Ns mainGlobals mg → (∀ p ∈ cs, GxR.TabB base mg p.1 p.2) → (∃ mm, base.Ns sysModules mm) → LawOk P w K mg base fa fd "_law_script" sp := by
  have G := T.g
  have e := hfa.symm.trans (PySem.W.mg_of X G e42.a)
  cases e
  obtain ⟨hd0, tq0⟩ := PySem.W.tab_of T X rc0 tb0
  obtain ⟨hd1, tq1⟩ := PySem.W.tab_of T X rc1 tb1
  obtain ⟨hd2, tq2⟩ := PySem.W.tab_of T X rc2 tb2
  obtain ⟨hd3, tq3⟩ := PySem.W.tab_of T X rc3 tb3
  have B : BI mg := ⟨PySem.W.mg_none_of X G z_int, PySem.W.mg_none_of X G z_max, PySem.W.mg_none_of X G z_list, PySem.W.mg_none_of X G z_len, PySem.W.mg_none_of X G z_range, PySem.W.mg_none_of X G z_tuple, PySem.W.mg_none_of X G z_sorted, PySem.W.mg_none_of X G z_repr, PySem.W.mg_none_of X G z_isi, PySem.W.mg_none_of X G z_str, PySem.W.mg_none_of X G z_all, PySem.W.mg_none_of X G z_bool, PySem.W.mg_none_of X G z_enum⟩
  have D3 := e3.df (ps := ["thing"]) X G fun _ _ _ _ _ _ us hl => match us, hl with | [_], _ => rfl
  have D10 := e10.df (ps := ["thing"]) X G fun _ _ _ _ _ _ us hl => match us, hl with | [_], _ => rfl
  have D11 := e11.df (ps := ["thing"]) X G fun _ _ _ _ _ _ us hl => match us, hl with | [_], _ => rfl
  have D12 := e12.df (ps := ["term"]) X G fun _ _ _ _ _ _ us hl => match us, hl with | [_], _ => rfl
  have D13 := e13.df (ps := ["thing"]) X G fun _ _ _ _ _ _ us hl => match us, hl with | [_], _ => rfl
  have D14 := e14.df (ps := ["thing"]) X G fun _ _ _ _ _ _ us hl => match us, hl with | [_], _ => rfl
  have D15 := e15.df (ps := ["thing"]) X G fun _ _ _ _ _ _ us hl => match us, hl with | [_], _ => rfl
  have D16 := e16.df (ps := ["thing"]) X G fun _ _ _ _ _ _ us hl => match us, hl with | [_], _ => rfl
  have D18 := e18.df (ps := ["_law_script", "_law_seed"]) X G fun _ _ _ _ _ _ us hl => match us, hl with | [_, _], _ => rfl
  have D19 := e19.df (ps := ["_law_deck_here", "_law_many"]) X G fun _ _ _ _ _ _ us hl => match us, hl with | [_, _], _ => rfl
  have D20 := e20.df (ps := ["_law_deck_here", "_law_some"]) X G fun _ _ _ _ _ _ us hl => match us, hl with | [_, _], _ => rfl
  have D21 := e21.df (ps := ["_law_thing"]) X G fun _ _ _ _ _ _ us hl => match us, hl with | [_], _ => rfl
  have D22 := e22.df (ps := ["_law_deck_here", "_law_deep"]) X G fun _ _ _ _ _ _ us hl => match us, hl with | [_, _], _ => rfl
  have D23 := e23.df (ps := ["_law_some", "_law_at_here", "_law_item"]) X G fun _ _ _ _ _ _ us hl => match us, hl with | [_, _, _], _ => rfl
  have D24 := e24.df (ps := ["_law_deck_here", "_law_thing", "_law_deep"]) X G fun _ _ _ _ _ _ us hl => match us, hl with | [_, _, _], _ => rfl
  have D25 := e25.df (ps := ["_law_thing"]) X G fun _ _ _ _ _ _ us hl => match us, hl with | [_], _ => rfl
  have D26 := e26.df (ps := []) X G fun _ _ _ _ _ _ us hl => match us, hl with | [], _ => rfl
  have D27 := e27.df (ps := []) X G fun _ _ _ _ _ _ us hl => match us, hl with | [], _ => rfl
  have D28 := e28.df (ps := ["_law_thing"]) X G fun _ _ _ _ _ _ us hl => match us, hl with | [_], _ => rfl
  have D29 := e29.df (ps := ["_law_term"]) X G fun _ _ _ _ _ _ us hl => match us, hl with | [_], _ => rfl
  have D30 := e30.df (ps := ["_law_thing"]) X G fun _ _ _ _ _ _ us hl => match us, hl with | [_], _ => rfl
  have D31 := e31.df (ps := ["_law_thing"]) X G fun _ _ _ _ _ _ us hl => match us, hl with | [_], _ => rfl
  have D32 := e32.df (ps := ["_law_thing"]) X G fun _ _ _ _ _ _ us hl => match us, hl with | [_], _ => rfl
  have D33 := e33.df (ps := []) X G fun _ _ _ _ _ _ us hl => match us, hl with | [], _ => rfl
  have D34 := e34.df (ps := ["_law_deck_here", "_law_box", "_law_kind", "_law_names", "_law_deep"]) X G fun _ _ _ _ _ _ us hl => match us, hl with | [_, _, _, _, _], _ => rfl
  have D35 := e35.df (ps := ["_law_deck_here", "_law_most", "_law_size"]) X G fun _ _ _ _ _ _ us hl => match us, hl with | [_, _, _], _ => rfl
  have D36 := e36.df (ps := ["_law_term", "_law_path"]) X G fun _ _ _ _ _ _ us hl => match us, hl with | [_, _], _ => rfl
  have D37 := e37.df (ps := ["_law_script"]) X G fun _ _ _ _ _ _ us hl => match us, hl with | [_], _ => rfl
  have D38 := e38.df (ps := ["_law_thing", "_law_path"]) X G fun _ _ _ _ _ _ us hl => match us, hl with | [_, _], _ => rfl
  have D39 := e39.df (ps := ["_law_deck_here", "_law_thing"]) X G fun _ _ _ _ _ _ us hl => match us, hl with | [_, _], _ => rfl
  have D40 := e40.df (ps := ["_law_deck_here"]) X G fun _ _ _ _ _ _ us hl => match us, hl with | [_], _ => rfl
  have D41 := e41.df (ps := ["_law_deck_here", "_law_program"]) X G fun _ _ _ _ _ _ us hl => match us, hl with | [_, _], _ => rfl
  have D42 := e42.df (ps := ["_law_script"]) X G fun _ _ _ _ _ _ us hl => match us, hl with | [_], _ => rfl
  have DT3 : DfT K mg "is_tag" sIsTag ["thing"] f3 _ c0 := ⟨D3, _, _, _, _, _, _, _, _, rfl, e3.l, e3.c⟩
  have DT10 : DfT K mg "is_name" sIsName ["thing"] f10 _ c1 := ⟨D10, _, _, _, _, _, _, _, _, rfl, e10.l, e10.c⟩
  have DT11 : DfT K mg "are_names" sAreNames ["thing"] f11 _ c2 := ⟨D11, _, _, _, _, _, _, _, _, rfl, e11.l, e11.c⟩
  have DT16 : DfT K mg "is_script" sIsScript ["thing"] f16 _ c3 := ⟨D16, _, _, _, _, _, _, _, _, rfl, e16.l, e16.c⟩
  have sG : ∀ p ∈ shapes, ∃ t, PySem.W.nsIn K aS p.1 = some (some (.int (p.2 : Int) t)) := by
    intro p hp
    simp only [shapes, List.mem_cons, List.not_mem_nil, or_false] at hp
    rcases hp with rfl | rfl | rfl | rfl | rfl | rfl | rfl | rfl | rfl | rfl | rfl | rfl | rfl
    · exact ⟨_, sg0⟩
    · exact ⟨_, sg1⟩
    · exact ⟨_, sg2⟩
    · exact ⟨_, sg3⟩
    · exact ⟨_, sg4⟩
    · exact ⟨_, sg5⟩
    · exact ⟨_, sg6⟩
    · exact ⟨_, sg7⟩
    · exact ⟨_, sg8⟩
    · exact ⟨_, sg9⟩
    · exact ⟨_, sg10⟩
    · exact ⟨_, sg11⟩
    · exact ⟨_, sg12⟩
  let AA : Nat → Addr := fun i => match i with
    | 3 => f3
    | 10 => f10
    | 11 => f11
    | 12 => f12
    | 13 => f13
    | 14 => f14
    | 15 => f15
    | 16 => f16
    | 18 => f18
    | 19 => f19
    | 20 => f20
    | 21 => f21
    | 22 => f22
    | 23 => f23
    | 24 => f24
    | 25 => f25
    | 26 => f26
    | 27 => f27
    | 28 => f28
    | 29 => f29
    | 30 => f30
    | 31 => f31
    | 32 => f32
    | 33 => f33
    | 34 => f34
    | 35 => f35
    | 36 => f36
    | 37 => f37
    | 38 => f38
    | 39 => f39
    | 40 => f40
    | 41 => f41
    | _ => 0
  let DD : Nat → FuncData := fun i => match i with
    | 3 => PySem.W.fnOf "is_tag" "is_tag" (defArgs sIsTag) (defBody sIsTag) (defScope sIsTag) .none kV3 dc3 pm3 an3 (.ref c0) ct3
    | 10 => PySem.W.fnOf "is_name" "is_name" (defArgs sIsName) (defBody sIsName) (defScope sIsName) .none kV10 dc10 pm10 an10 (.ref c1) ct10
    | 11 => PySem.W.fnOf "are_names" "are_names" (defArgs sAreNames) (defBody sAreNames) (defScope sAreNames) .none kV11 dc11 pm11 an11 (.ref c2) ct11
    | 12 => PySem.W.fnOf "parts_of" "parts_of" (defArgs sPartsOf) (defBody sPartsOf) (defScope sPartsOf) .none kV12 dc12 pm12 an12 cd12 ct12
    | 13 => PySem.W.fnOf "is_headed" "is_headed" (defArgs sIsHeaded) (defBody sIsHeaded) (defScope sIsHeaded) .none kV13 dc13 pm13 an13 cd13 ct13
    | 14 => PySem.W.fnOf "is_term" "is_term" (defArgs sIsTerm) (defBody sIsTerm) (defScope sIsTerm) .none kV14 dc14 pm14 an14 cd14 ct14
    | 15 => PySem.W.fnOf "is_function" "is_function" (defArgs sIsFunction) (defBody sIsFunction) (defScope sIsFunction) .none kV15 dc15 pm15 an15 cd15 ct15
    | 16 => PySem.W.fnOf "is_script" "is_script" (defArgs sIsScript) (defBody sIsScript) (defScope sIsScript) .none kV16 dc16 pm16 an16 (.ref c3) ct16
    | 18 => PySem.W.fnOf "_law_deck" "_law_deck" (defArgs sDeck) (defBody sDeck) (defScope sDeck) .none kV18 dc18 pm18 an18 cd18 ct18
    | 19 => PySem.W.fnOf "_law_draw" "_law_draw" (defArgs sDraw) (defBody sDraw) (defScope sDraw) .none kV19 dc19 pm19 an19 cd19 ct19
    | 20 => PySem.W.fnOf "_law_pick" "_law_pick" (defArgs sPick) (defBody sPick) (defScope sPick) .none kV20 dc20 pm20 an20 cd20 ct20
    | 21 => PySem.W.fnOf "_law_is_integer" "_law_is_integer" (defArgs sInt) (defBody sInt) (defScope sInt) .none kV21 dc21 pm21 an21 cd21 ct21
    | 22 => PySem.W.fnOf "_law_any" "_law_any" (defArgs sAny) (defBody sAny) (defScope sAny) .none kV22 dc22 pm22 an22 cd22 ct22
    | 23 => PySem.W.fnOf "_law_instead" "_law_instead" (defArgs sInstead) (defBody sInstead) (defScope sInstead) .none kV23 dc23 pm23 an23 cd23 ct23
    | 24 => PySem.W.fnOf "_law_bent" "_law_bent" (defArgs sBent) (defBody sBent) (defScope sBent) .none kV24 dc24 pm24 an24 cd24 ct24
    | 25 => PySem.W.fnOf "_law_is_tag" "_law_is_tag" (defArgs sLIsTag) (defBody sLIsTag) (defScope sLIsTag) .none kV25 dc25 pm25 an25 cd25 ct25
    | 26 => PySem.W.fnOf "_law_tags" "_law_tags" (defArgs sTags) (defBody sTags) (defScope sTags) .none kV26 dc26 pm26 an26 cd26 ct26
    | 27 => PySem.W.fnOf "_law_words" "_law_words" (defArgs sWords) (defBody sWords) (defScope sWords) .none kV27 dc27 pm27 an27 cd27 ct27
    | 28 => PySem.W.fnOf "_law_is_name" "_law_is_name" (defArgs sLIsName) (defBody sLIsName) (defScope sLIsName) .none kV28 dc28 pm28 an28 cd28 ct28
    | 29 => PySem.W.fnOf "_law_sides" "_law_sides" (defArgs sSides) (defBody sSides) (defScope sSides) .none kV29 dc29 pm29 an29 cd29 ct29
    | 30 => PySem.W.fnOf "_law_is_term" "_law_is_term" (defArgs sLIsTerm) (defBody sLIsTerm) (defScope sLIsTerm) .none kV30 dc30 pm30 an30 cd30 ct30
    | 31 => PySem.W.fnOf "_law_is_function" "_law_is_function" (defArgs sLIsFunction) (defBody sLIsFunction) (defScope sLIsFunction) .none kV31 dc31 pm31 an31 cd31 ct31
    | 32 => PySem.W.fnOf "_law_is_script" "_law_is_script" (defArgs sLIsScript) (defBody sLIsScript) (defScope sLIsScript) .none kV32 dc32 pm32 an32 cd32 ct32
    | 33 => PySem.W.fnOf "_law_pool" "_law_pool" (defArgs sPool) (defBody sPool) (defScope sPool) .none kV33 dc33 pm33 an33 cd33 ct33
    | 34 => PySem.W.fnOf "_law_drawn_term" "_law_drawn_term" (defArgs sDTerm) (defBody sDTerm) (defScope sDTerm) .none kV34 dc34 pm34 an34 cd34 ct34
    | 35 => PySem.W.fnOf "_law_drawn_program" "_law_drawn_program" (defArgs sProg) (defBody sProg) (defScope sProg) .none kV35 dc35 pm35 an35 cd35 ct35
    | 36 => PySem.W.fnOf "_law_term_paths" "_law_term_paths" (defArgs sTPaths) (defBody sTPaths) (defScope sTPaths) .none kV36 dc36 pm36 an36 cd36 ct36
    | 37 => PySem.W.fnOf "_law_paths" "_law_paths" (defArgs sPaths) (defBody sPaths) (defScope sPaths) .none kV37 dc37 pm37 an37 cd37 ct37
    | 38 => PySem.W.fnOf "_law_at" "_law_at" (defArgs sAt) (defBody sAt) (defScope sAt) .none kV38 dc38 pm38 an38 cd38 ct38
    | 39 => PySem.W.fnOf "_law_spoilt" "_law_spoilt" (defArgs sSpoilt) (defBody sSpoilt) (defScope sSpoilt) .none kV39 dc39 pm39 an39 cd39 ct39
    | 40 => PySem.W.fnOf "_law_string" "_law_string" (defArgs sString) (defBody sString) (defScope sString) .none kV40 dc40 pm40 an40 cd40 ct40
    | 41 => PySem.W.fnOf "_law_some_part" "_law_some_part" (defArgs sPart) (defBody sPart) (defScope sPart) .none kV41 dc41 pm41 an41 cd41 ct41
    | _ => PySem.W.fnOf "law" "law" (defArgs sLaw) (defBody sLaw) (defScope sLaw) .none kV42 dc42 pm42 an42 cd42 ct42
  let ad : Adr := ⟨AA, DD, c0, P0, c1, P1, c2, P2, c3, P3, aW, aK, aS⟩
  have Fp : PF K w mg ad := ⟨B, DT3, DT10, DT11, D12, D13, D14, D15, DT16, ⟨tL, PySem.W.mg_of X G gL⟩, ⟨tT, PySem.W.mg_of X G gT⟩, ⟨tN, PySem.W.mg_of X G gN⟩, ⟨tM, PySem.W.mg_of X G gM⟩, ⟨PySem.W.mg_of X G gW, _, _, _, lW, rfl, rfl, zW, vW⟩, ⟨PySem.W.mg_of X G gK, _, _, _, lK, rfl, rfl, zK, vK⟩, PySem.W.mg_of X G gS, ⟨es, nS, ⟨lS, kS, sS⟩, mS⟩, sG⟩
  have L1 : LF K mg AA DD := ⟨B, D25, D26, D27, D28, D29⟩
  have L2 : LG K mg AA DD := ⟨L1, D30, D31, D32⟩
  have L3 : LH K mg AA DD := ⟨L2, D19, D20, D21, D22, D23⟩
  have L4 : LB K mg AA DD := ⟨L3, D24⟩
  have L5 : LS K mg AA DD := ⟨L4, D33, D39⟩
  have L6 : LT K mg AA DD := ⟨L5, D40⟩
  have L7 : LP K mg AA DD := ⟨L6, D36, D37, D38⟩
  have L8 : LD K mg AA DD := ⟨L7, D34⟩
  have L9 : LQ K mg AA DD := ⟨L8, D35⟩
  have LR0 : LR K mg AA DD := ⟨L9, D41⟩
  have kN : KBinds K (DD 10) ["thing"] ["thing"] gRev gRev := Ey.Fun.revs D10.F (by simp) fun _ _ _ _ _ _ us hl => match us, hl with | [_], _ => rfl
  have kT : KBinds K (DD 14) ["thing"] ["thing"] gRev gRev := Ey.Fun.revs D14.F (by simp) fun _ _ _ _ _ _ us hl => match us, hl with | [_], _ => rfl
  have kS0 : KBinds K (DD 16) ["thing"] ["thing"] gRev gRev := Ey.Fun.revs D16.F (by simp) fun _ _ _ _ _ _ us hl => match us, hl with | [_], _ => rfl
  have L : LA K w mg AA DD ad := ⟨LR0, D18, Fp, kN, kT, kS0⟩
  have cases4 : ∀ {R : Addr × Addr → Prop}, R (c0, P0) → R (c1, P1) → R (c2, P2) → R (c3, P3) → ∀ p ∈ [(c0, P0), (c1, P1), (c2, P2), (c3, P3)], R p := by
    intro R h0 h1 h2 h3 p hp
    simp only [List.mem_cons, List.not_mem_nil, or_false] at hp
    rcases hp with rfl | rfl | rfl | rfl
    · exact h0
    · exact h1
    · exact h2
    · exact h3
  refine ⟨_, [(c0, P0), (c1, P1), (c2, P2), (c3, P3)], spLaw K [P0, P1, P2, P3], ⟨cases4 tq0 tq1 tq2 tq3, cases4 nT0 nT1 nT2 nT3, cases4 hd0 hd1 hd2 hd3⟩, fun s u => .of_eq rfl, fun H a ns hn hT hS => ?_, fun base KB MB TB hs => ok_law D42.F L ⟨TB (c0, P0) (by simp), TB (c1, P1) (by simp), TB (c2, P2) (by simp), TB (c3, P3) (by simp), MB⟩ hs⟩
  refine ⟨a, ns, rfl, hS, hn, fun P hP => ?_, fun _ => rfl⟩
  simp only [List.mem_cons, List.not_mem_nil, or_false] at hP
  rcases hP with e | e | e | e
  · rw [e]
    exact ⟨#[], hT (c0, P0) (by simp), trivial⟩
  · rw [e]
    exact ⟨#[], hT (c1, P1) (by simp), trivial⟩
  · rw [e]
    exact ⟨#[], hT (c2, P2) (by simp), trivial⟩
  · rw [e]
    exact ⟨#[], hT (c3, P3) (by simp), trivial⟩
end Ey
open PySem PySem.W PyProof.Rows
set_option maxRecDepth 100000 in
set_option maxHeartbeats 0 in
theorem PySem.Challenge.cw_eyesonly_k04_names_terms_and_scripts_of_holds : PySem.Challenge.rw_eyesonly_k04_names_terms_and_scripts_of.Holds := by
  w_on; o_law; k_head; (case hw => w_witness2)
  k_fill
  refine Ey.walk_law (l := PySem.Challenge.rw_eyesonly_k04_names_terms_and_scripts_of) (x := "_law_script") (by decide +kernel) rfl (by decide) rfl (fun w h Y => PySem.W.kIn_of Y) ?F
  case F =>
    intro w mg fa h lo mean mb KX T hmg
    refine' Ey.all_mk (w := w) KX T hmg ⟨?a3, ?l3, ?c3, ?k3⟩ ⟨?a10, ?l10, ?c10, ?k10⟩ ⟨?a11, ?l11, ?c11, ?k11⟩ ⟨?a12, ?l12, ?c12, ?k12⟩ ⟨?a13, ?l13, ?c13, ?k13⟩ ⟨?a14, ?l14, ?c14, ?k14⟩ ⟨?a15, ?l15, ?c15, ?k15⟩ ⟨?a16, ?l16, ?c16, ?k16⟩ ⟨?a18, ?l18, ?c18, ?k18⟩ ⟨?a19, ?l19, ?c19, ?k19⟩ ⟨?a20, ?l20, ?c20, ?k20⟩ ⟨?a21, ?l21, ?c21, ?k21⟩ ⟨?a22, ?l22, ?c22, ?k22⟩ ⟨?a23, ?l23, ?c23, ?k23⟩ ⟨?a24, ?l24, ?c24, ?k24⟩ ⟨?a25, ?l25, ?c25, ?k25⟩ ⟨?a26, ?l26, ?c26, ?k26⟩ ⟨?a27, ?l27, ?c27, ?k27⟩ ⟨?a28, ?l28, ?c28, ?k28⟩ ⟨?a29, ?l29, ?c29, ?k29⟩ ⟨?a30, ?l30, ?c30, ?k30⟩ ⟨?a31, ?l31, ?c31, ?k31⟩ ⟨?a32, ?l32, ?c32, ?k32⟩ ⟨?a33, ?l33, ?c33, ?k33⟩ ⟨?a34, ?l34, ?c34, ?k34⟩ ⟨?a35, ?l35, ?c35, ?k35⟩ ⟨?a36, ?l36, ?c36, ?k36⟩ ⟨?a37, ?l37, ?c37, ?k37⟩ ⟨?a38, ?l38, ?c38, ?k38⟩ ⟨?a39, ?l39, ?c39, ?k39⟩ ⟨?a40, ?l40, ?c40, ?k40⟩ ⟨?a41, ?l41, ?c41, ?k41⟩ ⟨?a42, ?l42, ?c42, ?k42⟩ ?zint ?zmax ?zlist ?zlen ?zrange ?ztuple ?zsorted ?zrepr ?zisi ?zstr ?zall ?zbool ?zenum ?tb0 ?rc0 ?nT0 ?tb1 ?rc1 ?nT1 ?tb2 ?rc2 ?nT2 ?tb3 ?rc3 ?nT3 ?gL ?gT ?gN ?gM ?gW ?lW ?vW ?zW ?gK ?lK ?vK ?zK ?gS ?lS ?kS ?sS ?mS ?sg0 ?sg1 ?sg2 ?sg3 ?sg4 ?sg5 ?sg6 ?sg7 ?sg8 ?sg9 ?sg10 ?sg11 ?sg12
    (case a3 => k_is); (case l3 => k_is); (case c3 => k_is); (case k3 => k_is)
    (case a10 => k_is); (case l10 => k_is); (case c10 => k_is); (case k10 => k_is)
    (case a11 => k_is); (case l11 => k_is); (case c11 => k_is); (case k11 => k_is)
    (case a12 => k_is); (case l12 => k_is); (case c12 => k_is); (case k12 => k_is)
    (case a13 => k_is); (case l13 => k_is); (case c13 => k_is); (case k13 => k_is)
    (case a14 => k_is); (case l14 => k_is); (case c14 => k_is); (case k14 => k_is)
    (case a15 => k_is); (case l15 => k_is); (case c15 => k_is); (case k15 => k_is)
    (case a16 => k_is); (case l16 => k_is); (case c16 => k_is); (case k16 => k_is)
    (case a18 => k_is); (case l18 => k_is); (case c18 => k_is); (case k18 => k_is)
    (case a19 => k_is); (case l19 => k_is); (case c19 => k_is); (case k19 => k_is)
    (case a20 => k_is); (case l20 => k_is); (case c20 => k_is); (case k20 => k_is)
    (case a21 => k_is); (case l21 => k_is); (case c21 => k_is); (case k21 => k_is)
    (case a22 => k_is); (case l22 => k_is); (case c22 => k_is); (case k22 => k_is)
    (case a23 => k_is); (case l23 => k_is); (case c23 => k_is); (case k23 => k_is)
    (case a24 => k_is); (case l24 => k_is); (case c24 => k_is); (case k24 => k_is)
    (case a25 => k_is); (case l25 => k_is); (case c25 => k_is); (case k25 => k_is)
    (case a26 => k_is); (case l26 => k_is); (case c26 => k_is); (case k26 => k_is)
    (case a27 => k_is); (case l27 => k_is); (case c27 => k_is); (case k27 => k_is)
    (case a28 => k_is); (case l28 => k_is); (case c28 => k_is); (case k28 => k_is)
    (case a29 => k_is); (case l29 => k_is); (case c29 => k_is); (case k29 => k_is)
    (case a30 => k_is); (case l30 => k_is); (case c30 => k_is); (case k30 => k_is)
    (case a31 => k_is); (case l31 => k_is); (case c31 => k_is); (case k31 => k_is)
    (case a32 => k_is); (case l32 => k_is); (case c32 => k_is); (case k32 => k_is)
    (case a33 => k_is); (case l33 => k_is); (case c33 => k_is); (case k33 => k_is)
    (case a34 => k_is); (case l34 => k_is); (case c34 => k_is); (case k34 => k_is)
    (case a35 => k_is); (case l35 => k_is); (case c35 => k_is); (case k35 => k_is)
    (case a36 => k_is); (case l36 => k_is); (case c36 => k_is); (case k36 => k_is)
    (case a37 => k_is); (case l37 => k_is); (case c37 => k_is); (case k37 => k_is)
    (case a38 => k_is); (case l38 => k_is); (case c38 => k_is); (case k38 => k_is)
    (case a39 => k_is); (case l39 => k_is); (case c39 => k_is); (case k39 => k_is)
    (case a40 => k_is); (case l40 => k_is); (case c40 => k_is); (case k40 => k_is)
    (case a41 => k_is); (case l41 => k_is); (case c41 => k_is); (case k41 => k_is)
    (case a42 => k_is); (case l42 => k_is); (case c42 => k_is); (case k42 => k_is)
    (case zint => k_is); (case zmax => k_is); (case zlist => k_is); (case zlen => k_is); (case zrange => k_is); (case ztuple => k_is); (case zsorted => k_is); (case zrepr => k_is); (case zisi => k_is); (case zstr => k_is); (case zall => k_is); (case zbool => k_is); (case zenum => k_is)
    (case tb0 => rfl)
    (case rc0 => rfl)
    (case nT0 => rfl)
    (case tb1 => rfl)
    (case rc1 => rfl)
    (case nT1 => rfl)
    (case tb2 => rfl)
    (case rc2 => rfl)
    (case nT2 => rfl)
    (case tb3 => rfl)
    (case rc3 => rfl)
    (case nT3 => rfl)
    (case gL => k_is); (case gT => k_is); (case gN => k_is); (case gM => k_is)
    (case gW => k_is); (case lW => k_is)
    (case vW => exact (.cons ⟨_, rfl⟩ (.cons ⟨_, rfl⟩ (.cons ⟨_, rfl⟩ (.cons ⟨_, rfl⟩ (.cons ⟨_, rfl⟩ (.cons ⟨_, rfl⟩ (.cons ⟨_, rfl⟩ (.cons ⟨_, rfl⟩ (.cons ⟨_, rfl⟩ (.cons ⟨_, rfl⟩ (.cons ⟨_, rfl⟩ (.cons ⟨_, rfl⟩ (.cons ⟨_, rfl⟩ (.cons ⟨_, rfl⟩ (.cons ⟨_, rfl⟩ (.cons ⟨_, rfl⟩ (.cons ⟨_, rfl⟩ (.cons ⟨_, rfl⟩ (.cons ⟨_, rfl⟩ .nil))))))))))))))))))))
    (case zW => decide)
    (case gK => k_is); (case lK => k_is)
    (case vK => exact (.cons ⟨_, rfl⟩ (.cons ⟨_, rfl⟩ .nil)))
    (case zK => decide)
    (case gS => k_is); (case lS => k_is)
    (case kS => exact ⟨⟨_, _, rfl, rfl⟩, ⟨_, _, rfl, rfl⟩, ⟨_, _, rfl, rfl⟩, ⟨_, _, rfl, rfl⟩, ⟨_, _, rfl, rfl⟩, ⟨_, _, rfl, rfl⟩, ⟨_, _, rfl, rfl⟩, ⟨_, _, rfl, rfl⟩, ⟨_, _, rfl, rfl⟩, ⟨_, _, rfl, rfl⟩, ⟨_, _, rfl, rfl⟩, ⟨_, _, rfl, rfl⟩, ⟨_, _, rfl, rfl⟩, trivial⟩)
    (case sS => decide)
    (case mS => rfl)
    (case sg0 => k_is); (case sg1 => k_is); (case sg2 => k_is); (case sg3 => k_is); (case sg4 => k_is); (case sg5 => k_is); (case sg6 => k_is); (case sg7 => k_is); (case sg8 => k_is); (case sg9 => k_is); (case sg10 => k_is); (case sg11 => k_is); (case sg12 => k_is)
