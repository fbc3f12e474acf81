import PyProof.Rows.All
import Wide.All
import OpenK.AllK
import Wide.FinOn
import PyProof.ReprRoads
import KE.KSortAny
import PyProof.Rows.SortShellAny
import HandS.ForMost
import HandS.IsInst
import HandS.AnyAll
import HandS.EndTab
import HandS.HeadWalk
import HandS.WrittenGet
import PyProof.TupleOfGen
import HandS.Conv
import HandS.StrMore
import HandS.Style
import HandS.More
import PySem.Challenge.RW_eyesonly_k02_ways_next_places_and_parts
set_option Elab.async false
set_option linter.all false
set_option maxRecDepth 100000
set_option maxHeartbeats 4000000
namespace Ey
open PySem PySem.Spec PyProof.Rows L2
/-! ### repr of data -/
mutual
theorem dp_plain {K : PySem.W.Frag} {H : Hp} : ∀ (d : PyData) (v : V), Dp K H v d → d.hasDict = false
  | .none, _, _ => rfl
  | .bool _, _, _ => rfl
  | .int _, _, _ => rfl
  | .str _, _, _ => rfl
  | .list ds, _, h => by
    cases h with
    | lst _ q => exact dp_plains ds _ q
  | .tuple ds, _, h => by
    cases h with
    | tup _ q => exact dp_plains ds _ q
  | .dict _, _, h => by cases h
theorem dp_plains {K : PySem.W.Frag} {H : Hp} : ∀ (ds : List PyData) (vs : List V), DpAll K H vs ds → PyData.hasDictAll ds = false
  | [], _, _ => rfl
  | d :: r, _, h => by
    cases h with
    | cons a b =>
      show (d.hasDict || PyData.hasDictAll r) = false
      rw [dp_plain d _ a, dp_plains r _ b]
      rfl
end
def rRepr (K : PySem.W.Frag) : List V → Hp → VK → Prop := fun xs H Q =>
  ∃ v d, xs = [v] ∧ Dp K H v d ∧ d.showable = true ∧ d.depth ≤ 100 ∧ d.shown.length ≤ sizeLine ∧ Q (.str d.shown) H
section
variable {X : Cx} {k : Nat}
theorem cr_repr (hg : X.A.guards = some []) (hr : Room k X.A) : CallR X (.builtin "repr") (rRepr X.K) := by
  intro pins s σ H xs us Q I r h
  obtain ⟨v, d, rfl, hd, hs, hp, hz, q⟩ := h
  obtain ⟨u, rfl, ru⟩ := vals1 r
  obtain ⟨as, rd⟩ := Dp.reads I d v u hd ru
  have nd := dp_plain d v hd
  have room : X.A.units + (d.depth + 1) < cLine := by
    have := hr.un
    omega
  have fin : ∀ (h' : Heap) (tk : Nat) (t : Tok), (∀ b o, s.heap.get? b = some o → h'.get? b = some o) → EP X pins σ Q (.str d.shown t) { s with heap := h', toks := tk } :=
    fun h' tk t hk => ⟨.str d.shown, H, I.kept hk, ⟨t, rfl⟩, q⟩
  cases rd with
  | none => exact PySem.P.repr_of_none (fin s.heap _ _ fun _ _ e => e)
  | bool b => exact PySem.P.repr_of_bool (fin s.heap _ _ fun _ _ e => e)
  | int i t => exact PySem.P.repr_of_int (of_decide_eq_true hs) (fin s.heap _ _ fun _ _ e => e)
  | str x t => exact PySem.P.repr_of_str (fin s.heap _ _ fun _ _ e => e) hz
  | list a b c e => exact repr_of_reads' (.list a b c e) hs (PyData.noDict_hsm nd) hg room (fun _ _ e => e) (fun h' u tk hk => fin h' tk u hk) hz
  | tuple a b c e => exact repr_of_reads' (.tuple a b c e) hs (PyData.noDict_hsm nd) hg room (fun _ _ e => e) (fun h' u tk hk => fin h' tk u hk) hz
  | dict a b c e f => cases nd
/-! ### sorted of texts, at any length -/
def rSortT (K : PySem.W.Frag) : List V → Hp → VK → Prop := fun vs H Q => ∃ (a : Addr) (xs : List Str), vs = [V.ref a] ∧ SqL K H a (xs.map V.str) ∧ xs.length ≤ sizeLine ∧
  ∀ (ys : List Str) (p : Addr), ys.Perm xs → sortedS ys = true → H p = none → Q (.ref p) (upd H p (.lst (ys.map V.str)))
theorem cr_sortT : CallR X (.builtin "sorted") (rSortT X.K) := by
  intro pins s σ H vs us Q I r h
  obtain ⟨a, xs, rfl, hs, hl, q⟩ := h
  obtain ⟨its, rv, pl, _⟩ := I.list hs
  rw [Vals.ref1 r]
  have n0 := rv.length
  rw [List.length_map] at n0
  refine PyProof.Rows.sorted_strsAny pl.isList rv.strs (by rw [← n0]; exact hl) fun out ys h1 h2 h3 => ?_
  obtain ⟨ep, at'⟩ := PyProof.Rows.sortedAll_at s.heap its out
  have n1 : (ys.map V.str).length ≤ sizeLine := by rw [List.length_map, h2.length_eq]; exact hl
  refine ⟨.ref _, upd H (s.heap.objs.size + 1) (.lst (ys.map V.str)), ?_, rfl, q ys _ h2 h3 (I.hok.fresh (Nat.le_succ _))⟩
  exact I.laid (t' := s.toks) (fun _ _ => PyProof.Rows.sortedAll_old) (Nat.le_succ _) ⟨n1, out.toList, ep, vals_of_strs h1, at'⟩
end
end Ey
set_option maxHeartbeats 2000000
namespace Ey
open PySem PySem.Spec PyProof.Rows L2 GxR
/-! ### all(test of sign for sign in text), where the test reads a name of the module -/
/-- the test, in the generator's own frame: the module stands as it stood -/
def EltG (X : Cx) (sc : Scope) (x : Str) (elt : Expr) (pb : Nat → Bool) : Prop :=
  ∀ (ge : Env) (B : Around) (F' : Value → Shared → Prop) (c : Nat) (t : Tok) (z : Shared) (m : Str → Option Value), ge.scope = sc → ge.globals = X.env.globals →
    (∀ b o, X.base.get? b = some o → z.heap.get? b = some o) → z.heap.Ns ge.locals m → m x = some (.str ⟨#[c]⟩ t) →
    wpAny (model X.prog X.w) B (eval elt ge) (fun y z' => y = .bool (pb c) ∧ Keeps z z') F' z
section
variable {X : Cx} {pins : List (Addr × Obj)} {σ : L2.St} {H : Hp} {s : Shared}
theorem gen_glob {c P : Addr} {elt iter : Expr} {x : Str} {px gp : Pos} {sc : Scope} {pb : Nat → Bool} {te : TE} {k : Nat} {Q' : Value → Shared → Prop} {R : Str → Hp → Prop}
    (hr : Room k X.A) (TB : TabB X.base X.mg c P) (hco : X.env.code = .ref c) (S : GenS X.env sc x) (hi : PE X iter te) (hel : EltG X sc x elt pb)
    (hs : ∀ v, genFold iter X.env v = pure v) (I : Inv X pins σ H s) (h : te σ H fun v H1 => ∃ a : Str, v = .str a ∧ TabG H1 P ∧ R a H1)
    (hQ : ∀ a H1 g s5, R a H1 → Ready X pins σ H1 P a pb g s5 → Q' (.ref g) s5) :
    wpAny (model X.prog X.w) X.A (eval (.GeneratorExp elt [⟨.Name x px, iter, [], 0⟩] sc gp) X.env) Q' X.xe s := by
  refine wpAny_GeneratorExp_walksQ hr.hd S.co (closure_ok S.free) S.cell S.dot S.loc S.kind (Nat.lt_of_le_of_lt (by omega) hr.dp) ?_ hs
  refine thn (hi.run pins s σ H _ I h) fun xv sA ⟨v, H1, J, rv, q⟩ => ?_
  obtain ⟨a, rfl, ⟨ps, tP, tok⟩, q⟩ := q
  obtain ⟨t, rfl⟩ := _root_.id rv
  refine wpAny_pyIter_str fun ob St W start => ?_
  have gP : sA.heap.get? P = some { cls := .none, data := .fields ps } := J.hok P _ tP
  have ltP : P < sA.heap.objs.size := Heap.lt_size gP
  have gP2 : (sA.heap.push ob).get? P = some { cls := .none, data := .fields ps } := Heap.get?_push_of_some _ gP
  have head : PySem.W.CodeHd (sA.heap.push ob) c P := TB.code.keeps fun b u e => Heap.get?_push_of_some _ (J.bk b u e)
  have noL : (sA.heap.push ob).NoLimit := J.nolimit.push ob
  have go : ∀ (code : Value) (hN : Heap) (tk : Nat) (qs : Array Value), Heap.ExtBut P (sA.heap.push ob) hN → (sA.heap.push ob).objs.size ≤ hN.objs.size → hN.get? P = some { cls := .none, data := .fields qs } → (∃ more, qs = ps ++ more) → TriplesOk qs.toList →
      wpAny (model X.prog X.w) X.A (builtinsFor X.env.globals X.env.builtins) (fun bi sB =>
        ∃ Ia fp wr n₀ Pf St₀ pz F, Value.ref sA.heap.objs.size = .ref Ia ∧ (∀ B : Around, B.handled = none → Walks X.prog X.w B Ia fp wr n₀ Pf St₀) ∧ St₀ 0 sB.heap ∧ (∀ b ∈ fp, b < sB.heap.objs.size) ∧ sB.heap.NoLimit ∧ cStatics ∉ wr ∧
          (∀ hf : Heap, (∀ b o, sB.heap.get? b = some o → hf.get? b = some o) →
            QuietGen X.prog X.w (genEnv sc (cloFrom X.env.cells sc.names []) sB.heap.objs.size code bi X.env) x [] elt (List.range sB.heap.objs.size) wr Pf pz F hf) ∧
          (∀ g hG tg gs, gs.bare = true → sB.heap.objs.size < g → hG.objs.size = g + 1 → (∀ b o, sB.heap.get? b = some o → hG.get? b = some o) →
            WalksS X.prog X.w X.A.in4 g (g :: sB.heap.objs.size :: List.range sB.heap.objs.size) (sB.heap.objs.size :: wr) (GenOnlyQ sB.gens.size) (passing pz n₀ 0).length
              (fun j y => ∃ i, (passing pz n₀ 0)[j]? = some i ∧ F i y) (GenAt X.prog X.w X.A.in4 g sB.gens.size sB.heap.objs.size (List.range sB.heap.objs.size) wr pz n₀ F) →
            GenAt X.prog X.w X.A.in4 g sB.gens.size sB.heap.objs.size (List.range sB.heap.objs.size) wr pz n₀ F 0 { sB with gens := sB.gens.push gs, toks := tg, heap := hG } →
            Q' (.ref g) { sB with gens := sB.gens.push gs, toks := tg, heap := hG })) X.xe { sA with heap := hN, toks := tk } := by
    intro code hN tk qs ext hsz gPN more okN
    obtain ⟨bm, obm, e1, e2, e3, e4, e5, e6, e7, e8⟩ := TB.bm
    have ncP : cStatics ≠ P := fun e => by
      obtain ⟨_, ns, _⟩ := J.nolimit
      obtain ⟨o', es, ep, g', d', _⟩ := ns
      rw [e, gP] at g'
      cases g'
      cases d'
    have ltC : cStatics < sA.heap.objs.size := let ⟨_, ns, _⟩ := J.nolimit; ns.lt
    have szA : (sA.heap.push ob).objs.size = sA.heap.objs.size + 1 := Heap.size_push ..
    have stay : ∀ b u, b ≠ P → sA.heap.get? b = some u → hN.get? b = some u := fun b u nb e => ext b u nb (Heap.get?_push_of_some _ e)
    have old : ∀ b u, X.base.get? b = some u → hN.get? b = some u ∧ b < sA.heap.objs.size := fun b u e => by
      obtain ⟨e1, e2⟩ := J.bs b u e
      refine ⟨stay b u (fun z => ?_) e1, Heap.lt_size e1⟩
      rw [z, tP] at e2
      cases e2
    refine wpAny_builtinsFor (m := X.mg) (by rw [J.ok.glob]; exact ((J.mod.glob.keeps J.bk).push ob).extBut ext TB.gP) e1 e2 (stay _ _ e4 (J.bk _ _ e5)) e6 e7 e8 ?_
    refine ⟨sA.heap.objs.size, [sA.heap.objs.size], [sA.heap.objs.size], a.cps.size, SignAt a, St, (fun _ => true), (fun i y => ∃ cc, a.cps[i]? = some cc ∧ y = .bool (pb cc)), rfl, W, ?_, ?_, noL.extBut ext ncP, ?_, ?_, ?_⟩
    · refine (W X.A hr.hd).frame _ _ _ start fun b hb u e => ext b u (fun z => ?_) e
      have hb' : b = sA.heap.objs.size := List.mem_singleton.mp hb
      exact Nat.ne_of_lt ltP (z.symm.trans hb')
    · intro b hb
      have hb' : b = sA.heap.objs.size := List.mem_singleton.mp hb
      rw [hb']
      show sA.heap.objs.size < hN.objs.size
      omega
    · intro z
      have z' : cStatics = sA.heap.objs.size := List.mem_singleton.mp z
      exact Nat.ne_of_lt ltC z'
    · intro hf sub
      refine ⟨fun B F' i v z m hB hv hn hm hk => ?_, fun B F' i v z m hB hv hp hn hm hk => ?_⟩
      · simp only [List.forIn_nil]
        exact wpAny_pure ⟨rfl, keeps_refl _⟩
      · obtain ⟨cc, u, hcc, rfl⟩ := hv
        refine wpAny_mono (hel _ B F' cc u z m rfl rfl (fun b o e => ?_) hn hm) (fun y z' r => ⟨⟨cc, hcc, r.1⟩, r.2⟩) fun _ _ e => e
        obtain ⟨e1, e2⟩ := old b o e
        refine hk b (List.mem_range.mpr (Heap.lt_size e1)) (fun w => ?_) o (sub b o e1)
        have w' : b = sA.heap.objs.size := List.mem_singleton.mp w
        exact Nat.ne_of_lt e2 w'
    · intro g hG tg gs bare ltg szg keepg Wg atg
      simp only [GxR.passing_true, List.length_range] at Wg
      refine hQ a H1 g _ q ⟨_, _, _, _, _, Wg.in4_1, atg, ?_, fun s' mv => ?_⟩
      · intro j y sj Qj Ej hy hj
        obtain ⟨i, ij, cc, hcc, rfl⟩ := hy
        obtain ⟨lj, ej⟩ := List.getElem?_eq_some_iff.mp ij
        rw [List.getElem_range] at ej
        subst ej
        have sign : a.cps.toList[j]? = some cc := (Array.getElem?_toList).trans hcc
        have hj' : Qj (trF pb a.cps.toList j) sj := hj
        rw [trF_some sign] at hj'
        exact wpAny_truthy_bool hj'
      · obtain ⟨mo, em⟩ := more
        have nw : ∀ b u, sA.heap.get? b = some u → b ∉ hN.objs.size :: [sA.heap.objs.size] := fun b u e z => by
          have l := Heap.lt_size e
          rcases List.mem_cons.mp z with z | z
          · rw [z] at l
            have l2 : (hN.objs.size : Nat) < sA.heap.objs.size := l
            omega
          · exact Nat.ne_of_lt l (List.mem_singleton.mp z)
        have L := inv_tab (more := mo) (h' := s'.heap) (g' := s'.gens) (d' := s'.drawn) (t' := s'.toks) J tP (fun b u nb e => mv.heap b u (nw b u e) (keepg b u (stay b u nb e)))
          (by rw [← em]; exact mv.heap P _ (nw P _ gP) (keepg P _ gPN)) (AllBare.movedS (J.bare.push bare) mv)
        rw [sh_eta sA s' mv.os] at L
        refine ⟨upd H1 P (.tbl (ps ++ mo)), ⟨⟨ps ++ mo, upd_same, ?_⟩, fun b nb => upd_ne nb⟩, L⟩
        rw [← em]
        exact okN
  refine ⟨noL, ?_⟩
  cases am : codeAmong gp ps.toList with
  | none =>
    refine wpAny_genexprCodeX hco (head.code gP2 tok) (head.tab gP2) am fun c' hN tk ext hge hlt hc' _ tab' _ => ?_
    obtain ⟨o1, vs, f1, tf, fl, tg, inF, tx, tt, op, _, _, _, _, _, _, _, _, _, tr, _⟩ := hc'
    exact go _ hN tk _ ext (Nat.le_trans hge (Nat.le_of_lt hlt)) tab'.2 ⟨_, rfl⟩ tr
  | some cv =>
    refine wpAny_genexprCode_hit hco (head.code gP2 tok) am ?_
    exact go cv (sA.heap.push ob) sA.toks ps (Heap.ExtBut.refl _ _) (Nat.le_refl _) gP2 ⟨#[], by simp⟩ tok
theorem pe_allG {c P : Addr} {elt iter : Expr} {x : Str} {px p pos gp : Pos} {sc : Scope} {pb : Nat → Bool} {te : TE} {k : Nat}
    (hr : Room k X.A) (hg : Gl X "all") (hm : X.mg "all" = none) (hb : bootBuiltins "all" = some (.builtin "all")) (TB : TabB X.base X.mg c P) (hco : X.env.code = .ref c) (S : GenS X.env sc x) (hi : PE X iter te) (hel : EltG X sc x elt pb)
    (hs : ∀ v, genFold iter X.env v = pure v)
    (he : starEach [.GeneratorExp elt [⟨.Name x px, iter, [], 0⟩] sc gp] X.env = (false, eval (.GeneratorExp elt [⟨.Name x px, iter, [], 0⟩] sc gp) X.env) :: starEach [] X.env := by rfl) :
    PE X (.Call (.Name "all" p) [.GeneratorExp elt [⟨.Name x px, iter, [], 0⟩] sc gp] [] pos) (tAllS P pb te) := by
  refine ⟨fun pins s σ H Q I h => wpAny_Call_Name_kw (ld_blt I hg hm hb ?_)⟩
  refine PyProof.Rows.callWith_builtin1 ?_ he (by rfl)
  rw [he]
  show wpAny _ _ (spliced ((false, eval (.GeneratorExp elt [⟨.Name x px, iter, [], 0⟩] sc gp) X.env) :: backTo pos (starEach [] X.env))) _ _ s
  refine Calls.spliced_cons (gen_glob (R := fun a H1 => ∀ H2, Tabbed P H1 H2 → Q (.bl (a.cps.toList.all pb)) H2) hr TB hco S hi hel hs I h fun a H1 g s5 hR rdy => ?_)
  obtain ⟨fp, wr, G, F, St, W, st0, tru, inv⟩ := rdy
  refine Calls.spliced_nil (call_all_walkS (W.self 0 _ _ _ st0 ⟨g, fp, wr, G, _, F, St, _, rfl, W, st0, tru, fun s' mv => ?_⟩))
  obtain ⟨H2, hT, L⟩ := inv s' mv
  refine ⟨.bl _, H2, L, rfl, ?_⟩
  rw [all_signs a pb]
  exact hR H2 hT
/-- sign in NAME, NAME a text of the module -/
theorem elt_inG {sc : Scope} {x y : Str} {T : Str} {p1 p2 p3 : Pos} {tk : Tok} (hk : sc.kind = .function) (hl : sc.names.lookup x = some .local) (hy : sc.names.lookup y = some .globalImplicit) (hG : X.env.globals = mainGlobals) (M : X.base.Ns mainGlobals X.mg) (hm : X.mg y = some (.str T tk))
    (hd : (x == ("__debug__" : Str)) = false := by decide) (hd2 : (y == ("__debug__" : Str)) = false := by decide) :
    EltG X sc x (.Compare (.Name x p1) [.In] [.Name y p2] p3) (fun c => decide (c ∈ T.cps.toList)) := by
  intro ge B F' c t z m h1 h2 h3 h4 h5
  have k1 : ge.scope.kind = .function := by rw [h1]; exact hk
  refine wpAny_Compare1 (wpAny_Name (wpAny_loadName_local k1 (show ge.scope.names.lookup x = some .local by rw [h1]; exact hl) h4 h5 ?_) hd)
  refine Calls.Name_function_global k1 (show ge.scope.names.lookup y = some .globalImplicit by rw [h1]; exact hy) (Calls.loadGlobal_global (by rw [h2, hG]; exact M.keeps h3) hm ?_) hd2
  refine PyProof.Rows.in_str ?_
  refine ⟨congrArg Value.bool ?_, keeps_refl _⟩
  exact PySem.StrLaws.found_one T c
end
end Ey
set_option maxHeartbeats 2000000
namespace Ey
open PySem PySem.Spec PyProof.Rows L2 GxR
/-! ### a law's own call: nothing is under way around it, so that repr is told of data -/
def LawOk (P : Program) (w : World) (K : PySem.W.Frag) (mg : Str → Option Value) (base : Heap) (f : Addr) (fd : FuncData) (x : Str) (sp : Sp) : Prop :=
  ∀ (s : Shared) (H : Hp) (u : Value) (v : V) (Q : VK), Env0 P w K mg base callerA [] s H → BindsTo s fd ⟨[u], []⟩ [(x, u)] → RelV v u → sp [v] H Q E0 →
    codeAny (model P w) callerA (.call (.ref f) ⟨[u], []⟩) (CR CX0 [] P w H s Q E0) s
section
variable {P : Program} {w : World} {K : PySem.W.Frag} {mg : Str → Option Value} {base : Heap}
theorem law_ok {x qual p : Str} {st : Stmt} {f : Addr} {fd : FuncData} {N : List Str} {k : Nat} {sp : Sp} (F : Fun K x qual st f fd) (S : FnScope N [p] (defScope st)) (hr : Room (k + 1) callerA)
    (body : ∀ (cdv : Value) (s : Shared) (H : Hp) (v : V) (Q : VK), Room k (callerA.deeper (envOfC qual (defScope st) s.heap.objs.size f cdv)) → sp [v] H Q E0 →
      ∃ t, PSs (cxOf CX0 P w K mg base N qual (defScope st) f cdv callerA [] s H E0).nox (defBody st) t ∧ t { nx := fun _ H' => Q .non H', rt := Q } (start N [v]) H) :
    LawOk P w K mg base f fd p sp := by
  obtain ⟨oc, od, kV, doc, pm, an, cdv, ct, osl, rfl, lk, code⟩ := F.ex
  intro s H u v Q e0 hb rv hsp
  have inK : K.In s.heap := e0.mod.kin.keeps fun b o e => (e0.bs b o e).1
  have noL : s.heap.NoLimit := e0.mod.nolimit.keeps fun b o e => (e0.bs b o e).1
  have kinds : ∀ y ∈ [p].zip [u], (defScope st).names.lookup y.1 = some .local ∨ ((defScope st).names.lookup y.1 = some .cell ∧ ((cellsFrom (s.heap.objs.size + 1) (defScope st).names []).lookup y.1).isSome = true) := fun ⟨n, z⟩ hy => by
    rcases S.par n (List.of_mem_zip hy).1 with q | q
    · exact .inl q
    · exact .inr ⟨q, PySem.W.cellsFrom_some _ _ _ (.inl q)⟩
  refine codeAny_call_function (Nat.lt_of_le_of_lt (by omega) hr.dp) (inK _ _ lk) rfl S.co S.gen rfl (PySem.W.codeRec_of inK code) (hb _ _ _ _ ?_)
  refine wpAny_newFunctionEnv_cells (binds := [p].zip [u]) S.kind kinds fun env he s1 xc => ?_
  subst he
  refine ⟨noL.keeps xc.toInCall.keep, codeAny_func ?_⟩
  obtain ⟨t, dv, rd⟩ := body cdv s H v Q (hr.deeper _) hsp
  have I := inv_start (CX := CX0) (E := E0) (P := P) (w := w) (K := K) (mg := mg) (base := base) (N := N) (ps := [p]) (A := callerA) (vs := [v]) (us := [u]) S rfl e0 rfl (.cons rv .nil) xc
  refine wpAny_mono (dv.nox.run [] s1 (start N [v]) H _ I rd) (fun fl s' hs => ?_) fun e s' hs => hs
  cases fl with
  | next =>
    obtain ⟨σ', H', J, q⟩ := hs
    exact ⟨V.non, H', J.os, J.bare, J.base, J.hok, rfl, q⟩
  | ret z =>
    obtain ⟨y, σ', H', J, ry, q⟩ := hs
    exact ⟨y, H', J.os, J.bare, J.base, J.hok, ry, q⟩
  | brk =>
    obtain ⟨_, _, _, q⟩ := hs
    exact q.elim
  | cont =>
    obtain ⟨_, _, _, q⟩ := hs
    exact q.elim
end
end Ey
set_option maxHeartbeats 2000000
namespace Ey
open PySem PySem.Spec PyProof.Rows L2 GxR
/-- the tables cs stand empty in h, outside the written part -/
structure Tabs (K : PySem.W.Frag) (h : Heap) (cs : List (Addr × Addr)) : Prop where
  at_ : ∀ p ∈ cs, h.get? p.2 = some { cls := .none, data := .fields #[] }
  out : ∀ p ∈ cs, K.lookup p.2 = none
  hd : ∀ p ∈ cs, PySem.W.CodeHd h p.1 p.2
/-- what a heap says of the module's own builtins -/
def BMain (mg : Str → Option Value) (h : Heap) : Prop :=
  ∃ (bm : Addr) (ob : Obj), mg "__builtins__" = some (.ref bm) ∧ bm ≠ builtinsNs ∧ h.get? bm = some ob ∧ ob.cls = .type "module" ∧ ob.dict = some builtinsNs ∧ ob.data = .plain
section
variable {P : Program} {w : World} {K : PySem.W.Frag} {mg mb : Str → Option Value}
/-- the script at a, the tables cs: what is tracked ahead of the law -/
def start0 (K : PySem.W.Frag) (a : Addr) (o : Obj) (ns : List Int) (cs : List (Addr × Addr)) : Hp := fun b =>
  if b ∈ cs.map (·.2) then some (.tbl #[]) else if b = a ∧ K.lookup a = none then some (.frz o (.lst (ns.map V.int))) else none
theorem call_law {f a : Addr} {cs : List (Addr × Addr)} {fd : FuncData} {x : Str} {sp : Sp} {z : Shared} {vs : List Value} {ns : List Int}
    (KX : K.In z.heap) (hns : z.heap.Ns mainGlobals mg) (hb : z.heap.Ns builtinsNs mb) (hbb : ∀ x : Str, x ≠ "__name__" → mb x = bootBuiltins x) (lim : z.heap.NoLimit) (hg : z.gens = #[])
    (T : Tabs K z.heap cs) (hbm : BMain mg z.heap) (ha : z.heap.get? a = some { cls := .type "list", data := .seq vs.toArray }) (hi : IntsAre vs ns) (hl : ns.length ≤ sizeLine)
    (F : ∀ base : Heap, K.In base → base.Ns mainGlobals mg → (∀ p ∈ cs, TabB base mg p.1 p.2) → LawOk P w K mg base f fd x sp) (hbind : ∀ (s : Shared) (u : Value), BindsTo s fd ⟨[u], []⟩ [(x, u)])
    (hsp : ∀ H : Hp, (∀ p ∈ cs, H p.2 = some (.tbl #[])) → SqL K H a (ns.map V.int) → sp [.ref a] H (fun v _ => v = .bl true) E0) :
    codeAny (model P w) callerA (.call (.ref f) ⟨[.ref a], []⟩) (fun r s' => r = .ok (.ret (.bool true)) ∧ OldK z.heap s'.heap ∧ s'.os = z.os ∧ AllBare s'.gens) z := by
  have rv := vals_ints hi
  have nV : vs.length = ns.length := hi.length
  have tabAt : ∀ b : Addr, b ∈ cs.map (·.2) → z.heap.get? b = some { cls := .none, data := .fields #[] } ∧ K.lookup b = none := fun b m => by
    obtain ⟨p, hp, rfl⟩ := List.mem_map.mp m
    exact ⟨T.at_ p hp, T.out p hp⟩
  have aT : a ∉ cs.map (·.2) := fun m => by
    have e := (tabAt a m).1
    rw [ha] at e
    injection e with e
    have e' : Data.seq vs.toArray _ = Data.fields #[] := congrArg Obj.data e
    cases e'
  let H : Hp := start0 K a { cls := .type "list", data := .seq vs.toArray } ns cs
  have HT : ∀ p ∈ cs, H p.2 = some (.tbl #[]) := fun p hp => if_pos (List.mem_map.mpr ⟨p, hp, rfl⟩)
  have Hcase : ∀ b, H b = none ∨ (b ∈ cs.map (·.2) ∧ H b = some (.tbl #[])) ∨ (b = a ∧ K.lookup a = none ∧ H b = some (.frz { cls := .type "list", data := .seq vs.toArray } (.lst (ns.map V.int)))) := fun b => by
    by_cases h1 : b ∈ cs.map (·.2)
    · exact .inr (.inl ⟨h1, if_pos h1⟩)
    · by_cases h2 : b = a ∧ K.lookup a = none
      · exact .inr (.inr ⟨h2.1, h2.2, (if_neg h1).trans (if_pos h2)⟩)
      · exact .inl ((if_neg h1).trans (if_neg h2))
  have HS : SqL K H a (ns.map V.int) := by
    cases hk : K.lookup a with
    | some o =>
      have e := KX a o hk
      rw [ha] at e
      injection e with e
      subst e
      exact .inr ⟨_, vs.toArray, _, hk, rfl, rfl, rfl, by rw [List.size_toArray, nV]; exact hl, by simpa using rv⟩
    | none => exact .inl (.inr ⟨_, (if_neg aT).trans (if_pos ⟨rfl, hk⟩)⟩)
  have HO : HOk P w H z.heap := fun b u e => by
    rcases Hcase b with q | ⟨m, q⟩ | ⟨m, _, q⟩
    · rw [q] at e
      cases e
    · rw [q] at e
      cases e
      exact (tabAt b m).1
    · rw [q] at e
      cases e
      subst m
      exact ⟨ha, by rw [List.length_map]; exact hl, vs, _, rv, ha⟩
  -- what is neither the script nor a table stands in the base
  have inB : ∀ {b : Addr} {o : Obj}, z.heap.get? b = some o → (∀ xs n, o.data ≠ .seq xs n) → o.data ≠ .fields #[] → (hidT z.heap H).get? b = some o := fun {b o} e h1 h2 => by
    refine hidT_get e ?_
    rcases Hcase b with q | ⟨m, q⟩ | ⟨m, _, q⟩
    · exact q
    · rw [(tabAt b m).1] at e
      injection e with e
      subst e
      exact absurd rfl h2
    · subst m
      rw [ha] at e
      injection e with e
      subst e
      exact absurd rfl (h1 _ _)
  have nsB : ∀ {b : Addr} {m : Str → Option Value}, z.heap.Ns b m → (hidT z.heap H).Ns b m := fun {b m} ⟨o, es, ep, e, d, r⟩ =>
    ⟨o, es, ep, inB e (fun xs n q => by rw [d] at q; cases q) (fun q => by rw [d] at q; cases q), d, r⟩
  have KB : K.In (hidT z.heap H) := fun b o e => by
    refine hidT_get (KX b o e) ?_
    rcases Hcase b with q | ⟨m, q⟩ | ⟨m, n, q⟩
    · exact q
    · rw [(tabAt b m).2] at e
      cases e
    · subst m
      rw [n] at e
      cases e
  have M : L2.Mod K mg (hidT z.heap H) := ⟨KB, nsB hns, ⟨mb, nsB hb, hbb⟩, let ⟨mc, h1, h2⟩ := lim; ⟨mc, nsB h1, h2⟩⟩
  have TB : ∀ p ∈ cs, TabB (hidT z.heap H) mg p.1 p.2 := fun p hp => by
    have pT := T.at_ p hp
    refine ⟨?_, ?_, fun q => ?_⟩
    · obtain ⟨o, us, fi, tf, fl, tg, nf, tx, tt, e1, r1, r2, r3, rest⟩ := T.hd p hp
      refine ⟨o, us, fi, tf, fl, tg, nf, tx, tt, inB e1 (fun xs n q => ?_) (fun q => ?_), r1, r2, r3, rest⟩
      · rw [r2] at q
        cases q
      · rw [r2] at q
        cases q
        simp at r3
    · obtain ⟨bm, ob, b1, b2, b3, b4, b5, b6⟩ := hbm
      refine ⟨bm, ob, b1, b2, fun q => ?_, fun q => ?_, inB b3 (fun xs n q => ?_) (fun q => ?_), b4, b5, b6⟩
      · obtain ⟨o, es, ep, e, d, _⟩ := hns
        rw [q, e] at b3
        injection b3 with b3
        subst b3
        rw [d] at b6
        cases b6
      · rw [q, pT] at b3
        injection b3 with b3
        subst b3
        cases b6
      · rw [b6] at q
        cases q
      · rw [b6] at q
        cases q
    · obtain ⟨o, es, ep, e, d, _⟩ := hns
      rw [q, pT] at e
      injection e with e
      subst e
      cases d
  have e0 : Env0 P w K mg (hidT z.heap H) callerA [] z H := ⟨rfl, M, fun b o e => of_hidT e, Nat.le_of_eq (hidT_size _ _), trivial, fun b m => absurd m List.not_mem_nil, HO, .of_eq hg⟩
  refine codeAny_mono (F _ KB (nsB hns) TB z H (.ref a) (.ref a) _ e0 (hbind z _) rfl (hsp H HT HS)) fun r s' h => ?_
  cases r with
  | error e => exact h.elim
  | ok fl =>
    cases fl with
    | next => exact h.elim
    | brk => exact h.elim
    | cont => exact h.elim
    | ret u =>
      obtain ⟨v, H', os, bare, un, ok', r', q⟩ := h
      have q' : v = .bl true := q
      subst q'
      obtain rfl : u = Value.bool true := r'
      have keep : ∀ b o, b ∉ cs.map (·.2) → z.heap.get? b = some o → s'.heap.get? b = some o := fun b o nb e => by
        rcases Hcase b with q | ⟨m, q⟩ | ⟨m, _, q⟩
        · exact un.keep b o e q List.not_mem_nil List.not_mem_nil
        · exact absurd m nb
        · have e1 := (HO b _ q).1
          rw [e] at e1
          injection e1 with e1
          subst e1
          exact (ok' b _ (un.frzs b _ _ q)).1
      have grown : ∀ b, b ∈ cs.map (·.2) → ∃ more : Array Value, s'.heap.get? b = some { cls := .none, data := .fields more } := fun b m => by
        obtain ⟨p, hp, rfl⟩ := List.mem_map.mp m
        obtain ⟨more, q⟩ := un.tbls p.2 #[] (HT p hp)
        exact ⟨_, ok' p.2 _ q⟩
      refine ⟨rfl, ⟨fun b o e => ?_, fun b o e => ?_⟩, os, bare⟩
      · by_cases m : b ∈ cs.map (·.2)
        · obtain ⟨more, g⟩ := grown b m
          obtain ⟨p, hp, rfl⟩ := List.mem_map.mp m
          rw [T.at_ p hp] at e
          injection e with e
          subst e
          exact .inr (.inl ⟨((T.hd p hp).tab (T.at_ p hp)).isCodeTable, rfl, #[], more, rfl, by rw [Array.empty_append]; exact g⟩)
        · exact .inl (keep b o m e)
      · by_cases m : b ∈ cs.map (·.2)
        · obtain ⟨more, g⟩ := grown b m
          exact ⟨_, g⟩
        · exact ⟨o, keep b o m e⟩
end
/-- the goal that k_head leaves, from the law's promise at any base -/
theorem walk_law {l : PySem.W.OpenLaw} {n : Nat} {q : Program} {loose : List Str} {XP : (Str → Option Value) → Heap → Prop} {YP : World → Heap → Prop} {d : DefRec} {K : Params → PySem.W.Frag} {x : Str}
    (hn : l.most = some n) (hn2 : n ≤ sizeLine) (hdf : d.params.defaults = []) (hY : ∀ (w : World) (h : Heap), YP w h → (K w.params).In h)
    (F : ∀ (w : World) (mg : Str → Option Value) (f : Addr) (h : Heap) (lo : List Str) (mean : ExcName → Option Value) (mb : Str → Option Value), (K w.params).In h → PyProof.Rows.Top q lo mean mg mb h → mg d.name = some (.ref f) →
      ∃ (fd : FuncData) (cs : List (Addr × Addr)) (sp : Sp), Tabs (K w.params) h cs ∧ (∀ (s : Shared) (u : Value), BindsTo s fd ⟨[u], []⟩ [(x, u)]) ∧
        (∀ (H : Hp) (a : Addr) (ns : List Int), ns.length ≤ n → (∀ p ∈ cs, H p.2 = some (.tbl #[])) → SqL (K w.params) H a (ns.map V.int) → sp [.ref a] H (fun v _ => v = .bl true) E0) ∧
        ∀ base : Heap, (K w.params).In base → base.Ns mainGlobals mg → (∀ p ∈ cs, TabB base mg p.1 p.2) → LawOk l.prog w (K w.params) mg base f fd x sp) :
    PySem.W.WalkO q loose XP YP l.row.toRowW d [] (fun f vs => PySem.call f vs) := by
  refine Att.attach_call hn hdf fun w s₀ z mg mb f o pm cd doc a vs ns G Y ho hd hcd hmg hobj hi hlen hg => ?_
  obtain ⟨fd, cs, sp, T, hb, hsp, hF⟩ := F w mg f _ _ _ _ (hY w _ Y) G.T hmg
  exact call_law (hY w _ Y) G.T.g G.T.b G.T.builtins G.T.nolimit hg T G.T.bmain hobj hi (Nat.le_trans hlen hn2) hF hb fun H h1 h2 => hsp H a ns hlen h1 h2
end Ey
set_option maxHeartbeats 2000000
namespace PySem.W
open PySem PySem.Calls PyProof.Rows PyProof.V PySem.Spec Builtin
section
variable {prog : Program} {w : World} {A : Around} {E : Value → Shared → Prop} {s : Shared} {T : String} {r d : Addr} {n : Nat} {P : Nat → Value → Prop} {OK : Heap → Prop}
/-- what a source yields, collected -/
theorem ey_collect {Q : List Value → Shared → Prop} (K : KdlSrc prog w T r d n P OK) (hh : A.handled = none) (hok : OK s.heap) (hn : n ≤ sizeLine)
    (hQ : ∀ h' tk (acc : Array Value), (∀ b o, s.heap.get? b = some o → h'.get? b = some o) → ItemsOf P acc n → Q acc.toList { s with heap := h', toks := tk }) :
    wpAny (model prog w) A (collect (.ref r)) Q E s := by
  unfold collect
  refine wpAny_bind (wpAny_runValue (codeAny_builtin PySem.F.entry_proto_collect ?_))
  rw [Around.under_plainId PySem.F.plain_proto_collect _]
  show wpAny _ A.in1 (newList [] >>= fun l => again (.builtin "list.__iadd__" ⟨[l, .ref r], []⟩)) _ _ s
  refine wpAny_bind (wpAny_newObj_type (wpAny_pure ⟨plainId_quiet PySem.F.plain_list_iadd _, codeAny_builtin PySem.F.entry_list_iadd ?_⟩))
  rw [Around.under_plainId PySem.F.plain_list_iadd _]
  show wpAny _ A.in1 (Builtin.List.listExtendWith (.ref s.heap.objs.size) (.ref r) (.ref s.heap.objs.size)) _ _ _
  have at0 : (s.heap.push { cls := .type "list", data := .seq ([] : List Value).toArray }).get? s.heap.objs.size = some { cls := .type "list", data := .seq #[] 0 } := Heap.get?_push_size _ rfl
  have lt := K.there _ hok
  have ok1 : OK (s.heap.push { cls := .type "list", data := .seq ([] : List Value).toArray }) := K.keep _ _ hok fun b _ o e => Heap.get?_push_of_some _ e
  have fin : ∀ (h' : Heap) (tk : Nat) (acc : Array Value) (c : Nat), (∀ b o, s.heap.get? b = some o → h'.get? b = some o) → h'.get? s.heap.objs.size = some { cls := .type "list", dict := none, data := .seq acc c, slots := #[] } → ItemsOf P acc n →
      wpAny (model prog w) A (match Value.ref s.heap.objs.size with
      | Value.ref a => do
        match (← load a).data with
          | Data.seq xs _ => pure xs.toList
          | _ => unsupported "internal:collect"
      | _ => unsupported "internal:collect") Q E { s with heap := h', toks := tk } := fun h' tk acc c hk at1 it => by
    show wpAny _ A (load s.heap.objs.size >>= _) _ _ _
    exact wpAny_bind (wpAny_load at1 (wpAny_pure (hQ h' tk acc hk it)))
  refine wpAny_mono (kdl_extend (A := A) (s := { s with heap := s.heap.push { cls := .type "list", data := .seq ([] : List Value).toArray } })
    (R := fun q s' => q = .ok (.ret (.ref s.heap.objs.size)) ∧ ∃ (h' : Heap) (tk : Nat) (acc : Array Value) (c : Nat), s' = { s with heap := h', toks := tk } ∧ (∀ b o, s.heap.get? b = some o → h'.get? b = some o) ∧ h'.get? s.heap.objs.size = some { cls := .type "list", dict := none, data := .seq acc c, slots := #[] } ∧ ItemsOf P acc n)
    K hh ok1 s.heap.objs.size (Nat.ne_of_gt lt.1) (Nat.ne_of_gt lt.2) (.ref s.heap.objs.size) 0 at0 (fun h' tk acc c hk at1 it => ⟨rfl, h', tk, acc, c, rfl, fun b o e => hk b o (Nat.ne_of_lt (Heap.lt_size e)) (Heap.get?_push_of_some _ e), at1, it⟩) hn) (fun q s' h => ?_) (fun e s' h => ?_)
  · cases q with
    | done f =>
      obtain ⟨e, h', tk, acc, c, rfl, hk, at1, it⟩ := h
      cases e
      exact fin h' tk acc c hk at1 it
    | again c' =>
      refine ⟨h.1, codeAny_mono h.2 fun q s2 hq => ?_⟩
      obtain ⟨rfl, h', tk, acc, c, rfl, hk, at1, it⟩ := hq
      exact fin h' tk acc c hk at1 it
  · exact absurd h.1 (by simp)
/-- tuple(of it) -/
theorem ey_tuple_new {Q₁ : Value → Shared → Prop} (K : KdlSrc prog w "dict" r d n P OK) (hh : A.handled = none) (hok : OK s.heap) (hn : n ≤ sizeLine)
    (h : ∀ (h' : Heap) (tk : Nat) (acc : Array Value), (∀ b o, s.heap.get? b = some o → h'.get? b = some o) → ItemsOf P acc n → Q₁ (.ref h'.objs.size) { s with heap := h'.push { cls := .type "tuple", data := .seq acc }, toks := tk }) :
    codeAny (model prog w) A (.call (.builtin "tuple.__new__") ⟨[.type "tuple", .ref r], []⟩) (wants Q₁ E) s := by
  refine codeAny_of_tree ?_
  show wpAny _ A.in1 (do checkBuiltinCall "tuple.__new__" ⟨[.type "tuple", .ref r], []⟩; again (.builtin "tuple.__new__" ⟨[.type "tuple", .ref r], []⟩)) _ _ s
  refine wpAny_bind (wpAny_of_eq (PySem.F.newCall_tuple_1 _) (wpAny_pure ⟨plainId_quiet PySem.F.plain_tuple_new _, codeAny_builtin PySem.F.entry_tuple_new ?_⟩))
  rw [Around.under_plainId PySem.F.plain_tuple_new _]
  have sub1 := sub_tuple_self
  have init1 := init_tuple_lookup
  have made1 := madeHere_tuple
  have ty1 := K.type s hok
  wp_walk using wpAny_typeOf ty1, ey_collect (A := A.in1) K hh hok hn
  intro h' tk acc hk it
  show wpAny _ _ (Builtin.Tuple.tupleExact acc.toList.toArray >>= fun v => ret v) _ _ _
  unfold Builtin.Tuple.tupleExact
  refine wpAny_bind (wpAny_newObj_type ?_ (by show acc.toList.toArray.size ≤ sizeLine; rw [Array.toArray_toList, it.1]; exact hn))
  refine wpAny_pure ?_
  rw [Array.toArray_toList]
  exact h h' tk acc hk it
theorem ey_tuple {Q : Value → Shared → Prop} (K : KdlSrc prog w "dict" r d n P OK) (hh : A.handled = none) (hok : OK s.heap) (hn : n ≤ sizeLine)
    (h : ∀ (h' : Heap) (tk : Nat) (acc : Array Value), (∀ b o, s.heap.get? b = some o → h'.get? b = some o) → ItemsOf P acc n → Q (.ref h'.objs.size) { s with heap := h'.push { cls := .type "tuple", data := .seq acc }, toks := tk }) :
    wpAny (model prog w) A (call (.type "tuple") [.ref r]) Q E s := by
  refine callType_codes (Q₁ := fun o z => z.TypeIs o "tuple" ∧ Q o z) PySem.F.called_tuple (PySem.F.typeCall_tuple_1 _) PySem.F.entry_object_init
    (ey_tuple_new (A := A.in1) K hh hok hn fun h' tk acc hk it => ⟨⟨_, Heap.get?_push_size _ rfl, rfl⟩, h h' tk acc hk it⟩) fun o z hz => ?_
  exact ⟨hz.1, PySem.F.args_object_init_2 o _, object_init_meets PySem.F.called_tuple.init.lookup PySem.F.called_tuple.made (by decide) prog w A.in1 _ z ⟨hz.1, rfl, hz.2⟩⟩
end
end PySem.W
namespace Ey
open PySem PySem.Spec PyProof.Rows L2
/-- tuple(d), d a dict: its keys -/
def rTupD : List V → Hp → VK → Prop := fun xs H Q => ∃ p kvs, xs = [.ref p] ∧ H p = some (.dK kvs) ∧ ∀ q, H q = none → Q (.ref q) (upd H q (.tup (kvs.map fun kv => kV kv.1)))
theorem call_tupD {X : Cx} (hc : X.calm = true) : CallR X (.type "tuple") rTupD := by
  intro pins s σ H xs us Q I r h
  obtain ⟨p, kvs, rfl, hk, q⟩ := h
  obtain ⟨u, rfl, rx⟩ := vals1 r
  obtain rfl : u = Value.ref p := rx
  obtain ⟨z, lo, vs, rk, hd⟩ := (show ObjOk X.prog X.w H s.heap p (.dK kvs) from I.hok p _ hk)
  obtain ⟨ep, at0⟩ := hd.dictAt
  have nl : kvs.length = vs.length := Paired.length rk
  refine PySem.W.ey_tuple (PySem.W.kdl_dict (knd := mixKind X.prog X.w) (kvs := vs) (ep := ep) lo) (I.ok.hd hc) at0 (by rw [← nl]; exact z) fun h' tk acc keep it => ?_
  have I1 : Inv X pins σ H { s with heap := h', toks := tk } := I.kept keep
  refine ⟨.ref h'.objs.size, upd H h'.objs.size (.tup (kvs.map fun kv => kV kv.1)), I1.laid (t' := tk) (fun b o e => Heap.get?_push_of_some _ e) (Nat.le_refl _) (show ObjOk X.prog X.w _ _ _ (.tup _) from ⟨?_, acc.toList, ?_, ?_⟩), rfl, q _ (I1.hok.fresh (Nat.le_refl _))⟩
  · rw [List.length_map]
    exact z
  · have nA : acc.toList.length = acc.size := by simp
    refine vals_of_at (by rw [List.length_map, nA, it.1, nl]) fun j x v h1 h2 => ?_
    obtain ⟨k, y, e, ki⟩ := it.2 j v (by rw [← Array.getElem?_toList]; exact h2)
    have e1 : (kvs.map (·.1))[j]? = some k := by
      rw [KV.keys rk, List.getElem?_map, e]
      rfl
    rw [List.getElem?_map] at h1 e1
    cases g : kvs[j]? with
    | none =>
      rw [g] at e1
      cases e1
    | some kv =>
      rw [g] at e1 h1
      injection e1 with e1
      injection h1 with h1
      have e2 : kv.1 = k := e1
      rw [← h1]
      show L2.RelV (kV kv.1) v
      rw [e2]
      exact keyIs_rel ki
  · have := IsTup.new h' acc
    rw [Array.toArray_toList]
    exact this
end Ey
/-! Trees, places: the mathematics. -/
namespace Ey
open PySem PySem.Spec PyProof.Rows
/-! ### texts as lists of signs -/
def st (p : List Nat) : Str := ⟨p.toArray⟩
theorem st_inj {p q : List Nat} (h : st p = st q) : p = q := by
  have h2 : p.toArray = q.toArray := congrArg Str.cps h
  simpa using h2
theorem st_app (p q : List Nat) : st p ++ st q = st (p ++ q) := by
  show (⟨p.toArray ++ q.toArray⟩ : Str) = ⟨(p ++ q).toArray⟩
  rw [List.append_toArray]
theorem st_len (p : List Nat) : (st p).length = p.length := rfl
theorem st_list (p : List Nat) : (st p).cps.toList = p := rfl
theorem st_of (x : Str) : x = st x.cps.toList := by
  cases x
  rfl
theorem st_ne {p q : List Nat} (h : p ≠ q) : st p ≠ st q := fun e => h (st_inj e)
/-! ### trees -/
inductive Tr where
  | nil
  | nd (tag : Str) (l r : Tr)
def abc : List Nat := [97, 98, 99, 100, 101, 102, 103, 104, 105, 106, 107, 108, 109, 110, 111, 112, 113, 114, 115, 116, 117, 118, 119, 120, 121, 122]
def isTag (x : Str) : Bool := decide (1 ≤ x.length) && decide (x.length ≤ 8) && x.cps.toList.all fun c => decide (c ∈ abc)
def Tr.ok : Tr → Prop
  | .nil => True
  | .nd g l r => isTag g = true ∧ l.ok ∧ r.ok
def Tr.sz : Tr → Nat
  | .nil => 0
  | .nd _ l r => l.sz + r.sz + 1
def Tr.ht : Tr → Nat
  | .nil => 0
  | .nd _ l r => max l.ht r.ht + 1
def Tr.full : Tr → Bool
  | .nil => false
  | .nd _ _ _ => true
def pl : Tr → List (List Nat)
  | .nil => [[]]
  | .nd _ l r => [] :: ((pl l).map (108 :: ·) ++ (pl r).map (114 :: ·))
def pt : Tr → List Nat → Tr
  | t, [] => t
  | .nil, _ :: _ => .nil
  | .nd _ l r, c :: p => if c = 108 then pt l p else pt r p
def isP : Tr → List Nat → Bool
  | _, [] => true
  | .nil, _ :: _ => false
  | .nd _ l r, c :: p => if c = 108 then isP l p else if c = 114 then isP r p else false
theorem pt_nil (t : Tr) : pt t [] = t := by cases t <;> rfl
theorem isP_nil (t : Tr) : isP t [] = true := by cases t <;> rfl
theorem isP_iff : ∀ (t : Tr) (p : List Nat), isP t p = true ↔ p ∈ pl t
  | .nil, [] => by simp [pl, isP]
  | .nil, c :: p => by simp [pl, isP]
  | .nd g l r, [] => by simp [pl, isP]
  | .nd g l r, c :: p => by
    have il := isP_iff l p
    have ir := isP_iff r p
    have e : (c :: p) ∈ pl (.nd g l r) ↔ (c = 108 ∧ p ∈ pl l) ∨ (c = 114 ∧ p ∈ pl r) := by
      simp only [pl, List.mem_cons, List.mem_append, List.mem_map, reduceCtorEq, false_or]
      constructor
      · rintro (⟨q, hq, e⟩ | ⟨q, hq, e⟩)
        · cases e
          exact .inl ⟨rfl, hq⟩
        · cases e
          exact .inr ⟨rfl, hq⟩
      · rintro (⟨rfl, h⟩ | ⟨rfl, h⟩)
        · exact .inl ⟨p, h, rfl⟩
        · exact .inr ⟨p, h, rfl⟩
    rw [e, ← il, ← ir]
    show (if c = 108 then isP l p else if c = 114 then isP r p else false) = true ↔ _
    by_cases h1 : c = 108
    · subst h1
      simp
    · by_cases h2 : c = 114
      · subst h2
        simp
      · simp [h1, h2]
theorem pl_len : ∀ t : Tr, (pl t).length = 2 * t.sz + 1
  | .nil => rfl
  | .nd g l r => by
    simp only [pl, List.length_cons, List.length_append, List.length_map, pl_len l, pl_len r, Tr.sz]
    omega
theorem pl_ht : ∀ (t : Tr) (p : List Nat), p ∈ pl t → p.length ≤ t.ht
  | .nil, p, h => by
    simp only [pl, List.mem_singleton] at h
    subst h
    exact Nat.zero_le _
  | .nd g l r, p, h => by
    simp only [pl, List.mem_cons, List.mem_append, List.mem_map] at h
    rcases h with rfl | ⟨q, hq, rfl⟩ | ⟨q, hq, rfl⟩
    · exact Nat.zero_le _
    · have := pl_ht l q hq
      simp only [List.length_cons, Tr.ht]
      omega
    · have := pl_ht r q hq
      simp only [List.length_cons, Tr.ht]
      omega
theorem ht_sz : ∀ t : Tr, t.ht ≤ t.sz
  | .nil => Nat.le_refl _
  | .nd g l r => by
    have a := ht_sz l
    have b := ht_sz r
    simp only [Tr.ht, Tr.sz]
    omega
theorem pl_ne (t : Tr) : pl t ≠ [] := by cases t <;> simp [pl]
theorem pl_head (t : Tr) : (pl t)[0]? = some [] := by cases t <;> rfl
theorem pl_signs : ∀ (t : Tr) (p : List Nat), p ∈ pl t → ∀ c ∈ p, c = 108 ∨ c = 114
  | .nil, p, h => by
    simp only [pl, List.mem_singleton] at h
    subst h
    exact fun c hc => absurd hc List.not_mem_nil
  | .nd g l r, p, h => by
    simp only [pl, List.mem_cons, List.mem_append, List.mem_map] at h
    rcases h with rfl | ⟨q, hq, rfl⟩ | ⟨q, hq, rfl⟩
    · exact fun c hc => absurd hc List.not_mem_nil
    · intro c hc
      rcases List.mem_cons.mp hc with e | e
      · exact .inl e
      · exact pl_signs l q hq c e
    · intro c hc
      rcases List.mem_cons.mp hc with e | e
      · exact .inr e
      · exact pl_signs r q hq c e
/-! ### the order -/
def ltL (a b : List Nat) : Prop := ltCps a b = true
theorem ltL_cons {c : Nat} {a b : List Nat} : ltL (c :: a) (c :: b) ↔ ltL a b := by simp [ltL, ltCps]
theorem ltL_nil {c : Nat} {a : List Nat} : ltL [] (c :: a) := rfl
theorem ltL_lt {c d : Nat} {a b : List Nat} (h : c < d) : ltL (c :: a) (d :: b) := by simp [ltL, ltCps, h]
theorem ltL_irr : ∀ a : List Nat, ¬ ltL a a
  | [] => by simp [ltL, ltCps]
  | c :: a => by
    rw [ltL_cons]
    exact ltL_irr a
theorem ltL_trans : ∀ {a b c : List Nat}, ltL a b → ltL b c → ltL a c
  | [], [], _, h, _ => absurd h (ltL_irr [])
  | [], _ :: _, [], _, h => by simp [ltL, ltCps] at h
  | [], _ :: _, _ :: _, _, _ => rfl
  | _ :: _, [], _, h, _ => by simp [ltL, ltCps] at h
  | _ :: _, _ :: _, [], _, h => by simp [ltL, ltCps] at h
  | x :: a, y :: b, z :: c, h1, h2 => by
    simp only [ltL, ltCps, Bool.or_eq_true, decide_eq_true_eq, Bool.and_eq_true, beq_iff_eq] at h1 h2 ⊢
    rcases h1 with h1 | ⟨rfl, h1⟩
    · rcases h2 with h2 | ⟨rfl, h2⟩
      · exact .inl (Nat.lt_trans h1 h2)
      · exact .inl h1
    · rcases h2 with h2 | ⟨rfl, h2⟩
      · exact .inl h2
      · exact .inr ⟨rfl, ltL_trans h1 h2⟩
theorem ltL_tri : ∀ a b : List Nat, ltL a b ∨ a = b ∨ ltL b a
  | [], [] => .inr (.inl rfl)
  | [], _ :: _ => .inl rfl
  | _ :: _, [] => .inr (.inr rfl)
  | x :: a, y :: b => by
    rcases Nat.lt_trichotomy x y with h | rfl | h
    · exact .inl (ltL_lt h)
    · rcases ltL_tri a b with h | rfl | h
      · exact .inl (ltL_cons.mpr h)
      · exact .inr (.inl rfl)
      · exact .inr (.inr (ltL_cons.mpr h))
    · exact .inr (.inr (ltL_lt h))
theorem pl_up : ∀ t : Tr, (pl t).Pairwise ltL
  | .nil => by simp [pl]
  | .nd g l r => by
    simp only [pl, List.pairwise_cons, List.pairwise_append, List.pairwise_map]
    refine ⟨fun p hp => ?_, (pl_up l).imp fun h => ltL_cons.mpr h, (pl_up r).imp fun h => ltL_cons.mpr h, fun a ha b hb => ?_⟩
    · simp only [List.mem_append, List.mem_map] at hp
      rcases hp with ⟨q, _, rfl⟩ | ⟨q, _, rfl⟩
      · exact rfl
      · exact rfl
    · simp only [List.mem_map] at ha hb
      obtain ⟨p, _, rfl⟩ := ha
      obtain ⟨q, _, rfl⟩ := hb
      exact ltL_lt (by decide)
theorem pl_nodup (t : Tr) : (pl t).Nodup := (pl_up t).imp fun {a b} h e => by
  subst e
  exact ltL_irr _ h
/-- what sorted hands back, of texts that are all unlike -/
theorem rising_pw : ∀ (l : List Str) (p : Str), risingS p l = true → (p :: l).Pairwise fun a b => ¬ ltL b.cps.toList a.cps.toList
  | [], p, _ => by simp
  | x :: r, p, h => by
    simp only [risingS, Bool.and_eq_true, Bool.not_eq_true'] at h
    have ih := rising_pw r x h.2
    have h1 : ¬ ltL x.cps.toList p.cps.toList := by
      intro e
      rw [ltL, h.1] at e
      cases e
    rw [List.pairwise_cons]
    refine ⟨fun y hy => ?_, ih⟩
    rcases List.mem_cons.mp hy with rfl | hy
    · exact h1
    · have h2 := (List.pairwise_cons.mp ih).1 y hy
      intro e
      rcases ltL_tri x.cps.toList p.cps.toList with q | q | q
      · exact h1 q
      · rw [← q] at e
        exact h2 e
      · exact h2 (ltL_trans e q)
theorem sorted_is {l : List Str} {ps : List (List Nat)} (h : l.Perm (ps.map st)) (hs : sortedS l = true) (hp : ps.Pairwise ltL) : l = ps.map st := by
  have pw : l.Pairwise fun a b => ¬ ltL b.cps.toList a.cps.toList := by
    cases l with
    | nil => simp
    | cons x r => exact rising_pw r x hs
  have pw2 : (ps.map st).Pairwise fun a b => ¬ ltL b.cps.toList a.cps.toList := by
    rw [List.pairwise_map]
    exact hp.imp fun {a b} h e => ltL_irr _ (ltL_trans h e)
  refine List.Perm.eq_of_pairwise (fun a b _ _ h1 h2 => ?_) pw pw2 h
  rcases ltL_tri a.cps.toList b.cps.toList with q | q | q
  · exact absurd q h2
  · rw [st_of a, st_of b, q]
  · exact absurd q h1
/-! ### the next place -/
def stripR (p : List Nat) : List Nat := (p.reverse.dropWhile fun c => c == 114).reverse
def nxt (full : Bool) (p : List Nat) : Option (List Nat) :=
  if full = true then some (p ++ [108]) else if stripR p = [] then none else some ((stripR p).dropLast ++ [114])
theorem dropWhile_snoc (f : Nat → Bool) (a : List Nat) (c : Nat) : (a ++ [c]).dropWhile f = if a.dropWhile f = [] then [c].dropWhile f else a.dropWhile f ++ [c] := by
  induction a with
  | nil => simp
  | cons x a ih =>
    rw [List.cons_append]
    by_cases h : f x = true
    · rw [List.dropWhile_cons_of_pos h, List.dropWhile_cons_of_pos h]
      exact ih
    · rw [List.dropWhile_cons_of_neg h, List.dropWhile_cons_of_neg h]
      simp
theorem stripR_cons (c : Nat) (p : List Nat) : stripR (c :: p) = if stripR p = [] then (if c = 114 then [] else [c]) else c :: stripR p := by
  unfold stripR
  rw [List.reverse_cons, dropWhile_snoc]
  by_cases h : (p.reverse.dropWhile fun c => c == 114) = []
  · rw [if_pos h, if_pos (by rw [h]; rfl)]
    by_cases hc : c = 114
    · simp [hc]
    · simp [hc]
  · rw [if_neg h, if_neg (by rw [List.reverse_eq_nil_iff]; exact h)]
    simp
theorem nxt_cons {f : Bool} {c : Nat} {p q : List Nat} (h : nxt f p = some q) : nxt f (c :: p) = some (c :: q) := by
  unfold nxt at h ⊢
  by_cases hf : f = true
  · rw [if_pos hf] at h ⊢
    cases h
    rfl
  · rw [if_neg hf] at h ⊢
    by_cases hp : stripR p = []
    · rw [if_pos hp] at h
      cases h
    · rw [if_neg hp] at h
      injection h with h
      have e : stripR (c :: p) = c :: stripR p := by rw [stripR_cons, if_neg hp]
      rw [e, if_neg (by simp), ← h, List.dropLast_cons_of_ne_nil hp]
      rfl
theorem nxt_last {f : Bool} {p : List Nat} (h : nxt f p = none) : nxt f (108 :: p) = some [114] ∧ nxt f (114 :: p) = none := by
  unfold nxt at h ⊢
  by_cases hf : f = true
  · rw [if_pos hf] at h
    cases h
  · rw [if_neg hf] at h
    by_cases hp : stripR p = []
    · rw [if_neg hf, if_neg hf, stripR_cons, stripR_cons, if_pos hp, if_pos hp]
      simp
    · rw [if_neg hp] at h
      cases h
theorem nxt_pl : ∀ (t : Tr) (i : Nat) (p : List Nat), (pl t)[i]? = some p → nxt (pt t p).full p = (pl t)[i + 1]?
  | .nil, i, p, h => by
    cases i with
    | zero =>
      cases h
      rfl
    | succ i => simp [pl] at h
  | .nd g l r, i, p, h => by
    cases i with
    | zero =>
      have e : p = [] := by
        simp only [pl, List.getElem?_cons_zero] at h
        exact (Option.some.inj h).symm
      subst e
      have e2 : (pl (.nd g l r))[0 + 1]? = some [108] := by
        have hl := pl_head l
        simp only [pl, List.getElem?_cons_succ]
        rw [List.getElem?_append_left (by rw [List.length_map]; exact List.length_pos_iff.mpr (pl_ne l)), List.getElem?_map, hl]
        rfl
      rw [e2]
      rfl
    | succ i =>
      simp only [pl, List.getElem?_cons_succ] at h ⊢
      by_cases hi : i < (pl l).length
      · rw [List.getElem?_append_left (by rw [List.length_map]; exact hi), List.getElem?_map] at h
        obtain ⟨q, hq, rfl⟩ := Option.map_eq_some_iff.mp h
        have ih := nxt_pl l i q hq
        have ef : pt (.nd g l r) (108 :: q) = pt l q := by show (if 108 = 108 then _ else _) = _; rw [if_pos rfl]
        rw [ef]
        by_cases hn : i + 1 < (pl l).length
        · rw [List.getElem?_append_left (by rw [List.length_map]; exact hn), List.getElem?_map]
          rw [List.getElem?_eq_getElem hn] at ih ⊢
          exact nxt_cons ih
        · have en : i + 1 = (pl l).length := by omega
          rw [List.getElem?_eq_none (by omega)] at ih
          rw [List.getElem?_append_right (by rw [List.length_map]; omega), List.length_map, en, Nat.sub_self, List.getElem?_map, pl_head r]
          exact (nxt_last ih).1
      · rw [List.getElem?_append_right (by rw [List.length_map]; omega), List.length_map, List.getElem?_map] at h
        obtain ⟨q, hq, rfl⟩ := Option.map_eq_some_iff.mp h
        have ih := nxt_pl r (i - (pl l).length) q hq
        have ef : pt (.nd g l r) (114 :: q) = pt r q := by show (if 114 = 108 then _ else _) = _; rw [if_neg (by decide)]
        rw [ef, List.getElem?_append_right (by rw [List.length_map]; omega), List.length_map, List.getElem?_map]
        have en : i + 1 - (pl l).length = i - (pl l).length + 1 := by omega
        rw [en]
        cases hr : (pl r)[i - (pl l).length + 1]? with
        | none =>
          rw [hr] at ih
          exact (nxt_last ih).2
        | some z =>
          rw [hr] at ih
          exact nxt_cons ih
/-! ### the places below a place -/
theorem below : ∀ (t : Tr) (p : List Nat), isP t p = true → (pl t).filter (fun q => decide (q.take p.length = p)) = (pl (pt t p)).map (p ++ ·)
  | t, [], _ => by
    rw [pt_nil]
    simp
  | .nil, c :: p, h => by cases h
  | .nd g l r, c :: p, h => by
    simp only [pl, List.filter_cons, List.filter_append, List.filter_map]
    have e0 : decide (([] : List Nat).take (c :: p).length = c :: p) = false := by simp
    rw [if_neg (by rw [e0]; exact Bool.false_ne_true)]
    by_cases h1 : c = 108
    · subst h1
      have hp : isP l p = true := h
      have ih := below l p hp
      have ea : ((fun q => decide (q.take (108 :: p).length = 108 :: p)) ∘ (108 :: ·)) = fun q : List Nat => decide (q.take p.length = p) := by
        funext q
        simp
      have eb : (pl r).filter ((fun q => decide (q.take (108 :: p).length = 108 :: p)) ∘ (114 :: ·)) = [] := by
        rw [List.filter_eq_nil_iff]
        intro q _
        simp
      rw [ea, eb, ih]
      show _ = (pl (if 108 = 108 then pt l p else pt r p)).map _
      rw [if_pos rfl]
      simp
    · by_cases h2 : c = 114
      · subst h2
        have hp : isP r p = true := h
        have ih := below r p hp
        have ea : ((fun q => decide (q.take (114 :: p).length = 114 :: p)) ∘ (114 :: ·)) = fun q : List Nat => decide (q.take p.length = p) := by
          funext q
          simp
        have eb : (pl l).filter ((fun q => decide (q.take (114 :: p).length = 114 :: p)) ∘ (108 :: ·)) = [] := by
          rw [List.filter_eq_nil_iff]
          intro q _
          simp
        rw [ea, eb, ih]
        show _ = (pl (if 114 = 108 then pt l p else pt r p)).map _
        rw [if_neg (by decide)]
        simp
      · have : isP (.nd g l r) (c :: p) = false := by
          show (if c = 108 then isP l p else if c = 114 then isP r p else false) = false
          rw [if_neg h1, if_neg h2]
        rw [this] at h
        cases h
end Ey
namespace Ey
open PySem PySem.Spec L2
theorem dw_drop (f : Nat → Bool) : ∀ l : List Nat, l.dropWhile f = l.drop (l.takeWhile f).length
  | [] => rfl
  | a :: l => by
    cases h : f a
    · simp [List.dropWhile_cons, List.takeWhile_cons, h]
    · simp [List.dropWhile_cons, List.takeWhile_cons, h, dw_drop f l]
theorem stripR_take (p : List Nat) : stripR p = p.take (p.length - (p.reverse.takeWhile fun c => c == 114).length) := by
  have hle : (p.reverse.takeWhile fun c => c == 114).length ≤ p.length := by
    have := (List.takeWhile_sublist (fun c => c == 114) (l := p.reverse)).length_le
    rwa [List.length_reverse] at this
  unfold stripR
  rw [dw_drop, ← List.reverse_reverse (p.take _), List.reverse_take]
  have e : p.length - (p.length - (p.reverse.takeWhile fun c => c == 114).length) = (p.reverse.takeWhile fun c => c == 114).length := by omega
  rw [e]
theorem rstrip_st (p : List Nat) : Txt.rstripChars (st p) (st [114]) = st (stripR p) := by
  have e1 : (st [114]).cps.contains = fun c => c == 114 := by
    funext c
    show (#[114] : Array Nat).contains c = (c == 114)
    simp [Array.contains]
  have e3 := stripR_take p
  have lo : stripLo (st [114]).cps.contains false (st p) = 0 := rfl
  have hi : stripHi (st [114]).cps.contains true (st p) 0 = p.length - (p.reverse.takeWhile fun c => c == 114).length := by
    rw [e1]
    rfl
  unfold Txt.rstripChars Txt.stripBy stripSame stripped
  rw [lo, hi]
  have ex : Builtin.Str.strSub (st p) 0 (p.length - (p.reverse.takeWhile fun c => c == 114).length) = st (stripR p) := by
    rw [e3]
    show (⟨p.toArray.extract 0 _⟩ : Str) = ⟨_⟩
    simp
  rw [ex]
  split
  · rename_i h
    simp only [Bool.and_eq_true, beq_iff_eq] at h
    rw [e3, h.2]
    show st p = st (p.take p.length)
    rw [List.take_length]
  · rfl
theorem for_str {x : Str} {g : TG} {tb : TS} {D : Ends} {σ : St} {H : Hp} (Pv : Nat → St → Hp → Prop) (h0 : Pv 0 σ H)
    (hs : ∀ i c σ H, x.cps.toList[i]? = some c → Pv i σ H → g (.str (st [c])) σ H fun σ2 H2 => tb { D with nx := Pv (i + 1), ct := Pv (i + 1), bk := D.nx } σ2 H2)
    (hd : ∀ σ H, Pv x.cps.toList.length σ H → D.nx σ H) :
    ∃ W : Nat → Nat → St → Hp → Prop, (∃ m, W 0 m σ H) ∧ ∀ i m σ H, W i m σ H →
      ((Its x).stop i H ∧ D.nx σ H) ∨ ((Its x).go i H ∧ ∃ N : St → Hp → Prop, (∀ σ' H', N σ' H' → ∃ m', m' < m ∧ W (i + 1) m' σ' H') ∧ ∀ v H', (Its x).yld i H v H' → g v σ H' fun σ2 H2 => tb { D with nx := N, ct := N, bk := D.nx } σ2 H2) := by
  refine ⟨fun i m σ H => m = x.cps.size - i ∧ i ≤ x.cps.size ∧ Pv i σ H, ⟨_, rfl, Nat.zero_le _, h0⟩, fun i m σ H hw => ?_⟩
  obtain ⟨rfl, hi, p⟩ := hw
  by_cases lt : i < x.cps.size
  · refine .inr ⟨lt, Pv (i + 1), fun σ' H' p' => ⟨x.cps.size - (i + 1), by omega, rfl, lt, p'⟩, fun v H' y => ?_⟩
    obtain ⟨rfl, c, hc, rfl⟩ := y
    exact hs i c σ _ (by rw [Array.getElem?_toList]; exact hc) p
  · have e : i = x.cps.size := by omega
    subst e
    exact .inl ⟨Nat.le_refl _, hd σ H (by rw [Array.length_toList]; exact p)⟩
end Ey
namespace Ey
open PySem PySem.Spec L2
/-! ### heaps -/
/-- all that was tracked is as it was, but what stands at ms; tuples never change -/
structure Kp (ms : List Addr) (H H' : Hp) : Prop where
  at_ : ∀ b o, H b = some o → b ∉ ms → H' b = some o
  tup : ∀ b xs, H b = some (.tup xs) → H' b = some (.tup xs)
section
variable {ms : List Addr} {H H' H1 H2 : Hp}
theorem Kp.refl : Kp ms H H := ⟨fun _ _ e _ => e, fun _ _ e => e⟩
theorem Kp.trans (a : Kp ms H H1) (b : Kp ms H1 H2) : Kp ms H H2 := ⟨fun c o e n => b.at_ c o (a.at_ c o e n) n, fun c xs e => b.tup c xs (a.tup c xs e)⟩
theorem Kp.more {ms' : List Addr} (a : Kp ms H H1) (h : ∀ x ∈ ms, x ∈ ms') : Kp ms' H H1 := ⟨fun c o e n => a.at_ c o e fun q => n (h c q), a.tup⟩
theorem Kp.new {p : Addr} {o : HO} (h : H p = none) : Kp ms H (upd H p o) :=
  ⟨fun c u e _ => by rw [upd_ne (ne_of_none e h)]; exact e, fun c xs e => by rw [upd_ne (ne_of_none e h)]; exact e⟩
theorem Kp.put {p : Addr} {o u : HO} (hm : p ∈ ms) (h : H p = some u) (nt : ∀ xs, u ≠ .tup xs) : Kp ms H (upd H p o) := by
  refine ⟨fun c v e n => ?_, fun c xs e => ?_⟩
  · rw [upd_ne (fun q => n (by rw [q]; exact hm))]
    exact e
  · rw [upd_ne (fun q => ?_)]
    · exact e
    · rw [q, h] at e
      exact nt xs (Option.some.inj e)
theorem Kp.same (s : Same H H1) : Kp ms H H1 := ⟨fun c o e _ => s c o e, fun c xs e => s c _ e⟩
theorem Kp.free (a : Kp ms H H1) {p : Addr} (h : H1 p = none) (n : p ∉ ms) : H p = none := by
  cases q : H p with
  | none => rfl
  | some o =>
    rw [a.at_ p o q n] at h
    cases h
theorem Kp.lst {K : PySem.W.Frag} {a : Addr} {xs : List V} (k : Kp ms H H1) (n : a ∉ ms) (h : SqL K H a xs) : SqL K H1 a xs := by
  rcases h with (h | ⟨o, h⟩) | h
  · exact .inl (.inl (k.at_ _ _ h n))
  · exact .inl (.inr ⟨o, k.at_ _ _ h n⟩)
  · exact .inr h
end
/-! ### trees in the heap -/
inductive TreeAt (H : Hp) : V → Tr → Prop where
  | nil : TreeAt H .non .nil
  | nd {a : Addr} {g : Str} {l r : Tr} {v w : V} : H a = some (.tup [.str g, v, w]) → TreeAt H v l → TreeAt H w r → TreeAt H (.ref a) (.nd g l r)
theorem TreeAt.kp {ms : List Addr} {H H1 : Hp} {v : V} {t : Tr} (k : Kp ms H H1) (h : TreeAt H v t) : TreeAt H1 v t := by
  induction h with
  | nil => exact .nil
  | nd e _ _ ih1 ih2 => exact .nd (k.tup _ _ e) ih1 ih2
theorem TreeAt.non {H : Hp} {v : V} {t : Tr} (h : TreeAt H v t) : decide (v = .non) = !t.full := by
  cases h <;> rfl
theorem sqt_of {K : PySem.W.Frag} {H : Hp} {a : Addr} {xs : List V} (h : H a = some (.tup xs)) : SqT K H a xs := .inl (.inl h)
theorem sql_of {K : PySem.W.Frag} {H : Hp} {a : Addr} {xs : List V} (h : H a = some (.lst xs)) : SqL K H a xs := .inl (.inl h)
/-- a tree as data -/
def td : Tr → PyData
  | .nil => .none
  | .nd g l r => .tuple [.str g, td l, td r]
theorem TreeAt.dp {K : PySem.W.Frag} {H : Hp} {v : V} {t : Tr} (h : TreeAt H v t) : Dp K H v (td t) := by
  induction h with
  | nil => exact .non
  | nd e _ _ ih1 ih2 => exact .tup (sqt_of e) (.cons (.str _) (.cons ih1 (.cons ih2 .nil)))
theorem td_show : ∀ t : Tr, (td t).showable = true
  | .nil => rfl
  | .nd g l r => by
    show (true && ((td l).showable && ((td r).showable && true))) = true
    rw [td_show l, td_show r]
    rfl
theorem td_depth : ∀ t : Tr, (td t).depth ≤ 1 + t.ht
  | .nil => by decide
  | .nd g l r => by
    have a := td_depth l
    have b := td_depth r
    simp only [td, PyData.depth, PyData.depthAll, Tr.ht]
    omega
theorem tag_signs {g : Str} (h : isTag g = true) : ∀ c ∈ g.cps.toList, c < 16 ^ 8 := fun c hc => by
  simp only [isTag, Bool.and_eq_true, List.all_eq_true, decide_eq_true_eq] at h
  have := h.2 c hc
  simp only [abc, List.mem_cons, List.not_mem_nil, or_false] at this
  omega
theorem tag_len {g : Str} (h : isTag g = true) : g.length ≤ 8 := by
  simp only [isTag, Bool.and_eq_true, decide_eq_true_eq] at h
  exact h.1.2
theorem len_app (a b : Str) : (a ++ b).length = a.length + b.length := by
  show (a.cps ++ b.cps).size = _
  rw [Array.size_append]
  rfl
theorem td_len : ∀ t : Tr, t.ok → (td t).shown.length ≤ 100 * t.sz + 4
  | .nil, _ => by decide +kernel
  | .nd g l r, h => by
    obtain ⟨hg, hl, hr⟩ := h
    have a := td_len l hl
    have b := td_len r hr
    have c := StrLaws.reprText_len g (tag_signs hg)
    have d := tag_len hg
    have e : (td (.nd g l r)).shown.length ≤ (reprText g).length + (td l).shown.length + (td r).shown.length + 6 := by
      show (tupleText [reprText g, (td l).shown, (td r).shown]).length ≤ _
      unfold tupleText
      rw [len_app, len_app]
      simp only [Str.join, len_app]
      have q1 : (", " : Str).length = 2 := by decide +kernel
      have q2 : ("(" : Str).length = 1 := by decide +kernel
      have q3 : (Str.ofString (if (([reprText g, (td l).shown, (td r).shown] : List Str).length == 1) = true then ",)" else ")")).length = 1 := by
        show (Str.ofString (if ((3 : Nat) == 1) = true then ",)" else ")")).length = 1
        decide +kernel
      rw [q1, q2]
      omega
    simp only [Tr.sz]
    omega
end Ey
set_option maxHeartbeats 4000000
namespace Ey
open PySem PySem.Spec L2
def topS (i : Nat) : Stmt := PySem.Challenge.pw_eyesonly_k02_ways_next_places_and_parts.main.body.getD i (.Pass ⟨0, 0, 0, 0⟩)
abbrev sDeck : Stmt := topS 21
abbrev sDraw : Stmt := topS 22
abbrev sPick : Stmt := topS 23
/-- what the module leaves of the built-in names -/
structure BI (mg : Str → Option Value) : Prop where
  int : mg "int" = none
  max : mg "max" = none
  list : mg "list" = none
  len : mg "len" = none
  range : mg "range" = none
  tuple : mg "tuple" = none
  sorted : mg "sorted" = none
  repr : mg "repr" = none
  isi : mg "isinstance" = none
  str : mg "str" = none
  all : mg "all" = none
/-! ### the deck -/
def kLeft : Key := .inr "left"
def kMix : Key := .inr "mixed"
def kDraw : Key := .inr "draws"
theorem kLM : ¬ kLeft = kMix := by decide +kernel
theorem kLD : ¬ kLeft = kDraw := by decide +kernel
theorem kMD : ¬ kMix = kDraw := by decide +kernel
def deckD (l : Addr) (m n : Int) : List (Key × V) := [(kLeft, .ref l), (kMix, .int m), (kDraw, .int n)]
section
variable (l : Addr) (m n : Int)
theorem deck_left : valV (deckD l m n) kLeft = some (.ref l) := valV_pos rfl
theorem deck_mix : valV (deckD l m n) kMix = some (.int m) := (valV_neg kLM).trans (valV_pos rfl)
theorem deck_draw : valV (deckD l m n) kDraw = some (.int n) := (valV_neg kLD).trans ((valV_neg kMD).trans (valV_pos rfl))
theorem put_mix (z : Int) : putK (deckD l m n) kMix (.int z) = deckD l z n := by
  have h : ((deckD l m n).any fun kv => decide (kv.1 = kMix)) = true := by rw [valV_any, deck_mix]; rfl
  unfold putK
  rw [if_pos h]
  have h2 : ¬ kDraw = kMix := fun e => kMD e.symm
  simp [deckD, kLM, h2]
theorem put_draw (z : Int) : putK (deckD l m n) kDraw (.int z) = deckD l m z := by
  have h : ((deckD l m n).any fun kv => decide (kv.1 = kDraw)) = true := by rw [valV_any, deck_draw]; rfl
  unfold putK
  rw [if_pos h]
  simp [deckD, kLD, kMD]
end
theorem merge_deck (l : Addr) (m n : Int) : mergeK [] (deckD l m n) = deckD l m n := by
  have e1 : putK ([] : List (Key × V)) kLeft (.ref l) = [(kLeft, .ref l)] := putK_new _ rfl
  have e2 : putK [(kLeft, V.ref l)] kMix (.int m) = [(kLeft, V.ref l), (kMix, .int m)] := putK_new _ (valV_neg kLM)
  have e3 : putK [(kLeft, V.ref l), (kMix, V.int m)] kDraw (.int n) = deckD l m n := putK_new _ ((valV_neg kLD).trans (valV_neg kMD))
  show putK (putK (putK [] kLeft (.ref l)) kMix (.int m)) kDraw (.int n) = _
  rw [e1, e2, e3]
theorem deck_sz (l : Addr) (m n : Int) : (deckD l m n).length < sizeLine := small1000 (by show 3 ≤ 1000; decide)
section
variable {H : Hp} {d l : Addr} {m n : Int}
theorem get_left (h : H d = some (.dK (deckD l m n))) : DGet H d (kV kLeft) (some (.ref l)) := deck_left l m n ▸ DGet.k h
theorem get_mix (h : H d = some (.dK (deckD l m n))) : DGet H d (kV kMix) (some (.int m)) := deck_mix l m n ▸ DGet.k h
theorem get_draw (h : H d = some (.dK (deckD l m n))) : DGet H d (kV kDraw) (some (.int n)) := deck_draw l m n ▸ DGet.k h
theorem set_mix (h : H d = some (.dK (deckD l m n))) (z : Int) : DPut H d (kV kMix) (.int z) (upd H d (.dK (deckD l z n))) := put_mix l m n z ▸ DPut.k h (deck_sz l m n)
theorem set_draw (h : H d = some (.dK (deckD l m n))) (z : Int) : DPut H d (kV kDraw) (.int z) (upd H d (.dK (deckD l m z))) := put_draw l m n z ▸ DPut.k h (deck_sz l m n)
end
structure DeckAt (H : Hp) (d l : Addr) : Prop where
  ex : ∃ (m n : Int) (ns : List Int), H d = some (.dK (deckD l m n)) ∧ H l = some (.lst (ns.map V.int)) ∧ ns.length ≤ 63
theorem DeckAt.ne {H : Hp} {d l : Addr} (D : DeckAt H d l) : d ≠ l := by
  obtain ⟨m, n, ns, h1, h2, _⟩ := D.ex
  exact ne_of h1 h2 (by intro z; cases z)
theorem DeckAt.kp {ms : List Addr} {H H1 : Hp} {d l : Addr} (D : DeckAt H d l) (k : Kp ms H H1) (nd : d ∉ ms) (nl : l ∉ ms) : DeckAt H1 d l := by
  obtain ⟨m, n, ns, h1, h2, h3⟩ := D.ex
  exact ⟨m, n, ns, k.at_ _ _ h1 nd, k.at_ _ _ h2 nl, h3⟩
def spDraw : Sp := fun vs H Q _ => ∃ (d l : Addr) (many : Int), vs = [.ref d, .int many] ∧ DeckAt H d l ∧ 0 < many ∧ many < 1073741824 ∧
  ∀ (r : Int) (H' : Hp), 0 ≤ r → r < many → DeckAt H' d l → Kp [d, l] H H' → Q (.int r) H'
section
variable {P : Program} {w : World} {K : PySem.W.Frag} {mg : Str → Option Value} {base : Heap}
theorem scDraw : FnScope ["_law_deck_here", "_law_many", "_law_cell", "_law_figure"] ["_law_deck_here", "_law_many"] (defScope sDraw) := ⟨rfl, rfl, rfl, by decide +kernel, rfl, by decide +kernel, by decide +kernel⟩
theorem fmod_lt {i j : Int} (h : 0 < j) : 0 ≤ i.fmod j ∧ i.fmod j < j := ⟨Int.fmod_nonneg_of_pos _ h, Int.fmod_lt_of_pos _ h⟩
theorem fdiv_ne : (2147483647 : Int) ≠ 0 := by decide
theorem lt64 {i : Int} (h0 : 0 ≤ i) (h1 : i < 2147483647) : -(2 ^ 64) < i ∧ i < 2 ^ 64 := by
  constructor
  · exact Int.lt_of_lt_of_le (by decide) h0
  · exact Int.lt_trans h1 (by decide)
theorem eqv_nil (ns : List Int) : PyData.eqv (.list (ns.map PyData.int)) (.list []) = ns.isEmpty := by
  cases ns <;> rfl
theorem dp_ints {K : PySem.W.Frag} {H : Hp} : ∀ ns : List Int, DpAll K H (ns.map V.int) (ns.map PyData.int)
  | [] => .nil
  | n :: r => .cons (.int n) (dp_ints r)
theorem lay_ints : ∀ ns : List Int, PyData.canLayAll0 (ns.map PyData.int) = true ∧ PyData.depthAll (ns.map PyData.int) = 0
  | [] => ⟨rfl, rfl⟩
  | n :: r => by
    obtain ⟨a, b⟩ := lay_ints r
    refine ⟨?_, ?_⟩
    · show (PyData.canLay0 (.int n) && PyData.canLayAll0 (r.map PyData.int)) = true
      rw [a]
      rfl
    · show max 0 (PyData.depthAll (r.map PyData.int)) = 0
      rw [b]
      rfl
theorem shaped_ints (ns : List Int) : SeqAt.shaped (.list (ns.map PyData.int)) = true := by
  obtain ⟨a, b⟩ := lay_ints ns
  show (PyData.canLayAll0 (ns.map PyData.int) && decide (PyData.depthAll (ns.map PyData.int) + 1 ≤ 64)) = true
  rw [a, b]
  rfl
theorem ok_draw {f : Addr} {fd : FuncData} (F : Fun K "_law_draw" "_law_draw" sDraw f fd) (B : BI mg) : FnOk P w K mg base CX0 1 f fd ["_law_deck_here", "_law_many"] spDraw := by
  refine F.ok scDraw (fun vs H Q E h => ?_) (fun cdv A outer s H vs Q E hr h => ?_)
  · obtain ⟨d, l, many, rfl, _⟩ := h
    rfl
  · obtain ⟨d, l, many, rfl, D, m0, m1, k⟩ := h
    have hu := hu_of hr
    have mne : many ≠ 0 := by omega
    -- the tail: figure, figure, figure, return
    obtain ⟨tt, dt, rt⟩ : ∃ tt, PSs (cxOf CX0 P w K mg base ["_law_deck_here", "_law_many", "_law_cell", "_law_figure"] "_law_draw" (defScope sDraw) f cdv A outer s H E).nox ((defBody sDraw).drop 2) tt ∧
        ∀ (H2 : Hp) (y : Option V), DeckAt H2 d l → Kp [d, l] H H2 → tt { nx := fun _ H' => Q .non H', rt := Q } [some (.ref d), some (.int many), y, none] H2 := by
      refine ⟨_, pss_cons (ps_set (i := 3) scDraw.nd rfl (.inl rfl) (pe_op op_modN (pe_callTy call_int1 (by rfl) B.int (by decide +kernel) (pa_cons (pe_op op_add (pe_dget hu (pv 0) pe_str (fun _ _ => rfl)) (pe_op op_mul pe_int (pe_dget hu (pv 0) pe_str (fun _ _ => rfl)))) pa_nil)) pe_int))
        (pss_cons (ps_set (i := 3) scDraw.nd rfl (.inl rfl) (pe_op op_modN (pe_callTy call_int1 (by rfl) B.int (by decide +kernel) (pa_cons (pe_op op_add (pe_op op_add (pe_op op_mul (pv 3) (pv 3)) (pe_op op_mul pe_int (pe_dget hu (pv 0) pe_str (fun _ _ => rfl)))) pe_int) pa_nil)) pe_int))
        (pss_cons (ps_set (i := 3) scDraw.nd rfl (.inl rfl) (pe_op op_modN (pe_callTy call_int1 (by rfl) B.int (by decide +kernel) (pa_cons (pe_op op_add (pe_op op_mul (pv 3) pe_int) pe_int) pa_nil)) pe_int))
        (pss_one (ps_ret (pe_op op_modN (pe_callTy call_int1 (by rfl) B.int (by decide +kernel) (pa_cons (pe_op op_fdivN (pv 3) pe_int) pa_nil)) (pv 1)))))), fun H2 y D2 k2 => ?_⟩
      obtain ⟨m, n, ns, hd, hl, hn⟩ := id D2
      refine ⟨_, rfl, d, _, rfl, get_mix hd, _, rfl, d, _, rfl, get_draw hd, _, _, rfl, rfl, .inl ⟨by decide, by decide⟩, _, _, rfl, rfl, .inl ⟨_, rfl, ?_⟩⟩
      refine ⟨_, _, rfl, rfl, (by decide : (2147483647 : Int) ≠ 0), ?_⟩
      have b1 := fmod_lt (i := m + 31337 * n) (j := 2147483647) (by decide)
      refine ⟨_, rfl, _, rfl, _, _, rfl, rfl, .inl (lt64 b1.1 b1.2), _, rfl, d, _, rfl, get_draw hd, _, _, rfl, rfl, .inl ⟨by decide, by decide⟩, _, _, rfl, rfl, _, _, rfl, rfl, .inl ⟨_, rfl, ?_⟩⟩
      refine ⟨_, _, rfl, rfl, (by decide : (2147483629 : Int) ≠ 0), ?_⟩
      have b2 := fmod_lt (i := (m + 31337 * n).fmod 2147483647 * (m + 31337 * n).fmod 2147483647 + 48271 * n + 47) (j := 2147483629) (by decide)
      refine ⟨_, rfl, _, _, rfl, rfl, .inl (lt64 b2.1 (Int.lt_trans b2.2 (by decide : (2147483629 : Int) < 2147483647))), _, _, rfl, rfl, .inl ⟨_, rfl, ?_⟩⟩
      refine ⟨_, _, rfl, rfl, (by decide : (2147483563 : Int) ≠ 0), ?_⟩
      refine ⟨_, rfl, _, _, rfl, rfl, (⟨by decide, by decide⟩ : (64 : Int) ≠ 0 ∧ (64 : Int).natAbs < 1073741824), .inl ⟨_, rfl, _, rfl, _, _, rfl, rfl, mne, ?_⟩⟩
      have b3 := fun i : Int => fmod_lt (i := i) m0
      exact k _ H2 (b3 _).1 (b3 _).2 D2 k2
    refine ⟨_, pss_cons (ps_dput hu (pv 0) pe_str (pe_op op_add (pe_dget hu (pv 0) pe_str (fun _ _ => rfl)) pe_int) rfl)
      (pss_cons (ps_if (pt_cmpR (op_neD hr.units) (pe_dget hu (pv 0) pe_str (fun _ _ => rfl)) (pe_lst pa_nil) (nomark _))
        (pss_cons (ps_set (i := 2) scDraw.nd rfl (.inl rfl) (pe_bm0 PySem.F.plainAttrs_list PySem.F.slot_list_pop PySem.F.type_list_pop mt_pop (pe_dget hu (pv 0) pe_str (fun _ _ => rfl))))
        (pss_cons (ps_if (pt_cmpR op_ge (pv 2) (pe_op op_pow pe_int pe_int) (nomark _))
          (pss_cons (ps_expr (pe_bm PySem.F.plainAttrs_list PySem.F.slot_list_append PySem.F.type_list_append mt_append (pe_dget hu (pv 0) pe_str (fun _ _ => rfl))
            (pa_cons (pe_op op_fdivN (pv 2) (pe_callB (call_max2 rfl) (by rfl) B.max (by decide +kernel) (pa_cons pe_int (pa_cons (pv 1) pa_nil)))) pa_nil)))
          (pss_one (ps_ret (pe_op op_modN (pe_callTy call_int1 (by rfl) B.int (by decide +kernel) (pa_cons (pv 2) pa_nil)) (pv 1))))) pss_nil)
        (pss_one (ps_dput hu (pv 0) pe_str (pe_op op_modN (pe_callTy call_int1 (by rfl) B.int (by decide +kernel) (pa_cons (pe_op op_add (pe_op op_add (pe_op op_mul (pe_dget hu (pv 0) pe_str (fun _ _ => rfl)) pe_int)
          (pe_op op_modN (pe_callTy call_int1 (by rfl) B.int (by decide +kernel) (pa_cons (pv 2) pa_nil)) pe_int)) pe_int) pa_nil)) pe_int) rfl)))) pss_nil)
      dt), ?_⟩
    obtain ⟨m, n, ns, hd, hl, hn⟩ := D.ex
    have ndl := D.ne
    -- deck['draws'] = deck['draws'] + 1
    refine ⟨_, rfl, d, _, rfl, get_draw hd, _, _, rfl, rfl, _, rfl, d, _, rfl, set_draw hd _, ?_⟩
    have kd : Kp [d, l] H (upd H d (.dK (deckD l m (n + 1)))) := .put (by simp) hd (fun xs z => by cases z)
    have hd1 : (upd H d (.dK (deckD l m (n + 1)))) d = some (.dK (deckD l m (n + 1))) := upd_same
    have hl1 : (upd H d (.dK (deckD l m (n + 1)))) l = some (.lst (ns.map V.int)) := by rw [upd_ne ndl.symm]; exact hl
    generalize upd H d (.dK (deckD l m (n + 1))) = H1 at kd hd1 hl1
    -- if deck['left'] != []
    refine ⟨_, rfl, d, _, rfl, get_left hd1, Nat.zero_le _, fun p np => ⟨.list (ns.map PyData.int), .list [], .lst (sql_of (by rw [upd_ne (ne_of_none hl1 np)]; exact hl1)) (dp_ints ns), .lst (sql_of upd_same) .nil, shaped_ints ns, rfl, ?_⟩⟩
    rw [eqv_nil]
    have kp : Kp [d, l] H (upd H1 p (.lst [])) := kd.trans (.new np)
    have hd2 : (upd H1 p (.lst [])) d = some (.dK (deckD l m (n + 1))) := by rw [upd_ne (ne_of_none hd1 np)]; exact hd1
    have hl2 : (upd H1 p (.lst [])) l = some (.lst (ns.map V.int)) := by rw [upd_ne (ne_of_none hl1 np)]; exact hl1
    generalize upd H1 p (.lst []) = H2 at kp hd2 hl2
    refine ⟨_, rfl, ?_⟩
    cases e : ns.isEmpty with
    | true =>
      refine iteF ?_
      exact rt H2 _ ⟨_, _, _, hd2, hl2, hn⟩ kp
    | false =>
      refine iteT ?_
      -- cell = deck['left'].pop()
      obtain ⟨ini, z, rfl⟩ : ∃ ini z, ns = ini ++ [z] := by
        refine ⟨ns.dropLast, ns.getLast (fun q => by rw [q] at e; cases e), (List.dropLast_concat_getLast _).symm⟩
      have lst : ((ini ++ [z]).map V.int)[((ini ++ [z]).map V.int).length - 1]? = some (.int z) := by
        rw [List.map_append, List.length_append]
        show (ini.map V.int ++ [V.int z])[(ini.map V.int).length + 1 - 1]? = _
        rw [Nat.add_sub_cancel, List.getElem?_append_right (Nat.le_refl _), Nat.sub_self]
        rfl
      have dr : ((ini ++ [z]).map V.int).dropLast = ini.map V.int := by
        rw [List.map_append]
        exact List.dropLast_concat
      rw [List.length_append] at hn
      have hn' : ini.length + 1 ≤ 63 := hn
      refine ⟨_, rfl, d, _, rfl, get_left hd2, .inl ⟨rfl, _, sql_of hl2⟩, l, _, _, rfl, rfl, hl2, lst, ?_⟩
      rw [dr]
      have k3 : Kp [d, l] H (upd H2 l (.lst (ini.map V.int))) := kp.trans (.put (by simp) hl2 (fun xs z => by cases z))
      have hd3 : (upd H2 l (.lst (ini.map V.int))) d = some (.dK (deckD l m (n + 1))) := by rw [upd_ne ndl]; exact hd2
      have hl3 : (upd H2 l (.lst (ini.map V.int))) l = some (.lst (ini.map V.int)) := upd_same
      generalize upd H2 l (.lst (ini.map V.int)) = H3 at k3 hd3 hl3
      -- if cell >= 10 ** 18
      refine ⟨_, rfl, _, _, rfl, rfl, (⟨by decide, by decide, by decide⟩ : (0 : Int) ≤ 18 ∧ (18 : Int) ≤ 1000000 ∧ (10 : Int).natAbs < 2 ^ 64), _, _, rfl, rfl, _, rfl, ite2 (fun _ => ?_) (fun _ => ?_)⟩
      · -- append, return
        refine ⟨_, rfl, d, _, rfl, get_left hd3, .inl ⟨rfl, _, sql_of hl3⟩, _, rfl, _, rfl, _, _, rfl, _, _, rfl, rfl, ?_, ?_⟩
        · show (if many > 2 then many else 2) ≠ 0 ∧ (if many > 2 then many else 2).natAbs < 1073741824
          split <;> omega
        · refine ⟨l, _, _, rfl, rfl, hl3, ?_, ?_⟩
          · rw [List.length_map]
            exact small1000 (by omega)
          · refine ⟨_, rfl, .inl ⟨_, rfl, _, rfl, _, _, rfl, rfl, mne, ?_⟩⟩
            have b3 := fun i : Int => fmod_lt (i := i) m0
            refine k _ _ (b3 _).1 (b3 _).2 ⟨m, n + 1, ini ++ [z.fdiv (if many > 2 then many else 2)], ?_, ?_, ?_⟩ (k3.trans (.put (by simp) hl3 (fun xs z => by cases z)))
            · rw [upd_ne ndl]
              exact hd3
            · rw [upd_same, List.map_append]
              rfl
            · rw [List.length_append]
              show ini.length + 1 ≤ 63
              omega
      · refine ⟨_, rfl, d, _, rfl, get_mix hd3, _, _, rfl, rfl, .inr ⟨by decide, by decide⟩, _, rfl, .inl ⟨_, rfl, _, _, rfl, rfl, (by decide : (2147483629 : Int) ≠ 0), _, _, rfl, rfl, _, _, rfl, rfl, .inl ⟨_, rfl, ?_⟩⟩⟩
        refine ⟨_, _, rfl, rfl, (by decide : (2147483587 : Int) ≠ 0), _, rfl, d, _, rfl, set_mix hd3 _, ?_⟩
        refine rt _ _ ⟨_, _, ini, upd_same, ?_, by omega⟩ (k3.trans (.put (by simp) hd3 (fun xs z => by cases z)))
        rw [upd_ne ndl.symm]
        exact hl3
theorem cut63 (xs : List V) (h : xs.length ≤ 63) : cutV xs none (some 63) = xs := by
  unfold cutV
  rw [HT.sIx_none, show HT.sIx xs.length xs.length (some 63) = min 63 xs.length from HT.sIx_nat _ _ 63, Nat.min_eq_right h]
  show List.take xs.length xs = xs
  exact List.take_length
theorem scDeck : FnScope ["_law_script", "_law_seed", "_law_mixed", "_law_cell"] ["_law_script", "_law_seed"] (defScope sDeck) := ⟨rfl, rfl, rfl, by decide +kernel, rfl, by decide +kernel, by decide +kernel⟩
def spDeck (K : PySem.W.Frag) : Sp := fun vs H Q _ => ∃ (a : Addr) (ns : List Int) (seed : Int), vs = [.ref a, .int seed] ∧ SqL K H a (ns.map V.int) ∧ ns.length ≤ 63 ∧
  ∀ (d l : Addr) (H' : Hp), DeckAt H' d l → Kp [] H H' → H d = none → H l = none → Q (.ref d) H'
theorem ok_deck {f : Addr} {fd : FuncData} (F : Fun K "_law_deck" "_law_deck" sDeck f fd) (B : BI mg) : FnOk P w K mg base CX0 1 f fd ["_law_script", "_law_seed"] (spDeck K) := by
  refine F.ok scDeck (fun vs H Q E h => ?_) (fun cdv A outer s H vs Q E hr h => ?_)
  · obtain ⟨a, ns, seed, rfl, _⟩ := h
    rfl
  · obtain ⟨a, ns, seed, rfl, hS, hn, k⟩ := h
    refine ⟨_, pss_cons (ps_set (i := 2) scDeck.nd rfl (.inl rfl) (pv 1))
      (pss_cons (ps_for PassesOwn.never rfl (pi_list (pe_slice sl_list (pv 0) po_none (po_some pe_int))) (pg_name (i := 3) scDeck.nd rfl (.inl rfl))
        (pss_one (ps_set (i := 2) scDeck.nd rfl (.inl rfl) (pe_op op_modN (pe_callTy call_int1 (by rfl) B.int (by decide +kernel) (pa_cons (pe_op op_add (pe_op op_add (pe_op op_mul (pv 2) pe_int)
          (pe_op op_modN (pe_callTy call_int1 (by rfl) B.int (by decide +kernel) (pa_cons (pv 3) pa_nil)) pe_int)) pe_int) pa_nil)) pe_int))))
      (pss_one (ps_ret (pe_disp (pps_cons pe_str (pe_revL (pe_callTy call_list_of (by rfl) B.list (by decide +kernel) (pa_cons (pe_slice sl_list (pv 0) po_none (po_some pe_int)) pa_nil)))
        (pps_cons pe_str (pv 2) (pps_cons pe_str pe_int pps_nil))) (by rfl) (by rfl) (fun z => by cases z) (by decide))))), ?_⟩
    have hl63 : (ns.map V.int).length ≤ 63 := by rw [List.length_map]; exact hn
    refine ⟨_, rfl, _, rfl, 63, rfl, a, ns.map V.int, rfl, hS, fun c nc => ?_⟩
    rw [cut63 _ hl63]
    have k0 : Kp [] H (upd H c (.lst (ns.map V.int))) := .new nc
    refine ⟨c, rfl, ⟨_, sql_of upd_same⟩, for_list (K := K) (a := c) (xs := ns.map V.int) (fun i σ H2 => ∃ (m : Int) (y : Option V), σ = [some (.ref a), some (.int seed), some (.int m), y] ∧ Kp [] H H2 ∧ SqL K H2 c (ns.map V.int))
      ⟨seed, none, rfl, k0, sql_of upd_same⟩ (fun i σ H2 _ ⟨_, _, _, _, q⟩ => q) ?_ ?_⟩
    · rintro i x σ H2 hi ⟨m, y, rfl, k2, hc⟩
      obtain ⟨z, rfl⟩ : ∃ z, x = V.int z := by
        rw [List.getElem?_map] at hi
        obtain ⟨z, _, e⟩ := Option.map_eq_some_iff.mp hi
        exact ⟨z, e.symm⟩
      refine ⟨_, rfl, _, _, rfl, rfl, .inr ⟨by decide, by decide⟩, _, rfl, .inl ⟨_, rfl, _, _, rfl, rfl, (by decide : (2147483629 : Int) ≠ 0), _, _, rfl, rfl, _, _, rfl, rfl, .inl ⟨_, rfl, ?_⟩⟩⟩
      exact ⟨_, _, rfl, rfl, (by decide : (2147483563 : Int) ≠ 0), _, _, rfl, k2, hc⟩
    · rintro σ H2 ⟨m, y, rfl, k2, hc⟩
      intro d nd
      have kd : Kp [] H2 (upd H2 d (.dK [])) := .new nd
      have hdd : (upd H2 d (.dK [])) d = some (.dK []) := upd_same
      generalize upd H2 d (.dK []) = H3 at kd hdd
      have hS3 : SqL K H3 a (ns.map V.int) := (k2.trans kd).lst List.not_mem_nil hS
      refine ⟨_, rfl, 63, rfl, a, ns.map V.int, rfl, hS3, fun e ne => ?_⟩
      rw [cut63 _ hl63]
      refine ⟨e, _, rfl, .inl (sql_of upd_same), fun g ng => ?_⟩
      refine ⟨g, _, rfl, sql_of upd_same, fun l nl => ?_⟩
      have k5 : Kp [] H3 (upd (upd (upd H3 e (.lst (ns.map V.int))) g (.lst (ns.map V.int))) l (.lst (ns.map V.int).reverse)) := (Kp.new ne).trans ((Kp.new ng).trans (Kp.new nl))
      have hl5 : (upd (upd (upd H3 e (.lst (ns.map V.int))) g (.lst (ns.map V.int))) l (.lst (ns.map V.int).reverse)) l = some (.lst (ns.map V.int).reverse) := upd_same
      have nl3 : H3 l = none := ((Kp.new (ms := []) ne).trans (Kp.new ng)).free nl List.not_mem_nil
      generalize upd (upd (upd H3 e (.lst (ns.map V.int))) g (.lst (ns.map V.int))) l (.lst (ns.map V.int).reverse) = H4 at k5 hl5
      have hd4 : H4 d = some (.dK []) := k5.at_ _ _ hdd List.not_mem_nil
      refine ⟨_, rfl, hd4, deckD l m 0, rfl, by show 3 ≤ 15; decide, ?_⟩
      rw [merge_deck]
      have ndl : d ≠ l := ne_of hd4 hl5 (by intro z; cases z)
      refine k d l _ ⟨m, 0, ns.reverse, upd_same, ?_, by rw [List.length_reverse]; exact hn⟩ ?_ (k2.free nd List.not_mem_nil) ((k2.trans kd).free nl3 List.not_mem_nil)
      · rw [upd_ne ndl.symm, hl5, List.map_reverse]
      · refine ⟨fun b o e1 _ => ?_, fun b xs e1 => ?_⟩
        · have nb : b ≠ d := ne_of_none e1 (k2.free nd List.not_mem_nil)
          rw [upd_ne nb]
          exact k5.at_ _ _ (kd.at_ _ _ (k2.at_ _ _ e1 List.not_mem_nil) List.not_mem_nil) List.not_mem_nil
        · have nb : b ≠ d := ne_of_none e1 (k2.free nd List.not_mem_nil)
          rw [upd_ne nb]
          exact k5.tup _ _ (kd.tup _ _ (k2.tup _ _ e1))
theorem scPick : FnScope ["_law_deck_here", "_law_some"] ["_law_deck_here", "_law_some"] (defScope sPick) := ⟨rfl, rfl, rfl, by decide +kernel, rfl, by decide +kernel, by decide +kernel⟩
def spPick (K : PySem.W.Frag) : Sp := fun vs H Q _ => ∃ (d l a : Addr) (xs : List V), vs = [.ref d, .ref a] ∧ DeckAt H d l ∧ SqL K H a xs ∧ xs ≠ [] ∧ xs.length ≤ 1000 ∧ a ≠ d ∧ a ≠ l ∧
  ∀ (x : V) (H' : Hp), x ∈ xs → DeckAt H' d l → Kp [d, l] H H' → Q x H'
/-- a def of the module, as callers need it -/
structure Df (K : PySem.W.Frag) (mg : Str → Option Value) (x : Str) (st : Stmt) (ps : List Str) (f : Addr) (fd : FuncData) : Prop where
  F : Fun K x x st f fd
  b : Binds K fd ps []
  g : mg x = some (.ref f)
theorem ok_pick {f fD : Addr} {fd fdD : FuncData} (F : Fun K "_law_pick" "_law_pick" sPick f fd) (B : BI mg) (D : Df K mg "_law_draw" sDraw ["_law_deck_here", "_law_many"] fD fdD) : FnOk P w K mg base CX0 2 f fd ["_law_deck_here", "_law_some"] (spPick K) := by
  refine F.ok scPick (fun vs H Q E h => ?_) (fun cdv A outer s H vs Q E hr h => ?_)
  · obtain ⟨d, l, a, xs, rfl, _⟩ := h
    rfl
  · obtain ⟨d, l, a, xs, rfl, DA, hS, hne, hlen, had, hal, k⟩ := h
    refine ⟨_, pss_one (ps_ret (pe_ix ix_list (pv 1) (pe_call (ok_draw D.F B) hr (by rfl) D.g D.F.kp D.b .nil pass0 (pa_cons (pv 0) (pa_cons (pe_callB call_len_seq (by rfl) B.len PySem.boot_len (pa_cons (pv 1) pa_nil)) pa_nil))) (fun _ _ => rfl))), ?_⟩
    have hpos : 0 < xs.length := List.length_pos_iff.mpr hne
    refine ⟨_, rfl, _, rfl, _, rfl, a, xs, rfl, .inl hS, d, l, _, rfl, DA, by omega, by omega, fun r H' r0 r1 D' kp => ?_⟩
    have hn : a ∉ [d, l] := by simp [had, hal]
    obtain ⟨i, rfl⟩ : ∃ i : Nat, r = (i : Int) := ⟨r.toNat, by omega⟩
    have hi : i < xs.length := by omega
    refine ⟨a, xs, _, xs[i], rfl, rfl, kp.lst hn hS, ?_, ?_⟩
    · exact atI_nat (List.getElem?_eq_getElem hi)
    · exact k _ H' (List.getElem_mem hi) D' kp
end
end Ey
set_option maxHeartbeats 4000000
namespace Ey
open PySem PySem.Spec L2
abbrev sTags : Stmt := topS 27
abbrev sTree : Stmt := topS 28
abbrev sChain : Stmt := topS 29
abbrev sLPlaces : Stmt := topS 24
abbrev sLPart : Stmt := topS 25
abbrev sLLed : Stmt := topS 26
def tagL : List Str := ["a", "jkqvwz", "c", "if", "else", "abcdefgh", "z", "has", "yes", "and"]
theorem tagL_ok : ∀ g ∈ tagL, isTag g = true := by decide +kernel
/-- a def without parameters, as callers need it -/
structure Facts (K : PySem.W.Frag) (mg : Str → Option Value) (fD fP fT : Addr) (dD dP dT : FuncData) : Prop where
  B : BI mg
  draw : Df K mg "_law_draw" sDraw ["_law_deck_here", "_law_many"] fD dD
  pick : Df K mg "_law_pick" sPick ["_law_deck_here", "_law_some"] fP dP
  tags : Df K mg "_law_tags" sTags [] fT dT
section
variable {P : Program} {w : World} {K : PySem.W.Frag} {mg : Str → Option Value} {base : Heap}
theorem scTags : FnScope [] [] (defScope sTags) := ⟨rfl, rfl, rfl, by decide +kernel, rfl, by decide +kernel, by decide +kernel⟩
def spTags : Sp := fun vs H Q _ => vs = [] ∧ ∀ p, H p = none → Q (.ref p) (upd H p (.lst (tagL.map V.str)))
theorem ok_tags {f : Addr} {fd : FuncData} (F : Fun K "_law_tags" "_law_tags" sTags f fd) : FnOk P w K mg base CX0 1 f fd [] spTags := by
  refine F.ok scTags (fun vs H Q E h => ?_) (fun cdv A outer s H vs Q E hr h => ?_)
  · obtain ⟨rfl, _⟩ := h
    rfl
  · obtain ⟨rfl, k⟩ := h
    refine ⟨_, pss_one (ps_ret (pe_lst (pa_cons pe_str (pa_cons pe_str (pa_cons pe_str (pa_cons pe_str (pa_cons pe_str (pa_cons pe_str (pa_cons pe_str (pa_cons pe_str (pa_cons pe_str (pa_cons pe_str pa_nil)))))))))))), ?_⟩
    exact ⟨by show 10 ≤ sizeLine; decide, fun p np => k p np⟩
/-! ### drawn trees -/
def boxD (n : Nat) : List (Key × V) := [(kLeft, .int n)]
def BoxAt (H : Hp) (b : Addr) (n : Nat) : Prop := H b = some (.dK (boxD n))
theorem put_box (n : Nat) (z : Int) : putK (boxD n) kLeft (.int z) = [(kLeft, .int z)] := by
  unfold putK
  rw [if_pos (by rw [valV_any, show valV (boxD n) kLeft = some (.int n) from valV_pos rfl]; rfl)]
  simp [boxD]
theorem get_box {H : Hp} {b : Addr} {n : Nat} (h : BoxAt H b n) : DGet H b (kV kLeft) (some (.int n)) := (show valV (boxD n) kLeft = some (.int n) from valV_pos rfl) ▸ DGet.k h
theorem set_box {H : Hp} {b : Addr} {n m : Nat} {z : Int} (h : BoxAt H b n) (e : z = (m : Int)) : DPut H b (kV kLeft) (.int z) (upd H b (.dK (boxD m))) := by
  have q := DPut.k (k := kLeft) (v := .int z) h (small1000 (show 1 ≤ 1000 by decide))
  rw [put_box, e] at q
  rw [e]
  exact q
theorem BoxAt.ned {H : Hp} {b d l : Addr} {n : Nat} (h : BoxAt H b n) (D : DeckAt H d l) : b ≠ d ∧ b ≠ l := by
  obtain ⟨m, k, ns, h1, h2, _⟩ := D.ex
  exact ⟨ne_of h h1 (by intro z; injection z with z; injection z with _ z; cases z), ne_of h h2 (by intro z; cases z)⟩
theorem BoxAt.kp {ms : List Addr} {H H1 : Hp} {b : Addr} {n : Nat} (h : BoxAt H b n) (k : Kp ms H H1) (nb : b ∉ ms) : BoxAt H1 b n := k.at_ _ _ h nb
def spTree (deep : Nat) : Sp := fun vs H Q _ => ∃ (d l b : Addr) (n : Nat), vs = [.ref d, .ref b, .int deep] ∧ DeckAt H d l ∧ BoxAt H b n ∧
  ∀ (v : V) (t : Tr) (m : Nat) (H' : Hp), TreeAt H' v t → t.ok → t.sz + m ≤ n → t.ht ≤ deep → BoxAt H' b m → DeckAt H' d l → Kp [d, l, b] H H' → Q v H'
theorem scTree : FnScope ["_law_deck_here", "_law_box", "_law_deep", "_law_tag", "_law_first", "_law_one", "_law_other"] ["_law_deck_here", "_law_box", "_law_deep"] (defScope sTree) := ⟨rfl, rfl, rfl, by decide +kernel, rfl, by decide +kernel, by decide +kernel⟩
variable {fD fP fT : Addr} {dD dP dT : FuncData}
theorem sub3 {d l b : Addr} : ∀ x ∈ [d, l], x ∈ [d, l, b] := by simp
theorem ok_tree {f : Addr} {fd : FuncData} (Fa : Facts K mg fD fP fT dD dP dT) (Ft : Df K mg "_law_drawn_tree" sTree ["_law_deck_here", "_law_box", "_law_deep"] f fd) :
    ∀ deep : Nat, FnOk P w K mg base CX0 (deep + 3) f fd ["_law_deck_here", "_law_box", "_law_deep"] (spTree deep)
  | 0 => by
    refine Ft.F.ok scTree (fun vs H Q E h => ?_) (fun cdv A outer s H vs Q E hr h => ?_)
    · obtain ⟨d, l, b, n, rfl, _⟩ := h
      rfl
    · obtain ⟨d, l, b, n, rfl, D, hb, k⟩ := h
      have hu := hu_of hr
      refine ⟨_, pss_cons (ps_if (PW.pt (pw_or (pt_cmpR op_eq (pe_dget hu (pv 1) pe_str (fun _ _ => rfl)) pe_int (nomark _)) (pw_or (pt_cmpR op_eq (pv 2) pe_int (nomark _)) (pw_or1
          (pt_cmpR op_lt (pe_call (ok_draw Fa.draw.F Fa.B) (hr.mono (by decide)) (by rfl) Fa.draw.g Fa.draw.F.kp Fa.draw.b .nil pass0 (pa_cons (pv 0) (pa_cons pe_int pa_nil))) pe_int (nomark _)))))) (pss_one (ps_ret pe_non)) pss_nil)
        (pss_cons ps_never (pss_cons ps_never (pss_cons ps_never (pss_cons ps_never (pss_one ps_never))))), ?_⟩
      have fin : Q .non H := k .non .nil n H .nil trivial (by simp [Tr.sz]) (Nat.le_refl _) hb D .refl
      refine ⟨_, rfl, b, _, rfl, get_box hb, rfl, _, rfl, ite2 (fun _ => iteT fin) (fun _ => ?_)⟩
      refine ⟨_, rfl, rfl, _, rfl, ite2 (fun _ => iteT fin) (fun q => ?_)⟩
      exact absurd (decide_eq_true rfl) q
  | deep + 1 => by
    have ih := ok_tree Fa Ft deep
    refine Ft.F.ok scTree (fun vs H Q E h => ?_) (fun cdv A outer s H vs Q E hr h => ?_)
    · obtain ⟨d, l, b, n, rfl, _⟩ := h
      rfl
    · obtain ⟨d, l, b, n, rfl, D, hb, k⟩ := h
      have hu := hu_of hr
      have hr1 := hr.mono (show 1 ≤ deep + 3 by omega)
      have hr2 := hr.mono (show 2 ≤ deep + 3 by omega)
      refine ⟨_, pss_cons (ps_if (PW.pt (pw_or (pt_cmpR op_eq (pe_dget hu (pv 1) pe_str (fun _ _ => rfl)) pe_int (nomark _)) (pw_or (pt_cmpR op_eq (pv 2) pe_int (nomark _)) (pw_or1
          (pt_cmpR op_lt (pe_call (ok_draw Fa.draw.F Fa.B) hr1 (by rfl) Fa.draw.g Fa.draw.F.kp Fa.draw.b .nil pass0 (pa_cons (pv 0) (pa_cons pe_int pa_nil))) pe_int (nomark _)))))) (pss_one (ps_ret pe_non)) pss_nil)
        (pss_cons (ps_dput hu (pv 1) pe_str (pe_op op_sub (pe_dget hu (pv 1) pe_str (fun _ _ => rfl)) pe_int) rfl)
        (pss_cons (ps_par (i := 3) (j := 4) (by rfl) scTree.nd rfl rfl (by decide) rfl rfl
          (pa_cons (pe_call (ok_pick Fa.pick.F Fa.B Fa.draw) hr2 (by rfl) Fa.pick.g Fa.pick.F.kp Fa.pick.b .nil pass0 (pa_cons (pv 0) (pa_cons (pe_call0 (ok_tags Fa.tags.F) hr1 (by rfl) Fa.tags.g Fa.tags.F.kp Fa.tags.b .nil pass0) pa_nil)))
          (pa_cons (pe_cmpR op_eq (pe_call (ok_draw Fa.draw.F Fa.B) hr1 (by rfl) Fa.draw.g Fa.draw.F.kp Fa.draw.b .nil pass0 (pa_cons (pv 0) (pa_cons pe_int pa_nil))) pe_int (nomark _)) pa_nil)) (by rfl))
        (pss_cons (ps_set (i := 5) scTree.nd rfl (.inl rfl) (pe_call ih hr (by rfl) Ft.g Ft.F.kp Ft.b .nil pass0 (pa_cons (pv 0) (pa_cons (pv 1) (pa_cons (pe_op op_sub (pv 2) pe_int) pa_nil)))))
        (pss_cons (ps_set (i := 6) scTree.nd rfl (.inl rfl) (pe_call ih hr (by rfl) Ft.g Ft.F.kp Ft.b .nil pass0 (pa_cons (pv 0) (pa_cons (pv 1) (pa_cons (pe_op op_sub (pv 2) pe_int) pa_nil)))))
        (pss_one (ps_ret (pe_ifExp (pt_val (pv 4)) (pe_tup (pa_cons (pv 3) (pa_cons (pv 5) (pa_cons (pv 6) pa_nil)))) (pe_tup (pa_cons (pv 3) (pa_cons (pv 6) (pa_cons (pv 5) pa_nil))))))))))), ?_⟩
      -- the first test
      refine ⟨_, rfl, b, _, rfl, get_box hb, rfl, _, rfl, ite2 (fun _ => iteT (k .non .nil n H .nil trivial (by simp [Tr.sz]) (Nat.zero_le _) hb D .refl)) (fun q0 => ?_)⟩
      have hn : n ≠ 0 := fun e => q0 (decide_eq_true (by rw [e]; rfl))
      refine ⟨_, rfl, rfl, _, rfl, ite2 (fun q => ?_) (fun _ => ?_)⟩
      · have := V.int.inj (of_decide_eq_true q)
        omega
      refine ⟨_, rfl, d, l, 7, rfl, D, by decide, by decide, fun r H1 r0 r1 D1 k1 => ⟨_, _, rfl, rfl, _, rfl, ?_⟩⟩
      have hbd := hb.ned D
      have hb1 : BoxAt H1 b n := hb.kp k1 (by simp [hbd.1, hbd.2])
      have k1' : Kp [d, l, b] H H1 := k1.more sub3
      refine ite2 (fun _ => ?_) (fun _ => ?_)
      · exact k .non .nil n H1 .nil trivial (by simp [Tr.sz]) (Nat.zero_le _) hb1 D1 k1'
      -- box['left'] = box['left'] - 1
      obtain ⟨m, rfl⟩ : ∃ m, n = m + 1 := ⟨n - 1, by omega⟩
      refine ⟨_, rfl, b, _, rfl, get_box hb1, _, _, rfl, rfl, _, rfl, b, _, rfl, set_box (m := m) hb1 (by omega), ?_⟩
      have hb2 : BoxAt (upd H1 b (.dK (boxD m))) b m := upd_same
      have D2 : DeckAt (upd H1 b (.dK (boxD m))) d l := D1.kp (ms := [b]) (.put (by simp) hb1 (fun xs z => by cases z)) (by simp [hbd.1.symm]) (by simp [hbd.2.symm])
      have k2 : Kp [d, l, b] H (upd H1 b (.dK (boxD m))) := k1'.trans (.put (by simp) hb1 (fun xs z => by cases z))
      generalize upd H1 b (.dK (boxD m)) = H2 at hb2 D2 k2
      -- tag, first
      refine ⟨_, rfl, rfl, fun p np => ?_⟩
      obtain ⟨m1, n1, ns, e1, e2, e3⟩ := id D2
      have D3 : DeckAt (upd H2 p (.lst (tagL.map V.str))) d l := D2.kp (.new np) (ms := []) List.not_mem_nil List.not_mem_nil
      refine ⟨d, l, p, _, rfl, D3, sql_of upd_same, by decide, by show 10 ≤ 1000; decide, (ne_of_none e1 np).symm, (ne_of_none e2 np).symm, fun x H4 hx D4 k4 => ?_⟩
      obtain ⟨g, hg, rfl⟩ := List.mem_map.mp hx
      have k4' : Kp [d, l, b] H H4 := k2.trans ((Kp.new np).trans (k4.more sub3))
      refine ⟨_, rfl, d, l, 2, rfl, D4, by decide, by decide, fun r' H5 _ _ D5 k5 => ⟨rfl, _, _, rfl, ?_⟩⟩
      have k5' : Kp [d, l, b] H H5 := k4'.trans (k5.more sub3)
      have hb5 : BoxAt H5 b m := by
        refine (((hb2.kp (.new np) (ms := []) List.not_mem_nil).kp k4 ?_).kp k5 ?_) <;> simp [hbd.1, hbd.2]
      -- one, other
      refine ⟨_, rfl, _, rfl, _, rfl, _, _, rfl, rfl, d, l, b, m, by simp, D5, hb5, fun v1 t1 m1' H6 T1 o1 s1 h1 hb6 D6 k6 => ?_⟩
      refine ⟨_, rfl, _, rfl, _, rfl, _, _, rfl, rfl, d, l, b, m1', by simp, D6, hb6, fun v2 t2 m2' H7 T2 o2 s2 h2 hb7 D7 k7 => ?_⟩
      have T1' : TreeAt H7 v1 t1 := T1.kp k7
      have k7' : Kp [d, l, b] H H7 := k5'.trans (k6.trans k7)
      refine ⟨_, rfl, _, rfl, ite2 (fun _ => ?_) (fun _ => ?_)⟩
      · refine ⟨_, rfl, _, rfl, _, rfl, by show 3 ≤ sizeLine; decide, fun q nq => ?_⟩
        have kq : Kp [d, l, b] H7 (upd H7 q (.tup [.str g, v1, v2])) := .new nq
        refine k _ (.nd g t1 t2) m2' _ (.nd upd_same (T1'.kp kq) (T2.kp kq)) ⟨tagL_ok g hg, o1, o2⟩ (by simp only [Tr.sz]; omega) (by simp only [Tr.ht]; omega) ?_ ?_ (k7'.trans kq)
        · exact hb7.kp (.new nq) (ms := []) List.not_mem_nil
        · exact D7.kp (.new nq) (ms := []) List.not_mem_nil List.not_mem_nil
      · refine ⟨_, rfl, _, rfl, _, rfl, by show 3 ≤ sizeLine; decide, fun q nq => ?_⟩
        have kq : Kp [d, l, b] H7 (upd H7 q (.tup [.str g, v2, v1])) := .new nq
        refine k _ (.nd g t2 t1) m2' _ (.nd upd_same (T2.kp kq) (T1'.kp kq)) ⟨tagL_ok g hg, o2, o1⟩ (by simp only [Tr.sz]; omega) (by simp only [Tr.ht]; omega) ?_ ?_ (k7'.trans kq)
        · exact hb7.kp (.new nq) (ms := []) List.not_mem_nil
        · exact D7.kp (.new nq) (ms := []) List.not_mem_nil List.not_mem_nil
end
end Ey
set_option maxHeartbeats 4000000
namespace Ey
open PySem PySem.Spec L2
theorem s_l : (Str.ofString "l") = st [108] := by decide +kernel
theorem s_r : (Str.ofString "r") = st [114] := by decide +kernel
theorem s_e : (Str.ofString "") = st [] := by decide +kernel
theorem cut_last (p : List Nat) : cutS (st p) none (some (-1)) = st p.dropLast := by
  unfold cutS
  rw [HT.sIx_none]
  have e : HT.sIx (st p).length (st p).length (some (-1)) = p.length - 1 := by
    show (if (-1 : Int) < 0 then (-1 + ((st p).length : Int)).toNat else min (-1 : Int).toNat (st p).length) = p.length - 1
    rw [if_pos (by decide), st_len]
    omega
  rw [e, st_list, List.dropLast_eq_take]
  rfl
theorem cut_to (p : List Nat) (n : Nat) : cutS (st p) none (some (n : Int)) = st (p.take n) := by
  unfold cutS
  rw [HT.sIx_none, HT.sIx_nat, st_list, st_len]
  show st (List.take (min n p.length - 0) p) = _
  congr 1
  rw [Nat.sub_zero, ← List.take_take, List.take_length]
section
variable {P : Program} {w : World} {K : PySem.W.Frag} {mg : Str → Option Value} {base : Heap} {fD fP fT : Addr} {dD dP dT : FuncData}
/-! ### chains -/
theorem scChain : FnScope ["_law_deck_here", "_law_many", "_law_tree", "_law_turn", "_law_tag"] ["_law_deck_here", "_law_many"] (defScope sChain) := ⟨rfl, rfl, rfl, by decide +kernel, rfl, by decide +kernel, by decide +kernel⟩
def spChain : Sp := fun vs H Q _ => ∃ (d l : Addr) (many : Nat), vs = [.ref d, .int many] ∧ DeckAt H d l ∧ many ≤ 100 ∧
  ∀ (v : V) (t : Tr) (H' : Hp), TreeAt H' v t → t.ok → t.sz ≤ many → DeckAt H' d l → Kp [d, l] H H' → Q v H'
theorem ok_chain {f : Addr} {fd : FuncData} (Fa : Facts K mg fD fP fT dD dP dT) (F : Fun K "_law_chain" "_law_chain" sChain f fd) : FnOk P w K mg base CX0 3 f fd ["_law_deck_here", "_law_many"] spChain := by
  refine F.ok scChain (fun vs H Q E h => ?_) (fun cdv A outer s H vs Q E hr h => ?_)
  · obtain ⟨d, l, many, rfl, _⟩ := h
    rfl
  · obtain ⟨d, l, many, rfl, D, hm, k⟩ := h
    have hr1 := hr.mono (show 1 ≤ 2 by decide)
    refine ⟨_, pss_cons (ps_set (i := 2) scChain.nd rfl (.inl rfl) pe_non)
      (pss_cons (ps_for PassesOwn.never rfl (pi_range1 (by rfl) Fa.B.range (pa_cons (pv 1) pa_nil)) (pg_name (i := 3) scChain.nd rfl (.inl rfl))
        (pss_cons (ps_set (i := 4) scChain.nd rfl (.inl rfl) (pe_call (ok_pick Fa.pick.F Fa.B Fa.draw) hr (by rfl) Fa.pick.g Fa.pick.F.kp Fa.pick.b .nil pass0 (pa_cons (pv 0) (pa_cons (pe_call0 (ok_tags Fa.tags.F) hr1 (by rfl) Fa.tags.g Fa.tags.F.kp Fa.tags.b .nil pass0) pa_nil))))
        (pss_one (ps_set (i := 2) scChain.nd rfl (.inl rfl) (pe_ifExp (pt_cmpR op_eq (pe_call (ok_draw Fa.draw.F Fa.B) hr1 (by rfl) Fa.draw.g Fa.draw.F.kp Fa.draw.b .nil pass0 (pa_cons (pv 0) (pa_cons pe_int pa_nil))) pe_int (nomark _))
          (pe_tup (pa_cons (pv 4) (pa_cons (pv 2) (pa_cons pe_non pa_nil)))) (pe_tup (pa_cons (pv 4) (pa_cons pe_non (pa_cons (pv 2) pa_nil)))))))))
      (pss_one (ps_ret (pv 2)))), ?_⟩
    refine ⟨_, rfl, many, rfl, by omega, by omega, ?_⟩
    rw [Int.toNat_natCast]
    refine for_range (lo := 0) (n := many) (fun i σ H2 => ∃ (v : V) (t : Tr) (y z : Option V), σ = [some (.ref d), some (.int many), some v, y, z] ∧ TreeAt H2 v t ∧ t.ok ∧ t.sz ≤ i ∧ DeckAt H2 d l ∧ Kp [d, l] H H2)
      ⟨.non, .nil, none, none, rfl, .nil, trivial, Nat.le_refl _, D, .refl⟩ ?_ ?_
    · rintro i σ H2 hi ⟨v, t, y, z, rfl, T, o, sz, D2, k2⟩
      refine ⟨_, rfl, rfl, fun p np => ?_⟩
      obtain ⟨m1, n1, ns, e1, e2, e3⟩ := id D2
      have D3 : DeckAt (upd H2 p (.lst (tagL.map V.str))) d l := D2.kp (.new np) (ms := []) List.not_mem_nil List.not_mem_nil
      refine ⟨d, l, p, _, rfl, D3, sql_of upd_same, by decide, by show 10 ≤ 1000; decide, (ne_of_none e1 np).symm, (ne_of_none e2 np).symm, fun x H4 hx D4 k4 => ?_⟩
      obtain ⟨g, hg, rfl⟩ := List.mem_map.mp hx
      refine ⟨_, rfl, d, l, 2, rfl, D4, by decide, by decide, fun r' H5 _ _ D5 k5 => ⟨rfl, _, rfl, ?_⟩⟩
      have k5' : Kp [d, l] H2 H5 := (Kp.new np).trans (k4.trans k5)
      have T5 := T.kp k5'
      refine ite2 (fun _ => ?_) (fun _ => ?_)
      · refine ⟨_, rfl, _, rfl, by show 3 ≤ sizeLine; decide, fun q nq => ?_⟩
        have kq : Kp [d, l] H5 (upd H5 q (.tup [.str g, v, .non])) := .new nq
        exact ⟨_, .nd g t .nil, _, _, rfl, .nd upd_same (T5.kp kq) .nil, ⟨tagL_ok g hg, o, trivial⟩, by simp only [Tr.sz]; omega, D5.kp (.new nq) (ms := []) List.not_mem_nil List.not_mem_nil, k2.trans (k5'.trans kq)⟩
      · refine ⟨_, rfl, _, rfl, by show 3 ≤ sizeLine; decide, fun q nq => ?_⟩
        have kq : Kp [d, l] H5 (upd H5 q (.tup [.str g, .non, v])) := .new nq
        exact ⟨_, .nd g .nil t, _, _, rfl, .nd upd_same .nil (T5.kp kq), ⟨tagL_ok g hg, trivial, o⟩, by simp only [Tr.sz]; omega, D5.kp (.new nq) (ms := []) List.not_mem_nil List.not_mem_nil, k2.trans (k5'.trans kq)⟩
    · rintro σ H2 ⟨v, t, y, z, rfl, T, o, sz, D2, k2⟩
      exact ⟨_, rfl, k v t H2 T o sz D2 k2⟩
/-! ### places by recursion -/
theorem scLPlaces : FnScope ["_law_tree", "_law_ahead"] ["_law_tree", "_law_ahead"] (defScope sLPlaces) := ⟨rfl, rfl, rfl, by decide +kernel, rfl, by decide +kernel, by decide +kernel⟩
def plV (a : List Nat) (t : Tr) : List V := (pl t).map fun q => V.str (st (a ++ q))
theorem plV_nil (a : List Nat) : plV a .nil = [V.str (st a)] := by
  show [V.str (st (a ++ []))] = _
  rw [List.append_nil]
theorem plV_nd (a : List Nat) (g : Str) (l r : Tr) : plV a (.nd g l r) = V.str (st a) :: (plV (a ++ [108]) l ++ plV (a ++ [114]) r) := by
  simp [plV, pl]
  rfl
theorem plV_len (a : List Nat) (t : Tr) : (plV a t).length = 2 * t.sz + 1 := by rw [plV, List.length_map, pl_len]
def spLPlaces (n : Nat) : Sp := fun vs H Q _ => ∃ (v : V) (t : Tr) (a : List Nat), vs = [v, .str (st a)] ∧ TreeAt H v t ∧ t.ht ≤ n ∧ t.sz ≤ 1000 ∧ a.length + n ≤ 1000 ∧
  ∀ (p : Addr) (H' : Hp), Kp [] H H' → H p = none → H' p = some (.lst (plV a t)) → Q (.ref p) H'
theorem ok_lplaces {f : Addr} {fd : FuncData} (Df0 : Df K mg "_law_places" sLPlaces ["_law_tree", "_law_ahead"] f fd) : ∀ n : Nat, FnOk P w K mg base CX0 (n + 1) f fd ["_law_tree", "_law_ahead"] (spLPlaces n)
  | 0 => by
    refine Df0.F.ok scLPlaces (fun vs H Q E h => ?_) (fun cdv A outer s H vs Q E hr h => ?_)
    · obtain ⟨v, t, a, rfl, _⟩ := h
      rfl
    · obtain ⟨v, t, a, rfl, T, ht, _, _, k⟩ := h
      refine ⟨_, pss_cons (ps_if (pt_cmpR op_isN (pv 0) pe_non (nomark _)) (pss_one (ps_ret (pe_lst (pa_cons (pv 1) pa_nil)))) pss_nil) (pss_one ps_never), ?_⟩
      cases T with
      | nd e _ _ => simp [Tr.ht] at ht
      | nil =>
        refine ⟨_, rfl, rfl, _, rfl, iteT ?_⟩
        refine ⟨_, rfl, by show 1 ≤ sizeLine; decide, fun p np => ?_⟩
        exact k p _ (.new np) np (by rw [upd_same, plV_nil])
  | n + 1 => by
    have ih := ok_lplaces Df0 n
    refine Df0.F.ok scLPlaces (fun vs H Q E h => ?_) (fun cdv A outer s H vs Q E hr h => ?_)
    · obtain ⟨v, t, a, rfl, _⟩ := h
      rfl
    · obtain ⟨v, t, a, rfl, T, ht, sz, al, k⟩ := h
      refine ⟨_, pss_cons (ps_if (pt_cmpR op_isN (pv 0) pe_non (nomark _)) (pss_one (ps_ret (pe_lst (pa_cons (pv 1) pa_nil)))) pss_nil)
        (pss_one (ps_ret (pe_op op_cat (pe_op op_cat (pe_lst (pa_cons (pv 1) pa_nil))
          (pe_call ih hr (by rfl) Df0.g Df0.F.kp Df0.b .nil pass0 (pa_cons (pe_ix ix_tup (pv 0) pe_int (fun _ _ => rfl)) (pa_cons (pe_op op_add_str (pv 1) pe_str) pa_nil))))
          (pe_call ih hr (by rfl) Df0.g Df0.F.kp Df0.b .nil pass0 (pa_cons (pe_ix ix_tup (pv 0) pe_int (fun _ _ => rfl)) (pa_cons (pe_op op_add_str (pv 1) pe_str) pa_nil)))))), ?_⟩
      cases T with
      | nil =>
        refine ⟨_, rfl, rfl, _, rfl, iteT ?_⟩
        refine ⟨_, rfl, by show 1 ≤ sizeLine; decide, fun p np => ?_⟩
        exact k p _ (.new np) np (by rw [upd_same, plV_nil])
      | @nd x g tl tr v1 v2 e T1 T2 =>
        simp only [Tr.ht] at ht
        simp only [Tr.sz] at sz
        refine ⟨_, rfl, rfl, _, rfl, iteF ?_⟩
        refine ⟨_, rfl, by show 1 ≤ sizeLine; decide, fun p np => ?_⟩
        have kp : Kp [] H (upd H p (.lst [V.str (st a)])) := .new np
        have hp : (upd H p (.lst [V.str (st a)])) p = some (.lst [V.str (st a)]) := upd_same
        generalize upd H p (.lst [V.str (st a)]) = H1 at kp hp
        refine ⟨_, rfl, x, _, _, _, rfl, rfl, sqt_of (kp.tup _ _ e), atI_nat (j := 1) rfl, _, rfl, _, _, rfl, rfl, ?_, ?_⟩
        · rw [st_len]
          show a.length + 1 ≤ sizeLine
          exact Nat.le_of_lt (small1000 (by omega))
        rw [s_l, st_app]
        refine ⟨v1, tl, a ++ [108], rfl, T1.kp kp, by omega, by omega, by rw [List.length_append]; show a.length + 1 + n ≤ 1000; omega, fun p1 H2 k2 n1 e1 => ?_⟩
        refine ⟨p, p1, _, _, rfl, rfl, k2.at_ _ _ hp List.not_mem_nil, e1, ?_, fun p2 n2 => ?_⟩
        · rw [plV_len]
          show 1 + _ ≤ sizeLine
          exact Nat.le_trans (show 1 + (2 * tl.sz + 1) ≤ 10000 by omega) (by decide)
        have k3 : Kp [] H (upd H2 p2 (.lst ([V.str (st a)] ++ plV (a ++ [108]) tl))) := kp.trans (k2.trans (.new n2))
        have hp2 : (upd H2 p2 (.lst ([V.str (st a)] ++ plV (a ++ [108]) tl))) p2 = some (.lst ([V.str (st a)] ++ plV (a ++ [108]) tl)) := upd_same
        generalize upd H2 p2 (.lst ([V.str (st a)] ++ plV (a ++ [108]) tl)) = H3 at k3 hp2
        refine ⟨_, rfl, x, _, _, _, rfl, rfl, sqt_of (k3.tup _ _ e), atI_nat (j := 2) rfl, _, rfl, _, _, rfl, rfl, ?_, ?_⟩
        · rw [st_len]
          show a.length + 1 ≤ sizeLine
          exact Nat.le_of_lt (small1000 (by omega))
        rw [s_r, st_app]
        refine ⟨v2, tr, a ++ [114], rfl, T2.kp k3, by omega, by omega, by rw [List.length_append]; show a.length + 1 + n ≤ 1000; omega, fun p4 H4 k4 n4 e4 => ?_⟩
        refine ⟨p2, p4, _, _, rfl, rfl, k4.at_ _ _ hp2 List.not_mem_nil, e4, ?_, fun p5 n5 => ?_⟩
        · rw [List.length_append, plV_len, plV_len]
          show 1 + _ + _ ≤ sizeLine
          exact Nat.le_trans (show 1 + (2 * tl.sz + 1) + (2 * tr.sz + 1) ≤ 10000 by omega) (by decide)
        have k5 : Kp [] H (upd H4 p5 (.lst ([V.str (st a)] ++ plV (a ++ [108]) tl ++ plV (a ++ [114]) tr))) := k3.trans (k4.trans (.new n5))
        refine k p5 _ k5 ((k3.trans k4).free n5 List.not_mem_nil) ?_
        rw [upd_same, plV_nd]
        rfl
end
end Ey
set_option maxHeartbeats 4000000
namespace Ey
open PySem PySem.Spec L2
abbrev sIsTag : Stmt := topS 10
abbrev sIsTree : Stmt := topS 11
abbrev sCheck : Stmt := topS 12
abbrev sStand : Stmt := topS 13
abbrev sPlaces : Stmt := topS 14
abbrev sHas : Stmt := topS 15
abbrev sPartAt : Stmt := topS 16
abbrev sFrom : Stmt := topS 17
abbrev sLed : Stmt := topS 18
abbrev sNext : Stmt := topS 19
/-- H' is H but for the table at P -/
abbrev Tb (P : Addr) (H H' : Hp) : Prop := GxR.Tabbed P H H'
theorem tb_refl {P : Addr} {H : Hp} (h : GxR.TabG H P) : Tb P H H := ⟨h, fun _ _ => rfl⟩
theorem tb_trans {P : Addr} {H H1 H2 : Hp} (a : Tb P H H1) (b : Tb P H1 H2) : Tb P H H2 := ⟨b.1, fun c n => (b.2 c n).trans (a.2 c n)⟩
theorem tb_kp {P : Addr} {H H1 : Hp} (g : GxR.TabG H P) (a : Tb P H H1) : Kp [P] H H1 := by
  refine ⟨fun b o e n => ?_, fun b xs e => ?_⟩
  · rw [a.2 b (fun q => n (by rw [q]; simp))]
    exact e
  · rw [a.2 b (fun q => ?_)]
    · exact e
    · obtain ⟨ps, h, _⟩ := g
      rw [q, h] at e
      cases e
section
variable {Pr : Program} {w : World} {K : PySem.W.Frag} {mg : Str → Option Value} {base : Heap}
def spTag (P : Addr) : Sp := fun vs H Q _ => ∃ g : Str, vs = [.str g] ∧ g.length ≤ sizeLine ∧ GxR.TabG H P ∧ ∀ H', Tb P H H' → Q (.bl (isTag g)) H'
theorem scTag : FnScope ["thing"] ["thing"] (defScope sIsTag) := ⟨rfl, rfl, rfl, by decide +kernel, rfl, by decide +kernel, by decide +kernel⟩
theorem abc_is : (Str.ofString "abcdefghijklmnopqrstuvwxyz").cps.toList = abc := by decide +kernel
/-- a def whose code object stands at c, its table at P -/
structure DfT (K : PySem.W.Frag) (mg : Str → Option Value) (x : Str) (st : Stmt) (ps : List Str) (f : Addr) (fd : FuncData) (c : Addr) : Prop extends Df K mg x st ps f fd where
  ex : ∃ (oc : Value) (od : Option Addr) (kV doc pm : Value) (an : Option Addr) (ct : Value) (osl : Array (Option Value)),
    fd = PySem.W.fnOf x x (defArgs st) (defBody st) (defScope st) .none kV doc pm an (.ref c) ct ∧ K.lookup f = some ⟨oc, od, .func fd, osl⟩ ∧ PySem.W.codeIn K (.ref c) x = true
theorem ok_tag {f c P : Addr} {fd : FuncData} {tL tT : Tok} (D : DfT K mg "is_tag" sIsTag ["thing"] f fd c) (B : BI mg) (TB : GxR.TabB base mg c P) (M : base.Ns mainGlobals mg)
    (mL : mg "LETTERS" = some (.str "abcdefghijklmnopqrstuvwxyz" tL)) (mT : mg "TAG_LENGTH" = some (.int 8 tT)) : FnOk Pr w K mg base CX0 1 f fd ["thing"] (spTag P) := by
  obtain ⟨oc, od, kV, doc, pm, an, ct, osl, rfl, lk, code⟩ := D.ex
  refine fn_of lk code scTag (fun vs H Q E h => ?_) (fun A outer s H vs Q E hr h => ?_)
  · obtain ⟨g, rfl, _⟩ := h
    rfl
  · obtain ⟨g, rfl, hg, hT, k⟩ := h
    refine ⟨_, pss_one (ps_ret (pe_and (pe_callB call_isi (by rfl) B.isi (by decide +kernel) (pa_cons (pv 0) (pa_cons (pe_bltn (v := .ty "str") (by rfl) B.str (by decide +kernel) rfl) pa_nil)))
      (pe_and (pe_chain op_le op_le pe_int (pe_callB call_len_str (by rfl) B.len PySem.boot_len (pa_cons (pv 0) pa_nil)) (pe_glob (v := .int 8) (by rfl) mT ⟨_, rfl⟩))
        (pe_one (pe_allG (P := P) (c := c) hr (by rfl) B.all (by decide +kernel) TB rfl ⟨rfl, rfl, by decide +kernel, rfl, rfl, (by intro y hy e; exfalso; revert y; decide +kernel)⟩ (pv 0) (elt_inG rfl rfl rfl rfl M mL) (fun _ => rfl)))))), ?_⟩
    refine ⟨_, rfl, .str g, .ty "str", .type "str", .type "str", true, rfl, .ty "str", .base (.str g), kit_ty (by decide +kernel), true, rfl, iteT ?_⟩
    have fin : ∀ b, isTag g = b → Q (.bl b) H := fun b e => by
      rw [← e]
      exact k H (tb_refl hT)
    refine ⟨_, rfl, _, rfl, hg, _, _, rfl, rfl, _, rfl, ?_⟩
    by_cases h1 : 1 ≤ g.length
    · rw [decide_eq_true (show (1 : Int) ≤ (g.length : Int) by omega)]
      refine iteT ⟨_, _, rfl, rfl, _, rfl, ?_⟩
      by_cases h2 : g.length ≤ 8
      · rw [decide_eq_true (show (g.length : Int) ≤ 8 by omega)]
        refine iteT ⟨_, rfl, g, rfl, hT, fun H2 h => ?_⟩
        have q := k H2 h
        rw [isTag, decide_eq_true h1, decide_eq_true h2] at q
        rw [abc_is]
        exact q
      · rw [decide_eq_false (show ¬ (g.length : Int) ≤ 8 by omega)]
        refine iteF (fin _ ?_)
        rw [isTag, decide_eq_false h2, Bool.and_false]
        rfl
    · rw [decide_eq_false (show ¬ (1 : Int) ≤ (g.length : Int) by omega)]
      refine iteF ⟨_, rfl, iteF (fin _ ?_)⟩
      rw [isTag, decide_eq_false h1]
      rfl
end
end Ey
set_option maxHeartbeats 4000000
namespace Ey
open PySem PySem.Spec L2
/-! ### a list of one's own as a pile, its top first -/
theorem pile_top (x : V) (us : List V) : ((x :: us).reverse)[(x :: us).reverse.length - 1]? = some x := by
  rw [List.reverse_cons, List.length_append]
  show (us.reverse ++ [x])[us.reverse.length + 1 - 1]? = some x
  rw [Nat.add_sub_cancel, List.getElem?_append_right (Nat.le_refl _), Nat.sub_self]
  rfl
theorem pile_pop (x : V) (us : List V) : ((x :: us).reverse).dropLast = us.reverse := by
  rw [List.reverse_cons]
  exact List.dropLast_concat
theorem pile_push (x : V) (us : List V) : us.reverse ++ [x] = (x :: us).reverse := (List.reverse_cons).symm
theorem Kp.own {ms : List Addr} {H H1 : Hp} {p : Addr} {o : HO} (k : Kp ms H H1) (n : H p = none) : Kp ms H (upd H1 p o) :=
  ⟨fun b u e h => by rw [upd_ne (ne_of_none e n)]; exact k.at_ b u e h, fun b xs e => by rw [upd_ne (ne_of_none e n)]; exact k.tup b xs e⟩
theorem tabg_kp {ms : List Addr} {H H1 : Hp} {P : Addr} (g : GxR.TabG H P) (k : Kp ms H H1) (n : P ∉ ms) : GxR.TabG H1 P := by
  obtain ⟨ps, h, t⟩ := g
  exact ⟨ps, k.at_ _ _ h n, t⟩
theorem tabg_upd {H : Hp} {P p : Addr} {o : HO} (g : GxR.TabG H P) (n : P ≠ p) : GxR.TabG (upd H p o) P := by
  obtain ⟨ps, h, t⟩ := g
  exact ⟨ps, by rw [upd_ne n]; exact h, t⟩
/-- what a pile of trees weighs -/
def wt : List Tr → Nat
  | [] => 0
  | t :: r => 2 * t.sz + 1 + wt r
inductive PileAt (H : Hp) : List V → List Tr → Prop where
  | nil : PileAt H [] []
  | cons {v : V} {t : Tr} {us : List V} {ts : List Tr} : TreeAt H v t → t.ok → PileAt H us ts → PileAt H (v :: us) (t :: ts)
theorem PileAt.kp {ms : List Addr} {H H1 : Hp} {us : List V} {ts : List Tr} (k : Kp ms H H1) (h : PileAt H us ts) : PileAt H1 us ts := by
  induction h with
  | nil => exact .nil
  | cons a b _ ih => exact .cons (a.kp k) b ih
theorem PileAt.len {H : Hp} {us : List V} {ts : List Tr} (h : PileAt H us ts) : us.length ≤ wt ts := by
  induction h with
  | nil => exact Nat.le_refl _
  | cons a b _ ih =>
    simp only [List.length_cons, wt]
    omega
section
variable {Pr : Program} {w : World} {K : PySem.W.Frag} {mg : Str → Option Value} {base : Heap}
/-- what the program's defs lean on -/
structure PF (K : PySem.W.Frag) (mg : Str → Option Value) (fT cT : Addr) (dT : FuncData) : Prop where
  B : BI mg
  tag : DfT K mg "is_tag" sIsTag ["thing"] fT dT cT
  lett : ∃ t, mg "LETTERS" = some (.str "abcdefghijklmnopqrstuvwxyz" t)
  tlen : ∃ t, mg "TAG_LENGTH" = some (.int 8 t)
/-- what holds of the base -/
structure BF (base : Heap) (mg : Str → Option Value) (c P : Addr) : Prop where
  TB : GxR.TabB base mg c P
  M : base.Ns mainGlobals mg
variable {fT cT P : Addr} {dT : FuncData}
theorem go_tag (A : PF K mg fT cT dT) (b : BF base mg cT P) : FnOk Pr w K mg base CX0 1 fT dT ["thing"] (spTag P) := by
  obtain ⟨t1, h1⟩ := A.lett
  obtain ⟨t2, h2⟩ := A.tlen
  exact ok_tag A.tag A.B b.TB b.M h1 h2
theorem scIsTree : FnScope ["thing", "waiting", "part"] ["thing"] (defScope sIsTree) := ⟨rfl, rfl, rfl, by decide +kernel, rfl, by decide +kernel, by decide +kernel⟩
def spIsTree (P : Addr) : Sp := fun vs H Q _ => ∃ (v : V) (t : Tr), vs = [v] ∧ TreeAt H v t ∧ t.ok ∧ t.sz ≤ 1000 ∧ GxR.TabG H P ∧
  ∀ H', GxR.TabG H' P → Kp [P] H H' → Q (.bl true) H'
theorem ok_isTree {f : Addr} {fd : FuncData} (F : Fun K "is_tree" "is_tree" sIsTree f fd) (A : PF K mg fT cT dT) (b : BF base mg cT P) : FnOk Pr w K mg base CX0 2 f fd ["thing"] (spIsTree P) := by
  refine F.ok scIsTree (fun vs H Q E h => ?_) (fun cdv Ar outer s H vs Q E hr h => ?_)
  · obtain ⟨v, t, rfl, _⟩ := h
    rfl
  · obtain ⟨v, t, rfl, T, ok, sz, g, k⟩ := h
    refine ⟨_, pss_cons (ps_set (i := 1) scIsTree.nd rfl (.inl rfl) (pe_lst (pa_cons (pv 0) pa_nil)))
      (pss_cons (ps_while PassesOwn.never (pt_truth (pv 1) (by intro _; rfl))
        (pss_cons (ps_set (i := 2) scIsTree.nd rfl (.inl rfl) (pe_bm0 PySem.F.plainAttrs_list PySem.F.slot_list_pop PySem.F.type_list_pop mt_pop (pv 1)))
        (pss_cons (ps_if (pt_cmpR op_isN (pv 2) pe_non (nomark _)) (pss_one ps_continue) pss_nil)
        (pss_cons (ps_if (PW.pt (pw_or (pt_not (pt_val (pe_callB call_isi (by rfl) A.B.isi (by decide +kernel) (pa_cons (pv 2) (pa_cons (pe_bltn (v := .ty "tuple") (by rfl) A.B.tuple (by decide +kernel) rfl) pa_nil)))))
            (pw_or (pt_cmpR op_ne (pe_callB call_len_seq (by rfl) A.B.len PySem.boot_len (pa_cons (pv 2) pa_nil)) pe_int (nomark _))
            (pw_or1 (pt_not (pt_val (pe_call (go_tag A b) hr (by rfl) A.tag.g A.tag.F.kp A.tag.b .nil pass0 (pa_cons (pe_ix ix_tup (pv 2) pe_int (fun _ _ => rfl)) pa_nil))))))))
          (pss_one (ps_ret pe_bl)) pss_nil)
        (pss_cons (ps_expr (pe_bm PySem.F.plainAttrs_list PySem.F.slot_list_append PySem.F.type_list_append mt_append (pv 1) (pa_cons (pe_ix ix_tup (pv 2) pe_int (fun _ _ => rfl)) pa_nil)))
        (pss_one (ps_expr (pe_bm PySem.F.plainAttrs_list PySem.F.slot_list_append PySem.F.type_list_append mt_append (pv 1) (pa_cons (pe_ix ix_tup (pv 2) pe_int (fun _ _ => rfl)) pa_nil)))))))))
      (pss_one (ps_ret pe_bl))), ?_⟩
    refine ⟨_, rfl, by show 1 ≤ sizeLine; decide, fun wl nw => ?_⟩
    have nPw : P ≠ wl := by
      obtain ⟨ps, e, _⟩ := g
      exact ne_of_none e nw
    refine ⟨fun m σ H2 => ∃ (us : List V) (ts : List Tr) (y : Option V), σ = [some v, some (.ref wl), y] ∧ H2 wl = some (.lst us.reverse) ∧ PileAt H2 us ts ∧ m = wt ts ∧ wt ts ≤ 2001 ∧ GxR.TabG H2 P ∧ Kp [P] H H2,
      ⟨_, [v], [t], none, rfl, upd_same, .cons (T.kp (.new nw) (ms := [])) ok .nil, rfl, by simp only [wt]; omega, tabg_upd g nPw, .new nw⟩, fun m σ H2 hw => ?_⟩
    obtain ⟨us, ts, y, rfl, hl, hp, rfl, hm, g2, k2⟩ := hw
    refine ⟨_, rfl, _, .inl ⟨_, sql_of hl, rfl⟩, ?_⟩
    cases hp with
    | nil =>
      refine iteF ?_
      exact k H2 g2 k2
    | @cons x t1 us ts T1 o1 hp =>
      have e0 : (!((x :: us).reverse).isEmpty) = true := by simp
      rw [e0]
      refine iteT ⟨fun σ' H' => ∃ m', m' < wt (t1 :: ts) ∧ ∃ (us : List V) (ts : List Tr) (y : Option V), σ' = [some v, some (.ref wl), y] ∧ H' wl = some (.lst us.reverse) ∧ PileAt H' us ts ∧ m' = wt ts ∧ wt ts ≤ 2001 ∧ GxR.TabG H' P ∧ Kp [P] H H', fun _ _ h => h, ?_⟩
      -- part = waiting.pop()
      refine ⟨_, rfl, .inl ⟨rfl, _, sql_of hl⟩, wl, _, x, rfl, rfl, hl, pile_top x us, ?_⟩
      rw [pile_pop]
      have k3 : Kp [P] H (upd H2 wl (.lst us.reverse)) := k2.own nw
      have hl3 : (upd H2 wl (.lst us.reverse)) wl = some (.lst us.reverse) := upd_same
      have g3 : GxR.TabG (upd H2 wl (.lst us.reverse)) P := tabg_upd g2 nPw
      have kk : Kp [wl] H2 (upd H2 wl (.lst us.reverse)) := .put (by simp) hl (fun xs z => by cases z)
      have T3 := T1.kp kk
      have hp3 := hp.kp kk
      generalize upd H2 wl (.lst us.reverse) = H3 at k3 hl3 g3 T3 hp3
      simp only [wt] at hm
      cases T3 with
      | nil =>
        refine ⟨_, rfl, rfl, _, rfl, iteT ?_⟩
        exact ⟨_, by simp only [wt]; omega, us, ts, _, rfl, hl3, hp3, rfl, by omega, g3, k3⟩
      | @nd a tg tl tr v1 v2 e T31 T32 =>
        obtain ⟨og, ol, or'⟩ := o1
        simp only [Tr.sz] at hm
        refine ⟨_, rfl, rfl, _, rfl, iteF ?_⟩
        refine ⟨_, rfl, .ref a, .ty "tuple", .type "tuple", .type "tuple", true, rfl, .ty "tuple", .base (.tup e), kit_ty (by decide +kernel), _, rfl, iteF ?_⟩
        refine ⟨_, rfl, a, _, rfl, .inr (sqt_of e), rfl, _, rfl, iteF ?_⟩
        refine ⟨_, rfl, a, _, _, _, rfl, rfl, sqt_of e, atI_nat (j := 0) rfl, tg, rfl, ?_, g3, fun H4 tb4 => ?_⟩
        · exact Nat.le_trans (tag_len og) (by decide)
        rw [og]
        refine ⟨_, rfl, iteF ?_⟩
        have k4 : Kp [P] H3 H4 := tb_kp g3 tb4
        have e4 := k4.tup _ _ e
        have hl4 : H4 wl = some (.lst us.reverse) := k4.at_ _ _ hl3 (by simp [nPw.symm])
        -- append, append
        refine ⟨_, rfl, .inl ⟨rfl, _, sql_of hl4⟩, _, rfl, a, _, _, _, rfl, rfl, sqt_of e4, atI_nat (j := 1) rfl, wl, _, v1, rfl, rfl, hl4, ?_, ?_⟩
        · rw [List.length_reverse]
          have := hp3.len
          exact Nat.lt_of_le_of_lt (show us.length ≤ 2001 by omega) (by decide)
        rw [pile_push]
        have hl5 : (upd H4 wl (.lst (v1 :: us).reverse)) wl = some (.lst (v1 :: us).reverse) := upd_same
        have k5 : Kp [wl] H4 (upd H4 wl (.lst (v1 :: us).reverse)) := .put (by simp) hl4 (fun xs z => by cases z)
        have g5 : GxR.TabG (upd H4 wl (.lst (v1 :: us).reverse)) P := tabg_upd tb4.1 nPw
        have kH5 : Kp [P] H (upd H4 wl (.lst (v1 :: us).reverse)) := (k3.trans k4).own nw
        generalize upd H4 wl (.lst (v1 :: us).reverse) = H5 at hl5 k5 g5 kH5
        refine ⟨_, rfl, .inl ⟨rfl, _, sql_of hl5⟩, _, rfl, a, _, _, _, rfl, rfl, sqt_of (k5.tup _ _ e4), atI_nat (j := 2) rfl, wl, _, v2, rfl, rfl, hl5, ?_, ?_⟩
        · rw [List.length_reverse]
          have := hp3.len
          exact Nat.lt_of_le_of_lt (show us.length + 1 ≤ 2002 by omega) (by decide)
        rw [pile_push]
        have k6 : Kp [wl] H5 (upd H5 wl (.lst (v2 :: v1 :: us).reverse)) := .put (by simp) hl5 (fun xs z => by cases z)
        refine ⟨_, by simp only [wt, Tr.sz]; omega, v2 :: v1 :: us, tr :: tl :: ts, _, rfl, upd_same, .cons (((T32.kp k4).kp k5).kp k6) or' (.cons (((T31.kp k4).kp k5).kp k6) ol (((hp3.kp k4).kp k5).kp k6)), rfl, by simp only [wt]; omega, tabg_upd g5 nPw, kH5.own nw⟩
end
end Ey
set_option maxHeartbeats 4000000
namespace Ey
open PySem PySem.Spec L2
/-! ### what stands where -/
def ps (t : Tr) : List (List Nat × Tr) := (pl t).map fun p => (p, pt t p)
def ahead (a : List Nat) (x : List Nat × Tr) : List Nat × Tr := (a ++ x.1, x.2)
theorem ps_nd (g : Str) (l r : Tr) : ps (.nd g l r) = ([], .nd g l r) :: ((ps l).map (ahead [108]) ++ (ps r).map (ahead [114])) := by
  simp only [ps, pl, List.map_cons, List.map_append, List.map_map]
  congr 1
theorem ps_fst (t : Tr) : (ps t).map (·.1) = pl t := by
  rw [ps, List.map_map]
  exact List.map_id _
theorem ps_len (t : Tr) : (ps t).length = 2 * t.sz + 1 := by rw [ps, List.length_map, pl_len]
/-- what a pile of pairs stands for -/
def flat : List (List Nat × Tr) → List (List Nat × Tr)
  | [] => []
  | (p, t) :: r => (ps t).map (ahead p) ++ flat r
theorem ahead_two (a b : List Nat) : (ahead a ∘ ahead b) = ahead (a ++ b) := by
  funext x
  simp [ahead]
theorem flat_nil (p : List Nat) (r : List (List Nat × Tr)) : flat ((p, .nil) :: r) = (p, .nil) :: flat r := by
  simp [flat, ps, pl, ahead, pt]
theorem flat_nd (p : List Nat) (g : Str) (l t : Tr) (r : List (List Nat × Tr)) : flat ((p, .nd g l t) :: r) = (p, .nd g l t) :: flat ((p ++ [108], l) :: (p ++ [114], t) :: r) := by
  simp only [flat, ps_nd, List.map_cons, List.map_append, List.map_map, ahead_two]
  simp [ahead]
inductive PairsAt (H : Hp) : List V → List (List Nat × Tr) → Prop where
  | nil : PairsAt H [] []
  | cons {a : Addr} {v : V} {p : List Nat} {t : Tr} {us : List V} {qs : List (List Nat × Tr)} : H a = some (.tup [.str (st p), v]) → TreeAt H v t → PairsAt H us qs → PairsAt H (.ref a :: us) ((p, t) :: qs)
theorem PairsAt.kp {ms : List Addr} {H H1 : Hp} {us : List V} {qs : List (List Nat × Tr)} (k : Kp ms H H1) (h : PairsAt H us qs) : PairsAt H1 us qs := by
  induction h with
  | nil => exact .nil
  | cons a b _ ih => exact .cons (k.tup _ _ a) (b.kp k) ih
theorem PairsAt.len {H : Hp} {us : List V} {qs : List (List Nat × Tr)} (h : PairsAt H us qs) : us.length ≤ (flat qs).length := by
  induction h with
  | nil => exact Nat.le_refl _
  | @cons a v p t us qs _ _ _ ih =>
    simp only [List.length_cons, flat, List.length_append, List.length_map, ps_len]
    omega
/-- the entries of a dict, by places and parts -/
inductive KvAt (H : Hp) : List (Key × V) → List (List Nat × Tr) → Prop where
  | nil : KvAt H [] []
  | cons {v : V} {p : List Nat} {t : Tr} {kvs : List (Key × V)} {qs : List (List Nat × Tr)} : TreeAt H v t → KvAt H kvs qs → KvAt H ((.inr (st p), v) :: kvs) ((p, t) :: qs)
theorem KvAt.kp {ms : List Addr} {H H1 : Hp} {kvs : List (Key × V)} {qs : List (List Nat × Tr)} (k : Kp ms H H1) (h : KvAt H kvs qs) : KvAt H1 kvs qs := by
  induction h with
  | nil => exact .nil
  | cons a _ ih => exact .cons (a.kp k) ih
theorem KvAt.snoc {H : Hp} {kvs : List (Key × V)} {qs : List (List Nat × Tr)} {v : V} {p : List Nat} {t : Tr} (h : KvAt H kvs qs) (T : TreeAt H v t) : KvAt H (kvs ++ [(.inr (st p), v)]) (qs ++ [(p, t)]) := by
  induction h with
  | nil => exact .cons T .nil
  | cons a _ ih => exact .cons a ih
theorem KvAt.len {H : Hp} {kvs : List (Key × V)} {qs : List (List Nat × Tr)} (h : KvAt H kvs qs) : kvs.length = qs.length := by
  induction h with
  | nil => rfl
  | cons _ _ ih => simp [ih]
theorem KvAt.keys {H : Hp} {kvs : List (Key × V)} {qs : List (List Nat × Tr)} (h : KvAt H kvs qs) : (kvs.map fun kv => kV kv.1) = qs.map fun q => V.str (st q.1) := by
  induction h with
  | nil => rfl
  | cons _ _ ih => exact congrArg (List.cons _) ih
theorem KvAt.no {H : Hp} {kvs : List (Key × V)} {qs : List (List Nat × Tr)} {p : List Nat} (h : KvAt H kvs qs) (n : p ∉ qs.map (·.1)) : valV kvs (.inr (st p)) = none := by
  induction h with
  | nil => exact valV_nil
  | @cons v q t kvs qs _ _ ih =>
    simp only [List.map_cons, List.mem_cons, not_or] at n
    refine (valV_neg fun e => ?_).trans (ih n.2)
    exact n.1 (st_inj (Sum.inr.inj e)).symm
section
variable {Pr : Program} {w : World} {K : PySem.W.Frag} {mg : Str → Option Value} {base : Heap} {fT cT P : Addr} {dT : FuncData}
/-! ### check_tree -/
theorem scCheck : FnScope ["tree"] ["tree"] (defScope sCheck) := ⟨rfl, rfl, rfl, by decide +kernel, rfl, by decide +kernel, by decide +kernel⟩
def spCheck (P : Addr) : Sp := fun vs H Q _ => ∃ (v : V) (t : Tr), vs = [v] ∧ TreeAt H v t ∧ t.ok ∧ t.sz ≤ 1000 ∧ GxR.TabG H P ∧
  ∀ H', GxR.TabG H' P → Kp [P] H H' → Q .non H'
theorem ok_check {f f1 : Addr} {fd d1 : FuncData} (F : Fun K "check_tree" "check_tree" sCheck f fd) (D1 : Df K mg "is_tree" sIsTree ["thing"] f1 d1) (A : PF K mg fT cT dT) (b : BF base mg cT P) : FnOk Pr w K mg base CX0 3 f fd ["tree"] (spCheck P) := by
  refine F.ok scCheck (fun vs H Q E h => ?_) (fun cdv Ar outer s H vs Q E hr h => ?_)
  · obtain ⟨v, t, rfl, _⟩ := h
    rfl
  · obtain ⟨v, t, rfl, T, ok, sz, g, k⟩ := h
    refine ⟨_, pss_one (ps_if (pt_not (pt_val (pe_call (ok_isTree D1.F A b) hr (by rfl) D1.g D1.F.kp D1.b .nil pass0 (pa_cons (pv 0) pa_nil)))) (pss_one ps_never) pss_nil), ?_⟩
    exact ⟨_, rfl, v, t, rfl, T, ok, sz, g, fun H' g' k' => ⟨true, rfl, iteF (k H' g' k')⟩⟩
/-! ### standing -/
theorem scStand : FnScope ["tree", "found", "waiting", "place", "part"] ["tree"] (defScope sStand) := ⟨rfl, rfl, rfl, by decide +kernel, rfl, by decide +kernel, by decide +kernel⟩
def spStand : Sp := fun vs H Q _ => ∃ (v : V) (t : Tr), vs = [v] ∧ TreeAt H v t ∧ t.sz ≤ 1000 ∧
  ∀ (d : Addr) (kvs : List (Key × V)) (H' : Hp), H d = none → H' d = some (.dK kvs) → KvAt H' kvs (ps t) → Kp [] H H' → Q (.ref d) H'
theorem ok_stand {f : Addr} {fd : FuncData} (F : Fun K "standing" "standing" sStand f fd) : FnOk Pr w K mg base CX0 1 f fd ["tree"] spStand := by
  refine F.ok scStand (fun vs H Q E h => ?_) (fun cdv Ar outer s H vs Q E hr h => ?_)
  · obtain ⟨v, t, rfl, _⟩ := h
    rfl
  · obtain ⟨v, t, rfl, T, sz, k⟩ := h
    have hu := hu_of hr
    refine ⟨_, pss_cons (ps_set (i := 1) scStand.nd rfl (.inl rfl) pe_dnewK)
      (pss_cons (ps_set (i := 2) scStand.nd rfl (.inl rfl) (pe_lst (pa_cons (pe_tup (pa_cons pe_str (pa_cons (pv 0) pa_nil))) pa_nil)))
      (pss_cons (ps_while PassesOwn.never (pt_truth (pv 2) (by intro _; rfl))
        (pss_cons (ps_asg (pe_bm0 PySem.F.plainAttrs_list PySem.F.slot_list_pop PySem.F.type_list_pop mt_pop (pv 2)) (pg_tup (by rfl) (pgs_cons (pg_name (i := 3) scStand.nd rfl (.inl rfl)) (pgs_cons (pg_name (i := 4) scStand.nd rfl (.inl rfl)) pgs_nil))))
        (pss_cons (ps_dput hu (pv 1) (pv 3) (pv 4) rfl)
        (pss_one (ps_if (pt_cmpR op_notN (pv 4) pe_non (nomark _))
          (pss_cons (ps_expr (pe_bm PySem.F.plainAttrs_list PySem.F.slot_list_append PySem.F.type_list_append mt_append (pv 2) (pa_cons (pe_tup (pa_cons (pe_op op_add_str (pv 3) pe_str) (pa_cons (pe_ix ix_tup (pv 4) pe_int (fun _ _ => rfl)) pa_nil))) pa_nil)))
          (pss_one (ps_expr (pe_bm PySem.F.plainAttrs_list PySem.F.slot_list_append PySem.F.type_list_append mt_append (pv 2) (pa_cons (pe_tup (pa_cons (pe_op op_add_str (pv 3) pe_str) (pa_cons (pe_ix ix_tup (pv 4) pe_int (fun _ _ => rfl)) pa_nil))) pa_nil))))) pss_nil)))))
      (pss_one (ps_ret (pv 1))))), ?_⟩
    intro d nd
    have kd : Kp [] H (upd H d (.dK [])) := .new nd
    have hd : (upd H d (.dK [])) d = some (.dK []) := upd_same
    have T0 := T.kp kd
    generalize upd H d (.dK []) = H1 at kd hd T0
    refine ⟨_, rfl, by show 2 ≤ sizeLine; decide, fun a na => ?_⟩
    have ka : Kp [] H1 (upd H1 a (.tup [.str "", v])) := .new na
    have ha : (upd H1 a (.tup [.str "", v])) a = some (.tup [.str "", v]) := upd_same
    have hd1 := ka.at_ _ _ hd List.not_mem_nil
    have T1 := T0.kp ka
    generalize upd H1 a (.tup [.str "", v]) = H2 at ka ha hd1 T1
    refine ⟨by show 1 ≤ sizeLine; decide, fun wl nw => ?_⟩
    have nwH : H wl = none := (kd.trans ka).free nw List.not_mem_nil
    have hdw : d ≠ wl := ne_of_none hd1 nw
    have kw : Kp [] H2 (upd H2 wl (.lst [.ref a])) := .new nw
    refine ⟨fun m σ H3 => ∃ (us : List V) (qs done : List (List Nat × Tr)) (kvs : List (Key × V)) (y z : Option V), σ = [some v, some (.ref d), some (.ref wl), y, z] ∧ H3 d = some (.dK kvs) ∧ H3 wl = some (.lst us.reverse) ∧ PairsAt H3 us qs ∧ KvAt H3 kvs done ∧ done ++ flat qs = ps t ∧ m = (flat qs).length ∧ Kp [] H H3,
      ⟨_, [.ref a], [([], t)], [], [], none, none, rfl, kw.at_ _ _ hd1 List.not_mem_nil, upd_same, .cons (kw.tup _ _ (s_e ▸ ha)) (T1.kp kw) .nil, .nil, ?_, rfl, kd.trans (ka.trans kw)⟩, fun m σ H3 hw => ?_⟩
    · show [] ++ ((ps t).map (ahead []) ++ []) = ps t
      rw [List.nil_append, List.append_nil]
      exact List.map_id _
    obtain ⟨us, qs, done, kvs, y, z, rfl, hd3, hl3, hp, hk, hall, rfl, k3⟩ := hw
    refine ⟨_, rfl, _, .inl ⟨_, sql_of hl3, rfl⟩, ?_⟩
    cases hp with
    | nil =>
      refine iteF ⟨_, rfl, ?_⟩
      rw [flat, List.append_nil] at hall
      rw [hall] at hk
      exact k d kvs H3 nd hd3 hk k3
    | @cons b v1 p t1 us qs hb T3 hp =>
      have e0 : (!((V.ref b :: us).reverse).isEmpty) = true := by simp
      rw [e0]
      refine iteT ⟨fun σ' H' => ∃ m', m' < (flat ((p, t1) :: qs)).length ∧ ∃ (us : List V) (qs done : List (List Nat × Tr)) (kvs : List (Key × V)) (y z : Option V), σ' = [some v, some (.ref d), some (.ref wl), y, z] ∧ H' d = some (.dK kvs) ∧ H' wl = some (.lst us.reverse) ∧ PairsAt H' us qs ∧ KvAt H' kvs done ∧ done ++ flat qs = ps t ∧ m' = (flat qs).length ∧ Kp [] H H', fun _ _ h => h, ?_⟩
      refine ⟨_, rfl, .inl ⟨rfl, _, sql_of hl3⟩, wl, _, _, rfl, rfl, hl3, pile_top _ us, ?_⟩
      rw [pile_pop]
      have kk : Kp [wl] H3 (upd H3 wl (.lst us.reverse)) := .put (by simp) hl3 (fun xs z => by cases z)
      have hl4 : (upd H3 wl (.lst us.reverse)) wl = some (.lst us.reverse) := upd_same
      have k4 : Kp [] H (upd H3 wl (.lst us.reverse)) := k3.own nwH
      have hd4 := kk.at_ _ _ hd3 (by simp [hdw])
      have hb4 := kk.tup _ _ hb
      have T4 := T3.kp kk
      have hp4 := hp.kp kk
      have hk4 := hk.kp kk
      generalize upd H3 wl (.lst us.reverse) = H4 at kk hl4 k4 hd4 hb4 T4 hp4 hk4
      -- place, part
      refine ⟨b, _, rfl, sqt_of hb4, rfl, _, _, rfl, _, _, rfl, rfl, ?_⟩
      -- found[place] = part
      have hnd : (ps t).length ≤ 2001 := by rw [ps_len]; omega
      have hcnt : done.length + (flat ((p, t1) :: qs)).length = (ps t).length := by rw [← hall, List.length_append]
      have pos : 1 ≤ (flat ((p, t1) :: qs)).length := by
        simp only [flat, List.length_append, List.length_map, ps_len]
        omega
      have hin : ∃ rest, flat ((p, t1) :: qs) = (p, t1) :: rest := by
        cases t1 with
        | nil => exact ⟨_, flat_nil p qs⟩
        | nd g l r => exact ⟨_, flat_nd p g l r qs⟩
      have hpn : p ∉ done.map (·.1) := by
        obtain ⟨rest, er⟩ := hin
        have nd0 := pl_nodup t
        rw [← ps_fst, ← hall, er, List.map_append, List.map_cons] at nd0
        intro hm
        exact (List.nodup_append.mp nd0).2.2 p hm p (List.mem_cons_self) rfl
      have hplen : p.length ≤ 1000 := by
        obtain ⟨rest, er⟩ := hin
        have : p ∈ pl t := by
          rw [← ps_fst, ← hall, er]
          simp
        exact Nat.le_trans (pl_ht t p this) (Nat.le_trans (ht_sz t) sz)
      have hval : valV kvs (.inr (st p)) = none := hk4.no hpn
      refine ⟨_, rfl, _, rfl, _, rfl, d, _, rfl, DPut.k (k := .inr (st p)) hd4 (Nat.lt_of_le_of_lt (show kvs.length ≤ 2001 by rw [hk4.len]; omega) (by decide)), ?_⟩
      rw [putK_new _ hval]
      have k5 : Kp [d] H4 (upd H4 d (.dK (kvs ++ [(.inr (st p), v1)]))) := .put (by simp) hd4 (fun xs z => by cases z)
      have hd5 : (upd H4 d (.dK (kvs ++ [(.inr (st p), v1)]))) d = some (.dK (kvs ++ [(.inr (st p), v1)])) := upd_same
      have kH5 : Kp [] H (upd H4 d (.dK (kvs ++ [(.inr (st p), v1)]))) := k4.own nd
      have hl5 := k5.at_ _ _ hl4 (by simp [hdw.symm])
      have T5 := T4.kp k5
      have hp5 := hp4.kp k5
      have hk5 : KvAt _ _ (done ++ [(p, t1)]) := (hk4.kp k5).snoc T5
      generalize upd H4 d (.dK (kvs ++ [(.inr (st p), v1)])) = H5 at k5 hd5 kH5 hl5 T5 hp5 hk5
      cases T5 with
      | nil =>
        refine ⟨_, rfl, rfl, _, rfl, iteF ?_⟩
        rw [flat_nil] at hall hcnt
        exact ⟨(flat qs).length, by rw [flat_nil]; simp, us, qs, done ++ [(p, .nil)], _, _, _, rfl, hd5, hl5, hp5, hk5, by rw [List.append_assoc]; exact hall, rfl, kH5⟩
      | @nd x g l r w1 w2 e T51 T52 =>
        refine ⟨_, rfl, rfl, _, rfl, iteT ?_⟩
        have hul : us.length ≤ 2001 := by
          have := hp5.len
          simp only [flat, List.length_append] at hcnt
          omega
        refine ⟨_, rfl, .inl ⟨rfl, _, sql_of hl5⟩, _, rfl, _, _, rfl, rfl, ?_, _, rfl, x, _, _, _, rfl, rfl, sqt_of e, atI_nat (j := 2) rfl, by show 2 ≤ sizeLine; decide, fun q1 n1 => ?_⟩
        · rw [st_len]
          show p.length + 1 ≤ sizeLine
          exact Nat.le_trans (show p.length + 1 ≤ 1001 by omega) (by decide)
        rw [s_r, st_app]
        have k6 : Kp [] H5 (upd H5 q1 (.tup [.str (st (p ++ [114])), w2])) := .new n1
        have hq1 : (upd H5 q1 (.tup [.str (st (p ++ [114])), w2])) q1 = some (.tup [.str (st (p ++ [114])), w2]) := upd_same
        have hl6 := k6.at_ _ _ hl5 List.not_mem_nil
        have hd6 := k6.at_ _ _ hd5 List.not_mem_nil
        generalize upd H5 q1 (.tup [.str (st (p ++ [114])), w2]) = H6 at k6 hq1 hl6 hd6
        refine ⟨wl, _, _, rfl, rfl, hl6, ?_, ?_⟩
        · rw [List.length_reverse]
          exact Nat.lt_of_le_of_lt hul (by decide)
        rw [pile_push]
        have k7 : Kp [wl] H6 (upd H6 wl (.lst (.ref q1 :: us).reverse)) := .put (by simp) hl6 (fun xs z => by cases z)
        have hl7 : (upd H6 wl (.lst (.ref q1 :: us).reverse)) wl = some (.lst (.ref q1 :: us).reverse) := upd_same
        have kH7 : Kp [] H (upd H6 wl (.lst (.ref q1 :: us).reverse)) := (kH5.trans k6).own nwH
        have hd7 := k7.at_ _ _ hd6 (by simp [hdw])
        generalize upd H6 wl (.lst (.ref q1 :: us).reverse) = H7 at k7 hl7 kH7 hd7
        have e7 := k7.tup _ _ (k6.tup _ _ e)
        refine ⟨_, rfl, .inl ⟨rfl, _, sql_of hl7⟩, _, rfl, _, _, rfl, rfl, ?_, _, rfl, x, _, _, _, rfl, rfl, sqt_of e7, atI_nat (j := 1) rfl, by show 2 ≤ sizeLine; decide, fun q2 n2 => ?_⟩
        · rw [st_len]
          show p.length + 1 ≤ sizeLine
          exact Nat.le_trans (show p.length + 1 ≤ 1001 by omega) (by decide)
        rw [s_l, st_app]
        have k8 : Kp [] H7 (upd H7 q2 (.tup [.str (st (p ++ [108])), w1])) := .new n2
        have hq2 : (upd H7 q2 (.tup [.str (st (p ++ [108])), w1])) q2 = some (.tup [.str (st (p ++ [108])), w1]) := upd_same
        have hl8 := k8.at_ _ _ hl7 List.not_mem_nil
        have hd8 := k8.at_ _ _ hd7 List.not_mem_nil
        generalize upd H7 q2 (.tup [.str (st (p ++ [108])), w1]) = H8 at k8 hq2 hl8 hd8
        refine ⟨wl, _, _, rfl, rfl, hl8, ?_, ?_⟩
        · rw [List.length_reverse]
          exact Nat.lt_of_le_of_lt (show us.length + 1 ≤ 2002 by omega) (by decide)
        rw [pile_push]
        have k9 : Kp [wl] H8 (upd H8 wl (.lst (.ref q2 :: .ref q1 :: us).reverse)) := .put (by simp) hl8 (fun xs z => by cases z)
        have k59 : Kp [wl] H5 (upd H8 wl (.lst (.ref q2 :: .ref q1 :: us).reverse)) := (k6.more (by simp)).trans (k7.trans ((k8.more (by simp)).trans k9))
        rw [flat_nd] at hall hcnt
        refine ⟨(flat ((p ++ [108], l) :: (p ++ [114], r) :: qs)).length, by rw [flat_nd]; simp, _, (p ++ [108], l) :: (p ++ [114], r) :: qs, done ++ [(p, .nd g l r)], _, _, _, rfl, k9.at_ _ _ hd8 (by simp [hdw]), upd_same, .cons (k9.tup _ _ hq2) (T51.kp k59) (.cons (k9.tup _ _ (k8.tup _ _ (k7.tup _ _ hq1))) (T52.kp k59) (hp5.kp k59)), hk5.kp k59, ?_, rfl, (kH7.trans k8).own nwH⟩
        rw [List.append_assoc]
        exact hall
end
end Ey
set_option maxHeartbeats 4000000
namespace Ey
open PySem PySem.Spec L2
/-! ### f(k = v, ..), the parameters told from the last one to the first -/
def gRev {α : Type} (us ws : List α) : List α := match us with
  | [] => ws.reverse
  | _ :: _ => []
theorem vals_rev {xs : List V} {us : List Value} (h : Vals xs us) : Vals xs.reverse us.reverse := by
  induction h with
  | nil => exact .nil
  | cons a _ ih =>
    rw [List.reverse_cons, List.reverse_cons]
    exact ih.append (.cons a .nil)
theorem kb_rev {K : PySem.W.Frag} {fd : FuncData} {ps ks : List Str} (hp : ps ≠ []) (h : ∀ ws : List Value, ws.length = ps.length → bindArgs fd ⟨[], ks.zip ws⟩ = pure (ps.zip ws.reverse)) : KBinds K fd ps ks gRev gRev := by
  refine ⟨fun s us ws _ hl => ?_, fun {vs us zs ws} r1 r2 => ?_⟩
  · cases us with
    | nil => exact .of_eq (h ws (by rw [← hl]; exact (List.length_reverse).symm))
    | cons a r => exact absurd hl (by intro e; exact hp (List.length_eq_zero_iff.mp e.symm))
  · cases r1 with
    | nil => exact vals_rev r2
    | cons _ _ => exact .nil
theorem Fun.revs {K : PySem.W.Frag} {x qual : Str} {st : Stmt} {f : Addr} {fd : FuncData} {ps ks : List Str} (F : Fun K x qual st f fd) (hp : ps ≠ [])
    (h : ∀ (kV doc pm : Value) (an : Option Addr) (cdv ct : Value) (ws : List Value), ws.length = ps.length → bindArgs (PySem.W.fnOf x qual (defArgs st) (defBody st) (defScope st) .none kV doc pm an cdv ct) ⟨[], ks.zip ws⟩ = pure (ps.zip ws.reverse)) : KBinds K fd ps ks gRev gRev := by
  obtain ⟨oc, od, kV, doc, pm, an, cdv, ct, osl, rfl, lk, _⟩ := F.ex
  exact kb_rev hp (h kV doc pm an cdv ct)
section
variable {X : Cx} {CX : CXT} {k : Nat} {f : Addr} {fd : FuncData} {qs ks : List Str} {sp : Sp} {E : XK} {x : Str} {p pos : Pos} {kws : List Keyword} {tk : TA} {g : List Value → List Value → List Value} {gV : List V → List V → List V}
theorem pe_callK0 (F : FnOk X.prog X.w X.K X.mg X.base CX k f fd qs sp) (hr : Room k X.A) (hg : Gl X x) (hm : X.mg x = some (.ref f)) (hk : PySem.W.keepIn X.K (.ref f) = true) (hb : KBinds X.K fd qs ks g gV) (hx : Passes CX X E) (hkw : PK X kws tk)
    (hall : (backToKw pos (keywordEach kws X.env)).all (·.1.isSome) = true := by rfl) (hks : (backToKw pos (keywordEach kws X.env)).filterMap (·.1) = ks := by rfl) (hdb : (x == ("__debug__" : Str)) = false := by decide)
    (hpl : ((backTo pos (starEach [] X.env)).any (·.1) || (backToKw pos (keywordEach kws X.env)).any (·.1.isNone)) = false := by rfl) :
    PE X (.Call (.Name x p) [] kws pos) (tCallK sp gV E tNil tk) := by
  refine ⟨fun pins s σ H Q I h => wpAny_Call_Name_kw (ld_glob I hg hm ?_ hdb)⟩
  refine PySem.W.callWith_KW0 (h₀ := X.base) I.ok.mod.kin hk hall ?_ hpl
  refine thn (hkw.run pos pins s σ H _ I h) fun ws s2 ⟨zs, H2, I2, rz, q2⟩ => ⟨I2.kIn, ?_⟩
  rw [hks]
  exact run_fnk (us := []) (vs := []) F hr hb hx I2 .nil rz q2
end
/-! ### the ways -/
def wayL : List Str := ["left", "right", "up", "top"]
def ledM (full : Bool) (p : List Nat) (wy : Str) : List Nat :=
  if wy = "top" then [] else if wy = "up" then p.dropLast else if full = true then p ++ [if wy = "left" then 108 else 114] else p
theorem drop_at {p : List Nat} {i c : Nat} (h : p[i]? = some c) : p.drop i = c :: p.drop (i + 1) := by
  obtain ⟨hi, e⟩ := List.getElem?_eq_some_iff.mp h
  rw [List.drop_eq_getElem_cons hi, e]
theorem dec_str {a b : Str} : (decide (V.str a = V.str b)) = decide (a = b) := by
  by_cases h : a = b
  · rw [decide_eq_true h, decide_eq_true (by rw [h])]
  · rw [decide_eq_false h, decide_eq_false (fun e => h (V.str.inj e))]
section
variable {Pr : Program} {w : World} {K : PySem.W.Frag} {mg : Str → Option Value} {base : Heap} {fT cT P : Addr} {dT : FuncData}
/-! ### the law's own part and led -/
theorem scLPart : FnScope ["_law_tree", "_law_place", "_law_letter"] ["_law_tree", "_law_place"] (defScope sLPart) := ⟨rfl, rfl, rfl, by decide +kernel, rfl, by decide +kernel, by decide +kernel⟩
def spLPart : Sp := fun vs H Q _ => ∃ (v : V) (t : Tr) (p : List Nat), vs = [v, .str (st p)] ∧ TreeAt H v t ∧ isP t p = true ∧ ∀ v', TreeAt H v' (pt t p) → Q v' H
theorem ok_lpart {f : Addr} {fd : FuncData} (F : Fun K "_law_part" "_law_part" sLPart f fd) : FnOk Pr w K mg base CX0 1 f fd ["_law_tree", "_law_place"] spLPart := by
  refine F.ok scLPart (fun vs H Q E h => ?_) (fun cdv Ar outer s H vs Q E hr h => ?_)
  · obtain ⟨v, t, p, rfl, _⟩ := h
    rfl
  · obtain ⟨v, t, p, rfl, T, hp, k⟩ := h
    refine ⟨_, pss_cons (ps_for PassesOwn.never rfl (pi_str (pv 1)) (pg_name (i := 2) scLPart.nd rfl (.inl rfl))
        (pss_one (ps_set (i := 0) scLPart.nd rfl (.inl rfl) (pe_ifExp (pt_cmpR op_eq (pv 2) pe_str (nomark _)) (pe_ix ix_tup (pv 0) pe_int (fun _ _ => rfl)) (pe_ix ix_tup (pv 0) pe_int (fun _ _ => rfl))))))
      (pss_one (ps_ret (pv 0))), ?_⟩
    refine ⟨_, rfl, st p, rfl, for_str (x := st p) (fun i σ H2 => ∃ (v' : V) (t' : Tr) (y : Option V), σ = [some v', some (.str (st p)), y] ∧ H2 = H ∧ TreeAt H v' t' ∧ isP t' (p.drop i) = true ∧ pt t' (p.drop i) = pt t p)
      ⟨v, t, none, rfl, rfl, T, hp, rfl⟩ ?_ ?_⟩
    · rintro i c σ H2 hi ⟨v', t', y, rfl, rfl, T', hp', e'⟩
      have hi' : p[i]? = some c := hi
      rw [drop_at hi'] at hp' e'
      cases T' with
      | nil => cases hp'
      | @nd a g l r w1 w2 e T1 T2 =>
        refine ⟨_, rfl, rfl, _, rfl, ?_⟩
        rw [dec_str, s_l]
        by_cases h1 : c = 108
        · subst h1
          rw [decide_eq_true rfl]
          exact iteT ⟨_, rfl, a, _, _, _, rfl, rfl, sqt_of e, atI_nat (j := 1) rfl, w1, l, _, rfl, rfl, T1, hp', e'⟩
        · rw [decide_eq_false (fun q => h1 (List.cons.inj (st_inj q)).1)]
          refine iteF ⟨_, rfl, a, _, _, _, rfl, rfl, sqt_of e, atI_nat (j := 2) rfl, w2, r, _, rfl, rfl, T2, ?_, ?_⟩
          · have hp2 : (if c = 108 then isP l (p.drop (i + 1)) else if c = 114 then isP r (p.drop (i + 1)) else false) = true := hp'
            rw [if_neg h1] at hp2
            split at hp2
            · exact hp2
            · cases hp2
          · have e2 : (if c = 108 then pt l (p.drop (i + 1)) else pt r (p.drop (i + 1))) = pt t p := e'
            rw [if_neg h1] at e2
            exact e2
    · rintro σ H2 ⟨v', t', y, rfl, rfl, T', _, e'⟩
      rw [st_list, List.drop_length, pt_nil] at e'
      exact ⟨_, rfl, k v' (e' ▸ T')⟩
theorem scLLed : FnScope ["_law_tree", "_law_place", "_law_way"] ["_law_tree", "_law_place", "_law_way"] (defScope sLLed) := ⟨rfl, rfl, rfl, by decide +kernel, rfl, by decide +kernel, by decide +kernel⟩
def spLLed : Sp := fun vs H Q _ => ∃ (v : V) (t : Tr) (p : List Nat) (wy : Str), vs = [v, .str (st p), .str wy] ∧ TreeAt H v t ∧ isP t p = true ∧ p.length ≤ 1000 ∧ wy ∈ wayL ∧ Q (.str (st (ledM (pt t p).full p wy))) H
theorem way_cases {wy : Str} (h : wy ∈ wayL) : wy = "left" ∨ wy = "right" ∨ wy = "up" ∨ wy = "top" := by simpa [wayL] using h
theorem w1 : ¬ (Str.ofString "left" = Str.ofString "top") := by decide +kernel
theorem w2 : ¬ (Str.ofString "left" = Str.ofString "up") := by decide +kernel
theorem w3 : ¬ (Str.ofString "right" = Str.ofString "top") := by decide +kernel
theorem w4 : ¬ (Str.ofString "right" = Str.ofString "up") := by decide +kernel
theorem w5 : ¬ (Str.ofString "right" = Str.ofString "left") := by decide +kernel
theorem w6 : ¬ (Str.ofString "up" = Str.ofString "top") := by decide +kernel
theorem dF {a b : Str} (h : ¬ a = b) : decide (V.str a = V.str b) = false := by rw [dec_str, decide_eq_false h]
theorem dTr {a : Str} : decide (V.str a = V.str a) = true := decide_eq_true rfl
theorem led_left (b : Bool) (p : List Nat) : ledM b p (Str.ofString "left") = if b = true then p ++ [108] else p := by
  unfold ledM
  rw [if_neg w1, if_neg w2, if_pos rfl]
theorem led_right (b : Bool) (p : List Nat) : ledM b p (Str.ofString "right") = if b = true then p ++ [114] else p := by
  unfold ledM
  rw [if_neg w3, if_neg w4, if_neg w5]
theorem led_up (b : Bool) (p : List Nat) : ledM b p (Str.ofString "up") = p.dropLast := by
  unfold ledM
  rw [if_neg w6, if_pos rfl]
theorem led_top (b : Bool) (p : List Nat) : ledM b p (Str.ofString "top") = [] := by
  unfold ledM
  rw [if_pos rfl]
theorem ok_lled {f f1 : Addr} {fd d1 : FuncData} (F : Fun K "_law_led" "_law_led" sLLed f fd) (D1 : Df K mg "_law_part" sLPart ["_law_tree", "_law_place"] f1 d1) : FnOk Pr w K mg base CX0 2 f fd ["_law_tree", "_law_place", "_law_way"] spLLed := by
  refine F.ok scLLed (fun vs H Q E h => ?_) (fun cdv Ar outer s H vs Q E hr h => ?_)
  · obtain ⟨v, t, p, wy, rfl, _⟩ := h
    rfl
  · obtain ⟨v, t, p, wy, rfl, T, hp, hl, hw, k⟩ := h
    refine ⟨_, pss_cons (ps_if (pt_cmpR op_eq (pv 2) pe_str (nomark _)) (pss_one (ps_ret pe_str)) pss_nil)
      (pss_cons (ps_if (pt_cmpR op_eq (pv 2) pe_str (nomark _)) (pss_one (ps_ret (pe_slice sl_str (pv 1) po_none (po_some (pe_un un_neg pe_int))))) pss_nil)
      (pss_one (ps_ret (pe_ifExp (pt_cmpR op_isN (pe_call (ok_lpart D1.F) hr (by rfl) D1.g D1.F.kp D1.b .nil pass0 (pa_cons (pv 0) (pa_cons (pv 1) pa_nil))) pe_non (nomark _)) (pv 1)
        (pe_op op_add_str (pv 1) (pe_ix ix_str (pv 2) pe_int (fun _ _ => rfl))))))), ?_⟩
    have sz1 : (st p).length + 1 ≤ sizeLine := by
      rw [st_len]
      exact Nat.le_trans (show p.length + 1 ≤ 1001 by omega) (by decide)
    have sz0 : (st p).length ≤ sizeLine := Nat.le_of_succ_le sz1
    rcases way_cases hw with rfl | rfl | rfl | rfl
    · refine ⟨_, rfl, rfl, _, rfl, ?_⟩
      rw [dF w1]
      refine iteF ⟨_, rfl, rfl, _, rfl, ?_⟩
      rw [dF w2]
      refine iteF ⟨_, rfl, _, rfl, v, t, p, rfl, T, hp, fun v' T' => ⟨rfl, _, rfl, ?_⟩⟩
      rw [T'.non]
      rw [led_left] at k
      cases e : (pt t p).full with
      | false =>
        rw [e, if_neg Bool.false_ne_true] at k
        exact iteT ⟨_, rfl, k⟩
      | true =>
        rw [e, if_pos rfl] at k
        refine iteF ⟨_, rfl, _, rfl, _, 0, 108, rfl, rfl, by decide +kernel, by decide +kernel, _, _, rfl, rfl, sz1, ?_⟩
        exact (st_app p [108]) ▸ k
    · refine ⟨_, rfl, rfl, _, rfl, ?_⟩
      rw [dF w3]
      refine iteF ⟨_, rfl, rfl, _, rfl, ?_⟩
      rw [dF w4]
      refine iteF ⟨_, rfl, _, rfl, v, t, p, rfl, T, hp, fun v' T' => ⟨rfl, _, rfl, ?_⟩⟩
      rw [T'.non]
      rw [led_right] at k
      cases e : (pt t p).full with
      | false =>
        rw [e, if_neg Bool.false_ne_true] at k
        exact iteT ⟨_, rfl, k⟩
      | true =>
        rw [e, if_pos rfl] at k
        refine iteF ⟨_, rfl, _, rfl, _, 0, 114, rfl, rfl, by decide +kernel, by decide +kernel, _, _, rfl, rfl, sz1, ?_⟩
        exact (st_app p [114]) ▸ k
    · refine ⟨_, rfl, rfl, _, rfl, ?_⟩
      rw [dF w6]
      refine iteF ⟨_, rfl, rfl, _, rfl, ?_⟩
      rw [dTr]
      refine iteT ⟨_, rfl, _, rfl, _, rfl, _, rfl, sz0, ?_⟩
      rw [led_up] at k
      exact (cut_last p).symm ▸ k
    · refine ⟨_, rfl, rfl, _, rfl, ?_⟩
      rw [dTr]
      rw [led_top] at k
      exact iteT (s_e.symm ▸ k)
end
end Ey
set_option maxHeartbeats 4000000
namespace Ey
open PySem PySem.Spec L2
/-- the dict of positions, the tuple of ways -/
structure PosF (K : PySem.W.Frag) (w : World) (mg : Str → Option Value) (d : Addr) : Prop where
  g : mg "POSITIONS" = some (.ref d)
  D : ∃ es n, KDict K w d es n
  l : ∃ t, PySem.W.nsIn K d "l" = some (some (.int 1 t))
  r : ∃ t, PySem.W.nsIn K d "r" = some (some (.int 2 t))
structure WayF (K : PySem.W.Frag) (mg : Str → Option Value) (a : Addr) : Prop where
  g : mg "WAYS" = some (.ref a)
  at_ : ∃ (o : Obj) (its : Array Value) (n : Nat), K.lookup a = some o ∧ o.cls = .type "tuple" ∧ o.data = .seq its n ∧ its.size ≤ sizeLine ∧ Vals (wayL.map V.str) its.toList
theorem PosF.dl {K : PySem.W.Frag} {w : World} {mg : Str → Option Value} {d : Addr} (p : PosF K w mg d) : KDct K w d (st [108]) (.int 1) := by
  obtain ⟨es, n, D⟩ := p.D
  obtain ⟨t, h⟩ := p.l
  exact ⟨es, n, _, D.at_, D.lit, s_l ▸ h, ⟨t, rfl⟩⟩
theorem PosF.dr {K : PySem.W.Frag} {w : World} {mg : Str → Option Value} {d : Addr} (p : PosF K w mg d) : KDct K w d (st [114]) (.int 2) := by
  obtain ⟨es, n, D⟩ := p.D
  obtain ⟨t, h⟩ := p.r
  exact ⟨es, n, _, D.at_, D.lit, s_r ▸ h, ⟨t, rfl⟩⟩
theorem isP_step {t : Tr} {c : Nat} {r : List Nat} (h : isP t (c :: r) = true) : ∃ g l m, t = .nd g l m ∧ ((c = 108 ∧ isP l r = true) ∨ (c = 114 ∧ isP m r = true)) := by
  cases t with
  | nil => cases h
  | nd g l m =>
    refine ⟨g, l, m, rfl, ?_⟩
    have h2 : (if c = 108 then isP l r else if c = 114 then isP m r else false) = true := h
    by_cases h1 : c = 108
    · rw [if_pos h1] at h2
      exact .inl ⟨h1, h2⟩
    · rw [if_neg h1] at h2
      split at h2
      · exact .inr ⟨by assumption, h2⟩
      · cases h2
section
variable {Pr : Program} {w : World} {K : PySem.W.Frag} {mg : Str → Option Value} {base : Heap} {fT cT P dP aW : Addr} {dT : FuncData}
/-! ### has_place -/
theorem scHas : FnScope ["tree", "thing", "part", "letter"] ["tree", "thing"] (defScope sHas) := ⟨rfl, rfl, rfl, by decide +kernel, rfl, by decide +kernel, by decide +kernel⟩
def spHas : Sp := fun vs H Q _ => ∃ (v : V) (t : Tr) (p : List Nat), vs = [v, .str (st p)] ∧ TreeAt H v t ∧ isP t p = true ∧ Q (.bl true) H
theorem ok_has {f : Addr} {fd : FuncData} (F : Fun K "has_place" "has_place" sHas f fd) (B : BI mg) (Po : PosF K w mg dP) : FnOk Pr w K mg base CX0 1 f fd ["tree", "thing"] spHas := by
  refine F.ok scHas (fun vs H Q E h => ?_) (fun cdv Ar outer s H vs Q E hr h => ?_)
  · obtain ⟨v, t, p, rfl, _⟩ := h
    rfl
  · obtain ⟨v, t, p, rfl, T, hp, k⟩ := h
    obtain ⟨es, n, D⟩ := Po.D
    refine ⟨_, pss_cons (ps_if (pt_not (pt_val (pe_callB call_isi (by rfl) B.isi (by decide +kernel) (pa_cons (pv 1) (pa_cons (pe_bltn (v := .ty "str") (by rfl) B.str (by decide +kernel) rfl) pa_nil))))) (pss_one (ps_ret pe_bl)) pss_nil)
      (pss_cons (ps_set (i := 2) scHas.nd rfl (.inl rfl) (pv 0))
      (pss_cons (ps_for PassesOwn.never rfl (pi_str (pv 1)) (pg_name (i := 3) scHas.nd rfl (.inl rfl))
        (pss_cons (ps_if (PW.pt (pw_or (pt_cmpR op_isN (pv 2) pe_non (nomark _)) (pw_or1 (pt_cmpR (op_notIn_kd D) (pv 3) (pe_glob (v := .ref dP) (by rfl) Po.g rfl) (by rfl))))) (pss_one (ps_ret pe_bl)) pss_nil)
        (pss_one (ps_set (i := 2) scHas.nd rfl (.inl rfl) (pe_ix ix_tup (pv 2) (pe_ix ix_kdict (pe_glob (v := .ref dP) (by rfl) Po.g rfl) (pv 3) (fun _ _ => rfl)) (fun _ _ => rfl))))))
      (pss_one (ps_ret pe_bl)))), ?_⟩
    refine ⟨_, rfl, .str (st p), .ty "str", .type "str", .type "str", true, rfl, .ty "str", .base (.str _), kit_ty (by decide +kernel), true, rfl, iteF ?_⟩
    refine ⟨_, rfl, _, rfl, st p, rfl, for_str (x := st p) (fun i σ H2 => ∃ (v' : V) (t' : Tr) (y : Option V), σ = [some v, some (.str (st p)), some v', y] ∧ H2 = H ∧ TreeAt H v' t' ∧ isP t' (p.drop i) = true)
      ⟨v, t, none, rfl, rfl, T, hp⟩ ?_ ?_⟩
    · rintro i c σ H2 hi ⟨v', t', y, rfl, rfl, T', hp'⟩
      have hi' : p[i]? = some c := hi
      rw [drop_at hi'] at hp'
      obtain ⟨g, l, m, rfl, hc⟩ := isP_step hp'
      cases T' with
      | @nd a _ _ _ x1 x2 e T1 T2 =>
        refine ⟨_, rfl, rfl, false, rfl, iteF ?_⟩
        rcases hc with ⟨rfl, hq⟩ | ⟨rfl, hq⟩
        · obtain ⟨t1, h1⟩ := Po.l
          refine ⟨_, rfl, st [108], _, rfl, rfl, s_l ▸ h1, false, rfl, iteF ?_⟩
          exact ⟨_, rfl, _, rfl, dP, st [108], .int 1, rfl, rfl, Po.dl, a, _, _, _, rfl, rfl, sqt_of e, atI_nat (j := 1) rfl, x1, l, _, rfl, rfl, T1, hq⟩
        · obtain ⟨t1, h1⟩ := Po.r
          refine ⟨_, rfl, st [114], _, rfl, rfl, s_r ▸ h1, false, rfl, iteF ?_⟩
          exact ⟨_, rfl, _, rfl, dP, st [114], .int 2, rfl, rfl, Po.dr, a, _, _, _, rfl, rfl, sqt_of e, atI_nat (j := 2) rfl, x2, m, _, rfl, rfl, T2, hq⟩
    · rintro σ H2 ⟨v', t', y, rfl, rfl, T', _⟩
      exact k
/-! ### part_at -/
theorem scPartAt : FnScope ["tree", "place", "part", "letter"] ["tree", "place"] (defScope sPartAt) := ⟨rfl, rfl, rfl, by decide +kernel, rfl, by decide +kernel, by decide +kernel⟩
def spPartAt (P : Addr) : Sp := fun vs H Q _ => ∃ (v : V) (t : Tr) (p : List Nat), vs = [v, .str (st p)] ∧ TreeAt H v t ∧ t.ok ∧ t.sz ≤ 1000 ∧ isP t p = true ∧ GxR.TabG H P ∧
  ∀ (v' : V) (H' : Hp), TreeAt H' v' (pt t p) → GxR.TabG H' P → Kp [P] H H' → Q v' H'
/-- the program's defs, as callers need them -/
structure Prog (K : PySem.W.Frag) (w : World) (mg : Str → Option Value) (fT cT dP aW f1 f2 f3 f4 f5 f6 f7 f8 f9 : Addr) (dT d1 d2 d3 d4 d5 d6 d7 d8 d9 : FuncData) : Prop where
  A : PF K mg fT cT dT
  po : PosF K w mg dP
  wa : WayF K mg aW
  isTree : Df K mg "is_tree" sIsTree ["thing"] f1 d1
  check : Df K mg "check_tree" sCheck ["tree"] f2 d2
  stand : Df K mg "standing" sStand ["tree"] f3 d3
  places : Df K mg "places" sPlaces ["tree"] f4 d4
  has : Df K mg "has_place" sHas ["tree", "thing"] f5 d5
  partAt : Df K mg "part_at" sPartAt ["tree", "place"] f6 d6
  frm : Df K mg "place_from" sFrom ["part", "place", "way"] f7 d7
  led : Df K mg "led" sLed ["tree", "place", "way"] f8 d8
  nxt : Df K mg "next_place" sNext ["tree", "place"] f9 d9
variable {f1 f2 f3 f4 f5 f6 f7 f8 f9 : Addr} {d1 d2 d3 d4 d5 d6 d7 d8 d9 : FuncData}
theorem ok_partAt (G : Prog K w mg fT cT dP aW f1 f2 f3 f4 f5 f6 f7 f8 f9 dT d1 d2 d3 d4 d5 d6 d7 d8 d9) (b : BF base mg cT P) : FnOk Pr w K mg base CX0 4 f6 d6 ["tree", "place"] (spPartAt P) := by
  refine G.partAt.F.ok scPartAt (fun vs H Q E h => ?_) (fun cdv Ar outer s H vs Q E hr h => ?_)
  · obtain ⟨v, t, p, rfl, _⟩ := h
    rfl
  · obtain ⟨v, t, p, rfl, T, ok, sz, hp, g, k⟩ := h
    refine ⟨_, pss_cons (ps_expr (pe_call (ok_check G.check.F G.isTree G.A b) hr (by rfl) G.check.g G.check.F.kp G.check.b .nil pass0 (pa_cons (pv 0) pa_nil)))
      (pss_cons (ps_if (pt_not (pt_val (pe_call (ok_has G.has.F G.A.B G.po) (hr.mono (by decide)) (by rfl) G.has.g G.has.F.kp G.has.b .nil pass0 (pa_cons (pv 0) (pa_cons (pv 1) pa_nil))))) (pss_one ps_never) pss_nil)
      (pss_cons (ps_set (i := 2) scPartAt.nd rfl (.inl rfl) (pv 0))
      (pss_cons (ps_for PassesOwn.never rfl (pi_str (pv 1)) (pg_name (i := 3) scPartAt.nd rfl (.inl rfl))
        (pss_one (ps_set (i := 2) scPartAt.nd rfl (.inl rfl) (pe_ix ix_tup (pv 2) (pe_ix ix_kdict (pe_glob (v := .ref dP) (by rfl) G.po.g rfl) (pv 3) (fun _ _ => rfl)) (fun _ _ => rfl)))))
      (pss_one (ps_ret (pv 2)))))), ?_⟩
    refine ⟨_, rfl, v, t, rfl, T, ok, sz, g, fun H1 g1 k1 => ?_⟩
    have T1 := T.kp k1
    refine ⟨_, rfl, _, rfl, v, t, p, rfl, T1, hp, true, rfl, iteF ?_⟩
    refine ⟨_, rfl, _, rfl, st p, rfl, for_str (x := st p) (fun i σ H2 => ∃ (v' : V) (t' : Tr) (y : Option V), σ = [some v, some (.str (st p)), some v', y] ∧ H2 = H1 ∧ TreeAt H1 v' t' ∧ isP t' (p.drop i) = true ∧ pt t' (p.drop i) = pt t p)
      ⟨v, t, none, rfl, rfl, T1, hp, rfl⟩ ?_ ?_⟩
    · rintro i c σ H2 hi ⟨v', t', y, rfl, rfl, T', hp', e'⟩
      have hi' : p[i]? = some c := hi
      rw [drop_at hi'] at hp' e'
      obtain ⟨g', l, m, rfl, hc⟩ := isP_step hp'
      cases T' with
      | @nd a _ _ _ x1 x2 e T1 T2 =>
        rcases hc with ⟨rfl, hq⟩ | ⟨rfl, hq⟩
        · exact ⟨_, rfl, _, rfl, dP, st [108], .int 1, rfl, rfl, G.po.dl, a, _, _, _, rfl, rfl, sqt_of e, atI_nat (j := 1) rfl, x1, l, _, rfl, rfl, T1, hq, e'⟩
        · exact ⟨_, rfl, _, rfl, dP, st [114], .int 2, rfl, rfl, G.po.dr, a, _, _, _, rfl, rfl, sqt_of e, atI_nat (j := 2) rfl, x2, m, _, rfl, rfl, T2, hq, e'⟩
    · rintro σ H2 ⟨v', t', y, rfl, rfl, T', _, e'⟩
      rw [st_list, List.drop_length, pt_nil] at e'
      exact ⟨_, rfl, k v' H2 (e' ▸ T') g1 k1⟩
/-! ### places -/
theorem scPlaces : FnScope ["tree"] ["tree"] (defScope sPlaces) := ⟨rfl, rfl, rfl, by decide +kernel, rfl, by decide +kernel, by decide +kernel⟩
def spPlaces (P : Addr) : Sp := fun vs H Q _ => ∃ (v : V) (t : Tr), vs = [v] ∧ TreeAt H v t ∧ t.ok ∧ t.sz ≤ 1000 ∧ GxR.TabG H P ∧
  ∀ (q : Addr) (H' : Hp), H q = none → H' q = some (.tup ((pl t).map fun p => V.str (st p))) → GxR.TabG H' P → Kp [P] H H' → Q (.ref q) H'
theorem ok_places (G : Prog K w mg fT cT dP aW f1 f2 f3 f4 f5 f6 f7 f8 f9 dT d1 d2 d3 d4 d5 d6 d7 d8 d9) (b : BF base mg cT P) : FnOk Pr w K mg base CX0 4 f4 d4 ["tree"] (spPlaces P) := by
  refine G.places.F.ok scPlaces (fun vs H Q E h => ?_) (fun cdv Ar outer s H vs Q E hr h => ?_)
  · obtain ⟨v, t, rfl, _⟩ := h
    rfl
  · obtain ⟨v, t, rfl, T, ok, sz, g, k⟩ := h
    refine ⟨_, pss_cons (ps_expr (pe_call (ok_check G.check.F G.isTree G.A b) hr (by rfl) G.check.g G.check.F.kp G.check.b .nil pass0 (pa_cons (pv 0) pa_nil)))
      (pss_one (ps_ret (pe_callTy (call_tupD rfl) (by rfl) G.A.B.tuple (by decide +kernel) (pa_cons (pe_call (ok_stand G.stand.F) (hr.mono (by decide)) (by rfl) G.stand.g G.stand.F.kp G.stand.b .nil pass0 (pa_cons (pv 0) pa_nil)) pa_nil)))), ?_⟩
    refine ⟨_, rfl, v, t, rfl, T, ok, sz, g, fun H1 g1 k1 => ?_⟩
    refine ⟨_, rfl, v, t, rfl, T.kp k1, sz, fun d kvs H2 nd hd hk k2 => ?_⟩
    refine ⟨d, kvs, rfl, hd, fun q nq => ?_⟩
    have nPd : P ∉ ([] : List Addr) := List.not_mem_nil
    have g2 : GxR.TabG H2 P := tabg_kp g1 k2 nPd
    have nPq : P ≠ q := by
      obtain ⟨ps', e, _⟩ := g2
      exact ne_of_none e nq
    have k3 : Kp [P] H (upd H2 q (.tup (kvs.map fun kv => kV kv.1))) := k1.trans ((k2.more (by simp)).trans (.new nq))
    refine k q _ ((k1.trans (k2.more (by simp))).free nq (by simp [nPq.symm])) ?_ (tabg_upd g2 nPq) k3
    rw [upd_same, hk.keys, ← ps_fst, List.map_map]
    rfl
/-! ### place_from, led, next_place -/
theorem scFrom : FnScope ["part", "place", "way"] ["part", "place", "way"] (defScope sFrom) := ⟨rfl, rfl, rfl, by decide +kernel, rfl, by decide +kernel, by decide +kernel⟩
def spFrom : Sp := fun vs H Q _ => ∃ (v : V) (t : Tr) (p : List Nat) (wy : Str), vs = [v, .str (st p), .str wy] ∧ TreeAt H v t ∧ p.length ≤ 1000 ∧ wy ∈ wayL ∧ Q (.str (st (ledM t.full p wy))) H
theorem ok_from {f : Addr} {fd : FuncData} (F : Fun K "place_from" "place_from" sFrom f fd) : FnOk Pr w K mg base CX0 1 f fd ["part", "place", "way"] spFrom := by
  refine F.ok scFrom (fun vs H Q E h => ?_) (fun cdv Ar outer s H vs Q E hr h => ?_)
  · obtain ⟨v, t, p, wy, rfl, _⟩ := h
    rfl
  · obtain ⟨v, t, p, wy, rfl, T, hl, hw, k⟩ := h
    refine ⟨_, pss_cons (ps_if (pt_cmpR op_eq (pv 2) pe_str (nomark _)) (pss_one (ps_ret pe_str)) pss_nil)
      (pss_cons (ps_if (pt_cmpR op_eq (pv 2) pe_str (nomark _)) (pss_one (ps_ret (pe_slice sl_str (pv 1) po_none (po_some (pe_un un_neg pe_int))))) pss_nil)
      (pss_cons (ps_if (pt_cmpR op_isN (pv 0) pe_non (nomark _)) (pss_one (ps_ret (pv 1))) pss_nil)
      (pss_one (ps_ret (pe_ifExp (pt_cmpR op_eq (pv 2) pe_str (nomark _)) (pe_op op_add_str (pv 1) pe_str) (pe_op op_add_str (pv 1) pe_str)))))), ?_⟩
    have sz1 : (st p).length + 1 ≤ sizeLine := by
      rw [st_len]
      exact Nat.le_trans (show p.length + 1 ≤ 1001 by omega) (by decide)
    have sz0 : (st p).length ≤ sizeLine := Nat.le_of_succ_le sz1
    rcases way_cases hw with rfl | rfl | rfl | rfl
    · refine ⟨_, rfl, rfl, _, rfl, ?_⟩
      rw [dF w1]
      refine iteF ⟨_, rfl, rfl, _, rfl, ?_⟩
      rw [dF w2]
      refine iteF ⟨_, rfl, rfl, _, rfl, ?_⟩
      rw [T.non]
      rw [led_left] at k
      cases e : t.full with
      | false =>
        rw [e, if_neg Bool.false_ne_true] at k
        exact iteT ⟨_, rfl, k⟩
      | true =>
        rw [e, if_pos rfl] at k
        refine iteF ⟨_, rfl, rfl, _, rfl, ?_⟩
        rw [dTr]
        refine iteT ⟨_, rfl, _, _, rfl, rfl, sz1, ?_⟩
        rw [s_l]
        exact (st_app p [108]) ▸ k
    · refine ⟨_, rfl, rfl, _, rfl, ?_⟩
      rw [dF w3]
      refine iteF ⟨_, rfl, rfl, _, rfl, ?_⟩
      rw [dF w4]
      refine iteF ⟨_, rfl, rfl, _, rfl, ?_⟩
      rw [T.non]
      rw [led_right] at k
      cases e : t.full with
      | false =>
        rw [e, if_neg Bool.false_ne_true] at k
        exact iteT ⟨_, rfl, k⟩
      | true =>
        rw [e, if_pos rfl] at k
        refine iteF ⟨_, rfl, rfl, _, rfl, ?_⟩
        rw [dF w5]
        refine iteF ⟨_, rfl, _, _, rfl, rfl, sz1, ?_⟩
        rw [s_r]
        exact (st_app p [114]) ▸ k
    · refine ⟨_, rfl, rfl, _, rfl, ?_⟩
      rw [dF w6]
      refine iteF ⟨_, rfl, rfl, _, rfl, ?_⟩
      rw [dTr]
      refine iteT ⟨_, rfl, _, rfl, _, rfl, _, rfl, sz0, ?_⟩
      rw [led_up] at k
      exact (cut_last p).symm ▸ k
    · refine ⟨_, rfl, rfl, _, rfl, ?_⟩
      rw [dTr]
      rw [led_top] at k
      exact iteT (s_e.symm ▸ k)
theorem scLed : FnScope ["tree", "place", "way", "part"] ["tree", "place", "way"] (defScope sLed) := ⟨rfl, rfl, rfl, by decide +kernel, rfl, by decide +kernel, by decide +kernel⟩
def spLed (P : Addr) : Sp := fun vs H Q _ => ∃ (v : V) (t : Tr) (p : List Nat) (wy : Str), vs = [v, .str (st p), .str wy] ∧ TreeAt H v t ∧ t.ok ∧ t.sz ≤ 1000 ∧ isP t p = true ∧ wy ∈ wayL ∧ GxR.TabG H P ∧
  ∀ H', GxR.TabG H' P → Kp [P] H H' → Q (.str (st (ledM (pt t p).full p wy))) H'
theorem isP_len {t : Tr} {p : List Nat} (h : isP t p = true) (sz : t.sz ≤ 1000) : p.length ≤ 1000 := Nat.le_trans (pl_ht t p ((isP_iff t p).mp h)) (Nat.le_trans (ht_sz t) sz)
theorem ok_led (G : Prog K w mg fT cT dP aW f1 f2 f3 f4 f5 f6 f7 f8 f9 dT d1 d2 d3 d4 d5 d6 d7 d8 d9) (b : BF base mg cT P) : FnOk Pr w K mg base CX0 5 f8 d8 ["tree", "place", "way"] (spLed P) := by
  refine G.led.F.ok scLed (fun vs H Q E h => ?_) (fun cdv Ar outer s H vs Q E hr h => ?_)
  · obtain ⟨v, t, p, wy, rfl, _⟩ := h
    rfl
  · obtain ⟨v, t, p, wy, rfl, T, ok, sz, hp, hw, g, k⟩ := h
    refine ⟨_, pss_cons (ps_set (i := 3) scLed.nd rfl (.inl rfl) (pe_call (ok_partAt G b) hr (by rfl) G.partAt.g G.partAt.F.kp G.partAt.b .nil pass0 (pa_cons (pv 0) (pa_cons (pv 1) pa_nil))))
      (pss_cons (ps_if (pt_cmpR op_notIn_seq (pv 2) (pe_glob (v := .ref aW) (by rfl) G.wa.g rfl) (by rfl)) (pss_one ps_never) pss_nil)
      (pss_one (ps_ret (pe_call (ok_from G.frm.F) (hr.mono (by decide)) (by rfl) G.frm.g G.frm.F.kp G.frm.b .nil pass0 (pa_cons (pv 3) (pa_cons (pv 1) (pa_cons (pv 2) pa_nil))))))), ?_⟩
    refine ⟨_, rfl, _, rfl, v, t, p, rfl, T, ok, sz, hp, g, fun v' H1 T1 g1 k1 => ?_⟩
    refine ⟨_, rfl, aW, wayL.map V.str, rfl, .inr (.inr G.wa.at_), rfl, by decide +kernel, false, ?_, iteF ?_⟩
    · have : inV (.str wy) (wayL.map V.str) = true := by
        rcases way_cases hw with rfl | rfl | rfl | rfl <;> decide +kernel
      rw [this]
      rfl
    · exact ⟨_, rfl, _, rfl, _, rfl, v', pt t p, p, wy, rfl, T1, isP_len hp sz, hw, k H1 g1 k1⟩
def nxtV : Option (List Nat) → V
  | none => .non
  | some q => .str (st q)
theorem scNext : FnScope ["tree", "place", "above"] ["tree", "place"] (defScope sNext) := ⟨rfl, rfl, rfl, by decide +kernel, rfl, by decide +kernel, by decide +kernel⟩
def spNext (P : Addr) : Sp := fun vs H Q _ => ∃ (v : V) (t : Tr) (p : List Nat), vs = [v, .str (st p)] ∧ TreeAt H v t ∧ t.ok ∧ t.sz ≤ 1000 ∧ isP t p = true ∧ GxR.TabG H P ∧
  ∀ H', GxR.TabG H' P → Kp [P] H H' → Q (nxtV (nxt (pt t p).full p)) H'
theorem stripR_len (p : List Nat) : (stripR p).length ≤ p.length := by
  rw [stripR_take, List.length_take]
  exact Nat.min_le_right _ _
theorem ok_next (G : Prog K w mg fT cT dP aW f1 f2 f3 f4 f5 f6 f7 f8 f9 dT d1 d2 d3 d4 d5 d6 d7 d8 d9) (b : BF base mg cT P) : FnOk Pr w K mg base CX0 5 f9 d9 ["tree", "place"] (spNext P) := by
  refine G.nxt.F.ok scNext (fun vs H Q E h => ?_) (fun cdv Ar outer s H vs Q E hr h => ?_)
  · obtain ⟨v, t, p, rfl, _⟩ := h
    rfl
  · obtain ⟨v, t, p, rfl, T, ok, sz, hp, g, k⟩ := h
    refine ⟨_, pss_cons (ps_if (pt_cmpR op_notN (pe_call (ok_partAt G b) hr (by rfl) G.partAt.g G.partAt.F.kp G.partAt.b .nil pass0 (pa_cons (pv 0) (pa_cons (pv 1) pa_nil))) pe_non (nomark _)) (pss_one (ps_ret (pe_op op_add_str (pv 1) pe_str))) pss_nil)
      (pss_cons (ps_set (i := 2) scNext.nd rfl (.inl rfl) (pe_bm PySem.F.plainAttrs_str PySem.F.slot_str_rstrip PySem.F.type_str_rstrip mt_rstripChars (pv 1) (pa_cons pe_str pa_nil)))
      (pss_one (ps_ret (pe_ifExp (pt_truth (pv 2) (by intro _; rfl)) (pe_op op_add_str (pe_slice sl_str (pv 2) po_none (po_some (pe_un un_neg pe_int))) pe_str) pe_non)))), ?_⟩
    have pl1 := isP_len hp sz
    have sz1 : (st p).length + 1 ≤ sizeLine := by
      rw [st_len]
      exact Nat.le_trans (show p.length + 1 ≤ 1001 by omega) (by decide)
    have sl := stripR_len p
    refine ⟨_, rfl, _, rfl, v, t, p, rfl, T, ok, sz, hp, g, fun v' H1 T1 g1 k1 => ?_⟩
    have q := k H1 g1 k1
    refine ⟨rfl, _, rfl, ?_⟩
    rw [T1.non, Bool.not_not]
    cases e : (pt t p).full with
    | true =>
      rw [e] at q
      refine iteT ⟨_, rfl, _, _, rfl, rfl, sz1, ?_⟩
      rw [s_l]
      exact (st_app p [108]) ▸ q
    | false =>
      rw [e] at q
      refine iteF ⟨_, rfl, rfl, st p, st [114], rfl, by rw [← s_r], Nat.le_of_succ_le sz1, ?_⟩
      rw [rstrip_st]
      have q' : Q (nxtV (if stripR p = [] then none else some ((stripR p).dropLast ++ [114]))) H1 := q
      refine ⟨_, rfl, ((st (stripR p)).length : Int) != 0, ⟨Nat.le_trans (show (st (stripR p)).length ≤ 1000 by rw [st_len]; omega) (by decide), rfl⟩, ?_⟩
      by_cases hs : stripR p = []
      · rw [if_pos hs] at q'
        rw [hs]
        exact iteF q'
      · rw [if_neg hs] at q'
        have e2 : (((st (stripR p)).length : Int) != 0) = true := by
          rw [st_len]
          have : 0 < (stripR p).length := List.length_pos_iff.mpr hs
          simp
          exact hs
        rw [e2]
        refine iteT ⟨_, rfl, _, rfl, _, rfl, _, rfl, Nat.le_trans (show (st (stripR p)).length ≤ 1000 by rw [st_len]; omega) (by decide), _, _, rfl, rfl, ?_, ?_⟩
        · rw [show cutS (st (stripR p)) none (some (-1)) = st (stripR p).dropLast from cut_last _, st_len, List.length_dropLast]
          show (stripR p).length - 1 + 1 ≤ sizeLine
          exact Nat.le_trans (show (stripR p).length - 1 + 1 ≤ 1001 by omega) (by decide)
        · rw [show cutS (st (stripR p)) none (some (-1)) = st (stripR p).dropLast from cut_last _, s_r, st_app]
          exact q'
end
end Ey
set_option maxHeartbeats 4000000
namespace Ey
open PySem PySem.Spec L2
/-! ### the texts of places, lists and tuples: sizes -/
def Fine (p : List Nat) : Prop := p.length ≤ 1100 ∧ ∀ c ∈ p, c = 108 ∨ c = 114
theorem fine_pl {t : Tr} (sz : t.sz ≤ 1000) {p : List Nat} (h : p ∈ pl t) : Fine p := ⟨Nat.le_trans (isP_len ((isP_iff t p).mpr h) sz) (by decide), pl_signs t p h⟩
theorem fine_text {p : List Nat} (h : Fine p) : (reprText (st p)).length ≤ 11002 := by
  have := StrLaws.reprText_len (st p) (fun c hc => by
    have : c ∈ p := hc
    have := h.2 c this
    omega)
  rw [st_len] at this
  have := h.1
  omega
def strD (ps : List (List Nat)) : List PyData := ps.map fun p => .str (st p)
theorem shown_strD (ps : List (List Nat)) : PyData.shownAll (strD ps) = ps.map fun p => reprText (st p) := by
  induction ps with
  | nil => rfl
  | cons p r ih => exact congrArg (List.cons _) ih
theorem showable_strD (ps : List (List Nat)) : PyData.showableAll (strD ps) = true := by
  induction ps with
  | nil => rfl
  | cons p r ih =>
    show (true && PyData.showableAll (strD r)) = true
    rw [ih]
    rfl
theorem depth_strD (ps : List (List Nat)) : PyData.depthAll (strD ps) = 0 := by
  induction ps with
  | nil => rfl
  | cons p r ih =>
    show max 0 (PyData.depthAll (strD r)) = 0
    rw [ih]
    rfl
theorem dp_strs {K : PySem.W.Frag} {H : Hp} : ∀ ps : List (List Nat), DpAll K H (ps.map fun p => V.str (st p)) (strD ps)
  | [] => .nil
  | p :: r => .cons (.str _) (dp_strs r)
theorem piled_strs : ∀ ps : List (List Nat), (∀ p ∈ ps, Fine p) → piled (ps.map fun p => reprText (st p)) ≤ 11004 * ps.length
  | [], _ => Nat.le_refl _
  | p :: r, h => by
    have a := fine_text (h p List.mem_cons_self)
    have b := piled_strs r fun q hq => h q (List.mem_cons_of_mem _ hq)
    rw [List.map_cons, piled_cons, List.length_cons]
    omega
theorem list_len (ts : List Str) : (listText ts).length ≤ piled ts + 2 := by
  have q1 : ("[" : Str).length = 1 := by decide +kernel
  have q2 : ("]" : Str).length = 1 := by decide +kernel
  unfold listText
  rw [len_app, q2]
  cases ts with
  | nil =>
    show (textFrom 0 "[" []).length + 1 ≤ _
    unfold textFrom
    rw [q1]
    omega
  | cons t r =>
    show (textFrom 1 (("[" : Str) ++ Str.ofString "" ++ t) r).length + 1 ≤ piled (t :: r) + 2
    have e : (Str.ofString "").length = 0 := by decide +kernel
    rw [textFrom_length_pos r 1 _ (by decide), len_app, len_app, q1, e, piled_cons]
    omega
theorem tuple_len (ts : List Str) : (tupleText ts).length ≤ piled ts + 3 := by
  have q1 : ("(" : Str).length = 1 := by decide +kernel
  have q2 : (Str.ofString ",)").length = 2 := by decide +kernel
  have q3 : (Str.ofString ")").length = 1 := by decide +kernel
  have q : (Str.ofString (if (ts.length == 1) = true then ",)" else ")")).length ≤ 2 := by
    split
    · rw [q2]
      exact Nat.le_refl _
    · rw [q3]
      decide
  unfold tupleText
  rw [len_app, len_app, q1]
  cases ts with
  | nil =>
    show 1 + 0 + _ ≤ _
    omega
  | cons t r =>
    have := join_length_add (t :: r) (by simp)
    omega
theorem fine_led {p : List Nat} (b : Bool) (wy : Str) (h : Fine p) (h2 : p.length ≤ 1000) : Fine (ledM b p wy) := by
  unfold ledM
  split
  · exact ⟨Nat.zero_le _, fun c hc => absurd hc List.not_mem_nil⟩
  · split
    · exact ⟨by rw [List.length_dropLast]; exact Nat.le_trans (Nat.sub_le _ _) h.1, fun c hc => h.2 c (List.dropLast_sublist p |>.subset hc)⟩
    · split
      · refine ⟨by rw [List.length_append]; show p.length + 1 ≤ 1100; omega, fun c hc => ?_⟩
        rcases List.mem_append.mp hc with hc | hc
        · exact h.2 c hc
        · have e := List.mem_singleton.mp hc
          rw [e]
          split
          · exact .inl rfl
          · exact .inr rfl
      · exact h
/-- what repr tells of -/
structure Rp (K : PySem.W.Frag) (H : Hp) (v : V) (d : PyData) : Prop where
  dp : Dp K H v d
  sh : d.showable = true
  de : d.depth ≤ 90
  ln : d.shown.length ≤ 12000000
theorem Rp.d {K : PySem.W.Frag} {H : Hp} {v : V} {d : PyData} (r : Rp K H v d) : d.depth ≤ 100 := Nat.le_trans r.de (by decide)
theorem Rp.z {K : PySem.W.Frag} {H : Hp} {v : V} {d : PyData} (r : Rp K H v d) : d.shown.length ≤ sizeLine := Nat.le_trans r.ln (by decide)
section
variable {K : PySem.W.Frag} {H : Hp}
theorem rp_str {p : List Nat} (h : Fine p) : Rp K H (.str (st p)) (.str (st p)) :=
  ⟨.str _, rfl, by show 0 ≤ 90; decide, Nat.le_trans (fine_text h) (by decide)⟩
theorem rp_non : Rp K H .non .none := ⟨.non, rfl, by show 0 ≤ 90; decide, by decide +kernel⟩
theorem rp_lst {a : Addr} {ps : List (List Nat)} (e : H a = some (.lst (ps.map fun p => V.str (st p)))) (h : ∀ p ∈ ps, Fine p) (n : ps.length ≤ 1000) : Rp K H (.ref a) (.list (strD ps)) := by
  refine ⟨.lst (sql_of e) (dp_strs ps), showable_strD ps, ?_, ?_⟩
  · show PyData.depthAll (strD ps) + 1 ≤ 90
    rw [depth_strD]
    decide
  · show (listText (PyData.shownAll (strD ps))).length ≤ _
    have a := list_len (PyData.shownAll (strD ps))
    rw [shown_strD] at a ⊢
    have b := piled_strs ps h
    omega
theorem rp_tup {a : Addr} {ps : List (List Nat)} (e : H a = some (.tup (ps.map fun p => V.str (st p)))) (h : ∀ p ∈ ps, Fine p) (n : ps.length ≤ 1000) : Rp K H (.ref a) (.tuple (strD ps)) := by
  refine ⟨.tup (sqt_of e) (dp_strs ps), showable_strD ps, ?_, ?_⟩
  · show PyData.depthAll (strD ps) + 1 ≤ 90
    rw [depth_strD]
    decide
  · show (tupleText (PyData.shownAll (strD ps))).length ≤ _
    have a := tuple_len (PyData.shownAll (strD ps))
    rw [shown_strD] at a ⊢
    have b := piled_strs ps h
    omega
/-- a pair of two alike -/
theorem rp_two {a : Addr} {v w : V} {d : PyData} (e : H a = some (.tup [v, w])) (dv : Dp K H v d) (dw : Dp K H w d) (sh : d.showable = true) (de : d.depth ≤ 80) (ln : d.shown.length ≤ 1000000) : Rp K H (.ref a) (.tuple [d, d]) := by
  refine ⟨.tup (sqt_of e) (.cons dv (.cons dw .nil)), ?_, ?_, ?_⟩
  · show (d.showable && (d.showable && true)) = true
    rw [sh]
    rfl
  · show max d.depth (max d.depth 0) + 1 ≤ 90
    omega
  · show (tupleText [d.shown, d.shown]).length ≤ _
    have a := tuple_len [d.shown, d.shown]
    rw [piled_cons, piled_cons, piled_nil] at a
    omega
end
end Ey
set_option maxHeartbeats 4000000
namespace Ey
open PySem PySem.Spec L2
abbrev sLaw : Stmt := topS 30
def fb : Stmt → List Stmt
  | .For _ _ b _ _ => b
  | _ => []
def noSt : Stmt := .Pass ⟨0, 0, 0, 0⟩
abbrev B1 : List Stmt := fb ((defBody sLaw).getD 1 noSt)
abbrev B4 : List Stmt := fb (B1.getD 3 noSt)
abbrev B6 : List Stmt := fb (B1.getD 5 noSt)
abbrev BW : List Stmt := fb (B6.getD 4 noSt)
abbrev NL : List Str := ["_law_script", "_law_deck_here", "_law_turn", "_law_tree", "_law_some", "_law_here", "_law_found", "_law_again", "_law_near", "_law_due", "_law_place", "_law_part_here", "_law_way", "_law_it"]
theorem scLaw : FnScope NL ["_law_script"] (defScope sLaw) := ⟨rfl, rfl, rfl, by decide +kernel, rfl, by decide +kernel, by decide +kernel⟩
/-- all defs of the text, by their places -/
structure All (K : PySem.W.Frag) (w : World) (mg : Str → Option Value) (A : Nat → Addr) (D : Nat → FuncData) (c dP aW : Addr) : Prop where
  fa : Facts K mg (A 22) (A 23) (A 27) (D 22) (D 23) (D 27)
  deck : Df K mg "_law_deck" sDeck ["_law_script", "_law_seed"] (A 21) (D 21)
  lplaces : Df K mg "_law_places" sLPlaces ["_law_tree", "_law_ahead"] (A 24) (D 24)
  lpart : Df K mg "_law_part" sLPart ["_law_tree", "_law_place"] (A 25) (D 25)
  lled : Df K mg "_law_led" sLLed ["_law_tree", "_law_place", "_law_way"] (A 26) (D 26)
  tree : Df K mg "_law_drawn_tree" sTree ["_law_deck_here", "_law_box", "_law_deep"] (A 28) (D 28)
  chain : Df K mg "_law_chain" sChain ["_law_deck_here", "_law_many"] (A 29) (D 29)
  G : Prog K w mg (A 10) c dP aW (A 11) (A 12) (A 13) (A 14) (A 15) (A 16) (A 17) (A 18) (A 19) (D 10) (D 11) (D 12) (D 13) (D 14) (D 15) (D 16) (D 17) (D 18) (D 19)
  kNext : KBinds K (D 19) ["tree", "place"] ["place", "tree"] gRev gRev
  kPart : KBinds K (D 16) ["tree", "place"] ["place", "tree"] gRev gRev
  kLed : KBinds K (D 18) ["tree", "place", "way"] ["way", "place", "tree"] gRev gRev
/-- what stands all through the law -/
structure LI (d l P : Addr) (H : Hp) : Prop where
  dk : DeckAt H d l
  tg : GxR.TabG H P
theorem LI.nP {d l P : Addr} {H : Hp} (h : LI d l P H) : P ≠ d ∧ P ≠ l := by
  obtain ⟨m, n, ns, h1, h2, _⟩ := h.dk.ex
  obtain ⟨ps, e, _⟩ := h.tg
  exact ⟨ne_of e h1 (by intro z; cases z), ne_of e h2 (by intro z; cases z)⟩
/-- a call of the program -/
theorem LI.prog {d l P : Addr} {H H1 : Hp} (h : LI d l P H) (k : Kp [P] H H1) (g : GxR.TabG H1 P) : LI d l P H1 :=
  ⟨h.dk.kp k (by simp [h.nP.1.symm]) (by simp [h.nP.2.symm]), g⟩
/-- a call of the law's own -/
theorem LI.own {ms : List Addr} {d l P : Addr} {H H1 : Hp} (h : LI d l P H) (k : Kp ms H H1) (D : DeckAt H1 d l) (n : P ∉ ms) : LI d l P H1 := ⟨D, tabg_kp h.tg k n⟩
theorem LI.new {d l P p : Addr} {H : Hp} {o : HO} (h : LI d l P H) (n : H p = none) : LI d l P (upd H p o) :=
  ⟨h.dk.kp (.new n) (ms := []) List.not_mem_nil List.not_mem_nil, tabg_kp h.tg (.new n) (ms := []) List.not_mem_nil⟩
section
variable {Pr : Program} {w : World} {K : PySem.W.Frag} {mg : Str → Option Value} {base : Heap} {A : Nat → Addr} {D : Nat → FuncData} {c dP aW P : Addr}
/-- the law's own context -/
abbrev XL (Pr : Program) (w : World) (K : PySem.W.Frag) (mg : Str → Option Value) (base : Heap) (f : Addr) (cdv : Value) (s : Shared) (H0 : Hp) : Cx := (cxOf CX0 Pr w K mg base NL "law" (defScope sLaw) f cdv callerA [] s H0 E0).nox
abbrev SL (a d : Addr) (v : V) (so : Addr) (x2 x5 x6 x7 x8 x9 x10 x11 x12 x13 : Option V) : L2.St := [some (.ref a), some (.ref d), x2, some v, some (.ref so), x5, x6, x7, x8, x9, x10, x11, x12, x13]
theorem way_piece (L : All K w mg A D c dP aW) (b : BF base mg c P) (f : Addr) (cdv : Value) (s : Shared) (H0 : Hp) (hr : Room 41 (XL Pr w K mg base f cdv s H0).A) :
    ∃ tt, PSs (XL Pr w K mg base f cdv s H0) BW tt ∧ ∀ (E : Ends) (H2 : Hp) (a d l so : Addr) (v : V) (t : Tr) (p : List Nat) (wy : Str) (x2 x5 x6 x7 x8 x9 x11 x13 : Option V),
      LI d l P H2 → TreeAt H2 v t → t.ok → t.sz ≤ 1000 → isP t p = true → wy ∈ wayL →
      (∀ (y9 : Option V) (H3 : Hp), LI d l P H3 → Kp [P] H2 H3 → E.nx (SL a d v so x2 x5 x6 x7 x8 y9 (some (.str (st p))) x11 (some (.str wy)) x13) H3) →
      tt E (SL a d v so x2 x5 x6 x7 x8 x9 (some (.str (st p))) x11 (some (.str wy)) x13) H2 := by
  refine ⟨_, pss_cons (ps_set (i := 9) scLaw.nd rfl (.inl rfl) (pe_call (ok_lled L.lled.F L.lpart) (hr.mono (by decide)) (by rfl) L.lled.g L.lled.F.kp L.lled.b .nil pass0 (pa_cons (pv 3) (pa_cons (pv 10) (pa_cons (pv 12) pa_nil)))))
    (pss_one (ps_if (pt_cmpR op_ne
      (pe_callB (cr_repr rfl hr) (by rfl) L.fa.B.repr (by decide +kernel) (pa_cons (pe_tup (pa_cons (pe_call (ok_led L.G b) (hr.mono (by decide)) (by rfl) L.G.led.g L.G.led.F.kp L.G.led.b .nil pass0 (pa_cons (pv 3) (pa_cons (pv 10) (pa_cons (pv 12) pa_nil))))
        (pa_cons (pe_callK0 (ok_led L.G b) (hr.mono (by decide)) (by rfl) L.G.led.g L.G.led.F.kp L.kLed pass0 (pk_cons (pv 12) (pk_cons (pv 10) (pk_cons (pv 3) pk_nil)))) pa_nil))) pa_nil))
      (pe_callB (cr_repr rfl hr) (by rfl) L.fa.B.repr (by decide +kernel) (pa_cons (pe_tup (pa_cons (pv 9) (pa_cons (pv 9) pa_nil))) pa_nil)) (nomark _)) (pss_one (ps_ret pe_bl)) pss_nil)), ?_⟩
  intro E H2 a d l so v t p wy x2 x5 x6 x7 x8 x9 x11 x13 I T ok sz hp hw k
  have hl := isP_len hp sz
  refine ⟨_, rfl, _, rfl, _, rfl, v, t, p, wy, rfl, T, hp, hl, hw, ?_⟩
  refine ⟨_, rfl, _, rfl, _, rfl, v, t, p, wy, rfl, T, ok, sz, hp, hw, I.tg, fun H3 g3 k3 => ?_⟩
  have I3 := I.prog k3 g3
  refine ⟨_, rfl, _, rfl, _, rfl, v, t, p, wy, rfl, T.kp k3, ok, sz, hp, hw, g3, fun H4 g4 k4 => ?_⟩
  have I4 := I3.prog k4 g4
  have fp : Fine (ledM (pt t p).full p wy) := fine_led _ _ (fine_pl sz ((isP_iff t p).mp hp)) hl
  refine ⟨by show 2 ≤ sizeLine; decide, fun q nq => ?_⟩
  have r1 := rp_two (K := K) (H := upd H4 q (.tup [.str (st (ledM (pt t p).full p wy)), .str (st (ledM (pt t p).full p wy))])) upd_same (.str _) (.str _) rfl (Nat.zero_le _) (Nat.le_trans (fine_text fp) (by decide))
  refine ⟨_, _, rfl, r1.dp, r1.sh, r1.d, r1.z, ?_⟩
  have I5 : LI d l P _ := I4.new (o := .tup [.str (st (ledM (pt t p).full p wy)), .str (st (ledM (pt t p).full p wy))]) nq
  refine ⟨_, rfl, _, rfl, by show 2 ≤ sizeLine; decide, fun q2 nq2 => ?_⟩
  have r2 := rp_two (K := K) (H := upd (upd H4 q (.tup [.str (st (ledM (pt t p).full p wy)), .str (st (ledM (pt t p).full p wy))])) q2 (.tup [.str (st (ledM (pt t p).full p wy)), .str (st (ledM (pt t p).full p wy))])) upd_same (.str _) (.str _) rfl (Nat.zero_le _) (Nat.le_trans (fine_text fp) (by decide))
  refine ⟨_, _, rfl, r2.dp, r2.sh, r2.d, r2.z, ?_⟩
  refine ⟨rfl, _, rfl, iteNS rfl ?_⟩
  exact k _ _ (I5.new nq2) (k3.trans (k4.trans ((Kp.new nq).trans (.new nq2))))
/-- what stands while one tree is looked at -/
structure LS (d l P so : Addr) (v : V) (t : Tr) (H : Hp) : Prop where
  I : LI d l P H
  T : TreeAt H v t
  so_ : H so = some (.lst (plV [] t))
  nl : so ≠ l
theorem LS.nso {d l P so : Addr} {v : V} {t : Tr} {H : Hp} (h : LS d l P so v t H) : so ≠ d ∧ so ≠ P := by
  obtain ⟨m, n, ns, h1, h2, _⟩ := h.I.dk.ex
  obtain ⟨ps, e, _⟩ := h.I.tg
  exact ⟨ne_of h.so_ h1 (by intro z; cases z), ne_of h.so_ e (by intro z; cases z)⟩
theorem LS.prog {d l P so : Addr} {v : V} {t : Tr} {H H1 : Hp} (h : LS d l P so v t H) (k : Kp [P] H H1) (g : GxR.TabG H1 P) : LS d l P so v t H1 :=
  ⟨h.I.prog k g, h.T.kp k, k.at_ _ _ h.so_ (by simp [h.nso.2]), h.nl⟩
theorem LS.own {d l P so : Addr} {v : V} {t : Tr} {H H1 : Hp} (h : LS d l P so v t H) (k : Kp [d, l] H H1) (D : DeckAt H1 d l) : LS d l P so v t H1 :=
  ⟨h.I.own k D (by simp [h.I.nP.1, h.I.nP.2]), h.T.kp k, k.at_ _ _ h.so_ (by simp [h.nso.1, h.nl]), h.nl⟩
theorem LS.kp0 {d l P so : Addr} {v : V} {t : Tr} {H H1 : Hp} (h : LS d l P so v t H) (k : Kp [] H H1) : LS d l P so v t H1 :=
  ⟨⟨h.I.dk.kp k List.not_mem_nil List.not_mem_nil, tabg_kp h.I.tg k List.not_mem_nil⟩, h.T.kp k, k.at_ _ _ h.so_ List.not_mem_nil, h.nl⟩
theorem LS.new {d l P so p : Addr} {v : V} {t : Tr} {H : Hp} {o : HO} (h : LS d l P so v t H) (n : H p = none) : LS d l P so v t (upd H p o) := h.kp0 (.new n)
theorem plV0 (t : Tr) : plV [] t = (pl t).map fun p => V.str (st p) := rfl
theorem eq_cut (q p : List Nat) : decide (V.str (cutS (st q) none (some ((st p).length : Int))) = V.str (st p)) = decide (q.take p.length = p) := by
  rw [dec_str, show ((st p).length : Int) = ((p.length : Nat) : Int) from rfl, cut_to]
  by_cases h : q.take p.length = p
  · rw [decide_eq_true h, decide_eq_true (congrArg st h)]
  · rw [decide_eq_false h, decide_eq_false (fun e => h (st_inj e))]
theorem pt_ok : ∀ (t : Tr) (p : List Nat), t.ok → (pt t p).ok
  | t, [], h => by rw [pt_nil]; exact h
  | .nil, _ :: _, _ => trivial
  | .nd g l r, c :: p, h => by
    show (if c = 108 then pt l p else pt r p).ok
    split
    · exact pt_ok l p h.2.1
    · exact pt_ok r p h.2.2
theorem pt_sz : ∀ (t : Tr) (p : List Nat), (pt t p).sz ≤ t.sz
  | t, [] => by rw [pt_nil]; exact Nat.le_refl _
  | .nil, _ :: _ => Nat.le_refl _
  | .nd g l r, c :: p => by
    show (if c = 108 then pt l p else pt r p).sz ≤ l.sz + r.sz + 1
    split
    · have := pt_sz l p
      omega
    · have := pt_sz r p
      omega
theorem take_one {α : Type} {xs : List α} {i : Nat} {x : α} (h : xs[i]? = some x) : xs.take (i + 1) = xs.take i ++ [x] := by
  rw [List.take_add_one, h]
  rfl
theorem map_get {α β : Type} {f : α → β} {xs : List α} {i : Nat} {y : β} (h : (xs.map f)[i]? = some y) : ∃ x, xs[i]? = some x ∧ f x = y := by
  rw [List.getElem?_map] at h
  obtain ⟨x, h1, h2⟩ := Option.map_eq_some_iff.mp h
  exact ⟨x, h1, h2⟩
/-- one of the eight turns -/
theorem turn_piece (L : All K w mg A D c dP aW) (b : BF base mg c P) (f : Addr) (cdv : Value) (s : Shared) (H0 : Hp) (hr : Room 41 (XL Pr w K mg base f cdv s H0).A) :
    ∃ tt, PSs (XL Pr w K mg base f cdv s H0) B6 tt ∧ ∀ (E : Ends) (H2 : Hp) (a d l so : Addr) (v : V) (t : Tr) (x2 x5 x6 x7 x8 x9 x10 x11 x12 x13 : Option V),
      LS d l P so v t H2 → t.ok → t.sz ≤ 70 →
      (∀ (y9 y10 y11 y12 y13 : Option V) (H3 : Hp), LS d l P so v t H3 → E.nx (SL a d v so x2 x5 x6 x7 x8 y9 y10 y11 y12 y13) H3) →
      tt E (SL a d v so x2 x5 x6 x7 x8 x9 x10 x11 x12 x13) H2 := by
  obtain ⟨tw, dw, rw'⟩ := way_piece (Pr := Pr) L b f cdv s H0 hr
  have hr4 := hr.mono (show 4 ≤ 41 by decide)
  refine ⟨_, pss_cons (ps_set (i := 10) scLaw.nd rfl (.inr rfl) (pe_call (ok_pick L.fa.pick.F L.fa.B L.fa.draw) (hr.mono (by decide)) (by rfl) L.fa.pick.g L.fa.pick.F.kp L.fa.pick.b .nil pass0 (pa_cons (pv 1) (pa_cons (pv 4) pa_nil))))
    (pss_cons (ps_set (i := 11) scLaw.nd rfl (.inl rfl) (pe_call (ok_lpart L.lpart.F) (hr.mono (by decide)) (by rfl) L.lpart.g L.lpart.F.kp L.lpart.b .nil pass0 (pa_cons (pv 3) (pa_cons (pv 10) pa_nil))))
    (pss_cons (ps_if (pt_cmpR op_ne
      (pe_callB (cr_repr rfl hr) (by rfl) L.fa.B.repr (by decide +kernel) (pa_cons (pe_tup (pa_cons (pe_call (ok_partAt L.G b) hr4 (by rfl) L.G.partAt.g L.G.partAt.F.kp L.G.partAt.b .nil pass0 (pa_cons (pv 3) (pa_cons (pv 10) pa_nil)))
        (pa_cons (pe_callK0 (ok_partAt L.G b) hr4 (by rfl) L.G.partAt.g L.G.partAt.F.kp L.kPart pass0 (pk_cons (pv 10) (pk_cons (pv 3) pk_nil))) pa_nil))) pa_nil))
      (pe_callB (cr_repr rfl hr) (by rfl) L.fa.B.repr (by decide +kernel) (pa_cons (pe_tup (pa_cons (pv 11) (pa_cons (pv 11) pa_nil))) pa_nil)) (nomark _)) (pss_one (ps_ret pe_bl)) pss_nil)
    (pss_cons (ps_if (pt_cmpR op_ne
      (pe_callB (cr_repr rfl hr) (by rfl) L.fa.B.repr (by decide +kernel) (pa_cons (pe_lc (own := [("_law_it", 13)]) (g := gName 13) (tt := tYes) rfl scLaw.nd (pi_tup (pe_call (ok_places L.G b) hr4 (by rfl) L.G.places.g L.G.places.F.kp L.G.places.b .nil pass0 (pa_cons (pv 11) pa_nil)))
        (blkOk_by (N := NL) (sc := defScope sLaw) (by decide +kernel)) (fun _ _ _ _ _ => pg_name (i := 13) scLaw.nd rfl (Or.inl rfl)) (fun _ _ _ _ _ => pts_nil) (fun _ _ _ _ _ => pe_op op_add_str (pv 10) (pv 13))) pa_nil))
      (pe_callB (cr_repr rfl hr) (by rfl) L.fa.B.repr (by decide +kernel) (pa_cons (pe_lc (own := [("_law_it", 13)]) (g := gName 13) rfl scLaw.nd (pi_list (pv 4))
        (blkOk_by (N := NL) (sc := defScope sLaw) (by decide +kernel)) (fun _ _ _ _ _ => pg_name (i := 13) scLaw.nd rfl (Or.inl rfl)) (fun _ _ _ _ _ => pts_one (pt_cmpR op_eq (pe_slice sl_str (pv 13) po_none (po_some (pe_callB call_len_str (by rfl) L.fa.B.len PySem.boot_len (pa_cons (pv 10) pa_nil)))) (pv 10) (nomark _))) (fun _ _ _ _ _ => pv 13)) pa_nil)) (nomark _)) (pss_one (ps_ret pe_bl)) pss_nil)
    (pss_one (ps_for PassesOwn.never rfl (pi_tup (pe_tup (pa_cons pe_str (pa_cons pe_str (pa_cons pe_str (pa_cons pe_str pa_nil)))))) (pg_name (i := 12) scLaw.nd rfl (.inl rfl)) dw))))), ?_⟩
  intro E H2 a d l so v t x2 x5 x6 x7 x8 x9 x10 x11 x12 x13 S ok sz k
  have sz1 : t.sz ≤ 1000 := Nat.le_trans sz (by decide)
  -- place = pick
  have nn := S.nso
  refine ⟨_, rfl, _, rfl, d, l, so, plV [] t, rfl, S.I.dk, sql_of S.so_, ?_, ?_, nn.1, S.nl, fun x H3 hx D3 k3 => ?_⟩
  · intro e
    have := plV_len [] t
    rw [e] at this
    simp at this
  · rw [plV_len]
    omega
  obtain ⟨p, hp, rfl⟩ := List.mem_map.mp hx
  have S3 := S.own k3 D3
  have hp1 : isP t p = true := (isP_iff t p).mpr hp
  have hpf := fine_pl sz1 hp
  -- part_here
  refine ⟨_, rfl, _, rfl, v, t, p, rfl, S3.T, hp1, fun v1 T1 => ?_⟩
  have o1 := pt_ok t p ok
  have z1 := pt_sz t p
  -- the pairs of parts
  refine ⟨_, rfl, _, rfl, v, t, p, rfl, S3.T, ok, sz1, hp1, S3.I.tg, fun u1 H4 U1 g4 k4 => ?_⟩
  have S4 := S3.prog k4 g4
  refine ⟨_, rfl, _, rfl, v, t, p, rfl, S4.T, ok, sz1, hp1, S4.I.tg, fun u2 H5 U2 g5 k5 => ?_⟩
  have S5 := S4.prog k5 g5
  have zd : (td (pt t p)).depth ≤ 80 := Nat.le_trans (td_depth _) (by have := ht_sz (pt t p); omega)
  have zl : (td (pt t p)).shown.length ≤ 1000000 := Nat.le_trans (td_len _ o1) (by omega)
  refine ⟨by show 2 ≤ sizeLine; decide, fun q nq => ?_⟩
  have kq : Kp [] H5 (upd H5 q (.tup [u1, u2])) := .new nq
  have r1 := rp_two (K := K) (H := upd H5 q (.tup [u1, u2])) upd_same ((U1.kp k5).kp kq).dp (U2.kp kq).dp (td_show _) zd zl
  refine ⟨_, _, rfl, r1.dp, r1.sh, r1.d, r1.z, ?_⟩
  have S6 : LS d l P so v t (upd H5 q (.tup [u1, u2])) := S5.new nq
  have T6 := ((T1.kp k4).kp k5).kp kq
  generalize upd H5 q (.tup [u1, u2]) = H6 at S6 T6
  refine ⟨_, rfl, _, rfl, by show 2 ≤ sizeLine; decide, fun q2 nq2 => ?_⟩
  have kq2 : Kp [] H6 (upd H6 q2 (.tup [v1, v1])) := .new nq2
  have r2 := rp_two (K := K) (H := upd H6 q2 (.tup [v1, v1])) upd_same (T6.kp kq2).dp (T6.kp kq2).dp (td_show _) zd zl
  refine ⟨_, _, rfl, r2.dp, r2.sh, r2.d, r2.z, ?_⟩
  have S7 : LS d l P so v t (upd H6 q2 (.tup [v1, v1])) := S6.new nq2
  have T7 := T6.kp kq2
  generalize upd H6 q2 (.tup [v1, v1]) = H7 at S7 T7
  refine ⟨rfl, _, rfl, iteNS rfl ?_⟩
  -- the places below
  refine ⟨_, rfl, v1, pt t p, rfl, T7, o1, by omega, S7.I.tg, fun m H8 nm hm g8 k8 => ?_⟩
  have S8 := S7.prog k8 g8
  refine ⟨m, rfl, ⟨_, sqt_of hm⟩, fun D1 nD => ?_⟩
  have hm0 : D1 ≠ m := fun e => by
    rw [← e, nD] at hm
    cases hm
  refine lc_tup (K := K) (a := m) (xs := (pl (pt t p)).map fun y => V.str (st y)) (fun i H => H D1 = some (.lst (((pl (pt t p)).take i).map fun y => V.str (st (p ++ y)))) ∧ Kp [] H8 H)
    ⟨upd_same, .new nD⟩ (fun i H _ h => sqt_of (h.2.tup _ _ hm)) ?_ ?_
  · rintro i x H hi ⟨hD, kH⟩
    obtain ⟨y, hy, rfl⟩ := map_get hi
    have hyl : y.length ≤ 1000 := isP_len ((isP_iff _ _).mpr (List.mem_of_getElem? hy)) (by omega)
    have hpl : p.length ≤ 1000 := isP_len hp1 sz1
    refine ⟨rfl, _, rfl, _, rfl, _, _, rfl, rfl, ?_, _, hD, ?_, ?_, kH.own nD⟩
    · show (st p).length + (st y).length ≤ sizeLine
      rw [st_len, st_len]
      exact Nat.le_trans (show p.length + y.length ≤ 2000 by omega) (by decide)
    · rw [List.length_map, List.length_take, pl_len]
      exact Nat.lt_of_le_of_lt (show min i _ ≤ 2001 by omega) (by decide)
    · rw [upd_same, take_one hy, List.map_append]
      show some (HO.lst (_ ++ [V.str (st p ++ st y)])) = _
      rw [st_app]
      rfl
  rintro H9 ⟨hD, k9⟩
  rw [List.length_map, List.take_length] at hD
  have eD : ((pl (pt t p)).map fun y => V.str (st (p ++ y))) = ((pl (pt t p)).map (p ++ ·)).map fun y => V.str (st y) := by
    rw [List.map_map]
    rfl
  rw [eD, ← below t p hp1] at hD
  have fineB : ∀ y ∈ (pl t).filter (fun q => decide (q.take p.length = p)), Fine y := fun y hy => fine_pl sz1 (List.mem_filter.mp hy).1
  have lenB : ((pl t).filter (fun q => decide (q.take p.length = p))).length ≤ 1000 := by
    have := List.length_filter_le (fun q => decide (q.take p.length = p)) (pl t)
    rw [pl_len] at this
    omega
  have S9 : LS d l P so v t H9 := S8.kp0 k9
  have r3 := rp_lst (K := K) hD fineB lenB
  refine ⟨_, _, rfl, r3.dp, r3.sh, r3.d, r3.z, ?_⟩
  -- .. by the law
  refine ⟨_, rfl, so, rfl, ⟨_, sql_of S9.so_⟩, fun D2 nD2 => ?_⟩
  refine lc_list (K := K) (a := so) (xs := plV [] t) (fun i H => H D2 = some (.lst ((((pl t).take i).filter (fun q => decide (q.take p.length = p))).map fun y => V.str (st y))) ∧ Kp [] H9 H)
    ⟨upd_same, .new nD2⟩ (fun i H _ h => sql_of (h.2.at_ _ _ S9.so_ List.not_mem_nil)) ?_ ?_
  · rintro i x H hi ⟨hD2, kH⟩
    obtain ⟨y, hy, rfl⟩ := map_get hi
    have hy' : [] ++ y = y := rfl
    have hyf := fine_pl sz1 (List.mem_of_getElem? hy)
    have zy : (st y).length ≤ sizeLine := Nat.le_trans hyf.1 (by decide)
    refine ⟨rfl, _, rfl, _, rfl, _, rfl, Nat.le_trans hpf.1 (by decide), _, rfl, _, rfl, zy, _, rfl, rfl, _, rfl, ?_⟩
    show if decide (V.str (cutS (st y) none (some ((st p).length : Int))) = V.str (st p)) = true then _ else _
    rw [eq_cut]
    cases e : decide (y.take p.length = p) with
    | true =>
      refine iteT ?_
      refine ⟨_, rfl, _, hD2, ?_, ?_, kH.own nD2⟩
      · rw [List.length_map]
        have := List.length_filter_le (fun q => decide (q.take p.length = p)) ((pl t).take i)
        rw [List.length_take, pl_len] at this
        exact Nat.lt_of_le_of_lt (show _ ≤ 2001 by omega) (by decide)
      · rw [upd_same, take_one hy, List.filter_append, List.map_append]
        have e2 : List.filter (fun q => decide (q.take p.length = p)) [y] = [y] := by simp [of_decide_eq_true e]
        rw [e2]
        rfl
    | false =>
      refine iteF ?_
      refine ⟨?_, kH⟩
      rw [take_one hy, List.filter_append]
      have e2 : List.filter (fun q => decide (q.take p.length = p)) [y] = [] := by simp [of_decide_eq_false e]
      rw [e2, List.append_nil]
      exact hD2
  rintro H10 ⟨hD2, k10⟩
  rw [plV_len, ← pl_len, List.take_length] at hD2
  have S10 : LS d l P so v t H10 := S9.kp0 k10
  have r4 := rp_lst (K := K) hD2 fineB lenB
  refine ⟨_, _, rfl, r4.dp, r4.sh, r4.d, r4.z, ?_⟩
  refine ⟨rfl, _, rfl, iteNS rfl ?_⟩
  -- the ways
  refine ⟨by show 4 ≤ sizeLine; decide, fun q4 nq4 => ⟨q4, rfl, ⟨_, sqt_of upd_same⟩, ?_⟩⟩
  have S11 : LS d l P so v t (upd H10 q4 (.tup (wayL.map V.str))) := S10.new nq4
  have hq4 : (upd H10 q4 (.tup (wayL.map V.str))) q4 = some (.tup (wayL.map V.str)) := upd_same
  show ∃ W : Nat → Nat → L2.St → Hp → Prop, (∃ m, W 0 m _ (upd H10 q4 (.tup (wayL.map V.str)))) ∧ _
  generalize upd H10 q4 (.tup (wayL.map V.str)) = H11 at S11 hq4
  refine for_tup (K := K) (a := q4) (xs := wayL.map V.str) (fun i σ H => ∃ (y9 y12 y13 : Option V), σ = SL a d v so x2 x5 x6 x7 x8 y9 (some (.str (st p))) (some v1) y12 y13 ∧ LS d l P so v t H ∧ Kp [P] H11 H)
    ⟨_, _, _, rfl, S11, .refl⟩ (fun i σ H _ ⟨_, _, _, _, _, kk⟩ => sqt_of (kk.tup _ _ hq4)) ?_ ?_
  · rintro i x σ H hi ⟨y9, y12, y13, rfl, SS, kk⟩
    obtain ⟨wy, hwy, rfl⟩ := map_get hi
    refine rw' _ H a d l so v t p wy x2 x5 x6 x7 x8 y9 _ y13 SS.I SS.T ok sz1 hp1 (List.mem_of_getElem? hwy) fun z9 H12 I12 k12 => ?_
    exact ⟨_, _, _, rfl, SS.prog k12 I12.tg, kk.trans k12⟩
  · rintro σ H ⟨y9, y12, y13, rfl, SS, kk⟩
    exact k _ _ _ _ _ H SS
end
end Ey
set_option maxHeartbeats 4000000
namespace Ey
open PySem PySem.Spec L2
theorem LS.put {d l P so fo : Addr} {v : V} {t : Tr} {H : Hp} {xs ys : List V} (h : LS d l P so v t H) (e : H fo = some (.lst xs)) (n1 : fo ≠ so) (n2 : fo ≠ l) : LS d l P so v t (upd H fo (.lst ys)) := by
  have k : Kp [fo] H (upd H fo (.lst ys)) := .put (by simp) e (fun _ z => by cases z)
  obtain ⟨m, n, ns, h1, h2, _⟩ := h.I.dk.ex
  obtain ⟨pt', e2, _⟩ := h.I.tg
  have n3 : d ≠ fo := ne_of h1 e (by intro z; cases z)
  have n4 : P ≠ fo := ne_of e2 e (by intro z; cases z)
  exact ⟨⟨h.I.dk.kp k (by simp [n3]) (by simp [n2.symm]), tabg_kp h.I.tg k (by simp [n4])⟩, h.T.kp k, k.at_ _ _ h.so_ (by simp [n1.symm]), h.nl⟩
section
variable {Pr : Program} {w : World} {K : PySem.W.Frag} {mg : Str → Option Value} {base : Heap} {A : Nat → Addr} {D : Nat → FuncData} {c dP aW P : Addr}
/-- one turn over the places in order -/
theorem next_piece (L : All K w mg A D c dP aW) (b : BF base mg c P) (f : Addr) (cdv : Value) (s : Shared) (H0 : Hp) (hr : Room 41 (XL Pr w K mg base f cdv s H0).A) :
    ∃ tt, PSs (XL Pr w K mg base f cdv s H0) B4 tt ∧ ∀ (E : Ends) (H2 : Hp) (a d l so fo : Addr) (v : V) (t : Tr) (p : List Nat) (i : Nat) (x2 x8 x9 x10 x11 x12 x13 : Option V),
      LS d l P so v t H2 → t.ok → t.sz ≤ 70 → H2 fo = some (.lst (((pl t).take (i + 1)).map fun y => V.str (st y))) → fo ≠ so → fo ≠ l → (pl t)[i]? = some p →
      (∀ (p' : List Nat) (y8 y9 : Option V) (H3 : Hp), LS d l P so v t H3 → H3 fo = some (.lst (((pl t).take (i + 2)).map fun y => V.str (st y))) → ((pl t)[i + 1]? = none ∨ (pl t)[i + 1]? = some p') →
        E.nx (SL a d v so x2 (some (.str (st p'))) (some (.ref fo)) (some (.int (0 + (i : Int)))) y8 y9 x10 x11 x12 x13) H3) →
      tt E (SL a d v so x2 (some (.str (st p))) (some (.ref fo)) (some (.int (0 + (i : Int)))) x8 x9 x10 x11 x12 x13) H2 := by
  have hr5 := hr.mono (show 5 ≤ 41 by decide)
  refine ⟨_, pss_cons (ps_set (i := 8) scLaw.nd rfl (.inl rfl) (pe_ifExp (pt_cmpR op_eq (pe_op op_modN (pe_callTy call_int1 (by rfl) L.fa.B.int (by decide +kernel) (pa_cons (pv 7) pa_nil)) pe_int) pe_int (nomark _))
        (pe_call (ok_next L.G b) hr5 (by rfl) L.G.nxt.g L.G.nxt.F.kp L.G.nxt.b .nil pass0 (pa_cons (pv 3) (pa_cons (pv 5) pa_nil)))
        (pe_callK0 (ok_next L.G b) hr5 (by rfl) L.G.nxt.g L.G.nxt.F.kp L.kNext pass0 (pk_cons (pv 5) (pk_cons (pv 3) pk_nil)))))
    (pss_cons (ps_set (i := 9) scLaw.nd rfl (.inl rfl) (pe_ifExp (pt_cmpR op_lt (pe_op op_add (pv 7) pe_int) (pe_callB call_len_seq (by rfl) L.fa.B.len PySem.boot_len (pa_cons (pv 4) pa_nil)) (nomark _))
        (pe_ix ix_list (pv 4) (pe_op op_add (pv 7) pe_int) (fun _ _ => rfl)) pe_non))
    (pss_cons (ps_if (pt_cmpR op_ne (pe_callB (cr_repr rfl hr) (by rfl) L.fa.B.repr (by decide +kernel) (pa_cons (pv 8) pa_nil)) (pe_callB (cr_repr rfl hr) (by rfl) L.fa.B.repr (by decide +kernel) (pa_cons (pv 9) pa_nil)) (nomark _)) (pss_one (ps_ret pe_bl)) pss_nil)
    (pss_one (ps_if (pt_cmpR op_notN (pv 8) pe_non (nomark _))
      (pss_cons (ps_expr (pe_bm PySem.F.plainAttrs_list PySem.F.slot_list_append PySem.F.type_list_append mt_append (pv 6) (pa_cons (pv 8) pa_nil)))
      (pss_one (ps_set (i := 5) scLaw.nd rfl (.inl rfl) (pv 8)))) pss_nil)))), ?_⟩
  intro E H2 a d l so fo v t p i x2 x8 x9 x10 x11 x12 x13 S ok sz hfo n1 n2 hp k
  have sz1 : t.sz ≤ 1000 := Nat.le_trans sz (by decide)
  have hpm : p ∈ pl t := List.mem_of_getElem? hp
  have hp1 : isP t p = true := (isP_iff t p).mpr hpm
  have hnx := nxt_pl t i p hp
  have nfP : fo ≠ P := by
    obtain ⟨ps', e2, _⟩ := S.I.tg
    exact ne_of hfo e2 (by intro z; cases z)
  have hlen : (((plV [] t).length : Nat) : Int) = ((pl t).length : Int) := by rw [plV_len, pl_len]
  refine ⟨_, rfl, .inl ⟨_, rfl, _, _, rfl, rfl, (by decide : (2 : Int) ≠ 0), rfl, _, rfl, ?_⟩⟩
  refine ite2 (fun _ => ⟨_, rfl, _, rfl, v, t, p, rfl, S.T, ok, sz1, hp1, S.I.tg, fun H3 g3 k3 => ?_⟩) (fun _ => ⟨_, rfl, _, rfl, v, t, p, rfl, S.T, ok, sz1, hp1, S.I.tg, fun H3 g3 k3 => ?_⟩)
  all_goals
    rw [hnx]
    have S3 := S.prog k3 g3
    have hf3 := k3.at_ _ _ hfo (by simp [nfP])
    cases e : (pl t)[i + 1]? with
    | none =>
      have hge : (pl t).length ≤ i + 1 := List.getElem?_eq_none_iff.mp e
      refine ⟨_, rfl, _, _, rfl, rfl, _, rfl, so, _, rfl, .inl (sql_of S3.so_), _, _, rfl, rfl, _, rfl, ?_⟩
      rw [decide_eq_false (show ¬ (0 + (i : Int) + 1 < ((plV [] t).length : Int)) by rw [hlen]; omega)]
      refine iteF ?_
      have r1 : Rp K H3 .non .none := rp_non
      refine ⟨_, rfl, _, _, rfl, r1.dp, r1.sh, r1.d, r1.z, ?_⟩
      refine ⟨_, rfl, _, _, rfl, r1.dp, r1.sh, r1.d, r1.z, ?_⟩
      refine ⟨rfl, _, rfl, iteNS rfl ?_⟩
      refine ⟨_, rfl, rfl, _, rfl, iteF ?_⟩
      refine k p _ _ H3 S3 ?_ (.inl e)
      rw [List.take_of_length_le (by omega)]
      rw [List.take_of_length_le (by omega)] at hf3
      exact hf3
    | some q =>
      have hlt : i + 1 < (pl t).length := (List.getElem?_eq_some_iff.mp e).1
      refine ⟨_, rfl, _, _, rfl, rfl, _, rfl, so, _, rfl, .inl (sql_of S3.so_), _, _, rfl, rfl, _, rfl, ?_⟩
      rw [decide_eq_true (show (0 + (i : Int) + 1 < ((plV [] t).length : Int)) by rw [hlen]; omega)]
      refine iteT ?_
      have hq : (plV [] t)[i + 1]? = some (V.str (st q)) := by
        rw [plV0, List.getElem?_map, e]
        rfl
      have hidx : (0 + (i : Int) + 1) = ((i + 1 : Nat) : Int) := by omega
      refine ⟨_, rfl, _, rfl, _, _, rfl, rfl, so, _, _, .str (st q), rfl, rfl, sql_of S3.so_, ?_, ?_⟩
      · rw [hidx]
        exact atI_nat hq
      have r1 : Rp K H3 (.str (st q)) (.str (st q)) := rp_str (fine_pl sz1 (List.mem_of_getElem? e))
      refine ⟨_, rfl, _, _, rfl, r1.dp, r1.sh, r1.d, r1.z, ?_⟩
      refine ⟨_, rfl, _, _, rfl, r1.dp, r1.sh, r1.d, r1.z, ?_⟩
      refine ⟨rfl, _, rfl, iteNS rfl ?_⟩
      refine ⟨_, rfl, rfl, _, rfl, iteT ?_⟩
      refine ⟨_, rfl, .inl ⟨rfl, _, sql_of hf3⟩, _, rfl, fo, _, _, rfl, rfl, hf3, ?_, ?_⟩
      · rw [List.length_map, List.length_take, pl_len]
        exact Nat.lt_of_le_of_lt (show min (i + 1) _ ≤ 2001 by omega) (by decide)
      · refine ⟨_, rfl, ?_⟩
        refine k q _ _ _ (S3.put hf3 n1 n2) ?_ (.inr e)
        rw [upd_same, take_one e, List.map_append]
        rfl
end
end Ey
set_option maxHeartbeats 4000000
namespace Ey
open PySem PySem.Spec L2
theorem plV_str (t : Tr) : plV [] t = ((pl t).map st).map V.str := by
  rw [List.map_map]
  rfl
section
variable {Pr : Program} {w : World} {K : PySem.W.Frag} {mg : Str → Option Value} {base : Heap} {A : Nat → Addr} {D : Nat → FuncData} {c dP aW P : Addr}
/-- a turn behind the drawing of its tree -/
theorem body_piece (L : All K w mg A D c dP aW) (b : BF base mg c P) (f : Addr) (cdv : Value) (s : Shared) (H0 : Hp) (hr : Room 41 (XL Pr w K mg base f cdv s H0).A) :
    ∃ tt, PSs (XL Pr w K mg base f cdv s H0) (B1.drop 1) tt ∧ ∀ (E : Ends) (H2 : Hp) (a d l : Addr) (v : V) (t : Tr) (x2 x4 x5 x6 x7 x8 x9 x10 x11 x12 x13 : Option V),
      LI d l P H2 → TreeAt H2 v t → t.ok → t.sz ≤ 40 →
      (∀ (x4 x5 x6 x7 x8 x9 x10 x11 x12 x13 : Option V) (H3 : Hp), LI d l P H3 → E.nx [some (.ref a), some (.ref d), x2, some v, x4, x5, x6, x7, x8, x9, x10, x11, x12, x13] H3) →
      tt E [some (.ref a), some (.ref d), x2, some v, x4, x5, x6, x7, x8, x9, x10, x11, x12, x13] H2 := by
  obtain ⟨tn, dn, rn⟩ := next_piece (Pr := Pr) L b f cdv s H0 hr
  obtain ⟨tu, du, ru⟩ := turn_piece (Pr := Pr) L b f cdv s H0 hr
  have hr4 := hr.mono (show 4 ≤ 41 by decide)
  refine ⟨_, pss_cons (ps_set (i := 4) scLaw.nd rfl (.inl rfl) (pe_callB cr_sortT (by rfl) L.fa.B.sorted (by decide +kernel) (pa_cons (pe_call (ok_lplaces L.lplaces 40) hr (by rfl) L.lplaces.g L.lplaces.F.kp L.lplaces.b .nil pass0 (pa_cons (pv 3) (pa_cons pe_str pa_nil))) pa_nil)))
    (pss_cons (ps_par (i := 5) (j := 6) (by rfl) scLaw.nd rfl rfl (by decide) rfl rfl (pa_cons pe_str (pa_cons (pe_lst (pa_cons pe_str pa_nil)) pa_nil)) (by rfl))
    (pss_cons (ps_for PassesOwn.never rfl (pi_range1 (by rfl) L.fa.B.range (pa_cons (pe_callB call_len_seq (by rfl) L.fa.B.len PySem.boot_len (pa_cons (pv 4) pa_nil)) pa_nil)) (pg_name (i := 7) scLaw.nd rfl (.inl rfl)) dn)
    (pss_cons (ps_if (pt_cmpR op_ne (pe_callB (cr_repr rfl hr) (by rfl) L.fa.B.repr (by decide +kernel) (pa_cons (pe_callTy call_tuple_of (by rfl) L.fa.B.tuple (by decide +kernel) (pa_cons (pv 6) pa_nil)) pa_nil))
        (pe_callB (cr_repr rfl hr) (by rfl) L.fa.B.repr (by decide +kernel) (pa_cons (pe_call (ok_places L.G b) hr4 (by rfl) L.G.places.g L.G.places.F.kp L.G.places.b .nil pass0 (pa_cons (pv 3) pa_nil)) pa_nil)) (nomark _)) (pss_one (ps_ret pe_bl)) pss_nil)
    (pss_one (ps_for PassesOwn.never rfl (pi_range1 (by rfl) L.fa.B.range (pa_cons pe_int pa_nil)) (pg_name (i := 7) scLaw.nd rfl (.inl rfl)) du))))), ?_⟩
  intro E H2 a d l v t x2 x4 x5 x6 x7 x8 x9 x10 x11 x12 x13 I T ok sz k
  have sz1 : t.sz ≤ 1000 := Nat.le_trans sz (by decide)
  have sz7 : t.sz ≤ 70 := Nat.le_trans sz (by decide)
  have htl : t.ht ≤ 40 := Nat.le_trans (ht_sz t) sz
  -- some = sorted(places)
  refine ⟨_, rfl, v, t, [], by rw [s_e]; rfl, T, htl, sz1, by decide, fun q0 H3 k3 n3 h3 => ?_⟩
  have I3 : LI d l P H3 := ⟨I.dk.kp k3 List.not_mem_nil List.not_mem_nil, tabg_kp I.tg k3 List.not_mem_nil⟩
  rw [plV_str] at h3
  refine ⟨q0, (pl t).map st, rfl, sql_of h3, ?_, fun ys so hperm hsort nso => ?_⟩
  · rw [List.length_map, pl_len]
    exact Nat.le_trans (show 2 * t.sz + 1 ≤ 2001 by omega) (by decide)
  rw [sorted_is hperm hsort (pl_up t), ← plV_str]
  have nsl : so ≠ l := by
    obtain ⟨m, n, ns, h1, h2, _⟩ := I3.dk.ex
    exact (ne_of_none h2 nso).symm
  have S4 : LS d l P so v t (upd H3 so (.lst (plV [] t))) := ⟨I3.new nso, (T.kp k3).kp (.new nso) (ms := []), upd_same, nsl⟩
  generalize upd H3 so (.lst (plV [] t)) = H4 at S4
  -- here, found
  refine ⟨by show 1 ≤ sizeLine; decide, fun fo nfo => ⟨_, _, rfl, ?_⟩⟩
  rw [s_e]
  have nfs : fo ≠ so := (ne_of_none S4.so_ nfo).symm
  have nfl : fo ≠ l := by
    obtain ⟨m, n, ns, h1, h2, _⟩ := S4.I.dk.ex
    exact (ne_of_none h2 nfo).symm
  have S5 : LS d l P so v t (upd H4 fo (.lst [V.str (st [])])) := S4.new nfo
  have hfo : (upd H4 fo (.lst [V.str (st [])])) fo = some (.lst (((pl t).take (0 + 1)).map fun y => V.str (st y))) := by
    rw [upd_same, take_one (pl_head t)]
    rfl
  generalize upd H4 fo (.lst [V.str (st [])]) = H5 at S5 hfo
  -- the places in order
  have hlen : (plV [] t).length = (pl t).length := by rw [plV_len, pl_len]
  refine ⟨_, rfl, so, _, rfl, .inl (sql_of S5.so_), _, rfl, ?_, ?_, ?_⟩
  · omega
  · rw [plV_len]
    omega
  rw [Int.toNat_natCast]
  refine for_range (lo := 0) (n := (plV [] t).length) (fun i σ H => ∃ (p : List Nat) (y7 y8 y9 : Option V), σ = SL a d v so x2 (some (.str (st p))) (some (.ref fo)) y7 y8 y9 x10 x11 x12 x13 ∧ LS d l P so v t H ∧
      H fo = some (.lst (((pl t).take (i + 1)).map fun y => V.str (st y))) ∧ (i < (pl t).length → (pl t)[i]? = some p))
    ⟨[], _, _, _, rfl, S5, hfo, fun _ => pl_head t⟩ ?_ ?_
  · rintro i σ H hi ⟨p, y7, y8, y9, rfl, S, hf, hp⟩
    rw [hlen] at hi
    refine rn _ H a d l so fo v t p i x2 y8 y9 x10 x11 x12 x13 S ok sz7 hf nfs nfl (hp hi) fun p' z8 z9 H6 S6 hf6 hor => ?_
    refine ⟨p', _, z8, z9, rfl, S6, hf6, fun hlt => ?_⟩
    rcases hor with h | h
    · rw [List.getElem?_eq_getElem hlt] at h
      cases h
    · exact h
  rintro σ H6 ⟨p, y7, y8, y9, rfl, S6, hf6, _⟩
  rw [hlen, List.take_of_length_le (Nat.le_succ _)] at hf6
  have fineA : ∀ y ∈ pl t, Fine y := fun y hy => fine_pl sz1 hy
  have lenA : (pl t).length ≤ 1000 := by
    rw [pl_len]
    omega
  -- repr(tuple(found)) beside repr(places(tree))
  refine ⟨_, rfl, fo, _, rfl, .inl ⟨sql_of hf6, fun q nq => ?_⟩⟩
  have r1 := rp_tup (K := K) (H := upd H6 q (.tup ((pl t).map fun y => V.str (st y)))) upd_same fineA lenA
  refine ⟨_, _, rfl, r1.dp, r1.sh, r1.d, r1.z, ?_⟩
  have S7 : LS d l P so v t (upd H6 q (.tup ((pl t).map fun y => V.str (st y)))) := S6.new nq
  refine ⟨_, rfl, v, t, rfl, S7.T, ok, sz1, S7.I.tg, fun m H8 nm hm g8 k8 => ?_⟩
  have S8 := S7.prog k8 g8
  have r2 := rp_tup (K := K) hm fineA lenA
  refine ⟨_, _, rfl, r2.dp, r2.sh, r2.d, r2.z, ?_⟩
  refine ⟨rfl, _, rfl, iteNS rfl ?_⟩
  -- eight turns
  refine ⟨8, rfl, by decide, by decide, ?_⟩
  refine for_range (lo := 0) (n := 8) (fun i σ H => ∃ (y7 y8 y9 y10 y11 y12 y13 : Option V), σ = SL a d v so x2 (some (.str (st p))) (some (.ref fo)) y7 y8 y9 y10 y11 y12 y13 ∧ LS d l P so v t H)
    ⟨_, _, _, _, _, _, _, rfl, S8⟩ ?_ ?_
  · rintro i σ H hi ⟨z7, z8, z9, z10, z11, z12, z13, rfl, S⟩
    refine ru _ H a d l so v t x2 _ _ _ z8 z9 z10 z11 z12 z13 S ok sz7 fun u9 u10 u11 u12 u13 H9 S9 => ?_
    exact ⟨_, _, _, _, _, _, _, rfl, S9⟩
  · rintro σ H ⟨z7, z8, z9, z10, z11, z12, z13, rfl, S⟩
    exact k _ _ _ _ _ _ _ _ _ _ H S.I
def spLaw (K : PySem.W.Frag) (P : Addr) : Sp := fun vs H Q _ => ∃ (a : Addr) (ns : List Int), vs = [.ref a] ∧ SqL K H a (ns.map V.int) ∧ ns.length ≤ 63 ∧ GxR.TabG H P ∧ ∀ H', Q (.bl true) H'
theorem ok_law {f : Addr} {fd : FuncData} (F : Fun K "law" "law" sLaw f fd) (L : All K w mg A D c dP aW) (b : BF base mg c P) : LawOk Pr w K mg base f fd "_law_script" (spLaw K P) := by
  refine law_ok (k := 41) F scLaw ⟨rfl, by decide, by decide⟩ fun cdv s H v Q hr h => ?_
  obtain ⟨a, ns, e, hS, hn, g, k⟩ := h
  cases e
  obtain ⟨tb, db, rb⟩ := body_piece (Pr := Pr) L b f cdv s H hr
  have hr1 := hr.mono (show 1 ≤ 41 by decide)
  refine ⟨_, pss_cons (ps_set (i := 1) scLaw.nd rfl (.inl rfl) (pe_call (ok_deck L.deck.F L.fa.B) hr1 (by rfl) L.deck.g L.deck.F.kp L.deck.b .nil pass0 (pa_cons (pv 0) (pa_cons pe_int pa_nil))))
    (pss_cons (ps_for PassesOwn.never rfl (pi_range1 (by rfl) L.fa.B.range (pa_cons pe_int pa_nil)) (pg_name (i := 2) scLaw.nd rfl (.inl rfl))
      (pss_cons (ps_set (i := 3) scLaw.nd rfl (.inl rfl) (pe_ifExp (pt_cmpR op_gt (pv 2) pe_int (nomark _))
        (pe_call (ok_tree L.fa L.tree 7) (hr.mono (by decide)) (by rfl) L.tree.g L.tree.F.kp L.tree.b .nil pass0 (pa_cons (pv 1) (pa_cons (pe_disp (pps_cons pe_str pe_int pps_nil) (by rfl) (by rfl) (fun z => by cases z) (by decide)) (pa_cons pe_int pa_nil))))
        (pe_call (ok_chain L.fa L.chain.F) (hr.mono (by decide)) (by rfl) L.chain.g L.chain.F.kp L.chain.b .nil pass0 (pa_cons (pv 1) (pa_cons (pe_call (ok_draw L.fa.draw.F L.fa.B) hr1 (by rfl) L.fa.draw.g L.fa.draw.F.kp L.fa.draw.b .nil pass0 (pa_cons (pv 1) (pa_cons pe_int pa_nil))) pa_nil)))))
      db))
    (pss_one (ps_ret pe_bl))), ?_⟩
  refine ⟨_, rfl, a, ns, _, rfl, hS, hn, fun d l H1 D1 k1 _ _ => ?_⟩
  have I1 : LI d l P H1 := ⟨D1, tabg_kp g k1 List.not_mem_nil⟩
  refine ⟨3, rfl, by decide, by decide, ?_⟩
  refine for_range (lo := 0) (n := 3) (fun i σ H => ∃ (x2 x3 x4 x5 x6 x7 x8 x9 x10 x11 x12 x13 : Option V), σ = [some (.ref a), some (.ref d), x2, x3, x4, x5, x6, x7, x8, x9, x10, x11, x12, x13] ∧ LI d l P H)
    ⟨_, _, _, _, _, _, _, _, _, _, _, _, rfl, I1⟩ ?_ ?_
  · rintro i σ H2 hi ⟨x2, x3, x4, x5, x6, x7, x8, x9, x10, x11, x12, x13, rfl, I⟩
    refine ⟨_, rfl, _, _, rfl, rfl, _, rfl, ite2 (fun _ => ?_) (fun _ => ?_)⟩
    · -- a drawn tree
      refine ⟨_, rfl, fun p np => ⟨upd_same, [(kLeft, .int 20)], rfl, by show 1 ≤ 15; decide, ?_⟩⟩
      have em : mergeK [] [(kLeft, V.int 20)] = boxD 20 := by
        show putK ([] : List (Key × V)) kLeft (V.int 20) = _
        rw [putK_new _ (show valV ([] : List (Key × V)) kLeft = none from rfl)]
        rfl
      rw [em, upd_upd]
      have Ip : LI d l P (upd H2 p (.dK (boxD 20))) := I.new np
      have nPp : P ≠ p := by
        obtain ⟨ps', e, _⟩ := I.tg
        exact ne_of_none e np
      refine ⟨d, l, p, 20, rfl, Ip.dk, upd_same, fun v t m H3 T o sz _ _ D3 k3 => ?_⟩
      refine rb _ H3 a d l v t _ _ _ _ _ _ _ _ _ _ _ (Ip.own k3 D3 (by simp [I.nP.1, I.nP.2, nPp])) T o (by omega) fun y4 y5 y6 y7 y8 y9 y10 y11 y12 y13 H4 I4 => ?_
      exact ⟨_, _, _, _, _, _, _, _, _, _, _, _, rfl, I4⟩
    · -- a chain
      refine ⟨_, rfl, _, rfl, d, l, 41, rfl, I.dk, by decide, by decide, fun r H3 r0 r1 D3 k3 => ?_⟩
      have I3 := I.own k3 D3 (by simp [I.nP.1, I.nP.2])
      obtain ⟨m, rfl⟩ : ∃ m : Nat, r = (m : Int) := ⟨r.toNat, by omega⟩
      refine ⟨d, l, m, rfl, D3, by omega, fun v t H4 T o sz D4 k4 => ?_⟩
      refine rb _ H4 a d l v t _ _ _ _ _ _ _ _ _ _ _ (I3.own k4 D4 (by simp [I.nP.1, I.nP.2])) T o (by omega) fun y4 y5 y6 y7 y8 y9 y10 y11 y12 y13 H5 I5 => ?_
      exact ⟨_, _, _, _, _, _, _, _, _, _, _, _, rfl, I5⟩
  · rintro σ H2 ⟨x2, x3, x4, x5, x6, x7, x8, x9, x10, x11, x12, x13, rfl, I⟩
    exact k H2
end
end Ey
/-! ### the end -/
namespace Ey
open PySem PySem.Spec L2
/-- what the head tells of one def -/
structure DfK (K : PySem.W.Frag) (x : Str) (st : Stmt) (f : Addr) (oc kV dc pm cd ct : Value) (od an : Option Addr) (sl : Array (Option Value)) : Prop where
  a : PySem.W.nsIn K mainGlobals x = some (some (.ref f))
  l : K.lookup f = some ⟨oc, od, .func (PySem.W.fnOf x x (defArgs st) (defBody st) (defScope st) .none kV dc pm an cd ct), sl⟩
  c : PySem.W.codeIn K cd x = true
  k : PySem.W.keepIn K (.ref f) = true
theorem DfK.df {K : PySem.W.Frag} {x : Str} {st : Stmt} {f : Addr} {oc kV dc pm cd ct : Value} {od an : Option Addr} {sl : Array (Option Value)} {mg : Str → Option Value} {h : Heap} {ps : List Str} (e : DfK K x st f oc kV dc pm cd ct od an sl) (X : K.In h) (G : h.Ns mainGlobals mg)
    (hb : ∀ (kV doc pm : Value) (an : Option Addr) (cdv ct : Value) (us : List Value), us.length = ps.length → bindArgs (PySem.W.fnOf x x (defArgs st) (defBody st) (defScope st) .none kV doc pm an cdv ct) ⟨us, []⟩ = pure (ps.zip us)) :
    Df K mg x st ps f (PySem.W.fnOf x x (defArgs st) (defBody st) (defScope st) .none kV dc pm an cd ct) :=
  ⟨fun_mk e.l e.c e.k, (fun_mk e.l e.c e.k).binds hb, PySem.W.mg_of X G e.a⟩

set_option maxHeartbeats 8000000 in
theorem all_mk {P : Program} {q : Program} {lo : List Str} {mean : ExcName → Option Value} {w : World} {K : PySem.W.Frag} {h : Heap} {mg mb : Str → Option Value} {fa : Addr} (X : K.In h) (T : PyProof.Rows.Top q lo mean mg mb h) (hfa : mg "law" = some (.ref fa))
    {c0 P0 dP aW : Addr} {dr : DefRec} {es : Array DictEntry} {nP : Nat} {tL tT t1 t2 : Tok}
    {f10 f11 f12 f13 f14 f15 f16 f17 f18 f19 f21 f22 f23 f24 f25 f26 f27 f28 f29 f30 : Addr}
    {oc10 kV10 dc10 pm10 ct10 oc11 kV11 dc11 pm11 ct11 cd11 oc12 kV12 dc12 pm12 ct12 cd12 oc13 kV13 dc13 pm13 ct13 cd13 oc14 kV14 dc14 pm14 ct14 cd14 oc15 kV15 dc15 pm15 ct15 cd15 oc16 kV16 dc16 pm16 ct16 cd16 oc17 kV17 dc17 pm17 ct17 cd17 oc18 kV18 dc18 pm18 ct18 cd18 oc19 kV19 dc19 pm19 ct19 cd19 oc21 kV21 dc21 pm21 ct21 cd21 oc22 kV22 dc22 pm22 ct22 cd22 oc23 kV23 dc23 pm23 ct23 cd23 oc24 kV24 dc24 pm24 ct24 cd24 oc25 kV25 dc25 pm25 ct25 cd25 oc26 kV26 dc26 pm26 ct26 cd26 oc27 kV27 dc27 pm27 ct27 cd27 oc28 kV28 dc28 pm28 ct28 cd28 oc29 kV29 dc29 pm29 ct29 cd29 oc30 kV30 dc30 pm30 ct30 cd30 : Value}
    {od10 an10 od11 an11 od12 an12 od13 an13 od14 an14 od15 an15 od16 an16 od17 an17 od18 an18 od19 an19 od21 an21 od22 an22 od23 an23 od24 an24 od25 an25 od26 an26 od27 an27 od28 an28 od29 an29 od30 an30 : Option Addr}
    {sl10 sl11 sl12 sl13 sl14 sl15 sl16 sl17 sl18 sl19 sl21 sl22 sl23 sl24 sl25 sl26 sl27 sl28 sl29 sl30 : Array (Option Value)}
    (e10 : DfK K "is_tag" sIsTag f10 oc10 kV10 dc10 pm10 (.ref c0) ct10 od10 an10 sl10)
    (e11 : DfK K "is_tree" sIsTree f11 oc11 kV11 dc11 pm11 cd11 ct11 od11 an11 sl11)
    (e12 : DfK K "check_tree" sCheck f12 oc12 kV12 dc12 pm12 cd12 ct12 od12 an12 sl12)
    (e13 : DfK K "standing" sStand f13 oc13 kV13 dc13 pm13 cd13 ct13 od13 an13 sl13)
    (e14 : DfK K "places" sPlaces f14 oc14 kV14 dc14 pm14 cd14 ct14 od14 an14 sl14)
    (e15 : DfK K "has_place" sHas f15 oc15 kV15 dc15 pm15 cd15 ct15 od15 an15 sl15)
    (e16 : DfK K "part_at" sPartAt f16 oc16 kV16 dc16 pm16 cd16 ct16 od16 an16 sl16)
    (e17 : DfK K "place_from" sFrom f17 oc17 kV17 dc17 pm17 cd17 ct17 od17 an17 sl17)
    (e18 : DfK K "led" sLed f18 oc18 kV18 dc18 pm18 cd18 ct18 od18 an18 sl18)
    (e19 : DfK K "next_place" sNext f19 oc19 kV19 dc19 pm19 cd19 ct19 od19 an19 sl19)
    (e21 : DfK K "_law_deck" sDeck f21 oc21 kV21 dc21 pm21 cd21 ct21 od21 an21 sl21)
    (e22 : DfK K "_law_draw" sDraw f22 oc22 kV22 dc22 pm22 cd22 ct22 od22 an22 sl22)
    (e23 : DfK K "_law_pick" sPick f23 oc23 kV23 dc23 pm23 cd23 ct23 od23 an23 sl23)
    (e24 : DfK K "_law_places" sLPlaces f24 oc24 kV24 dc24 pm24 cd24 ct24 od24 an24 sl24)
    (e25 : DfK K "_law_part" sLPart f25 oc25 kV25 dc25 pm25 cd25 ct25 od25 an25 sl25)
    (e26 : DfK K "_law_led" sLLed f26 oc26 kV26 dc26 pm26 cd26 ct26 od26 an26 sl26)
    (e27 : DfK K "_law_tags" sTags f27 oc27 kV27 dc27 pm27 cd27 ct27 od27 an27 sl27)
    (e28 : DfK K "_law_drawn_tree" sTree f28 oc28 kV28 dc28 pm28 cd28 ct28 od28 an28 sl28)
    (e29 : DfK K "_law_chain" sChain f29 oc29 kV29 dc29 pm29 cd29 ct29 od29 an29 sl29)
    (e30 : DfK K "law" sLaw f30 oc30 kV30 dc30 pm30 cd30 ct30 od30 an30 sl30)
    (z_int : PySem.W.nsIn K mainGlobals "int" = some none)
    (z_max : PySem.W.nsIn K mainGlobals "max" = some none)
    (z_list : PySem.W.nsIn K mainGlobals "list" = some none)
    (z_len : PySem.W.nsIn K mainGlobals "len" = some none)
    (z_range : PySem.W.nsIn K mainGlobals "range" = some none)
    (z_tuple : PySem.W.nsIn K mainGlobals "tuple" = some none)
    (z_sorted : PySem.W.nsIn K mainGlobals "sorted" = some none)
    (z_repr : PySem.W.nsIn K mainGlobals "repr" = some none)
    (z_isi : PySem.W.nsIn K mainGlobals "isinstance" = some none)
    (z_str : PySem.W.nsIn K mainGlobals "str" = some none)
    (z_all : PySem.W.nsIn K mainGlobals "all" = some none)
    (tb : PySem.W.tabIn K "is_tag" = some (c0, P0)) (rc : (PyProof.Rows.recsOf q).find? (fun e => e.name == ("is_tag" : Str)) = some dr) (nT : K.lookup P0 = none)
    (gL : PySem.W.nsIn K mainGlobals "LETTERS" = some (some (.str "abcdefghijklmnopqrstuvwxyz" tL))) (gT : PySem.W.nsIn K mainGlobals "TAG_LENGTH" = some (some (.int 8 tT)))
    (gP : PySem.W.nsIn K mainGlobals "POSITIONS" = some (some (.ref dP))) (lP : K.lookup dP = some ⟨.type "dict", none, .dict es nP, #[]⟩) (kP : PySem.W.KeysLit w.params es.toList) (sP : (dP == sysModules) = false)
    (p1 : PySem.W.nsIn K dP "l" = some (some (.int 1 t1))) (p2 : PySem.W.nsIn K dP "r" = some (some (.int 2 t2)))
    (gW : PySem.W.nsIn K mainGlobals "WAYS" = some (some (.ref aW))) (lW : ∃ (o : Obj) (its : Array Value) (n : Nat), K.lookup aW = some o ∧ o.cls = .type "tuple" ∧ o.data = .seq its n ∧ its.size ≤ sizeLine ∧ Vals (wayL.map V.str) its.toList) :
    ∃ (fd : FuncData) (cs : List (Addr × Addr)) (sp : Sp), Tabs K h cs ∧ (∀ (s : Shared) (u : Value), BindsTo s fd ⟨[u], []⟩ [("_law_script", u)]) ∧
      (∀ (H : Hp) (a : Addr) (ns : List Int), ns.length ≤ 63 → (∀ p ∈ cs, H p.2 = some (.tbl #[])) → SqL K H a (ns.map V.int) → sp [.ref a] H (fun v _ => v = .bl true) E0) ∧
      ∀ base : Heap, K.In base → base.Ns mainGlobals mg → (∀ p ∈ cs, GxR.TabB base mg p.1 p.2) → LawOk P w K mg base fa fd "_law_script" sp := by
  have G := T.g
  have e := hfa.symm.trans (PySem.W.mg_of X G e30.a)
  cases e
  obtain ⟨hd0, tb0⟩ := PySem.W.tab_of T X rc tb
  have B : BI mg := ⟨PySem.W.mg_none_of X G z_int, PySem.W.mg_none_of X G z_max, PySem.W.mg_none_of X G z_list, PySem.W.mg_none_of X G z_len, PySem.W.mg_none_of X G z_range, PySem.W.mg_none_of X G z_tuple, PySem.W.mg_none_of X G z_sorted, PySem.W.mg_none_of X G z_repr, PySem.W.mg_none_of X G z_isi, PySem.W.mg_none_of X G z_str, PySem.W.mg_none_of X G z_all⟩
  have D10 := e10.df (ps := ["thing"]) X G fun _ _ _ _ _ _ us hl => match us, hl with | [_], _ => rfl
  have D11 := e11.df (ps := ["thing"]) X G fun _ _ _ _ _ _ us hl => match us, hl with | [_], _ => rfl
  have D12 := e12.df (ps := ["tree"]) X G fun _ _ _ _ _ _ us hl => match us, hl with | [_], _ => rfl
  have D13 := e13.df (ps := ["tree"]) X G fun _ _ _ _ _ _ us hl => match us, hl with | [_], _ => rfl
  have D14 := e14.df (ps := ["tree"]) X G fun _ _ _ _ _ _ us hl => match us, hl with | [_], _ => rfl
  have D15 := e15.df (ps := ["tree", "thing"]) X G fun _ _ _ _ _ _ us hl => match us, hl with | [_, _], _ => rfl
  have D16 := e16.df (ps := ["tree", "place"]) X G fun _ _ _ _ _ _ us hl => match us, hl with | [_, _], _ => rfl
  have D17 := e17.df (ps := ["part", "place", "way"]) X G fun _ _ _ _ _ _ us hl => match us, hl with | [_, _, _], _ => rfl
  have D18 := e18.df (ps := ["tree", "place", "way"]) X G fun _ _ _ _ _ _ us hl => match us, hl with | [_, _, _], _ => rfl
  have D19 := e19.df (ps := ["tree", "place"]) X G fun _ _ _ _ _ _ us hl => match us, hl with | [_, _], _ => rfl
  have D21 := e21.df (ps := ["_law_script", "_law_seed"]) X G fun _ _ _ _ _ _ us hl => match us, hl with | [_, _], _ => rfl
  have D22 := e22.df (ps := ["_law_deck_here", "_law_many"]) X G fun _ _ _ _ _ _ us hl => match us, hl with | [_, _], _ => rfl
  have D23 := e23.df (ps := ["_law_deck_here", "_law_some"]) X G fun _ _ _ _ _ _ us hl => match us, hl with | [_, _], _ => rfl
  have D24 := e24.df (ps := ["_law_tree", "_law_ahead"]) X G fun _ _ _ _ _ _ us hl => match us, hl with | [_, _], _ => rfl
  have D25 := e25.df (ps := ["_law_tree", "_law_place"]) X G fun _ _ _ _ _ _ us hl => match us, hl with | [_, _], _ => rfl
  have D26 := e26.df (ps := ["_law_tree", "_law_place", "_law_way"]) X G fun _ _ _ _ _ _ us hl => match us, hl with | [_, _, _], _ => rfl
  have D27 := e27.df (ps := []) X G fun _ _ _ _ _ _ us hl => match us, hl with | [], _ => rfl
  have D28 := e28.df (ps := ["_law_deck_here", "_law_box", "_law_deep"]) X G fun _ _ _ _ _ _ us hl => match us, hl with | [_, _, _], _ => rfl
  have D29 := e29.df (ps := ["_law_deck_here", "_law_many"]) X G fun _ _ _ _ _ _ us hl => match us, hl with | [_, _], _ => rfl
  have D30 := e30.df (ps := ["_law_script"]) X G fun _ _ _ _ _ _ us hl => match us, hl with | [_], _ => rfl
  have DT : DfT K mg "is_tag" sIsTag ["thing"] f10 _ c0 := ⟨D10, _, _, _, _, _, _, _, _, rfl, e10.l, e10.c⟩
  have A0 : PF K mg f10 c0 _ := ⟨B, DT, ⟨tL, PySem.W.mg_of X G gL⟩, ⟨tT, PySem.W.mg_of X G gT⟩⟩
  have Po : PosF K w mg dP := ⟨PySem.W.mg_of X G gP, ⟨es, nP, lP, kP, sP⟩, ⟨t1, p1⟩, ⟨t2, p2⟩⟩
  have Wa : WayF K mg aW := ⟨PySem.W.mg_of X G gW, lW⟩
  have Pg : Prog K w mg f10 c0 dP aW f11 f12 f13 f14 f15 f16 f17 f18 f19 _ _ _ _ _ _ _ _ _ _ := ⟨A0, Po, Wa, D11, D12, D13, D14, D15, D16, D17, D18, D19⟩
  have kN : KBinds K _ ["tree", "place"] ["place", "tree"] gRev gRev := Ey.Fun.revs D19.F (by simp) fun _ _ _ _ _ _ us hl => match us, hl with | [_, _], _ => rfl
  have kA : KBinds K _ ["tree", "place"] ["place", "tree"] gRev gRev := Ey.Fun.revs D16.F (by simp) fun _ _ _ _ _ _ us hl => match us, hl with | [_, _], _ => rfl
  have kL : KBinds K _ ["tree", "place", "way"] ["way", "place", "tree"] gRev gRev := Ey.Fun.revs D18.F (by simp) fun _ _ _ _ _ _ us hl => match us, hl with | [_, _, _], _ => rfl
  let AA : Nat → Addr := fun i => match i with
    | 10 => f10
    | 11 => f11
    | 12 => f12
    | 13 => f13
    | 14 => f14
    | 15 => f15
    | 16 => f16
    | 17 => f17
    | 18 => f18
    | 19 => f19
    | 21 => f21
    | 22 => f22
    | 23 => f23
    | 24 => f24
    | 25 => f25
    | 26 => f26
    | 27 => f27
    | 28 => f28
    | 29 => f29
    | _ => 0
  let DD : Nat → FuncData := fun i => match i with
    | 10 => PySem.W.fnOf "is_tag" "is_tag" (defArgs sIsTag) (defBody sIsTag) (defScope sIsTag) .none kV10 dc10 pm10 an10 (.ref c0) ct10
    | 11 => PySem.W.fnOf "is_tree" "is_tree" (defArgs sIsTree) (defBody sIsTree) (defScope sIsTree) .none kV11 dc11 pm11 an11 cd11 ct11
    | 12 => PySem.W.fnOf "check_tree" "check_tree" (defArgs sCheck) (defBody sCheck) (defScope sCheck) .none kV12 dc12 pm12 an12 cd12 ct12
    | 13 => PySem.W.fnOf "standing" "standing" (defArgs sStand) (defBody sStand) (defScope sStand) .none kV13 dc13 pm13 an13 cd13 ct13
    | 14 => PySem.W.fnOf "places" "places" (defArgs sPlaces) (defBody sPlaces) (defScope sPlaces) .none kV14 dc14 pm14 an14 cd14 ct14
    | 15 => PySem.W.fnOf "has_place" "has_place" (defArgs sHas) (defBody sHas) (defScope sHas) .none kV15 dc15 pm15 an15 cd15 ct15
    | 16 => PySem.W.fnOf "part_at" "part_at" (defArgs sPartAt) (defBody sPartAt) (defScope sPartAt) .none kV16 dc16 pm16 an16 cd16 ct16
    | 17 => PySem.W.fnOf "place_from" "place_from" (defArgs sFrom) (defBody sFrom) (defScope sFrom) .none kV17 dc17 pm17 an17 cd17 ct17
    | 18 => PySem.W.fnOf "led" "led" (defArgs sLed) (defBody sLed) (defScope sLed) .none kV18 dc18 pm18 an18 cd18 ct18
    | 19 => PySem.W.fnOf "next_place" "next_place" (defArgs sNext) (defBody sNext) (defScope sNext) .none kV19 dc19 pm19 an19 cd19 ct19
    | 21 => PySem.W.fnOf "_law_deck" "_law_deck" (defArgs sDeck) (defBody sDeck) (defScope sDeck) .none kV21 dc21 pm21 an21 cd21 ct21
    | 22 => PySem.W.fnOf "_law_draw" "_law_draw" (defArgs sDraw) (defBody sDraw) (defScope sDraw) .none kV22 dc22 pm22 an22 cd22 ct22
    | 23 => PySem.W.fnOf "_law_pick" "_law_pick" (defArgs sPick) (defBody sPick) (defScope sPick) .none kV23 dc23 pm23 an23 cd23 ct23
    | 24 => PySem.W.fnOf "_law_places" "_law_places" (defArgs sLPlaces) (defBody sLPlaces) (defScope sLPlaces) .none kV24 dc24 pm24 an24 cd24 ct24
    | 25 => PySem.W.fnOf "_law_part" "_law_part" (defArgs sLPart) (defBody sLPart) (defScope sLPart) .none kV25 dc25 pm25 an25 cd25 ct25
    | 26 => PySem.W.fnOf "_law_led" "_law_led" (defArgs sLLed) (defBody sLLed) (defScope sLLed) .none kV26 dc26 pm26 an26 cd26 ct26
    | 27 => PySem.W.fnOf "_law_tags" "_law_tags" (defArgs sTags) (defBody sTags) (defScope sTags) .none kV27 dc27 pm27 an27 cd27 ct27
    | 28 => PySem.W.fnOf "_law_drawn_tree" "_law_drawn_tree" (defArgs sTree) (defBody sTree) (defScope sTree) .none kV28 dc28 pm28 an28 cd28 ct28
    | 29 => PySem.W.fnOf "_law_chain" "_law_chain" (defArgs sChain) (defBody sChain) (defScope sChain) .none kV29 dc29 pm29 an29 cd29 ct29
    | _ => PySem.W.fnOf "law" "law" (defArgs sLaw) (defBody sLaw) (defScope sLaw) .none kV30 dc30 pm30 an30 cd30 ct30
  have L : All K w mg AA DD c0 dP aW := ⟨⟨B, D22, D23, D27⟩, D21, D24, D25, D26, D28, D29, Pg, kN, kA, kL⟩
  refine ⟨_, [(c0, P0)], spLaw K P0, ⟨fun p hp => ?_, fun p hp => ?_, fun p hp => ?_⟩, fun s u => .of_eq rfl, fun H a ns hn hT hS => ?_, fun base KB MB TB => ok_law D30.F L ⟨TB _ (List.mem_singleton.mpr rfl), MB⟩⟩
  · cases List.mem_singleton.mp hp
    exact tb0
  · cases List.mem_singleton.mp hp
    exact nT
  · cases List.mem_singleton.mp hp
    exact hd0
  · exact ⟨a, ns, rfl, hS, hn, ⟨#[], hT _ (List.mem_singleton.mpr rfl), trivial⟩, fun _ => rfl⟩
end Ey
open PySem PySem.W PyProof.Rows
set_option maxRecDepth 100000 in
set_option maxHeartbeats 0 in
theorem PySem.Challenge.cw_eyesonly_k02_ways_next_places_and_parts_holds : PySem.Challenge.rw_eyesonly_k02_ways_next_places_and_parts.Holds := by
  w_on; o_law; k_head; (case hw => w_witness2)
  k_fill
  refine Ey.walk_law (l := PySem.Challenge.rw_eyesonly_k02_ways_next_places_and_parts) (x := "_law_script") rfl (by decide) rfl (fun w h Y => PySem.W.kIn_of Y) ?F
  case F =>
    intro w mg fa h lo mean mb KX T hmg
    refine' Ey.all_mk (w := w) KX T hmg ⟨?a10, ?l10, ?c10, ?k10⟩ ⟨?a11, ?l11, ?c11, ?k11⟩ ⟨?a12, ?l12, ?c12, ?k12⟩ ⟨?a13, ?l13, ?c13, ?k13⟩ ⟨?a14, ?l14, ?c14, ?k14⟩ ⟨?a15, ?l15, ?c15, ?k15⟩ ⟨?a16, ?l16, ?c16, ?k16⟩ ⟨?a17, ?l17, ?c17, ?k17⟩ ⟨?a18, ?l18, ?c18, ?k18⟩ ⟨?a19, ?l19, ?c19, ?k19⟩ ⟨?a21, ?l21, ?c21, ?k21⟩ ⟨?a22, ?l22, ?c22, ?k22⟩ ⟨?a23, ?l23, ?c23, ?k23⟩ ⟨?a24, ?l24, ?c24, ?k24⟩ ⟨?a25, ?l25, ?c25, ?k25⟩ ⟨?a26, ?l26, ?c26, ?k26⟩ ⟨?a27, ?l27, ?c27, ?k27⟩ ⟨?a28, ?l28, ?c28, ?k28⟩ ⟨?a29, ?l29, ?c29, ?k29⟩ ⟨?a30, ?l30, ?c30, ?k30⟩ ?zint ?zmax ?zlist ?zlen ?zrange ?ztuple ?zsorted ?zrepr ?zisi ?zstr ?zall ?tb ?rc ?nT ?gL ?gT ?gP ?lP ?kP ?sP ?p1 ?p2 ?gW ?lW
    (case a10 => k_is); (case l10 => k_is); (case c10 => k_is); (case k10 => k_is)
    (case a11 => k_is); (case l11 => k_is); (case c11 => k_is); (case k11 => k_is)
    (case a12 => k_is); (case l12 => k_is); (case c12 => k_is); (case k12 => k_is)
    (case a13 => k_is); (case l13 => k_is); (case c13 => k_is); (case k13 => k_is)
    (case a14 => k_is); (case l14 => k_is); (case c14 => k_is); (case k14 => k_is)
    (case a15 => k_is); (case l15 => k_is); (case c15 => k_is); (case k15 => k_is)
    (case a16 => k_is); (case l16 => k_is); (case c16 => k_is); (case k16 => k_is)
    (case a17 => k_is); (case l17 => k_is); (case c17 => k_is); (case k17 => k_is)
    (case a18 => k_is); (case l18 => k_is); (case c18 => k_is); (case k18 => k_is)
    (case a19 => k_is); (case l19 => k_is); (case c19 => k_is); (case k19 => k_is)
    (case a21 => k_is); (case l21 => k_is); (case c21 => k_is); (case k21 => k_is)
    (case a22 => k_is); (case l22 => k_is); (case c22 => k_is); (case k22 => k_is)
    (case a23 => k_is); (case l23 => k_is); (case c23 => k_is); (case k23 => k_is)
    (case a24 => k_is); (case l24 => k_is); (case c24 => k_is); (case k24 => k_is)
    (case a25 => k_is); (case l25 => k_is); (case c25 => k_is); (case k25 => k_is)
    (case a26 => k_is); (case l26 => k_is); (case c26 => k_is); (case k26 => k_is)
    (case a27 => k_is); (case l27 => k_is); (case c27 => k_is); (case k27 => k_is)
    (case a28 => k_is); (case l28 => k_is); (case c28 => k_is); (case k28 => k_is)
    (case a29 => k_is); (case l29 => k_is); (case c29 => k_is); (case k29 => k_is)
    (case a30 => k_is); (case l30 => k_is); (case c30 => k_is); (case k30 => k_is)
    (case zint => k_is); (case zmax => k_is); (case zlist => k_is); (case zlen => k_is); (case zrange => k_is); (case ztuple => k_is); (case zsorted => k_is); (case zrepr => k_is); (case zisi => k_is); (case zstr => k_is); (case zall => k_is)
    (case tb => rfl)
    (case rc => rfl)
    (case nT => rfl)
    (case gL => k_is); (case gT => k_is); (case gP => k_is); (case lP => k_is)
    (case kP => exact ⟨⟨_, _, rfl, rfl⟩, ⟨_, _, rfl, rfl⟩, trivial⟩)
    (case sP => decide); (case p1 => k_is); (case p2 => k_is); (case gW => k_is)
    (case lW => exact ⟨_, _, _, by k_is, rfl, rfl, by decide, .cons ⟨_, rfl⟩ (.cons ⟨_, rfl⟩ (.cons ⟨_, rfl⟩ (.cons ⟨_, rfl⟩ .nil)))⟩)
