import PyProof.Rows.All
import Wide.All
import OpenK.AllK
import Wide.FinOn
import PySem.Challenge.RW_stagecut_k30_nets_that_are_none_and_runs
import HandS.ForMost
import HandS.ForExc
import HandS.Codes
import HandS.StrMore
import HandS.IsInst
import HandS.More
import HandS.Zip
import HandS.WideBits
import HandS.CallLocal
import HandS.DictComp
import HandS.TupLe
import HandS.Conv
import HandS.Zip0
import HandS.TupAny
import HandS.Star
set_option Elab.async false
set_option linter.all false
set_option maxRecDepth 100000
set_option maxHeartbeats 8000000
set_option pp.maxSteps 500
/-! enumerate of a tuple. -/
namespace EnT
open PySem PySem.Spec PyProof.Rows L2
open PySem.Sem (wp)
open PySem.AutoSeq1 (wpAny_loadPart')
theorem draws_tup {prog : Program} {w : World} {A : Around} (hh : A.handled = none) (it tp : Addr) (hne : tp ≠ it) (vals : Array Value) :
    Draws prog w A it [it, tp] vals.size (fun i v => vals[i]? = some v) (fun i h => h.IsTupleIter it tp i ∧ h.IsTuple tp vals) where
  live := fun _ _ q => by
    obtain ⟨⟨ob, e, _⟩, _⟩ := q
    exact ⟨ob, e⟩
  frame := fun _ _ _ q k => ⟨q.1.at fun ob e => k it (by simp) ob e, q.2.at fun ob e => k tp (by simp) ob e⟩
  item := fun i s Q E hi q k => by
    refine RZ.nextOf_tuple_item q.1 q.2 (x := vals[i]) (by simp [hi]) fun hp q1 q2 => ?_
    exact k _ hp s.toks (by simp [hi]) ⟨q1, q.2.extBut q2.extBut hne⟩ q2
  done := fun s Q E q k => RZ.nextOf_tuple_end hh q.1 q.2 (by simp) k
abbrev itO (tp : Addr) : Obj := { cls := .type "tuple_iterator", data := .fields #[.ref tp, .int 0 0] }
abbrev enO (it : Addr) : Obj := { cls := .type "enumerate", data := .fields #[.none, .bool false, .ref it, rawInt 0, .none, .none] }
theorem new_enumT (tp : Addr) (vals : Array Value) (n : Nat) (dct : Option Addr) (sl : Array (Option Value)) :
    Meets (Builtin.«enumerate.__new__» ⟨[.type "enumerate", .ref tp], []⟩) (fun _ R s => s.heap.get? tp = some { cls := .type "tuple", dict := dct, data := .seq vals n, slots := sl } ∧
      R (.ok (.ret (.ref (s.heap.push (itO tp)).objs.size))) { s with heap := (s.heap.push (itO tp)).push (enO s.heap.objs.size) }) := by
  refine .of_wp fun prog w A R s hq => ?_
  obtain ⟨hp, gs, dd, tk, rest⟩ := s
  obtain ⟨ht, q⟩ := hq
  have sub := sub_enumerate
  have isT : Heap.IsTuple (Shared.heap ⟨hp, gs, dd, tk, rest⟩) tp vals := ⟨_, ht, rfl, n, rfl⟩
  wp_walk using wpAny_loadPart' ht
  refine wpAny_stack_any fun _ => wpAny_pure ?_
  split
  · rename_i c _ _ _ _ _
    cases (c == Value.type "enumerate")
    · wp_walk using wpAny_loadPart' ht, wpAny_pyIter_tuple isT
      exact ⟨_, rfl, q⟩
    · wp_walk using wpAny_loadPart' ht, wpAny_pyIter_tuple isT
      exact ⟨_, rfl, q⟩
  · wp_walk using wpAny_loadPart' ht, wpAny_pyIter_tuple isT
    exact ⟨_, rfl, q⟩
section
variable {prog : Program} {w : World} {A : Around} {E : Value → Shared → Prop} {s : Shared}
theorem call_enumT {tp : Addr} {vals : Array Value} {Q : Value → Shared → Prop} (hT : s.heap.IsTuple tp vals)
    (k : ∀ hp, IsEnum hp (s.heap.objs.size + 1) s.heap.objs.size 0 .none → hp.IsTupleIter s.heap.objs.size tp 0 → (∀ b o, s.heap.get? b = some o → hp.get? b = some o) → Q (.ref (s.heap.objs.size + 1)) { s with heap := hp }) :
    wpAny (model prog w) A (call (.type "enumerate") [.ref tp]) Q E s := by
  obtain ⟨⟨cl, dct, dt, sl⟩, ht, e1, n, e2⟩ := hT
  obtain rfl : cl = .type "tuple" := e1
  obtain rfl : dt = .seq vals n := e2
  refine callType_new F.called_enumerate (by decide) (F.typeCall_enumerate_1 _) (F.newCall_enumerate_1 _) (fun ob => F.args_object_init_2 ob _) F.entry_enumerate_new (new_enumT tp vals n dct sl) ⟨ht, ?_⟩
  have sz : (s.heap.push (itO tp)).objs.size = s.heap.objs.size + 1 := Heap.size_push ..
  show _ ∧ _
  rw [sz]
  have en : IsEnum ((s.heap.push (itO tp)).push (enO s.heap.objs.size)) (s.heap.objs.size + 1) s.heap.objs.size 0 .none := by
    have g := Heap.get?_push_size (s.heap.push (itO tp)) (o := enO s.heap.objs.size) rfl
    rw [sz] at g
    exact g
  exact ⟨⟨_, en, rfl⟩, k _ en ⟨_, Heap.get?_push_of_some _ (Heap.get?_push_size _ rfl), rfl, rfl⟩ fun b o y => Heap.get?_push_of_some _ (Heap.get?_push_of_some _ y)⟩
end
/-- the tuple at a at each turn, its items in new pairs -/
def ItT (K : PySem.W.Frag) (a : Addr) : It :=
  ⟨fun i H => ∃ (xs : List V) (x : V), SqT K H a xs ∧ xs[i]? = some x, fun i H v H' => ∃ T x, v = .ref T ∧ H T = none ∧ H' = upd H T (.tup [.int (i : Nat), x]) ∧ ∀ xs, SqT K H a xs → xs[i]? = some x, fun i H => ∃ xs : List V, SqT K H a xs ∧ xs.length ≤ i⟩
theorem turn {P : Program} {w : World} {K : PySem.W.Frag} {elts : List Expr} {kk : Nat} {tpos : Pos} (a e it : Addr) :
    Turn P w K (.Tuple elts kk tpos) (ItT K a) [e, it] e (fun i h => (∃ old, IsEnum h e it ((i : Nat) : Int) old) ∧ h.IsTupleIter it a i ∧ e ≠ it) where
  mem := by simp
  obj := fun i h q b hb => by
    obtain ⟨⟨old, en⟩, ⟨o, ho, hc, hd⟩, _⟩ := q
    rcases (show b = e ∨ b = it by simpa using hb) with rfl | rfl
    · exact ⟨_, en, fun v z => nomatch z⟩
    · exact ⟨o, ho, fun v z => by rw [hd] at z; cases z⟩
  keep := fun i h h' q k => by
    obtain ⟨⟨old, en⟩, ti, ne⟩ := q
    exact ⟨⟨old, k e (by simp) _ en⟩, ti.at fun o z => k it (by simp) o z, ne⟩
  item := by
    intro X hP hw hK hc i pins s σ H E I hf q hg
    subst hP hw hK
    obtain ⟨⟨old, en⟩, ti, ne⟩ := q
    obtain ⟨xs, x, hq, hx⟩ := hg
    obtain ⟨its, rv, p, hz⟩ := I.tuple hq
    have p : s.heap.IsTuple a its.toArray := p
    obtain ⟨u, hu, ru⟩ := rv.get hx
    have an : a ≠ it := fun z => by
      obtain ⟨o1, g1, c1, _⟩ := p
      obtain ⟨o2, g2, c2, _⟩ := ti
      rw [z, g2] at g1
      cases g1
      rw [c2] at c1
      exact absurd c1 (by decide)
    have ea : e ≠ a := fun z => by
      obtain ⟨o1, g1, c1, _⟩ := p
      have en2 : s.heap.get? e = some _ := en
      rw [z, g1] at en2
      cases en2
      exact absurd (show Value.type "enumerate" = Value.type "tuple" from c1) (by decide)
    have el : e < s.heap.objs.size := Heap.lt_size en
    have il : it < s.heap.objs.size := by
      obtain ⟨_, z, _⟩ := ti
      exact Heap.lt_size z
    have hl := (List.getElem?_eq_some_iff.mp hu).1
    refine wpAny_pyNext_enum_itemD (draws_tup (show X.A.in1.handled = none from I.ok.hd hc) it a an its.toArray) en ⟨ti, p⟩ (by simpa using hl) ne (by simp [ne, ea]) fun y h' tk hy ho hs hT hsz hk => ?_
    obtain rfl : u = y := by
      have z : its.toArray[i]? = some y := hy
      have z2 : its.toArray[i]? = some u := by simpa using hu
      rw [z] at z2
      exact (Option.some.inj z2).symm
    refine ⟨_, rfl, wpAny_letOwnedTupleGo_enum (s := { s with heap := h', toks := tk + 1 }) ho fun h2 en2 sb => ?_⟩
    have hT2 : h2.get? s.heap.objs.size = some { cls := .type "tuple", data := .seq #[.int i tk, u] } := (sb.2 _ (Nat.ne_of_gt el)).trans hT
    have old2 : ∀ b o, b ≠ e → b ≠ it → s.heap.get? b = some o → h2.get? b = some o := fun b o n1 n2 z => (sb.2 b n1).trans (hk b o n1 n2 z)
    have fresh : ObjOk X.prog X.w (upd H s.heap.objs.size (.tup [.int (i : Nat), x])) h2 s.heap.objs.size (.tup [.int (i : Nat), x]) := ⟨by show 2 ≤ sizeLine; decide, [.int i tk, u], .cons ⟨_, rfl⟩ (.cons ru .nil), ⟨_, hT2, rfl, _, rfl⟩⟩
    have I1 : Inv X pins σ (upd H s.heap.objs.size (.tup [.int (i : Nat), x])) { s with heap := h2, toks := tk + 1 } :=
      I.turnedNew (ch := [e, it]) (fun b ob hb z => old2 b ob (fun y => hb (by simp [y])) (fun y => hb (by simp [y])) z) hf (Nat.le_refl _) fresh
    refine ⟨.ref s.heap.objs.size, _, I1, rfl, ⟨_, x, rfl, I.hok.fresh (Nat.le_refl _), rfl, fun ys hy => by rw [I.tuple_inj hy hq]; exact hx⟩, ⟨⟨u, ?_⟩, hs.1.at fun o z => (sb.2 it ne.symm).trans z, ne⟩, fun b hb => ?_⟩
    · rw [show ((i + 1 : Nat) : Int) = (i : Int) + 1 by omega]
      exact en2
    · have lt : b < s.heap.objs.size := by
        rcases (show b = e ∨ b = it by simpa using hb) with rfl | rfl
        · exact el
        · exact il
      rw [upd_ne (Nat.ne_of_lt lt)]
      exact (hf b hb).1
  done := by
    intro X hP hw hK hc i pins s σ H E I hf q hg
    subst hP hw hK
    obtain ⟨⟨old, en⟩, ti, ne⟩ := q
    obtain ⟨xs, hq, hx⟩ := hg
    obtain ⟨its, rv, p, hz⟩ := I.tuple hq
    have p : s.heap.IsTuple a its.toArray := p
    obtain ⟨f0, f1, f2, f3, f4, f5⟩ := hf it (by simp)
    have hl := rv.length
    have hend : its.toArray[i]? = none := by simp; omega
    have hT : s.TypeIs (.ref e) "enumerate" := ⟨_, en, rfl⟩
    unfold pyNext
    refine wpAny_bind (wpAny_attempt (wpAny_callSpecial?_slot (name := Str.ofString "__next__") hT F.slot_enumerate_next (wpAny_call_entry F.slot_enumerate_next hT F.entry_enumerate_next ?_ (F.args_enumerate_next_1 _))))
    show wpAny _ _ (field (.ref e) 2 >>= _) _ _ _
    refine wpAny_bind (wpAny_field en rfl (x := .ref it) rfl ?_)
    refine wpAny_bind (RZ.nextOf_tuple_end (show X.A.in1.handled = none from I.ok.hd hc) ti p hend fun h' x eb hx' => ?_)
    obtain ⟨o, ho, hcl⟩ := hx'
    refine wpAny_bind (wpAny_isInstance (T := "StopIteration") (b := true) ⟨o, ho, hcl⟩ isSubtype_stop ?_)
    exact wpAny_pure ⟨rfl, I.turned (t' := s.toks) (fun b o hb z => eb b o hb z) f0 f1 f3 f4 f5⟩
  self := fun A i s Q E q h => by
    obtain ⟨⟨_, en⟩, _⟩ := q
    exact wpAny_pyIter_enum en h
def iEnT (K : PySem.W.Frag) (ta : TA) : TI := fun σ H R => ta σ H fun vs H1 => ∃ a xs, vs = [.ref a] ∧ SqT K H1 a xs ∧ R (ItT K a) H1
theorem pi_enT {X : Cx} {e : Expr} {ta : TA} {p pos tpos : Pos} {elts : List Expr} {kk : Nat} (hg : Gl X "enumerate") (hm : X.mg "enumerate" = none) (ha : PA X [e] ta) (hs : starEach [e] X.env = [(false, eval e X.env)] := by rfl) :
    PI X (.Tuple elts kk tpos) (.Call (.Name "enumerate" p) [e] [] pos) (iEnT X.K ta) := by
  refine ⟨fun pins s σ H R I h => ?_⟩
  refine Call_ (ld_blt I hg hm boot_enumerate (PyProof.Rows.callWith_type1 (thn (ha.run pos pins s σ H _ I h) fun us s1 ⟨vs, H1, I1, r1, q1⟩ => ?_) hs rfl))
  obtain ⟨a, xs, rfl, hq, q⟩ := q1
  cases r1 with
  | cons r rr =>
    cases rr
    cases r
    obtain ⟨its, rv, pt, hz⟩ := I1.tuple hq
    refine call_enumT (show s1.heap.IsTuple a its.toArray from pt) fun hp en ti hk => wpAny_pyIter_enum en ?_
    have I2 : Inv X pins σ H1 { s1 with heap := hp } := I1.kept (t' := s1.toks) hk
    refine ⟨s1.heap.objs.size + 1, [s1.heap.objs.size + 1, s1.heap.objs.size], _, _, H1, rfl, I2, turn a (s1.heap.objs.size + 1) s1.heap.objs.size, ⟨⟨.none, en⟩, ti, Nat.succ_ne_self _⟩, fun b hb => ?_, q⟩
    have le : s1.heap.objs.size ≤ b := by
      rcases (show b = s1.heap.objs.size + 1 ∨ b = s1.heap.objs.size by simpa using hb) with z | z <;> rw [z]
      · exact Nat.le_add_right _ _
      · exact Nat.le_refl _
    exact I1.fpOk le (I1.hok.fresh le)
/-- the loop over it -/
theorem for_enT {K : PySem.W.Frag} {a : Addr} {xs : List V} {g : TG} {tb : TS} {D : Ends} {σ : L2.St} {H : Hp} (Pv : Nat → L2.St → Hp → Prop) (h0 : Pv 0 σ H) (hl : ∀ i σ H, i ≤ xs.length → Pv i σ H → SqT K H a xs)
    (hs : ∀ i x T σ H, xs[i]? = some x → Pv i σ H → H T = none → g (.ref T) σ (upd H T (.tup [.int (i : Nat), x])) fun σ2 H2 => tb { D with nx := Pv (i + 1), ct := Pv (i + 1), bk := D.nx } σ2 H2) (hd : ∀ σ H, Pv xs.length σ H → D.nx σ H) :
    ∃ W : Nat → Nat → L2.St → Hp → Prop, (∃ m, W 0 m σ H) ∧ ∀ i m σ H, W i m σ H →
      ((ItT K a).stop i H ∧ D.nx σ H) ∨ ((ItT K a).go i H ∧ ∃ N : L2.St → Hp → Prop, (∀ σ' H', N σ' H' → ∃ m', m' < m ∧ W (i + 1) m' σ' H') ∧ ∀ x H', (ItT K a).yld i H x H' → g x σ H' fun σ2 H2 => tb { D with nx := N, ct := N, bk := D.nx } σ2 H2) := by
  refine ⟨fun i m σ H => m = xs.length - i ∧ i ≤ xs.length ∧ Pv i σ H, ⟨xs.length, by simp, Nat.zero_le _, h0⟩, ?_⟩
  rintro i m σ H ⟨rfl, hi, q⟩
  have sq := hl i σ H hi q
  by_cases lt : i < xs.length
  · refine .inr ⟨⟨xs, xs[i], sq, by simp [lt]⟩, Pv (i + 1), fun σ' H' q' => ⟨xs.length - (i + 1), by omega, rfl, lt, q'⟩, fun v H' y => ?_⟩
    obtain ⟨T, x, rfl, nT, rfl, hx⟩ := y
    exact hs i x T σ H (hx xs sq) q nT
  · obtain rfl : i = xs.length := by omega
    exact .inl ⟨⟨xs, sq, Nat.le_refl _⟩, hd σ H q⟩
end EnT

/-! The law's draws; data. -/
namespace C1
open PySem PySem.Spec PyProof.Rows L2 SX
def topS (i : Nat) : Stmt := PySem.Challenge.pw_stagecut_k30_nets_that_are_none_and_runs.main.body.getD i (.Pass ⟨0, 0, 0, 0⟩)
abbrev sDraws : Stmt := topS 10
abbrev sNext : Stmt := topS 11
theorem scDraws : FnScope ["script", "many", "draws", "mixed", "k", "cell", "rest", "turn"] ["script", "many"] (defScope sDraws) := ⟨rfl, rfl, rfl, by decide +kernel, rfl, by decide +kernel, by decide +kernel⟩
theorem scNext : FnScope ["w", "many"] ["w", "many"] (defScope sNext) := ⟨rfl, rfl, rfl, by decide +kernel, rfl, by decide +kernel, by decide +kernel⟩
theorem cut_ints (ds : List Int) (lo hi : Option Int) : ∃ es : List Int, cutV (ds.map V.int) lo hi = es.map V.int ∧ es.length ≤ ds.length := by
  refine ⟨(ds.drop (HT.sIx ds.length 0 lo)).take (HT.sIx ds.length ds.length hi - HT.sIx ds.length 0 lo), ?_, ?_⟩
  · unfold cutV
    rw [List.length_map, List.map_take, List.map_drop]
  · rw [List.length_take, List.length_drop]
    omega
theorem ap_int (ds : List Int) (z : Int) : ds.map V.int ++ [V.int z] = (ds ++ [z]).map V.int := by
  rw [List.map_append]
  rfl
theorem same_new {H : Hp} {p : Addr} {o : HO} (n : H p = none) : Same H (upd H p o) := fun b x e => by
  rw [upd_ne (ne_of_none e n)]
  exact e
theorem same_put {H H1 : Hp} {l : Addr} {o : HO} (g : Same H H1) (n : H l = none) : Same H (upd H1 l o) := fun b x e => by
  rw [upd_ne (ne_of_none e n)]
  exact g b x e
section
variable {P : Program} {w : World} {K : PySem.W.Frag} {mg : Str → Option Value} {base : Heap}
/-- the built-ins that the law calls -/
structure Bl (mg : Str → Option Value) : Prop where
  len : mg "len" = none
  range : mg "range" = none
  abs : mg "abs" = none
  int : mg "int" = none
  str : mg "str" = none
def spDraws (K : PySem.W.Frag) : Sp := fun vs H Q _ => ∃ (a : Addr) (ns : List Int) (m : Nat), vs = [.ref a, .int ((m : Nat) : Int)] ∧ SqL K H a (ns.map V.int) ∧ ns.length ≤ 63 ∧ m ≤ 1000 ∧
  ∀ (H' : Hp) (p : Addr) (ds : List Int), Same H H' → H p = none → H' p = some (.lst (ds.map V.int)) → ds.length ≤ 10000 → Q (.ref p) H'
theorem ok_draws {f : Addr} {fd : FuncData} (F : Fun K "_law_draws" "_law_draws" sDraws f fd) (B : Bl mg) : FnOk P w K mg base CX0 1 f fd ["script", "many"] (spDraws K) := by
  refine F.ok scDraws (fun vs H Q E h => ?_) (fun cdv A outer s H vs Q E hr h => ?_)
  · obtain ⟨a, ns, m, rfl, _⟩ := h
    rfl
  · obtain ⟨a, ns, m, rfl, hS, hlen, hm, q⟩ := h
    have nd := scDraws.nd
    refine ⟨_, (pss_cons (ps_set (i := 2) nd rfl (.inl rfl) (pe_lst pa_nil))
      (pss_cons (ps_set (i := 3) nd rfl (.inl rfl) (pe_int))
      (pss_cons (ps_for PassesOwn.never rfl (pi_range1 (by rfl) B.range (pa_cons (pe_callB call_len_seq (by rfl) B.len PySem.boot_len (pa_cons (pv 0) pa_nil)) pa_nil)) (pg_name (i := 4) nd rfl (.inl rfl)) (pss_cons (ps_set (i := 5) nd rfl (.inl rfl) (pe_callB call_abs (by rfl) B.abs (by decide +kernel) (pa_cons (pe_callTy call_int1 (by rfl) B.int (by decide +kernel) (pa_cons (pe_ix ix_list (pv 0) (pv 4) (fun _ _ => rfl)) pa_nil)) pa_nil)))
      (pss_cons (ps_set (i := 3) nd rfl (.inl rfl) (pe_op op_mod (pe_callTy call_int1 (by rfl) B.int (by decide +kernel) (pa_cons (pe_op op_add (pe_op op_add (pe_op op_mul (pv 3) (pe_int)) (pe_op op_mod (pv 5) (pe_int))) (pv 4)) pa_nil)) (pe_int)))
      (pss_cons (ps_set (i := 6) nd rfl (.inl rfl) (pe_int))
      (C8.pss_cut (ps_if (pt_cmpR op_ge (pv 5) (pe_op op_pow pe_int pe_int) (nomark _)) (pss_one (ps_set (i := 6) nd rfl (.inl rfl) (pv 5)))
      (pss_cons (ps_expr (pe_bm PySem.F.plainAttrs_list PySem.F.slot_list_append PySem.F.type_list_append mt_append (pv 2) (pa_cons (pe_op op_mod (pe_callTy call_int1 (by rfl) B.int (by decide +kernel) (pa_cons (pv 5) pa_nil)) (pe_int)) pa_nil)))
      (pss_one (ps_expr (pe_bm PySem.F.plainAttrs_list PySem.F.slot_list_append PySem.F.type_list_append mt_append (pv 2) (pa_cons (pe_op op_mod (pe_op op_mod (pe_callTy call_int1 (by rfl) B.int (by decide +kernel) (pa_cons (pe_op op_add (pe_op op_mul (pv 3) (pe_int)) (pe_int)) pa_nil)) (pe_int)) (pe_int)) pa_nil))))))
      (pss_one (ps_for PassesOwn.never rfl (pi_range1 (by rfl) B.range (pa_cons (pe_int) pa_nil)) (pg_name (i := 7) nd rfl (.inl rfl)) (pss_one (ps_if (pt_cmpR op_gt (pv 6) pe_int (nomark _)) (pss_cons (ps_expr (pe_bm PySem.F.plainAttrs_list PySem.F.slot_list_append PySem.F.type_list_append mt_append (pv 2) (pa_cons (pe_op op_mod (pe_callTy call_int1 (by rfl) B.int (by decide +kernel) (pa_cons (pv 6) pa_nil)) (pe_int)) pa_nil)))
      (pss_one (ps_set (i := 6) nd rfl (.inl rfl) (pe_op op_fdiv (pv 6) (pe_int))))) pss_nil)))))))))
      (pss_cons (ps_for PassesOwn.never rfl (pi_range1 (by rfl) B.range (pa_cons (pv 1) pa_nil)) (pg_name (i := 4) nd rfl (.inl rfl)) (pss_cons (ps_set (i := 3) nd rfl (.inl rfl) (pe_op op_mod (pe_callTy call_int1 (by rfl) B.int (by decide +kernel) (pa_cons (pe_op op_add (pe_op op_add (pe_op op_mul (pv 3) (pe_int)) (pv 4)) (pe_int)) pa_nil)) (pe_int)))
      (pss_one (ps_expr (pe_bm PySem.F.plainAttrs_list PySem.F.slot_list_append PySem.F.type_list_append mt_append (pv 2) (pa_cons (pe_op op_mod (pe_callTy call_int1 (by rfl) B.int (by decide +kernel) (pa_cons (pv 3) pa_nil)) (pe_int)) pa_nil))))))
      (pss_one (ps_ret (pe_slice sl_list (pv 2) po_none (po_some (pv 1))))))))), ?_⟩
    refine ⟨Nat.zero_le _, fun l nl => ?_⟩
    have big : 100000 ≤ sizeLine := by
      rw [sizeLine_eq]
      decide
    let Iv : Nat → L2.St → Hp → Prop := fun n σ H' => ∃ (mixed : Int) (ds : List Int) (y4 y5 y6 y7 : Option V), σ = [some (.ref a), some (.int ((m : Nat) : Int)), some (.ref l), some (.int mixed), y4, y5, y6, y7] ∧ Same H H' ∧ H' l = some (.lst (ds.map V.int)) ∧ ds.length ≤ n ∧ 0 ≤ mixed ∧ mixed < 65537
    have h65 : ∀ x : Int, 0 ≤ x % 65537 ∧ x % 65537 < 65537 := fun x => ⟨Int.emod_nonneg x (by decide), Int.emod_lt_of_pos x (by decide)⟩
    refine ⟨_, rfl, a, ns.map V.int, rfl, .inl ((same_new nl).seq hS), ?_⟩
    rw [List.length_map]
    refine ⟨_, rfl, by omega, by omega, for_range (fun i σ H' => Iv (62 * i) σ H') ⟨7, [], none, none, none, none, rfl, same_new nl, upd_same, Nat.le_refl 0, by decide, by decide⟩ (fun i σ H1 hi h1 => ?_) (fun σ H1 h1 => ?_)⟩
    · obtain ⟨mixed, ds, y4, y5, y6, y7, rfl, g, el, dl, m0, m1⟩ := h1
      have hi2 : i < ns.length := by omega
      have hg : (ns.map V.int)[i]? = some (.int ns[i]) := by
        rw [List.getElem?_map, List.getElem?_eq_getElem hi2]
        rfl
      rw [Int.zero_add]
      refine ⟨_, rfl, _, rfl, a, _, _, _, rfl, rfl, g.seq hS, atI_nat (j := i) hg, .inl ⟨_, rfl, _, rfl, ?_⟩⟩
      generalize (if ns[i] < 0 then -ns[i] else ns[i]) = c
      refine ⟨_, rfl, _, _, rfl, rfl, .inl ⟨by omega, by omega⟩, _, rfl, _, _, rfl, rfl, (show (0 : Int) < 1000003 by decide), _, _, rfl, rfl, _, rfl, _, _, rfl, rfl, .inl ⟨_, rfl, _, _, rfl, rfl, (show (0 : Int) < 65537 by decide), ?_⟩⟩
      have mx := h65 (mixed * 48271 + c % 1000003 + ((i : Nat) : Int))
      -- behind the if: what the loop over 60 turns asks
      refine ⟨fun σ H2 => ∃ (ds : List Int) (rest : Int) (y7 : Option V), σ = [some (.ref a), some (.int ((m : Nat) : Int)), some (.ref l), some (.int ((mixed * 48271 + c % 1000003 + ((i : Nat) : Int)) % 65537)), some (.int ((i : Nat) : Int)), some (.int c), some (.int rest), y7] ∧ Same H H2 ∧ H2 l = some (.lst (ds.map V.int)) ∧ ds.length ≤ 62 * i + 2, ?_, ?_⟩
      · refine ⟨_, rfl, _, _, rfl, rfl, ⟨by decide, by decide, by decide⟩, _, _, rfl, rfl, _, rfl, ite2 (fun a1 => ?_) (fun a1 => ?_)⟩
        · exact ⟨_, rfl, ds, c, _, rfl, g, el, by omega⟩
        · refine ⟨_, rfl, .inl ⟨rfl, _, SqL.of el⟩, _, rfl, .inl ⟨_, rfl, _, _, rfl, rfl, (show (0 : Int) < 997 by decide), l, _, _, rfl, rfl, el, ?_, ?_⟩⟩
          · rw [List.length_map]
            omega
          · rw [ap_int]
            refine ⟨_, rfl, .inl ⟨rfl, _, SqL.of upd_same⟩, _, rfl, _, _, rfl, rfl, .inl ⟨by omega, by omega⟩, _, _, rfl, rfl, .inl ⟨_, rfl, _, _, rfl, rfl, (show (0 : Int) < 65521 by decide), _, _, rfl, rfl, (show (0 : Int) < 997 by decide), l, _, _, rfl, rfl, upd_same, ?_, ?_⟩⟩
            · rw [List.length_map, List.length_append]
              show ds.length + 1 < sizeLine
              omega
            · rw [ap_int]
              refine ⟨_, 0, _, rfl, same_put (same_put g nl) nl, upd_same, ?_⟩
              rw [List.length_append, List.length_append]
              show ds.length + 1 + 1 ≤ _
              omega
      · rintro σ H2 ⟨ds, rest, y7, rfl, g, el, dl⟩
        refine ⟨_, rfl, by decide, by decide, for_range (fun j σ H3 => ∃ (ds : List Int) (rest : Int) (y7 : Option V), σ = [some (.ref a), some (.int ((m : Nat) : Int)), some (.ref l), some (.int ((mixed * 48271 + c % 1000003 + ((i : Nat) : Int)) % 65537)), some (.int ((i : Nat) : Int)), some (.int c), some (.int rest), y7] ∧ Same H H3 ∧ H3 l = some (.lst (ds.map V.int)) ∧ ds.length ≤ 62 * i + 2 + j)
          ⟨ds, rest, y7, rfl, g, el, dl⟩ (fun j σ H3 hj h3 => ?_) (fun σ H3 h3 => ?_)⟩
        · obtain ⟨ds, rest, y7, rfl, g, el, dl⟩ := h3
          have hj2 : j < 60 := hj
          refine ⟨_, rfl, _, _, rfl, rfl, _, rfl, ite2 (fun a1 => ?_) (fun a1 => ?_)⟩
          · refine ⟨_, rfl, .inl ⟨rfl, _, SqL.of el⟩, _, rfl, .inl ⟨_, rfl, _, _, rfl, rfl, (show (0 : Int) < 997 by decide), l, _, _, rfl, rfl, el, ?_, ?_⟩⟩
            · rw [List.length_map]
              omega
            · rw [ap_int]
              refine ⟨_, rfl, _, _, rfl, rfl, ⟨by decide, by decide⟩, _, _, _, rfl, same_put g nl, upd_same, ?_⟩
              rw [List.length_append]
              show ds.length + 1 ≤ _
              omega
          · exact ⟨ds, rest, _, rfl, g, el, by omega⟩
        · obtain ⟨ds, rest, y7, rfl, g, el, dl⟩ := h3
          have dl2 : ds.length ≤ 62 * i + 2 + 60 := dl
          exact ⟨_, ds, _, _, _, _, rfl, g, el, by omega, mx.1, mx.2⟩
    · obtain ⟨mixed, ds, y4, y5, y6, y7, rfl, g, el, dl, m0, m1⟩ := h1
      have dl2 : ds.length ≤ 4000 := by omega
      refine ⟨_, rfl, _, rfl, by omega, by omega, for_range (fun j σ H2 => Iv (4000 + j) σ H2) ⟨mixed, ds, y4, y5, y6, y7, rfl, g, el, by omega, m0, m1⟩ (fun j σ H2 hj h2 => ?_) (fun σ H2 h2 => ?_)⟩
      · obtain ⟨mixed, ds, y4, y5, y6, y7, rfl, g, el, dl, m0, m1⟩ := h2
        have hj2 : j < m := by omega
        refine ⟨_, rfl, _, _, rfl, rfl, .inl ⟨by omega, by omega⟩, _, rfl, _, _, rfl, rfl, _, _, rfl, rfl, .inl ⟨_, rfl, _, _, rfl, rfl, (show (0 : Int) < 65537 by decide), ?_⟩⟩
        have mx := h65 (mixed * 16807 + (0 + ((j : Nat) : Int)) + 1)
        refine ⟨_, rfl, .inl ⟨rfl, _, SqL.of el⟩, _, rfl, .inl ⟨_, rfl, _, _, rfl, rfl, (show (0 : Int) < 997 by decide), l, _, _, rfl, rfl, el, ?_, ?_⟩⟩
        · rw [List.length_map]
          omega
        · rw [ap_int]
          refine ⟨_, _, _, _, _, _, rfl, same_put g nl, upd_same, ?_, mx.1, mx.2⟩
          rw [List.length_append]
          show ds.length + 1 ≤ _
          omega
      · obtain ⟨mixed, ds, y4, y5, y6, y7, rfl, g, el, dl, m0, m1⟩ := h2
        have dl3 : ds.length ≤ 5000 := by omega
        refine ⟨_, rfl, _, rfl, _, rfl, l, _, rfl, SqL.of el, fun p np => ?_⟩
        obtain ⟨es, e1, e2⟩ := cut_ints ds none (some ((m : Nat) : Int))
        rw [e1]
        exact q _ p es (fun b o e => same_new np b o (g b o e)) (g.free np) upd_same (by omega)
end
/-- the law's world: its draws and how many are taken -/
def wdL (l : Addr) (n : Int) : List (Key × V) := [(.inr ("draws" : Str), .ref l), (.inr ("at" : Str), .int n)]
theorem wd_draws (l : Addr) (n : Int) : valV (wdL l n) (.inr "draws") = some (.ref l) := valV_pos rfl
theorem wd_at (l : Addr) (n : Int) : valV (wdL l n) (.inr "at") = some (.int n) := (valV_neg (show ¬ (Sum.inr ("draws" : Str) : Key) = Sum.inr ("at" : Str) by decide)).trans (valV_pos rfl)
theorem wd_put (l : Addr) (n k : Int) : putK (wdL l n) (.inr ("at" : Str)) (.int k) = wdL l k := by
  have h1 : ¬ (Sum.inr ("draws" : Str) : Key) = Sum.inr ("at" : Str) := by decide
  unfold putK wdL
  simp [h1]
theorem get_draws {H : Hp} {a l : Addr} {n : Int} (h : H a = some (.dK (wdL l n))) : DGet H a (.str "draws") (some (.ref l)) := by
  have g := DGet.k (k := .inr "draws") h
  rw [wd_draws] at g
  exact g
theorem get_at {H : Hp} {a l : Addr} {n : Int} (h : H a = some (.dK (wdL l n))) : DGet H a (.str "at") (some (.int n)) := by
  have g := DGet.k (k := .inr "at") h
  rw [wd_at] at g
  exact g
theorem put_at {H : Hp} {a l : Addr} {n k : Int} (h : H a = some (.dK (wdL l n))) : DPut H a (.str "at") (.int k) (upd H a (.dK (wdL l k))) := by
  have g := DPut.k (k := .inr "at") (v := .int k) h (by rw [sizeLine_eq]; exact (by decide : 2 < 16777216))
  rw [wd_put] at g
  exact g
structure Wd (H : Hp) (a l : Addr) (ds : List Int) : Prop where
  at' : ∃ n : Int, 0 ≤ n ∧ H a = some (.dK (wdL l n))
  dr : H l = some (.lst (ds.map V.int))
  len : ds.length ≤ 10000
/-- all but the world at a is as it was -/
def Kp (a : Addr) (H H' : Hp) : Prop := ∀ b o, b ≠ a → H b = some o → H' b = some o
section
variable {a l : Addr} {ds : List Int} {H H1 H2 : Hp}
theorem Kp.refl (H : Hp) : Kp a H H := fun _ _ _ e => e
theorem Kp.trans (x : Kp a H H1) (y : Kp a H1 H2) : Kp a H H2 := fun b o n e => y b o n (x b o n e)
theorem Wd.ne (W : Wd H a l ds) : l ≠ a := by
  obtain ⟨n, _, e⟩ := W.at'
  exact ne_of W.dr e (by intro z; cases z)
theorem Kp.new {p : Addr} {o : HO} (n : H p = none) : Kp a H (upd H p o) := fun b u _ e => by
  rw [upd_ne (ne_of_none e n)]
  exact e
theorem Wd.new (W : Wd H a l ds) {p : Addr} {o : HO} (n : H p = none) : Wd (upd H p o) a l ds := by
  obtain ⟨k, k0, e⟩ := W.at'
  refine ⟨⟨k, k0, ?_⟩, ?_, W.len⟩
  · rw [upd_ne (ne_of_none e n)]
    exact e
  · rw [upd_ne (ne_of_none W.dr n)]
    exact W.dr
theorem Kp.step {o : HO} : Kp a H (upd H a o) := fun b u n e => by
  rw [upd_ne n]
  exact e
theorem Wd.step (W : Wd H a l ds) {n : Int} (h : 0 ≤ n) : Wd (upd H a (.dK (wdL l n))) a l ds := by
  refine ⟨⟨n, h, upd_same⟩, ?_, W.len⟩
  rw [upd_ne W.ne]
  exact W.dr
theorem Wd.fresh (W : Wd H a l ds) {p : Addr} (n : H p = none) : p ≠ a := fun z => by
  obtain ⟨k, _, e⟩ := W.at'
  rw [z, e] at n
  cases n
end
section
variable {P : Program} {w : World} {K : PySem.W.Frag} {mg : Str → Option Value} {base : Heap}
def spNext : Sp := fun vs H Q _ => ∃ (a l : Addr) (ds : List Int) (m : Int), vs = [.ref a, .int m] ∧ 0 < m ∧ Wd H a l ds ∧ ∀ (r : Nat) H', ((r : Nat) : Int) < m → Kp a H H' → (∀ b, b ≠ a → H' b = H b) → Wd H' a l ds → Q (.int ((r : Nat) : Int)) H'
theorem ok_next {f : Addr} {fd : FuncData} (F : Fun K "_law_next" "_law_next" sNext f fd) (B : Bl mg) : FnOk P w K mg base CX0 1 f fd ["w", "many"] spNext := by
  refine F.ok scNext (fun vs H Q E h => ?_) (fun cdv A outer s H vs Q E hr h => ?_)
  · obtain ⟨a, l, ds, m, rfl, _⟩ := h
    rfl
  · obtain ⟨a, l, ds, m, rfl, hm, W, q⟩ := h
    have hu := hu_of hr
    refine ⟨_, pss_cons (ps_daug hu (pv 0) pe_str pe_int in_add (fun _ _ _ => rfl))
      (pss_cons (ps_if (pt_cmpR op_gt (pe_dget hu (pv 0) pe_str (fun _ _ => rfl)) (pe_callB call_len_seq (by rfl) B.len PySem.boot_len (pa_cons (pe_dget hu (pv 0) pe_str (fun _ _ => rfl)) pa_nil)) (nomark _)) (pss_one (ps_ret pe_int)) pss_nil)
      (pss_one (ps_ret (pe_op op_mod (pe_callTy call_int1 (by rfl) B.int (by decide +kernel) (pa_cons (pe_ix ix_list (pe_dget hu (pv 0) pe_str (fun _ _ => rfl)) (pe_op op_sub (pe_dget hu (pv 0) pe_str (fun _ _ => rfl)) pe_int) (fun _ _ => rfl)) pa_nil)) (pv 1))))), ?_⟩
    obtain ⟨n, n0, e⟩ := W.at'
    refine ⟨_, rfl, a, _, rfl, get_at e, _, _, rfl, rfl, _, put_at e, ?_⟩
    have W1 : Wd (upd H a (.dK (wdL l (n + 1)))) a l ds := W.step (by omega)
    have e1 : (upd H a (.dK (wdL l (n + 1)))) a = some (.dK (wdL l (n + 1))) := upd_same
    refine ⟨_, rfl, a, _, rfl, get_at e1, _, rfl, a, _, rfl, get_draws e1, l, _, rfl, .inl (SqL.of W1.dr), _, _, rfl, rfl, _, rfl, ite2 (fun a1 => ?_) (fun a1 => ?_)⟩
    · exact q 0 _ hm Kp.step (fun b hb => upd_ne hb) W1
    · have b1 : ¬ ((ds.map V.int).length : Int) < n + 1 := fun z => a1 (decide_eq_true z)
      rw [List.length_map] at b1
      obtain ⟨j, ej⟩ : ∃ j : Nat, n + 1 - 1 = ((j : Nat) : Int) := ⟨n.toNat, by omega⟩
      have hj : j < ds.length := by omega
      have hg : (ds.map V.int)[j]? = some (.int ds[j]) := by
        rw [List.getElem?_map, List.getElem?_eq_getElem hj]
        rfl
      refine ⟨_, rfl, a, _, rfl, get_draws e1, _, rfl, a, _, rfl, get_at e1, _, _, rfl, rfl, l, _, _, .int ds[j], rfl, rfl, SqL.of W1.dr, ?_, .inl ⟨_, rfl, _, rfl, _, _, rfl, rfl, hm, ?_⟩⟩
      · rw [ej]
        exact atI_nat (j := j) hg
      · have z0 := Int.emod_nonneg ds[j] (show m ≠ 0 by omega)
        have z1 := Int.emod_lt_of_pos ds[j] hm
        obtain ⟨r, er⟩ : ∃ r : Nat, ds[j] % m = ((r : Nat) : Int) := ⟨(ds[j] % m).toNat, by omega⟩
        show Q (.int (ds[j] % m)) _
        rw [er]
        exact q r _ (by omega) Kp.step (fun b hb => upd_ne hb) W1
end
/-! data without lists: it stays where tuples stay -/
mutual
def noL : PyData → Bool
  | .list _ => false
  | .dict _ => false
  | .tuple ds => noLs ds
  | _ => true
def noLs : List PyData → Bool
  | [] => true
  | d :: ds => noL d && noLs ds
end
mutual
theorem dp_stay {K : PySem.W.Frag} {H H' : Hp} (st : ∀ a xs, SqT K H a xs → SqT K H' a xs) : ∀ (d : PyData) (v : V), Dp K H v d → noL d = true → Dp K H' v d
  | .none, _, h, _ => by cases h; exact .non
  | .bool _, _, h, _ => by cases h; exact .bl _
  | .int _, _, h, _ => by cases h; exact .int _
  | .str _, _, h, _ => by cases h; exact .str _
  | .list _, _, _, n => by cases n
  | .dict _, _, _, n => by cases n
  | .tuple ds, _, h, n => by
    cases h with
    | tup s a => exact .tup (st _ _ s) (dps_stay st ds _ a n)
theorem dps_stay {K : PySem.W.Frag} {H H' : Hp} (st : ∀ a xs, SqT K H a xs → SqT K H' a xs) : ∀ (ds : List PyData) (vs : List V), DpAll K H vs ds → noLs ds = true → DpAll K H' vs ds
  | [], _, h, _ => by cases h; exact .nil
  | d :: ds, _, h, n => by
    cases h with
    | cons a b =>
      have n2 : (noL d && noLs ds) = true := n
      rw [Bool.and_eq_true] at n2
      exact .cons (dp_stay st d _ a n2.1) (dps_stay st ds _ b n2.2)
end
theorem noLs_app : ∀ (a b : List PyData), noLs (a ++ b) = (noLs a && noLs b)
  | [], b => rfl
  | d :: a, b => by
    show (noL d && noLs (a ++ b)) = ((noL d && noLs a) && noLs b)
    rw [noLs_app a b, Bool.and_assoc]
theorem dps_app {K : PySem.W.Frag} {H : Hp} : ∀ {vs : List V} {ds : List PyData} {us : List V} {es : List PyData}, DpAll K H vs ds → DpAll K H us es → DpAll K H (vs ++ us) (ds ++ es)
  | _, _, _, _, .nil, h => h
  | _, _, _, _, .cons a b, h => .cons a (dps_app b h)
theorem dps_len {K : PySem.W.Frag} {H : Hp} : ∀ {vs : List V} {ds : List PyData}, DpAll K H vs ds → vs.length = ds.length
  | _, _, .nil => rfl
  | _, _, .cons _ b => by rw [List.length_cons, List.length_cons, dps_len b]
/-- a new object at p, the list at l grown: tuples stay -/
theorem tups_upd {K : PySem.W.Frag} {H : Hp} {l : Addr} {xs : List V} {o : HO} (e : H l = some (.lst xs)) : ∀ a ys, SqT K H a ys → SqT K (upd H l o) a ys := fun a ys h => by
  rcases h with (h | ⟨u, h⟩) | h
  · refine .inl (.inl ?_)
    rw [upd_ne (ne_of h e (by intro z; cases z))]
    exact h
  · refine .inl (.inr ⟨u, ?_⟩)
    rw [upd_ne (ne_of h e (by intro z; cases z))]
    exact h
  · exact .inr h
theorem dps_get {K : PySem.W.Frag} {H : Hp} : ∀ {vs : List V} {ds : List PyData} {i : Nat} {x : V}, DpAll K H vs ds → vs[i]? = some x → ∃ d, ds[i]? = some d ∧ Dp K H x d
  | _, _, _, _, .nil, h => by simp at h
  | _, _, 0, _, .cons a _, h => by
    have e := Option.some.inj h
    subst e
    exact ⟨_, rfl, a⟩
  | _, _, i + 1, _, .cons _ b, h => dps_get (i := i) b h
def LayAll (F : List PyData) : Prop := ∀ d ∈ F, PyData.canLay0 d = true ∧ PyData.depth d ≤ 5
theorem shaped_list : ∀ (F : List PyData), LayAll F → SeqAt.shaped (.list F) = true := by
  have h1 : ∀ F : List PyData, LayAll F → PyData.canLayAll0 F = true ∧ PyData.depthAll F ≤ 5 := by
    intro F
    induction F with
    | nil => exact fun _ => ⟨rfl, Nat.zero_le _⟩
    | cons d F ih =>
      intro h
      obtain ⟨a, b⟩ := ih fun x hx => h x (List.mem_cons_of_mem _ hx)
      obtain ⟨c, e⟩ := h d (List.mem_cons_self ..)
      refine ⟨?_, ?_⟩
      · show (PyData.canLay0 d && PyData.canLayAll0 F) = true
        rw [c, a]
        rfl
      · show max (PyData.depth d) (PyData.depthAll F) ≤ 5
        exact Nat.max_le.mpr ⟨e, b⟩
  intro F h
  obtain ⟨a, b⟩ := h1 F h
  unfold SeqAt.shaped
  rw [Bool.and_eq_true]
  refine ⟨a, decide_eq_true ?_⟩
  show PyData.depthAll F + 1 ≤ 64
  omega
abbrev iV (k : Nat) : V := .int ((k : Nat) : Int)
abbrev iD (k : Nat) : PyData := .int ((k : Nat) : Int)
theorem cL_int : ∀ ks : List Nat, LayAll (ks.map iD) := fun ks d h => by
  obtain ⟨k, _, e⟩ := List.mem_map.mp h
  subst e
  exact ⟨rfl, Nat.zero_le _⟩
theorem eqv_nil (xs : List PyData) : PyData.eqv (.list xs) (.list []) = xs.isEmpty := by
  cases xs with
  | nil => rfl
  | cons x r => rfl
theorem dps_ints {K : PySem.W.Frag} {H : Hp} : ∀ ks : List Nat, DpAll K H (ks.map iV) (ks.map iD)
  | [] => .nil
  | k :: ks => .cons (.int _) (dps_ints ks)
theorem dps_put {K : PySem.W.Frag} {H : Hp} : ∀ {vs : List V} {ds : List PyData} {i : Nat} {d : PyData}, DpAll K H vs ds → ds[i]? = some d → ∃ x, vs[i]? = some x ∧ Dp K H x d
  | _, _, _, _, .nil, h => by simp at h
  | _, _, 0, _, .cons a _, h => by
    have e := Option.some.inj h
    subst e
    exact ⟨_, rfl, a⟩
  | _, _, i + 1, _, .cons _ b, h => dps_put (i := i) b h
theorem int_at {ks : List Nat} {i k : Nat} (h : ks[i]? = some k) : (ks.map iV)[i]? = some (iV k) := by
  rw [List.getElem?_map, h]
  rfl
theorem kp_tup {K : PySem.W.Frag} {a : Addr} {H H' : Hp} {kvs : List (Key × V)} (e : H a = some (.dK kvs)) (k : Kp a H H') : ∀ b xs, SqT K H b xs → SqT K H' b xs := fun b xs h => by
  have ne : ∀ {o : HO}, H b = some o → (∀ k2, o ≠ .dK k2) → b ≠ a := fun h1 h2 z => by
    subst z
    rw [e] at h1
    cases h1
    exact h2 _ rfl
  rcases h with (h | ⟨u, h⟩) | h
  · exact .inl (.inl (k b _ (ne h (by intro _ z; cases z)) h))
  · exact .inl (.inr ⟨u, k b _ (ne h (by intro _ z; cases z)) h⟩)
  · exact .inr h
theorem wd_lne {H : Hp} {a l b : Addr} {ds : List Int} {xs : List V} (W : Wd H a l ds) (h : H b = some (.lst xs)) : b ≠ a := fun z => by
  obtain ⟨n, _, e⟩ := W.at'
  subst z
  rw [e] at h
  cases h
abbrev rLen (K : PySem.W.Frag) : List V → Hp → VK → Prop := fun xs H Q => ∃ p ys, xs = [V.ref p] ∧ (SqL K H p ys ∨ SqT K H p ys) ∧ Q (V.int ys.length) H
section
variable {a l r : Addr} {ds : List Int} {H H1 H2 : Hp}
theorem Kp.put {o : HO} (k : Kp a H H1) (n : H r = none) : Kp a H (upd H1 r o) := fun b u nb e => by
  rw [upd_ne (ne_of_none e n)]
  exact k b u nb e
theorem Wd.put {o : HO} (W : Wd H a l ds) (h1 : r ≠ a) (h2 : r ≠ l) : Wd (upd H r o) a l ds := by
  obtain ⟨k, k0, e⟩ := W.at'
  exact ⟨⟨k, k0, by rw [upd_ne h1.symm]; exact e⟩, by rw [upd_ne h2.symm]; exact W.dr, W.len⟩
theorem kp_none (k : Kp a H H1) (h : r ≠ a) (n : H1 r = none) : H r = none := by
  cases e : H r with
  | none => rfl
  | some o =>
    rw [k r o h e] at n
    cases n
theorem Wd.ne2 (W : Wd H a l ds) (n : H r = none) : r ≠ a ∧ r ≠ l := ⟨W.fresh n, fun z => by
  have := W.dr
  rw [← z, n] at this
  cases this⟩
variable {K : PySem.W.Frag}
theorem stay_dps {vs : List V} {es : List PyData} (W : Wd H a l ds) (k : Kp a H H1) (n : noLs es = true) (h : DpAll K H vs es) : DpAll K H1 vs es := by
  obtain ⟨_, _, e⟩ := W.at'
  exact dps_stay (kp_tup e k) _ _ h n
theorem push_dps {vs : List V} {es : List PyData} {v : V} {d : PyData} {o : HO} (e : H r = some (.lst vs)) (h : DpAll K H vs es) (n : noLs es = true) (hd : Dp K H v d) (nd : noL d = true) : DpAll K (upd H r o) (vs ++ [v]) (es ++ [d]) :=
  dps_app (dps_stay (tups_upd e) _ _ h n) (.cons (dp_stay (tups_upd e) _ _ hd nd) .nil)
end
def tyD : PyData → String
  | .none => "NoneType"
  | .bool _ => "bool"
  | .int _ => "int"
  | .str _ => "str"
  | .list _ => "list"
  | .tuple _ => "tuple"
  | .dict _ => "dict"
theorem ty_of {K : PySem.W.Frag} {H : Hp} {v : V} {d : PyData} (h : Dp K H v d) : TyB K H v (tyD d) := by
  cases h with
  | non => exact .non
  | bl b => exact .bl b
  | int i => exact .int i
  | str x => exact .str x
  | lst s _ => exact .lst s
  | tup s _ => exact .tup s
theorem ty_int {d : PyData} (h : tyD d = "int") : ∃ i, d = .int i := by
  cases d <;> simp [tyD] at h
  exact ⟨_, rfl⟩
theorem ty_tup {d : PyData} (h : tyD d = "tuple") : ∃ i, d = .tuple i := by
  cases d <;> simp [tyD] at h
  exact ⟨_, rfl⟩
theorem ty_str {d : PyData} (h : tyD d = "str") : ∃ i, d = .str i := by
  cases d <;> simp [tyD] at h
  exact ⟨_, rfl⟩
def isI (d : PyData) (lo hi : Int) : Bool := match d with
  | .int i => decide (lo ≤ i) && decide (i < hi)
  | _ => false
def isT (d : PyData) (n : Nat) : Bool := match d with
  | .tuple xs => decide (xs.length = n)
  | _ => false
theorem isI_iff {d : PyData} {lo hi : Int} : isI d lo hi = true ↔ ∃ i, d = .int i ∧ lo ≤ i ∧ i < hi := by
  cases d <;> simp [isI]
theorem isT_iff {d : PyData} {n : Nat} : isT d n = true ↔ ∃ xs, d = .tuple xs ∧ xs.length = n := by
  cases d <;> simp [isT]
theorem same_tup {K : PySem.W.Frag} {H H' : Hp} (s : Same H H') : ∀ b xs, SqT K H b xs → SqT K H' b xs := fun b xs h => by
  rcases h with (h | ⟨u, h⟩) | h
  · exact .inl (.inl (s _ _ h))
  · exact .inl (.inr ⟨u, s _ _ h⟩)
  · exact .inr h
theorem Same.up {H : Hp} {p : Addr} {o : HO} (n : H p = none) : Same H (upd H p o) := same_new n
section
variable {K : PySem.W.Frag} {H : Hp}
theorem dp_tup {H : Hp} {v : V} {ds : List PyData} (h : Dp K H v (.tuple ds)) : ∃ b xs, v = .ref b ∧ SqT K H b xs ∧ DpAll K H xs ds := by
  cases h with
  | tup s a => exact ⟨_, _, rfl, s, a⟩
end
theorem cst (n : Nat) : (2 : Int) ^ n = ((2 ^ n : Nat) : Int) := by
  rw [Int.natCast_pow]
  rfl
theorem vI {x y : Int} (h : x = y) : V.int x = V.int y := by rw [h]
def flD : PyData → Option V
  | .int i => some (.int i)
  | .str s => some (.str s)
  | _ => none
theorem sN {a b : Str} (h : a ≠ b) : V.str a ≠ V.str b := fun z => h (V.str.inj z)
theorem kT {A B : Prop} {x y : V} {i : Decidable (x = y)} (h : x = y) (a : A) : if @decide (x = y) i = true then A else B := by
  rw [if_pos (decide_eq_true h)]
  exact a
theorem kF {A B : Prop} {x y : V} {i : Decidable (x = y)} (h : x ≠ y) (b : B) : if @decide (x = y) i = true then A else B := by
  rw [if_neg (fun z => h (of_decide_eq_true z))]
  exact b
section
variable {K : PySem.W.Frag} {H : Hp}
theorem dps_flat {H : Hp} : ∀ {vs : List V} {ds : List PyData} {us : List V}, DpAll K H vs ds → ds.map flD = us.map some → vs = us
  | _, _, us, .nil, h => by
    cases us with
    | nil => rfl
    | cons _ _ => cases h
  | _, _, us, .cons (d := d) a b, h => by
    cases us with
    | nil => cases h
    | cons u us =>
      rw [List.map_cons, List.map_cons] at h
      injection h with h1 h2
      rw [dps_flat b h2]
      cases d with
      | int i => cases a; cases h1; rfl
      | str i => cases a; cases h1; rfl
      | _ => cases h1
end
theorem line200 {n : Nat} (h : n ≤ 1000) : n ≤ sizeLine := by
  rw [sizeLine_eq]
  omega
theorem lineS200 {n : Nat} (h : n ≤ 1000) : n < sizeLine := by
  rw [sizeLine_eq]
  omega
abbrev rTupleOf (K : PySem.W.Frag) : List V → Hp → VK → Prop := fun xs H Q => ∃ p ys, xs = [V.ref p] ∧ ((SqL K H p ys ∧ ∀ l, H l = none → Q (.ref l) (upd H l (.tup ys))) ∨ (SqT K H p ys ∧ Q (.ref p) H))
abbrev rOneShlN : R2 := fun x y H Q => ∃ k : Nat, x = .int 1 ∧ y = iV k ∧ k ≤ 1000 ∧ Q (iV (2 ^ k)) H
abbrev rModNN : R2 := fun x y H Q => ∃ n m : Nat, x = iV n ∧ y = iV m ∧ 0 < m ∧ Q (iV (n % m)) H
abbrev rAddN : R2 := fun x y H Q => ∃ n m : Nat, x = .int (n : Int) ∧ y = .int (m : Int) ∧ Q (.int ((n + m : Nat) : Int)) H
abbrev rMulN : R2 := fun x y H Q => ∃ n m : Nat, x = .int (n : Int) ∧ y = .int (m : Int) ∧ n ≤ 4294967296 ∧ Q (.int ((n * m : Nat) : Int)) H
abbrev rFdivN : R2 := fun x y H Q => ∃ n m : Nat, x = .int (n : Int) ∧ y = .int (m : Int) ∧ (1 ≤ m ∧ m < 1073741824) ∧ Q (.int ((n / m : Nat) : Int)) H
section
variable {X : Cx}
theorem op_oneShlN : OpR X (binaryOp .LShift) rOneShlN := by
  intro pins s σ H x y v u Q I rx ry h
  obtain ⟨k, rfl, rfl, hk, q⟩ := h
  exact op_oneShl pins s σ H _ _ v u Q I rx ry ⟨k, rfl, rfl, by omega, by rw [cst]; exact q⟩
theorem op_modNN : OpR X (binaryOp .Mod) rModNN := by
  intro pins s σ H x y v u Q I rx ry h
  obtain ⟨n, m, rfl, rfl, hm, q⟩ := h
  refine op_mod pins s σ H _ _ v u Q I rx ry ⟨_, _, rfl, rfl, show (0 : Int) < ((m : Nat) : Int) by omega, ?_⟩
  show Q (.int (((n : Nat) : Int) % ((m : Nat) : Int))) H
  rw [← Int.natCast_emod]
  exact q
end
theorem Wd.tup {K : PySem.W.Frag} {H H' : Hp} {a l : Addr} {ds : List Int} (W : Wd H a l ds) (k : Kp a H H') : ∀ b xs, SqT K H b xs → SqT K H' b xs := by
  obtain ⟨n, _, e⟩ := W.at'
  exact kp_tup e k
theorem getD_some {l : List Nat} {i x : Nat} (h : l[i]? = some x) : l.getD i 0 = x := by
  rw [List.getD_eq_getElem?_getD, h]
  rfl
theorem at_len {α β : Type} {xs : List α} {ys : List β} (hl : xs.length = ys.length) {i : Nat} {y : β} (h : ys[i]? = some y) : ∃ x, xs[i]? = some x :=
  ⟨_, List.getElem?_eq_getElem (by rw [hl]; exact (List.getElem?_eq_some_iff.mp h).1)⟩
theorem take_at {α : Type} {l : List α} {i j : Nat} {x : α} (h : (l.take i)[j]? = some x) : l[j]? = some x := by
  rw [List.getElem?_take] at h
  split at h
  · exact h
  · cases h
theorem take_snoc {α : Type} {l : List α} {i : Nat} {x : α} (h : l[i]? = some x) : l.take (i + 1) = l.take i ++ [x] := by
  rw [List.take_add_one, h]
  rfl
section
variable {K : PySem.W.Frag} {H H' : Hp}
theorem snoc_cases {α : Type} {l : List α} {x y : α} {j : Nat} (h : (l ++ [x])[j]? = some y) : (j < l.length ∧ l[j]? = some y) ∨ (j = l.length ∧ x = y) := by
  by_cases hj : j < l.length
  · rw [List.getElem?_append_left hj] at h
    exact .inl ⟨hj, h⟩
  · rw [List.getElem?_append_right (by omega)] at h
    have e0 : j - l.length = 0 := by
      have := (List.getElem?_eq_some_iff.mp h).1
      simp at this
      omega
    rw [e0] at h
    cases h
    exact .inr ⟨by omega, rfl⟩
end
section
variable {K : PySem.W.Frag} {H : Hp}
theorem tyx_tup {a : Addr} {xs : List V} (s : SqT K H a xs) : TyX K H (.ref a) (.type "tuple") := by
  rcases s with (s | ⟨u, s⟩) | ⟨o, its, k, s, c, _⟩
  · exact .base (.tup s)
  · exact .fTuple s
  · exact .kTuple s c
theorem tyx_lst {a : Addr} {xs : List V} (s : SqL K H a xs) : TyX K H (.ref a) (.type "list") := by
  rcases s with (s | ⟨u, s⟩) | ⟨o, its, k, s, c, _⟩
  · exact .base (.lst s)
  · exact .base (.frz s)
  · exact .kList s c
end
theorem tyx_of {K : PySem.W.Frag} {H : Hp} {v : V} {d : PyData} (h : Dp K H v d) (n : noL d = true) : TyX K H v (.type (tyD d)) := by
  cases h with
  | non => exact .base .non
  | bl b => exact .base (.bl b)
  | int i => exact .base (.int i)
  | str x => exact .base (.str x)
  | lst s _ => cases n
  | tup s _ =>
    rcases s with (s | ⟨u, s⟩) | ⟨o, its, k, s, c, _⟩
    · exact .base (.tup s)
    · exact .fTuple s
    · exact .kTuple s c
theorem kit_int (d : PyData) (n : noL d = true) : kitB (tyD d) "int" = some (decide (tyD d = "int") || decide (tyD d = "bool")) := by
  cases d with
  | list _ => cases n
  | dict _ => cases n
  | none => show kitB "NoneType" "int" = some (decide ("NoneType" = "int") || decide ("NoneType" = "bool")); decide +kernel
  | bool _ => show kitB "bool" "int" = some (decide ("bool" = "int") || decide ("bool" = "bool")); decide +kernel
  | int _ => show kitB "int" "int" = some (decide ("int" = "int") || decide ("int" = "bool")); decide +kernel
  | str _ => show kitB "str" "int" = some (decide ("str" = "int") || decide ("str" = "bool")); decide +kernel
  | tuple _ => show kitB "tuple" "int" = some (decide ("tuple" = "int") || decide ("tuple" = "bool")); decide +kernel
theorem kit_one (T : String) (hT : T = "bool" ∨ T = "tuple" ∨ T = "str") (d : PyData) (n : noL d = true) : kitB (tyD d) T = some (decide (tyD d = T)) := by
  rcases hT with rfl | rfl | rfl
  · cases d with
    | list _ => cases n
    | dict _ => cases n
    | none => show kitB "NoneType" "bool" = some (decide ("NoneType" = "bool")); decide +kernel
    | bool _ => show kitB "bool" "bool" = some (decide ("bool" = "bool")); decide +kernel
    | int _ => show kitB "int" "bool" = some (decide ("int" = "bool")); decide +kernel
    | str _ => show kitB "str" "bool" = some (decide ("str" = "bool")); decide +kernel
    | tuple _ => show kitB "tuple" "bool" = some (decide ("tuple" = "bool")); decide +kernel
  · cases d with
    | list _ => cases n
    | dict _ => cases n
    | none => show kitB "NoneType" "tuple" = some (decide ("NoneType" = "tuple")); decide +kernel
    | bool _ => show kitB "bool" "tuple" = some (decide ("bool" = "tuple")); decide +kernel
    | int _ => show kitB "int" "tuple" = some (decide ("int" = "tuple")); decide +kernel
    | str _ => show kitB "str" "tuple" = some (decide ("str" = "tuple")); decide +kernel
    | tuple _ => show kitB "tuple" "tuple" = some (decide ("tuple" = "tuple")); decide +kernel
  · cases d with
    | list _ => cases n
    | dict _ => cases n
    | none => show kitB "NoneType" "str" = some (decide ("NoneType" = "str")); decide +kernel
    | bool _ => show kitB "bool" "str" = some (decide ("bool" = "str")); decide +kernel
    | int _ => show kitB "int" "str" = some (decide ("int" = "str")); decide +kernel
    | str _ => show kitB "str" "str" = some (decide ("str" = "str")); decide +kernel
    | tuple _ => show kitB "tuple" "str" = some (decide ("tuple" = "str")); decide +kernel
theorem wd_merge (l : Addr) (n : Int) : mergeK [] [(.inr ("draws" : Str), .ref l), (.inr ("at" : Str), .int n)] = wdL l n := by
  have h1 : ¬ (Sum.inr ("draws" : Str) : Key) = Sum.inr ("at" : Str) := by decide
  unfold mergeK wdL
  simp [putK, h1]
theorem Wd.same {H H' : Hp} {a l : Addr} {ds : List Int} (W : Wd H a l ds) (s : Same H H') : Wd H' a l ds := by
  obtain ⟨n, n0, e⟩ := W.at'
  exact ⟨⟨n, n0, s _ _ e⟩, s _ _ W.dr, W.len⟩
theorem cut_take (xs : List V) (k : Nat) (h : k < xs.length) : cutV xs none (some ((k : Nat) : Int)) = xs.take k := by
  unfold cutV
  rw [HT.sIx_none, HT.sIx_nat, Nat.sub_zero, List.drop_zero, Nat.min_eq_left (by omega)]
theorem cut_drop (xs : List V) (k : Nat) (h : k < xs.length) : cutV xs (some (((k : Nat) : Int) + 1)) none = xs.drop (k + 1) := by
  unfold cutV
  rw [show ((k : Nat) : Int) + 1 = ((k + 1 : Nat) : Int) by omega, HT.sIx_none, HT.sIx_nat, Nat.min_eq_left (by omega)]
  exact List.take_of_length_le (by rw [List.length_drop]; omega)
theorem dps_take {K : PySem.W.Frag} {H : Hp} : ∀ {xs : List V} {ds : List PyData} (_ : DpAll K H xs ds) (k : Nat), DpAll K H (xs.take k) (ds.take k)
  | _, _, .nil, k => by simp; exact .nil
  | _, _, .cons _ _, 0 => .nil
  | _, _, .cons a b, k + 1 => .cons a (dps_take b k)
theorem dps_drop {K : PySem.W.Frag} {H : Hp} : ∀ {xs : List V} {ds : List PyData} (_ : DpAll K H xs ds) (k : Nat), DpAll K H (xs.drop k) (ds.drop k)
  | _, _, .nil, k => by simp; exact .nil
  | _, _, .cons a b, 0 => .cons a b
  | _, _, .cons _ b, k + 1 => dps_drop b k
theorem catA_read {K : PySem.W.Frag} {H : Hp} {a0 b0 : Addr} {xs ys : List V} {Q : VK} (hx : SqT K H a0 xs) (hy : SqT K H b0 ys) (hl : xs.length + ys.length ≤ sizeLine)
    (q : ∀ p H', Same H H' → (∀ a l ds, Wd H a l ds → Wd H' a l ds) → SqT K H' p (xs ++ ys) → Q (.ref p) H') : rCatA K (.ref a0) (.ref b0) H Q := by
  refine ⟨a0, b0, xs, ys, rfl, rfl, hx, hy, hl, fun e => ?_, fun e1 e2 => ?_, fun e1 e2 p np => ?_⟩
  · refine q b0 H (Same.refl H) (fun _ _ _ W => W) ?_
    rw [e]
    exact hy
  · refine q a0 H (Same.refl H) (fun _ _ _ W => W) ?_
    rw [e2, List.append_nil]
    exact hx
  · exact q p _ (Same.up np) (fun _ _ _ W => W.new np) (SqT.of upd_same)
theorem Same.kp {H H' : Hp} {a : Addr} (s : Same H H') : Kp a H H' := fun b o _ e => s b o e
theorem noLs_mem : ∀ {L : List PyData}, noLs L = true → ∀ d ∈ L, noL d = true
  | [], _, d, hd => by cases hd
  | a :: L, h, d, hd => by
    have h' := Bool.and_eq_true_iff.mp (show (noL a && noLs L) = true from h)
    rcases List.mem_cons.mp hd with rfl | hd
    · exact h'.1
    · exact noLs_mem h'.2 d hd
abbrev rListOf (K : PySem.W.Frag) : List V → Hp → VK → Prop := fun xs H Q => ∃ p ys, xs = [V.ref p] ∧ (SqL K H p ys ∨ SqT K H p ys) ∧ ∀ l, H l = none → Q (.ref l) (upd H l (.lst ys))
structure Gp (mg : Str → Option Value) : Prop where
  ty : mg "type" = none
  it : mg "int" = none
  tu : mg "tuple" = none
  bo : mg "bool" = none
  len : mg "len" = none
  all : mg "all" = none
  enumerate : mg "enumerate" = none
  isi : mg "isinstance" = none
  min : mg "min" = none
  range : mg "range" = none
  list : mg "list" = none
abbrev sIsTuple : Stmt := topS 1
abbrev sIsBelow : Stmt := topS 2
theorem scIsTuple : FnScope ["thing", "many"] ["thing", "many"] (defScope sIsTuple) := ⟨rfl, rfl, rfl, by decide +kernel, rfl, by decide +kernel, by decide +kernel⟩
theorem scIsBelow : FnScope ["thing", "limit"] ["thing", "limit"] (defScope sIsBelow) := ⟨rfl, rfl, rfl, by decide +kernel, rfl, by decide +kernel, by decide +kernel⟩
section
variable {P : Program} {w : World} {K : PySem.W.Frag} {mg : Str → Option Value} {base : Heap}
def spIsTuple (K : PySem.W.Frag) : Sp := fun vs H Q _ => ∃ (v : V) (d : PyData) (n : Nat), vs = [v, iV n] ∧ Dp K H v d ∧ Q (.bl (isT d n)) H
theorem ok_isTuple {f : Addr} {fd : FuncData} (F : Fun K "is_tuple" "is_tuple" sIsTuple f fd) (G : Gp mg) : FnOk P w K mg base CX0 1 f fd ["thing", "many"] (spIsTuple K) := by
  refine F.ok scIsTuple (fun vs H Q E h => ?_) (fun cdv A outer s H vs Q E hr h => ?_)
  · obtain ⟨v, d, n, rfl, _⟩ := h
    rfl
  · obtain ⟨v, d, n, rfl, hd, q⟩ := h
    refine ⟨_, (pss_one (ps_ret (pe_and (pe_cmpR op_isTyB (pe_callTy call_type1 (by rfl) G.ty (by decide +kernel) (pa_cons (pv 0) pa_nil)) (pe_bltn (v := .ty "tuple") (by rfl) G.tu (by decide +kernel) rfl) (nomark _)) (pe_one (pe_cmpR op_eq (pe_callB call_len_seq (by rfl) G.len PySem.boot_len (pa_cons (pv 0) pa_nil)) (pv 1) (nomark _)))))), ?_⟩
    refine ⟨_, rfl, _, _, rfl, ty_of hd, _, _, rfl, rfl, ?_⟩
    refine ⟨_, rfl, ite2 (fun a1 => ?_) (fun a1 => ?_)⟩
    · obtain ⟨ds, rfl⟩ := ty_tup (of_decide_eq_true a1)
      cases hd with
      | tup s a =>
        have l := dps_len a
        refine ⟨_, rfl, _, _, rfl, .inr s, _, rfl, rfl, ?_⟩
        rename_i xs
        have e2 : decide (V.int ((xs.length : Nat) : Int) = V.int ((n : Nat) : Int)) = isT (.tuple ds) n := by
          show _ = decide (ds.length = n)
          rw [l]
          refine decide_eq_decide.mpr ⟨fun h => ?_, fun h => by rw [h]⟩
          have := V.int.inj h
          omega
        rw [e2]
        exact q
    · have e : isT d n = false := by
        cases d with
        | tuple xs => exact absurd rfl a1
        | _ => rfl
      rw [e] at q
      exact q
def spIsBelow (K : PySem.W.Frag) : Sp := fun vs H Q _ => ∃ (v : V) (d : PyData) (n : Int), vs = [v, .int n] ∧ Dp K H v d ∧ Q (.bl (isI d 0 n)) H
theorem ok_isBelow {f : Addr} {fd : FuncData} (F : Fun K "is_below" "is_below" sIsBelow f fd) (G : Gp mg) : FnOk P w K mg base CX0 1 f fd ["thing", "limit"] (spIsBelow K) := by
  refine F.ok scIsBelow (fun vs H Q E h => ?_) (fun cdv A outer s H vs Q E hr h => ?_)
  · obtain ⟨v, d, n, rfl, _⟩ := h
    rfl
  · obtain ⟨v, d, n, rfl, hd, q⟩ := h
    refine ⟨_, (pss_one (ps_ret (pe_and (pe_cmpR op_isTyB (pe_callTy call_type1 (by rfl) G.ty (by decide +kernel) (pa_cons (pv 0) pa_nil)) (pe_bltn (v := .ty "int") (by rfl) G.it (by decide +kernel) rfl) (nomark _)) (pe_one (pe_chain op_le op_lt pe_int (pv 0) (pv 1)))))), ?_⟩
    refine ⟨_, rfl, _, _, rfl, ty_of hd, _, _, rfl, rfl, ?_⟩
    refine ⟨_, rfl, ite2 (fun a1 => ?_) (fun a1 => ?_)⟩
    · obtain ⟨i, rfl⟩ := ty_int (of_decide_eq_true a1)
      cases hd with
      | int i =>
        refine ⟨_, rfl, _, _, rfl, rfl, _, rfl, ite2 (fun a2 => ?_) (fun a2 => ?_)⟩
        · refine ⟨_, rfl, _, _, rfl, rfl, ?_⟩
          have e2 : isI (.int i) 0 n = decide (i < n) := by
            show (decide (0 ≤ i) && decide (i < n)) = _
            rw [a2]
            rfl
          rw [e2] at q
          exact q
        · have e2 : isI (.int i) 0 n = false := by
            show (decide (0 ≤ i) && decide (i < n)) = _
            rw [Bool.eq_false_iff.mpr a2]
            rfl
          rw [e2] at q
          exact q
    · have e : isI d 0 n = false := by
        cases d with
        | int xs => exact absurd rfl a1
        | _ => rfl
      rw [e] at q
      exact q
end
end C1

/-! Nets: the mathematics; the program's running. -/
namespace C1
open PySem PySem.Spec PyProof.Rows L2 SX
abbrev sLiteralValue : Stmt := topS 8
abbrev sNodeValues : Stmt := topS 7
abbrev sCycleOf : Stmt := topS 6
abbrev sRunNet : Stmt := topS 5
theorem scLiteralValue : FnScope ["worths", "literal"] ["worths", "literal"] (defScope sLiteralValue) := ⟨rfl, rfl, rfl, by decide +kernel, rfl, by decide +kernel, by decide +kernel⟩
theorem scNodeValues : FnScope ["net", "state", "worths", "one", "other"] ["net", "state"] (defScope sNodeValues) := ⟨rfl, rfl, rfl, by decide +kernel, rfl, by decide +kernel, by decide +kernel⟩
theorem scCycleOf : FnScope ["net", "state", "worths", "told", "literal"] ["net", "state"] (defScope sCycleOf) := ⟨rfl, rfl, rfl, by decide +kernel, rfl, by decide +kernel, by decide +kernel⟩
abbrev NCY : List Str := ["net", "state", "worths", "told", "literal"]
theorem scRunNet : FnScope ["net", "cycles", "state", "found", "_", "told"] ["net", "cycles"] (defScope sRunNet) := ⟨rfl, rfl, rfl, by decide +kernel, rfl, by decide +kernel, by decide +kernel⟩
def strsL : List Str := ["0", "1", "and", "net", "nets"]
def gd : Nat → PyData → Bool
  | _, .none => true
  | _, .bool _ => true
  | _, .int _ => true
  | _, .str s => decide (s ∈ strsL)
  | n + 1, .tuple ds => decide (ds.length ≤ 1000) && ds.all (gd n)
  | _, _ => false
theorem gd_ok : ∀ (n : Nat) (d : PyData), gd n d = true → noL d = true ∧ PyData.canLay0 d = true ∧ PyData.depth d ≤ n
  | _, .none, _ => ⟨rfl, rfl, Nat.zero_le _⟩
  | _, .bool _, _ => ⟨rfl, rfl, Nat.zero_le _⟩
  | _, .int _, _ => ⟨rfl, rfl, Nat.zero_le _⟩
  | n, .str s, h => by
    have h1 : s ∈ strsL := by
      cases n <;> exact of_decide_eq_true h
    have h2 : ∀ s ∈ strsL, PyData.canLay0 (.str s) = true := by decide +kernel
    exact ⟨rfl, h2 s h1, Nat.zero_le _⟩
  | 0, .tuple _, h => by cases h
  | n + 1, .tuple ds, h => by
    have h2 := (Bool.and_eq_true_iff.mp h).2
    have h3 : ∀ ds : List PyData, ds.all (gd n) = true → noLs ds = true ∧ PyData.canLayAll0 ds = true ∧ PyData.depthAll ds ≤ n := by
      intro ds
      induction ds with
      | nil => exact fun _ => ⟨rfl, rfl, Nat.zero_le _⟩
      | cons d ds ih =>
        intro h
        rw [List.all_cons, Bool.and_eq_true] at h
        obtain ⟨a1, a2, a3⟩ := gd_ok n d h.1
        obtain ⟨b1, b2, b3⟩ := ih h.2
        refine ⟨?_, ?_, ?_⟩
        · show (noL d && noLs ds) = true
          rw [a1, b1]
          rfl
        · show (PyData.canLay0 d && PyData.canLayAll0 ds) = true
          rw [a2, b2]
          rfl
        · show max (PyData.depth d) (PyData.depthAll ds) ≤ n
          exact Nat.max_le.mpr ⟨a3, b3⟩
    obtain ⟨a, b, c⟩ := h3 ds h2
    exact ⟨a, b, Nat.succ_le_succ c⟩
  | 0, .list _, h => by cases h
  | 0, .dict _, h => by cases h
  | _ + 1, .list _, h => by cases h
  | _ + 1, .dict _, h => by cases h
theorem gd_shaped {n : Nat} {d : PyData} (h : gd n d = true) (hn : n ≤ 60) : SeqAt.shaped d = true := by
  obtain ⟨_, b, c⟩ := gd_ok n d h
  unfold SeqAt.shaped
  rw [Bool.and_eq_true]
  exact ⟨b, decide_eq_true (by omega)⟩
theorem gd_mem {n : Nat} {ds : List PyData} (h : gd (n + 1) (.tuple ds) = true) {d : PyData} (hd : d ∈ ds) : gd n d = true := List.all_eq_true.mp (Bool.and_eq_true_iff.mp h).2 d hd
theorem gd_len {n : Nat} {ds : List PyData} (h : gd (n + 1) (.tuple ds) = true) : ds.length ≤ 1000 := of_decide_eq_true (Bool.and_eq_true_iff.mp h).1
theorem gd_tup {n : Nat} {ds : List PyData} (hl : ds.length ≤ 1000) (h : ∀ d ∈ ds, gd n d = true) : gd (n + 1) (.tuple ds) = true := Bool.and_eq_true_iff.mpr ⟨decide_eq_true hl, List.all_eq_true.mpr h⟩
theorem gd_int {n : Nat} (k : Int) : gd n (.int k) = true := by cases n <;> rfl

def pr (p : Nat × Nat) : PyData := .tuple [iD p.1, iD p.2]
structure Net where
  firsts : List Nat
  ands : List (Nat × Nat)
  nexts : List Nat
  outs : List Nat
def Net.d (n : Net) : PyData := .tuple [.tuple (n.firsts.map iD), .tuple (n.ands.map pr), .tuple (n.nexts.map iD), .tuple (n.outs.map iD)]
def Bits (l : List Nat) : Prop := ∀ x ∈ l, x < 2
structure NetOk (n : Net) : Prop where
  fb : Bits n.firsts
  fl : n.firsts.length ≤ 100
  al : n.ands.length ≤ 200
  nl : n.nexts.length = n.firsts.length
  ol : n.outs.length ≤ 100
  ao : ∀ (k : Nat) (p : Nat × Nat), n.ands[k]? = some p → p.1 < 2 * (1 + n.firsts.length + k) ∧ p.2 < 2 * (1 + n.firsts.length + k)
  no : ∀ x ∈ n.nexts, x < 2 * (1 + n.firsts.length + n.ands.length)
  oo : ∀ x ∈ n.outs, x < 2 * (1 + n.firsts.length + n.ands.length)
def litV (vs : List Nat) (x : Nat) : Nat := (vs.getD (x / 2) 0 + x % 2) % 2
def nodesV (st : List Nat) (as : List (Nat × Nat)) : List Nat := as.foldl (fun vs p => vs ++ [litV vs p.1 * litV vs p.2]) (0 :: st)
def litsV (vs xs : List Nat) : List Nat := xs.map (litV vs)
def nextS (n : Net) (st : List Nat) : List Nat := litsV (nodesV st n.ands) n.nexts
def toldS (n : Net) (st : List Nat) : List Nat := litsV (nodesV st n.ands) n.outs
def behS (n : Net) : Nat → List Nat → List Nat
  | 0, st => st
  | k + 1, st => behS n k (nextS n st)
def runS (n : Net) : Nat → List Nat → List (List Nat)
  | 0, _ => []
  | k + 1, st => toldS n st :: runS n k (nextS n st)
theorem behS_succ (n : Net) : ∀ (k : Nat) (st : List Nat), behS n (k + 1) st = nextS n (behS n k st)
  | 0, _ => rfl
  | k + 1, st => behS_succ n k (nextS n st)
theorem runS_succ (n : Net) : ∀ (k : Nat) (st : List Nat), runS n (k + 1) st = runS n k st ++ [toldS n (behS n k st)]
  | 0, _ => rfl
  | k + 1, st => by
    show _ :: runS n (k + 1) _ = _
    rw [runS_succ n k]
    rfl
theorem runS_len (n : Net) : ∀ (k : Nat) (st : List Nat), (runS n k st).length = k
  | 0, _ => rfl
  | k + 1, st => by
    show (runS n k _).length + 1 = _
    rw [runS_len n k]
theorem litV_lt (vs : List Nat) (x : Nat) : litV vs x < 2 := Nat.mod_lt _ (by decide)
theorem litsV_len (vs xs : List Nat) : (litsV vs xs).length = xs.length := List.length_map _
theorem litsV_bits (vs xs : List Nat) : Bits (litsV vs xs) := fun x h => by
  obtain ⟨y, _, e⟩ := List.mem_map.mp h
  rw [← e]
  exact litV_lt _ _
theorem nodesV_snoc (st : List Nat) (as : List (Nat × Nat)) (p : Nat × Nat) : nodesV st (as ++ [p]) = nodesV st as ++ [litV (nodesV st as) p.1 * litV (nodesV st as) p.2] := by
  unfold nodesV
  rw [List.foldl_append]
  rfl
theorem nodesV_len (st : List Nat) : ∀ (k : Nat) (as : List (Nat × Nat)), as.length = k → (nodesV st as).length = 1 + st.length + k
  | 0, as, h => by
    rw [List.length_eq_zero_iff.mp h]
    show st.length + 1 = _
    omega
  | k + 1, as, h => by
    have hne : as ≠ [] := fun z => by rw [z] at h; cases h
    rw [← List.dropLast_concat_getLast hne, nodesV_snoc, List.length_append, nodesV_len st k _ (by rw [List.length_dropLast]; omega)]
    rfl
theorem nodesV_bits {st : List Nat} (hb : Bits st) : ∀ (k : Nat) (as : List (Nat × Nat)), as.length = k → Bits (nodesV st as)
  | 0, as, h => by
    rw [List.length_eq_zero_iff.mp h]
    intro x hx
    rcases List.mem_cons.mp hx with e | e
    · rw [e]
      decide
    · exact hb x e
  | k + 1, as, h => by
    have hne : as ≠ [] := fun z => by rw [z] at h; cases h
    rw [← List.dropLast_concat_getLast hne, nodesV_snoc]
    intro x hx
    rcases List.mem_append.mp hx with e | e
    · exact nodesV_bits hb k _ (by rw [List.length_dropLast]; omega) x e
    · rw [List.mem_singleton.mp e]
      have h1 := litV_lt (nodesV st as.dropLast) (as.getLast hne).1
      have h2 := litV_lt (nodesV st as.dropLast) (as.getLast hne).2
      rcases (show litV (nodesV st as.dropLast) (as.getLast hne).1 = 0 ∨ litV (nodesV st as.dropLast) (as.getLast hne).1 = 1 by omega) with e | e <;> rw [e] <;> omega
theorem behS_ok {n : Net} (h : NetOk n) : ∀ (k : Nat) {st : List Nat}, st.length = n.firsts.length → Bits st → (behS n k st).length = n.firsts.length ∧ Bits (behS n k st)
  | 0, _, h1, h2 => ⟨h1, h2⟩
  | k + 1, st, h1, h2 => behS_ok h k (by unfold nextS; rw [litsV_len]; exact h.nl) (litsV_bits _ _)
def memD (m : List Nat) : PyData := .tuple (m.map iD)
def toldD (rows : List (List Nat)) : PyData := .tuple (rows.map memD)
theorem noLs_int : ∀ m : List Nat, noLs (m.map iD) = true
  | [] => rfl
  | _ :: r => noLs_int r
theorem noLs_mem2 : ∀ ms : List (List Nat), noLs (ms.map memD) = true
  | [] => rfl
  | m :: ms => by
    show (noL (memD m) && noLs (ms.map memD)) = true
    rw [noLs_mem2 ms, Bool.and_true]
    exact noLs_int m
theorem noLs_pr : ∀ ps : List (Nat × Nat), noLs (ps.map pr) = true
  | [] => rfl
  | p :: ps => noLs_pr ps
section
variable {X : Cx}
abbrev rShrN2 : R2 := fun x y H Q => ∃ n : Nat, x = iV n ∧ y = .int 1 ∧ Q (iV (n / 2)) H
abbrev rAndNN : R2 := fun x y H Q => ∃ n m : Nat, x = iV n ∧ y = iV m ∧ Q (iV (n &&& m)) H
abbrev rXorNN : R2 := fun x y H Q => ∃ n m : Nat, x = iV n ∧ y = iV m ∧ Q (iV (n ^^^ m)) H
theorem op_shrN2 : OpR X (binaryOp .RShift) rShrN2 := by
  intro pins s σ H x y v u Q I rx ry h
  obtain ⟨n, rfl, rfl, q⟩ := h
  refine op_shr pins s σ H _ _ v u Q I rx ry ⟨_, _, rfl, rfl, (show (0 : Int) ≤ 1 by decide), ?_⟩
  show Q (.int (((n : Nat) : Int) / 2)) H
  rw [show ((n : Nat) : Int) / 2 = ((n / 2 : Nat) : Int) by omega]
  exact q
theorem op_andNN : OpR X (binaryOp .BitAnd) rAndNN := by
  intro pins s σ H x y v u Q I rx ry h
  obtain ⟨n, m, rfl, rfl, q⟩ := h
  refine op_and pins s σ H _ _ v u Q I rx ry ⟨_, _, rfl, rfl, ?_⟩
  show Q (.int (Builtin.bitAnd ((n : Nat) : Int) ((m : Nat) : Int))) H
  rw [bitAnd_pp (by omega) (by omega)]
  exact q
theorem op_xorNN : OpR X (binaryOp .BitXor) rXorNN := by
  intro pins s σ H x y v u Q I rx ry h
  obtain ⟨n, m, rfl, rfl, q⟩ := h
  refine op_xor pins s σ H _ _ v u Q I rx ry ⟨_, _, rfl, rfl, ?_⟩
  show Q (.int (Builtin.bitXor ((n : Nat) : Int) ((m : Nat) : Int))) H
  rw [Bits.bitXor_pp (by omega) (by omega)]
  exact q
end
theorem and_one (x : Nat) : x &&& 1 = x % 2 := Nat.and_one_is_mod x
theorem xor_bit {v b : Nat} (hv : v < 2) (hb : b < 2) : v ^^^ b = (v + b) % 2 := by
  rcases (show v = 0 ∨ v = 1 by omega) with e | e <;> rcases (show b = 0 ∨ b = 1 by omega) with f | f <;> subst e <;> subst f <;> decide
theorem and_bit {v b : Nat} (hv : v < 2) (hb : b < 2) : v &&& b = v * b := by
  rcases (show v = 0 ∨ v = 1 by omega) with e | e <;> rcases (show b = 0 ∨ b = 1 by omega) with f | f <;> subst e <;> subst f <;> decide
theorem xor_lit {vs : List Nat} {x v : Nat} (hb : Bits vs) (e : vs[x / 2]? = some v) : v ^^^ (x &&& 1) = litV vs x := by
  rw [and_one, xor_bit (hb v (List.mem_of_getElem? e)) (Nat.mod_lt _ (by decide))]
  unfold litV
  rw [getD_some e]
section
variable {P : Program} {w : World} {K : PySem.W.Frag} {mg : Str → Option Value} {base : Heap} {H H' : Hp}
/-- the net's parts -/
structure NP (K : PySem.W.Frag) (H : Hp) (nA : Addr) (n : Net) : Prop where
  ex : ∃ (f a x o : Addr) (avs : List V), SqT K H nA [.ref f, .ref a, .ref x, .ref o] ∧ SqT K H f (n.firsts.map iV) ∧ (SqT K H a avs ∧ DpAll K H avs (n.ands.map pr)) ∧ SqT K H x (n.nexts.map iV) ∧ SqT K H o (n.outs.map iV)
theorem NP.stay {nA : Addr} {n : Net} (N : NP K H nA n) (st : ∀ a xs, SqT K H a xs → SqT K H' a xs) : NP K H' nA n := by
  obtain ⟨f, a, x, o, avs, h0, h1, h2, h3, h4⟩ := N.ex
  exact ⟨f, a, x, o, avs, st _ _ h0, st _ _ h1, ⟨st _ _ h2.1, dps_stay st _ _ h2.2 (noLs_pr _)⟩, st _ _ h3, st _ _ h4⟩
theorem NP.same {nA : Addr} {n : Net} (N : NP K H nA n) (s : Same H H') : NP K H' nA n := N.stay (same_tup s)
theorem dps_ints_eq {vs : List V} {ks : List Nat} (h : DpAll K H vs (ks.map iD)) : vs = ks.map iV := dps_flat h (by rw [List.map_map, List.map_map]; rfl)
theorem NP.of {nA : Addr} {n : Net} (h : Dp K H (.ref nA) n.d) : NP K H nA n := by
  obtain ⟨b, xs, e, s, q⟩ := dp_tup h
  cases e
  cases q with
  | cons a1 q => cases q with
  | cons a2 q => cases q with
  | cons a3 q => cases q with
  | cons a4 q =>
  cases q
  obtain ⟨b1, x1, rfl, s1, d1⟩ := dp_tup a1
  obtain ⟨b2, x2, rfl, s2, d2⟩ := dp_tup a2
  obtain ⟨b3, x3, rfl, s3, d3⟩ := dp_tup a3
  obtain ⟨b4, x4, rfl, s4, d4⟩ := dp_tup a4
  rw [dps_ints_eq d1] at s1
  rw [dps_ints_eq d3] at s3
  rw [dps_ints_eq d4] at s4
  exact ⟨b1, b2, b3, b4, x2, s, s1, ⟨s2, d2⟩, s3, s4⟩
theorem NP.dp {nA : Addr} {n : Net} (N : NP K H nA n) : Dp K H (.ref nA) n.d := by
  obtain ⟨f, a, x, o, avs, h0, h1, h2, h3, h4⟩ := N.ex
  exact .tup h0 (.cons (.tup h1 (dps_ints _)) (.cons (.tup h2.1 h2.2) (.cons (.tup h3 (dps_ints _)) (.cons (.tup h4 (dps_ints _)) .nil))))
theorem pr_at {vs : List V} {ps : List (Nat × Nat)} {i : Nat} {p : Nat × Nat} (h : DpAll K H vs (ps.map pr)) (e : ps[i]? = some p) : ∃ b, vs[i]? = some (.ref b) ∧ SqT K H b [iV p.1, iV p.2] := by
  obtain ⟨x, hx, hd⟩ := dps_put h (show (ps.map pr)[i]? = some (pr p) by rw [List.getElem?_map, e]; rfl)
  obtain ⟨b, xs, rfl, s, q⟩ := dp_tup hd
  rw [dps_flat q (us := [iV p.1, iV p.2]) rfl] at s
  exact ⟨b, hx, s⟩
def spLit (K : PySem.W.Frag) : Sp := fun vs H Q _ => ∃ (l : Addr) (vals : List Nat) (x : Nat), vs = [.ref l, iV x] ∧ SqL K H l (vals.map iV) ∧ Bits vals ∧ x / 2 < vals.length ∧ Q (iV (litV vals x)) H
theorem ok_literal {f : Addr} {fd : FuncData} (F : Fun K "literal_value" "literal_value" sLiteralValue f fd) : FnOk P w K mg base CX0 1 f fd ["worths", "literal"] (spLit K) := by
  refine F.ok scLiteralValue (fun vs H Q E h => ?_) (fun cdv A outer s H vs Q E hr h => ?_)
  · obtain ⟨l, vals, x, rfl, _⟩ := h
    rfl
  · obtain ⟨l, vals, x, rfl, hl, hb, hx, q⟩ := h
    obtain ⟨v, ev⟩ : ∃ v, vals[x / 2]? = some v := ⟨_, List.getElem?_eq_getElem hx⟩
    refine ⟨_, (pss_one (ps_ret (pe_op op_xorNN (pe_ix ix_list (pv 0) (pe_op op_shrN2 (pv 1) (pe_int)) (fun _ _ => rfl)) (pe_op op_andNN (pv 1) (pe_int))))), ?_⟩
    refine ⟨_, rfl, _, rfl, x, rfl, rfl, l, _, _, _, rfl, rfl, hl, atI_nat (int_at ev), _, rfl, x, 1, rfl, rfl, v, x &&& 1, rfl, rfl, ?_⟩
    rw [xor_lit hb ev]
    exact q
def spNodes (K : PySem.W.Frag) : Sp := fun vs H Q _ => ∃ (nA sA : Addr) (n : Net) (st : List Nat), vs = [.ref nA, .ref sA] ∧ NP K H nA n ∧ NetOk n ∧ SqT K H sA (st.map iV) ∧ st.length = n.firsts.length ∧ Bits st ∧ ∀ H' p, Same H H' → H p = none → H' p = some (.lst ((nodesV st n.ands).map iV)) → Q (.ref p) H'
theorem ok_nodes {f : Addr} {fd : FuncData} (F : Fun K "node_values" "node_values" sNodeValues f fd) : FnOk P w K mg base CX0 1 f fd ["net", "state"] (spNodes K) := by
  refine F.ok scNodeValues (fun vs H Q E h => ?_) (fun cdv A outer s H vs Q E hr h => ?_)
  · obtain ⟨nA, sA, n, st, rfl, _⟩ := h
    rfl
  · obtain ⟨nA, sA, n, st, rfl, N, O, hs, hl, hb, q⟩ := h
    have nd := scNodeValues.nd
    have fl := O.fl
    have al := O.al
    refine ⟨_, (pss_cons (ps_set (i := 2) nd rfl (.inl rfl) (pe_lst (pa_cons pe_int (StX.pa_star (pv 1) pa_nil))))
      (C8.pss_cut (ps_for PassesOwn.never rfl (pi_tup (pe_ix ix_tup (pv 0) (pe_int) (fun _ _ => rfl))) (pg_tup (by rfl) (pgs_cons (pg_name (i := 3) nd rfl (.inl rfl)) (pgs_cons (pg_name (i := 4) nd rfl (.inl rfl)) pgs_nil))) (pss_one (ps_expr (pe_bm PySem.F.plainAttrs_list PySem.F.slot_list_append PySem.F.type_list_append mt_append (pv 2) (pa_cons (pe_op op_andNN (pe_op op_xorNN (pe_ix ix_list (pv 2) (pe_op op_shrN2 (pv 3) (pe_int)) (fun _ _ => rfl)) (pe_op op_andNN (pv 3) (pe_int))) (pe_op op_xorNN (pe_ix ix_list (pv 2) (pe_op op_shrN2 (pv 4) (pe_int)) (fun _ _ => rfl)) (pe_op op_andNN (pv 4) (pe_int)))) pa_nil)))))
      (pss_one (ps_ret (pv 2))))), ?_⟩
    refine ⟨_, rfl, sA, _, rfl, .inl hs, ?_⟩
    refine ⟨line200 (by show (st.map iV ++ []).length + 1 ≤ 1000; rw [List.append_nil, List.length_map]; omega), fun L nL => ?_⟩
    have e0 : V.int 0 :: (st.map iV ++ []) = (nodesV st (n.ands.take 0)).map iV := by
      rw [List.append_nil]
      rfl
    obtain ⟨fA, aA, xA, oA, avs, h0, h1, h2, h3, h4⟩ := N.ex
    have lav := dps_len h2.2
    rw [List.length_map] at lav
    refine ⟨fun σ H' => ∃ y3 y4, σ = [some (.ref nA), some (.ref sA), some (.ref L), y3, y4] ∧ Same H H' ∧ H' L = some (.lst ((nodesV st n.ands).map iV)), ?_, ?_⟩
    · refine ⟨_, rfl, _, _, _, _, rfl, rfl, same_tup (same_new nL) _ _ h0, atI_nat (j := 1) rfl, aA, rfl, ⟨_, same_tup (same_new nL) _ _ h2.1⟩, ?_⟩
      refine for_tup (xs := avs) (fun i σ H' => ∃ y3 y4, σ = [some (.ref nA), some (.ref sA), some (.ref L), y3, y4] ∧ Same H H' ∧ H' L = some (.lst ((nodesV st (n.ands.take i)).map iV))) ⟨_, _, rfl, same_new nL, by rw [← e0]; exact upd_same⟩ (fun i σ H1 _ hh => ?_) (fun i x σ H1 hx hh => ?_) (fun σ H1 hh => ?_)
      · obtain ⟨_, _, rfl, s1, _⟩ := hh
        exact same_tup s1 _ _ h2.1
      · obtain ⟨_, _, rfl, s1, e⟩ := hh
        obtain ⟨p, ep⟩ : ∃ p, n.ands[i]? = some p := at_len lav.symm hx
        obtain ⟨b, eb, sb⟩ := pr_at h2.2 ep
        rw [hx] at eb
        cases eb
        have hi : i < n.ands.length := (List.getElem?_eq_some_iff.mp ep).1
        obtain ⟨vals, evs⟩ : ∃ vals, vals = nodesV st (n.ands.take i) := ⟨_, rfl⟩
        have lv : vals.length = 1 + n.firsts.length + i := by rw [evs, nodesV_len st i _ (by rw [List.length_take]; omega), hl]
        have bv : Bits vals := by rw [evs]; exact nodesV_bits hb i _ (by rw [List.length_take]; omega)
        rw [← evs] at e
        obtain ⟨o1, o2⟩ := O.ao i p ep
        obtain ⟨v1, e1⟩ : ∃ v, vals[p.1 / 2]? = some v := ⟨_, List.getElem?_eq_getElem (by omega)⟩
        obtain ⟨v2, e2⟩ : ∃ v, vals[p.2 / 2]? = some v := ⟨_, List.getElem?_eq_getElem (by omega)⟩
        refine ⟨b, _, rfl, same_tup s1 _ _ sb, rfl, _, _, rfl, _, _, rfl, rfl, ?_⟩
        refine ⟨_, rfl, .inl ⟨rfl, _, SqL.of e⟩, ?_⟩
        refine ⟨_, rfl, _, rfl, p.1, rfl, rfl, L, _, _, _, rfl, rfl, SqL.of e, atI_nat (int_at e1), _, rfl, p.1, 1, rfl, rfl, v1, p.1 &&& 1, rfl, rfl, _, rfl, _, rfl, p.2, rfl, rfl, L, _, _, _, rfl, rfl, SqL.of e, atI_nat (int_at e2), _, rfl, p.2, 1, rfl, rfl, v2, p.2 &&& 1, rfl, rfl, v1 ^^^ (p.1 &&& 1), v2 ^^^ (p.2 &&& 1), rfl, rfl, ?_⟩
        rw [xor_lit bv e1, xor_lit bv e2, and_bit (litV_lt _ _) (litV_lt _ _)]
        refine ⟨L, _, _, rfl, rfl, e, by rw [List.length_map]; exact lineS200 (by omega), _, _, rfl, same_put s1 nL, ?_⟩
        rw [upd_same, take_snoc ep, nodesV_snoc, ← evs, List.map_append]
        rfl
      · obtain ⟨_, _, rfl, s1, e⟩ := hh
        refine ⟨_, _, rfl, s1, ?_⟩
        rw [e, lav, List.take_length]
    · rintro σ H1 ⟨_, _, rfl, s1, e⟩
      exact ⟨_, rfl, q H1 L s1 nL e⟩
/-- [value of L's literal x for x in xs], the value by a def that keeps its promise -/
theorem lits_turn {l D : Addr} {is vals : List Nat} {i i0 : Nat} {σ : L2.St} {H1 : Hp} {Nx : Hp → Prop} {sa j : Nat} (hv : SqL K H l (vals.map iV)) (hb : Bits vals) (nD : H D = none) (e1 : H1 = upd H D (.lst ((litsV vals (is.take i)).map iV))) (ei : is[i]? = some i0) (hi : i0 / 2 < vals.length) (hlen : is.length ≤ 1000)
    (h1 : σ[sa]? = some (some (.ref l))) (h2 : σ[j]? = some (some (iV i0))) (hN : Nx (upd H D (.lst ((litsV vals (is.take (i + 1))).map iV)))) :
    tCall (spLit K) [] E0 (tCons (tVar sa) (tCons (tVar j) tNil)) σ H1 fun y H4 => ∃ acc, H4 D = some (.lst acc) ∧ acc.length < sizeLine ∧ Nx (upd H4 D (.lst (acc ++ [y]))) := by
  subst e1
  refine ⟨_, h1, _, h2, l, vals, i0, rfl, (same_new nD).seq hv, hb, hi, _, upd_same, ?_, ?_⟩
  · rw [List.length_map, litsV_len]
    exact lineS200 (by rw [List.length_take]; omega)
  · rw [upd_upd]
    have e : (litsV vals (is.take i)).map iV ++ [iV (litV vals i0)] = (litsV vals (is.take (i + 1))).map iV := by
      rw [take_snoc ei]
      unfold litsV
      rw [List.map_append, List.map_append]
      rfl
    rw [e]
    exact hN
theorem lc_lits {a l D : Addr} {is vals : List Nat} {σ : L2.St} {Qd : Hp → Prop} {sa j : Nat} {wv : List Nat} (nD : H D = none) (hl : SqT K H a (is.map iV)) (hv : SqL K H l (vals.map iV)) (hb : Bits vals) (hi : ∀ i ∈ is, i / 2 < vals.length) (hlen : is.length ≤ 1000)
    (hσ : ∀ x, ((wipe σ wv).set j (some x))[sa]? = some (some (.ref l)) ∧ ((wipe σ wv).set j (some x))[j]? = some (some x) ∧ wipe ((wipe σ wv).set j (some x)) wv = wipe σ wv) (q : Qd (upd H D (.lst ((litsV vals is).map iV)))) :
    ∃ W : Nat → Nat → Hp → Prop, (∃ m, W 0 m (upd H D (.lst []))) ∧ ∀ i m H, W i m H →
      ((Itt K a).stop i H ∧ Qd H) ∨ ((Itt K a).go i H ∧ ∃ Nx : Hp → Prop, (∀ H', Nx H' → ∃ m', m' < m ∧ W (i + 1) m' H') ∧ ∀ x H', (Itt K a).yld i H x H' → gName j x (wipe σ wv) H' fun σ2 H2 => wipe σ2 wv = wipe σ wv ∧ tYes σ2 H2 fun b H3 =>
        if b = true then tCall (spLit K) [] E0 (tCons (tVar sa) (tCons (tVar j) tNil)) σ2 H3 fun y H4 => ∃ acc, H4 D = some (.lst acc) ∧ acc.length < sizeLine ∧ Nx (upd H4 D (.lst (acc ++ [y]))) else Nx H3) := by
  refine lc_tup (xs := is.map iV) (fun i H1 => H1 = upd H D (.lst ((litsV vals (is.take i)).map iV))) rfl (fun i H1 _ h => ?_) (fun i x H1 hx h => ?_) (fun H1 h => ?_)
  · subst h
    exact same_tup (same_new nD) _ _ hl
  · obtain ⟨i0, ei⟩ : ∃ i0, is[i]? = some i0 := by
      rw [List.getElem?_map] at hx
      cases e : is[i]? with
      | none => rw [e] at hx; cases hx
      | some i0 => exact ⟨i0, rfl⟩
    rw [List.getElem?_map, ei] at hx
    cases hx
    obtain ⟨a1, a2, a3⟩ := hσ (iV i0)
    refine ⟨a3, ?_⟩
    exact lits_turn (Nx := fun H2 => H2 = upd H D (.lst ((litsV vals (is.take (i + 1))).map iV))) hv hb nD h ei (hi _ (List.mem_of_getElem? ei)) hlen a1 a2 rfl
  · subst h
    rw [List.length_map, List.take_length]
    exact q
def spCycle (K : PySem.W.Frag) : Sp := fun vs H Q _ => ∃ (nA sA : Addr) (n : Net) (st : List Nat), vs = [.ref nA, .ref sA] ∧ NP K H nA n ∧ NetOk n ∧ SqT K H sA (st.map iV) ∧ st.length = n.firsts.length ∧ Bits st ∧
  ∀ H' p t1 t2, Same H H' → SqT K H' p [.ref t1, .ref t2] → SqT K H' t1 ((toldS n st).map iV) → SqT K H' t2 ((nextS n st).map iV) → Q (.ref p) H'
theorem ok_cycle {f fV fL : Addr} {fd fdV fdL : FuncData} (F : Fun K "cycle_of" "cycle_of" sCycleOf f fd) (GV : FnOk P w K mg base CX0 1 fV fdV ["net", "state"] (spNodes K)) (kV : PySem.W.keepIn K (.ref fV) = true) (bV : Binds K fdV ["net", "state"] []) (gV : mg "node_values" = some (.ref fV))
    (GL : FnOk P w K mg base CX0 1 fL fdL ["worths", "literal"] (spLit K)) (kL : PySem.W.keepIn K (.ref fL) = true) (bL : Binds K fdL ["worths", "literal"] []) (gL : mg "literal_value" = some (.ref fL)) (B : Gp mg) : FnOk P w K mg base CX0 2 f fd ["net", "state"] (spCycle K) := by
  refine F.ok scCycleOf (fun vs H Q E h => ?_) (fun cdv A outer s H vs Q E hr h => ?_)
  · obtain ⟨nA, sA, n, st, rfl, _⟩ := h
    rfl
  · obtain ⟨nA, sA, n, st, rfl, N, O, hs, hl, hb, q⟩ := h
    have nd := scCycleOf.nd
    have hr1 := hr
    have hr2 := hr
    have fl := O.fl
    have al := O.al
    have ol := O.ol
    have nl := O.nl
    refine ⟨_, (pss_cons (ps_set (i := 2) nd rfl (.inr rfl) (pe_call GV hr2 (by rfl) gV kV bV .nil pass0 (pa_cons (pv 0) (pa_cons (pv 1) pa_nil))))
      (pss_cons (ps_set (i := 3) nd rfl (.inl rfl) (pe_callTy call_tuple_of (by rfl) B.tu (by decide +kernel) (pa_cons (pe_lc (own := [("literal", 4)]) (g := gName 4) (tt := tYes) (te := tCall (spLit K) [] E0 (tCons (tVar 2) (tCons (tVar 4) tNil)))  rfl nd (pi_tup (pe_ix ix_tup (pv 0) (pe_int) (fun _ _ => rfl))) (blkOk_by (own := [("literal", 4)]) (N := NCY) (sc := defScope sCycleOf) (by decide +kernel)) (fun _ _ _ _ _ => pg_name (i := 4) nd rfl (.inl rfl)) (fun _ _ _ _ _ => pts_nil) (fun _ _ _ _ _ => by exact (pe_call GL hr1 (by rfl) gL kL bL .nil pass0 (pa_cons (pv 2) (pa_cons (pv 4) pa_nil))))) pa_nil)))
      (pss_one (ps_ret (pe_tup (pa_cons (pv 3) (pa_cons (pe_callTy call_tuple_of (by rfl) B.tu (by decide +kernel) (pa_cons (pe_lc (own := [("literal", 4)]) (g := gName 4) (tt := tYes) (te := tCall (spLit K) [] E0 (tCons (tVar 2) (tCons (tVar 4) tNil)))  rfl nd (pi_tup (pe_ix ix_tup (pv 0) (pe_int) (fun _ _ => rfl))) (blkOk_by (own := [("literal", 4)]) (N := NCY) (sc := defScope sCycleOf) (by decide +kernel)) (fun _ _ _ _ _ => pg_name (i := 4) nd rfl (.inl rfl)) (fun _ _ _ _ _ => pts_nil) (fun _ _ _ _ _ => by exact (pe_call GL hr1 (by rfl) gL kL bL .nil pass0 (pa_cons (pv 2) (pa_cons (pv 4) pa_nil))))) pa_nil)) pa_nil))))))), ?_⟩
    refine ⟨_, rfl, _, rfl, nA, sA, n, st, rfl, N, O, hs, hl, hb, fun H1 L s1 nL eL => ?_⟩
    obtain ⟨fA, aA, xA, oA, avs, h0, h1, h2, h3, h4⟩ := (N.same s1).ex
    have lv : (nodesV st n.ands).length = 1 + n.firsts.length + n.ands.length := by rw [nodesV_len st _ _ rfl, hl]
    have bv := nodesV_bits hb _ n.ands rfl
    refine ⟨_, rfl, _, _, _, _, rfl, rfl, h0, atI_nat (j := 3) rfl, oA, rfl, ⟨_, h4⟩, fun D nD => ?_⟩
    refine lc_lits (is := n.outs) (vals := nodesV st n.ands) (l := L) nD h4 (SqL.of eL) bv (fun i hi => by have := O.oo i hi; omega) (by omega) (fun x => ⟨rfl, rfl, rfl⟩) ?_
    refine ⟨D, _, rfl, .inl ⟨SqL.of upd_same, fun t1 nt1 => ?_⟩⟩
    have sB : Same H1 (upd (upd H1 D (.lst ((litsV (nodesV st n.ands) n.outs).map iV))) t1 (.tup ((litsV (nodesV st n.ands) n.outs).map iV))) := (same_new nD).trans (same_new nt1)
    have et1 : (upd (upd H1 D (.lst ((litsV (nodesV st n.ands) n.outs).map iV))) t1 (.tup ((litsV (nodesV st n.ands) n.outs).map iV))) t1 = some (.tup ((toldS n st).map iV)) := upd_same
    generalize upd (upd H1 D (.lst ((litsV (nodesV st n.ands) n.outs).map iV))) t1 (.tup ((litsV (nodesV st n.ands) n.outs).map iV)) = H2 at sB et1
    refine ⟨_, rfl, _, rfl, _, _, _, _, rfl, rfl, same_tup sB _ _ h0, atI_nat (j := 2) rfl, xA, rfl, ⟨_, same_tup sB _ _ h3⟩, fun D2 nD2 => ?_⟩
    refine lc_lits (is := n.nexts) (vals := nodesV st n.ands) (l := L) nD2 (same_tup sB _ _ h3) (SqL.of (sB _ _ eL)) bv (fun i hi => by have := O.no i hi; omega) (by omega) (fun x => ⟨rfl, rfl, rfl⟩) ?_
    refine ⟨D2, _, rfl, .inl ⟨SqL.of upd_same, fun t2 nt2 => ⟨line200 (show 2 ≤ 1000 by decide), fun p np => ?_⟩⟩⟩
    have s3 : Same H2 (upd (upd (upd H2 D2 (.lst ((litsV (nodesV st n.ands) n.nexts).map iV))) t2 (.tup ((litsV (nodesV st n.ands) n.nexts).map iV))) p (.tup [.ref t1, .ref t2])) := ((same_new nD2).trans (same_new nt2)).trans (same_new np)
    exact q _ p t1 t2 ((s1.trans sB).trans s3) (SqT.of upd_same) (SqT.of (s3 _ _ et1)) (SqT.of ((same_new np) _ _ upd_same))
def spRunN (K : PySem.W.Frag) : Sp := fun vs H Q _ => ∃ (nA : Addr) (k : Nat) (n : Net), vs = [.ref nA, iV k] ∧ k ≤ 900 ∧ NP K H nA n ∧ NetOk n ∧ ∀ H' p, Same H H' → Dp K H' (.ref p) (toldD (runS n k n.firsts)) → Q (.ref p) H'
theorem ok_runN {nm : Str} {st : Stmt} {f fC : Addr} {fd fdC : FuncData} (F : Fun K "run_net" "run_net" sRunNet f fd) (GC : FnOk P w K mg base CX0 2 fC fdC ["net", "state"] (spCycle K)) (kC : PySem.W.keepIn K (.ref fC) = true) (bC : Binds K fdC ["net", "state"] []) (gC : mg "cycle_of" = some (.ref fC)) (B : Gp mg) :
    FnOk P w K mg base CX0 3 f fd ["net", "cycles"] (spRunN K) := by
  refine F.ok scRunNet (fun vs H Q E h => ?_) (fun cdv A outer s H vs Q E hr h => ?_)
  · obtain ⟨nA, k, n, rfl, _⟩ := h
    rfl
  · obtain ⟨nA, k, n, rfl, hk, N, O, q⟩ := h
    have nd := scRunNet.nd
    refine ⟨_, (pss_cons (ps_set (i := 2) nd rfl (.inl rfl) (pe_ix ix_tup (pv 0) (pe_int) (fun _ _ => rfl)))
      (pss_cons (ps_set (i := 3) nd rfl (.inl rfl) (pe_lst pa_nil))
      (C8.pss_cut (ps_for PassesOwn.never rfl (pi_range1 (by rfl) B.range (pa_cons (pv 1) pa_nil)) (pg_name (i := 4) nd rfl (.inl rfl)) (pss_cons (ps_asg (pe_call GC hr (by rfl) gC kC bC .nil pass0 (pa_cons (pv 0) (pa_cons (pv 2) pa_nil))) (pg_tup (by rfl) (pgs_cons (pg_name (i := 5) nd rfl (.inl rfl)) (pgs_cons (pg_name (i := 2) nd rfl (.inl rfl)) pgs_nil))))
      (pss_one (ps_expr (pe_bm PySem.F.plainAttrs_list PySem.F.slot_list_append PySem.F.type_list_append mt_append (pv 3) (pa_cons (pv 5) pa_nil))))))
      (pss_one (ps_ret (pe_callTy call_tuple_of (by rfl) B.tu (by decide +kernel) (pa_cons (pv 3) pa_nil))))))), ?_⟩
    obtain ⟨fA, aA, xA, oA, avs, h0, h1, h2, h3, h4⟩ := N.ex
    refine ⟨_, rfl, _, _, _, _, rfl, rfl, h0, atI_nat (j := 0) rfl, ?_⟩
    refine ⟨Nat.zero_le _, fun T nT => ?_⟩
    let It : Nat → L2.St → Hp → Prop := fun i σ H5 => ∃ (sA : Addr) (y4 y5 : Option V) (tl : List V), σ = [some (.ref nA), some (iV k), some (.ref sA), some (.ref T), y4, y5] ∧ Same H H5 ∧ SqT K H5 sA ((behS n i n.firsts).map iV) ∧ H5 T = some (.lst tl) ∧ DpAll K H5 tl ((runS n i n.firsts).map memD)
    refine ⟨fun σ H5 => It k σ H5, ?_, ?_⟩
    · refine ⟨_, rfl, _, rfl, by omega, by omega, for_range It ⟨fA, none, none, [], rfl, same_new nT, same_tup (same_new nT) _ _ h1, upd_same, .nil⟩ (fun i σ H5 hi hh => ?_) (fun σ H5 hh => hh)⟩
      obtain ⟨sA, y4, y5, tl, rfl, s5, hs, eT, dT⟩ := hh
      have lt := dps_len dT
      rw [List.length_map, runS_len] at lt
      obtain ⟨b1, b2⟩ := behS_ok O i rfl O.fb
      refine ⟨_, rfl, _, rfl, nA, sA, n, behS n i n.firsts, rfl, N.same s5, O, hs, b1, b2, fun H6 p t1 t2 s6 sp st1 st2 => ?_⟩
      refine ⟨p, _, rfl, sp, rfl, _, _, rfl, _, _, rfl, rfl, ?_⟩
      refine ⟨_, rfl, .inl ⟨rfl, _, SqL.of (s6 _ _ eT)⟩, _, rfl, T, _, _, rfl, rfl, s6 _ _ eT, lineS200 (by omega), ?_⟩
      refine ⟨t2, _, _, _, rfl, same_put (s5.trans s6) nT, ?_, upd_same, ?_⟩
      · rw [behS_succ]
        exact tups_upd (s6 _ _ eT) _ _ st2
      · rw [runS_succ, List.map_append]
        exact push_dps (s6 _ _ eT) (dps_stay (same_tup s6) _ _ dT (noLs_mem2 _)) (noLs_mem2 _) (.tup st1 (dps_ints _)) (by exact noLs_int _)
    · rintro σ H5 ⟨sA, y4, y5, tl, rfl, s5, hs, eT, dT⟩
      refine ⟨_, rfl, T, _, rfl, .inl ⟨SqL.of eT, fun t0 nt0 => ?_⟩⟩
      exact q _ t0 (s5.trans (same_new nt0)) (.tup (SqT.of upd_same) (dps_stay (same_tup (same_new nt0)) _ _ dT (noLs_mem2 _)))
end
end C1

/-! What is a net. -/
namespace C1
open PySem PySem.Spec PyProof.Rows L2 SX
abbrev sIsNet : Stmt := topS 4
abbrev sLawIsNumber : Stmt := topS 21
abbrev sLawIsNet : Stmt := topS 22
abbrev sLawIsRow : Stmt := topS 19
abbrev sLawAreRows : Stmt := topS 20
theorem scIsNet : FnScope ["thing", "firsts", "ands", "nexts", "outs", "latches", "at", "part", "first", "side", "literal"] ["thing"] (defScope sIsNet) := ⟨rfl, rfl, rfl, by decide +kernel, rfl, by decide +kernel, by decide +kernel⟩
abbrev NIN : List Str := ["thing", "firsts", "ands", "nexts", "outs", "latches", "at", "part", "first", "side", "literal"]
theorem scLawIsNumber : FnScope ["thing", "most"] ["thing", "most"] (defScope sLawIsNumber) := ⟨rfl, rfl, rfl, by decide +kernel, rfl, by decide +kernel, by decide +kernel⟩
theorem scLawIsNet : FnScope ["thing", "firsts", "ands", "nexts", "outs", "at", "many", "part", "bit"] ["thing"] (defScope sLawIsNet) := ⟨rfl, rfl, rfl, by decide +kernel, rfl, by decide +kernel, by decide +kernel⟩
abbrev NLN : List Str := ["thing", "firsts", "ands", "nexts", "outs", "at", "many", "part", "bit"]
theorem scLawIsRow : FnScope ["thing", "many", "bit"] ["thing", "many"] (defScope sLawIsRow) := ⟨rfl, rfl, rfl, by decide +kernel, rfl, by decide +kernel, by decide +kernel⟩
abbrev NIR : List Str := ["thing", "many", "bit"]
theorem scLawAreRows : FnScope ["thing", "count", "many", "row"] ["thing", "count", "many"] (defScope sLawAreRows) := ⟨rfl, rfl, rfl, by decide +kernel, rfl, by decide +kernel, by decide +kernel⟩
abbrev NAR : List Str := ["thing", "count", "many", "row"]
def andB (n : Int) (d : PyData) : Bool := match d with
  | .tuple ds => decide (ds.length = 2) && ds.all fun x => isI x 0 n
  | _ => false
def andsB (L : Nat) : Nat → List PyData → Bool
  | _, [] => true
  | k, d :: ds => andB ((2 * (1 + L + k) : Nat) : Int) d && andsB L (k + 1) ds
def netB (d : PyData) : Bool := match d with
  | .tuple [.tuple fs, .tuple as, .tuple ns, .tuple os] => decide (ns.length = fs.length) && (fs.all fun x => isI x 0 2) && andsB fs.length 0 as && ((ns ++ os).all fun x => isI x 0 ((2 * (1 + fs.length + as.length) : Nat) : Int))
  | _ => false
theorem andsB_drop {L : Nat} : ∀ {ds : List PyData} {i k : Nat} {d : PyData}, ds[i]? = some d → andsB L k (ds.drop i) = (andB ((2 * (1 + L + k) : Nat) : Int) d && andsB L (k + 1) (ds.drop (i + 1)))
  | [], i, _, _, h => by simp at h
  | d0 :: ds, 0, k, d, h => by
    cases h
    rfl
  | d0 :: ds, i + 1, k, d, h => andsB_drop (ds := ds) (i := i) (k := k) h
theorem netB_four {ds : List PyData} (hl : ds.length = 4) (h : (ds.all fun d => decide (tyD d = "tuple")) = false) : netB (.tuple ds) = false := by
  match ds, hl with
  | [a, b, c, d], _ =>
    cases a <;> cases b <;> cases c <;> cases d <;> first | rfl | (exact absurd h (by decide)) | (simp [tyD] at h)
theorem filt_empty (b : PyData → Bool) : ∀ ds : List PyData, (ds.filter fun d => !(b d)).isEmpty = ds.all b
  | [] => rfl
  | d :: ds => by
    rw [List.filter_cons, List.all_cons]
    cases h : b d with
    | true =>
      rw [if_neg (by decide), Bool.true_and]
      exact filt_empty b ds
    | false => rfl
section
variable {P : Program} {w : World} {K : PySem.W.Frag} {mg : Str → Option Value} {base : Heap} {H H' : Hp}
/-- all([b of x for x in a tuple]) -/
theorem lc_all {a D : Addr} {xs : List V} {ds : List PyData} {b : PyData → Bool} {σ : L2.St} {Qd : Hp → Prop} {j : Nat} {wv : List Nat} {te : TE} (nD : H D = none) (sa : SqT K H a xs) (da : DpAll K H xs ds) (hn : noLs ds = true) (hl : ds.length ≤ 900)
    (ht : ∀ x d H1 (R : VK), Same H H1 → Dp K H1 x d → d ∈ ds → R (.bl (b d)) H1 → te ((wipe σ wv).set j (some x)) H1 R) (hσ : ∀ x, wipe ((wipe σ wv).set j (some x)) wv = wipe σ wv) (q : Qd (upd H D (.lst ((ds.map b).map V.bl)))) :
    ∃ W : Nat → Nat → Hp → Prop, (∃ m, W 0 m (upd H D (.lst []))) ∧ ∀ i m H, W i m H →
      ((Itt K a).stop i H ∧ Qd H) ∨ ((Itt K a).go i H ∧ ∃ Nx : Hp → Prop, (∀ H', Nx H' → ∃ m', m' < m ∧ W (i + 1) m' H') ∧ ∀ x H', (Itt K a).yld i H x H' → gName j x (wipe σ wv) H' fun σ2 H2 => wipe σ2 wv = wipe σ wv ∧ tYes σ2 H2 fun b H3 =>
        if b = true then te σ2 H3 fun y H4 => ∃ acc, H4 D = some (.lst acc) ∧ acc.length < sizeLine ∧ Nx (upd H4 D (.lst (acc ++ [y]))) else Nx H3) := by
  have lda := dps_len da
  have s6 : ∀ {o : HO}, Same H (upd H D o) := fun {o} => Same.up nD
  refine lc_tup (xs := xs) (fun i H1 => H1 = upd H D (.lst (((ds.take i).map b).map V.bl))) rfl (fun i H1 _ h => ?_) (fun i x H1 hx h => ?_) (fun H1 h => ?_)
  · subst h
    exact same_tup s6 _ _ sa
  · subst h
    obtain ⟨di, hdi, dx⟩ := dps_get (dps_stay (same_tup s6) _ _ da hn) hx
    refine ⟨hσ x, ?_⟩
    refine ht x di _ (fun y H4 => ∃ acc, H4 D = some (.lst acc) ∧ acc.length < sizeLine ∧ upd H4 D (.lst (acc ++ [y])) = upd H D (.lst (((ds.take (i + 1)).map b).map V.bl))) s6 dx (List.mem_of_getElem? hdi) ⟨_, upd_same, ?_, ?_⟩
    · rw [List.length_map, List.length_map]
      exact lineS200 (by rw [List.length_take]; omega)
    · rw [upd_upd, take_snoc hdi, List.map_append, List.map_append]
      rfl
  · subst h
    rw [lda, List.take_length]
    exact q
theorem all_id (b : PyData → Bool) (ds : List PyData) : (ds.map b).all id = ds.all b := by
  rw [List.all_map]
  rfl
/-- [x for x in a tuple if not b of x] -/
theorem lc_flt {a D : Addr} {xs : List V} {ds : List PyData} {b : PyData → Bool} {σ : L2.St} {Qd : Hp → Prop} {j : Nat} {wv : List Nat} {tt : TT} (nD : H D = none) (sa : SqT K H a xs) (da : DpAll K H xs ds) (hn : noLs ds = true) (hl : ds.length ≤ 900)
    (ht : ∀ x d H1 (R : Bool → Hp → Prop), Same H H1 → Dp K H1 x d → d ∈ ds → (∀ H2, Same H1 H2 → R (!(b d)) H2) → tt ((wipe σ wv).set j (some x)) H1 R)
    (hσ : ∀ x, ((wipe σ wv).set j (some x))[j]? = some (some x) ∧ wipe ((wipe σ wv).set j (some x)) wv = wipe σ wv) (q : ∀ H' zs, Same H H' → H' D = some (.lst zs) → DpAll K H' zs (ds.filter fun d => !(b d)) → Qd H') :
    ∃ W : Nat → Nat → Hp → Prop, (∃ m, W 0 m (upd H D (.lst []))) ∧ ∀ i m H, W i m H →
      ((Itt K a).stop i H ∧ Qd H) ∨ ((Itt K a).go i H ∧ ∃ Nx : Hp → Prop, (∀ H', Nx H' → ∃ m', m' < m ∧ W (i + 1) m' H') ∧ ∀ x H', (Itt K a).yld i H x H' → gName j x (wipe σ wv) H' fun σ2 H2 => wipe σ2 wv = wipe σ wv ∧ tt σ2 H2 fun b H3 =>
        if b = true then tVar j σ2 H3 fun y H4 => ∃ acc, H4 D = some (.lst acc) ∧ acc.length < sizeLine ∧ Nx (upd H4 D (.lst (acc ++ [y]))) else Nx H3) := by
  have lda := dps_len da
  refine lc_tup (xs := xs) (fun i H1 => Same H H1 ∧ ∃ zs, H1 D = some (.lst zs) ∧ zs.length ≤ i ∧ DpAll K H1 zs ((ds.take i).filter fun d => !(b d))) ⟨same_new nD, [], upd_same, Nat.zero_le _, .nil⟩ (fun i H1 _ h => same_tup h.1 _ _ sa) (fun i x H1 hx h => ?_) (fun H1 h => ?_)
  · obtain ⟨s1, zs, e, lz, dz⟩ := h
    obtain ⟨di, hdi, dx⟩ := dps_get (dps_stay (same_tup s1) _ _ da hn) hx
    have hil : i < ds.length := (List.getElem?_eq_some_iff.mp hdi).1
    have hnf : ∀ n, noLs ((ds.take n).filter fun d => !(b d)) = true := fun n => by
      have : ∀ l : List PyData, (∀ d ∈ l, noL d = true) → noLs l = true := fun l => by
        induction l with
        | nil => exact fun _ => rfl
        | cons d l ih =>
          intro h
          show (noL d && noLs l) = true
          rw [h d (List.mem_cons_self ..), ih fun x hx => h x (List.mem_cons_of_mem _ hx)]
          rfl
      exact this _ fun d hd => noLs_mem hn d (List.mem_of_mem_take (List.mem_filter.mp hd).1)
    refine ⟨(hσ x).2, ht x di H1 _ s1 dx (List.mem_of_getElem? hdi) fun H2 s2 => ?_⟩
    cases hb : b di with
    | true =>
      show _ ∧ _
      refine ⟨s1.trans s2, zs, s2 _ _ e, by omega, ?_⟩
      rw [take_snoc hdi, List.filter_append, List.filter_cons_of_neg (by rw [hb]; decide), List.filter_nil, List.append_nil]
      exact dps_stay (same_tup s2) _ _ dz (hnf i)
    | false =>
      refine ⟨x, (hσ x).1, zs, s2 _ _ e, lineS200 (by omega), same_put (s1.trans s2) nD, zs ++ [x], upd_same, by rw [List.length_append]; show zs.length + 1 ≤ i + 1; omega, ?_⟩
      rw [take_snoc hdi, List.filter_append, List.filter_cons_of_pos (by rw [hb]; rfl), List.filter_nil]
      exact push_dps (s2 _ _ e) (dps_stay (same_tup s2) _ _ dz (hnf i)) (hnf i) (dp_stay (same_tup s2) _ _ dx (noLs_mem hn _ (List.mem_of_getElem? hdi))) (noLs_mem hn _ (List.mem_of_getElem? hdi))
  · obtain ⟨s1, zs, e, lz, dz⟩ := h
    rw [lda, List.take_length] at dz
    exact q H1 zs s1 e dz
/-- a list of good things beside the empty one -/
theorem eq_nil {D : Addr} {zs : List V} {F : List PyData} {R : VK} {eq : Bool} (e : H D = some (.lst zs)) (dz : DpAll K H zs F) (hn : noLs F = true) (hF : LayAll F) (q : ∀ z, H z = none → R (.bl (if eq then F.isEmpty else !F.isEmpty)) (upd H z (.lst []))) :
    (0 ≤ sizeLine) ∧ ∀ z, H z = none → (if eq = true then rEqD K (.ref D) (.ref z) (upd H z (.lst [])) R else rNeD K (.ref D) (.ref z) (upd H z (.lst [])) R) := by
  refine ⟨Nat.zero_le _, fun z nz => ?_⟩
  have dz2 := dps_stay (same_tup (same_new (o := .lst []) nz)) _ _ dz hn
  have e2 := (same_new (o := .lst []) nz) _ _ e
  have q2 := q z nz
  cases eq with
  | true =>
    refine ⟨.list F, .list [], .lst (SqL.of e2) dz2, .lst (SqL.of upd_same) .nil, shaped_list F hF, shaped_list [] (fun d hd => by cases hd), ?_⟩
    rw [eqv_nil]
    exact q2
  | false =>
    refine ⟨.list F, .list [], .lst (SqL.of e2) dz2, .lst (SqL.of upd_same) .nil, shaped_list F hF, shaped_list [] (fun d hd => by cases hd), ?_⟩
    rw [eqv_nil]
    exact q2
theorem gd_lay {n : Nat} {ds : List PyData} (hg : ∀ d ∈ ds, gd n d = true) (hn : n ≤ 5) {p : PyData → Bool} : LayAll (ds.filter p) := fun d hd => by
  obtain ⟨_, b, c⟩ := gd_ok n d (hg d (List.mem_filter.mp hd).1)
  exact ⟨b, by omega⟩
theorem filt_noL {ds : List PyData} (hn : noLs ds = true) (p : PyData → Bool) : noLs (ds.filter p) = true := by
  have : ∀ l : List PyData, (∀ d ∈ l, noL d = true) → noLs l = true := fun l => by
    induction l with
    | nil => exact fun _ => rfl
    | cons d l ih =>
      intro h
      show (noL d && noLs l) = true
      rw [h d (List.mem_cons_self ..), ih fun x hx => h x (List.mem_cons_of_mem _ hx)]
      rfl
  exact this _ fun d hd => noLs_mem hn d (List.mem_filter.mp hd).1
def spIsNet (K : PySem.W.Frag) : Sp := fun vs H Q _ => ∃ (v : V) (d : PyData) (n : Nat), vs = [v] ∧ Dp K H v d ∧ gd n d = true ∧ n ≤ 4 ∧ (∀ ds, d = .tuple ds → ∀ es, .tuple es ∈ ds → es.length ≤ 400) ∧ ∀ H', Same H H' → Q (.bl (netB d)) H'
theorem ok_isNet {f fT fL : Addr} {fd fdT fdL : FuncData} (F : Fun K "is_net" "is_net" sIsNet f fd) (B : Gp mg) (GT : FnOk P w K mg base CX0 1 fT fdT ["thing", "many"] (spIsTuple K)) (kT : PySem.W.keepIn K (.ref fT) = true) (bT : Binds K fdT ["thing", "many"] []) (gT : mg "is_tuple" = some (.ref fT))
    (GL : FnOk P w K mg base CX0 1 fL fdL ["thing", "limit"] (spIsBelow K)) (kL : PySem.W.keepIn K (.ref fL) = true) (bL : Binds K fdL ["thing", "limit"] []) (gL : mg "is_below" = some (.ref fL)) : FnOk P w K mg base CX0 2 f fd ["thing"] (spIsNet K) := by
  refine F.ok scIsNet (fun vs H Q E h => ?_) (fun cdv A outer s H vs Q E hr h => ?_)
  · obtain ⟨v, d, n, rfl, _⟩ := h
    rfl
  · obtain ⟨v, d, n, rfl, hd, hg, hn, hlen, q⟩ := h
    have nd := scIsNet.nd
    have hr1 := hr
    have qf : netB d = false → ∀ {H'}, Same H H' → Q (.bl false) H' := fun e H' sm => by
      have := q H' sm
      rw [e] at this
      exact this
    refine ⟨_, (C8.pss_cut (ps_if (PW.pt (pw_or (pt_not (pt_val (pe_call GT hr1 (by rfl) gT kT bT .nil pass0 (pa_cons (pv 0) (pa_cons (pe_int) pa_nil))))) (pw_or1 (pt_not (pt_val (pe_callB (cr_all rfl) (by rfl) B.all (by decide +kernel) (pa_cons (pe_lc (own := [("part", 7)]) (g := gName 7) (tt := tYes) (te := tOp (fun x y H Q => ∃ a b, x = .ty a ∧ y = .ty b ∧ Q (.bl (decide (a = b))) H) (tCB (rTyp K) (tCons (tVar 7) tNil)) (tC (.ty "tuple")))  rfl nd (pi_tup (pv 0)) (blkOk_by (own := [("part", 7)]) (N := NIN) (sc := defScope sIsNet) (by decide +kernel)) (fun _ _ _ _ _ => pg_name (i := 7) nd rfl (.inl rfl)) (fun _ _ _ _ _ => pts_nil) (fun _ _ _ _ _ => by exact (pe_cmpR op_isTyB (pe_callTy call_type1 (by rfl) B.ty (by decide +kernel) (pa_cons (pv 7) pa_nil)) (pe_bltn (v := .ty "tuple") (by rfl) B.tu (by decide +kernel) rfl) (nomark _)))) pa_nil))))))) (pss_one (ps_ret (pe_bl))) pss_nil)
      (pss_cons (ps_asg (pv 0) (pg_tup (by rfl) (pgs_cons (pg_name (i := 1) nd rfl (.inl rfl)) (pgs_cons (pg_name (i := 2) nd rfl (.inr rfl)) (pgs_cons (pg_name (i := 3) nd rfl (.inl rfl)) (pgs_cons (pg_name (i := 4) nd rfl (.inl rfl)) pgs_nil))))))
      (pss_cons (ps_set (i := 5) nd rfl (.inr rfl) (pe_callB call_len_seq (by rfl) B.len PySem.boot_len (pa_cons (pv 1) pa_nil)))
      (C8.pss_cut (ps_if (PW.pt (pw_or (pt_cmpR op_ne (pe_callB call_len_seq (by rfl) B.len PySem.boot_len (pa_cons (pv 3) pa_nil)) (pv 5) (nomark _)) (pw_or1 (pt_not (pt_val (pe_callB (cr_all rfl) (by rfl) B.all (by decide +kernel) (pa_cons (pe_lc (own := [("first", 8)]) (g := gName 8) (tt := tYes) (te := tCall (spIsBelow K) [] E0 (tCons (tVar 8) (tCons (tC (.int 2)) tNil)))  rfl nd (pi_tup (pv 1)) (blkOk_by (own := [("first", 8)]) (N := NIN) (sc := defScope sIsNet) (by decide +kernel)) (fun _ _ _ _ _ => pg_name (i := 8) nd rfl (.inl rfl)) (fun _ _ _ _ _ => pts_nil) (fun _ _ _ _ _ => by exact (pe_call GL hr1 (by rfl) gL kL bL .nil pass0 (pa_cons (pv 8) (pa_cons (pe_int) pa_nil))))) pa_nil))))))) (pss_one (ps_ret (pe_bl))) pss_nil)
      (C8.pss_cut (ps_for PassesOwn.never rfl (EnT.pi_enT (by rfl) B.enumerate (pa_cons (pv 2) pa_nil)) (pg_tup (by rfl) (pgs_cons (pg_name (i := 6) nd rfl (.inr rfl)) (pgs_cons (pg_name (i := 7) nd rfl (.inl rfl)) pgs_nil))) (pss_one (ps_if (PW.pt (pw_or (pt_not (pt_val (pe_call GT hr1 (by rfl) gT kT bT .nil pass0 (pa_cons (pv 7) (pa_cons (pe_int) pa_nil))))) (pw_or1 (pt_not (pt_val (pe_callB (cr_all rfl) (by rfl) B.all (by decide +kernel) (pa_cons (pe_lc (own := [("side", 9)]) (g := gName 9) (tt := tYes) (te := tCall (spIsBelow K) [] E0 (tCons (tVar 9) (tCons (tOp rMulN (tC (.int 2)) (tOp rAddN (tOp rAddN (tC (.int 1)) (tVar 5)) (tVar 6))) tNil)))  rfl nd (pi_tup (pv 7)) (blkOk_by (own := [("side", 9)]) (N := NIN) (sc := defScope sIsNet) (by decide +kernel)) (fun _ _ _ _ _ => pg_name (i := 9) nd rfl (.inl rfl)) (fun _ _ _ _ _ => pts_nil) (fun _ _ _ _ _ => by exact (pe_call GL hr1 (by rfl) gL kL bL .nil pass0 (pa_cons (pv 9) (pa_cons (pe_op op_mulN (pe_int) (pe_op op_addN (pe_op op_addN (pe_int) (pv 5)) (pv 6))) pa_nil))))) pa_nil))))))) (pss_one (ps_ret (pe_bl))) pss_nil)))
      (pss_one (ps_ret (pe_callB (cr_all rfl) (by rfl) B.all (by decide +kernel) (pa_cons (pe_lc (own := [("literal", 10)]) (g := gName 10) (tt := tYes) (te := tCall (spIsBelow K) [] E0 (tCons (tVar 10) (tCons (tOp rMulN (tC (.int 2)) (tOp rAddN (tOp rAddN (tC (.int 1)) (tVar 5)) (tCB (rLen K) (tCons (tVar 2) tNil)))) tNil)))  rfl nd (pi_tup (pe_op op_catA (pv 3) (pv 4))) (blkOk_by (own := [("literal", 10)]) (N := NIN) (sc := defScope sIsNet) (by decide +kernel)) (fun _ _ _ _ _ => pg_name (i := 10) nd rfl (.inl rfl)) (fun _ _ _ _ _ => pts_nil) (fun _ _ _ _ _ => by exact (pe_call GL hr1 (by rfl) gL kL bL .nil pass0 (pa_cons (pv 10) (pa_cons (pe_op op_mulN (pe_int) (pe_op op_addN (pe_op op_addN (pe_int) (pv 5)) (pe_callB call_len_seq (by rfl) B.len PySem.boot_len (pa_cons (pv 2) pa_nil)))) pa_nil))))) pa_nil))))))))), ?_⟩
    refine ⟨fun σ H' => σ = [some v, none, none, none, none, none, none, none, none, none, none] ∧ Same H H' ∧ ∃ ds : List PyData, d = .tuple ds ∧ ds.length = 4 ∧ (ds.all fun d => decide (tyD d = "tuple")) = true, ?_, ?_⟩
    · refine ⟨_, rfl, v, d, 4, rfl, hd, _, rfl, ?_⟩
      cases ht : isT d 4 with
      | false =>
        refine iteT (qf ?_ (Same.refl H))
        unfold netB
        split
        · cases ht
        · rfl
      | true =>
        refine iteF ?_
        obtain ⟨ds, rfl, hl⟩ := isT_iff.mp ht
        obtain ⟨b, xs, rfl, sb, da⟩ := dp_tup hd
        have hnn : noLs ds = true := (gd_ok n _ hg).1
        refine ⟨_, rfl, b, rfl, ⟨_, sb⟩, fun D nD => ?_⟩
        refine lc_all (b := fun d => decide (tyD d = "tuple")) nD sb da hnn (by omega) (fun x d2 H1 R s1 dx hm r => ⟨_, rfl, _, _, rfl, ty_of dx, _, _, rfl, rfl, r⟩) (fun x => rfl) ?_
        refine ⟨D, _, rfl, SqL.of upd_same, _, rfl, ?_⟩
        rw [all_id]
        cases ha : (ds.all fun d => decide (tyD d = "tuple")) with
        | false => exact iteT (qf (netB_four hl ha) (Same.up nD))
        | true => exact iteF ⟨rfl, Same.up nD, ds, rfl, hl, ha⟩
    rintro σ H1 ⟨rfl, s1, ds, rfl, hl, hall⟩
    have hty : ∀ d ∈ ds, ∃ es, d = .tuple es := fun d hd => ty_tup (of_decide_eq_true (List.all_eq_true.mp hall d hd))
    match ds, hl with
    | [t0, t1, t2, t3], _ =>
      obtain ⟨fs, rfl⟩ := hty t0 (by simp)
      obtain ⟨as, rfl⟩ := hty t1 (by simp)
      obtain ⟨ns, rfl⟩ := hty t2 (by simp)
      obtain ⟨os, rfl⟩ := hty t3 (by simp)
      have hnn := (gd_ok n _ hg).1
      have lf := hlen _ rfl fs (by simp)
      have la := hlen _ rfl as (by simp)
      have ln := hlen _ rfl ns (by simp)
      have lo := hlen _ rfl os (by simp)
      obtain ⟨n, rfl⟩ : ∃ m, n = m + 2 := by
        match n, hg with
        | 0, h => cases h
        | 1, h => cases gd_mem h (List.mem_cons_self ..)
        | m + 2, _ => exact ⟨m, rfl⟩
      have g0 := gd_mem hg (d := .tuple fs) (by simp)
      have g1 := gd_mem hg (d := .tuple as) (by simp)
      have g2 := gd_mem hg (d := .tuple ns) (by simp)
      have g3 := gd_mem hg (d := .tuple os) (by simp)
      have n0 : noLs fs = true := (gd_ok _ _ g0).1
      have n1 : noLs as = true := (gd_ok _ _ g1).1
      have n2 : noLs ns = true := (gd_ok _ _ g2).1
      have n3 : noLs os = true := (gd_ok _ _ g3).1
      obtain ⟨b, xs, rfl, sb, da⟩ := dp_tup (dp_stay (same_tup s1) _ _ hd hnn)
      cases da with
      | cons a1 da => cases da with
      | cons a2 da => cases da with
      | cons a3 da => cases da with
      | cons a4 da =>
      cases da
      obtain ⟨b1, x1, rfl, s1', d1⟩ := dp_tup a1
      obtain ⟨b2, x2, rfl, s2', d2⟩ := dp_tup a2
      obtain ⟨b3, x3, rfl, s3', d3⟩ := dp_tup a3
      obtain ⟨b4, x4, rfl, s4', d4⟩ := dp_tup a4
      have k1 := dps_len d1
      have k2 := dps_len d2
      have k3 := dps_len d3
      have k4 := dps_len d4
      have hE : netB (.tuple [.tuple fs, .tuple as, .tuple ns, .tuple os]) = (decide (ns.length = fs.length) && (fs.all fun x => isI x 0 2) && andsB fs.length 0 as && ((ns ++ os).all fun x => isI x 0 ((2 * (1 + fs.length + as.length) : Nat) : Int))) := rfl
      refine ⟨_, rfl, b, _, rfl, sb, rfl, _, _, rfl, _, _, rfl, _, _, rfl, _, _, rfl, rfl, ?_⟩
      refine ⟨_, rfl, b1, _, rfl, .inr s1', ?_⟩
      refine ⟨fun σ H' => σ = [some (.ref b), some (.ref b1), some (.ref b2), some (.ref b3), some (.ref b4), some (iV fs.length), none, none, none, none, none] ∧ Same H1 H' ∧ ns.length = fs.length ∧ (fs.all fun x => isI x 0 2) = true, ?_, ?_⟩
      · refine ⟨_, rfl, b3, _, rfl, .inr s3', _, rfl, rfl, _, rfl, ?_⟩
        by_cases hnl : ns.length = fs.length
        · rw [show (!decide (V.int ((x3.length : Nat) : Int) = V.int ((x1.length : Nat) : Int))) = false by rw [decide_eq_true (by rw [k3, k1, hnl])]; rfl]
          refine iteF ?_
          refine ⟨_, rfl, b1, rfl, ⟨_, s1'⟩, fun D nD => ?_⟩
          refine lc_all (b := fun d => isI d 0 2) nD s1' d1 n0 (by omega) (fun x d2 H1 R s1 dx hm r => ⟨_, rfl, x, d2, 2, rfl, dx, r⟩) (fun x => rfl) ?_
          refine ⟨D, _, rfl, SqL.of upd_same, _, rfl, ?_⟩
          rw [all_id]
          cases ha : (fs.all fun d => isI d 0 2) with
          | false =>
            refine iteT (qf ?_ (s1.trans (Same.up nD)))
            rw [hE, ha, Bool.and_false, Bool.false_and, Bool.false_and]
          | true =>
            exact iteF ⟨by rw [k1]; rfl, Same.up nD, hnl, rfl⟩
        · rw [show (!decide (V.int ((x3.length : Nat) : Int) = V.int ((x1.length : Nat) : Int))) = true by rw [decide_eq_false (fun z => hnl (by have := V.int.inj z; omega))]; rfl]
          refine iteT (qf ?_ s1)
          rw [hE, decide_eq_false hnl, Bool.false_and, Bool.false_and, Bool.false_and]
      rintro σ H2 ⟨rfl, s2, hnl, hfb⟩
      have hE2 : netB (.tuple [.tuple fs, .tuple as, .tuple ns, .tuple os]) = (andsB fs.length 0 as && ((ns ++ os).all fun x => isI x 0 ((2 * (1 + fs.length + as.length) : Nat) : Int))) := by
        rw [hE, decide_eq_true hnl, hfb, Bool.true_and, Bool.true_and]
      refine ⟨fun σ H' => ∃ y6 y7, σ = [some (.ref b), some (.ref b1), some (.ref b2), some (.ref b3), some (.ref b4), some (iV fs.length), y6, y7, none, none, none] ∧ Same H2 H' ∧ andsB fs.length 0 as = true, ?_, ?_⟩
      · refine ⟨_, rfl, b2, _, rfl, same_tup s2 _ _ s2', ?_⟩
        refine EnT.for_enT (xs := x2) (fun i σ H' => ∃ y6 y7, σ = [some (.ref b), some (.ref b1), some (.ref b2), some (.ref b3), some (.ref b4), some (iV fs.length), y6, y7, none, none, none] ∧ Same H2 H' ∧ andsB fs.length 0 as = andsB fs.length i (as.drop i)) ⟨_, _, rfl, Same.refl _, rfl⟩ (fun i σ H' _ h => ?_) (fun i x T σ H' hx h nT => ?_) (fun σ H' h => ?_)
        · obtain ⟨_, _, rfl, s, _⟩ := h
          exact same_tup (s2.trans s) _ _ s2'
        · obtain ⟨_, _, rfl, s, e⟩ := h
          obtain ⟨di, hdi, _⟩ := dps_get d2 hx
          have s' : Same H2 (upd H' T (.tup [.int (i : Nat), x])) := s.trans (same_new nT)
          obtain ⟨di2, hdi2, dx⟩ := dps_get (dps_stay (same_tup (s2.trans s')) _ _ d2 n1) hx
          rw [hdi] at hdi2
          cases hdi2
          rw [andsB_drop hdi] at e
          have hm := List.mem_of_getElem? hdi
          have hil := (List.getElem?_eq_some_iff.mp hdi).1
          have hgi := gd_mem g1 hm
          refine ⟨T, _, rfl, SqT.of upd_same, rfl, _, _, rfl, _, _, rfl, rfl, ?_⟩
          have fls : andB ((2 * (1 + fs.length + i) : Nat) : Int) di = false → ∀ {H3}, Same H2 H3 → Q (.bl false) H3 := fun z H3 s3 => qf (by rw [hE2, e, z, Bool.false_and, Bool.false_and]) ((s1.trans s2).trans s3)
          refine ⟨_, rfl, x, di, 2, rfl, dx, _, rfl, ?_⟩
          cases ht : isT di 2 with
          | false =>
            refine iteT (fls ?_ s')
            unfold andB
            split
            · have : decide (_ = 2) = false := ht
              rw [this, Bool.false_and]
            · rfl
          | true =>
            refine iteF ?_
            obtain ⟨es, rfl, hl2⟩ := isT_iff.mp ht
            obtain ⟨bb, xx, rfl, sbb, dbb⟩ := dp_tup dx
            have nes : noLs es = true := noLs_mem n1 _ hm
            refine ⟨_, rfl, bb, rfl, ⟨_, sbb⟩, fun D nD => ?_⟩
            refine lc_all (b := fun d => isI d 0 ((2 * (1 + fs.length + i) : Nat) : Int)) nD sbb dbb nes (by omega) (fun x d2 H1 R s1 dx hm r => ⟨_, rfl, _, rfl, 1, fs.length, rfl, rfl, _, rfl, _, i, rfl, rfl, 2, _, rfl, rfl, by decide, x, d2, _, rfl, dx, r⟩) (fun x => rfl) ?_
            refine ⟨D, _, rfl, SqL.of upd_same, _, rfl, ?_⟩
            rw [all_id]
            have eA : andB ((2 * (1 + fs.length + i) : Nat) : Int) (.tuple es) = es.all fun d => isI d 0 ((2 * (1 + fs.length + i) : Nat) : Int) := by
              show (decide (es.length = 2) && _) = _
              rw [decide_eq_true hl2, Bool.true_and]
            rw [eA] at e
            cases ha : (es.all fun d => isI d 0 ((2 * (1 + fs.length + i) : Nat) : Int)) with
            | false => exact iteT (fls (by rw [eA, ha]) (s'.trans (Same.up nD)))
            | true =>
              rw [ha, Bool.true_and] at e
              exact iteF ⟨_, _, rfl, s'.trans (Same.up nD), e⟩
        · obtain ⟨_, _, rfl, s, e⟩ := h
          refine ⟨_, _, rfl, s, ?_⟩
          rw [e, k2, List.drop_length]
          rfl
      rintro σ H3 ⟨y6, y7, rfl, s3, hab⟩
      have hE3 : netB (.tuple [.tuple fs, .tuple as, .tuple ns, .tuple os]) = ((ns ++ os).all fun x => isI x 0 ((2 * (1 + fs.length + as.length) : Nat) : Int)) := by
        rw [hE2, hab, Bool.true_and]
      have s23 := s2.trans s3
      refine ⟨_, rfl, _, rfl, catA_read (same_tup s23 _ _ s3') (same_tup s23 _ _ s4') (line200 (by omega)) fun cA H4 s4 _ sc => ?_⟩
      have s24 := s23.trans s4
      have dcat : DpAll K H4 (x3 ++ x4) (ns ++ os) := dps_app (dps_stay (same_tup s24) _ _ d3 n2) (dps_stay (same_tup s24) _ _ d4 n3)
      refine ⟨cA, rfl, ⟨_, sc⟩, fun D nD => ?_⟩
      refine lc_all (b := fun d => isI d 0 ((2 * (1 + fs.length + as.length) : Nat) : Int)) nD sc dcat (by rw [noLs_app, n2, n3]; rfl) (by rw [List.length_append]; omega) (fun x d2' H1 R s1 dx hm r => ⟨_, rfl, _, rfl, 1, fs.length, rfl, rfl, _, rfl, b2, _, rfl, .inr (same_tup (s24.trans s1) _ _ s2'), _, as.length, rfl, by rw [k2], 2, _, rfl, rfl, by decide, x, d2', _, rfl, dx, r⟩) (fun x => rfl) ?_
      refine ⟨D, _, rfl, SqL.of upd_same, ?_⟩
      rw [all_id, ← hE3]
      exact q _ ((s1.trans s24).trans (Same.up nD))
end
end C1

/-! The law's tests. -/
namespace C1
open PySem PySem.Spec PyProof.Rows L2 SX
theorem iteN {c A B : Prop} [Decidable c] (hc : ¬ c) (h : A) : if (!decide c) = true then A else B := by
  rw [decide_eq_false hc]
  exact iteT h
section
variable {P : Program} {w : World} {K : PySem.W.Frag} {mg : Str → Option Value} {base : Heap} {H H' : Hp}
theorem ne_nilR {D : Addr} {zs : List V} {F : List PyData} {R : VK} (e : H D = some (.lst zs)) (dz : DpAll K H zs F) (hn : noLs F = true) (hF : LayAll F) (q : ∀ z, H z = none → R (.bl (!F.isEmpty)) (upd H z (.lst []))) :
    (0 ≤ sizeLine) ∧ ∀ z, H z = none → rNeD K (.ref D) (.ref z) (upd H z (.lst [])) R := eq_nil (eq := false) e dz hn hF q
def spNum (K : PySem.W.Frag) : Sp := fun vs H Q _ => ∃ (v : V) (d : PyData) (n : Int), vs = [v, .int n] ∧ Dp K H v d ∧ noL d = true ∧ Q (.bl (isI d 0 n)) H
theorem ok_num {f : Addr} {fd : FuncData} (F : Fun K "_law_is_number" "_law_is_number" sLawIsNumber f fd) (B : Gp mg) : FnOk P w K mg base CX0 1 f fd ["thing", "most"] (spNum K) := by
  refine F.ok scLawIsNumber (fun vs H Q E h => ?_) (fun cdv A outer s H vs Q E hr h => ?_)
  · obtain ⟨v, d, n, rfl, _⟩ := h
    rfl
  · obtain ⟨v, d, n, rfl, hd, hn, q⟩ := h
    refine ⟨_, (pss_one (ps_ret (pe_and (pe_callB call_isi (by rfl) B.isi (by decide +kernel) (pa_cons (pv 0) (pa_cons (pe_bltn (v := .ty "int") (by rfl) B.it (by decide +kernel) rfl) pa_nil))) (pe_and (pe_not (pe_callB call_isi (by rfl) B.isi (by decide +kernel) (pa_cons (pv 0) (pa_cons (pe_bltn (v := .ty "bool") (by rfl) B.bo (by decide +kernel) rfl) pa_nil)))) (pe_one (pe_chain op_le op_lt (pe_int) (pv 0) (pv 1))))))), ?_⟩
    refine ⟨_, rfl, v, _, _, _, _, rfl, .ty "int", tyx_of hd hn, kit_ty (kit_int d hn), ?_⟩
    refine ⟨_, rfl, ?_⟩
    cases d with
    | list _ => cases hn
    | dict _ => cases hn
    | int i =>
      cases hd
      refine iteT ?_
      refine ⟨_, rfl, _, _, _, _, _, rfl, .ty "bool", tyx_of (K := K) (H := H) (.int i) rfl, kit_ty (kit_one "bool" (.inl rfl) (.int i) rfl), ?_⟩
      refine ⟨_, rfl, _, rfl, iteT ?_⟩
      refine ⟨_, rfl, _, _, rfl, rfl, _, rfl, ite2 (fun a1 => ?_) (fun a1 => ?_)⟩
      · refine ⟨_, rfl, _, _, rfl, rfl, ?_⟩
        have e : isI (.int i) 0 n = decide (i < n) := by
          show (decide (0 ≤ i) && decide (i < n)) = _
          rw [a1, Bool.true_and]
        rw [e] at q
        exact q
      · have e : isI (.int i) 0 n = false := by
          show (decide (0 ≤ i) && decide (i < n)) = _
          rw [Bool.eq_false_iff.mpr a1, Bool.false_and]
        rw [e] at q
        exact q
    | bool b =>
      cases hd
      refine iteT ?_
      refine ⟨_, rfl, _, _, _, _, _, rfl, .ty "bool", tyx_of (K := K) (H := H) (.bl b) rfl, kit_ty (kit_one "bool" (.inl rfl) (.bool b) rfl), ?_⟩
      exact ⟨_, rfl, _, rfl, iteF q⟩
    | none => exact iteF q
    | str _ => exact iteF q
    | tuple _ => exact iteF q
theorem ok_lNet {f fN : Addr} {fd fdN : FuncData} (F : Fun K "_law_is_net" "_law_is_net" sLawIsNet f fd) (B : Gp mg) (GN : FnOk P w K mg base CX0 1 fN fdN ["thing", "most"] (spNum K)) (kN : PySem.W.keepIn K (.ref fN) = true) (bN : Binds K fdN ["thing", "most"] []) (gN : mg "_law_is_number" = some (.ref fN)) : FnOk P w K mg base CX0 2 f fd ["thing"] (spIsNet K) := by
  refine F.ok scLawIsNet (fun vs H Q E h => ?_) (fun cdv A outer s H vs Q E hr h => ?_)
  · obtain ⟨v, d, n, rfl, _⟩ := h
    rfl
  · obtain ⟨v, d, n, rfl, hd, hg, hn, hlen, q⟩ := h
    have nd := scLawIsNet.nd
    have hr1 := hr
    have hu := hr.units
    have qf : netB d = false → ∀ {H'}, Same H H' → Q (.bl false) H' := fun e H' sm => by
      have := q H' sm
      rw [e] at this
      exact this
    have hnl := (gd_ok n d hg).1
    refine ⟨_, (C8.pss_cut (ps_if (PW.pt (pw_or (pt_not (pt_val (pe_callB call_isi (by rfl) B.isi (by decide +kernel) (pa_cons (pv 0) (pa_cons (pe_bltn (v := .ty "tuple") (by rfl) B.tu (by decide +kernel) rfl) pa_nil))))) (pw_or (pt_cmpR op_ne (pe_callB call_len_seq (by rfl) B.len PySem.boot_len (pa_cons (pv 0) pa_nil)) (pe_int) (nomark _)) (pw_or1 (pt_cmpR (op_neD hu) (pe_lc (own := [("part", 7)]) (g := gName 7) (tt := tNot (tB (tCB (rIsi K) (tCons (tVar 7) (tCons (tC (.ty "tuple")) tNil))))) (te := tVar 7)  rfl nd (pi_tup (pv 0)) (blkOk_by (own := [("part", 7)]) (N := NLN) (sc := defScope sLawIsNet) (by decide +kernel)) (fun _ _ _ _ _ => pg_name (i := 7) nd rfl (.inl rfl)) (fun _ _ _ _ _ => pts_one (pt_not (pt_val (pe_callB call_isi (by rfl) B.isi (by decide +kernel) (pa_cons (pv 7) (pa_cons (pe_bltn (v := .ty "tuple") (by rfl) B.tu (by decide +kernel) rfl) pa_nil)))))) (fun _ _ _ _ _ => by exact (pv 7))) (pe_lst pa_nil) (nomark _)))))) (pss_one (ps_ret (pe_bl))) pss_nil)
      (pss_cons (ps_asg (pv 0) (pg_tup (by rfl) (pgs_cons (pg_name (i := 1) nd rfl (.inr rfl)) (pgs_cons (pg_name (i := 2) nd rfl (.inl rfl)) (pgs_cons (pg_name (i := 3) nd rfl (.inl rfl)) (pgs_cons (pg_name (i := 4) nd rfl (.inl rfl)) pgs_nil))))))
      (pss_cons (ps_if (pt_cmpR (op_neD hu) (pe_lc (own := [("bit", 8)]) (g := gName 8) (tt := tNot (tB (tCall (spNum K) [] E0 (tCons (tVar 8) (tCons (tC (.int 2)) tNil))))) (te := tVar 8)  rfl nd (pi_tup (pv 1)) (blkOk_by (own := [("bit", 8)]) (N := NLN) (sc := defScope sLawIsNet) (by decide +kernel)) (fun _ _ _ _ _ => pg_name (i := 8) nd rfl (.inl rfl)) (fun _ _ _ _ _ => pts_one (pt_not (pt_val (pe_call GN hr1 (by rfl) gN kN bN .nil pass0 (pa_cons (pv 8) (pa_cons (pe_int) pa_nil)))))) (fun _ _ _ _ _ => by exact (pv 8))) (pe_lst pa_nil) (nomark _)) (pss_one (ps_ret (pe_bl))) pss_nil)
      (C8.pss_cut (ps_for PassesOwn.never rfl (pi_range1 (by rfl) B.range (pa_cons (pe_callB call_len_seq (by rfl) B.len PySem.boot_len (pa_cons (pv 2) pa_nil)) pa_nil)) (pg_name (i := 5) nd rfl (.inr rfl)) (C8.pss_cut (ps_if (PW.pt (pw_or (pt_not (pt_val (pe_callB call_isi (by rfl) B.isi (by decide +kernel) (pa_cons (pe_ix ix_tup (pv 2) (pv 5) (fun _ _ => rfl)) (pa_cons (pe_bltn (v := .ty "tuple") (by rfl) B.tu (by decide +kernel) rfl) pa_nil))))) (pw_or1 (pt_cmpR op_ne (pe_callB call_len_seq (by rfl) B.len PySem.boot_len (pa_cons (pe_ix ix_tup (pv 2) (pv 5) (fun _ _ => rfl)) pa_nil)) (pe_int) (nomark _))))) (pss_one (ps_ret (pe_bl))) pss_nil)
      (pss_one (ps_if (pt_cmpR (op_neD hu) (pe_lc (own := [("part", 7)]) (g := gName 7) (tt := tNot (tB (tCall (spNum K) [] E0 (tCons (tVar 7) (tCons (tOp rMulN (tC (.int 2)) (tOp rAddN (tOp rAddN (tC (.int 1)) (tCB (rLen K) (tCons (tVar 1) tNil))) (tVar 5))) tNil))))) (te := tVar 7)  rfl nd (pi_tup (pe_ix ix_tup (pv 2) (pv 5) (fun _ _ => rfl))) (blkOk_by (own := [("part", 7)]) (N := NLN) (sc := defScope sLawIsNet) (by decide +kernel)) (fun _ _ _ _ _ => pg_name (i := 7) nd rfl (.inl rfl)) (fun _ _ _ _ _ => pts_one (pt_not (pt_val (pe_call GN hr1 (by rfl) gN kN bN .nil pass0 (pa_cons (pv 7) (pa_cons (pe_op op_mulN (pe_int) (pe_op op_addN (pe_op op_addN (pe_int) (pe_callB call_len_seq (by rfl) B.len PySem.boot_len (pa_cons (pv 1) pa_nil))) (pv 5))) pa_nil)))))) (fun _ _ _ _ _ => by exact (pv 7))) (pe_lst pa_nil) (nomark _)) (pss_one (ps_ret (pe_bl))) pss_nil))))
      (pss_cons (ps_set (i := 6) nd rfl (.inr rfl) (pe_op op_mulN (pe_int) (pe_op op_addN (pe_op op_addN (pe_int) (pe_callB call_len_seq (by rfl) B.len PySem.boot_len (pa_cons (pv 1) pa_nil))) (pe_callB call_len_seq (by rfl) B.len PySem.boot_len (pa_cons (pv 2) pa_nil)))))
      (pss_one (ps_ret (pe_and (pe_cmpR op_eq (pe_callB call_len_seq (by rfl) B.len PySem.boot_len (pa_cons (pv 3) pa_nil)) (pe_callB call_len_seq (by rfl) B.len PySem.boot_len (pa_cons (pv 1) pa_nil)) (nomark _)) (pe_one (pe_cmpR (op_eqD hu) (pe_lc (own := [("part", 7)]) (g := gName 7) (tt := tNot (tB (tCall (spNum K) [] E0 (tCons (tVar 7) (tCons (tVar 6) tNil))))) (te := tVar 7)  rfl nd (pi_tup (pe_op op_catA (pv 3) (pv 4))) (blkOk_by (own := [("part", 7)]) (N := NLN) (sc := defScope sLawIsNet) (by decide +kernel)) (fun _ _ _ _ _ => pg_name (i := 7) nd rfl (.inl rfl)) (fun _ _ _ _ _ => pts_one (pt_not (pt_val (pe_call GN hr1 (by rfl) gN kN bN .nil pass0 (pa_cons (pv 7) (pa_cons (pv 6) pa_nil)))))) (fun _ _ _ _ _ => by exact (pv 7))) (pe_lst pa_nil) (nomark _))))))))))), ?_⟩
    refine ⟨fun σ H' => σ = [some v, none, none, none, none, none, none, none, none] ∧ Same H H' ∧ ∃ ds : List PyData, d = .tuple ds ∧ ds.length = 4 ∧ (ds.all fun d => decide (tyD d = "tuple")) = true, ?_, ?_⟩
    · refine ⟨_, rfl, v, _, _, _, _, rfl, .ty "tuple", tyx_of hd hnl, kit_ty (kit_one "tuple" (.inr (.inl rfl)) d hnl), _, rfl, ?_⟩
      cases d with
      | tuple ds =>
        refine iteNS rfl ?_
        obtain ⟨b, xs, rfl, sb, da⟩ := dp_tup hd
        have lda := dps_len da
        have hnn : noLs ds = true := hnl
        obtain ⟨n, rfl⟩ : ∃ m, n = m + 1 := by
          cases n with
          | zero => cases hg
          | succ m => exact ⟨m, rfl⟩
        refine ⟨_, rfl, _, _, rfl, .inr sb, rfl, _, rfl, ?_⟩
        by_cases hl : ds.length = 4
        · refine iteNS (by rw [lda, hl]; rfl) ?_
          refine ⟨_, rfl, b, rfl, ⟨_, sb⟩, fun D nD => ?_⟩
          refine lc_flt (b := fun d => decide (tyD d = "tuple")) nD sb da hnn (by omega) (fun x d2 H1 R s1 dx hm r => ⟨_, rfl, x, _, _, _, _, rfl, .ty "tuple", tyx_of dx (noLs_mem hnn _ hm), kit_ty (kit_one "tuple" (.inr (.inl rfl)) d2 (noLs_mem hnn _ hm)), _, rfl, r _ (Same.refl _)⟩) (fun x => ⟨rfl, rfl⟩) fun H1 zs s1 e dz => ?_
          refine ne_nilR e dz (filt_noL hnn _) (gd_lay (fun d hd => gd_mem hg hd) (by omega)) fun z nz => ⟨_, rfl, ?_⟩
          rw [filt_empty]
          cases ha : (ds.all fun d => decide (tyD d = "tuple")) with
          | false => exact iteT (qf (netB_four hl ha) (s1.trans (Same.up nz)))
          | true => exact iteF ⟨rfl, s1.trans (Same.up nz), ds, rfl, hl, ha⟩
        · refine iteN (fun z => hl (by have := V.int.inj z; omega)) (qf ?_ (Same.refl H))
          unfold netB
          split
          · rename_i e
            cases e
            exact absurd rfl hl
          · rfl
      | _ => exact iteN (fun e => by simp [tyD] at e) (qf rfl (Same.refl H))
    rintro σ H1 ⟨rfl, s1, ds, rfl, hl, hall⟩
    have hty : ∀ d ∈ ds, ∃ es, d = .tuple es := fun d hd => ty_tup (of_decide_eq_true (List.all_eq_true.mp hall d hd))
    match ds, hl with
    | [t0, t1, t2, t3], _ =>
      obtain ⟨fs, rfl⟩ := hty t0 (by simp)
      obtain ⟨as, rfl⟩ := hty t1 (by simp)
      obtain ⟨ns, rfl⟩ := hty t2 (by simp)
      obtain ⟨os, rfl⟩ := hty t3 (by simp)
      have hnn := (gd_ok n _ hg).1
      have lf := hlen _ rfl fs (by simp)
      have la := hlen _ rfl as (by simp)
      have ln := hlen _ rfl ns (by simp)
      have lo := hlen _ rfl os (by simp)
      obtain ⟨n, rfl⟩ : ∃ m, n = m + 2 := by
        match n, hg with
        | 0, h => cases h
        | 1, h => cases gd_mem h (List.mem_cons_self ..)
        | m + 2, _ => exact ⟨m, rfl⟩
      have g0 := gd_mem hg (d := .tuple fs) (by simp)
      have g1 := gd_mem hg (d := .tuple as) (by simp)
      have g2 := gd_mem hg (d := .tuple ns) (by simp)
      have g3 := gd_mem hg (d := .tuple os) (by simp)
      have n0 : noLs fs = true := (gd_ok _ _ g0).1
      have n1 : noLs as = true := (gd_ok _ _ g1).1
      have n2 : noLs ns = true := (gd_ok _ _ g2).1
      have n3 : noLs os = true := (gd_ok _ _ g3).1
      obtain ⟨b, xs, rfl, sb, da⟩ := dp_tup (dp_stay (same_tup s1) _ _ hd hnn)
      cases da with
      | cons a1 da => cases da with
      | cons a2 da => cases da with
      | cons a3 da => cases da with
      | cons a4 da =>
      cases da
      obtain ⟨b1, x1, rfl, s1', d1⟩ := dp_tup a1
      obtain ⟨b2, x2, rfl, s2', d2⟩ := dp_tup a2
      obtain ⟨b3, x3, rfl, s3', d3⟩ := dp_tup a3
      obtain ⟨b4, x4, rfl, s4', d4⟩ := dp_tup a4
      have k1 := dps_len d1
      have k2 := dps_len d2
      have k3 := dps_len d3
      have k4 := dps_len d4
      have hE : netB (.tuple [.tuple fs, .tuple as, .tuple ns, .tuple os]) = (decide (ns.length = fs.length) && (fs.all fun x => isI x 0 2) && andsB fs.length 0 as && ((ns ++ os).all fun x => isI x 0 ((2 * (1 + fs.length + as.length) : Nat) : Int))) := rfl
      refine ⟨_, rfl, b, _, rfl, sb, rfl, _, _, rfl, _, _, rfl, _, _, rfl, _, _, rfl, rfl, ?_⟩
      refine ⟨_, rfl, b1, rfl, ⟨_, s1'⟩, fun D nD => ?_⟩
      refine lc_flt (b := fun d => isI d 0 2) nD s1' d1 n0 (by omega) (fun x d2 H1 R s1 dx hm r => ⟨_, rfl, x, d2, 2, rfl, dx, noLs_mem n0 _ hm, _, rfl, r _ (Same.refl _)⟩) (fun x => ⟨rfl, rfl⟩) fun H2 zs s2 e dz => ?_
      refine ne_nilR e dz (filt_noL n0 _) (gd_lay (fun d hd => gd_mem g0 hd) (by omega)) fun z nz => ⟨_, rfl, ?_⟩
      rw [filt_empty]
      have s2z := s2.trans (Same.up (o := .lst []) nz)
      generalize upd H2 z (.lst []) = H3 at s2z
      cases hfb : (fs.all fun d => isI d 0 2) with
      | false =>
        refine iteT (qf ?_ (s1.trans s2z))
        rw [hE, hfb, Bool.and_false, Bool.false_and, Bool.false_and]
      | true =>
      refine iteF ?_
      have hE1 : netB (.tuple [.tuple fs, .tuple as, .tuple ns, .tuple os]) = (decide (ns.length = fs.length) && andsB fs.length 0 as && ((ns ++ os).all fun x => isI x 0 ((2 * (1 + fs.length + as.length) : Nat) : Int))) := by
        rw [hE, hfb, Bool.and_true]
      refine ⟨fun σ H' => ∃ y5, σ = [some (.ref b), some (.ref b1), some (.ref b2), some (.ref b3), some (.ref b4), y5, none, none, none] ∧ Same H1 H' ∧ andsB fs.length 0 as = true, ?_, ?_⟩
      · refine ⟨_, rfl, b2, _, rfl, .inr (same_tup s2z _ _ s2'), ?_⟩
        refine ⟨_, rfl, by omega, by omega, for_range (fun i σ H' => ∃ y5, σ = [some (.ref b), some (.ref b1), some (.ref b2), some (.ref b3), some (.ref b4), y5, none, none, none] ∧ Same H1 H' ∧ andsB fs.length 0 as = andsB fs.length i (as.drop i)) ⟨_, rfl, s2z, rfl⟩ (fun i σ H' hi h => ?_) (fun σ H' h => ?_)⟩
        · obtain ⟨_, rfl, s, e⟩ := h
          have hil : i < as.length := by omega
          obtain ⟨x, hx⟩ : ∃ x, x2[i]? = some x := ⟨_, List.getElem?_eq_getElem (by omega)⟩
          obtain ⟨di, hdi, dx⟩ := dps_get (dps_stay (same_tup s) _ _ d2 n1) hx
          rw [andsB_drop hdi] at e
          have hm := List.mem_of_getElem? hdi
          have gi := gd_mem g1 hm
          have ni := noLs_mem n1 _ hm
          have fls : andB ((2 * (1 + fs.length + i) : Nat) : Int) di = false → ∀ {H3}, Same H1 H3 → Q (.bl false) H3 := fun z H3 s3 => qf (by rw [hE1, e, z, Bool.false_and, Bool.and_false, Bool.false_and]) (s1.trans s3)
          rw [Int.zero_add]
          refine ⟨fun σ H4 => σ = [some (.ref b), some (.ref b1), some (.ref b2), some (.ref b3), some (.ref b4), some (iV i), none, none, none] ∧ H4 = H' ∧ ∃ es : List PyData, di = .tuple es ∧ es.length = 2, ?_, ?_⟩
          · refine ⟨_, rfl, _, rfl, b2, _, _, _, rfl, rfl, same_tup s _ _ s2', atI_nat hx, x, _, _, _, _, rfl, .ty "tuple", tyx_of dx ni, kit_ty (kit_one "tuple" (.inr (.inl rfl)) di ni), _, rfl, ?_⟩
            cases di with
            | tuple es =>
              refine iteNS rfl ?_
              obtain ⟨bb, xx, rfl, sbb, dbb⟩ := dp_tup dx
              have lbb := dps_len dbb
              refine ⟨_, rfl, _, rfl, b2, _, _, _, rfl, rfl, same_tup s _ _ s2', atI_nat hx, bb, _, rfl, .inr sbb, rfl, _, rfl, ?_⟩
              by_cases hl2 : es.length = 2
              · exact iteNS (by rw [lbb, hl2]; rfl) ⟨rfl, rfl, es, rfl, hl2⟩
              · refine iteN (fun z => hl2 (by have := V.int.inj z; omega)) (fls ?_ s)
                show (decide (es.length = 2) && _) = _
                rw [decide_eq_false hl2, Bool.false_and]
            | _ => exact iteN (fun e => by simp [tyD] at e) (fls rfl s)
          rintro σ H4 ⟨rfl, rfl, es, rfl, hl2⟩
          obtain ⟨bb, xx, rfl, sbb, dbb⟩ := dp_tup dx
          have nes : noLs es = true := ni
          refine ⟨_, rfl, _, rfl, b2, _, _, _, rfl, rfl, same_tup s _ _ s2', atI_nat hx, bb, rfl, ⟨_, sbb⟩, fun D nD => ?_⟩
          refine lc_flt (b := fun d => isI d 0 ((2 * (1 + fs.length + i) : Nat) : Int)) nD sbb dbb nes (by omega) (fun x d2 H5 R s5 dx hm r => ⟨_, rfl, _, rfl, b1, _, rfl, .inr (same_tup (s.trans s5) _ _ s1'), 1, fs.length, rfl, by rw [k1], _, rfl, _, i, rfl, rfl, 2, _, rfl, rfl, by decide, x, d2, _, rfl, dx, noLs_mem nes _ hm, _, rfl, r _ (Same.refl _)⟩) (fun x => ⟨rfl, rfl⟩) fun H5 zs s5 ez dz => ?_
          obtain ⟨n', hn', ges⟩ : ∃ n', n' ≤ 4 ∧ ∀ d ∈ es, gd n' d = true := by
            cases n with
            | zero => cases gi
            | succ m => exact ⟨m, by omega, fun d hd => gd_mem gi hd⟩
          refine ne_nilR ez dz (filt_noL nes _) (gd_lay ges (by omega)) fun z nz => ⟨_, rfl, ?_⟩
          rw [filt_empty]
          have eA : andB ((2 * (1 + fs.length + i) : Nat) : Int) (.tuple es) = es.all fun d => isI d 0 ((2 * (1 + fs.length + i) : Nat) : Int) := by
            show (decide (es.length = 2) && _) = _
            rw [decide_eq_true hl2, Bool.true_and]
          have s6 := s.trans (s5.trans (Same.up (o := .lst []) nz))
          rw [eA] at e
          cases ha : (es.all fun d => isI d 0 ((2 * (1 + fs.length + i) : Nat) : Int)) with
          | false => exact iteT (fls (by rw [eA, ha]) s6)
          | true =>
            rw [ha, Bool.true_and] at e
            exact iteF ⟨_, rfl, s6, e⟩
        · obtain ⟨_, rfl, s, e⟩ := h
          refine ⟨_, rfl, s, ?_⟩
          rw [e, k2, Int.toNat_natCast, List.drop_length]
          rfl
      rintro σ H4 ⟨y5, rfl, s4, hab⟩
      have hE2 : netB (.tuple [.tuple fs, .tuple as, .tuple ns, .tuple os]) = (decide (ns.length = fs.length) && ((ns ++ os).all fun x => isI x 0 ((2 * (1 + fs.length + as.length) : Nat) : Int))) := by
        rw [hE1, hab, Bool.and_true]
      refine ⟨_, rfl, b1, _, rfl, .inr (same_tup s4 _ _ s1'), 1, fs.length, rfl, by rw [k1], _, rfl, b2, _, rfl, .inr (same_tup s4 _ _ s2'), _, as.length, rfl, by rw [k2], 2, _, rfl, rfl, by decide, ?_⟩
      refine ⟨_, rfl, b3, _, rfl, .inr (same_tup s4 _ _ s3'), _, rfl, b1, _, rfl, .inr (same_tup s4 _ _ s1'), rfl, ?_⟩
      refine ⟨_, rfl, ?_⟩
      by_cases hnl2 : ns.length = fs.length
      · rw [show decide (V.int ((x3.length : Nat) : Int) = V.int ((x1.length : Nat) : Int)) = true from decide_eq_true (by rw [k3, k1, hnl2])]
        refine iteT ?_
        rw [decide_eq_true hnl2, Bool.true_and] at hE2
        refine ⟨_, rfl, _, rfl, catA_read (same_tup s4 _ _ s3') (same_tup s4 _ _ s4') (line200 (by omega)) fun cA H5 s5 _ sc => ?_⟩
        have s45 := s4.trans s5
        have dcat : DpAll K H5 (x3 ++ x4) (ns ++ os) := dps_app (dps_stay (same_tup s45) _ _ d3 n2) (dps_stay (same_tup s45) _ _ d4 n3)
        have ncat : noLs (ns ++ os) = true := by rw [noLs_app, n2, n3]; rfl
        refine ⟨cA, rfl, ⟨_, sc⟩, fun D nD => ?_⟩
        refine lc_flt (b := fun d => isI d 0 ((2 * (1 + fs.length + as.length) : Nat) : Int)) nD sc dcat ncat (by rw [List.length_append]; omega) (fun x d2 H1 R s1 dx hm r => ⟨_, rfl, _, rfl, x, d2, _, rfl, dx, noLs_mem ncat _ hm, _, rfl, r _ (Same.refl _)⟩) (fun x => ⟨rfl, rfl⟩) fun H6 zs s6 ez dz => ?_
        refine eq_nil (eq := true) ez dz (filt_noL ncat _) (gd_lay (fun d hd => (List.mem_append.mp hd).elim (gd_mem g2) (gd_mem g3)) (by omega)) fun z nz => ?_
        rw [filt_empty]
        have := q _ (s1.trans ((s45.trans s6).trans (Same.up (o := .lst []) nz)))
        rw [hE2] at this
        exact this
      · rw [show decide (V.int ((x3.length : Nat) : Int) = V.int ((x1.length : Nat) : Int)) = false from decide_eq_false (fun z => hnl2 (by have := V.int.inj z; omega))]
        refine iteF (qf ?_ (s1.trans s4))
        rw [hE2, decide_eq_false hnl2, Bool.false_and]
def spIsRow (K : PySem.W.Frag) : Sp := fun vs H Q _ => ∃ (t : Addr) (m : List Nat), vs = [.ref t, iV m.length] ∧ SqT K H t (m.map iV) ∧ Bits m ∧ m.length ≤ 900 ∧ ∀ H', Same H H' → Q (.bl true) H'
theorem all_bits {m : List Nat} (h : Bits m) : (m.map iD).all (fun d => isI d 0 2) = true := by
  refine List.all_eq_true.mpr fun d hd => ?_
  obtain ⟨k, hk, rfl⟩ := List.mem_map.mp hd
  have := h k hk
  show (decide ((0 : Int) ≤ ((k : Nat) : Int)) && decide (((k : Nat) : Int) < 2)) = true
  rw [decide_eq_true (by omega), decide_eq_true (by omega)]
  rfl
theorem lay_ints (m : List Nat) (p : PyData → Bool) : LayAll ((m.map iD).filter p) := fun d hd => cL_int m d (List.mem_filter.mp hd).1
theorem ok_isRow {f : Addr} {fd : FuncData} (F : Fun K "_law_is_row" "_law_is_row" sLawIsRow f fd) (B : Gp mg) : FnOk P w K mg base CX0 1 f fd ["thing", "many"] (spIsRow K) := by
  refine F.ok scLawIsRow (fun vs H Q E h => ?_) (fun cdv A outer s H vs Q E hr h => ?_)
  · obtain ⟨t, m, rfl, _⟩ := h
    rfl
  · obtain ⟨t, m, rfl, ht, hb, hl, q⟩ := h
    have nd := scLawIsRow.nd
    have hu := hr.units
    refine ⟨_, (C8.pss_cut (ps_if (PW.pt (pw_or (pt_not (pt_val (pe_callB call_isi (by rfl) B.isi (by decide +kernel) (pa_cons (pv 0) (pa_cons (pe_bltn (v := .ty "tuple") (by rfl) B.tu (by decide +kernel) rfl) pa_nil))))) (pw_or1 (pt_cmpR op_ne (pe_callB call_len_seq (by rfl) B.len PySem.boot_len (pa_cons (pv 0) pa_nil)) (pv 1) (nomark _))))) (pss_one (ps_ret (pe_bl))) pss_nil)
      (pss_one (ps_ret (pe_cmpR (op_eqD hu) (pe_lc (own := [("bit", 2)]) (g := gName 2) (tt := tOr (tNot (tB (tCB (rIsi K) (tCons (tVar 2) (tCons (tC (.ty "int")) tNil))))) (tOr (tB (tCB (rIsi K) (tCons (tVar 2) (tCons (tC (.ty "bool")) tNil)))) (tTest (tOp (rIn K true) (tVar 2) (tTup (tCons (tC (.int 0)) (tCons (tC (.int 1)) tNil))))))) (te := tVar 2)  rfl nd (pi_tup (pv 0)) (blkOk_by (own := [("bit", 2)]) (N := NIR) (sc := defScope sLawIsRow) (by decide +kernel)) (fun _ _ _ _ _ => pg_name (i := 2) nd rfl (.inl rfl)) (fun _ _ _ _ _ => pts_one (PW.pt (pw_or (pt_not (pt_val (pe_callB call_isi (by rfl) B.isi (by decide +kernel) (pa_cons (pv 2) (pa_cons (pe_bltn (v := .ty "int") (by rfl) B.it (by decide +kernel) rfl) pa_nil))))) (pw_or (pt_val (pe_callB call_isi (by rfl) B.isi (by decide +kernel) (pa_cons (pv 2) (pa_cons (pe_bltn (v := .ty "bool") (by rfl) B.bo (by decide +kernel) rfl) pa_nil)))) (pw_or1 (pt_cmpR op_notIn_seq (pv 2) (pe_tup (pa_cons (pe_int) (pa_cons (pe_int) pa_nil))) (by rfl))))))) (fun _ _ _ _ _ => by exact (pv 2))) (pe_lst pa_nil) (nomark _))))), ?_⟩
    refine ⟨fun σ H' => σ = [some (.ref t), some (iV m.length), none] ∧ H' = H, ?_, ?_⟩
    · refine ⟨_, rfl, .ref t, _, _, _, _, rfl, .ty "tuple", tyx_tup ht, kit_ty (by decide +kernel : kitB "tuple" "tuple" = some true), _, rfl, iteF ?_⟩
      refine ⟨_, rfl, _, _, rfl, .inr ht, _, rfl, rfl, _, rfl, ?_⟩
      rw [List.length_map]
      exact iteNS rfl ⟨rfl, rfl⟩
    rintro σ H1 ⟨rfl, rfl⟩
    refine ⟨_, rfl, t, rfl, ⟨_, ht⟩, fun D nD => ?_⟩
    refine lc_flt (b := fun d => isI d 0 2) nD ht (dps_ints m) (noLs_int m) (by rw [List.length_map]; omega) (fun x d2 H2 R s2 dx hm r => ?_) (fun x => ⟨rfl, rfl⟩) fun H2 zs s2 e dz => ?_
    · obtain ⟨k, hk, rfl⟩ := List.mem_map.mp hm
      have hk2 := hb k hk
      cases dx
      have r' : ∀ H3, Same H2 H3 → R false H3 := fun H3 s3 => by
        have := r H3 s3
        rw [List.all_eq_true.mp (all_bits hb) _ hm] at this
        exact this
      refine ⟨_, rfl, _, _, _, _, _, rfl, .ty "int", tyx_of (K := K) (H := H2) (.int ((k : Nat) : Int)) rfl, kit_ty (kit_int (.int ((k : Nat) : Int)) rfl), _, rfl, iteF ?_⟩
      refine ⟨_, rfl, _, _, _, _, _, rfl, .ty "bool", tyx_of (K := K) (H := H2) (.int ((k : Nat) : Int)) rfl, kit_ty (kit_one "bool" (.inl rfl) (.int ((k : Nat) : Int)) rfl), _, rfl, iteF ?_⟩
      refine ⟨_, rfl, line200 (show 2 ≤ 1000 by decide), fun p np => ⟨p, _, rfl, .inr (SqT.of upd_same), rfl, rfl, ?_⟩⟩
      rcases (show k = 0 ∨ k = 1 by omega) with rfl | rfl
      · exact ⟨_, rfl, r' _ (Same.up np)⟩
      · exact ⟨_, rfl, r' _ (Same.up np)⟩
    · refine eq_nil (eq := true) e dz (filt_noL (noLs_int m) _) (lay_ints m _) fun z nz => ?_
      rw [filt_empty, all_bits hb]
      exact q _ (s2.trans (Same.up nz))
def spAreRows (K : PySem.W.Frag) : Sp := fun vs H Q _ => ∃ (t : Addr) (ms : List (List Nat)) (k : Nat), vs = [.ref t, iV ms.length, iV k] ∧ Dp K H (.ref t) (toldD ms) ∧ (∀ m ∈ ms, Bits m ∧ m.length = k) ∧ k ≤ 900 ∧ ms.length ≤ 900 ∧ ∀ H', Same H H' → Q (.bl true) H'
theorem filt_none : ∀ (ds : List PyData), (ds.filter fun _ => !true) = []
  | [] => rfl
  | d :: ds => filt_none ds
theorem ok_areRows {f fR : Addr} {fd fdR : FuncData} (F : Fun K "_law_are_rows" "_law_are_rows" sLawAreRows f fd) (B : Gp mg) (GR : FnOk P w K mg base CX0 1 fR fdR ["thing", "many"] (spIsRow K)) (kR : PySem.W.keepIn K (.ref fR) = true) (bR : Binds K fdR ["thing", "many"] []) (gR : mg "_law_is_row" = some (.ref fR)) : FnOk P w K mg base CX0 2 f fd ["thing", "count", "many"] (spAreRows K) := by
  refine F.ok scLawAreRows (fun vs H Q E h => ?_) (fun cdv A outer s H vs Q E hr h => ?_)
  · obtain ⟨t, ms, k, rfl, _⟩ := h
    rfl
  · obtain ⟨t, ms, k, rfl, ht, hb, hk, hl, q⟩ := h
    have nd := scLawAreRows.nd
    have hu := hr.units
    have hr1 := hr
    obtain ⟨_, xs, e0, st, da⟩ := dp_tup ht
    cases e0
    have lda := dps_len da
    rw [List.length_map] at lda
    refine ⟨_, (C8.pss_cut (ps_if (PW.pt (pw_or (pt_not (pt_val (pe_callB call_isi (by rfl) B.isi (by decide +kernel) (pa_cons (pv 0) (pa_cons (pe_bltn (v := .ty "tuple") (by rfl) B.tu (by decide +kernel) rfl) pa_nil))))) (pw_or1 (pt_cmpR op_ne (pe_callB call_len_seq (by rfl) B.len PySem.boot_len (pa_cons (pv 0) pa_nil)) (pv 1) (nomark _))))) (pss_one (ps_ret (pe_bl))) pss_nil)
      (pss_one (ps_ret (pe_cmpR (op_eqD hu) (pe_lc (own := [("row", 3)]) (g := gName 3) (tt := tNot (tB (tCall (spIsRow K) [] E0 (tCons (tVar 3) (tCons (tVar 2) tNil))))) (te := tVar 3)  rfl nd (pi_tup (pv 0)) (blkOk_by (own := [("row", 3)]) (N := NAR) (sc := defScope sLawAreRows) (by decide +kernel)) (fun _ _ _ _ _ => pg_name (i := 3) nd rfl (.inl rfl)) (fun _ _ _ _ _ => pts_one (pt_not (pt_val (pe_call GR hr1 (by rfl) gR kR bR .nil pass0 (pa_cons (pv 3) (pa_cons (pv 2) pa_nil)))))) (fun _ _ _ _ _ => by exact (pv 3))) (pe_lst pa_nil) (nomark _))))), ?_⟩
    refine ⟨fun σ H' => σ = [some (.ref t), some (iV ms.length), some (iV k), none] ∧ H' = H, ?_, ?_⟩
    · refine ⟨_, rfl, .ref t, _, _, _, _, rfl, .ty "tuple", tyx_tup st, kit_ty (by decide +kernel : kitB "tuple" "tuple" = some true), _, rfl, iteF ?_⟩
      refine ⟨_, rfl, _, _, rfl, .inr st, _, rfl, rfl, _, rfl, ?_⟩
      rw [lda]
      exact iteNS rfl ⟨rfl, rfl⟩
    rintro σ H1 ⟨rfl, rfl⟩
    refine ⟨_, rfl, t, rfl, ⟨_, st⟩, fun D nD => ?_⟩
    refine lc_flt (b := fun _ => true) nD st da (noLs_mem2 ms) (by rw [List.length_map]; omega) (fun x d2 H2 R s2 dx hm r => ?_) (fun x => ⟨rfl, rfl⟩) fun H2 zs s2 e dz => ?_
    · obtain ⟨m, hm2, rfl⟩ := List.mem_map.mp hm
      obtain ⟨h1, h2⟩ := hb m hm2
      obtain ⟨bm, ym, rfl, sm, dm⟩ := dp_tup dx
      rw [dps_ints_eq dm] at sm
      exact ⟨_, rfl, _, rfl, bm, m, by rw [h2]; rfl, sm, h1, by omega, fun H3 s3 => ⟨_, rfl, r _ s3⟩⟩
    · rw [filt_none] at dz
      refine eq_nil (eq := true) e dz rfl (fun d hd => by cases hd) fun z nz => ?_
      exact q _ (s2.trans (Same.up nz))
end
end C1

/-! The law's draws of nets. -/
namespace C1
open PySem PySem.Spec PyProof.Rows L2 SX
abbrev sLawPick : Stmt := topS 12
abbrev sLawLiteral : Stmt := topS 13
abbrev sLawNet : Stmt := topS 14
theorem scLawPick : FnScope ["w", "rows"] ["w", "rows"] (defScope sLawPick) := ⟨rfl, rfl, rfl, by decide +kernel, rfl, by decide +kernel, by decide +kernel⟩
theorem scLawLiteral : FnScope ["w", "many"] ["w", "many"] (defScope sLawLiteral) := ⟨rfl, rfl, rfl, by decide +kernel, rfl, by decide +kernel, by decide +kernel⟩
theorem scLawNet : FnScope ["w", "latches", "ands", "outs", "firsts", "pairs", "k", "one", "many", "nexts", "told"] ["w", "latches", "ands", "outs"] (defScope sLawNet) := ⟨rfl, rfl, rfl, by decide +kernel, rfl, by decide +kernel, by decide +kernel⟩
abbrev NLD : List Str := ["w", "latches", "ands", "outs", "firsts", "pairs", "k", "one", "many", "nexts", "told"]
section
variable {P : Program} {w : World} {K : PySem.W.Frag} {mg : Str → Option Value} {base : Heap} {H H' : Hp}
/-- a list of drawn numbers -/
theorem lc_draw {a l D : Addr} {ds : List Int} {lo : Int} {n : Nat} {te : TE} {σ : L2.St} {wv : List Nat} {j : Nat} {Pk : Nat → Prop} {Qd : Hp → Prop} (nD : H D = none) (W : Wd H a l ds) (hn : n ≤ 500)
    (ht : ∀ i H1 (R : VK), i < n → Kp a H H1 → Wd H1 a l ds → (∀ x H2, Pk x → Kp a H1 H2 → Wd H2 a l ds → R (iV x) H2) → te ((wipe σ wv).set j (some (.int (lo + ((i : Nat) : Int))))) H1 R)
    (hσ : ∀ x, wipe ((wipe σ wv).set j (some x)) wv = wipe σ wv)
    (q : ∀ H' (xs : List Nat), Kp a H H' → Wd H' a l ds → xs.length = n → (∀ x ∈ xs, Pk x) → H' D = some (.lst (xs.map iV)) → Qd H') :
    ∃ W : Nat → Nat → Hp → Prop, (∃ m, W 0 m (upd H D (.lst []))) ∧ ∀ i m H, W i m H →
      ((Itr lo n).stop i H ∧ Qd H) ∨ ((Itr lo n).go i H ∧ ∃ Nx : Hp → Prop, (∀ H', Nx H' → ∃ m', m' < m ∧ W (i + 1) m' H') ∧ ∀ x H', (Itr lo n).yld i H x H' → gName j x (wipe σ wv) H' fun σ2 H2 => wipe σ2 wv = wipe σ wv ∧ tYes σ2 H2 fun b H3 =>
        if b = true then te σ2 H3 fun y H4 => ∃ acc, H4 D = some (.lst acc) ∧ acc.length < sizeLine ∧ Nx (upd H4 D (.lst (acc ++ [y]))) else Nx H3) := by
  obtain ⟨neD, neL⟩ := W.ne2 nD
  refine lc_range (n := n) (fun i H1 => Kp a H H1 ∧ Wd H1 a l ds ∧ ∃ xs : List Nat, xs.length = i ∧ (∀ x ∈ xs, Pk x) ∧ H1 D = some (.lst (xs.map iV))) ⟨Kp.new nD, W.new nD, [], rfl, (fun x h => by cases h), upd_same⟩ (fun i H1 hi h => ?_) (fun H1 h => ?_)
  · obtain ⟨k1, W1, xs, lx, px, e⟩ := h
    refine ⟨hσ _, ?_⟩
    refine ht i H1 (fun y H4 => ∃ acc, H4 D = some (.lst acc) ∧ acc.length < sizeLine ∧ (Kp a H (upd H4 D (.lst (acc ++ [y]))) ∧ Wd (upd H4 D (.lst (acc ++ [y]))) a l ds ∧ ∃ xs : List Nat, xs.length = i + 1 ∧ (∀ x ∈ xs, Pk x) ∧ (upd H4 D (.lst (acc ++ [y]))) D = some (.lst (xs.map iV)))) hi k1 W1 fun x H2 hx k2 W2 => ?_
    refine ⟨_, k2 D _ neD e, by rw [List.length_map]; exact lineS200 (by omega), (k1.trans k2).put nD, W2.put neD neL, xs ++ [x], by rw [List.length_append, lx]; rfl, fun y hy => ?_, ?_⟩
    · rcases List.mem_append.mp hy with h | h
      · exact px y h
      · rw [List.mem_singleton.mp h]
        exact hx
    · rw [upd_same, List.map_append]
      rfl
  · obtain ⟨k1, W1, xs, lx, px, e⟩ := h
    exact q H1 xs k1 W1 lx px e
def spPick (K : PySem.W.Frag) : Sp := fun vs H Q _ => ∃ (a l r : Addr) (ds : List Int) (xs : List V) (es : List PyData), vs = [.ref a, .ref r] ∧ Wd H a l ds ∧ H r = some (.lst xs) ∧ DpAll K H xs es ∧ noLs es = true ∧ 0 < es.length ∧ ∀ H' v d, Kp a H H' → Wd H' a l ds → Dp K H' v d → d ∈ es → Q v H'
theorem ok_pick {f fN : Addr} {fd fdN : FuncData} (F : Fun K "_law_pick" "_law_pick" sLawPick f fd) (B : Gp mg) (GN : FnOk P w K mg base CX0 1 fN fdN ["w", "many"] spNext) (kN : PySem.W.keepIn K (.ref fN) = true) (bN : Binds K fdN ["w", "many"] []) (gN : mg "_law_next" = some (.ref fN)) :
    FnOk P w K mg base CX0 2 f fd ["w", "rows"] (spPick K) := by
  refine F.ok scLawPick (fun vs H Q E h => ?_) (fun cdv A outer s H vs Q E hr h => ?_)
  · obtain ⟨a, l, r, ds, xs, es, rfl, _⟩ := h
    rfl
  · obtain ⟨a, l, r, ds, xs, es, rfl, W, e, de, ne, pos, q⟩ := h
    have lxs := dps_len de
    refine ⟨_, (pss_one (ps_ret (pe_ix ix_list (pv 1) (pe_call GN hr (by rfl) gN kN bN .nil pass0 (pa_cons (pv 0) (pa_cons (pe_callB call_len_seq (by rfl) B.len PySem.boot_len (pa_cons (pv 1) pa_nil)) pa_nil))) (fun _ _ => rfl)))), ?_⟩
    refine ⟨_, rfl, _, rfl, _, rfl, r, _, rfl, .inl (SqL.of e), a, l, ds, _, rfl, by omega, W, fun i H1 hi k1 _ W1 => ?_⟩
    obtain ⟨x, hx⟩ : ∃ x, xs[i]? = some x := ⟨_, List.getElem?_eq_getElem (by omega)⟩
    obtain ⟨d, hd, dx⟩ := dps_get (stay_dps W k1 ne de) hx
    exact ⟨r, _, _, _, rfl, rfl, SqL.of (k1 r _ (wd_lne W e) e), atI_nat hx, q H1 x d k1 W1 dx (List.mem_of_getElem? hd)⟩
def spLiteral : Sp := fun vs H Q _ => ∃ (a l : Addr) (ds : List Int) (many : Nat), vs = [.ref a, iV many] ∧ 0 < many ∧ many ≤ 900 ∧ Wd H a l ds ∧ ∀ x H', x < 2 * many → Kp a H H' → Wd H' a l ds → Q (iV x) H'
theorem ok_lliteral {f fN : Addr} {fd fdN : FuncData} (F : Fun K "_law_literal" "_law_literal" sLawLiteral f fd) (B : Gp mg) (GN : FnOk P w K mg base CX0 1 fN fdN ["w", "many"] spNext) (kN : PySem.W.keepIn K (.ref fN) = true) (bN : Binds K fdN ["w", "many"] []) (gN : mg "_law_next" = some (.ref fN)) :
    FnOk P w K mg base CX0 2 f fd ["w", "many"] spLiteral := by
  refine F.ok scLawLiteral (fun vs H Q E h => ?_) (fun cdv A outer s H vs Q E hr h => ?_)
  · obtain ⟨a, l, ds, many, rfl, _⟩ := h
    rfl
  · obtain ⟨a, l, ds, many, rfl, pos, hm, W, q⟩ := h
    refine ⟨_, (pss_cons (ps_if (pt_cmpR op_eq (pe_call GN hr (by rfl) gN kN bN .nil pass0 (pa_cons (pv 0) (pa_cons (pe_int) pa_nil))) (pe_int) (nomark _)) (pss_one (ps_ret (pe_call GN hr (by rfl) gN kN bN .nil pass0 (pa_cons (pv 0) (pa_cons (pe_op op_mulN (pe_int) (pv 1)) pa_nil))))) pss_nil)
      (pss_one (ps_ret (pe_op op_sub (pe_op op_sub (pe_op op_mulN (pe_int) (pv 1)) (pe_int)) (pe_call GN hr (by rfl) gN kN bN .nil pass0 (pa_cons (pv 0) (pa_cons (pe_callB (call_min2 rfl) (by rfl) B.min (by decide +kernel) (pa_cons (pe_op op_mulN (pe_int) (pv 1)) (pa_cons (pe_int) pa_nil))) pa_nil))))))), ?_⟩
    refine ⟨_, rfl, a, l, ds, 3, rfl, by decide, W, fun r H1 hr1 k1 _ W1 => ⟨rfl, _, rfl, ite2 (fun _ => ?_) (fun _ => ?_)⟩⟩
    · exact ⟨_, rfl, _, rfl, 2, many, rfl, rfl, by decide, a, l, ds, _, rfl, by omega, W1, fun r H2 hr k2 _ W2 => q r H2 (by omega) (k1.trans k2) W2⟩
    · refine ⟨_, rfl, 2, many, rfl, rfl, by decide, _, _, rfl, rfl, _, rfl, _, rfl, 2, many, rfl, rfl, by decide, _, _, rfl, a, l, ds, _, rfl, ?_, W1, fun r H2 hr k2 _ W2 => ⟨_, _, rfl, rfl, ?_⟩⟩
      · split <;> omega
      · have hr' : r < 2 * many := by
          split at hr <;> omega
        show Q (.int (((2 * many : Nat) : Int) - 1 - ((r : Nat) : Int))) H2
        rw [show ((2 * many : Nat) : Int) - 1 - ((r : Nat) : Int) = ((2 * many - 1 - r : Nat) : Int) by omega]
        exact q _ H2 (by omega) (k1.trans k2) W2
def spDrawn (K : PySem.W.Frag) : Sp := fun vs H Q _ => ∃ (a l : Addr) (ds : List Int) (L A O : Nat), vs = [.ref a, iV L, iV A, iV O] ∧ L ≤ 20 ∧ A ≤ 20 ∧ O ≤ 20 ∧ Wd H a l ds ∧ ∀ H' p n, Kp a H H' → Wd H' a l ds → NetOk n → n.firsts.length ≤ 20 → n.ands.length ≤ 20 → n.outs.length ≤ 20 → Dp K H' (.ref p) n.d → Q (.ref p) H'
theorem ok_drawn {f fN fL : Addr} {fd fdN fdL : FuncData} (F : Fun K "_law_net" "_law_net" sLawNet f fd) (B : Gp mg) (GN : FnOk P w K mg base CX0 1 fN fdN ["w", "many"] spNext) (kN : PySem.W.keepIn K (.ref fN) = true) (bN : Binds K fdN ["w", "many"] []) (gN : mg "_law_next" = some (.ref fN))
    (GL : FnOk P w K mg base CX0 2 fL fdL ["w", "many"] spLiteral) (kL : PySem.W.keepIn K (.ref fL) = true) (bL : Binds K fdL ["w", "many"] []) (gL : mg "_law_literal" = some (.ref fL)) : FnOk P w K mg base CX0 3 f fd ["w", "latches", "ands", "outs"] (spDrawn K) := by
  refine F.ok scLawNet (fun vs H Q E h => ?_) (fun cdv A outer s H vs Q E hr h => ?_)
  · obtain ⟨a, l, ds, L, A, O, rfl, _⟩ := h
    rfl
  · obtain ⟨a, l, ds, L, A, O, rfl, hL, hA, hO, W, q⟩ := h
    have nd := scLawNet.nd
    have hr2 := hr
    have hr1 : Room 1 _ := hr.mono (by decide)
    refine ⟨_, (pss_cons (ps_setLc (i := 4) (own := [("k", 6)]) (g := gName 6) (tt := tYes) (te := tCall spNext [] E0 (tCons (tVar 0) (tCons (tC (.int 2)) tNil)))  rfl nd rfl rfl (sw_true rfl rfl rfl (by decide +kernel)) (pi_range1 (by rfl) B.range (pa_cons (pv 1) pa_nil)) (blkOk_by (own := [("k", 6)]) (N := NLD) (sc := defScope sLawNet) (by decide +kernel)) (fun _ _ _ _ _ => pg_name (i := 6) nd rfl (.inl rfl)) (fun _ _ _ _ _ => pts_nil) (fun _ _ _ _ _ => by exact (pe_call GN hr1 (by rfl) gN kN bN .nil pass0 (pa_cons (pv 0) (pa_cons (pe_int) pa_nil)))))
      (pss_cons (ps_set (i := 5) nd rfl (.inl rfl) (pe_lst pa_nil))
      (C8.pss_cut (ps_for PassesOwn.never rfl (pi_range1 (by rfl) B.range (pa_cons (pv 2) pa_nil)) (pg_name (i := 6) nd rfl (.inl rfl)) (pss_cons (ps_set (i := 7) nd rfl (.inl rfl) (pe_call GL hr2 (by rfl) gL kL bL .nil pass0 (pa_cons (pv 0) (pa_cons (pe_op op_addN (pe_op op_addN (pe_int) (pv 1)) (pv 6)) pa_nil))))
      (pss_one (ps_expr (pe_bm PySem.F.plainAttrs_list PySem.F.slot_list_append PySem.F.type_list_append mt_append (pv 5) (pa_cons (pe_tup (pa_cons (pv 7) (pa_cons (pe_call GL hr2 (by rfl) gL kL bL .nil pass0 (pa_cons (pv 0) (pa_cons (pe_op op_addN (pe_op op_addN (pe_int) (pv 1)) (pv 6)) pa_nil))) pa_nil))) pa_nil))))))
      (pss_cons (ps_set (i := 8) nd rfl (.inr rfl) (pe_op op_addN (pe_op op_addN (pe_int) (pv 1)) (pv 2)))
      (pss_cons (ps_setLc (i := 9) (own := [("k", 6)]) (g := gName 6) (tt := tYes) (te := tCall spLiteral [] E0 (tCons (tVar 0) (tCons (tVar 8) tNil)))  rfl nd rfl rfl (sw_true rfl rfl rfl (by decide +kernel)) (pi_range1 (by rfl) B.range (pa_cons (pv 1) pa_nil)) (blkOk_by (own := [("k", 6)]) (N := NLD) (sc := defScope sLawNet) (by decide +kernel)) (fun _ _ _ _ _ => pg_name (i := 6) nd rfl (.inl rfl)) (fun _ _ _ _ _ => pts_nil) (fun _ _ _ _ _ => by exact (pe_call GL hr2 (by rfl) gL kL bL .nil pass0 (pa_cons (pv 0) (pa_cons (pv 8) pa_nil)))))
      (pss_cons (ps_setLc (i := 10) (own := [("k", 6)]) (g := gName 6) (tt := tYes) (te := tCall spLiteral [] E0 (tCons (tVar 0) (tCons (tVar 8) tNil)))  rfl nd rfl rfl (sw_true rfl rfl rfl (by decide +kernel)) (pi_range1 (by rfl) B.range (pa_cons (pv 3) pa_nil)) (blkOk_by (own := [("k", 6)]) (N := NLD) (sc := defScope sLawNet) (by decide +kernel)) (fun _ _ _ _ _ => pg_name (i := 6) nd rfl (.inl rfl)) (fun _ _ _ _ _ => pts_nil) (fun _ _ _ _ _ => by exact (pe_call GL hr2 (by rfl) gL kL bL .nil pass0 (pa_cons (pv 0) (pa_cons (pv 8) pa_nil)))))
      (pss_one (ps_ret (pe_tup (pa_cons (pe_callTy call_tuple_of (by rfl) B.tu (by decide +kernel) (pa_cons (pv 4) pa_nil)) (pa_cons (pe_callTy call_tuple_of (by rfl) B.tu (by decide +kernel) (pa_cons (pv 5) pa_nil)) (pa_cons (pe_callTy call_tuple_of (by rfl) B.tu (by decide +kernel) (pa_cons (pv 9) pa_nil)) (pa_cons (pe_callTy call_tuple_of (by rfl) B.tu (by decide +kernel) (pa_cons (pv 10) pa_nil)) pa_nil))))))))))))), ?_⟩
    refine ⟨_, rfl, _, rfl, by omega, by omega, fun D nD => ?_⟩
    obtain ⟨neD, neDl⟩ := W.ne2 nD
    refine lc_draw (n := L) (Pk := fun x => x < 2) nD W (by omega) (fun i H1 R hi k1 W1 r => ⟨_, rfl, a, l, ds, 2, rfl, by decide, W1, fun x H2 hx k2 _ W2 => r x H2 (by omega) k2 W2⟩) (fun x => rfl) fun H1 fs k1 W1 lfs bfs eD => ?_
    refine ⟨Nat.zero_le _, fun T nT => ?_⟩
    obtain ⟨neT, neTl⟩ := W1.ne2 nT
    refine ⟨fun σ H' => ∃ (y6 y7 : Option V) (tl : List V) (ps : List (Nat × Nat)), σ = [some (.ref a), some (iV L), some (iV A), some (iV O), some (.ref D), some (.ref T), y6, y7, none, none, none] ∧ Kp a H1 H' ∧ Wd H' a l ds ∧ H' T = some (.lst tl) ∧ DpAll K H' tl (ps.map pr) ∧ ps.length = A ∧ ∀ (k : Nat) (p : Nat × Nat), ps[k]? = some p → p.1 < 2 * (1 + L + k) ∧ p.2 < 2 * (1 + L + k), ?_, ?_⟩
    · refine ⟨_, rfl, _, rfl, by omega, by omega, for_range (fun i σ H' => ∃ (y6 y7 : Option V) (tl : List V) (ps : List (Nat × Nat)), σ = [some (.ref a), some (iV L), some (iV A), some (iV O), some (.ref D), some (.ref T), y6, y7, none, none, none] ∧ Kp a H1 H' ∧ Wd H' a l ds ∧ H' T = some (.lst tl) ∧ DpAll K H' tl (ps.map pr) ∧ ps.length = i ∧ ∀ (k : Nat) (p : Nat × Nat), ps[k]? = some p → p.1 < 2 * (1 + L + k) ∧ p.2 < 2 * (1 + L + k)) ⟨none, none, [], [], rfl, Kp.new nT, W1.new nT, upd_same, .nil, rfl, fun k p h => by simp at h⟩ (fun i σ H' hi h => ?_) (fun σ H' h => h)⟩
      obtain ⟨y6, y7, tl, ps, rfl, k2, W2, eT, dT, lp, hp⟩ := h
      have ltl := dps_len dT
      rw [List.length_map] at ltl
      have hi2 : i < A := by omega
      rw [Int.zero_add]
      refine ⟨_, rfl, _, rfl, 1, L, rfl, rfl, _, rfl, _, i, rfl, rfl, a, l, ds, _, rfl, by omega, by omega, W2, fun x H3 hx k3 W3 => ?_⟩
      have eT3 := k3 T _ neT eT
      refine ⟨_, rfl, .inl ⟨rfl, _, SqL.of eT3⟩, _, rfl, _, rfl, _, rfl, 1, L, rfl, rfl, _, rfl, _, i, rfl, rfl, a, l, ds, _, rfl, by omega, by omega, W3, fun y H4 hy k4 W4 => ⟨line200 (show 2 ≤ 1000 by decide), fun p np => ?_⟩⟩
      have k34 := k3.trans (k4.trans (Kp.new (o := .tup [iV x, iV y]) np))
      have W5 := W4.new (o := .tup [iV x, iV y]) np
      have eT5 := k34 T _ neT eT
      refine ⟨T, _, _, rfl, rfl, eT5, lineS200 (by omega), _, _, _, ps ++ [(x, y)], rfl, (k2.trans k34).put nT, W5.put neT neTl, upd_same, ?_, by rw [List.length_append, lp]; rfl, fun k p hkp => ?_⟩
      · rw [List.map_append]
        exact push_dps eT5 (stay_dps W2 k34 (noLs_pr _) dT) (noLs_pr _) (.tup (SqT.of upd_same) (.cons (.int _) (.cons (.int _) .nil))) rfl
      · rcases snoc_cases hkp with ⟨_, h⟩ | ⟨h1, h2⟩
        · exact hp k p h
        · subst h1
          subst h2
          rw [lp]
          exact ⟨hx, hy⟩
    rintro σ H2 ⟨y6, y7, tl, ps, rfl, k2, W2, eT, dT, lp, hp⟩
    refine ⟨_, rfl, 1, L, rfl, rfl, _, rfl, _, A, rfl, rfl, ?_⟩
    refine ⟨_, rfl, _, rfl, by omega, by omega, fun N nN => ?_⟩
    obtain ⟨neN, neNl⟩ := W2.ne2 nN
    refine lc_draw (n := L) (Pk := fun x => x < 2 * (1 + L + A)) nN W2 (by omega) (fun i H1 R hi k1 W1 r => ⟨_, rfl, _, rfl, a, l, ds, _, rfl, by omega, by omega, W1, fun x H2 hx k2 W2 => r x H2 hx k2 W2⟩) (fun x => rfl) fun H3 ns k3 W3 lns bns eN => ?_
    refine ⟨_, rfl, _, rfl, by omega, by omega, fun U nU => ?_⟩
    obtain ⟨neU, neUl⟩ := W3.ne2 nU
    refine lc_draw (n := O) (Pk := fun x => x < 2 * (1 + L + A)) nU W3 (by omega) (fun i H1 R hi k1 W1 r => ⟨_, rfl, _, rfl, a, l, ds, _, rfl, by omega, by omega, W1, fun x H2 hx k2 W2 => r x H2 hx k2 W2⟩) (fun x => rfl) fun H4 os k4 W4 los bos eU => ?_
    have k24 := k3.trans k4
    have k14 := k2.trans k24
    refine ⟨_, rfl, D, _, rfl, .inl ⟨SqL.of (k14 D _ neD eD), fun t1 n1 => ?_⟩⟩
    have g1 : Kp a H4 _ := Kp.new (o := .tup (fs.map iV)) n1
    have V1 := W4.new (o := .tup (fs.map iV)) n1
    refine ⟨_, rfl, T, _, rfl, .inl ⟨SqL.of ((k24.trans g1) T _ neT eT), fun t2 n2 => ?_⟩⟩
    have g2 := g1.trans (Kp.new (o := .tup tl) n2)
    have V2 := V1.new (o := .tup tl) n2
    refine ⟨_, rfl, N, _, rfl, .inl ⟨SqL.of ((k4.trans g2) N _ neN eN), fun t3 n3 => ?_⟩⟩
    have g3 := g2.trans (Kp.new (o := .tup (ns.map iV)) n3)
    have V3 := V2.new (o := .tup (ns.map iV)) n3
    refine ⟨_, rfl, U, _, rfl, .inl ⟨SqL.of (g3 U _ neU eU), fun t4 n4 => ?_⟩⟩
    have g4 := g3.trans (Kp.new (o := .tup (os.map iV)) n4)
    have V4 := V3.new (o := .tup (os.map iV)) n4
    refine ⟨line200 (show 4 ≤ 1000 by decide), fun p np => ?_⟩
    have g5 := g4.trans (Kp.new (o := .tup [.ref t1, .ref t2, .ref t3, .ref t4]) np)
    have V5 := V4.new (o := .tup [.ref t1, .ref t2, .ref t3, .ref t4]) np
    have p4 : Kp a _ _ := Kp.new (a := a) (o := .tup [.ref t1, .ref t2, .ref t3, .ref t4]) np
    have p3 := (Kp.new (a := a) (o := .tup (os.map iV)) n4).trans p4
    have p2 := (Kp.new (a := a) (o := .tup (ns.map iV)) n3).trans p3
    have p1 := (Kp.new (a := a) (o := .tup tl) n2).trans p2
    refine q _ p ⟨fs, ps, ns, os⟩ (k1.trans (k14.trans g5)) V5 ⟨bfs, by show fs.length ≤ 100; omega, by show ps.length ≤ 200; omega, by show ns.length = fs.length; omega, by show os.length ≤ 100; omega, ?_, ?_, ?_⟩ (by show fs.length ≤ 20; omega) (by show ps.length ≤ 20; omega) (by show os.length ≤ 20; omega) (.tup (SqT.of upd_same) (.cons (.tup (SqT.of (p1 t1 _ (W4.fresh n1) upd_same)) (dps_ints _)) (.cons (.tup (SqT.of (p2 t2 _ (V1.fresh n2) upd_same)) ?_) (.cons (.tup (SqT.of (p3 t3 _ (V2.fresh n3) upd_same)) (dps_ints _)) (.cons (.tup (SqT.of (p4 t4 _ (V3.fresh n4) upd_same)) (dps_ints _)) .nil)))))
    · show ∀ (k : Nat) (p : Nat × Nat), ps[k]? = some p → p.1 < 2 * (1 + fs.length + k) ∧ p.2 < 2 * (1 + fs.length + k)
      rw [lfs]
      exact hp
    · show ∀ x ∈ ns, x < 2 * (1 + fs.length + ps.length)
      rw [lfs, lp]
      exact bns
    · show ∀ x ∈ os, x < 2 * (1 + fs.length + ps.length)
      rw [lfs, lp]
      exact bos
    · exact stay_dps W2 (k24.trans g5) (noLs_pr _) dT
end
end C1

/-! The law's own run. -/
namespace C1
open PySem PySem.Spec PyProof.Rows L2 SX
abbrev sLawBit : Stmt := topS 15
abbrev sLawValues : Stmt := topS 16
abbrev sLawCycle : Stmt := topS 17
abbrev sLawRun : Stmt := topS 18
theorem scLawBit : FnScope ["nodes", "literal"] ["nodes", "literal"] (defScope sLawBit) := ⟨rfl, rfl, rfl, by decide +kernel, rfl, by decide +kernel, by decide +kernel⟩
theorem scLawValues : FnScope ["net", "state", "nodes", "one", "other"] ["net", "state"] (defScope sLawValues) := ⟨rfl, rfl, rfl, by decide +kernel, rfl, by decide +kernel, by decide +kernel⟩
theorem scLawCycle : FnScope ["net", "state", "nodes", "part"] ["net", "state"] (defScope sLawCycle) := ⟨rfl, rfl, rfl, by decide +kernel, rfl, by decide +kernel, by decide +kernel⟩
abbrev NLC : List Str := ["net", "state", "nodes", "part"]
theorem scLawRun : FnScope ["net", "cycles", "state", "found", "turn", "told"] ["net", "cycles"] (defScope sLawRun) := ⟨rfl, rfl, rfl, by decide +kernel, rfl, by decide +kernel, by decide +kernel⟩
section
variable {P : Program} {w : World} {K : PySem.W.Frag} {mg : Str → Option Value} {base : Heap} {H H' : Hp}
theorem ok_lbit {f : Addr} {fd : FuncData} (F : Fun K "_law_bit" "_law_bit" sLawBit f fd) (B : Bl mg) : FnOk P w K mg base CX0 1 f fd ["nodes", "literal"] (spLit K) := by
  refine F.ok scLawBit (fun vs H Q E h => ?_) (fun cdv A outer s H vs Q E hr h => ?_)
  · obtain ⟨l, vals, x, rfl, _⟩ := h
    rfl
  · obtain ⟨l, vals, x, rfl, hl, hb, hx, q⟩ := h
    obtain ⟨v, ev⟩ : ∃ v, vals[x / 2]? = some v := ⟨_, List.getElem?_eq_getElem hx⟩
    have hv := hb v (List.mem_of_getElem? ev)
    refine ⟨_, (pss_one (ps_ret (pe_callTy call_int1 (by rfl) B.int (by decide +kernel) (pa_cons (pe_cmpR op_ne (pe_ix ix_list (pv 0) (pe_op op_fdivNN (pv 1) (pe_int)) (fun _ _ => rfl)) (pe_op op_modNN (pe_callTy call_int1 (by rfl) B.int (by decide +kernel) (pa_cons (pv 1) pa_nil)) (pe_int)) (nomark _)) pa_nil)))), ?_⟩
    refine ⟨_, rfl, _, rfl, x, 2, rfl, rfl, by decide, l, _, _, _, rfl, rfl, hl, atI_nat (int_at ev), _, rfl, .inl ⟨_, rfl, x, 2, rfl, rfl, by decide, ?_⟩⟩
    refine ⟨rfl, .inr ⟨_, rfl, ?_⟩⟩
    have e : iV (litV vals x) = V.int (if (!decide (V.int ((v : Nat) : Int) = V.int ((x % 2 : Nat) : Int))) = true then 1 else 0) := vI (by
      unfold litV
      rw [getD_some ev]
      have hx2 : x % 2 < 2 := Nat.mod_lt _ (by decide)
      by_cases h : v = x % 2
      · rw [if_neg (by rw [decide_eq_true (by rw [h])]; decide), h]
        omega
      · rw [if_pos (by rw [decide_eq_false (fun z => h (by have := V.int.inj z; omega))]; rfl)]
        omega)
    rw [e] at q
    exact q
theorem ok_lvalues {f fL : Addr} {fd fdL : FuncData} (F : Fun K "_law_values" "_law_values" sLawValues f fd) (B : Gp mg) (GL : FnOk P w K mg base CX0 1 fL fdL ["nodes", "literal"] (spLit K)) (kL : PySem.W.keepIn K (.ref fL) = true) (bL : Binds K fdL ["nodes", "literal"] []) (gL : mg "_law_bit" = some (.ref fL)) : FnOk P w K mg base CX0 2 f fd ["net", "state"] (spNodes K) := by
  refine F.ok scLawValues (fun vs H Q E h => ?_) (fun cdv A outer s H vs Q E hr h => ?_)
  · obtain ⟨nA, sA, n, st, rfl, _⟩ := h
    rfl
  · obtain ⟨nA, sA, n, st, rfl, N, O, hs, hl, hb, q⟩ := h
    have nd := scLawValues.nd
    have fl := O.fl
    have al := O.al
    refine ⟨_, (pss_cons (ps_set (i := 2) nd rfl (.inl rfl) (pe_op op_cat (pe_lst (pa_cons (pe_int) pa_nil)) (pe_callTy call_list_of (by rfl) B.list (by decide +kernel) (pa_cons (pv 1) pa_nil))))
      (C8.pss_cut (ps_for PassesOwn.never rfl (pi_tup (pe_ix ix_tup (pv 0) (pe_int) (fun _ _ => rfl))) (pg_tup (by rfl) (pgs_cons (pg_name (i := 3) nd rfl (.inl rfl)) (pgs_cons (pg_name (i := 4) nd rfl (.inl rfl)) pgs_nil))) (pss_one (ps_expr (pe_bm PySem.F.plainAttrs_list PySem.F.slot_list_append PySem.F.type_list_append mt_append (pv 2) (pa_cons (pe_op op_mulN (pe_call GL hr (by rfl) gL kL bL .nil pass0 (pa_cons (pv 2) (pa_cons (pv 3) pa_nil))) (pe_call GL hr (by rfl) gL kL bL .nil pass0 (pa_cons (pv 2) (pa_cons (pv 4) pa_nil)))) pa_nil)))))
      (pss_one (ps_ret (pv 2))))), ?_⟩
    refine ⟨line200 (show 1 ≤ 1000 by decide), fun Z nZ => ⟨_, rfl, sA, _, rfl, .inr (same_tup (Same.up nZ) _ _ hs), fun Y nY => ?_⟩⟩
    have eZ : (upd (upd H Z (.lst [.int 0])) Y (.lst (st.map iV))) Z = some (.lst [.int 0]) := (Same.up nY) _ _ upd_same
    have sZY : Same H (upd (upd H Z (.lst [.int 0])) Y (.lst (st.map iV))) := (Same.up nZ).trans (Same.up nY)
    refine ⟨Z, Y, _, _, rfl, rfl, eZ, upd_same, by show 1 + (st.map iV).length ≤ _; rw [List.length_map]; exact line200 (by omega), fun L nL => ?_⟩
    have sL : Same H (upd (upd (upd H Z (.lst [.int 0])) Y (.lst (st.map iV))) L (.lst ([.int 0] ++ st.map iV))) := sZY.trans (Same.up nL)
    have eL : (upd (upd (upd H Z (.lst [.int 0])) Y (.lst (st.map iV))) L (.lst ([.int 0] ++ st.map iV))) L = some (.lst ((nodesV st (n.ands.take 0)).map iV)) := upd_same
    have nL0 : H L = none := sZY.free nL
    generalize upd (upd (upd H Z (.lst [.int 0])) Y (.lst (st.map iV))) L (.lst ([.int 0] ++ st.map iV)) = H0 at sL eL
    obtain ⟨fA, aA, xA, oA, avs, h0, h1, h2, h3, h4⟩ := N.ex
    have lav := dps_len h2.2
    rw [List.length_map] at lav
    refine ⟨fun σ H' => ∃ y3 y4, σ = [some (.ref nA), some (.ref sA), some (.ref L), y3, y4] ∧ Same H H' ∧ H' L = some (.lst ((nodesV st n.ands).map iV)), ?_, ?_⟩
    · refine ⟨_, rfl, _, _, _, _, rfl, rfl, same_tup sL _ _ h0, atI_nat (j := 1) rfl, aA, rfl, ⟨_, same_tup sL _ _ h2.1⟩, ?_⟩
      refine for_tup (xs := avs) (fun i σ H' => ∃ y3 y4, σ = [some (.ref nA), some (.ref sA), some (.ref L), y3, y4] ∧ Same H H' ∧ H' L = some (.lst ((nodesV st (n.ands.take i)).map iV))) ⟨_, _, rfl, sL, eL⟩ (fun i σ H1 _ hh => ?_) (fun i x σ H1 hx hh => ?_) (fun σ H1 hh => ?_)
      · obtain ⟨_, _, rfl, s1, _⟩ := hh
        exact same_tup s1 _ _ h2.1
      · obtain ⟨_, _, rfl, s1, e⟩ := hh
        obtain ⟨p, ep⟩ : ∃ p, n.ands[i]? = some p := at_len lav.symm hx
        obtain ⟨b, eb, sb⟩ := pr_at h2.2 ep
        rw [hx] at eb
        cases eb
        have hi : i < n.ands.length := (List.getElem?_eq_some_iff.mp ep).1
        obtain ⟨vals, evs⟩ : ∃ vals, vals = nodesV st (n.ands.take i) := ⟨_, rfl⟩
        have lv : vals.length = 1 + n.firsts.length + i := by rw [evs, nodesV_len st i _ (by rw [List.length_take]; omega), hl]
        have bv : Bits vals := by rw [evs]; exact nodesV_bits hb i _ (by rw [List.length_take]; omega)
        rw [← evs] at e
        obtain ⟨o1, o2⟩ := O.ao i p ep
        refine ⟨b, _, rfl, same_tup s1 _ _ sb, rfl, _, _, rfl, _, _, rfl, rfl, ?_⟩
        refine ⟨_, rfl, .inl ⟨rfl, _, SqL.of e⟩, ?_⟩
        refine ⟨_, rfl, _, rfl, L, vals, p.1, rfl, SqL.of e, bv, by omega, _, rfl, _, rfl, L, vals, p.2, rfl, SqL.of e, bv, by omega, litV vals p.1, litV vals p.2, rfl, rfl, ?_, ?_⟩
        · have := litV_lt vals p.1
          omega
        refine ⟨L, _, _, rfl, rfl, e, by rw [List.length_map]; exact lineS200 (by omega), _, _, rfl, same_put s1 nL0, ?_⟩
        rw [upd_same, take_snoc ep, nodesV_snoc, ← evs, List.map_append]
        rfl
      · obtain ⟨_, _, rfl, s1, e⟩ := hh
        refine ⟨_, _, rfl, s1, ?_⟩
        rw [e, lav, List.take_length]
    · rintro σ H1 ⟨_, _, rfl, s1, e⟩
      exact ⟨_, rfl, q H1 L s1 nL0 e⟩
theorem ok_lcycle {f fV fL : Addr} {fd fdV fdL : FuncData} (F : Fun K "_law_cycle" "_law_cycle" sLawCycle f fd) (GV : FnOk P w K mg base CX0 2 fV fdV ["net", "state"] (spNodes K)) (kV : PySem.W.keepIn K (.ref fV) = true) (bV : Binds K fdV ["net", "state"] []) (gV : mg "_law_values" = some (.ref fV))
    (GL : FnOk P w K mg base CX0 1 fL fdL ["nodes", "literal"] (spLit K)) (kL : PySem.W.keepIn K (.ref fL) = true) (bL : Binds K fdL ["nodes", "literal"] []) (gL : mg "_law_bit" = some (.ref fL)) (B : Gp mg) : FnOk P w K mg base CX0 3 f fd ["net", "state"] (spCycle K) := by
  refine F.ok scLawCycle (fun vs H Q E h => ?_) (fun cdv A outer s H vs Q E hr h => ?_)
  · obtain ⟨nA, sA, n, st, rfl, _⟩ := h
    rfl
  · obtain ⟨nA, sA, n, st, rfl, N, O, hs, hl, hb, q⟩ := h
    have nd := scLawCycle.nd
    have hr1 : Room 1 _ := hr.mono (by decide)
    have hr2 := hr
    have fl := O.fl
    have al := O.al
    have ol := O.ol
    have nl := O.nl
    refine ⟨_, (pss_cons (ps_set (i := 2) nd rfl (.inr rfl) (pe_call GV hr2 (by rfl) gV kV bV .nil pass0 (pa_cons (pv 0) (pa_cons (pv 1) pa_nil))))
      (pss_one (ps_ret (pe_tup (pa_cons (pe_callTy call_tuple_of (by rfl) B.tu (by decide +kernel) (pa_cons (pe_lc (own := [("part", 3)]) (g := gName 3) (tt := tYes) (te := tCall (spLit K) [] E0 (tCons (tVar 2) (tCons (tVar 3) tNil)))  rfl nd (pi_tup (pe_ix ix_tup (pv 0) (pe_int) (fun _ _ => rfl))) (blkOk_by (own := [("part", 3)]) (N := NLC) (sc := defScope sLawCycle) (by decide +kernel)) (fun _ _ _ _ _ => pg_name (i := 3) nd rfl (.inl rfl)) (fun _ _ _ _ _ => pts_nil) (fun _ _ _ _ _ => by exact (pe_call GL hr1 (by rfl) gL kL bL .nil pass0 (pa_cons (pv 2) (pa_cons (pv 3) pa_nil))))) pa_nil)) (pa_cons (pe_callTy call_tuple_of (by rfl) B.tu (by decide +kernel) (pa_cons (pe_lc (own := [("part", 3)]) (g := gName 3) (tt := tYes) (te := tCall (spLit K) [] E0 (tCons (tVar 2) (tCons (tVar 3) tNil)))  rfl nd (pi_tup (pe_ix ix_tup (pv 0) (pe_int) (fun _ _ => rfl))) (blkOk_by (own := [("part", 3)]) (N := NLC) (sc := defScope sLawCycle) (by decide +kernel)) (fun _ _ _ _ _ => pg_name (i := 3) nd rfl (.inl rfl)) (fun _ _ _ _ _ => pts_nil) (fun _ _ _ _ _ => by exact (pe_call GL hr1 (by rfl) gL kL bL .nil pass0 (pa_cons (pv 2) (pa_cons (pv 3) pa_nil))))) pa_nil)) pa_nil)))))), ?_⟩
    refine ⟨_, rfl, _, rfl, nA, sA, n, st, rfl, N, O, hs, hl, hb, fun H1 L s1 nL eL => ?_⟩
    obtain ⟨fA, aA, xA, oA, avs, h0, h1, h2, h3, h4⟩ := (N.same s1).ex
    have lv : (nodesV st n.ands).length = 1 + n.firsts.length + n.ands.length := by rw [nodesV_len st _ _ rfl, hl]
    have bv := nodesV_bits hb _ n.ands rfl
    refine ⟨_, rfl, _, _, _, _, rfl, rfl, h0, atI_nat (j := 3) rfl, oA, rfl, ⟨_, h4⟩, fun D nD => ?_⟩
    refine lc_lits (is := n.outs) (vals := nodesV st n.ands) (l := L) nD h4 (SqL.of eL) bv (fun i hi => by have := O.oo i hi; omega) (by omega) (fun x => ⟨rfl, rfl, rfl⟩) ?_
    refine ⟨D, _, rfl, .inl ⟨SqL.of upd_same, fun t1 nt1 => ?_⟩⟩
    have sB : Same H1 (upd (upd H1 D (.lst ((litsV (nodesV st n.ands) n.outs).map iV))) t1 (.tup ((litsV (nodesV st n.ands) n.outs).map iV))) := (same_new nD).trans (same_new nt1)
    have et1 : (upd (upd H1 D (.lst ((litsV (nodesV st n.ands) n.outs).map iV))) t1 (.tup ((litsV (nodesV st n.ands) n.outs).map iV))) t1 = some (.tup ((toldS n st).map iV)) := upd_same
    generalize upd (upd H1 D (.lst ((litsV (nodesV st n.ands) n.outs).map iV))) t1 (.tup ((litsV (nodesV st n.ands) n.outs).map iV)) = H2 at sB et1
    refine ⟨_, rfl, _, _, _, _, rfl, rfl, same_tup sB _ _ h0, atI_nat (j := 2) rfl, xA, rfl, ⟨_, same_tup sB _ _ h3⟩, fun D2 nD2 => ?_⟩
    refine lc_lits (is := n.nexts) (vals := nodesV st n.ands) (l := L) nD2 (same_tup sB _ _ h3) (SqL.of (sB _ _ eL)) bv (fun i hi => by have := O.no i hi; omega) (by omega) (fun x => ⟨rfl, rfl, rfl⟩) ?_
    refine ⟨D2, _, rfl, .inl ⟨SqL.of upd_same, fun t2 nt2 => ⟨line200 (show 2 ≤ 1000 by decide), fun p np => ?_⟩⟩⟩
    have s3 : Same H2 (upd (upd (upd H2 D2 (.lst ((litsV (nodesV st n.ands) n.nexts).map iV))) t2 (.tup ((litsV (nodesV st n.ands) n.nexts).map iV))) p (.tup [.ref t1, .ref t2])) := ((same_new nD2).trans (same_new nt2)).trans (same_new np)
    exact q _ p t1 t2 ((s1.trans sB).trans s3) (SqT.of upd_same) (SqT.of (s3 _ _ et1)) (SqT.of ((same_new np) _ _ upd_same))
theorem ok_lrun {f fC : Addr} {fd fdC : FuncData} (F : Fun K "_law_run" "_law_run" sLawRun f fd) (GC : FnOk P w K mg base CX0 3 fC fdC ["net", "state"] (spCycle K)) (kC : PySem.W.keepIn K (.ref fC) = true) (bC : Binds K fdC ["net", "state"] []) (gC : mg "_law_cycle" = some (.ref fC)) (B : Gp mg) :
    FnOk P w K mg base CX0 4 f fd ["net", "cycles"] (spRunN K) := by
  refine F.ok scLawRun (fun vs H Q E h => ?_) (fun cdv A outer s H vs Q E hr h => ?_)
  · obtain ⟨nA, k, n, rfl, _⟩ := h
    rfl
  · obtain ⟨nA, k, n, rfl, hk, N, O, q⟩ := h
    have nd := scLawRun.nd
    refine ⟨_, (pss_cons (ps_set (i := 2) nd rfl (.inl rfl) (pe_ix ix_tup (pv 0) (pe_int) (fun _ _ => rfl)))
      (pss_cons (ps_set (i := 3) nd rfl (.inl rfl) (pe_lst pa_nil))
      (C8.pss_cut (ps_for PassesOwn.never rfl (pi_range1 (by rfl) B.range (pa_cons (pv 1) pa_nil)) (pg_name (i := 4) nd rfl (.inl rfl)) (pss_cons (ps_asg (pe_call GC hr (by rfl) gC kC bC .nil pass0 (pa_cons (pv 0) (pa_cons (pv 2) pa_nil))) (pg_tup (by rfl) (pgs_cons (pg_name (i := 5) nd rfl (.inl rfl)) (pgs_cons (pg_name (i := 2) nd rfl (.inl rfl)) pgs_nil))))
      (pss_one (ps_expr (pe_bm PySem.F.plainAttrs_list PySem.F.slot_list_append PySem.F.type_list_append mt_append (pv 3) (pa_cons (pv 5) pa_nil))))))
      (pss_one (ps_ret (pe_callTy call_tuple_of (by rfl) B.tu (by decide +kernel) (pa_cons (pv 3) pa_nil))))))), ?_⟩
    obtain ⟨fA, aA, xA, oA, avs, h0, h1, h2, h3, h4⟩ := N.ex
    refine ⟨_, rfl, _, _, _, _, rfl, rfl, h0, atI_nat (j := 0) rfl, ?_⟩
    refine ⟨Nat.zero_le _, fun T nT => ?_⟩
    let It : Nat → L2.St → Hp → Prop := fun i σ H5 => ∃ (sA : Addr) (y4 y5 : Option V) (tl : List V), σ = [some (.ref nA), some (iV k), some (.ref sA), some (.ref T), y4, y5] ∧ Same H H5 ∧ SqT K H5 sA ((behS n i n.firsts).map iV) ∧ H5 T = some (.lst tl) ∧ DpAll K H5 tl ((runS n i n.firsts).map memD)
    refine ⟨fun σ H5 => It k σ H5, ?_, ?_⟩
    · refine ⟨_, rfl, _, rfl, by omega, by omega, for_range It ⟨fA, none, none, [], rfl, same_new nT, same_tup (same_new nT) _ _ h1, upd_same, .nil⟩ (fun i σ H5 hi hh => ?_) (fun σ H5 hh => hh)⟩
      obtain ⟨sA, y4, y5, tl, rfl, s5, hs, eT, dT⟩ := hh
      have lt := dps_len dT
      rw [List.length_map, runS_len] at lt
      obtain ⟨b1, b2⟩ := behS_ok O i rfl O.fb
      refine ⟨_, rfl, _, rfl, nA, sA, n, behS n i n.firsts, rfl, N.same s5, O, hs, b1, b2, fun H6 p t1 t2 s6 sp st1 st2 => ?_⟩
      refine ⟨p, _, rfl, sp, rfl, _, _, rfl, _, _, rfl, rfl, ?_⟩
      refine ⟨_, rfl, .inl ⟨rfl, _, SqL.of (s6 _ _ eT)⟩, _, rfl, T, _, _, rfl, rfl, s6 _ _ eT, lineS200 (by omega), ?_⟩
      refine ⟨t2, _, _, _, rfl, same_put (s5.trans s6) nT, ?_, upd_same, ?_⟩
      · rw [behS_succ]
        exact tups_upd (s6 _ _ eT) _ _ st2
      · rw [runS_succ, List.map_append]
        exact push_dps (s6 _ _ eT) (dps_stay (same_tup s6) _ _ dT (noLs_mem2 _)) (noLs_mem2 _) (.tup st1 (dps_ints _)) (by exact noLs_int _)
    · rintro σ H5 ⟨sA, y4, y5, tl, rfl, s5, hs, eT, dT⟩
      refine ⟨_, rfl, T, _, rfl, .inl ⟨SqL.of eT, fun t0 nt0 => ?_⟩⟩
      exact q _ t0 (s5.trans (same_new nt0)) (.tup (SqT.of upd_same) (dps_stay (same_tup (same_new nt0)) _ _ dT (noLs_mem2 _)))
end
end C1

/-! The law's bent nets. -/
namespace C1
open PySem PySem.Spec PyProof.Rows L2 SX
abbrev sLawOdd : Stmt := topS 23
abbrev sLawTurned : Stmt := topS 24
abbrev sLawBentAnds : Stmt := topS 25
abbrev sLawBent : Stmt := topS 26
theorem scLawOdd : FnScope ["w", "many"] ["w", "many"] (defScope sLawOdd) := ⟨rfl, rfl, rfl, by decide +kernel, rfl, by decide +kernel, by decide +kernel⟩
theorem scLawTurned : FnScope ["rows", "at", "thing"] ["rows", "at", "thing"] (defScope sLawTurned) := ⟨rfl, rfl, rfl, by decide +kernel, rfl, by decide +kernel, by decide +kernel⟩
theorem scLawBentAnds : FnScope ["w", "net", "firsts", "ands", "nexts", "outs", "at", "pair"] ["w", "net"] (defScope sLawBentAnds) := ⟨rfl, rfl, rfl, by decide +kernel, rfl, by decide +kernel, by decide +kernel⟩
theorem scLawBent : FnScope ["w", "net", "firsts", "ands", "nexts", "outs", "many", "turn", "first"] ["w", "net"] (defScope sLawBent) := ⟨rfl, rfl, rfl, by decide +kernel, rfl, by decide +kernel, by decide +kernel⟩
def sd : Nat → PyData → Bool
  | _, .none => true
  | _, .bool _ => true
  | _, .int _ => true
  | _, .str s => decide (s ∈ strsL)
  | n + 1, .tuple ds => decide (ds.length ≤ 100) && ds.all (sd n)
  | _, _ => false
theorem sd_mem {n : Nat} {ds : List PyData} (h : sd (n + 1) (.tuple ds) = true) {d : PyData} (hd : d ∈ ds) : sd n d = true := List.all_eq_true.mp (Bool.and_eq_true_iff.mp h).2 d hd
theorem sd_len {n : Nat} {ds : List PyData} (h : sd (n + 1) (.tuple ds) = true) : ds.length ≤ 100 := of_decide_eq_true (Bool.and_eq_true_iff.mp h).1
theorem sd_tup {n : Nat} {ds : List PyData} (hl : ds.length ≤ 100) (h : ∀ d ∈ ds, sd n d = true) : sd (n + 1) (.tuple ds) = true := Bool.and_eq_true_iff.mpr ⟨decide_eq_true hl, List.all_eq_true.mpr h⟩
theorem sd_gd : ∀ (n : Nat) (d : PyData), sd n d = true → gd n d = true
  | n, .none, _ => by cases n <;> rfl
  | n, .bool _, _ => by cases n <;> rfl
  | n, .int _, _ => by cases n <;> rfl
  | n, .str s, h => by cases n <;> exact h
  | n, .list _, h => by cases n <;> cases h
  | n, .dict _, h => by cases n <;> cases h
  | 0, .tuple _, h => by cases h
  | n + 1, .tuple ds, h => gd_tup (by have := sd_len h; omega) fun d hd => sd_gd n d (sd_mem h hd)
theorem sd_up : ∀ (n : Nat) (d : PyData), sd n d = true → sd (n + 1) d = true
  | n, .none, _ => rfl
  | n, .bool _, _ => rfl
  | n, .int _, _ => rfl
  | n, .str s, h => by cases n <;> exact h
  | n, .list _, h => by cases n <;> cases h
  | n, .dict _, h => by cases n <;> cases h
  | 0, .tuple _, h => by cases h
  | n + 1, .tuple ds, h => sd_tup (sd_len h) fun d hd => sd_up n d (sd_mem h hd)
theorem sd_le {n m : Nat} {d : PyData} (h : sd n d = true) (hm : n ≤ m) : sd m d = true := by
  induction hm with
  | refl => exact h
  | step _ ih => exact sd_up _ _ ih
theorem sd_noL {n : Nat} {d : PyData} (h : sd n d = true) : noL d = true := (gd_ok _ _ (sd_gd _ _ h)).1
theorem sd_int {n : Nat} (k : Int) : sd n (.int k) = true := by cases n <;> rfl
theorem sd_ints {n : Nat} {m : List Nat} (h : m.length ≤ 100) : sd (n + 1) (.tuple (m.map iD)) = true := sd_tup (by rw [List.length_map]; exact h) fun d hd => by
  obtain ⟨k, _, rfl⟩ := List.mem_map.mp hd
  exact sd_int _
theorem sd_prs {n : Nat} {m : List (Nat × Nat)} (h : m.length ≤ 100) : sd (n + 2) (.tuple (m.map pr)) = true := sd_tup (by rw [List.length_map]; exact h) fun d hd => by
  obtain ⟨k, _, rfl⟩ := List.mem_map.mp hd
  exact sd_tup (show 2 ≤ 100 by decide) fun d hd => by
    simp only [List.mem_cons, List.not_mem_nil, or_false] at hd
    rcases hd with rfl | rfl <;> exact sd_int _
theorem sd_four {n : Nat} {d1 d2 d3 d4 : PyData} (h1 : sd n d1 = true) (h2 : sd n d2 = true) (h3 : sd n d3 = true) (h4 : sd n d4 = true) : sd (n + 1) (.tuple [d1, d2, d3, d4]) = true := sd_tup (show 4 ≤ 100 by decide) fun d hd => by
  simp only [List.mem_cons, List.not_mem_nil, or_false] at hd
  rcases hd with rfl | rfl | rfl | rfl <;> assumption
theorem sd_net {n : Net} (h1 : n.firsts.length ≤ 20) (h2 : n.ands.length ≤ 20) (h3 : n.nexts.length ≤ 20) (h4 : n.outs.length ≤ 20) : sd 3 n.d = true := sd_four (sd_ints (by omega)) (sd_prs (by omega)) (sd_ints (by omega)) (sd_ints (by omega))
section
variable {P : Program} {w : World} {K : PySem.W.Frag} {mg : Str → Option Value} {base : Heap} {H H' : Hp}
theorem four_dp {p : Addr} {v1 v2 v3 v4 : V} {d1 d2 d3 d4 : PyData} (s : SqT K H p [v1, v2, v3, v4]) (h1 : Dp K H v1 d1) (h2 : Dp K H v2 d2) (h3 : Dp K H v3 d3) (h4 : Dp K H v4 d4) : Dp K H (.ref p) (.tuple [d1, d2, d3, d4]) := .tup s (.cons h1 (.cons h2 (.cons h3 (.cons h4 .nil))))
theorem cut_dps {xs : List V} {es : List PyData} (h : DpAll K H xs es) (lo hi : Option Int) : ∃ fs, DpAll K H (cutV xs lo hi) fs ∧ fs.length ≤ es.length ∧ ∀ d ∈ fs, d ∈ es := by
  unfold cutV
  refine ⟨_, dps_take (dps_drop h _) _, ?_, fun d hd => List.mem_of_mem_drop (List.mem_of_mem_take hd)⟩
  rw [List.length_take, List.length_drop]
  omega
def spOdd (K : PySem.W.Frag) : Sp := fun vs H Q _ => ∃ (a l : Addr) (ds : List Int) (many : Nat), vs = [.ref a, iV many] ∧ Wd H a l ds ∧ ∀ H' v d, Kp a H H' → Wd H' a l ds → Dp K H' v d → sd 1 d = true → Q v H'
theorem ok_odd {f fP : Addr} {fd fdP : FuncData} (F : Fun K "_law_odd" "_law_odd" sLawOdd f fd) (GP : FnOk P w K mg base CX0 2 fP fdP ["w", "rows"] (spPick K)) (kP : PySem.W.keepIn K (.ref fP) = true) (bP : Binds K fdP ["w", "rows"] []) (gP : mg "_law_pick" = some (.ref fP)) : FnOk P w K mg base CX0 3 f fd ["w", "many"] (spOdd K) := by
  refine F.ok scLawOdd (fun vs H Q E h => ?_) (fun cdv A outer s H vs Q E hr h => ?_)
  · obtain ⟨a, l, ds, many, rfl, _⟩ := h
    rfl
  · obtain ⟨a, l, ds, many, rfl, W, q⟩ := h
    refine ⟨_, (pss_one (ps_ret (pe_call GP hr (by rfl) gP kP bP .nil pass0 (pa_cons (pv 0) (pa_cons (pe_lst (pa_cons (pe_op op_mulN (pe_int) (pv 1)) (pa_cons (pe_op op_addN (pe_op op_mulN (pe_int) (pv 1)) (pe_int)) (pa_cons (pe_op op_addN (pe_op op_mulN (pe_int) (pv 1)) (pe_int)) (pa_cons (pe_un un_neg pe_int) (pa_cons (pe_un un_neg pe_int) (pa_cons (pe_bl) (pa_cons (pe_bl) (pa_cons (pe_non) (pa_cons (pe_str) (pa_cons (pe_tup (pa_cons (pe_int) pa_nil)) pa_nil))))))))))) pa_nil))))), ?_⟩
    refine ⟨_, rfl, _, rfl, 2, many, rfl, rfl, by decide, _, rfl, 2, many, rfl, rfl, by decide, _, 1, rfl, rfl, _, rfl, 2, many, rfl, rfl, by decide, _, 6, rfl, rfl, _, rfl, _, rfl, line200 (show 1 ≤ 1000 by decide), fun p np => ⟨line200 (show 10 ≤ 1000 by decide), fun r nr => ?_⟩⟩
    refine ⟨a, l, r, ds, _, [iD (2 * many), iD (2 * many + 1), iD (2 * many + 6), .int (-1), .int (-2), .bool true, .bool false, .none, .str "0", .tuple [.int 0]], rfl, (W.new np).new nr, upd_same, ?_, rfl, by show 0 < 10; decide, fun H' v d k1 W1 hv hm => ?_⟩
    · exact .cons (.int _) (.cons (.int _) (.cons (.int _) (.cons (.int _) (.cons (.int _) (.cons (.bl _) (.cons (.bl _) (.cons .non (.cons (.str _) (.cons (.tup (SqT.of ((Same.up nr) _ _ upd_same)) (.cons (.int 0) .nil)) .nil)))))))))
    · refine q H' v d (((Kp.new np).trans (Kp.new nr)).trans k1) W1 hv ?_
      simp only [List.mem_cons, List.not_mem_nil, or_false] at hm
      rcases hm with rfl | rfl | rfl | rfl | rfl | rfl | rfl | rfl | rfl | rfl <;> first | rfl | decide +kernel
def spTurned (K : PySem.W.Frag) : Sp := fun vs H Q _ => ∃ (b : Addr) (i k : Nat) (v : V) (d : PyData) (es : List PyData), vs = [.ref b, iV i, v] ∧ Dp K H (.ref b) (.tuple es) ∧ sd (k + 1) (.tuple es) = true ∧ i < es.length ∧ Dp K H v d ∧ sd k d = true ∧ ∀ H' p d', Same H H' → Dp K H' (.ref p) d' → sd (k + 1) d' = true → Q (.ref p) H'
theorem ok_turned {f : Addr} {fd : FuncData} (F : Fun K "_law_turned" "_law_turned" sLawTurned f fd) : FnOk P w K mg base CX0 1 f fd ["rows", "at", "thing"] (spTurned K) := by
  refine F.ok scLawTurned (fun vs H Q E h => ?_) (fun cdv A outer s H vs Q E hr h => ?_)
  · obtain ⟨b, i, k, v, d, es, rfl, _⟩ := h
    rfl
  · obtain ⟨b, i, k, v, d, es, rfl, hb, hs, hi, hv, hd, q⟩ := h
    have hl := sd_len hs
    have nes : noLs es = true := sd_noL hs
    obtain ⟨_, xs, e0, sb, da⟩ := dp_tup hb
    cases e0
    have lda := dps_len da
    have nw1 : ¬ (HT.sIx xs.length 0 none = 0 ∧ HT.sIx xs.length xs.length (some ((i : Nat) : Int)) = xs.length) := fun z => by
      have := z.2
      rw [HT.sIx_nat] at this
      omega
    have nw2 : ¬ (HT.sIx xs.length 0 (some (((i : Nat) : Int) + 1)) = 0 ∧ HT.sIx xs.length xs.length none = xs.length) := fun z => by
      have := z.1
      rw [show ((i : Nat) : Int) + 1 = ((i + 1 : Nat) : Int) by omega, HT.sIx_nat] at this
      omega
    refine ⟨_, (pss_one (ps_ret (pe_op op_catA (pe_op op_catA (pe_slice sl_tup (pv 0) po_none (po_some (pv 1))) (pe_tup (pa_cons (pv 2) pa_nil))) (pe_slice sl_tup (pv 0) (po_some (pe_op op_add (pv 1) (pe_int))) po_none)))), ?_⟩
    refine ⟨_, rfl, _, rfl, _, rfl, b, _, rfl, sb, nw1, fun p1 np1 => ⟨_, rfl, line200 (show 1 ≤ 1000 by decide), fun p2 np2 => ?_⟩⟩
    have s12 : Same H _ := (Same.up (o := .tup (cutV xs none (some ((i : Nat) : Int)))) np1).trans (Same.up (o := .tup [v]) np2)
    have h1 := cutV_length xs none (some ((i : Nat) : Int))
    have h2 := cutV_length xs (some (((i : Nat) : Int) + 1)) none
    refine catA_read (xs := cutV xs none (some ((i : Nat) : Int))) (ys := [v]) (same_tup (Same.up np2) _ _ (SqT.of upd_same)) (SqT.of upd_same) (by show _ + 1 ≤ sizeLine; exact line200 (by omega)) fun p3 H3 s3 _ h3 => ?_
    have s13 := s12.trans s3
    refine ⟨_, rfl, _, rfl, _, _, rfl, rfl, _, rfl, b, _, rfl, same_tup s13 _ _ sb, nw2, fun p4 np4 => ?_⟩
    have s4 : Same H3 _ := Same.up (o := .tup (cutV xs (some (((i : Nat) : Int) + 1)) none)) np4
    refine catA_read (xs := cutV xs none (some ((i : Nat) : Int)) ++ [v]) (ys := cutV xs (some (((i : Nat) : Int) + 1)) none) (same_tup s4 _ _ h3) (SqT.of upd_same) (by rw [List.length_append]; show _ + 1 + _ ≤ sizeLine; exact line200 (by omega)) fun p H' s5 _ hp => ?_
    have sf := s13.trans (s4.trans s5)
    rw [cut_take xs i (by omega), cut_drop xs i (by omega)] at hp
    have nt : noLs (es.take i) = true := sd_noL (n := k + 1) (d := .tuple (es.take i)) (sd_tup (by rw [List.length_take]; omega) fun d hd => sd_mem hs (List.mem_of_mem_take hd))
    have ndr : noLs (es.drop (i + 1)) = true := sd_noL (n := k + 1) (d := .tuple (es.drop (i + 1))) (sd_tup (by rw [List.length_drop]; omega) fun d hd => sd_mem hs (List.mem_of_mem_drop hd))
    refine q H' p (.tuple ((es.take i ++ [d]) ++ es.drop (i + 1))) sf (.tup hp (dps_app (dps_app (dps_stay (same_tup sf) _ _ (dps_take da i) nt) (.cons (dp_stay (same_tup sf) _ _ hv (sd_noL hd)) .nil)) (dps_stay (same_tup sf) _ _ (dps_drop da (i + 1)) ndr))) (sd_tup ?_ fun x hx => ?_)
    · rw [List.length_append, List.length_append, List.length_take, List.length_drop]
      show _ + 1 + _ ≤ 100
      omega
    · rcases List.mem_append.mp hx with h | h
      · rcases List.mem_append.mp h with h | h
        · exact sd_mem hs (List.mem_of_mem_take h)
        · rw [List.mem_singleton.mp h]
          exact hd
      · exact sd_mem hs (List.mem_of_mem_drop h)
def spBent (K : PySem.W.Frag) : Sp := fun vs H Q _ => ∃ (a l nA : Addr) (ds : List Int) (n : Net), vs = [.ref a, .ref nA] ∧ Wd H a l ds ∧ Dp K H (.ref nA) n.d ∧ NetOk n ∧ n.firsts.length ≤ 20 ∧ n.ands.length ≤ 20 ∧ n.outs.length ≤ 20 ∧ ∀ H' v d, Kp a H H' → Wd H' a l ds → Dp K H' v d → sd 4 d = true → Q v H'
def spBentA (K : PySem.W.Frag) : Sp := fun vs H Q _ => ∃ (a l nA : Addr) (ds : List Int) (n : Net), vs = [.ref a, .ref nA] ∧ Wd H a l ds ∧ Dp K H (.ref nA) n.d ∧ NetOk n ∧ n.firsts.length ≤ 20 ∧ n.ands.length ≤ 20 ∧ n.outs.length ≤ 20 ∧ 0 < n.ands.length ∧ ∀ H' v d, Kp a H H' → Wd H' a l ds → Dp K H' v d → sd 4 d = true → Q v H'
theorem ok_bentAnds {f fN fP fO fT : Addr} {fd fdN fdP fdO fdT : FuncData} (F : Fun K "_law_bent_ands" "_law_bent_ands" sLawBentAnds f fd) (B : Gp mg)
    (GN : FnOk P w K mg base CX0 1 fN fdN ["w", "many"] spNext) (kN : PySem.W.keepIn K (.ref fN) = true) (bN : Binds K fdN ["w", "many"] []) (gN : mg "_law_next" = some (.ref fN))
    (GP : FnOk P w K mg base CX0 2 fP fdP ["w", "rows"] (spPick K)) (kP : PySem.W.keepIn K (.ref fP) = true) (bP : Binds K fdP ["w", "rows"] []) (gP : mg "_law_pick" = some (.ref fP))
    (GO : FnOk P w K mg base CX0 3 fO fdO ["w", "many"] (spOdd K)) (kO : PySem.W.keepIn K (.ref fO) = true) (bO : Binds K fdO ["w", "many"] []) (gO : mg "_law_odd" = some (.ref fO))
    (GT : FnOk P w K mg base CX0 1 fT fdT ["rows", "at", "thing"] (spTurned K)) (kT : PySem.W.keepIn K (.ref fT) = true) (bT : Binds K fdT ["rows", "at", "thing"] []) (gT : mg "_law_turned" = some (.ref fT)) :
    FnOk P w K mg base CX0 4 f fd ["w", "net"] (spBentA K) := by
  refine F.ok scLawBentAnds (fun vs H Q E h => ?_) (fun cdv A outer s H vs Q E hr h => ?_)
  · obtain ⟨a, l, nA, ds, n, rfl, _⟩ := h
    rfl
  · obtain ⟨a, l, nA, ds, n, rfl, W, hd, O, lf, la, lo, pos, q⟩ := h
    have nd := scLawBentAnds.nd
    have hr3 := hr
    have hr2 : Room 2 _ := hr.mono (by decide)
    have hr1 : Room 1 _ := hr.mono (by decide)
    have ln := O.nl
    obtain ⟨fA, aA, xA, oA, avs, h0, h1, h2, h3, h4⟩ := (NP.of hd).ex
    have lav := dps_len h2.2
    rw [List.length_map] at lav
    have PF : ∀ {H'}, Kp a H H' → Dp K H' (.ref fA) (.tuple (n.firsts.map iD)) := fun k => .tup (W.tup k _ _ h1) (dps_ints _)
    have PA : ∀ {H'}, Kp a H H' → Dp K H' (.ref aA) (.tuple (n.ands.map pr)) := fun k => .tup (W.tup k _ _ h2.1) (stay_dps W k (noLs_pr _) h2.2)
    have PN : ∀ {H'}, Kp a H H' → Dp K H' (.ref xA) (.tuple (n.nexts.map iD)) := fun k => .tup (W.tup k _ _ h3) (dps_ints _)
    have PO : ∀ {H'}, Kp a H H' → Dp K H' (.ref oA) (.tuple (n.outs.map iD)) := fun k => .tup (W.tup k _ _ h4) (dps_ints _)
    refine ⟨_, (pss_cons (ps_asg (pv 1) (pg_tup (by rfl) (pgs_cons (pg_name (i := 2) nd rfl (.inl rfl)) (pgs_cons (pg_name (i := 3) nd rfl (.inl rfl)) (pgs_cons (pg_name (i := 4) nd rfl (.inl rfl)) (pgs_cons (pg_name (i := 5) nd rfl (.inl rfl)) pgs_nil))))))
      (pss_cons (ps_set (i := 6) nd rfl (.inl rfl) (pe_call GN hr1 (by rfl) gN kN bN .nil pass0 (pa_cons (pv 0) (pa_cons (pe_callB call_len_seq (by rfl) B.len PySem.boot_len (pa_cons (pv 3) pa_nil)) pa_nil))))
      (C8.pss_cut (ps_if (pt_cmpR op_gt (pe_call GN hr1 (by rfl) gN kN bN .nil pass0 (pa_cons (pv 0) (pa_cons (pe_int) pa_nil))) (pe_int) (nomark _)) (pss_one (ps_set (i := 7) nd rfl (.inl rfl) (pe_call GT hr1 (by rfl) gT kT bT .nil pass0 (pa_cons (pe_ix ix_tup (pv 3) (pv 6) (fun _ _ => rfl)) (pa_cons (pe_call GN hr1 (by rfl) gN kN bN .nil pass0 (pa_cons (pv 0) (pa_cons (pe_int) pa_nil))) (pa_cons (pe_call GO hr3 (by rfl) gO kO bO .nil pass0 (pa_cons (pv 0) (pa_cons (pe_op op_addN (pe_op op_addN (pe_int) (pe_callB call_len_seq (by rfl) B.len PySem.boot_len (pa_cons (pv 2) pa_nil))) (pv 6)) pa_nil))) pa_nil)))))) (pss_one (ps_set (i := 7) nd rfl (.inl rfl) (pe_call GP hr2 (by rfl) gP kP bP .nil pass0 (pa_cons (pv 0) (pa_cons (pe_lst (pa_cons (pe_op op_catA (pe_ix ix_tup (pv 3) (pv 6) (fun _ _ => rfl)) (pe_tup (pa_cons (pe_int) pa_nil))) (pa_cons (pe_slice sl_tup (pe_ix ix_tup (pv 3) (pv 6) (fun _ _ => rfl)) po_none (po_some (pe_int))) (pa_cons (pe_tup pa_nil) (pa_cons (pe_non) (pa_cons (pe_int) (pa_cons (pe_str) pa_nil))))))) pa_nil))))))
      (pss_one (ps_ret (pe_tup (pa_cons (pv 2) (pa_cons (pe_call GT hr1 (by rfl) gT kT bT .nil pass0 (pa_cons (pv 3) (pa_cons (pv 6) (pa_cons (pv 7) pa_nil)))) (pa_cons (pv 4) (pa_cons (pv 5) pa_nil)))))))))), ?_⟩
    refine ⟨_, rfl, nA, _, rfl, h0, rfl, _, _, rfl, _, _, rfl, _, _, rfl, _, _, rfl, rfl, ?_⟩
    refine ⟨_, rfl, _, rfl, aA, _, rfl, .inr h2.1, a, l, ds, _, rfl, by omega, W, fun i H1 hi k1 _ W1 => ?_⟩
    have hil : i < n.ands.length := by omega
    obtain ⟨p, ep⟩ : ∃ p, n.ands[i]? = some p := ⟨_, List.getElem?_eq_getElem hil⟩
    obtain ⟨b, eb, sb⟩ := pr_at h2.2 ep
    have PB : ∀ {H'}, Kp a H H' → Dp K H' (.ref b) (pr p) := fun k => .tup (W.tup k _ _ sb) (.cons (.int _) (.cons (.int _) .nil))
    have sp2 : sd 1 (pr p) = true := rfl
    refine ⟨fun σ H' => ∃ pv dp, σ = [some (.ref a), some (.ref nA), some (.ref fA), some (.ref aA), some (.ref xA), some (.ref oA), some (iV i), some pv] ∧ Kp a H H' ∧ Wd H' a l ds ∧ Dp K H' pv dp ∧ sd 2 dp = true, ?_, ?_⟩
    · refine ⟨_, rfl, a, l, ds, 4, rfl, by decide, W1, fun r H2 hr k2 _ W2 => ⟨_, _, rfl, rfl, _, rfl, ite2 (fun _ => ?_) (fun _ => ?_)⟩⟩
      · have k02 := k1.trans k2
        refine ⟨_, rfl, _, rfl, aA, _, _, _, rfl, rfl, W.tup k02 _ _ h2.1, atI_nat eb, _, rfl, a, l, ds, 2, rfl, by decide, W2, fun j H3 hj k3 _ W3 => ?_⟩
        have k03 := k02.trans k3
        refine ⟨_, rfl, _, rfl, fA, _, rfl, .inr (W.tup k03 _ _ h1), 1, _, rfl, rfl, _, rfl, _, i, rfl, rfl, a, l, ds, _, rfl, W3, fun H4 v d k4 W4 hv sv => ?_⟩
        have k04 := k03.trans k4
        refine ⟨b, j, 1, v, d, [iD p.1, iD p.2], rfl, PB k04, sd_le sp2 (by decide), by show j < 2; omega, hv, sv, fun H5 p5 d5 s5 h5 z5 => ?_⟩
        exact ⟨_, d5, rfl, k04.trans (C1.Same.kp s5), W4.same s5, h5, z5⟩
      · have k02 := k1.trans k2
        refine ⟨_, rfl, _, rfl, _, rfl, aA, _, _, _, rfl, rfl, W.tup k02 _ _ h2.1, atI_nat eb, line200 (show 1 ≤ 1000 by decide), fun p1 np1 => ?_⟩
        have g1 : Same H2 _ := Same.up (o := .tup [.int 0]) np1
        refine catA_read (xs := [iV p.1, iV p.2]) (ys := [.int 0]) (same_tup g1 _ _ (W.tup k02 _ _ sb)) (SqT.of upd_same) (by show 2 + 1 ≤ sizeLine; exact line200 (by decide)) fun p3 H3 s3 _ h3' => ?_
        have g3 := g1.trans s3
        have k03 := k02.trans (C1.Same.kp g3)
        refine ⟨_, rfl, _, rfl, aA, _, _, _, rfl, rfl, W.tup k03 _ _ h2.1, atI_nat eb, _, rfl, b, _, rfl, W.tup k03 _ _ sb, by show ¬ (HT.sIx 2 0 none = 0 ∧ HT.sIx 2 2 (some 1) = 2); decide, fun p4 np4 => ⟨Nat.zero_le _, fun p5 np5 => ⟨line200 (show 6 ≤ 1000 by decide), fun r6 nr6 => ?_⟩⟩⟩
        have g4 : Same H3 _ := ((Same.up (o := .tup (cutV [iV p.1, iV p.2] none (some 1))) np4).trans (Same.up (o := .tup []) np5)).trans (Same.up (o := .lst [.ref p3, .ref p4, .ref p5, .non, .int 2, .str "and"]) nr6)
        have g5 := g3.trans g4
        refine ⟨a, l, r6, ds, _, [.tuple [iD p.1, iD p.2, .int 0], .tuple [iD p.1], .tuple [], .none, .int 2, .str "and"], rfl, W2.same g5, upd_same, ?_, rfl, by show 0 < 6; decide, fun H7 v d k7 W7 hv hm => ?_⟩
        · refine .cons (.tup (same_tup g4 _ _ h3') (.cons (.int _) (.cons (.int _) (.cons (.int _) .nil)))) (.cons (.tup (SqT.of ((Same.up nr6) _ _ ((Same.up np5) _ _ upd_same))) (.cons (.int _) .nil)) (.cons (.tup (SqT.of ((Same.up nr6) _ _ upd_same)) .nil) (.cons .non (.cons (.int _) (.cons (.str _) .nil)))))
        · refine ⟨v, d, rfl, (k02.trans (C1.Same.kp g5)).trans k7, W7, hv, ?_⟩
          simp only [List.mem_cons, List.not_mem_nil, or_false] at hm
          rcases hm with rfl | rfl | rfl | rfl | rfl | rfl <;> first | rfl | decide +kernel
    rintro σ H2 ⟨pv, dp, rfl, k2, W2, hp, sp⟩
    refine ⟨_, rfl, _, rfl, _, rfl, _, rfl, aA, i, 2, pv, dp, n.ands.map pr, rfl, PA k2, sd_prs (by omega), by rw [List.length_map]; exact hil, hp, sp, fun H3 p3 d3 s3 h3' z3 => ⟨_, rfl, _, rfl, line200 (show 4 ≤ 1000 by decide), fun p4 np4 => ?_⟩⟩
    have s4 := s3.trans (Same.up (o := .tup [.ref fA, .ref p3, .ref xA, .ref oA]) np4)
    have k4 := k2.trans (C1.Same.kp s4)
    exact q _ (.ref p4) _ k4 (W2.same s4) (four_dp (SqT.of upd_same) (PF k4) (dp_stay (same_tup (Same.up np4)) _ _ h3' (sd_noL z3)) (PN k4) (PO k4)) (sd_four (sd_ints (by omega)) z3 (sd_ints (by omega)) (sd_ints (by omega)))
end
end C1

/-! The law's bent net. -/
namespace C1
open PySem PySem.Spec PyProof.Rows L2 SX
section
variable {P : Program} {w : World} {K : PySem.W.Frag} {mg : Str → Option Value} {base : Heap} {H H' : Hp}
theorem ok_bent {f fN fP fO fT fA0 : Addr} {fd fdN fdP fdO fdT fdA : FuncData} (F : Fun K "_law_bent" "_law_bent" sLawBent f fd) (B : Gp mg)
    (GN : FnOk P w K mg base CX0 1 fN fdN ["w", "many"] spNext) (kN : PySem.W.keepIn K (.ref fN) = true) (bN : Binds K fdN ["w", "many"] []) (gN : mg "_law_next" = some (.ref fN))
    (GP : FnOk P w K mg base CX0 2 fP fdP ["w", "rows"] (spPick K)) (kP : PySem.W.keepIn K (.ref fP) = true) (bP : Binds K fdP ["w", "rows"] []) (gP : mg "_law_pick" = some (.ref fP))
    (GO : FnOk P w K mg base CX0 3 fO fdO ["w", "many"] (spOdd K)) (kO : PySem.W.keepIn K (.ref fO) = true) (bO : Binds K fdO ["w", "many"] []) (gO : mg "_law_odd" = some (.ref fO))
    (GT : FnOk P w K mg base CX0 1 fT fdT ["rows", "at", "thing"] (spTurned K)) (kT : PySem.W.keepIn K (.ref fT) = true) (bT : Binds K fdT ["rows", "at", "thing"] []) (gT : mg "_law_turned" = some (.ref fT))
    (GA : FnOk P w K mg base CX0 4 fA0 fdA ["w", "net"] (spBentA K)) (kA : PySem.W.keepIn K (.ref fA0) = true) (bA : Binds K fdA ["w", "net"] []) (gA : mg "_law_bent_ands" = some (.ref fA0)) :
    FnOk P w K mg base CX0 5 f fd ["w", "net"] (spBent K) := by
  refine F.ok scLawBent (fun vs H Q E h => ?_) (fun cdv A outer s H vs Q E hr h => ?_)
  · obtain ⟨a, l, nA, ds, n, rfl, _⟩ := h
    rfl
  · obtain ⟨a, l, nA, ds, n, rfl, W, hd, O, lf, la, lo, q⟩ := h
    have nd := scLawBent.nd
    have hr4 := hr
    have hr3 : Room 3 _ := hr.mono (by decide)
    have hr2 : Room 2 _ := hr.mono (by decide)
    have hr1 : Room 1 _ := hr.mono (by decide)
    have ln := O.nl
    obtain ⟨fA, aA, xA, oA, avs, h0, h1, h2, h3, h4⟩ := (NP.of hd).ex
    have lav := dps_len h2.2
    rw [List.length_map] at lav
    have PF : ∀ {H'}, Kp a H H' → Dp K H' (.ref fA) (.tuple (n.firsts.map iD)) := fun k => .tup (W.tup k _ _ h1) (dps_ints _)
    have PA : ∀ {H'}, Kp a H H' → Dp K H' (.ref aA) (.tuple (n.ands.map pr)) := fun k => .tup (W.tup k _ _ h2.1) (stay_dps W k (noLs_pr _) h2.2)
    have PN : ∀ {H'}, Kp a H H' → Dp K H' (.ref xA) (.tuple (n.nexts.map iD)) := fun k => .tup (W.tup k _ _ h3) (dps_ints _)
    have PO : ∀ {H'}, Kp a H H' → Dp K H' (.ref oA) (.tuple (n.outs.map iD)) := fun k => .tup (W.tup k _ _ h4) (dps_ints _)
    have PNet : ∀ {H'}, Kp a H H' → Dp K H' (.ref nA) n.d := fun k => four_dp (W.tup k _ _ h0) (PF k) (PA k) (PN k) (PO k)
    have zF : sd 3 (.tuple (n.firsts.map iD)) = true := sd_ints (by omega)
    have zA : sd 3 (.tuple (n.ands.map pr)) = true := sd_prs (by omega)
    have zN : sd 3 (.tuple (n.nexts.map iD)) = true := sd_ints (by omega)
    have zO : sd 3 (.tuple (n.outs.map iD)) = true := sd_ints (by omega)
    have zNet : sd 4 n.d = true := sd_four zF zA zN zO
    have fin : ∀ {H4 : Hp} {d1 d2 d3 d4 : PyData} {v1 v2 v3 v4 : V} {p : Addr}, Kp a H H4 → Wd H4 a l ds → H4 p = none → Dp K H4 v1 d1 → sd 3 d1 = true → Dp K H4 v2 d2 → sd 3 d2 = true → Dp K H4 v3 d3 → sd 3 d3 = true → Dp K H4 v4 d4 → sd 3 d4 = true → Q (.ref p) (upd H4 p (.tup [v1, v2, v3, v4])) := fun k W' np e1 z1 e2 z2 e3 z3 e4 z4 =>
      q _ _ _ (k.trans (Kp.new np)) (W'.new np) (four_dp (SqT.of upd_same) (dp_stay (same_tup (Same.up np)) _ _ e1 (sd_noL z1)) (dp_stay (same_tup (Same.up np)) _ _ e2 (sd_noL z2)) (dp_stay (same_tup (Same.up np)) _ _ e3 (sd_noL z3)) (dp_stay (same_tup (Same.up np)) _ _ e4 (sd_noL z4))) (sd_four z1 z2 z3 z4)
    refine ⟨_, (pss_cons (ps_asg (pv 1) (pg_tup (by rfl) (pgs_cons (pg_name (i := 2) nd rfl (.inl rfl)) (pgs_cons (pg_name (i := 3) nd rfl (.inl rfl)) (pgs_cons (pg_name (i := 4) nd rfl (.inl rfl)) (pgs_cons (pg_name (i := 5) nd rfl (.inl rfl)) pgs_nil))))))
      (pss_cons (ps_set (i := 6) nd rfl (.inl rfl) (pe_op op_addN (pe_op op_addN (pe_int) (pe_callB call_len_seq (by rfl) B.len PySem.boot_len (pa_cons (pv 2) pa_nil))) (pe_callB call_len_seq (by rfl) B.len PySem.boot_len (pa_cons (pv 3) pa_nil))))
      (pss_cons (ps_set (i := 7) nd rfl (.inl rfl) (pe_call GN hr1 (by rfl) gN kN bN .nil pass0 (pa_cons (pv 0) (pa_cons (pe_int) pa_nil))))
      (C8.pss_cut (ps_if (PW.pt (pw_and (pt_cmpR op_lt (pv 7) (pe_int) (nomark _)) (pw_and1 (pt_cmpR op_gt (pe_callB call_len_seq (by rfl) B.len PySem.boot_len (pa_cons (pv 3) pa_nil)) (pe_int) (nomark _))))) (pss_one (ps_ret (pe_call GA hr4 (by rfl) gA kA bA .nil pass0 (pa_cons (pv 0) (pa_cons (pv 1) pa_nil))))) pss_nil)
      (C8.pss_cut (ps_if (PW.pt (pw_and (pt_cmpR op_eq (pv 7) (pe_int) (nomark _)) (pw_and1 (pt_cmpR op_gt (pe_callB call_len_seq (by rfl) B.len PySem.boot_len (pa_cons (pv 2) pa_nil)) (pe_int) (nomark _))))) (pss_cons (ps_set (i := 8) nd rfl (.inl rfl) (pe_call GP hr2 (by rfl) gP kP bP .nil pass0 (pa_cons (pv 0) (pa_cons (pe_lst (pa_cons (pe_int) (pa_cons (pe_un un_neg pe_int) (pa_cons (pe_bl) (pa_cons (pe_bl) (pa_cons (pe_non) (pa_cons (pe_str) pa_nil))))))) pa_nil))))
      (pss_one (ps_ret (pe_tup (pa_cons (pe_call GT hr1 (by rfl) gT kT bT .nil pass0 (pa_cons (pv 2) (pa_cons (pe_call GN hr1 (by rfl) gN kN bN .nil pass0 (pa_cons (pv 0) (pa_cons (pe_callB call_len_seq (by rfl) B.len PySem.boot_len (pa_cons (pv 2) pa_nil)) pa_nil))) (pa_cons (pv 8) pa_nil)))) (pa_cons (pv 3) (pa_cons (pv 4) (pa_cons (pv 5) pa_nil)))))))) pss_nil)
      (C8.pss_cut (ps_if (PW.pt (pw_and (pt_cmpR op_eq (pv 7) (pe_int) (nomark _)) (pw_and1 (pt_cmpR op_gt (pe_callB call_len_seq (by rfl) B.len PySem.boot_len (pa_cons (pv 4) pa_nil)) (pe_int) (nomark _))))) (pss_one (ps_ret (pe_tup (pa_cons (pv 2) (pa_cons (pv 3) (pa_cons (pe_call GT hr1 (by rfl) gT kT bT .nil pass0 (pa_cons (pv 4) (pa_cons (pe_call GN hr1 (by rfl) gN kN bN .nil pass0 (pa_cons (pv 0) (pa_cons (pe_callB call_len_seq (by rfl) B.len PySem.boot_len (pa_cons (pv 4) pa_nil)) pa_nil))) (pa_cons (pe_call GO hr3 (by rfl) gO kO bO .nil pass0 (pa_cons (pv 0) (pa_cons (pv 6) pa_nil))) pa_nil)))) (pa_cons (pv 5) pa_nil))))))) pss_nil)
      (C8.pss_cut (ps_if (PW.pt (pw_and (pt_cmpR op_eq (pv 7) (pe_int) (nomark _)) (pw_and1 (pt_cmpR op_gt (pe_callB call_len_seq (by rfl) B.len PySem.boot_len (pa_cons (pv 5) pa_nil)) (pe_int) (nomark _))))) (pss_one (ps_ret (pe_tup (pa_cons (pv 2) (pa_cons (pv 3) (pa_cons (pv 4) (pa_cons (pe_call GT hr1 (by rfl) gT kT bT .nil pass0 (pa_cons (pv 5) (pa_cons (pe_call GN hr1 (by rfl) gN kN bN .nil pass0 (pa_cons (pv 0) (pa_cons (pe_callB call_len_seq (by rfl) B.len PySem.boot_len (pa_cons (pv 5) pa_nil)) pa_nil))) (pa_cons (pe_call GO hr3 (by rfl) gO kO bO .nil pass0 (pa_cons (pv 0) (pa_cons (pv 6) pa_nil))) pa_nil)))) pa_nil))))))) pss_nil)
      (pss_cons (ps_if (pt_cmpR op_eq (pv 7) (pe_int) (nomark _)) (pss_one (ps_ret (pe_tup (pa_cons (pv 2) (pa_cons (pv 3) (pa_cons (pe_op op_catA (pv 4) (pe_tup (pa_cons (pe_int) pa_nil))) (pa_cons (pv 5) pa_nil))))))) pss_nil)
      (C8.pss_cut (ps_if (PW.pt (pw_and (pt_cmpR op_eq (pv 7) (pe_int) (nomark _)) (pw_and1 (pt_cmpR op_gt (pe_callB call_len_seq (by rfl) B.len PySem.boot_len (pa_cons (pv 4) pa_nil)) (pe_int) (nomark _))))) (pss_one (ps_ret (pe_tup (pa_cons (pv 2) (pa_cons (pv 3) (pa_cons (pe_slice sl_tup (pv 4) po_none (po_some (pe_un un_neg pe_int))) (pa_cons (pv 5) pa_nil))))))) pss_nil)
      (pss_cons (ps_if (pt_cmpR op_eq (pv 7) (pe_int) (nomark _)) (pss_one (ps_ret (pe_call GT hr1 (by rfl) gT kT bT .nil pass0 (pa_cons (pv 1) (pa_cons (pe_call GN hr1 (by rfl) gN kN bN .nil pass0 (pa_cons (pv 0) (pa_cons (pe_int) pa_nil))) (pa_cons (pe_call GP hr2 (by rfl) gP kP bP .nil pass0 (pa_cons (pv 0) (pa_cons (pe_lst (pa_cons (pe_non) (pa_cons (pe_int) (pa_cons (pe_str) (pa_cons (pe_bl) pa_nil))))) pa_nil))) pa_nil)))))) pss_nil)
      (pss_cons (ps_if (pt_cmpR op_eq (pv 7) (pe_int) (nomark _)) (pss_one (ps_ret (pe_call GP hr2 (by rfl) gP kP bP .nil pass0 (pa_cons (pv 0) (pa_cons (pe_lst (pa_cons (pe_slice sl_tup (pv 1) po_none (po_some (pe_int))) (pa_cons (pe_op op_catA (pv 1) (pe_tup (pa_cons (pe_tup pa_nil) pa_nil))) (pa_cons (pe_tup pa_nil) (pa_cons (pe_non) (pa_cons (pe_str) (pa_cons (pe_int) (pa_cons (pe_bl) pa_nil)))))))) pa_nil))))) pss_nil)
      (pss_one (ps_ret (pv 1)))))))))))))), ?_⟩
    refine ⟨_, rfl, nA, _, rfl, h0, rfl, _, _, rfl, _, _, rfl, _, _, rfl, _, _, rfl, rfl, ?_⟩
    refine ⟨_, rfl, fA, _, rfl, .inr h1, 1, _, rfl, rfl, _, rfl, aA, _, rfl, .inr h2.1, _, _, rfl, rfl, ?_⟩
    refine ⟨_, rfl, a, l, ds, 12, rfl, by decide, W, fun tn H1 htn k1 _ W1 => ?_⟩
    let σ8 : L2.St := [some (.ref a), some (.ref nA), some (.ref fA), some (.ref aA), some (.ref xA), some (.ref oA), some (iV (1 + (n.firsts.map iV).length + avs.length)), some (iV tn), none]
    refine ⟨fun σ H' => σ = σ8 ∧ H' = H1, ?_, ?_⟩
    · refine ⟨_, rfl, _, _, rfl, rfl, _, rfl, ite2 (fun _ => ⟨_, rfl, aA, _, rfl, .inr (W.tup k1 _ _ h2.1), _, _, rfl, rfl, _, rfl, ite2 (fun hp => ?_) (fun _ => ⟨rfl, rfl⟩)⟩) (fun _ => ⟨rfl, rfl⟩)⟩
      have hpos : 0 < n.ands.length := by
        have := of_decide_eq_true hp
        omega
      exact ⟨_, rfl, _, rfl, a, l, nA, ds, n, rfl, W1, PNet k1, O, lf, la, lo, hpos, fun H2 v d k2 W2 hv sv => q H2 v d (k1.trans k2) W2 hv sv⟩
    rintro σ H' ⟨rfl, rfl⟩
    refine ⟨fun σ H2 => σ = σ8 ∧ H2 = H', ?_, ?_⟩
    · refine ⟨_, rfl, rfl, _, rfl, ite2 (fun _ => ⟨_, rfl, fA, _, rfl, .inr (W.tup k1 _ _ h1), _, _, rfl, rfl, _, rfl, ite2 (fun hp => ?_) (fun _ => ⟨rfl, rfl⟩)⟩) (fun _ => ⟨rfl, rfl⟩)⟩
      have hpos : 0 < (n.firsts.map iV).length := by
        have := of_decide_eq_true hp
        omega
      refine ⟨_, rfl, _, rfl, line200 (show 6 ≤ 1000 by decide), fun r nr => ⟨a, l, r, ds, _, [.int 2, .int (-1), .bool true, .bool false, .none, .str "1"], rfl, W1.new nr, upd_same, ?_, rfl, by show 0 < 6; decide, fun H2 v d k2 W2 hv hm => ?_⟩⟩
      · exact .cons (.int _) (.cons (.int _) (.cons (.bl _) (.cons (.bl _) (.cons .non (.cons (.str _) .nil)))))
      have k02 := k1.trans ((Kp.new nr).trans k2)
      have sv : sd 1 d = true := by
        simp only [List.mem_cons, List.not_mem_nil, or_false] at hm
        rcases hm with rfl | rfl | rfl | rfl | rfl | rfl <;> first | rfl | decide +kernel
      refine ⟨_, rfl, _, rfl, _, rfl, fA, _, rfl, .inr (W.tup k02 _ _ h1), a, l, ds, _, rfl, by omega, W2, fun i H3 hi k3 _ W3 => ?_⟩
      have k03 := k02.trans k3
      refine ⟨_, rfl, fA, i, 1, v, d, _, rfl, PF k03, sd_ints (by omega), by rw [List.length_map] at hi ⊢; omega, dp_stay (W2.tup k3) _ _ hv (sd_noL sv), sv, fun H4 p4 d4 s4 h4' z4 => ⟨_, rfl, _, rfl, _, rfl, line200 (show 4 ≤ 1000 by decide), fun p np => ?_⟩⟩
      have k04 := k03.trans (C1.Same.kp s4)
      exact fin k04 (W3.same s4) np h4' (sd_le z4 (by decide)) (PA k04) zA (PN k04) zN (PO k04) zO
    rintro σ H' ⟨rfl, rfl⟩
    refine ⟨fun σ H2 => σ = σ8 ∧ H2 = H', ?_, ?_⟩
    · refine ⟨_, rfl, rfl, _, rfl, ite2 (fun _ => ⟨_, rfl, xA, _, rfl, .inr (W.tup k1 _ _ h3), _, _, rfl, rfl, _, rfl, ite2 (fun hp => ?_) (fun _ => ⟨rfl, rfl⟩)⟩) (fun _ => ⟨rfl, rfl⟩)⟩
      have hpos : 0 < (n.nexts.map iV).length := by
        have := of_decide_eq_true hp
        omega
      refine ⟨_, rfl, _, rfl, _, rfl, _, rfl, _, rfl, xA, _, rfl, .inr (W.tup k1 _ _ h3), a, l, ds, _, rfl, by omega, W1, fun i H2 hi k2 _ W2 => ⟨_, rfl, _, rfl, a, l, ds, _, rfl, W2, fun H3 v d k3 W3 hv sv => ?_⟩⟩
      have k03 := k1.trans (k2.trans k3)
      refine ⟨xA, i, 1, v, d, _, rfl, PN k03, sd_ints (by omega), by rw [List.length_map] at hi ⊢; omega, hv, sv, fun H4 p4 d4 s4 h4' z4 => ⟨_, rfl, line200 (show 4 ≤ 1000 by decide), fun p np => ?_⟩⟩
      have k04 := k03.trans (C1.Same.kp s4)
      exact fin k04 (W3.same s4) np (PF k04) zF (PA k04) zA h4' (sd_le z4 (by decide)) (PO k04) zO
    rintro σ H' ⟨rfl, rfl⟩
    refine ⟨fun σ H2 => σ = σ8 ∧ H2 = H', ?_, ?_⟩
    · refine ⟨_, rfl, rfl, _, rfl, ite2 (fun _ => ⟨_, rfl, oA, _, rfl, .inr (W.tup k1 _ _ h4), _, _, rfl, rfl, _, rfl, ite2 (fun hp => ?_) (fun _ => ⟨rfl, rfl⟩)⟩) (fun _ => ⟨rfl, rfl⟩)⟩
      have hpos : 0 < (n.outs.map iV).length := by
        have := of_decide_eq_true hp
        omega
      refine ⟨_, rfl, _, rfl, _, rfl, _, rfl, _, rfl, _, rfl, oA, _, rfl, .inr (W.tup k1 _ _ h4), a, l, ds, _, rfl, by omega, W1, fun i H2 hi k2 _ W2 => ⟨_, rfl, _, rfl, a, l, ds, _, rfl, W2, fun H3 v d k3 W3 hv sv => ?_⟩⟩
      have k03 := k1.trans (k2.trans k3)
      refine ⟨oA, i, 1, v, d, _, rfl, PO k03, sd_ints (by omega), by rw [List.length_map] at hi ⊢; omega, hv, sv, fun H4 p4 d4 s4 h4' z4 => ⟨line200 (show 4 ≤ 1000 by decide), fun p np => ?_⟩⟩
      have k04 := k03.trans (C1.Same.kp s4)
      exact fin k04 (W3.same s4) np (PF k04) zF (PA k04) zA (PN k04) zN h4' (sd_le z4 (by decide))
    rintro σ H' ⟨rfl, rfl⟩
    refine ⟨_, rfl, rfl, _, rfl, ite2 (fun _ => ?_) (fun _ => ?_)⟩
    · refine ⟨_, rfl, _, rfl, _, rfl, line200 (show 1 ≤ 1000 by decide), fun p1 np1 => ?_⟩
      have g1 : Same H' _ := Same.up (o := .tup [.int 0]) np1
      refine catA_read (xs := n.nexts.map iV) (ys := [.int 0]) (same_tup g1 _ _ (W.tup k1 _ _ h3)) (SqT.of upd_same) (by show _ + 1 ≤ sizeLine; rw [List.length_map]; exact line200 (by omega)) fun p3 H3 s3 _ h3' => ⟨_, rfl, line200 (show 4 ≤ 1000 by decide), fun p np => ?_⟩
      have g3 := g1.trans s3
      have k03 := k1.trans (C1.Same.kp g3)
      refine fin k03 (W1.same g3) np (PF k03) zF (PA k03) zA (d3 := .tuple (n.nexts.map iD ++ [.int 0])) (.tup h3' (dps_app (dps_ints _) (.cons (.int 0) .nil))) (sd_tup (by rw [List.length_append, List.length_map]; show _ + 1 ≤ 100; omega) fun d hd => ?_) (PO k03) zO
      rcases List.mem_append.mp hd with h | h
      · exact sd_mem zN h
      · rw [List.mem_singleton.mp h]
        rfl
    refine ⟨fun σ H2 => σ = σ8 ∧ H2 = H', ?_, ?_⟩
    · refine ⟨_, rfl, rfl, _, rfl, ite2 (fun _ => ⟨_, rfl, xA, _, rfl, .inr (W.tup k1 _ _ h3), _, _, rfl, rfl, _, rfl, ite2 (fun hp => ?_) (fun _ => ⟨rfl, rfl⟩)⟩) (fun _ => ⟨rfl, rfl⟩)⟩
      have hpos : 0 < (n.nexts.map iV).length := by
        have := of_decide_eq_true hp
        omega
      have nw : ¬ (HT.sIx (n.nexts.map iV).length 0 none = 0 ∧ HT.sIx (n.nexts.map iV).length (n.nexts.map iV).length (some (-1)) = (n.nexts.map iV).length) := fun z => by
        have h := z.2
        have e : HT.sIx (n.nexts.map iV).length (n.nexts.map iV).length (some (-1)) = ((-1 : Int) + ((n.nexts.map iV).length : Int)).toNat := rfl
        rw [e] at h
        omega
      obtain ⟨fs, df, lfs, mfs⟩ := cut_dps (K := K) (H := H') (dps_ints n.nexts) none (some (-1))
      refine ⟨_, rfl, _, rfl, _, rfl, _, rfl, _, rfl, xA, _, rfl, W.tup k1 _ _ h3, nw, fun p1 np1 => ⟨_, rfl, line200 (show 4 ≤ 1000 by decide), fun p np => ?_⟩⟩
      have g1 : Same H' _ := Same.up (o := .tup (cutV (n.nexts.map iV) none (some (-1)))) np1
      have k03 := k1.trans (C1.Same.kp g1)
      rw [List.length_map] at lfs
      have zfs : sd 3 (.tuple fs) = true := sd_tup (by omega) fun d hd => sd_mem zN (mfs d hd)
      exact fin k03 (W1.same g1) np (PF k03) zF (PA k03) zA (.tup (SqT.of upd_same) (dps_stay (same_tup g1) _ _ df (sd_noL zfs))) zfs (PO k03) zO
    rintro σ H' ⟨rfl, rfl⟩
    refine ⟨_, rfl, rfl, _, rfl, ite2 (fun _ => ?_) (fun _ => ?_)⟩
    · refine ⟨_, rfl, _, rfl, a, l, ds, 4, rfl, by decide, W1, fun i H2 hi k2 _ W2 => ⟨_, rfl, line200 (show 4 ≤ 1000 by decide), fun r nr => ?_⟩⟩
      refine ⟨a, l, r, ds, _, [.none, .int 0, .str "net", .bool true], rfl, W2.new nr, upd_same, .cons .non (.cons (.int _) (.cons (.str _) (.cons (.bl _) .nil))), rfl, by show 0 < 4; decide, fun H3 v d k3 W3 hv hm => ?_⟩
      have sv : sd 1 d = true := by
        simp only [List.mem_cons, List.not_mem_nil, or_false] at hm
        rcases hm with rfl | rfl | rfl | rfl <;> first | rfl | decide +kernel
      have k03 := k1.trans (k2.trans ((Kp.new nr).trans k3))
      exact ⟨nA, i, 3, v, d, [.tuple (n.firsts.map iD), .tuple (n.ands.map pr), .tuple (n.nexts.map iD), .tuple (n.outs.map iD)], rfl, PNet k03, zNet, by show i < 4; omega, hv, sd_le sv (by decide), fun H4 p4 d4 s4 h4' z4 => q H4 _ d4 (k03.trans (C1.Same.kp s4)) (W3.same s4) h4' z4⟩
    refine ⟨_, rfl, rfl, _, rfl, ite2 (fun _ => ?_) (fun _ => ?_)⟩
    · refine ⟨_, rfl, _, rfl, _, rfl, nA, _, rfl, W.tup k1 _ _ h0, by show ¬ (HT.sIx 4 0 none = 0 ∧ HT.sIx 4 4 (some 3) = 4); decide, fun p1 np1 => ⟨_, rfl, Nat.zero_le _, fun p2 np2 => ⟨line200 (show 1 ≤ 1000 by decide), fun p3 np3 => ?_⟩⟩⟩
      have g1 : Same H' _ := Same.up (o := .tup (cutV [.ref fA, .ref aA, .ref xA, .ref oA] none (some 3))) np1
      have g2 := g1.trans (Same.up (o := .tup []) np2)
      have g3 := g2.trans (Same.up (o := .tup [.ref p2]) np3)
      refine catA_read (xs := [.ref fA, .ref aA, .ref xA, .ref oA]) (ys := [.ref p2]) (same_tup g3 _ _ (W.tup k1 _ _ h0)) (SqT.of upd_same) (by show 4 + 1 ≤ sizeLine; exact line200 (by decide)) fun p4 H4 s4 _ h4' => ⟨Nat.zero_le _, fun p5 np5 => ⟨line200 (show 7 ≤ 1000 by decide), fun r nr => ?_⟩⟩
      have g5 : Same H4 _ := (Same.up (o := .tup []) np5).trans (Same.up (o := .lst [.ref p1, .ref p4, .ref p5, .non, .str "nets", .int 5, .bl true]) nr)
      have g := g3.trans (s4.trans g5)
      have k06 := k1.trans (C1.Same.kp g)
      refine ⟨a, l, r, ds, _, [.tuple [.tuple (n.firsts.map iD), .tuple (n.ands.map pr), .tuple (n.nexts.map iD)], .tuple [.tuple (n.firsts.map iD), .tuple (n.ands.map pr), .tuple (n.nexts.map iD), .tuple (n.outs.map iD), .tuple []], .tuple [], .none, .str "nets", .int 5, .bool true], rfl, W1.same g, upd_same, ?_, ?_, by show 0 < 7; decide, fun H7 v d k7 W7 hv hm => ?_⟩
      · have e1 := g5 _ _ (s4 _ _ ((Same.up (o := .tup [.ref p2]) np3) _ _ ((Same.up (o := .tup []) np2) _ _ (upd_same (H := H') (a := p1) (o := .tup (cutV [.ref fA, .ref aA, .ref xA, .ref oA] none (some 3)))))))
        have e2 := g5 _ _ (s4 _ _ ((Same.up (o := .tup [.ref p2]) np3) _ _ (upd_same (o := .tup []))))
        refine .cons (.tup (xs := [.ref fA, .ref aA, .ref xA]) (SqT.of e1) (.cons (PF k06) (.cons (PA k06) (.cons (PN k06) .nil)))) (.cons (.tup (same_tup g5 _ _ h4') (.cons (PF k06) (.cons (PA k06) (.cons (PN k06) (.cons (PO k06) (.cons (.tup (SqT.of e2) .nil) .nil)))))) (.cons (.tup (SqT.of ((Same.up nr) _ _ upd_same)) .nil) (.cons .non (.cons (.str _) (.cons (.int _) (.cons (.bl _) .nil))))))
      · show (noL (.tuple [.tuple (n.firsts.map iD), .tuple (n.ands.map pr), .tuple (n.nexts.map iD)]) && (noL (.tuple [.tuple (n.firsts.map iD), .tuple (n.ands.map pr), .tuple (n.nexts.map iD), .tuple (n.outs.map iD), .tuple []]) && true)) = true
        show ((noLs (n.firsts.map iD) && (noLs (n.ands.map pr) && (noLs (n.nexts.map iD) && true))) && ((noLs (n.firsts.map iD) && (noLs (n.ands.map pr) && (noLs (n.nexts.map iD) && (noLs (n.outs.map iD) && true)))) && true)) = true
        rw [noLs_int, noLs_pr, noLs_int, noLs_int]
        rfl
      · refine q H7 v d (k06.trans k7) W7 hv ?_
        simp only [List.mem_cons, List.not_mem_nil, or_false] at hm
        rcases hm with rfl | rfl | rfl | rfl | rfl | rfl | rfl
        · refine sd_tup (show 3 ≤ 100 by decide) fun d hd => ?_
          simp only [List.mem_cons, List.not_mem_nil, or_false] at hd
          rcases hd with rfl | rfl | rfl <;> assumption
        · refine sd_tup (show 5 ≤ 100 by decide) fun d hd => ?_
          simp only [List.mem_cons, List.not_mem_nil, or_false] at hd
          rcases hd with rfl | rfl | rfl | rfl | rfl <;> first | assumption | rfl
        · rfl
        · rfl
        · decide +kernel
        · rfl
        · rfl
    exact ⟨_, rfl, q H' (.ref nA) n.d k1 W1 (PNet k1) zNet⟩
end
end C1

/-! The law. -/
namespace C1
open PySem PySem.Spec PyProof.Rows L2 SX
abbrev sLaw : Stmt := topS 27
theorem scLaw : FnScope ["script", "w", "latches", "ands", "net", "turn", "bent", "told", "cycles", "found", "state", "behind", "latch"] ["script"] (defScope sLaw) := ⟨rfl, rfl, rfl, by decide +kernel, rfl, by decide +kernel, by decide +kernel⟩
abbrev NLAW : List Str := ["script", "w", "latches", "ands", "net", "turn", "bent", "told", "cycles", "found", "state", "behind", "latch"]
theorem andsB_ok (L : Nat) : ∀ (ps : List (Nat × Nat)) (k : Nat), (∀ (j : Nat) (p : Nat × Nat), ps[j]? = some p → p.1 < 2 * (1 + L + (k + j)) ∧ p.2 < 2 * (1 + L + (k + j))) → andsB L k (ps.map pr) = true
  | [], _, _ => rfl
  | p :: ps, k, h => by
    have h0 := h 0 p rfl
    have hr := andsB_ok L ps (k + 1) fun j q hq => by
      have := h (j + 1) q hq
      omega
    have e : andB ((2 * (1 + L + k) : Nat) : Int) (pr p) = true := by
      show (decide (2 = 2) && ([iD p.1, iD p.2].all fun x => isI x 0 ((2 * (1 + L + k) : Nat) : Int))) = true
      show (true && ((decide ((0 : Int) ≤ ((p.1 : Nat) : Int)) && decide (((p.1 : Nat) : Int) < ((2 * (1 + L + k) : Nat) : Int))) && ((decide ((0 : Int) ≤ ((p.2 : Nat) : Int)) && decide (((p.2 : Nat) : Int) < ((2 * (1 + L + k) : Nat) : Int))) && true))) = true
      rw [decide_eq_true (by omega), decide_eq_true (by omega), decide_eq_true (by omega), decide_eq_true (by omega)]
      rfl
    show (andB _ (pr p) && andsB L (k + 1) (ps.map pr)) = true
    rw [e, hr]
    rfl
theorem ints_below {m : List Nat} {b : Nat} (h : ∀ x ∈ m, x < b) : ∀ d ∈ m.map iD, isI d 0 ((b : Nat) : Int) = true := fun d hd => by
  obtain ⟨k, hk, rfl⟩ := List.mem_map.mp hd
  have := h k hk
  show (decide ((0 : Int) ≤ ((k : Nat) : Int)) && decide (((k : Nat) : Int) < ((b : Nat) : Int))) = true
  rw [decide_eq_true (by omega), decide_eq_true (by omega)]
  rfl
theorem net_ok {n : Net} (h : NetOk n) : netB n.d = true := by
  show (decide ((n.nexts.map iD).length = (n.firsts.map iD).length) && ((n.firsts.map iD).all fun x => isI x 0 2) && andsB (n.firsts.map iD).length 0 (n.ands.map pr) && ((n.nexts.map iD ++ n.outs.map iD).all fun x => isI x 0 ((2 * (1 + (n.firsts.map iD).length + (n.ands.map pr).length) : Nat) : Int))) = true
  rw [List.length_map, List.length_map, List.length_map]
  have e1 : ((n.firsts.map iD).all fun x => isI x 0 2) = true := List.all_eq_true.mpr (ints_below h.fb)
  rw [decide_eq_true h.nl, e1, andsB_ok _ _ 0 (fun j p hp => by rw [Nat.zero_add]; exact h.ao j p hp)]
  rw [List.all_eq_true.mpr fun d hd => (List.mem_append.mp hd).elim (ints_below h.no d) (ints_below h.oo d)]
  rfl
theorem sd_parts {n : Nat} {d : PyData} (h : sd n d = true) : ∀ ds, d = .tuple ds → ∀ es, .tuple es ∈ ds → es.length ≤ 400 := by
  intro ds e es hm
  subst e
  match n, h with
  | 0, h => cases h
  | 1, h => cases sd_mem h hm
  | n + 2, h =>
    have := sd_len (sd_mem h hm)
    omega
theorem runS_rows (n : Net) : ∀ (k : Nat) (st : List Nat), ∀ m ∈ runS n k st, Bits m ∧ m.length = n.outs.length
  | 0, _, m, h => by cases h
  | k + 1, st, m, h => by
    rcases List.mem_cons.mp h with e | e
    · rw [e]
      exact ⟨litsV_bits _ _, litsV_len _ _⟩
    · exact runS_rows n k _ m e
theorem mem_gd {n : Nat} {m : List Nat} (h : m.length ≤ 1000) : gd (n + 1) (memD m) = true := gd_tup (by rw [List.length_map]; exact h) fun d hd => by
  obtain ⟨k, _, rfl⟩ := List.mem_map.mp hd
  exact gd_int _
theorem rows_gd {rows : List (List Nat)} (h1 : rows.length ≤ 1000) (h2 : ∀ r ∈ rows, r.length ≤ 1000) : gd 2 (toldD rows) = true := gd_tup (by rw [List.length_map]; exact h1) fun d hd => by
  obtain ⟨r, hr, rfl⟩ := List.mem_map.mp hd
  exact mem_gd (h2 r hr)
theorem same_eqv {d : PyData} {n : Nat} (h : gd n d = true) : PyData.eqv d d = true := by
  rw [SeqAt.eqv_refl]
  exact (gd_ok n d h).2.1
section
variable {P : Program} {w : World} {K : PySem.W.Frag} {mg : Str → Option Value} {base : Heap} {H H' : Hp}
theorem lc_drawT {a l D a0 : Addr} {ds : List Int} {ys : List V} {te : TE} {σ : L2.St} {wv : List Nat} {j : Nat} {Pk : Nat → Prop} {Qd : Hp → Prop} (nD : H D = none) (W : Wd H a l ds) (hn : ys.length ≤ 500) (sa : SqT K H a0 ys)
    (ht : ∀ y H1 (R : VK), Kp a H H1 → Wd H1 a l ds → (∀ x H2, Pk x → Kp a H1 H2 → Wd H2 a l ds → R (iV x) H2) → te ((wipe σ wv).set j (some y)) H1 R)
    (hσ : ∀ x, wipe ((wipe σ wv).set j (some x)) wv = wipe σ wv)
    (q : ∀ H' (xs : List Nat), Kp a H H' → Wd H' a l ds → xs.length = ys.length → (∀ x ∈ xs, Pk x) → H' D = some (.lst (xs.map iV)) → Qd H') :
    ∃ W : Nat → Nat → Hp → Prop, (∃ m, W 0 m (upd H D (.lst []))) ∧ ∀ i m H, W i m H →
      ((Itt K a0).stop i H ∧ Qd H) ∨ ((Itt K a0).go i H ∧ ∃ Nx : Hp → Prop, (∀ H', Nx H' → ∃ m', m' < m ∧ W (i + 1) m' H') ∧ ∀ x H', (Itt K a0).yld i H x H' → gName j x (wipe σ wv) H' fun σ2 H2 => wipe σ2 wv = wipe σ wv ∧ tYes σ2 H2 fun b H3 =>
        if b = true then te σ2 H3 fun y H4 => ∃ acc, H4 D = some (.lst acc) ∧ acc.length < sizeLine ∧ Nx (upd H4 D (.lst (acc ++ [y]))) else Nx H3) := by
  obtain ⟨neD, neL⟩ := W.ne2 nD
  refine lc_tup (xs := ys) (fun i H1 => Kp a H H1 ∧ Wd H1 a l ds ∧ ∃ xs : List Nat, xs.length = i ∧ (∀ x ∈ xs, Pk x) ∧ H1 D = some (.lst (xs.map iV))) ⟨Kp.new nD, W.new nD, [], rfl, (fun x h => by cases h), upd_same⟩ (fun i H1 _ h => W.tup h.1 _ _ sa) (fun i y H1 hy h => ?_) (fun H1 h => ?_)
  · obtain ⟨k1, W1, xs, lx, px, e⟩ := h
    have hi : i < ys.length := (List.getElem?_eq_some_iff.mp hy).1
    refine ⟨hσ _, ?_⟩
    refine ht y H1 (fun y H4 => ∃ acc, H4 D = some (.lst acc) ∧ acc.length < sizeLine ∧ (Kp a H (upd H4 D (.lst (acc ++ [y]))) ∧ Wd (upd H4 D (.lst (acc ++ [y]))) a l ds ∧ ∃ xs : List Nat, xs.length = i + 1 ∧ (∀ x ∈ xs, Pk x) ∧ (upd H4 D (.lst (acc ++ [y]))) D = some (.lst (xs.map iV)))) k1 W1 fun x H2 hx k2 W2 => ?_
    refine ⟨_, k2 D _ neD e, by rw [List.length_map]; exact lineS200 (by omega), (k1.trans k2).put nD, W2.put neD neL, xs ++ [x], by rw [List.length_append, lx]; rfl, fun y hy => ?_, ?_⟩
    · rcases List.mem_append.mp hy with h | h
      · exact px y h
      · rw [List.mem_singleton.mp h]
        exact hx
    · rw [upd_same, List.map_append]
      rfl
  · obtain ⟨k1, W1, xs, lx, px, e⟩ := h
    exact q H1 xs k1 W1 lx px e
def spLaw (K : PySem.W.Frag) : Sp := fun vs H Q _ => ∃ (a : Addr) (ns : List Int), vs = [.ref a] ∧ SqL K H a (ns.map V.int) ∧ ns.length ≤ 63 ∧ ∀ H', Q (.bl true) H'
theorem ok_law {f fD fN fW fI fJ fB fR fS fC fE fU fV : Addr} {fd fdD fdN fdW fdI fdJ fdB fdR fdS fdC fdE fdU fdV : FuncData} (F : Fun K "law" "law" sLaw f fd) (B : Gp mg)
    (GD : FnOk P w K mg base CX0 1 fD fdD ["script", "many"] (spDraws K)) (kD : PySem.W.keepIn K (.ref fD) = true) (bD : Binds K fdD ["script", "many"] []) (gD : mg "_law_draws" = some (.ref fD))
    (GN : FnOk P w K mg base CX0 1 fN fdN ["w", "many"] spNext) (kN : PySem.W.keepIn K (.ref fN) = true) (bN : Binds K fdN ["w", "many"] []) (gN : mg "_law_next" = some (.ref fN))
    (GW : FnOk P w K mg base CX0 3 fW fdW ["w", "latches", "ands", "outs"] (spDrawn K)) (kW : PySem.W.keepIn K (.ref fW) = true) (bW : Binds K fdW ["w", "latches", "ands", "outs"] []) (gW : mg "_law_net" = some (.ref fW))
    (GI : FnOk P w K mg base CX0 2 fI fdI ["thing"] (spIsNet K)) (kI : PySem.W.keepIn K (.ref fI) = true) (bI : Binds K fdI ["thing"] []) (gI : mg "is_net" = some (.ref fI))
    (GJ : FnOk P w K mg base CX0 2 fJ fdJ ["thing"] (spIsNet K)) (kJ : PySem.W.keepIn K (.ref fJ) = true) (bJ : Binds K fdJ ["thing"] []) (gJ : mg "_law_is_net" = some (.ref fJ))
    (GB : FnOk P w K mg base CX0 5 fB fdB ["w", "net"] (spBent K)) (kB : PySem.W.keepIn K (.ref fB) = true) (bB : Binds K fdB ["w", "net"] []) (gB : mg "_law_bent" = some (.ref fB))
    (GR : FnOk P w K mg base CX0 3 fR fdR ["net", "cycles"] (spRunN K)) (kR : PySem.W.keepIn K (.ref fR) = true) (bR : Binds K fdR ["net", "cycles"] []) (gR : mg "run_net" = some (.ref fR))
    (GS : FnOk P w K mg base CX0 4 fS fdS ["net", "cycles"] (spRunN K)) (kS : PySem.W.keepIn K (.ref fS) = true) (bS : Binds K fdS ["net", "cycles"] []) (gS : mg "_law_run" = some (.ref fS))
    (GC : FnOk P w K mg base CX0 2 fC fdC ["net", "state"] (spCycle K)) (kC : PySem.W.keepIn K (.ref fC) = true) (bC : Binds K fdC ["net", "state"] []) (gC : mg "cycle_of" = some (.ref fC))
    (GE : FnOk P w K mg base CX0 3 fE fdE ["net", "state"] (spCycle K)) (kE : PySem.W.keepIn K (.ref fE) = true) (bE : Binds K fdE ["net", "state"] []) (gE : mg "_law_cycle" = some (.ref fE))
    (GU : FnOk P w K mg base CX0 1 fU fdU ["thing", "many"] (spIsRow K)) (kU : PySem.W.keepIn K (.ref fU) = true) (bU : Binds K fdU ["thing", "many"] []) (gU : mg "_law_is_row" = some (.ref fU))
    (GV : FnOk P w K mg base CX0 2 fV fdV ["thing", "count", "many"] (spAreRows K)) (kV : PySem.W.keepIn K (.ref fV) = true) (bV : Binds K fdV ["thing", "count", "many"] []) (gV : mg "_law_are_rows" = some (.ref fV)) :
    FnOk P w K mg base CX0 6 f fd ["script"] (spLaw K) := by
  refine F.ok scLaw (fun vs H Q E h => ?_) (fun cdv A outer s H vs Q E hr h => ?_)
  · obtain ⟨a, ns, rfl, _⟩ := h
    rfl
  · obtain ⟨a, ns, rfl, hS, hlen, q⟩ := h
    have nd := scLaw.nd
    have hr5 := hr
    have hr4 : Room 4 _ := hr.mono (by decide)
    have hr3 : Room 3 _ := hr.mono (by decide)
    have hr2 : Room 2 _ := hr.mono (by decide)
    have hr1 : Room 1 _ := hr.mono (by decide)
    have hu := hr.units
    refine ⟨_, (pss_cons (ps_set (i := 1) nd rfl (.inr rfl) (pe_disp (pps_cons (pe_str) (pe_call GD hr1 (by rfl) gD kD bD .nil pass0 (pa_cons (pv 0) (pa_cons (pe_int) pa_nil))) (pps_cons (pe_str) (pe_int) pps_nil)) rfl rfl (by intro z; cases z) (by decide)))
      (pss_cons (ps_par (i := 2) (j := 3) (by rfl) nd rfl rfl (by decide) rfl rfl (pa_cons (pe_call GN hr1 (by rfl) gN kN bN .nil pass0 (pa_cons (pv 1) (pa_cons (pe_int) pa_nil))) (pa_cons (pe_call GN hr1 (by rfl) gN kN bN .nil pass0 (pa_cons (pv 1) (pa_cons (pe_int) pa_nil))) pa_nil)) (by rfl))
      (pss_cons (ps_set (i := 4) nd rfl (.inl rfl) (pe_call GW hr3 (by rfl) gW kW bW .nil pass0 (pa_cons (pv 1) (pa_cons (pv 2) (pa_cons (pv 3) (pa_cons (pe_call GN hr1 (by rfl) gN kN bN .nil pass0 (pa_cons (pv 1) (pa_cons (pe_int) pa_nil))) pa_nil))))))
      (pss_cons (ps_if (pt_cmpR op_isnot_bl (pe_call GI hr2 (by rfl) gI kI bI .nil pass0 (pa_cons (pv 4) pa_nil)) (pe_bl) (nomark _)) (pss_one (ps_ret (pe_bl))) pss_nil)
      (C8.pss_cut (ps_for PassesOwn.never rfl (pi_range1 (by rfl) B.range (pa_cons (pe_int) pa_nil)) (pg_name (i := 5) nd rfl (.inl rfl)) (pss_cons (ps_set (i := 6) nd rfl (.inl rfl) (pe_call GB hr5 (by rfl) gB kB bB .nil pass0 (pa_cons (pv 1) (pa_cons (pv 4) pa_nil))))
      (pss_cons (ps_set (i := 7) nd rfl (.inl rfl) (pe_call GI hr2 (by rfl) gI kI bI .nil pass0 (pa_cons (pv 6) pa_nil)))
      (pss_one (ps_if (PW.pt (pw_or (pt_not (pt_val (pe_callB call_isi (by rfl) B.isi (by decide +kernel) (pa_cons (pv 7) (pa_cons (pe_bltn (v := .ty "bool") (by rfl) B.bo (by decide +kernel) rfl) pa_nil))))) (pw_or1 (pt_cmpR op_ne (pv 7) (pe_call GJ hr2 (by rfl) gJ kJ bJ .nil pass0 (pa_cons (pv 6) pa_nil)) (nomark _))))) (pss_one (ps_ret (pe_bl))) pss_nil)))))
      (C8.pss_cut (ps_set (i := 8) nd rfl (.inl rfl) (pe_ifExp (pt_cmpR op_gt (pe_call GN hr1 (by rfl) gN kN bN .nil pass0 (pa_cons (pv 1) (pa_cons (pe_int) pa_nil))) (pe_int) (nomark _)) (pe_call GN hr1 (by rfl) gN kN bN .nil pass0 (pa_cons (pv 1) (pa_cons (pe_int) pa_nil))) (pe_op op_addN (pe_int) (pe_call GN hr1 (by rfl) gN kN bN .nil pass0 (pa_cons (pv 1) (pa_cons (pe_int) pa_nil))))))
      (pss_cons (ps_set (i := 9) nd rfl (.inl rfl) (pe_call GR hr3 (by rfl) gR kR bR .nil pass0 (pa_cons (pv 4) (pa_cons (pv 8) pa_nil))))
      (C8.pss_cut (ps_if (PW.pt (pw_or (pt_not (pt_val (pe_call GV hr2 (by rfl) gV kV bV .nil pass0 (pa_cons (pv 9) (pa_cons (pv 8) (pa_cons (pe_callB call_len_seq (by rfl) B.len PySem.boot_len (pa_cons (pe_ix ix_tup (pv 4) (pe_int) (fun _ _ => rfl)) pa_nil)) pa_nil)))))) (pw_or1 (pt_cmpR (op_neD hu) (pv 9) (pe_call GS hr4 (by rfl) gS kS bS .nil pass0 (pa_cons (pv 4) (pa_cons (pv 8) pa_nil))) (nomark _))))) (pss_one (ps_ret (pe_bl))) pss_nil)
      (pss_cons (ps_set (i := 10) nd rfl (.inl rfl) (pe_callTy call_tuple_of (by rfl) B.tu (by decide +kernel) (pa_cons (pe_lc (own := [("latch", 12)]) (g := gName 12) (tt := tYes) (te := tCall spNext [] E0 (tCons (tVar 1) (tCons (tC (.int 2)) tNil)))  rfl nd (pi_tup (pe_ix ix_tup (pv 4) (pe_int) (fun _ _ => rfl))) (blkOk_by (own := [("latch", 12)]) (N := NLAW) (sc := defScope sLaw) (by decide +kernel)) (fun _ _ _ _ _ => pg_name (i := 12) nd rfl (.inl rfl)) (fun _ _ _ _ _ => pts_nil) (fun _ _ _ _ _ => by exact (pe_call GN hr1 (by rfl) gN kN bN .nil pass0 (pa_cons (pv 1) (pa_cons (pe_int) pa_nil))))) pa_nil)))
      (pss_cons (ps_set (i := 11) nd rfl (.inl rfl) (pe_call GC hr2 (by rfl) gC kC bC .nil pass0 (pa_cons (pv 4) (pa_cons (pv 10) pa_nil))))
      (C8.pss_cut (ps_if (PW.pt (pw_or (pt_not (pt_val (pe_callB call_isi (by rfl) B.isi (by decide +kernel) (pa_cons (pv 11) (pa_cons (pe_bltn (v := .ty "tuple") (by rfl) B.tu (by decide +kernel) rfl) pa_nil))))) (pw_or1 (pt_cmpR op_ne (pe_callB call_len_seq (by rfl) B.len PySem.boot_len (pa_cons (pv 11) pa_nil)) (pe_int) (nomark _))))) (pss_one (ps_ret (pe_bl))) pss_nil)
      (C8.pss_cut (ps_if (PW.pt (pw_or (pt_not (pt_val (pe_call GU hr1 (by rfl) gU kU bU .nil pass0 (pa_cons (pe_ix ix_tup (pv 11) (pe_int) (fun _ _ => rfl)) (pa_cons (pe_callB call_len_seq (by rfl) B.len PySem.boot_len (pa_cons (pe_ix ix_tup (pv 4) (pe_int) (fun _ _ => rfl)) pa_nil)) pa_nil))))) (pw_or1 (pt_not (pt_val (pe_call GU hr1 (by rfl) gU kU bU .nil pass0 (pa_cons (pe_ix ix_tup (pv 11) (pe_int) (fun _ _ => rfl)) (pa_cons (pe_callB call_len_seq (by rfl) B.len PySem.boot_len (pa_cons (pe_ix ix_tup (pv 4) (pe_int) (fun _ _ => rfl)) pa_nil)) pa_nil)))))))) (pss_one (ps_ret (pe_bl))) pss_nil)
      (pss_one (ps_ret (pe_cmpR (op_eqD hu) (pv 11) (pe_call GE hr3 (by rfl) gE kE bE .nil pass0 (pa_cons (pv 4) (pa_cons (pv 10) pa_nil))) (nomark _)))))))))))))))), ?_⟩
    refine fun wa nwa => ?_
    refine ⟨_, rfl, a, ns, 200, rfl, (same_new nwa).seq hS, hlen, by decide, fun H1 l ds s1 nl el lds => ?_⟩
    have hwa1 : H1 wa = some (.dK []) := s1 _ _ upd_same
    refine ⟨hwa1, [(.inr ("draws" : Str), .ref l), (.inr ("at" : Str), .int 0)], rfl, (by show 2 ≤ 15; decide), ?_⟩
    rw [wd_merge]
    have nlw : l ≠ wa := fun z => by
      rw [z, upd_same] at nl
      cases nl
    have W : Wd (upd H1 wa (.dK (wdL l 0))) wa l ds := ⟨⟨0, Int.le_refl 0, upd_same⟩, by rw [upd_ne nlw]; exact el, lds⟩
    refine ⟨_, rfl, wa, l, ds, 6, rfl, by decide, W, fun L H2 hL k2 _ W2 => ⟨_, rfl, wa, l, ds, 10, rfl, by decide, W2, fun A0 H3 hA k3 _ W3 => ?_⟩⟩
    refine ⟨_, _, rfl, _, rfl, _, rfl, _, rfl, _, rfl, wa, l, ds, 5, rfl, by decide, W3, fun O0 H4 hO k4 _ W4 => ⟨wa, l, ds, L, A0, O0, rfl, by omega, by omega, by omega, W4, fun H5 p n k5 W5 ok l1 l2 l3 dn => ?_⟩⟩
    have hnet := net_ok ok
    have hnl := ok.nl
    have hsd : sd 3 n.d = true := sd_net l1 l2 (by omega) l3
    have hno : noL n.d = true := sd_noL hsd
    have dnk : ∀ {H'}, Kp wa H5 H' → Dp K H' (.ref p) n.d := fun k => dp_stay (W5.tup k) _ _ dn hno
    refine ⟨_, rfl, .ref p, n.d, 3, rfl, dn, sd_gd _ _ hsd, by decide, sd_parts hsd, fun H6 s6 => ⟨_, _, rfl, rfl, _, rfl, ?_⟩⟩
    rw [hnet]
    refine iteNS rfl ?_
    refine ⟨fun σ H' => ∃ y5 y6 y7 : Option V, σ = [some (.ref a), some (.ref wa), some (iV L), some (iV A0), some (.ref p), y5, y6, y7, none, none, none, none, none] ∧ Kp wa H5 H' ∧ Wd H' wa l ds, ?_, ?_⟩
    · refine ⟨_, rfl, by decide, by decide, for_range (n := 3) (fun i σ H' => ∃ y5 y6 y7 : Option V, σ = [some (.ref a), some (.ref wa), some (iV L), some (iV A0), some (.ref p), y5, y6, y7, none, none, none, none, none] ∧ Kp wa H5 H' ∧ Wd H' wa l ds) ⟨_, _, _, rfl, C1.Same.kp s6, W5.same s6⟩ (fun i σ H' hi h => ?_) (fun σ H' h => h)⟩
      obtain ⟨y5, y6, y7, rfl, kk, WW⟩ := h
      refine ⟨_, rfl, _, rfl, wa, l, p, ds, n, rfl, WW, dnk kk, ok, l1, l2, l3, fun H7 v d k7 W7 hv sv => ?_⟩
      have nlv := sd_noL sv
      refine ⟨_, rfl, v, d, 4, rfl, hv, sd_gd _ _ sv, by decide, sd_parts sv, fun H8 s8 => ?_⟩
      refine ⟨_, rfl, .bl (netB d), _, _, _, _, rfl, .ty "bool", tyx_of (K := K) (H := H8) (.bl (netB d)) rfl, kit_ty (kit_one "bool" (.inl rfl) (.bool (netB d)) rfl), _, rfl, iteNS rfl ?_⟩
      exact ⟨_, rfl, _, rfl, v, d, 4, rfl, dp_stay (same_tup s8) _ _ hv nlv, sd_gd _ _ sv, by decide, sd_parts sv, fun H9 s9 => ⟨rfl, _, rfl, iteNS rfl ⟨_, _, _, rfl, kk.trans (k7.trans (C1.Same.kp (s8.trans s9))), W7.same (s8.trans s9)⟩⟩⟩
    rintro σ H7 ⟨y5, y6, y7, rfl, k7, W7⟩
    refine ⟨fun σ H' => ∃ cy : Nat, σ = [some (.ref a), some (.ref wa), some (iV L), some (iV A0), some (.ref p), y5, y6, y7, some (iV cy), none, none, none, none] ∧ cy ≤ 900 ∧ Kp wa H5 H' ∧ Wd H' wa l ds, ?_, ?_⟩
    · refine ⟨_, rfl, wa, l, ds, 6, rfl, by decide, W7, fun r H8 hr8 k8 _ W8 => ⟨_, _, rfl, rfl, _, rfl, ite2 (fun _ => ?_) (fun _ => ?_)⟩⟩
      · exact ⟨_, rfl, wa, l, ds, 12, rfl, by decide, W8, fun c H9 hc k9 _ W9 => ⟨c, rfl, by omega, k7.trans (k8.trans k9), W9⟩⟩
      · exact ⟨_, rfl, wa, l, ds, 60, rfl, by decide, W8, fun c H9 hc k9 _ W9 => ⟨150, c, rfl, rfl, 150 + c, rfl, by omega, k7.trans (k8.trans k9), W9⟩⟩
    rintro σ H9 ⟨cy, rfl, hcy, k9, W9⟩
    have NPk : ∀ {H'}, Kp wa H5 H' → NP K H' p n := fun k => NP.of (dnk k)
    refine ⟨_, rfl, _, rfl, p, cy, n, rfl, hcy, NPk k9, ok, fun H10 t s10 dt => ?_⟩
    have k10 := k9.trans (C1.Same.kp s10)
    have W10 := W9.same s10
    have lrow : ∀ m ∈ runS n cy n.firsts, m.length ≤ 1000 := fun m hm => by
      have := (runS_rows n cy _ m hm).2
      omega
    have tgd := rows_gd (rows := runS n cy n.firsts) (by rw [runS_len]; omega) lrow
    have tno : noL (toldD (runS n cy n.firsts)) = true := (gd_ok _ _ tgd).1
    have tsh := gd_shaped tgd (by decide)
    refine ⟨fun σ H' => σ = [some (.ref a), some (.ref wa), some (iV L), some (iV A0), some (.ref p), y5, y6, y7, some (iV cy), some (.ref t), none, none, none] ∧ Same H10 H', ?_, ?_⟩
    · obtain ⟨fA, aA, xA, oA, avs, h0, h1, h2, h3, h4⟩ := (NPk k10).ex
      refine ⟨_, rfl, _, rfl, _, rfl, _, _, _, _, rfl, rfl, h0, atI_nat (j := 3) rfl, oA, _, rfl, .inr h4, t, runS n cy n.firsts, (n.outs.map iV).length, congrArg (fun k : Nat => [V.ref t, iV k, iV (n.outs.map iV).length]) (runS_len n cy _).symm, dt, fun m hm => ?_, by rw [List.length_map]; omega, by rw [runS_len]; exact hcy, fun H11 s11 => ⟨_, rfl, iteF ?_⟩⟩
      · rw [List.length_map]
        exact runS_rows n cy _ m hm
      · have k11 := k10.trans (C1.Same.kp s11)
        refine ⟨_, rfl, _, rfl, _, rfl, p, cy, n, rfl, hcy, NPk k11, ok, fun H12 t2 s12 dt2 => ?_⟩
        refine ⟨_, _, dp_stay (same_tup (s11.trans s12)) _ _ dt tno, dt2, tsh, tsh, _, rfl, ?_⟩
        rw [same_eqv tgd]
        exact iteF ⟨rfl, s11.trans s12⟩
    rintro σ H12 ⟨rfl, s12⟩
    have k12 := k10.trans (C1.Same.kp s12)
    have W12 := W10.same s12
    obtain ⟨fA, aA, xA, oA, avs, h0, h1, h2, h3, h4⟩ := (NPk k12).ex
    refine ⟨_, rfl, _, _, _, _, rfl, rfl, h0, atI_nat (j := 0) rfl, fA, rfl, ⟨_, h1⟩, fun D nD => ?_⟩
    refine lc_drawT (Pk := fun x => x < 2) nD W12 (by rw [List.length_map]; omega) h1 (fun y H1 R k1 W1 r => ⟨_, rfl, wa, l, ds, 2, rfl, by decide, W1, fun x H2 hx k2 _ W2 => r x H2 (by omega) k2 W2⟩) (fun x => rfl) fun H13 st k13 W13 lst bst eD => ?_
    refine ⟨D, _, rfl, .inl ⟨SqL.of eD, fun t0 nt0 => ?_⟩⟩
    rw [List.length_map] at lst
    have k14 := k12.trans (k13.trans (Kp.new (o := .tup (st.map iV)) nt0))
    have sS : SqT K (upd H13 t0 (.tup (st.map iV))) t0 (st.map iV) := SqT.of upd_same
    generalize upd H13 t0 (.tup (st.map iV)) = H14 at k14 sS
    refine ⟨_, rfl, _, rfl, p, t0, n, st, rfl, NPk k14, ok, sS, lst, bst, fun H15 pb t1 t2 s15 spb st1 st2 => ?_⟩
    have k15 := k14.trans (C1.Same.kp s15)
    let σf : L2.St := [some (.ref a), some (.ref wa), some (iV L), some (iV A0), some (.ref p), y5, y6, y7, some (iV cy), some (.ref t), some (.ref t0), some (.ref pb), none]
    refine ⟨fun σ H' => σ = σf ∧ H' = H15, ?_, ?_⟩
    · exact ⟨_, rfl, .ref pb, _, _, _, _, rfl, .ty "tuple", tyx_tup spb, kit_ty (by decide +kernel : kitB "tuple" "tuple" = some true), _, rfl, iteF ⟨_, rfl, _, _, rfl, .inr spb, rfl, _, rfl, iteNS rfl ⟨rfl, rfl⟩⟩⟩
    rintro σ H' ⟨rfl, rfl⟩
    have lt1 : (toldS n st).length = n.outs.length := litsV_len _ _
    have lt2 : (nextS n st).length = n.firsts.length := (litsV_len _ _).trans hnl
    refine ⟨fun σ H2 => σ = σf ∧ Same H' H2, ?_, ?_⟩
    · obtain ⟨fA, aA, xA, oA, avs, h0, h1, h2, h3, h4⟩ := (NPk k15).ex
      refine ⟨_, rfl, _, _, _, _, rfl, rfl, spb, atI_nat (j := 0) rfl, _, rfl, _, _, _, _, rfl, rfl, h0, atI_nat (j := 3) rfl, oA, _, rfl, .inr h4, t1, toldS n st, congrArg (fun k : Nat => [V.ref t1, iV k]) ((List.length_map _).trans lt1.symm), st1, litsV_bits _ _, by omega, fun H16 s16 => ⟨_, rfl, iteF ?_⟩⟩
      exact ⟨_, rfl, _, _, _, _, rfl, rfl, same_tup s16 _ _ spb, atI_nat (j := 1) rfl, _, rfl, _, _, _, _, rfl, rfl, same_tup s16 _ _ h0, atI_nat (j := 0) rfl, fA, _, rfl, .inr (same_tup s16 _ _ h1), t2, nextS n st, congrArg (fun k : Nat => [V.ref t2, iV k]) ((List.length_map _).trans lt2.symm), same_tup s16 _ _ st2, litsV_bits _ _, by omega, fun H17 s17 => ⟨_, rfl, iteF ⟨rfl, s16.trans s17⟩⟩⟩
    rintro σ H2 ⟨rfl, s2⟩
    have g1 : gd 2 (.tuple [memD (toldS n st), memD (nextS n st)]) = true := gd_tup (show 2 ≤ 1000 by decide) fun d hd => by
      simp only [List.mem_cons, List.not_mem_nil, or_false] at hd
      rcases hd with rfl | rfl
      · exact mem_gd (by omega)
      · exact mem_gd (by omega)
    have gs := gd_shaped g1 (by decide)
    refine ⟨_, rfl, _, rfl, _, rfl, p, t0, n, st, rfl, NPk (k15.trans (C1.Same.kp s2)), ok, same_tup (s15.trans s2) _ _ sS, lst, bst, fun H3 pb2 u1 u2 s3 spb2 su1 su2 => ?_⟩
    have s23 := s2.trans s3
    refine ⟨.tuple [memD (toldS n st), memD (nextS n st)], .tuple [memD (toldS n st), memD (nextS n st)], .tup (same_tup s23 _ _ spb) (.cons (.tup (same_tup s23 _ _ st1) (dps_ints _)) (.cons (.tup (same_tup s23 _ _ st2) (dps_ints _)) .nil)), .tup spb2 (.cons (.tup su1 (dps_ints _)) (.cons (.tup su2 (dps_ints _)) .nil)), gs, gs, ?_⟩
    rw [same_eqv g1]
    exact q _
end
end C1

/-! What the top leaves, and the end. -/
namespace C1
open PySem PySem.Spec PyProof.Rows L2 SX
theorem all_mk {l : PySem.W.OpenLaw} {w : World} {K : PySem.W.Frag} {h : Heap} {mg : Str → Option Value} {fa : Addr} (X : K.In h) (G : h.Ns mainGlobals mg) (hfa : mg "law" = some (.ref fa))
    {f0 : Addr} {od0 an0 : Option Addr} {sl0 : Array (Option Value)} {oc0 kV0 dc0 pm0 cd0 ct0 : Value}
    {f1 : Addr} {od1 an1 : Option Addr} {sl1 : Array (Option Value)} {oc1 kV1 dc1 pm1 cd1 ct1 : Value}
    {f2 : Addr} {od2 an2 : Option Addr} {sl2 : Array (Option Value)} {oc2 kV2 dc2 pm2 cd2 ct2 : Value}
    {f3 : Addr} {od3 an3 : Option Addr} {sl3 : Array (Option Value)} {oc3 kV3 dc3 pm3 cd3 ct3 : Value}
    {f4 : Addr} {od4 an4 : Option Addr} {sl4 : Array (Option Value)} {oc4 kV4 dc4 pm4 cd4 ct4 : Value}
    {f5 : Addr} {od5 an5 : Option Addr} {sl5 : Array (Option Value)} {oc5 kV5 dc5 pm5 cd5 ct5 : Value}
    {f6 : Addr} {od6 an6 : Option Addr} {sl6 : Array (Option Value)} {oc6 kV6 dc6 pm6 cd6 ct6 : Value}
    {f7 : Addr} {od7 an7 : Option Addr} {sl7 : Array (Option Value)} {oc7 kV7 dc7 pm7 cd7 ct7 : Value}
    {f8 : Addr} {od8 an8 : Option Addr} {sl8 : Array (Option Value)} {oc8 kV8 dc8 pm8 cd8 ct8 : Value}
    {f9 : Addr} {od9 an9 : Option Addr} {sl9 : Array (Option Value)} {oc9 kV9 dc9 pm9 cd9 ct9 : Value}
    {f10 : Addr} {od10 an10 : Option Addr} {sl10 : Array (Option Value)} {oc10 kV10 dc10 pm10 cd10 ct10 : Value}
    {f11 : Addr} {od11 an11 : Option Addr} {sl11 : Array (Option Value)} {oc11 kV11 dc11 pm11 cd11 ct11 : Value}
    {f12 : Addr} {od12 an12 : Option Addr} {sl12 : Array (Option Value)} {oc12 kV12 dc12 pm12 cd12 ct12 : Value}
    {f13 : Addr} {od13 an13 : Option Addr} {sl13 : Array (Option Value)} {oc13 kV13 dc13 pm13 cd13 ct13 : Value}
    {f14 : Addr} {od14 an14 : Option Addr} {sl14 : Array (Option Value)} {oc14 kV14 dc14 pm14 cd14 ct14 : Value}
    {f15 : Addr} {od15 an15 : Option Addr} {sl15 : Array (Option Value)} {oc15 kV15 dc15 pm15 cd15 ct15 : Value}
    {f16 : Addr} {od16 an16 : Option Addr} {sl16 : Array (Option Value)} {oc16 kV16 dc16 pm16 cd16 ct16 : Value}
    {f17 : Addr} {od17 an17 : Option Addr} {sl17 : Array (Option Value)} {oc17 kV17 dc17 pm17 cd17 ct17 : Value}
    {f18 : Addr} {od18 an18 : Option Addr} {sl18 : Array (Option Value)} {oc18 kV18 dc18 pm18 cd18 ct18 : Value}
    {f19 : Addr} {od19 an19 : Option Addr} {sl19 : Array (Option Value)} {oc19 kV19 dc19 pm19 cd19 ct19 : Value}
    {f20 : Addr} {od20 an20 : Option Addr} {sl20 : Array (Option Value)} {oc20 kV20 dc20 pm20 cd20 ct20 : Value}
    {f21 : Addr} {od21 an21 : Option Addr} {sl21 : Array (Option Value)} {oc21 kV21 dc21 pm21 cd21 ct21 : Value}
    {f22 : Addr} {od22 an22 : Option Addr} {sl22 : Array (Option Value)} {oc22 kV22 dc22 pm22 cd22 ct22 : Value}
    {f23 : Addr} {od23 an23 : Option Addr} {sl23 : Array (Option Value)} {oc23 kV23 dc23 pm23 cd23 ct23 : Value}
    {f24 : Addr} {od24 an24 : Option Addr} {sl24 : Array (Option Value)} {oc24 kV24 dc24 pm24 cd24 ct24 : Value}
    (a0 : PySem.W.nsIn K mainGlobals "is_tuple" = some (some (.ref f0)))
    (l0 : K.lookup f0 = some ⟨oc0, od0, .func (PySem.W.fnOf "is_tuple" "is_tuple" (defArgs sIsTuple) (defBody sIsTuple) (defScope sIsTuple) .none kV0 dc0 pm0 an0 cd0 ct0), sl0⟩)
    (c0 : PySem.W.codeIn K cd0 "is_tuple" = true)
    (k0 : PySem.W.keepIn K (.ref f0) = true)
    (a1 : PySem.W.nsIn K mainGlobals "is_below" = some (some (.ref f1)))
    (l1 : K.lookup f1 = some ⟨oc1, od1, .func (PySem.W.fnOf "is_below" "is_below" (defArgs sIsBelow) (defBody sIsBelow) (defScope sIsBelow) .none kV1 dc1 pm1 an1 cd1 ct1), sl1⟩)
    (c1 : PySem.W.codeIn K cd1 "is_below" = true)
    (k1 : PySem.W.keepIn K (.ref f1) = true)
    (a2 : PySem.W.nsIn K mainGlobals "literal_value" = some (some (.ref f2)))
    (l2 : K.lookup f2 = some ⟨oc2, od2, .func (PySem.W.fnOf "literal_value" "literal_value" (defArgs sLiteralValue) (defBody sLiteralValue) (defScope sLiteralValue) .none kV2 dc2 pm2 an2 cd2 ct2), sl2⟩)
    (c2 : PySem.W.codeIn K cd2 "literal_value" = true)
    (k2 : PySem.W.keepIn K (.ref f2) = true)
    (a3 : PySem.W.nsIn K mainGlobals "node_values" = some (some (.ref f3)))
    (l3 : K.lookup f3 = some ⟨oc3, od3, .func (PySem.W.fnOf "node_values" "node_values" (defArgs sNodeValues) (defBody sNodeValues) (defScope sNodeValues) .none kV3 dc3 pm3 an3 cd3 ct3), sl3⟩)
    (c3 : PySem.W.codeIn K cd3 "node_values" = true)
    (k3 : PySem.W.keepIn K (.ref f3) = true)
    (a4 : PySem.W.nsIn K mainGlobals "cycle_of" = some (some (.ref f4)))
    (l4 : K.lookup f4 = some ⟨oc4, od4, .func (PySem.W.fnOf "cycle_of" "cycle_of" (defArgs sCycleOf) (defBody sCycleOf) (defScope sCycleOf) .none kV4 dc4 pm4 an4 cd4 ct4), sl4⟩)
    (c4 : PySem.W.codeIn K cd4 "cycle_of" = true)
    (k4 : PySem.W.keepIn K (.ref f4) = true)
    (a5 : PySem.W.nsIn K mainGlobals "run_net" = some (some (.ref f5)))
    (l5 : K.lookup f5 = some ⟨oc5, od5, .func (PySem.W.fnOf "run_net" "run_net" (defArgs sRunNet) (defBody sRunNet) (defScope sRunNet) .none kV5 dc5 pm5 an5 cd5 ct5), sl5⟩)
    (c5 : PySem.W.codeIn K cd5 "run_net" = true)
    (k5 : PySem.W.keepIn K (.ref f5) = true)
    (a6 : PySem.W.nsIn K mainGlobals "is_net" = some (some (.ref f6)))
    (l6 : K.lookup f6 = some ⟨oc6, od6, .func (PySem.W.fnOf "is_net" "is_net" (defArgs sIsNet) (defBody sIsNet) (defScope sIsNet) .none kV6 dc6 pm6 an6 cd6 ct6), sl6⟩)
    (c6 : PySem.W.codeIn K cd6 "is_net" = true)
    (k6 : PySem.W.keepIn K (.ref f6) = true)
    (a7 : PySem.W.nsIn K mainGlobals "_law_draws" = some (some (.ref f7)))
    (l7 : K.lookup f7 = some ⟨oc7, od7, .func (PySem.W.fnOf "_law_draws" "_law_draws" (defArgs sDraws) (defBody sDraws) (defScope sDraws) .none kV7 dc7 pm7 an7 cd7 ct7), sl7⟩)
    (c7 : PySem.W.codeIn K cd7 "_law_draws" = true)
    (k7 : PySem.W.keepIn K (.ref f7) = true)
    (a8 : PySem.W.nsIn K mainGlobals "_law_next" = some (some (.ref f8)))
    (l8 : K.lookup f8 = some ⟨oc8, od8, .func (PySem.W.fnOf "_law_next" "_law_next" (defArgs sNext) (defBody sNext) (defScope sNext) .none kV8 dc8 pm8 an8 cd8 ct8), sl8⟩)
    (c8 : PySem.W.codeIn K cd8 "_law_next" = true)
    (k8 : PySem.W.keepIn K (.ref f8) = true)
    (a9 : PySem.W.nsIn K mainGlobals "_law_pick" = some (some (.ref f9)))
    (l9 : K.lookup f9 = some ⟨oc9, od9, .func (PySem.W.fnOf "_law_pick" "_law_pick" (defArgs sLawPick) (defBody sLawPick) (defScope sLawPick) .none kV9 dc9 pm9 an9 cd9 ct9), sl9⟩)
    (c9 : PySem.W.codeIn K cd9 "_law_pick" = true)
    (k9 : PySem.W.keepIn K (.ref f9) = true)
    (a10 : PySem.W.nsIn K mainGlobals "_law_literal" = some (some (.ref f10)))
    (l10 : K.lookup f10 = some ⟨oc10, od10, .func (PySem.W.fnOf "_law_literal" "_law_literal" (defArgs sLawLiteral) (defBody sLawLiteral) (defScope sLawLiteral) .none kV10 dc10 pm10 an10 cd10 ct10), sl10⟩)
    (c10 : PySem.W.codeIn K cd10 "_law_literal" = true)
    (k10 : PySem.W.keepIn K (.ref f10) = true)
    (a11 : PySem.W.nsIn K mainGlobals "_law_net" = some (some (.ref f11)))
    (l11 : K.lookup f11 = some ⟨oc11, od11, .func (PySem.W.fnOf "_law_net" "_law_net" (defArgs sLawNet) (defBody sLawNet) (defScope sLawNet) .none kV11 dc11 pm11 an11 cd11 ct11), sl11⟩)
    (c11 : PySem.W.codeIn K cd11 "_law_net" = true)
    (k11 : PySem.W.keepIn K (.ref f11) = true)
    (a12 : PySem.W.nsIn K mainGlobals "_law_bit" = some (some (.ref f12)))
    (l12 : K.lookup f12 = some ⟨oc12, od12, .func (PySem.W.fnOf "_law_bit" "_law_bit" (defArgs sLawBit) (defBody sLawBit) (defScope sLawBit) .none kV12 dc12 pm12 an12 cd12 ct12), sl12⟩)
    (c12 : PySem.W.codeIn K cd12 "_law_bit" = true)
    (k12 : PySem.W.keepIn K (.ref f12) = true)
    (a13 : PySem.W.nsIn K mainGlobals "_law_values" = some (some (.ref f13)))
    (l13 : K.lookup f13 = some ⟨oc13, od13, .func (PySem.W.fnOf "_law_values" "_law_values" (defArgs sLawValues) (defBody sLawValues) (defScope sLawValues) .none kV13 dc13 pm13 an13 cd13 ct13), sl13⟩)
    (c13 : PySem.W.codeIn K cd13 "_law_values" = true)
    (k13 : PySem.W.keepIn K (.ref f13) = true)
    (a14 : PySem.W.nsIn K mainGlobals "_law_cycle" = some (some (.ref f14)))
    (l14 : K.lookup f14 = some ⟨oc14, od14, .func (PySem.W.fnOf "_law_cycle" "_law_cycle" (defArgs sLawCycle) (defBody sLawCycle) (defScope sLawCycle) .none kV14 dc14 pm14 an14 cd14 ct14), sl14⟩)
    (c14 : PySem.W.codeIn K cd14 "_law_cycle" = true)
    (k14 : PySem.W.keepIn K (.ref f14) = true)
    (a15 : PySem.W.nsIn K mainGlobals "_law_run" = some (some (.ref f15)))
    (l15 : K.lookup f15 = some ⟨oc15, od15, .func (PySem.W.fnOf "_law_run" "_law_run" (defArgs sLawRun) (defBody sLawRun) (defScope sLawRun) .none kV15 dc15 pm15 an15 cd15 ct15), sl15⟩)
    (c15 : PySem.W.codeIn K cd15 "_law_run" = true)
    (k15 : PySem.W.keepIn K (.ref f15) = true)
    (a16 : PySem.W.nsIn K mainGlobals "_law_is_row" = some (some (.ref f16)))
    (l16 : K.lookup f16 = some ⟨oc16, od16, .func (PySem.W.fnOf "_law_is_row" "_law_is_row" (defArgs sLawIsRow) (defBody sLawIsRow) (defScope sLawIsRow) .none kV16 dc16 pm16 an16 cd16 ct16), sl16⟩)
    (c16 : PySem.W.codeIn K cd16 "_law_is_row" = true)
    (k16 : PySem.W.keepIn K (.ref f16) = true)
    (a17 : PySem.W.nsIn K mainGlobals "_law_are_rows" = some (some (.ref f17)))
    (l17 : K.lookup f17 = some ⟨oc17, od17, .func (PySem.W.fnOf "_law_are_rows" "_law_are_rows" (defArgs sLawAreRows) (defBody sLawAreRows) (defScope sLawAreRows) .none kV17 dc17 pm17 an17 cd17 ct17), sl17⟩)
    (c17 : PySem.W.codeIn K cd17 "_law_are_rows" = true)
    (k17 : PySem.W.keepIn K (.ref f17) = true)
    (a18 : PySem.W.nsIn K mainGlobals "_law_is_number" = some (some (.ref f18)))
    (l18 : K.lookup f18 = some ⟨oc18, od18, .func (PySem.W.fnOf "_law_is_number" "_law_is_number" (defArgs sLawIsNumber) (defBody sLawIsNumber) (defScope sLawIsNumber) .none kV18 dc18 pm18 an18 cd18 ct18), sl18⟩)
    (c18 : PySem.W.codeIn K cd18 "_law_is_number" = true)
    (k18 : PySem.W.keepIn K (.ref f18) = true)
    (a19 : PySem.W.nsIn K mainGlobals "_law_is_net" = some (some (.ref f19)))
    (l19 : K.lookup f19 = some ⟨oc19, od19, .func (PySem.W.fnOf "_law_is_net" "_law_is_net" (defArgs sLawIsNet) (defBody sLawIsNet) (defScope sLawIsNet) .none kV19 dc19 pm19 an19 cd19 ct19), sl19⟩)
    (c19 : PySem.W.codeIn K cd19 "_law_is_net" = true)
    (k19 : PySem.W.keepIn K (.ref f19) = true)
    (a20 : PySem.W.nsIn K mainGlobals "_law_odd" = some (some (.ref f20)))
    (l20 : K.lookup f20 = some ⟨oc20, od20, .func (PySem.W.fnOf "_law_odd" "_law_odd" (defArgs sLawOdd) (defBody sLawOdd) (defScope sLawOdd) .none kV20 dc20 pm20 an20 cd20 ct20), sl20⟩)
    (c20 : PySem.W.codeIn K cd20 "_law_odd" = true)
    (k20 : PySem.W.keepIn K (.ref f20) = true)
    (a21 : PySem.W.nsIn K mainGlobals "_law_turned" = some (some (.ref f21)))
    (l21 : K.lookup f21 = some ⟨oc21, od21, .func (PySem.W.fnOf "_law_turned" "_law_turned" (defArgs sLawTurned) (defBody sLawTurned) (defScope sLawTurned) .none kV21 dc21 pm21 an21 cd21 ct21), sl21⟩)
    (c21 : PySem.W.codeIn K cd21 "_law_turned" = true)
    (k21 : PySem.W.keepIn K (.ref f21) = true)
    (a22 : PySem.W.nsIn K mainGlobals "_law_bent_ands" = some (some (.ref f22)))
    (l22 : K.lookup f22 = some ⟨oc22, od22, .func (PySem.W.fnOf "_law_bent_ands" "_law_bent_ands" (defArgs sLawBentAnds) (defBody sLawBentAnds) (defScope sLawBentAnds) .none kV22 dc22 pm22 an22 cd22 ct22), sl22⟩)
    (c22 : PySem.W.codeIn K cd22 "_law_bent_ands" = true)
    (k22 : PySem.W.keepIn K (.ref f22) = true)
    (a23 : PySem.W.nsIn K mainGlobals "_law_bent" = some (some (.ref f23)))
    (l23 : K.lookup f23 = some ⟨oc23, od23, .func (PySem.W.fnOf "_law_bent" "_law_bent" (defArgs sLawBent) (defBody sLawBent) (defScope sLawBent) .none kV23 dc23 pm23 an23 cd23 ct23), sl23⟩)
    (c23 : PySem.W.codeIn K cd23 "_law_bent" = true)
    (k23 : PySem.W.keepIn K (.ref f23) = true)
    (a24 : PySem.W.nsIn K mainGlobals "law" = some (some (.ref f24)))
    (l24 : K.lookup f24 = some ⟨oc24, od24, .func (PySem.W.fnOf "law" "law" (defArgs sLaw) (defBody sLaw) (defScope sLaw) .none kV24 dc24 pm24 an24 cd24 ct24), sl24⟩)
    (c24 : PySem.W.codeIn K cd24 "law" = true)
    (k24 : PySem.W.keepIn K (.ref f24) = true)
    (z_type : PySem.W.nsIn K mainGlobals "type" = some none)
    (z_int : PySem.W.nsIn K mainGlobals "int" = some none)
    (z_tuple : PySem.W.nsIn K mainGlobals "tuple" = some none)
    (z_str : PySem.W.nsIn K mainGlobals "str" = some none)
    (z_len : PySem.W.nsIn K mainGlobals "len" = some none)
    (z_all : PySem.W.nsIn K mainGlobals "all" = some none)
    (z_range : PySem.W.nsIn K mainGlobals "range" = some none)
    (z_abs : PySem.W.nsIn K mainGlobals "abs" = some none)
    (z_isinstance : PySem.W.nsIn K mainGlobals "isinstance" = some none)
    (z_bool : PySem.W.nsIn K mainGlobals "bool" = some none)
    (z_list : PySem.W.nsIn K mainGlobals "list" = some none)
    (z_enumerate : PySem.W.nsIn K mainGlobals "enumerate" = some none)
    (z_min : PySem.W.nsIn K mainGlobals "min" = some none) :
    ∃ fd : FuncData, (∀ (s : Shared) (v : Value), BindsTo s fd ⟨[v], []⟩ [("script", v)]) ∧ ∀ base : Heap, K.In base → base.Ns mainGlobals mg → FnOk l.prog w K mg base CX0 6 fa fd ["script"] (spLaw K) := by
  have M := fun {x : Str} {v : Value} (e : PySem.W.nsIn K mainGlobals x = some (some v)) => PySem.W.mg_of X G e
  have Z := fun {x : Str} (e : PySem.W.nsIn K mainGlobals x = some none) => PySem.W.mg_none_of X G e
  have e := hfa.symm.trans (M a24)
  cases e
  have F0 := fun_mk (st := sIsTuple) l0 c0 k0
  have B0 := F0.binds (ps := ["thing", "many"]) fun _ _ _ _ _ _ us hl => match us, hl with | [_, _], _ => rfl
  have F1 := fun_mk (st := sIsBelow) l1 c1 k1
  have B1 := F1.binds (ps := ["thing", "limit"]) fun _ _ _ _ _ _ us hl => match us, hl with | [_, _], _ => rfl
  have F2 := fun_mk (st := sLiteralValue) l2 c2 k2
  have B2 := F2.binds (ps := ["worths", "literal"]) fun _ _ _ _ _ _ us hl => match us, hl with | [_, _], _ => rfl
  have F3 := fun_mk (st := sNodeValues) l3 c3 k3
  have B3 := F3.binds (ps := ["net", "state"]) fun _ _ _ _ _ _ us hl => match us, hl with | [_, _], _ => rfl
  have F4 := fun_mk (st := sCycleOf) l4 c4 k4
  have B4 := F4.binds (ps := ["net", "state"]) fun _ _ _ _ _ _ us hl => match us, hl with | [_, _], _ => rfl
  have F5 := fun_mk (st := sRunNet) l5 c5 k5
  have B5 := F5.binds (ps := ["net", "cycles"]) fun _ _ _ _ _ _ us hl => match us, hl with | [_, _], _ => rfl
  have F6 := fun_mk (st := sIsNet) l6 c6 k6
  have B6 := F6.binds (ps := ["thing"]) fun _ _ _ _ _ _ us hl => match us, hl with | [_], _ => rfl
  have F7 := fun_mk (st := sDraws) l7 c7 k7
  have B7 := F7.binds (ps := ["script", "many"]) fun _ _ _ _ _ _ us hl => match us, hl with | [_, _], _ => rfl
  have F8 := fun_mk (st := sNext) l8 c8 k8
  have B8 := F8.binds (ps := ["w", "many"]) fun _ _ _ _ _ _ us hl => match us, hl with | [_, _], _ => rfl
  have F9 := fun_mk (st := sLawPick) l9 c9 k9
  have B9 := F9.binds (ps := ["w", "rows"]) fun _ _ _ _ _ _ us hl => match us, hl with | [_, _], _ => rfl
  have F10 := fun_mk (st := sLawLiteral) l10 c10 k10
  have B10 := F10.binds (ps := ["w", "many"]) fun _ _ _ _ _ _ us hl => match us, hl with | [_, _], _ => rfl
  have F11 := fun_mk (st := sLawNet) l11 c11 k11
  have B11 := F11.binds (ps := ["w", "latches", "ands", "outs"]) fun _ _ _ _ _ _ us hl => match us, hl with | [_, _, _, _], _ => rfl
  have F12 := fun_mk (st := sLawBit) l12 c12 k12
  have B12 := F12.binds (ps := ["nodes", "literal"]) fun _ _ _ _ _ _ us hl => match us, hl with | [_, _], _ => rfl
  have F13 := fun_mk (st := sLawValues) l13 c13 k13
  have B13 := F13.binds (ps := ["net", "state"]) fun _ _ _ _ _ _ us hl => match us, hl with | [_, _], _ => rfl
  have F14 := fun_mk (st := sLawCycle) l14 c14 k14
  have B14 := F14.binds (ps := ["net", "state"]) fun _ _ _ _ _ _ us hl => match us, hl with | [_, _], _ => rfl
  have F15 := fun_mk (st := sLawRun) l15 c15 k15
  have B15 := F15.binds (ps := ["net", "cycles"]) fun _ _ _ _ _ _ us hl => match us, hl with | [_, _], _ => rfl
  have F16 := fun_mk (st := sLawIsRow) l16 c16 k16
  have B16 := F16.binds (ps := ["thing", "many"]) fun _ _ _ _ _ _ us hl => match us, hl with | [_, _], _ => rfl
  have F17 := fun_mk (st := sLawAreRows) l17 c17 k17
  have B17 := F17.binds (ps := ["thing", "count", "many"]) fun _ _ _ _ _ _ us hl => match us, hl with | [_, _, _], _ => rfl
  have F18 := fun_mk (st := sLawIsNumber) l18 c18 k18
  have B18 := F18.binds (ps := ["thing", "most"]) fun _ _ _ _ _ _ us hl => match us, hl with | [_, _], _ => rfl
  have F19 := fun_mk (st := sLawIsNet) l19 c19 k19
  have B19 := F19.binds (ps := ["thing"]) fun _ _ _ _ _ _ us hl => match us, hl with | [_], _ => rfl
  have F20 := fun_mk (st := sLawOdd) l20 c20 k20
  have B20 := F20.binds (ps := ["w", "many"]) fun _ _ _ _ _ _ us hl => match us, hl with | [_, _], _ => rfl
  have F21 := fun_mk (st := sLawTurned) l21 c21 k21
  have B21 := F21.binds (ps := ["rows", "at", "thing"]) fun _ _ _ _ _ _ us hl => match us, hl with | [_, _, _], _ => rfl
  have F22 := fun_mk (st := sLawBentAnds) l22 c22 k22
  have B22 := F22.binds (ps := ["w", "net"]) fun _ _ _ _ _ _ us hl => match us, hl with | [_, _], _ => rfl
  have F23 := fun_mk (st := sLawBent) l23 c23 k23
  have B23 := F23.binds (ps := ["w", "net"]) fun _ _ _ _ _ _ us hl => match us, hl with | [_, _], _ => rfl
  have F24 := fun_mk (st := sLaw) l24 c24 k24
  have B24 := F24.binds (ps := ["script"]) fun _ _ _ _ _ _ us hl => match us, hl with | [_], _ => rfl
  have GP : Gp mg := ⟨Z z_type, Z z_int, Z z_tuple, Z z_bool, Z z_len, Z z_all, Z z_enumerate, Z z_isinstance, Z z_min, Z z_range, Z z_list⟩
  have BL : Bl mg := ⟨Z z_len, Z z_range, Z z_abs, Z z_int, Z z_str⟩
  refine ⟨PySem.W.fnOf "law" "law" (defArgs sLaw) (defBody sLaw) (defScope sLaw) .none kV24 dc24 pm24 an24 cd24 ct24, fun s v => .of_eq rfl, fun base _ _ => ?_⟩
  have G0 : FnOk l.prog w K mg base CX0 1 f0 _ ["thing", "many"] (spIsTuple K) := ok_isTuple F0 GP
  have G1 : FnOk l.prog w K mg base CX0 1 f1 _ ["thing", "limit"] (spIsBelow K) := ok_isBelow F1 GP
  have G2 : FnOk l.prog w K mg base CX0 1 f2 _ ["worths", "literal"] (spLit K) := ok_literal F2
  have G3 : FnOk l.prog w K mg base CX0 1 f3 _ ["net", "state"] (spNodes K) := ok_nodes F3
  have G4 : FnOk l.prog w K mg base CX0 2 f4 _ ["net", "state"] (spCycle K) := ok_cycle F4 G3 k3 B3 (M a3) G2 k2 B2 (M a2) GP
  have G5 : FnOk l.prog w K mg base CX0 3 f5 _ ["net", "cycles"] (spRunN K) := ok_runN (nm := "") (st := sRunNet) F5 G4 k4 B4 (M a4) GP
  have G6 : FnOk l.prog w K mg base CX0 2 f6 _ ["thing"] (spIsNet K) := ok_isNet F6 GP G0 k0 B0 (M a0) G1 k1 B1 (M a1)
  have G7 : FnOk l.prog w K mg base CX0 1 f7 _ ["script", "many"] (spDraws K) := ok_draws F7 BL
  have G8 : FnOk l.prog w K mg base CX0 1 f8 _ ["w", "many"] spNext := ok_next F8 BL
  have G9 : FnOk l.prog w K mg base CX0 2 f9 _ ["w", "rows"] (spPick K) := ok_pick F9 GP G8 k8 B8 (M a8)
  have G10 : FnOk l.prog w K mg base CX0 2 f10 _ ["w", "many"] spLiteral := ok_lliteral F10 GP G8 k8 B8 (M a8)
  have G11 : FnOk l.prog w K mg base CX0 3 f11 _ ["w", "latches", "ands", "outs"] (spDrawn K) := ok_drawn F11 GP G8 k8 B8 (M a8) G10 k10 B10 (M a10)
  have G12 : FnOk l.prog w K mg base CX0 1 f12 _ ["nodes", "literal"] (spLit K) := ok_lbit F12 BL
  have G13 : FnOk l.prog w K mg base CX0 2 f13 _ ["net", "state"] (spNodes K) := ok_lvalues F13 GP G12 k12 B12 (M a12)
  have G14 : FnOk l.prog w K mg base CX0 3 f14 _ ["net", "state"] (spCycle K) := ok_lcycle F14 G13 k13 B13 (M a13) G12 k12 B12 (M a12) GP
  have G15 : FnOk l.prog w K mg base CX0 4 f15 _ ["net", "cycles"] (spRunN K) := ok_lrun F15 G14 k14 B14 (M a14) GP
  have G16 : FnOk l.prog w K mg base CX0 1 f16 _ ["thing", "many"] (spIsRow K) := ok_isRow F16 GP
  have G17 : FnOk l.prog w K mg base CX0 2 f17 _ ["thing", "count", "many"] (spAreRows K) := ok_areRows F17 GP G16 k16 B16 (M a16)
  have G18 : FnOk l.prog w K mg base CX0 1 f18 _ ["thing", "most"] (spNum K) := ok_num F18 GP
  have G19 : FnOk l.prog w K mg base CX0 2 f19 _ ["thing"] (spIsNet K) := ok_lNet F19 GP G18 k18 B18 (M a18)
  have G20 : FnOk l.prog w K mg base CX0 3 f20 _ ["w", "many"] (spOdd K) := ok_odd F20 G9 k9 B9 (M a9)
  have G21 : FnOk l.prog w K mg base CX0 1 f21 _ ["rows", "at", "thing"] (spTurned K) := ok_turned F21
  have G22 : FnOk l.prog w K mg base CX0 4 f22 _ ["w", "net"] (spBentA K) := ok_bentAnds F22 GP G8 k8 B8 (M a8) G9 k9 B9 (M a9) G20 k20 B20 (M a20) G21 k21 B21 (M a21)
  have G23 : FnOk l.prog w K mg base CX0 5 f23 _ ["w", "net"] (spBent K) := ok_bent F23 GP G8 k8 B8 (M a8) G9 k9 B9 (M a9) G20 k20 B20 (M a20) G21 k21 B21 (M a21) G22 k22 B22 (M a22)
  exact ok_law F24 GP G7 k7 B7 (M a7) G8 k8 B8 (M a8) G11 k11 B11 (M a11) G6 k6 B6 (M a6) G19 k19 B19 (M a19) G23 k23 B23 (M a23) G5 k5 B5 (M a5) G15 k15 B15 (M a15) G4 k4 B4 (M a4) G14 k14 B14 (M a14) G16 k16 B16 (M a16) G17 k17 B17 (M a17)
end C1

open PySem PySem.W PyProof.Rows
set_option maxRecDepth 100000 in
set_option maxHeartbeats 0 in
theorem PySem.Challenge.cw_stagecut_k30_nets_that_are_none_and_runs_holds : PySem.Challenge.rw_stagecut_k30_nets_that_are_none_and_runs.Holds := by
  w_on; o_law; k_head; (case hw => w_witness2)
  k_fill
  refine L2.walk_of (l := PySem.Challenge.rw_stagecut_k30_nets_that_are_none_and_runs) (n := 63) (k := 6) (x := "script") (CX := fun _ => L2.CX0) (sp := fun w => C1.spLaw _) rfl (by decide) rfl ⟨rfl, by decide, by decide⟩ (fun w h Y => PySem.W.kIn_of Y) ?F (fun _ _ a ns hl _ hS => ⟨a, ns, rfl, hS, hl, fun _ => rfl⟩) (fun _ _ _ _ _ h => h)
  case F =>
    intro w mg fa h KX G hmg
    refine' C1.all_mk KX G hmg ?a0 ?l0 ?c0 ?k0 ?a1 ?l1 ?c1 ?k1 ?a2 ?l2 ?c2 ?k2 ?a3 ?l3 ?c3 ?k3 ?a4 ?l4 ?c4 ?k4 ?a5 ?l5 ?c5 ?k5 ?a6 ?l6 ?c6 ?k6 ?a7 ?l7 ?c7 ?k7 ?a8 ?l8 ?c8 ?k8 ?a9 ?l9 ?c9 ?k9 ?a10 ?l10 ?c10 ?k10 ?a11 ?l11 ?c11 ?k11 ?a12 ?l12 ?c12 ?k12 ?a13 ?l13 ?c13 ?k13 ?a14 ?l14 ?c14 ?k14 ?a15 ?l15 ?c15 ?k15 ?a16 ?l16 ?c16 ?k16 ?a17 ?l17 ?c17 ?k17 ?a18 ?l18 ?c18 ?k18 ?a19 ?l19 ?c19 ?k19 ?a20 ?l20 ?c20 ?k20 ?a21 ?l21 ?c21 ?k21 ?a22 ?l22 ?c22 ?k22 ?a23 ?l23 ?c23 ?k23 ?a24 ?l24 ?c24 ?k24 ?z_type ?z_int ?z_tuple ?z_str ?z_len ?z_all ?z_range ?z_abs ?z_isinstance ?z_bool ?z_list ?z_enumerate ?z_min
    (case a0 => k_is)
    (case l0 => k_is)
    (case c0 => k_is)
    (case k0 => k_is)
    (case a1 => k_is)
    (case l1 => k_is)
    (case c1 => k_is)
    (case k1 => k_is)
    (case a2 => k_is)
    (case l2 => k_is)
    (case c2 => k_is)
    (case k2 => k_is)
    (case a3 => k_is)
    (case l3 => k_is)
    (case c3 => k_is)
    (case k3 => k_is)
    (case a4 => k_is)
    (case l4 => k_is)
    (case c4 => k_is)
    (case k4 => k_is)
    (case a5 => k_is)
    (case l5 => k_is)
    (case c5 => k_is)
    (case k5 => k_is)
    (case a6 => k_is)
    (case l6 => k_is)
    (case c6 => k_is)
    (case k6 => k_is)
    (case a7 => k_is)
    (case l7 => k_is)
    (case c7 => k_is)
    (case k7 => k_is)
    (case a8 => k_is)
    (case l8 => k_is)
    (case c8 => k_is)
    (case k8 => k_is)
    (case a9 => k_is)
    (case l9 => k_is)
    (case c9 => k_is)
    (case k9 => k_is)
    (case a10 => k_is)
    (case l10 => k_is)
    (case c10 => k_is)
    (case k10 => k_is)
    (case a11 => k_is)
    (case l11 => k_is)
    (case c11 => k_is)
    (case k11 => k_is)
    (case a12 => k_is)
    (case l12 => k_is)
    (case c12 => k_is)
    (case k12 => k_is)
    (case a13 => k_is)
    (case l13 => k_is)
    (case c13 => k_is)
    (case k13 => k_is)
    (case a14 => k_is)
    (case l14 => k_is)
    (case c14 => k_is)
    (case k14 => k_is)
    (case a15 => k_is)
    (case l15 => k_is)
    (case c15 => k_is)
    (case k15 => k_is)
    (case a16 => k_is)
    (case l16 => k_is)
    (case c16 => k_is)
    (case k16 => k_is)
    (case a17 => k_is)
    (case l17 => k_is)
    (case c17 => k_is)
    (case k17 => k_is)
    (case a18 => k_is)
    (case l18 => k_is)
    (case c18 => k_is)
    (case k18 => k_is)
    (case a19 => k_is)
    (case l19 => k_is)
    (case c19 => k_is)
    (case k19 => k_is)
    (case a20 => k_is)
    (case l20 => k_is)
    (case c20 => k_is)
    (case k20 => k_is)
    (case a21 => k_is)
    (case l21 => k_is)
    (case c21 => k_is)
    (case k21 => k_is)
    (case a22 => k_is)
    (case l22 => k_is)
    (case c22 => k_is)
    (case k22 => k_is)
    (case a23 => k_is)
    (case l23 => k_is)
    (case c23 => k_is)
    (case k23 => k_is)
    (case a24 => k_is)
    (case l24 => k_is)
    (case c24 => k_is)
    (case k24 => k_is)
    (case z_type => k_is)
    (case z_int => k_is)
    (case z_tuple => k_is)
    (case z_str => k_is)
    (case z_len => k_is)
    (case z_all => k_is)
    (case z_range => k_is)
    (case z_abs => k_is)
    (case z_isinstance => k_is)
    (case z_bool => k_is)
    (case z_list => k_is)
    (case z_enumerate => k_is)
    (case z_min => k_is)

